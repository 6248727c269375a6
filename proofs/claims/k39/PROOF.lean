import PyProof.Rows.All
import Wide.All
import OpenK.AllK
import Wide.FinOn
import Lean
import PyProof.EqAt
import PyProof.EqKinds
import PyProof.TupleCall
import PyProof.ZipIter
import PyProof.Rows.ZipGen
import PyProof.Rows.SumAny
import PyProof.ConsumeWalk
import PyProof.EqLayable
import PyProof.ReprRoads
import PyProof.P3In
import PyProof.FitsBits
import PyProof.EnumStmt
import PyProof.Rows.EnumRows
import PyProof.ReprLen
import PyProof.Rows.SortShellK
import PyProof.Rows.SortWalk
import PyProof.MinMaxWalk
import PyProof.WalkInts
import PyProof.WalksMore
import PyProof.SeqI3
import PyProof.Rows.TupDisplay
import PyProof.CollectWalk
import PyProof.ListRange
import PyProof.AttrMissHeap
import PyProof.DictUpdate
import KE.KDictOf
import KE.KSortTup
import KE.KSortAsk
import PySem.Challenge.RW_bundleclocks_k39_sets_in_order
theorem L2.sz1 : 1 ≤ PySem.sizeLine := by decide
theorem L2.sz2 : 2 ≤ PySem.sizeLine := by decide
theorem L2.sz3 : 3 ≤ PySem.sizeLine := by decide
theorem L2.sz4 : 4 ≤ PySem.sizeLine := by decide
theorem L2.sz5 : 5 ≤ PySem.sizeLine := by decide
theorem L2.sz6 : 6 ≤ PySem.sizeLine := by decide
theorem lmp {α β : Type _} {as : List α} (f : α → β) : (as.map f).length = as.length := List.length_map f
theorem gEq {α : Type _} {l : List α} {i : Nat} (h : i < l.length) : l[i]? = some l[i] := List.getElem?_eq_getElem h
set_option bootstrap.genMatcherCode false
set_option compiler.extract_closed false
set_option hygiene false
local macro_rules
 | `(tactic| omega) => `(tactic| first | lia | omega (config := {}))
set_option Elab.async false
set_option linter.all false
set_option maxRecDepth 100000
namespace L2
open PySem PySem.Spec PyProof.Rows
noncomputable abbrev Key := Sum Int Str
noncomputable def keyIs : Key → Value → Bool
 | .inl k, v => Value.isInt k v
 | .inr x, v => Value.isStrOf x v
noncomputable def keyH (w : World) : Key → Int
 | .inl k => hashInt k
 | .inr x => hashStr w x
theorem Zaq : ∀ {k : Key} {v : Value}, keyIs k v = true → (∃ i t, k = Sum.inl i ∧ v = Value.int i t) ∨ (∃ x t, k = Sum.inr x ∧ v = Value.str x t)
 | .inl i, v, h => by
  obtain ⟨t, e⟩ := Value.isInt_shape (k := i) (v := v) h
  exact .inl ⟨i, t, rfl, e⟩
 | .inr x, v, h => by
  obtain ⟨t, e⟩ := Value.isStrOf_shape (x := x) (v := v) h
  exact .inr ⟨x, t, rfl, e⟩
theorem Zju (a b : Int) : decide ((Sum.inl a : Key) = Sum.inl b) = (a == b) := by
 by_cases e : a = b
 ·subst e; simp
 ·have h : ¬ (Sum.inl a : Key) = Sum.inl b := fun q => e (Sum.inl.inj q)
  rw [decide_eq_false h]
  exact (beq_eq_false_iff_ne.mpr e).symm
theorem Zjx (a b : Str) : decide ((Sum.inr a : Key) = Sum.inr b) = decide (a = b) := by
 by_cases e : a = b
 ·subst e; simp
 ·have h : ¬ (Sum.inr a : Key) = Sum.inr b := fun q => e (Sum.inr.inj q)
  rw [decide_eq_false h, decide_eq_false e]
theorem Zjv (a : Int) (b : Str) : decide ((Sum.inl a : Key) = Sum.inr b) = false := decide_eq_false (fun q => nomatch q)
theorem Zjw (a : Str) (b : Int) : decide ((Sum.inr a : Key) = Sum.inl b) = false := decide_eq_false (fun q => nomatch q)
noncomputable def mixKind (prog : Program) (w : World) : PySem.KeyKind prog w Key where
 is := keyIs
 hash := keyH w
 inj := fun v a b ha hb => by
  rcases Zaq ha with ⟨i, t, rfl, rfl⟩ | ⟨x, t, rfl, rfl⟩
  ·rcases Zaq hb with ⟨j, u, rfl, e⟩ | ⟨y, u, rfl, e⟩
   ·injection e with e1 _; rw [e1]
   ·exact nomatch e
  ·rcases Zaq hb with ⟨j, u, rfl, e⟩ | ⟨y, u, rfl, e⟩
   ·exact nomatch e
   ·injection e with e1 _; rw [e1]
 byValue := fun k v h => by
  rcases Zaq h with ⟨i, t, rfl, rfl⟩ | ⟨x, t, rfl, rfl⟩ <;> rfl
 pyHash := fun hv h => by
  rcases Zaq hv with ⟨i, t, rfl, rfl⟩ | ⟨x, t, rfl, rfl⟩
  ·exact wpAny_pyHash_int h
  ·exact wpAny_pyHash_str h
 eqBool := fun hu hv h => by
  rcases Zaq hu with ⟨i, t, rfl, rfl⟩ | ⟨x, t, rfl, rfl⟩
  ·rcases Zaq hv with ⟨j, u, rfl, rfl⟩ | ⟨y, u, rfl, rfl⟩
   ·rw [Zju] at h; exact wpAny_eqBool_int h
   ·rw [Zjv] at h; exact SeqAt.EqAt.int_str i t y u _ _ _ _ h
  ·rcases Zaq hv with ⟨j, u, rfl, rfl⟩ | ⟨y, u, rfl, rfl⟩
   ·rw [Zjw] at h; exact SeqAt.EqAt.str_int x t j u _ _ _ _ h
   ·rw [Zjx] at h; exact wpAny_eqBool_str h
 «strs» := fun k x t v h => by
  rcases Zaq h with ⟨i, u, rfl, e⟩ | ⟨y, u, rfl, e⟩
  ·exact nomatch e
  ·injection e with e1 _
   subst e1
   cases v <;> rfl
end L2
namespace L2
open PySem PySem.Spec PyProof.Rows
inductive V where
 | non | bl (b : Bool) | int (i : Int) | str (x : Str) | byt (b : Array UInt8) | flt (b : UInt64) | ref (a : Addr) | ty (n : String)
 deriving DecidableEq
noncomputable def RelV : V → Value → Prop
 | .non, u => u = Value.none
 | .bl b, u => u = Value.bool b
 | .int i, u => ∃ t, u = Value.int i t
 | .str x, u => ∃ t, u = Value.str x t
 | .byt b, u => ∃ t, u = Value.bytes b t
 | .flt b, u => ∃ t, u = Value.float b t
 | .ref a, u => u = Value.ref a
 | .ty n, u => u = Value.type n
noncomputable abbrev Vals : List V → List Value → Prop := Paired RelV
theorem Vals.length {xs : List V} {us : List Value} (r : Vals xs us) : xs.length = us.length := Paired.length r
theorem Vals.get : ∀ {xs : List V} {us : List Value} {i : Nat} {x : V}, Vals xs us → xs[i]? = some x → ∃ u, us[i]? = some u ∧ RelV x u
 | _, _, _, _, .nil, e => by simp at e
 | _, _, 0, _, .cons r _, e => by simp at e; subst e; exact ⟨_, rfl, r⟩
 | _, _, i + 1, x, .cons _ t, e => by
  obtain ⟨u, h1, h2⟩ := Vals.get (i := i) (x := x) t (by simpa using e)
  exact ⟨u, by simpa using h1, h2⟩
theorem Vals.set {x : V} {u : Value} (r : RelV x u) : ∀ {xs : List V} {us : List Value} (i : Nat), Vals xs us → Vals (xs.set i x) (us.set i u)
 | _, _, _, .nil => .nil
 | _, _, 0, .cons _ t => .cons r t
 | _, _, i + 1, .cons q t => .cons q (Vals.set r i t)
theorem Vals.append : ∀ {xs ys : List V} {us ws : List Value}, Vals xs us → Vals ys ws → Vals (xs ++ ys) (us ++ ws)
 | _, _, _, _, .nil, s => s
 | _, _, _, _, .cons r t, s => .cons r (Vals.append t s)
theorem Vals.take : ∀ {xs : List V} {us : List Value} (n : Nat), Vals xs us → Vals (xs.take n) (us.take n)
 | _, _, 0, _ => .nil
 | _, _, _ + 1, .nil => .nil
 | _, _, n + 1, .cons r t => .cons r (Vals.take n t)
theorem Vals.drop : ∀ {xs : List V} {us : List Value} (n : Nat), Vals xs us → Vals (xs.drop n) (us.drop n)
 | _, _, 0, r => r
 | _, _, _ + 1, .nil => .nil
 | _, _, n + 1, .cons _ t => Vals.drop n t
noncomputable def RelO : Option V → Option Value → Prop
 | some v, some u => RelV v u
 | none, none => True
 | _, _ => False
noncomputable def KV {κ : Type} : List (κ × V) → List (κ × Value) → Prop := Paired fun (p : κ × V) (q : κ × Value) => p.1 = q.1 ∧ RelV p.2 q.2
noncomputable def kV : Key → V
 | .inl i => .int i
 | .inr x => .str x
inductive HO where
 /-- a list -/
 | lst (xs : List V)
 /-- a tuple (never changes) -/
 | tup (xs : List V)
 /-- a dict whose keys are ints and texts; one whose keys are tuples of ints and texts (the empty one is both) -/
 | dK (kvs : List (Key × V)) | dT (kvs : List (List Key × V))
 /-- a set of ints: its members, its size -/
 | set (S : Int → Bool) (n : Nat)
 /-- an instance of the class at C, its dict at dx, its attributes -/
 | ins (C dx : Addr) (fs : List (Str × V))
 /-- the dict of the instance at x -/
 | own (x : Addr)
 /-- the dict of an exception -/
 | xd (fs : List (Str × V))
 /-- a bound method, f of x -/
 | met (f x : Addr)
 /-- a range object lo, lo + 1, .. below hi -/
 | rng (lo hi : Int)
 /-- a thing that is known to the object (the script; a dict while a loop walks it): read, never written while it is so -/
 | frz (o : Obj) (u : HO)
 /-- a code object's table -/
 | tbl (ps : Array Value)
 /-- any other thing, by what is true of its one object (a def of one's own: SetO a S n := HO.ext fun h => ..) -/
 | ext (φ : Heap → Prop)
noncomputable abbrev Hp := Addr → Option HO
noncomputable def upd (H : Hp) (a : Addr) (o : HO) : Hp := fun b => if b = a then some o else H b
theorem Zar {H : Hp} {a : Addr} {o : HO} : upd H a o a = some o := by unfold upd; rw [if_pos rfl]
theorem Zak {H : Hp} {a b : Addr} {o : HO} (h : b ≠ a) : upd H a o b = H b := by unfold upd; rw [if_neg h]
theorem Zay {H : Hp} {a b : Addr} {o : HO} (h : H a = some o) (h' : H b = none) : a ≠ b := by
 intro e; subst e; rw [h] at h'; cases h'
section
variable (P : Program) (w : World)
noncomputable def ObjOk (H : Hp) (h : Heap) (a : Addr) : HO → Prop
 | .lst xs => xs.length ≤ sizeLine ∧ ∃ (its : List Value) (n : Nat), Vals xs its ∧ h.get? a = some { cls := .type "list", data := .seq its.toArray n }
 | .tup xs => xs.length ≤ sizeLine ∧ ∃ its : List Value, Vals xs its ∧ IsTup h a its.toArray
 | .dK kvs => kvs.length ≤ sizeLine ∧ (a == sysModules) = false ∧ ∃ vs, KV kvs vs ∧ h.DictOf (mixKind P w) a vs
 | .dT kvs => kvs.length ≤ sizeLine ∧ (a == sysModules) = false ∧ ∃ xs : List (List Key × Addr × Value),
   Paired (fun (p : List Key × V) (q : List Key × Addr × Value) => p.1 = q.1 ∧ H q.2.1 = some (.tup (p.1.map kV)) ∧ RelV p.2 q.2.2) kvs xs ∧
   ∃ o es ep, h.get? a = some o ∧ o.ExactDict ∧ o.data = .dict es ep ∧ es.toList = xs.map (entryOfKey (tupleKind (mixKind P w))) ∧ (xs.map (·.1)).Nodup
 | .set S n => h.SetOf (intKind P w) a S n
 | .ins C dx fs => H dx = some (.own a) ∧ fs.length ≤ 1000 ∧ dx ≠ a ∧ h.get? a = some (PySem.W.instObj C dx) ∧
   ∃ mA, h.Ns1 dx mA ∧ (∀ f, RelO (fs.lookup f) (mA f)) ∧ PySem.Within mA (fs.map (·.1))
 | .own _ => ∃ o, h.get? a = some o
 | .xd fs => ∃ mA, h.Ns1 a mA ∧ ∀ f, RelO (fs.lookup f) (mA f)
 | .rng lo hi => ∃ t u v, h.get? a = some { cls := .type "range", data := .fields #[.int lo t, .int hi u, .int 1 v] }
 | .frz o u => h.get? a = some o ∧ ObjOk H h a u
 | .tbl ps => h.get? a = some { cls := .none, data := .fields ps }
 | .met f x => h.get? a = some (PySem.W.methodObj (.ref f) (.ref x))
 | .ext φ => φ h ∧ (∃ o, h.get? a = some o) ∧ ∀ h1 h2 : Heap, φ h1 → (∀ o, h1.get? a = some o → h2.get? a = some o) → φ h2
noncomputable def HOk (H : Hp) (h : Heap) : Prop := ∀ a o, H a = some o → ObjOk P w H h a o
end
section
variable {P : Program} {w : World} {H H' : Hp} {h h' : Heap} {a : Addr} {o : HO}
theorem ObjOk.lt (x : ObjOk P w H h a o) : a < h.objs.size := by
 cases o with
 | lst xs => obtain ⟨_, _, _, _, e⟩ := x; exact Heap.lt_size e
 | tup xs => obtain ⟨_, _, _, p⟩ := x; exact p.lt
 | dK kvs => obtain ⟨_, _, _, _, o, _, _, e, _⟩ := x; exact Heap.lt_size e
 | dT kvs => obtain ⟨_, _, _, _, o, _, _, e, _⟩ := x; exact Heap.lt_size e
 | set S n => obtain ⟨o, _, _, _, e, _⟩ := x; exact Heap.lt_size e
 | ins C dx fs => obtain ⟨_, _, _, e, _⟩ := x; exact Heap.lt_size e
 | own y => obtain ⟨_, e⟩ := x; exact Heap.lt_size e
 | xd fs => obtain ⟨_, ⟨_, _, _, e, _⟩, _⟩ := x; exact Heap.lt_size e
 | rng lo hi => obtain ⟨_, _, _, e⟩ := x; exact Heap.lt_size e
 | frz ob u => obtain ⟨e, _⟩ := x; exact Heap.lt_size e
 | tbl ps => exact Heap.lt_size (show h.get? a = some _ from x)
 | met f y => exact Heap.lt_size (show h.get? a = some _ from x)
 | ext φ => obtain ⟨_, ⟨_, e⟩, _⟩ := x; exact Heap.lt_size e
theorem Paired.mapP {α β : Type} {F G : α → β → Prop} : ∀ {l₁ : List α} {l₂ : List β}, Paired F l₁ l₂ → (∀ a b, F a b → G a b) → Paired G l₁ l₂
 | _, _, .nil, _ => .nil
 | _, _, .cons r t, f => .cons (f _ _ r) (Paired.mapP t f)
theorem ObjOk.stay (x : ObjOk P w H h a o) (k : ∀ b u, (b = a ∨ H b = some (.own a)) → h.get? b = some u → h'.get? b = some u)
  (ho : ∀ b, H b = some (.own a) → H' b = some (.own a)) (ht : ∀ b xs, H b = some (.tup xs) → H' b = some (.tup xs)) : ObjOk P w H' h' a o := by
 induction o with
 | lst xs => obtain ⟨z, its, n, r, e⟩ := x; exact ⟨z, its, n, r, k _ _ (.inl rfl) e⟩
 | tup xs => obtain ⟨z, its, r, ob, e, c⟩ := x; exact ⟨z, its, r, ob, k _ _ (.inl rfl) e, c⟩
 | dK kvs => obtain ⟨z, y, vs, r, ob, es, ep, e, c⟩ := x; exact ⟨z, y, vs, r, ob, es, ep, k _ _ (.inl rfl) e, c⟩
 | dT kvs =>
  obtain ⟨z, y, xs, r, ob, es, ep, e, c⟩ := x
  exact ⟨z, y, xs, Paired.mapP r fun p q z => ⟨z.1, ht _ _ z.2.1, z.2.2⟩, ob, es, ep, k _ _ (.inl rfl) e, c⟩
 | set S n => obtain ⟨ob, es, ep, t, e, c⟩ := x; exact ⟨ob, es, ep, t, k _ _ (.inl rfl) e, c⟩
 | ins C dx fs =>
  obtain ⟨d, z, ne, e, mA, ⟨od, es, ep, e2, c⟩, r⟩ := x
  exact ⟨ho _ d, z, ne, k _ _ (.inl rfl) e, mA, ⟨od, es, ep, k _ _ (.inr d) e2, c⟩, r⟩
 | own y => obtain ⟨ob, e⟩ := x; exact ⟨ob, k _ _ (.inl rfl) e⟩
 | xd fs => obtain ⟨mA, ⟨od, es, ep, e, c⟩, r⟩ := x; exact ⟨mA, ⟨od, es, ep, k _ _ (.inl rfl) e, c⟩, r⟩
 | rng lo hi => obtain ⟨t, u, v, e⟩ := x; exact ⟨t, u, v, k _ _ (.inl rfl) e⟩
 | frz ob u ih => obtain ⟨e, q⟩ := x; exact ⟨k _ _ (.inl rfl) e, ih q⟩
 | tbl ps =>
  have e : h.get? a = some { cls := .none, data := .fields ps } := x
  show h'.get? a = some { cls := .none, data := .fields ps }
  exact k a _ (.inl rfl) e
 | met f y =>
  have e : h.get? a = some (PySem.W.methodObj (.ref f) (.ref y)) := x
  show h'.get? a = some (PySem.W.methodObj (.ref f) (.ref y))
  exact k a _ (.inl rfl) e
 | ext φ => obtain ⟨p, ⟨o, e⟩, st⟩ := x; exact ⟨st _ _ p fun o q => k _ _ (.inl rfl) q, ⟨o, k _ _ (.inl rfl) e⟩, st⟩
theorem HOk.lt (x : HOk P w H h) (e : H a = some o) : a < h.objs.size := (x a o e).lt
theorem HOk.fresh (x : HOk P w H h) (e : h.objs.size ≤ a) : H a = none := by
 cases q : H a with
 | none => rfl
 | some u => exact absurd (Nat.lt_of_lt_of_le (x.lt q) e) (Nat.lt_irrefl _)
theorem HOk.kept (x : HOk P w H h) (k : ∀ b u, h.get? b = some u → h'.get? b = some u) : HOk P w H h' := fun a o e =>
 (x a o e).stay (fun b u _ q => k b u q) (fun _ q => q) fun _ _ q => q
theorem HOk.laid (x : HOk P w H h) (k : ∀ b u, h.get? b = some u → h'.get? b = some u) (hp : h.objs.size ≤ a) (new : ObjOk P w (upd H a o) h' a o) : HOk P w (upd H a o) h' := fun b u e => by
 have hn := x.fresh hp
 by_cases hb : b = a
 ·subst hb; rw [Zar] at e; cases e; exact new
 ·rw [Zak hb] at e
  exact (x b u e).stay (fun c v _ q => k c v q) (fun c q => by rw [Zak (Zay q hn)]; exact q) fun c xs q => by rw [Zak (Zay q hn)]; exact q
end
noncomputable def Rd (H : Hp) (a : Addr) (u : HO) : Prop := H a = some u ∨ ∃ o, H a = some (.frz o u)
theorem Rd.of {H : Hp} {a : Addr} {u : HO} (h : H a = some u) : Rd H a u := .inl h
theorem Rd.ok {P : Program} {w : World} {H : Hp} {h : Heap} {a : Addr} {u : HO} (r : Rd H a u) (x : HOk P w H h) : ObjOk P w H h a u := by
 rcases r with r | ⟨o, r⟩
 ·exact x a u r
 ·obtain ⟨_, q⟩ := x a _ r
  exact q
noncomputable def Mut : Option HO → Prop
 | some (.lst _) => True
 | some (.dK _) => True
 | some (.dT _) => True
 | some (.set _ _) => True
 | some (.ins _ _ _) => True
 | some (.ext _) => True
 | _ => False
section
variable {P : Program} {w : World} {H : Hp} {h h' : Heap} {x e : Addr} {o' : HO}
theorem HOk.write (ok : HOk P w H h) (mu : Mut (H x)) (he : e = x ∨ H e = some (.own x)) (k : ∀ b u, b ≠ e → h.get? b = some u → h'.get? b = some u) (heo : ∃ u, h'.get? e = some u)
  (new : ObjOk P w (upd H x o') h' x o') : HOk P w (upd H x o') h' := fun b u q => by
 have nown : ∀ c y, H c = some (.own y) → c ≠ x := fun c y r z => by subst z; rw [r] at mu; exact mu
 have ntup : ∀ c xs, H c = some (.tup xs) → c ≠ x := fun c xs r z => by subst z; rw [r] at mu; exact mu
 by_cases hb : b = x
 ·subst hb; rw [Zar] at q; cases q; exact new
 ·rw [Zak hb] at q
  by_cases hbe : b = e
  ·have q' : H b = some (.own x) := by
    rcases he with z | z
    ·exact absurd (hbe.trans z) hb
    ·rw [hbe]; exact z
   rw [q] at q'; cases q'
   obtain ⟨v, hv⟩ := heo
   exact ⟨v, by rw [hbe]; exact hv⟩
  ·refine (ok b u q).stay (fun c v hc r => k c v ?_ r) (fun c r => by rw [Zak (nown c b r)]; exact r) fun c xs r => by rw [Zak (ntup c xs r)]; exact r
   rcases hc with rfl | hc
   ·exact hbe
   ·rintro rfl
    rcases he with z | z
    ·exact nown c b hc z
    ·rw [hc] at z; cases z; exact hb rfl
end
structure Un (fs ex : List Addr) (H H' : Hp) (h h' : Heap) : Prop where
 keep : ∀ b o, h.get? b = some o → H b = none → b ∉ fs → b ∉ ex → h'.get? b = some o
 slot : ∀ b o, h.get? b = some o → H b = none → b ∈ fs → b ∉ ex → ∃ sl, h'.get? b = some { o with slots := sl }
 free : ∀ b o, h.get? b = some o → H b = none → b ∉ ex → H' b = none
 there : ∀ b o, h.get? b = some o → b ∉ ex → ∃ o', h'.get? b = some o'
 tups : ∀ b xs, H b = some (.tup xs) → H' b = some (.tup xs)
 frzs : ∀ b o u, H b = some (.frz o u) → H' b = some (.frz o u)
 tbls : ∀ b ps, H b = some (.tbl ps) → ∃ more, H' b = some (.tbl (ps ++ more))
section
variable {fs fs' ex ex' : List Addr} {H H1 H2 : Hp} {h h1 h2 h' : Heap} {a x e : Addr} {o : HO}
theorem Un.any (u : Un fs ex H H1 h h1) {b : Addr} {ob : Obj} (q : h.get? b = some ob) (n : H b = none) (hx : b ∉ ex) : ∃ sl, h1.get? b = some { ob with slots := sl } := by
 by_cases hb : b ∈ fs
 ·exact u.slot b ob q n hb hx
 ·exact ⟨ob.slots, u.keep b ob q n hb hx⟩
theorem Un.trans (a : Un fs ex H H1 h h1) (b : Un fs ex H1 H2 h1 h2) : Un fs ex H H2 h h2 where
 keep := fun c ob q n hc hx => b.keep c ob (a.keep c ob q n hc hx) (a.free c ob q n hx) hc hx
 slot := fun c ob q n hc hx => by
  obtain ⟨sl, e1⟩ := a.slot c ob q n hc hx
  obtain ⟨sl', e2⟩ := b.slot c _ e1 (a.free c ob q n hx) hc hx
  exact ⟨sl', e2⟩
 free := fun c ob q n hx => by
  obtain ⟨o', e1⟩ := a.there c ob q hx
  exact b.free c o' e1 (a.free c ob q n hx) hx
 there := fun c ob q hx => by
  obtain ⟨o', e1⟩ := a.there c ob q hx
  exact b.there c o' e1 hx
 tups := fun c xs q => b.tups c xs (a.tups c xs q)
 frzs := fun c ob xs q => b.frzs c ob xs (a.frzs c ob xs q)
 tbls := fun c ps q => by
  obtain ⟨m1, e1⟩ := a.tbls c ps q
  obtain ⟨m2, e2⟩ := b.tbls c _ e1
  exact ⟨m1 ++ m2, by rw [e2, Array.append_assoc]⟩
theorem Un.kept (k : ∀ b u, h.get? b = some u → h'.get? b = some u) : Un fs ex H H h h' :=
 ⟨fun b ob q _ _ _ => k b ob q, fun b ob q _ _ _ => ⟨ob.slots, k b ob q⟩, fun _ _ _ n _ => n, fun b ob q _ => ⟨ob, k b ob q⟩, fun _ _ q => q, fun _ _ _ q => q, fun _ ps q => ⟨#[], by rw [q]; simp⟩⟩
theorem Un.refl : Un fs ex H H h h := Un.kept fun _ _ q => q
theorem Un.laid (k : ∀ b u, h.get? b = some u → h'.get? b = some u) (hp : h.objs.size ≤ a) (hn : H a = none) : Un fs ex H (upd H a o) h h' where
 keep := fun b u q _ _ _ => k b u q
 slot := fun b u q _ _ _ => ⟨u.slots, k b u q⟩
 free := fun b u q n _ => by rw [Zak (Nat.ne_of_lt (Nat.lt_of_lt_of_le (Heap.lt_size q) hp))]; exact n
 there := fun b u q _ => ⟨u, k b u q⟩
 tups := fun b xs q => by rw [Zak (Zay q hn)]; exact q
 frzs := fun b u xs q => by rw [Zak (Zay q hn)]; exact q
 tbls := fun b ps q => ⟨#[], by rw [Zak (Zay q hn), q]; simp⟩
theorem Un.write (mu : Mut (H x)) (he : e = x ∨ H e = some (.own x)) (k : ∀ b u, b ≠ e → h.get? b = some u → h'.get? b = some u) (heo : ∃ u, h'.get? e = some u) : Un fs ex H (upd H x o) h h' := by
 have hx : ∀ b, H b = none → b ≠ x := fun b n z => by subst z; rw [n] at mu; exact mu
 have hb : ∀ b, H b = none → b ≠ e := fun b n z => by
  subst z
  rcases he with r | r
  ·exact hx b n r
  ·rw [n] at r; cases r
 have hm : ∀ b u, H b = some u → ¬ Mut (some u) → b ≠ x := fun b u q nm z => by subst z; rw [q] at mu; exact nm mu
 refine ⟨fun b u q n _ _ => k b u (hb b n) q, fun b u q n _ _ => ⟨u.slots, k b u (hb b n) q⟩, fun b u q n _ => by rw [Zak (hx b n)]; exact n, fun b u q _ => ?_,
  fun b xs q => by rw [Zak (hm b _ q fun z => z)]; exact q, fun b u xs q => by rw [Zak (hm b _ q fun z => z)]; exact q, fun b ps q => ⟨#[], by rw [Zak (hm b _ q fun z => z), q]; simp⟩⟩
 by_cases hbe : b = e
 ·subst hbe; exact heo
 ·exact ⟨u, k b u hbe q⟩
end
noncomputable def trk (h : Heap) (H : Hp) : List Addr := (List.range h.objs.size).filter fun a => (H a).isSome
noncomputable def hidT (h : Heap) (H : Hp) : Heap := PySem.W.hideAll h (trk h H)
theorem Zgc (h : Heap) (H : Hp) : (hidT h H).objs.size = h.objs.size := PySem.W.hideAll_size _ _
theorem Zhg {h : Heap} {H : Hp} {b : Addr} {o : Obj} (e : h.get? b = some o) (n : H b = none) : (hidT h H).get? b = some o :=
 PySem.W.hideAll_get _ e fun hm => by
  have q : (H b).isSome = true := (List.mem_filter.mp hm).2
  rw [n] at q; simp at q
theorem Ziz {h : Heap} {H : Hp} {b : Addr} {o : Obj} (e : (hidT h H).get? b = some o) : h.get? b = some o ∧ H b = none := by
 have e' : h.get? b = some o := PySem.W.of_hideAll (trk h H) e
 refine ⟨e', ?_⟩
 cases q : H b with
 | none => rfl
 | some x =>
  have hm : b ∈ trk h H := List.mem_filter.mpr ⟨List.mem_range.mpr (Heap.lt_size e'), by simp [q]⟩
  have z : (hidT h H).get? b = none := PySem.W.hideAll_none (trk h H) hm
  rw [z] at e; cases e
noncomputable def allNews (g h : Heap) (L : Addr) : List (Addr × Obj) := (List.range h.objs.size).filterMap fun a => if a = L ∨ (g.get? a).isSome = true then none else (h.get? a).map fun o => (a, o)
noncomputable def rest (g h : Heap) (L d : Addr) : List (Addr × Obj) := (allNews g h L).filter fun p => decide (p.1 ≠ d)
end L2
namespace L2
open PySem PySem.Spec PyProof.Rows
structure Mod (K : PySem.W.Frag) (mg : Str → Option Value) (base : Heap) : Prop where
 kin : K.In base
 glob : base.Ns mainGlobals mg
 blt : ∃ mb, base.Ns builtinsNs mb ∧ ∀ x : Str, x ≠ "__name__" → mb x = bootBuiltins x
 nolimit : base.NoLimit
structure Cx where
 prog : Program
 w : World
 K : PySem.W.Frag
 mg : Str → Option Value
 base : Heap
 A : Around
 N : List Str
 s₀ : Shared
 H₀ : Hp
 env : Env
 outer : List Env
 stack : List Env
 ex : List Addr
 fn : Str → Bool
 calm : Bool
 pn : List (Addr × Obj)
 xe : Value → Shared → Prop
noncomputable def frs (l : List Env) : List Addr := l.filterMap (·.frame)
noncomputable abbrev Cx.fs (X : Cx) : List Addr := frs X.outer
noncomputable def Vis (sc : Scope) (x : Str) : Prop := sc.names.lookup x = some .local ∨ sc.names.lookup x = some .cell ∨ sc.names.lookup x = some .free
noncomputable def Loc (sc : Scope) (x : Str) : Prop := sc.names.lookup x = some .local ∨ sc.names.lookup x = some .cell
noncomputable def Look (env : Env) (h : Heap) (m : Str → Option Value) (x : Str) (u : Value) : Prop :=
 (env.kindOf x = some .local ∧ m x = some u) ∨ ((env.kindOf x = some .cell ∨ env.kindOf x = some .free) ∧ ∃ c, env.cells.lookup x = some c ∧ h.IsCell c (some u))
structure Cx.Ok (X : Cx) : Prop where
 mod : Mod X.K X.mg X.base
 kind : X.env.scope.kind = .function
 glob : X.env.globals = mainGlobals
 blt : X.env.builtins = builtinsNs
 above : X.s₀.heap.objs.size ≤ X.env.locals
 inj : ∀ x y c, X.env.cells.lookup x = some c → X.env.cells.lookup y = some c → x = y
 has : ∀ x, (X.env.kindOf x = some .cell ∨ X.env.kindOf x = some .free) → ∃ c, X.env.cells.lookup x = some c
 cab : ∀ x c, X.fn x = true → X.env.cells.lookup x = some c → X.s₀.heap.objs.size ≤ c
 hd : X.calm = true → X.A.handled = none
 frames : X.A.frames = some X.stack
 stk : X.stack = X.outer ∨ (X.stack = X.env :: X.outer ∧ X.env.frame = some X.env.locals)
 exf : ∀ b ∈ X.ex, b ≠ X.env.locals ∧ ∀ x c, X.env.cells.lookup x = some c → c ≠ b
 bs : ∀ b o, X.base.get? b = some o → X.s₀.heap.get? b = some o ∧ X.H₀ b = none
 bsz : X.base.objs.size ≤ X.s₀.heap.objs.size
 noex : ∀ b o, X.base.get? b = some o → b ∉ X.ex
 exfs : ∀ b ∈ X.ex, b ∉ X.fs
 funs : X.s₀.heap.FunFrames X.base X.outer
 frf : ∀ b ∈ X.fs, X.H₀ b = none
structure Inv (X : Cx) (pins : List (Addr × Obj)) (σ : List (Option V)) (H : Hp) (s : Shared) : Prop where
 ok : X.Ok
 os : s.os = X.s₀.os
 bare : AllBare s.gens
 base : Un X.fs X.ex X.H₀ H X.s₀.heap s.heap
 loc : ∃ m, s.heap.Ns X.env.locals m ∧ ∀ (i : Nat) (x : Str) (v : V), X.N[i]? = some x → σ[i]? = some (some v) → Vis X.env.scope x → ∃ u, RelV v u ∧ Look X.env s.heap m x u
 cell : ∀ x c, X.env.cells.lookup x = some c → ∃ v, s.heap.IsCell c v
 free : H X.env.locals = none
 freeC : ∀ x c, X.env.cells.lookup x = some c → H c = none
 pin : ∀ p ∈ X.pn ++ pins, s.heap.get? p.1 = some p.2 ∧ H p.1 = none ∧ p.1 ≠ X.env.locals ∧ p.1 ∉ X.fs ∧ ∀ v, p.2.data ≠ .cell v
 hok : HOk X.prog X.w H s.heap
 len : σ.length = X.N.length
section
variable {X : Cx} {pins : List (Addr × Obj)} {σ : List (Option V)} {H H' : Hp} {s : Shared} {h' : Heap}
theorem Cx.Ok.nofr (ok : X.Ok) {b : Addr} {o : Obj} (e : X.base.get? b = some o) : b ∉ X.fs := fun hb => by
 have := (ok.funs.mem hb).1
 rw [e] at this; cases this
theorem Inv.bs (I : Inv X pins σ H s) : ∀ b o, X.base.get? b = some o → s.heap.get? b = some o ∧ H b = none := fun b o e =>
 ⟨I.base.keep b o (I.ok.bs b o e).1 (I.ok.bs b o e).2 (I.ok.nofr e) (I.ok.noex b o e), I.base.free b o (I.ok.bs b o e).1 (I.ok.bs b o e).2 (I.ok.noex b o e)⟩
theorem Inv.bk (I : Inv X pins σ H s) : ∀ b o, X.base.get? b = some o → s.heap.get? b = some o := fun b o e => (I.bs b o e).1
theorem Inv.mod (I : Inv X pins σ H s) : Mod X.K X.mg X.base := I.ok.mod
theorem Inv.kIn (I : Inv X pins σ H s) : X.K.In s.heap := I.ok.mod.kin.keeps I.bk
theorem Inv.nolimit (I : Inv X pins σ H s) : s.heap.NoLimit := I.ok.mod.nolimit.keeps I.bk
theorem Inv.lt (I : Inv X pins σ H s) : X.env.locals < s.heap.objs.size := let ⟨_, hn, _⟩ := I.loc; hn.lt
theorem Inv.sz (I : Inv X pins σ H s) : X.s₀.heap.objs.size ≤ s.heap.objs.size := Nat.le_trans I.ok.above (Nat.le_of_lt I.lt)
theorem Inv.nofs (I : Inv X pins σ H s) {a : Addr} (h : s.heap.objs.size ≤ a) : a ∉ X.fs := fun hb => by
 obtain ⟨_, o, ho, _⟩ := I.ok.funs.mem hb
 exact absurd (Nat.lt_of_lt_of_le (Heap.lt_size ho) (Nat.le_trans I.sz h)) (Nat.lt_irrefl _)
theorem Inv.cne (I : Inv X pins σ H s) : ∀ x c, X.env.cells.lookup x = some c → c ≠ X.env.locals := fun x c e z => by
 obtain ⟨v, o, ho, hd⟩ := I.cell x c e
 obtain ⟨m, ⟨o', es, ep, ho', hd', _⟩, _⟩ := I.loc
 rw [z, ho'] at ho; cases ho; rw [hd'] at hd; cases hd
theorem Inv.funs (I : Inv X pins σ H s) : s.heap.FunFrames X.base X.outer := by
 have all : ∀ (l : List Env), (∀ b ∈ frs l, b ∈ X.fs) → X.s₀.heap.FunFrames X.base l → s.heap.FunFrames X.base l := by
  intro l
  induction l with
  | nil => intro _ _; trivial
  | cons env r ih =>
   intro hs hl
   obtain ⟨hk, ⟨L, o, hf, hn, ho, hd⟩, hr⟩ := hl
   have hL : L ∈ X.fs := hs L (by unfold frs; rw [List.filterMap_cons, hf]; exact List.mem_cons_self)
   obtain ⟨sl, e⟩ := I.base.slot L o ho (I.ok.frf L hL) hL fun z => I.ok.exfs L z hL
   exact ⟨hk, ⟨L, _, hf, hn, e, hd⟩, ih (fun b hb => hs b (by unfold frs; rw [List.filterMap_cons, hf]; exact List.mem_cons_of_mem _ hb)) hr⟩
 exact all X.outer (fun _ hb => hb) I.ok.funs
theorem Inv.stack (I : Inv X pins σ H s) : s.heap.FunFrames X.base X.stack := by
 rcases I.ok.stk with e | ⟨e, hf⟩
 ·rw [e]; exact I.funs
 ·rw [e]
  obtain ⟨m, hn, _⟩ := I.loc
  refine .cons (by rw [I.ok.kind]; decide) hf hn ?_ I.funs
  exact Heap.get?_none_of_le (Nat.le_trans I.ok.bsz I.ok.above)
theorem Inv.stkSub (I : Inv X pins σ H s) : ∀ b ∈ frs X.stack, b ∈ X.env.locals :: X.fs := fun b hb => by
 rcases I.ok.stk with e | ⟨e, hf⟩
 ·rw [e] at hb; exact List.mem_cons_of_mem _ hb
 ·rw [e] at hb
  unfold frs at hb
  rw [List.filterMap_cons, hf] at hb
  exact hb
theorem Inv.stkFree (I : Inv X pins σ H s) : ∀ b ∈ frs X.stack, H b = none := fun b hb => by
 rcases List.mem_cons.mp (I.stkSub b hb) with e | hb
 ·rw [e]; exact I.free
 ·obtain ⟨_, o, ho, _⟩ := I.ok.funs.mem hb
  exact I.base.free b o ho (I.ok.frf b hb) fun z => I.ok.exfs b z hb
theorem Inv.step {g' : Array GenState} {t' : Nat} {d' : Drawn} {ch : List Addr} (I : Inv X pins σ H s)
  (hch : ∀ b ∈ ch, (b ∈ X.ex ∨ X.s₀.heap.objs.size ≤ b) ∧ b ≠ X.env.locals ∧ (∀ x c, X.env.cells.lookup x = some c → c ≠ b) ∧ ∀ p ∈ X.pn ++ pins, p.1 ≠ b)
  (keep : ∀ b o, b ≠ X.env.locals → b ∉ X.fs → b ∉ ch → s.heap.get? b = some o → H b = none → h'.get? b = some o)
  (slot : ∀ b o, b ≠ X.env.locals → b ∈ X.fs → b ∉ ch → s.heap.get? b = some o → H b = none → ∃ sl, h'.get? b = some { o with slots := sl }) (free : ∀ b o, b ∉ ch → s.heap.get? b = some o → H b = none → H' b = none)
  (there : ∀ b o, b ∉ ch → s.heap.get? b = some o → ∃ o', h'.get? b = some o')
  (tups : ∀ b xs, H b = some (.tup xs) → H' b = some (.tup xs)) (frzs : ∀ b o u, H b = some (.frz o u) → H' b = some (.frz o u)) (tbls : ∀ b ps, H b = some (.tbl ps) → ∃ more, H' b = some (.tbl (ps ++ more)))
  (ns : ∀ m, s.heap.Ns X.env.locals m → h'.Ns X.env.locals m) (hok : HOk X.prog X.w H' h') (hg : AllBare g') :
  Inv X pins σ H' { s with heap := h', gens := g', drawn := d', toks := t' } := by
 have neL : ∀ b o, X.s₀.heap.get? b = some o → b ≠ X.env.locals := fun b o e => Nat.ne_of_lt (Nat.lt_of_lt_of_le (Heap.lt_size e) I.ok.above)
 have neC : ∀ b o, X.s₀.heap.get? b = some o → b ∉ X.ex → b ∉ ch := fun b o e hx hb => by
  rcases (hch b hb).1 with z | z
  ·exact hx z
  ·exact absurd (Nat.lt_of_lt_of_le (Heap.lt_size e) z) (Nat.lt_irrefl _)
 have cellK : ∀ x c, X.env.cells.lookup x = some c → ∀ v, s.heap.IsCell c v → h'.IsCell c v := fun x c e v ⟨o, ho, hd⟩ => by
  have nch : c ∉ ch := fun z => (hch c z).2.2.1 x c e rfl
  by_cases hc : c ∈ X.fs
  ·obtain ⟨sl, q⟩ := slot c o (I.cne x c e) hc nch ho (I.freeC x c e)
   exact ⟨_, q, hd⟩
  ·exact ⟨o, keep c o (I.cne x c e) hc nch ho (I.freeC x c e), hd⟩
 refine ⟨I.ok, I.os, hg, ⟨fun b o e n hb hx => ?_, fun b o e n hb hx => ?_, fun b o e n hx => ?_, fun b o e hx => ?_, fun b xs e => tups b xs (I.base.tups b xs e), fun b o xs e => frzs b o xs (I.base.frzs b o xs e), fun b ps e => ?_⟩, ?_, fun x c e => ?_, ?_, fun x c e => ?_, fun p hp => ?_, hok, I.len⟩
 ·exact keep b o (neL b o e) hb (neC b o e hx) (I.base.keep b o e n hb hx) (I.base.free b o e n hx)
 ·obtain ⟨sl, e1⟩ := I.base.slot b o e n hb hx
  obtain ⟨sl', e2⟩ := slot b _ (neL b o e) hb (neC b o e hx) e1 (I.base.free b o e n hx)
  exact ⟨sl', e2⟩
 ·obtain ⟨o', e1⟩ := I.base.there b o e hx
  exact free b o' (neC b o e hx) e1 (I.base.free b o e n hx)
 ·obtain ⟨o', e1⟩ := I.base.there b o e hx
  exact there b o' (neC b o e hx) e1
 ·obtain ⟨m1, e1⟩ := I.base.tbls b ps e
  obtain ⟨m2, e2⟩ := tbls b _ e1
  exact ⟨m1 ++ m2, by rw [e2, Array.append_assoc]⟩
 ·obtain ⟨m, hn, hl⟩ := I.loc
  refine ⟨m, ns m hn, fun i x v e1 e2 e3 => ?_⟩
  obtain ⟨u, r, l⟩ := hl i x v e1 e2 e3
  refine ⟨u, r, ?_⟩
  rcases l with l | ⟨k, c, e, z⟩
  ·exact .inl l
  ·exact .inr ⟨k, c, e, cellK x c e _ z⟩
 ·obtain ⟨v, z⟩ := I.cell x c e
  exact ⟨v, cellK x c e v z⟩
 ·obtain ⟨m, ⟨o, _, _, ho, _⟩, _⟩ := I.loc
  exact free _ o (fun z => (hch _ z).2.1 rfl) ho I.free
 ·obtain ⟨v, o, ho, hd⟩ := I.cell x c e
  exact free c o (fun z => (hch c z).2.2.1 x c e rfl) ho (I.freeC x c e)
 ·obtain ⟨e, n, ne, nf, d⟩ := I.pin p hp
  have nch : p.1 ∉ ch := fun z => (hch p.1 z).2.2.2 p hp rfl
  exact ⟨keep p.1 p.2 ne nf nch e n, free p.1 p.2 nch e n, ne, nf, d⟩
theorem Inv.un {t' : Nat} (I : Inv X pins σ H s) (u : Un X.fs [] H H' s.heap h') (hok : HOk X.prog X.w H' h') : Inv X pins σ H' { s with heap := h', toks := t' } := by
 obtain ⟨m, ⟨o, es, ep, ho, r⟩, _⟩ := id I.loc
 obtain ⟨sl, hL⟩ := u.any ho I.free (by simp)
 exact I.step (g' := s.gens) (d' := s.drawn) (ch := []) (fun _ z => nomatch z) (fun b o _ hb _ e n => u.keep b o e n hb (by simp)) (fun b o _ hb _ e n => u.slot b o e n hb (by simp)) (fun b o _ e n => u.free b o e n (by simp)) (fun b o _ e => u.there b o e (by simp)) u.tups u.frzs u.tbls (fun m' hm => by
  obtain ⟨o', es', ep', ho', r'⟩ := hm
  rw [ho] at ho'; cases ho'
  exact ⟨_, es', ep', hL, r'⟩) hok I.bare
theorem Inv.call {g' : Array GenState} {t' : Nat} {d' : Drawn} {ch : List Addr} (I : Inv X pins σ H s) (u : Un (frs X.stack) ch H H' s.heap h') (hok : HOk X.prog X.w H' h') (hg : AllBare g')
  (hch : ∀ b ∈ ch, (b ∈ X.ex ∨ X.s₀.heap.objs.size ≤ b) ∧ b ≠ X.env.locals ∧ (∀ x c, X.env.cells.lookup x = some c → c ≠ b) ∧ ∀ p ∈ X.pn ++ pins, p.1 ≠ b) :
  Inv X pins σ H' { s with heap := h', gens := g', drawn := d', toks := t' } := by
 obtain ⟨m, ⟨o, es, ep, ho, r⟩, _⟩ := id I.loc
 obtain ⟨sl, hL⟩ := u.any ho I.free fun z => (hch _ z).2.1 rfl
 exact I.step (ch := ch) hch (fun b o hL hb hc e n => u.keep b o e n (fun z => (List.mem_cons.mp (I.stkSub b z)).elim hL hb) hc) (fun b o _ _ hc e n => u.any e n hc) (fun b o hc e n => u.free b o e n hc) (fun b o hc e => u.there b o e hc) u.tups u.frzs u.tbls (fun m' hm => by
  obtain ⟨o', es', ep', ho', r'⟩ := hm
  rw [ho] at ho'; cases ho'
  exact ⟨_, es', ep', hL, r'⟩) hok hg
theorem Inv.turned {t' : Nat} {it : Addr} (I : Inv X pins σ H s) (k : ∀ b o, b ≠ it → s.heap.get? b = some o → h'.get? b = some o) (hn : H it = none) (hL : it ≠ X.env.locals)
  (h1 : it ∈ X.ex ∨ X.s₀.heap.objs.size ≤ it) (h2 : ∀ x c, X.env.cells.lookup x = some c → c ≠ it) (h3 : ∀ p ∈ X.pn ++ pins, p.1 ≠ it) : Inv X pins σ H { s with heap := h', toks := t' } := by
 have nit : ∀ b u, H b = some u → b ≠ it := fun b u e z => by rw [z, hn] at e; cases e
 refine I.step (g' := s.gens) (d' := s.drawn) (ch := [it]) (fun b hb => ?_) (fun b o _ _ hc e _ => k b o (fun z => hc (by simp [z])) e) (fun b o _ _ hc e _ => ⟨o.slots, k b o (fun z => hc (by simp [z])) e⟩) (fun _ _ _ _ n => n)
  (fun b o hc e => ⟨o, k b o (fun z => hc (by simp [z])) e⟩) (fun _ _ e => e) (fun _ _ _ e => e) (fun b ps e => ⟨#[], by rw [e]; simp⟩) (fun m hm => ?_) (fun b u e => ?_) I.bare
 ·have e : b = it := by simpa using hb
  subst e
  exact ⟨h1, hL, h2, h3⟩
 ·obtain ⟨o, es, ep, ho, r⟩ := hm
  exact ⟨o, es, ep, k _ o (Ne.symm hL) ho, r⟩
 ·refine (I.hok b u e).stay (fun c v hc q => k c v ?_ q) (fun _ q => q) fun _ _ q => q
  rcases hc with z | z
  ·rw [z]; exact nit b u e
  ·exact nit c _ z
theorem Inv.tok (I : Inv X pins σ H s) (t : Nat) : Inv X pins σ H { s with toks := t } := I.un (h' := s.heap) (t' := t) Un.refl I.hok
theorem Inv.kept {t' : Nat} (I : Inv X pins σ H s) (k : ∀ b u, s.heap.get? b = some u → h'.get? b = some u) : Inv X pins σ H { s with heap := h', toks := t' } := I.un (Un.kept k) (I.hok.kept k)
theorem Inv.laid {a : Addr} {o : HO} {t' : Nat} (I : Inv X pins σ H s) (k : ∀ b u, s.heap.get? b = some u → h'.get? b = some u) (hp : s.heap.objs.size ≤ a) (new : ObjOk X.prog X.w (upd H a o) h' a o) :
  Inv X pins σ (upd H a o) { s with heap := h', toks := t' } := I.un (Un.laid k hp (I.hok.fresh hp)) (I.hok.laid k hp new)
theorem Inv.write {x e : Addr} {o : HO} {t' : Nat} (I : Inv X pins σ H s) (mu : Mut (H x)) (he : e = x ∨ H e = some (.own x)) (k : ∀ b u, b ≠ e → s.heap.get? b = some u → h'.get? b = some u) (heo : ∃ u, h'.get? e = some u)
  (new : ObjOk X.prog X.w (upd H x o) h' x o) : Inv X pins σ (upd H x o) { s with heap := h', toks := t' } := I.un (Un.write mu he k heo) (I.hok.write mu he k heo new)
theorem Inv.pins_of {pins' : List (Addr × Obj)} (I : Inv X pins σ H s) (h : ∀ p ∈ pins', s.heap.get? p.1 = some p.2 ∧ H p.1 = none ∧ p.1 ≠ X.env.locals ∧ p.1 ∉ X.fs ∧ ∀ v, p.2.data ≠ .cell v) : Inv X pins' σ H s :=
 ⟨I.ok, I.os, I.bare, I.base, I.loc, I.cell, I.free, I.freeC, fun p hp => (List.mem_append.mp hp).elim (fun z => I.pin p (List.mem_append_left _ z)) (h p), I.hok, I.len⟩
theorem Zf7 {N : List Str} (hN : N.Nodup) {i j : Nat} {x : Str} (a : N[i]? = some x) (b : N[j]? = some x) : i = j := by
 obtain ⟨h1, e1⟩ := List.getElem?_eq_some_iff.mp a
 obtain ⟨h2, e2⟩ := List.getElem?_eq_some_iff.mp b
 exact (List.getElem_inj hN).mp (e1.trans e2.symm)
theorem Ze6 {M : Model} {A : Around} {E : Value → Shared → Prop} {i : Nat} {x : Str} {v : V} {u : Value} {Q : Unit → Shared → Prop} (I : Inv X pins σ H s) (hN : X.N.Nodup) (hi : X.N[i]? = some x) (hx : Loc X.env.scope x) (r : RelV v u)
  (h : ∀ s', Inv X pins (σ.set i (some v)) H s' → (∃ a, Heap.SameBut a s.heap s'.heap ∧ (a = X.env.locals ∨ X.env.cells.lookup x = some a)) → Q () s') (hf : X.fn x = true ∨ X.env.scope.names.lookup x = some .local := by first | exact .inl rfl | exact .inr rfl | assumption) : wpAny M A (storeName X.env x u) Q E s := by
 obtain ⟨m, hn, hl⟩ := id I.loc
 have hcls : (X.env.scope.kind == .class || (X.env.scope.kind == .module && X.env.locals != X.env.globals)) = false := by rw [I.ok.kind]; rfl
 have hiσ : i < σ.length := by rw [I.len]; exact (List.getElem?_eq_some_iff.mp hi).1
 have cne := I.cne
 have tracked : ∀ {a : Addr} {h' : Heap}, (∃ o, s.heap.get? a = some o ∧ H a = none) → Heap.SameBut a s.heap h' → HOk X.prog X.w H h' := fun {a h'} ha hs b ob e => by
  obtain ⟨_, _, hfree⟩ := ha
  refine (I.hok b ob e).stay (fun c w' hc q => (hs.2 c ?_).trans q) (fun _ q => q) fun _ _ q => q
  rintro rfl
  rcases hc with rfl | hc
  ·rw [hfree] at e; cases e
  ·rw [hfree] at hc; cases hc
 rcases hx with hk | hk
 ·refine wpAny_storeName_local hk hn (fun h' hn' hs => ?_) hcls
  obtain ⟨oL, _, _, hoL, _⟩ := id hn
  refine h _ ⟨I.ok, I.os, I.bare, ⟨fun b o e n hb hx => ?_, fun b o e n hb hx => ?_, I.base.free, fun b o e hx => ?_, I.base.tups, I.base.frzs, I.base.tbls⟩, ⟨_, hn', fun j y v' e1 e2 e3 => ?_⟩, fun y c e => ?_, I.free, I.freeC, fun p hp => ?_, tracked ⟨oL, hoL, I.free⟩ hs, by simpa using I.len⟩ ⟨_, hs, .inl rfl⟩
  ·exact (hs.2 b (Nat.ne_of_lt (Nat.lt_of_lt_of_le (Heap.lt_size e) I.ok.above))).trans (I.base.keep b o e n hb hx)
  ·obtain ⟨sl, e1⟩ := I.base.slot b o e n hb hx
   exact ⟨sl, (hs.2 b (Nat.ne_of_lt (Nat.lt_of_lt_of_le (Heap.lt_size e) I.ok.above))).trans e1⟩
  ·obtain ⟨o', e1⟩ := I.base.there b o e hx
   exact ⟨o', (hs.2 b (Nat.ne_of_lt (Nat.lt_of_lt_of_le (Heap.lt_size e) I.ok.above))).trans e1⟩
  ·by_cases hj : j = i
   ·subst hj
    rw [hi] at e1; cases e1
    rw [List.getElem?_set_self hiσ] at e2
    cases e2
    exact ⟨u, r, .inl ⟨hk, by simp⟩⟩
   ·rw [List.getElem?_set_ne (Ne.symm hj)] at e2
    obtain ⟨u', r', q⟩ := hl j y v' e1 e2 e3
    refine ⟨u', r', ?_⟩
    rcases q with ⟨k, e⟩ | ⟨k, c, e, z⟩
    ·refine .inl ⟨k, ?_⟩
     have : y ≠ x := fun e => hj (Zf7 hN e1 (e ▸ hi))
     simp [this, e]
    ·exact .inr ⟨k, c, e, z.sameBut hs (cne y c e)⟩
  ·obtain ⟨w', z⟩ := I.cell y c e
   exact ⟨w', z.sameBut hs (cne y c e)⟩
  ·obtain ⟨e, n, ne, nf, d⟩ := I.pin p hp
   exact ⟨(hs.2 p.1 ne).trans e, n, ne, nf, d⟩
 ·have hfn : X.fn x = true := by
   rcases hf with z | z
   ·exact z
   ·rw [z] at hk; cases hk
  obtain ⟨c, hc⟩ := I.ok.has x (.inl hk)
  obtain ⟨w', z⟩ := I.cell x c hc
  refine wpAny_storeName_cell I.ok.kind hk hc z (fun h' hc' hs => ?_)
  obtain ⟨oc, hoc, hocd⟩ := id z
  refine h { s with heap := h' } ⟨I.ok, I.os, I.bare, ⟨fun b o e n hb hx => ?_, fun b o e n hb hx => ?_, I.base.free, fun b o e hx => ?_, I.base.tups, I.base.frzs, I.base.tbls⟩, ⟨m, hn.sameBut hs (Ne.symm (cne x c hc)), fun j y v' e1 e2 e3 => ?_⟩, fun y c' e => ?_, I.free, I.freeC, fun p hp => ?_, tracked ⟨oc, hoc, I.freeC x c hc⟩ hs, by simpa using I.len⟩ ⟨c, hs, .inr hc⟩
  ·exact (hs.2 b (Nat.ne_of_lt (Nat.lt_of_lt_of_le (Heap.lt_size e) (I.ok.cab x c hfn hc)))).trans (I.base.keep b o e n hb hx)
  ·obtain ⟨sl, e1⟩ := I.base.slot b o e n hb hx
   exact ⟨sl, (hs.2 b (Nat.ne_of_lt (Nat.lt_of_lt_of_le (Heap.lt_size e) (I.ok.cab x c hfn hc)))).trans e1⟩
  ·obtain ⟨o', e1⟩ := I.base.there b o e hx
   exact ⟨o', (hs.2 b (Nat.ne_of_lt (Nat.lt_of_lt_of_le (Heap.lt_size e) (I.ok.cab x c hfn hc)))).trans e1⟩
  ·by_cases hj : j = i
   ·subst hj
    rw [hi] at e1; cases e1
    rw [List.getElem?_set_self hiσ] at e2
    cases e2
    exact ⟨u, r, .inr ⟨.inl hk, c, hc, hc'⟩⟩
   ·rw [List.getElem?_set_ne (Ne.symm hj)] at e2
    obtain ⟨u', r', q⟩ := hl j y v' e1 e2 e3
    refine ⟨u', r', ?_⟩
    rcases q with q | ⟨k, c', e, z'⟩
    ·exact .inl q
    ·refine .inr ⟨k, c', e, z'.sameBut hs ?_⟩
     rintro rfl
     exact hj (Zf7 hN e1 (I.ok.inj _ _ _ e hc ▸ hi))
  ·by_cases hcc : c' = c
   ·subst hcc; exact ⟨_, hc'⟩
   ·obtain ⟨w2, z2⟩ := I.cell y c' e
    exact ⟨w2, z2.sameBut hs hcc⟩
  ·obtain ⟨e, n, ne, nf, d⟩ := I.pin p hp
   refine ⟨(hs.2 p.1 ?_).trans e, n, ne, nf, d⟩
   intro q
   rw [q, hoc] at e
   have q' : oc = p.2 := Option.some.inj e
   exact d w' (by rw [← q']; exact hocd)
theorem Zc1 {M : Model} {A : Around} {E : Value → Shared → Prop} {i : Nat} {x : Str} {v : V} {u : Value} {Q : Unit → Shared → Prop} (I : Inv X pins σ H s) (hN : X.N.Nodup) (hi : X.N[i]? = some x) (hx : Loc X.env.scope x) (r : RelV v u)
  (h : ∀ s', Inv X pins (σ.set i (some v)) H s' → Q () s') (hf : X.fn x = true ∨ X.env.scope.names.lookup x = some .local := by first | exact .inl rfl | exact .inr rfl | assumption) : wpAny M A (storeName X.env x u) Q E s :=
 Ze6 I hN hi hx r (fun s' I' _ => h s' I') hf
theorem Inv.call' {s' : Shared} {ch : List Addr} (I : Inv X pins σ H s) (ho : s'.os = s.os) (u : Un (frs X.stack) ch H H' s.heap s'.heap) (hok : HOk X.prog X.w H' s'.heap) (hg : AllBare s'.gens)
  (hch : ∀ b ∈ ch, (b ∈ X.ex ∨ X.s₀.heap.objs.size ≤ b) ∧ b ≠ X.env.locals ∧ (∀ x c, X.env.cells.lookup x = some c → c ≠ b) ∧ ∀ p ∈ X.pn ++ pins, p.1 ≠ b) : Inv X pins σ H' s' := by
 obtain ⟨h', g', d', t', o'⟩ := s'
 have e : o' = s.os := ho
 subst e
 exact I.call (g' := g') (t' := t') (d' := d') u hok hg hch
end
noncomputable abbrev XK := Value → Option Addr → Hp → Prop
noncomputable abbrev St := List (Option V)
noncomputable abbrev VK := V → Hp → Prop
noncomputable abbrev TE := St → Hp → VK → Prop
noncomputable abbrev TT := St → Hp → (Bool → Hp → Prop) → Prop
noncomputable abbrev TA := St → Hp → (List V → Hp → Prop) → Prop
structure Ends where
 nx : St → Hp → Prop
 rt : VK
 bk : St → Hp → Prop := fun _ _ => False
 ct : St → Hp → Prop := fun _ _ => False
noncomputable abbrev TS := Ends → St → Hp → Prop
noncomputable def EP (X : Cx) (pins : List (Addr × Obj)) (σ : St) (Q : VK) (u : Value) (s' : Shared) : Prop := ∃ v H', Inv X pins σ H' s' ∧ RelV v u ∧ Q v H'
noncomputable def TP (X : Cx) (pins : List (Addr × Obj)) (σ : St) (Q : Bool → Hp → Prop) (b : Bool) (s' : Shared) : Prop := ∃ H', Inv X pins σ H' s' ∧ Q b H'
noncomputable def AP (X : Cx) (pins : List (Addr × Obj)) (σ : St) (Q : List V → Hp → Prop) (us : List Value) (s' : Shared) : Prop := ∃ vs H', Inv X pins σ H' s' ∧ Vals vs us ∧ Q vs H'
noncomputable def SP (X : Cx) (pins : List (Addr × Obj)) (D : Ends) (f : Flow) (s' : Shared) : Prop :=
 match f with
 | .next => ∃ σ' H', Inv X pins σ' H' s' ∧ D.nx σ' H'
 | .brk => ∃ σ' H', Inv X pins σ' H' s' ∧ D.bk σ' H'
 | .cont => ∃ σ' H', Inv X pins σ' H' s' ∧ D.ct σ' H'
 | .ret u => ∃ v σ' H', Inv X pins σ' H' s' ∧ RelV v u ∧ D.rt v H'
noncomputable def PE (X : Cx) (e : Expr) (t : TE) : Prop :=
 ∀ (pins : List (Addr × Obj)) (s : Shared) (σ : St) (H : Hp) (Q : VK), Inv X pins σ H s → t σ H Q → wpAny (model X.prog X.w) X.A (eval e X.env) (EP X pins σ Q) X.xe s
noncomputable def PT (X : Cx) (e : Expr) (t : TT) : Prop :=
 ∀ (pins : List (Addr × Obj)) (s : Shared) (σ : St) (H : Hp) (Q : Bool → Hp → Prop), Inv X pins σ H s → t σ H Q → wpAny (model X.prog X.w) X.A (isTrue e X.env (eval e X.env)) (TP X pins σ Q) X.xe s
noncomputable def PW (X : Cx) (e : Expr) (t : TT) : Prop :=
 ∀ (whole : Sem Value) (pins : List (Addr × Obj)) (s : Shared) (σ : St) (H : Hp) (Q : Bool → Hp → Prop), Inv X pins σ H s → t σ H Q → wpAny (model X.prog X.w) X.A (isTrue e X.env whole) (TP X pins σ Q) X.xe s
theorem PW.pt {X : Cx} {e : Expr} {t : TT} (h : PW X e t) : PT X e t := h _
noncomputable def PA (X : Cx) (es : List Expr) (t : TA) : Prop :=
 ∀ (pos : Pos) (pins : List (Addr × Obj)) (s : Shared) (σ : St) (H : Hp) (Q : List V → Hp → Prop), Inv X pins σ H s → t σ H Q → wpAny (model X.prog X.w) X.A (spliced (backTo pos (starEach es X.env))) (AP X pins σ Q) X.xe s
noncomputable def PS (X : Cx) (st : Stmt) (t : TS) : Prop :=
 ∀ (pins : List (Addr × Obj)) (s : Shared) (σ : St) (H : Hp) (D : Ends), Inv X pins σ H s → t D σ H → wpAny (model X.prog X.w) X.A (exec st X.env) (SP X pins D) X.xe s
noncomputable def PSs (X : Cx) (st : List Stmt) (t : TS) : Prop :=
 ∀ (pins : List (Addr × Obj)) (s : Shared) (σ : St) (H : Hp) (D : Ends), Inv X pins σ H s → t D σ H → wpAny (model X.prog X.w) X.A (execs st X.env) (SP X pins D) X.xe s
theorem thn {α : Type} {t : Sem α} {Q Q' : α → Shared → Prop} {M : Model} {A : Around} {E : Value → Shared → Prop} {s : Shared} (h : wpAny M A t Q E s) (hQ : ∀ a s, Q a s → Q' a s) : wpAny M A t Q' E s := wpAny_mono h hQ fun _ _ x => x
end L2
namespace L2
open PySem PySem.Spec PyProof.Rows
section
variable {X : Cx}
noncomputable def tVar (i : Nat) : TE := fun σ H Q => ∃ v, σ[i]? = some (some v) ∧ Q v H
noncomputable def tC (v : V) : TE := fun _ H Q => Q v H
theorem Zgq {i : Nat} {x : Str} {pos : Pos} (hN : X.N[i]? = some x) (hv : Vis X.env.scope x) (hd : (x == ("__debug__" : Str)) = false := by decide) (hcd : (x == ("__classdict__" : Str)) = false := by decide) : PE X (.Name x pos) (tVar i) := by
 intro pins s σ H Q I h
 obtain ⟨v, e, h⟩ := h
 obtain ⟨m, hn, hl⟩ := I.loc
 obtain ⟨u, r, l⟩ := hl i x v hN e hv
 have fin : EP X pins σ Q u s := ⟨v, H, I, r, h⟩
 rcases l with ⟨hk, hm⟩ | ⟨hk, c, hc, hcell⟩
 ·exact wpAny_Name (wpAny_loadName_local I.ok.kind hk hn hm fin) hd
 ·rcases hk with hk | hk
  ·exact wpAny_Name (wpAny_loadName_cell I.ok.kind hk hc hcell fin) hd
  ·exact wpAny_Name (wpAny_loadName_free I.ok.kind hk hc hcell fin hcd) hd
theorem Zk5 {i j pos} : PE X (.Constant (.int i) j pos) (tC (.int i)) := fun _ _ _ H _ I h => wpAny_Constant_int ⟨.int i, H, I.tok _, ⟨_, rfl⟩, h⟩
theorem Zkz {b j pos} : PE X (.Constant (.bool b) j pos) (tC (.bl b)) := fun _ _ _ H _ I h => Constant_bool ⟨.bl b, H, I, rfl, h⟩
noncomputable def Gl (X : Cx) (x : Str) : Prop := X.env.kindOf x = some .globalImplicit
theorem Zix {E : Value → Shared → Prop} {pins : List (Addr × Obj)} {s : Shared} {σ : St} {H : Hp} {x : Str} {u : Value} {pos : Pos} {Q : Value → Shared → Prop} (I : Inv X pins σ H s) (hg : Gl X x) (hm : X.mg x = some u) (h : Q u s)
  (hd : (x == ("__debug__" : Str)) = false := by decide) : wpAny (model X.prog X.w) X.A (eval (.Name x pos) X.env) Q E s :=
 Calls.Name_function_global I.ok.kind hg (Calls.loadGlobal_global (by rw [I.ok.glob]; exact I.mod.glob.keeps I.bk) hm h) hd
theorem Zf5 {E : Value → Shared → Prop} {pins : List (Addr × Obj)} {s : Shared} {σ : St} {H : Hp} {x : Str} {u : Value} {pos : Pos} {Q : Value → Shared → Prop} (I : Inv X pins σ H s) (hg : Gl X x) (hm : X.mg x = none) (hv : bootBuiltins x = some u) (h : Q u s)
  (hn : x ≠ "__name__" := by decide) (hd : (x == ("__debug__" : Str)) = false := by decide) : wpAny (model X.prog X.w) X.A (eval (.Name x pos) X.env) Q E s := by
 obtain ⟨mb, h1, h2⟩ := I.mod.blt
 exact Calls.Name_function_global I.ok.kind hg (Calls.loadGlobal_builtin (by rw [I.ok.glob]; exact I.mod.glob.keeps I.bk) hm (by rw [I.ok.blt]; exact h1.keeps I.bk) ((h2 x hn).trans hv) h) hd
theorem Zj2 {x : Str} {v : V} {u : Value} {pos : Pos} (hg : Gl X x) (hm : X.mg x = none) (hv : bootBuiltins x = some u) (r : RelV v u) (hn : x ≠ "__name__" := by decide) (hd : (x == ("__debug__" : Str)) = false := by decide) : PE X (.Name x pos) (tC v) :=
 fun _ _ _ H _ I h => Zf5 I hg hm hv ⟨v, H, I, r, h⟩ hn hd
variable {a b : Expr} {ta tb : TE} {pos : Pos}
noncomputable def tB (t : TE) : TT := fun σ H Q => t σ H fun x H1 => ∃ c, x = .bl c ∧ Q c H1
theorem Zkh {e : Expr} {t : TE} (h : PE X e t) (he : ∀ whole, isTrue e X.env whole = (do let v ← whole; standAt e.pos; holding [v] (truthy v)) := by intro _; rfl) : PT X e (tB t) := by
 intro pins s σ H Q I hw
 refine isTrue_plain (thn (h pins s σ H _ I hw) fun v s1 ⟨x, H1, I1, r1, q1⟩ => ?_) (he _)
 obtain ⟨d, rfl, q⟩ := q1
 cases r1
 exact wpAny_truthy_bool ⟨H1, I1, q⟩
variable {tA tB' : TT} {rest : List Expr}
noncomputable def tOr (t u : TT) : TT := fun σ H Q => t σ H fun c H1 => if c = true then Q true H1 else u σ H1 Q
noncomputable def tNot (t : TT) : TT := fun σ H Q => t σ H fun c H1 => Q (!c) H1
theorem Zki (ha : PT X a tA) : PW X (.BoolOp .Or [a] pos) tA := by
 intro wh pins s σ H Q I h
 refine isTrue_or (thn (ha pins s σ H Q I h) fun c s1 e => ?_)
 cases c with
 | false => exact isTrue_or_nil e
 | true => exact e
theorem Zl5 (ha : PT X a tA) (hb : PW X (.BoolOp .Or (b :: rest) pos) tB') : PW X (.BoolOp .Or (a :: b :: rest) pos) (tOr tA tB') := by
 intro wh pins s σ H Q I h
 refine isTrue_or (thn (ha pins s σ H _ I h) fun c s1 ⟨H1, I1, q1⟩ => ?_)
 cases c with
 | true => exact ⟨H1, I1, q1⟩
 | false => exact hb wh pins s1 σ H1 Q I1 q1
theorem Zkg (ha : PT X a tA) : PT X (.UnaryOp .Not a pos) (tNot tA) := by
 intro pins s σ H Q I h
 exact isTrue_not (ha pins s σ H (fun c H1 => Q (!c) H1) I h)
noncomputable def tIf (t : TT) (ta tb : TE) : TE := fun σ H Q => t σ H fun c H1 => if c = true then ta σ H1 Q else tb σ H1 Q
theorem Zhq {c : Expr} (hc : PT X c tA) (ha : PE X a ta) (hb : PE X b tb) : PE X (.IfExp c a b pos) (tIf tA ta tb) := by
 intro pins s σ H Q I h
 refine wpAny_IfExp (thn (hc pins s σ H _ I h) fun d s1 ⟨H1, I1, q1⟩ => ?_)
 cases d with
 | true => exact ha pins s1 σ H1 Q I1 q1
 | false => exact hb pins s1 σ H1 Q I1 q1
end
end L2
namespace L2
open PySem PySem.Spec PyProof.Rows
noncomputable def SqL (K : PySem.W.Frag) (H : Hp) (a : Addr) (xs : List V) : Prop :=
 Rd H a (.lst xs) ∨
  ∃ (o : Obj) (its : Array Value) (n : Nat), K.lookup a = some o ∧ o.cls = .type "list" ∧ o.dict = none ∧ o.data = .seq its n ∧ its.size ≤ sizeLine ∧ Vals xs its.toList
noncomputable def SqT (K : PySem.W.Frag) (H : Hp) (a : Addr) (xs : List V) : Prop :=
 Rd H a (.tup xs) ∨
  ∃ (o : Obj) (its : Array Value) (n : Nat), K.lookup a = some o ∧ o.cls = .type "tuple" ∧ o.data = .seq its n ∧ its.size ≤ sizeLine ∧ Vals xs its.toList
noncomputable def absV : Value → Option V
 | .none => some .non
 | .bool b => some (.bl b)
 | .int i _ => some (.int i)
 | .str x _ => some (.str x)
 | .bytes b _ => some (.byt b)
 | .float b _ => some (.flt b)
 | .ref a => some (.ref a)
 | .type n => some (.ty n)
 | _ => none
theorem RelV.abs {x : V} {u : Value} (r : RelV x u) : absV u = some x := by
 cases x with
 | non => cases r; rfl
 | bl _ => cases r; rfl
 | int _ => obtain ⟨t, rfl⟩ := r; rfl
 | str _ => obtain ⟨t, rfl⟩ := r; rfl
 | byt _ => obtain ⟨t, rfl⟩ := r; rfl
 | flt _ => obtain ⟨t, rfl⟩ := r; rfl
 | ref _ => cases r; rfl
 | ty _ => cases r; rfl
theorem RelV.inj {x y : V} {u : Value} (r : RelV x u) (q : RelV y u) : x = y := Option.some.inj (r.abs.symm.trans q.abs)
theorem Vals.inj : ∀ {xs ys : List V} {us : List Value}, Vals xs us → Vals ys us → xs = ys
 | _, _, _, .nil, .nil => rfl
 | _, _, _, .cons r t, .cons r' t' => by rw [r.inj r', Vals.inj t t']
section
variable {X : Cx} {pins : List (Addr × Obj)} {σ : St} {H : Hp} {s : Shared} {a : Addr} {xs ys : List V}
theorem SqL.of {K : PySem.W.Frag} (h : H a = some (.lst xs)) : SqL K H a xs := .inl (.inl h)
theorem SqT.of {K : PySem.W.Frag} (h : H a = some (.tup xs)) : SqT K H a xs := .inl (.inl h)
theorem Inv.list (I : Inv X pins σ H s) (h : SqL X.K H a xs) : ∃ its : List Value, Vals xs its ∧ PlainL s.heap a its.toArray ∧ xs.length ≤ sizeLine := by
 rcases h with h | ⟨o, its, n, hk, hc, hd, hs, hz, r⟩
 ·obtain ⟨z, its, n, r, e⟩ := h.ok I.hok
  exact ⟨its, r, ⟨_, n, e, rfl, rfl, rfl⟩, z⟩
 ·refine ⟨its.toList, r, ⟨o, n, I.kIn a o hk, hc, hd, by simpa using hs⟩, ?_⟩
  have e := r.length
  simp only [Array.length_toList] at e
  omega
theorem Inv.tuple (I : Inv X pins σ H s) (h : SqT X.K H a xs) : ∃ its : List Value, Vals xs its ∧ IsTup s.heap a its.toArray ∧ xs.length ≤ sizeLine := by
 rcases h with h | ⟨o, its, n, hk, hc, hs, hz, r⟩
 ·obtain ⟨z, its, r, p⟩ := h.ok I.hok
  exact ⟨its, r, p, z⟩
 ·refine ⟨its.toList, r, ⟨o, I.kIn a o hk, hc, n, by simpa using hs⟩, ?_⟩
  have e := r.length
  simp only [Array.length_toList] at e
  omega
theorem Inv.list_inj (I : Inv X pins σ H s) (h : SqL X.K H a xs) (h' : SqL X.K H a ys) : xs = ys := by
 obtain ⟨its, r, ⟨o, n, e, _, _, d⟩, _⟩ := I.list h
 obtain ⟨its', r', ⟨o', n', e', _, _, d'⟩, _⟩ := I.list h'
 rw [e] at e'; cases e'
 rw [d] at d'
 injection d' with d1 _
 have : its = its' := by simpa using congrArg Array.toList d1
 subst this
 exact r.inj r'
end
noncomputable abbrev Cx.wish (X : Cx) (E : Value → Shared → Prop) : Cx := { X with xe := E }
noncomputable abbrev Cx.nox (X : Cx) : Cx := X.wish fun _ _ => False
theorem Cx.Ok.wish {X : Cx} (ok : X.Ok) (E : Value → Shared → Prop) : (X.wish E).Ok :=
 ⟨ok.mod, ok.kind, ok.glob, ok.blt, ok.above, ok.inj, ok.has, ok.cab, ok.hd, ok.frames, ok.stk, ok.exf, ok.bs, ok.bsz, ok.noex, ok.exfs, ok.funs, ok.frf⟩
theorem Cx.Ok.unwish {X : Cx} {E : Value → Shared → Prop} (ok : (X.wish E).Ok) : X.Ok :=
 ⟨ok.mod, ok.kind, ok.glob, ok.blt, ok.above, ok.inj, ok.has, ok.cab, ok.hd, ok.frames, ok.stk, ok.exf, ok.bs, ok.bsz, ok.noex, ok.exfs, ok.funs, ok.frf⟩
section
variable {X : Cx} {pins : List (Addr × Obj)} {σ : St} {H : Hp} {s : Shared} {E : Value → Shared → Prop}
theorem Inv.wish (I : Inv X pins σ H s) (E : Value → Shared → Prop) : Inv (X.wish E) pins σ H s := ⟨I.ok.wish E, I.os, I.bare, I.base, I.loc, I.cell, I.free, I.freeC, I.pin, I.hok, I.len⟩
theorem Inv.unwish (I : Inv (X.wish E) pins σ H s) : Inv X pins σ H s := ⟨I.ok.unwish, I.os, I.bare, I.base, I.loc, I.cell, I.free, I.freeC, I.pin, I.hok, I.len⟩
theorem SP.unwish {D : Ends} {f : Flow} {s' : Shared} (h : SP (X.wish E) pins D f s') : SP X pins D f s' := by
 cases f with
 | next => obtain ⟨σ', H', I, q⟩ := h; exact ⟨σ', H', I.unwish, q⟩
 | brk => obtain ⟨σ', H', I, q⟩ := h; exact ⟨σ', H', I.unwish, q⟩
 | cont => obtain ⟨σ', H', I, q⟩ := h; exact ⟨σ', H', I.unwish, q⟩
 | ret u => obtain ⟨v, σ', H', I, r, q⟩ := h; exact ⟨v, σ', H', I.unwish, r, q⟩
theorem PE.nox {e : Expr} {t : TE} (h : PE X.nox e t) : PE X e t := fun pins s σ H Q I hw =>
 wpAny_mono (h pins s σ H Q (I.wish _) hw) (fun _ _ ⟨v, H', I', r, q⟩ => ⟨v, H', I'.unwish, r, q⟩) fun _ _ z => False.elim z
theorem PT.nox {e : Expr} {t : TT} (h : PT X.nox e t) : PT X e t := fun pins s σ H Q I hw =>
 wpAny_mono (h pins s σ H Q (I.wish _) hw) (fun _ _ ⟨H', I', q⟩ => ⟨H', I'.unwish, q⟩) fun _ _ z => False.elim z
theorem PSs.nox {st : List Stmt} {t : TS} (h : PSs X.nox st t) : PSs X st t := fun pins s σ H D I hw =>
 wpAny_mono (h pins s σ H D (I.wish _) hw) (fun _ _ q => q.unwish) fun _ _ z => False.elim z
end
section
variable {X : Cx} {st : Stmt} {rest : List Stmt} {t u : TS} {e : Expr} {te : TE} {pos : Pos}
noncomputable def tNext : TS := fun D σ H => D.nx σ H
noncomputable def tSeq (t u : TS) : TS := fun D σ H => t { D with nx := u D } σ H
theorem Zja : PSs X [] tNext := fun _ _ σ H _ I h => wpAny_execs_nil ⟨σ, H, I, h⟩
theorem Zht (h1 : PS X st t) (h2 : PSs X rest u) : PSs X (st :: rest) (tSeq t u) := by
 intro pins s σ H D I h
 refine wpAny_execs_cons (thn (h1 pins s σ H { D with nx := u D } I h) fun f s1 q => ?_)
 cases f with
 | next =>
  obtain ⟨σ', H', I', q⟩ := q
  exact h2 pins s1 σ' H' D I' q
 | ret v => exact q
 | brk => exact q
 | cont => exact q
theorem Zjb (h1 : PS X st t) : PSs X [st] t := by
 intro pins s σ H D I h
 refine wpAny_execs_cons (thn (h1 pins s σ H D I h) fun f s1 q => ?_)
 cases f with
 | next => exact wpAny_execs_nil q
 | ret v => exact q
 | brk => exact q
 | cont => exact q
theorem Inv.quiet {pins : List (Addr × Obj)} {σ : St} {H : Hp} {s : Shared} (I : Inv X pins σ H s) : interactive X.env = false := by simp [interactive, I.ok.kind]
noncomputable def tDrop (te : TE) : TS := fun D σ H => te σ H fun _ H1 => D.nx σ H1
theorem Zj9 (he : PE X e te) (hs : swapsWith e none pos.line X.env = pure false := by rfl) : PS X (.Expr e pos) (tDrop te) := by
 intro pins s σ H D I h
 exact wpAny_Expr_any (thn (he pins s σ H _ I h) fun v s1 ⟨x, H1, I1, r1, q1⟩ => ⟨σ, H1, I1, q1⟩) I.quiet hs
noncomputable def tRet (te : TE) : TS := fun D σ H => te σ H D.rt
theorem Zke (he : PE X e te) : PS X (.Return (some e) pos) (tRet te) := by
 intro pins s σ H D I h
 exact wpAny_Return_some (thn (he pins s σ H _ I h) fun v s1 ⟨x, H1, I1, r1, q1⟩ => ⟨x, σ, H1, I1, r1, q1⟩)
noncomputable def tIfS (c : TT) (t u : TS) : TS := fun D σ H => c σ H fun b H1 => if b = true then t D σ H1 else u D σ H1
theorem Zl4 {c : Expr} {a b : List Stmt} {tc : TT} (hc : PT X c tc) (ha : PSs X a t) (hb : PSs X b u) : PS X (.If c a b pos) (tIfS tc t u) := by
 intro pins s σ H D I h
 refine wpAny_If (thn (hc pins s σ H _ I h) fun d s1 ⟨H1, I1, q1⟩ => ?_)
 cases d with
 | true => exact ha pins s1 σ H1 D I1 q1
 | false => exact hb pins s1 σ H1 D I1 q1
end
noncomputable abbrev TG := V → St → Hp → (St → Hp → Prop) → Prop
noncomputable abbrev TGs := List V → St → Hp → (St → Hp → Prop) → Prop
noncomputable def PG (X : Cx) (target : Expr) (t : TG) : Prop :=
 ∀ (pins : List (Addr × Obj)) (s : Shared) (σ : St) (H : Hp) (v : V) (u : Value) (Q : St → Hp → Prop), Inv X pins σ H s → RelV v u → t v σ H Q →
  wpAny (model X.prog X.w) X.A (assign target X.env u) (fun _ s' => ∃ σ' H', Inv X pins σ' H' s' ∧ Q σ' H') X.xe s
noncomputable def PGs (X : Cx) (ts : List Expr) (t : TGs) : Prop :=
 ∀ (pins : List (Addr × Obj)) (s : Shared) (σ : St) (H : Hp) (vs : List V) (us : List Value) (Q : St → Hp → Prop), Inv X pins σ H s → Vals vs us → t vs σ H Q →
  wpAny (model X.prog X.w) X.A (assignInOrder ((assignEach ts X.env).map (·.2)) us) (fun _ s' => ∃ σ' H', Inv X pins σ' H' s' ∧ Q σ' H') X.xe s
noncomputable abbrev TSet := V → V → V → Hp → (Hp → Prop) → Prop
noncomputable def PSet (X : Cx) (t : TSet) : Prop :=
 ∀ (pins : List (Addr × Obj)) (s : Shared) (σ : St) (H : Hp) (o i v : V) (ov iv u : Value) (Q : Hp → Prop), Inv X pins σ H s → RelV o ov → RelV i iv → RelV v u → t o i v H Q →
  wpAny (model X.prog X.w) X.A (setItem ov iv u) (fun _ s' => ∃ H', Inv X pins σ H' s' ∧ Q H') X.xe s
noncomputable abbrev TIp := V → V → Hp → VK → Prop
noncomputable def PIp (X : Cx) (op : Operator) (t : TIp) : Prop :=
 ∀ (pins : List (Addr × Obj)) (s : Shared) (σ : St) (H : Hp) (x y : V) (v u : Value) (Q : VK), Inv X pins σ H s → RelV x v → RelV y u → t x y H Q →
  wpAny (model X.prog X.w) X.A (inplaceOp op v u) (EP X pins σ Q) X.xe s
section
variable {X : Cx} {pos : Pos}
noncomputable def gName (i : Nat) : TG := fun v σ H Q => Q (σ.set i (some v)) H
theorem Zgr {i : Nat} {x : Str} (hN : X.N.Nodup) (hi : X.N[i]? = some x) (hx : Loc X.env.scope x) (hf : X.fn x = true ∨ X.env.scope.names.lookup x = some .local := by first | exact .inl rfl | exact .inr rfl | assumption) : PG X (.Name x pos) (gName i) := by
 intro pins s σ H v u Q I r h
 exact wpAny_assign_Name (Zc1 I hN hi hx r (fun s' I' => ⟨_, H, I', h⟩) hf)
noncomputable def gNil : TGs := fun vs σ H Q => vs = [] ∧ Q σ H
noncomputable def gCons (t : TG) (u : TGs) : TGs := fun vs σ H Q => ∃ v r, vs = v :: r ∧ t v σ H fun σ' H' => u r σ' H' Q
theorem Zj6 : PGs X [] gNil := by
 intro pins s σ H vs us Q I r h
 obtain ⟨e, h⟩ := h
 subst e
 cases r
 exact assignInOrder_nil ⟨σ, H, I, h⟩
theorem Zhr {e : Expr} {es : List Expr} {t : TG} {u : TGs} (h1 : PG X e t) (h2 : PGs X es u)
  (hs : (assignEach (e :: es) X.env).map (·.2) = assign e X.env :: (assignEach es X.env).map (·.2) := by rfl) : PGs X (e :: es) (gCons t u) := by
 intro pins s σ H vs us Q I r h
 obtain ⟨v, vr, e1, h⟩ := h
 subst e1
 cases r with
 | cons r rr =>
  rw [hs]
  refine assignInOrder_cons (thn (h1 pins s σ H _ _ _ I r h) fun _ s1 ⟨σ1, H1, I1, q1⟩ => ?_)
  exact h2 pins s1 σ1 H1 _ _ Q I1 rr q1
noncomputable def gTup (K : PySem.W.Frag) (n : Nat) (t : TGs) : TG := fun v σ H Q => ∃ a xs, v = .ref a ∧ SqT K H a xs ∧ xs.length = n ∧ t xs σ H Q
theorem Zk9 {es : List Expr} {k : Nat} {t : TGs} {n : Nat} (hc : X.calm = true) (h : PGs X es t)
  (hn : (assignEach es X.env).length = n := by rfl) (hst : (assignEach es X.env).findIdx? (·.1) = none := by rfl) : PG X (.Tuple es k pos) (gTup X.K n t) := by
 intro pins s σ H v u Q I r hw
 obtain ⟨a, xs, e1, hq, hl, hw⟩ := hw
 subst e1
 cases r
 obtain ⟨its, rv, ht, hz⟩ := I.tuple hq
 refine assign_Tuple_tuple (I.ok.hd hc) ht (by simp [hn, ← hl, rv.length]) hst fun h' hx => ?_
 have I1 : Inv X pins σ H { s with heap := h' } := I.kept (t' := s.toks) fun b o e => hx b o (Nat.ne_of_lt (Heap.lt_size e)) e
 exact h pins _ σ H xs _ Q I1 (by simpa using rv) hw
noncomputable def gSub (to ti : TE) (t : TSet) : TG := fun v σ H Q => to σ H fun o H1 => ti σ H1 fun i H2 => t o i v H2 fun H3 => Q σ H3
theorem Zk8 {o i : Expr} {to ti : TE} {t : TSet} (ho : PE X o to) (hi : PE X i ti) (hs : PSet X t)
  (ha : ∀ v, assign (.Subscript o i pos) X.env v = (do
   let ov ← holding [v] (eval o X.env)
   let iv ← holding [v, ov] (eval i X.env)
   standAt pos
   holding [v, ov, iv] (setItem ov iv v)
   release [v, ov, iv] []) := by intro _; rfl) : PG X (.Subscript o i pos) (gSub to ti t) := by
 intro pins s σ H v u Q I r h
 rw [ha]
 refine wpAny_bind (wpAny_holding (thn (ho pins s σ H _ I h) fun ov s1 ⟨x, H1, I1, r1, q1⟩ => ?_))
 refine wpAny_bind (wpAny_holding (thn (hi pins s1 σ H1 _ I1 q1) fun iv s2 ⟨y, H2, I2, r2, q2⟩ => ?_))
 refine wpAny_bind (wpAny_standAt (wpAny_bind (wpAny_holding (thn (hs pins s2 σ H2 x y v ov iv u _ I2 r1 r2 r q2) fun _ s3 ⟨H3, I3, q3⟩ => ?_))))
 exact wpAny_release ⟨σ, H3, I3, q3⟩
noncomputable def tAsg (te : TE) (g : TG) : TS := fun D σ H => te σ H fun x H1 => g x σ H1 D.nx
theorem Zka {tg e : Expr} {te : TE} {g : TG} (he : PE X e te) (hg : PG X tg g) (hs : swapsWithSole [tg] e pos.line X.env = pure false := by rfl) (hw : swappedStores [tg] e X.env = pure none := by rfl)
  (h1 : (assignEach [tg] X.env).map (·.2) = [assign tg X.env] := by rfl) : PS X (.Assign [tg] e pos) (tAsg te g) := by
 intro pins s σ H D I h
 refine wpAny_Assign_stores (thn (he pins s σ H _ I h) fun v s1 ⟨x, H1, I1, r1, q1⟩ => ?_) hs hw
 rw [h1]
 exact thn (hg pins s1 σ H1 x v _ I1 r1 q1) fun _ s2 q => q
theorem Zkf {i : Nat} {x : Str} {e : Expr} {te : TE} {pos' : Pos} (hN : X.N.Nodup) (hi : X.N[i]? = some x) (hx : Loc X.env.scope x) (he : PE X e te) (hs : swapsWith e (some (.Name x pos')) pos.line X.env = pure false := by rfl) (hf : X.fn x = true ∨ X.env.scope.names.lookup x = some .local := by first | exact .inl rfl | exact .inr rfl | assumption) :
  PS X (.Assign [.Name x pos'] e pos) (tAsg te (gName i)) := by
 intro pins s σ H D I h
 refine wpAny_Assign_Name (thn (he pins s σ H _ I h) fun v s1 ⟨y, H1, I1, r1, q1⟩ => ?_) hs
 exact Zc1 I1 hN hi hx r1 (fun s2 I2 => ⟨_, H1, I2, q1⟩) hf
noncomputable def tPar (i j : Nat) (ta : TA) : TS := fun D σ H => ta σ H fun vs H1 => ∃ v w, vs = [v, w] ∧ D.nx ((σ.set i (some v)).set j (some w)) H1
theorem Zkd {i j : Nat} {x y : Str} {a b : Expr} {ta : TA} {px py pt : Pos} {kt k2 pt2} (hc : X.calm = true) (hN : X.N.Nodup) (hi : X.N[i]? = some x) (hj : X.N[j]? = some y) (hij : i ≠ j)
  (hx : X.env.scope.names.lookup x = some .local) (hy : X.env.scope.names.lookup y = some .local) (ha : PA X [a, b] ta)
  (hw : swappedStores [.Tuple [.Name x px, .Name y py] kt pt] (.Tuple [a, b] k2 pt2) X.env = pure (some [x, y]))
  (hs : swapsWithSole [.Tuple [.Name x px, .Name y py] kt pt] (.Tuple [a, b] k2 pt2) pos.line X.env = pure false := by rfl) :
  PS X (.Assign [.Tuple [.Name x px, .Name y py] kt pt] (.Tuple [a, b] k2 pt2) pos) (tPar i j ta) := by
 intro pins s σ H D I h
 rw [exec_Assign_arm]
 refine wpAny_bind (wpAny_standAt ?_)
 rw [hs]
 refine wpAny_bind (wpAny_pure ?_)
 rw [if_neg (by decide)]
 refine wpAny_bind (Tuple_ (thn (ha _ pins s σ H _ I h) fun us s1 ⟨vs, H1, I1, r1, q1⟩ => ?_))
 obtain ⟨v, w, e1, q1⟩ := q1
 subst e1
 obtain ⟨u1, u2, rfl, rv, rw'⟩ : ∃ u1 u2, us = [u1, u2] ∧ RelV v u1 ∧ RelV w u2 := by
  cases r1 with
  | cons p q =>
   cases q with
   | cons p' q' =>
    cases q'
    exact ⟨_, _, rfl, p, p'⟩
 refine wpAny_newObj_type ?_ (L2.sz2)
 have I2 : Inv X pins σ H1 { s1 with heap := s1.heap.push { cls := .type "tuple", data := .seq [u1, u2].toArray } } := I1.kept (t' := s1.toks) fun b o e => Heap.get?_push_of_some _ e
 rw [hw]
 refine wpAny_bind (wpAny_pure ?_)
 show wpAny (model X.prog X.w) X.A (do rule "assign.swapped-stores"; let items ← unpackItems (.ref s1.heap.objs.size) 2 none; assignInOrder [fun v => bindName X.env y v, fun v => bindName X.env x v] items.reverse; pure Flow.next) _ _ _
 refine wpAny_bind (wpAny_rule (wpAny_bind (unpackItems_tuple (items := #[u1, u2]) (I.ok.hd hc) (IsTup.new s1.heap _) fun h' hx' => ?_)))
 have I3 := I2.kept (h' := h') (t' := s1.toks) fun b o e => hx' b o (Nat.ne_of_lt (Heap.lt_size e)) e
 show wpAny _ _ (assignInOrder [fun v => bindName X.env y v, fun v => bindName X.env x v] [u2, u1] >>= fun _ => pure Flow.next) _ _ _
 refine wpAny_bind (assignInOrder_cons (wpAny_bindName (Zc1 I3 hN hj (.inl hy) rw' (fun s2 I4 => ?_) (.inr hy))))
 refine assignInOrder_cons (wpAny_bindName (Zc1 I4 hN hi (.inl hx) rv (fun s3 I5 => assignInOrder_nil (wpAny_pure ?_)) (.inr hx)))
 rw [List.set_comm _ _ (Ne.symm hij)] at I5
 exact ⟨_, H1, I5, q1⟩
noncomputable def tAug (i : Nat) (te : TE) (ti : TIp) : TS := fun D σ H => ∃ x, σ[i]? = some (some x) ∧ te σ H fun y H1 => ti x y H1 fun z H2 => D.nx (σ.set i (some z)) H2
theorem Zkb {i : Nat} {x : Str} {e : Expr} {te : TE} {op : Operator} {ti : TIp} {pos' : Pos} (hN : X.N.Nodup) (hi : X.N[i]? = some x) (hx : Loc X.env.scope x) (he : PE X e te) (ho : PIp X op ti) (hf : X.fn x = true ∨ X.env.scope.names.lookup x = some .local := by first | exact .inl rfl | exact .inr rfl | assumption) :
  PS X (.AugAssign (.Name x pos') op e pos) (tAug i te ti) := by
 intro pins s σ H D I h
 obtain ⟨v, e1, h⟩ := h
 obtain ⟨m, hn, hl⟩ := I.loc
 have vis : Vis X.env.scope x := by rcases hx with k | k; exact .inl k; exact .inr (.inl k)
 obtain ⟨u, r, l⟩ := hl i x v hi e1 vis
 refine wpAny_AugAssign_Name ?_
 have go : wpAny (model X.prog X.w) X.A (eval e X.env) (fun w s₂ => wpAny (model X.prog X.w) X.A (inplaceOp op u w) (fun r s₃ => wpAny (model X.prog X.w) X.A (storeName X.env x r) (fun _ => SP X pins D .next) X.xe s₃) X.xe s₂) X.xe s := by
  refine thn (he pins s σ H _ I h) fun w s1 ⟨y, H1, I1, r1, q1⟩ => ?_
  refine thn (ho pins s1 σ H1 v y u w _ I1 r r1 q1) fun z s2 ⟨zv, H2, I2, r2, q2⟩ => ?_
  exact Zc1 I2 hN hi hx r2 (fun s3 I3 => ⟨_, H2, I3, q2⟩) hf
 rcases l with ⟨hk, hm⟩ | ⟨hk, c, hc, hcell⟩
 ·exact wpAny_loadName_local I.ok.kind hk hn hm go
 ·rcases hk with hk | hk
  ·exact wpAny_loadName_cell I.ok.kind hk hc hcell go
  ·rcases hx with k | k
   ·have : X.env.scope.names.lookup x = some .free := hk
    rw [k] at this; cases this
   ·have : X.env.scope.names.lookup x = some .free := hk
    rw [k] at this; cases this
end
section
variable {X : Cx} {pos : Pos}
noncomputable def tWhile (c : TT) (tb : TS) : TS := fun D σ H => ∃ W : Nat → St → Hp → Prop, (∃ m, W m σ H) ∧ ∀ m σ H, W m σ H →
 c σ H fun b H1 => if b = true then ∃ N : St → Hp → Prop, (∀ σ' H', N σ' H' → ∃ m', m' < m ∧ W m' σ' H') ∧ tb { D with nx := N, ct := N, bk := D.nx } σ H1 else D.nx σ H1
theorem Zhs {c : Expr} {body : List Stmt} {tc : TT} {tb : TS} (hp : PassesOwn (model X.prog X.w) X.A X.env X.xe) (hc : PT X c tc) (hb : PSs X body tb) : PS X (.While c body [] pos) (tWhile tc tb) := by
 intro pins s σ H D I h
 obtain ⟨W, ⟨m0, w0⟩, turn⟩ := h
 refine wpAny_While (codeAny_whileLoop (fun n s' => ∃ σ' H', Inv X pins σ' H' s' ∧ W n σ' H') ?_ m0 ⟨σ, H, I, w0⟩)
 rintro n s1 ⟨σ1, H1, I1, w1⟩
 refine wpAny_passesOwn hp (thn (hc pins s1 σ1 H1 _ I1 (turn n σ1 H1 w1)) fun b s2 ⟨H2, I2, q2⟩ => ?_)
 cases b with
 | true =>
  obtain ⟨N, hN, q2⟩ := q2
  rw [if_pos rfl]
  refine wpAny_passesOwn hp (thn (hb pins s2 σ1 H2 _ I2 q2) fun f s3 q3 => ?_)
  cases f with
  | next =>
   obtain ⟨σ3, H3, I3, n3⟩ := q3
   obtain ⟨m', hm, w3⟩ := hN σ3 H3 n3
   exact ⟨m', hm, σ3, H3, I3, w3⟩
  | cont =>
   obtain ⟨σ3, H3, I3, n3⟩ := q3
   obtain ⟨m', hm, w3⟩ := hN σ3 H3 n3
   exact ⟨m', hm, σ3, H3, I3, w3⟩
  | brk => exact q3
  | ret v => exact q3
 | false =>
  rw [if_neg Bool.false_ne_true]
  exact wpAny_execs_nil ⟨σ1, H2, I2, q2⟩
end
structure It where
 go : Nat → Hp → Prop
 yld : Nat → Hp → V → Hp → Prop
 stop : Nat → Hp → Prop
noncomputable def FpOk (X : Cx) (pins : List (Addr × Obj)) (H : Hp) (b : Addr) : Prop :=
 H b = none ∧ b ≠ X.env.locals ∧ b ∉ X.fs ∧ (b ∈ X.ex ∨ X.s₀.heap.objs.size ≤ b) ∧ (∀ x c, X.env.cells.lookup x = some c → c ≠ b) ∧ ∀ p ∈ X.pn ++ pins, p.1 ≠ b
theorem Inv.fpOk {X : Cx} {pins : List (Addr × Obj)} {σ : St} {H H' : Hp} {s : Shared} {b : Addr} (I : Inv X pins σ H s) (hb : s.heap.objs.size ≤ b) (hn : H' b = none) : FpOk X pins H' b := by
 refine ⟨hn, Nat.ne_of_gt (Nat.lt_of_lt_of_le I.lt hb), I.nofs hb, .inr (Nat.le_trans I.sz hb), fun x c e z => ?_, fun p hp z => ?_⟩
 ·obtain ⟨v, q⟩ := I.cell x c e
  exact absurd (Nat.lt_of_lt_of_le q.lt (by rw [z]; exact hb)) (Nat.lt_irrefl _)
 ·exact absurd (Nat.lt_of_lt_of_le (Heap.lt_size (I.pin p hp).1) (by rw [z]; exact hb)) (Nat.lt_irrefl _)
structure Turn (P : Program) (w : World) (K : PySem.W.Frag) (tg : Expr) (J : It) (fp : List Addr) (it : Addr) (tn : Nat → Heap → Prop) : Prop where
 mem : it ∈ fp
 obj : ∀ i h, tn i h → ∀ b ∈ fp, ∃ o, h.get? b = some o ∧ ∀ v, o.data ≠ .cell v
 keep : ∀ i h h', tn i h → (∀ b ∈ fp, ∀ o, h.get? b = some o → h'.get? b = some o) → tn i h'
 item : ∀ (X : Cx), X.prog = P → X.w = w → X.K = K → X.calm = true → ∀ (i : Nat) (pins : List (Addr × Obj)) (s : Shared) (σ : St) (H : Hp) (E : Value → Shared → Prop), Inv X pins σ H s → (∀ b ∈ fp, FpOk X pins H b) → tn i s.heap → J.go i H →
  wpAny (model P w) X.A (pyNext (.ref it)) (fun r s1 => ∃ u, r = some u ∧
   wpAny (model P w) X.A (letOwnedTupleGo tg (.ref it) u) (fun _ s2 => ∃ x H', Inv X pins σ H' s2 ∧ RelV x u ∧ J.yld i H x H' ∧ tn (i + 1) s2.heap ∧ ∀ b ∈ fp, H' b = none) E s1) E s
 done : ∀ (X : Cx), X.prog = P → X.w = w → X.K = K → X.calm = true → ∀ (i : Nat) (pins : List (Addr × Obj)) (s : Shared) (σ : St) (H : Hp) (E : Value → Shared → Prop), Inv X pins σ H s → (∀ b ∈ fp, FpOk X pins H b) → tn i s.heap → J.stop i H →
  wpAny (model P w) X.A (pyNext (.ref it)) (fun r s1 => r = none ∧ Inv X pins σ H s1) E s
 self : ∀ (A : Around) (i : Nat) (s : Shared) (Q : Value → Shared → Prop) (E : Value → Shared → Prop), tn i s.heap → Q (.ref it) s → wpAny (model P w) A (pyIter (.ref it)) Q E s
noncomputable abbrev TI := St → Hp → (It → Hp → Prop) → Prop
noncomputable def PIE (X : Cx) (pins : List (Addr × Obj)) (σ : St) (tg : Expr) (R : It → Hp → Prop) (itv : Value) (s2 : Shared) : Prop :=
 ∃ (it : Addr) (fp : List Addr) (tn : Nat → Heap → Prop) (J : It) (H' : Hp), itv = .ref it ∧ Inv X pins σ H' s2 ∧ Turn X.prog X.w X.K tg J fp it tn ∧ tn 0 s2.heap ∧ (∀ b ∈ fp, FpOk X pins H' b) ∧ R J H'
noncomputable def PI (X : Cx) (tg iter : Expr) (wi : TI) : Prop :=
 ∀ (pins : List (Addr × Obj)) (s : Shared) (σ : St) (H : Hp) (R : It → Hp → Prop), Inv X pins σ H s → wi σ H R →
  wpAny (model X.prog X.w) X.A (eval iter X.env) (fun v s1 => wpAny (model X.prog X.w) X.A (pyIter v) (PIE X pins σ tg R) X.xe s1) X.xe s
theorem Zjs {M : Model} {A : Around} {E : Value → Shared → Prop} {s : Shared} {tg : Expr} {it : Addr} {u : Value} {o : Obj} {n : String} {vs : Array Value} {Q : Unit → Shared → Prop} (ho : s.heap.get? it = some o) (hc : o.cls = .type n) (hd : o.data = .fields vs)
  (hn : ["enumerate", "zip", "dict_itemiterator", "dict_reverseitemiterator", "odict_iterator", "itertools.zip_longest", "itertools.pairwise"].contains n = false) (hQ : Q () s) : wpAny M A (letOwnedTupleGo tg (.ref it) u) Q E s := by
 unfold letOwnedTupleGo
 cases tg <;> first
  | exact wpAny_pure hQ
  | (cases u <;> first
    | exact wpAny_pure hQ
    | (refine wpAny_bind (wpAny_load ho ?_)
       rw [hc, hd]
       show wpAny M A (if (["enumerate", "zip", "dict_itemiterator", "dict_reverseitemiterator", "odict_iterator", "itertools.zip_longest", "itertools.pairwise"].contains n && vs[0]? == some (rawInt _)) = true then _ else _) Q E s
       rw [if_neg (by intro h; rw [hn, Bool.false_and] at h; cases h)]
       exact wpAny_pure hQ))
noncomputable def Itl (K : PySem.W.Frag) (a : Addr) : It :=
 ⟨fun i H => ∃ xs x, SqL K H a xs ∧ xs[i]? = some x, fun i H x H' => H' = H ∧ ∀ xs, SqL K H a xs → xs[i]? = some x, fun i H => ∃ xs, SqL K H a xs ∧ xs.length ≤ i⟩
noncomputable def Itt (K : PySem.W.Frag) (a : Addr) : It :=
 ⟨fun i H => ∃ xs x, SqT K H a xs ∧ xs[i]? = some x, fun i H x H' => H' = H ∧ ∀ xs, SqT K H a xs → xs[i]? = some x, fun i H => ∃ xs, SqT K H a xs ∧ xs.length ≤ i⟩
noncomputable def Itr (lo : Int) (n : Nat) : It := ⟨fun i _ => i < n, fun i H x H' => H' = H ∧ x = .int (lo + i), fun i _ => n ≤ i⟩
theorem Zh5 {P : Program} {w : World} {K : PySem.W.Frag} {tg : Expr} (a it : Addr) : Turn P w K tg (Itl K a) [it] it (fun i h => h.IsListIter it a i) where
 mem := by simp
 obj := fun i h st b hb => by
  have e : b = it := by simpa using hb
  subst e
  obtain ⟨o, e, c, d⟩ := st
  exact ⟨o, e, fun v z => by rw [d] at z; cases z⟩
 keep := fun i h h' st k => st.at fun o e => k it (by simp) o e
 item := by
  intro X hP hw hK hc i pins s σ H E I hf st hg
  subst hP hw hK
  obtain ⟨xs, x, hq, hx⟩ := hg
  obtain ⟨its, rv, p, hz⟩ := I.list hq
  obtain ⟨u, hu, ru⟩ := rv.get hx
  obtain ⟨f0, f1, f2, f3, f4, f5⟩ := hf it (by simp)
  refine wpAny_pyNext_list_item st p.isList (x := u) (by simpa using hu) fun h' st' sb => ?_
  have I1 : Inv X pins σ H { s with heap := h' } := I.turned (t' := s.toks) (fun b o hb e => (sb.2 b hb).trans e) f0 f1 f3 f4 f5
  obtain ⟨o, e, c, d⟩ := id st'
  exact ⟨u, rfl, Zjs (s := { s with heap := h' }) e c d (by decide) ⟨x, H, I1, ru, ⟨rfl, fun ys hy => by rw [I.list_inj hy hq]; exact hx⟩, st', fun b hb => (hf b hb).1⟩⟩
 done := by
  intro X hP hw hK hc i pins s σ H E I hf st hg
  subst hP hw hK
  obtain ⟨xs, hq, hx⟩ := hg
  obtain ⟨its, rv, p, hz⟩ := I.list hq
  obtain ⟨f0, f1, f2, f3, f4, f5⟩ := hf it (by simp)
  have hl := rv.length
  exact wpAny_pyNext_list_end (I.ok.hd hc) st p.isList (by simp; omega) fun h' eb => ⟨rfl, I.turned (t' := s.toks) (fun b o hb e => eb b o hb e) f0 f1 f3 f4 f5⟩
 self := fun _ _ _ _ _ st h => wpAny_pyIter_listiter st h
theorem Zg0 {P : Program} {w : World} {K : PySem.W.Frag} {tg : Expr} (it : Addr) (lo : Int) (n : Nat) : Turn P w K tg (Itr lo n) [it] it (fun i h => IsRangeIter h it (lo + (i : Nat) * 1) ((n : Int) - (i : Nat)) 1) where
 mem := by simp
 obj := fun i h st b hb => by
  have e : b = it := by simpa using hb
  subst e
  exact ⟨_, st, fun v z => by
   have z' : Data.fields _ = Data.cell v := z
   cases z'⟩
 keep := fun i h h' st k => k it (by simp) _ st
 item := by
  intro X hP hw hK hc i pins s σ H E I hf st hg
  subst hP hw hK
  obtain ⟨f0, f1, f2, f3, f4, f5⟩ := hf it (by simp)
  have W := Walks.range (prog := X.prog) (w := X.w) (I.ok.hd hc) it lo 1 n
  refine W.item i s _ _ hg st fun v h' tk hv st' kk => ?_
  obtain ⟨t, rfl⟩ := hv
  have I1 : Inv X pins σ H { s with heap := h', toks := tk } := I.turned (fun b o hb e => kk b o (by simpa using hb) e) f0 f1 f3 f4 f5
  refine ⟨_, rfl, Zjs (s := { s with heap := h', toks := tk }) (n := "range_iterator") st' rfl rfl (by decide) ⟨.int (lo + i), H, I1, ⟨t, ?_⟩, ⟨rfl, rfl⟩, st', fun b hb => (hf b hb).1⟩⟩
  rw [Int.mul_one]
 done := by
  intro X hP hw hK hc i pins s σ H E I hf st hg
  subst hP hw hK
  obtain ⟨f0, f1, f2, f3, f4, f5⟩ := hf it (by simp)
  exact wpAny_pyNext_range_end (I.ok.hd hc) st (by have : n ≤ i := hg; omega) fun h' eb => ⟨rfl, I.turned (t' := s.toks) (fun b o hb e => eb b o hb e) f0 f1 f3 f4 f5⟩
 self := fun _ _ _ _ _ st h => wpAny_pyIter_rangeiter st h
end L2
namespace L2
open PySem PySem.Spec PyProof.Rows
section
variable {X : Cx} {tg : Expr}
noncomputable def iList (K : PySem.W.Frag) (tl : TE) : TI := fun σ H R => tl σ H fun x H1 => ∃ a, x = .ref a ∧ (∃ xs, SqL K H1 a xs) ∧ R (Itl K a) H1
theorem Zj7 {l : Expr} {tl : TE} (hl : PE X l tl) : PI X tg l (iList X.K tl) := by
 intro pins s σ H R I h
 refine thn (hl pins s σ H _ I h) fun v s1 ⟨x, H1, I1, r1, q1⟩ => ?_
 obtain ⟨a, e, ⟨xs, hq⟩, q⟩ := q1
 subst e
 cases r1
 obtain ⟨its, rv, p, hz⟩ := I1.list hq
 refine wpAny_pyIter_list p.isList ?_
 refine ⟨s1.heap.objs.size, [s1.heap.objs.size], _, _, H1, rfl, I1.kept (t' := s1.toks) fun b o e => Heap.get?_push_of_some _ e, Zh5 a _, ⟨_, Heap.get?_push_size _ rfl, rfl, rfl⟩, fun b hb => ?_, q⟩
 have e : b = s1.heap.objs.size := by simpa using hb
 subst e
 exact I1.fpOk (Nat.le_refl _) (I1.hok.fresh (Nat.le_refl _))
theorem Zf9 {pins : List (Addr × Obj)} {σ : St} {H : Hp} {s : Shared} {R : It → Hp → Prop} {E : Value → Shared → Prop} {lo hi : Int} {t u v : Tok} {tk : Nat} (I : Inv X pins σ H s) (h1 : -(2 ^ 62) ≤ lo) (h2 : lo < 2 ^ 62) (h3 : -(2 ^ 62) ≤ hi) (h4 : hi < 2 ^ 62)
  (q : R (Itr lo (hi - lo).toNat) H) : wpAny (model X.prog X.w) X.A (pyIter (.ref s.heap.objs.size)) (PIE X pins σ tg R) E { s with heap := s.heap.push { cls := .type "range", data := .fields #[.int lo t, .int hi u, .int 1 v] }, toks := tk } := by
 refine wpAny_pyIter_range (IsRange.new ..) (small_one h1 h2 h3 h4) ?_
 have I1 : Inv X pins σ H { s with heap := s.heap.push { cls := .type "range", data := .fields #[.int lo t, .int hi u, .int 1 v] }, toks := tk } := I.kept fun b o e => Heap.get?_push_of_some _ e
 refine ⟨(s.heap.push { cls := .type "range", data := .fields #[.int lo t, .int hi u, .int 1 v] }).objs.size, [(s.heap.push { cls := .type "range", data := .fields #[.int lo t, .int hi u, .int 1 v] }).objs.size], _, _, H, rfl,
  I1.kept (t' := tk) fun b o e => Heap.get?_push_of_some _ e, Zg0 _ lo (hi - lo).toNat, ?_, fun b hb => ?_, q⟩
 ·have e1 : lo + ((0 : Nat) : Int) * 1 = lo := by simp
  have e2 : (((hi - lo).toNat : Nat) : Int) - ((0 : Nat) : Int) = Builtin.Range.rangeSize lo hi 1 := by rw [rangeSize_one]; split <;> omega
  show IsRangeIter _ _ (lo + ((0 : Nat) : Int) * 1) ((((hi - lo).toNat : Nat) : Int) - ((0 : Nat) : Int)) 1
  rw [e1, e2]
  exact Heap.get?_push_size _ rfl
 ·have e : b = (s.heap.push { cls := .type "range", data := .fields #[.int lo t, .int hi u, .int 1 v] }).objs.size := by simpa using hb
  subst e
  exact I1.fpOk (Nat.le_refl _) (I1.hok.fresh (Nat.le_refl _))
noncomputable def iRng1 (ta : TA) : TI := fun σ H R => ta σ H fun vs H1 => ∃ j : Int, vs = [.int j] ∧ -(2 ^ 62) ≤ j ∧ j < 2 ^ 62 ∧ R (Itr 0 j.toNat) H1
noncomputable def iRng2 (ta : TA) : TI := fun σ H R => ta σ H fun vs H1 => ∃ i j : Int, vs = [.int i, .int j] ∧ (-(2 ^ 62) ≤ i ∧ i < 2 ^ 62 ∧ -(2 ^ 62) ≤ j ∧ j < 2 ^ 62) ∧ R (Itr i (j - i).toNat) H1
theorem Zgs {a : Expr} {ta : TA} {p pos : Pos} (hg : Gl X "range") (hm : X.mg "range" = none) (ha : PA X [a] ta) (hs : starEach [a] X.env = [(false, eval a X.env)] := by rfl) : PI X tg (.Call (.Name "range" p) [a] [] pos) (iRng1 ta) := by
 intro pins s σ H R I h
 refine Call_ (Zf5 I hg hm boot_range (PyProof.Rows.callWith_type1 (thn (ha pos pins s σ H _ I h) fun us s1 ⟨vs, H1, I1, r1, q1⟩ => ?_) hs rfl))
 obtain ⟨j, e, q1, q2, q⟩ := q1
 subst e
 cases r1 with
 | cons r rr =>
  cases rr
  obtain ⟨t, rfl⟩ := r
  exact call_range_1 (Zf9 I1 (by omega) (by omega) q1 q2 (by simpa using q))
theorem Zgt {a b : Expr} {ta : TA} {p pos : Pos} (hg : Gl X "range") (hm : X.mg "range" = none) (ha : PA X [a, b] ta) (hs : starEach [a, b] X.env = [(false, eval a X.env), (false, eval b X.env)] := by rfl) (hs2 : starEach [b] X.env = [(false, eval b X.env)] := by rfl) :
  PI X tg (.Call (.Name "range" p) [a, b] [] pos) (iRng2 ta) := by
 intro pins s σ H R I h
 refine Call_ (Zf5 I hg hm boot_range (PyProof.Rows.callWith_type1 (thn (ha pos pins s σ H _ I h) fun us s1 ⟨vs, H1, I1, r1, q1⟩ => ?_) (by rw [hs, hs2]) (by rw [hs2]; rfl)))
 obtain ⟨i, j, e, ⟨q1, q2, q3, q4⟩, q⟩ := q1
 subst e
 cases r1 with
 | cons r rr =>
  cases rr with
  | cons r' rr =>
   cases rr
   obtain ⟨t, rfl⟩ := r
   obtain ⟨t', rfl⟩ := r'
   exact call_range_2 (Zf9 I1 q1 q2 q3 q4 q)
noncomputable def tFor (wi : TI) (g : TG) (tb : TS) : TS := fun D σ H => wi σ H fun J H1 => ∃ W : Nat → Nat → St → Hp → Prop, (∃ m, W 0 m σ H1) ∧ ∀ i m σ H, W i m σ H →
 (J.stop i H ∧ D.nx σ H) ∨ (J.go i H ∧ ∃ N : St → Hp → Prop, (∀ σ' H', N σ' H' → ∃ m', m' < m ∧ W (i + 1) m' σ' H') ∧ ∀ x H', J.yld i H x H' → g x σ H' fun σ2 H2 => tb { D with nx := N, ct := N, bk := D.nx } σ2 H2)
noncomputable def pinsAt (fp : List Addr) (h : Heap) : List (Addr × Obj) := fp.filterMap fun b => (h.get? b).map fun o => (b, o)
theorem Zbr {fp : List Addr} {h : Heap} {b : Addr} {o : Obj} (hb : b ∈ fp) (e : h.get? b = some o) : (b, o) ∈ pinsAt fp h := List.mem_filterMap.mpr ⟨b, hb, by rw [e]; rfl⟩
theorem Ze5 {fp : List Addr} {h : Heap} {p : Addr × Obj} (hp : p ∈ pinsAt fp h) : p.1 ∈ fp ∧ h.get? p.1 = some p.2 := by
 obtain ⟨b, hb, e⟩ := List.mem_filterMap.mp hp
 cases q : h.get? b with
 | none => rw [q] at e; cases e
 | some o =>
  rw [q] at e
  have e' : (b, o) = p := Option.some.inj e
  subst e'
  exact ⟨hb, q⟩
theorem Inv.pinned {pins : List (Addr × Obj)} {σ : St} {H : Hp} {s : Shared} {fp : List Addr} (I : Inv X pins σ H s) (hf : ∀ b ∈ fp, FpOk X pins H b) (ho : ∀ b ∈ fp, ∃ o, s.heap.get? b = some o ∧ ∀ v, o.data ≠ .cell v) : Inv X (pins ++ pinsAt fp s.heap) σ H s :=
 I.pins_of fun p hp => (List.mem_append.mp hp).elim (fun z => I.pin p (List.mem_append_right _ z)) fun z => by
  obtain ⟨hb, e⟩ := Ze5 z
  obtain ⟨f0, f1, f2, _⟩ := hf p.1 hb
  obtain ⟨o, e', d⟩ := ho p.1 hb
  rw [e] at e'; cases e'
  exact ⟨e, f0, f1, f2, d⟩
theorem Inv.unpinned {pins pl : List (Addr × Obj)} {σ : St} {H : Hp} {s : Shared} (I : Inv X (pins ++ pl) σ H s) : Inv X pins σ H s := I.pins_of fun p hp => I.pin p (List.mem_append_right _ (List.mem_append_left _ hp))
theorem Zkc {iter : Expr} {body : List Stmt} {wi : TI} {g : TG} {tb : TS} {pos : Pos} (hp : PassesOwn (model X.prog X.w) X.A X.env X.xe) (hc : X.calm = true) (hi : PI X tg iter wi) (hg : PG X tg g) (hb : PSs X body tb)
  (hs : ∀ x, foldedSetIterable iter X.env x = pure x := by intro _; rfl) : PS X (.For tg iter body [] pos) (tFor wi g tb) := by
 intro pins s σ H D I h
 refine wpAny_For (thn (hi pins s σ H _ I h) fun v s1 h1 => thn h1 fun itv s2 h2 => ?_) hs
 obtain ⟨it, fp, tn, J, H2, e, I2, T, st2, f2, W, ⟨m0, w0⟩, turn⟩ := h2
 subst e
 -- what stays true of the iterator's objects through the loop
 have stat : ∀ {H' : Hp}, (∀ b ∈ fp, H' b = none) → ∀ b ∈ fp, FpOk X pins H' b := fun hn b hb => ⟨hn b hb, (f2 b hb).2⟩
 refine codeAny_forLoop_any (fun n s' => ∃ i σ' H', Inv X pins σ' H' s' ∧ tn i s'.heap ∧ (∀ b ∈ fp, H' b = none) ∧ W i n σ' H') ?_ m0 ⟨0, σ, H2, I2, st2, fun b hb => (f2 b hb).1, w0⟩
 rintro n s3 ⟨i, σ3, H3, I3, st3, fr3, w3⟩
 rcases turn i n σ3 H3 w3 with ⟨stop, qn⟩ | ⟨go, N, hN, step⟩
 ·refine wpAny_passesOwn hp (thn (T.done X rfl rfl rfl hc i pins s3 σ3 H3 X.xe I3 (stat fr3) st3 stop) fun r s4 ⟨hr, I4⟩ => ?_)
  subst hr
  exact wpAny_execs_nil ⟨σ3, H3, I4, qn⟩
 ·refine wpAny_passesOwn hp (thn (T.item X rfl rfl rfl hc i pins s3 σ3 H3 X.xe I3 (stat fr3) st3 go) fun r s4 ⟨u, hr, h4⟩ => ?_)
  subst hr
  refine wpAny_passesOwn hp (thn h4 fun _ s5 ⟨x, H5, I5, r5, y5, st5, fr5⟩ => ?_)
  have I5' := I5.pinned (stat fr5) (T.obj _ _ st5)
  refine wpAny_passesOwn hp (thn (hg _ s5 σ3 H5 x u _ I5' r5 (step x H5 y5)) fun _ s6 ⟨σ6, H6, I6, q6⟩ => ?_)
  refine wpAny_passesOwn hp (thn (hb _ s6 σ6 H6 _ I6 q6) fun f s7 q7 => ?_)
  have again : ∀ {σ7 : St} {H7 : Hp}, Inv X (pins ++ pinsAt fp s5.heap) σ7 H7 s7 → N σ7 H7 → ∃ m, m < n ∧ ∃ i σ' H', Inv X pins σ' H' s7 ∧ tn i s7.heap ∧ (∀ b ∈ fp, H' b = none) ∧ W i m σ' H' := fun {σ7 H7} I7 n7 => by
   obtain ⟨m', hm, w7⟩ := hN σ7 H7 n7
   refine ⟨m', hm, i + 1, σ7, H7, I7.unpinned, T.keep _ _ _ st5 fun b hb o e => (I7.pin (b, o) (List.mem_append_right _ (List.mem_append_right _ (Zbr hb e)))).1, fun b hb => ?_, w7⟩
   obtain ⟨o, e, d⟩ := T.obj _ _ st5 b hb
   exact (I7.pin (b, o) (List.mem_append_right _ (List.mem_append_right _ (Zbr hb e)))).2.1
  cases f with
  | next => obtain ⟨σ7, H7, I7, n7⟩ := q7; exact again I7 n7
  | cont => obtain ⟨σ7, H7, I7, n7⟩ := q7; exact again I7 n7
  | brk => obtain ⟨σ7, H7, I7, q7⟩ := q7; exact ⟨σ7, H7, I7.unpinned, q7⟩
  | ret v => obtain ⟨x7, σ7, H7, I7, r7, q7⟩ := q7; exact ⟨x7, σ7, H7, I7.unpinned, r7, q7⟩
end
end L2
namespace L2
open PySem PySem.Spec PyProof.Rows
noncomputable abbrev R2 := V → V → Hp → VK → Prop
noncomputable def OpR (X : Cx) (f : Value → Value → Sem Value) (r : R2) : Prop :=
 ∀ (pins : List (Addr × Obj)) (s : Shared) (σ : St) (H : Hp) (x y : V) (v u : Value) (Q : VK), Inv X pins σ H s → RelV x v → RelV y u → r x y H Q →
  wpAny (model X.prog X.w) X.A (f v u) (EP X pins σ Q) X.xe s
noncomputable def UnR (X : Cx) (f : Value → Sem Value) (r : V → Hp → VK → Prop) : Prop :=
 ∀ (pins : List (Addr × Obj)) (s : Shared) (σ : St) (H : Hp) (x : V) (v : Value) (Q : VK), Inv X pins σ H s → RelV x v → r x H Q →
  wpAny (model X.prog X.w) X.A (f v) (EP X pins σ Q) X.xe s
noncomputable def CallR (X : Cx) (f : Value) (r : List V → Hp → VK → Prop) : Prop :=
 ∀ (pins : List (Addr × Obj)) (s : Shared) (σ : St) (H : Hp) (xs : List V) (us : List Value) (Q : VK), Inv X pins σ H s → Vals xs us → r xs H Q →
  wpAny (model X.prog X.w) X.A (call f us) (EP X pins σ Q) X.xe s
noncomputable def TruR (X : Cx) (r : V → Hp → (Bool → Hp → Prop) → Prop) : Prop :=
 ∀ (pins : List (Addr × Obj)) (s : Shared) (σ : St) (H : Hp) (x : V) (v : Value) (Q : Bool → Hp → Prop), Inv X pins σ H s → RelV x v → r x H Q →
  wpAny (model X.prog X.w) X.A (truthy v) (TP X pins σ Q) X.xe s
noncomputable def tOp (r : R2) (ta tb : TE) : TE := fun σ H Q => ta σ H fun x H1 => tb σ H1 fun y H2 => r x y H2 Q
noncomputable def tUn (r : V → Hp → VK → Prop) (ta : TE) : TE := fun σ H Q => ta σ H fun x H1 => r x H1 Q
noncomputable def rI (C : Int → Int → Prop) (g : Int → Int → V) : R2 := fun x y H Q => ∃ i j, x = .int i ∧ y = .int j ∧ C i j ∧ Q (g i j) H
noncomputable def rI0 (g : Int → Int → V) : R2 := fun x y H Q => ∃ i j, x = .int i ∧ y = .int j ∧ Q (g i j) H
noncomputable def rU (g : Int → V) : V → Hp → VK → Prop := fun x H Q => ∃ i, x = .int i ∧ Q (g i) H
section
variable {X : Cx} {a b c : Expr} {ta tb tc : TE} {pos : Pos}
theorem binT (ha : PE X a ta) (hb : PE X b tb) {pins : List (Addr × Obj)} {s : Shared} {σ : St} {H : Hp} {R : V → V → Hp → Prop} (I : Inv X pins σ H s)
  (h : ta σ H fun x H1 => tb σ H1 fun y H2 => R x y H2) {Q : Value → Shared → Prop} {f : Value → Value → Sem Value}
  (hf : ∀ v u s2 x y H2, Inv X pins σ H2 s2 → RelV x v → RelV y u → R x y H2 → wpAny (model X.prog X.w) X.A (f v u) Q X.xe s2) :
  wpAny (model X.prog X.w) X.A (eval a X.env) (fun v s₁ => wpAny (model X.prog X.w) X.A (eval b X.env) (fun u s₂ => wpAny (model X.prog X.w) X.A (f v u) Q X.xe s₂) X.xe s₁) X.xe s := by
 refine thn (ha pins s σ H _ I h) fun v s1 ⟨x, H1, I1, r1, q1⟩ => ?_
 refine thn (hb pins s1 σ H1 _ I1 q1) fun u s2 ⟨y, H2, I2, r2, q2⟩ => ?_
 exact hf v u s2 x y H2 I2 r1 r2 q2
theorem Zl2 {op : Operator} {r : R2} (ho : OpR X (binaryOp op) r) (ha : PE X a ta) (hb : PE X b tb) : PE X (.BinOp a op b pos) (tOp r ta tb) := by
 intro pins s σ H Q I h
 exact wpAny_BinOp (binT ha hb I h fun v u s2 x y H2 I2 rx ry q => ho pins s2 σ H2 x y v u Q I2 rx ry q)
theorem Zl3 {op : UnaryOp} {r : V → Hp → VK → Prop} (ho : UnR X (unaryOp op) r) (ha : PE X a ta) : PE X (.UnaryOp op a pos) (tUn r ta) := by
 intro pins s σ H Q I h
 exact UnaryOp_ (thn (ha pins s σ H _ I h) fun v s1 ⟨x, H1, I1, r1, q1⟩ => ho pins s1 σ H1 x v Q I1 r1 q1)
theorem opI {f : Value → Value → Sem Value} {C : Int → Int → Prop} {g : Int → Int → Int}
  (rule : ∀ (i j : Int) (t u : Tok) (s : Shared) (Q : Value → Shared → Prop) (E : Value → Shared → Prop), C i j → Q (.int (g i j) s.toks) { s with toks := s.toks + 1 } → wpAny (model X.prog X.w) X.A (f (.int i t) (.int j u)) Q E s) :
  OpR X f (rI C fun i j => .int (g i j)) := by
 intro pins s σ H x y v u Q I rx ry h
 obtain ⟨i, j, rfl, rfl, hc, q⟩ := h
 obtain ⟨t, rfl⟩ := rx
 obtain ⟨t', rfl⟩ := ry
 exact rule i j t t' s _ _ hc ⟨.int (g i j), H, I.tok _, ⟨_, rfl⟩, q⟩
theorem opI0 {f : Value → Value → Sem Value} {g : Int → Int → Int}
  (rule : ∀ (i j : Int) (t u : Tok) (s : Shared) (Q : Value → Shared → Prop) (E : Value → Shared → Prop), Q (.int (g i j) s.toks) { s with toks := s.toks + 1 } → wpAny (model X.prog X.w) X.A (f (.int i t) (.int j u)) Q E s) :
  OpR X f (rI0 fun i j => .int (g i j)) := by
 intro pins s σ H x y v u Q I rx ry h
 obtain ⟨i, j, rfl, rfl, q⟩ := h
 obtain ⟨t, rfl⟩ := rx
 obtain ⟨t', rfl⟩ := ry
 exact rule i j t t' s _ _ ⟨.int (g i j), H, I.tok _, ⟨_, rfl⟩, q⟩
theorem opB0 {f : Value → Value → Sem Value} {g : Int → Int → Bool}
  (rule : ∀ (i j : Int) (t u : Tok) (s : Shared) (Q : Value → Shared → Prop) (E : Value → Shared → Prop), Q (.bool (g i j)) s → wpAny (model X.prog X.w) X.A (f (.int i t) (.int j u)) Q E s) :
  OpR X f (rI0 fun i j => .bl (g i j)) := by
 intro pins s σ H x y v u Q I rx ry h
 obtain ⟨i, j, rfl, rfl, q⟩ := h
 obtain ⟨t, rfl⟩ := rx
 obtain ⟨t', rfl⟩ := ry
 exact rule i j t t' s _ _ ⟨.bl (g i j), H, I, rfl, q⟩
noncomputable def CDiv (i j : Int) : Prop := 0 < j ∧ j < 1073741824
noncomputable def CMul (i j : Int) : Prop := (-(2 ^ 64) < i ∧ i < 2 ^ 64) ∨ (-(2 ^ 64) < j ∧ j < 2 ^ 64)
theorem CMul.ok {i j : Int} (h : CMul i j) : IntMulOk i j := by
 rcases h with ⟨h1, h2⟩ | ⟨h1, h2⟩
 ·exact .of_left (intBits_le_64 h1 h2)
 ·exact .of_right (intBits_le_64 h1 h2)
theorem Zbg : OpR X (binaryOp .Add) (rI0 fun i j => .int (i + j)) := opI0 fun _ _ _ _ _ _ _ q => add_int q
theorem Zep : OpR X (binaryOp .FloorDiv) (rI CDiv fun i j => .int (i / j)) := opI fun i j _ _ _ _ _ hc q => by
 have h1 : (0 : Int) < j := hc.1
 have h2 : j < 1073741824 := hc.2
 exact floordiv_int (by omega) (by rw [Int.fdiv_eq_ediv_of_nonneg i (by omega)]; exact q) (.inl (PyProof.noPylong_small (by omega)))
theorem Zcr : OpR X (binaryOp .Mod) (rI (fun _ j => 0 < j) fun i j => .int (i % j)) := opI fun i j _ _ _ _ _ hc q => by
 have h1 : (0 : Int) < j := hc
 exact mod_int' (by omega) (by rw [Int.fmod_eq_emod_of_nonneg i (by omega)]; exact q)
theorem unI {f : Value → Sem Value} {g : Int → Int}
  (rule : ∀ (i : Int) (t : Tok) (s : Shared) (Q : Value → Shared → Prop) (E : Value → Shared → Prop), Q (.int (g i) s.toks) { s with toks := s.toks + 1 } → wpAny (model X.prog X.w) X.A (f (.int i t)) Q E s) :
  UnR X f (rU fun i => .int (g i)) := by
 intro pins s σ H x v Q I rx h
 obtain ⟨i, rfl, q⟩ := h
 obtain ⟨t, rfl⟩ := rx
 exact rule i t s _ _ ⟨.int (g i), H, I.tok _, ⟨_, rfl⟩, q⟩
theorem Zku : UnR X (unaryOp .USub) (rU fun i => .int (-i)) := unI fun _ _ _ _ _ q => neg_int q
end
noncomputable def scal : V → V → Bool
 | .non, .non => true | .non, .int _ => true | .int _, .non => true | .non, .bl _ => true | .bl _, .non => true | .non, .str _ => true | .str _, .non => true
 | .int _, .int _ => true | .bl _, .bl _ => true | .str _, .str _ => true | .byt _, .byt _ => true
 | .int _, .str _ => true | .str _, .int _ => true | .bl _, .str _ => true | .str _, .bl _ => true
 | _, _ => false
noncomputable def rEq : R2 := fun x y H Q => scal x y = true ∧ Q (.bl (decide (x = y))) H
noncomputable def rNe : R2 := fun x y H Q => scal x y = true ∧ Q (.bl (!decide (x = y))) H
theorem Zg8 {i j : Int} : decide (V.int i = V.int j) = (i == j) := by
 rw [Bool.eq_iff_iff]
 simp
theorem Zib {i j : Bool} : decide (V.bl i = V.bl j) = (i == j) := by
 rw [Bool.eq_iff_iff]
 simp
theorem Zg9 {i j : Str} : decide (V.str i = V.str j) = (i == j) := by
 rw [Bool.eq_iff_iff]
 simp
theorem Zg7 {i j : Array UInt8} : decide (V.byt i = V.byt j) = (i.toList == j.toList) := by
 rw [Bool.eq_iff_iff]
 cases i
 cases j
 simp
section
variable {X : Cx} {a b c : Expr} {ta tb tc : TE} {pos : Pos}
theorem Zao {pins : List (Addr × Obj)} {σ : St} {H : Hp} {s : Shared} {Q : VK} {k k' : Bool} (I : Inv X pins σ H s) (q : Q (.bl k) H) (e : k = k') : EP X pins σ Q (.bool k') s := by
 subst e
 exact ⟨.bl k, H, I, rfl, q⟩
theorem Zkw : OpR X (compareOp .Eq) rEq := by
 intro pins s σ H x y v u Q I rx ry h
 obtain ⟨hs, q⟩ := h
 cases x with
 | non =>
  cases rx
  cases y with
  | non => cases ry; exact PySem.EqNone.eq_none_none (Zao I q (by simp))
  | bl j => cases ry; exact PySem.EqNone.eq_none_bool (Zao I q (by simp))
  | int j => obtain ⟨t', rfl⟩ := ry; exact PySem.EqNone.eq_none_int (Zao I q (by simp))
  | str j => obtain ⟨t', rfl⟩ := ry; exact PySem.EqNone.eq_none_str (Zao I q (by simp))
  | _ => exact absurd (show false = true from hs) Bool.false_ne_true
 | bl i =>
  cases rx
  cases y with
  | non => cases ry; exact PySem.EqNone.eq_bool_none (Zao I q (by simp))
  | bl j => cases ry; exact eq_bool (Zao I q Zib)
  | str j => obtain ⟨t', rfl⟩ := ry; exact PySem.EqMixed.eq_bool_str (Zao I q (by simp))
  | _ => exact absurd (show false = true from hs) Bool.false_ne_true
 | int i =>
  obtain ⟨t, rfl⟩ := rx
  cases y with
  | non => cases ry; exact PySem.EqNone.eq_int_none (Zao I q (by simp))
  | int j => obtain ⟨t', rfl⟩ := ry; exact eq_int (Zao I q Zg8)
  | str j => obtain ⟨t', rfl⟩ := ry; exact PySem.EqMixed.eq_int_str (Zao I q (by simp))
  | _ => exact absurd (show false = true from hs) Bool.false_ne_true
 | str i =>
  obtain ⟨t, rfl⟩ := rx
  cases y with
  | non => cases ry; exact PySem.EqNone.eq_str_none (Zao I q (by simp))
  | bl j => cases ry; exact PySem.EqMixed.eq_str_bool (Zao I q (by simp))
  | int j => obtain ⟨t', rfl⟩ := ry; exact PySem.EqMixed.eq_str_int (Zao I q (by simp))
  | str j => obtain ⟨t', rfl⟩ := ry; exact eq_str (Zao I q Zg9)
  | _ => exact absurd (show false = true from hs) Bool.false_ne_true
 | byt i =>
  obtain ⟨t, rfl⟩ := rx
  cases y with
  | byt j => obtain ⟨t', rfl⟩ := ry; exact PySem.W.eq_bytes (Zao I q Zg7)
  | _ => exact absurd (show false = true from hs) Bool.false_ne_true
 | _ => cases y <;> exact absurd (show false = true from hs) Bool.false_ne_true
theorem Zky : OpR X (compareOp .NotEq) rNe := by
 intro pins s σ H x y v u Q I rx ry h
 obtain ⟨hs, q⟩ := h
 cases x with
 | non =>
  cases rx
  cases y with
  | non => cases ry; exact PySem.EqNone.ne_none_none (Zao I q (by simp))
  | bl j => cases ry; exact PySem.EqNone.ne_none_bool (Zao I q (by simp))
  | int j => obtain ⟨t', rfl⟩ := ry; exact PySem.EqNone.ne_none_int (Zao I q (by simp))
  | str j => obtain ⟨t', rfl⟩ := ry; exact PySem.EqNone.ne_none_str (Zao I q (by simp))
  | _ => exact absurd (show false = true from hs) Bool.false_ne_true
 | bl i =>
  cases rx
  cases y with
  | non => cases ry; exact PySem.EqNone.ne_bool_none (Zao I q (by simp))
  | bl j => cases ry; exact ne_bool (Zao I q (congrArg not Zib))
  | str j => obtain ⟨t', rfl⟩ := ry; exact PySem.EqMixed.ne_bool_str (Zao I q (by simp))
  | _ => exact absurd (show false = true from hs) Bool.false_ne_true
 | int i =>
  obtain ⟨t, rfl⟩ := rx
  cases y with
  | non => cases ry; exact PySem.EqNone.ne_int_none (Zao I q (by simp))
  | int j => obtain ⟨t', rfl⟩ := ry; exact ne_int (Zao I q (congrArg not Zg8))
  | str j => obtain ⟨t', rfl⟩ := ry; exact PySem.EqMixed.ne_int_str (Zao I q (by simp))
  | _ => exact absurd (show false = true from hs) Bool.false_ne_true
 | str i =>
  obtain ⟨t, rfl⟩ := rx
  cases y with
  | non => cases ry; exact PySem.EqNone.ne_str_none (Zao I q (by simp))
  | bl j => cases ry; exact PySem.EqMixed.ne_str_bool (Zao I q (by simp))
  | int j => obtain ⟨t', rfl⟩ := ry; exact PySem.EqMixed.ne_str_int (Zao I q (by simp))
  | str j => obtain ⟨t', rfl⟩ := ry; exact ne_str (Zao I q (congrArg not Zg9))
  | _ => exact absurd (show false = true from hs) Bool.false_ne_true
 | byt i =>
  obtain ⟨t, rfl⟩ := rx
  cases y with
  | byt j => obtain ⟨t', rfl⟩ := ry; exact PySem.W.ne_bytes (Zao I q (congrArg not Zg7))
  | _ => exact absurd (show false = true from hs) Bool.false_ne_true
 | _ => cases y <;> exact absurd (show false = true from hs) Bool.false_ne_true
theorem Zk1 : OpR X (compareOp .Lt) (rI0 fun i j => .bl (decide (i < j))) := opB0 fun _ _ _ _ _ _ _ q => lt_int q
theorem Zkx : OpR X (compareOp .Gt) (rI0 fun i j => .bl (decide (j < i))) := opB0 fun _ _ _ _ _ _ _ q => gt_int q
theorem nomark (b : Expr) {op : CmpOp} (h : op ≠ .In := by decide) (h2 : op ≠ .NotIn := by decide) : behindInMarks op b = false := by
 have e1 : (op == CmpOp.In) = false := by cases op <;> first | rfl | exact absurd rfl h
 have e2 : (op == CmpOp.NotIn) = false := by cases op <;> first | rfl | exact absurd rfl h2
 cases b <;> simp [behindInMarks, e1, e2]
theorem Zj4 {op : CmpOp} {r : R2} (ho : OpR X (compareOp op) r) (ha : PE X a ta) (hb : PE X b tb) (hm : behindInMarks op b = false) : PE X (.Compare a [op] [b] pos) (tOp r ta tb) := by
 intro pins s σ H Q I h
 exact wpAny_Compare1 (binT ha hb I h fun v u s2 x y H2 I2 rx ry q => ho pins s2 σ H2 x y v u Q I2 rx ry q) hm
noncomputable def tTest (t : TE) : TT := fun σ H Q => t σ H fun x H' => ∃ k, x = .bl k ∧ Q k H'
theorem Zjc {op : CmpOp} {r : R2} (ho : OpR X (compareOp op) r) (ha : PE X a ta) (hb : PE X b tb) (hm : behindInMarks op b = false) : PT X (.Compare a [op] [b] pos) (tTest (tOp r ta tb)) := by
 intro pins s σ H Q I h
 refine wpAny_isTrue_Compare1 (thn (ha pins s σ H _ I h) fun v s1 ⟨x, H1, I1, r1, q1⟩ => thn (hb pins s1 σ H1 _ I1 q1) fun u s2 ⟨y, H2, I2, r2, q2⟩ =>
  thn (ho pins s2 σ H2 x y v u _ I2 r1 r2 q2) fun c s3 ⟨z, H3, I3, r3, k, e, q3⟩ => ?_) hm
 subst e
 cases r3
 exact wpAny_truthy_bool ⟨H3, I3, q3⟩
noncomputable def TruV (K : PySem.W.Frag) (x : V) (H : Hp) (k : Bool) : Prop :=
 match x with
 | .non => k = false
 | .bl b => k = b
 | .int i => k = (i != 0)
 | .str y => y.length ≤ sizeLine ∧ k = ((y.length : Int) != 0)
 | .byt y => y.size ≤ sizeLine ∧ k = ((y.size : Int) != 0)
 | .ref p => (∃ xs, SqL K H p xs ∧ k = !xs.isEmpty) ∨ (∃ xs, SqT K H p xs ∧ k = !xs.isEmpty) ∨ ∃ kvs, H p = some (.dK kvs) ∧ k = !kvs.isEmpty
 | _ => False
theorem Zfq {κ : Type} {kvs : List (κ × V)} {vs : List (κ × Value)} (r : KV kvs vs) : (!vs.isEmpty) = !kvs.isEmpty := by
 cases r <;> rfl
theorem Zd6 {xs : List V} {its : List Value} (r : Vals xs its) : (!its.toArray.isEmpty) = !xs.isEmpty := by
 cases r <;> simp
theorem line63 : (sizeLine : Nat) < 2 ^ 63 := by rw [sizeLine_eq]; decide
theorem Zks : TruR X (fun x H Q => ∃ k, TruV X.K x H k ∧ Q k H) := by
 intro pins s σ H x v Q I rx h
 obtain ⟨k, e, q⟩ := h
 have hl := line63
 have hs : sizeLine = 16777216 := sizeLine_eq
 cases x with
 | non =>
  cases rx
  have e' : k = false := e
  subst e'
  exact truthy_none ⟨H, I, q⟩
 | bl b =>
  cases rx
  have e' : k = b := e
  subst e'
  exact wpAny_truthy_bool ⟨H, I, q⟩
 | int i =>
  obtain ⟨t, rfl⟩ := rx
  have e' : k = (i != 0) := e
  subst e'
  exact PySem.P.truthy_int ⟨H, I, q⟩
 | str y =>
  obtain ⟨t, rfl⟩ := rx
  obtain ⟨hy, e'⟩ : y.length ≤ sizeLine ∧ k = ((y.length : Int) != 0) := e
  subst e'
  exact PySem.P.truthy_str (by omega) ⟨H, I.tok _, q⟩
 | byt y =>
  obtain ⟨t, rfl⟩ := rx
  obtain ⟨hy, e'⟩ : y.size ≤ sizeLine ∧ k = ((y.size : Int) != 0) := e
  subst e'
  exact PySem.W.truthy_bytes (by omega) ⟨H, I.tok _, q⟩
 | ref p =>
  cases rx
  have e' : (∃ xs, SqL X.K H p xs ∧ k = !xs.isEmpty) ∨ (∃ xs, SqT X.K H p xs ∧ k = !xs.isEmpty) ∨ ∃ kvs, H p = some (.dK kvs) ∧ k = !kvs.isEmpty := e
  rcases e' with ⟨xs, hx, e'⟩ | ⟨xs, hx, e'⟩ | ⟨kvs, hx, e'⟩
  ·subst e'
   obtain ⟨its, r, pl, hz⟩ := I.list hx
   have hlen := r.length
   exact wpAny_truthy_list pl.isList (by simp only [List.size_toArray]; omega) ⟨H, I.tok _, by rw [Zd6 r]; exact q⟩
  ·subst e'
   obtain ⟨its, r, pl, hz⟩ := I.tuple hx
   have hlen := r.length
   exact truthy_tuple pl (by simp only [List.size_toArray]; omega) ⟨H, I.tok _, by rw [Zd6 r]; exact q⟩
  ·subst e'
   obtain ⟨hz, hS, vs, r, m⟩ : kvs.length ≤ sizeLine ∧ (p == sysModules) = false ∧ ∃ vs, KV kvs vs ∧ s.heap.DictOf (mixKind X.prog X.w) p vs := I.hok p _ hx
   have hlen : kvs.length = vs.length := Paired.length r
   exact wpAny_truthy_dict hS m (by omega) ⟨H, I.tok _, by rw [Zfq r]; exact q⟩
 | _ => exact (show False from e).elim
theorem Zhu (ha : PE X a ta) (he : ∀ whole, isTrue a X.env whole = (do let v ← whole; standAt a.pos; holding [v] (truthy v))) :
  PT X a (fun σ H Q => ta σ H fun x H' => ∃ k, TruV X.K x H' k ∧ Q k H') := by
 intro pins s σ H Q I h
 exact isTrue_plain (thn (ha pins s σ H _ I h) fun v s1 ⟨x, H1, I1, r1, q1⟩ => Zks pins s1 σ H1 x v Q I1 r1 q1) (he _)
theorem vals1 {x : V} {us : List Value} (r : Vals [x] us) : ∃ u, us = [u] ∧ RelV x u := by
 cases r with
 | cons r1 r2 => cases r2; exact ⟨_, rfl, r1⟩
theorem vals2 {x y : V} {us : List Value} (r : Vals [x, y] us) : ∃ u w', us = [u, w'] ∧ RelV x u ∧ RelV y w' := by
 cases r with
 | cons r1 r2 =>
  cases r2 with
  | cons r3 r4 => cases r4; exact ⟨_, _, rfl, r1, r3⟩
theorem Zha : CallR X (.builtin "abs") (fun xs H Q => ∃ i, xs = [.int i] ∧ Q (.int (if i < 0 then -i else i)) H) := by
 intro pins s σ H xs us Q I r h
 obtain ⟨i, rfl, q⟩ := h
 obtain ⟨u, rfl, t, rfl⟩ := vals1 r
 exact call_abs_int fun u tk => ⟨.int (if i < 0 then -i else i), H, I.tok _, ⟨_, rfl⟩, q⟩
theorem Zg5 (hc : X.calm = true) : CallR X (.builtin "max") (fun xs H Q => ∃ i j, xs = [.int i, .int j] ∧ Q (.int (if j > i then j else i)) H) := by
 intro pins s σ H xs us Q I r h
 obtain ⟨i, j, rfl, q⟩ := h
 obtain ⟨u, w', rfl, ⟨t, rfl⟩, ⟨t', rfl⟩⟩ := vals2 r
 refine max_two_ints (I.ok.hd hc) fun h' tk k => ⟨_, H, I.kept k, ?_, q⟩
 by_cases hj : j > i
 ·rw [if_pos hj, if_pos hj]; exact ⟨_, rfl⟩
 ·rw [if_neg hj, if_neg hj]; exact ⟨_, rfl⟩
theorem Zg6 (hc : X.calm = true) : CallR X (.builtin "min") (fun xs H Q => ∃ i j, xs = [.int i, .int j] ∧ Q (.int (if j < i then j else i)) H) := by
 intro pins s σ H xs us Q I r h
 obtain ⟨i, j, rfl, q⟩ := h
 obtain ⟨u, w', rfl, ⟨t, rfl⟩, ⟨t', rfl⟩⟩ := vals2 r
 refine min_two_ints (I.ok.hd hc) fun h' tk k => ⟨_, H, I.kept k, ?_, q⟩
 by_cases hj : j < i
 ·rw [if_pos hj, if_pos hj]; exact ⟨_, rfl⟩
 ·rw [if_neg hj, if_neg hj]; exact ⟨_, rfl⟩
end
end L2
namespace L2
open PySem PySem.Spec PyProof.Rows
structure ObjM (h : Heap) (x dx C : Addr) (mA : Str → Option Value) : Prop where
 obj : h.get? x = some (PySem.W.instObj C dx)
 ns : h.Ns1 dx mA
 ne : dx ≠ x
theorem Zgm {h : Heap} {dx : Addr} {mA : Str → Option Value} (n : h.Ns1 dx mA) : ∃ od, h.get? dx = some od ∧ ∀ name, PySem.W.lookIn name od = some (mA name) := by
 obtain ⟨o, es, ep, ho, hd, hk, _, hm⟩ := n
 refine ⟨o, ho, fun name => ?_⟩
 have e := hm name
 unfold nsFind findBy at e
 rw [← Array.find?_toList] at e
 unfold PySem.W.lookIn
 rw [hd]
 dsimp only
 split
 ·rename_i y q
  rw [q] at e
  exact congrArg some e
 ·rename_i q
  rw [q] at e
  have a : es.toList.any (·.refKey) = false := by
   rw [List.any_eq_false]
   intro y hy
   obtain ⟨z, t, hkey⟩ := hk y (Array.mem_toList_iff.mp hy)
   simp [DictEntry.refKey, hkey]
  have a' : ¬ es.toList.any (·.refKey) = true := by rw [a]; exact Bool.false_ne_true
  rw [if_neg a']
  exact congrArg some e
theorem ObjM.look {h : Heap} {x dx C : Addr} {mA : Str → Option Value} (I : ObjM h x dx C mA) : ∃ od, PySem.W.InstAt h x (PySem.W.instObj C dx) C (some od) ∧ ∀ name, PySem.W.lookIn name od = some (mA name) :=
 let ⟨od, ho, hl⟩ := Zgm I.ns
 ⟨od, ⟨I.obj, rfl, rfl, ho⟩, hl⟩
section
variable {prog : Program} {w : World} {A : Around} {E : Value → Shared → Prop} {s : Shared} {K : PySem.W.Frag} {x dx C f : Addr} {mA : Str → Option Value} {name : Str} {v : Value}
theorem Zes {ns : List Str} {Q : Unit → Shared → Prop} (X : K.In s.heap) (I : ObjM s.heap x dx C mA)
  (hs : PySem.W.findIn K (.ref C) "__setattr__" = some (some (.builtin "object.__setattr__"))) (hp : PySem.W.plainOver K C = true) (ht : PySem.W.takerIn K C name = some none) (hh : PySem.W.hasDictIn K C = true)
  (hw : PySem.Within mA ns) (hsz : ns.length ≤ sizeLine)
  (h : ∀ h', ObjM h' x dx C (fun y => if y = name then some v else mA y) → Heap.SameBut dx s.heap h' → Q () { s with heap := h', toks := s.toks + 2 }) :
  wpAny (model prog w) A (setAttr (.ref x) name v) Q E s := by
 obtain ⟨od, J, hl⟩ := I.look
 refine PySem.W.set_plain X J hs (PySem.W.osa_open (s := { s with toks := s.toks + 1 }) (r := none) X J hp ht fun b => ?_)
 obtain ⟨cd, hc, hd'⟩ := PySem.W.any_some hh
 have hx : s.heap.get? x = some ⟨.ref C, some dx, .plain, #[]⟩ := I.obj
 refine wpAny_bind (wpAny_pure (wpAny_bind (wpAny_bind (wpAny_loadPart hx (wpAny_bind (PySem.W.Looks.here (s := { s with toks := s.toks + 1 }) (PySem.W.looks_clsIn X hc) ?_))))))
 rw [hd']
 refine wpAny_pure (a := some dx) (wpAny_bind (wpAny_pure (wpAny_bind ?_)))
 refine wpAny_nsSet1 (s := { s with toks := s.toks + 1 }) I.ns fun h' hn2 hs2 => ?_
 obtain ⟨oD, esD, epD, hoD, hdD, hcD⟩ := hn2.count (PySem.Within.cons name v hw)
 refine wpAny_bind (wpAny_lookBehind hoD (by rw [hdD]; exact pastItsLine_dict (Nat.le_trans hcD (by rw [List.length_cons]; omega))) ?_)
 exact wpAny_pure (h _ ⟨(hs2.2 _ (Ne.symm I.ne)).trans I.obj, hn2, I.ne⟩ hs2)
end
section
variable {P : Program} {w : World} {H H' : Hp} {h h' : Heap} {a C dx : Addr} {fs fs' : List (Str × V)}
theorem Ziu (hok : HOk P w H h) (e : H a = some (.ins C dx fs)) : ∃ mA, ObjM h a dx C mA ∧ (∀ f, RelO (fs.lookup f) (mA f)) ∧ PySem.Within mA (fs.map (·.1)) ∧ fs.length ≤ 1000 ∧ H dx = some (.own a) := by
 obtain ⟨d, z, ne, ob, mA, n, r, q⟩ := (show ObjOk P w H h a (.ins C dx fs) from hok a _ e)
 exact ⟨mA, ⟨ob, n, ne⟩, r, q, z, d⟩
end
structure Cls (K : PySem.W.Frag) (C : Addr) : Prop where
 pg : PySem.W.plainGet K C Str.empty = true
 hd : PySem.W.hasDictIn K C = true
 po : PySem.W.plainOver K C = true
 sa : PySem.W.findIn K (.ref C) "__setattr__" = some (some (.builtin "object.__setattr__"))
theorem Cls.get {K : PySem.W.Frag} {C : Addr} (c : Cls K C) (f : Str) : PySem.W.plainGet K C f = true := c.pg
section
variable {X : Cx} {pins : List (Addr × Obj)} {σ : St} {H : Hp} {s : Shared} {a C dx : Addr} {fs : List (Str × V)} {f : Str} {v : V} {A : Around} {E : Value → Shared → Prop}
end
section
variable {X : Cx} {o e value : Expr} {f : Str} {pos pos' tpos : Pos} {ta tv : TE}
end
section
variable {X : Cx} {pins : List (Addr × Obj)} {σ : St} {H : Hp} {s : Shared} {A : Around} {E : Value → Shared → Prop} {Q : Value → Shared → Prop} {c : Value} {b : Bool}
inductive TyOf (K : PySem.W.Frag) (H : Hp) : V → Value → Prop where
 | non : TyOf K H .non (.type "NoneType")
 | bl (x : Bool) : TyOf K H (.bl x) (.type "bool")
 | int (i : Int) : TyOf K H (.int i) (.type "int")
 | str (x : Str) : TyOf K H (.str x) (.type "str")
 | flt (x : UInt64) : TyOf K H (.flt x) (.type "float")
 | lst {a : Addr} {xs : List V} (e : H a = some (.lst xs)) : TyOf K H (.ref a) (.type "list")
 | frz {a : Addr} {o : Obj} {xs : List V} (e : H a = some (.frz o (.lst xs))) : TyOf K H (.ref a) (.type "list")
 | tup {a : Addr} {xs : List V} (e : H a = some (.tup xs)) : TyOf K H (.ref a) (.type "tuple")
 | dK {a : Addr} {kvs : List (Key × V)} (e : H a = some (.dK kvs)) : TyOf K H (.ref a) (.type "dict")
 | dT {a : Addr} {kvs : List (List Key × V)} (e : H a = some (.dT kvs)) : TyOf K H (.ref a) (.type "dict")
 | ins {a C dx : Addr} {fs : List (Str × V)} (e : H a = some (.ins C dx fs)) (cl : Cls K C) (ha : PySem.W.findIn K (.ref C) "__class__" = some (some (.builtin "object.__class__")))
   (hn : PySem.W.specialIn K (.builtin "object.__class__") "__get__" = some (some (.builtin "getset_descriptor.__get__"))) (htk : PySem.W.takesIn K (.builtin "object.__class__") = some true)
   (hm : PySem.W.mroIn K C (.type "object") = some true) : TyOf K H (.ref a) (.ref C)
theorem Zgi {x : V} {u t : Value} (I : Inv X pins σ H s) (rx : RelV x u) (ty : TyOf X.K H x t) (e : PySem.W.kitOne X.K t c = some b) (h : ∀ tk, Q (.bool b) { s with toks := tk }) :
  wpAny (model X.prog X.w) A (call (.builtin "isinstance") [u, c]) Q E s := by
 cases ty with
 | non => cases (show u = Value.none from rx); exact PySem.W.kia_one PySem.W.kitx_none I.kIn True.intro e (fun z => nomatch z) h
 | bl y => cases (show u = Value.bool y from rx); exact PySem.W.kia_one PySem.W.kitx_bool I.kIn True.intro e (fun z => nomatch z) h
 | int i => obtain ⟨t, q⟩ := (show ∃ t, u = Value.int i t from rx); cases q; exact PySem.W.kia_one PySem.W.kitx_int I.kIn True.intro e (fun z => nomatch z) h
 | str y => obtain ⟨t, q⟩ := (show ∃ t, u = Value.str y t from rx); cases q; exact PySem.W.kia_one PySem.W.kitx_str I.kIn True.intro e (fun z => nomatch z) h
 | flt y => obtain ⟨t, q⟩ := (show ∃ t, u = Value.float y t from rx); cases q; exact PySem.W.kia_one PySem.W.kitx_float I.kIn True.intro e (fun z => nomatch z) h
 | @lst a xs ea =>
  cases (show u = Value.ref a from rx)
  obtain ⟨_, _, n, _, h1⟩ := (show ObjOk X.prog X.w H s.heap a (.lst xs) from I.hok a _ ea)
  exact PySem.W.kia_one PySem.W.kitx_list I.kIn ⟨_, h1, rfl⟩ e (fun z => nomatch z) h
 | @frz a ob xs ea =>
  cases (show u = Value.ref a from rx)
  obtain ⟨_, _, _, n, _, h1⟩ := (show ObjOk X.prog X.w H s.heap a (.frz ob (.lst xs)) from I.hok a _ ea)
  exact PySem.W.kia_one PySem.W.kitx_list I.kIn ⟨_, h1, rfl⟩ e (fun z => nomatch z) h
 | @tup a xs ea =>
  cases (show u = Value.ref a from rx)
  obtain ⟨_, _, _, p⟩ := (show ObjOk X.prog X.w H s.heap a (.tup xs) from I.hok a _ ea)
  obtain ⟨o, h1, h2, _⟩ := p
  exact PySem.W.kia_one PySem.W.kitx_tuple I.kIn ⟨o, h1, h2⟩ e (fun z => nomatch z) h
 | @dK a kvs ea =>
  cases (show u = Value.ref a from rx)
  obtain ⟨_, _, vs, _, p⟩ := (show ObjOk X.prog X.w H s.heap a (.dK kvs) from I.hok a _ ea)
  obtain ⟨o, es, ep, h1, h2, _⟩ := p
  exact PySem.W.kia_one PySem.W.kitx_dict I.kIn ⟨o, h1, h2.1⟩ e (fun z => nomatch z) h
 | @dT a kvs ea =>
  cases (show u = Value.ref a from rx)
  obtain ⟨_, _, xs, _, o, es, ep, h1, h2, _⟩ := (show ObjOk X.prog X.w H s.heap a (.dT kvs) from I.hok a _ ea)
  exact PySem.W.kia_one PySem.W.kitx_dict I.kIn ⟨o, h1, h2.1⟩ e (fun z => nomatch z) h
 | @ins a C dx fs ea cl ha hn htk hm =>
  cases (show u = Value.ref a from rx)
  obtain ⟨mA, O, _⟩ := Ziu I.hok ea
  obtain ⟨od, J, _⟩ := O.look
  exact PySem.W.kia_one (PySem.W.kitx_own (cl.get _) cl.hd ha hn htk hm) I.kIn J e (fun z => nomatch z) h
end
end L2
namespace L2
open PySem PySem.Spec PyProof.Rows
structure Room (k : Nat) (A : Around) : Prop where
 hd : A.handled = none
 dp : A.depth + 3 * k + 5 < recursionLimit
 un : A.units + 16 * k + 200 < cLine
 gd : A.guards = some []
theorem Room.mono {j k : Nat} {A : Around} (r : Room k A) (h : j ≤ k) : Room j A := ⟨r.hd, by have := r.dp; omega, by have := r.un; omega, r.gd⟩
theorem Room.deeper {k : Nat} {A : Around} (r : Room (k + 1) A) (env : Env) : Room k (A.deeper env) :=
 ⟨r.hd, by have := r.dp; show A.depth + 1 + 3 * k + 5 < _; omega, by have := r.un; show A.units + 3 + 16 * k + 200 < _; omega, r.gd⟩
theorem Room.depth {k : Nat} {A : Around} (r : Room k A) : A.depth < recursionLimit := by have := r.dp; omega
theorem Room.units {k : Nat} {A : Around} (r : Room k A) : A.units + 64 < cLine := by have := r.un; omega
noncomputable def tNil : TA := fun _ H Q => Q [] H
noncomputable def tCons (ta : TE) (tr : TA) : TA := fun σ H Q => ta σ H fun x H1 => tr σ H1 fun xs H2 => Q (x :: xs) H2
section
variable {X : Cx} {e : Expr} {es : List Expr} {te : TE} {t : TA} {pos : Pos}
theorem Zk2 : PA X [] tNil := fun _ _ _ _ H Q I h => Calls.spliced_nil ⟨[], H, I, .nil, h⟩
theorem Zj1 (ha : PE X e te) (hr : PA X es t) (hs : starEach (e :: es) X.env = (false, eval e X.env) :: starEach es X.env := by rfl) : PA X (e :: es) (tCons te t) := by
 intro pos pins s σ H Q I h
 rw [hs]
 show wpAny _ _ (spliced ((false, eval e X.env) :: backTo pos (starEach es X.env))) _ _ s
 refine Calls.spliced_cons (thn (ha pins s σ H _ I h) fun u s1 ⟨x, H1, I1, r1, q1⟩ => ?_)
 exact thn (hr pos pins s1 σ H1 _ I1 q1) fun us s2 ⟨xs, H2, I2, r2, q2⟩ => ⟨x :: xs, H2, I2, .cons r1 r2, q2⟩
noncomputable def tTup (t : TA) : TE := fun σ H Q => t σ H fun xs H1 => xs.length ≤ sizeLine ∧ ∀ p, H1 p = none → Q (.ref p) (upd H1 p (.tup xs))
noncomputable def tLst (t : TA) : TE := fun σ H Q => t σ H fun xs H1 => xs.length ≤ sizeLine ∧ ∀ p, H1 p = none → Q (.ref p) (upd H1 p (.lst xs))
theorem Zk7 {x1} (h : PA X es t) : PE X (.Tuple es x1 pos) (tTup t) := by
 intro pins s σ H Q I hq
 refine wpAny_Tuple_spliced (thn (h pos pins s σ H _ I hq) fun us s1 ⟨xs, H1, I1, r, z, q⟩ => ⟨by rw [← r.length]; exact z, ?_⟩)
 have hf : H1 s1.heap.objs.size = none := I1.hok.fresh (Nat.le_refl _)
 refine ⟨.ref s1.heap.objs.size, upd H1 s1.heap.objs.size (.tup xs), I1.laid (t' := s1.toks) (fun b u e => Heap.get?_push_of_some _ e) (Nat.le_refl _) ?_, rfl, q _ hf⟩
 exact ⟨z, us, r, ⟨_, Heap.get?_push_size _ rfl, rfl, _, rfl⟩⟩
theorem Zk6 (h : PA X es t) : PE X (.List es pos) (tLst t) := by
 intro pins s σ H Q I hq
 refine wpAny_List_spliced (thn (h pos pins s σ H _ I hq) fun us s1 ⟨xs, H1, I1, r, z, q⟩ => ⟨by rw [← r.length]; exact z, ?_⟩)
 have hf : H1 s1.heap.objs.size = none := I1.hok.fresh (Nat.le_refl _)
 refine ⟨.ref s1.heap.objs.size, upd H1 s1.heap.objs.size (.lst xs), I1.laid (t' := s1.toks) (fun b u e => Heap.get?_push_of_some _ e) (Nat.le_refl _) ?_, rfl, q _ hf⟩
 exact ⟨z, us, 0, r, Heap.get?_push_size _ rfl⟩
end
noncomputable abbrev Sp := List V → Hp → VK → XK → Prop
noncomputable abbrev CXT := List Env → Hp → Shared → XK → Value → Shared → Prop
structure Env0 (P : Program) (w : World) (K : PySem.W.Frag) (mg : Str → Option Value) (base : Heap) (A : Around) (outer : List Env) (s : Shared) (H : Hp) : Prop where
 frames : A.frames = some outer
 mod : Mod K mg base
 bs : ∀ b o, base.get? b = some o → s.heap.get? b = some o ∧ H b = none
 bsz : base.objs.size ≤ s.heap.objs.size
 funs : s.heap.FunFrames base outer
 frf : ∀ b ∈ frs outer, H b = none
 hok : HOk P w H s.heap
 bare : AllBare s.gens
noncomputable def CE (outer : List Env) (P : Program) (w : World) (H : Hp) (s : Shared) (Q : VK) (u : Value) (s' : Shared) : Prop :=
 ∃ v H', s'.os = s.os ∧ AllBare s'.gens ∧ Un (frs outer) [] H H' s.heap s'.heap ∧ HOk P w H' s'.heap ∧ RelV v u ∧ Q v H'
noncomputable def CR (CX : CXT) (outer : List Env) (P : Program) (w : World) (H : Hp) (s : Shared) (Q : VK) (E : XK) (r : Result) (s' : Shared) : Prop :=
 match r with
 | .ok (.ret u) => CE outer P w H s Q u s'
 | .ok _ => False
 | .error e => CX outer H s E e s'
structure FnOk (P : Program) (w : World) (K : PySem.W.Frag) (mg : Str → Option Value) (base : Heap) (CX : CXT) (k : Nat) (f : Addr) (fd : FuncData) (ps : List Str) (sp : Sp) : Prop where
 len : ∀ vs H Q E, sp vs H Q E → vs.length = ps.length
 run : ∀ (A : Around) (outer : List Env) (s : Shared) (H : Hp) (args : Args) (us : List Value) (vs : List V) (Q : VK) (E : XK), Room k A → Env0 P w K mg base A outer s H → BindsTo s fd args (ps.zip us) → Vals vs us → sp vs H Q E →
  codeAny (model P w) A (.call (.ref f) args) (CR CX outer P w H s Q E) s
theorem FnOk.imp {P : Program} {w : World} {K : PySem.W.Frag} {mg : Str → Option Value} {base : Heap} {CX : CXT} {k : Nat} {f : Addr} {fd : FuncData} {ps : List Str} {sp sp' : Sp} (F : FnOk P w K mg base CX k f fd ps sp)
  (h : ∀ vs H Q E, sp' vs H Q E → sp vs H Q E) : FnOk P w K mg base CX k f fd ps sp' :=
 ⟨fun vs H Q E q => F.len vs H Q E (h _ _ _ _ q), fun A outer s H args us vs Q E hr he hb hv hs => F.run A outer s H args us vs Q E hr he hb hv (h _ _ _ _ hs)⟩
section
variable {X : Cx} {pins : List (Addr × Obj)} {σ : St} {H : Hp} {s s' : Shared}
theorem Inv.env0 (I : Inv X pins σ H s) : Env0 X.prog X.w X.K X.mg X.base X.A X.stack s H :=
 ⟨I.ok.frames, I.ok.mod, I.bs, Nat.le_trans I.ok.bsz I.sz, I.stack, I.stkFree, I.hok, I.bare⟩
theorem Inv.after {Q : VK} {u : Value} (I : Inv X pins σ H s) (h : CE X.stack X.prog X.w H s Q u s') : EP X pins σ Q u s' := by
 obtain ⟨v, H', os, bare, un, hok, r, q⟩ := h
 obtain ⟨hh, g, d, t, os'⟩ := s'
 obtain rfl : os' = s.os := os
 exact ⟨v, H', I.call (h' := hh) (g' := g) (d' := d) (t' := t) (ch := []) un hok bare (fun b z => absurd z (by simp)), r, q⟩
end
noncomputable def tCall (sp : Sp) (dvs : List V) (E : XK) (t : TA) : TE := fun σ H Q => t σ H fun vs H1 => sp (vs ++ dvs) H1 Q E
noncomputable def Binds (K : PySem.W.Frag) (fd : FuncData) (ps : List Str) (ds : List Value) : Prop :=
 ∀ (s : Shared) (us : List Value), K.In s.heap → (us ++ ds).length = ps.length → BindsTo s fd ⟨us, []⟩ (ps.zip (us ++ ds))
theorem Binds.all {K : PySem.W.Frag} {fd : FuncData} {ps : List Str} (h : ∀ us : List Value, us.length = ps.length → bindArgs fd ⟨us, []⟩ = pure (ps.zip us)) : Binds K fd ps [] := fun s us _ hl => by
 rw [List.append_nil] at hl ⊢
 exact .of_eq (h us hl)
noncomputable def Passes (CX : CXT) (X : Cx) (E : XK) : Prop := ∀ (pins : List (Addr × Obj)) (σ : St) (H : Hp) (s : Shared) (e : Value) (s' : Shared), Inv X pins σ H s → CX X.stack H s E e s' → X.xe e s'
section
variable {X : Cx} {CX : CXT} {k : Nat} {f C : Addr} {fd : FuncData} {ps : List Str} {sp : Sp} {dvs : List V} {ds : List Value} {E : XK} {x m : Str} {p pos apos : Pos} {e o : Expr} {es : List Expr} {ta : TE} {t : TA}
theorem Zkr {pins : List (Addr × Obj)} {σ : St} {H : Hp} {s : Shared} {Q : VK} {us : List Value} {vs : List V} (F : FnOk X.prog X.w X.K X.mg X.base CX k f fd ps sp) (hr : Room k X.A) (hb : Binds X.K fd ps ds) (hd : Vals dvs ds) (hx : Passes CX X E)
  (I : Inv X pins σ H s) (r : Vals vs us) (h : sp (vs ++ dvs) H Q E) : wpAny (model X.prog X.w) X.A (call (.ref f) us) (EP X pins σ Q) X.xe s := by
 have r2 : Vals (vs ++ dvs) (us ++ ds) := r.append hd
 have hl : (us ++ ds).length = ps.length := by rw [← r2.length]; exact F.len _ _ _ _ h
 refine wpAny_call (codeAny_mono (F.run X.A X.stack s H ⟨us, []⟩ (us ++ ds) (vs ++ dvs) Q E hr I.env0 (hb s us I.kIn hl) r2 h) fun r s' hq => ?_)
 cases r with
 | error e => exact hx pins σ H s e s' I hq
 | ok fl =>
  cases fl with
  | ret u => exact I.after hq
  | next => exact False.elim hq
  | brk => exact False.elim hq
  | cont => exact False.elim hq
theorem Zj3 (F : FnOk X.prog X.w X.K X.mg X.base CX k f fd ps sp) (hr : Room k X.A) (hg : Gl X x) (hm : X.mg x = some (.ref f)) (hk : PySem.W.keepIn X.K (.ref f) = true) (hb : Binds X.K fd ps ds) (hd : Vals dvs ds) (hx : Passes CX X E)
  (ha : PA X (e :: es) t) (hdb : (x == ("__debug__" : Str)) = false := by decide) (he : starEach (e :: es) X.env = (false, eval e X.env) :: starEach es X.env := by rfl) (hpl : (backTo pos (starEach es X.env)).any (·.1) = false := by rfl) :
  PE X (.Call (.Name x p) (e :: es) [] pos) (tCall sp dvs E t) := by
 intro pins s σ H Q I h
 refine wpAny_Call_Name_kw (Zix I hg hm ?_ hdb)
 refine PySem.W.callWith_K (h₀ := X.base) I.ok.mod.kin hk (thn (ha pos pins s σ H _ I h) fun us s1 ⟨vs, H1, I1, r, q⟩ => ⟨I1.kIn, ?_⟩) he hpl
 exact Zkr F hr hb hd hx I1 r q
end
noncomputable def PK (X : Cx) (kws : List Keyword) (t : TA) : Prop :=
 ∀ (pos : Pos) (pins : List (Addr × Obj)) (s : Shared) (σ : St) (H : Hp) (Q : List V → Hp → Prop), Inv X pins σ H s → t σ H Q → wpAny (model X.prog X.w) X.A (evalAll ((backToKw pos (keywordEach kws X.env)).map (·.2))) (AP X pins σ Q) X.xe s
section
variable {X : Cx} {CX : CXT} {k : Nat} {f C : Addr} {fd : FuncData} {ps ks : List Str} {sp : Sp} {E : XK} {x m : Str} {p pos apos kpos : Pos} {e o : Expr} {es : List Expr} {kws : List Keyword} {te ta : TE} {t tk : TA} {nm : Option Str}
variable {g : List Value → List Value → List Value} {gV : List V → List V → List V}
end
structure FnScope (N P : List Str) (sc : Scope) : Prop where
 kind : sc.kind = .function
 co : sc.isCoroutine = false
 gen : sc.isGenerator = false
 nd : N.Nodup
 pre : N.take P.length = P
 par : ∀ x ∈ P, sc.names.lookup x = some .local ∨ sc.names.lookup x = some .cell
 nofree : ∀ y ∈ sc.names, y.2 ≠ .free
theorem Zdu {kindOf : Str → Option NameKind} {x : Str} : ∀ {binds : List (Str × Value)} {m : Str → Option Value}, (∀ v, (x, v) ∉ binds) → bindL kindOf binds m x = m x
 | [], _, _ => rfl
 | (n, v) :: r, m, h => by
  unfold bindL
  rw [Zdu fun w hw => h w (List.mem_cons_of_mem _ hw)]
  split
  ·have : x ≠ n := by rintro rfl; exact h v List.mem_cons_self
   simp [this]
  ·rfl
theorem Zds {kindOf : Str → Option NameKind} {x : Str} : ∀ {binds : List (Str × Value)} {m : Str → Option Value}, (∀ v, (x, v) ∉ binds) → bindC kindOf binds m x = m x
 | [], _, _ => rfl
 | (n, v) :: r, m, h => by
  unfold bindC
  rw [Zds fun w hw => h w (List.mem_cons_of_mem _ hw)]
  split
  ·rfl
  ·have : x ≠ n := by rintro rfl; exact h v List.mem_cons_self
   simp [this]
theorem Zdt {kindOf : Str → Option NameKind} {x : Str} {v : Value} : ∀ {P : List Str} {vs : List Value} {i : Nat} {m : Str → Option Value}, P.Nodup → P[i]? = some x → vs[i]? = some v → kindOf x = some .local →
  bindL kindOf (P.zip vs) m x = some v
 | [], _, _, _, _, h, _, _ => by simp at h
 | _ :: _, [], _, _, _, _, h, _ => by simp at h
 | p :: P, w :: vs, 0, m, nd, h1, h2, hk => by
  simp at h1 h2; subst h1; subst h2
  show bindL kindOf ((p, w) :: P.zip vs) m p = _
  unfold bindL
  rw [Zdu fun v hv => (List.nodup_cons.mp nd).1 (List.of_mem_zip hv).1, if_pos hk]
  simp
 | p :: P, w :: vs, i + 1, m, nd, h1, h2, hk => by
  show bindL kindOf ((p, w) :: P.zip vs) m x = _
  unfold bindL
  exact Zdt (i := i) (List.nodup_cons.mp nd).2 (by simpa using h1) (by simpa using h2) hk
theorem Zdr {kindOf : Str → Option NameKind} {x : Str} {v : Value} : ∀ {P : List Str} {vs : List Value} {i : Nat} {m : Str → Option Value}, P.Nodup → P[i]? = some x → vs[i]? = some v → kindOf x ≠ some .local →
  bindC kindOf (P.zip vs) m x = some v
 | [], _, _, _, _, h, _, _ => by simp at h
 | _ :: _, [], _, _, _, _, h, _ => by simp at h
 | p :: P, w :: vs, 0, m, nd, h1, h2, hk => by
  simp at h1 h2; subst h1; subst h2
  show bindC kindOf ((p, w) :: P.zip vs) m p = _
  unfold bindC
  rw [Zds fun v hv => (List.nodup_cons.mp nd).1 (List.of_mem_zip hv).1, if_neg hk]
  simp
 | p :: P, w :: vs, i + 1, m, nd, h1, h2, hk => by
  show bindC kindOf ((p, w) :: P.zip vs) m x = _
  unfold bindC
  exact Zdr (i := i) (List.nodup_cons.mp nd).2 (by simpa using h1) (by simpa using h2) hk
noncomputable def start (N : List Str) (vs : List V) : St := vs.map some ++ List.replicate (N.length - vs.length) none
noncomputable def cxOf (CX : CXT) (P : Program) (w : World) (K : PySem.W.Frag) (mg : Str → Option Value) (base : Heap) (N : List Str) (qual : Str) (scope : Scope) (f : Addr) (cd : Value) (A : Around) (outer : List Env) (s : Shared) (H : Hp) (E : XK) : Cx where
 prog := P
 w := w
 K := K
 mg := mg
 base := base
 A := A.deeper (envOfC qual scope s.heap.objs.size f cd)
 N := N
 s₀ := s
 H₀ := H
 env := envOfC qual scope s.heap.objs.size f cd
 outer := outer
 stack := envOfC qual scope s.heap.objs.size f cd :: outer
 ex := []
 calm := true
 fn := fun _ => true
 pn := []
 xe := fun e s' => wpAny (model P w) (A.deeper (envOfC qual scope s.heap.objs.size f cd)) (leaving (envOfC qual scope s.heap.objs.size f cd) e) (fun _ s'' => CX outer H s E e s'') (fun e' s'' => CX outer H s E e' s'') s'
theorem Zev {sc : Scope} {n : Nat} {x : Str} (h : sc.names.lookup x = some .cell) : ∃ c, (cellsFrom n sc.names []).lookup x = some c := by
 have q := PySem.W.cellsFrom_some sc.names n [] (.inl h)
 exact Option.isSome_iff_exists.mp q
theorem Zgh {CX : CXT} {P : Program} {w : World} {K : PySem.W.Frag} {mg : Str → Option Value} {base : Heap} {N ps : List Str} {qual : Str} {scope : Scope} {f : Addr} {cd : Value} {A : Around} {outer : List Env} {s s1 : Shared} {H : Hp} {E : XK} {us : List Value} {vs : List V}
  (S : FnScope N ps scope) (hd : A.handled = none) (e0 : Env0 P w K mg base A outer s H) (hl : vs.length = ps.length) (r : Vals vs us)
  (x : InCallC s s.heap.objs.size (bindL (envOfC qual scope s.heap.objs.size f cd).kindOf (ps.zip us) fun _ => none) (cellsFrom (s.heap.objs.size + 1) scope.names []) (bindC (envOfC qual scope s.heap.objs.size f cd).kindOf (ps.zip us) fun _ => none) s1) :
  Inv (cxOf CX P w K mg base N qual scope f cd A outer s H E) [] (start N vs) H s1 := by
 have hpl : ps.length ≤ N.length := by have := congrArg List.length S.pre; rw [List.length_take] at this; omega
 obtain ⟨h1, tk, rfl, hk⟩ := x.done
 have noA : ∀ b : Addr, b ∉ (cxOf CX P w K mg base N qual scope f cd A outer s H E).ex := fun b z => absurd (show b ∈ ([] : List Addr) from z) (by simp)
 refine ⟨⟨e0.mod, S.kind, rfl, rfl, Nat.le_refl _, fun y z c h1 h2 => ?_, fun y hy => ?_, fun y c _ h => ?_, fun _ => hd, Around.frames_deeper e0.frames, .inr ⟨rfl, rfl⟩, fun b z => absurd z (noA b), e0.bs, e0.bsz, fun b _ _ => noA b, fun b z => absurd z (noA b), e0.funs, e0.frf⟩,
  rfl, e0.bare, Un.kept hk, ⟨_, x.toInCall.ns, fun i y v h1 h2 h3 => ?_⟩, fun y c h => ⟨_, x.cell y c h⟩, e0.hok.fresh (Nat.le_refl _), fun y c h => ?_, fun p hp => absurd (show p ∈ ([] : List (Addr × Obj)) from hp) (by simp), e0.hok.kept hk, ?_⟩
 ·exact name_of_addr x.apart (PySem.mem_of_lookup h1) (PySem.mem_of_lookup h2)
 ·have hy : scope.names.lookup y = some .cell ∨ scope.names.lookup y = some .free := hy
  rcases hy with hy | hy
  ·exact Zev hy
  ·exact absurd rfl (S.nofree _ (PySem.mem_of_lookup hy))
 ·exact Nat.le_of_lt (x.above y c (PySem.mem_of_lookup h))
 ·have hi : i < vs.length := by
   unfold start at h2
   by_cases hi : i < vs.length
   ·exact hi
   ·rw [List.getElem?_append_right (by simpa using hi)] at h2
    rw [List.getElem?_replicate] at h2
    split at h2 <;> cases h2
  have ha : vs[i]? = some v := by
   unfold start at h2
   rw [List.getElem?_append_left (by simpa using hi), List.getElem?_map] at h2
   cases e : vs[i]? with
   | none => rw [e] at h2; cases h2
   | some a => rw [e] at h2; cases h2; rfl
  obtain ⟨u, hu, rv⟩ := r.get ha
  have hp : ps[i]? = some y := by
   rw [← S.pre, List.getElem?_take_of_lt (by omega)]; exact h1
  have ndP : ps.Nodup := by rw [← S.pre]; exact S.nd.sublist (List.take_sublist _ _)
  refine ⟨u, rv, ?_⟩
  rcases S.par y (List.mem_of_getElem? hp) with k | k
  ·exact .inl ⟨k, Zdt ndP hp hu k⟩
  ·obtain ⟨c, e⟩ := Zev (n := s.heap.objs.size + 1) k
   refine .inr ⟨.inl k, c, e, ?_⟩
   have q := x.cell y c e
   rw [Zdr ndP hp hu (by show scope.names.lookup y ≠ _; rw [k]; decide)] at q
   exact q
 ·exact e0.hok.fresh (Nat.le_of_lt (x.above y c (PySem.mem_of_lookup h)))
 ·unfold start
  show _ = N.length
  rw [List.length_append, lmp, List.length_replicate]
  omega
theorem Zjr {CX : CXT} {P : Program} {w : World} {K : PySem.W.Frag} {mg : Str → Option Value} {base : Heap} {k : Nat} {f : Addr} {name qual : Str} {params : Arguments} {body : List Stmt} {scope : Scope} {dV kV doc pm cdv ct oc : Value} {an od : Option Addr}
  {osl : Array (Option Value)} {N ps : List Str} {sp : Sp} (lk : K.lookup f = some ⟨oc, od, .func (PySem.W.fnOf name qual params body scope dV kV doc pm an cdv ct), osl⟩) (hcd : PySem.W.codeIn K cdv qual = true) (S : FnScope N ps scope)
  (len : ∀ vs H Q E, sp vs H Q E → vs.length = ps.length)
  (hbody : ∀ (A : Around) (outer : List Env) (s : Shared) (H : Hp) (vs : List V) (Q : VK) (E : XK), Room k (A.deeper (envOfC qual scope s.heap.objs.size f cdv)) → sp vs H Q E →
   ∃ t, PSs (cxOf CX P w K mg base N qual scope f cdv A outer s H E) body t ∧ t { nx := fun _ H' => Q .non H', rt := Q } (start N vs) H) :
  FnOk P w K mg base CX (k + 1) f (PySem.W.fnOf name qual params body scope dV kV doc pm an cdv ct) ps sp := by
 refine ⟨len, fun A outer s H args us vs Q E hr e0 hb r hsp => ?_⟩
 have hl := len _ _ _ _ hsp
 have KX : K.In s.heap := e0.mod.kin.keeps fun b o e => (e0.bs b o e).1
 have lim : s.heap.NoLimit := e0.mod.nolimit.keeps fun b o e => (e0.bs b o e).1
 have hkind : ∀ y ∈ ps.zip us, scope.names.lookup y.1 = some .local ∨ (scope.names.lookup y.1 = some .cell ∧ ((cellsFrom (s.heap.objs.size + 1) scope.names []).lookup y.1).isSome = true) := fun ⟨n, v⟩ hy => by
  rcases S.par n (List.of_mem_zip hy).1 with q | q
  ·exact .inl q
  ·exact .inr ⟨q, PySem.W.cellsFrom_some _ _ _ (.inl q)⟩
 refine codeAny_call_function hr.depth (KX _ _ lk) rfl S.co S.gen rfl (PySem.W.codeRec_of KX hcd) (hb _ _ _ _ ?_)
 refine wpAny_newFunctionEnv_cells S.kind hkind fun env he s1 x => ?_
 subst he
 refine ⟨lim.keeps x.toInCall.keep, codeAny_func ?_⟩
 obtain ⟨t, ht, hq⟩ := hbody A outer s H vs Q E (hr.deeper _) hsp
 have I : Inv (cxOf CX P w K mg base N qual scope f cdv A outer s H E) [] (start N vs) H s1 := Zgh S hr.hd e0 hl r x
 refine wpAny_mono (ht [] s1 (start N vs) H _ I hq) (fun fl s' hs => ?_) fun e s' hs => hs
 have fin : ∀ {σ' : St} {H' : Hp} {v : V} {u : Value}, Inv (cxOf CX P w K mg base N qual scope f cdv A outer s H E) [] σ' H' s' → RelV v u → Q v H' → CE outer P w H s Q u s' :=
  fun {σ' H' v u} J rv q => ⟨v, H', J.os, J.bare, J.base, J.hok, rv, q⟩
 cases fl with
 | ret u =>
  obtain ⟨v, σ', H', J, rv, q⟩ := hs
  exact fin J rv q
 | next =>
  obtain ⟨σ', H', J, q⟩ := hs
  exact fin (v := V.non) (u := Value.none) J rfl q
 | brk =>
  obtain ⟨_, _, _, q⟩ := hs
  exact False.elim q
 | cont =>
  obtain ⟨_, _, _, q⟩ := hs
  exact False.elim q
end L2
namespace L2
open PySem PySem.Spec PyProof.Rows
section
variable {X : Cx} {x : Str} {p pos : Pos} {e : Expr} {es : List Expr} {t : TA} {id T : String} {r : List V → Hp → VK → Prop}
noncomputable def tCB (r : List V → Hp → VK → Prop) (t : TA) : TE := fun σ H Q => t σ H fun vs H1 => r vs H1 Q
theorem Zhp (hc : CallR X (.builtin id) r) (hg : Gl X x) (hm : X.mg x = none) (hv : bootBuiltins x = some (.builtin id)) (ha : PA X (e :: es) t) (hn : x ≠ "__name__" := by decide) (hdb : (x == ("__debug__" : Str)) = false := by decide)
  (he : starEach (e :: es) X.env = (false, eval e X.env) :: starEach es X.env := by rfl) (hpl : (backTo pos (starEach es X.env)).any (·.1) = false := by rfl) : PE X (.Call (.Name x p) (e :: es) [] pos) (tCB r t) := by
 intro pins s σ H Q I h
 refine wpAny_Call_Name_kw (Zf5 I hg hm hv ?_ hn hdb)
 exact PyProof.Rows.callWith_builtin1 (thn (ha pos pins s σ H _ I h) fun us s1 ⟨vs, H1, I1, r1, q1⟩ => hc pins s1 σ H1 vs us Q I1 r1 q1) he hpl
end
end L2
namespace HT
open PySem PyProof.Rows
noncomputable def lexLt : List Int → List Int → Bool
 | [], [] => false
 | [], _ :: _ => true
 | _ :: _, [] => false
 | x :: xs, y :: ys => if x = y then lexLt xs ys else decide (x < y)
theorem Zfs (x y : Int) (xs ys : List Int) : lexLt (x :: xs) (y :: ys) = if x = y then lexLt xs ys else decide (x < y) := rfl
theorem Zdh : lexLt [] [] = false := rfl
theorem Zd1 (y : Int) (ys : List Int) : lexLt [] (y :: ys) = true := rfl
theorem Zd0 (x : Int) (xs : List Int) : lexLt (x :: xs) [] = false := rfl
theorem Zhe (A : Around) (s : Shared) (a : Int) (t : Tok) (c : Int) (u : Tok) : ∃ e, SeqAt.EqAt A s (.int a t) (.int c u) e ∧ (e = true ↔ a = c) :=
 ⟨(a == c), SeqAt.EqAt.int_int a t c u, by simp⟩
theorem Zhw (A : Around) (s : Shared) (a : Int) (t : Tok) (c : Int) (u : Tok) (prog : Program) (w : World) (E : Value → Shared → Prop) (Q : Value → Shared → Prop) (h : Q (.bool (decide (a < c))) s) :
  wpAny (model prog w) A (richCompare .Lt (.int a t) (.int c u)) Q E s :=
 (PyProof.Rows.lt_int h : wpAny (model prog w) A (compareOp .Lt (.int a t) (.int c u)) Q E s)
section
open PySem.SeqAt
open PySem.AutoSeq1 (wpAny_loadPart')
open PySem.MeetsSeq PySem.MeetsSeq2 PySem.MeetsSeq3
theorem Zdq (l b : Addr) (items items2 : Array Value) (n n2 : Nat) (dd dd2 : Option Addr) (sl sl2 : Array (Option Value)) (ns ms : List Int) (hi : IntsAre items.toList ns) (hj : IntsAre items2.toList ms) :
  Meets (Builtin.«tuple.__lt__» ⟨[.ref l, .ref b], []⟩)
   (fun _ R s => s.heap.get? l = some { cls := .type "tuple", dict := dd, data := .seq items n, slots := sl } ∧ s.heap.get? b = some { cls := .type "tuple", dict := dd2, data := .seq items2 n2, slots := sl2 } ∧
    R (.ok (.ret (.bool (lexLt ns ms)))) s) :=
 .of_wp fun prog w A R s h => by
  obtain ⟨hp, g, d, tk, os⟩ := s; obtain ⟨hl, hb, h⟩ := h
  have f2 := AutoSeq1.sub_tuple_tuple
  have z1 : items.size = ns.length := by rw [← hi.length]; simp
  have z2 : items2.size = ms.length := by rw [← hj.length]; simp
  wp_walk using wpAny_loadPart' hl, wpAny_loadPart' hb, wpAny_forIn_list _ (fun rest b s' => b.1 = none ∧ s' = ⟨hp, g, d, tk, os⟩ ∧ ∃ (vs ws : List Value) (ns' ms' : List Int), rest = vs.zip ws ∧
   IntsAre vs ns' ∧ IntsAre ws ms' ∧ ns'.length + items2.size = ms'.length + items.size ∧ R (.ok (.ret (.bool (lexLt ns' ms')))) ⟨hp, g, d, tk, os⟩) _
  case turn =>
   rintro ⟨y, x⟩ rest b s' ⟨hb', rfl, vs, ws, ns', ms', hz, hvi, hwi, hlen, hR⟩
   cases hvi with
   | nil => rw [List.zip_nil_left] at hz; cases hz
   | cons a t hvi' =>
    cases hwi with
    | nil => rw [List.zip_nil_right] at hz; cases hz
    | cons c u hwi' =>
     rw [List.zip_cons_cons] at hz
     injection hz with hyx hrest
     injection hyx with hy hx
     subst hy hx
     rw [Zfs] at hR
     simp only [List.length_cons] at hlen
     obtain ⟨e, he, hiff⟩ := Zhe A.in1 ⟨hp, g, d, tk, os⟩ a t c u
     refine wpAny_bind (he prog w _ _ ?_)
     cases e with
     | true =>
      rw [if_pos (hiff.mp rfl)] at hR
      wp_walk
      exact ⟨rfl, rfl, _, _, _, _, hrest, hvi', hwi', by omega, hR⟩
     | false =>
      rw [if_neg (fun q => absurd (hiff.mpr q) Bool.false_ne_true)] at hR
      have hri := Zhw A.in1 ⟨hp, g, d, tk, os⟩ a t c u prog w
      wp_walk using hri
      exact ⟨_, rfl, by simpa using hR⟩
  case fin =>
   rintro ⟨b1, b2⟩ s' ⟨hb', rfl, vs, ws, ns', ms', hz, hvi, hwi, hlen, hR⟩
   simp only at hb'
   subst hb'
   have hv : lexLt ns' ms' = decide (items.size < items2.size) := by
    cases hvi with
    | nil =>
     cases hwi with
     | nil =>
      simp only [List.length_nil] at hlen
      rw [Zdh]
      exact (decide_eq_false (by omega)).symm
     | cons c u hw =>
      simp only [List.length_nil, List.length_cons] at hlen
      rw [Zd1]
      exact (decide_eq_true (by omega)).symm
    | cons a t hv =>
     cases hwi with
     | nil =>
      simp only [List.length_nil, List.length_cons] at hlen
      rw [Zd0]
      exact (decide_eq_false (by omega)).symm
     | cons c u hw =>
      rw [List.zip_cons_cons] at hz
      cases hz
   rw [hv] at hR
   wp_walk
   exact ⟨_, rfl, by simpa [Builtin.Tuple.tupleCompareSizes] using hR⟩
  case h =>
   exact ⟨rfl, rfl, items.toList, items2.toList, ns, ms, rfl, hi, hj, by omega, h⟩
end
section
variable {prog : Program} {w : World} {A : Around} {E : Value → Shared → Prop} {s : Shared}
theorem lt_tupInts {l b : Addr} {items items2 : Array Value} {ns ms : List Int} {Q : Value → Shared → Prop} (hl : IsTup s.heap l items) (hb : IsTup s.heap b items2) (hi : IntsAre items.toList ns) (hj : IntsAre items2.toList ms)
  (hu : A.units < cLine) (h : Q (.bool (lexLt ns ms)) s) : wpAny (model prog w) A (compareOp .Lt (.ref l) (.ref b)) Q E s := by
 obtain ⟨⟨cls, dd, data, sl⟩, ho, hc, n, hd⟩ := id hl
 obtain ⟨⟨cls2, dd2, data2, sl2⟩, ho2, hc2, n2, hd2⟩ := id hb
 simp only at hc hd hc2 hd2
 subst hc hd hc2 hd2
 exact richCompare_meets_room (op := .Lt) ⟨_, ho, rfl⟩ ⟨_, ho2, rfl⟩ PySem.F.slot_tuple_lt PySem.F.entry_tuple_lt (PySem.F.args_tuple_lt_2 _ _) (Zdq l b items items2 n n2 dd dd2 sl sl2 ns ms hi hj)
  ⟨ho, ho2, show Value.bool (lexLt ns ms) ≠ Value.notImplemented ∧ Q (.bool (lexLt ns ms)) s from ⟨(fun x => nomatch x), h⟩⟩ hu
theorem cat_tup {t b : Addr} {vs ws : List Value} {Q : Value → Shared → Prop} (ht : IsTup s.heap t vs.toArray) (hb : IsTup s.heap b ws.toArray) (hv : vs ≠ [])
  (h1 : ws = [] → Q (.ref t) s) (h2 : ws ≠ [] → Q (.ref s.heap.objs.size) { s with heap := s.heap.push { cls := .type "tuple", data := .seq (vs ++ ws).toArray } })
  (hsz : vs.length + ws.length ≤ sizeLine) : wpAny (model prog w) A (binaryOp .Add (.ref t) (.ref b)) Q E s := by
 obtain ⟨⟨cls, dd, data, sl⟩, ho, hc, n, hd⟩ := id ht
 obtain ⟨⟨cls2, dd2, data2, sl2⟩, ho2, hc2, n2, hd2⟩ := id hb
 simp only at hc hd hc2 hd2
 subst hc hd hc2 hd2
 have e : vs.toArray ++ ws.toArray = (vs ++ ws).toArray := by simp
 by_cases hw : ws = []
 ·exact concat_meets ⟨_, ho, rfl⟩ ⟨_, ho2, rfl⟩ noFill_tuple_add seq_tuple_add PySem.F.slot_tuple_add PySem.F.entry_tuple_add (PySem.F.args_tuple_add_2 _ _)
   (tuple_addW1 t b vs.toArray ws.toArray n n2 dd dd2 sl sl2 (by simpa using hv) (by simp [hw])) ⟨ho, ho2, h1 hw⟩
 ·refine concat_meets ⟨_, ho, rfl⟩ ⟨_, ho2, rfl⟩ noFill_tuple_add seq_tuple_add PySem.F.slot_tuple_add PySem.F.entry_tuple_add (PySem.F.args_tuple_add_2 _ _)
   (tuple_addW2 t b vs.toArray ws.toArray n n2 dd dd2 sl sl2 (by simpa using hv) (by simpa using hw) (by rw [List.size_toArray, List.size_toArray]; exact hsz)) ⟨ho, ho2, ?_⟩
  rw [e]
  exact h2 hw
noncomputable def sIx (n d : Nat) : Option Int → Nat
 | none => d
 | some v => if v < 0 then (v + (n : Int)).toNat else min v.toNat n
end
end HT
namespace L2
open PySem PySem.Spec PyProof.Rows
noncomputable abbrev TO := St → Hp → (Option Int → Hp → Prop) → Prop
noncomputable def PO (X : Cx) (e : Option Expr) (t : TO) : Prop :=
 ∀ (pins : List (Addr × Obj)) (s : Shared) (σ : St) (H : Hp) (Q : Option Int → Hp → Prop), Inv X pins σ H s → t σ H Q →
  wpAny (model X.prog X.w) X.A (evalPart e X.env) (fun u s' => ∃ o H', Inv X pins σ H' s' ∧ IsPart u o ∧ Q o H') X.xe s
theorem Zfp {ns : List Int} : ∀ {us : List Value}, Vals (ns.map V.int) us → IntsAre us ns := by
 induction ns with
 | nil => intro us r; rw [List.map_nil] at r; cases r; exact .nil
 | cons n ns ih =>
  intro us r
  rw [List.map_cons] at r
  cases r with
  | cons r1 r2 =>
   obtain ⟨t, e⟩ := r1
   subst e
   exact .cons n t (ih r2)
section
variable {X : Cx} {e : Expr} {te : TE} {lo hi : Option Expr} {tl th : TO} {pos p2 : Pos}
end
end L2
namespace L2
open PySem PySem.Spec PyProof.Rows
noncomputable def ixN (n : Nat) (i : Int) : Option Nat := if 0 ≤ i then (if i < n then some i.toNat else none) else if -(n : Int) ≤ i then some (i + n).toNat else none
noncomputable def atI {α : Type} (xs : List α) (i : Int) : Option α := (ixN xs.length i).bind fun j => xs[j]?
theorem Zgj {n : Nat} {i : Int} {j : Nat} (h : ixN n i = some j) : seqIndex? i n = some j ∧ j < n ∧ -(n : Int) ≤ i ∧ i < n := by
 unfold ixN at h
 by_cases h0 : 0 ≤ i
 ·rw [if_pos h0] at h
  by_cases h1 : i < n
  ·rw [if_pos h1] at h
   have e : i.toNat = j := Option.some.inj h
   exact ⟨by rw [seqIndex_of h0 h1, e], by omega, by omega, h1⟩
  ·rw [if_neg h1] at h; cases h
 ·rw [if_neg h0] at h
  by_cases h1 : -(n : Int) ≤ i
  ·rw [if_pos h1] at h
   have e : (i + n).toNat = j := Option.some.inj h
   exact ⟨by rw [seqIndex_neg (by omega) h1, e], by omega, h1, by omega⟩
  ·rw [if_neg h1] at h; cases h
theorem Zg2 {α : Type} {xs : List α} {i : Int} {v : α} (h : atI xs i = some v) : ∃ j, seqIndex? i xs.length = some j ∧ xs[j]? = some v ∧ j < xs.length ∧ -(xs.length : Int) ≤ i ∧ i < xs.length := by
 unfold atI at h
 cases e : ixN xs.length i with
 | none => rw [e] at h; cases h
 | some j =>
  rw [e] at h
  obtain ⟨h1, h2, h3, h4⟩ := Zgj e
  exact ⟨j, h1, h, h2, h3, h4⟩
theorem Zip {α : Type} {xs : List α} {j : Nat} {v : α} (h : xs[j]? = some v) : atI xs (j : Int) = some v := by
 have hj : j < xs.length := (List.getElem?_eq_some_iff.mp h).1
 have e : ixN xs.length (j : Int) = some j := by
  unfold ixN
  rw [if_pos (by omega), if_pos (by omega)]; simp
 unfold atI; rw [e]; exact h
theorem Zh9 {α : Type} (xs : List α) (v : α) : atI (xs ++ [v]) (-1) = some v := by
 have hl : (xs ++ [v]).length = xs.length + 1 := by simp
 have e : ixN (xs ++ [v]).length (-1) = some xs.length := by
  unfold ixN
  rw [hl, if_neg (by decide), if_pos (by omega)]
  congr 1
  omega
 unfold atI
 rw [e]
 show (xs ++ [v])[xs.length]? = some v
 simp
noncomputable def PlainIx (b : Expr) : Prop := ∀ o i, subscripted b false o i = operate [o, i] (getItem o i)
noncomputable def IxR (X : Cx) (r : R2) : Prop :=
 ∀ (value slice : Expr) (pins : List (Addr × Obj)) (s : Shared) (σ : St) (H : Hp) (x y : V) (v u : Value) (Q : VK), Inv X pins σ H s → RelV x v → RelV y u → r x y H Q →
  subscripted slice false v u = operate [v, u] (getItem v u) → wpAny (model X.prog X.w) X.A (subscriptTail value slice v u) (EP X pins σ Q) X.xe s
noncomputable def MtR (X : Cx) (id : String) (r : V → List V → Hp → VK → Prop) : Prop :=
 ∀ (pins : List (Addr × Obj)) (s : Shared) (σ : St) (H : Hp) (x : V) (xs : List V) (v : Value) (us : List Value) (Q : VK), Inv X pins σ H s → RelV x v → Vals xs us → r x xs H Q →
  wpAny (model X.prog X.w) X.A (call (.builtin id) (v :: us)) (EP X pins σ Q) X.xe s
section
variable {X : Cx} {a b : Expr} {ta tb : TE} {pos : Pos}
theorem Zl1 {r : R2} (hr : IxR X r) (ha : PE X a ta) (hb : PE X b tb) (hs : PlainIx b) : PE X (.Subscript a b pos) (tOp r ta tb) := by
 intro pins s σ H Q I h
 exact Subscript_ (binT ha hb I h fun v u s2 x y H2 I2 rx ry q => hr a b pins s2 σ H2 x y v u Q I2 rx ry q (hs _ _))
noncomputable def rIxL (K : PySem.W.Frag) : R2 := fun x y H Q => ∃ p xs i v, x = .ref p ∧ y = .int i ∧ SqL K H p xs ∧ atI xs i = some v ∧ Q v H
noncomputable def rIxT (K : PySem.W.Frag) : R2 := fun x y H Q => ∃ p xs i v, x = .ref p ∧ y = .int i ∧ SqT K H p xs ∧ atI xs i = some v ∧ Q v H
theorem Zbv : IxR X (rIxL X.K) := by
 intro value slice pins s σ H x y v u Q I rx ry h hs
 obtain ⟨p, xs, i, z, rfl, rfl, hq, he, q⟩ := h
 cases rx
 obtain ⟨t, rfl⟩ := ry
 obtain ⟨its, r, pl, hz⟩ := I.list hq
 obtain ⟨j, h1, h2, h3, h4, h5⟩ := Zg2 he
 obtain ⟨w, ew, rw'⟩ := r.get h2
 have hl := r.length
 have hn := line63
 have fin : EP X pins σ Q w s := ⟨z, H, I, rw', q⟩
 by_cases h0 : 0 ≤ i
 ·have hj : i.toNat = j := by
   rw [seqIndex_of h0 h5] at h1
   exact Option.some.inj h1
  exact item_listR pl.isList h0 (by omega) (by rw [hj]; simpa using ew) fin hs
 ·have hj : (i + (its.toArray.size : Int)).toNat = j := by
   rw [seqIndex_neg (by omega) h4] at h1
   rw [List.size_toArray, ← hl]
   exact Option.some.inj h1
  exact subscriptTail_builtinR (x := w) pl.isList.typeIs slot_list_getitem.lookup
   (wpAny_getItem_list_neg (Q := fun r s' => r = w ∧ EP X pins σ Q r s') pl.isList (by omega) (by rw [List.size_toArray] <;> omega) (by omega) (by rw [hj]; simpa using ew) ⟨rfl, fin⟩) hs
theorem Zgk : IxR X (rIxT X.K) := by
 intro value slice pins s σ H x y v u Q I rx ry h hs
 obtain ⟨p, xs, i, z, rfl, rfl, hq, he, q⟩ := h
 cases rx
 obtain ⟨t, rfl⟩ := ry
 obtain ⟨its, r, pl, hz⟩ := I.tuple hq
 obtain ⟨j, h1, h2, h3, h4, h5⟩ := Zg2 he
 obtain ⟨w, ew, rw'⟩ := r.get h2
 have hl := r.length
 have hn := line63
 have fin : EP X pins σ Q w s := ⟨z, H, I, rw', q⟩
 exact subscriptTail_builtinR (x := w) pl.typeIs slot_tuple_getitem.lookup
  (getItem_tuple (j := j) (Q := fun r s' => r = w ∧ EP X pins σ Q r s') pl (by omega) (by omega) (by rw [List.size_toArray, ← hl]; exact h1) (by simpa using ew) ⟨rfl, fin⟩) hs
theorem Zft (its : List Value) (n j : Nat) (u : Value) : Obj.mapSeq (·.setIfInBounds j u) { cls := .type "list", data := .seq its.toArray n } = { cls := .type "list", data := .seq (its.set j u).toArray n } := by
 simp [Obj.mapSeq]
theorem Inv.lst {pins : List (Addr × Obj)} {σ : St} {H : Hp} {s : Shared} {p : Addr} {xs : List V} (I : Inv X pins σ H s) (h : H p = some (.lst xs)) :
  ∃ (its : List Value) (n : Nat), Vals xs its ∧ s.heap.get? p = some { cls := .type "list", data := .seq its.toArray n } ∧ xs.length ≤ sizeLine := by
 obtain ⟨z, its, n, r, e⟩ := I.hok p _ h
 exact ⟨its, n, r, e, z⟩
theorem Inv.lstUpd {pins : List (Addr × Obj)} {σ : St} {H : Hp} {s : Shared} {p : Addr} {xs ys : List V} {its its' : List Value} {n n' : Nat} {f : Obj → Obj} (I : Inv X pins σ H s) (h : H p = some (.lst xs))
  (ho : s.heap.get? p = some { cls := .type "list", data := .seq its.toArray n }) (hf : f { cls := .type "list", data := .seq its.toArray n } = { cls := .type "list", data := .seq its'.toArray n' }) (r : Vals ys its') (hz : ys.length ≤ sizeLine) (t : Nat) :
  Inv X pins σ (upd H p (.lst ys)) { s with heap := s.heap.update p f, toks := t } := by
 have e : (s.heap.update p f).get? p = some { cls := .type "list", data := .seq its'.toArray n' } := by
  rw [Heap.get?_update_self f ho (by rw [hf] <;> rfl), hf]
 refine I.write (x := p) (e := p) (by rw [h]; trivial) (.inl rfl) (fun b u hb q => (Heap.get?_update_other _ _ (Ne.symm hb)).trans q) ⟨_, e⟩ ?_
 exact ⟨hz, its', n', r, e⟩
noncomputable def rSetL : V → V → V → Hp → (Hp → Prop) → Prop := fun o i v H Q => ∃ p xs k j, o = .ref p ∧ i = .int k ∧ H p = some (.lst xs) ∧ ixN xs.length k = some j ∧ Q (upd H p (.lst (xs.set j v)))
theorem Zfb : PSet X rSetL := by
 intro pins s σ H o i v ov iv u Q I ro ri rv h
 obtain ⟨p, xs, k, j, rfl, rfl, hp, hj, q⟩ := h
 cases ro
 obtain ⟨t, rfl⟩ := ri
 obtain ⟨its, n, r, ho, hz⟩ := I.lst hp
 obtain ⟨h1, h2, h3, h4⟩ := Zgj hj
 have hl := r.length
 have hn := line63
 have I' : Inv X pins σ (upd H p (.lst (xs.set j v))) { s with heap := s.heap.update p (Obj.mapSeq (·.setIfInBounds j u)) } :=
  I.lstUpd hp ho (Zft its n j u) (r.set rv j) (by rw [List.length_set]; exact hz) s.toks
 by_cases h0 : 0 ≤ k
 ·have hk : k.toNat = j := by
   rw [seqIndex_of h0 h4] at h1
   exact Option.some.inj h1
  exact PySem.W.ki_setAt ho h0 (by omega) (by rw [List.size_toArray, ← hl]; exact h4) (by rw [hk]; exact ⟨_, I', q⟩)
 ·have hk : (k + (its.toArray.size : Int)).toNat = j := by
   rw [seqIndex_neg (by omega) h3] at h1
   rw [List.size_toArray, ← hl]
   exact Option.some.inj h1
  exact PySem.W.ki_setBack ho (by omega) (by rw [List.size_toArray, ← hl]; exact h3) (by omega) (by rw [hk]; exact ⟨_, I', q⟩)
theorem Zbh : CallR X (.builtin "len") (fun xs H Q => ∃ p ys, xs = [.ref p] ∧ (SqL X.K H p ys ∨ SqT X.K H p ys) ∧ Q (.int ys.length) H) := by
 intro pins s σ H xs us Q I r h
 obtain ⟨p, ys, rfl, hq, q⟩ := h
 obtain ⟨u, rfl, rx⟩ := vals1 r
 cases rx
 have hn := line63
 rcases hq with hq | hq
 ·obtain ⟨its, r', pl, hz⟩ := I.list hq
  have hlen := r'.length
  exact Calls.call_len_list pl.isList (by simp only [List.size_toArray] <;> omega) ⟨.int ys.length, H, I.tok _, ⟨s.toks + 1, by rw [List.size_toArray, hlen]⟩, q⟩
 ·obtain ⟨its, r', pl, hz⟩ := I.tuple hq
  have hlen := r'.length
  exact len_tuple pl (by simp only [List.size_toArray] <;> omega) ⟨.int ys.length, H, I.tok _, ⟨s.toks + 1, by rw [List.size_toArray, hlen]⟩, q⟩
noncomputable def tyV (K : PySem.W.Frag) (T : String) (x : V) (H : Hp) : Prop := match x with
 | .str _ => T = "str"
 | .int _ => T = "int"
 | .ref p => (T = "list" ∧ ∃ xs, SqL K H p xs) ∨ (T = "tuple" ∧ ∃ o, K.lookup p = some o ∧ o.cls = .type "tuple" ∧ o.dict = none) ∨
   (T = "dict" ∧ ((∃ kvs, H p = some (.dK kvs)) ∨ ∃ kvs, H p = some (.dT kvs))) ∨ (T = "set" ∧ ∃ S n, H p = some (.set S n))
 | _ => False
theorem Zil {pins : List (Addr × Obj)} {σ : St} {H : Hp} {s : Shared} {T : String} {x : V} {v : Value} (I : Inv X pins σ H s) (r : RelV x v) (ty : tyV X.K T x H) :
  s.TypeIs v T ∧ ∀ a, v = .ref a → ∃ ob, s.heap.get? a = some ob ∧ ob.dict = none := by
 cases x with
 | str z =>
  obtain ⟨t, rfl⟩ := r
  cases (show T = "str" from ty)
  exact ⟨typeIs_str s z t, fun _ e => nomatch e⟩
 | int i =>
  obtain ⟨t, rfl⟩ := r
  cases (show T = "int" from ty)
  exact ⟨typeIs_int s i t, fun _ e => nomatch e⟩
 | ref p =>
  cases r
  rcases ty with ⟨rfl, xs, hq⟩ | ⟨rfl, o, hk, hc, hd⟩ | ⟨rfl, hk⟩ | ⟨rfl, S, n, hk⟩
  ·obtain ⟨its, _, pl, _⟩ := I.list hq
   refine ⟨pl.isList.typeIs, fun a e => ?_⟩
   cases e
   obtain ⟨o, n, e, c, hd, _⟩ := pl
   exact ⟨o, e, hd⟩
  ·refine ⟨⟨o, I.kIn p o hk, hc⟩, fun a e => ?_⟩
   cases e
   exact ⟨o, I.kIn _ o hk, hd⟩
  ·have z : ∃ o, s.heap.get? p = some o ∧ o.ExactDict := by
    rcases hk with ⟨kvs, hk⟩ | ⟨kvs, hk⟩
    ·obtain ⟨_, _, _, _, o, _, _, e, ex, _⟩ := I.hok p _ hk
     exact ⟨o, e, ex⟩
    ·obtain ⟨_, _, _, _, o, _, _, e, ex, _⟩ := I.hok p _ hk
     exact ⟨o, e, ex⟩
   obtain ⟨o, e, ex⟩ := z
   refine ⟨⟨o, e, ex.1⟩, fun a e2 => ?_⟩
   cases e2
   exact ⟨o, e, ex.2.1⟩
  ·obtain ⟨o, _, _, _, e, ex, _⟩ := I.hok p _ hk
   refine ⟨⟨o, e, ex.1⟩, fun a e2 => ?_⟩
   cases e2
   exact ⟨o, e, ex.2.1⟩
 | _ => exact False.elim ty
noncomputable def tBM0 (K : PySem.W.Frag) (T : String) (r : V → List V → Hp → VK → Prop) (to : TE) : TE := fun σ H Q => to σ H fun x H1 => tyV K T x H1 ∧ r x [] H1 Q
noncomputable def tBM (K : PySem.W.Frag) (T : String) (r : V → List V → Hp → VK → Prop) (to : TE) (t : TA) : TE := fun σ H Q => to σ H fun x H1 => tyV K T x H1 ∧ t σ H1 fun xs H2 => r x xs H2 Q
variable {o e : Expr} {es : List Expr} {to : TE} {t : TA} {name : Str} {apos cpos : Pos} {T id : String} {r : V → List V → Hp → VK → Prop}
theorem Zk3 (pa : PlainAttrs T) (slot : Slot T name id) (hty : typeOf (.builtin id) = pure (.type "method_descriptor")) (hm : MtR X id r) (ho : PE X o to)
  (hbase : attributeBase o name X.env (eval o X.env) = eval o X.env := by rfl) (hline : (apos.endLine == cpos.line) = true := by rfl) : PE X (.Call (.Attribute o name apos) [] [] cpos) (tBM0 X.K T r to) := by
 intro pins s σ H Q I h
 refine wpAny_Call_method0_late hbase hline (thn (ho pins s σ H _ I h) fun v s1 ⟨x, H1, I1, r1, ty, q1⟩ => ?_)
 obtain ⟨h1, h2⟩ := Zil I1 r1 ty
 exact ⟨T, id, pa, slot, hty, h1, h2, Calls.callWith_builtin rfl (PySem.evalArgs_none (hm pins s1 σ H1 x [] v [] Q I1 r1 .nil q1))⟩
theorem Zl0 (pa : PlainAttrs T) (slot : Slot T name id) (hty : typeOf (.builtin id) = pure (.type "method_descriptor")) (hm : MtR X id r) (ho : PE X o to) (ha : PA X (e :: es) t)
  (hbase : attributeBase o name X.env (eval o X.env) = eval o X.env := by rfl)
  (hfew : ((backTo cpos (starEach (e :: es) X.env)).all (fun x => !x.1) && (backToKw cpos (keywordEach [] X.env)).all (fun x => x.1.isSome)
   && decide ((e :: es).length + ([] : List Keyword).length + (if ([] : List Keyword).isEmpty then 0 else 1) < 30)) = true := by rfl)
  (hline : (apos.endLine == cpos.line) = true := by rfl) (hs : starEach (e :: es) X.env = (false, eval e X.env) :: starEach es X.env := by rfl) (hplain : (backTo cpos (starEach es X.env)).any (·.1) = false := by rfl) :
  PE X (.Call (.Attribute o name apos) (e :: es) [] cpos) (tBM X.K T r to t) := by
 intro pins s σ H Q I h
 refine wpAny_Call_method_late hbase hfew hline rfl (thn (ho pins s σ H _ I h) fun v s1 ⟨x, H1, I1, r1, ty, q1⟩ => ?_)
 obtain ⟨h1, h2⟩ := Zil I1 r1 ty
 refine ⟨T, id, pa, slot, hty, h1, h2, ?_⟩
 have hA := ha cpos pins s1 σ H1 _ I1 q1
 rw [hs] at hA ⊢
 refine Calls.callWith_builtin (by show (false || (backTo cpos (starEach es X.env)).any (·.1)) = false; rw [hplain] <;> rfl) (Calls.evalArgs_plain ?_)
 exact thn hA fun us s2 ⟨vs, H2, I2, r2, q2⟩ => hm pins s2 σ H2 x vs v us Q I2 r1 r2 q2
end
end L2
namespace L2
open PySem PySem.Spec PyProof.Rows
noncomputable def MtM (X : Cx) (id : String) (r : V → List V → Hp → VK → Prop) : Prop :=
 ∀ (pins : List (Addr × Obj)) (s : Shared) (σ : St) (H : Hp) (x : V) (xs : List V) (v : Value) (us : List Value) (Q : VK), Inv X pins σ H s → RelV x v → Vals xs us → r x xs H Q →
  wpAny (model X.prog X.w) X.A (call (.builtin id) (v :: us)) (EP X pins σ Q) X.xe s
theorem Vals.one : ∀ {x : V} {us : List Value}, Vals [x] us → ∃ u, us = [u] ∧ RelV x u
 | _, _, .cons r .nil => ⟨_, rfl, r⟩
theorem Vals.two : ∀ {x y : V} {us : List Value}, Vals [x, y] us → ∃ u v, us = [u, v] ∧ RelV x u ∧ RelV y v
 | _, _, _, .cons r (.cons q .nil) => ⟨_, _, rfl, r, q⟩
theorem Vals.zero : ∀ {us : List Value}, Vals [] us → us = []
 | _, .nil => rfl
theorem Vals.reverse {xs : List V} {us : List Value} (h : Vals xs us) : Vals xs.reverse us.reverse := by
 induction h with
 | nil => exact .nil
 | cons r t ih => rw [List.reverse_cons, List.reverse_cons]; exact Vals.append ih (.cons r .nil)
section
variable {X : Cx} {pins : List (Addr × Obj)} {σ : St} {H : Hp} {s : Shared} {l b : Addr} {xs ys zs : List V}
theorem Inv.lset {its its' : List Value} {n : Nat} {f : Array Value → Array Value} {t' : Nat} (I : Inv X pins σ H s) (hH : H l = some (.lst xs))
  (e : s.heap.get? l = some { cls := .type "list", data := .seq its.toArray n }) (hf : f its.toArray = its'.toArray) (hv : Vals ys its') (hz : ys.length ≤ sizeLine) :
  Inv X pins σ (upd H l (.lst ys)) { s with heap := s.heap.update l (Obj.mapSeq f), toks := t' } := by
 have q := PySem.IsL.update e f
 rw [hf] at q
 refine I.write (x := l) (e := l) (by rw [hH]; exact trivial) (.inl rfl) (fun b' u hb hu => (Heap.get?_update_other s.heap (Obj.mapSeq f) (Ne.symm hb)).trans hu) ⟨_, q⟩ ?_
 exact ⟨hz, its', _, hv, q⟩
theorem Inv.lnew {its : List Value} {t' : Nat} (I : Inv X pins σ H s) (hv : Vals ys its) (hz : ys.length ≤ sizeLine) :
  Inv X pins σ (upd H s.heap.objs.size (.lst ys)) { s with heap := s.heap.push { cls := .type "list", data := .seq its.toArray }, toks := t' } :=
 I.laid (fun _ _ q => Heap.get?_push_of_some _ q) (Nat.le_refl _) ⟨hz, its, 0, hv, Heap.get?_push_size _ rfl⟩
theorem Inv.fresh (I : Inv X pins σ H s) : H s.heap.objs.size = none := I.hok.fresh (Nat.le_refl _)
theorem Inv.lstM (I : Inv X pins σ H s) (hH : H l = some (.lst xs)) : xs.length ≤ sizeLine ∧ ∃ (its : List Value) (n : Nat), Vals xs its ∧ xs.length = its.length ∧ s.heap.get? l = some { cls := .type "list", data := .seq its.toArray n } := by
 obtain ⟨z, its, n, r, e⟩ := I.hok l _ hH
 exact ⟨z, its, n, r, r.length, e⟩
theorem notLongL {n : Nat} (h : n ≤ sizeLine) : Builtin.List.listTooLong n = false := by
 unfold Builtin.List.listTooLong
 exact decide_eq_false (by omega)
end
section
variable {X : Cx}
noncomputable def rAppend : V → List V → Hp → VK → Prop := fun x vs H Q => ∃ l xs y, x = .ref l ∧ vs = [y] ∧ H l = some (.lst xs) ∧ xs.length < sizeLine ∧ Q .non (upd H l (.lst (xs ++ [y])))
theorem Zgo : MtM X "list.append" rAppend := by
 intro pins s σ H x vs v us Q I rx rv h
 obtain ⟨l, xs, y, rfl, rfl, hH, hz, q⟩ := h
 cases rx
 obtain ⟨u, rfl, ru⟩ := rv.one
 obtain ⟨z, its, n, r, hl, e⟩ := I.lstM hH
 refine call_meets F.slot_list_append ⟨_, e, rfl⟩ F.entry_list_append (F.args_list_append_2 _ _) (PySem.list_append l its.toArray n u (by rw [List.size_toArray]; omega)) ⟨e, ?_⟩
 refine ⟨.non, _, I.lset (its' := its ++ [u]) hH e (by simp) (r.append (.cons ru .nil)) ?_, rfl, q⟩
 rw [List.length_append, List.length_singleton]
 omega
noncomputable def rReverse : V → List V → Hp → VK → Prop := fun x vs H Q => ∃ l xs, x = .ref l ∧ vs = [] ∧ H l = some (.lst xs) ∧ Q .non (upd H l (.lst xs.reverse))
theorem Zfu : MtM X "list.reverse" rReverse := by
 intro pins s σ H x vs v us Q I rx rv h
 obtain ⟨l, xs, rfl, rfl, hH, q⟩ := h
 cases rx
 have hus := rv.zero
 subst hus
 obtain ⟨z, its, n, r, hl, e⟩ := I.lstM hH
 refine call_meets F.slot_list_reverse ⟨_, e, rfl⟩ F.entry_list_reverse (F.args_list_reverse_1 _) (AutoSeq1.list_reverse_list_0 l its.toArray n (by rw [List.size_toArray]; omega)) ⟨e, ?_⟩
 refine ⟨.non, _, I.lset (its' := its.reverse) hH e (by simp) r.reverse ?_, rfl, q⟩
 rw [List.length_reverse]
 omega
noncomputable def rCat : R2 := fun x y H Q => ∃ l b xs zs, x = .ref l ∧ y = .ref b ∧ H l = some (.lst xs) ∧ H b = some (.lst zs) ∧ xs.length + zs.length ≤ sizeLine ∧ ∀ p, H p = none → Q (.ref p) (upd H p (.lst (xs ++ zs)))
theorem Zk0 : OpR X (binaryOp .Add) rCat := by
 intro pins s σ H x y v u Q I rx ry h
 obtain ⟨l, b, xs, zs, rfl, rfl, hH, hB, hz, q⟩ := h
 cases rx
 cases ry
 obtain ⟨z, its, n, r, hl, e⟩ := I.lstM hH
 obtain ⟨z2, its2, n2, r2, hl2, e2⟩ := I.lstM hB
 refine PySem.P.add_list e e2 ?_ (by rw [List.size_toArray, List.size_toArray]; omega)
 have ea : its.toArray ++ its2.toArray = (its ++ its2).toArray := by simp
 rw [ea]
 exact ⟨.ref _, _, I.lnew (t' := s.toks) (r.append r2) (by rw [List.length_append]; omega), rfl, q _ I.fresh⟩
end
section
variable {prog : Program} {w : World} {A : Around} {E : Value → Shared → Prop} {s : Shared}
set_option maxRecDepth 100000 in
end
section
variable {X : Cx}
end
end L2
namespace Att
open PySem PySem.W PySem.Calls PyProof.Rows
theorem Zco {P : Params} {h : Heap} : ∀ (ns : List Int) (vs : List Value), WellAll P h vs (ns.map WData.int) → IntsAre vs ns := by
 intro ns
 induction ns with
 | nil =>
  intro vs w
  rw [List.map_nil] at w
  cases w
  exact .nil
 | cons n ns ih =>
  intro vs w
  rw [List.map_cons] at w
  cases w with
  | cons a b =>
   cases a
   exact .cons _ _ (ih _ b)
theorem Zh2 {l : OpenLaw} {n : Nat} (hn : l.most = some n) {P : Params} {h : Heap} {args : List WData} {vals : List Value}
  (hpre : l.row.toRowW.claim.pre args = true) (hwl : WellAll P h vals args) :
  ∃ a vs ns, vals = [Value.ref a] ∧ args = [WData.list (ns.map WData.int)] ∧ h.get? a = some { cls := .type "list", data := .seq vs.toArray } ∧ IntsAre vs ns ∧ ns.length ≤ n := by
 have hsh : WShape.hasAll [] args [.list .int] = true := (pre_splitW hpre).1
 have hc : l.pre.holds [] { args := args } = true := (pre_splitW hpre).2
 obtain ⟨d, r, rfl, h1, h2⟩ := hasAllW_cons hsh
 obtain rfl := hasAllW_nil h2
 obtain ⟨xs, rfl, h3⟩ := hasW_list h1
 obtain ⟨ns, rfl⟩ := items_int h3
 have hlen : ns.length ≤ n := by
  unfold OpenLaw.pre at hc
  have h4 : (WTm.not (.lt (.lit (.int (n : Int))) (.len (.arg 0)))).holds [] { args := [.list (ns.map .int)] } = true := by
   have h4 := (holds_andW hc).1
   rw [hn] at h4
   exact h4
  have h5 := condW_of h4 (w_not (w_lt w_lit (w_len_list (w_arg rfl))))
  rw [lmp] at h5
  refine Nat.le_of_not_lt fun q => ?_
  have q' : (n : Int) < ((ns.length : Nat) : Int) := by omega
  first
   | (rw [decide_eq_true q'] at h5; exact absurd h5 (by decide))
   | (simp at h5; omega)
 cases hwl with
 | cons w1 w2 =>
  cases w2
  cases w1 with
  | list ho hall => exact ⟨_, _, ns, rfl, rfl, ho, Zco ns _ hall, hlen⟩
theorem Zgv (l : OpenLaw) (args : List WData) : l.row.toRowW.claim.post args (.bool true) args = true :=
 postW_of (r := l.row.toRowW) (X := (true == true))
  (show WShape.has [] (.bool true) .bool = true by first | rfl | decide | simp [WShape.has, WShape.arms, WShape.armsAll])
  (show (WTm.eq .res (.lit (.bool true))).value [] { args := args, res := some (.bool true), after := args } = some (.bool (true == true)) from w_eq_bool (w_res rfl) w_lit) rfl
theorem attach_call {l : OpenLaw} {n : Nat} {q : Program} {loose : List Str} {XP : (Str → Option Value) → Heap → Prop} {YP : World → Heap → Prop} {d : DefRec}
  (hn : l.most = some n) (hdf : d.params.defaults = [])
  (call : ∀ (w : World) (s₀ s₁ : Shared) (mg mb : Str → Option Value) (fa : Addr) (o : Obj) (pm cd doc : Value) (a : Addr) (vs : List Value) (ns : List Int),
   Ground q loose [] XP w s₀ mg mb s₁.heap → YP w s₁.heap →
   s₁.heap.get? fa = some o → o.data = .func (docDef d.name d.params d.body d.scope pm cd doc) → s₁.heap.CodeRec cd d.name → mg d.name = some (.ref fa) →
   s₁.heap.get? a = some { cls := .type "list", data := .seq vs.toArray } → IntsAre vs ns → ns.length ≤ n → s₁.gens = #[] →
   codeAny (model l.prog w) callerA (.call (.ref fa) ⟨[.ref a], []⟩) (fun r s' => r = .ok (.ret (.bool true)) ∧ OldK s₁.heap s'.heap ∧ s'.os = s₁.os ∧ AllBare s'.gens) s₁) :
  WalkO q loose XP YP l.row.toRowW d [] (fun f vs => PySem.call f vs) := by
 intro w s₀ s₁ mg mb G Y fa o pm cd doc dV kV ho hd hcd hD hmg hg args vals as hpre hlay hrd hwl hlo
 obtain rfl : dV = .none := Dflts.none hD hdf
 obtain rfl : kV = .none := Dflts.noKw hD
 obtain ⟨a, vs, ns, rfl, rfl, hobj, hints, hlen⟩ := Zh2 hn hpre hwl
 refine enter_call (codeAny_mono (call w s₀ s₁ mg mb fa o pm cd doc a vs ns G Y ho (fd_plain hd) hcd hmg hobj hints hlen hg) fun r s' hq => ?_)
 obtain ⟨rfl, h2, h3, h4⟩ := hq
 exact ⟨.inl ⟨.bool true, .bool true, [], rfl, fun _ => rfl, .bool true, Zgv l _, fun _ => ⟨List.Pairwise.nil, fun _ hm => (nomatch hm)⟩⟩, h2, h3, h4⟩
section
variable {prog : Program} {w : World} {A : Around} {E : Value → Shared → Prop} {s : Shared} {K : Frag}
end
end Att
namespace L2
open PySem PySem.Spec PyProof.Rows
theorem Ze7 : ∀ {vs : List Value} {ns : List Int}, IntsAre vs ns → Vals (ns.map V.int) vs
 | _, _, .nil => .nil
 | _, _, .cons n t h => .cons ⟨t, rfl⟩ (Ze7 h)
noncomputable def Only (H : Hp) : Prop := ∀ b, H b = none ∨ ∃ o xs, H b = some (.frz o (.lst xs))
theorem Zhk {P : Program} {w : World} {K : PySem.W.Frag} {mg mb : Str → Option Value} {CX : CXT} {k : Nat} {fa a : Addr} {fd : FuncData} {x : Str} {sp : Sp} {s₁ : Shared} {vs : List Value} {ns : List Int}
  (KX : K.In s₁.heap) (hns : s₁.heap.Ns mainGlobals mg) (hb : s₁.heap.Ns builtinsNs mb) (hbb : ∀ x : Str, x ≠ "__name__" → mb x = bootBuiltins x) (hlim : s₁.heap.NoLimit) (hg : s₁.gens = #[])
  (ha : s₁.heap.get? a = some { cls := .type "list", data := .seq vs.toArray }) (hi : IntsAre vs ns) (hl : ns.length ≤ sizeLine) (hr : Room k callerA)
  (F : ∀ base : Heap, K.In base → base.Ns mainGlobals mg → FnOk P w K mg base CX k fa fd [x] sp) (hbind : ∀ (s : Shared) (u : Value), BindsTo s fd ⟨[u], []⟩ [(x, u)])
  (hsp : ∀ H : Hp, Only H → SqL K H a (ns.map V.int) → sp [.ref a] H (fun v _ => v = .bl true) fun _ _ _ => False)
  (hCX : ∀ H e s', CX [] H s₁ (fun _ _ _ => False) e s' → False) :
  codeAny (model P w) callerA (.call (.ref fa) ⟨[.ref a], []⟩) (fun r s' => r = .ok (.ret (.bool true)) ∧ OldK s₁.heap s'.heap ∧ s'.os = s₁.os ∧ AllBare s'.gens) s₁ := by
 have rv := Ze7 hi
 have lenV := hi.length
 -- from an abstract heap in which nothing but the script may be tracked
 have core : ∀ H : Hp, Only H → SqL K H a (ns.map V.int) → HOk P w H s₁.heap → (∀ b, H b ≠ none → b = a) → (H a ≠ none → K.lookup a = none) →
   codeAny (model P w) callerA (.call (.ref fa) ⟨[.ref a], []⟩) (fun r s' => r = .ok (.ret (.bool true)) ∧ OldK s₁.heap s'.heap ∧ s'.os = s₁.os ∧ AllBare s'.gens) s₁ := by
  intro H hO hS hok hA hK
  have base_of : ∀ {b : Addr} {o : Obj}, s₁.heap.get? b = some o → H b = none → (hidT s₁.heap H).get? b = some o := fun e n => Zhg e n
  have noA : ∀ {b : Addr} {o : Obj} {es : Array DictEntry} {ep : Nat}, s₁.heap.get? b = some o → o.data = .dict es ep → H b = none := fun {b o es ep} e d => by
   cases q : H b with
   | none => rfl
   | some u =>
    have e' : b = a := hA b (by rw [q]; simp)
    subst e'
    rw [ha] at e; cases e
    have d' : Data.seq vs.toArray _ = Data.dict es ep := d
    cases d'
  have nsK : ∀ {b : Addr} {m : Str → Option Value}, s₁.heap.Ns b m → (hidT s₁.heap H).Ns b m := fun {b m} ⟨o, es, ep, e, d, r⟩ => ⟨o, es, ep, base_of e (noA e d), d, r⟩
  have hKb : K.In (hidT s₁.heap H) := fun b o e => base_of (KX b o e) (by
   cases q : H b with
   | none => rfl
   | some u =>
    have e' : b = a := hA b (by rw [q]; simp)
    subst e'
    rw [hK (by rw [q]; simp)] at e; cases e)
  have hM : Mod K mg (hidT s₁.heap H) := ⟨hKb, nsK hns, ⟨mb, nsK hb, hbb⟩, let ⟨mc, h1, h2⟩ := hlim; ⟨mc, nsK h1, h2⟩⟩
  have e0 : Env0 P w K mg (hidT s₁.heap H) callerA [] s₁ H := ⟨rfl, hM, fun b o e => Ziz e, Nat.le_of_eq (Zgc _ _), trivial, fun b hb => absurd (show b ∈ ([] : List Addr) from hb) (by simp), hok, .of_eq hg⟩
  refine codeAny_mono ((F _ hKb (nsK hns)).run callerA [] s₁ H ⟨[.ref a], []⟩ [.ref a] [.ref a] _ _ hr e0 (hbind s₁ (.ref a)) (.cons rfl .nil) (hsp H hO hS)) fun r s' h => ?_
  cases r with
  | error e => exact (hCX H e s' h).elim
  | ok fl =>
   cases fl with
   | next => exact False.elim h
   | brk => exact False.elim h
   | cont => exact False.elim h
   | ret u =>
    obtain ⟨v, H', os, bare, un, hok', r', q⟩ := h
    have q' : v = .bl true := q
    subst q'
    obtain rfl : u = Value.bool true := r'
    refine ⟨rfl, OldK.of_keep fun b o e => ?_, os, bare⟩
    cases q : H b with
    | none => exact un.keep b o e q (by intro z; exact absurd (show b ∈ ([] : List Addr) from z) (by simp)) (by simp)
    | some u =>
     rcases hO b with z | ⟨ob, xs, z⟩
     ·rw [q] at z; cases z
     ·have z2 := un.frzs b ob _ z
      obtain ⟨e1, _⟩ := hok b _ z
      obtain ⟨e2, _⟩ := hok' b _ z2
      rw [e] at e1; cases e1
      exact e2
 cases hk : K.lookup a with
 | some o =>
  -- the script is one of the module's own objects
  have e := KX a o hk
  rw [ha] at e
  cases e
  refine core (fun _ => none) (fun _ => .inl rfl) (.inr ⟨_, vs.toArray, _, hk, rfl, rfl, rfl, by rw [List.size_toArray, lenV]; exact hl, by simpa using rv⟩) (fun b u z => by have z' : (none : Option HO) = some u := z; cases z') (fun b z => absurd rfl z) fun z => absurd rfl z
 | none =>
  refine core (fun b => if b = a then some (.frz { cls := .type "list", data := .seq vs.toArray } (.lst (ns.map V.int))) else none) (fun b => ?_) (.inl (.inr ⟨{ cls := .type "list", data := .seq vs.toArray }, if_pos rfl⟩)) (fun b u z => ?_) (fun b z => ?_) fun _ => hk
  ·by_cases hb : b = a
   ·exact .inr ⟨_, _, if_pos hb⟩
   ·exact .inl (if_neg hb)
  ·by_cases hb : b = a
   ·have z' := (if_pos hb).symm.trans z
    cases z'
    subst hb
    exact ⟨ha, by rw [lmp]; exact hl, vs, _, rv, ha⟩
   ·have z' := (if_neg hb).symm.trans z
    cases z'
  ·by_cases hb : b = a
   ·exact hb
   ·exact absurd (if_neg hb) z
end L2
namespace L2
open PySem PySem.Spec PyProof.Rows
theorem Zjo {l : PySem.W.OpenLaw} {n k : Nat} {q : Program} {loose : List Str} {XP : (Str → Option Value) → Heap → Prop} {YP : World → Heap → Prop} {d : DefRec} {K : Params → PySem.W.Frag} {CX : World → CXT} {sp : World → Sp} {x : Str}
  (hn : l.most = some n) (hn2 : n ≤ sizeLine) (hdf : d.params.defaults = []) (hr : Room k callerA)
  (hY : ∀ (w : World) (h : Heap), YP w h → (K w.params).In h)
  (F : ∀ (w : World) (mg : Str → Option Value) (fa : Addr) (h : Heap), (K w.params).In h → h.Ns mainGlobals mg → mg d.name = some (.ref fa) →
   ∃ fd : FuncData, (∀ (s : Shared) (u : Value), BindsTo s fd ⟨[u], []⟩ [(x, u)]) ∧
    ∀ base : Heap, (K w.params).In base → base.Ns mainGlobals mg → FnOk l.prog w (K w.params) mg base (CX w) k fa fd [x] (sp w))
  (hsp : ∀ (w : World) (H : Hp) (a : Addr) (ns : List Int), ns.length ≤ n → Only H → SqL (K w.params) H a (ns.map V.int) → sp w [.ref a] H (fun v _ => v = .bl true) fun _ _ _ => False)
  (hCX : ∀ (w : World) (H : Hp) (s : Shared) (e : Value) (s' : Shared), CX w [] H s (fun _ _ _ => False) e s' → False) :
  PySem.W.WalkO q loose XP YP l.row.toRowW d [] (fun f vs => PySem.call f vs) := by
 refine Att.attach_call hn hdf fun w s₀ s₁ mg mb fa o pm cd doc a vs ns G Y ho hd hcd hmg hobj hints hlen hg => ?_
 have KX := hY w _ Y
 obtain ⟨fd, hb, hF⟩ := F w mg fa _ KX G.T.g hmg
 exact Zhk KX G.T.g G.T.b G.T.builtins G.T.nolimit hg hobj hints (Nat.le_trans hlen hn2) hr hF hb (fun H hO hS => hsp w H a ns hlen hO hS) fun H e s' => hCX w H s₁ e s'
end L2
namespace L2
open PySem PySem.Spec PyProof.Rows
noncomputable def defArgs (s : Stmt) : Arguments := match s with
 | .FunctionDef _ a _ _ _ _ _ _ _ _ => a
 | _ => { posonlyargs := [], args := [], vararg := none, kwonlyargs := [], kw_defaults := [], kwarg := none, defaults := [] }
noncomputable def defBody (s : Stmt) : List Stmt := match s with
 | .FunctionDef _ _ b _ _ _ _ _ _ _ => b
 | _ => []
noncomputable def defScope (s : Stmt) : Scope := match s with
 | .FunctionDef _ _ _ _ _ _ sc _ _ _ => sc
 | _ => { kind := .function, names := [], isGenerator := false, isCoroutine := false }
noncomputable abbrev CX0 : CXT := fun _ _ _ _ _ _ => False
noncomputable abbrev E0 : XK := fun _ _ _ => False
theorem pass0 {X : Cx} : Passes CX0 X E0 := fun _ _ _ _ _ _ _ h => h.elim
structure Fun (K : PySem.W.Frag) (x qual : Str) (st : Stmt) (f : Addr) (fd : FuncData) : Prop where
 ex : ∃ (oc : Value) (od : Option Addr) (kV doc pm : Value) (an : Option Addr) (cdv ct : Value) (osl : Array (Option Value)),
  fd = PySem.W.fnOf x qual (defArgs st) (defBody st) (defScope st) .none kV doc pm an cdv ct ∧ K.lookup f = some ⟨oc, od, .func fd, osl⟩ ∧ PySem.W.codeIn K cdv qual = true
 kp : PySem.W.keepIn K (.ref f) = true
section
variable {P : Program} {w : World} {K : PySem.W.Frag} {mg : Str → Option Value} {base : Heap}
theorem Fun.ok {x qual : Str} {st : Stmt} {f : Addr} {fd : FuncData} {N ps : List Str} {k : Nat} {sp : Sp} (F : Fun K x qual st f fd) (S : FnScope N ps (defScope st)) (len : ∀ vs H Q E, sp vs H Q E → vs.length = ps.length)
  (hbody : ∀ (cdv : Value) (A : Around) (outer : List Env) (s : Shared) (H : Hp) (vs : List V) (Q : VK) (E : XK), Room k (A.deeper (envOfC qual (defScope st) s.heap.objs.size f cdv)) → sp vs H Q E →
   ∃ t, PSs (cxOf CX0 P w K mg base N qual (defScope st) f cdv A outer s H E).nox (defBody st) t ∧ t { nx := fun _ H' => Q .non H', rt := Q } (start N vs) H) : FnOk P w K mg base CX0 (k + 1) f fd ps sp := by
 obtain ⟨oc, od, kV, doc, pm, an, cdv, ct, osl, rfl, lk, hcd⟩ := F.ex
 refine Zjr lk hcd S len fun A outer s H vs Q E hr hsp => ?_
 obtain ⟨t, h, q⟩ := hbody cdv A outer s H vs Q E hr hsp
 exact ⟨t, h.nox, q⟩
theorem Fun.binds {x qual : Str} {st : Stmt} {f : Addr} {fd : FuncData} {ps : List Str} (F : Fun K x qual st f fd)
  (h : ∀ (kV doc pm : Value) (an : Option Addr) (cdv ct : Value) (us : List Value), us.length = ps.length → bindArgs (PySem.W.fnOf x qual (defArgs st) (defBody st) (defScope st) .none kV doc pm an cdv ct) ⟨us, []⟩ = pure (ps.zip us)) : Binds K fd ps [] := by
 obtain ⟨oc, od, kV, doc, pm, an, cdv, ct, osl, rfl, lk, hcd⟩ := F.ex
 exact .all (h kV doc pm an cdv ct)
theorem Zck {x qual : Str} {st : Stmt} {f : Addr} {oc : Value} {od an : Option Addr} {osl : Array (Option Value)} {kV doc pm cdv ct : Value} (l : K.lookup f = some ⟨oc, od, .func (PySem.W.fnOf x qual (defArgs st) (defBody st) (defScope st) .none kV doc pm an cdv ct), osl⟩)
  (c : PySem.W.codeIn K cdv qual = true) (k : PySem.W.keepIn K (.ref f) = true) : Fun K x qual st f (PySem.W.fnOf x qual (defArgs st) (defBody st) (defScope st) .none kV doc pm an cdv ct) := ⟨⟨oc, od, kV, doc, pm, an, cdv, ct, osl, rfl, l, c⟩, k⟩
end
section
variable {X : Cx}
theorem pv (i : Nat) {x : Str} {pos : Pos} (hN : X.N[i]? = some x := by rfl) (hv : Vis X.env.scope x := by first | exact Or.inl rfl | exact Or.inr (Or.inl rfl) | exact Or.inr (Or.inr rfl)) (hd : (x == ("__debug__" : Str)) = false := by decide)
  (hcd : (x == ("__classdict__" : Str)) = false := by decide) : PE X (.Name x pos) (tVar i) := Zgq hN hv hd hcd
end
theorem ite2 {c A B : Prop} [Decidable c] (h1 : c → A) (h2 : ¬ c → B) : if c then A else B := by
 by_cases h : c
 ·rw [if_pos h]
  exact h1 h
 ·rw [if_neg h]
  exact h2 h
noncomputable def Same (H H' : Hp) : Prop := ∀ b o, H b = some o → H' b = some o
theorem Same.refl (H : Hp) : Same H H := fun _ _ h => h
theorem Same.trans {H H1 H2 : Hp} (a : Same H H1) (b : Same H1 H2) : Same H H2 := fun c o h => b c o (a c o h)
theorem Same.free {H H' : Hp} (e : Same H H') {l : Addr} (h : H' l = Option.none) : H l = Option.none := by
 cases q : H l with
 | none => rfl
 | some o =>
  rw [e l o q] at h
  cases h
theorem Same.seq {K : PySem.W.Frag} {H H' : Hp} {a : Addr} {xs : List V} (e : Same H H') (h : SqL K H a xs) : SqL K H' a xs := by
 rcases h with (h | ⟨o, h⟩) | h
 ·exact .inl (.inl (e _ _ h))
 ·exact .inl (.inr ⟨o, e _ _ h⟩)
 ·exact .inr h
end L2
set_option maxHeartbeats 4000000
namespace L2
open PySem PySem.Spec PyProof.Rows
noncomputable abbrev lstO (us : List Value) : Obj := { cls := .type "list", data := .seq us.toArray us.length }
noncomputable def cxComp (X : Cx) (Nc : List Str) (scope : Scope) (cs : List (Str × Addr)) (C : Addr) (s : Shared) (H : Hp) (fp : List Addr) : Cx where
 prog := X.prog
 w := X.w
 K := X.K
 mg := X.mg
 base := X.base
 A := X.A
 N := Nc
 s₀ := s
 H₀ := H
 env := compEnvC scope cs C X.env
 outer := X.stack
 stack := X.stack
 ex := fp
 fn := fun x => scope.names.lookup x == some .cell
 calm := X.calm
 pn := []
 xe := fun _ _ => False
noncomputable def clOf (cells : List (Str × Addr)) : List (Str × NameKind) → List (Str × Addr) → List (Str × Addr)
 | [], acc => acc
 | (n, k) :: r, acc => if k == .free then clOf cells r ((n, (cells.lookup n).getD 0) :: acc) else clOf cells r acc
theorem Zbo (cells : List (Str × Addr)) : ∀ (names : List (Str × NameKind)) (acc : List (Str × Addr)), clOf cells names acc = clOf cells names [] ++ acc
 | [], acc => rfl
 | (n, k) :: r, acc => by
  unfold clOf
  split
  ·rw [Zbo cells r (_ :: acc), Zbo cells r [_], List.append_assoc]; rfl
  ·exact Zbo cells r acc
theorem Zbi {env : Env} : ∀ (names : List (Str × NameKind)) (acc : List (Str × Addr)), (∀ p ∈ names, p.2 = .free → ∃ c, env.cells.lookup p.1 = some c) →
  (forIn names acc fun (p : Str × NameKind) (cs : List (Str × Addr)) => (if p.2 == .free then (do let c ← cellOf env p.1; pure (ForInStep.yield ((p.1, c) :: cs))) else pure (ForInStep.yield cs) : Sem _)) = pure (clOf env.cells names acc)
 | [], acc, _ => rfl
 | (n, k) :: r, acc, h => by
  rw [List.forIn_cons]
  have hr : ∀ p ∈ r, p.2 = .free → ∃ c, env.cells.lookup p.1 = some c := fun p hp => h p (List.mem_cons_of_mem _ hp)
  unfold clOf
  by_cases hk : k = .free
  ·subst hk
   obtain ⟨c, hc⟩ := h (n, .free) List.mem_cons_self rfl
   have hc' : env.cells.lookup n = some c := hc
   simp only [beq_self_eq_true, if_true, cellOf, hc', pure_bind, Option.getD_some]
   exact Zbi r _ hr
  ·have hb : (k == NameKind.free) = false := by simpa using hk
   simp only [hb, Bool.false_eq_true, if_false, pure_bind]
   exact Zbi r _ hr
theorem Zdb {scope : Scope} {env : Env} (h : ∀ p ∈ scope.names, p.2 = .free → ∃ c, env.cells.lookup p.1 = some c) : closureFor scope env = pure (clOf env.cells scope.names []) := by
 have e : closureFor scope env = (forIn scope.names [] fun (p : Str × NameKind) (cs : List (Str × Addr)) => (if p.2 == .free then (do let c ← cellOf env p.1; pure (ForInStep.yield ((p.1, c) :: cs))) else pure (ForInStep.yield cs) : Sem _)) := by
  simp only [closureFor]
  rw [bind_pure]
 rw [e]; exact Zbi _ _ h
theorem Zbw {cells : List (Str × Addr)} : ∀ {names : List (Str × NameKind)} {x : Str} {c : Addr}, (∀ p ∈ names, p.2 = .free → ∃ c, cells.lookup p.1 = some c) → (x, c) ∈ clOf cells names [] → (x, .free) ∈ names ∧ cells.lookup x = some c
 | [], _, _, _, h => nomatch h
 | (n, k) :: r, x, c, hf, h => by
  have hr : ∀ p ∈ r, p.2 = .free → ∃ c, cells.lookup p.1 = some c := fun p hp => hf p (List.mem_cons_of_mem _ hp)
  unfold clOf at h
  by_cases hk : k = .free
  ·subst hk
   obtain ⟨c0, hc⟩ := hf (n, .free) List.mem_cons_self rfl
   have hc' : cells.lookup n = some c0 := hc
   rw [if_pos (by simp), Zbo, hc'] at h
   rcases List.mem_append.mp h with h | h
   ·obtain ⟨a, b⟩ := Zbw hr h
    exact ⟨List.mem_cons_of_mem _ a, b⟩
   ·have e : (x, c) = (n, c0) := by simpa using h
    cases e
    exact ⟨List.mem_cons_self, hc'⟩
  ·rw [if_neg (by simpa using hk)] at h
   obtain ⟨a, b⟩ := Zbw hr h
   exact ⟨List.mem_cons_of_mem _ a, b⟩
theorem Zew {cells : List (Str × Addr)} : ∀ {names : List (Str × NameKind)} {x : Str}, (x, .free) ∈ names → ∃ c, (x, c) ∈ clOf cells names []
 | [], _, h => nomatch h
 | (n, k) :: r, x, h => by
  unfold clOf
  rcases List.mem_cons.mp h with e | h
  ·cases e
   rw [if_pos (by simp), Zbo]
   exact ⟨_, List.mem_append_right _ List.mem_cons_self⟩
  ·obtain ⟨c, hc⟩ := Zew (cells := cells) h
   split
   ·rw [Zbo]; exact ⟨c, List.mem_append_left _ hc⟩
   ·exact ⟨c, hc⟩
theorem Zbd {α : Type} : ∀ {l : List (Str × α)} {x : Str} {c : α}, (x, c) ∈ l → ∃ c', l.lookup x = some c'
 | [], _, _, h => nomatch h
 | (k, v) :: r, x, c, h => by
  rw [List.lookup_cons]
  cases hb : x == k with
  | true => exact ⟨v, rfl⟩
  | false =>
   rcases List.mem_cons.mp h with e | h
   ·cases e; simp at hb
   ·exact Zbd h
theorem Zb2 {α : Type} : ∀ {l r : List (Str × α)} {x : Str} {c : α}, (l ++ r).lookup x = some c → l.lookup x = some c ∨ (l.lookup x = none ∧ r.lookup x = some c)
 | [], r, x, c, h => .inr ⟨rfl, h⟩
 | (k, v) :: l, r, x, c, h => by
  rw [List.cons_append, List.lookup_cons] at h
  rw [List.lookup_cons]
  cases hb : x == k with
  | true => rw [hb] at h; exact .inl h
  | false => rw [hb] at h; exact Zb2 h
theorem Zan : ∀ (names : List (Str × NameKind)) (n : Nat) (acc : List (Str × Addr)), cellsFrom n names acc = cellsFrom n names [] ++ acc
 | [], _, _ => rfl
 | (x, k) :: r, n, acc => by
  unfold cellsFrom
  split
  ·rw [Zan r (n + 1) (_ :: acc), Zan r (n + 1) [_], List.append_assoc]; rfl
  ·exact Zan r n acc
theorem Zbc : ∀ {names : List (Str × NameKind)} {n : Nat} {x : Str} {c : Addr}, (x, c) ∈ cellsFrom n names [] → (x, .cell) ∈ names
 | [], _, _, _, h => nomatch h
 | (y, k) :: r, n, x, c, h => by
  unfold cellsFrom at h
  by_cases hk : k = .cell
  ·subst hk
   rw [if_pos (by simp), Zan] at h
   rcases List.mem_append.mp h with h | h
   ·exact List.mem_cons_of_mem _ (Zbc h)
   ·have e : (x, c) = (y, n) := by simpa using h
    cases e
    exact List.mem_cons_self
  ·rw [if_neg (by simpa using hk)] at h
   exact List.mem_cons_of_mem _ (Zbc h)
theorem Zb8 {env : Env} : ∀ {names : List (Str × NameKind)} {x : Str},
  (names.map fun (p : Str × NameKind) => if (p.2 == NameKind.free && env.scope.kind == .function && env.kindOf p.1 == some .cell) then (p.1, NameKind.cell) else (p.1, p.2)).lookup x =
   (names.lookup x).map fun k => if (k == NameKind.free && env.scope.kind == .function && env.kindOf x == some .cell) then .cell else k
 | [], _ => rfl
 | (n, k) :: r, x => by
  have ih := @Zb8 env r x
  rw [List.map_cons]
  by_cases hc : (k == NameKind.free && env.scope.kind == .function && env.kindOf n == some .cell) = true
  ·rw [if_pos hc]
   cases hx : x == n with
   | true =>
    have e : x = n := by simpa using hx
    subst e
    rw [List.lookup_cons, List.lookup_cons, hx]
    simp only [Option.map_some, if_pos hc]
   | false => rw [List.lookup_cons, List.lookup_cons, hx]; exact ih
  ·rw [if_neg hc]
   cases hx : x == n with
   | true =>
    have e : x = n := by simpa using hx
    subst e
    rw [List.lookup_cons, List.lookup_cons, hx]
    simp only [Option.map_some, if_neg hc]
   | false => rw [List.lookup_cons, List.lookup_cons, hx]; exact ih
theorem Zca {M : Model} {A : Around} {E : Value → Shared → Prop} {s : Shared} {scope : Scope} {cl : List (Str × Addr)} {env : Env} {Q : Env → Shared → Prop}
  (hQ : Q (newEnv scope s.heap.objs.size env.globals (cellsFrom (s.heap.objs.size + 1) scope.names cl) env.qual none .none (some env) builtinsNs) { s with heap := pushCells (s.heap.push { cls := .type "dict", data := .dict #[] }) scope.names }) :
  wpAny M A (newFunctionEnv scope env.globals cl [] env.qual none .none (some env)) Q E s := by
 simp only [newFunctionEnv, Option.isSome_some, if_true]
 refine wpAny_bind (wpAny_alloc ?_)
 refine wpAny_bind (wpAny_layCells _ (fun name kind cells => by cases hkc : kind == NameKind.cell <;> simp [hkc]) _ _ _ _ ?_)
 rw [show ({ s with heap := s.heap.push { cls := .type "dict", data := .dict #[] } } : Shared).heap.objs.size = s.heap.objs.size + 1 from Heap.size_push ..]
 refine wpAny_bind ?_
 rw [List.forIn_nil]
 exact wpAny_pure (wpAny_pure hQ)
noncomputable def capOk (X : Cx) (Nc : List Str) (cap : List (Option Nat)) (scope : Scope) : Bool :=
 (scope.names.all fun p => (p.2 != .free || (X.env.scope.names.lookup p.1 == some .cell || X.env.scope.names.lookup p.1 == some .free)) && (scope.names.lookup p.1 == some p.2)) &&
 (Nc.length == cap.length) &&
 ((Nc.zip cap).all fun p => match p.2 with | none => true | some j => (X.N[j]? == some p.1) && (scope.names.lookup p.1 == some .free))
noncomputable def capt (cap : List (Option Nat)) (σ : St) : St := cap.map fun o => o.bind fun j => (σ[j]?).join
structure CapOk (X : Cx) (Nc : List Str) (cap : List (Option Nat)) (scope : Scope) : Prop where
 free : ∀ p ∈ scope.names, p.2 = .free → X.env.kindOf p.1 = some .cell ∨ X.env.kindOf p.1 = some .free
 look : ∀ p ∈ scope.names, scope.names.lookup p.1 = some p.2
 len : Nc.length = cap.length
 take : ∀ (i : Nat) (x : Str) (j : Nat), Nc[i]? = some x → cap[i]? = some (some j) → X.N[j]? = some x ∧ scope.names.lookup x = some .free
theorem CapOk.of {X : Cx} {Nc : List Str} {cap : List (Option Nat)} {scope : Scope} (h : capOk X Nc cap scope = true) : CapOk X Nc cap scope := by
 unfold capOk at h
 simp only [Bool.and_eq_true] at h
 obtain ⟨⟨h1, h2⟩, h3⟩ := h
 rw [List.all_eq_true] at h1 h3
 refine ⟨fun p hp hf => ?_, fun p hp => ?_, by simpa using h2, fun i x j e1 e2 => ?_⟩
 ·have q := h1 p hp
  simp only [Bool.and_eq_true, Bool.or_eq_true] at q
  rcases q.1 with q | q | q
  ·rw [hf] at q; simp at q
  ·exact .inl (beq_iff_eq.mp q)
  ·exact .inr (beq_iff_eq.mp q)
 ·have q := h1 p hp
  simp only [Bool.and_eq_true] at q
  simpa using q.2
 ·have q := h3 (x, some j) (by
   refine List.mem_of_getElem? (i := i) ?_
   rw [List.getElem?_zip_eq_some]
   exact ⟨e1, e2⟩)
  simp only [Bool.and_eq_true] at q
  exact ⟨by simpa using q.1, by simpa using q.2⟩
theorem Inv.track {X : Cx} {pins : List (Addr × Obj)} {σ : St} {H : Hp} {s : Shared} {D : Addr} {o : HO} (I : Inv X pins σ H s) (f : FpOk X pins H D) (new : ObjOk X.prog X.w (upd H D o) s.heap D o) : Inv X pins σ (upd H D o) s := by
 obtain ⟨f0, f1, f2, f3, f4, f5⟩ := f
 have ne : ∀ b u, H b = some u → b ≠ D := fun b u e z => by rw [z, f0] at e; cases e
 exact I.step (g' := s.gens) (d' := s.drawn) (t' := s.toks) (h' := s.heap) (ch := [D]) (fun b hb => by
   have e : b = D := by simpa using hb
   subst e
   exact ⟨f3, f1, f4, f5⟩) (fun b o _ _ _ e _ => e) (fun b o _ _ _ e _ => ⟨o.slots, e⟩) (fun b o hc _ n => by rw [Zak (fun z => hc (by simp [z]))]; exact n) (fun b o _ e => ⟨o, e⟩)
  (fun b xs e => by rw [Zak (ne b _ e)]; exact e) (fun b o u e => by rw [Zak (ne b _ e)]; exact e) (fun b ps e => ⟨#[], by rw [Zak (ne b _ e), e]; simp⟩) (fun m hm => hm)
  (fun b u e => by
   by_cases hb : b = D
   ·subst hb; rw [Zar] at e; cases e; exact new
   ·rw [Zak hb] at e
    exact (I.hok b u e).stay (fun c v _ q => q) (fun c q => by rw [Zak (ne c _ q)]; exact q) fun c xs q => by rw [Zak (ne c _ q)]; exact q) I.bare
theorem Zfj {X : Cx} {pins : List (Addr × Obj)} {σ : St} {H : Hp} {s : Shared} {fp : List Addr} {Nc : List Str} {cap : List (Option Nat)} {scope : Scope} (I : Inv X pins σ H s) (hf : ∀ b ∈ fp, FpOk X pins H b) (hlt : ∀ b ∈ fp, b < s.heap.objs.size)
  (ok : CapOk X Nc cap scope) (hk : scope.kind = .function) :
  Inv (cxComp X Nc scope (cellsFrom (s.heap.objs.size + 2) scope.names (clOf X.env.cells scope.names [])) (s.heap.objs.size + 1) s H fp) [] (capt cap σ) H
   { s with heap := pushCells ((s.heap.push (lstO [])).push { cls := .type "dict", data := .dict #[] }) scope.names } ∧
  (pushCells ((s.heap.push (lstO [])).push { cls := .type "dict", data := .dict #[] }) scope.names).get? s.heap.objs.size = some (lstO []) := by
 generalize hh1 : (s.heap.push (lstO [])) = h1
 have z1 : h1.objs.size = s.heap.objs.size + 1 := by rw [← hh1, Heap.size_push]
 generalize hh2 : (h1.push { cls := .type "dict", data := .dict #[] }) = h2
 have z2 : h2.objs.size = s.heap.objs.size + 2 := by rw [← hh2, Heap.size_push, z1]
 have up : ∀ b o, s.heap.get? b = some o → (pushCells h2 scope.names).get? b = some o := fun b o e => pushCells_keeps _ _ b o (by rw [← hh2, ← hh1]; exact Heap.get?_push_of_some _ (Heap.get?_push_of_some _ e))
 have hD : (pushCells h2 scope.names).get? s.heap.objs.size = some (lstO []) := pushCells_keeps _ _ _ _ (by rw [← hh2, ← hh1]; exact Heap.get?_push_of_some _ (Heap.get?_push_size _ rfl))
 refine ⟨?_, hD⟩
 have hns : (pushCells h2 scope.names).Ns (s.heap.objs.size + 1) (fun _ => none) := by
  have q := Heap.Ns.new h1 (.type "dict")
  rw [hh2, z1] at q
  exact q.keeps fun b o e => pushCells_keeps _ _ b o e
 have okc := cellsFrom_ok scope.names h2 (s.heap.objs.size + 2) [] ⟨fun _ _ hm => (nomatch hm), List.Pairwise.nil⟩ (by rw [z2]; exact Nat.le_refl _)
 rw [z2] at okc
 have hcl : ∀ p ∈ scope.names, p.2 = .free → ∃ c, X.env.cells.lookup p.1 = some c := fun p hp e => I.ok.has p.1 (ok.free p hp e)
 -- a name of the block's cells: its own, or one that is taken
 have cse : ∀ x c, (cellsFrom (s.heap.objs.size + 2) scope.names (clOf X.env.cells scope.names [])).lookup x = some c →
   ((x, c) ∈ cellsFrom (s.heap.objs.size + 2) scope.names [] ∧ scope.names.lookup x = some .cell ∧ s.heap.objs.size + 2 ≤ c) ∨ (scope.names.lookup x = some .free ∧ X.env.cells.lookup x = some c ∧ c < s.heap.objs.size) := fun x c e => by
  rw [Zan] at e
  rcases Zb2 e with e | ⟨_, e⟩
  ·have m := PySem.mem_of_lookup e
   exact .inl ⟨m, ok.look _ (Zbc m), (okc.empty x c m).2⟩
  ·obtain ⟨a, b⟩ := Zbw hcl (PySem.mem_of_lookup e)
   obtain ⟨v, q⟩ := I.cell x c b
   exact .inr ⟨ok.look _ a, b, q.lt⟩
 have kn : ∀ x, (compEnvC scope (cellsFrom (s.heap.objs.size + 2) scope.names (clOf X.env.cells scope.names [])) (s.heap.objs.size + 1) X.env).kindOf x = (scope.names.lookup x).map fun k => if (k == NameKind.free && X.env.scope.kind == .function && X.env.kindOf x == some .cell) then .cell else k := fun x => Zb8
 have has : ∀ x, scope.names.lookup x = some .cell ∨ scope.names.lookup x = some .free → ∃ c, (cellsFrom (s.heap.objs.size + 2) scope.names (clOf X.env.cells scope.names [])).lookup x = some c := fun x h => by
  rw [Zan]
  rcases h with h | h
  ·obtain ⟨c, hc⟩ := Option.isSome_iff_exists.mp (PySem.W.cellsFrom_some scope.names (s.heap.objs.size + 2) [] (.inl h))
   exact Zbd (List.mem_append_left _ (PySem.mem_of_lookup hc))
  ·obtain ⟨c, hc⟩ := Zew (cells := X.env.cells) (PySem.mem_of_lookup h)
   exact Zbd (List.mem_append_right _ hc)
 have kfree : ∀ x, scope.names.lookup x = some .free → (compEnvC scope (cellsFrom (s.heap.objs.size + 2) scope.names (clOf X.env.cells scope.names [])) (s.heap.objs.size + 1) X.env).kindOf x = some .cell ∨ (compEnvC scope (cellsFrom (s.heap.objs.size + 2) scope.names (clOf X.env.cells scope.names [])) (s.heap.objs.size + 1) X.env).kindOf x = some .free := fun x h => by
  rw [kn x, h]
  simp only [Option.map_some]
  split
  ·exact .inl rfl
  ·exact .inr rfl
 refine ⟨⟨I.ok.mod, hk, I.ok.glob, I.ok.blt, Nat.le_succ _, fun x y c h1 h2 => ?_, fun x h => ?_, fun x c h1 h2 => ?_, I.ok.hd, I.ok.frames, .inl rfl, fun b hb => ⟨Nat.ne_of_lt (Nat.lt_succ_of_lt (hlt b hb)), fun x c e => ?_⟩, I.bs, Nat.le_trans I.ok.bsz I.sz, fun b o e hb => ?_, fun b hb hm => ?_, I.stack, I.stkFree⟩,
  rfl, I.bare, Un.kept up, ⟨fun _ => none, hns, fun i x v e1 e2 e3 => ?_⟩, fun x c e => ?_, I.hok.fresh (Nat.le_succ _), fun x c e => ?_, fun p hp => absurd (show p ∈ ([] : List (Addr × Obj)) from hp) (by simp), I.hok.kept up, ?_⟩
 ·rcases cse x c h1 with ⟨m1, _, l1⟩ | ⟨_, b1, l1⟩ <;> rcases cse y c h2 with ⟨m2, _, l2⟩ | ⟨_, b2, l2⟩
  ·exact name_of_addr okc.apart m1 m2
  ·exact absurd (Nat.lt_of_lt_of_le l2 (Nat.le_trans (Nat.le_add_right _ 2) l1)) (Nat.lt_irrefl _)
  ·exact absurd (Nat.lt_of_lt_of_le l1 (Nat.le_trans (Nat.le_add_right _ 2) l2)) (Nat.lt_irrefl _)
  ·exact I.ok.inj x y c b1 b2
 ·refine has x ?_
  have h' : (compEnvC scope (cellsFrom (s.heap.objs.size + 2) scope.names (clOf X.env.cells scope.names [])) (s.heap.objs.size + 1) X.env).kindOf x = some .cell ∨ (compEnvC scope (cellsFrom (s.heap.objs.size + 2) scope.names (clOf X.env.cells scope.names [])) (s.heap.objs.size + 1) X.env).kindOf x = some .free := h
  rw [kn x] at h'
  cases q : scope.names.lookup x with
  | none => rw [q] at h'; rcases h' with h' | h' <;> cases h'
  | some k =>
   rw [q] at h'
   simp only [Option.map_some] at h'
   cases k <;> simp_all
 ·have h1' : (scope.names.lookup x == some NameKind.cell) = true := h1
  rcases cse x c h2 with ⟨_, _, l⟩ | ⟨q, _, _⟩
  ·exact Nat.le_trans (Nat.le_add_right _ 2) l
  ·rw [q] at h1'; cases h1'
 ·rcases cse x c e with ⟨_, _, l⟩ | ⟨_, q, _⟩
  ·have h3 := hlt b hb
   exact fun z => absurd (Nat.lt_of_lt_of_le h3 (Nat.le_trans (Nat.le_add_right _ 2) (z ▸ l))) (Nat.lt_irrefl _)
  ·exact (hf b hb).2.2.2.2.1 x c q
 ·rcases (hf b hb).2.2.2.1 with z | z
  ·exact I.ok.noex b o e z
  ·exact absurd (Nat.lt_of_lt_of_le (Nat.lt_of_lt_of_le (Heap.lt_size e) I.ok.bsz) z) (Nat.lt_irrefl _)
 ·rcases List.mem_cons.mp (I.stkSub b hm) with z | z
  ·exact (hf b hb).2.1 z
  ·exact (hf b hb).2.2.1 z
 ·-- the names that are taken
  have e2' : (cap[i]?).map (fun o => o.bind fun j => (σ[j]?).join) = some (some v) := by
   have : (capt cap σ)[i]? = some (some v) := e2
   unfold capt at this
   rwa [List.getElem?_map] at this
  cases q : cap[i]? with
  | none => rw [q] at e2'; cases e2'
  | some o =>
   rw [q] at e2'
   cases o with
   | none => cases e2'
   | some j =>
    obtain ⟨n1, n2⟩ := ok.take i x j e1 q
    have hj : σ[j]? = some (some v) := by
     have w : (σ[j]?).join = some v := Option.some.inj e2'
     cases r : σ[j]? with
     | none => rw [r] at w; cases w
     | some o => rw [r] at w; rw [show o = some v from w]
    have vis : Vis X.env.scope x := by
     rcases ok.free _ (PySem.mem_of_lookup n2) rfl with z | z
     ·exact .inr (.inl z)
     ·exact .inr (.inr z)
    obtain ⟨m, hn, hl⟩ := I.loc
    obtain ⟨u, ru, lk⟩ := hl j x v n1 hj vis
    refine ⟨u, ru, .inr ⟨kfree x n2, ?_⟩⟩
    obtain ⟨c, hc⟩ := has x (.inr n2)
    rcases cse x c hc with ⟨_, w, _⟩ | ⟨_, w, _⟩
    ·rw [n2] at w; cases w
    ·rcases lk with ⟨k, _⟩ | ⟨_, c', w', ic⟩
     ·rcases ok.free _ (PySem.mem_of_lookup n2) rfl with z | z <;> (have z' : X.env.kindOf x = _ := z; rw [k] at z'; cases z')
     ·rw [w] at w'; cases w'
      obtain ⟨oc, ho, hd⟩ := ic
      exact ⟨c, hc, oc, up _ _ ho, hd⟩
 ·rcases cse x c e with ⟨m, _, _⟩ | ⟨_, q, _⟩
  ·exact ⟨_, (okc.empty x c m).1⟩
  ·obtain ⟨v, oc, ho, hd⟩ := I.cell x c q
   exact ⟨v, oc, up _ _ ho, hd⟩
 ·rcases cse x c e with ⟨m, _, l⟩ | ⟨_, q, _⟩
  ·exact I.hok.fresh (Nat.le_trans (Nat.le_add_right _ 2) l)
  ·exact I.freeC x c q
 ·show (capt cap σ).length = Nc.length
  unfold capt
  rw [lmp, ok.len]
end L2
namespace L2
open PySem PySem.Spec PyProof.Rows
noncomputable def AccOk (Y : Cx) (pins : List (Addr × Obj)) (D : Addr) (ys : List V) (H : Hp) (s : Shared) : Prop := FpOk Y pins H D ∧ ys.length ≤ sizeLine ∧ ∃ us, Vals ys us ∧ s.heap.get? D = some (lstO us)
noncomputable abbrev LK := List V → St → Hp → Prop
noncomputable abbrev TL := List V → St → Hp → LK → Prop
noncomputable def LP (Y : Cx) (pins : List (Addr × Obj)) (D : Addr) (Q : LK) (s' : Shared) : Prop := ∃ ys σ H, Inv Y pins σ H s' ∧ AccOk Y pins D ys H s' ∧ Q ys σ H
noncomputable def PL (Y : Cx) (body : Value → Sem Unit) (t : TL) : Prop :=
 ∀ (D : Addr) (pins : List (Addr × Obj)) (s : Shared) (σ : St) (H : Hp) (ys : List V) (Q : LK), Inv Y pins σ H s → AccOk Y pins D ys H s → t ys σ H Q →
  wpAny (model Y.prog Y.w) Y.A (body (.ref D)) (fun _ s' => LP Y pins D Q s') Y.xe s
noncomputable def testsOf (ifs : List Expr) (env : Env) : Sem Bool := forIn ifs true fun c r => if r = true then do let ok ← isTrue c env (eval c env); pure (ForInStep.yield ok) else pure (ForInStep.yield r)
noncomputable def PTs (Y : Cx) (ifs : List Expr) (t : TT) : Prop :=
 ∀ (pins : List (Addr × Obj)) (s : Shared) (σ : St) (H : Hp) (Q : Bool → Hp → Prop), Inv Y pins σ H s → t σ H Q → wpAny (model Y.prog Y.w) Y.A (testsOf ifs Y.env) (TP Y pins σ Q) Y.xe s
noncomputable def tYes : TT := fun _ H Q => Q true H
section
variable {Y : Cx}
theorem Zer : PTs Y [] tYes := fun pins s σ H Q I h => wpAny_pure ⟨H, I, h⟩
theorem AccOk.pin {pins : List (Addr × Obj)} {D : Addr} {ys : List V} {σ : St} {H : Hp} {s : Shared} {us : List Value} (I : Inv Y pins σ H s) (f : FpOk Y pins H D) (e : s.heap.get? D = some (lstO us)) : Inv Y (pins ++ [(D, lstO us)]) σ H s :=
 I.pins_of fun p hp => (List.mem_append.mp hp).elim (fun z => I.pin p (List.mem_append_right _ z)) fun z => by
  have z' : p = (D, lstO us) := by simpa using z
  subst z'
  exact ⟨e, f.1, f.2.1, f.2.2.1, fun v q => by cases q⟩
noncomputable def tEmit (te : TE) : TL := fun ys σ H Q => ys.length < sizeLine ∧ te σ H fun v H' => Q (ys ++ [v]) σ H'
noncomputable def emit (elt : Expr) (env : Env) (acc : Value) : Sem Unit := eval elt env >>= fun x => call (.builtin "list.append") [acc, x] >>= fun _ => pure ()
theorem Zgu {elt : Expr} {te : TE} (he : PE Y elt te) : PL Y (emit elt Y.env) (tEmit te) := by
 rintro D pins s σ H ys Q I ⟨f, hz, us, r, e⟩ ⟨hl, h⟩
 have I' := AccOk.pin (ys := ys) I f e
 refine wpAny_bind (thn (he _ s σ H _ I' h) fun u s1 ⟨v, H1, I1, rv, q⟩ => ?_)
 obtain ⟨p1, p2, p3, p4, p5⟩ := I1.pin (D, lstO us) (by simp)
 have hlen := r.length
 refine wpAny_bind (append_at (hsz := by rw [List.size_toArray]; omega) p1 fun h' sb hD => wpAny_pure ⟨ys ++ [v], σ, H1, ?_, ⟨⟨p2, f.2⟩, ?_, us ++ [u], r.append (.cons rv .nil), ?_⟩, q⟩)
 ·exact I1.unpinned.turned (t' := s1.toks) (fun b o hb e => sb.extBut b o hb e) p2 f.2.1 f.2.2.2.1 f.2.2.2.2.1 f.2.2.2.2.2
 ·rw [List.length_append, List.length_singleton]; omega
 ·show h'.get? D = _
  rw [hD]
  show some ({ cls := .type "list", data := .seq (us.toArray.push u) (us.length + 1) } : Obj) = some { cls := .type "list", data := .seq (us ++ [u]).toArray (us ++ [u]).length }
  rw [List.length_append, List.length_singleton, List.push_toArray]
noncomputable def turnOf (tg iter : Expr) (ifs : List Expr) (body : Value → Sem Unit) (c : Code) (it acc : Value) (env : Env) : Sem Fin :=
 standAt iter.pos >>= fun _ => pyNext it >>= fun r => match r with
  | none => pure (.done .next)
  | some v => letOwnedTupleGo tg it v >>= fun _ => assign tg env v >>= fun _ => testsOf ifs env >>= fun ok => if ok = true then (body acc >>= fun _ => again c) else again c
noncomputable def LTurn (J : It) (g : TG) (tt : TT) (tb : TL) (Q : LK) (W : Nat → List V → Nat → St → Hp → Prop) : Prop := ∀ i ys m σ H, W i ys m σ H →
 (J.stop i H ∧ Q ys σ H) ∨ (J.go i H ∧ ∃ N : LK, (∀ ys' σ' H', N ys' σ' H' → ∃ m', m' < m ∧ W (i + 1) ys' m' σ' H') ∧ ∀ x H', J.yld i H x H' → g x σ H' fun σ2 H2 => tt σ2 H2 fun b H3 => if b = true then tb ys σ2 H3 N else N ys σ2 H3)
theorem Zdx {tg iter : Expr} {ifs : List Expr} {elt : Expr} {gens : List Comprehension} {scope : Scope} {pos : Pos} {d : Nat} {body : Value → Sem Unit} {g : TG} {tt : TT} {tb : TL} {J : It} {fp : List Addr} {it : Addr} {tn : Nat → Heap → Prop} {D : Addr} {Q : LK}
  {R : Result → Shared → Prop} {W : Nat → List V → Nat → St → Hp → Prop} {pins : List (Addr × Obj)} {s : Shared} {σ : St} {H : Hp} {ys : List V} {m : Nat}
  (hx : ∀ v s, Y.xe v s → False) (hc : Y.calm = true) (T : Turn Y.prog Y.w Y.K tg J fp it tn) (hg : PG Y tg g) (ht : PTs Y ifs tt) (hb : PL Y body tb)
  (hturn : compTurn (.ListComp elt gens scope pos) d (.ref it) (.ref D) Y.env = turnOf tg iter ifs body (.compLoop (.ListComp elt gens scope pos) d (.ref it) (.ref D) Y.env) (.ref it) (.ref D) Y.env)
  (I : Inv Y pins σ H s) (a : AccOk Y pins D ys H s) (st : tn 0 s.heap) (hf : ∀ b ∈ fp, FpOk Y pins H b) (hD : D ∉ fp) (w0 : W 0 ys m σ H) (turn : LTurn J g tt tb Q W) (hR : ∀ s', LP Y pins D Q s' → R (.ok .next) s') :
  codeAny (model Y.prog Y.w) Y.A (.compLoop (.ListComp elt gens scope pos) d (.ref it) (.ref D) Y.env) R s := by
 refine codeAny_loop rfl (fun n s' => ∃ i ys σ' H', Inv Y pins σ' H' s' ∧ AccOk Y pins D ys H' s' ∧ tn i s'.heap ∧ (∀ b ∈ fp, H' b = none) ∧ W i ys n σ' H') ?_ m ⟨0, ys, σ, H, I, a, st, fun b hb => (hf b hb).1, w0⟩
 rintro n s3 ⟨i, ys3, σ3, H3, I3, ⟨f3, hz3, us, r3, e3⟩, st3, fr3, w3⟩
 show wpAny _ Y.A ((compTurn (.ListComp elt gens scope pos) d (.ref it) (.ref D) Y.env).onRaise (fun x => do noteFrame x Y.env; theTreesLotGoes x)) _ _ s3
 refine wpAny_noted ?_
 rw [hturn]
 have I3' := AccOk.pin (ys := ys3) I3 f3 e3
 -- the iterator's records are apart from D
 have stat : ∀ {H' : Hp}, (∀ b ∈ fp, H' b = none) → ∀ b ∈ fp, FpOk Y (pins ++ [(D, lstO us)]) H' b := fun hn b hb => by
  obtain ⟨_, q1, q2, q3, q4, q5⟩ := hf b hb
  refine ⟨hn b hb, q1, q2, q3, q4, fun p hp => ?_⟩
  rcases List.mem_append.mp hp with z | z
  ·exact q5 p (List.mem_append_left _ z)
  ·rcases List.mem_append.mp z with z | z
   ·exact q5 p (List.mem_append_right _ z)
   ·have z' : p = (D, lstO us) := by simpa using z
    subst z'
    exact fun y => hD ((show D = b from y).symm ▸ hb)
 have no : ∀ {α : Type} {t : Sem α} {Q1 Q2 : α → Shared → Prop} {E : Value → Shared → Prop} {s' : Shared}, wpAny (model Y.prog Y.w) Y.A t Q1 Y.xe s' → (∀ a s, Q1 a s → Q2 a s) → wpAny (model Y.prog Y.w) Y.A t Q2 E s' := fun h q => wpAny_mono h q fun v s x => (hx v s x).elim
 rcases turn i ys3 n σ3 H3 w3 with ⟨stop, qn⟩ | ⟨go, N, hN, step⟩
 ·refine wpAny_bind (wpAny_standAt (wpAny_bind (no (T.done Y rfl rfl rfl hc i _ s3 σ3 H3 Y.xe I3' (stat fr3) st3 stop) fun r s4 ⟨hr, I4⟩ => ?_)))
  subst hr
  obtain ⟨p1, p2, _⟩ := I4.pin (D, lstO us) (by simp)
  exact wpAny_pure (hR _ ⟨ys3, σ3, H3, I4.unpinned, ⟨f3, hz3, us, r3, p1⟩, qn⟩)
 ·refine wpAny_bind (wpAny_standAt (wpAny_bind (no (T.item Y rfl rfl rfl hc i _ s3 σ3 H3 Y.xe I3' (stat fr3) st3 go) fun r s4 ⟨u, hr, h4⟩ => ?_)))
  subst hr
  refine wpAny_bind (no h4 fun _ s5 ⟨x, H5, I5, r5, y5, st5, fr5⟩ => ?_)
  have I5' := I5.pinned (stat fr5) (T.obj _ _ st5)
  refine wpAny_bind (no (hg _ s5 σ3 H5 x u _ I5' r5 (step x H5 y5)) fun _ s6 ⟨σ6, H6, I6, q6⟩ => ?_)
  refine wpAny_bind (no (ht _ s6 σ6 H6 _ I6 q6) fun ok s7 ⟨H7, I7, q7⟩ => ?_)
  have pD := I7.pin (D, lstO us) (by simp)
  have I7' : Inv Y (pins ++ pinsAt fp s5.heap) σ6 H7 s7 := I7.pins_of fun p hp => by
   rcases List.mem_append.mp hp with z | z
   ·exact I7.pin p (List.mem_append_right _ (List.mem_append_left _ (List.mem_append_left _ z)))
   ·exact I7.pin p (List.mem_append_right _ (List.mem_append_right _ z))
  have a7 : AccOk Y (pins ++ pinsAt fp s5.heap) D ys3 H7 s7 := by
   refine ⟨⟨pD.2.1, f3.2.1, f3.2.2.1, f3.2.2.2.1, f3.2.2.2.2.1, fun p hp => ?_⟩, hz3, us, r3, pD.1⟩
   rcases List.mem_append.mp hp with z | z
   ·exact f3.2.2.2.2.2 p (List.mem_append_left _ z)
   ·rcases List.mem_append.mp z with z | z
    ·exact f3.2.2.2.2.2 p (List.mem_append_right _ z)
    ·exact fun y => hD (y ▸ (Ze5 z).1)
  have fin : ∀ {ys8 : List V} {σ8 : St} {H8 : Hp} {s8 : Shared}, Inv Y (pins ++ pinsAt fp s5.heap) σ8 H8 s8 → AccOk Y (pins ++ pinsAt fp s5.heap) D ys8 H8 s8 → (∃ m', m' < n ∧ W (i + 1) ys8 m' σ8 H8) →
    ∃ m, m < n ∧ ∃ i ys σ' H', Inv Y pins σ' H' s8 ∧ AccOk Y pins D ys H' s8 ∧ tn i s8.heap ∧ (∀ b ∈ fp, H' b = none) ∧ W i ys m σ' H' := fun {ys8 σ8 H8 s8} I8 a8 ⟨m', hm, w8⟩ => by
   refine ⟨m', hm, i + 1, ys8, σ8, H8, I8.unpinned, ⟨⟨a8.1.1, f3.2⟩, a8.2⟩, T.keep _ _ _ st5 fun b hb o e => (I8.pin (b, o) (List.mem_append_right _ (List.mem_append_right _ (Zbr hb e)))).1, fun b hb => ?_, w8⟩
   obtain ⟨o, e, _⟩ := T.obj _ _ st5 b hb
   exact (I8.pin (b, o) (List.mem_append_right _ (List.mem_append_right _ (Zbr hb e)))).2.1
  cases ok with
  | true =>
   rw [if_pos rfl] at q7 ⊢
   refine wpAny_bind (no (hb D _ s7 σ6 H7 ys3 _ I7' a7 q7) fun _ s8 ⟨ys8, σ8, H8, I8, a8, q8⟩ => ?_)
   exact wpAny_pure ⟨rfl, fin I8 a8 (hN _ _ _ q8)⟩
  | false =>
   rw [if_neg Bool.false_ne_true] at q7 ⊢
   exact wpAny_pure ⟨rfl, fin I7' a7 (hN _ _ _ q7)⟩
theorem Zc5 {elt tg iter : Expr} {ifs : List Expr} {gens : List Comprehension} {scope : Scope} {pos : Pos} {d : Nat} {it acc : Value} {env : Env} {R : Result → Shared → Prop} {prog : Program} {w : World} {A : Around} {s : Shared} (hd : gens[d]? = some ⟨tg, iter, ifs, 0⟩)
  (h0 : codeAny (model prog w) A (.compLoop (.ListComp elt gens scope pos) d it acc env) R s)
  (h : wpAny (model prog w) A (pyIter it) (fun it' s' => codeAny (model prog w) A (.compLoop (.ListComp elt gens scope pos) d it' acc env) R s') (notedBy (model prog w) A env fun x s' => R (.error x) s') s) :
  codeAny (model prog w) A (.compStart (.ListComp elt gens scope pos) d it acc env) R s := by
 refine codeAny_of_tree ?_
 show wpAny _ _ ((compStart (.ListComp elt gens scope pos) d it acc env).onRaise (fun x => do noteFrame x env; standAt theWindowsPlace)) _ _ s
 refine wpAny_notedAt ?_
 unfold compStart
 simp only [clausesOf, hd, Option.elim]
 show wpAny _ _ (ask >>= _) _ _ s
 refine wpAny_bind (wpAny_askSetting (wpAny_ite ?_))
 split
 ·first
   | exact wpAny_bind (wpAny_pure (wpAny_pure (And.intro rfl h0)))
   | exact wpAny_pure (And.intro rfl h0)
 ·first
   | exact wpAny_bind (wpAny_rule (wpAny_bind (wpAny_standAt (wpAny_bind (wpAny_mono h (fun it' s' h' => wpAny_pure (And.intro rfl h')) fun _ _ x => x)))))
   | (refine wpAny_bind (wpAny_rule ?_); show wpAny _ _ (standAt iter.pos >>= _) _ _ s; exact wpAny_bind (wpAny_standAt (wpAny_bind (wpAny_mono h (fun it' s' h' => wpAny_pure (And.intro rfl h')) fun _ _ x => x))))
noncomputable def tLoop (wi : TI) (g : TG) (tt : TT) (tb : TL) : TL := fun ys σ H Q => wi σ H fun J H1 => ∃ W : Nat → List V → Nat → St → Hp → Prop, (∃ m, W 0 ys m σ H1) ∧ LTurn J g tt tb Q W
noncomputable def nest (elt : Expr) (gens : List Comprehension) (scope : Scope) (pos : Pos) (d : Nat) (iter : Expr) (env : Env) (acc : Value) : Sem Unit :=
 eval iter env >>= fun x => standAt iter.pos >>= fun _ => foldedSetIterable iter env x >>= fun x => holding [x] (pyIter x) >>= fun it => runOwn (.compStart (.ListComp elt gens scope pos) d it acc env) env >>= fun _ => pure ()
theorem Zj8 {elt tg iter : Expr} {ifs : List Expr} {gens : List Comprehension} {scope : Scope} {pos : Pos} {d : Nat} {body : Value → Sem Unit} {wi : TI} {g : TG} {tt : TT} {tb : TL}
  (hx : ∀ v s, Y.xe v s → False) (hc : Y.calm = true) (hi : PI Y tg iter wi) (hg : PG Y tg g) (ht : PTs Y ifs tt) (hb : PL Y body tb) (hd : gens[d]? = some ⟨tg, iter, ifs, 0⟩)
  (hturn : ∀ it acc, compTurn (.ListComp elt gens scope pos) d it acc Y.env = turnOf tg iter ifs body (.compLoop (.ListComp elt gens scope pos) d it acc Y.env) it acc Y.env)
  (hs : ∀ x, foldedSetIterable iter Y.env x = pure x) : PL Y (nest elt gens scope pos d iter Y.env) (tLoop wi g tt tb) := by
 rintro D pins s σ H ys Q I ⟨f, hz, us, r, e⟩ h
 have I' := AccOk.pin (ys := ys) I f e
 refine wpAny_bind (thn (hi _ s σ H _ I' h) fun v s1 h1 => ?_)
 refine wpAny_bind (wpAny_standAt (wpAny_bind (wpAny_of_eq (hs v) (wpAny_bind (wpAny_holding (thn h1 fun itv s2 h2 => ?_))))))
 obtain ⟨it, fp, tn, J, H2, e2, I2, T, st2, f2, W, ⟨m0, w0⟩, turn⟩ := h2
 subst e2
 obtain ⟨p1, p2, _⟩ := I2.pin (D, lstO us) (by simp)
 have hD : D ∉ fp := fun hb => (f2 D hb).2.2.2.2.2 (D, lstO us) (by simp) rfl
 have fo : ∀ b ∈ fp, FpOk Y pins H2 b := fun b hb => by
  obtain ⟨q0, q1, q2, q3, q4, q5⟩ := f2 b hb
  exact ⟨q0, q1, q2, q3, q4, fun p hp => q5 p (by
   rcases List.mem_append.mp hp with z | z
   ·exact List.mem_append_left _ z
   ·exact List.mem_append_right _ (List.mem_append_left _ z))⟩
 have loop : codeAny (model Y.prog Y.w) Y.A (.compLoop (.ListComp elt gens scope pos) d (.ref it) (.ref D) Y.env) (fun r s' => match r with
   | .ok f => wpAny (model Y.prog Y.w) Y.A (pure () : Sem Unit) (fun _ s' => LP Y pins D Q s') Y.xe s'
   | .error e => cameBackBy (model Y.prog Y.w) Y.A Y.env Y.xe e s') s2 :=
  Zdx hx hc T hg ht hb (hturn _ _) I2.unpinned ⟨⟨p2, f.2⟩, hz, us, r, p1⟩ st2 fo hD w0 turn fun s' q => wpAny_pure q
 refine wpAny_bind (wpAny_runOwn ?_)
 rw [Around.mark_none]
 exact Zc5 hd loop (T.self _ 0 s2 _ _ st2 loop)
end
section
variable {X : Cx}
noncomputable def tComp (wi : TI) (cap : List (Option Nat)) (g : TG) (tt : TT) (tb : TL) : TE := fun σ H Q => wi σ H fun J H1 => ∃ W : Nat → List V → Nat → St → Hp → Prop, (∃ m, W 0 [] m (capt cap σ) H1) ∧ LTurn J g tt tb (fun ys _ H' => ∀ p, H' p = none → Q (.ref p) (upd H' p (.lst ys))) W
theorem Zdw {elt tg iter : Expr} {ifs : List Expr} {rest : List Comprehension} {scope : Scope} {pos p0 : Pos} {Nc : List Str} {cap : List (Option Nat)} {body : Env → Value → Sem Unit} {wi : TI} {g : TG} {tt : TT} {tb : TL} {use : Option (Value → Sem Unit)} {Q : Value → Shared → Prop}
  {pins : List (Addr × Obj)} {s : Shared} {σ : St} {H : Hp} {P : VK}
  (hk : scope.kind = .function) (hc : X.calm = true) (hi : PI X tg iter wi) (ok : capOk X Nc cap scope = true)
  (hg : ∀ cs C s H fp, PG (cxComp X Nc scope cs C s H fp) tg g) (ht : ∀ cs C s H fp, PTs (cxComp X Nc scope cs C s H fp) ifs tt) (hb : ∀ cs C s H fp, PL (cxComp X Nc scope cs C s H fp) (body (compEnvC scope cs C X.env)) tb)
  (hturn : ∀ it acc env, compTurn (.ListComp elt (⟨tg, iter, ifs, 0⟩ :: rest) scope pos) 0 it acc env = turnOf tg iter ifs (body env) (.compLoop (.ListComp elt (⟨tg, iter, ifs, 0⟩ :: rest) scope pos) 0 it acc env) it acc env)
  (hs : ∀ x, foldedSetIterable iter X.env x = pure x) (I : Inv X pins σ H s) (h : tComp wi cap g tt tb σ H P)
  (hend : ∀ (D C : Addr) (H' : Hp) (s' : Shared), Inv X pins σ H' s' → FpOk X pins H' D → FpOk X pins H' C → C ≠ D → (∃ m, s'.heap.Ns C m) → (∃ ys us, Vals ys us ∧ ys.length ≤ sizeLine ∧ s'.heap.get? D = some (lstO us) ∧ P (.ref D) (upd H' D (.lst ys))) →
   compPost (model X.prog X.w) X.A X.xe use Q (.ref D) C (.ok .next) s') :
  wpAny (model X.prog X.w) X.A (comprehension (.ListComp elt (⟨tg, iter, ifs, 0⟩ :: rest) scope pos) scope X.env p0 (newList []) false (eval iter X.env) use) Q X.xe s := by
 have okc := CapOk.of ok
 have hcl : ∀ p ∈ scope.names, p.2 = .free → ∃ c, X.env.cells.lookup p.1 = some c := fun p hp e => I.ok.has p.1 (okc.free p hp e)
 refine wpAny_comprehension_free rfl hs (Zdb hcl) hk (fun p hp e => by rw [okc.look p hp, e]) (thn (hi pins s σ H _ I h) fun v s1 h1 => thn h1 fun itv s2 h2 => ?_)
 obtain ⟨it, fp, tn, J, H2, e2, I2, T, st2, f2, W, ⟨m0, w0⟩, turn⟩ := h2
 subst e2
 refine wpAny_newObj_type (Zca ?_)
 dsimp only
 have z : (s2.heap.push { cls := .type "list", dict := none, data := .seq ([] : List Value).toArray }).objs.size = s2.heap.objs.size + 1 := Heap.size_push ..
 rw [z]
 have hlt : ∀ b ∈ fp, b < s2.heap.objs.size := fun b hb => by obtain ⟨o, e, _⟩ := T.obj _ _ st2 b hb; exact Heap.lt_size e
 obtain ⟨J3, hD⟩ := Zfj I2 f2 hlt okc hk
 generalize hcs : cellsFrom (s2.heap.objs.size + 2) scope.names (clOf X.env.cells scope.names []) = cs at J3
 generalize hY : cxComp X Nc scope cs (s2.heap.objs.size + 1) s2 H2 fp = Y at J3
 have up : ∀ b o, s2.heap.get? b = some o → (pushCells ((s2.heap.push (lstO [])).push { cls := .type "dict", data := .dict #[] }) scope.names).get? b = some o := fun b o e => pushCells_keeps _ _ b o (Heap.get?_push_of_some _ (Heap.get?_push_of_some _ e))
 have st3 : tn 0 (pushCells ((s2.heap.push (lstO [])).push { cls := .type "dict", data := .dict #[] }) scope.names) := T.keep _ _ _ st2 fun b _ o e => up b o e
 -- the new list's place
 have fD : FpOk X pins H2 s2.heap.objs.size := I2.fpOk (Nat.le_refl _) (I2.hok.fresh (Nat.le_refl _))
 have fC : FpOk X pins H2 (s2.heap.objs.size + 1) := I2.fpOk (Nat.le_succ _) (I2.hok.fresh (Nat.le_succ _))
 have cse : ∀ x c, cs.lookup x = some c → c < s2.heap.objs.size ∨ s2.heap.objs.size + 2 ≤ c := fun x c e => by
  rw [← hcs, Zan] at e
  have okz := cellsFrom_ok scope.names ((s2.heap.push (lstO [])).push { cls := .type "dict", data := .dict #[] }) (s2.heap.objs.size + 2) [] ⟨fun _ _ hm => (nomatch hm), List.Pairwise.nil⟩ (by rw [Heap.size_push, Heap.size_push]; exact Nat.le_refl _)
  rw [Heap.size_push, Heap.size_push] at okz
  rcases Zb2 e with e | ⟨_, e⟩
  ·exact .inr (okz.empty x c (PySem.mem_of_lookup e)).2
  ·obtain ⟨_, b⟩ := Zbw hcl (PySem.mem_of_lookup e)
   obtain ⟨v, q⟩ := I2.cell x c b
   exact .inl q.lt
 have fDY : FpOk Y [] H2 s2.heap.objs.size := by
  rw [← hY]
  refine ⟨fD.1, Nat.ne_of_lt (Nat.lt_succ_self _), fun hm => ?_, .inr (Nat.le_refl _), fun x c e q => ?_, fun p hp => absurd (show p ∈ ([] : List (Addr × Obj)) from hp) (by simp)⟩
  ·rcases List.mem_cons.mp (I2.stkSub _ hm) with q | q
   ·exact fD.2.1 q
   ·exact fD.2.2.1 q
  ·rcases cse x c e with l | l
   ·rw [q] at l; exact absurd l (Nat.lt_irrefl _)
   ·rw [q] at l; exact absurd (Nat.lt_of_lt_of_le (Nat.lt_succ_of_lt (Nat.lt_succ_self _)) l) (Nat.lt_irrefl _)
 have fpY : ∀ b ∈ fp, FpOk Y [] H2 b := fun b hb => by
  rw [← hY]
  obtain ⟨q0, q1, q2, q3, q4, q5⟩ := f2 b hb
  have hb' := hlt b hb
  refine ⟨q0, Nat.ne_of_lt (Nat.lt_succ_of_lt hb'), fun hm => ?_, .inl hb, fun x c e q => ?_, fun p hp => absurd (show p ∈ ([] : List (Addr × Obj)) from hp) (by simp)⟩
  ·rcases List.mem_cons.mp (I2.stkSub _ hm) with q | q
   ·exact q1 q
   ·exact q2 q
  ·rw [← hcs, Zan] at e
   rcases cse x c (by rw [← hcs, Zan]; exact e) with l | l
   ·rcases Zb2 e with e | ⟨_, e⟩
    ·have okz := cellsFrom_ok scope.names ((s2.heap.push (lstO [])).push { cls := .type "dict", data := .dict #[] }) (s2.heap.objs.size + 2) [] ⟨fun _ _ hm => (nomatch hm), List.Pairwise.nil⟩ (by rw [Heap.size_push, Heap.size_push]; exact Nat.le_refl _)
     rw [Heap.size_push, Heap.size_push] at okz
     have l2 := (okz.empty x c (PySem.mem_of_lookup e)).2
     exact absurd (Nat.lt_of_lt_of_le l (Nat.le_trans (Nat.le_add_right _ 2) l2)) (Nat.lt_irrefl _)
    ·obtain ⟨_, b2⟩ := Zbw hcl (PySem.mem_of_lookup e)
     exact q4 x c b2 q
   ·rw [q] at l; exact absurd (Nat.lt_of_lt_of_le hb' (Nat.le_trans (Nat.le_add_right _ 2) l)) (Nat.lt_irrefl _)
 have hYe : Y.env = compEnvC scope cs (s2.heap.objs.size + 1) X.env := by rw [← hY]; rfl
 have fin : ∀ s', LP Y [] s2.heap.objs.size (fun ys _ H' => ∀ p, H' p = none → P (.ref p) (upd H' p (.lst ys))) s' → compPost (model X.prog X.w) X.A X.xe use Q (.ref s2.heap.objs.size) (s2.heap.objs.size + 1) (.ok .next) s' := by
  rintro s' ⟨ys, σ', H', J', ⟨fD', hz, us, rv, eD⟩, q⟩
  have ub : Un (frs X.stack) fp H2 H' s2.heap s'.heap := by have b := J'.base; rw [← hY] at b; exact b
  have os : s'.os = s2.os := by have b := J'.os; rw [← hY] at b; exact b
  have hokX : HOk X.prog X.w H' s'.heap := by have b := J'.hok; rw [← hY] at b; exact b
  have hCn : H' (s2.heap.objs.size + 1) = none := by have b := J'.free; rw [← hY] at b; exact b
  have hns : ∃ m, s'.heap.Ns (s2.heap.objs.size + 1) m := by obtain ⟨m, b, _⟩ := J'.loc; rw [← hY] at b; exact ⟨m, b⟩
  have IX : Inv X pins σ H' s' := I2.call' os ub hokX J'.bare fun b hb => by
   obtain ⟨q0, q1, q2, q3, q4, q5⟩ := f2 b hb
   exact ⟨q3, q1, q4, q5⟩
  exact hend _ _ H' s' IX ⟨fD'.1, fD.2⟩ ⟨hCn, fC.2⟩ (Nat.ne_of_gt (Nat.lt_succ_self _)) hns ⟨ys, us, rv, hz, eD, q _ fD'.1⟩
 have loop : codeAny (model X.prog X.w) X.A (.compLoop (.ListComp elt (⟨tg, iter, ifs, 0⟩ :: rest) scope pos) 0 (.ref it) (.ref s2.heap.objs.size) (compEnvC scope cs (s2.heap.objs.size + 1) X.env)) (compPost (model X.prog X.w) X.A X.xe use Q (.ref s2.heap.objs.size) (s2.heap.objs.size + 1))
   { s2 with heap := pushCells ((s2.heap.push (lstO [])).push { cls := .type "dict", data := .dict #[] }) scope.names } := by
  subst hY
  exact Zdx (Y := cxComp X Nc scope cs (s2.heap.objs.size + 1) s2 H2 fp) (fun _ _ f => f) hc T (hg _ _ _ _ _) (ht _ _ _ _ _) (hb _ _ _ _ _) (hturn _ _ _) J3 ⟨fDY, Nat.zero_le _, [], .nil, hD⟩ st3 fpY (fun hm => absurd (hlt _ hm) (Nat.lt_irrefl _)) w0 turn fin
 exact Zc5 rfl loop (T.self _ 0 _ _ _ st3 loop)
theorem Zex {pins : List (Addr × Obj)} {σ : St} {H' : Hp} {s' : Shared} {D C : Addr} {P : VK} (I : Inv X pins σ H' s') (fD : FpOk X pins H' D) (fC : FpOk X pins H' C) (ne : C ≠ D)
  (q : ∃ ys us, Vals ys us ∧ ys.length ≤ sizeLine ∧ s'.heap.get? D = some (lstO us) ∧ P (.ref D) (upd H' D (.lst ys))) : ∃ H1, Inv X pins σ H1 s' ∧ P (.ref D) H1 ∧ FpOk X pins H1 C := by
 obtain ⟨ys, us, rv, hz, eD, q⟩ := q
 exact ⟨_, I.track (o := .lst ys) fD ⟨hz, us, _, rv, eD⟩, q, by rw [Zak ne]; exact fC.1, fC.2⟩
theorem Zj5 {elt tg iter : Expr} {ifs : List Expr} {scope : Scope} {pos : Pos} {Nc : List Str} {cap : List (Option Nat)} {wi : TI} {g : TG} {tt : TT} {te : TE}
  (hc : X.calm = true) (hi : PI X tg iter wi) (ok : capOk X Nc cap scope = true) (hg : ∀ cs C s H fp, PG (cxComp X Nc scope cs C s H fp) tg g) (ht : ∀ cs C s H fp, PTs (cxComp X Nc scope cs C s H fp) ifs tt)
  (he : ∀ cs C s H fp, PE (cxComp X Nc scope cs C s H fp) elt te) (hk : scope.kind = .function := by rfl) (hs : ∀ x, foldedSetIterable iter X.env x = pure x := by intro _; rfl) :
  PE X (.ListComp elt [⟨tg, iter, ifs, 0⟩] scope pos) (tComp wi cap g tt (tEmit te)) := by
 intro pins s σ H P I h
 rw [eval_ListComp]
 refine Zdw (body := fun env => emit elt env) hk hc hi ok hg ht (fun cs C s H fp => Zgu (he cs C s H fp)) (fun it acc env => ?_) hs I h fun D C H' s' I' fD fC ne hn q => ?_
 ·rw [compTurn_list]
  unfold turnOf testsOf emit
  congr 1
 ·obtain ⟨H1, I1, q1, f1⟩ := Zex I' fD fC ne q
  obtain ⟨m, hm⟩ := hn
  exact ⟨m, hm, fun h'' sb => ⟨.ref D, H1, I1.turned (t' := s'.toks) (fun b o hb e => sb.extBut b o hb e) f1.1 f1.2.1 f1.2.2.2.1 f1.2.2.2.2.1 f1.2.2.2.2.2, rfl, q1⟩⟩
theorem Zdv (elt tg iter tg2 iter2 : Expr) (scope : Scope) (pos : Pos) (it acc : Value) (env : Env) :
  compTurn (.ListComp elt [⟨tg, iter, [], 0⟩, ⟨tg2, iter2, [], 0⟩] scope pos) 0 it acc env = (do
   standAt iter.pos
   match ← pyNext it with
   | none => pure (.done .next)
   | some v =>
    letOwnedTupleGo tg it v
    assign tg env v
    let mut ok := true
    for c in ([] : List Expr) do
     if ok then ok ← isTrue c env (eval c env)
    if ok then
     let x ← eval iter2 env
     standAt iter2.pos
     let x ← foldedSetIterable iter2 env x
     let _ ← runOwn (.compStart (.ListComp elt [⟨tg, iter, [], 0⟩, ⟨tg2, iter2, [], 0⟩] scope pos) 1 (← holding [x] (pyIter x)) acc env) env
    again (.compLoop (.ListComp elt [⟨tg, iter, [], 0⟩, ⟨tg2, iter2, [], 0⟩] scope pos) 0 it acc env)) := by rfl
end
end L2
namespace L2
open PySem PySem.Spec PyProof.Rows
noncomputable def SIt (t : Bool) (h : Heap) (i l : Addr) (k : Nat) : Prop := match t with | true => h.IsTupleIter i l k | false => h.IsListIter i l k
noncomputable def SAt (t : Bool) (h : Heap) (l : Addr) (xs : Array Value) : Prop := match t with | true => h.IsTuple l xs | false => h.IsList l xs
theorem SIt.obj {t : Bool} {h : Heap} {i l : Addr} {k : Nat} (x : SIt t h i l k) : ∃ o, h.get? i = some o ∧ ∀ v, o.data ≠ .cell v := by
 cases t <;> (obtain ⟨o, e, c, d⟩ := x; exact ⟨o, e, fun v z => by rw [d] at z; cases z⟩)
theorem SIt.at {t : Bool} {h h' : Heap} {i l : Addr} {k : Nat} (x : SIt t h i l k) (q : ∀ o, h.get? i = some o → h'.get? i = some o) : SIt t h' i l k := by
 cases t
 ·exact Heap.IsListIter.at x q
 ·exact Heap.IsTupleIter.at x q
theorem SAt.at {t : Bool} {h h' : Heap} {l : Addr} {xs : Array Value} (x : SAt t h l xs) (q : ∀ o, h.get? l = some o → h'.get? l = some o) : SAt t h' l xs := by
 cases t <;> (obtain ⟨o, e, c, d⟩ := x; exact ⟨o, q o e, c, d⟩)
theorem SAt.lt {t : Bool} {h : Heap} {l : Addr} {xs : Array Value} (x : SAt t h l xs) : l < h.objs.size := by
 cases t <;> (obtain ⟨o, e, c, d⟩ := x; exact Heap.lt_size e)
section
variable {prog : Program} {w : World} {A : Around} {E : Value → Shared → Prop} {s : Shared}
end
noncomputable def SqB (K : PySem.W.Frag) (t : Bool) (H : Hp) (a : Addr) (xs : List V) : Prop := match t with | true => SqT K H a xs | false => SqL K H a xs
theorem Inv.sq {X : Cx} {pins : List (Addr × Obj)} {σ : St} {H : Hp} {s : Shared} {t : Bool} {a : Addr} {xs : List V} (I : Inv X pins σ H s) (h : SqB X.K t H a xs) : ∃ its : List Value, Vals xs its ∧ SAt t s.heap a its.toArray ∧ xs.length ≤ sizeLine := by
 cases t
 ·obtain ⟨its, r, p, z⟩ := I.list h
  exact ⟨its, r, p.isList, z⟩
 ·obtain ⟨its, r, p, z⟩ := I.tuple h
  exact ⟨its, r, p, z⟩
noncomputable def Itz (K : PySem.W.Frag) (t1 t2 : Bool) (a b : Addr) : It :=
 ⟨fun i H => ∃ xs ys x y, SqB K t1 H a xs ∧ SqB K t2 H b ys ∧ xs[i]? = some x ∧ ys[i]? = some y,
   fun i H v H' => ∃ p x y, v = .ref p ∧ H p = none ∧ H' = upd H p (.tup [x, y]) ∧ ∀ xs ys, SqB K t1 H a xs → SqB K t2 H b ys → xs[i]? = some x ∧ ys[i]? = some y,
   fun i H => ∃ xs ys, SqB K t1 H a xs ∧ SqB K t2 H b ys ∧ (xs.length ≤ i ∨ ys.length ≤ i)⟩
section
variable {X : Cx}
end
end L2
namespace L2
open PySem PySem.Spec PyProof.Rows
mutual
noncomputable def DV (K : PySem.W.Frag) (H : Hp) : PyData → V → Prop
 | .none, v => v = .non
 | .bool b, v => v = .bl b
 | .int i, v => v = .int i
 | .str x, v => v = .str x
 | .list ds, v => ∃ a xs, v = .ref a ∧ SqL K H a xs ∧ DVs K H ds xs
 | .tuple ds, v => ∃ a xs, v = .ref a ∧ SqT K H a xs ∧ DVs K H ds xs
 | .dict _, _ => False
noncomputable def DVs (K : PySem.W.Frag) (H : Hp) : List PyData → List V → Prop
 | [], xs => xs = []
 | d :: ds, xs => ∃ x r, xs = x :: r ∧ DV K H d x ∧ DVs K H ds r
end
theorem Same.tup {K : PySem.W.Frag} {H H' : Hp} {a : Addr} {xs : List V} (e : Same H H') (h : SqT K H a xs) : SqT K H' a xs := by
 rcases h with (h | ⟨o, h⟩) | h
 ·exact .inl (.inl (e _ _ h))
 ·exact .inl (.inr ⟨o, e _ _ h⟩)
 ·exact .inr h
mutual
theorem DV.same {K : PySem.W.Frag} {H H' : Hp} (e : Same H H') : ∀ {d : PyData} {v : V}, DV K H d v → DV K H' d v
 | .none, _, h => by unfold DV at h ⊢; exact h
 | .bool _, _, h => by unfold DV at h ⊢; exact h
 | .int _, _, h => by unfold DV at h ⊢; exact h
 | .str _, _, h => by unfold DV at h ⊢; exact h
 | .list ds, _, h => by
  unfold DV at h ⊢
  obtain ⟨a, xs, q1, q2, q3⟩ := h
  exact ⟨a, xs, q1, e.seq q2, DVs.same e q3⟩
 | .tuple ds, _, h => by
  unfold DV at h ⊢
  obtain ⟨a, xs, q1, q2, q3⟩ := h
  exact ⟨a, xs, q1, e.tup q2, DVs.same e q3⟩
 | .dict _, _, h => by unfold DV at h; exact h.elim
theorem DVs.same {K : PySem.W.Frag} {H H' : Hp} (e : Same H H') : ∀ {ds : List PyData} {xs : List V}, DVs K H ds xs → DVs K H' ds xs
 | [], _, h => by unfold DVs at h ⊢; exact h
 | d :: ds, _, h => by
  unfold DVs at h ⊢
  obtain ⟨x, r, q1, q2, q3⟩ := h
  exact ⟨x, r, q1, DV.same e q2, DVs.same e q3⟩
end
theorem DVs.ints {K : PySem.W.Frag} {H : Hp} : ∀ ns : List Int, DVs K H (ns.map .int) (ns.map .int)
 | [] => by unfold DVs; rfl
 | n :: r => by unfold DVs; exact ⟨_, _, rfl, by unfold DV; rfl, DVs.ints r⟩
theorem DVs.nil {K : PySem.W.Frag} {H : Hp} : DVs K H [] [] := by unfold DVs; rfl
theorem DVs.cons {K : PySem.W.Frag} {H : Hp} {d : PyData} {ds : List PyData} {x : V} {xs : List V} (h : DV K H d x) (t : DVs K H ds xs) : DVs K H (d :: ds) (x :: xs) := by unfold DVs; exact ⟨x, xs, rfl, h, t⟩
theorem DV.int {K : PySem.W.Frag} {H : Hp} (i : Int) : DV K H (.int i) (.int i) := by unfold DV; rfl
theorem DV.bool {K : PySem.W.Frag} {H : Hp} (i : Bool) : DV K H (.bool i) (.bl i) := by unfold DV; rfl
theorem DV.list {K : PySem.W.Frag} {H : Hp} {a : Addr} {xs : List V} {ds : List PyData} (h : SqL K H a xs) (t : DVs K H ds xs) : DV K H (.list ds) (.ref a) := by unfold DV; exact ⟨a, xs, rfl, h, t⟩
theorem DV.tup {K : PySem.W.Frag} {H : Hp} {a : Addr} {xs : List V} {ds : List PyData} (h : SqT K H a xs) (t : DVs K H ds xs) : DV K H (.tuple ds) (.ref a) := by unfold DV; exact ⟨a, xs, rfl, h, t⟩
theorem DVs.append {K : PySem.W.Frag} {H : Hp} : ∀ {ds es : List PyData} {xs ys : List V}, DVs K H ds xs → DVs K H es ys → DVs K H (ds ++ es) (xs ++ ys)
 | [], _, _, _, h, t => by unfold DVs at h; subst h; exact t
 | d :: ds, es, _, ys, h, t => by
  unfold DVs at h
  obtain ⟨x, r, q1, q2, q3⟩ := h
  subst q1
  exact DVs.cons q2 (DVs.append q3 t)
theorem DVs.length {K : PySem.W.Frag} {H : Hp} : ∀ {ds : List PyData} {xs : List V}, DVs K H ds xs → ds.length = xs.length
 | [], _, h => by unfold DVs at h; subst h; rfl
 | d :: ds, _, h => by
  unfold DVs at h
  obtain ⟨x, r, q1, q2, q3⟩ := h
  subst q1
  rw [List.length_cons, List.length_cons, DVs.length q3]
theorem DVs.get {K : PySem.W.Frag} {H : Hp} : ∀ {ds : List PyData} {xs : List V} {i : Nat} {x : V}, DVs K H ds xs → xs[i]? = some x → ∃ d, ds[i]? = some d ∧ DV K H d x
 | [], _, i, x, h, e => by unfold DVs at h; subst h; simp at e
 | d :: ds, _, 0, x, h, e => by
  unfold DVs at h
  obtain ⟨y, r, q1, q2, q3⟩ := h
  subst q1
  simp at e; subst e
  exact ⟨d, rfl, q2⟩
 | d :: ds, _, i + 1, x, h, e => by
  unfold DVs at h
  obtain ⟨y, r, q1, q2, q3⟩ := h
  subst q1
  obtain ⟨d', h1, h2⟩ := DVs.get (i := i) (x := x) q3 (by simpa using e)
  exact ⟨d', by simpa using h1, h2⟩
section
variable {X : Cx} {pins : List (Addr × Obj)} {σ : St} {H : Hp} {s : Shared}
mutual
theorem Inv.reads (I : Inv X pins σ H s) : ∀ {d : PyData} {v : V} {u : Value}, DV X.K H d v → RelV v u → ∃ as, Reads s.heap u d as
 | .none, _, u, h, r => by unfold DV at h; subst h; cases (show u = Value.none from r); exact ⟨_, .none⟩
 | .bool b, _, u, h, r => by unfold DV at h; subst h; cases (show u = Value.bool b from r); exact ⟨_, .bool b⟩
 | .int i, _, u, h, r => by unfold DV at h; subst h; obtain ⟨t, q⟩ := (show ∃ t, u = Value.int i t from r); cases q; exact ⟨_, .int i t⟩
 | .str x, _, u, h, r => by unfold DV at h; subst h; obtain ⟨t, q⟩ := (show ∃ t, u = Value.str x t from r); cases q; exact ⟨_, .str x t⟩
 | .list ds, _, u, h, r => by
  unfold DV at h
  obtain ⟨a, xs, q1, q2, q3⟩ := h
  subst q1
  cases (show u = Value.ref a from r)
  obtain ⟨its, rv, p, _⟩ := I.list q2
  obtain ⟨as, ra⟩ := Inv.readsAll I q3 rv
  obtain ⟨o, e, c, n, d⟩ := p.isList
  exact ⟨_, .list e c d (by simpa using ra)⟩
 | .tuple ds, _, u, h, r => by
  unfold DV at h
  obtain ⟨a, xs, q1, q2, q3⟩ := h
  subst q1
  cases (show u = Value.ref a from r)
  obtain ⟨its, rv, p, _⟩ := I.tuple q2
  obtain ⟨as, ra⟩ := Inv.readsAll I q3 rv
  obtain ⟨o, e, c, n, d⟩ := p
  exact ⟨_, .tuple e c d (by simpa using ra)⟩
 | .dict _, _, _, h, _ => by unfold DV at h; exact h.elim
theorem Inv.readsAll (I : Inv X pins σ H s) : ∀ {ds : List PyData} {xs : List V} {us : List Value}, DVs X.K H ds xs → Vals xs us → ∃ as, ReadsAll s.heap us ds as
 | [], _, _, h, r => by unfold DVs at h; subst h; cases r; exact ⟨_, .nil⟩
 | d :: ds, _, us, h, r => by
  unfold DVs at h
  obtain ⟨x, t, q1, q2, q3⟩ := h
  subst q1
  cases r with
  | cons r1 r2 =>
   obtain ⟨as, ra⟩ := Inv.reads I q2 r1
   obtain ⟨bs, rb⟩ := Inv.readsAll I q3 r2
   exact ⟨_, .cons ra rb⟩
end
end
section
variable {X : Cx}
theorem Zbn (hg : X.A.guards = some []) (hu : X.A.units + 64 < cLine) : CallR X (.builtin "repr") (fun xs H Q => ∃ a d, xs = [.ref a] ∧ DV X.K H d (.ref a) ∧ d.showable = true ∧ d.hasDict = false ∧ d.depth ≤ 40 ∧ d.shown.length ≤ sizeLine ∧ Q (.str d.shown) H) := by
 rintro pins s σ H xs us Q I r ⟨a, d, rfl, h, h1, h2, h3, h4, q⟩
 obtain ⟨u, rfl, rx⟩ := vals1 r
 cases (show u = Value.ref a from rx)
 obtain ⟨as, ra⟩ := I.reads h rx
 exact repr_of_reads' ra h1 (PyData.noDict_hsm h2) hg (by omega) (fun _ _ e => e) (fun h' u tk hk => ⟨.str d.shown, H, I.kept hk, ⟨u, rfl⟩, q⟩) h4
theorem Zg3 (hc : X.calm = true) : CallR X (.builtin "all") (fun xs H Q => ∃ (a : Addr) (bs : List Bool), xs = [.ref a] ∧ SqL X.K H a (bs.map V.bl) ∧ Q (.bl (bs.all id)) H) := by
 rintro pins s σ H xs us Q I r ⟨a, bs, rfl, h, q⟩
 obtain ⟨u, rfl, rx⟩ := vals1 r
 cases (show u = Value.ref a from rx)
 obtain ⟨its, rv, p, hz⟩ := I.list h
 refine call_all_walk (wpAny_pyIter_list p.isList ?_)
 have hlt : a < s.heap.objs.size := by obtain ⟨o, e, _⟩ := p.isList; exact Heap.lt_size e
 have l2 := rv.length
 rw [lmp] at l2
 refine ⟨s.heap.objs.size, _, _, _, _, _, fun i => bs.getD i true, rfl, Walks.list (A := X.A.in1) (I.ok.hd hc) s.heap.objs.size a (Nat.ne_of_lt hlt) its.toArray, ⟨⟨_, Heap.get?_push_size _ rfl, rfl, rfl⟩, p.isList.push _⟩, ?_, fun h' tk hk => ?_⟩
 ·intro i v s' Q' E' hv hq
  have hv' : its[i]? = some v := by simpa using hv
  have hl : i < bs.length := by
   have := (List.getElem?_eq_some_iff.mp hv').1
   omega
  obtain ⟨u2, h1, h2⟩ := rv.get (i := i) (x := .bl bs[i]) (by simp [hl])
  rw [hv'] at h1; cases h1
  cases (show v = Value.bool bs[i] from h2)
  refine wpAny_truthy_bool ?_
  dsimp only at hq
  rw [List.getD_eq_getElem?_getD, gEq hl] at hq
  exact hq
 ·have e1 : (List.range its.toArray.size).all (fun i => bs.getD i true) = bs.all id := by
   rw [List.size_toArray, ← l2, Bool.eq_iff_iff, List.all_eq_true, List.all_eq_true]
   constructor
   ·intro h x hx
    obtain ⟨i, hi, e⟩ := List.mem_iff_getElem.mp hx
    have := h i (by simpa using hi)
    rw [List.getD_eq_getElem?_getD, gEq hi] at this
    simpa [e] using this
   ·intro h i hi
    have hi' : i < bs.length := by simpa using hi
    rw [List.getD_eq_getElem?_getD, gEq hi']
    simpa using h _ (List.getElem_mem hi')
  refine ⟨.bl (bs.all id), H, I.kept (fun b o e => hk b o ?_ (Heap.get?_push_of_some _ e)), by rw [e1]; rfl, q⟩
  intro hb
  have : b = s.heap.objs.size := by simpa using hb
  exact absurd (Heap.lt_size e) (by rw [this]; exact Nat.lt_irrefl _)
theorem Zhb : CallR X (.builtin "isinstance") (fun xs H Q => ∃ x t c b, xs = [x, .ty c] ∧ TyOf X.K H x t ∧ PySem.W.kitOne X.K t (.type c) = some b ∧ Q (.bl b) H) := by
 rintro pins s σ H xs us Q I r ⟨x, t, c, b, rfl, ty, e, q⟩
 obtain ⟨u, w, rfl, rx, rc⟩ := vals2 r
 cases (show w = Value.type c from rc)
 exact Zgi I rx ty e fun tk => ⟨.bl b, H, I.tok _, rfl, q⟩
noncomputable def CPowB (i j : Int) : Prop := 0 ≤ j ∧ (Builtin.Int.intBits i : Int) * j ≤ 2 ^ 27
theorem Zgp : OpR X (binaryOp .Pow) (rI CPowB fun i j => .int (i ^ j.toNat)) := opI fun _ _ _ _ _ _ _ hc q => pow_int hc.1 hc.2 q
end
end L2
namespace L2
open PySem PySem.Spec PyProof.Rows
open AutoSeq1 (wpAny_loadPart')
open MeetsSeq MeetsSeq2 MeetsSeq3 SeqRoads2
section
variable {X : Cx}
theorem Zb9 {H : Hp} {p : Addr} (h : H p = none) (o : HO) : Same H (upd H p o) := fun b u q => by rw [Zak (Zay q h)]; exact q
theorem Zi4 (l b : Addr) (items items2 : Array Value) (n n2 : Nat) (dd dd2 : Option Addr) (sl sl2 : Array (Option Value)) (hc0 : items.isEmpty = true) :
  Meets (Builtin.«tuple.__add__» ⟨[.ref l, .ref b], []⟩) (fun _ R s => s.heap.get? l = some { cls := .type "tuple", dict := dd, data := .seq items n, slots := sl } ∧ s.heap.get? b = some { cls := .type "tuple", dict := dd2, data := .seq items2 n2, slots := sl2 } ∧ R (.ok (.ret (Value.ref b))) s) :=
 .of_wp fun prog w A R s h => by obtain ⟨hp, g, d, tk, os⟩ := s; obtain ⟨hl, hb, h⟩ := h; have f1 := AutoSeq1.idx_int; have f2 := AutoSeq1.sub_tuple_tuple; wp_walk using wpAny_loadPart' hl, wpAny_loadPart' hb; exact ⟨_, rfl, h⟩
end
end L2
namespace L2
open PySem PySem.Spec PyProof.Rows
section
variable {X : Cx} {CX : CXT} {k : Nat} {f C : Addr} {fd : FuncData} {ps ks : List Str} {sp : Sp} {E : XK} {x m : Str} {p pos apos kpos : Pos} {kws : List Keyword} {tk : TA}
variable {g : List Value → List Value → List Value} {gV : List V → List V → List V}
end
section
variable {X : Cx}
theorem Zbk : OpR X (binaryOp .Mult) (rI IntMulOk fun i j => .int (i * j)) := opI fun _ _ _ _ _ _ _ hc q => mul_int q hc
theorem Zc4 {i : Int} {n : Nat} (h : i.natAbs < 2 ^ n) : Builtin.Int.intBits i ≤ n := by
 unfold Builtin.Int.intBits
 split
 ·exact Nat.zero_le _
 ·rename_i hne
  have h0 : i.natAbs ≠ 0 := by
   intro z
   exact hne (by simpa using z)
  have := (Nat.log2_lt h0).mpr h
  omega
theorem Zho {i j : Int} {n : Nat} (hn : n ≤ 2 ^ 20) (hi : i.natAbs < 2 ^ n) (hj : j.natAbs < 2 ^ n) : IntMulOk i j := IntMulOk.of_bits (Nat.le_trans (Zc4 hi) hn) (Nat.le_trans (Zc4 hj) hn)
end
noncomputable def SB (u : Addr) (H H' : Hp) : Prop := ∀ b o, b ≠ u → H b = some o → H' b = some o
theorem SB.trans {u : Addr} {H H1 H2 : Hp} (a : SB u H H1) (b : SB u H1 H2) : SB u H H2 := fun c o n h => b c o n (a c o n h)
theorem Same.sb {H H' : Hp} (e : Same H H') (u : Addr) : SB u H H' := fun b o _ h => e b o h
theorem SB.upd (u : Addr) (H : Hp) (o : HO) : SB u H (upd H u o) := fun b v n h => by rw [Zak n]; exact h
theorem SB.seq {K : PySem.W.Frag} {u : Addr} {H H' : Hp} {a : Addr} {xs : List V} (e : SB u H H') (n : a ≠ u) (h : SqL K H a xs) : SqL K H' a xs := by
 rcases h with (h | ⟨o, h⟩) | h
 ·exact .inl (.inl (e _ _ n h))
 ·exact .inl (.inr ⟨o, e _ _ n h⟩)
 ·exact .inr h
theorem SB.tup {K : PySem.W.Frag} {u : Addr} {H H' : Hp} {a : Addr} {xs : List V} (e : SB u H H') (n : a ≠ u) (h : SqT K H a xs) : SqT K H' a xs := by
 rcases h with (h | ⟨o, h⟩) | h
 ·exact .inl (.inl (e _ _ n h))
 ·exact .inl (.inr ⟨o, e _ _ n h⟩)
 ·exact .inr h
theorem SB.get {u : Addr} {H H' : Hp} (e : SB u H H') {b : Addr} {o : HO} (h : H b = some o) (n : b ≠ u) : H' b = some o := e b o n h
end L2
namespace L2
open PySem PySem.Spec PyProof.Rows
noncomputable def BindsAll (x : Str) (st : Stmt) (ps : List Str) : Prop := ∀ (kV doc pm : Value) (an : Option Addr) (cdv ct : Value) (us : List Value), us.length = ps.length → bindArgs (PySem.W.fnOf x x (defArgs st) (defBody st) (defScope st) .none kV doc pm an cdv ct) ⟨us, []⟩ = pure (ps.zip us)
noncomputable def gaP (na nk : Nat) (pick : List (Bool × Nat)) {α : Type} (us ws : List α) : List α := if us.length = na ∧ ws.length = nk then pick.filterMap (fun p => if p.1 = true then us[p.2]? else ws[p.2]?) else []
structure Dn (P : Program) (w : World) (K : PySem.W.Frag) (mg : Str → Option Value) (base : Heap) (k : Nat) (x : Str) (st : Stmt) (ps : List Str) (sp : Sp) : Prop where
 ex : ∃ f fd, FnOk P w K mg base CX0 k f fd ps sp ∧ Fun K x x st f fd ∧ mg x = some (.ref f)
section
variable {X : Cx} {k : Nat} {x : Str} {st : Stmt} {ps ks : List Str} {sp : Sp} {p pos : Pos} {e : Expr} {es : List Expr} {kws : List Keyword} {t tk : TA} {na nk : Nat} {pick : List (Bool × Nat)}
theorem Zk4 (D : Dn X.prog X.w X.K X.mg X.base k x st ps sp) (hb : BindsAll x st ps) (hr : Room k X.A) (ha : PA X (e :: es) t) (hg : Gl X x := by rfl) (hs : starEach (e :: es) X.env = (false, eval e X.env) :: starEach es X.env := by rfl) (hpl : (backTo pos (starEach es X.env)).any (·.1) = false := by rfl)
  (hdb : (x == ("__debug__" : Str)) = false := by decide) : PE X (.Call (.Name x p) (e :: es) [] pos) (tCall sp [] E0 t) := by
 obtain ⟨f, fd, F, U, m⟩ := D.ex
 exact Zj3 F hr hg m U.kp (U.binds hb) .nil pass0 ha (hdb := hdb) (he := hs) (hpl := hpl)
end
theorem Dn.of {P : Program} {w : World} {K : PySem.W.Frag} {mg : Str → Option Value} {base : Heap} {x : Str} {st : Stmt} {N ps : List Str} {k : Nat} {sp : Sp} (U : ∃ f fd, Fun K x x st f fd ∧ mg x = some (.ref f)) (S : FnScope N ps (defScope st)) (len : ∀ vs H Q E, sp vs H Q E → vs.length = ps.length)
  (hbody : ∀ (f : Addr) (cdv : Value) (A : Around) (outer : List Env) (s : Shared) (H : Hp) (vs : List V) (Q : VK) (E : XK), Room k (A.deeper (envOfC x (defScope st) s.heap.objs.size f cdv)) → sp vs H Q E →
   ∃ t, PSs (cxOf CX0 P w K mg base N x (defScope st) f cdv A outer s H E).nox (defBody st) t ∧ t { nx := fun _ H' => Q .non H', rt := Q } (start N vs) H) : Dn P w K mg base (k + 1) x st ps sp := by
 obtain ⟨f, fd, F, m⟩ := U
 exact ⟨f, fd, F.ok S len fun cdv A outer s H vs Q E hr h => hbody f cdv A outer s H vs Q E hr h, F, m⟩
noncomputable def Urn (H : Hp) (u : Addr) (m : Nat) : Prop := ∃ g c n : Int, H u = some (.lst [.int g, .int c, .int n]) ∧ 0 ≤ g ∧ 0 ≤ c ∧ c ≤ 4000000000000000000 ∧ 0 ≤ n ∧ n ≤ m
theorem Urn.mono {H : Hp} {u : Addr} {m m' : Nat} (h : Urn H u m) (le : m ≤ m') : Urn H u m' := by
 obtain ⟨g, c, n, e, h1, h2, h3, h4, h5⟩ := h
 exact ⟨g, c, n, e, h1, h2, h3, h4, by omega⟩
theorem Urn.same {H H' : Hp} {u : Addr} {m : Nat} (h : Urn H u m) (s : Same H H') : Urn H' u m := by
 obtain ⟨g, c, n, e, r⟩ := h
 exact ⟨g, c, n, s _ _ e, r⟩
theorem Urn.ne {H : Hp} {u p : Addr} {m : Nat} (h : Urn H u m) (e : H p = none) : p ≠ u := by
 obtain ⟨g, c, n, q, _⟩ := h
 exact fun z => by rw [z, q] at e; cases e
noncomputable def spUrn (K : PySem.W.Frag) : Sp := fun vs H Q _ => ∃ (a : Addr) (ns : List Int) (k : Int), vs = [.ref a, .int k] ∧ SqL K H a (ns.map V.int) ∧ 0 ≤ k ∧ k ≤ 100 ∧
 ∀ (r : Addr) (H' : Hp), Same H H' → H r = none → Urn H' r 0 → Q (.ref r) H'
noncomputable def spDraw : Sp := fun vs H Q _ => ∃ (u : Addr) (wd : Int) (m : Nat), vs = [.ref u, .int wd] ∧ Urn H u m ∧ m ≤ 1000000 ∧ 0 < wd ∧ wd < 1073741824 ∧
 ∀ (d : Int) (H' : Hp), 0 ≤ d → d < wd → SB u H H' → Urn H' u (m + 1) → Q (.int d) H'
theorem Zcq {i : Int} {n : Nat} (h0 : 0 ≤ i) (h : i < 2 ^ n) : i.natAbs < 2 ^ n := by
 have e : ((i.natAbs : Nat) : Int) = i := Int.natAbs_of_nonneg h0
 have : ((i.natAbs : Nat) : Int) < ((2 ^ n : Nat) : Int) := by rw [e]; simpa using h
 exact_mod_cast this
theorem prime7 (j : Int) : ∃ q : Int, atI [V.int 2147483647, V.int 2147483629, V.int 2147483587, V.int 2147483579, V.int 2147483563, V.int 2147483549, V.int 2147483543] (j % 7) = some (.int q) ∧ 0 < q ∧ q ≤ 2147483647 := by
 have h0 := Int.emod_nonneg j (show (7 : Int) ≠ 0 by decide)
 have h1 := Int.emod_lt_of_pos j (show (0 : Int) < 7 by decide)
 have : j % 7 = 0 ∨ j % 7 = 1 ∨ j % 7 = 2 ∨ j % 7 = 3 ∨ j % 7 = 4 ∨ j % 7 = 5 ∨ j % 7 = 6 := by omega
 rcases this with e | e | e | e | e | e | e <;> rw [e] <;> exact ⟨_, rfl, by decide, by decide⟩
end L2
namespace L2
open PySem PySem.Spec PyProof.Rows
section
variable {X : Cx} {Nc : List Str} {scope : Scope} {cs : List (Str × Addr)} {C : Addr} {s : Shared} {H : Hp} {fp : List Addr} {x : Str} {pos : Pos}
theorem Zch : (cxComp X Nc scope cs C s H fp).env.scope.names.lookup x = (scope.names.lookup x).map fun k => if (k == NameKind.free && X.env.scope.kind == .function && X.env.kindOf x == some .cell) then .cell else k := Zb8
theorem Zc2 (h : scope.names.lookup x = some .local) : (cxComp X Nc scope cs C s H fp).env.scope.names.lookup x = some .local := by rw [Zch, h]; rfl
theorem Zdc (h : scope.names.lookup x = some .globalImplicit := by rfl) : Gl (cxComp X Nc scope cs C s H fp) x := by
 show (cxComp X Nc scope cs C s H fp).env.scope.names.lookup x = _
 rw [Zch, h]; rfl
theorem Zi7 (h : scope.names.lookup x = some .free) : Vis (cxComp X Nc scope cs C s H fp).env.scope x := by
 unfold Vis
 rw [Zch, h]
 simp only [Option.map_some]
 split
 ·exact .inr (.inl rfl)
 ·exact .inr (.inr rfl)
theorem pvl (i : Nat) (hN : Nc[i]? = some x := by rfl) (hk : scope.names.lookup x = some .local := by rfl) (hd : (x == ("__debug__" : Str)) = false := by decide) (hcd : (x == ("__classdict__" : Str)) = false := by decide) : PE (cxComp X Nc scope cs C s H fp) (.Name x pos) (tVar i) :=
 Zgq (X := cxComp X Nc scope cs C s H fp) hN (.inl (Zc2 hk)) hd hcd
theorem pvf (i : Nat) (hN : Nc[i]? = some x := by rfl) (hk : scope.names.lookup x = some .free := by rfl) (hd : (x == ("__debug__" : Str)) = false := by decide) (hcd : (x == ("__classdict__" : Str)) = false := by decide) : PE (cxComp X Nc scope cs C s H fp) (.Name x pos) (tVar i) :=
 Zgq (X := cxComp X Nc scope cs C s H fp) hN (Zi7 hk) hd hcd
theorem pgl (i : Nat) (hN : Nc.Nodup) (hi : Nc[i]? = some x := by rfl) (hk : scope.names.lookup x = some .local := by rfl) : PG (cxComp X Nc scope cs C s H fp) (.Name x pos) (gName i) :=
 Zgr (X := cxComp X Nc scope cs C s H fp) hN hi (.inl (Zc2 hk)) (.inr (Zc2 hk))
end
end L2
namespace L2
open PySem PySem.Spec PyProof.Rows
@[irreducible] def IPE (X : Cx) (e : Expr) (t : TE) : Prop := PE X e t
theorem Za9 {X : Cx} {e : Expr} {t : TE} : IPE X e t = PE X e t := by unfold IPE; rfl
@[irreducible] def IPT (X : Cx) (e : Expr) (t : TT) : Prop := PT X e t
theorem Zaa {X : Cx} {e : Expr} {t : TT} : IPT X e t = PT X e t := by unfold IPT; rfl
@[irreducible] def IPW (X : Cx) (e : Expr) (t : TT) : Prop := PW X e t
theorem Zaf {X : Cx} {e : Expr} {t : TT} : IPW X e t = PW X e t := by unfold IPW; rfl
@[irreducible] def IPA (X : Cx) (e : List Expr) (t : TA) : Prop := PA X e t
theorem Zac {X : Cx} {e : List Expr} {t : TA} : IPA X e t = PA X e t := by unfold IPA; rfl
@[irreducible] def IPK (X : Cx) (e : List Keyword) (t : TA) : Prop := PK X e t
theorem Zag {X : Cx} {e : List Keyword} {t : TA} : IPK X e t = PK X e t := by unfold IPK; rfl
@[irreducible] def IPS (X : Cx) (e : Stmt) (t : TS) : Prop := PS X e t
theorem Za8 {X : Cx} {e : Stmt} {t : TS} : IPS X e t = PS X e t := by unfold IPS; rfl
@[irreducible] def IPSs (X : Cx) (e : List Stmt) (t : TS) : Prop := PSs X e t
theorem Za5 {X : Cx} {e : List Stmt} {t : TS} : IPSs X e t = PSs X e t := by unfold IPSs; rfl
@[irreducible] def IPG (X : Cx) (e : Expr) (t : TG) : Prop := PG X e t
theorem Zad {X : Cx} {e : Expr} {t : TG} : IPG X e t = PG X e t := by unfold IPG; rfl
@[irreducible] def IPGs (X : Cx) (e : List Expr) (t : TGs) : Prop := PGs X e t
theorem Za6 {X : Cx} {e : List Expr} {t : TGs} : IPGs X e t = PGs X e t := by unfold IPGs; rfl
@[irreducible] def IPI (X : Cx) (tg e : Expr) (t : TI) : Prop := PI X tg e t
theorem Zae {X : Cx} {tg e : Expr} {t : TI} : IPI X tg e t = PI X tg e t := by unfold IPI; rfl
@[irreducible] def IPO (X : Cx) (e : Option Expr) (t : TO) : Prop := PO X e t
theorem Zah {X : Cx} {e : Option Expr} {t : TO} : IPO X e t = PO X e t := by unfold IPO; rfl
@[irreducible] def IPTs (X : Cx) (e : List Expr) (t : TT) : Prop := PTs X e t
theorem Za7 {X : Cx} {e : List Expr} {t : TT} : IPTs X e t = PTs X e t := by unfold IPTs; rfl
theorem IPSs.get {X : Cx} {e : List Stmt} {t : TS} (h : IPSs X e t) : PSs X e t := by rw [← Za5]; exact h
theorem IPW.pt {X : Cx} {e : Expr} {t : TT} (h : IPW X e t) : IPT X e t := by rw [Zaa]; rw [Zaf] at h; exact h.pt
theorem Za1 {X : Cx} {i j pos} : IPE X (.Constant (.int i) j pos) (tC (.int i)) := by
 simp only [Za9, Zaa, Zaf, Zac, Zag, Za8, Za5, Zad, Za6, Zae, Zah, Za7] at *
 exact Zk5 
theorem Zcl {X : Cx} {b j pos} : IPE X (.Constant (.bool b) j pos) (tC (.bl b)) := by
 simp only [Za9, Zaa, Zaf, Zac, Zag, Za8, Za5, Zad, Za6, Zae, Zah, Za7] at *
 exact Zkz 
theorem Zit {X : Cx} {op : UnaryOp} {r : V → Hp → VK → Prop} (ho : UnR X (unaryOp op) r) (ha : IPE X a ta) : IPE X (.UnaryOp op a pos) (tUn r ta) := by
 simp only [Za9, Zaa, Zaf, Zac, Zag, Za8, Za5, Zad, Za6, Zae, Zah, Za7] at *
 exact Zl3 (ho := ho) (ha := ha)
theorem Zab {X : Cx} {op : Operator} {r : R2} (ho : OpR X (binaryOp op) r) (ha : IPE X a ta) (hb : IPE X b tb) : IPE X (.BinOp a op b pos) (tOp r ta tb) := by
 simp only [Za9, Zaa, Zaf, Zac, Zag, Za8, Za5, Zad, Za6, Zae, Zah, Za7] at *
 exact Zl2 (ho := ho) (ha := ha) (hb := hb)
theorem Zgd {X : Cx} {op : CmpOp} {r : R2} (ho : OpR X (compareOp op) r) (ha : IPE X a ta) (hb : IPE X b tb) (hm : behindInMarks op b = false) : IPE X (.Compare a [op] [b] pos) (tOp r ta tb) := by
 simp only [Za9, Zaa, Zaf, Zac, Zag, Za8, Za5, Zad, Za6, Zae, Zah, Za7] at *
 exact Zj4 (ho := ho) (ha := ha) (hb := hb) (hm := hm)
theorem Zfn {X : Cx} {c : Expr} (hc : IPT X c tA) (ha : IPE X a ta) (hb : IPE X b tb) : IPE X (.IfExp c a b pos) (tIf tA ta tb) := by
 simp only [Za9, Zaa, Zaf, Zac, Zag, Za8, Za5, Zad, Za6, Zae, Zah, Za7] at *
 exact Zhq (hc := hc) (ha := ha) (hb := hb)
theorem Zcb {X : Cx} (h : IPA X es t) : IPE X (.List es pos) (tLst t) := by
 simp only [Za9, Zaa, Zaf, Zac, Zag, Za8, Za5, Zad, Za6, Zae, Zah, Za7] at *
 exact Zk6 (h := h)
theorem Zb5 {X : Cx} {x1} (h : IPA X es t) : IPE X (.Tuple es x1 pos) (tTup t) := by
 simp only [Za9, Zaa, Zaf, Zac, Zag, Za8, Za5, Zad, Za6, Zae, Zah, Za7] at *
 exact Zk7 (h := h)
theorem Zb6 {X : Cx} {r : R2} (hr : IxR X r) (ha : IPE X a ta) (hb : IPE X b tb) (hs : PlainIx b) : IPE X (.Subscript a b pos) (tOp r ta tb) := by
 simp only [Za9, Zaa, Zaf, Zac, Zag, Za8, Za5, Zad, Za6, Zae, Zah, Za7] at *
 exact Zl1 (hr := hr) (ha := ha) (hb := hb) (hs := hs)
theorem Zal {X : Cx} {id : String} (hc : CallR X (.builtin id) r) (hg : Gl X x) (hm : X.mg x = none) (hv : bootBuiltins x = some (.builtin id)) (ha : IPA X (e :: es) t) (hn : x ≠ "__name__" := by decide) (hdb : (x == ("__debug__" : Str)) = false := by decide)
  (he : starEach (e :: es) X.env = (false, eval e X.env) :: starEach es X.env := by rfl) (hpl : (backTo pos (starEach es X.env)).any (·.1) = false := by rfl) : IPE X (.Call (.Name x p) (e :: es) [] pos) (tCB r t) := by
 simp only [Za9, Zaa, Zaf, Zac, Zag, Za8, Za5, Zad, Za6, Zae, Zah, Za7] at *
 exact Zhp (hc := hc) (hg := hg) (hm := hm) (hv := hv) (ha := ha) (hn := hn) (hdb := hdb) (he := he) (hpl := hpl)
theorem Zat {X : Cx} {st : Stmt} {sp : Sp} {ps : List Str} (D : Dn X.prog X.w X.K X.mg X.base k x st ps sp) (hb : BindsAll x st ps) (hr : Room k X.A) (ha : IPA X (e :: es) t) (hg : Gl X x := by rfl) (hs : starEach (e :: es) X.env = (false, eval e X.env) :: starEach es X.env := by rfl) (hpl : (backTo pos (starEach es X.env)).any (·.1) = false := by rfl)
  (hdb : (x == ("__debug__" : Str)) = false := by decide) : IPE X (.Call (.Name x p) (e :: es) [] pos) (tCall sp [] E0 t) := by
 simp only [Za9, Zaa, Zaf, Zac, Zag, Za8, Za5, Zad, Za6, Zae, Zah, Za7] at *
 exact Zk4 (D := D) (hb := hb) (hr := hr) (ha := ha) (hg := hg) (hs := hs) (hpl := hpl) (hdb := hdb)
theorem Zis {X : Cx} {id : String} {T : String} {name : Str} {to : TE} (pa : PlainAttrs T) (slot : Slot T name id) (hty : typeOf (.builtin id) = pure (.type "method_descriptor")) (hm : MtR X id r) (ho : IPE X o to) (ha : IPA X (e :: es) t)
  (hbase : attributeBase o name X.env (eval o X.env) = eval o X.env := by rfl)
  (hfew : ((backTo cpos (starEach (e :: es) X.env)).all (fun x => !x.1) && (backToKw cpos (keywordEach [] X.env)).all (fun x => x.1.isSome)
   && decide ((e :: es).length + ([] : List Keyword).length + (if ([] : List Keyword).isEmpty then 0 else 1) < 30)) = true := by rfl)
  (hline : (apos.endLine == cpos.line) = true := by rfl) (hs : starEach (e :: es) X.env = (false, eval e X.env) :: starEach es X.env := by rfl) (hplain : (backTo cpos (starEach es X.env)).any (·.1) = false := by rfl) :
  IPE X (.Call (.Attribute o name apos) (e :: es) [] cpos) (tBM X.K T r to t) := by
 simp only [Za9, Zaa, Zaf, Zac, Zag, Za8, Za5, Zad, Za6, Zae, Zah, Za7] at *
 exact Zl0 (pa := pa) (slot := slot) (hty := hty) (hm := hm) (ho := ho) (ha := ha) (hbase := hbase) (hfew := hfew) (hline := hline) (hs := hs) (hplain := hplain)
theorem Zhh {X : Cx} {id : String} {T : String} {name : Str} {to : TE} (pa : PlainAttrs T) (slot : Slot T name id) (hty : typeOf (.builtin id) = pure (.type "method_descriptor")) (hm : MtR X id r) (ho : IPE X o to)
  (hbase : attributeBase o name X.env (eval o X.env) = eval o X.env := by rfl) (hline : (apos.endLine == cpos.line) = true := by rfl) : IPE X (.Call (.Attribute o name apos) [] [] cpos) (tBM0 X.K T r to) := by
 simp only [Za9, Zaa, Zaf, Zac, Zag, Za8, Za5, Zad, Za6, Zae, Zah, Za7] at *
 exact Zk3 (pa := pa) (slot := slot) (hty := hty) (hm := hm) (ho := ho) (hbase := hbase) (hline := hline)
theorem Zdz {X : Cx} {x : Str} {v : V} {u : Value} {pos : Pos} (hg : Gl X x) (hm : X.mg x = none) (hv : bootBuiltins x = some u) (r : RelV v u) (hn : x ≠ "__name__" := by decide) (hd : (x == ("__debug__" : Str)) = false := by decide) : IPE X (.Name x pos) (tC v) := by
 simp only [Za9, Zaa, Zaf, Zac, Zag, Za8, Za5, Zad, Za6, Zae, Zah, Za7] at *
 exact Zj2 (hg := hg) (hm := hm) (hv := hv) (r := r) (hn := hn) (hd := hd)
theorem Zbx {X : Cx} {elt tg iter : Expr} {ifs : List Expr} {scope : Scope} {pos : Pos} {Nc : List Str} {cap : List (Option Nat)} {wi : TI} {g : TG} {tt : TT} {te : TE}
  (hc : X.calm = true) (hi : IPI X tg iter wi) (ok : capOk X Nc cap scope = true) (hg : ∀ cs C s H fp, IPG (cxComp X Nc scope cs C s H fp) tg g) (ht : ∀ cs C s H fp, IPTs (cxComp X Nc scope cs C s H fp) ifs tt)
  (he : ∀ cs C s H fp, IPE (cxComp X Nc scope cs C s H fp) elt te) (hk : scope.kind = .function := by rfl) (hs : ∀ x, foldedSetIterable iter X.env x = pure x := by intro _; rfl) :
  IPE X (.ListComp elt [⟨tg, iter, ifs, 0⟩] scope pos) (tComp wi cap g tt (tEmit te)) := by
 simp only [Za9, Zaa, Zaf, Zac, Zag, Za8, Za5, Zad, Za6, Zae, Zah, Za7] at *
 exact Zj5 (hc := hc) (hi := hi) (ok := ok) (hg := hg) (ht := ht) (he := he) (hk := hk) (hs := hs)
theorem Zby {X : Cx} {op : CmpOp} {r : R2} (ho : OpR X (compareOp op) r) (ha : IPE X a ta) (hb : IPE X b tb) (hm : behindInMarks op b = false) : IPT X (.Compare a [op] [b] pos) (tTest (tOp r ta tb)) := by
 simp only [Za9, Zaa, Zaf, Zac, Zag, Za8, Za5, Zad, Za6, Zae, Zah, Za7] at *
 exact Zjc (ho := ho) (ha := ha) (hb := hb) (hm := hm)
theorem Zbp {X : Cx} (ha : IPT X a tA) : IPT X (.UnaryOp .Not a pos) (tNot tA) := by
 simp only [Za9, Zaa, Zaf, Zac, Zag, Za8, Za5, Zad, Za6, Zae, Zah, Za7] at *
 exact Zkg (ha := ha)
theorem Zei {X : Cx} {rest : List Expr} (ha : IPT X a tA) (hb : IPW X (.BoolOp .Or (b :: rest) pos) tB') : IPW X (.BoolOp .Or (a :: b :: rest) pos) (tOr tA tB') := by
 simp only [Za9, Zaa, Zaf, Zac, Zag, Za8, Za5, Zad, Za6, Zae, Zah, Za7] at *
 exact Zl5 (ha := ha) (hb := hb)
theorem Zdf {X : Cx} (ha : IPT X a tA) : IPW X (.BoolOp .Or [a] pos) tA := by
 simp only [Za9, Zaa, Zaf, Zac, Zag, Za8, Za5, Zad, Za6, Zae, Zah, Za7] at *
 exact Zki (ha := ha)
theorem Zbq {X : Cx} {e : Expr} {t : TE} (h : IPE X e t) (he : ∀ whole, isTrue e X.env whole = (do let v ← whole; standAt e.pos; holding [v] (truthy v)) := by intro _; rfl) : IPT X e (tB t) := by
 simp only [Za9, Zaa, Zaf, Zac, Zag, Za8, Za5, Zad, Za6, Zae, Zah, Za7] at *
 exact Zkh (h := h) (he := he)
theorem Za2 {X : Cx} : IPA X [] tNil := by
 simp only [Za9, Zaa, Zaf, Zac, Zag, Za8, Za5, Zad, Za6, Zae, Zah, Za7] at *
 exact Zk2 
theorem Za0 {X : Cx} (ha : IPE X e te) (hr : IPA X es t) (hs : starEach (e :: es) X.env = (false, eval e X.env) :: starEach es X.env := by rfl) : IPA X (e :: es) (tCons te t) := by
 simp only [Za9, Zaa, Zaf, Zac, Zag, Za8, Za5, Zad, Za6, Zae, Zah, Za7] at *
 exact Zj1 (ha := ha) (hr := hr) (hs := hs)
theorem Zcm {X : Cx} {a : Expr} {ta : TA} {p pos : Pos} (hg : Gl X "range") (hm : X.mg "range" = none) (ha : IPA X [a] ta) (hs : starEach [a] X.env = [(false, eval a X.env)] := by rfl) : IPI X tg (.Call (.Name "range" p) [a] [] pos) (iRng1 ta) := by
 simp only [Za9, Zaa, Zaf, Zac, Zag, Za8, Za5, Zad, Za6, Zae, Zah, Za7] at *
 exact Zgs (hg := hg) (hm := hm) (ha := ha) (hs := hs)
theorem Zeg {X : Cx} {a b : Expr} {ta : TA} {p pos : Pos} (hg : Gl X "range") (hm : X.mg "range" = none) (ha : IPA X [a, b] ta) (hs : starEach [a, b] X.env = [(false, eval a X.env), (false, eval b X.env)] := by rfl) (hs2 : starEach [b] X.env = [(false, eval b X.env)] := by rfl) :
  IPI X tg (.Call (.Name "range" p) [a, b] [] pos) (iRng2 ta) := by
 simp only [Za9, Zaa, Zaf, Zac, Zag, Za8, Za5, Zad, Za6, Zae, Zah, Za7] at *
 exact Zgt (hg := hg) (hm := hm) (ha := ha) (hs := hs) (hs2 := hs2)
theorem Zbj {X : Cx} {l : Expr} {tl : TE} (hl : IPE X l tl) : IPI X tg l (iList X.K tl) := by
 simp only [Za9, Zaa, Zaf, Zac, Zag, Za8, Za5, Zad, Za6, Zae, Zah, Za7] at *
 exact Zj7 (hl := hl)
theorem Ze0 {X : Cx} {i : Nat} {x : Str} (hN : X.N.Nodup) (hi : X.N[i]? = some x) (hx : Loc X.env.scope x) (hf : X.fn x = true ∨ X.env.scope.names.lookup x = some .local := by first | exact .inl rfl | exact .inr rfl | assumption) : IPG X (.Name x pos) (gName i) := by
 simp only [Za9, Zaa, Zaf, Zac, Zag, Za8, Za5, Zad, Za6, Zae, Zah, Za7] at *
 exact Zgr (hN := hN) (hi := hi) (hx := hx) (hf := hf)
theorem Zef {X : Cx} (i : Nat) (hN : Nc.Nodup) (hi : Nc[i]? = some x := by rfl) (hk : scope.names.lookup x = some .local := by rfl) : IPG (cxComp X Nc scope cs C s H fp) (.Name x pos) (gName i) := by
 simp only [Za9, Zaa, Zaf, Zac, Zag, Za8, Za5, Zad, Za6, Zae, Zah, Za7] at *
 exact pgl (i := i) (hN := hN) (hi := hi) (hk := hk)
theorem Zde {X : Cx} (i : Nat) (hN : Nc[i]? = some x := by rfl) (hk : scope.names.lookup x = some .local := by rfl) (hd : (x == ("__debug__" : Str)) = false := by decide) (hcd : (x == ("__classdict__" : Str)) = false := by decide) : IPE (cxComp X Nc scope cs C s H fp) (.Name x pos) (tVar i) := by
 simp only [Za9, Zaa, Zaf, Zac, Zag, Za8, Za5, Zad, Za6, Zae, Zah, Za7] at *
 exact pvl (i := i) (hN := hN) (hk := hk) (hd := hd) (hcd := hcd)
theorem Zjt {X : Cx} (i : Nat) (hN : Nc[i]? = some x := by rfl) (hk : scope.names.lookup x = some .free := by rfl) (hd : (x == ("__debug__" : Str)) = false := by decide) (hcd : (x == ("__classdict__" : Str)) = false := by decide) : IPE (cxComp X Nc scope cs C s H fp) (.Name x pos) (tVar i) := by
 simp only [Za9, Zaa, Zaf, Zac, Zag, Za8, Za5, Zad, Za6, Zae, Zah, Za7] at *
 exact pvf (i := i) (hN := hN) (hk := hk) (hd := hd) (hcd := hcd)
theorem i_pv {X : Cx} (i : Nat) {x : Str} {pos : Pos} (hN : X.N[i]? = some x := by rfl) (hv : Vis X.env.scope x := by first | exact Or.inl rfl | exact Or.inr (Or.inl rfl) | exact Or.inr (Or.inr rfl)) (hd : (x == ("__debug__" : Str)) = false := by decide)
  (hcd : (x == ("__classdict__" : Str)) = false := by decide) : IPE X (.Name x pos) (tVar i) := by
 simp only [Za9, Zaa, Zaf, Zac, Zag, Za8, Za5, Zad, Za6, Zae, Zah, Za7] at *
 exact pv (i := i) (hN := hN) (hv := hv) (hd := hd) (hcd := hcd)
theorem Zhi {X : Cx} {es : List Expr} {k : Nat} {t : TGs} {n : Nat} (hc : X.calm = true) (h : IPGs X es t)
  (hn : (assignEach es X.env).length = n := by rfl) (hst : (assignEach es X.env).findIdx? (·.1) = none := by rfl) : IPG X (.Tuple es k pos) (gTup X.K n t) := by
 simp only [Za9, Zaa, Zaf, Zac, Zag, Za8, Za5, Zad, Za6, Zae, Zah, Za7] at *
 exact Zk9 (hc := hc) (h := h) (hn := hn) (hst := hst)
theorem Zgf {X : Cx} : IPGs X [] gNil := by
 simp only [Za9, Zaa, Zaf, Zac, Zag, Za8, Za5, Zad, Za6, Zae, Zah, Za7] at *
 exact Zj6 
theorem Zd3 {X : Cx} {e : Expr} {es : List Expr} {t : TG} {u : TGs} (h1 : IPG X e t) (h2 : IPGs X es u)
  (hs : (assignEach (e :: es) X.env).map (·.2) = assign e X.env :: (assignEach es X.env).map (·.2) := by rfl) : IPGs X (e :: es) (gCons t u) := by
 simp only [Za9, Zaa, Zaf, Zac, Zag, Za8, Za5, Zad, Za6, Zae, Zah, Za7] at *
 exact Zhr (h1 := h1) (h2 := h2) (hs := hs)
theorem Zf1 {X : Cx} {o i : Expr} {to ti : TE} {t : TSet} (ho : IPE X o to) (hi : IPE X i ti) (hs : PSet X t)
  (ha : ∀ v, assign (.Subscript o i pos) X.env v = (do
   let ov ← holding [v] (eval o X.env)
   let iv ← holding [v, ov] (eval i X.env)
   standAt pos
   holding [v, ov, iv] (setItem ov iv v)
   release [v, ov, iv] []) := by intro _; rfl) : IPG X (.Subscript o i pos) (gSub to ti t) := by
 simp only [Za9, Zaa, Zaf, Zac, Zag, Za8, Za5, Zad, Za6, Zae, Zah, Za7] at *
 exact Zk8 (ho := ho) (hi := hi) (hs := hs) (ha := ha)
theorem Zb4 {X : Cx} : IPSs X [] tNext := by
 simp only [Za9, Zaa, Zaf, Zac, Zag, Za8, Za5, Zad, Za6, Zae, Zah, Za7] at *
 exact Zja 
theorem Za3 {X : Cx} {rest : List Stmt} {st : Stmt} (h1 : IPS X st t) (h2 : IPSs X rest u) : IPSs X (st :: rest) (tSeq t u) := by
 simp only [Za9, Zaa, Zaf, Zac, Zag, Za8, Za5, Zad, Za6, Zae, Zah, Za7] at *
 exact Zht (h1 := h1) (h2 := h2)
theorem Zam {X : Cx} {st : Stmt} (h1 : IPS X st t) : IPSs X [st] t := by
 simp only [Za9, Zaa, Zaf, Zac, Zag, Za8, Za5, Zad, Za6, Zae, Zah, Za7] at *
 exact Zjb (h1 := h1)
theorem Zap {X : Cx} {i : Nat} {x : Str} {e : Expr} {te : TE} {pos' : Pos} (hN : X.N.Nodup) (hi : X.N[i]? = some x) (hx : Loc X.env.scope x) (he : IPE X e te) (hs : swapsWith e (some (.Name x pos')) pos.line X.env = pure false := by rfl) (hf : X.fn x = true ∨ X.env.scope.names.lookup x = some .local := by first | exact .inl rfl | exact .inr rfl | assumption) :
  IPS X (.Assign [.Name x pos'] e pos) (tAsg te (gName i)) := by
 simp only [Za9, Zaa, Zaf, Zac, Zag, Za8, Za5, Zad, Za6, Zae, Zah, Za7] at *
 exact Zkf (hN := hN) (hi := hi) (hx := hx) (he := he) (hs := hs) (hf := hf)
theorem Zf2 {X : Cx} {tg e : Expr} {te : TE} {g : TG} (he : IPE X e te) (hg : IPG X tg g) (hs : swapsWithSole [tg] e pos.line X.env = pure false := by rfl) (hw : swappedStores [tg] e X.env = pure none := by rfl)
  (h1 : (assignEach [tg] X.env).map (·.2) = [assign tg X.env] := by rfl) : IPS X (.Assign [tg] e pos) (tAsg te g) := by
 simp only [Za9, Zaa, Zaf, Zac, Zag, Za8, Za5, Zad, Za6, Zae, Zah, Za7] at *
 exact Zka (he := he) (hg := hg) (hs := hs) (hw := hw) (h1 := h1)
theorem Zbu {X : Cx} {c : Expr} {a b : List Stmt} {tc : TT} (hc : IPT X c tc) (ha : IPSs X a t) (hb : IPSs X b u) : IPS X (.If c a b pos) (tIfS tc t u) := by
 simp only [Za9, Zaa, Zaf, Zac, Zag, Za8, Za5, Zad, Za6, Zae, Zah, Za7] at *
 exact Zl4 (hc := hc) (ha := ha) (hb := hb)
theorem Zaw {X : Cx} (he : IPE X e te) : IPS X (.Return (some e) pos) (tRet te) := by
 simp only [Za9, Zaa, Zaf, Zac, Zag, Za8, Za5, Zad, Za6, Zae, Zah, Za7] at *
 exact Zke (he := he)
theorem Ze1 {X : Cx} (he : IPE X e te) (hs : swapsWith e none pos.line X.env = pure false := by rfl) : IPS X (.Expr e pos) (tDrop te) := by
 simp only [Za9, Zaa, Zaf, Zac, Zag, Za8, Za5, Zad, Za6, Zae, Zah, Za7] at *
 exact Zj9 (he := he) (hs := hs)
theorem Zf3 {X : Cx} {iter : Expr} {body : List Stmt} {wi : TI} {g : TG} {tb : TS} {pos : Pos} (hp : PassesOwn (model X.prog X.w) X.A X.env X.xe) (hc : X.calm = true) (hi : IPI X tg iter wi) (hg : IPG X tg g) (hb : IPSs X body tb)
  (hs : ∀ x, foldedSetIterable iter X.env x = pure x := by intro _; rfl) : IPS X (.For tg iter body [] pos) (tFor wi g tb) := by
 simp only [Za9, Zaa, Zaf, Zac, Zag, Za8, Za5, Zad, Za6, Zae, Zah, Za7] at *
 exact Zkc (hp := hp) (hc := hc) (hi := hi) (hg := hg) (hb := hb) (hs := hs)
theorem Zbz {Y : Cx} : IPTs Y [] tYes := by
 simp only [Za9, Zaa, Zaf, Zac, Zag, Za8, Za5, Zad, Za6, Zae, Zah, Za7] at *
 exact Zer 
end L2
namespace L2
open PySem PySem.Spec PyProof.Rows
open AutoSeq1 (wpAny_loadPart')
section
variable {prog : Program} {w : World} {A : Around} {E : Value → Shared → Prop} {s : Shared}
end
end L2
namespace L2
open PySem PySem.Spec PyProof.Rows
open AutoSeq1 (wpAny_loadPart')
section
variable {prog : Program} {w : World} {A : Around} {E : Value → Shared → Prop} {s : Shared}
end
section
variable {X : Cx}
end
end L2
namespace L2
open PySem PySem.Spec PyProof.Rows
section
variable {X : Cx}
end
end L2
namespace L2
open PySem PySem.Spec PyProof.Rows
noncomputable def tI (ns : List Int) : PyData := .tuple (ns.map .int)
noncomputable def lT (rows : List (List Int)) : PyData := .list (rows.map tI)
theorem Zi1 {d : PyData} (hc : d.canLay0 = true) (hi : d.intsShort 101 = true) (hw : d.weight ≤ 100000) : d.shown.length ≤ sizeLine := by
 have h := PyData.shown_le 101 (by decide) d (PyData.leavesShort_of_canLay0 101 d hc hi)
 have e : sizeLine = 16777216 := by decide
 omega
theorem Zen {i : Int} {w : Nat} (hw : 0 < w) (h : i.natAbs < 2 ^ w) : i.natAbs.log2 < w := by
 by_cases h0 : i.natAbs = 0
 ·rw [h0]; simpa using hw
 ·exact (Nat.log2_lt h0).mpr h
theorem Zh3 {i : Int} {w : Nat} (hw : 0 < w) (hw2 : w ≤ 100) (h : i.natAbs < 2 ^ w) : (PyData.int i).intsShort 101 = true := by
 have e := int_text_length_le (a := i) (k := w) hw (Zen hw h)
 simp only [PyData.intsShort, decide_eq_true_eq]
 show (Str.ofString (toString i)).length ≤ 101
 rw [PySem.ofString_length]
 omega
theorem Zg1 {i : Int} {w : Nat} (hw : 0 < w) (h : i.natAbs < 2 ^ w) : (PyData.int i).weight ≤ w := by
 have := Zen hw h
 simp only [PyData.weight]
 split <;> omega
theorem Zcn : ∀ ns : List Int, PyData.canLayAll0 (ns.map .int) = true
 | [] => by simp [PyData.canLayAll0]
 | x :: r => by simp [PyData.canLayAll0, PyData.canLay0, Zcn r]
theorem Zd5 : ∀ ns : List Int, PyData.depthAll (ns.map .int) = 0
 | [] => by simp [PyData.depthAll]
 | x :: r => by simp [PyData.depthAll, PyData.depth, Zd5 r]
theorem Ze2 : ∀ ns : List Int, PyData.hasDictAll (ns.map .int) = false
 | [] => by simp [PyData.hasDictAll]
 | x :: r => by simp [PyData.hasDictAll, PyData.hasDict, Ze2 r]
theorem Zik (ns : List Int) : (tI ns).canLay0 = true := by simp [tI, PyData.canLay0, Zcn]
theorem Zi3 (ns : List Int) : (tI ns).depth = 1 := by simp [tI, PyData.depth, Zd5]
theorem Zjm (ns : List Int) : (tI ns).hasDict = false := by simp [tI, PyData.hasDict, Ze2]
theorem DV.tI {K : PySem.W.Frag} {H : Hp} {a : Addr} {ns : List Int} (h : SqT K H a (ns.map V.int)) : DV K H (tI ns) (.ref a) := DV.tup h (DVs.ints ns)
theorem DV.tI_inv {K : PySem.W.Frag} {H : Hp} {ns : List Int} {x : V} (h : DV K H (L2.tI ns) x) : ∃ a, x = .ref a ∧ SqT K H a (ns.map V.int) := by
 unfold L2.tI DV at h
 obtain ⟨a, xs, rfl, hs, hd⟩ := h
 have : ∀ (l : List Int) (ys : List V), DVs K H (l.map .int) ys → ys = l.map V.int := fun l => by
  induction l with
  | nil => intro ys h; unfold DVs at h; exact h
  | cons x r ih =>
   intro ys h
   rw [List.map_cons] at h
   unfold DVs at h
   obtain ⟨y, t, rfl, h1, h2⟩ := h
   unfold DV at h1
   rw [h1, ih t h2]; rfl
 rw [this ns xs hd] at hs
 exact ⟨a, rfl, hs⟩
noncomputable def LR (K : PySem.W.Frag) (H : Hp) (l : Addr) (rows : List (List Int)) : Prop := ∃ xs, SqL K H l xs ∧ DVs K H (rows.map tI) xs
theorem LR.dv {K : PySem.W.Frag} {H : Hp} {l : Addr} {rows : List (List Int)} (h : LR K H l rows) : DV K H (lT rows) (.ref l) := by
 obtain ⟨xs, h1, h2⟩ := h
 exact DV.list h1 h2
theorem LR.same {K : PySem.W.Frag} {H H' : Hp} {l : Addr} {rows : List (List Int)} (h : LR K H l rows) (e : Same H H') : LR K H' l rows := by
 obtain ⟨xs, h1, h2⟩ := h
 exact ⟨xs, e.seq h1, DVs.same e h2⟩
theorem DVs.snoc {K : PySem.W.Frag} {H : Hp} {ds : List PyData} {d : PyData} {xs : List V} {x : V} (h : DVs K H ds xs) (t : DV K H d x) : DVs K H (ds ++ [d]) (xs ++ [x]) := DVs.append h (DVs.cons t DVs.nil)
theorem DVs.take {K : PySem.W.Frag} {H : Hp} : ∀ {ds : List PyData} {xs : List V} (k : Nat), DVs K H ds xs → DVs K H (ds.take k) (xs.take k)
 | [], xs, k, h => by unfold DVs at h; subst h; simp; exact DVs.nil
 | d :: ds, xs, 0, h => by simp; exact DVs.nil
 | d :: ds, xs, k + 1, h => by
  unfold DVs at h
  obtain ⟨x, r, rfl, h1, h2⟩ := h
  exact DVs.cons h1 (DVs.take k h2)
theorem DVs.drop {K : PySem.W.Frag} {H : Hp} : ∀ {ds : List PyData} {xs : List V} (k : Nat), DVs K H ds xs → DVs K H (ds.drop k) (xs.drop k)
 | [], xs, k, h => by unfold DVs at h; subst h; simp; exact DVs.nil
 | d :: ds, xs, 0, h => h
 | d :: ds, xs, k + 1, h => by
  unfold DVs at h
  obtain ⟨x, r, rfl, h1, h2⟩ := h
  exact DVs.drop k h2
theorem DVs.reverse {K : PySem.W.Frag} {H : Hp} : ∀ {ds : List PyData} {xs : List V}, DVs K H ds xs → DVs K H ds.reverse xs.reverse
 | [], xs, h => by unfold DVs at h; subst h; exact DVs.nil
 | d :: ds, xs, h => by
  unfold DVs at h
  obtain ⟨x, r, rfl, h1, h2⟩ := h
  rw [List.reverse_cons, List.reverse_cons]
  exact DVs.snoc (DVs.reverse h2) h1
end L2
namespace L2
open PySem PySem.Spec PyProof.Rows
section
variable {X : Cx} {K : PySem.W.Frag}
theorem Ziw (h : X.K = K) : IxR X (rIxT K) := h ▸ Zgk
theorem Zda (h : X.K = K) : CallR X (.builtin "len") (fun xs H Q => ∃ p ys, xs = [.ref p] ∧ (SqL K H p ys ∨ SqT K H p ys) ∧ Q (.int ys.length) H) := h ▸ Zbh
end
end L2
namespace L2
open PySem PySem.Spec PyProof.Rows
section
variable {X : Cx}
theorem Zeq {i : Nat} {x : Str} {elt tg iter tg2 iter2 : Expr} {scope : Scope} {pos pos' spos : Pos} {Nc : List Str} {cap : List (Option Nat)} {wi wi2 : TI} {g g2 : TG} {te : TE}
  (hN : X.N.Nodup) (hx : X.N[i]? = some x) (hl : Loc X.env.scope x)
  (hc : X.calm = true) (hi : PI X tg iter wi) (ok : capOk X Nc cap scope = true) (hg : ∀ cs C s H fp, PG (cxComp X Nc scope cs C s H fp) tg g)
  (hi2 : ∀ cs C s H fp, PI (cxComp X Nc scope cs C s H fp) tg2 iter2 wi2) (hg2 : ∀ cs C s H fp, PG (cxComp X Nc scope cs C s H fp) tg2 g2)
  (he : ∀ cs C s H fp, PE (cxComp X Nc scope cs C s H fp) elt te) (hsw : swapsWith (.ListComp elt [⟨tg, iter, [], 0⟩, ⟨tg2, iter2, [], 0⟩] scope pos) (some (.Name x pos')) spos.line X.env = pure true := by rfl)
  (hk : scope.kind = .function := by rfl) (hs : ∀ x, foldedSetIterable iter X.env x = pure x := by intro _; rfl)
  (hs2 : ∀ env x, foldedSetIterable iter2 env x = pure x := by intro _ _; rfl)
  (hf : X.fn x = true ∨ X.env.scope.names.lookup x = some .local := by first | exact .inl rfl | exact .inr rfl | assumption) :
  PS X (.Assign [.Name x pos'] (.ListComp elt [⟨tg, iter, [], 0⟩, ⟨tg2, iter2, [], 0⟩] scope pos) spos) (tAsg (tComp wi cap g tYes (tLoop wi2 g2 tYes (tEmit te))) (gName i)) := by
 intro pins s σ H D I h
 rw [exec_Assign_Name_used _ _ _ _ hsw]
 refine wpAny_bind (wpAny_standAt (wpAny_bind ?_))
 show wpAny _ X.A (do let _ ← comprehension (.ListComp elt [⟨tg, iter, [], 0⟩, ⟨tg2, iter2, [], 0⟩] scope pos) scope X.env _ (newList []) false (eval iter X.env) (some (assign (.Name x pos') X.env))) _ _ s
 refine wpAny_bind (thn (Zdw (use := some (assign (.Name x pos') X.env)) (Q := fun _ s' => SP X pins D .next s') (body := fun env => nest elt [⟨tg, iter, [], 0⟩, ⟨tg2, iter2, [], 0⟩] scope pos 1 iter2 env) hk hc hi ok hg (fun cs C s H fp => Zer)
  (fun cs C s H fp => Zj8 (Y := cxComp X Nc scope cs C s H fp) (body := emit elt (compEnvC scope cs C X.env)) (fun _ _ f => f) hc (hi2 cs C s H fp) (hg2 cs C s H fp) Zer (Zgu (he cs C s H fp)) rfl (fun it acc => rfl) (hs2 _)) (fun it acc env => ?_) hs I h fun L C H' s' I' fD fC ne hn q => ?_) fun _ s' q => wpAny_pure (wpAny_pure q))
 ·rw [Zdv]
  unfold turnOf testsOf nest
  simp only [bind_assoc, pure_bind]
 ·obtain ⟨H1, I1, q1, f1⟩ := Zex (P := fun v H => gName i v σ H D.nx) I' fD fC ne q
  obtain ⟨m, hm⟩ := hn
  show wpAny _ X.A (assign (.Name x pos') X.env (.ref L)) _ _ _
  refine wpAny_assign_Name (Ze6 I1 hN hx hl (v := .ref L) rfl (fun s2 I2 ⟨a, sb, ha⟩ => ?_) hf)
  have ca : C ≠ a := by
   rcases ha with z | z
   ·rw [z]; exact f1.2.1
   ·exact fun y => f1.2.2.2.2.1 x a z y.symm
  exact ⟨m, hm.sameBut sb ca, fun h'' sb2 => ⟨_, H1, I2.turned (t' := s2.toks) (fun b o hb e => sb2.extBut b o hb e) f1.1 f1.2.1 f1.2.2.2.1 f1.2.2.2.2.1 f1.2.2.2.2.2, q1⟩⟩
theorem Zdd {i : Nat} {x : Str} {elt tg iter tg2 iter2 : Expr} {scope : Scope} {pos pos' spos : Pos} {Nc : List Str} {cap : List (Option Nat)} {wi wi2 : TI} {g g2 : TG} {te : TE}
  (hN : X.N.Nodup) (hx : X.N[i]? = some x) (hl : Loc X.env.scope x)
  (hc : X.calm = true) (hi : IPI X tg iter wi) (ok : capOk X Nc cap scope = true) (hg : ∀ cs C s H fp, IPG (cxComp X Nc scope cs C s H fp) tg g)
  (hi2 : ∀ cs C s H fp, IPI (cxComp X Nc scope cs C s H fp) tg2 iter2 wi2) (hg2 : ∀ cs C s H fp, IPG (cxComp X Nc scope cs C s H fp) tg2 g2)
  (he : ∀ cs C s H fp, IPE (cxComp X Nc scope cs C s H fp) elt te) (hsw : swapsWith (.ListComp elt [⟨tg, iter, [], 0⟩, ⟨tg2, iter2, [], 0⟩] scope pos) (some (.Name x pos')) spos.line X.env = pure true := by rfl)
  (hk : scope.kind = .function := by rfl) (hs : ∀ x, foldedSetIterable iter X.env x = pure x := by intro _; rfl)
  (hs2 : ∀ env x, foldedSetIterable iter2 env x = pure x := by intro _ _; rfl)
  (hf : X.fn x = true ∨ X.env.scope.names.lookup x = some .local := by first | exact .inl rfl | exact .inr rfl | assumption) :
  IPS X (.Assign [.Name x pos'] (.ListComp elt [⟨tg, iter, [], 0⟩, ⟨tg2, iter2, [], 0⟩] scope pos) spos) (tAsg (tComp wi cap g tYes (tLoop wi2 g2 tYes (tEmit te))) (gName i)) := by
 simp only [Za9, Za8, Zad, Zae] at *
 exact Zeq hN hx hl hc hi ok hg hi2 hg2 he hsw hk hs hs2 hf
end
end L2
namespace L2
open PySem PySem.Spec PyProof.Rows
noncomputable def lexLt : List Int → List Int → Bool
 | x :: xs, y :: ys => decide (x < y) || (decide (x = y) && lexLt xs ys)
 | _, _ => false
noncomputable def TpI (h : Heap) (v : Value) (ns : List Int) : Prop := ∃ a o vs n, v = .ref a ∧ h.get? a = some o ∧ o.cls = .type "tuple" ∧ o.data = .seq (List.toArray vs) n ∧ IntsAre vs ns
theorem TpI.keep {h h' : Heap} {v : Value} {ns : List Int} (x : TpI h v ns) (k : ∀ b o, o.cls = .type "tuple" → h.get? b = some o → h'.get? b = some o) : TpI h' v ns := by
 obtain ⟨a, o, vs, n, e, h1, h2, h3, h4⟩ := x
 exact ⟨a, o, vs, n, e, k _ _ h2 h1, h2, h3, h4⟩
theorem Zdg (f : Bool) (x y : Value) : keyLt' (tuples' f) x y = (do
  let xs ← Builtin.List.listItems x; let ys ← Builtin.List.listItems y
  for ((p, q), i) in (xs.toList.zip ys.toList).zipIdx do
   if !(← eqBool p q) then return ← oneLt' (f && i == 0) p q
  return xs.size < ys.size) := rfl
section
variable {prog : Program} {w : World} {A : Around} {E : Value → Shared → Prop} {s : Shared}
theorem Zfw {a b : Int} {t u : Tok} {Q : Bool → Shared → Prop} (h : Q (decide (a < b)) s) : wpAny (model prog w) A (oneLt' false (.int a t) (.int b u)) Q E s := by
 rw [oneLt'_eq]
 simp only [Bool.false_eq_true, if_false]
 refine wpAny_bind ?_
 show wpAny _ _ (compareOp .Lt (.int a t) (.int b u)) _ _ s
 exact lt_int (wpAny_truthy_bool h)
theorem Zfx {c : Bool} {a b : Int} {t u : Tok} {Q : Bool → Shared → Prop} (h : Q (decide (a < b)) s) : wpAny (model prog w) A (oneLt' c (.int a t) (.int b u)) Q E s := by
 cases c
 ·exact Zfw h
 ·exact oneLt_int h
theorem Zbs : ∀ us : List Value, (∀ u ∈ us, ∃ i t, u = Value.int i t) → ∃ ns, IntsAre us ns
 | [], _ => ⟨[], .nil⟩
 | u :: us, h => by
  obtain ⟨i, t, rfl⟩ := h u (List.mem_cons_self ..)
  obtain ⟨ns, hn⟩ := Zbs us fun x hx => h x (List.mem_cons_of_mem _ hx)
  exact ⟨i :: ns, .cons i t hn⟩
noncomputable def AscV (h : Heap) (vs : List Value) : Prop := (∀ v ∈ vs, ∃ ns, TpI h v ns ∧ 1 ≤ ns.length) ∧ ∀ i x y, vs[i]? = some y → vs[i + 1]? = some x → ∃ ns ms, TpI h x ns ∧ TpI h y ms ∧ ns.length = ms.length ∧ lexLt ms ns = true
theorem AscV.keep {h h' : Heap} {vs : List Value} (x : AscV h vs) (k : ∀ b o, o.cls = .type "tuple" → h.get? b = some o → h'.get? b = some o) : AscV h' vs := by
 refine ⟨fun v hv => ?_, fun i a b e1 e2 => ?_⟩
 ·obtain ⟨ns, h1, h2⟩ := x.1 v hv
  exact ⟨ns, h1.keep k, h2⟩
 ·obtain ⟨ns, ms, h1, h2, h3, h4⟩ := x.2 i a b e1 e2
  exact ⟨ns, ms, h1.keep k, h2.keep k, h3, h4⟩
end
section
variable {X : Cx}
end
end L2
namespace L2
open PySem PySem.Spec PyProof.Rows
section
variable {X : Cx}
end
theorem Zgg {X : Cx} {x y : Str} {a b : Expr} {ta : TA} {px py pt pos : Pos} {kt k2 : Nat} {pt2 : Pos} (i j : Nat) (hc : X.calm = true) (hN : X.N.Nodup) (ha : IPA X [a, b] ta) (hi : X.N[i]? = some x := by rfl) (hj : X.N[j]? = some y := by rfl) (hij : i ≠ j := by decide)
  (hx : X.env.scope.names.lookup x = some .local := by rfl) (hy : X.env.scope.names.lookup y = some .local := by rfl)
  (hw : swappedStores [.Tuple [.Name x px, .Name y py] kt pt] (.Tuple [a, b] k2 pt2) X.env = pure (some [x, y]) := by rfl)
  (hs : swapsWithSole [.Tuple [.Name x px, .Name y py] kt pt] (.Tuple [a, b] k2 pt2) pos.line X.env = pure false := by rfl) :
  IPS X (.Assign [.Tuple [.Name x px, .Name y py] kt pt] (.Tuple [a, b] k2 pt2) pos) (tPar i j ta) := by
 rw [Za8]
 rw [Zac] at ha
 exact Zkd hc hN hi hj hij hx hy ha hw hs
end L2
namespace L2
open PySem PySem.Spec PyProof.Rows
noncomputable def gaQ {α : Type} (d : α) (na nk : Nat) (pick : List (Nat × Nat)) (us ws : List α) : List α := if us.length = na ∧ ws.length = nk then pick.filterMap (fun p => if p.1 = 0 then us[p.2]? else if p.1 = 1 then ws[p.2]? else some d) else []
structure FunD (K : PySem.W.Frag) (x : Str) (st : Stmt) (f : Addr) (fd : FuncData) (e : Addr) : Prop where
 ex : ∃ (oc : Value) (od : Option Addr) (T : Addr) (kV doc pm : Value) (an : Option Addr) (cdv ct : Value) (osl : Array (Option Value)) (oT : Obj) (n : Nat),
  fd = PySem.W.fnOf x x (defArgs st) (defBody st) (defScope st) (.ref T) kV doc pm an cdv ct ∧ K.lookup f = some ⟨oc, od, .func fd, osl⟩ ∧ PySem.W.codeIn K cdv x = true ∧ K.lookup T = some oT ∧ oT.data = .seq #[.ref e] n
 kp : PySem.W.keepIn K (.ref f) = true
noncomputable def EmptyAt (K : PySem.W.Frag) (e : Addr) : Prop := ∃ (o : Obj) (n : Nat), K.lookup e = some o ∧ o.cls = .type "tuple" ∧ o.data = .seq #[] n
theorem EmptyAt.tup {K : PySem.W.Frag} {e : Addr} (h : EmptyAt K e) (H : Hp) : SqT K H e [] := by
 obtain ⟨o, n, h1, h2, h3⟩ := h
 exact .inr ⟨o, #[], n, h1, h2, h3, by decide, .nil⟩
structure DnD (P : Program) (w : World) (K : PySem.W.Frag) (mg : Str → Option Value) (base : Heap) (k : Nat) (x : Str) (st : Stmt) (ps : List Str) (sp : Sp) (e : Addr) : Prop where
 ex : ∃ f fd, FnOk P w K mg base CX0 k f fd ps sp ∧ FunD K x st f fd e ∧ mg x = some (.ref f)
theorem DnD.of {P : Program} {w : World} {K : PySem.W.Frag} {mg : Str → Option Value} {base : Heap} {x : Str} {st : Stmt} {N ps : List Str} {k : Nat} {sp : Sp} {e : Addr} (U : ∃ f fd, FunD K x st f fd e ∧ mg x = some (.ref f)) (S : FnScope N ps (defScope st)) (len : ∀ vs H Q E, sp vs H Q E → vs.length = ps.length)
  (hbody : ∀ (f : Addr) (cdv : Value) (A : Around) (outer : List Env) (s : Shared) (H : Hp) (vs : List V) (Q : VK) (E : XK), Room k (A.deeper (envOfC x (defScope st) s.heap.objs.size f cdv)) → sp vs H Q E →
   ∃ t, PSs (cxOf CX0 P w K mg base N x (defScope st) f cdv A outer s H E).nox (defBody st) t ∧ t { nx := fun _ H' => Q .non H', rt := Q } (start N vs) H) : DnD P w K mg base (k + 1) x st ps sp e := by
 obtain ⟨f, fd, F, m⟩ := U
 refine ⟨f, fd, ?_, F, m⟩
 obtain ⟨oc, od, T, kV, doc, pm, an, cdv, ct, osl, oT, n, rfl, lk, hcd, hT, hd⟩ := F.ex
 refine Zjr lk hcd S len fun A outer s H vs Q E hr hsp => ?_
 obtain ⟨t, h, q⟩ := hbody f cdv A outer s H vs Q E hr hsp
 exact ⟨t, h.nox, q⟩
section
variable {X : Cx} {k : Nat} {x : Str} {st : Stmt} {ps ks : List Str} {sp : Sp} {p pos : Pos} {e : Expr} {es : List Expr} {kws : List Keyword} {t tk : TA} {na nk : Nat} {pick : List (Nat × Nat)} {d : Addr}
end
end L2
namespace L2
open PySem PySem.Spec PyProof.Rows
section
variable {prog : Program} {w : World} {A : Around} {E : Value → Shared → Prop} {s : Shared}
end
section
variable {X : Cx}
end
end L2
namespace L2
open PySem PySem.Spec PyProof.Rows
section
variable {κ : Type} [DecidableEq κ]
noncomputable def valV (kvs : List (κ × V)) (k : κ) : Option V := (kvs.find? fun kv => decide (kv.1 = k)).map (·.2)
noncomputable def putK (kvs : List (κ × V)) (k : κ) (v : V) : List (κ × V) :=
 if (kvs.any fun kv => decide (kv.1 = k)) = true then kvs.map (fun kv => if kv.1 = k then (kv.1, v) else kv) else kvs ++ [(k, v)]
noncomputable def dropK (kvs : List (κ × V)) (k : κ) : List (κ × V) := kvs.filter fun kv => decide (kv.1 ≠ k)
theorem Zce {p : κ × V} {r : List (κ × V)} {k : κ} (e : p.1 = k) : valV (p :: r) k = some p.2 := by simp [valV, List.find?_cons, e]
theorem Zcd {p : κ × V} {r : List (κ × V)} {k : κ} (e : ¬ p.1 = k) : valV (p :: r) k = valV r k := by simp [valV, List.find?_cons, e]
theorem Zfd (k : κ) : ∀ kvs : List (κ × V), (kvs.any fun kv => decide (kv.1 = k)) = (valV kvs k).isSome
 | [] => rfl
 | p :: r => by
  rw [List.any_cons]
  by_cases e : p.1 = k
  ·simp only [Zce e, decide_eq_true e, Bool.true_or, Option.isSome_some]
  ·rw [Zcd e, decide_eq_false e, Bool.false_or]; exact Zfd k r
theorem RelO.isSome_eq {o : Option V} {u : Option Value} (r : RelO o u) : o.isSome = u.isSome := by
 cases o with
 | none => cases u with
  | none => rfl
  | some _ => exact (show False from r).elim
 | some _ => cases u with
  | none => exact (show False from r).elim
  | some _ => rfl
theorem RelO.getD {o : Option V} {u : Option Value} {d : V} {d' : Value} (r : RelO o u) (rd : RelV d d') : RelV (o.getD d) (u.getD d') := by
 cases o with
 | none => cases u with
  | none => exact rd
  | some _ => exact (show False from r).elim
 | some _ => cases u with
  | none => exact (show False from r).elim
  | some _ => exact r
theorem KV.val {kvs : List (κ × V)} {vs : List (κ × Value)} (r : KV kvs vs) (k : κ) : RelO (valV kvs k) (valueAt vs k) := by
 unfold KV at r
 induction r with
 | nil => exact True.intro
 | @cons p q ps qs h t ih =>
  obtain ⟨h1, h2⟩ := h
  by_cases e : p.1 = k
  ·have e' : q.1 = k := h1.symm.trans e
   have b : valueAt (q :: qs) k = some q.2 := by simp [valueAt, List.find?_cons, e']
   rw [Zce e, b]; exact h2
  ·have e' : ¬ q.1 = k := fun z => e (h1.trans z)
   have b : valueAt (q :: qs) k = valueAt qs k := by simp [valueAt, List.find?_cons, e']
   rw [Zcd e, b]; exact ih
theorem KV.any {kvs : List (κ × V)} {vs : List (κ × Value)} (r : KV kvs vs) (k : κ) : (kvs.any fun kv => decide (kv.1 = k)) = vs.any fun kv => decide (kv.1 = k) := by
 unfold KV at r
 induction r with
 | nil => rfl
 | cons h t ih => rw [List.any_cons, List.any_cons, ih, h.1]
theorem KV.repl {kvs : List (κ × V)} {vs : List (κ × Value)} (r : KV kvs vs) (k : κ) {y : V} {u : Value} (ry : RelV y u) :
  KV (kvs.map fun kv => if kv.1 = k then (kv.1, y) else kv) (vs.map fun kv => if kv.1 = k then (kv.1, u) else kv) := by
 unfold KV at r ⊢
 induction r with
 | nil => exact .nil
 | @cons p q ps qs h t ih =>
  rw [List.map_cons, List.map_cons]
  refine .cons ?_ ih
  obtain ⟨h1, h2⟩ := h
  by_cases e : p.1 = k
  ·rw [if_pos e, if_pos (h1.symm.trans e)]; exact ⟨h1, ry⟩
  ·rw [if_neg e, if_neg (fun z => e (h1.trans z))]; exact ⟨h1, h2⟩
theorem KV.put {kvs : List (κ × V)} {vs : List (κ × Value)} (r : KV kvs vs) (k : κ) {y : V} {u : Value} (ry : RelV y u) : KV (putK kvs k y) (stored vs k u) := by
 unfold putK stored
 rw [r.any k]
 by_cases e : (vs.any fun kv => decide (kv.1 = k)) = true
 ·rw [if_pos e, if_pos e]; exact r.repl k ry
 ·rw [if_neg e, if_neg e]; exact Paired.snoc r ⟨rfl, ry⟩
theorem KV.drop {kvs : List (κ × V)} {vs : List (κ × Value)} (r : KV kvs vs) (k : κ) : KV (dropK kvs k) (without vs k) := by
 unfold KV at r ⊢
 unfold dropK without
 induction r with
 | nil => exact .nil
 | @cons p q ps qs h t ih =>
  obtain ⟨h1, h2⟩ := h
  rw [List.filter_cons, List.filter_cons]
  by_cases e : p.1 = k
  ·have a : ¬ decide (p.1 ≠ k) = true := by simp [e]
   have b : ¬ decide (q.1 ≠ k) = true := by simp [h1.symm.trans e]
   rw [if_neg a, if_neg b]; exact ih
  ·have e' : ¬ q.1 = k := fun z => e (h1.trans z)
   have a : decide (p.1 ≠ k) = true := by simp [e]
   have b : decide (q.1 ≠ k) = true := by simp [e']
   rw [if_pos a, if_pos b]; exact .cons ⟨h1, h2⟩ ih
theorem KV.keys {kvs : List (κ × V)} {vs : List (κ × Value)} (r : KV kvs vs) : kvs.map (·.1) = vs.map (·.1) := by
 unfold KV at r
 induction r with
 | nil => rfl
 | cons h t ih => rw [List.map_cons, List.map_cons, ih, h.1]
theorem KV.length {kvs : List (κ × V)} {vs : List (κ × Value)} (r : KV kvs vs) : kvs.length = vs.length := Paired.length r
end
noncomputable abbrev KT (H : Hp) : List (List Key × V) → List (List Key × Addr × Value) → Prop := Paired fun p q => p.1 = q.1 ∧ H q.2.1 = some (.tup (p.1.map kV)) ∧ RelV p.2 q.2.2
theorem KT.val {H : Hp} {kvs : List (List Key × V)} {xs : List (List Key × Addr × Value)} (r : KT H kvs xs) (k : List Key) : RelO (valV kvs k) ((atKey xs k).map (·.2)) := by
 induction r with
 | nil => exact True.intro
 | @cons p q ps qs h t ih =>
  obtain ⟨h1, _, h2⟩ := h
  by_cases e : p.1 = k
  ·have e' : q.1 = k := h1.symm.trans e
   have b : atKey (q :: qs) k = some q.2 := by simp [atKey, List.find?_cons, e']
   rw [Zce e, b]; exact h2
  ·have e' : ¬ q.1 = k := fun z => e (h1.trans z)
   have b : atKey (q :: qs) k = atKey qs k := by simp [atKey, List.find?_cons, e']
   rw [Zcd e, b]; exact ih
theorem KT.repl {H : Hp} {kvs : List (List Key × V)} {xs : List (List Key × Addr × Value)} (r : KT H kvs xs) (k : List Key) {y : V} {u : Value} (ry : RelV y u) :
  KT H (kvs.map fun kv => if kv.1 = k then (kv.1, y) else kv) (xs.map (putAt k u)) := by
 induction r with
 | nil => exact .nil
 | @cons p q ps qs h t ih =>
  rw [List.map_cons, List.map_cons]
  refine .cons ?_ ih
  obtain ⟨h1, h2, h3⟩ := h
  unfold putAt
  by_cases e : p.1 = k
  ·rw [if_pos e, if_pos (h1.symm.trans e)]; exact ⟨h1, h2, ry⟩
  ·rw [if_neg e, if_neg (fun z => e (h1.trans z))]; exact ⟨h1, h2, h3⟩
theorem KT.put {H : Hp} {kvs : List (List Key × V)} {xs : List (List Key × Addr × Value)} (r : KT H kvs xs) (k : List Key) {b : Addr} {y : V} {u : Value} (hb : H b = some (.tup (k.map kV))) (ry : RelV y u) :
  KT H (putK kvs k y) (storedH xs k b u) := by
 have e : (kvs.any fun kv => decide (kv.1 = k)) = (atKey xs k).isSome := by
  rw [Zfd, (r.val k).isSome_eq, Option.isSome_map]
 unfold putK storedH
 rw [e]
 by_cases q : (atKey xs k).isSome = true
 ·rw [if_pos q, if_pos q]; exact r.repl k ry
 ·rw [if_neg q, if_neg q]; exact Paired.snoc r ⟨rfl, hb, ry⟩
theorem KT.keeps {H H' : Hp} {kvs : List (List Key × V)} {xs : List (List Key × Addr × Value)} (r : KT H kvs xs) (ht : ∀ b ys, H b = some (.tup ys) → H' b = some (.tup ys)) : KT H' kvs xs :=
 Paired.mapP r fun _ _ z => ⟨z.1, ht _ _ z.2.1, z.2.2⟩
section
variable {P : Program} {w : World} {H : Hp} {h : Heap} {a : Addr}
end
noncomputable def DGet (H : Hp) (a : Addr) (y : V) (r : Option V) : Prop :=
 (∃ kvs k, Rd H a (.dK kvs) ∧ y = kV k ∧ r = valV kvs k) ∨ ∃ kvs k b, Rd H a (.dT kvs) ∧ y = .ref b ∧ H b = some (.tup (k.map kV)) ∧ r = valV kvs k
noncomputable def DPut (H : Hp) (a : Addr) (y v : V) (H' : Hp) : Prop :=
 (∃ kvs k, H a = some (.dK kvs) ∧ y = kV k ∧ kvs.length < sizeLine ∧ H' = upd H a (.dK (putK kvs k v))) ∨
 ∃ kvs k b, H a = some (.dT kvs) ∧ y = .ref b ∧ H b = some (.tup (k.map kV)) ∧ kvs.length < sizeLine ∧ H' = upd H a (.dT (putK kvs k v))
theorem DGet.k {H : Hp} {a : Addr} {kvs : List (Key × V)} {k : Key} (e : H a = some (.dK kvs)) : DGet H a (kV k) (valV kvs k) := .inl ⟨kvs, k, .inl e, rfl, rfl⟩
theorem DGet.t {H : Hp} {a b : Addr} {kvs : List (List Key × V)} {k : List Key} (e : H a = some (.dT kvs)) (eb : H b = some (.tup (k.map kV))) : DGet H a (.ref b) (valV kvs k) := .inr ⟨kvs, k, b, .inl e, rfl, eb, rfl⟩
theorem DPut.k {H : Hp} {a : Addr} {kvs : List (Key × V)} {k : Key} {v : V} (e : H a = some (.dK kvs)) (hl : kvs.length < sizeLine) : DPut H a (kV k) v (upd H a (.dK (putK kvs k v))) := .inl ⟨kvs, k, e, rfl, hl, rfl⟩
theorem DPut.t {H : Hp} {a b : Addr} {kvs : List (List Key × V)} {k : List Key} {v : V} (e : H a = some (.dT kvs)) (eb : H b = some (.tup (k.map kV))) (hl : kvs.length < sizeLine) :
  DPut H a (.ref b) v (upd H a (.dT (putK kvs k v))) := .inr ⟨kvs, k, b, e, rfl, eb, hl, rfl⟩
section
variable {X : Cx} {pins : List (Addr × Obj)} {σ : St} {H : Hp} {s : Shared} {a : Addr} {y v : V} {u r : Value} {o : Option V} {A : Around} {E : Value → Shared → Prop}
end
section
variable {X : Cx} {pins : List (Addr × Obj)} {σ : St} {H : Hp} {s : Shared} {a : Addr} {kvs : List (Key × V)} {k : Key} {u : Value} {A : Around} {E : Value → Shared → Prop}
end
section
variable {X : Cx} {o i e value : Expr} {pos pos' tpos : Pos} {td ty tv : TE}
end
section
variable {X : Cx} {pos : Pos}
end
section
variable {X : Cx} {pins : List (Addr × Obj)} {σ : St} {H : Hp} {s : Shared} {a : Addr} {y d : V} {u r : Value} {o : Option V} {A : Around} {E : Value → Shared → Prop}
end
section
variable {X : Cx} {o e f : Expr} {apos cpos : Pos} {td ty tx : TE}
end
section
variable {X : Cx} {pins : List (Addr × Obj)} {σ : St} {H : Hp} {s : Shared} {a : Addr} {kvs : List (Key × V)} {A : Around} {E : Value → Shared → Prop}
end
section
variable {X : Cx} {pins : List (Addr × Obj)} {σ : St} {H : Hp} {s : Shared} {a : Addr} {y : V} {u : Value} {A : Around} {E : Value → Shared → Prop}
end
end L2
namespace L2
open PySem PySem.Spec PyProof.Rows
section
variable {κ : Type} [DecidableEq κ]
end
end L2
namespace L2
open PySem PySem.Spec PyProof.Rows
mutual
noncomputable def DW (K : PySem.W.Frag) (G : Hp) : PyData → V → Prop
 | .none, v => v = .non
 | .bool b, v => v = .bl b
 | .int i, v => v = .int i
 | .str x, v => v = .str x
 | .list ds, v => ∃ a xs, v = .ref a ∧ G a = some (.lst xs) ∧ DWs K G ds xs
 | .tuple ds, v => ∃ a xs, v = .ref a ∧ (G a = some (.tup xs) ∨ (ds = [] ∧ SqT K G a xs)) ∧ DWs K G ds xs
 | .dict kvs, v => ∃ a ks, v = .ref a ∧ G a = some (.dT ks) ∧ DWk K G kvs ks
noncomputable def DWs (K : PySem.W.Frag) (G : Hp) : List PyData → List V → Prop
 | [], xs => xs = []
 | d :: ds, xs => ∃ x r, xs = x :: r ∧ DW K G d x ∧ DWs K G ds r
noncomputable def DWk (K : PySem.W.Frag) (G : Hp) : List (PyData × PyData) → List (List Key × V) → Prop
 | [], ks => ks = []
 | (k, d) :: r, ks => ∃ (ns : List Int) (x : V) (t : List (List Key × V)), ks = (ns.map Sum.inl, x) :: t ∧ k = tI ns ∧ DW K G d x ∧ DWk K G r t
end
section
variable {K : PySem.W.Frag} {G G' H H' : Hp}
mutual
theorem DW.same (e : Same G G') : ∀ {d : PyData} {v : V}, DW K G d v → DW K G' d v
 | .none, _, h => by unfold DW at h ⊢; exact h
 | .bool _, _, h => by unfold DW at h ⊢; exact h
 | .int _, _, h => by unfold DW at h ⊢; exact h
 | .str _, _, h => by unfold DW at h ⊢; exact h
 | .list ds, _, h => by
  unfold DW at h ⊢
  obtain ⟨a, xs, q1, q2, q3⟩ := h
  exact ⟨a, xs, q1, e _ _ q2, DWs.same e q3⟩
 | .tuple ds, _, h => by
  unfold DW at h ⊢
  obtain ⟨a, xs, q1, q2, q3⟩ := h
  exact ⟨a, xs, q1, q2.imp (e _ _) (fun z => ⟨z.1, e.tup z.2⟩), DWs.same e q3⟩
 | .dict kvs, _, h => by
  unfold DW at h ⊢
  obtain ⟨a, ks, q1, q2, q3⟩ := h
  exact ⟨a, ks, q1, e _ _ q2, DWk.same e q3⟩
theorem DWs.same (e : Same G G') : ∀ {ds : List PyData} {xs : List V}, DWs K G ds xs → DWs K G' ds xs
 | [], _, h => by unfold DWs at h ⊢; exact h
 | d :: ds, _, h => by
  unfold DWs at h ⊢
  obtain ⟨x, r, q1, q2, q3⟩ := h
  exact ⟨x, r, q1, DW.same e q2, DWs.same e q3⟩
theorem DWk.same (e : Same G G') : ∀ {kvs : List (PyData × PyData)} {ks : List (List Key × V)}, DWk K G kvs ks → DWk K G' kvs ks
 | [], _, h => by unfold DWk at h ⊢; exact h
 | (k, d) :: r, _, h => by
  unfold DWk at h ⊢
  obtain ⟨ns, x, t, q0, q1, q2, q3⟩ := h
  exact ⟨ns, x, t, q0, q1, DW.same e q2, DWk.same e q3⟩
end
mutual
theorem DW.dv (e : Same G H) : ∀ {d : PyData} {v : V}, d.hasDict = false → DW K G d v → DV K H d v
 | .none, _, _, h => by unfold DW at h; unfold DV; exact h
 | .bool _, _, _, h => by unfold DW at h; unfold DV; exact h
 | .int _, _, _, h => by unfold DW at h; unfold DV; exact h
 | .str _, _, _, h => by unfold DW at h; unfold DV; exact h
 | .list ds, _, n, h => by
  unfold DW at h; unfold DV
  obtain ⟨a, xs, q1, q2, q3⟩ := h
  exact ⟨a, xs, q1, SqL.of (e _ _ q2), DWs.dv e (by simpa [PyData.hasDict] using n) q3⟩
 | .tuple ds, _, n, h => by
  unfold DW at h; unfold DV
  obtain ⟨a, xs, q1, q2, q3⟩ := h
  refine ⟨a, xs, q1, ?_, DWs.dv e (by simpa [PyData.hasDict] using n) q3⟩
  rcases q2 with q2 | ⟨_, q2⟩
  ·exact SqT.of (e _ _ q2)
  ·exact e.tup q2
 | .dict kvs, _, n, h => by simp [PyData.hasDict] at n
theorem DWs.dv (e : Same G H) : ∀ {ds : List PyData} {xs : List V}, PyData.hasDictAll ds = false → DWs K G ds xs → DVs K H ds xs
 | [], _, _, h => by unfold DWs at h; unfold DVs; exact h
 | d :: ds, _, n, h => by
  unfold DWs at h; unfold DVs
  obtain ⟨x, r, q1, q2, q3⟩ := h
  simp only [PyData.hasDictAll, Bool.or_eq_false_iff] at n
  exact ⟨x, r, q1, DW.dv e n.1 q2, DWs.dv e n.2 q3⟩
end
theorem DWs.nil : DWs K G [] [] := by unfold DWs; rfl
theorem DWs.cons {d : PyData} {ds : List PyData} {x : V} {xs : List V} (h : DW K G d x) (t : DWs K G ds xs) : DWs K G (d :: ds) (x :: xs) := by unfold DWs; exact ⟨x, xs, rfl, h, t⟩
theorem DWs.append : ∀ {ds es : List PyData} {xs ys : List V}, DWs K G ds xs → DWs K G es ys → DWs K G (ds ++ es) (xs ++ ys)
 | [], _, _, _, h, t => by unfold DWs at h; subst h; exact t
 | d :: ds, es, _, ys, h, t => by
  unfold DWs at h
  obtain ⟨x, r, q1, q2, q3⟩ := h
  subst q1
  exact DWs.cons q2 (DWs.append q3 t)
theorem DWs.snoc {ds : List PyData} {d : PyData} {xs : List V} {x : V} (h : DWs K G ds xs) (t : DW K G d x) : DWs K G (ds ++ [d]) (xs ++ [x]) := DWs.append h (DWs.cons t DWs.nil)
theorem DWs.length : ∀ {ds : List PyData} {xs : List V}, DWs K G ds xs → ds.length = xs.length
 | [], _, h => by unfold DWs at h; subst h; rfl
 | d :: ds, _, h => by
  unfold DWs at h
  obtain ⟨x, r, q1, q2, q3⟩ := h
  subst q1
  rw [List.length_cons, List.length_cons, DWs.length q3]
theorem DWs.get : ∀ {ds : List PyData} {xs : List V} {i : Nat} {x : V}, DWs K G ds xs → xs[i]? = some x → ∃ d, ds[i]? = some d ∧ DW K G d x
 | [], _, i, x, h, e => by unfold DWs at h; subst h; simp at e
 | d :: ds, _, 0, x, h, e => by
  unfold DWs at h
  obtain ⟨y, r, q1, q2, q3⟩ := h
  subst q1
  simp at e; subst e
  exact ⟨d, rfl, q2⟩
 | d :: ds, _, i + 1, x, h, e => by
  unfold DWs at h
  obtain ⟨y, r, q1, q2, q3⟩ := h
  subst q1
  obtain ⟨d', h1, h2⟩ := DWs.get (i := i) (x := x) q3 (by simpa using e)
  exact ⟨d', by simpa using h1, h2⟩
theorem DWs.get' : ∀ {ds : List PyData} {xs : List V} {i : Nat} {d : PyData}, DWs K G ds xs → ds[i]? = some d → ∃ x, xs[i]? = some x ∧ DW K G d x := by
 intro ds xs i d h e
 have hi : i < xs.length := by rw [← h.length]; exact (List.getElem?_eq_some_iff.mp e).1
 obtain ⟨d', e1, e2⟩ := h.get (gEq hi)
 rw [e] at e1; cases e1
 exact ⟨_, gEq hi, e2⟩
theorem DWs.take : ∀ {ds : List PyData} {xs : List V} (k : Nat), DWs K G ds xs → DWs K G (ds.take k) (xs.take k)
 | [], xs, k, h => by unfold DWs at h; subst h; simp; exact DWs.nil
 | d :: ds, xs, 0, h => by simp; exact DWs.nil
 | d :: ds, xs, k + 1, h => by
  unfold DWs at h
  obtain ⟨x, r, rfl, h1, h2⟩ := h
  exact DWs.cons h1 (DWs.take k h2)
theorem DWs.drop : ∀ {ds : List PyData} {xs : List V} (k : Nat), DWs K G ds xs → DWs K G (ds.drop k) (xs.drop k)
 | [], xs, k, h => by unfold DWs at h; subst h; simp; exact DWs.nil
 | d :: ds, xs, 0, h => h
 | d :: ds, xs, k + 1, h => by
  unfold DWs at h
  obtain ⟨x, r, rfl, h1, h2⟩ := h
  exact DWs.drop k h2
theorem DWs.reverse : ∀ {ds : List PyData} {xs : List V}, DWs K G ds xs → DWs K G ds.reverse xs.reverse
 | [], xs, h => by unfold DWs at h; subst h; exact DWs.nil
 | d :: ds, xs, h => by
  unfold DWs at h
  obtain ⟨x, r, rfl, h1, h2⟩ := h
  rw [List.reverse_cons, List.reverse_cons]
  exact DWs.snoc (DWs.reverse h2) h1
theorem DWs.ints : ∀ ns : List Int, DWs K G (ns.map .int) (ns.map .int)
 | [] => by unfold DWs; rfl
 | n :: r => by unfold DWs; exact ⟨_, _, rfl, by unfold DW; rfl, DWs.ints r⟩
theorem DWs.bools_inv : ∀ {ns : List Bool} {xs : List V}, DWs K G (ns.map .bool) xs → xs = ns.map V.bl
 | [], xs, h => by unfold DWs at h; exact h
 | n :: r, xs, h => by
  rw [List.map_cons] at h
  unfold DWs at h
  obtain ⟨x, t, rfl, h1, h2⟩ := h
  unfold DW at h1
  rw [h1, DWs.bools_inv h2]; rfl
theorem DW.list {a : Addr} {xs : List V} {ds : List PyData} (h : G a = some (.lst xs)) (t : DWs K G ds xs) : DW K G (.list ds) (.ref a) := by unfold DW; exact ⟨a, xs, rfl, h, t⟩
theorem DW.tup {a : Addr} {xs : List V} {ds : List PyData} (h : G a = some (.tup xs)) (t : DWs K G ds xs) : DW K G (.tuple ds) (.ref a) := by unfold DW; exact ⟨a, xs, rfl, .inl h, t⟩
theorem DW.tup_inv {v : V} {ds : List PyData} (h : DW K G (.tuple ds) v) : ∃ a xs, v = .ref a ∧ SqT K G a xs ∧ DWs K G ds xs := by
 unfold DW at h
 obtain ⟨a, xs, q1, q2, q3⟩ := h
 refine ⟨a, xs, q1, ?_, q3⟩
 rcases q2 with q2 | ⟨_, q2⟩
 ·exact SqT.of q2
 ·exact q2
theorem DW.list_inv {v : V} {ds : List PyData} (h : DW K G (.list ds) v) : ∃ a xs, v = .ref a ∧ G a = some (.lst xs) ∧ DWs K G ds xs := by
 unfold DW at h; exact h
theorem DW.int {i : Int} : DW K G (.int i) (.int i) := by unfold DW; rfl
theorem DW.bool {i : Bool} : DW K G (.bool i) (.bl i) := by unfold DW; rfl
theorem DW.str {i : Str} : DW K G (.str i) (.str i) := by unfold DW; rfl
theorem DW.none : DW K G .none .non := by unfold DW; rfl
theorem DW.int_inv {i : Int} {v : V} (h : DW K G (.int i) v) : v = .int i := by unfold DW at h; exact h
theorem DW.bool_inv {i : Bool} {v : V} (h : DW K G (.bool i) v) : v = .bl i := by unfold DW at h; exact h
theorem DW.str_inv {i : Str} {v : V} (h : DW K G (.str i) v) : v = .str i := by unfold DW at h; exact h
theorem DW.none_inv {v : V} (h : DW K G .none v) : v = .non := by unfold DW at h; exact h
end
inductive Val where
 | d (x : PyData) | own (a : Addr) | raw (v : V) | scr (ns : List Int)
inductive Own where
 | lst (ds : List PyData) | urn (m : Nat) | dct (kvs : List (List Int × PyData))
noncomputable abbrev OW := Addr → Option Own
noncomputable def OW.put (w : OW) (a : Addr) (o : Own) : OW := fun b => if b = a then some o else w b
theorem OW.put_same {w : OW} {a : Addr} {o : Own} : w.put a o a = some o := by simp [OW.put]
theorem OW.put_ne {w : OW} {a b : Addr} {o : Own} (h : b ≠ a) : w.put a o b = w b := by simp [OW.put, h]
theorem OW.put_put {w : OW} {a : Addr} {o u : Own} : (w.put a o).put a u = w.put a u := by
 funext b; unfold OW.put; split <;> rfl
structure DS where
 e : List (Option Val)
 w : OW
noncomputable def DS.put (s : DS) (a : Addr) (o : Own) : DS := ⟨s.e, s.w.put a o⟩
noncomputable def DS.set (s : DS) (i : Nat) (v : Val) : DS := ⟨s.e.set i (some v), s.w⟩
noncomputable def VR (K : PySem.W.Frag) (G : Hp) : Val → V → Prop
 | .d x, v => DW K G x v
 | .own a, v => v = .ref a
 | .raw u, v => v = u
 | .scr ns, v => ∃ a, v = .ref a ∧ SqL K G a (ns.map V.int)
noncomputable def kvK (kvs : List (List Int × PyData)) : List (PyData × PyData) := kvs.map fun p => (tI p.1, p.2)
noncomputable def OwnAt (K : PySem.W.Frag) (G H : Hp) (a : Addr) : Own → Prop
 | .lst ds => ∃ xs, H a = some (.lst xs) ∧ DWs K G ds xs
 | .urn m => Urn H a m
 | .dct kvs => ∃ ks, H a = some (.dT ks) ∧ DWk K G (kvK kvs) ks
noncomputable def OwnOk (K : PySem.W.Frag) (G : Hp) (w : OW) (H : Hp) : Prop := ∀ a o, w a = some o → G a = none ∧ OwnAt K G H a o
noncomputable def SL (K : PySem.W.Frag) (G : Hp) (e : List (Option Val)) (σ : St) : Prop := e.length = σ.length ∧ ∀ (i : Nat) (v : Val), e[i]? = some (some v) → ∃ x, σ[i]? = some (some x) ∧ VR K G v x
structure Rel (K : PySem.W.Frag) (G : Hp) (s : DS) (σ : St) (H : Hp) : Prop where
 sub : Same G H
 own : OwnOk K G s.w H
 sl : SL K G s.e σ
section
variable {K : PySem.W.Frag} {G G' H H' : Hp} {s : DS} {σ : St}
theorem VR.same (e : Same G G') : ∀ {v : Val} {x : V}, VR K G v x → VR K G' v x
 | .d _, _, h => DW.same e h
 | .own _, _, h => h
 | .raw _, _, h => h
 | .scr _, _, ⟨a, h1, h2⟩ => ⟨a, h1, e.seq h2⟩
theorem SL.same {e : List (Option Val)} (q : Same G G') (h : SL K G e σ) : SL K G' e σ := ⟨h.1, fun i v z => by
 obtain ⟨x, h1, h2⟩ := h.2 i v z
 exact ⟨x, h1, h2.same q⟩⟩
theorem SL.set {e : List (Option Val)} {v : Val} {x : V} (h : SL K G e σ) (r : VR K G v x) (i : Nat) : SL K G (e.set i (some v)) (σ.set i (some x)) := by
 refine ⟨by simp [h.1], fun j u z => ?_⟩
 by_cases hj : i = j
 ·subst hj
  have hl : i < e.length := by
   have := (List.getElem?_eq_some_iff.mp z).1
   simpa using this
  rw [List.getElem?_set_self hl] at z
  cases z
  exact ⟨x, by rw [List.getElem?_set_self (by rw [← h.1]; exact hl)], r⟩
 ·rw [List.getElem?_set_ne hj] at z ⊢
  exact h.2 j u z
theorem OwnAt.there {a : Addr} : ∀ {o : Own}, OwnAt K G H a o → ∃ u, H a = some u
 | .lst _, ⟨xs, h, _⟩ => ⟨_, h⟩
 | .urn _, ⟨_, _, _, h, _⟩ => ⟨_, h⟩
 | .dct _, ⟨ks, h, _⟩ => ⟨_, h⟩
theorem OwnAt.mono {a : Addr} (e : Same G G') (q : H' a = H a) : ∀ {o : Own}, OwnAt K G H a o → OwnAt K G' H' a o
 | .lst _, ⟨xs, h, d⟩ => ⟨xs, q ▸ h, d.same e⟩
 | .urn _, ⟨g, c, n, h, r⟩ => ⟨g, c, n, q ▸ h, r⟩
 | .dct _, ⟨ks, h, d⟩ => ⟨ks, q ▸ h, DWk.same e d⟩
theorem Rel.free (r : Rel K G s σ H) {p : Addr} (h : H p = none) : s.w p = none := by
 cases e : s.w p with
 | none => rfl
 | some o =>
  obtain ⟨u, hu⟩ := (r.own p o e).2.there
  rw [h] at hu; cases hu
theorem OwnOk.mono {w : OW} (h : OwnOk K G w H) (e : Same G G') (k : ∀ a o, w a = some o → G' a = none ∧ H' a = H a) : OwnOk K G' w H' := fun a o q => ⟨(k a o q).1, (h a o q).2.mono e (k a o q).2⟩
theorem Rel.new (r : Rel K G s σ H) {p : Addr} (h : H p = none) (o : HO) : Rel K (upd G p o) s σ (upd H p o) := by
 have hg : G p = none := r.sub.free h
 refine ⟨fun b u q => ?_, r.own.mono (Zb9 hg o) fun a u q => ?_, r.sl.same (Zb9 hg o)⟩
 ·by_cases z : b = p
  ·subst z; rw [Zar] at q ⊢; exact q
  ·rw [Zak z] at q ⊢; exact r.sub _ _ q
 ·have na : a ≠ p := fun z => by
   obtain ⟨v, hv⟩ := (r.own a u q).2.there
   rw [z, h] at hv; cases hv
  exact ⟨by rw [Zak na]; exact (r.own a u q).1, Zak na⟩
theorem Rel.newOwn (r : Rel K G s σ H) {p : Addr} (h : H p = none) {o : HO} {u : Own} (at' : OwnAt K G (upd H p o) p u) : Rel K G (s.put p u) σ (upd H p o) := by
 refine ⟨fun b v q => ?_, fun a v q => ?_, r.sl⟩
 ·have nb : b ≠ p := fun z => by rw [z] at q; rw [r.sub.free h] at q; cases q
  rw [Zak nb]; exact r.sub _ _ q
 ·by_cases z : a = p
  ·subst z
   have q' : s.w.put a u a = some v := q
   rw [OW.put_same] at q'; cases q'
   exact ⟨r.sub.free h, at'⟩
  ·have q' : s.w.put p u a = some v := q
   rw [OW.put_ne z] at q'
   exact ⟨(r.own a v q').1, (r.own a v q').2.mono (Same.refl G) (Zak z)⟩
theorem Rel.chg (r : Rel K G s σ H) {p : Addr} {o0 : Own} (h : s.w p = some o0) {o : HO} {u : Own} (at' : OwnAt K G (upd H p o) p u) : Rel K G (s.put p u) σ (upd H p o) := by
 refine ⟨fun b v q => ?_, fun a v q => ?_, r.sl⟩
 ·have nb : b ≠ p := fun z => by rw [z] at q; rw [(r.own p o0 h).1] at q; cases q
  rw [Zak nb]; exact r.sub _ _ q
 ·by_cases z : a = p
  ·subst z
   have q' : s.w.put a u a = some v := q
   rw [OW.put_same] at q'; cases q'
   exact ⟨(r.own a o0 h).1, at'⟩
  ·have q' : s.w.put p u a = some v := q
   rw [OW.put_ne z] at q'
   exact ⟨(r.own a v q').1, (r.own a v q').2.mono (Same.refl G) (Zak z)⟩
theorem Rel.set (r : Rel K G s σ H) {v : Val} {x : V} (q : VR K G v x) (i : Nat) : Rel K G (s.set i v) (σ.set i (some x)) H := ⟨r.sub, r.own, r.sl.set q i⟩
theorem Rel.env (r : Rel K G s σ H) {e : List (Option Val)} {σ' : St} (q : SL K G e σ') : Rel K G ⟨e, s.w⟩ σ' H := ⟨r.sub, r.own, q⟩
theorem SL.capt {e : List (Option Val)} (h : SL K G e σ) (cap : List (Option Nat)) : SL K G (cap.map fun o => o.bind fun j => (e[j]?).join) (capt cap σ) := by
 refine ⟨by simp [L2.capt], fun i v z => ?_⟩
 rw [List.getElem?_map] at z
 cases q : cap[i]? with
 | none => rw [q] at z; cases z
 | some o =>
  rw [q] at z
  simp only [Option.map_some, Option.some.injEq] at z
  cases o with
  | none => cases z
  | some j =>
   simp only [Option.bind_some] at z
   have z' : e[j]? = some (some v) := by
    cases q2 : e[j]? with
    | none => rw [q2] at z; cases z
    | some u => rw [q2] at z; simp at z; rw [z]
   obtain ⟨x, h1, h2⟩ := h.2 j v z'
   refine ⟨x, ?_, h2⟩
   unfold L2.capt
   rw [List.getElem?_map, q]
   simp [h1]
end
noncomputable def captD (cap : List (Option Nat)) (e : List (Option Val)) : List (Option Val) := cap.map fun o => o.bind fun j => (e[j]?).join
noncomputable abbrev DK := Val → DS → Prop
noncomputable abbrev DTE := DS → DK → Prop
noncomputable abbrev DTT := DS → (Bool → DS → Prop) → Prop
noncomputable abbrev DTA := DS → (List Val → DS → Prop) → Prop
noncomputable abbrev DTI := DS → (List PyData × (OW → Prop) → DS → Prop) → Prop
noncomputable abbrev DTG := Val → DS → (DS → Prop) → Prop
noncomputable abbrev DTL := List PyData → DS → (List PyData → DS → Prop) → Prop
noncomputable def Po (K : PySem.W.Frag) (G : Hp) (σ : St) (Q : VK) : DK := fun v s => ∀ G' H' x, Same G G' → Rel K G' s σ H' → VR K G' v x → Q x H'
noncomputable def PoT (K : PySem.W.Frag) (G : Hp) (σ : St) (Q : Bool → Hp → Prop) : Bool → DS → Prop := fun b s => ∀ G' H', Same G G' → Rel K G' s σ H' → Q b H'
inductive VRs (K : PySem.W.Frag) (G : Hp) : List Val → List V → Prop
 | nil : VRs K G [] []
 | cons {v x vs xs} : VR K G v x → VRs K G vs xs → VRs K G (v :: vs) (x :: xs)
theorem VRs.same {K : PySem.W.Frag} {G G' : Hp} (e : Same G G') : ∀ {vs : List Val} {xs : List V}, VRs K G vs xs → VRs K G' vs xs
 | _, _, .nil => .nil
 | _, _, .cons h t => .cons (h.same e) (VRs.same e t)
theorem VRs.length {K : PySem.W.Frag} {G : Hp} : ∀ {vs : List Val} {xs : List V}, VRs K G vs xs → vs.length = xs.length
 | _, _, .nil => rfl
 | _, _, .cons h t => by rw [List.length_cons, List.length_cons, VRs.length t]
noncomputable def PoA (K : PySem.W.Frag) (G : Hp) (σ : St) (Q : List V → Hp → Prop) : List Val → DS → Prop := fun vs s => ∀ G' H' xs, Same G G' → Rel K G' s σ H' → VRs K G' vs xs → Q xs H'
noncomputable def Mo {α : Type} (d : DS → (α → DS → Prop) → Prop) : Prop := ∀ s Q Q', (∀ v s', Q v s' → Q' v s') → d s Q → d s Q'
structure RE (K : PySem.W.Frag) (t : TE) (d : DTE) : Prop where
 mo : Mo d
 ok : ∀ G s σ H Q, Rel K G s σ H → d s (Po K G σ Q) → t σ H Q
structure RT (K : PySem.W.Frag) (t : TT) (d : DTT) : Prop where
 mo : Mo d
 ok : ∀ G s σ H Q, Rel K G s σ H → d s (PoT K G σ Q) → t σ H Q
structure RA (K : PySem.W.Frag) (t : TA) (d : DTA) : Prop where
 mo : Mo d
 ok : ∀ G s σ H Q, Rel K G s σ H → d s (PoA K G σ Q) → t σ H Q
structure DEnds where
 nx : DS → Prop
 rt : DK
 bk : DS → Prop := fun _ => False
 ct : DS → Prop := fun _ => False
noncomputable abbrev DTS := DEnds → DS → Prop
structure PoS (K : PySem.W.Frag) (G : Hp) (D : Ends) (E : DEnds) : Prop where
 nx : ∀ s' G' σ' H', Same G G' → Rel K G' s' σ' H' → E.nx s' → D.nx σ' H'
 rt : ∀ v s' G' σ' H' x, Same G G' → Rel K G' s' σ' H' → VR K G' v x → E.rt v s' → D.rt x H'
 bk : ∀ s' G' σ' H', Same G G' → Rel K G' s' σ' H' → E.bk s' → D.bk σ' H'
 ct : ∀ s' G' σ' H', Same G G' → Rel K G' s' σ' H' → E.ct s' → D.ct σ' H'
theorem PoS.same {K : PySem.W.Frag} {G G' : Hp} {D : Ends} {E : DEnds} (h : PoS K G D E) (e : Same G G') : PoS K G' D E :=
 ⟨fun s' G2 σ' H' q => h.nx s' G2 σ' H' (e.trans q), fun v s' G2 σ' H' x q => h.rt v s' G2 σ' H' x (e.trans q), fun s' G2 σ' H' q => h.bk s' G2 σ' H' (e.trans q), fun s' G2 σ' H' q => h.ct s' G2 σ' H' (e.trans q)⟩
noncomputable def RS (K : PySem.W.Frag) (t : TS) (d : DTS) : Prop := ∀ G s σ H D E, Rel K G s σ H → PoS K G D E → d E s → t D σ H
structure RG (K : PySem.W.Frag) (g : TG) (d : DTG) : Prop where
 mo : ∀ v s (Q Q' : DS → Prop), (∀ s', Q s' → Q' s') → d v s Q → d v s Q'
 ok : ∀ G s σ H v x Q, Rel K G s σ H → VR K G v x → d v s (fun s' => ∀ G' σ' H', Same G G' → Rel K G' s' σ' H' → Q σ' H') → g x σ H Q
noncomputable def JOk (K : PySem.W.Frag) (J : It) (G0 : Hp) (P : OW → Prop) (ds : List PyData) : Prop := ∀ G s σ H i, Same G0 G → P s.w → Rel K G s σ H →
 (∀ d, ds[i]? = some d → J.go i H ∧ ∀ x H', J.yld i H x H' → ∃ G', Same G G' ∧ Rel K G' s σ H' ∧ DW K G' d x) ∧ (ds.length ≤ i → J.stop i H)
structure RI (K : PySem.W.Frag) (t : TI) (d : DTI) : Prop where
 mo : Mo d
 ok : ∀ G s σ H (R : It → Hp → Prop), Rel K G s σ H → d s (fun ds s' => ∀ G' H' J, Same G G' → Rel K G' s' σ H' → JOk K J G' ds.2 ds.1 → R J H') → t σ H R
structure RL (K : PySem.W.Frag) (t : TL) (d : DTL) : Prop where
 mo : ∀ acc s (Q Q' : List PyData → DS → Prop), (∀ v s', Q v s' → Q' v s') → d acc s Q → d acc s Q'
 ok : ∀ G s σ H acc ys (Q : LK), Rel K G s σ H → DWs K G acc ys → acc.length < sizeLine → d acc s (fun acc' s' => ∀ G' σ' H' ys', Same G G' → Rel K G' s' σ' H' → DWs K G' acc' ys' → Q ys' σ' H') → t ys σ H Q
end L2
namespace L2
open PySem PySem.Spec PyProof.Rows
section
variable {K : PySem.W.Frag} {G G' H H' : Hp} {s : DS} {σ : St}
theorem Po.same {Q : VK} {v : Val} (h : Po K G σ Q v s) (e : Same G G') : Po K G' σ Q v s := fun G2 H2 x e2 => h G2 H2 x (e.trans e2)
theorem PoT.same {Q : Bool → Hp → Prop} {v : Bool} (h : PoT K G σ Q v s) (e : Same G G') : PoT K G' σ Q v s := fun G2 H2 e2 => h G2 H2 (e.trans e2)
theorem PoA.same {Q : List V → Hp → Prop} {v : List Val} (h : PoA K G σ Q v s) (e : Same G G') : PoA K G' σ Q v s := fun G2 H2 x e2 => h G2 H2 x (e.trans e2)
theorem Po.here {Q : VK} {v : Val} {x : V} (h : Po K G σ Q v s) (r : Rel K G s σ H) (q : VR K G v x) : Q x H := h G H x (Same.refl G) r q
theorem Zcy {i : Int} : VR K G (.d (.int i)) (.int i) := by unfold VR; exact DW.int
theorem Zet {i : Bool} : VR K G (.d (.bool i)) (.bl i) := by unfold VR; exact DW.bool
theorem Zkv {i : Str} : VR K G (.d (.str i)) (.str i) := by unfold VR; exact DW.str
theorem Zff : VR K G (.d .none) .non := by unfold VR; exact DW.none
theorem Zax {i : Int} {x : V} (h : VR K G (.d (.int i)) x) : x = .int i := by unfold VR at h; exact DW.int_inv h
theorem Zi6 {i : Bool} {x : V} (h : VR K G (.d (.bool i)) x) : x = .bl i := by unfold VR at h; exact DW.bool_inv h
theorem Ze8 {i : Str} {x : V} (h : VR K G (.d (.str i)) x) : x = .str i := by unfold VR at h; exact DW.str_inv h
theorem Zfe {ds : List PyData} {v : V} (h : VR K G (.d (.list ds)) v) : ∃ a xs, v = .ref a ∧ G a = some (.lst xs) ∧ DWs K G ds xs := by unfold VR at h; exact DW.list_inv h
theorem Zh8 {ds : List PyData} {v : V} (h : VR K G (.d (.tuple ds)) v) : ∃ a xs, v = .ref a ∧ SqT K G a xs ∧ DWs K G ds xs := by unfold VR at h; exact DW.tup_inv h
noncomputable def dVar (i : Nat) : DTE := fun s k => match s.e[i]? with | some (some v) => k v s | _ => False
theorem Zai (i : Nat) : RE K (tVar i) (dVar i) := by
 refine ⟨fun s Q Q' h q => ?_, fun G s σ H Q r h => ?_⟩
 ·unfold dVar at q ⊢
  split at q
  ·exact h _ _ q
  ·exact q.elim
 ·unfold dVar at h
  split at h
  ·next v e =>
   obtain ⟨x, h1, h2⟩ := r.sl.2 i v e
   exact ⟨x, h1, h.here r h2⟩
  ·exact h.elim
noncomputable def dC (v : Val) : DTE := fun s k => k v s
theorem re_c {v : Val} {x : V} (h : ∀ G, VR K G v x) : RE K (tC x) (dC v) := ⟨fun s Q Q' h q => h _ _ q, fun G s σ H Q r q => Po.here q r (h G)⟩
theorem Zbl {i : Int} : RE K (tC (.int i)) (dC (.d (.int i))) := re_c fun _ => Zcy
theorem Zgw {i : Bool} : RE K (tC (.bl i)) (dC (.d (.bool i))) := re_c fun _ => Zet
theorem Zkm {n : String} : RE K (tC (.ty n)) (dC (.raw (.ty n))) := re_c fun _ => rfl
structure RO (K : PySem.W.Frag) (r : R2) (f : Val → Val → DTE) : Prop where
 mo : ∀ v w, Mo (f v w)
 ok : ∀ G s σ H x y v w Q, Rel K G s σ H → VR K G v x → VR K G w y → f v w s (Po K G σ Q) → r x y H Q
noncomputable def dOp (f : Val → Val → DTE) (da db : DTE) : DTE := fun s k => da s fun v s1 => db s1 fun w s2 => f v w s2 k
theorem Zdl {r : R2} {f : Val → Val → DTE} {ta tb : TE} {da db : DTE} (ho : RO K r f) (ha : RE K ta da) (hb : RE K tb db) : RE K (tOp r ta tb) (dOp f da db) := by
 refine ⟨fun s Q Q' h q => ha.mo _ _ _ (fun v s1 q1 => hb.mo _ _ _ (fun w s2 q2 => ho.mo v w _ _ _ h q2) q1) q, fun G s σ H Q r h => ?_⟩
 refine ha.ok G s σ H _ r (ha.mo _ _ _ (fun v s1 q G1 H1 x e1 r1 v1 => ?_) h)
 refine hb.ok G1 s1 σ H1 _ r1 (hb.mo _ _ _ (fun w s2 q2 G2 H2 y e2 r2 v2 => ?_) q)
 exact ho.ok G2 s2 σ H2 x y v w Q r2 (v1.same e2) v2 (ho.mo v w _ _ _ (fun u s3 q3 => q3.same (e1.trans e2)) q2)
structure RU (K : PySem.W.Frag) (r : V → Hp → VK → Prop) (f : Val → DTE) : Prop where
 mo : ∀ v, Mo (f v)
 ok : ∀ G s σ H x v Q, Rel K G s σ H → VR K G v x → f v s (Po K G σ Q) → r x H Q
noncomputable def dUn (f : Val → DTE) (da : DTE) : DTE := fun s k => da s fun v s1 => f v s1 k
theorem Zl7 {r : V → Hp → VK → Prop} {f : Val → DTE} {ta : TE} {da : DTE} (ho : RU K r f) (ha : RE K ta da) : RE K (tUn r ta) (dUn f da) := by
 refine ⟨fun s Q Q' h q => ha.mo _ _ _ (fun v s1 q1 => ho.mo v _ _ _ h q1) q, fun G s σ H Q r h => ?_⟩
 refine ha.ok G s σ H _ r (ha.mo _ _ _ (fun v s1 q G1 H1 x e1 r1 v1 => ?_) h)
 exact ho.ok G1 s1 σ H1 x v Q r1 v1 (ho.mo v _ _ _ (fun u s3 q3 => q3.same e1) q)
noncomputable def fU (g : Int → Int) : Val → DTE := fun v s k => match v with | .d (.int i) => k (.d (.int (g i))) s | _ => False
theorem ru_I {g : Int → Int} : RU K (rU fun i => .int (g i)) (fU g) := by
 refine ⟨fun v s Q Q' h q => ?_, fun G s σ H x v Q r v1 h => ?_⟩
 ·unfold fU at q ⊢; split at q
  ·exact h _ _ q
  ·exact q.elim
 ·unfold fU at h; split at h
  ·next i => exact ⟨i, Zax v1, h.here r Zcy⟩
  ·exact h.elim
noncomputable def fI (C : Int → Int → Prop) (g : Int → Int → Int) : Val → Val → DTE := fun v w s k => match v, w with | .d (.int i), .d (.int j) => C i j ∧ k (.d (.int (g i j))) s | _, _ => False
noncomputable def fI0 (g : Int → Int → Int) : Val → Val → DTE := fun v w s k => match v, w with | .d (.int i), .d (.int j) => k (.d (.int (g i j))) s | _, _ => False
noncomputable def fB0 (g : Int → Int → Bool) : Val → Val → DTE := fun v w s k => match v, w with | .d (.int i), .d (.int j) => k (.d (.bool (g i j))) s | _, _ => False
theorem Zjj {g : Int → Int → Int} : RO K (rI0 fun i j => .int (g i j)) (fI0 g) := by
 refine ⟨fun v w s Q Q' h q => ?_, fun G s σ H x y v w Q r v1 v2 h => ?_⟩
 ·unfold fI0 at q ⊢; split at q
  ·exact h _ _ q
  ·exact q.elim
 ·unfold fI0 at h; split at h
  ·next i j => exact ⟨i, j, Zax v1, Zax v2, h.here r Zcy⟩
  ·exact h.elim
noncomputable def fEq (neg : Bool) : Val → Val → DTE := fun v w s k => match v, w with
 | .d (.int i), .d (.int j) => k (.d (.bool (if neg then !decide (i = j) else decide (i = j)))) s
 | .d (.str i), .d (.str j) => k (.d (.bool (if neg then !decide (i = j) else decide (i = j)))) s
 | _, _ => False
theorem Zic (neg : Bool) (v w : Val) : Mo (fEq neg v w) := by
 intro s Q Q' h q
 unfold fEq at q ⊢; split at q
 ·exact h _ _ q
 ·exact h _ _ q
 ·exact q.elim
theorem Zey {i j : Int} : decide (V.int i = V.int j) = decide (i = j) := by simp
theorem Zez {i j : Str} : decide (V.str i = V.str j) = decide (i = j) := by simp
theorem Zl8 : RO K rEq (fEq false) := by
 refine ⟨Zic false, fun G s σ H x y v w Q r v1 v2 h => ?_⟩
 unfold fEq at h; split at h
 ·next i j =>
  rw [Zax v1, Zax v2]
  exact ⟨rfl, by rw [Zey]; exact h.here r Zet⟩
 ·next i j =>
  rw [Ze8 v1, Ze8 v2]
  exact ⟨rfl, by rw [Zez]; exact h.here r Zet⟩
 ·exact h.elim
theorem Zl9 : RO K rNe (fEq true) := by
 refine ⟨Zic true, fun G s σ H x y v w Q r v1 v2 h => ?_⟩
 unfold fEq at h; split at h
 ·next i j =>
  rw [Zax v1, Zax v2]
  exact ⟨rfl, by rw [Zey]; exact h.here r Zet⟩
 ·next i j =>
  rw [Ze8 v1, Ze8 v2]
  exact ⟨rfl, by rw [Zez]; exact h.here r Zet⟩
 ·exact h.elim
noncomputable def rdL (w : OW) : Val → Option (List PyData)
 | .d (.list ds) => some ds
 | .own a => match w a with | some (.lst ds) => some ds | _ => none
 | .scr ns => some (ns.map .int)
 | _ => none
noncomputable def rdT : Val → Option (List PyData)
 | .d (.tuple ds) => some ds
 | _ => none
noncomputable def rdA (w : OW) (v : Val) : Option (List PyData) := match rdT v with | some ds => some ds | none => rdL w v
theorem Rel.rdL (r : Rel K G s σ H) {v : Val} {x : V} {ds : List PyData} (q : VR K G v x) (h : L2.rdL s.w v = some ds) : ∃ a xs, x = .ref a ∧ SqL K H a xs ∧ DWs K G ds xs := by
 unfold L2.rdL at h
 split at h
 ·cases h
  obtain ⟨a, xs, rfl, h1, h2⟩ := Zfe q
  exact ⟨a, xs, rfl, SqL.of (r.sub _ _ h1), h2⟩
 ·next a =>
  cases (show x = .ref a from q)
  split at h
  ·next z =>
   cases h
   obtain ⟨_, xs, h1, h2⟩ := r.own a _ z
   exact ⟨a, xs, rfl, SqL.of h1, h2⟩
  ·cases h
 ·next ns =>
  cases h
  obtain ⟨a, e, h1⟩ := q
  exact ⟨a, _, e, r.sub.seq h1, DWs.ints ns⟩
 ·cases h
theorem Rel.rdT (r : Rel K G s σ H) {v : Val} {x : V} {ds : List PyData} (q : VR K G v x) (h : L2.rdT v = some ds) : ∃ a xs, x = .ref a ∧ SqT K H a xs ∧ DWs K G ds xs := by
 unfold L2.rdT at h
 split at h
 ·cases h
  obtain ⟨a, xs, rfl, h1, h2⟩ := Zh8 q
  exact ⟨a, xs, rfl, r.sub.tup h1, h2⟩
 ·cases h
theorem Rel.rdA (r : Rel K G s σ H) {v : Val} {x : V} {ds : List PyData} (q : VR K G v x) (h : L2.rdA s.w v = some ds) : ∃ a xs, x = .ref a ∧ (SqL K H a xs ∨ SqT K H a xs) ∧ DWs K G ds xs := by
 unfold L2.rdA at h
 split at h
 ·next z =>
  cases h
  obtain ⟨a, xs, e, h1, h2⟩ := r.rdT q z
  exact ⟨a, xs, e, .inr h1, h2⟩
 ·obtain ⟨a, xs, e, h1, h2⟩ := r.rdL q h
  exact ⟨a, xs, e, .inl h1, h2⟩
noncomputable def rdD (w : OW) (v : Val) : Option PyData := match v with | .d x => some x | .own a => (match w a with | some (.lst ds) => some (.list ds) | _ => none) | _ => none
theorem Rel.rdD (r : Rel K G s σ H) {v : Val} {x : V} {d : PyData} (q : VR K G v x) (h : L2.rdD s.w v = some d) (n : d.hasDict = false) : DV K H d x := by
 unfold L2.rdD at h
 split at h
 ·cases h; exact DW.dv r.sub n q
 ·next a =>
  split at h
  ·next z =>
   cases h
   cases (show x = .ref a from q)
   obtain ⟨_, xs, h1, h2⟩ := r.own a _ z
   exact DV.list (SqL.of h1) (DWs.dv r.sub (by simpa [PyData.hasDict] using n) h2)
  ·cases h
 ·cases h
noncomputable def fEqD (neg : Bool) : Val → Val → DTE := fun v w s k => match rdD s.w v, rdD s.w w with
 | some x, some y => (x.hasDict = false ∧ y.hasDict = false ∧ SeqAt.shaped x = true ∧ SeqAt.shaped y = true) ∧ k (.d (.bool (if neg then !PyData.eqv x y else PyData.eqv x y))) s
 | _, _ => False
noncomputable def fInD (neg : Bool) : Val → Val → DTE := fun v w s k => match rdD s.w v, rdA s.w w with
 | some x, some ds => (x.hasDict = false ∧ PyData.hasDictAll ds = false ∧ x.canLay0 = true ∧ PyData.canLayAll0 ds = true ∧ x.depth ≤ 30) ∧ k (.d (.bool (if neg then !ds.any (fun y => PyData.eqv y x) else ds.any (fun y => PyData.eqv y x)))) s
 | _, _ => False
theorem DWs.atI {ds : List PyData} {xs : List V} {i : Int} {d : PyData} (h : DWs K G ds xs) (e : L2.atI ds i = some d) : ∃ x, L2.atI xs i = some x ∧ DW K G d x := by
 unfold L2.atI at e ⊢
 rw [h.length] at e
 cases q : ixN xs.length i with
 | none => rw [q] at e; cases e
 | some j =>
  rw [q] at e
  obtain ⟨x, h1, h2⟩ := h.get' (i := j) (d := d) e
  exact ⟨x, h1, h2⟩
noncomputable def fIxL : Val → Val → DTE := fun v w s k => match rdL s.w v, w with
 | some ds, .d (.int i) => ∃ d, atI ds i = some d ∧ k (.d d) s
 | _, _ => False
noncomputable def fIxT : Val → Val → DTE := fun v w s k => match rdT v, w with
 | some ds, .d (.int i) => ∃ d, atI ds i = some d ∧ k (.d d) s
 | _, _ => False
theorem Zkp : RO K (rIxT K) fIxT := by
 refine ⟨fun v w s Q Q' h q => ?_, fun G s σ H x y v w Q r v1 v2 h => ?_⟩
 ·unfold fIxT at q ⊢; split at q
  ·obtain ⟨d, e, q⟩ := q; exact ⟨d, e, h _ _ q⟩
  ·exact q.elim
 ·unfold fIxT at h; split at h
  ·next ds i e1 =>
   obtain ⟨d, e, h⟩ := h
   obtain ⟨p, ys, rfl, h1, h2⟩ := r.rdT v1 e1
   obtain ⟨z, h3, h4⟩ := h2.atI e
   exact ⟨p, ys, i, z, rfl, Zax v2, h1, h3, h.here r h4⟩
  ·exact h.elim
noncomputable def nl (o : Bool) (ds : List PyData) (s : DS) (k : DK) : Prop := match o with
 | true => ∀ p, s.w p = none → k (.own p) (s.put p (.lst ds))
 | false => k (.d (.list ds)) s
theorem Zfv {o : Bool} {ds : List PyData} {s : DS} {k k' : DK} (h : ∀ v s', k v s' → k' v s') (q : nl o ds s k) : nl o ds s k' := by
 cases o
 ·exact h _ _ q
 ·exact fun p hp => h _ _ (q p hp)
theorem Rel.nl (r : Rel K G s σ H) {o : Bool} {ds : List PyData} {xs : List V} {Q : VK} (D : DWs K G ds xs) (h : L2.nl o ds s (Po K G σ Q)) : ∀ p, H p = none → Q (.ref p) (upd H p (.lst xs)) := by
 intro p hp
 have hg : G p = none := r.sub.free hp
 have S := Zb9 hg (.lst xs)
 cases o
 ·exact h (upd G p (.lst xs)) (upd H p (.lst xs)) (.ref p) S (r.new hp _) (DW.list Zar (D.same S))
 ·exact h p (r.free hp) G (upd H p (.lst xs)) (.ref p) (Same.refl G) (r.newOwn hp ⟨xs, Zar, D⟩) rfl
theorem Rel.nt (r : Rel K G s σ H) {ds : List PyData} {xs : List V} {Q : VK} (D : DWs K G ds xs) (h : Po K G σ Q (.d (.tuple ds)) s) : ∀ p, H p = none → Q (.ref p) (upd H p (.tup xs)) := by
 intro p hp
 have hg : G p = none := r.sub.free hp
 have S := Zb9 hg (.tup xs)
 exact h (upd G p (.tup xs)) (upd H p (.tup xs)) (.ref p) S (r.new hp _) (DW.tup Zar (D.same S))
noncomputable def rdM (w : OW) : Val → Option (List PyData)
 | .d (.list ds) => some ds
 | .own a => match w a with | some (.lst ds) => some ds | _ => none
 | _ => none
theorem Rel.rdM (r : Rel K G s σ H) {v : Val} {x : V} {ds : List PyData} (q : VR K G v x) (h : L2.rdM s.w v = some ds) : ∃ a xs, x = .ref a ∧ H a = some (.lst xs) ∧ DWs K G ds xs := by
 unfold L2.rdM at h
 split at h
 ·cases h
  obtain ⟨a, xs, rfl, h1, h2⟩ := Zfe q
  exact ⟨a, xs, rfl, r.sub _ _ h1, h2⟩
 ·next a =>
  cases (show x = .ref a from q)
  split at h
  ·next z =>
   cases h
   obtain ⟨_, xs, h1, h2⟩ := r.own a _ z
   exact ⟨a, xs, rfl, h1, h2⟩
  ·cases h
 ·cases h
noncomputable def fCat (o : Bool) : Val → Val → DTE := fun v w s k => match rdM s.w v, rdM s.w w with
 | some ds, some es => ds.length + es.length ≤ sizeLine ∧ nl o (ds ++ es) s k
 | _, _ => False
theorem Zko (o : Bool) : RO K rCat (fCat o) := by
 refine ⟨fun v w s Q Q' h q => ?_, fun G s σ H x y v w Q r v1 v2 h => ?_⟩
 ·unfold fCat at q ⊢; split at q
  ·exact ⟨q.1, Zfv h q.2⟩
  ·exact q.elim
 ·unfold fCat at h; split at h
  ·next ds es e1 e2 =>
   obtain ⟨a, xs, rfl, h1, h2⟩ := r.rdM v1 e1
   obtain ⟨b, ys, rfl, h3, h4⟩ := r.rdM v2 e2
   exact ⟨a, b, xs, ys, rfl, rfl, h1, h3, by rw [← h2.length, ← h4.length]; exact h.1, r.nl (h2.append h4) h.2⟩
  ·exact h.elim
noncomputable def repD (k : Nat) (ds : List PyData) : List PyData := (List.replicate k ds).flatten
noncomputable def fRep (o : Bool) : Val → Val → DTE := fun v w s k => match rdM s.w v, w with
 | some ds, .d (.int i) => (-(2 ^ 63) ≤ i ∧ i < 2 ^ 63 ∧ ds.length * i.toNat ≤ sizeLine) ∧ nl o (repD i.toNat ds) s k
 | _, _ => False
noncomputable def rCatW (K : PySem.W.Frag) : R2 := fun x y H Q => ∃ a b xs ys, x = .ref a ∧ y = .ref b ∧ SqT K H a xs ∧ SqT K H b ys ∧ xs.length + ys.length ≤ sizeLine ∧ (xs = [] → Q (.ref b) H) ∧ (ys = [] → Q (.ref a) H) ∧ ∀ p, H p = none → Q (.ref p) (upd H p (.tup (xs ++ ys)))
theorem Zj0 {X : Cx} : OpR X (binaryOp .Add) (rCatW X.K) := by
 rintro pins s σ H x y v u Q I rx ry ⟨a, b, xs, ys, rfl, rfl, h1, h2, hz, q1, q2, q3⟩
 cases (show v = Value.ref a from rx)
 cases (show u = Value.ref b from ry)
 obtain ⟨us, ru, hu, _⟩ := I.tuple h1
 obtain ⟨ws, rw', hw, _⟩ := I.tuple h2
 have lu := ru.length
 have lw := rw'.length
 by_cases e : us = []
 ·subst e
  have ex : xs = [] := by cases xs with | nil => rfl | cons a r => cases ru
  obtain ⟨⟨cls, dd, data, sl⟩, ho, hc, n, hd⟩ := id hu
  obtain ⟨⟨cls2, dd2, data2, sl2⟩, ho2, hc2, n2, hd2⟩ := id hw
  simp only at hc hd hc2 hd2
  subst hc hd hc2 hd2
  exact concat_meets ⟨_, ho, rfl⟩ ⟨_, ho2, rfl⟩ noFill_tuple_add seq_tuple_add PySem.F.slot_tuple_add PySem.F.entry_tuple_add (PySem.F.args_tuple_add_2 _ _) (Zi4 a b _ ws.toArray n n2 dd dd2 sl sl2 rfl) ⟨ho, ho2, ⟨.ref b, H, I, rfl, q1 ex⟩⟩
 ·refine HT.cat_tup hu hw e (fun ew => ⟨.ref a, H, I, rfl, q2 ?_⟩) (fun ew => ?_) (by omega)
  ·cases ys with | nil => rfl | cons a r => subst ew; cases rw'
  ·exact ⟨.ref s.heap.objs.size, upd H s.heap.objs.size (.tup (xs ++ ys)), I.laid (t' := s.toks) (fun b o e => Heap.get?_push_of_some _ e) (Nat.le_refl _) (show ObjOk X.prog X.w _ _ _ (.tup _) from ⟨by rw [List.length_append]; exact hz, _, ru.append rw', IsTup.new _ _⟩), rfl, q3 _ I.fresh⟩
theorem Zf8 {X : Cx} (h : X.K = K) : OpR X (binaryOp .Add) (rCatW K) := h ▸ Zj0
noncomputable def fCatT : Val → Val → DTE := fun v w s k => match rdT v, rdT w with
 | some ds, some es => ds.length + es.length ≤ sizeLine ∧ k (.d (.tuple (ds ++ es))) s
 | _, _ => False
theorem Zih {v : Val} {ds : List PyData} (h : rdT v = some ds) : v = .d (.tuple ds) := by
 unfold rdT at h; split at h <;> cases h; rfl
theorem DWs.nil_of {ds : List PyData} {xs : List V} (h : DWs K G ds xs) (e : xs = []) : ds = [] := by
 have := h.length
 rw [e] at this
 exact List.length_eq_zero_iff.mp this
theorem Zgz : RO K (rCatW K) fCatT := by
 refine ⟨fun v w s Q Q' h q => ?_, fun G s σ H x y v w Q r v1 v2 h => ?_⟩
 ·unfold fCatT at q ⊢; split at q
  ·exact ⟨q.1, h _ _ q.2⟩
  ·exact q.elim
 ·unfold fCatT at h; split at h
  ·next ds es e1 e2 =>
   obtain ⟨a, xs, rfl, h1, h2⟩ := r.rdT v1 e1
   obtain ⟨b, ys, rfl, h3, h4⟩ := r.rdT v2 e2
   refine ⟨a, b, xs, ys, rfl, rfl, h1, h3, by rw [← h2.length, ← h4.length]; exact h.1, fun e => h.2.here r ?_, fun e => h.2.here r ?_, r.nt (h2.append h4) h.2⟩
   ·rw [h2.nil_of e, List.nil_append, ← Zih e2]; exact v2
   ·rw [h4.nil_of e, List.append_nil, ← Zih e1]; exact v1
  ·exact h.elim
noncomputable def cutD (xs : List PyData) (lo hi : Option Int) : List PyData := (xs.drop (HT.sIx xs.length 0 lo)).take (HT.sIx xs.length xs.length hi - HT.sIx xs.length 0 lo)
noncomputable def dNoP : DS → (Option Int → DS → Prop) → Prop := fun s k => k none s
noncomputable def dP (d : DTE) : DS → (Option Int → DS → Prop) → Prop := fun s k => d s fun v s' => match v with | .d (.int i) => k (some i) s' | _ => False
noncomputable def fSlT : Val → Option Int → Option Int → DTE := fun v lo hi s k => match rdT v with | some ds => k (.d (.tuple (cutD ds lo hi))) s | none => False
noncomputable def fSlL (o : Bool) : Val → Option Int → Option Int → DTE := fun v lo hi s k => match rdL s.w v with | some ds => nl o (cutD ds lo hi) s k | none => False
noncomputable def dSl (f : Val → Option Int → Option Int → DTE) (de : DTE) (dl dh : DS → (Option Int → DS → Prop) → Prop) : DTE := fun s k => de s fun v s1 => dl s1 fun l s2 => dh s2 fun u s3 => f v l u s3 k
noncomputable def dRev (o : Bool) (de : DTE) : DTE := fun s k => de s fun v s1 => match rdL s1.w v with | some ds => nl o ds.reverse s1 k | none => False
noncomputable def dNil : DTA := fun s k => k [] s
noncomputable def dCons (de : DTE) (da : DTA) : DTA := fun s k => de s fun v s1 => da s1 fun vs s2 => k (v :: vs) s2
theorem Zaj : RA K tNil dNil := ⟨fun s Q Q' h q => h _ _ q, fun G s σ H Q r h => h G H [] (Same.refl G) r .nil⟩
theorem Za4 {te : TE} {t : TA} {de : DTE} {da : DTA} (he : RE K te de) (ha : RA K t da) : RA K (tCons te t) (dCons de da) := by
 refine ⟨fun s Q Q' h q => he.mo _ _ _ (fun v s1 q1 => ha.mo _ _ _ (fun vs s2 q2 => h _ _ q2) q1) q, fun G s σ H Q r h => ?_⟩
 refine he.ok G s σ H _ r (he.mo _ _ _ (fun v s1 q G1 H1 x e1 r1 v1 => ?_) h)
 exact ha.ok G1 s1 σ H1 _ r1 (ha.mo _ _ _ (fun vs s2 q2 G2 H2 xs e2 r2 v2 => q2 G2 H2 _ (e1.trans e2) r2 (.cons (v1.same e2) v2)) q)
noncomputable def unD : List Val → Option (List PyData)
 | [] => some []
 | .d x :: r => (unD r).map (x :: ·)
 | _ :: _ => none
theorem Zh7 : ∀ {vs : List Val} {ds : List PyData} {xs : List V}, unD vs = some ds → VRs K G vs xs → DWs K G ds xs
 | [], _, _, e, .nil => by cases e; exact DWs.nil
 | .d x :: r, ds, _, e, .cons h t => by
  simp only [unD] at e
  cases q : unD r with
  | none => rw [q] at e; cases e
  | some es => rw [q] at e; cases e; exact DWs.cons h (Zh7 q t)
 | .own _ :: _, _, _, e, _ => by simp [unD] at e
 | .raw _ :: _, _, _, e, _ => by simp [unD] at e
 | .scr _ :: _, _, _, e, _ => by simp [unD] at e
noncomputable def dLst (o : Bool) (da : DTA) : DTE := fun s k => da s fun vs s1 => match unD vs with | some ds => ds.length ≤ sizeLine ∧ nl o ds s1 k | none => False
noncomputable def dTup (da : DTA) : DTE := fun s k => da s fun vs s1 => match unD vs with | some ds => ds.length ≤ sizeLine ∧ k (.d (.tuple ds)) s1 | none => False
theorem Zgx (o : Bool) {t : TA} {da : DTA} (ha : RA K t da) : RE K (tLst t) (dLst o da) := by
 refine ⟨fun s Q Q' h q => ha.mo _ _ _ (fun v s1 q1 => ?_) q, fun G s σ H Q r h => ha.ok G s σ H _ r (ha.mo _ _ _ (fun vs s1 q G1 H1 xs e1 r1 v1 => ?_) h)⟩
 ·split at q1
  ·exact ⟨q1.1, Zfv h q1.2⟩
  ·exact q1.elim
 ·split at q
  ·next ds e =>
   have D := Zh7 e v1
   exact ⟨by rw [← D.length]; exact q.1, r1.nl D (Zfv (fun v s' z => z.same e1) q.2)⟩
  ·exact q.elim
theorem Zct {t : TA} {da : DTA} (ha : RA K t da) : RE K (tTup t) (dTup da) := by
 refine ⟨fun s Q Q' h q => ha.mo _ _ _ (fun v s1 q1 => ?_) q, fun G s σ H Q r h => ha.ok G s σ H _ r (ha.mo _ _ _ (fun vs s1 q G1 H1 xs e1 r1 v1 => ?_) h)⟩
 ·split at q1
  ·exact ⟨q1.1, h _ _ q1.2⟩
  ·exact q1.elim
 ·split at q
  ·next ds e =>
   have D := Zh7 e v1
   exact ⟨by rw [← D.length]; exact q.1, r1.nt D (q.2.same e1)⟩
  ·exact q.elim
structure RC (K : PySem.W.Frag) (r : List V → Hp → VK → Prop) (f : List Val → DTE) : Prop where
 mo : ∀ vs, Mo (f vs)
 ok : ∀ G s σ H xs vs Q, Rel K G s σ H → VRs K G vs xs → f vs s (Po K G σ Q) → r xs H Q
noncomputable def dCB (f : List Val → DTE) (da : DTA) : DTE := fun s k => da s fun vs s1 => f vs s1 k
theorem Zc9 {r : List V → Hp → VK → Prop} {f : List Val → DTE} {t : TA} {da : DTA} (hc : RC K r f) (ha : RA K t da) : RE K (tCB r t) (dCB f da) :=
 ⟨fun s Q Q' h q => ha.mo _ _ _ (fun vs s1 q1 => hc.mo vs _ _ _ h q1) q, fun G s σ H Q r h => ha.ok G s σ H _ r (ha.mo _ _ _ (fun vs s1 q G1 H1 xs e1 r1 v1 => hc.ok G1 s1 σ H1 xs vs Q r1 v1 (hc.mo vs _ _ _ (fun v s' z => z.same e1) q)) h)⟩
theorem VRs.one {v : Val} {xs : List V} (h : VRs K G [v] xs) : ∃ x, xs = [x] ∧ VR K G v x := by
 cases h with | cons a t => cases t; exact ⟨_, rfl, a⟩
theorem VRs.two {v u : Val} {xs : List V} (h : VRs K G [v, u] xs) : ∃ x y, xs = [x, y] ∧ VR K G v x ∧ VR K G u y := by
 cases h with | cons a t => cases t with | cons b t => cases t; exact ⟨_, _, rfl, a, b⟩
noncomputable def f1 (g : Val → DTE) : List Val → DTE := fun vs s k => match vs with | [v] => g v s k | _ => False
noncomputable def f2 (g : Val → Val → DTE) : List Val → DTE := fun vs s k => match vs with | [v, w] => g v w s k | _ => False
theorem rc1 {r : List V → Hp → VK → Prop} {g : Val → DTE} (mo : ∀ v, Mo (g v)) (ok : ∀ G s σ H x v Q, Rel K G s σ H → VR K G v x → g v s (Po K G σ Q) → r [x] H Q) : RC K r (f1 g) := by
 refine ⟨fun vs s Q Q' h q => ?_, fun G s σ H xs vs Q r v1 h => ?_⟩
 ·unfold f1 at q ⊢; split at q
  ·exact mo _ _ _ _ h q
  ·exact q.elim
 ·unfold f1 at h; split at h
  ·obtain ⟨x, rfl, v2⟩ := v1.one
   exact ok G s σ H x _ Q r v2 h
  ·exact h.elim
theorem rc2 {r : List V → Hp → VK → Prop} {g : Val → Val → DTE} (mo : ∀ v w, Mo (g v w)) (ok : ∀ G s σ H x y v w Q, Rel K G s σ H → VR K G v x → VR K G w y → g v w s (Po K G σ Q) → r [x, y] H Q) : RC K r (f2 g) := by
 refine ⟨fun vs s Q Q' h q => ?_, fun G s σ H xs vs Q r v1 h => ?_⟩
 ·unfold f2 at q ⊢; split at q
  ·exact mo _ _ _ _ _ h q
  ·exact q.elim
 ·unfold f2 at h; split at h
  ·obtain ⟨x, y, rfl, v2, v3⟩ := v1.two
   exact ok G s σ H x y _ _ Q r v2 v3 h
  ·exact h.elim
noncomputable def gLen : Val → DTE := fun v s k => match rdA s.w v with | some ds => k (.d (.int ds.length)) s | none => False
theorem Zig : RC K (fun xs H Q => ∃ p ys, xs = [.ref p] ∧ (SqL K H p ys ∨ SqT K H p ys) ∧ Q (.int ys.length) H) (f1 gLen) := by
 refine rc1 (fun v s Q Q' h q => ?_) (fun G s σ H x v Q r v1 h => ?_)
 ·unfold gLen at q ⊢; split at q
  ·exact h _ _ q
  ·exact q.elim
 ·unfold gLen at h; split at h
  ·next ds e =>
   obtain ⟨a, xs, rfl, h1, h2⟩ := r.rdA v1 e
   exact ⟨a, xs, rfl, h1, by rw [← h2.length]; exact h.here r Zcy⟩
  ·exact h.elim
noncomputable def gTupOf : Val → DTE := fun v s k => match rdA s.w v with | some ds => k (.d (.tuple ds)) s | none => False
noncomputable def gListOf (o : Bool) : Val → DTE := fun v s k => match rdA s.w v with | some ds => nl o ds s k | none => False
noncomputable def uIs : List PyData → Option (List Int)
 | [] => some []
 | .int i :: r => (uIs r).map (i :: ·)
 | _ :: _ => none
theorem Zin : ∀ {ds : List PyData} {ns : List Int}, uIs ds = some ns → ds = ns.map .int
 | [], _, e => by cases e; rfl
 | .int i :: r, ns, e => by
  simp only [uIs] at e
  cases q : uIs r with
  | none => rw [q] at e; cases e
  | some ms => rw [q] at e; cases e; rw [Zin q]; rfl
 | .none :: _, _, e => by simp [uIs] at e
 | .bool _ :: _, _, e => by simp [uIs] at e
 | .str _ :: _, _, e => by simp [uIs] at e
 | .list _ :: _, _, e => by simp [uIs] at e
 | .tuple _ :: _, _, e => by simp [uIs] at e
 | .dict _ :: _, _, e => by simp [uIs] at e
@[simp] theorem uIs_map (ns : List Int) : uIs (ns.map .int) = some ns := by
 induction ns with
 | nil => rfl
 | cons n r ih => simp [uIs, ih]
noncomputable def uBs : List PyData → Option (List Bool)
 | [] => some []
 | .bool i :: r => (uBs r).map (i :: ·)
 | _ :: _ => none
theorem Zim : ∀ {ds : List PyData} {ns : List Bool}, uBs ds = some ns → ds = ns.map .bool
 | [], _, e => by cases e; rfl
 | .bool i :: r, ns, e => by
  simp only [uBs] at e
  cases q : uBs r with
  | none => rw [q] at e; cases e
  | some ms => rw [q] at e; cases e; rw [Zim q]; rfl
 | .none :: _, _, e => by simp [uBs] at e
 | .int _ :: _, _, e => by simp [uBs] at e
 | .str _ :: _, _, e => by simp [uBs] at e
 | .list _ :: _, _, e => by simp [uBs] at e
 | .tuple _ :: _, _, e => by simp [uBs] at e
 | .dict _ :: _, _, e => by simp [uBs] at e
@[simp] theorem uBs_map (ns : List Bool) : uBs (ns.map .bool) = some ns := by
 induction ns with
 | nil => rfl
 | cons n r ih => simp [uBs, ih]
noncomputable def gSum : Val → DTE := fun v s k => match rdL s.w v with | some ds => (match uIs ds with | some ns => k (.d (.int ns.sum)) s | none => False) | none => False
noncomputable def gAll : Val → DTE := fun v s k => match rdL s.w v with | some ds => (match uBs ds with | some ns => k (.d (.bool (ns.all id))) s | none => False) | none => False
theorem Zkj : RC K (fun xs H Q => ∃ (a : Addr) (bs : List Bool), xs = [.ref a] ∧ SqL K H a (bs.map V.bl) ∧ Q (.bl (bs.all id)) H) (f1 gAll) := by
 refine rc1 (fun v s Q Q' h q => ?_) (fun G s σ H x v Q r v1 h => ?_)
 ·unfold gAll at q ⊢; split at q
  ·split at q
   ·exact h _ _ q
   ·exact q.elim
  ·exact q.elim
 ·unfold gAll at h; split at h
  ·next ds e =>
   split at h
   ·next ns z =>
    obtain ⟨a, xs, rfl, h1, h2⟩ := r.rdL v1 e
    rw [Zim z] at h2
    rw [h2.bools_inv] at h1
    exact ⟨a, ns, rfl, h1, h.here r Zet⟩
   ·exact h.elim
  ·exact h.elim
noncomputable def okR (d : PyData) : Prop := d.showable = true ∧ d.hasDict = false ∧ d.depth ≤ 40 ∧ d.shown.length ≤ sizeLine
noncomputable def isR : PyData → Bool
 | .list _ => true
 | .tuple _ => true
 | _ => false
noncomputable def gRepr : Val → DTE := fun v s k => match rdD s.w v with | some d => isR d = true ∧ okR d ∧ k (.d (.str d.shown)) s | none => False
theorem Zdk : RC K (fun xs H Q => ∃ a d, xs = [.ref a] ∧ DV K H d (.ref a) ∧ d.showable = true ∧ d.hasDict = false ∧ d.depth ≤ 40 ∧ d.shown.length ≤ sizeLine ∧ Q (.str d.shown) H) (f1 gRepr) := by
 refine rc1 (fun v s Q Q' h q => ?_) (fun G s σ H x v Q r v1 h => ?_)
 ·unfold gRepr at q ⊢; split at q
  ·exact ⟨q.1, q.2.1, h _ _ q.2.2⟩
  ·exact q.elim
 ·unfold gRepr at h; split at h
  ·next d e =>
   obtain ⟨h0, ⟨h1, h2, h3, h4⟩, h⟩ := h
   have D := r.rdD v1 e h2
   obtain ⟨a, rfl⟩ : ∃ a, x = .ref a := by
    cases d <;> simp only [isR] at h0 <;> try cases h0
    ·unfold DV at D; obtain ⟨a, _, e, _⟩ := D; exact ⟨a, e⟩
    ·unfold DV at D; obtain ⟨a, _, e, _⟩ := D; exact ⟨a, e⟩
   exact ⟨a, d, rfl, D, h1, h2, h3, h4, h.here r Zkv⟩
  ·exact h.elim
noncomputable def fMax2 : Val → Val → DTE := fun v w s k => match v, w with | .d (.int i), .d (.int j) => k (.d (.int (max i j))) s | _, _ => False
noncomputable def fMin2 : Val → Val → DTE := fun v w s k => match v, w with | .d (.int i), .d (.int j) => k (.d (.int (min i j))) s | _, _ => False
theorem Zjd : RC K (fun xs H Q => ∃ i j, xs = [.int i, .int j] ∧ Q (.int (if j > i then j else i)) H) (f2 fMax2) := by
 refine rc2 (fun v w s Q Q' h q => ?_) (fun G s σ H x y v w Q r v1 v2 h => ?_)
 ·unfold fMax2 at q ⊢; split at q
  ·exact h _ _ q
  ·exact q.elim
 ·unfold fMax2 at h; split at h
  ·next i j =>
   refine ⟨i, j, by rw [Zax v1, Zax v2], ?_⟩
   have e : (if j > i then j else i) = max i j := by split <;> omega
   rw [e]; exact h.here r Zcy
  ·exact h.elim
theorem Zje : RC K (fun xs H Q => ∃ i j, xs = [.int i, .int j] ∧ Q (.int (if j < i then j else i)) H) (f2 fMin2) := by
 refine rc2 (fun v w s Q Q' h q => ?_) (fun G s σ H x y v w Q r v1 v2 h => ?_)
 ·unfold fMin2 at q ⊢; split at q
  ·exact h _ _ q
  ·exact q.elim
 ·unfold fMin2 at h; split at h
  ·next i j =>
   refine ⟨i, j, by rw [Zax v1, Zax v2], ?_⟩
   have e : (if j < i then j else i) = min i j := by split <;> omega
   rw [e]; exact h.here r Zcy
  ·exact h.elim
noncomputable def tyN : PyData → String
 | .none => "NoneType" | .bool _ => "bool" | .int _ => "int" | .str _ => "str" | .list _ => "list" | .tuple _ => "tuple" | .dict _ => "dict"
noncomputable def fIsi : Val → Val → DTE := fun v w s k => match rdD s.w v, w with
 | some d, .raw (.ty c) => ∃ b, (∀ K, PySem.W.kitOne K (.type (tyN d)) (.type c) = some b) ∧ k (.d (.bool b)) s
 | _, _ => False
end
end L2
namespace L2
open PySem PySem.Spec PyProof.Rows
section
variable {K : PySem.W.Frag} {G G' H H' : Hp} {s : DS} {σ : St}
noncomputable def dTest (d : DTE) : DTT := fun s k => d s fun v s1 => match v with | .d (.bool b) => k b s1 | _ => False
theorem Zh1 {t : TE} {d : DTE} (h : RE K t d) : RT K (tTest t) (dTest d) := by
 refine ⟨fun s Q Q' z q => h.mo _ _ _ (fun v s1 q => ?_) q, fun G s σ H Q r q => h.ok G s σ H _ r (h.mo _ _ _ (fun v s1 q G1 H1 x e1 r1 v1 => ?_) q)⟩
 ·split at q
  ·exact z _ _ q
  ·exact q.elim
 ·split at q
  ·next b => exact ⟨b, Zi6 v1, q G1 H1 e1 r1⟩
  ·exact q.elim
theorem rt_b {t : TE} {d : DTE} (h : RE K t d) : RT K (tB t) (dTest d) := Zh1 h
noncomputable def truD (w : OW) (v : Val) : Option Bool := match v with
 | .d .none => some false
 | .d (.bool b) => some b
 | .d (.int i) => some (i != 0)
 | _ => (rdA w v).map fun ds => !ds.isEmpty
noncomputable def dTru (d : DTE) : DTT := fun s k => d s fun v s1 => match truD s1.w v with | some b => k b s1 | none => False
theorem DWs.empty {ds : List PyData} {xs : List V} (h : DWs K G ds xs) : xs.isEmpty = ds.isEmpty := by
 cases ds with
 | nil => unfold DWs at h; rw [h]; rfl
 | cons d ds => unfold DWs at h; obtain ⟨x, r, rfl, _⟩ := h; rfl
theorem Zij {t : TE} {d : DTE} (h : RE K t d) : RT K (fun σ H Q => t σ H fun x H' => ∃ k, TruV K x H' k ∧ Q k H') (dTru d) := by
 refine ⟨fun s Q Q' z q => h.mo _ _ _ (fun v s1 q => ?_) q, fun G s σ H Q r q => h.ok G s σ H _ r (h.mo _ _ _ (fun v s1 q G1 H1 x e1 r1 v1 => ?_) q)⟩
 ·split at q
  ·exact z _ _ q
  ·exact q.elim
 ·split at q
  ·next b e =>
   refine ⟨b, ?_, q G1 H1 e1 r1⟩
   unfold truD at e
   split at e
   ·cases e; rw [show x = .non from by unfold VR at v1; exact DW.none_inv v1]; rfl
   ·cases e; rw [Zi6 v1]; rfl
   ·cases e; rw [Zax v1]; rfl
   ·cases z : rdA s1.w v with
    | none => rw [z] at e; cases e
    | some ds =>
     rw [z] at e
     cases e
     obtain ⟨a, xs, rfl, h1, h2⟩ := r1.rdA v1 z
     show TruV K (V.ref a) H1 (!ds.isEmpty)
     rw [← h2.empty]
     rcases h1 with h1 | h1
     ·exact .inl ⟨xs, h1, rfl⟩
     ·exact .inr (.inl ⟨xs, h1, rfl⟩)
  ·exact q.elim
noncomputable def dAnd (t u : DTT) : DTT := fun s k => t s fun c s1 => if c = true then u s1 k else k false s1
noncomputable def dOr (t u : DTT) : DTT := fun s k => t s fun c s1 => if c = true then k true s1 else u s1 k
noncomputable def dNot (t : DTT) : DTT := fun s k => t s fun c s1 => k (!c) s1
theorem Zjl {t u : TT} {d e : DTT} (h : RT K t d) (q : RT K u e) : RT K (tOr t u) (dOr d e) := by
 refine ⟨fun s Q Q' z y => h.mo _ _ _ (fun c s1 y => ?_) y, fun G s σ H Q r y => h.ok G s σ H _ r (h.mo _ _ _ (fun c s1 y G1 H1 e1 r1 => ?_) y)⟩
 ·cases c
  ·exact q.mo _ _ _ z y
  ·exact z _ _ y
 ·cases c
  ·exact q.ok G1 s1 σ H1 _ r1 (q.mo _ _ _ (fun c s2 z => z.same e1) y)
  ·exact y G1 H1 e1 r1
theorem Zd8 {t : TT} {d : DTT} (h : RT K t d) : RT K (tNot t) (dNot d) :=
 ⟨fun s Q Q' z y => h.mo _ _ _ (fun c s1 y => z _ _ y) y, fun G s σ H Q r y => h.ok G s σ H _ r (h.mo _ _ _ (fun c s1 y G1 H1 e1 r1 => y G1 H1 e1 r1) y)⟩
noncomputable def dYes : DTT := fun s k => k true s
theorem Zd9 : RT K tYes dYes := ⟨fun s Q Q' z y => z _ _ y, fun G s σ H Q r y => y G H (Same.refl G) r⟩
noncomputable def dIfE (t : DTT) (a b : DTE) : DTE := fun s k => t s fun c s1 => if c = true then a s1 k else b s1 k
theorem Zl6 {t : TT} {ta tb : TE} {d : DTT} {da db : DTE} (h : RT K t d) (ha : RE K ta da) (hb : RE K tb db) : RE K (tIf t ta tb) (dIfE d da db) := by
 refine ⟨fun s Q Q' z y => h.mo _ _ _ (fun c s1 y => ?_) y, fun G s σ H Q r y => h.ok G s σ H _ r (h.mo _ _ _ (fun c s1 y G1 H1 e1 r1 => ?_) y)⟩
 ·cases c
  ·exact hb.mo _ _ _ z y
  ·exact ha.mo _ _ _ z y
 ·cases c
  ·exact hb.ok G1 s1 σ H1 _ r1 (hb.mo _ _ _ (fun c s2 z => z.same e1) y)
  ·exact ha.ok G1 s1 σ H1 _ r1 (ha.mo _ _ _ (fun c s2 z => z.same e1) y)
noncomputable def dAndV (a b : DTE) : DTE := fun s k => a s fun v s1 => match v with | .d (.bool c) => (if c = true then b s1 k else k (.d (.bool false)) s1) | _ => False
noncomputable def dOrV (a b : DTE) : DTE := fun s k => a s fun v s1 => match v with | .d (.bool c) => (if c = true then k (.d (.bool true)) s1 else b s1 k) | _ => False
noncomputable def dNotV (a : DTE) : DTE := fun s k => a s fun v s1 => match v with | .d (.bool c) => k (.d (.bool (!c))) s1 | _ => False
theorem JOk.list {a : Addr} {xs : List V} {ds : List PyData} (h : G a = some (.lst xs)) (D : DWs K G ds xs) : JOk K (Itl K a) G (fun _ => True) ds := by
 intro G1 s σ H i e _ r
 have hs : SqL K H a xs := SqL.of (r.sub _ _ (e _ _ h))
 refine ⟨fun d hd => ?_, fun hl => ⟨xs, hs, by rw [← D.length]; exact hl⟩⟩
 obtain ⟨x, h1, h2⟩ := D.get' hd
 refine ⟨⟨xs, x, hs, h1⟩, fun y H' hy => ?_⟩
 obtain ⟨rfl, hy⟩ := hy
 have := hy xs hs
 rw [h1] at this; cases this
 exact ⟨G1, Same.refl _, r, h2.same e⟩
theorem JOk.tup {a : Addr} {xs : List V} {ds : List PyData} (h : SqT K G a xs) (D : DWs K G ds xs) : JOk K (Itt K a) G (fun _ => True) ds := by
 intro G1 s σ H i e _ r
 have hs : SqT K H a xs := r.sub.tup (e.tup h)
 refine ⟨fun d hd => ?_, fun hl => ⟨xs, hs, by rw [← D.length]; exact hl⟩⟩
 obtain ⟨x, h1, h2⟩ := D.get' hd
 refine ⟨⟨xs, x, hs, h1⟩, fun y H' hy => ?_⟩
 obtain ⟨rfl, hy⟩ := hy
 have := hy xs hs
 rw [h1] at this; cases this
 exact ⟨G1, Same.refl _, r, h2.same e⟩
noncomputable def rngD (lo : Int) (n : Nat) : List PyData := (List.range n).map fun i => .int (lo + (i : Nat))
theorem JOk.rng {lo : Int} {n : Nat} : JOk K (Itr lo n) G (fun _ => True) (rngD lo n) := by
 intro G1 s σ H i e _ r
 refine ⟨fun d hd => ?_, fun hl => by show n ≤ i; simpa [rngD] using hl⟩
 have hi : i < n := by
  have := (List.getElem?_eq_some_iff.mp hd).1
  simpa [rngD] using this
 refine ⟨hi, fun y H' hy => ?_⟩
 obtain ⟨rfl, rfl⟩ := hy
 refine ⟨G1, Same.refl _, r, ?_⟩
 have hd' : d = .int (lo + (i : Nat)) := by
  unfold rngD at hd
  rw [List.getElem?_map, List.getElem?_range hi] at hd
  exact (Option.some.inj hd).symm
 rw [hd']; exact DW.int
noncomputable def SqD (K : PySem.W.Frag) (t : Bool) (G : Hp) (a : Addr) (xs : List V) : Prop := match t with | true => SqT K G a xs | false => G a = some (.lst xs)
theorem SqD.sq {t : Bool} {a : Addr} {xs : List V} (h : SqD K t G a xs) (e : Same G G') : SqB K t G' a xs := by
 cases t
 ·exact SqL.of (e _ _ h)
 ·exact e.tup h
noncomputable def zipD (ds es : List PyData) : List PyData := (ds.zip es).map fun p => .tuple [p.1, p.2]
theorem JOk.zip {t1 t2 : Bool} {a b : Addr} {xs ys : List V} {ds es : List PyData} (h : SqD K t1 G a xs) (h' : SqD K t2 G b ys) (D : DWs K G ds xs) (D' : DWs K G es ys) : JOk K (Itz K t1 t2 a b) G (fun _ => True) (zipD ds es) := by
 intro G1 s σ H i e _ r
 have hs := h.sq (e.trans r.sub)
 have hs' := h'.sq (e.trans r.sub)
 refine ⟨fun d hd => ?_, fun hl => ⟨xs, ys, hs, hs', ?_⟩⟩
 ·unfold zipD at hd
  rw [List.getElem?_map] at hd
  cases q : (ds.zip es)[i]? with
  | none => rw [q] at hd; cases hd
  | some p =>
   rw [q] at hd
   cases hd
   obtain ⟨q1, q2⟩ := List.getElem?_zip_eq_some.mp q
   obtain ⟨x, h1, h2⟩ := D.get' q1
   obtain ⟨y, h3, h4⟩ := D'.get' q2
   refine ⟨⟨xs, ys, x, y, hs, hs', h1, h3⟩, fun v H' hy => ?_⟩
   obtain ⟨p', x', y', rfl, hp, rfl, hxy⟩ := hy
   obtain ⟨z1, z2⟩ := hxy xs ys hs hs'
   rw [h1] at z1; cases z1
   rw [h3] at z2; cases z2
   have hg := r.sub.free hp
   have S := Zb9 hg (.tup [x, y])
   exact ⟨_, S, r.new hp _, DW.tup Zar (DWs.cons (h2.same (e.trans S)) (DWs.cons (h4.same (e.trans S)) DWs.nil))⟩
 ·unfold zipD at hl
  rw [lmp, List.length_zip, D.length, D'.length] at hl
  omega
noncomputable def enumD (ds : List PyData) : List PyData := ds.mapIdx fun i d => .tuple [.int (i : Nat), d]
noncomputable def noP : OW → Prop := fun _ => True
noncomputable def dItL (d : DTE) : DTI := fun s k => d s fun v s1 => match v with | .d (.list ds) => k (ds, noP) s1 | .own a => ∃ ds, s1.w a = some (.lst ds) ∧ k (ds, fun w => w a = some (.lst ds)) s1 | _ => False
noncomputable def dItT (d : DTE) : DTI := fun s k => d s fun v s1 => match v with | .d (.tuple ds) => k (ds, noP) s1 | _ => False
theorem JOk.own {a : Addr} {ds : List PyData} : JOk K (Itl K a) G (fun w => w a = some (.lst ds)) ds := by
 intro G1 s σ H i e p r
 obtain ⟨_, xs, h1, D⟩ := r.own a _ p
 have hs : SqL K H a xs := SqL.of h1
 refine ⟨fun d hd => ?_, fun hl => ⟨xs, hs, by rw [← D.length]; exact hl⟩⟩
 obtain ⟨x, h4, h2⟩ := D.get' hd
 refine ⟨⟨xs, x, hs, h4⟩, fun y H' hy => ?_⟩
 obtain ⟨rfl, hy⟩ := hy
 have := hy xs hs
 rw [h4] at this; cases this
 exact ⟨G1, Same.refl _, r, h2⟩
theorem Zcu {t : TE} {d : DTE} (h : RE K t d) : RI K (iList K t) (dItL d) := by
 refine ⟨fun s Q Q' z y => h.mo _ _ _ (fun v s1 y => ?_) y, fun G s σ H R r y => h.ok G s σ H _ r (h.mo _ _ _ (fun v s1 y G1 H1 x e1 r1 v1 => ?_) y)⟩
 ·split at y
  ·exact z _ _ y
  ·obtain ⟨ds, h1, y⟩ := y; exact ⟨ds, h1, z _ _ y⟩
  ·exact y.elim
 ·split at y
  ·obtain ⟨a, xs, rfl, h1, h2⟩ := Zfe v1
   exact ⟨a, rfl, ⟨xs, SqL.of (r1.sub _ _ h1)⟩, y G1 H1 _ e1 r1 (JOk.list h1 h2)⟩
  ·next a =>
   obtain ⟨ds, h1, y⟩ := y
   cases (show x = .ref a from v1)
   obtain ⟨_, xs, h2, _⟩ := r1.own a _ h1
   exact ⟨a, rfl, ⟨xs, SqL.of h2⟩, y G1 H1 _ e1 r1 JOk.own⟩
  ·exact y.elim
noncomputable def dRng1 (d : DTA) : DTI := fun s k => d s fun vs s1 => match vs with | [.d (.int j)] => (-(2 ^ 62) ≤ j ∧ j < 2 ^ 62) ∧ k (rngD 0 j.toNat, noP) s1 | _ => False
noncomputable def dRng2 (d : DTA) : DTI := fun s k => d s fun vs s1 => match vs with | [.d (.int i), .d (.int j)] => (-(2 ^ 62) ≤ i ∧ i < 2 ^ 62 ∧ -(2 ^ 62) ≤ j ∧ j < 2 ^ 62) ∧ k (rngD i (j - i).toNat, noP) s1 | _ => False
theorem Zgy {t : TA} {d : DTA} (h : RA K t d) : RI K (iRng1 t) (dRng1 d) := by
 refine ⟨fun s Q Q' z y => h.mo _ _ _ (fun v s1 y => ?_) y, fun G s σ H R r y => h.ok G s σ H _ r (h.mo _ _ _ (fun v s1 y G1 H1 x e1 r1 v1 => ?_) y)⟩
 ·split at y
  ·exact ⟨y.1, z _ _ y.2⟩
  ·exact y.elim
 ·split at y
  ·next j =>
   obtain ⟨u, rfl, v2⟩ := v1.one
   exact ⟨j, by rw [Zax v2], y.1.1, y.1.2, y.2 G1 H1 _ e1 r1 JOk.rng⟩
  ·exact y.elim
theorem Zjg {t : TA} {d : DTA} (h : RA K t d) : RI K (iRng2 t) (dRng2 d) := by
 refine ⟨fun s Q Q' z y => h.mo _ _ _ (fun v s1 y => ?_) y, fun G s σ H R r y => h.ok G s σ H _ r (h.mo _ _ _ (fun v s1 y G1 H1 x e1 r1 v1 => ?_) y)⟩
 ·split at y
  ·exact ⟨y.1, z _ _ y.2⟩
  ·exact y.elim
 ·split at y
  ·next i j =>
   obtain ⟨u, w, rfl, v2, v3⟩ := v1.two
   exact ⟨i, j, by rw [Zax v2, Zax v3], y.1, y.2 G1 H1 _ e1 r1 JOk.rng⟩
  ·exact y.elim
noncomputable def seqD (t : Bool) : Val → Option (List PyData)
 | .d (.list ds) => if t then none else some ds
 | .d (.tuple ds) => if t then some ds else none
 | _ => none
noncomputable def dZip (t1 t2 : Bool) (d : DTA) : DTI := fun s k => d s fun vs s1 => match vs with | [v, w] => (match seqD t1 v, seqD t2 w with | some ds, some es => k (zipD ds es, noP) s1 | _, _ => False) | _ => False
noncomputable def dEnum (t : Bool) (d : DTA) : DTI := fun s k => d s fun vs s1 => match vs with | [v] => (match seqD t v with | some ds => k (enumD ds, noP) s1 | _ => False) | _ => False
noncomputable def tgN (i : Nat) : DTG := fun v s k => k (s.set i v)
theorem Zas (i : Nat) : RG K (gName i) (tgN i) := ⟨fun v s Q Q' h q => h _ q, fun G s σ H v x Q r q h => h G _ H (Same.refl G) (r.set q i)⟩
noncomputable abbrev DTGs := List PyData → DS → (DS → Prop) → Prop
structure RGs (K : PySem.W.Frag) (g : TGs) (d : DTGs) : Prop where
 mo : ∀ v s (Q Q' : DS → Prop), (∀ s', Q s' → Q' s') → d v s Q → d v s Q'
 ok : ∀ G s σ H ds xs Q, Rel K G s σ H → DWs K G ds xs → d ds s (fun s' => ∀ G' σ' H', Same G G' → Rel K G' s' σ' H' → Q σ' H') → g xs σ H Q
noncomputable def tgNil : DTGs := fun ds s k => match ds with | [] => k s | _ => False
noncomputable def tgCons (g : DTG) (r : DTGs) : DTGs := fun ds s k => match ds with | d :: t => g (.d d) s (fun s1 => r t s1 k) | [] => False
theorem Zjf : RGs K gNil tgNil := by
 refine ⟨fun v s Q Q' h q => ?_, fun G s σ H ds xs Q r D h => ?_⟩
 ·unfold tgNil at q ⊢; split at q
  ·exact h _ q
  ·exact q.elim
 ·unfold tgNil at h; split at h
  ·unfold DWs at D; exact ⟨D, h G σ H (Same.refl G) r⟩
  ·exact h.elim
theorem Zfa {t : TG} {u : TGs} {g : DTG} {r : DTGs} (h1 : RG K t g) (h2 : RGs K u r) : RGs K (gCons t u) (tgCons g r) := by
 refine ⟨fun v s Q Q' h q => ?_, fun G s σ H ds xs Q rl D h => ?_⟩
 ·unfold tgCons at q ⊢; split at q
  ·exact h1.mo _ _ _ _ (fun s1 q => h2.mo _ _ _ _ h q) q
  ·exact q.elim
 ·unfold tgCons at h; split at h
  ·unfold DWs at D
   obtain ⟨x, t', rfl, D1, D2⟩ := D
   refine ⟨x, t', rfl, h1.ok G s σ H (.d _) x _ rl D1 (h1.mo _ _ _ _ (fun s1 q G1 σ1 H1 e1 r1 => ?_) h)⟩
   exact h2.ok G1 s1 σ1 H1 _ t' _ r1 (D2.same e1) (h2.mo _ _ _ _ (fun s2 q G2 σ2 H2 e2 r2 => q G2 σ2 H2 (e1.trans e2) r2) q)
  ·exact h.elim
noncomputable def tgTup (n : Nat) (g : DTGs) : DTG := fun v s k => match v with | .d (.tuple ds) => ds.length = n ∧ g ds s k | _ => False
theorem Zkn {n : Nat} {t : TGs} {g : DTGs} (h : RGs K t g) : RG K (gTup K n t) (tgTup n g) := by
 refine ⟨fun v s Q Q' z q => ?_, fun G s σ H v x Q r q z => ?_⟩
 ·unfold tgTup at q ⊢; split at q
  ·exact ⟨q.1, h.mo _ _ _ _ z q.2⟩
  ·exact q.elim
 ·unfold tgTup at z; split at z
  ·obtain ⟨a, xs, rfl, h1, h2⟩ := Zh8 q
   exact ⟨a, xs, rfl, r.sub.tup h1, by rw [← h2.length]; exact z.1, h.ok G s σ H _ xs Q r h2 z.2⟩
  ·exact z.elim
noncomputable def dEmit (de : DTE) : DTL := fun acc s k => de s fun v s1 => match v with | .d x => k (acc ++ [x]) s1 | _ => False
theorem Zcv {te : TE} {de : DTE} (h : RE K te de) : RL K (tEmit te) (dEmit de) := by
 refine ⟨fun acc s Q Q' z q => h.mo _ _ _ (fun v s1 q => ?_) q, fun G s σ H acc ys Q r D hl q => ⟨by rw [← D.length]; exact hl, h.ok G s σ H _ r (h.mo _ _ _ (fun v s1 q G1 H1 x e1 r1 v1 => ?_) q)⟩⟩
 ·split at q
  ·exact z _ _ q
  ·exact q.elim
 ·split at q
  ·exact q G1 σ H1 _ e1 r1 ((D.same e1).snoc v1)
  ·exact q.elim
noncomputable def ext : List (Option Val) → List (Option Val) → Prop
 | [], [] => True
 | none :: r, _ :: t => ext r t
 | some v :: r, some u :: t => v = u ∧ ext r t
 | _, _ => False
theorem Zed : ∀ {e e' : List (Option Val)} {i : Nat} {v : Val}, ext e e' → e[i]? = some (some v) → e'[i]? = some (some v)
 | [], _, i, v, _, h => by simp at h
 | none :: r, [], i, v, h, _ => by simp [ext] at h
 | none :: r, _ :: t, 0, v, _, h => by simp at h
 | none :: r, _ :: t, i + 1, v, h, q => by
  simp only [List.getElem?_cons_succ] at q ⊢
  exact Zed (e := r) h q
 | some u :: r, [], i, v, h, _ => by simp [ext] at h
 | some u :: r, none :: t, i, v, h, _ => by simp [ext] at h
 | some u :: r, some u' :: t, 0, v, h, q => by
  simp only [List.getElem?_cons_zero] at q ⊢
  rw [← h.1]; exact q
 | some u :: r, some u' :: t, i + 1, v, h, q => by
  simp only [List.getElem?_cons_succ] at q ⊢
  exact Zed (e := r) h.2 q
theorem Zee : ∀ {e e' : List (Option Val)}, ext e e' → e.length = e'.length
 | [], [], _ => rfl
 | [], _ :: _, h => by simp [ext] at h
 | none :: r, [], h => by simp [ext] at h
 | none :: r, _ :: t, h => by rw [List.length_cons, List.length_cons, Zee (e := r) h]
 | some _ :: r, [], h => by simp [ext] at h
 | some _ :: r, none :: t, h => by simp [ext] at h
 | some _ :: r, some _ :: t, h => by rw [List.length_cons, List.length_cons, Zee (e := r) h.2]
theorem Rel.ext {e : List (Option Val)} (r : Rel K G s σ H) (h : L2.ext e s.e) : Rel K G ⟨e, s.w⟩ σ H :=
 ⟨r.sub, r.own, by rw [Zee h]; exact r.sl.1, fun i v q => r.sl.2 i v (Zed h q)⟩
noncomputable def LIt (src : List PyData × (OW → Prop)) (e0 : List (Option Val)) (dg : DTG) (dt : DTT) (dl : DTL) (k : List PyData → DS → Prop) (I : Nat → List PyData → OW → Prop) : Prop :=
 (∀ i acc w, I i acc w → src.2 w ∧ (i < src.1.length → acc.length < sizeLine)) ∧
 (∀ (i : Nat) d acc w, src.1[i]? = some d → I i acc w → dg (.d d) ⟨e0, w⟩ fun s2 => dt s2 fun b s3 => if b = true then dl acc s3 (fun acc' s' => L2.ext e0 s'.e ∧ I (i + 1) acc' s'.w) else L2.ext e0 s3.e ∧ I (i + 1) acc s3.w) ∧
 ∀ acc w, I src.1.length acc w → k acc ⟨e0, w⟩
theorem Zf6 {J : It} {g : TG} {tt : TT} {tb : TL} {dg : DTG} {dt : DTT} {dl : DTL} {ds : List PyData} {P : OW → Prop} {e0 : List (Option Val)} {Q : LK} {k : List PyData → DS → Prop} {I : Nat → List PyData → OW → Prop} {G1 : Hp} (hg : RG K g dg) (ht : RT K tt dt) (hl : RL K tb dl) (hJ : JOk K J G1 P ds)
  (hI : LIt (ds, P) e0 dg dt dl k I) (hQ : ∀ G s σ H acc ys, Same G1 G → Rel K G s σ H → DWs K G acc ys → k acc s → Q ys σ H) {w : OW} {σ : St} {H : Hp} {acc : List PyData} {ys : List V} (r : Rel K G1 ⟨e0, w⟩ σ H) (D : DWs K G1 acc ys) (h0 : I 0 acc w) :
  ∃ W : Nat → List V → Nat → St → Hp → Prop, (∃ m, W 0 ys m σ H) ∧ LTurn J g tt tb Q W := by
 obtain ⟨hI1, hI2, hI3⟩ := hI
 dsimp only at hI1 hI2 hI3
 refine ⟨fun i ys m σ H => i + m = ds.length ∧ ∃ G w acc, Same G1 G ∧ Rel K G ⟨e0, w⟩ σ H ∧ DWs K G acc ys ∧ I i acc w, ⟨ds.length, Nat.zero_add _, G1, w, acc, Same.refl _, r, D, h0⟩, ?_⟩
 rintro i ys m σ H ⟨hm, G, w, acc, e, r, D, hi⟩
 obtain ⟨hp, hz⟩ := hI1 i acc w hi
 cases m with
 | zero =>
  have : i = ds.length := by omega
  subst this
  exact .inl ⟨(hJ G _ σ H _ e hp r).2 (Nat.le_refl _), hQ G _ σ H acc ys e r D (hI3 acc w hi)⟩
 | succ m =>
  have hlt : i < ds.length := by omega
  have hd := gEq hlt
  obtain ⟨go, yl⟩ := (hJ G _ σ H i e hp r).1 _ hd
  refine .inr ⟨go, fun ys' σ' H' => ∃ G' w' acc', Same G1 G' ∧ Rel K G' ⟨e0, w'⟩ σ' H' ∧ DWs K G' acc' ys' ∧ I (i + 1) acc' w', fun ys' σ' H' ⟨G', s', acc', q⟩ => ⟨m, Nat.lt_succ_self m, by omega, G', s', acc', q⟩, fun x H' hy => ?_⟩
  obtain ⟨G', e', r', dx⟩ := yl x H' hy
  have hs := hI2 i _ acc w hd hi
  refine hg.ok G' _ σ H' (.d _) x _ r' dx (hg.mo _ _ _ _ (fun s2 q G2 σ2 H2 e2 r2 => ?_) hs)
  refine ht.ok G2 s2 σ2 H2 _ r2 (ht.mo _ _ _ (fun b s3 q G3 H3 e3 r3 => ?_) q)
  have D3 := D.same ((e'.trans e2).trans e3)
  have E3 := ((e.trans e').trans e2).trans e3
  cases b
  ·exact ⟨G3, s3.w, acc, E3, r3.ext q.1, D3, q.2⟩
  ·exact hl.ok G3 s3 σ2 H3 acc ys _ r3 D3 (hz hlt) (hl.mo _ _ _ _ (fun acc' s4 q G4 σ4 H4 ys4 e4 r4 D4 => ⟨G4, s4.w, acc', E3.trans e4, r4.ext q.1, D4, q.2⟩) q)
noncomputable def dLoop (di : DTI) (dg : DTG) (dt : DTT) (dl : DTL) : DTL := fun acc s k => di s fun src s1 => ∃ I, I 0 acc s1.w ∧ LIt src s1.e dg dt dl k I
theorem Zjh {wi : TI} {g : TG} {tt : TT} {tb : TL} {di : DTI} {dg : DTG} {dt : DTT} {dl : DTL} (hi : RI K wi di) (hg : RG K g dg) (ht : RT K tt dt) (hl : RL K tb dl) : RL K (tLoop wi g tt tb) (dLoop di dg dt dl) := by
 refine ⟨fun acc s Q Q' z q => hi.mo _ _ _ (fun ds s1 q => ?_) q, fun G s σ H acc ys Q r D hz q => hi.ok G s σ H _ r (hi.mo _ _ _ (fun ds s1 q G1 H1 J e1 r1 hJ => ?_) q)⟩
 ·obtain ⟨I, h0, h3, h1, h2⟩ := q
  exact ⟨I, h0, h3, h1, fun acc s h => z _ _ (h2 acc s h)⟩
 ·obtain ⟨I, h0, hI⟩ := q
  exact Zf6 (w := s1.w) hg ht hl hJ hI (fun G2 s2 σ2 H2 acc2 ys2 e2 r2 D2 k2 => k2 G2 σ2 H2 ys2 (e1.trans e2) r2 D2) r1 (D.same e1) h0
noncomputable def dComp (o : Bool) (di : DTI) (cap : List (Option Nat)) (dg : DTG) (dt : DTT) (dl : DTL) : DTE := fun s k => di s fun src s1 => ∃ I, I 0 [] s1.w ∧ LIt src (captD cap s1.e) dg dt dl (fun acc s' => nl o acc ⟨s1.e, s'.w⟩ k) I
theorem Zcs (o : Bool) {wi : TI} {cap : List (Option Nat)} {g : TG} {tt : TT} {tb : TL} {di : DTI} {dg : DTG} {dt : DTT} {dl : DTL} (hi : RI K wi di) (hg : RG K g dg) (ht : RT K tt dt) (hl : RL K tb dl) : RE K (tComp wi cap g tt tb) (dComp o di cap dg dt dl) := by
 refine ⟨fun s Q Q' z q => hi.mo _ _ _ (fun ds s1 q => ?_) q, fun G s σ H Q r q => hi.ok G s σ H _ r (hi.mo _ _ _ (fun ds s1 q G1 H1 J e1 r1 hJ => ?_) q)⟩
 ·obtain ⟨I, h0, h3, h1, h2⟩ := q
  exact ⟨I, h0, h3, h1, fun acc s h => Zfv z (h2 acc s h)⟩
 ·obtain ⟨I, h0, hI⟩ := q
  refine Zf6 (w := s1.w) hg ht hl hJ hI (fun G2 s2 σ2 H2 acc2 ys2 e2 r2 D2 k2 => ?_) (r1.env (r1.sl.capt cap)) DWs.nil h0
  exact (r2.env (r1.sl.same e2) : Rel K G2 ⟨s1.e, s2.w⟩ σ H2).nl D2 (Zfv (fun v s' z => z.same (e1.trans e2)) k2)
theorem Zem {src : List PyData × (OW → Prop)} {e0 : List (Option Val)} {dg : DTG} {dt : DTT} {dl : DTL} {k : List PyData → DS → Prop} {w : OW} {α : Type} (xs : List α) (enc : α → PyData) (g : α → List PyData) (acc0 : List PyData) (hsrc : src.1 = xs.map enc) (hp : src.2 w)
  (hl : acc0.length + (xs.flatMap g).length < sizeLine)
  (hs : ∀ x ∈ xs, ∀ acc : List PyData, acc.length + (g x).length < sizeLine → ∀ Q : List PyData → OW → Prop, Q (acc ++ g x) w → dg (.d (enc x)) ⟨e0, w⟩ fun s2 => dt s2 fun b s3 => if b = true then dl acc s3 (fun acc' s' => L2.ext e0 s'.e ∧ Q acc' s'.w) else L2.ext e0 s3.e ∧ Q acc s3.w)
  (hk : k (acc0 ++ xs.flatMap g) ⟨e0, w⟩) : ∃ I : Nat → List PyData → OW → Prop, I 0 acc0 w ∧ LIt src e0 dg dt dl k I := by
 refine ⟨fun i acc w' => acc = acc0 ++ (xs.take i).flatMap g ∧ w' = w, ⟨by simp, rfl⟩, ?_, ?_, ?_⟩
 ·rintro i acc w' ⟨rfl, rfl⟩
  refine ⟨hp, fun hi => ?_⟩
  have hle : ((xs.take i).flatMap g).length ≤ (xs.flatMap g).length := by
   have : xs.flatMap g = (xs.take i).flatMap g ++ (xs.drop i).flatMap g := by rw [← List.flatMap_append, List.take_append_drop]
   rw [this, List.length_append]; omega
  rw [List.length_append]; omega
 ·rintro i d acc w' hd ⟨rfl, rfl⟩
  rw [hsrc, List.getElem?_map] at hd
  cases q : xs[i]? with
  | none => rw [q] at hd; cases hd
  | some x =>
   rw [q] at hd; cases hd
   obtain ⟨hi, hx⟩ := List.getElem?_eq_some_iff.mp q
   have ht : xs.take (i + 1) = xs.take i ++ [x] := by rw [List.take_add_one, q]; rfl
   refine hs x (by rw [← hx]; exact List.getElem_mem hi) _ ?_ (fun acc' w'' => acc' = acc0 ++ (xs.take (i + 1)).flatMap g ∧ w'' = w') ⟨?_, rfl⟩
   ·have hle : ((xs.take (i + 1)).flatMap g).length ≤ (xs.flatMap g).length := by
     have : xs.flatMap g = (xs.take (i + 1)).flatMap g ++ (xs.drop (i + 1)).flatMap g := by rw [← List.flatMap_append, List.take_append_drop]
     rw [this, List.length_append]; omega
    rw [ht, List.flatMap_append, List.length_append] at hle
    simp only [List.flatMap_cons, List.flatMap_nil, List.append_nil] at hle
    rw [List.length_append]; omega
   ·rw [ht, List.flatMap_append, List.append_assoc]; simp
 ·rintro acc w' ⟨rfl, rfl⟩
  rw [hsrc, lmp, List.take_length]
  exact hk
noncomputable def dNext : DTS := fun E s => E.nx s
noncomputable def dSeq (t u : DTS) : DTS := fun E s => t { E with nx := u E } s
theorem Zdm : RS K tNext dNext := fun G s σ H D E r p q => p.nx s G σ H (Same.refl G) r q
theorem Zb0 {t u : TS} {d e : DTS} (h : RS K t d) (q : RS K u e) : RS K (tSeq t u) (dSeq d e) := by
 intro G s σ H D E r p z
 refine h G s σ H _ { E with nx := e E } r ⟨fun s' G' σ' H' e1 r1 z1 => ?_, p.rt, p.bk, p.ct⟩ z
 exact q G' s' σ' H' D E r1 (p.same e1) z1
noncomputable def dBreak : DTS := fun E s => E.bk s
noncomputable def dCont : DTS := fun E s => E.ct s
noncomputable def dDrop (d : DTE) : DTS := fun E s => d s fun _ s1 => E.nx s1
theorem Zh0 {t : TE} {d : DTE} (h : RE K t d) : RS K (tDrop t) (dDrop d) := fun G s σ H D E r p q =>
 h.ok G s σ H _ r (h.mo _ _ _ (fun v s1 q G1 H1 x e1 r1 v1 => p.nx s1 G1 σ H1 e1 r1 q) q)
noncomputable def dRet (d : DTE) : DTS := fun E s => d s E.rt
theorem Zc7 {t : TE} {d : DTE} (h : RE K t d) : RS K (tRet t) (dRet d) := fun G s σ H D E r p q =>
 h.ok G s σ H _ r (h.mo _ _ _ (fun v s1 q G1 H1 x e1 r1 v1 => p.rt v s1 G1 σ H1 x e1 r1 v1 q) q)
noncomputable def dRetN : DTS := fun E s => E.rt (.d .none) s
noncomputable def dIfS (c : DTT) (t u : DTS) : DTS := fun E s => c s fun b s1 => if b = true then t E s1 else u E s1
theorem Zhy {c : TT} {t u : TS} {dc : DTT} {d e : DTS} (hc : RT K c dc) (h : RS K t d) (q : RS K u e) : RS K (tIfS c t u) (dIfS dc d e) := by
 intro G s σ H D E r p z
 refine hc.ok G s σ H _ r (hc.mo _ _ _ (fun b s1 z G1 H1 e1 r1 => ?_) z)
 cases b
 ·exact q G1 s1 σ H1 D E r1 (p.same e1) z
 ·exact h G1 s1 σ H1 D E r1 (p.same e1) z
noncomputable def dAsg (d : DTE) (g : DTG) : DTS := fun E s => d s fun v s1 => g v s1 E.nx
theorem Zc0 {t : TE} {g : TG} {d : DTE} {dg : DTG} (h : RE K t d) (hg : RG K g dg) : RS K (tAsg t g) (dAsg d dg) := fun G s σ H D E r p q =>
 h.ok G s σ H _ r (h.mo _ _ _ (fun v s1 q G1 H1 x e1 r1 v1 => hg.ok G1 s1 σ H1 v x _ r1 v1 (hg.mo _ _ _ _ (fun s2 q G2 σ2 H2 e2 r2 => p.nx s2 G2 σ2 H2 (e1.trans e2) r2 q) q)) q)
noncomputable def dPar (i j : Nat) (d : DTA) : DTS := fun E s => d s fun vs s1 => match vs with | [v, w] => E.nx ((s1.set i v).set j w) | _ => False
theorem Zkq {i j : Nat} {t : TA} {d : DTA} (h : RA K t d) : RS K (tPar i j t) (dPar i j d) := fun G s σ H D E r p q =>
 h.ok G s σ H _ r (h.mo _ _ _ (fun vs s1 q G1 H1 xs e1 r1 v1 => by
  split at q
  ·obtain ⟨x, y, rfl, v2, v3⟩ := v1.two
   exact ⟨x, y, rfl, p.nx _ G1 _ H1 e1 ((r1.set v2 i).set v3 j) q⟩
  ·exact q.elim) q)
theorem lenE0 {α : Type _} {l : List α} (h : l.length = 0) : l = [] := List.eq_nil_of_length_eq_zero h
theorem lenE1 {α : Type _} {l : List α} (h : l.length = 1) : ∃ a0, l = [a0] := by
 cases l with
 | nil => cases h
 | cons a t => have := lenE0 (Nat.succ.inj h); exact ⟨a, by rw [this]⟩
theorem lenE2 {α : Type _} {l : List α} (h : l.length = 2) : ∃ a0 a1, l = [a0, a1] := by
 cases l with
 | nil => cases h
 | cons a t => obtain ⟨b0, rfl⟩ := lenE1 (Nat.succ.inj h); exact ⟨a, b0, rfl⟩
noncomputable def laterS (u : DTS) (E : DEnds) (s : DS) : Prop := u E s
theorem Zgl {u : DTS} {E : DEnds} {s : DS} (h : u E s) : laterS u E s := h
theorem Zi9 (c : DTT) (t u : DTS) (E : DEnds) (s : DS) : dIfS c t u E s = c s fun b s1 => if b = true then laterS t E s1 else laterS u E s1 := rfl
theorem Zia (t u : DTS) (E : DEnds) (s : DS) : dSeq t u E s = t { E with nx := laterS u E } s := rfl
noncomputable def later (f : DS → Prop) (s : DS) : Prop := f s
theorem Zf4 (f : DS → Prop) (e : List (Option Val)) (w : OW) : later f ⟨e, w⟩ = f ⟨e, w⟩ := rfl
noncomputable def goB (dg : DTG) (v : Val) (db : DTS) (E : DEnds) (s : DS) : Prop := dg v s (db E)
theorem Zid (dg : DTG) (v : Val) (db : DTS) (E : DEnds) (e : List (Option Val)) (w : OW) : goB dg v db E ⟨e, w⟩ = dg v ⟨e, w⟩ (db E) := rfl
noncomputable def goW (c : DTT) (db : DTS) (E F : DEnds) (s : DS) : Prop := c s fun b s1 => if b = true then db F s1 else E.nx s1
theorem Zie (c : DTT) (db : DTS) (E F : DEnds) (e : List (Option Val)) (w : OW) : goW c db E F ⟨e, w⟩ = c ⟨e, w⟩ fun b s1 => if b = true then db F s1 else E.nx s1 := rfl
theorem iteTT {α : Sort _} (a b : α) : (if true = true then a else b) = a := rfl
theorem iteFF {α : Sort _} (a b : α) : (if false = true then a else b) = b := rfl
noncomputable def dFor (di : DTI) (dg : DTG) (db : DTS) : DTS := fun E s => di s fun src s1 => ∃ I : Nat → DS → Prop, I 0 s1 ∧ (∀ i s, I i s → src.2 s.w) ∧
 (∀ (i : Nat) d s, src.1[i]? = some d → I i s → goB dg (.d d) db { E with nx := I (i + 1), ct := I (i + 1), bk := E.nx } s) ∧ ∀ s, I src.1.length s → later E.nx s
theorem Zii {wi : TI} {g : TG} {tb : TS} {di : DTI} {dg : DTG} {db : DTS} (hi : RI K wi di) (hg : RG K g dg) (hb : RS K tb db) : RS K (tFor wi g tb) (dFor di dg db) := by
 intro G s σ H D E r p z
 refine hi.ok G s σ H _ r (hi.mo _ _ _ (fun src s1 z G1 H1 J e1 r1 hJ => ?_) z)
 obtain ⟨ds, P⟩ := src
 obtain ⟨I, h0, h3, h1, h2⟩ := z
 dsimp only at hJ h3 h1 h2
 refine ⟨fun i m σ H => i + m = ds.length ∧ ∃ G s, Same G1 G ∧ Rel K G s σ H ∧ I i s, ⟨ds.length, Nat.zero_add _, G1, s1, Same.refl _, r1, h0⟩, ?_⟩
 rintro i m σ H ⟨hm, G, s, e, r, hI⟩
 cases m with
 | zero =>
  have : i = ds.length := by omega
  subst this
  exact .inl ⟨(hJ G s σ H _ e (h3 _ _ hI) r).2 (Nat.le_refl _), p.nx s G σ H (e1.trans e) r (h2 s hI)⟩
 | succ m =>
  have hlt : i < ds.length := by omega
  have hd := gEq hlt
  obtain ⟨go, yl⟩ := (hJ G s σ H i e (h3 _ _ hI) r).1 _ hd
  refine .inr ⟨go, fun σ' H' => ∃ G' s', Same G1 G' ∧ Rel K G' s' σ' H' ∧ I (i + 1) s', fun σ' H' ⟨G', s', q⟩ => ⟨m, Nat.lt_succ_self m, by omega, G', s', q⟩, fun x H' hy => ?_⟩
  obtain ⟨G', e', r', dx⟩ := yl x H' hy
  refine hg.ok G' s σ H' (.d _) x _ r' dx (hg.mo _ _ _ _ (fun s2 q G2 σ2 H2 e2 r2 => ?_) (h1 i _ s hd hI))
  have E2 := (e.trans e').trans e2
  exact hb G2 s2 σ2 H2 _ { E with nx := I (i + 1), ct := I (i + 1), bk := E.nx } r2 ⟨fun s' G3 σ3 H3 e3 r3 z => ⟨G3, s', E2.trans e3, r3, z⟩, fun v s' G3 σ3 H3 x e3 => p.rt v s' G3 σ3 H3 x ((e1.trans E2).trans e3), fun s' G3 σ3 H3 e3 => p.nx s' G3 σ3 H3 ((e1.trans E2).trans e3), fun s' G3 σ3 H3 e3 r3 z => ⟨G3, s', E2.trans e3, r3, z⟩⟩ q
noncomputable def dWhile (c : DTT) (db : DTS) : DTS := fun E s => ∃ I : Nat → DS → Prop, (∃ m, I m s) ∧ ∀ m s, I m s → goW c db E { E with nx := fun s' => ∃ m', m' < m ∧ I m' s', ct := fun s' => ∃ m', m' < m ∧ I m' s', bk := E.nx } s
theorem Zhz {c : TT} {tb : TS} {dc : DTT} {db : DTS} (hc : RT K c dc) (hb : RS K tb db) : RS K (tWhile c tb) (dWhile dc db) := by
 intro G s σ H D E r p z
 obtain ⟨I, ⟨m, h0⟩, h1⟩ := z
 refine ⟨fun m σ H => ∃ G' s', Same G G' ∧ Rel K G' s' σ H ∧ I m s', ⟨m, G, s, Same.refl G, r, h0⟩, ?_⟩
 rintro m σ H ⟨G1, s1, e1, r1, hI⟩
 refine hc.ok G1 s1 σ H _ r1 (hc.mo _ _ _ (fun b s2 z G2 H2 e2 r2 => ?_) (h1 m s1 hI))
 cases b
 ·exact p.nx s2 G2 σ H2 (e1.trans e2) r2 z
 ·refine ⟨fun σ' H' => ∃ m', m' < m ∧ ∃ G' s', Same G G' ∧ Rel K G' s' σ' H' ∧ I m' s', fun σ' H' q => q, ?_⟩
  have E2 := e1.trans e2
  exact hb G2 s2 σ H2 _ { E with nx := fun s' => ∃ m', m' < m ∧ I m' s', ct := fun s' => ∃ m', m' < m ∧ I m' s', bk := E.nx } r2 ⟨fun s' G3 σ3 H3 e3 r3 ⟨m', hm, z⟩ => ⟨m', hm, G3, s', E2.trans e3, r3, z⟩, fun v s' G3 σ3 H3 x e3 => p.rt v s' G3 σ3 H3 x (E2.trans e3), fun s' G3 σ3 H3 e3 => p.nx s' G3 σ3 H3 (E2.trans e3), fun s' G3 σ3 H3 e3 r3 ⟨m', hm, z⟩ => ⟨m', hm, G3, s', E2.trans e3, r3, z⟩⟩ z
noncomputable abbrev DSp := List Val → OW → (Val → OW → Prop) → Prop
noncomputable def spD (K : PySem.W.Frag) (f : DSp) : Sp := fun vs H Q _ => ∃ (G : Hp) (w : OW) (as : List Val), Same G H ∧ OwnOk K G w H ∧ VRs K G as vs ∧ f as w (fun v w' => ∀ G' H' x, Same G G' → Same G' H' → OwnOk K G' w' H' → VR K G' v x → Q x H')
noncomputable def dCall (f : DSp) (da : DTA) : DTE := fun s k => da s fun vs s1 => f vs s1.w (fun v w' => k v ⟨s1.e, w'⟩)
noncomputable def MoS (f : DSp) : Prop := ∀ vs w (k k' : Val → OW → Prop), (∀ v w', k v w' → k' v w') → f vs w k → f vs w k'
theorem Zb1 {f : DSp} {t : TA} {da : DTA} (hm : MoS f) (ha : RA K t da) : RE K (tCall (spD K f) [] E0 t) (dCall f da) := by
 refine ⟨fun s Q Q' z q => ha.mo _ _ _ (fun vs s1 q => hm vs s1.w _ _ (fun v w' q => z _ _ q) q) q, fun G s σ H Q r q => ha.ok G s σ H _ r (ha.mo _ _ _ (fun vs s1 q G1 H1 xs e1 r1 v1 => ?_) q)⟩
 refine ⟨G1, s1.w, vs, r1.sub, r1.own, by rw [List.append_nil]; exact v1, hm vs s1.w _ _ (fun v w' q G2 H2 x e2 s2 o2 x2 => ?_) q⟩
 exact q G2 H2 x (e1.trans e2) ⟨s2, o2, r1.sl.same e2⟩ x2
theorem VRs.get {vs : List Val} {xs : List V} (h : VRs K G vs xs) (i : Nat) : (∃ v x, vs[i]? = some v ∧ xs[i]? = some x ∧ VR K G v x) ∨ (vs[i]? = none ∧ xs[i]? = none) := by
 induction h generalizing i with
 | nil => exact .inr ⟨rfl, rfl⟩
 | cons a t ih =>
  cases i with
  | zero => exact .inl ⟨_, _, rfl, rfl, a⟩
  | succ i => simpa using ih i
theorem VRs.pick {na nk : Nat} {pick : List (Bool × Nat)} {vs us : List Val} {xs ys : List V} (h : VRs K G vs xs) (q : VRs K G us ys) : VRs K G (gaP na nk pick vs us) (gaP na nk pick xs ys) := by
 unfold gaP
 rw [h.length, q.length]
 split
 ·induction pick with
  | nil => exact .nil
  | cons p t ih =>
   rw [List.filterMap_cons, List.filterMap_cons]
   cases p.1 with
   | true =>
    rcases h.get p.2 with ⟨a, b, e1, e2, z⟩ | ⟨e1, e2⟩
    ·simp only [if_true, e1, e2]; exact .cons z ih
    ·simp only [if_true, e1, e2]; exact ih
   | false =>
    rcases q.get p.2 with ⟨a, b, e1, e2, z⟩ | ⟨e1, e2⟩
    ·simp only [Bool.false_eq_true, if_false, e1, e2]; exact .cons z ih
    ·simp only [Bool.false_eq_true, if_false, e1, e2]; exact ih
 ·exact .nil
noncomputable def dCallK (f : DSp) (na nk : Nat) (pick : List (Bool × Nat)) (da dk : DTA) : DTE := fun s k => da s fun vs s1 => dk s1 fun us s2 => f (gaP na nk pick vs us) s2.w (fun v w' => k v ⟨s2.e, w'⟩)
noncomputable def startD (N : List Str) (as : List Val) : List (Option Val) := as.map some ++ List.replicate (N.length - as.length) none
theorem Zdp {N : List Str} {as : List Val} {vs : List V} (h : VRs K G as vs) : SL K G (startD N as) (start N vs) := by
 refine ⟨by simp [startD, start, h.length], fun i v e => ?_⟩
 unfold startD at e
 have hl : i < as.length := by
  refine Decidable.byContradiction fun hn => ?_
  rw [List.getElem?_append_right (by simpa using Nat.le_of_not_lt hn)] at e
  obtain ⟨_, e2⟩ := List.getElem?_eq_some_iff.mp e
  rw [List.getElem_replicate] at e2
  cases e2
 rw [List.getElem?_append_left (by simpa using hl), List.getElem?_map] at e
 rcases h.get i with ⟨a, x, e1, e2, r⟩ | ⟨e1, e2⟩
 ·rw [e1] at e
  cases e
  refine ⟨x, ?_, r⟩
  unfold start
  rw [List.getElem?_append_left (by rw [lmp, ← h.length]; exact hl), List.getElem?_map, e2]; rfl
 ·rw [e1] at e; cases e
noncomputable def Own.up : Own → Own → Prop
 | .urn m', .urn m => m' ≤ m
 | o', o => o' = o
theorem Own.up.refl (o : Own) : Own.up o o := by cases o <;> simp [Own.up]
theorem Own.up.trans {a b c : Own} (h : Own.up a b) (q : Own.up b c) : Own.up a c := by
 cases a <;> cases b <;> cases c <;> simp_all [Own.up]
 omega
noncomputable def OW.le (w w' : OW) : Prop := ∀ a o, w a = some o → ∃ o', w' a = some o' ∧ Own.up o' o
theorem OW.le.refl (w : OW) : w.le w := fun _ o h => ⟨o, h, Own.up.refl o⟩
theorem OW.le.trans {a b c : OW} (h : a.le b) (q : b.le c) : a.le c := fun x o e => by
 obtain ⟨o1, e1, u1⟩ := h x o e
 obtain ⟨o2, e2, u2⟩ := q x o1 e1
 exact ⟨o2, e2, u2.trans u1⟩
theorem OW.le.free {w w' : OW} (h : w.le w') {p : Addr} (q : w' p = none) : w p = none := by
 cases e : w p with
 | none => rfl
 | some o => obtain ⟨o', e1, _⟩ := h p o e; rw [e1] at q; cases q
theorem OW.le.put {w w' : OW} (h : w.le w') {p : Addr} (q : w p = none) (o : Own) : w.le (w'.put p o) := fun a u e => by
 have n : a ≠ p := fun z => by rw [z, q] at e; cases e
 rw [OW.put_ne n]; exact h a u e
theorem OW.le.new {w w' : OW} (h : w.le w') {p : Addr} (q : w' p = none) (o : Own) : w.le (w'.put p o) := h.put (h.free q) o
theorem OW.le.urn {w w' : OW} {u : Addr} {m m' : Nat} (h : (w.put u (.urn m)).le w') (le : m ≤ m') : (w.put u (.urn m')).le w' := fun a o e => by
 by_cases z : a = u
 ·subst z
  rw [OW.put_same] at e; cases e
  obtain ⟨o1, e1, u1⟩ := h a _ OW.put_same
  refine ⟨o1, e1, ?_⟩
  cases o1 <;> simp [Own.up] at u1 ⊢
  omega
 ·rw [OW.put_ne z] at e
  exact h a o (by rw [OW.put_ne z]; exact e)
noncomputable def OW.del (w : OW) (a : Addr) : OW := fun b => if b = a then none else w b
theorem OW.del_ne {w : OW} {a b : Addr} (h : b ≠ a) : w.del a b = w b := by simp [OW.del, h]
theorem OW.le.del {w w' : OW} (h : w.le w') {p : Addr} (q : w p = none) : w.le (w'.del p) := fun a u e => by
 have n : a ≠ p := fun z => by rw [z, q] at e; cases e
 rw [OW.del_ne n]; exact h a u e
theorem OwnAt.up {a : Addr} {o o' : Own} (h : OwnAt K G H a o') (u : Own.up o' o) : OwnAt K G H a o := by
 cases o' <;> cases o <;> simp only [Own.up] at u <;> first | exact Urn.mono h u | (cases u; exact h) | cases u
theorem OwnOk.le {w w' : OW} (h : OwnOk K G w' H) (q : w.le w') : OwnOk K G w H := fun a o e => by
 obtain ⟨o', e1, u⟩ := q a o e
 exact ⟨(h a o' e1).1, (h a o' e1).2.up u⟩
theorem Dn.data {P : Program} {w : World} {mg : Str → Option Value} {base : Heap} {x : Str} {st : Stmt} {N ps : List Str} {k : Nat} {f : DSp} (U : ∃ a fd, Fun K x x st a fd ∧ mg x = some (.ref a)) (S : FnScope N ps (defScope st)) (len : ∀ vs w k, f vs w k → vs.length = ps.length)
  (hbody : ∀ (a : Addr) (cdv : Value) (A : Around) (outer : List Env) (s : Shared) (H : Hp) (E : XK), Room k (A.deeper (envOfC x (defScope st) s.heap.objs.size a cdv)) →
   ∃ t d, PSs (cxOf CX0 P w K mg base N x (defScope st) a cdv A outer s H E).nox (defBody st) t ∧ RS K t d ∧ ∀ (as : List Val) (o : OW) (q : Val → OW → Prop), f as o q → d { nx := fun s => ∃ w', OW.le w' s.w ∧ q (.d .none) w', rt := fun v s => ∃ w', OW.le w' s.w ∧ q v w' } ⟨startD N as, o⟩) : Dn P w K mg base (k + 1) x st ps (spD K f) := by
 refine Dn.of U S (fun vs H Q E h => ?_) (fun a cdv A outer s H vs Q E hr h => ?_)
 ·obtain ⟨G, o, as, _, _, h1, h2⟩ := h
  rw [← h1.length]; exact len _ _ _ h2
 ·obtain ⟨G, o, as, h1, h2, h3, h4⟩ := h
  obtain ⟨t, d, q1, q2, q3⟩ := hbody a cdv A outer s H E hr
  refine ⟨t, q1, q2 G ⟨startD N as, o⟩ (start N vs) H _ { nx := fun s => ∃ w', OW.le w' s.w ∧ _, rt := fun v s => ∃ w', OW.le w' s.w ∧ _ } ⟨h1, h2, Zdp h3⟩ ⟨fun s' G' σ' H' e r z => ?_, fun v s' G' σ' H' x e r v1 z => ?_, fun _ _ _ _ _ _ z => False.elim z, fun _ _ _ _ _ _ z => False.elim z⟩ (q3 as o _ h4)⟩
  ·obtain ⟨w', l, z⟩ := z
   exact z G' H' .non e r.sub (r.own.le l) Zff
  ·obtain ⟨w', l, z⟩ := z
   exact z G' H' x e r.sub (r.own.le l) v1
end
end L2
namespace L2
open PySem PySem.Spec PyProof.Rows
section
variable {X : Cx} {K : PySem.W.Frag} {G G' H H' : Hp} {s : DS} {σ : St}
noncomputable def TyW (K : PySem.W.Frag) (H : Hp) (x : V) (t : Value) : Prop := TyOf K H x t ∨ ∃ a ys, x = .ref a ∧ SqT K H a ys ∧ t = .type "tuple"
theorem Zeu : CallR X (.builtin "isinstance") (fun xs H Q => ∃ x t c b, xs = [x, .ty c] ∧ TyW X.K H x t ∧ PySem.W.kitOne X.K t (.type c) = some b ∧ Q (.bl b) H) := by
 rintro pins s σ H xs us Q I r ⟨x, t, c, b, rfl, ty, e, q⟩
 rcases ty with ty | ⟨a, ys, rfl, hs, rfl⟩
 ·exact Zhb pins s σ H _ us Q I r ⟨x, t, c, b, rfl, ty, e, q⟩
 ·obtain ⟨u, w, rfl, rx, rc⟩ := vals2 r
  cases (show w = Value.type c from rc)
  cases (show u = Value.ref a from rx)
  obtain ⟨its, _, ⟨o, h1, h2, _⟩, _⟩ := I.tuple hs
  exact PySem.W.kia_one PySem.W.kitx_tuple I.kIn ⟨o, h1, h2⟩ e (fun z => nomatch z) fun tk => ⟨.bl b, H, I.tok _, rfl, q⟩
theorem Zg4 (h : X.K = K) : CallR X (.builtin "isinstance") (fun xs H Q => ∃ x t c b, xs = [x, .ty c] ∧ TyW K H x t ∧ PySem.W.kitOne K t (.type c) = some b ∧ Q (.bl b) H) := h ▸ Zeu
theorem Zkt (r : Rel K G s σ H) {v : Val} {x : V} {d : PyData} (q : VR K G v x) (e : rdD s.w v = some d) : TyW K H x (.type (tyN d)) := by
 unfold rdD at e
 split at e
 ·cases e
  cases d with
  | none => rw [show x = .non from by unfold VR at q; exact DW.none_inv q]; exact .inl .non
  | bool b => rw [Zi6 q]; exact .inl (.bl b)
  | int i => rw [Zax q]; exact .inl (.int i)
  | str x => rw [Ze8 q]; exact .inl (.str x)
  | list ds => obtain ⟨a, xs, rfl, h1, _⟩ := Zfe q; exact .inl (.lst (r.sub _ _ h1))
  | tuple ds => obtain ⟨a, xs, rfl, h1, _⟩ := Zh8 q; exact .inr ⟨a, xs, rfl, r.sub.tup h1, rfl⟩
  | dict kvs =>
   unfold VR DW at q
   obtain ⟨a, ks, rfl, h1, _⟩ := q
   exact .inl (.dT (r.sub _ _ h1))
 ·next a =>
  split at e
  ·next z =>
   cases e
   cases (show x = .ref a from q)
   obtain ⟨_, xs, h1, _⟩ := r.own a _ z
   exact .inl (.lst h1)
  ·cases e
 ·cases e
theorem Zif : RC K (fun xs H Q => ∃ x t c b, xs = [x, .ty c] ∧ TyW K H x t ∧ PySem.W.kitOne K t (.type c) = some b ∧ Q (.bl b) H) (f2 fIsi) := by
 refine rc2 (fun v w s Q Q' h q => ?_) (fun G s σ H x y v w Q r v1 v2 h => ?_)
 ·unfold fIsi at q ⊢; split at q
  ·obtain ⟨b, h1, h2⟩ := q; exact ⟨b, h1, h _ _ h2⟩
  ·exact q.elim
 ·unfold fIsi at h; split at h
  ·next d c e =>
   obtain ⟨b, h1, h2⟩ := h
   cases (show y = .ty c from v2)
   exact ⟨x, _, c, b, rfl, Zkt r v1 e, h1 K, h2.here r Zet⟩
  ·exact h.elim
theorem Zh6 (r : Rel K G s σ H) {a : Addr} {ds : List PyData} (h : s.w a = some (.lst ds)) : tyV K "list" (.ref a) H := by
 obtain ⟨_, xs, h1, _⟩ := r.own a _ h
 exact .inl ⟨rfl, xs, SqL.of h1⟩
noncomputable def dApp (d : DTE) (da : DTA) : DTE := fun s k => d s fun v s1 => match v with
 | .own a => (∃ ds, s1.w a = some (.lst ds)) ∧ da s1 fun vs s2 => match vs with
  | [.d y] => ∃ ds, s2.w a = some (.lst ds) ∧ ds.length < sizeLine ∧ k (.d .none) (s2.put a (.lst (ds ++ [y])))
  | _ => False
 | _ => False
theorem Zkk {to : TE} {t : TA} {d : DTE} {da : DTA} (h : RE K to d) (ha : RA K t da) : RE K (tBM K "list" rAppend to t) (dApp d da) := by
 refine ⟨fun s Q Q' z q => h.mo _ _ _ (fun v s1 q => ?_) q, fun G s σ H Q r q => h.ok G s σ H _ r (h.mo _ _ _ (fun v s1 q G1 H1 x e1 r1 v1 => ?_) q)⟩
 ·split at q
  ·refine ⟨q.1, ha.mo _ _ _ (fun vs s2 q => ?_) q.2⟩
   split at q
   ·obtain ⟨ds, h1, h2, h3⟩ := q; exact ⟨ds, h1, h2, z _ _ h3⟩
   ·exact q.elim
  ·exact q.elim
 ·split at q
  ·next a =>
   cases (show x = .ref a from v1)
   obtain ⟨⟨ds0, h0⟩, q⟩ := q
   refine ⟨Zh6 r1 h0, ha.ok G1 s1 σ H1 _ r1 (ha.mo _ _ _ (fun vs s2 q G2 H2 xs e2 r2 v2 => ?_) q)⟩
   split at q
   ·next y =>
    obtain ⟨u, rfl, vy⟩ := v2.one
    obtain ⟨ds, h1, h2, h3⟩ := q
    obtain ⟨_, ys, h4, h5⟩ := r2.own a _ h1
    refine ⟨a, ys, u, rfl, rfl, h4, by rw [← h5.length]; exact h2, h3 G2 _ .non (e1.trans e2) (r2.chg h1 ?_) Zff⟩
    exact ⟨ys ++ [u], Zar, h5.snoc vy⟩
   ·exact q.elim
  ·exact q.elim
noncomputable def dExt (d : DTE) (da : DTA) : DTE := fun s k => d s fun v s1 => match v with
 | .own a => (∃ ds, s1.w a = some (.lst ds)) ∧ da s1 fun vs s2 => match vs with
  | [u] => ∃ ds es, s2.w a = some (.lst ds) ∧ rdM s2.w u = some es ∧ ds.length + es.length ≤ sizeLine ∧ k (.d .none) (s2.put a (.lst (ds ++ es)))
  | _ => False
 | _ => False
noncomputable def dRvs (d : DTE) : DTE := fun s k => d s fun v s1 => match v with
 | .own a => ∃ ds, s1.w a = some (.lst ds) ∧ k (.d .none) (s1.put a (.lst ds.reverse))
 | _ => False
theorem Zkl {to : TE} {d : DTE} (h : RE K to d) : RE K (tBM0 K "list" rReverse to) (dRvs d) := by
 refine ⟨fun s Q Q' z q => h.mo _ _ _ (fun v s1 q => ?_) q, fun G s σ H Q r q => h.ok G s σ H _ r (h.mo _ _ _ (fun v s1 q G1 H1 x e1 r1 v1 => ?_) q)⟩
 ·split at q
  ·obtain ⟨ds, h1, h2⟩ := q; exact ⟨ds, h1, z _ _ h2⟩
  ·exact q.elim
 ·split at q
  ·next a =>
   cases (show x = .ref a from v1)
   obtain ⟨ds, h1, h2⟩ := q
   obtain ⟨_, ys, h4, h5⟩ := r1.own a _ h1
   refine ⟨Zh6 r1 h1, a, ys, rfl, rfl, h4, h2 G1 _ .non e1 (r1.chg h1 ?_) Zff⟩
   exact ⟨ys.reverse, Zar, h5.reverse⟩
  ·exact q.elim
theorem Zhf : fillsInplaceSlot (.type "list") "add" (Operator.Add == .Add) = pure false := by
 unfold fillsInplaceSlot
 show (typeLookup (.type "list") (dunderI "add") >>= fun fi => pure (fi.isSome && !isSeqSlot fi)) = pure false
 rw [PySem.F.slot_list_iadd.lookup]
 rw [pure_bind]
 have e : ((some (Value.builtin "list.__iadd__")).isSome && !isSeqSlot (some (Value.builtin "list.__iadd__"))) = false := by decide +kernel
 rw [e]
theorem Zcz {M : Model} {A : Around} {E : Value → Shared → Prop} {s : Shared} {a b : Value} {Q : Value → Shared → Prop} (ha : s.TypeIs a "list") (hb : s.TypeIs b "list") (hc : wpAny M A (call (.builtin "list.__iadd__") [a, b]) Q E s) : wpAny M A (inplaceOp .Add a b) Q E s := by
 unfold inplaceOp
 refine wpAny_holding ?_
 refine wpAny_bind (wpAny_typeOf ha (wpAny_bind (wpAny_of_eq Zhf ?_)))
 show wpAny M A (if false = true then _ else _) Q E s
 rw [if_neg Bool.false_ne_true]
 refine wpAny_bind (wpAny_binaryOp1_none (nm := "add") ha hb noFill_list_add ?_)
 refine wpAny_bind (wpAny_of_eq (PySem.seqSlot_of PySem.F.slot_list_iadd.lookup (by decide +kernel)) ?_)
 exact wpAny_bind (wpAny_rule hc)
noncomputable def ipL : TIp := fun x y H Q => ∃ l b xs zs, x = .ref l ∧ y = .ref b ∧ H l = some (.lst xs) ∧ H b = some (.lst zs) ∧ xs.length + zs.length ≤ sizeLine ∧ Q (.ref l) (upd H l (.lst (xs ++ zs)))
theorem Ziv : PIp X .Add ipL := by
 intro pins s σ H x y v u Q I rx ry h
 obtain ⟨l, b, xs, zs, rfl, rfl, hH, hB, hz, q⟩ := h
 cases (show v = Value.ref l from rx)
 cases (show u = Value.ref b from ry)
 obtain ⟨z, its, n, r, hl, e⟩ := I.lstM hH
 obtain ⟨z2, its2, n2, r2, hl2, e2⟩ := I.lstM hB
 have hsz : its.toArray.size + its2.toArray.size ≤ sizeLine := by rw [List.size_toArray, List.size_toArray]; omega
 have hlong : ¬ (!its.toArray.isEmpty && Builtin.List.listTooLong (its.toArray.size + its2.toArray.size)) = true := by
  rw [notLongL hsz, Bool.and_false]
  exact Bool.false_ne_true
 refine Zcz ⟨_, e, rfl⟩ ⟨_, e2, rfl⟩ ?_
 refine call_meets PySem.F.slot_list_iadd ⟨_, e, rfl⟩ PySem.F.entry_list_iadd (PySem.F.args_list_iadd_2 _ _)
  (AutoSeq1.list___iadd___list_list_0 l its.toArray n b its2.toArray n2 hlong (by rw [List.size_toArray]; omega) (by omega)) ⟨e, e2, ?_⟩
 refine ⟨.ref l, _, I.lset (its' := its ++ its2) hH e (by simp) (r.append r2) ?_, rfl, q⟩
 rw [List.length_append]
 omega
noncomputable def dAugL (i : Nat) (d : DTE) : DTS := fun E s => match s.e[i]? with
 | some (some (.own a)) => d s fun v s1 => ∃ ds es, s1.w a = some (.lst ds) ∧ rdM s1.w v = some es ∧ ds.length + es.length ≤ sizeLine ∧ E.nx ((s1.put a (.lst (ds ++ es))).set i (.own a))
 | _ => False
theorem Zjk {i : Nat} {te : TE} {d : DTE} (h : RE K te d) : RS K (tAug i te ipL) (dAugL i d) := by
 intro G s σ H D E r p q
 unfold dAugL at q
 split at q
 ·next a z =>
  obtain ⟨x, hx, vx⟩ := r.sl.2 i _ z
  cases (show x = .ref a from vx)
  refine ⟨_, hx, h.ok G s σ H _ r (h.mo _ _ _ (fun v s1 q G1 H1 y e1 r1 v1 => ?_) q)⟩
  obtain ⟨ds, es, h1, h2, h3, h6⟩ := q
  obtain ⟨_, ys, h4, h5⟩ := r1.own a _ h1
  obtain ⟨b, zs, rfl, h7, h8⟩ := r1.rdM v1 h2
  refine ⟨a, b, ys, zs, rfl, rfl, h4, h7, by rw [← h5.length, ← h8.length]; exact h3, p.nx _ G1 _ _ e1 ((r1.chg h1 (u := .lst (ds ++ es)) ?_).set (v := .own a) rfl i) h6⟩
  exact ⟨ys ++ zs, Zar, h5.append h8⟩
 ·exact q.elim
noncomputable def dAugI (f : Int → Int → Int) (i : Nat) (d : DTE) : DTS := fun E s => match s.e[i]? with
 | some (some (.d (.int a))) => d s fun v s1 => match v with | .d (.int b) => E.nx (s1.set i (.d (.int (f a b)))) | _ => False
 | _ => False
noncomputable def dFrz (i : Nat) : DTE := fun s k => match s.e[i]? with
 | some (some (.own a)) => ∃ ds, s.w a = some (.lst ds) ∧ k (.d (.list ds)) ⟨s.e.set i (some (.d (.list ds))), s.w.del a⟩
 | _ => False
theorem Zfo {c : Expr} {body : List Stmt} {tc : TT} {tb : TS} {pos : Pos} (hp : PassesOwn (model X.prog X.w) X.A X.env X.xe) (hc : IPT X c tc) (hb : IPSs X body tb) : IPS X (.While c body [] pos) (tWhile tc tb) := by
 simp only [Zaa, Za8, Za5] at *
 exact Zhs hp hc hb
theorem Zhj {i : Nat} {x : Str} {e : Expr} {te : TE} {op : Operator} {ti : TIp} {pos pos' : Pos} (hN : X.N.Nodup) (hi : X.N[i]? = some x) (hx : Loc X.env.scope x) (he : IPE X e te) (ho : PIp X op ti) (hf : X.fn x = true ∨ X.env.scope.names.lookup x = some .local := by first | exact .inl rfl | exact .inr rfl | assumption) :
  IPS X (.AugAssign (.Name x pos') op e pos) (tAug i te ti) := by
 rw [Za8]; rw [Za9] at he
 exact Zkb hN hi hx he ho hf
theorem Zd4 {a : Expr} {ta : TE} (ha : IPE X a ta) (he : ∀ whole, isTrue a X.env whole = (do let v ← whole; standAt a.pos; holding [v] (truthy v)) := by intro _; rfl) :
  IPT X a (fun σ H Q => ta σ H fun x H' => ∃ k, TruV X.K x H' k ∧ Q k H') := by
 rw [Zaa]; rw [Za9] at ha
 exact Zhu ha he
theorem Zeh {a : Expr} {ta : TE} (h : X.K = K) (ha : IPE X a ta) (he : ∀ whole, isTrue a X.env whole = (do let v ← whole; standAt a.pos; holding [v] (truthy v)) := by intro _; rfl) :
  IPT X a (fun σ H Q => ta σ H fun x H' => ∃ k, TruV K x H' k ∧ Q k H') := h ▸ Zd4 ha he
theorem Zge {es : List Expr} {k : Nat} {t : TGs} {n : Nat} {pos : Pos} (h : X.K = K) (hc : X.calm = true) (hh : IPGs X es t) (hn : (assignEach es X.env).length = n := by rfl) (hst : (assignEach es X.env).findIdx? (·.1) = none := by rfl) : IPG X (.Tuple es k pos) (gTup K n t) := h ▸ Zhi hc hh hn hst
noncomputable def gMax (t : Bool) : Val → DTE := fun v s k => match (if t then rdT v else rdL s.w v) with | some ds => (match uIs ds with | some ns => ns ≠ [] ∧ ∀ m, m ∈ ns → (∀ x ∈ ns, x ≤ m) → k (.d (.int m)) s | none => False) | none => False
noncomputable def gMin (t : Bool) : Val → DTE := fun v s k => match (if t then rdT v else rdL s.w v) with | some ds => (match uIs ds with | some ns => ns ≠ [] ∧ ∀ m, m ∈ ns → (∀ x ∈ ns, m ≤ x) → k (.d (.int m)) s | none => False) | none => False
noncomputable def gInt1 : Val → DTE := fun v s k => match v with | .d (.int i) => k (.d (.int i)) s | .d (.bool b) => k (.d (.int (if b then 1 else 0))) s | _ => False
noncomputable def pureS (P : List Val → PyData → Prop) : DSp := fun vs w k => ∃ r, P vs r ∧ k (.d r) w
theorem Zhn {P : List Val → PyData → Prop} : MoS (pureS P) := fun vs w k k' h ⟨r, p, q⟩ => ⟨r, p, h _ _ q⟩
theorem Zhv {P : List Val → PyData → Prop} {n : Nat} (h : ∀ vs r, P vs r → vs.length = n) : ∀ vs w k, pureS P vs w k → vs.length = n := fun vs w k ⟨r, p, _⟩ => h vs r p
noncomputable def spLaw (K : PySem.W.Frag) : Sp := fun vs H Q _ => ∃ (a : Addr) (ns : List Int), vs = [.ref a] ∧ SqL K H a (ns.map V.int) ∧ ns.length ≤ 63 ∧ ∀ H', Q (.bl true) H'
theorem Zhl {P : Program} {w : World} {mg : Str → Option Value} {base : Heap} {st : Stmt} {N : List Str} {fa : Addr} {fd : FuncData} (F : Fun K "law" "law" st fa fd) (S : FnScope N ["_law_script"] (defScope st))
  (hbody : ∀ (cdv : Value) (A : Around) (outer : List Env) (s : Shared) (H : Hp) (E : XK), Room 39 (A.deeper (envOfC "law" (defScope st) s.heap.objs.size fa cdv)) →
   ∃ t d, PSs (cxOf CX0 P w K mg base N "law" (defScope st) fa cdv A outer s H E).nox (defBody st) t ∧ RS K t d ∧ ∀ ns : List Int, ns.length ≤ 63 → d { nx := fun _ => False, rt := fun v _ => v = .d (.bool true) } ⟨startD N [.scr ns], fun _ => none⟩) : FnOk P w K mg base CX0 40 fa fd ["_law_script"] (spLaw K) := by
 refine F.ok (k := 39) S (fun vs H Q E h => ?_) (fun cdv A outer s H vs Q E hr h => ?_)
 ·obtain ⟨a, ns, rfl, _⟩ := h; rfl
 ·obtain ⟨a, ns, rfl, hS, h63, q⟩ := h
  obtain ⟨t, d, q1, q2, q3⟩ := hbody cdv A outer s H E hr
  refine ⟨t, q1, q2 H ⟨startD N [.scr ns], fun _ => none⟩ (start N [.ref a]) H _ { nx := fun _ => False, rt := fun v _ => v = .d (.bool true) } ⟨Same.refl H, (fun _ _ z => nomatch z), Zdp (VRs.cons (v := .scr ns) (show VR K H (.scr ns) (.ref a) from ⟨a, rfl, hS⟩) .nil)⟩ ⟨fun _ _ _ _ _ _ z => False.elim z, fun v s' G' σ' H' x e r v1 z => ?_, fun _ _ _ _ _ _ z => False.elim z, fun _ _ _ _ _ _ z => False.elim z⟩ (q3 ns h63)⟩
  have z' : v = .d (.bool true) := z
  subst z'
  rw [Zi6 v1]
  exact q H'
noncomputable def dsUrn : DSp := fun vs w k => match vs with
 | [.scr ns, .d (.int i)] => (0 ≤ i ∧ i ≤ 100) ∧ ∀ r, w r = none → k (.own r) (w.put r (.urn 0))
 | _ => False
noncomputable def dsDraw : DSp := fun vs w k => match vs with
 | [.own u, .d (.int wd)] => ∃ m, w u = some (.urn m) ∧ (m ≤ 1000000 ∧ 0 < wd ∧ wd < 1073741824) ∧ ∀ d : Int, 0 ≤ d → d < wd → k (.d (.int d)) (w.put u (.urn (m + 1)))
 | _ => False
theorem Ziy : MoS dsUrn := fun vs w k k' h q => by
 unfold dsUrn at q ⊢; split at q
 ·exact ⟨q.1, fun r hr => h _ _ (q.2 r hr)⟩
 ·exact q.elim
theorem Zhm : MoS dsDraw := fun vs w k k' h q => by
 unfold dsDraw at q ⊢; split at q
 ·obtain ⟨m, h1, h2, h3⟩ := q; exact ⟨m, h1, h2, fun d a b => h _ _ (h3 d a b)⟩
 ·exact q.elim
theorem Zjn {vs : List V} {Q : VK} {E : XK} (h : spD K dsUrn vs H Q E) : spUrn K vs H Q E := by
 obtain ⟨G, w, as, h1, h2, h3, h4⟩ := h
 unfold dsUrn at h4
 split at h4
 ·next ns i =>
  obtain ⟨x, y, rfl, v1, v2⟩ := h3.two
  obtain ⟨a, rfl, hs⟩ := v1
  refine ⟨a, ns, i, by rw [Zax v2], h1.seq hs, h4.1.1, h4.1.2, fun r H' s' hr U => ?_⟩
  have r0 : Rel K G ⟨[], w⟩ [] H := ⟨h1, h2, ⟨rfl, fun i v e => by simp at e⟩⟩
  have wr : w r = none := r0.free hr
  refine h4.2 r wr G H' (.ref r) (Same.refl G) (h1.trans s') (fun b o q => ?_) rfl
  by_cases e : b = r
  ·subst e
   rw [OW.put_same] at q; cases q
   exact ⟨h1.free hr, U⟩
  ·rw [OW.put_ne e] at q
   obtain ⟨u, hu⟩ := (h2 b o q).2.there
   exact ⟨(h2 b o q).1, (h2 b o q).2.mono (Same.refl G) (by rw [s' _ _ hu, hu])⟩
 ·exact h4.elim
theorem Zhd {vs : List V} {Q : VK} {E : XK} (h : spD K dsDraw vs H Q E) : spDraw vs H Q E := by
 obtain ⟨G, w, as, h1, h2, h3, h4⟩ := h
 unfold dsDraw at h4
 split at h4
 ·next u wd =>
  obtain ⟨x, y, rfl, v1, v2⟩ := h3.two
  cases (show x = .ref u from v1)
  obtain ⟨m, hm, ⟨m1, m2, m3⟩, q⟩ := h4
  obtain ⟨gu, U⟩ := h2 u _ hm
  refine ⟨u, wd, m, by rw [Zax v2], U, m1, m2, m3, fun d H' d0 d1 sb U' => ?_⟩
  refine q d d0 d1 G H' (.int d) (Same.refl G) (fun b o z => ?_) (fun b o z => ?_) Zcy
  ·exact sb b o (fun e => by rw [e, gu] at z; cases z) (h1 _ _ z)
  ·by_cases e : b = u
   ·subst e
    rw [OW.put_same] at z; cases z
    exact ⟨gu, U'⟩
   ·rw [OW.put_ne e] at z
    obtain ⟨v, hv⟩ := (h2 b o z).2.there
    exact ⟨(h2 b o z).1, (h2 b o z).2.mono (Same.refl G) (by rw [sb b v e hv, hv])⟩
 ·exact h4.elim
theorem Dn.imp {P : Program} {w : World} {mg : Str → Option Value} {base : Heap} {k : Nat} {x : Str} {st : Stmt} {ps : List Str} {sp sp' : Sp} (D : Dn P w K mg base k x st ps sp) (h : ∀ vs H Q E, sp' vs H Q E → sp vs H Q E) : Dn P w K mg base k x st ps sp' := by
 obtain ⟨f, fd, F, U, m⟩ := D.ex
 exact ⟨f, fd, F.imp h, U, m⟩
end
end L2
namespace L2
open PySem PySem.Spec PyProof.Rows
section
variable {Y : Cx}
end
section
variable {X : Cx}
end
end L2
namespace L2
open PySem PySem.Spec PyProof.Rows
noncomputable def dget (kvs : List (List Int × PyData)) (k : List Int) : Option PyData := (kvs.find? fun p => decide (p.1 = k)).map (·.2)
noncomputable def dput (kvs : List (List Int × PyData)) (k : List Int) (v : PyData) : List (List Int × PyData) :=
 if (kvs.any fun p => decide (p.1 = k)) = true then kvs.map (fun p => if p.1 = k then (p.1, v) else p) else kvs ++ [(k, v)]
section
variable {K : PySem.W.Frag} {G G' H H' : Hp} {s : DS} {σ : St}
theorem Zej {a b : List Int} : a.map (Sum.inl : Int → Key) = b.map Sum.inl ↔ a = b :=
 ⟨fun h => List.map_inj_right (fun _ _ e => Sum.inl.inj e) |>.mp h, fun h => by rw [h]⟩
theorem Zb7 : ∀ {kvs : List (List Int × PyData)} {ks : List (List Key × V)}, DWk K G (kvK kvs) ks →
  (kvs = [] ∧ ks = []) ∨ ∃ k d r x t, kvs = (k, d) :: r ∧ ks = (k.map Sum.inl, x) :: t ∧ DW K G d x ∧ DWk K G (kvK r) t
 | [], ks, h => by
  unfold kvK at h
  rw [List.map_nil] at h
  unfold DWk at h
  exact .inl ⟨rfl, h⟩
 | (k, d) :: r, ks, h => by
  unfold kvK at h
  rw [List.map_cons] at h
  unfold DWk at h
  obtain ⟨ns, x, t, e1, e2, h1, h2⟩ := h
  have e : k = ns := by
   unfold tI at e2
   have := PyData.tuple.inj e2
   exact (List.map_inj_right (fun _ _ e => PyData.int.inj e)).mp this
  subst e
  exact .inr ⟨k, d, r, x, t, rfl, e1, h1, h2⟩
theorem DWk.cons' {k : List Int} {d : PyData} {r : List (List Int × PyData)} {x : V} {t : List (List Key × V)} (h1 : DW K G d x) (h2 : DWk K G (kvK r) t) : DWk K G (kvK ((k, d) :: r)) ((k.map Sum.inl, x) :: t) := by
 show DWk K G ((tI k, d) :: kvK r) _
 unfold DWk
 exact ⟨k, x, t, rfl, rfl, h1, h2⟩
theorem DWk.nil' : DWk K G (kvK []) [] := by
 show DWk K G [] []
 unfold DWk; rfl
theorem DWk.get : ∀ {kvs : List (List Int × PyData)} {ks : List (List Key × V)} {k : List Int}, DWk K G (kvK kvs) ks →
  (dget kvs k = none ∧ valV ks (k.map Sum.inl) = none) ∨ ∃ d x, dget kvs k = some d ∧ valV ks (k.map Sum.inl) = some x ∧ DW K G d x
 | [], ks, k, h => by
  rcases Zb7 h with ⟨_, rfl⟩ | ⟨_, _, _, _, _, e, _⟩
  ·exact .inl ⟨rfl, rfl⟩
  ·cases e
 | (k0, d) :: r, ks, k, h => by
  rcases Zb7 h with ⟨e, _⟩ | ⟨k1, d1, r1, x, t, e, rfl, h1, h2⟩
  ·cases e
  ·cases e
   by_cases c : k0 = k
   ·subst c
    exact .inr ⟨d, x, by simp [dget], Zce rfl, h1⟩
   ·have c' : ¬ (k0.map (Sum.inl : Int → Key)) = k.map Sum.inl := fun z => c (Zej.mp z)
    rw [Zcd (p := (k0.map Sum.inl, x)) c']
    have e : dget ((k0, d) :: r) k = dget r k := by simp [dget, c]
    rw [e]
    exact DWk.get h2
theorem DWk.any : ∀ {kvs : List (List Int × PyData)} {ks : List (List Key × V)} (k : List Int), DWk K G (kvK kvs) ks → (kvs.any fun p => decide (p.1 = k)) = ks.any fun p => decide (p.1 = k.map Sum.inl)
 | [], ks, k, h => by
  rcases Zb7 h with ⟨_, rfl⟩ | ⟨_, _, _, _, _, e, _⟩
  ·rfl
  ·cases e
 | (k0, d) :: r, ks, k, h => by
  rcases Zb7 h with ⟨e, _⟩ | ⟨k1, d1, r1, x, t, e, rfl, h1, h2⟩
  ·cases e
  ·cases e
   rw [List.any_cons, List.any_cons, DWk.any k h2]
   have : decide (k0 = k) = decide ((k0.map (Sum.inl : Int → Key)) = k.map Sum.inl) := by
    by_cases c : k0 = k
    ·subst c; simp
    ·rw [decide_eq_false c, decide_eq_false fun z => c (Zej.mp z)]
   rw [this]
theorem DWk.repl {k : List Int} {d : PyData} {x : V} (hd : DW K G d x) : ∀ {kvs : List (List Int × PyData)} {ks : List (List Key × V)}, DWk K G (kvK kvs) ks →
  DWk K G (kvK (kvs.map fun p => if p.1 = k then (p.1, d) else p)) (ks.map fun p => if p.1 = k.map Sum.inl then (p.1, x) else p)
 | [], ks, h => by
  rcases Zb7 h with ⟨_, rfl⟩ | ⟨_, _, _, _, _, e, _⟩
  ·exact DWk.nil'
  ·cases e
 | (k0, d0) :: r, ks, h => by
  rcases Zb7 h with ⟨e, _⟩ | ⟨k1, d1, r1, y, t, e, rfl, h1, h2⟩
  ·cases e
  ·cases e
   rw [List.map_cons, List.map_cons]
   by_cases c : k0 = k
   ·subst c
    rw [if_pos rfl, if_pos rfl]
    exact DWk.cons' hd (DWk.repl hd h2)
   ·rw [if_neg c, if_neg fun z => c (Zej.mp z)]
    exact DWk.cons' h1 (DWk.repl hd h2)
theorem DWk.snoc {k : List Int} {d : PyData} {x : V} (hd : DW K G d x) : ∀ {kvs : List (List Int × PyData)} {ks : List (List Key × V)}, DWk K G (kvK kvs) ks → DWk K G (kvK (kvs ++ [(k, d)])) (ks ++ [(k.map Sum.inl, x)])
 | [], ks, h => by
  rcases Zb7 h with ⟨_, rfl⟩ | ⟨_, _, _, _, _, e, _⟩
  ·exact DWk.cons' hd DWk.nil'
  ·cases e
 | (k0, d0) :: r, ks, h => by
  rcases Zb7 h with ⟨e, _⟩ | ⟨k1, d1, r1, y, t, e, rfl, h1, h2⟩
  ·cases e
  ·cases e
   exact DWk.cons' h1 (DWk.snoc hd h2)
theorem DWk.put {kvs : List (List Int × PyData)} {ks : List (List Key × V)} {k : List Int} {d : PyData} {x : V} (h : DWk K G (kvK kvs) ks) (hd : DW K G d x) : DWk K G (kvK (dput kvs k d)) (putK ks (k.map Sum.inl) x) := by
 unfold dput putK
 rw [h.any k]
 split
 ·exact h.repl hd
 ·exact h.snoc hd
theorem DWk.len : ∀ {kvs : List (List Int × PyData)} {ks : List (List Key × V)}, DWk K G (kvK kvs) ks → kvs.length = ks.length
 | [], ks, h => by
  rcases Zb7 h with ⟨_, rfl⟩ | ⟨_, _, _, _, _, e, _⟩
  ·rfl
  ·cases e
 | (k0, d) :: r, ks, h => by
  rcases Zb7 h with ⟨e, _⟩ | ⟨k1, d1, r1, x, t, e, rfl, h1, h2⟩
  ·cases e
  ·cases e
   rw [List.length_cons, List.length_cons, DWk.len h2]
noncomputable def unK : List (PyData × PyData) → Option (List (List Int × PyData))
 | [] => some []
 | (.tuple ks, d) :: r => match uIs ks, unK r with | some ns, some t => some ((ns, d) :: t) | _, _ => none
 | _ :: _ => none
@[simp] theorem unK_kvK (kvs : List (List Int × PyData)) : unK (kvK kvs) = some kvs := by
 induction kvs with
 | nil => rfl
 | cons p r ih =>
  show unK ((tI p.1, p.2) :: kvK r) = _
  simp [unK, tI, ih]
theorem Zio : ∀ {l : List (PyData × PyData)} {kvs : List (List Int × PyData)}, unK l = some kvs → l = kvK kvs
 | [], kvs, h => by cases h; rfl
 | (.tuple ks, d) :: r, kvs, h => by
  simp only [unK] at h
  split at h
  ·next ns t e1 e2 =>
   cases h
   rw [Zio e2, Zin e1]; rfl
  ·cases h
 | (.none, _) :: _, _, h => by simp [unK] at h
 | (.bool _, _) :: _, _, h => by simp [unK] at h
 | (.int _, _) :: _, _, h => by simp [unK] at h
 | (.str _, _) :: _, _, h => by simp [unK] at h
 | (.list _, _) :: _, _, h => by simp [unK] at h
 | (.dict _, _) :: _, _, h => by simp [unK] at h
noncomputable def rdK (w : OW) : Val → Option (List (List Int × PyData))
 | .d (.dict l) => unK l
 | .own a => match w a with | some (.dct kvs) => some kvs | _ => none
 | _ => none
theorem Rel.rdK (r : Rel K G s σ H) {v : Val} {x : V} {kvs : List (List Int × PyData)} (q : VR K G v x) (h : L2.rdK s.w v = some kvs) : ∃ a ks, x = .ref a ∧ H a = some (.dT ks) ∧ DWk K G (kvK kvs) ks := by
 unfold L2.rdK at h
 split at h
 ·rw [Zio h] at q
  unfold VR DW at q
  obtain ⟨a, ks, e, h1, h2⟩ := q
  exact ⟨a, ks, e, r.sub _ _ h1, h2⟩
 ·next a =>
  cases (show x = .ref a from q)
  split at h
  ·next z =>
   cases h
   obtain ⟨_, ks, h1, h2⟩ := r.own a _ z
   exact ⟨a, ks, rfl, h1, h2⟩
  ·cases h
 ·cases h
noncomputable def keyD : Val → Option (List Int)
 | .d (.tuple (x :: r)) => uIs (x :: r)
 | _ => none
@[simp] theorem keyD_tI (x : Int) (r : List Int) : keyD (.d (tI (x :: r))) = some (x :: r) := by
 show uIs ((x :: r).map .int) = _
 exact uIs_map _
noncomputable def dDGet (da db : DTE) : DTE := fun s k => da s fun v s1 => db s1 fun u s2 => ∃ kvs ns x, rdK s2.w v = some kvs ∧ keyD u = some ns ∧ dget kvs ns = some x ∧ k (.d x) s2
noncomputable def dDNew (o : Bool) : DTE := fun s k => match o with
 | true => ∀ p, s.w p = none → k (.own p) (s.put p (.dct []))
 | false => k (.d (.dict [])) s
noncomputable def dDPut (da dk dv : DTE) : DTS := fun E s => dv s fun v s1 => da s1 fun u s2 => dk s2 fun kk s3 => match u, v with
 | .own a, .d x => ∃ kvs ns, s3.w a = some (.dct kvs) ∧ keyD kk = some ns ∧ kvs.length < sizeLine ∧ E.nx (s3.put a (.dct (dput kvs ns x)))
 | _, _ => False
noncomputable def dDComp (o : Bool) (di : DTI) (cap : List (Option Nat)) (dg : DTG) (dt : DTT) (dk dv : DTE) : DTE := fun s k => di s fun src s1 => ∀ p, s1.w p = none → ∃ I : Nat → OW → Prop, I 0 (s1.w.put p (.dct [])) ∧ (∀ i w, I i w → src.2 w) ∧
 (∀ (i : Nat) d w, src.1[i]? = some d → I i w → dg (.d d) ⟨captD cap s1.e, w⟩ fun s2 => dt s2 fun b s3 => if b = true then dk s3 (fun kk s4 => dv s4 fun vv s5 => match vv with
  | .d x => ∃ kvs ns, s5.w p = some (.dct kvs) ∧ keyD kk = some ns ∧ kvs.length < sizeLine ∧ L2.ext (captD cap s1.e) s5.e ∧ I (i + 1) (s5.w.put p (.dct (dput kvs ns x)))
  | _ => False) else L2.ext (captD cap s1.e) s3.e ∧ I (i + 1) s3.w) ∧
 ∀ w, I src.1.length w → ∃ kvs, w p = some (.dct kvs) ∧ (match o with | true => k (.own p) ⟨s1.e, w⟩ | false => k (.d (.dict (kvK kvs))) ⟨s1.e, w.del p⟩)
end
section
variable {X : Cx} {K : PySem.W.Frag}
end
end L2
namespace L2
open PySem PySem.Spec PyProof.Rows
section
variable {X : Cx} {K : PySem.W.Frag} {G G' H H' : Hp} {s : DS} {σ : St}
noncomputable def isNoneD (w : OW) : Val → Option Bool
 | .d .none => some true
 | .d _ => some false
 | .own _ => some false
 | _ => none
noncomputable def fIsN (neg : Bool) : Val → Val → DTE := fun v u s k => match isNoneD s.w v, u with
 | some b, .d .none => k (.d (.bool (if neg then !b else b))) s
 | _, _ => False
noncomputable def fRepT : Val → Val → DTE := fun v w s k => match rdT v, w with
 | some ds, .d (.int i) => (ds ≠ [] ∧ 1 ≤ i ∧ i < 2 ^ 63 ∧ ds.length * i.toNat ≤ sizeLine) ∧ k (.d (.tuple (repD i.toNat ds))) s
 | _, _ => False
noncomputable def gSortI (o : Bool) : Val → DTE := fun v s k => match rdL s.w v with
 | some ds => (match uIs ds with | some ns => ns.length < 64 ∧ ∀ ns' : List Int, ns'.Perm ns → ns'.Pairwise (· ≤ ·) → nl o (ns'.map .int) s k | none => False)
 | none => False
noncomputable def dDisp1 (o : Bool) (dk dv : DTE) : DTE := fun s k => ∀ p, s.w p = none → dk (s.put p (.dct [])) fun kk s1 => dv s1 fun vv s2 => match vv with
 | .d x => ∃ ns, keyD kk = some ns ∧ s2.w p = some (.dct []) ∧ (match o with | true => k (.own p) (s2.put p (.dct [(ns, x)])) | false => k (.d (.dict (kvK [(ns, x)]))) ⟨s2.e, s2.w.del p⟩)
 | _ => False
noncomputable def dIdx (d : DTE) (da : DTA) : DTE := fun s k => d s fun v s1 => (rdL s1.w v).isSome = true ∧ da s1 fun vs s2 => match vs with
 | [u] => (match rdL s2.w v, rdD s2.w u with
  | some ds, some x => (x.hasDict = false ∧ PyData.hasDictAll ds = false ∧ x.canLay0 = true ∧ PyData.canLayAll0 ds = true ∧ x.depth ≤ 30) ∧ ∃ j, ds.findIdx? (fun z => PyData.eqv z x) = some j ∧ k (.d (.int (j : Nat))) s2
  | _, _ => False)
 | _ => False
noncomputable def dFrzD (i : Nat) : DTE := fun s k => match s.e[i]? with
 | some (some (.own a)) => ∃ kvs, s.w a = some (.dct kvs) ∧ k (.d (.dict (kvK kvs))) ⟨s.e.set i (some (.d (.dict (kvK kvs)))), s.w.del a⟩
 | _ => False
noncomputable def dCallD (f : DSp) (na nk : Nat) (pick : List (Nat × Nat)) (da dk : DTA) : DTE := fun s k => da s fun vs s1 => dk s1 fun us s2 => f (gaQ (.d (.tuple [])) na nk pick vs us) s2.w (fun v w' => k v ⟨s2.e, w'⟩)
theorem DnD.data {P : Program} {w : World} {mg : Str → Option Value} {base : Heap} {x : Str} {st : Stmt} {N ps : List Str} {k : Nat} {f : DSp} {em : Addr} (U : ∃ a fd, FunD K x st a fd em ∧ mg x = some (.ref a)) (S : FnScope N ps (defScope st)) (len : ∀ vs w k, f vs w k → vs.length = ps.length)
  (hbody : ∀ (a : Addr) (cdv : Value) (A : Around) (outer : List Env) (s : Shared) (H : Hp) (E : XK), Room k (A.deeper (envOfC x (defScope st) s.heap.objs.size a cdv)) →
   ∃ t d, PSs (cxOf CX0 P w K mg base N x (defScope st) a cdv A outer s H E).nox (defBody st) t ∧ RS K t d ∧ ∀ (as : List Val) (o : OW) (q : Val → OW → Prop), f as o q → d { nx := fun s => ∃ w', OW.le w' s.w ∧ q (.d .none) w', rt := fun v s => ∃ w', OW.le w' s.w ∧ q v w' } ⟨startD N as, o⟩) : DnD P w K mg base (k + 1) x st ps (spD K f) em := by
 refine DnD.of U S (fun vs H Q E h => ?_) (fun a cdv A outer s H vs Q E hr h => ?_)
 ·obtain ⟨G, o, as, _, _, h1, h2⟩ := h
  rw [← h1.length]; exact len _ _ _ h2
 ·obtain ⟨G, o, as, h1, h2, h3, h4⟩ := h
  obtain ⟨t, d, q1, q2, q3⟩ := hbody a cdv A outer s H E hr
  refine ⟨t, q1, q2 G ⟨startD N as, o⟩ (start N vs) H _ { nx := fun s => ∃ w', OW.le w' s.w ∧ _, rt := fun v s => ∃ w', OW.le w' s.w ∧ _ } ⟨h1, h2, Zdp h3⟩ ⟨fun s' G' σ' H' e r z => ?_, fun v s' G' σ' H' x e r v1 z => ?_, fun _ _ _ _ _ _ z => False.elim z, fun _ _ _ _ _ _ z => False.elim z⟩ (q3 as o _ h4)⟩
  ·obtain ⟨w', l, z⟩ := z
   exact z G' H' .non e r.sub (r.own.le l) Zff
  ·obtain ⟨w', l, z⟩ := z
   exact z G' H' x e r.sub (r.own.le l) v1
end
end L2
namespace L2
open PySem PySem.Spec PyProof.Rows
section
variable {src : List PyData × (OW → Prop)} {e0 : List (Option Val)} {dg : DTG} {dt : DTT} {de : DTE} {k : List PyData → DS → Prop} {w : OW} {α : Type}
theorem Zdj (xs : List α) (enc f : α → PyData) (acc0 : List PyData) (hsrc : src.1 = xs.map enc) (hp : src.2 w) (hl : acc0.length + xs.length < sizeLine)
  (hs : ∀ x ∈ xs, ∀ Q : PyData → OW → Prop, Q (f x) w → dg (.d (enc x)) ⟨e0, w⟩ fun s2 => de s2 fun v s1 => match v with | .d y => ext e0 s1.e ∧ Q y s1.w | _ => False)
  (hk : k (acc0 ++ xs.map f) ⟨e0, w⟩) : ∃ I : Nat → List PyData → OW → Prop, I 0 acc0 w ∧ LIt src e0 dg dYes (dEmit de) k I := by
 refine Zem xs enc (fun x => [f x]) acc0 hsrc hp (by rw [← List.map_eq_flatMap, lmp]; exact hl) (fun x hx acc _ Q hQ => ?_) (by rw [← List.map_eq_flatMap]; exact hk)
 exact hs x hx (fun y w => Q (acc ++ [y]) w) hQ
end
theorem Zga {o : OW} {u : Addr} {m : Nat} {wd : Int} {k : Val → OW → Prop} (h1 : m ≤ 1000000) (h2 : 0 < wd) (h3 : wd < 1073741824) (h : ∀ d : Int, 0 ≤ d → d < wd → k (.d (.int d)) (o.put u (.urn (m + 1)))) : dsDraw [.own u, .d (.int wd)] (o.put u (.urn m)) k :=
 ⟨m, OW.put_same, ⟨h1, h2, h3⟩, fun d a b => by rw [OW.put_put]; exact h d a b⟩
theorem Zi5 {α : Type} (xs : List α) (f : α → Bool) : uBs (xs.map fun x => .bool (f x)) = some (xs.map f) := by
 have := uBs_map (xs.map f)
 rw [List.map_map] at this
 exact this
theorem Zi8 {n : Nat} (h : n ≤ 100000) : n ≤ sizeLine := Nat.le_trans h (by decide)
theorem Zcg {n : Nat} (h : n ≤ 100000) : n < sizeLine := Nat.lt_of_le_of_lt h (by decide)
end L2
namespace L2
open PySem PySem.Spec PyProof.Rows
noncomputable def Rp (D W : Nat) (d : PyData) : Prop := d.canLay0 = true ∧ d.hasDict = false ∧ d.intsShort 101 = true ∧ d.showable = true ∧ d.depth ≤ D ∧ d.weight ≤ W
noncomputable def Rps (D W : Nat) (ds : List PyData) : Prop := PyData.canLayAll0 ds = true ∧ PyData.hasDictAll ds = false ∧ PyData.intsShortAll 101 ds = true ∧ PyData.showableAll ds = true ∧ PyData.depthAll ds ≤ D ∧ PyData.weightAll ds ≤ W
theorem Rps.nil {D W : Nat} : Rps D W [] := by simp [Rps, PyData.canLayAll0, PyData.depthAll, PyData.hasDictAll, PyData.intsShortAll, PyData.showableAll, PyData.weightAll]
theorem Rps.cons {D a b W : Nat} {d : PyData} {ds : List PyData} (h : Rp D a d) (q : Rps D b ds) (hW : a + 1 + b ≤ W) : Rps D W (d :: ds) := by
 obtain ⟨h1, h2, h3, h4, h5, h6⟩ := h
 obtain ⟨q1, q2, q3, q4, q5, q6⟩ := q
 refine ⟨by rw [PyData.canLayAll0, h1, q1]; rfl, by rw [PyData.hasDictAll, h2, q2]; rfl, by rw [PyData.intsShortAll, h3, q3]; rfl, by rw [PyData.showableAll, h4, q4]; rfl, by rw [PyData.depthAll]; omega, by rw [PyData.weightAll]; omega⟩
theorem Rps.map {D W : Nat} {α : Type} {f : α → PyData} : ∀ l : List α, (∀ x ∈ l, Rp D W (f x)) → Rps D ((W + 1) * l.length) (l.map f)
 | [], _ => Rps.nil
 | x :: l, h => by
  refine Rps.cons (h x (List.mem_cons_self ..)) (Rps.map l fun y hy => h y (List.mem_cons_of_mem _ hy)) ?_
  rw [List.length_cons, Nat.mul_add, Nat.mul_one]; omega
theorem Rp.mono {D W D' W' : Nat} {d : PyData} (h : Rp D W d) (hD : D ≤ D') (hW : W ≤ W') : Rp D' W' d := by
 obtain ⟨q1, q2, q3, q4, q5, q6⟩ := h
 exact ⟨q1, q2, q3, q4, by omega, by omega⟩
theorem Rp.tup {D W : Nat} {ds : List PyData} (h : Rps D W ds) : Rp (D + 1) W (.tuple ds) := by
 obtain ⟨q1, q2, q3, q4, q5, q6⟩ := h
 exact ⟨by rw [PyData.canLay0]; exact q1, by rw [PyData.hasDict]; exact q2, by rw [PyData.intsShort]; exact q3, by rw [PyData.showable]; exact q4, by rw [PyData.depth]; omega, by rw [PyData.weight]; exact q6⟩
theorem Rp.lst {D W : Nat} {ds : List PyData} (h : Rps D W ds) : Rp (D + 1) W (.list ds) := by
 obtain ⟨q1, q2, q3, q4, q5, q6⟩ := h
 exact ⟨by rw [PyData.canLay0]; exact q1, by rw [PyData.hasDict]; exact q2, by rw [PyData.intsShort]; exact q3, by rw [PyData.showable]; exact q4, by rw [PyData.depth]; omega, by rw [PyData.weight]; exact q6⟩
theorem Rp.int {n : Int} (h : n.natAbs < 2 ^ 100) : Rp 0 100 (.int n) := by
 have h1 := Zen (w := 100) (by decide) h
 exact ⟨by rw [PyData.canLay0], by rw [PyData.hasDict], Zh3 (w := 100) (by decide) (by decide) h, by rw [PyData.showable]; simp; omega, by rw [PyData.depth]; omega, Zg1 (by decide) h⟩
theorem Rp.str {s : Str} (h : PyData.strOk s = true) : Rp 0 s.cps.size (.str s) := ⟨by rw [PyData.canLay0]; exact h, by rw [PyData.hasDict], by rw [PyData.intsShort], by rw [PyData.showable], by rw [PyData.depth]; omega, by rw [PyData.weight]; exact Nat.le_refl _⟩
theorem Rp.tI {ns : List Int} (h : ∀ x ∈ ns, x.natAbs < 2 ^ 100) : Rp 1 (101 * ns.length) (tI ns) := Rp.tup (Rps.map ns fun x hx => Rp.int (h x hx))
theorem Rp.ok {D W : Nat} {d : PyData} (h : Rp D W d) (hD : D ≤ 40) (hW : W ≤ 100000) : okR d := by
 obtain ⟨q1, q2, q3, q4, q5, q6⟩ := h
 exact ⟨q4, q2, by omega, Zi1 q1 q3 (by omega)⟩
end L2
namespace L2
open PySem PySem.Spec PyProof.Rows
section
variable {X : Cx} {a b c : Expr} {pos : Pos} {ta tb tc : TE}
end
section
variable {K : PySem.W.Frag}
noncomputable def dChain (f g : Val → Val → DTE) (da db dc : DTE) : DTE := fun s k => da s fun v s1 => db s1 fun w s2 => f v w s2 fun u s3 => match u with
 | .d (.bool c) => if c = true then dc s3 fun w' s4 => g w w' s4 k else k (.d (.bool false)) s3
 | _ => False
end
section
variable {prog : Program} {w : World} {κ : Type} [DecidableEq κ] {knd : HeapKind prog w κ} {A : Around} {E : Value → Shared → Prop} {s : Shared}
end
section
variable {K : PySem.W.Frag}
noncomputable def gLenD : Val → DTE := fun v s k => match rdK s.w v with | some kvs => k (.d (.int kvs.length)) s | none => False
end
end L2
namespace L2
open PySem PySem.Spec PyProof.Rows
variable {K : PySem.W.Frag}
end L2
namespace L2
open PySem PySem.Spec PyProof.Rows
section
variable {K : PySem.W.Frag}
end
section
variable {X : Cx} {o e f : Expr} {apos cpos : Pos} {td ty tx : TE}
end
end L2
namespace L2
open PySem PySem.W PySem.W.ZRun PySem.W.X PySem.Spec PyProof.Rows
theorem walkX {q : Program} {loose : List Str} {XP : (Str → Option Value) → Heap → Prop} {K : Params → Frag} {as : List Addr} {n t : Nat} {r : RowW} {d : DefRec} {kwd : List (Str × Expr)} {run : Value → List Value → Sem Value} (e : ∀ P, as = (K P).map (·.1))
  (W : WalkO q loose XP (fun w h => (K w.params).In h) r d kwd run) : WalkX q loose XP (obsZ as) (valZ K n t) r d kwd run := by
 intro w s₀ s₁ mg mb G y a o pm cd doc dV kV ho hd hcd hD hmg hg args vals as' L hpre hlay hrd hwl hlo
 exact W w s₀ s₁ mg mb G (InK.keeps w s₀.heap s₁.heap (z_facts e y).2.1 L.keeps) a o pm cd doc dV kV ho hd hcd hD hmg hg args vals as' hpre hlay hrd hwl hlo
end L2
namespace L2
open PySem PySem.Spec PyProof.Rows
open AutoSeq1 (wpAny_loadPart')
section
variable {prog : Program} {w : World} {A : Around} {E : Value → Shared → Prop} {s : Shared}
end
section
variable {X : Cx} {tg : Expr}
end
section
variable {K : PySem.W.Frag} {G G' H H' : Hp} {s : DS} {σ : St}
noncomputable def dItRv (d : DTA) : DTI := fun s k => d s fun vs s1 => match vs with | [.d (.tuple ds)] => k (ds.reverse, noP) s1 | _ => False
end
end L2
namespace L2
open PySem PySem.Spec PyProof.Rows
open AutoSeq1 (wpAny_loadPart')
section
variable {prog : Program} {w : World} {A : Around} {E : Value → Shared → Prop} {s : Shared}
end
section
variable {X : Cx}
end
section
variable {K : PySem.W.Frag}
noncomputable def dTupRev (d : DTA) : DTE := fun s k => d s fun vs s1 => match vs with | [v] => (match rdL s1.w v with | some ds => k (.d (.tuple ds.reverse)) s1 | none => False) | _ => False
end
end L2
namespace L2
open PySem PySem.Spec PyProof.Rows
open AutoSeq1 (wpAny_loadPart')
section
variable {prog : Program} {w : World} {A : Around} {E : Value → Shared → Prop} {s : Shared}
end
end L2
namespace L2
open PySem PySem.Spec PyProof.Rows
open AutoSeq1 (wpAny_loadPart')
section
variable {prog : Program} {w : World} {A : Around} {E : Value → Shared → Prop} {s : Shared}
end
section
variable {X : Cx}
end
section
variable {K : PySem.W.Frag} {G G' H H' : Hp} {s : DS} {σ : St}
noncomputable def ezD (ds es : List PyData) : List PyData := enumD (zipD ds es)
noncomputable def dEz (t1 t2 : Bool) (d : DTA) : DTI := fun s k => d s fun vs s1 => match vs with | [v, w] => (match seqD t1 v, seqD t2 w with | some ds, some es => k (ezD ds es, noP) s1 | _, _ => False) | _ => False
end
end L2
namespace L2
open PySem PySem.Spec PyProof.Rows
section
variable {X : Cx}
end
section
variable {K : PySem.W.Frag} {G : Hp}
noncomputable def dLstRng (o : Bool) (d : DTA) : DTE := fun s k => d s fun vs s1 => match vs with | [.d (.int j)] => (-(2 ^ 62) ≤ j ∧ j ≤ 100000) ∧ nl o (rngD 0 j.toNat) s1 k | _ => False
end
end L2
namespace L2
open PySem PySem.Spec PyProof.Rows
open AutoSeq1 (wpAny_loadPart')
section
variable {prog : Program} {w : World} {A : Around} {E : Value → Shared → Prop} {s : Shared}
end
end L2
namespace L2
open PySem PySem.Spec PyProof.Rows
open AutoSeq1 (wpAny_loadPart')
section
variable {prog : Program} {w : World} {A : Around} {E : Value → Shared → Prop} {s : Shared}
end
end L2
namespace L2
open PySem PySem.Spec PyProof.Rows
open AutoSeq1 (wpAny_loadPart')
section
variable {prog : Program} {w : World} {A : Around} {E : Value → Shared → Prop} {s : Shared}
end
end L2
namespace L2
open PySem PySem.Spec PyProof.Rows
section
variable {X : Cx}
end
section
variable {K : PySem.W.Frag}
noncomputable def lyD (l : List (List Int × PyData)) : List (List Int × PyData) := l.foldl (fun d q => dput d q.1 q.2) []
noncomputable def dDictOf (di : DTI) : DTE := fun s k => di s fun src s1 => ∃ l : List (List Int × PyData), (∀ w, src.2 w) ∧ src.1 = l.map (fun q => .tuple [tI q.1, q.2]) ∧ (∀ q ∈ l, q.1 ≠ []) ∧ l.length < sizeLine ∧ k (.d (.dict (kvK (lyD l)))) s1
end
end L2
namespace L2
open PySem PySem.Spec PyProof.Rows
theorem Dn.dataI {K : W.Frag} {P : Program} {w : World} {mg : Str → Option Value} {base : Heap} {x : Str} {st : Stmt} {N ps : List Str} {k : Nat} {f : DSp} (U : ∃ a fd, Fun K x x st a fd ∧ mg x = some (.ref a)) (S : FnScope N ps (defScope st)) (len : ∀ vs w k, f vs w k → vs.length = ps.length)
  (hbody : ∀ (a : Addr) (cdv : Value) (A : Around) (outer : List Env) (s : Shared) (H : Hp) (E : XK), Room k (A.deeper (envOfC x (defScope st) s.heap.objs.size a cdv)) →
   ∃ t d, IPSs (cxOf CX0 P w K mg base N x (defScope st) a cdv A outer s H E).nox (defBody st) t ∧ RS K t d ∧ ∀ (as : List Val) (o : OW) (q : Val → OW → Prop), f as o q → d { nx := fun s => ∃ w', OW.le w' s.w ∧ q (.d .none) w', rt := fun v s => ∃ w', OW.le w' s.w ∧ q v w' } ⟨startD N as, o⟩) : Dn P w K mg base (k + 1) x st ps (spD K f) :=
 Dn.data U S len fun a cdv A outer s H E hr => (hbody a cdv A outer s H E hr).elim fun t h => h.elim fun d h => ⟨t, d, IPSs.get h.1, h.2⟩
section
variable {X : Cx} {K : W.Frag} {G : Hp}
end
end L2
namespace Tim
open PySem PySem.W PyProof.Rows
noncomputable def gallop' : Bool → Keyed → Array Keyed → Nat → Nat → Nat → StateT SortSt Sem (Option Nat) := sortPriv% PySem.Builtin.gallop
noncomputable def mergeLo' : Array Keyed → Array Keyed → StateT SortSt Sem (Array Keyed) := sortPriv% PySem.Builtin.mergeLo
structure NSt where
 p : Array Nat
 pend : Array (Nat × Nat × Nat)
 g : Nat
structure Itm where
 κ : SortKind
 it : Nat → Keyed
noncomputable def lift (I : Itm) (st : NSt) : SortSt := SortSt.mk' I.κ (st.p.map I.it) st.pend st.g none
noncomputable def Orc (prog : Program) (w : World) (A : Around) (s : Shared) (I : Itm) (lt : Nat → Nat → Bool) (N : Nat) : Prop :=
 ∀ i j, i < N → j < N → ∀ (C : Bool → Shared → Prop), C (lt i j) s → wpAny (model prog w) A (keyLt' I.κ (I.it i).1 (I.it j).1) C (fun _ _ => False) s
structure Sim (lt : Nat → Nat → Bool) (N : Nat) {α β : Type} (u : Itm → β → α) (m : Itm → StateT SortSt Sem α) where
 f : NSt → Option (β × NSt)
 ok : ∀ (prog : Program) (w : World) (A : Around) (E : Value → Shared → Prop) (s : Shared) (I : Itm), Orc prog w A s I lt N → ∀ st b st', f st = some (b, st') → wpS (model prog w) A E s (m I) (fun a t => a = u I b ∧ t = lift I st') (lift I st)
variable {lt : Nat → Nat → Bool} {N : Nat} {α β α' β' : Type}
noncomputable def uI {α : Type} : Itm → α → α := fun _ a => a
noncomputable def uK : Itm → Nat → Keyed := fun I i => I.it i
noncomputable def uA : Itm → Array Nat → Array Keyed := fun I p => p.map I.it
noncomputable def uF (u : Itm → β → α) : Itm → ForInStep β → ForInStep α := fun I x => match x with | .done b => .done (u I b) | .yield b => .yield (u I b)
noncomputable def Sim.congr {u : Itm → β → α} {m m' : Itm → StateT SortSt Sem α} (h : ∀ I, m I = m' I) (S : Sim lt N u m') : Sim lt N u m := ⟨S.f, fun prog w A E s I o st b st' e => by rw [h I]; exact S.ok prog w A E s I o st b st' e⟩
noncomputable def Sim.bind {u : Itm → β → α} {v : Itm → β' → α'} {m : Itm → StateT SortSt Sem α} {k : Itm → α → StateT SortSt Sem α'} (S : Sim lt N u m) (T : ∀ b, Sim lt N v fun I => k I (u I b)) : Sim lt N v fun I => m I >>= k I :=
 ⟨fun st => (S.f st).bind fun r => (T r.1).f r.2, fun prog w A E s I o st b st' e => by
  obtain ⟨⟨b1, st1⟩, e1, e2⟩ := Option.bind_eq_some_iff.mp e
  refine wpS_bind (wpS_mono (S.ok prog w A E s I o st b1 st1 e1) ?_)
  rintro a t ⟨rfl, rfl⟩
  exact (T b1).ok prog w A E s I o st1 b st' e2⟩
noncomputable def Sim.pure {u : Itm → β → α} {a : Itm → α} (b : β) (h : ∀ I, a I = u I b) : Sim lt N u fun I => (Pure.pure (a I) : StateT SortSt Sem α) :=
 ⟨fun st => some (b, st), fun prog w A E s I o st b' st' e => by
  cases e
  exact wpS_pure ⟨h I, rfl⟩⟩
noncomputable def Sim.fail {u : Itm → β → α} {m : Itm → StateT SortSt Sem α} : Sim lt N u m := ⟨fun _ => none, fun prog w A E s I o st b st' e => by cases e⟩
noncomputable def Sim.ite {u : Itm → β → α} {m1 m2 : Itm → StateT SortSt Sem α} (c : Prop) [Decidable c] (S1 : Sim lt N u m1) (S2 : Sim lt N u m2) : Sim lt N u fun I => if c then m1 I else m2 I :=
 ⟨fun st => if c then S1.f st else S2.f st, fun prog w A E s I o st b st' e => by
  by_cases h : c
  ·rw [if_pos h] at e ⊢; exact S1.ok prog w A E s I o st b st' e
  ·rw [if_neg h] at e ⊢; exact S2.ok prog w A E s I o st b st' e⟩
noncomputable def Sim.rule {tag : String} : Sim lt N (uI (α := Unit)) fun _ => (liftM (PySem.rule tag) : StateT SortSt Sem Unit) :=
 ⟨fun st => some ((), st), fun prog w A E s I o st b st' e => by
  cases e
  exact wpS_lift (wpAny_rule ⟨rfl, rfl, rfl⟩)⟩
noncomputable def Sim.elem (arr : Array Nat) (i : Nat) : Sim lt N uK fun I => elem' (arr.map I.it) i :=
 ⟨fun st => match arr[i]? with | some k => some (k, st) | none => none, fun prog w A E s I o st b st' e => by
  rw [elem'_eq]
  split at e
  ·next k h =>
   cases e
   rw [Array.getElem?_map, h]
   exact wpS_pure ⟨rfl, rfl⟩
  ·cases e⟩
noncomputable def Sim.cmp (i j : Nat) : Sim lt N (uI (α := Option Bool)) fun I => lt' (I.it i) (I.it j) :=
 ⟨fun st => if i < N ∧ j < N then some (some (lt i j), st) else none, fun prog w A E s I o st b st' e => by
  split at e
  ·next h =>
   cases e
   rw [lt'_eq]
   refine wpS_bind (wpS_get (wpS_bind (wpS_lift ?_)))
   refine wpAny_attempt ?_
   refine wpAny_mono (o i j h.1 h.2 (fun b s' => s' = s ∧ b = lt i j) ⟨rfl, rfl⟩) ?_ ?_
   ·rintro b s' ⟨rfl, rfl⟩
    exact ⟨rfl, wpS_pure ⟨rfl, rfl⟩⟩
   ·rintro _ _ ⟨⟩
  ·cases e⟩
noncomputable def Sim.getB {u : Itm → β → α} {k : Itm → SortSt → StateT SortSt Sem α} (T : ∀ st, Sim lt N u fun I => k I (lift I st)) : Sim lt N u fun I => get >>= k I :=
 ⟨fun st => (T st).f st, fun prog w A E s I o st b st' e => wpS_bind (wpS_get ((T st).ok prog w A E s I o st b st' e))⟩
noncomputable def Sim.modify {g : Itm → SortSt → SortSt} (g' : NSt → NSt) (h : ∀ I st, g I (lift I st) = lift I (g' st)) : Sim lt N (uI (α := Unit)) fun I => (modify (g I) : StateT SortSt Sem Unit) :=
 ⟨fun st => some ((), g' st), fun prog w A E s I o st b st' e => by
  cases e
  exact wpS_modify ⟨rfl, h I st⟩⟩
noncomputable def Sim.set {x : Itm → SortSt} (st' : NSt) (h : ∀ I, x I = lift I st') : Sim lt N (uI (α := Unit)) fun I => (set (x I) : StateT SortSt Sem Unit) :=
 ⟨fun st => some ((), st'), fun prog w A E s I o st b st2 e => by
  cases e
  exact wpS_modify (f := fun _ => x I) (st := lift I st) ⟨rfl, h I⟩⟩
noncomputable def loopF (S : Nat → β → NSt → Option (ForInStep β × NSt)) : List Nat → β → NSt → Option (β × NSt)
 | [], b, st => some (b, st)
 | x :: l, b, st => match S x b st with
  | some (.done b', st') => some (b', st')
  | some (.yield b', st') => loopF S l b' st'
  | none => none
noncomputable def Sim.for {u : Itm → β → α} {a b : Nat} (init : β) {i0 : Itm → α} {body : Itm → Nat → α → StateT SortSt Sem (ForInStep α)} (h0 : ∀ I, i0 I = u I init) (S : ∀ x c, Sim lt N (uF u) fun I => body I x (u I c)) : Sim lt N u fun I => forIn [a:b] (i0 I) (body I) :=
 ⟨loopF (fun x c => (S x c).f) (List.range' a (b - a)) init, fun prog w A E s I o st c st' e => by
  rw [h0]
  refine wpS_forRange (fun i x t => ∃ c' nst, x = u I c' ∧ t = lift I nst ∧ loopF (fun x c => (S x c).f) (List.range' i (b - i)) c' nst = some (c, st')) ?_ ?_ ⟨init, st, rfl, rfl, e⟩
  ·rintro i _ _ hai hib ⟨c', nst, rfl, rfl, e⟩
   rw [show b - i = (b - (i + 1)) + 1 by omega, List.range'_succ, loopF] at e
   cases hS : (S i c').f nst with
   | none => rw [hS] at e; cases e
   | some r =>
    obtain ⟨r, nst'⟩ := r
    rw [hS] at e
    refine wpS_mono ((S i c').ok prog w A E s I o nst r nst' hS) ?_
    rintro _ _ ⟨rfl, rfl⟩
    cases r with
    | done b' => cases e; exact ⟨rfl, rfl⟩
    | yield b' => exact ⟨b', nst', rfl, rfl, e⟩
  ·rintro _ _ ⟨c', nst, rfl, rfl, e⟩
   rw [show b - max a b = 0 by omega, List.range'_zero, loopF] at e
   cases e
   exact ⟨rfl, rfl⟩⟩
noncomputable def simBey (left : Bool) (key : Nat) (arr : Array Nat) (j : Nat) : Sim lt N (uI (α := Option Bool)) (fun I => (do
  let x ← elem' (arr.map I.it) j
  if left = true then lt' x (I.it key) else do
   let r ← lt' (I.it key) x
   pure (Option.map (fun x => !x) r))) :=
 Sim.bind (Sim.elem arr j) fun x => Sim.ite _ (Sim.cmp x key) (Sim.bind (Sim.cmp key x) fun r => Sim.pure (Option.map (fun x => !x) r) fun _ => rfl)
noncomputable def simGallop (left : Bool) (key : Nat) (arr : Array Nat) (base n hint : Nat) : Sim lt N (uI (α := Option Nat)) (fun I => gallop' left (I.it key) (arr.map I.it) base n hint) := by
 refine Sim.bind (simBey left key arr (base + hint)) fun r => ?_
 cases r with
 | none => exact Sim.fail
 | some r =>
  dsimp only [uI]
  refine Sim.ite _ ?_ ?_
  ·refine Sim.bind (u := uI) (Sim.for (none, 0, 1) (fun _ => rfl) fun x c => ?_) fun c => ?_
   ·dsimp only [uI]
    refine Sim.ite _ (Sim.pure (.done (none, c.2.1, c.2.2)) fun _ => rfl) (Sim.bind (simBey left key arr (base + (hint + c.2.2))) fun r => ?_)
    cases r with
    | none => exact Sim.fail
    | some r =>
     dsimp only [uI]
     exact Sim.ite _ (Sim.pure (.done (none, c.2.1, c.2.2)) fun _ => rfl) (Sim.pure (.yield (none, c.2.2, 2 * c.2.2 + 1)) fun _ => rfl)
   ·dsimp only [uI]
    cases c with
    | mk r c =>
     cases r with
     | some r => exact Sim.fail
     | none =>
      dsimp only
      refine Sim.bind (u := uI) (Sim.for (none, hint + c.1 + 1, hint + min c.2 (n - hint)) (fun _ => rfl) fun x d => ?_) fun d => ?_
      ·dsimp only [uI]
       refine Sim.ite _ (Sim.pure (.done (none, d.2.1, d.2.2)) fun _ => rfl) (Sim.bind (simBey left key arr (base + (d.2.1 + (d.2.2 - d.2.1) / 2))) fun r => ?_)
       cases r with
       | none => exact Sim.fail
       | some r =>
        dsimp only [uI]
        exact Sim.ite _ (Sim.pure (.yield (none, d.2.1 + (d.2.2 - d.2.1) / 2 + 1, d.2.2)) fun _ => rfl) (Sim.pure (.yield (none, d.2.1, d.2.1 + (d.2.2 - d.2.1) / 2)) fun _ => rfl)
      ·dsimp only [uI]
       cases d with
       | mk r d =>
        cases r with
        | some r => exact Sim.fail
        | none => exact Sim.pure (some d.2) fun _ => rfl
  ·refine Sim.bind (u := uI) (Sim.for (none, 0, 1) (fun _ => rfl) fun x c => ?_) fun c => ?_
   ·dsimp only [uI]
    refine Sim.ite _ (Sim.pure (.done (none, c.2.1, c.2.2)) fun _ => rfl) (Sim.bind (simBey left key arr (base + (hint - c.2.2))) fun r => ?_)
    cases r with
    | none => exact Sim.fail
    | some r =>
     dsimp only [uI]
     exact Sim.ite _ (Sim.pure (.done (none, c.2.1, c.2.2)) fun _ => rfl) (Sim.pure (.yield (none, c.2.2, 2 * c.2.2 + 1)) fun _ => rfl)
   ·dsimp only [uI]
    cases c with
    | mk r c =>
     cases r with
     | some r => exact Sim.fail
     | none =>
      dsimp only
      refine Sim.bind (u := uI) (Sim.for (none, hint + 1 - min c.2 (hint + 1), hint - c.1) (fun _ => rfl) fun x d => ?_) fun d => ?_
      ·dsimp only [uI]
       refine Sim.ite _ (Sim.pure (.done (none, d.2.1, d.2.2)) fun _ => rfl) (Sim.bind (simBey left key arr (base + (d.2.1 + (d.2.2 - d.2.1) / 2))) fun r => ?_)
       cases r with
       | none => exact Sim.fail
       | some r =>
        dsimp only [uI]
        exact Sim.ite _ (Sim.pure (.yield (none, d.2.1 + (d.2.2 - d.2.1) / 2 + 1, d.2.2)) fun _ => rfl) (Sim.pure (.yield (none, d.2.1, d.2.1 + (d.2.2 - d.2.1) / 2)) fun _ => rfl)
      ·dsimp only [uI]
       cases d with
       | mk r d =>
        cases r with
        | some r => exact Sim.fail
        | none => exact Sim.pure (some d.2) fun _ => rfl
noncomputable def simLtAt (i j : Nat) : Sim lt N (uI (α := Option Bool)) (fun _ => ltAt' i j) := by
 refine Sim.congr (fun I => ltAt'_eq i j) ?_
 refine Sim.getB fun st => ?_
 exact Sim.bind (Sim.elem st.p i) fun x => Sim.bind (Sim.elem st.p j) fun y => Sim.cmp x y
noncomputable def simCount (lo nrem : Nat) : Sim lt N (uI (α := Option Nat)) (fun _ => countRun' lo nrem) := by
 refine Sim.bind (u := uI) (Sim.for (none, 1) (fun _ => rfl) fun x c => ?_) fun c => ?_
 ·dsimp only [uI]
  refine Sim.bind (simLtAt (lo + c.2) (lo + c.2 - 1)) fun r => ?_
  cases r with
  | none => exact Sim.fail
  | some r =>
   dsimp only [uI]
   exact Sim.ite _ (Sim.pure (.done (none, c.2)) fun _ => rfl) (Sim.pure (.yield (none, c.2 + 1)) fun _ => rfl)
 ·dsimp only [uI]
  cases c with
  | mk r c =>
   cases r with
   | some r => exact Sim.fail
   | none =>
    dsimp only
    refine Sim.ite _ (Sim.pure (some c) fun _ => rfl) ?_
    refine Sim.ite _ ?_ Sim.fail
    refine Sim.bind (simLtAt lo (lo + c - 1)) fun r => ?_
    cases r with
    | none => exact Sim.fail
    | some r =>
     dsimp only [uI]
     exact Sim.ite _ (Sim.pure (some c) fun _ => rfl) Sim.fail
theorem Zfh {α β : Type} (f : α → β) (p : Array α) (k n : Nat) : bubble (p.map f) k n = (bubble p k n).map f := kas_swaps_map f (fun i => k - i) (fun i => k - i - 1) (List.range n) p
noncomputable def simMove (src dst : Nat) : Sim lt N (uI (α := Unit)) (fun _ => moveDown' src dst) := by
 refine Sim.congr (fun I => moveDown'_eq src dst) ?_
 exact Sim.modify (fun st => { st with p := bubble st.p src (src - dst) }) fun I st => by
  show SortSt.mk' I.κ (bubble (st.p.map I.it) src (src - dst)) st.pend st.g none = _
  rw [Zfh]; rfl
noncomputable def simBin (lo n ok : Nat) : Sim lt N (uI (α := Bool)) (fun _ => binarySort' lo n ok) := by
 refine Sim.congr (fun I => binarySort'_eq lo n ok) ?_
 refine Sim.bind (u := uI) (Sim.for (none, ()) (fun _ => rfl) fun k c => ?_) fun c => ?_
 ·dsimp only [uI]
  refine Sim.bind (u := uI) (Sim.for (none, 0, k) (fun _ => rfl) fun x c => ?_) fun c => ?_
  ·dsimp only [uI]
   refine Sim.ite _ (Sim.pure (.done (none, c.2.1, c.2.2)) fun _ => rfl) (Sim.bind (simLtAt (lo + k) (lo + (c.2.1 + c.2.2) / 2)) fun r => ?_)
   cases r with
   | none => exact Sim.fail
   | some r =>
    dsimp only [uI]
    exact Sim.ite _ (Sim.pure (.yield (none, c.2.1, (c.2.1 + c.2.2) / 2)) fun _ => rfl) (Sim.pure (.yield (none, (c.2.1 + c.2.2) / 2 + 1, c.2.2)) fun _ => rfl)
  ·dsimp only [uI]
   cases c with
   | mk r c =>
    cases r with
    | some r => exact Sim.fail
    | none => exact Sim.bind (simMove (lo + k) (lo + c.1)) fun _ => Sim.pure (.yield (none, ())) fun _ => rfl
 ·dsimp only [uI]
  cases c with
  | mk r c =>
   cases r with
   | some r => exact Sim.fail
   | none => exact Sim.pure true fun _ => rfl
noncomputable def uM : Itm → Option (Array Nat) × Array Nat × Nat × Nat × Nat → Option (Array Keyed) × Array Keyed × Nat × Nat × Nat := fun I x => (x.1.map (uA I), uA I x.2.1, x.2.2)
noncomputable def uM2 : Itm → Option (Array Nat) × Array Nat × Nat × Nat × Nat × Nat → Option (Array Keyed) × Array Keyed × Nat × Nat × Nat × Nat := fun I x => (x.1.map (uA I), uA I x.2.1, x.2.2)
noncomputable def Sim.iteC {u : Itm → β → α} {m1 m2 : Itm → StateT SortSt Sem α} {c : Itm → Prop} {d : ∀ I, Decidable (c I)} (c' : Prop) [Decidable c'] (h : ∀ I, c I ↔ c') (S1 : Sim lt N u m1) (S2 : Sim lt N u m2) : Sim lt N u fun I => @_root_.ite _ (c I) (d I) (m1 I) (m2 I) :=
 ⟨fun st => if c' then S1.f st else S2.f st, fun prog w A E s I o st b st' e => by
  by_cases h' : c'
  ·rw [if_pos h'] at e
   rw [if_pos ((h I).mpr h')]; exact S1.ok prog w A E s I o st b st' e
  ·rw [if_neg h'] at e
   rw [if_neg fun z => h' ((h I).mp z)]; exact S2.ok prog w A E s I o st b st' e⟩
noncomputable def Sim.forC {u : Itm → β → α} {b : Itm → Nat} (b' : Nat) (hb : ∀ I, b I = b') (init : β) {i0 : Itm → α} {body : Itm → Nat → α → StateT SortSt Sem (ForInStep α)} (h0 : ∀ I, i0 I = u I init) (S : ∀ x c, Sim lt N (uF u) fun I => body I x (u I c)) : Sim lt N u fun I => forIn [:b I] (i0 I) (body I) :=
 Sim.congr (m' := fun I => forIn [:b'] (i0 I) (body I)) (fun I => by rw [hb]) (Sim.for init h0 S)
noncomputable def Sim.guard {u : Itm → β → α} {m : Itm → StateT SortSt Sem α} (c : Prop) [Decidable c] (S : c → Sim lt N u m) : Sim lt N u m :=
 ⟨fun st => if h : c then (S h).f st else none, fun prog w A E s I o st b st' e => by
  split at e
  ·next h => exact (S h).ok prog w A E s I o st b st' e
  ·cases e⟩
noncomputable def simLo (a b : Array Nat) : Sim lt N uA (fun I => mergeLo' (a.map I.it) (b.map I.it)) := by
 refine Sim.bind Sim.rule fun _ => ?_
 refine Sim.bind (Sim.elem b 0) fun b0 => ?_
 dsimp only [uK]
 refine Sim.iteC (1 = b.size) (fun I => by simp) Sim.fail ?_
 refine Sim.iteC (1 = a.size) (fun I => by simp) Sim.fail ?_
 refine Sim.getB fun st => ?_
 refine Sim.bind (u := uM) (Sim.forC (a.size + b.size) (fun I => by simp) (none, #[b0], 0, 1, st.g) (fun I => by simp [uM, uA]; rfl) fun x c => ?_) fun c => ?_
 ·dsimp only [uM]
  refine Sim.bind (u := uM2) (Sim.forC (a.size + b.size) (fun I => by simp) (none, c.2.1, c.2.2.1, c.2.2.2.1, 0, 0) (fun I => by simp [uM2, uA]) fun x d => ?_) fun d => ?_
  ·dsimp only [uM2]
   refine Sim.bind (Sim.elem b d.2.2.2.1) fun y => Sim.bind (Sim.elem a d.2.2.1) fun z => Sim.bind (Sim.cmp y z) fun r => ?_
   cases r with
   | none => exact Sim.fail
   | some r =>
    dsimp only [uI]
    refine Sim.ite _ ?_ ?_
    ·refine Sim.bind (Sim.elem b d.2.2.2.1) fun y => ?_
     dsimp only [uK]
     refine Sim.iteC (d.2.2.2.1 + 1 = b.size) (fun I => by simp) (Sim.pure (.done (some (d.2.1.push y ++ a.extract d.2.2.1 ++ b.extract (d.2.2.2.1 + 1)), d.2.1.push y, d.2.2.1, d.2.2.2.1 + 1, 0, d.2.2.2.2.2 + 1)) fun I => by simp [uF, uM2, uA]) ?_
     refine Sim.iteC (d.2.2.2.2.2 + 1 ≥ c.2.2.2.2) (fun I => Iff.rfl) (Sim.pure (.done (none, d.2.1.push y, d.2.2.1, d.2.2.2.1 + 1, 0, d.2.2.2.2.2 + 1)) fun I => by simp [uF, uM2, uA]) (Sim.pure (.yield (none, d.2.1.push y, d.2.2.1, d.2.2.2.1 + 1, 0, d.2.2.2.2.2 + 1)) fun I => by simp [uF, uM2, uA])
    ·refine Sim.bind (Sim.elem a d.2.2.1) fun y => ?_
     dsimp only [uK]
     refine Sim.iteC (d.2.2.1 + 1 + 1 = a.size) (fun I => by simp) (Sim.pure (.done (some (d.2.1.push y ++ b.extract d.2.2.2.1 ++ a.extract (d.2.2.1 + 1)), d.2.1.push y, d.2.2.1 + 1, d.2.2.2.1, d.2.2.2.2.1 + 1, 0)) fun I => by simp [uF, uM2, uA]) ?_
     refine Sim.iteC (d.2.2.2.2.1 + 1 ≥ c.2.2.2.2) (fun I => Iff.rfl) (Sim.pure (.done (none, d.2.1.push y, d.2.2.1 + 1, d.2.2.2.1, d.2.2.2.2.1 + 1, 0)) fun I => by simp [uF, uM2, uA]) (Sim.pure (.yield (none, d.2.1.push y, d.2.2.1 + 1, d.2.2.2.1, d.2.2.2.2.1 + 1, 0)) fun I => by simp [uF, uM2, uA])
  ·cases d with
   | mk r d =>
    cases r with
    | none => exact Sim.fail
    | some r => exact Sim.pure (.done (some r, d.1, d.2.1, d.2.2.1, c.2.2.2.2)) fun I => rfl
 ·cases c with
  | mk r c =>
   cases r with
   | none => exact Sim.fail
   | some r => exact Sim.pure r fun I => rfl
theorem Zes (f : Nat → Keyed) (sa : Nat) : ∀ (l : List Nat) (k : Nat) (p : Array Nat), ((l.map f).zipIdx k).foldl (fun (a : Array Keyed) x => match x with | (q, j) => a.setIfInBounds (sa + j) q) (p.map f) = ((l.zipIdx k).foldl (fun (a : Array Nat) x => a.setIfInBounds (sa + x.2) x.1) p).map f
 | [], k, p => rfl
 | x :: l, k, p => by
  rw [List.map_cons, List.zipIdx_cons, List.zipIdx_cons, List.foldl_cons, List.foldl_cons, ← Zes f sa l (k + 1)]
  congr 1
  simp
noncomputable def simAt (i : Nat) : Sim lt N (uI (α := Bool)) (fun _ => mergeAt' i) := by
 refine Sim.getB fun st => ?_
 dsimp only [lift, SortSt.mk']
 generalize st.pend[i]? = x
 generalize st.pend[i + 1]? = y
 cases x with
 | none => exact Sim.fail
 | some x =>
  cases y with
  | none => exact Sim.fail
  | some y =>
   dsimp only
   refine Sim.bind (Sim.set ⟨st.p, (st.pend.setIfInBounds i (x.1, x.2.1 + y.2.1, x.2.2)).eraseIdxIfInBounds (i + 1), st.g⟩ fun I => rfl) fun _ => ?_
   refine Sim.bind (Sim.elem st.p y.1) fun b0 => ?_
   refine Sim.bind (simGallop false b0 st.p x.1 x.2.1 0) fun k => ?_
   cases k with
   | none => exact Sim.fail
   | some k =>
    dsimp only [uI]
    refine Sim.iteC (x.2.1 - k = 0) (fun I => by simp) Sim.fail ?_
    refine Sim.bind (Sim.elem st.p (x.1 + k + (x.2.1 - k) - 1)) fun a0 => ?_
    refine Sim.bind (simGallop true a0 st.p y.1 y.2.1 (y.2.1 - 1)) fun n => ?_
    cases n with
    | none => exact Sim.fail
    | some n =>
     dsimp only [uI]
     refine Sim.iteC (n = 0) (fun I => by simp) Sim.fail ?_
     refine Sim.iteC (x.2.1 - k ≤ n) (fun I => Iff.rfl) ?_ Sim.fail
     refine Sim.bind (u := uA) (Sim.congr (fun I => ?_) (simLo (st.p.extract (x.1 + k) y.1) (st.p.extract y.1 (y.1 + n)))) fun mg => ?_
     ·show mergeLo' _ _ = _
      rw [Array.map_extract, Array.map_extract]
     ·refine Sim.bind (Sim.modify (fun st => { st with p := (mg.toList.zipIdx).foldl (fun (a : Array Nat) z => a.setIfInBounds (x.1 + k + z.2) z.1) st.p }) fun I st => ?_) fun _ => Sim.getB fun st2 => Sim.pure true fun I => rfl
      show SortSt.mk' I.κ _ st.pend st.g none = SortSt.mk' I.κ _ st.pend st.g none
      congr 1
      have := Zes I.it (x.1 + k) mg.toList 0 st.p
      rw [← this, uA, Array.toList_map]
      rfl
theorem hsz (I : Itm) (st : NSt) : (arrOf (lift I st)).size = st.p.size := Array.size_map ..
noncomputable def simRuns : Sim lt N (uI (α := Unit)) (fun _ => sortRuns') := by
 refine Sim.congr (fun I => sortRuns'_eq) ?_
 refine Sim.getB fun st => ?_
 apply Sim.congr
 case h => intro I; rw [hsz]
 dsimp only
 refine Sim.bind (u := uI) (Sim.for (none, 0) (fun _ => rfl) fun x c => ?_) fun c => ?_
 ·dsimp only [uI]
  refine Sim.ite _ (Sim.pure (.done (none, c.2)) fun _ => rfl) (Sim.bind (simCount c.2 (st.p.size - c.2)) fun r => ?_)
  cases r with
  | none => exact Sim.fail
  | some n =>
   dsimp only [uI]
   refine Sim.ite _ ?_ ?_
   ·refine Sim.bind Sim.rule fun _ => ?_
    refine Sim.bind (simBin c.2 (min (st.p.size - c.2) (minRun' st.p.size st.p.size 0)) n) fun b => ?_
    dsimp only [uI]
    refine Sim.ite _ Sim.fail ?_
    refine Sim.getB fun st2 => ?_
    dsimp only [lift, SortSt.mk', pendingOf]
    generalize st2.pend.back? = y
    cases y with
    | none => exact Sim.bind (Sim.modify (fun st1 => { st1 with pend := st1.pend.push (c.2, min (st.p.size - c.2) (minRun' st.p.size st.p.size 0), 0) }) fun I st => rfl) fun _ => Sim.pure (.yield (none, c.2 + min (st.p.size - c.2) (minRun' st.p.size st.p.size 0))) fun _ => rfl
    | some y =>
     refine Sim.bind (u := uI) (Sim.for (none, ()) (fun _ => rfl) fun x d => ?_) fun d => ?_
     ·refine Sim.getB fun st3 => ?_
      dsimp only [lift, SortSt.mk', pendingOf]
      refine Sim.guard (¬ st3.pend.size > 1) fun h3 => ?_
      exact Sim.congr (fun I => by rw [if_neg h3]) (Sim.pure (a := fun _ => ForInStep.done (none, ())) (.done (none, ())) fun _ => rfl)
     ·dsimp only [uI]
      cases d with
      | mk r d =>
       cases r with
       | some r => exact Sim.fail
       | none =>
        dsimp only
        refine Sim.bind (Sim.modify (fun st1 => { st1 with pend := st1.pend.modify (st1.pend.size - 1) fun z => (z.1, z.2.1, power' st.p.size (2 * y.1 + y.2.1) (2 * y.1 + y.2.1 + y.2.1 + min (st.p.size - c.2) (minRun' st.p.size st.p.size 0)) st.p.size) }) fun I st => rfl) fun _ => ?_
        exact Sim.bind (Sim.modify (fun st1 => { st1 with pend := st1.pend.push (c.2, min (st.p.size - c.2) (minRun' st.p.size st.p.size 0), 0) }) fun I st => rfl) fun _ => Sim.pure (.yield (none, c.2 + min (st.p.size - c.2) (minRun' st.p.size st.p.size 0))) fun _ => rfl
   ·refine Sim.getB fun st2 => ?_
    dsimp only [lift, SortSt.mk', pendingOf]
    generalize st2.pend.back? = y
    cases y with
    | none => exact Sim.bind (Sim.modify (fun st => { st with pend := st.pend.push (c.2, n, 0) }) fun I st => rfl) fun _ => Sim.pure (.yield (none, c.2 + n)) fun _ => rfl
    | some y => exact Sim.fail
 ·dsimp only [uI]
  cases c with
  | mk r c =>
   cases r with
   | some r => exact Sim.fail
   | none =>
    dsimp only
    refine Sim.bind (u := uI) (Sim.for (none, ()) (fun _ => rfl) fun x d => ?_) fun d => ?_
    ·refine Sim.getB fun st2 => ?_
     refine Sim.iteC (st2.pend.size ≤ 1) (fun I => Iff.rfl) (Sim.pure (.done (none, ())) fun _ => rfl) ?_
     refine Sim.guard (st2.pend.size = 2) fun h2 => ?_
     refine Sim.bind (u := uI) (Sim.congr (fun I => ?_) (simAt 0)) fun b => ?_
     ·have e : pendingOf (lift I st2) = st2.pend := rfl
      rw [e, h2]
      rfl
     ·dsimp only [uI]
      exact Sim.ite _ Sim.fail (Sim.pure (.yield (none, ())) fun _ => rfl)
    ·dsimp only [uI]
     cases d with
     | mk r d =>
      cases r with
      | some r => exact Sim.fail
      | none => exact Sim.pure () fun _ => rfl
noncomputable def runS (lt : Nat → Nat → Bool) (n : Nat) : Option (Array Nat) := ((simRuns (lt := lt) (N := n)).f ⟨(List.range n).toArray, #[], 7⟩).map fun r => r.2.p
end Tim
namespace L2
open PySem PySem.Spec PyProof.Rows
noncomputable abbrev Pr := Int × List Int
noncomputable def prLt (x y : Pr) : Bool := if x.1 = y.1 then (if x.2 = y.2 then false else HT.lexLt x.2 y.2) else decide (x.1 < y.1)
noncomputable def TpP (h : Heap) (v : Value) (x : Pr) : Prop := ∃ a o t y k, v = .ref a ∧ h.get? a = some o ∧ o.cls = .type "tuple" ∧ o.data = .seq (List.toArray [.int x.1 t, y]) k ∧ TpI h y x.2
theorem TpP.keep {h h' : Heap} {v : Value} {x : Pr} (q : TpP h v x) (k : ∀ b o, o.cls = .type "tuple" → h.get? b = some o → h'.get? b = some o) : TpP h' v x := by
 obtain ⟨a, o, t, y, n, e, h1, h2, h3, h4⟩ := q
 exact ⟨a, o, t, y, n, e, k _ _ h2 h1, h2, h3, h4.keep k⟩
theorem Zd7 {h : Heap} : ∀ {vs : List Value} {ns : List Int}, IntsAre vs ns → ReadsAll h vs (ns.map .int) []
 | _, _, .nil => .nil
 | _, _, .cons i t r => ReadsAll.cons (as := []) (.int i t) (Zd7 r)
theorem TpI.reads {h : Heap} {v : Value} {ns : List Int} (q : TpI h v ns) : Reads h v (tI ns) [] := by
 obtain ⟨a, o, vs, n, rfl, h1, h2, h3, h4⟩ := q
 exact Reads.tuple h1 h2 h3 (by simpa using Zd7 h4)
theorem Zf0 : ∀ ns ms : List Int, PyData.eqvAll (ns.map .int) (ms.map .int) = decide (ns = ms)
 | [], [] => by simp [PyData.eqvAll]
 | [], _ :: _ => by simp [PyData.eqvAll]
 | _ :: _, [] => by simp [PyData.eqvAll]
 | x :: r, y :: r' => by
  rw [List.map_cons, List.map_cons, PyData.eqvAll, Zf0 r r', PyData.eqv]
  by_cases e : x = y <;> by_cases e2 : r = r' <;> simp [e, e2]
theorem Zir (ns ms : List Int) : PyData.eqv (tI ns) (tI ms) = decide (ns = ms) := by
 unfold tI; rw [PyData.eqv]; exact Zf0 ns ms
section
variable {prog : Program} {w : World} {A : Around} {E : Value → Shared → Prop} {s : Shared}
theorem Zec {x y : Value} {ns ms : List Int} {Q : Bool → Shared → Prop} (hx : TpI s.heap x ns) (hy : TpI s.heap y ms) (hu : A.units + 1 < cLine) (h : Q (decide (ns = ms)) s) : wpAny (model prog w) A (eqBool x y) Q E s := by
 refine SeqAt.eqBoolOverData prog w A E s x y (tI ns) (tI ms) [] [] Q hx.reads hy.reads ?_ ?_ ?_ ?_
 ·exact Zik ns
 ·exact Zik ms
 ·have := Zi3 ns
  omega
 ·rw [Zir]; exact h
theorem Zfy {x y : Value} {ns ms : List Int} {Q : Bool → Shared → Prop} (hx : TpI s.heap x ns) (hy : TpI s.heap y ms) (hu : A.units < cLine) (h : Q (HT.lexLt ns ms) s) : wpAny (model prog w) A (oneLt' false x y) Q E s := by
 obtain ⟨a, o, vs, n, rfl, g1, g2, g3, g4⟩ := hx
 obtain ⟨b, o', us, n', rfl, k1, k2, k3, k4⟩ := hy
 rw [oneLt'_eq]
 simp only [Bool.false_eq_true, if_false]
 refine wpAny_bind ?_
 show wpAny _ _ (compareOp .Lt (.ref a) (.ref b)) _ _ s
 exact HT.lt_tupInts ⟨o, g1, g2, n, g3⟩ ⟨o', k1, k2, n', k3⟩ (by simpa using g4) (by simpa using k4) hu (wpAny_truthy_bool h)
theorem Zek {v u : Value} {x y : Pr} {Q : Bool → Shared → Prop} (hx : TpP s.heap v x) (hy : TpP s.heap u y) (hu : A.units + 1 < cLine) (h : Q (prLt x y) s) : wpAny (model prog w) A (keyLt' (tuples' true) v u) Q E s := by
 obtain ⟨a, o, t, p, n, rfl, g1, g2, g3, g4⟩ := hx
 obtain ⟨b, o', t', p', n', rfl, k1, k2, k3, k4⟩ := hy
 rw [Zdg]
 refine wpAny_bind (listItems_at g1 g3 (wpAny_bind (listItems_at k1 k3 ?_)))
 simp only [List.toList_toArray, List.zip_cons_cons, List.zip_nil_left, List.zipIdx_cons, List.zipIdx_nil, List.forIn_cons, List.forIn_nil, bind_assoc]
 refine wpAny_bind (wpAny_eqBool_int ?_)
 unfold prLt at h
 by_cases e : x.1 = y.1
 ·rw [if_pos e] at h
  rw [show (x.1 == y.1) = true by simp [e]]
  refine wpAny_bind (wpAny_pure ?_)
  dsimp only
  simp only [bind_assoc]
  refine wpAny_bind (Zec g4 k4 hu ?_)
  by_cases e2 : x.2 = y.2
  ·rw [if_pos e2] at h
   rw [decide_eq_true e2]
   refine wpAny_bind (wpAny_pure ?_)
   exact wpAny_bind (wpAny_pure (wpAny_pure h))
  ·rw [if_neg e2] at h
   rw [decide_eq_false e2]
   refine wpAny_bind (wpAny_bind (Zfy g4 k4 (by omega) ?_))
   exact wpAny_pure (wpAny_bind (wpAny_pure (wpAny_pure h)))
 ·rw [if_neg e] at h
  rw [show (x.1 == y.1) = false by simp [e]]
  refine wpAny_bind (wpAny_bind (Zfx ?_))
  exact wpAny_pure (wpAny_bind (wpAny_pure (wpAny_pure h)))
theorem Zfm {v : Value} {x : Pr} {Q : Option Value → Shared → Prop} (hv : TpP s.heap v x) (h : ∀ i t, Q (some (.int i t)) s) : wpAny (model prog w) A (firstOfTuple' v) Q E s := by
 obtain ⟨a, o, t, p, n, rfl, g1, g2, g3, g4⟩ := hv
 show wpAny _ _ (do
  if (← typeOf (.ref a)) != .type "tuple" then return none
  return (← Builtin.List.listItems (.ref a))[0]?) _ _ s
 refine wpAny_bind (wpAny_typeOf (T := "tuple") ⟨o, g1, g2⟩ ?_)
 simp only [bne_self_eq_false, Bool.false_eq_true, if_false]
 exact wpAny_bind (listItems_at g1 g3 (wpAny_pure (h x.1 t)))
theorem Zdy : ∀ {vs : List Value} {Q : List (Option Value) → Shared → Prop}, (∀ v ∈ vs, ∃ x, TpP s.heap v x) → (∀ us : List Value, us.length = vs.length → (∀ u ∈ us, ∃ i t, u = Value.int i t) → Q (us.map some) s) → wpAny (model prog w) A (vs.mapM firstOfTuple') Q E s
 | [], Q, _, h => by
  rw [List.mapM_nil]
  exact wpAny_pure (h [] rfl fun u hu => (nomatch hu))
 | v :: vs, Q, hv, h => by
  rw [List.mapM_cons]
  obtain ⟨x, h1⟩ := hv v (List.mem_cons_self ..)
  refine wpAny_bind (Zfm h1 fun i t => wpAny_bind (Zdy (fun u hu => hv u (List.mem_cons_of_mem _ hu)) fun us l hu => wpAny_pure ?_))
  refine h (Value.int i t :: us) (by simp [l]) fun u hu' => ?_
  rcases List.mem_cons.mp hu' with e | e
  ·exact ⟨i, t, e⟩
  ·exact hu u e
theorem Zfr {v1 : Value} {vs : List Value} {Q : SortKind → Shared → Prop} (hv : ∀ v ∈ v1 :: vs, ∃ x, TpP s.heap v x) (h : Q (tuples' true) s) : wpAny (model prog w) A (keyKind' (v1 :: vs).toArray) Q E s := by
 rw [keyKind'_eq, List.mapM_toArray]
 refine wpAny_bind ?_
 show wpAny _ _ (List.toArray <$> (v1 :: vs).mapM firstOfTuple') _ _ s
 rw [map_eq_pure_bind]
 refine wpAny_bind (Zdy hv fun us l hu => wpAny_pure ?_)
 rw [if_pos (by simp)]
 refine wpAny_bind (wpAny_rule ?_)
 obtain ⟨ns, hI⟩ := Zbs us hu
 have e : (List.map some us).toArray.filterMap id = us.toArray := by simp
 rw [e, oneTypeOnly'_eq, List.mapM_toArray, mapM_typeOf_ints hI]
 simp only [map_pure, pure_bind]
 cases us with
 | nil => simp at l
 | cons u us =>
  have hall : ((List.map (fun _ => Value.type "int") (u :: us)).toArray.all fun x => x == Value.type "int") = true := by
   simp only [List.all_toArray, List.all_map, List.all_eq_true]
   intro _ _
   rfl
  have h0 : (List.map (fun _ => Value.type "int") (u :: us)).toArray[0]? = some (Value.type "int") := by simp
  rw [h0]
  simp only [hall, if_true, pure_bind]
  exact wpAny_pure h
noncomputable def PrsV (h : Heap) (vs : List Value) (prs : List Pr) : Prop := vs.length = prs.length ∧ ∀ (i : Nat) v, vs[i]? = some v → ∃ x, prs[i]? = some x ∧ TpP h v x
theorem PrsV.keep {h h' : Heap} {vs : List Value} {prs : List Pr} (q : PrsV h vs prs) (k : ∀ b o, o.cls = .type "tuple" → h.get? b = some o → h'.get? b = some o) : PrsV h' vs prs :=
 ⟨q.1, fun i v e => by obtain ⟨x, h1, h2⟩ := q.2 i v e; exact ⟨x, h1, h2.keep k⟩⟩
noncomputable def prsLt (prs : List Pr) (i j : Nat) : Bool := prLt (prs.getD i (0, [])) (prs.getD j (0, []))
noncomputable def itV (vs : List Value) (i : Nat) : Keyed := (vs.getD i .none, vs.getD i .none)
theorem Zji (vs : List Value) : (List.range vs.length).toArray.map (itV vs) = vs.toArray.zip vs.toArray := by
 apply Array.ext'
 simp only [Array.toList_map, List.toList_toArray, Array.toList_zip]
 refine List.ext_getElem (by simp) fun i h1 h2 => ?_
 simp at h1
 simp [itV, h1]
theorem Zi2 {vs : List Value} {prs : List Pr} {p : Array Nat} {Q : Unit → SortSt → Prop} (hV : PrsV s.heap vs prs) (hu : A.units + 1 < cLine) (hr : Tim.runS (prsLt prs) vs.length = some p) (h : ∀ st', arrOf st' = p.map (itV vs) → failedOf st' = none → Q () st') :
  wpS (model prog w) A E s sortRuns' Q (SortSt.mk' (tuples' true) (vs.toArray.zip vs.toArray) #[] 7 none) := by
 unfold Tim.runS at hr
 obtain ⟨⟨b, st'⟩, e1, e2⟩ := Option.map_eq_some_iff.mp hr
 have o : Tim.Orc prog w A s ⟨tuples' true, itV vs⟩ (prsLt prs) vs.length := by
  intro i j hi hj C hC
  obtain ⟨x, hx1, hx2⟩ := hV.2 i vs[i] (gEq hi)
  obtain ⟨y, hy1, hy2⟩ := hV.2 j vs[j] (gEq hj)
  have ei : (itV vs i).1 = vs[i] := by simp [itV, List.getD, hi]
  have ej : (itV vs j).1 = vs[j] := by simp [itV, List.getD, hj]
  show wpAny _ _ (keyLt' (tuples' true) (itV vs i).1 (itV vs j).1) _ _ _
  rw [ei, ej]
  refine Zek hx2 hy2 hu ?_
  have : prsLt prs i j = prLt x y := by simp [prsLt, List.getD, hx1, hy1]
  rw [← this]; exact hC
 have := Tim.simRuns.ok prog w A E s ⟨tuples' true, itV vs⟩ o _ b st' e1
 have e3 : Tim.lift ⟨tuples' true, itV vs⟩ ⟨(List.range vs.length).toArray, #[], 7⟩ = SortSt.mk' (tuples' true) (vs.toArray.zip vs.toArray) #[] 7 none := by
  unfold Tim.lift
  rw [Zji]
 rw [e3] at this
 refine wpS_mono this ?_
 rintro _ _ ⟨rfl, rfl⟩
 refine h _ ?_ rfl
 show Array.map _ st'.p = _
 rw [show st'.p = p from e2]
theorem Zdi {a : Addr} {vs : List Value} {prs : List Pr} {p : Array Nat} {n : Nat} {R : Fin → Shared → Prop} (ho : s.heap.get? a = some (seqObj "list" vs.toArray n)) (hV : PrsV s.heap vs prs) (hu : A.units + 1 < cLine) (h2 : 2 ≤ vs.length) (hlen : vs.length ≤ 100000) (hpl : p.size ≤ 100000) (hr : Tim.runS (prsLt prs) vs.length = some p)
  (h : R (.done (.ret .none)) { s with heap := sortedHeap s.heap a vs (p.map fun i => vs.getD i .none) }) : wpAny (model prog w) A (Builtin.«list.sort» ⟨[.ref a], []⟩) R E s := by
 rw [list_sort_plain]
 have ha : a < s.heap.objs.size := Heap.lt_size ho
 have hsl : sizeLine = 16777216 := by decide
 refine wpAny_bind (listItems_at ho rfl ?_)
 refine wpAny_bind (listUpdate_at ho rfl ?_ (by rw [List.size_toArray]; omega) (by show 0 ≤ _; omega))
 obtain ⟨e1, ho1⟩ : ∃ e1, (s.heap.update a (Obj.mapSeq fun _ => #[])).get? a = some (seqObj "list" #[] e1) := ⟨_, get?_update_seq ho (fun _ => #[])⟩
 refine wpAny_bind (seqEpoch_at ho1 rfl ?_)
 refine wpAny_bind (wpAny_newTuple ?_ (by rw [List.toList_toArray]; omega))
 refine wpAny_bind (wpAny_newList ?_)
 refine wpAny_holding ?_
 have ho6 : (((s.heap.update a (Obj.mapSeq fun _ => #[])).push (seqObj "tuple" vs.toArray 0)).push (seqObj "list" #[] 0)).get? a = some (seqObj "list" #[] e1) := by
  rw [Heap.get?_push_ne _ _ _ (by rw [size_push', Heap.size_update]; exact Nat.ne_of_lt (Nat.lt_succ_of_lt ha)), Heap.get?_push_ne _ _ _ (by rw [Heap.size_update]; exact Nat.ne_of_lt ha)]
  exact ho1
 have kp : ∀ b o, o.cls = .type "tuple" → s.heap.get? b = some o → (((s.heap.update a (Obj.mapSeq fun _ => #[])).push (seqObj "tuple" vs.toArray 0)).push (seqObj "list" #[] 0)).get? b = some o := by
  intro b o hc hb
  have nb : b ≠ a := fun z => by rw [z, ho] at hb; cases hb; simp at hc
  exact Heap.get?_push_of_some _ (Heap.get?_push_of_some _ ((Heap.SameBut.update ..).extBut _ _ nb hb))
 show wpAny (model prog w) A _ R E { s with heap := ((s.heap.update a (Obj.mapSeq fun _ => #[])).push (seqObj "tuple" vs.toArray 0)).push (seqObj "list" #[] 0) }
 dsimp only
 have hn2 : ¬ vs.toArray.size < 2 := by rw [List.size_toArray]; omega
 rw [if_neg hn2, if_neg hn2]
 have hV' := hV.keep kp
 obtain ⟨v₁, rest, rfl⟩ : ∃ v₁ rest, vs = v₁ :: rest := by
  match vs, h2 with
  | [], h2 => simp at h2
  | v₁ :: rest, _ => exact ⟨v₁, rest, rfl⟩
 refine wpAny_bind (Zfr (fun v hv => ?_) ?_)
 ·obtain ⟨i, hi⟩ := List.mem_iff_getElem?.mp hv
  obtain ⟨x, _, hx⟩ := hV'.2 i v hi
  exact ⟨x, hx⟩
 refine wpAny_bind (wpAny_mono (Zi2 (Q := fun _ st' => arrOf st' = p.map (itV (v₁ :: rest)) ∧ failedOf st' = none) hV' hu hr fun st' a1 a2 => ⟨a1, a2⟩) ?_ fun _ _ e => e)
 rintro ⟨⟨⟩, st'⟩ s' ⟨rfl, hp, hf⟩
 have hmm : Array.map (fun x => x.snd) (arrOf st') = p.map fun i => (v₁ :: rest).getD i .none := by
  rw [hp, Array.map_map]; rfl
 dsimp only
 refine wpAny_bind (seqEpoch_at ho6 rfl ?_)
 refine wpAny_bind (listUpdate_at ho6 rfl ?_ (hsz2 := by rw [hmm, Array.size_map]; omega))
 rw [hf]
 simp only [bne_self_eq_false, Bool.false_eq_true, if_false]
 refine wpAny_pure ?_
 rw [hmm]
 exact h
theorem Zfz {l : Addr} {vs : List Value} {prs : List Pr} {p : Array Nat} {Q : Value → Shared → Prop} (hl : s.heap.IsList l vs.toArray) (hV : PrsV s.heap vs prs) (hu : A.units + 8 < cLine) (h2 : 2 ≤ vs.length) (hlen : vs.length ≤ 100000) (hpl : p.size ≤ 100000) (hr : Tim.runS (prsLt prs) vs.length = some p)
  (h : Q (.ref (s.heap.objs.size + 1)) { s with heap := sortedAll s.heap vs (p.map fun i => vs.getD i .none) }) :
  wpAny (model prog w) A (call (.builtin "sorted") [.ref l]) Q E s := by
 have hsl : sizeLine = 16777216 := by decide
 refine Calls.call_function_entry kind_sorted plain_sorted entry_sorted (args_sorted1 _) ?_
 unfold Builtin.«sorted»
 refine wpAny_bind (m := checkCount "sorted" 1 1 _) (wpAny_pure ?_)
 refine wpAny_bind (collect_list hl ?_ (by omega))
 refine wpAny_bind (wpAny_newList ?_ (by omega))
 have hsz : ((s.heap.push (seqObj "list" #[] 0)).update s.heap.objs.size (Obj.mapSeq (· ++ vs.toArray))).objs.size = s.heap.objs.size + 1 := by
  rw [Heap.size_update, size_push']
 have hoL : (((s.heap.push (seqObj "list" #[] 0)).update s.heap.objs.size (Obj.mapSeq (· ++ vs.toArray))).push (seqObj "list" vs.toArray 0)).get? (s.heap.objs.size + 1) = some (seqObj "list" vs.toArray 0) := by
  rw [← hsz]; exact Heap.get?_push_size _ rfl
 have kp : ∀ b o, o.cls = .type "tuple" → s.heap.get? b = some o → (((s.heap.push (seqObj "list" #[] 0)).update s.heap.objs.size (Obj.mapSeq (· ++ vs.toArray))).push (seqObj "list" vs.toArray 0)).get? b = some o := by
  intro b o hc hb
  have nb : b ≠ s.heap.objs.size := Nat.ne_of_lt (Heap.lt_size hb)
  exact Heap.get?_push_of_some _ ((Heap.SameBut.update ..).extBut _ _ nb (Heap.get?_push_of_some _ hb))
 show wpAny _ _ _ _ _ { s with heap := ((s.heap.push (seqObj "list" #[] 0)).update s.heap.objs.size (Obj.mapSeq (· ++ vs.toArray))).push (seqObj "list" vs.toArray 0) }
 rw [hsz]
 refine wpAny_bind (wpAny_holding (wpAny_call_entry slot_list_sort ⟨_, hoL, rfl⟩ entry_list_sort (Zdi hoL (hV.keep kp) ?_ h2 hlen hpl hr ⟨_, rfl, ?_⟩) (args_list_sort _)))
 ·have e : A.in1.in1.units ≤ A.units + 2 := Nat.le_refl _
  omega
 exact wpAny_pure ⟨_, rfl, h⟩
end
noncomputable def prD (x : Pr) : PyData := .tuple [.int x.1, tI x.2]
section
variable {X : Cx} {K : W.Frag} {G : Hp}
theorem DV.prD_inv {H : Hp} {x : Pr} {v : V} (h : DV K H (prD x) v) : ∃ a b, v = .ref a ∧ SqT K H a [.int x.1, .ref b] ∧ SqT K H b (x.2.map V.int) := by
 unfold prD DV at h
 obtain ⟨a, xs, rfl, h1, h2⟩ := h
 unfold DVs at h2
 obtain ⟨y, r, rfl, h3, h4⟩ := h2
 unfold DV at h3
 subst h3
 unfold DVs at h4
 obtain ⟨z, r, rfl, h5, h6⟩ := h4
 unfold DVs at h6
 subst h6
 obtain ⟨b, rfl, h7⟩ := DV.tI_inv h5
 exact ⟨a, b, rfl, h1, h7⟩
theorem Zfi (hu : X.A.units + 64 < cLine) : CallR X (.builtin "sorted") (fun xs H Q => ∃ (a : Addr) (ys : List V) (prs : List Pr) (p : Array Nat), xs = [.ref a] ∧ SqL X.K H a ys ∧ DVs X.K H (prs.map prD) ys ∧ 2 ≤ ys.length ∧ ys.length ≤ 100000 ∧ p.size ≤ 100000 ∧ Tim.runS (prsLt prs) ys.length = some p ∧ ∀ q, H q = none → Q (.ref q) (upd H q (.lst (p.toList.map fun i => ys.getD i .non)))) := by
 rintro pins s σ H xs us Q I r ⟨a, ys, prs, p, rfl, hq, hD, h2, hl, hpl, hr, q⟩
 obtain ⟨u, rfl, rx⟩ := vals1 r
 cases (show u = Value.ref a from rx)
 obtain ⟨its, rv, ip, hz⟩ := I.list hq
 have lv := rv.length
 have lD := hD.length
 rw [lmp] at lD
 have hV : PrsV s.heap its prs := by
  refine ⟨by omega, fun i v hv => ?_⟩
  have hi : i < ys.length := by have := (List.getElem?_eq_some_iff.mp hv).1; omega
  obtain ⟨u, e1, e2⟩ := rv.get (i := i) (x := ys[i]) (gEq hi)
  rw [hv] at e1; cases e1
  obtain ⟨d, hd, dv⟩ := hD.get (i := i) (gEq hi)
  rw [List.getElem?_map] at hd
  obtain ⟨x, hx, rfl⟩ : ∃ x, prs[i]? = some x ∧ prD x = d := by
   cases e : prs[i]? with
   | none => rw [e] at hd; cases hd
   | some r => rw [e] at hd; exact ⟨r, rfl, Option.some.inj hd⟩
  obtain ⟨b, c, e3, h1, h3⟩ := DV.prD_inv dv
  rw [e3] at e2
  cases (show v = Value.ref b from e2)
  obtain ⟨ts, r1, ⟨o, g1, g2, n, g3⟩, _⟩ := I.tuple h1
  obtain ⟨ts', r2, ⟨o', k1, k2, n', k3⟩, _⟩ := I.tuple h3
  obtain ⟨w1, w2, rfl, r3, r4⟩ := Vals.two r1
  obtain ⟨t, rfl⟩ := r3
  cases (show w2 = Value.ref c from r4)
  exact ⟨x, hx, b, o, t, _, n, rfl, g1, g2, g3, c, o', ts', n', rfl, k1, k2, k3, Zfp r2⟩
 refine Zfz ip.isList hV (by omega) (by omega) (by omega) hpl (by rw [← lv]; exact hr) ?_
 have hf : H (s.heap.objs.size + 1) = none := I.hok.fresh (Nat.le_succ _)
 obtain ⟨e, he⟩ := sortedAll_at s.heap its (p.map fun i => its.getD i .none)
 refine ⟨.ref (s.heap.objs.size + 1), upd H (s.heap.objs.size + 1) (.lst (p.toList.map fun i => ys.getD i .non)), I.laid (t' := s.toks) (fun b o hb => sortedAll_old hb) (Nat.le_succ _) ?_, rfl, q _ hf⟩
 refine ⟨by rw [lmp, Array.length_toList]; exact Nat.le_trans hpl (by decide), p.toList.map fun i => its.getD i .none, e, ?_, by rw [he]; congr 2; exact Array.ext' (by rw [Array.toList_map, List.toList_toArray])⟩
 have key : ∀ i, RelV (ys.getD i .non) (its.getD i .none) := fun i => by
  by_cases hi : i < ys.length
  ·obtain ⟨u, e1, e2⟩ := rv.get (i := i) (x := ys[i]) (gEq hi)
   simp only [List.getD, e1, gEq hi, Option.getD_some]; exact e2
  ·simp only [List.getD, List.getElem?_eq_none (show ys.length ≤ i by omega), List.getElem?_eq_none (show its.length ≤ i by omega), Option.getD_none]; rfl
 generalize p.toList = l
 induction l with
 | nil => exact .nil
 | cons x l ih => exact .cons (key x) ih
noncomputable def gSortP (o : Bool) : Val → DTE := fun v s k => match rdL s.w v with
 | some ds => ∃ (prs : List Pr) (p : Array Nat), ds = prs.map prD ∧ 2 ≤ prs.length ∧ prs.length ≤ 100000 ∧ p.size ≤ 100000 ∧ (∀ i ∈ p.toList, i < prs.length) ∧ Tim.runS (prsLt prs) prs.length = some p ∧ nl o (p.toList.map fun i => ds.getD i .none) s k
 | none => False
theorem Zhx (o : Bool) : RC K (fun xs H Q => ∃ (a : Addr) (ys : List V) (prs : List Pr) (p : Array Nat), xs = [.ref a] ∧ SqL K H a ys ∧ DVs K H (prs.map prD) ys ∧ 2 ≤ ys.length ∧ ys.length ≤ 100000 ∧ p.size ≤ 100000 ∧ Tim.runS (prsLt prs) ys.length = some p ∧ ∀ q, H q = none → Q (.ref q) (upd H q (.lst (p.toList.map fun i => ys.getD i .non)))) (f1 (gSortP o)) := by
 refine rc1 (fun v s Q Q' h q => ?_) (fun G s σ H x v Q r v1 h => ?_)
 ·unfold gSortP at q ⊢; split at q
  ·obtain ⟨prs, p, h1, h2, h3, h4, h5, h6, h7⟩ := q
   exact ⟨prs, p, h1, h2, h3, h4, h5, h6, Zfv h h7⟩
  ·exact q.elim
 ·unfold gSortP at h; split at h
  ·next ds e =>
   obtain ⟨prs, p, rfl, g2, g3, g4, g5, g6, g7⟩ := h
   obtain ⟨a, xs, rfl, h1, h2⟩ := r.rdL v1 e
   have hl := h2.length
   rw [lmp] at hl
   refine ⟨a, xs, prs, p, rfl, h1, h2.dv r.sub ?_, by omega, by omega, g4, by rw [← hl]; exact g6, fun q hq => r.nl ?_ g7 q hq⟩
   ·clear g2 g3 g5 g6 g7 h2 e hl
    induction prs with
    | nil => simp [PyData.hasDictAll]
    | cons x l ih => rw [List.map_cons, PyData.hasDictAll, ih, Bool.or_false]; simp [prD, PyData.hasDict, PyData.hasDictAll, Zjm]
   ·generalize p.toList = l at g5
    clear g7
    induction l with
    | nil => unfold DWs; rfl
    | cons i l ih =>
     have hi := g5 i (List.mem_cons_self ..)
     have hi2 : i < xs.length := by omega
     obtain ⟨d, e1, e2⟩ := h2.get (gEq hi2)
     rw [List.map_cons, List.map_cons]
     unfold DWs
     refine ⟨_, _, rfl, ?_, ih fun j hj => g5 j (List.mem_cons_of_mem _ hj)⟩
     simp only [List.getD, e1, gEq hi2, Option.getD_some]
     exact e2
  ·exact h.elim
end
end L2
local macro_rules
 | `(tactic| simp! only [$xs:simpLemma,*]) => `(tactic| ((try dsimp only [L2.dAsg, L2.dLst, L2.dCons, L2.dNil, L2.dTup, L2.unD, L2.nl, L2.startD, L2.tgN, L2.tgTup, L2.tgCons, L2.tgNil, L2.DS.put, L2.DS.set, L2.dVar, L2.dC, L2.dRet, L2.dRetN, L2.dIfE, L2.dTru, L2.truD, L2.rdA, L2.rdT, L2.rdL, L2.rdM, L2.rdD, L2.dUn, L2.fU, L2.dOp, L2.fI0, L2.fB0, L2.fI, L2.fEq, L2.fEqD, L2.fInD, L2.fCatT, L2.fCat, L2.fRep, L2.fIxL, L2.fIxT, L2.dYes, L2.dNext, L2.dTest, L2.dAnd, L2.dOr, L2.dNot, L2.dAndV, L2.dOrV, L2.dNotV, L2.dCB, L2.f1, L2.f2, L2.gLen, L2.gTupOf, L2.gListOf, L2.gSum, L2.gAll, L2.gRepr, L2.fMax2, L2.fMin2, L2.fIsi, L2.gInt1, L2.dDrop, L2.dItL, L2.dItT, L2.dRng1, L2.dRng2, L2.dZip, L2.dEnum, L2.seqD, L2.dPar, L2.dSl, L2.dNoP, L2.dP, L2.fSlT, L2.fSlL, L2.dRev, L2.dEmit, L2.dCall, L2.dCallK, L2.noP, L2.captD, L2.ext, List.map_cons, List.map_nil, List.cons_append, List.nil_append, List.length_cons, List.length_nil, List.replicate_succ, List.replicate_zero, List.set_cons_zero, List.set_cons_succ, List.getElem?_cons_zero, List.getElem?_cons_succ, List.getElem?_nil, Option.map_some, Option.bind_some, Option.bind_none, Option.join_some, Option.join_none, Nat.reduceSub, Nat.reduceAdd, Nat.reduceLeDiff, Bool.false_eq_true, if_true, if_false, reduceIte, ite_true, ite_false, true_and, and_true, Bool.not_true, Bool.not_false, L2.OW.put_same, L2.OW.put_put, L2.dComp, L2.dApp, L2.dFrz, L2.gMax, L2.gMin, L2.dCallD, L2.gaQ, L2.dChain, L2.isNoneD, L2.fIsN, L2.tyN, L2.rdK, L2.dDGet, L2.dLoop, L2.dFrzD, L2.dDNew, L2.dBreak, L2.gSortI, L2.gLenD, L2.fRepT, L2.dIdx, L2.dExt, L2.dDisp1, L2.dDPut, L2.dItRv, L2.dTupRev, L2.dLstRng, L2.dDictOf, L2.dEz, L2.dDComp, L2.dCont, L2.dAugI, L2.dFor, L2.dWhile, L2.Zf4, L2.Zid, L2.Zie, L2.iteTT, L2.iteFF, L2.Zia, L2.Zi9, L2.unK_kvK, decide_true, $xs,*]); (try simp only [L2.dAsg, L2.dLst, L2.dCons, L2.dNil, L2.dTup, L2.unD, L2.nl, L2.startD, L2.tgN, L2.tgTup, L2.tgCons, L2.tgNil, L2.DS.put, L2.DS.set, L2.dVar, L2.dC, L2.dRet, L2.dRetN, L2.dIfE, L2.dTru, L2.truD, L2.rdA, L2.rdT, L2.rdL, L2.rdM, L2.rdD, L2.dUn, L2.fU, L2.dOp, L2.fI0, L2.fB0, L2.fI, L2.fEq, L2.fEqD, L2.fInD, L2.fCatT, L2.fCat, L2.fRep, L2.fIxL, L2.fIxT, L2.dYes, L2.dNext, L2.dTest, L2.dAnd, L2.dOr, L2.dNot, L2.dAndV, L2.dOrV, L2.dNotV, L2.dCB, L2.f1, L2.f2, L2.gLen, L2.gTupOf, L2.gListOf, L2.gSum, L2.gAll, L2.gRepr, L2.fMax2, L2.fMin2, L2.fIsi, L2.gInt1, L2.dDrop, L2.dItL, L2.dItT, L2.dRng1, L2.dRng2, L2.dZip, L2.dEnum, L2.seqD, L2.dPar, L2.dSl, L2.dNoP, L2.dP, L2.fSlT, L2.fSlL, L2.dRev, L2.dEmit, L2.dCall, L2.dCallK, L2.noP, L2.captD, L2.ext, List.map_cons, List.map_nil, List.cons_append, List.nil_append, List.length_cons, List.length_nil, List.replicate_succ, List.replicate_zero, List.set_cons_zero, List.set_cons_succ, List.getElem?_cons_zero, List.getElem?_cons_succ, List.getElem?_nil, Option.map_some, Option.bind_some, Option.bind_none, Option.join_some, Option.join_none, Nat.reduceSub, Nat.reduceAdd, Nat.reduceLeDiff, Bool.false_eq_true, if_true, if_false, reduceIte, ite_true, ite_false, true_and, and_true, Bool.not_true, Bool.not_false, L2.OW.put_same, L2.OW.put_put, L2.dComp, L2.dApp, L2.dFrz, L2.gMax, L2.gMin, L2.dCallD, L2.gaQ, L2.dChain, L2.isNoneD, L2.fIsN, L2.tyN, L2.rdK, L2.dDGet, L2.dLoop, L2.dFrzD, L2.dDNew, L2.dBreak, L2.gSortI, L2.gLenD, L2.fRepT, L2.dIdx, L2.dExt, L2.dDisp1, L2.dDPut, L2.dItRv, L2.dTupRev, L2.dLstRng, L2.dDictOf, L2.dEz, L2.dDComp, L2.dCont, L2.dAugI, L2.dFor, L2.dWhile, L2.Zf4, L2.Zid, L2.Zie, L2.iteTT, L2.iteFF, L2.Zia, L2.Zi9, L2.unK_kvK, decide_true, $xs,*]); (try ((with_reducible refine L2.Zgl ?_); (try simp! only [$xs,*])))))
namespace Mine
open PySem PySem.Spec PyProof.Rows L2
noncomputable def top (i : Nat) : Stmt := PySem.Challenge.pw_bundleclocks_k39_sets_in_order.main.body.getD i (.Pass ⟨0, 0, 0, 0⟩)
noncomputable abbrev sSetsOf : Stmt := top 1
noncomputable abbrev sLawUrn : Stmt := top 3
noncomputable abbrev sLawDraw : Stmt := top 4
noncomputable abbrev sLawSets : Stmt := top 5
noncomputable abbrev sLawIsRight : Stmt := top 6
noncomputable abbrev sLaw : Stmt := top 7
structure Txt (K : PySem.W.Frag) (mg : Str → Option Value) : Prop where
 f_sets_of : ∃ f fd, Fun K "sets_of" "sets_of" sSetsOf f fd ∧ mg "sets_of" = some (.ref f)
 f_law_urn : ∃ f fd, Fun K "_law_urn" "_law_urn" sLawUrn f fd ∧ mg "_law_urn" = some (.ref f)
 f_law_draw : ∃ f fd, Fun K "_law_draw" "_law_draw" sLawDraw f fd ∧ mg "_law_draw" = some (.ref f)
 f_law_sets : ∃ f fd, Fun K "_law_sets" "_law_sets" sLawSets f fd ∧ mg "_law_sets" = some (.ref f)
 f_law_is_right : ∃ f fd, Fun K "_law_is_right" "_law_is_right" sLawIsRight f fd ∧ mg "_law_is_right" = some (.ref f)
 f_law : ∃ f fd, Fun K "law" "law" sLaw f fd ∧ mg "law" = some (.ref f)
 z_abs : mg "abs" = none
 z_all : mg "all" = none
 z_isinstance : mg "isinstance" = none
 z_len : mg "len" = none
 z_list : mg "list" = none
 z_max : mg "max" = none
 z_min : mg "min" = none
 z_range : mg "range" = none
 z_repr : mg "repr" = none
 z_sorted : mg "sorted" = none
 z_tuple : mg "tuple" = none
theorem Zbb : FnScope ["many", "sets", "last"] ["many"] (defScope sSetsOf) := ⟨rfl, rfl, rfl, by decide +kernel, rfl, by decide +kernel, by decide +kernel⟩
theorem Zbm : BindsAll "sets_of" sSetsOf ["many"] := fun _ _ _ _ _ _ us hl => by
 obtain ⟨_, rfl⟩ := L2.lenE1 hl
 rfl
theorem Zba : FnScope ["_law_script", "_law_spot", "_law_cell", "_law_great"] ["_law_script", "_law_spot"] (defScope sLawUrn) := ⟨rfl, rfl, rfl, by decide +kernel, rfl, by decide +kernel, by decide +kernel⟩
theorem Zfg : BindsAll "_law_urn" sLawUrn ["_law_script", "_law_spot"] := fun _ _ _ _ _ _ us hl => by
 obtain ⟨_, _, rfl⟩ := L2.lenE2 hl
 rfl
theorem Zaz : FnScope ["_law_urn_here", "_law_wide", "_law_digit", "_law_primes", "_law_step", "_law_base", "_law_mixed"] ["_law_urn_here", "_law_wide"] (defScope sLawDraw) := ⟨rfl, rfl, rfl, by decide +kernel, rfl, by decide +kernel, by decide +kernel⟩
theorem Zcf : BindsAll "_law_draw" sLawDraw ["_law_urn_here", "_law_wide"] := fun _ _ _ _ _ _ us hl => by
 obtain ⟨_, _, rfl⟩ := L2.lenE2 hl
 rfl
theorem Zbf : FnScope ["_law_many", "_law_found", "_law_k"] ["_law_many"] (defScope sLawSets) := ⟨rfl, rfl, rfl, by decide +kernel, rfl, by decide +kernel, by decide +kernel⟩
theorem Ze9 : BindsAll "_law_sets" sLawSets ["_law_many"] := fun _ _ _ _ _ _ us hl => by
 obtain ⟨_, rfl⟩ := L2.lenE1 hl
 rfl
theorem Zcx : FnScope ["_law_told", "_law_several"] ["_law_told", "_law_several"] (defScope sLawIsRight) := ⟨rfl, rfl, rfl, by decide +kernel, rfl, by decide +kernel, by decide +kernel⟩
theorem Zav : BindsAll "_law_is_right" sLawIsRight ["_law_told", "_law_several"] := fun _ _ _ _ _ _ us hl => by
 obtain ⟨_, _, rfl⟩ := L2.lenE2 hl
 rfl
theorem Zcw : FnScope ["_law_script", "_law_spot", "_law_urn_here", "_law_several", "_law_other", "_law_told", "_law_shown", "_law_beside"] ["_law_script"] (defScope sLaw) := ⟨rfl, rfl, rfl, by decide +kernel, rfl, by decide +kernel, by decide +kernel⟩
section
variable {P : Program} {w : World} {K : PySem.W.Frag} {mg : Str → Option Value} {base : Heap}
theorem mk0 {i j : Int} (hi0 : 0 ≤ i) (hi : i < 2 ^ 200) (hj0 : 0 ≤ j) (hj : j < 2 ^ 200) : IntMulOk i j := Zho (n := 200) (by decide) (Zcq hi0 hi) (Zcq hj0 hj)
theorem Zjq (T : Txt K mg) : Dn P w K mg base 1 "_law_urn" sLawUrn ["_law_script", "_law_spot"] (spUrn K) := by
 refine Dn.of T.f_law_urn Zba (fun vs H Q E h => ?_) (fun f cdv A outer s H vs Q E hr h => ?_)
 ·obtain ⟨a, ns, k, rfl, _⟩ := h; rfl
 obtain ⟨a, ns, k, rfl, hS, h0, h1, q⟩ := h
 refine ⟨_, IPSs.get (Za3 (Zap (i := 2) Zba.nd rfl (Or.inl rfl) Za1)
  (Za3 (Zbu (Zby Zk1 (i_pv 1) (Zal Zbh rfl T.z_len boot_len (Za0 (i_pv 0) Za2)) (nomark _)) (Zam (Zap (i := 2) Zba.nd rfl (Or.inl rfl) (Zb6 Zbv (i_pv 0) (i_pv 1) (fun _ _ => rfl)))) Zb4)
  (Za3 (Zap (i := 3) Zba.nd rfl (Or.inl rfl) (Zal Zha rfl T.z_abs boot_abs (Za0 (i_pv 2) Za2)))
  (Za3 (Zbu (Zby Zk1 (i_pv 3) (Zab Zgp Za1 Za1) (nomark _)) (Zam (Zap (i := 3) Zba.nd rfl (Or.inl rfl) Za1)) Zb4)
  (Zam (Zaw (Zcb (Za0 (i_pv 3) (Za0 (Zab Zbg (Zab Zbg (Zab Zbg (Zab Zcr (i_pv 2) Za1) (Zab Zbk (Zab Zbk Za1 (i_pv 1)) (i_pv 1))) (Zab Zbk Za1 (i_pv 1))) Za1) (Za0 Za1 Za2)))))))))), ?_⟩
 have fin : ∀ (g c : Int) (p : Addr), 0 ≤ g → H p = none → Q (.ref p) (upd H p (.lst [.int g, .int (c % 1000000000000000003 + 97 * k * k + 31 * k + 1), .int 0])) := fun g c p hg hp => by
  refine q p _ (Zb9 hp _) hp ⟨_, _, _, Zar, hg, ?_, ?_, by decide, by decide⟩
  ·have e1 := Int.emod_nonneg c (show (1000000000000000003 : Int) ≠ 0 by decide)
   have e2 : 0 ≤ 97 * k * k := Int.mul_nonneg (by omega) h0
   omega
  ·have e1 := Int.emod_lt_of_pos c (show (0 : Int) < 1000000000000000003 by decide)
   have e2 : 97 * k * k ≤ 97 * 100 * 100 := Int.mul_le_mul (by omega) h1 h0 (by decide)
   omega
 have k2 : 97 * k < 2 ^ 200 := by omega
 have m1 : IntMulOk 97 k := mk0 (by decide) (by decide) h0 (by omega)
 have m2 : IntMulOk (97 * k) k := mk0 (by omega) k2 h0 (by omega)
 have m3 : IntMulOk 31 k := mk0 (by decide) (by decide) h0 (by omega)
 refine ⟨_, rfl, _, rfl, a, _, rfl, .inl hS, _, _, rfl, rfl, _, rfl, ?_⟩
 refine ite2 (fun c => ?_) (fun c => ?_)
 ·have c' : k < (((ns.map V.int).length : Nat) : Int) := of_decide_eq_true c
  rw [lmp] at c'
  have hk : k.toNat < ns.length := by omega
  have hv : atI (ns.map V.int) k = some (.int ns[k.toNat]) := by
   have z := Zip (xs := ns.map V.int) (j := k.toNat) (v := .int ns[k.toNat]) (by rw [List.getElem?_map, gEq hk]; rfl)
   rwa [show ((k.toNat : Nat) : Int) = k by omega] at z
  refine ⟨_, rfl, _, rfl, a, _, _, _, rfl, rfl, hS, hv, ?_⟩
  refine ⟨_, rfl, _, rfl, ?_⟩
  refine ⟨_, rfl, _, _, rfl, rfl, ⟨by decide, by decide +kernel⟩, _, _, rfl, rfl, _, rfl, ?_⟩
  refine ite2 (fun c2 => ?_) (fun c2 => ?_)
  ·refine ⟨_, rfl, _, rfl, _, _, rfl, rfl, (by show (0 : Int) < 1000000000000000003; decide), _, rfl, _, _, rfl, rfl, m1, _, rfl, _, _, rfl, rfl, m2, _, _, rfl, rfl, _, rfl, _, _, rfl, rfl, m3, _, _, rfl, rfl, _, _, rfl, rfl, (L2.sz3), fun p hp => ?_⟩
   exact fin 0 _ p (by decide) hp
  ·refine ⟨_, rfl, _, rfl, _, _, rfl, rfl, (by show (0 : Int) < 1000000000000000003; decide), _, rfl, _, _, rfl, rfl, m1, _, rfl, _, _, rfl, rfl, m2, _, _, rfl, rfl, _, rfl, _, _, rfl, rfl, m3, _, _, rfl, rfl, _, _, rfl, rfl, (L2.sz3), fun p hp => ?_⟩
   exact fin _ _ p (by split <;> omega) hp
 ·refine ⟨_, rfl, _, rfl, ?_⟩
  refine ⟨_, rfl, _, _, rfl, rfl, ⟨by decide, by decide +kernel⟩, _, _, rfl, rfl, _, rfl, ?_⟩
  refine ite2 (fun c2 => ?_) (fun c2 => ?_)
  ·refine ⟨_, rfl, _, rfl, _, _, rfl, rfl, (by show (0 : Int) < 1000000000000000003; decide), _, rfl, _, _, rfl, rfl, m1, _, rfl, _, _, rfl, rfl, m2, _, _, rfl, rfl, _, rfl, _, _, rfl, rfl, m3, _, _, rfl, rfl, _, _, rfl, rfl, (L2.sz3), fun p hp => ?_⟩
   exact fin 0 _ p (by decide) hp
  ·refine ⟨_, rfl, _, rfl, _, _, rfl, rfl, (by show (0 : Int) < 1000000000000000003; decide), _, rfl, _, _, rfl, rfl, m1, _, rfl, _, _, rfl, rfl, m2, _, _, rfl, rfl, _, rfl, _, _, rfl, rfl, m3, _, _, rfl, rfl, _, _, rfl, rfl, (L2.sz3), fun p hp => ?_⟩
   exact fin _ _ p (by split <;> omega) hp
theorem Ziq (T : Txt K mg) : Dn P w K mg base 1 "_law_draw" sLawDraw ["_law_urn_here", "_law_wide"] spDraw := by
 refine Dn.of T.f_law_draw Zaz (fun vs H Q E h => ?_) (fun f cdv A outer s H vs Q E hr h => ?_)
 ·obtain ⟨u, wd, m, rfl, _⟩ := h; rfl
 obtain ⟨u, wd, m, rfl, hU, hm, w0, w1, q⟩ := h
 obtain ⟨g, c, n, hu, g0, c0, c1, n0, n1⟩ := hU
 refine ⟨_, IPSs.get (Za3 (Zbu (Zby Zkx (Zb6 Zbv (i_pv 0) Za1 (fun _ _ => rfl)) Za1 (nomark _)) (Za3 (Zap (i := 2) Zaz.nd rfl (Or.inl rfl) (Zab Zcr (Zb6 Zbv (i_pv 0) Za1 (fun _ _ => rfl)) (i_pv 1)))
  (Za3 (Zf2 (Zab Zep (Zb6 Zbv (i_pv 0) Za1 (fun _ _ => rfl)) (i_pv 1)) (Zf1 (i_pv 0) Za1 Zfb))
  (Zam (Zaw (i_pv 2))))) Zb4)
  (Za3 (Zap (i := 3) Zaz.nd rfl (Or.inl rfl) (Zb5 (Za0 Za1 (Za0 Za1 (Za0 Za1 (Za0 Za1 (Za0 Za1 (Za0 Za1 (Za0 Za1 Za2)))))))))
  (Za3 (Zf2 (Zab Zbg (Zb6 Zbv (i_pv 0) Za1 (fun _ _ => rfl)) Za1) (Zf1 (i_pv 0) Za1 Zfb))
  (Za3 (Zap (i := 4) Zaz.nd rfl (Or.inl rfl) (Zb6 Zbv (i_pv 0) Za1 (fun _ _ => rfl)))
  (Za3 (Zap (i := 5) Zaz.nd rfl (Or.inl rfl) (Zab Zbg (Zab Zbg (Zab Zbk (Zb6 Zbv (i_pv 0) Za1 (fun _ _ => rfl)) (Zab Zbg (Zab Zbk Za1 (i_pv 4)) Za1)) (Zab Zbk (Zab Zbk Za1 (i_pv 4)) (i_pv 4))) Za1))
  (Za3 (Zap (i := 6) Zaz.nd rfl (Or.inl rfl) (Zab Zcr (Zab Zgp (i_pv 5) Za1) (Zb6 Zgk (i_pv 3) (Zab Zcr (i_pv 4) Za1) (fun _ _ => rfl))))
  (Zam (Zaw (Zab Zcr (Zab Zep (Zab Zcr (Zab Zbk (i_pv 6) (Zab Zbg (Zab Zep (i_pv 6) Za1) (i_pv 4))) (Zb6 Zgk (i_pv 3) (Zab Zcr (Zab Zbg (i_pv 4) Za1) Za1) (fun _ _ => rfl))) Za1) (i_pv 1)))))))))), ?_⟩
 refine ⟨_, rfl, u, _, _, _, rfl, rfl, SqL.of hu, rfl, _, _, rfl, rfl, _, rfl, ?_⟩
 refine ite2 (fun cg => ?_) (fun cg => ?_)
 ·refine ⟨_, rfl, u, _, _, _, rfl, rfl, SqL.of hu, rfl, _, rfl, _, _, rfl, rfl, w0, ?_⟩
  refine ⟨_, rfl, u, _, _, _, rfl, rfl, SqL.of hu, rfl, _, rfl, _, _, rfl, rfl, ⟨w0, w1⟩, _, rfl, u, _, _, _, rfl, rfl, hu, rfl, ?_⟩
  refine ⟨_, rfl, ?_⟩
  exact q _ _ (Int.emod_nonneg _ (by omega)) (Int.emod_lt_of_pos _ w0) (SB.upd u H _) ⟨_, _, _, Zar, Int.ediv_nonneg g0 (by omega), c0, c1, n0, by omega⟩
 ·refine ⟨(by show 7 ≤ sizeLine; decide), fun p hp => ?_⟩
  have pu : u ≠ p := fun z => by rw [z, hp] at hu; cases hu
  have hu1 : upd H p (.tup [V.int 2147483647, V.int 2147483629, V.int 2147483587, V.int 2147483579, V.int 2147483563, V.int 2147483549, V.int 2147483543]) u = some (.lst [.int g, .int c, .int n]) := by rw [Zak pu]; exact hu
  refine ⟨_, rfl, u, _, _, _, rfl, rfl, SqL.of hu1, rfl, _, _, rfl, rfl, _, rfl, u, _, _, _, rfl, rfl, hu1, rfl, ?_⟩
  obtain ⟨q1, e1, p1, p2⟩ := prime7 (n + 1)
  obtain ⟨q2, e2, p3, p4⟩ := prime7 (n + 1 + 3)
  generalize hH2 : upd (upd H p (.tup [V.int 2147483647, V.int 2147483629, V.int 2147483587, V.int 2147483579, V.int 2147483563, V.int 2147483549, V.int 2147483543])) u (.lst ([V.int g, V.int c, V.int n].set (Int.toNat 2) ((fun i j => V.int (i + j)) n 1))) = H2
  have hu2 : H2 u = some (.lst [.int g, .int c, .int (n + 1)]) := by rw [← hH2]; exact Zar
  have hp2 : H2 p = some (.tup [V.int 2147483647, V.int 2147483629, V.int 2147483587, V.int 2147483579, V.int 2147483563, V.int 2147483549, V.int 2147483543]) := by rw [← hH2, Zak (Ne.symm pu)]; exact Zar
  have hSB : SB u H H2 := fun b o nb e => by rw [← hH2, Zak nb, Zak (Zay e hp)]; exact e
  have n9 : n + 1 ≤ 1000001 := by omega
  have b1 : 2 * (n + 1) + 1 ≤ 2000003 := by omega
  have b2 : c * (2 * (n + 1) + 1) ≤ 4000000000000000000 * 2000003 := Int.mul_le_mul c1 b1 (by omega) (by decide)
  have b2' : 0 ≤ c * (2 * (n + 1) + 1) := Int.mul_nonneg c0 (by omega)
  have b3 : 6007 * (n + 1) * (n + 1) ≤ 6007 * 1000001 * 1000001 := Int.mul_le_mul (by omega) n9 (by omega) (by decide)
  have b3' : 0 ≤ 6007 * (n + 1) * (n + 1) := Int.mul_nonneg (by omega) (by omega)
  refine ⟨_, rfl, u, _, _, _, rfl, rfl, SqL.of hu2, rfl, ?_⟩
  refine ⟨_, rfl, u, _, _, _, rfl, rfl, SqL.of hu2, rfl, _, rfl, _, _, rfl, rfl, mk0 (by decide) (by decide) (by omega) (by omega), _, _, rfl, rfl, _, _, rfl, rfl, mk0 c0 (by omega) (by omega) (by omega), _, rfl, _, _, rfl, rfl, mk0 (by decide) (by decide) (by omega) (by omega), _, rfl, _, _, rfl, rfl, mk0 (by omega) (by omega) (by omega) (by omega), _, _, rfl, rfl, _, _, rfl, rfl, ?_⟩
  have bs0 : 0 ≤ c * (2 * (n + 1) + 1) + 6007 * (n + 1) * (n + 1) + 53 := by omega
  have bs1 : c * (2 * (n + 1) + 1) + 6007 * (n + 1) * (n + 1) + 53 < 2 ^ 200 := by omega
  have pw : CPowB (c * (2 * (n + 1) + 1) + 6007 * (n + 1) * (n + 1) + 53) 3 := by
   refine ⟨by decide, ?_⟩
   have := L2.Zc4 (Zcq bs0 bs1)
   omega
  refine ⟨_, rfl, _, _, rfl, rfl, pw, _, rfl, _, rfl, _, _, rfl, rfl, (by show (0 : Int) < 7; decide), p, _, _, _, rfl, rfl, SqT.of hp2, e1, _, _, rfl, rfl, p1, ?_⟩
  obtain ⟨mx, hmx⟩ : ∃ mx, mx = (c * (2 * (n + 1) + 1) + 6007 * (n + 1) * (n + 1) + 53) ^ (3 : Int).toNat % q1 := ⟨_, rfl⟩
  have mx0 : 0 ≤ mx := by rw [hmx]; exact Int.emod_nonneg _ (by omega)
  have mx1 : mx < q1 := by rw [hmx]; exact Int.emod_lt_of_pos _ p1
  have d1 : mx / 8191 ≤ mx := Int.ediv_le_self _ mx0
  have d0 : 0 ≤ mx / 8191 := Int.ediv_nonneg mx0 (by decide)
  refine ⟨_, rfl, _, rfl, _, _, rfl, rfl, ⟨by decide, by decide⟩, _, rfl, _, _, rfl, rfl, _, _, rfl, rfl, (show IntMulOk ((c * (2 * (n + 1) + 1) + 6007 * (n + 1) * (n + 1) + 53) ^ (3 : Int).toNat % q1) ((c * (2 * (n + 1) + 1) + 6007 * (n + 1) * (n + 1) + 53) ^ (3 : Int).toNat % q1 / 8191 + (n + 1)) by rw [← hmx]; exact mk0 mx0 (by omega) (by omega) (by omega)), _, rfl, _, rfl, _, _, rfl, rfl, _, _, rfl, rfl, (by show (0 : Int) < 7; decide), p, _, _, _, rfl, rfl, SqT.of hp2, e2, _, _, rfl, rfl, p3, _, _, rfl, rfl, ⟨by decide, by decide⟩, _, rfl, _, _, rfl, rfl, w0, ?_⟩
  exact q _ _ (Int.emod_nonneg _ (by omega)) (Int.emod_lt_of_pos _ w0) hSB ⟨_, _, _, hu2, g0, c0, c1, by omega, by omega⟩
noncomputable abbrev Zd2 := dsUrn
noncomputable abbrev Zcj := dsDraw
theorem Zeo : MoS Zd2 := Ziy
theorem Zc6 : MoS Zcj := Zhm
theorem Zfk (T : Txt K mg) : Dn P w K mg base 1 "_law_urn" sLawUrn ["_law_script", "_law_spot"] (spD K Zd2) := (Zjq T).imp fun _ _ _ _ h => Zjn h
theorem Zea (T : Txt K mg) : Dn P w K mg base 1 "_law_draw" sLawDraw ["_law_urn_here", "_law_wide"] (spD K Zcj) := (Ziq T).imp fun _ _ _ _ h => Zhd h
end
end Mine
namespace Mine
open PySem PySem.Spec PyProof.Rows L2
section
variable {P : Program} {w : World} {K : PySem.W.Frag} {mg : Str → Option Value} {base : Heap}
noncomputable def subsF : Nat → List (List Int)
 | 0 => [[]]
 | n + 1 => subsF n ++ (subsF n).map fun l => l ++ [(n : Int)]
noncomputable def prsF (n : Nat) : List Pr := (subsF n).map fun l => ((l.length : Nat), l)
noncomputable def nextF (n : Nat) (l : List (List Int)) : List (List Int) := l.flatMap fun s => (List.range' ((s.getLast?.map fun x => x.toNat + 1).getD 0) (n - (s.getLast?.map fun x => x.toNat + 1).getD 0)).map fun (k : Nat) => s ++ [(k : Int)]
noncomputable def lastF (n : Nat) : Nat → List (List Int)
 | 0 => [[]]
 | k + 1 => nextF n (lastF n k)
noncomputable def setsF (n : Nat) : List (List Int) := (List.range (n + 1)).flatMap (lastF n)
noncomputable def chkS (n : Nat) : Bool := match Tim.runS (prsLt (prsF n)) (prsF n).length with
 | some p => (p.toList.map fun i => (subsF n).getD i []) == setsF n && p.toList.all (fun i => decide (i < (prsF n).length)) && decide (p.size ≤ 100) && decide (2 ≤ (prsF n).length) && decide ((prsF n).length ≤ 64)
 | none => false
theorem Zhc : (List.range 6).all (fun n => chkS (n + 1)) = true := by decide +kernel
theorem Zi0 {n : Nat} (h1 : 1 ≤ n) (h6 : n ≤ 6) : ∃ p, Tim.runS (prsLt (prsF n)) (prsF n).length = some p ∧ (p.toList.map fun i => (subsF n).getD i []) = setsF n ∧ (∀ i ∈ p.toList, i < (prsF n).length) ∧ p.size ≤ 100 ∧ 2 ≤ (prsF n).length ∧ (prsF n).length ≤ 64 := by
 have h := List.all_eq_true.mp Zhc (n - 1) (List.mem_range.mpr (by omega))
 rw [show n - 1 + 1 = n by omega] at h
 unfold chkS at h
 split at h
 ·next p e =>
  simp only [Bool.and_eq_true, decide_eq_true_eq, beq_iff_eq, List.all_eq_true] at h
  exact ⟨p, e, h.1.1.1.1, h.1.1.1.2, h.1.1.2, h.1.2, h.2⟩
 ·cases h
theorem Zfc (n : Nat) (h : n ≤ 6) : (subsF n).length ≤ 64 := by
 have : (List.range 7).all (fun n => decide ((subsF n).length ≤ 64)) = true := by decide
 exact of_decide_eq_true (List.all_eq_true.mp this n (List.mem_range.mpr (by omega)))
theorem Zh4 (n : Nat) (h : n ≤ 6) : ∀ l ∈ subsF n, l.length ≤ 6 := by
 have : (List.range 7).all (fun n => (subsF n).all fun l => decide (l.length ≤ 6)) = true := by decide
 intro l hl
 exact of_decide_eq_true (List.all_eq_true.mp (List.all_eq_true.mp this n (List.mem_range.mpr (by omega))) l hl)
theorem Zdn (n : Nat) (h : n ≤ 6) : (setsF n).length ≤ 64 := by
 have : (List.range 7).all (fun n => decide ((setsF n).length ≤ 64)) = true := by decide +kernel
 exact of_decide_eq_true (List.all_eq_true.mp this n (List.mem_range.mpr (by omega)))
theorem Zdo (n : Nat) (h : n ≤ 6) : ∀ l ∈ setsF n, l.length ≤ 6 ∧ ∀ x ∈ l, x.natAbs < 2 ^ 100 := by
 have : (List.range 7).all (fun n => (setsF n).all fun l => decide (l.length ≤ 6) && l.all fun x => decide (x.natAbs < 2 ^ 100)) = true := by decide +kernel
 intro l hl
 have h1 := List.all_eq_true.mp (List.all_eq_true.mp this n (List.mem_range.mpr (by omega))) l hl
 rw [Bool.and_eq_true] at h1
 exact ⟨of_decide_eq_true h1.1, fun x hx => of_decide_eq_true (List.all_eq_true.mp h1.2 x hx)⟩
theorem Zgb {α β : Type} {f : α → β} {l : List α} {i : Nat} {d : β} (h : (l.map f)[i]? = some d) : ∃ r, l[i]? = some r ∧ f r = d := by
 rw [List.getElem?_map] at h
 cases e : l[i]? with
 | none => rw [e] at h; cases h
 | some r => rw [e] at h; exact ⟨r, rfl, Option.some.inj h⟩
noncomputable def Zbt : DSp := pureS fun vs r => ∃ n : Nat, vs = [.d (.int n)] ∧ 1 ≤ n ∧ n ≤ 6 ∧ r = .list ((setsF n).map tI)
theorem Ze4 : MoS Zbt := Zhn
theorem Ze3 : ∀ vs w k, Zbt vs w k → vs.length = 1 := Zhv (by rintro vs r ⟨n, rfl, _⟩; rfl)
theorem Zeb (T : Txt K mg) : Dn P w K mg base 1 "_law_sets" sLawSets ["_law_many"] (spD K Zbt) := by
 refine Dn.dataI (k := 0) T.f_law_sets Zbf Ze3 (fun a cdv A outer s H E hr => ⟨_, _,  (Za3 (Zap (i := 1) Zbf.nd rfl (Or.inl rfl) (Zcb (Za0 (Zb5 Za2) Za2)))
  (Za3 (Zf3 PassesOwn.never rfl (Zcm rfl T.z_range (Za0 (i_pv 0) Za2)) (Ze0 (i := 2) Zbf.nd rfl (Or.inr rfl)) (Zam (Zap (i := 1) Zbf.nd rfl (Or.inl rfl) (Zab Zk0 (i_pv 1) (by refine' Zbx (Nc := ["_law_one", "_law_k"]) (cap := [none, some 2]) rfl ?i ?k ?g ?t ?e; (case k => kernel_rfl); (case i => exact (Zbj (i_pv 1))); (case g => exact (fun _ _ _ _ _ => (Zef 0 (by show List.Nodup (["_law_one", "_law_k"] : List Str); decide +kernel)))); (case t => exact (fun _ _ _ _ _ => Zbz)); (case e => exact (fun _ _ _ _ _ => (Zab (Zf8 (K := K) rfl) (Zde 0) (Zb5 (Za0 (Zjt 1) Za2))))))))))
  (Zam (Zaw (by refine' Zbx (Nc := ["_law_size", "_law_one"]) (cap := [none, none]) rfl ?iX ?kX ?gX ?tX ?eX; (case kX => kernel_rfl); (case iX => exact (Zbj (Zal (Zfi hr.units) rfl T.z_sorted boot_sorted (Za0 (by refine' Zbx (Nc := ["_law_one"]) (cap := [none]) rfl ?i ?k ?g ?t ?e; (case k => kernel_rfl); (case i => exact (Zbj (i_pv 1))); (case g => exact (fun _ _ _ _ _ => (Zef 0 (by show List.Nodup (["_law_one"] : List Str); decide +kernel)))); (case t => exact (fun _ _ _ _ _ => Zbz)); (case e => exact (fun _ _ _ _ _ => (Zb5 (Za0 (Zal (Zda (K := K) rfl) Zdc T.z_len boot_len (Za0 (Zde 0) Za2)) (Za0 (Zde 0) Za2)))))) Za2)))); (case gX => exact (fun _ _ _ _ _ => (Zge (K := K) rfl (n := 2) rfl (Zd3 (Zef 0 (by show List.Nodup (["_law_size", "_law_one"] : List Str); decide +kernel)) (Zd3 (Zef 1 (by show List.Nodup (["_law_size", "_law_one"] : List Str); decide +kernel)) Zgf))))); (case tX => exact (fun _ _ _ _ _ => Zbz)); (case eX => exact (fun _ _ _ _ _ => (Zde 1)))))))), (Zb0 (Zc0 (Zgx false (Za4 (Zct Zaj) Zaj)) (Zas 1))
  (Zb0 (Zii (Zgy (Za4 (Zai 0) Zaj)) (Zas 2) (Zc0 (Zdl (Zko false) (Zai 1) (Zcs false (Zcu (Zai 1)) (Zas 0) Zd9 (Zcv (Zdl Zgz (Zai 0) (Zct (Za4 (Zai 1) Zaj)))))) (Zas 1)))
  (Zc7 (Zcs false (Zcu (Zc9 (Zhx false) (Za4 (Zcs false (Zcu (Zai 1)) (Zas 0) Zd9 (Zcv (Zct (Za4 (Zc9 Zig (Za4 (Zai 0) Zaj)) (Za4 (Zai 0) Zaj))))) Zaj))) (Zkn (Zfa (Zas 0) (Zfa (Zas 1) Zjf))) Zd9 (Zcv (Zai 1)))))), fun as o q h => ?_⟩)
 obtain ⟨r, ⟨n, rfl, hn1, hn6, rfl⟩, hq⟩ := h
 simp! only []
 refine ⟨by show 0 ≤ sizeLine; decide, L2.sz1, ?_⟩
 simp! only []
 refine ⟨⟨by omega, by omega⟩, ?_⟩
 refine ⟨fun i s => i ≤ 6 ∧ ∃ (o2 : Option Val), s = ⟨[some (.d (.int n)), some (.d (.list ((subsF i).map tI))), o2], o⟩, ⟨by omega, none, rfl⟩, fun _ _ _ => trivial, ?_, ?_⟩
 ·rintro i d s hd ⟨hi6, o2, rfl⟩
  have hd2 : i < n ∧ d = .int (0 + (i : Int)) := by
   unfold rngD at hd
   obtain ⟨r, hr, rfl⟩ := Zgb hd
   obtain ⟨h1, h2⟩ := List.getElem?_eq_some_iff.mp hr
   rw [List.length_range] at h1
   rw [List.getElem_range] at h2
   subst h2
   exact ⟨by omega, rfl⟩
  obtain ⟨hin, rfl⟩ := hd2
  have hsl := Zfc i hi6
  simp! only []
  refine Zdj (subsF i) tI (fun l => tI (l ++ [(i : Int)])) [] rfl trivial (Zcg (by simp; omega)) ?_ ?_
  ·intro l hl Q hQ
   have hll := Zh4 i hi6 l hl
   simp! only [tI]
   refine ⟨L2.sz1, Zi8 (by rw [lmp]; omega), ?_⟩
   have e : tI (l ++ [(i : Int)]) = PyData.tuple (List.map PyData.int l ++ [PyData.int (0 + (i : Int))]) := by
    unfold tI; rw [List.map_append, Int.zero_add]; rfl
   rw [e] at hQ
   exact hQ
  ·simp! only [lmp]
   refine ⟨Zi8 (by omega), by omega, some (.d (.int (0 + (i : Int)))), ?_⟩
   have e : (subsF (i + 1)).map tI = (subsF i).map tI ++ (subsF i).map fun l => tI (l ++ [(i : Int)]) := by
    show (subsF i ++ (subsF i).map fun l => l ++ [(i : Int)]).map tI = _
    rw [List.map_append, List.map_map]; rfl
   rw [e]
 ·rintro s ⟨_, o2, rfl⟩
  have eN : (rngD 0 (n : Int).toNat).length = n := by simp [rngD]
  rw [eN]
  obtain ⟨p, hp1, hp2, hp3, hp4, hp5, hp6⟩ := Zi0 hn1 hn6
  have hsl := Zfc n hn6
  simp! only []
  refine Zdj (subsF n) tI (fun l => prD ((l.length : Nat), l)) [] rfl trivial (Zcg (by simp; omega)) ?_ ?_
  ·intro l hl Q hQ
   simp! only [tI, lmp]
   refine ⟨L2.sz2, ?_⟩
   exact hQ
  simp! only [gSortP]
  have e1 : (subsF n).map (fun l => prD ((l.length : Nat), l)) = (prsF n).map prD := by unfold prsF; rw [List.map_map]; rfl
  refine ⟨prsF n, p, e1, hp5, by omega, by omega, hp3, hp1, ?_⟩
  simp! only []
  have hpl : p.toList.length ≤ 100 := by rw [Array.length_toList]; exact hp4
  refine Zdj p.toList (fun i => ((subsF n).map fun l => prD ((l.length : Nat), l)).getD i .none) (fun i => tI ((subsF n).getD i [])) [] rfl trivial (Zcg (by simp only [List.length_nil]; omega)) ?_ ?_
  ·intro i hi Q hQ
   have hil : i < (subsF n).length := by have := hp3 i hi; simpa [prsF] using this
   have e2 : ((subsF n).map fun l => prD ((l.length : Nat), l)).getD i .none = prD (((subsF n).getD i []).length, (subsF n).getD i []) := by simp [List.getD, hil]
   rw [e2]
   simp! only [prD]
   exact hQ
  ·simp! only []
   have e3 : (setsF n).map tI = p.toList.map fun i => tI ((subsF n).getD i []) := by rw [← hp2, List.map_map]; rfl
   rw [e3] at hq
   exact ⟨_, OW.le.refl _, hq⟩
end
end Mine
namespace Mine
open PySem PySem.Spec PyProof.Rows L2
section
variable {P : Program} {w : World} {K : PySem.W.Frag} {mg : Str → Option Value} {base : Heap}
noncomputable def loS (s : List Int) : Int := match s.getLast? with | some x => x + 1 | none => 0
noncomputable def nextS (n : Int) (last : List (List Int)) : List (List Int) := last.flatMap fun s => (List.range (n - loS s).toNat).map fun (i : Nat) => s ++ [loS s + (i : Int)]
noncomputable def lvlS (n : Int) : Nat → List (List Int)
 | 0 => [[]]
 | k + 1 => nextS n (lvlS n k)
noncomputable def accS (n : Int) : Nat → List (List Int)
 | 0 => [[]]
 | k + 1 => accS n k ++ lvlS n (k + 1)
noncomputable def allS (n : Nat) : List (List Int) := accS n (n + 1)
theorem Zgn : ∀ n < 7, ∀ k < 9, (lvlS (n : Nat) k).isEmpty = decide (n < k) := by decide +kernel
theorem Zcp : ∀ n < 7, ∀ k < 9, (accS (n : Nat) k).length ≤ 200 ∧ (lvlS (n : Nat) k).length ≤ 100 := by decide +kernel
theorem Zjy : ∀ n < 7, ∀ k < 9, ∀ x ∈ lvlS (n : Nat) k, 0 ≤ loS x ∧ loS x ≤ 20 ∧ x.length ≤ 20 := by decide +kernel
theorem size200 {n : Nat} (h : n ≤ 1000) : n ≤ sizeLine := Nat.le_trans h (by decide)
theorem size200' {n : Nat} (h : n ≤ 1000) : n < sizeLine := Nat.lt_of_le_of_lt h (by decide)
noncomputable def Zc3 : DSp := fun vs w k => ∃ n : Nat, vs = [.d (.int (n : Int))] ∧ n < 7 ∧ ∀ p, w p = none → k (.own p) (w.put p (.lst ((allS n).map tI)))
theorem Zbe : MoS Zc3 := fun vs w k k' h ⟨n, a, b, q⟩ => ⟨n, a, b, fun p hp => h _ _ (q p hp)⟩
theorem Zel : ∀ vs w k, Zc3 vs w k → vs.length = 1 := by
 rintro vs w k ⟨n, rfl, _⟩; rfl
theorem Zfl (T : Txt K mg) : Dn P w K mg base 1 "sets_of" sSetsOf ["many"] (spD K Zc3) := by
 refine Dn.dataI (k := 0) T.f_sets_of Zbb Zel (fun a cdv A outer s H E hr => ⟨_, _,  (Za3 (Zap (i := 1) Zbb.nd rfl (Or.inl rfl) (Zcb (Za0 (Zb5 Za2) Za2)))
  (Za3 (Zap (i := 2) Zbb.nd rfl (Or.inl rfl) (Zcb (Za0 (Zb5 Za2) Za2)))
  (Za3 (Zfo PassesOwn.never (Zd4 (i_pv 2)) (Za3 (by refine' Zdd (i := 2) Zbb.nd rfl (Or.inl rfl) (Nc := ["some", "place", "many"]) (cap := [none, none, some 0]) rfl ?i ?k ?g ?j ?h ?e; (case k => kernel_rfl); (case i => exact (Zbj (i_pv 2))); (case g => exact (fun _ _ _ _ _ => (Zef 0 (by show List.Nodup (["some", "place", "many"] : List Str); decide +kernel)))); (case j => exact (fun _ _ _ _ _ => (Zeg Zdc T.z_range (Za0 (Zfn (Zeh (K := K) rfl (Zde 0)) (Zab Zbg (Zb6 (Ziw (K := K) rfl) (Zde 0) (Zit Zku Za1) (fun _ _ => rfl)) Za1) Za1) (Za0 (Zjt 2) Za2))))); (case h => exact (fun _ _ _ _ _ => (Zef 1 (by show List.Nodup (["some", "place", "many"] : List Str); decide +kernel)))); (case e => exact (fun _ _ _ _ _ => (Zab (Zf8 (K := K) rfl) (Zde 0) (Zb5 (Za0 (Zde 1) Za2))))))
  (Zam (Zhj (i := 1) Zbb.nd rfl (Or.inl rfl) (i_pv 2) Ziv))))
  (Zam (Zaw (i_pv 1)))))), (Zb0 (Zc0 (Zgx true (Za4 (Zct Zaj) Zaj)) (Zas 1))
  (Zb0 (Zc0 (Zgx false (Za4 (Zct Zaj) Zaj)) (Zas 2))
  (Zb0 (Zhz (Zij (Zai 2)) (Zb0 (Zc0 (Zcs false (Zcu (Zai 2)) (Zas 0) Zd9 (Zjh (Zjg (Za4 (Zl6 (Zij (Zai 0)) (Zdl Zjj (Zdl Zkp (Zai 0) (Zl7 ru_I Zbl)) Zbl) Zbl) (Za4 (Zai 2) Zaj))) (Zas 1) Zd9 (Zcv (Zdl Zgz (Zai 0) (Zct (Za4 (Zai 1) Zaj)))))) (Zas 2))
  (Zjk (Zai 2))))
  (Zc7 (Zai 1))))), fun as o q h => ?_⟩)
 obtain ⟨n, rfl, hn, hq⟩ := h
 simp! only []
 refine ⟨by decide, by decide, fun p hp => ⟨by decide, by decide, ?_⟩⟩
 refine ⟨fun m s => ∃ k, k + m = n + 1 ∧ s = ⟨[some (.d (.int (n : Int))), some (.own p), some (.d (.list ((lvlS n k).map tI)))], o.put p (.lst ((accS n k).map tI))⟩, ⟨n + 1, 0, by omega, rfl⟩, ?_⟩
 rintro m s ⟨k, hk, rfl⟩
 have hk9 : k < 9 := by omega
 simp! only [List.isEmpty_map, Zgn n hn k hk9]
 by_cases c : n < k
 ·simp only [c, decide_true, Bool.not_true, Bool.false_eq_true, if_false]
  have e : k = n + 1 := by omega
  subst e
  exact ⟨_, OW.le.refl _, hq p hp⟩
 ·simp only [c, decide_false, Bool.not_false, if_true]
  have hlv := (Zcp n hn k hk9).2
  have hlv' := (Zcp n hn (k + 1) (by omega)).2
  have hac := (Zcp n hn k hk9).1
  have fl : (lvlS n k).flatMap (fun s => ((List.range ((n : Int) - loS s).toNat).map fun (i : Nat) => tI (s ++ [loS s + (i : Int)]))) = (lvlS n (k + 1)).map tI := by
   show _ = (nextS n (lvlS n k)).map tI
   unfold nextS
   rw [List.map_flatMap]
   simp only [List.map_map]; rfl
  refine Zem (lvlS n k) tI (fun s => ((List.range ((n : Int) - loS s).toNat).map fun (i : Nat) => tI (s ++ [loS s + (i : Int)]))) [] rfl trivial ?_ ?_ ?_
  ·rw [fl, lmp]; exact size200' (by simp; omega)
  ·intro x hx acc hacc Q hQ
   have hlo : 0 ≤ loS x ∧ loS x ≤ 20 ∧ x.length ≤ 20 := Zjy n hn k hk9 x hx
   have step : ∀ K : DK, K (.d (.int (loS x))) ⟨[some (.d (tI x)), none, some (.d (.int (n : Int)))], o.put p (.lst ((accS n k).map tI))⟩ →
     dIfE (dTru (dVar 0)) (dOp (fI0 HAdd.hAdd) (dOp fIxT (dVar 0) (dUn (fU Neg.neg) (dC (Val.d (PyData.int 1))))) (dC (Val.d (PyData.int 1)))) (dC (Val.d (PyData.int 0))) ⟨[some (.d (tI x)), none, some (.d (.int (n : Int)))], o.put p (.lst ((accS n k).map tI))⟩ K := by
    intro K hK
    rcases List.eq_nil_or_concat x with rfl | ⟨y, z, rfl⟩
    ·exact hK
    ·rw [List.concat_eq_append] at *
     simp! only [tI, List.isEmpty_map]
     have e1 : (y ++ [z]).isEmpty = false := by simp
     have e2 : loS (y ++ [z]) = z + 1 := by simp [loS]
     rw [e2] at hK
     simp only [e1, Bool.not_false, if_true]
     refine ⟨.int z, ?_, hK⟩
     rw [List.map_append]; exact Zh9 _ _
   simp only [tgN, DS.set, List.set_cons_zero, dYes, if_true, dLoop, dRng2, dCons]
   refine step _ ?_
   simp! only []
   refine ⟨⟨by omega, by omega, by omega, by omega⟩, ?_⟩
   unfold rngD
   refine Zem (List.range ((n : Int) - loS x).toNat) (fun (i : Nat) => .int (loS x + (i : Int))) (fun (i : Nat) => [tI (x ++ [loS x + (i : Int)])]) acc rfl trivial ?_ ?_ ?_
   ·rw [← List.map_eq_flatMap]; exact hacc
   ·intro i hi acc _ Q hQ
    simp! only [tI]
    refine ⟨by decide, ?_⟩
    simp only [lmp]
    refine ⟨size200 (by omega), ?_⟩
    simpa [tI] using hQ
   ·refine ⟨by simp [ext], ?_⟩
    rw [← List.map_eq_flatMap]; exact hQ
  ·rw [fl]
   simp! only [dAugL]
   refine ⟨_, _, rfl, rfl, ?_, m - 1, by omega, k + 1, by omega, ?_⟩
   ·rw [lmp, lmp]; exact size200 (by omega)
   ·simp [accS]
theorem Zcc {n : Nat} (h1 : 1 ≤ n) (h6 : n ≤ 6) : allS n = setsF n := by
 have : (List.range 6).all (fun n => allS (n + 1) == setsF (n + 1)) = true := by decide +kernel
 have h := List.all_eq_true.mp this (n - 1) (List.mem_range.mpr (by omega))
 rw [show n - 1 + 1 = n by omega] at h
 simpa using h
end
end Mine
namespace Mine
open PySem PySem.Spec PyProof.Rows L2
section
variable {P : Program} {w : World} {K : PySem.W.Frag} {mg : Str → Option Value} {base : Heap}
noncomputable def Zb3 : DSp := fun vs w k => ∃ (p : Addr) (n : Nat), vs = [.own p, .d (.int (n : Int))] ∧ 1 ≤ n ∧ n ≤ 6 ∧ w p = some (.lst ((setsF n).map tI)) ∧ k (.d (.bool true)) w
theorem Zau : MoS Zb3 := fun vs w k k' h ⟨v, n, a, b, c, d, q⟩ => ⟨v, n, a, b, c, d, h _ _ q⟩
theorem Zc8 : ∀ vs w k, Zb3 vs w k → vs.length = 2 := by
 rintro vs w k ⟨v, n, rfl, _⟩; rfl
theorem Zci (T : Txt K mg) : Dn P w K mg base 2 "_law_is_right" sLawIsRight ["_law_told", "_law_several"] (spD K Zb3) := by
 have D_law_sets := Zeb (P := P) (w := w) (base := base) T
 refine Dn.dataI (k := 1) T.f_law_is_right Zcx Zc8 (fun a cdv A outer s H E hr => ⟨_, _,  (Za3 (Zbu (IPW.pt (Zei (Zbp (Zbq (Zal Zeu rfl T.z_isinstance boot_isinstance (Za0 (i_pv 0) (Za0 (Zdz (v := .ty "list") rfl T.z_list (by decide +kernel) rfl) Za2))))) (Zdf (Zbp (Zbq (Zal (Zg3 rfl) rfl T.z_all boot_all (Za0 (by refine' Zbx (Nc := ["_law_one"]) (cap := [none]) rfl ?i ?k ?g ?t ?e; (case k => kernel_rfl); (case i => exact (Zbj (i_pv 0))); (case g => exact (fun _ _ _ _ _ => (Zef 0 (by show List.Nodup (["_law_one"] : List Str); decide +kernel)))); (case t => exact (fun _ _ _ _ _ => Zbz)); (case e => exact (fun _ _ _ _ _ => (Zal (Zg4 (K := K) rfl) Zdc T.z_isinstance boot_isinstance (Za0 (Zde 0) (Za0 (Zdz (v := .ty "tuple") Zdc T.z_tuple (by decide +kernel) rfl) Za2)))))) Za2))))))) (Zam (Zaw (Zcl))) Zb4)
  (Zam (Zaw (Zgd Zkw (Zal (Zbn hr.gd hr.units) rfl T.z_repr boot_repr (Za0 (i_pv 0) Za2)) (Zal (Zbn hr.gd hr.units) rfl T.z_repr boot_repr (Za0 (Zat D_law_sets Ze9 (hr.mono (by decide)) (Za0 (i_pv 1) Za2)) Za2)) (nomark _))))), (Zb0 (Zhy (Zjl (Zd8 (rt_b (Zc9 Zif (Za4 (Zai 0) (Za4 Zkm Zaj))))) (Zd8 (rt_b (Zc9 Zkj (Za4 (Zcs false (Zcu (Zai 0)) (Zas 0) Zd9 (Zcv (Zc9 Zif (Za4 (Zai 0) (Za4 Zkm Zaj))))) Zaj))))) (Zc7 Zgw) Zdm)
  (Zc7 (Zdl Zl8 (Zc9 Zdk (Za4 (Zai 0) Zaj)) (Zc9 Zdk (Za4 (Zb1 Ze4 (Za4 (Zai 1) Zaj)) Zaj))))), fun as o q h => ?_⟩)
 obtain ⟨p, n, rfl, hn1, hn6, hp, hq⟩ := h
 have hsl := Zdn n hn6
 have hrp : okR (.list ((setsF n).map tI)) := (Rp.lst (Rps.map (setsF n) (f := tI) fun l hl => Rp.mono (Rp.tI (Zdo n hn6 l hl).2) (Nat.le_refl _) (show _ ≤ 700 from by have := (Zdo n hn6 l hl).1; omega))).ok (by decide) (by omega)
 simp! only [hp, tyN]
 refine ⟨true, fun _ => rfl, ?_⟩
 simp! only [hp]
 refine ⟨_, rfl, ?_⟩
 refine Zdj (setsF n) tI (fun _ => .bool true) [] rfl hp (Zcg (by simp; omega)) ?_ ?_
 ·intro l hl Q hQ
  simp! only [tyN, tI]
  exact ⟨true, fun _ => rfl, hQ⟩
 ·simp! only [Zi5]
  have e3 : ((setsF n).map fun _ => true).all id = true := by simp
  rw [e3]
  simp! only [hp]
  refine ⟨rfl, hrp, ?_⟩
  refine ⟨_, ⟨n, rfl, hn1, hn6, rfl⟩, ?_⟩
  simp! only []
  refine ⟨rfl, hrp, ?_⟩
  exact ⟨_, OW.le.refl _, hq⟩
end
end Mine
namespace Mine
open PySem PySem.Spec PyProof.Rows L2
section
variable {P : Program} {w : World} {K : PySem.W.Frag} {mg : Str → Option Value} {base : Heap}
theorem Zjz (T : Txt K mg) {fa : Addr} {fd : FuncData} (F : Fun K "law" "law" sLaw fa fd) : FnOk P w K mg base CX0 40 fa fd ["_law_script"] (spLaw K) := by
 have D_law_draw := Zea (P := P) (w := w) (base := base) T
 have D_law_is_right := Zci (P := P) (w := w) (base := base) T
 have D_law_urn := Zfk (P := P) (w := w) (base := base) T
 have D_sets_of := Zfl (P := P) (w := w) (base := base) T
 refine Zhl F Zcw (fun cdv A outer s H E hr => ⟨_, _, IPSs.get (Za3 (Zf3 PassesOwn.never rfl (Zcm rfl T.z_range (Za0 (Zal (Zg5 rfl) rfl T.z_max boot_max (Za0 Za1 (Za0 (Zal (Zg6 rfl) rfl T.z_min boot_min (Za0 Za1 (Za0 (Zal Zbh rfl T.z_len boot_len (Za0 (i_pv 0) Za2)) Za2))) Za2))) Za2)) (Ze0 (i := 1) Zcw.nd rfl (Or.inl rfl)) (Za3 (Zap (i := 2) Zcw.nd rfl (Or.inl rfl) (Zat D_law_urn Zfg (hr.mono (by decide)) (Za0 (i_pv 0) (Za0 (i_pv 1) Za2))))
  (Za3 (Zgg 3 4 rfl Zcw.nd (Za0 (Zab Zbg Za1 (Zat D_law_draw Zcf (hr.mono (by decide)) (Za0 (i_pv 2) (Za0 Za1 Za2)))) (Za0 (Zab Zbg Za1 (Zat D_law_draw Zcf (hr.mono (by decide)) (Za0 (i_pv 2) (Za0 Za1 Za2)))) Za2)))
  (Za3 (Zap (i := 5) Zcw.nd rfl (Or.inl rfl) (Zat D_sets_of Zbm (hr.mono (by decide)) (Za0 (i_pv 3) Za2)))
  (Za3 (Zap (i := 6) Zcw.nd rfl (Or.inl rfl) (Zal (Zbn hr.gd hr.units) rfl T.z_repr boot_repr (Za0 (i_pv 5) Za2)))
  (Za3 (Zap (i := 7) Zcw.nd rfl (Or.inl rfl) (Zat D_sets_of Zbm (hr.mono (by decide)) (Za0 (i_pv 4) Za2)))
  (Za3 (Zbu (IPW.pt (Zei (Zbp (Zbq (Zat D_law_is_right Zav (hr.mono (by decide)) (Za0 (i_pv 5) (Za0 (i_pv 3) Za2))))) (Zdf (Zbp (Zbq (Zat D_law_is_right Zav (hr.mono (by decide)) (Za0 (i_pv 7) (Za0 (i_pv 4) Za2)))))))) (Zam (Zaw (Zcl))) Zb4)
  (Za3 (Ze1 (Zhh PySem.F.plainAttrs_list PySem.F.slot_list_reverse PySem.F.type_list_reverse Zfu (i_pv 7)))
  (Za3 (Ze1 (Zis PySem.F.plainAttrs_list PySem.F.slot_list_append PySem.F.type_list_append Zgo (i_pv 7) (Za0 (Zb5 (Za0 Za1 (Za0 Za1 Za2))) Za2)))
  (Za3 (Zbu (IPW.pt (Zei (Zby Zky (Zal (Zbn hr.gd hr.units) rfl T.z_repr boot_repr (Za0 (i_pv 5) Za2)) (i_pv 6) (nomark _)) (Zdf (Zbp (Zbq (Zat D_law_is_right Zav (hr.mono (by decide)) (Za0 (Zat D_sets_of Zbm (hr.mono (by decide)) (Za0 (i_pv 3) Za2)) (Za0 (i_pv 3) Za2)))))))) (Zam (Zaw (Zcl))) Zb4)
  (Zam (Zbu (Zbp (Zbq (Zat D_law_is_right Zav (hr.mono (by decide)) (Za0 (Zat D_sets_of Zbm (hr.mono (by decide)) (Za0 (i_pv 4) Za2)) (Za0 (i_pv 4) Za2))))) (Zam (Zaw (Zcl))) Zb4))))))))))))
  (Zam (Zaw (Zcl)))), (Zb0 (Zii (Zgy (Za4 (Zc9 Zjd (Za4 Zbl (Za4 (Zc9 Zje (Za4 Zbl (Za4 (Zc9 Zig (Za4 (Zai 0) Zaj)) Zaj))) Zaj))) Zaj)) (Zas 1) (Zb0 (Zc0 (Zb1 Zeo (Za4 (Zai 0) (Za4 (Zai 1) Zaj))) (Zas 2))
  (Zb0 (Zkq (Za4 (Zdl Zjj Zbl (Zb1 Zc6 (Za4 (Zai 2) (Za4 Zbl Zaj)))) (Za4 (Zdl Zjj Zbl (Zb1 Zc6 (Za4 (Zai 2) (Za4 Zbl Zaj)))) Zaj)))
  (Zb0 (Zc0 (Zb1 Zbe (Za4 (Zai 3) Zaj)) (Zas 5))
  (Zb0 (Zc0 (Zc9 Zdk (Za4 (Zai 5) Zaj)) (Zas 6))
  (Zb0 (Zc0 (Zb1 Zbe (Za4 (Zai 4) Zaj)) (Zas 7))
  (Zb0 (Zhy (Zjl (Zd8 (rt_b (Zb1 Zau (Za4 (Zai 5) (Za4 (Zai 3) Zaj))))) (Zd8 (rt_b (Zb1 Zau (Za4 (Zai 7) (Za4 (Zai 4) Zaj)))))) (Zc7 Zgw) Zdm)
  (Zb0 (Zh0 (Zkl (Zai 7)))
  (Zb0 (Zh0 (Zkk (Zai 7) (Za4 (Zct (Za4 Zbl (Za4 Zbl Zaj))) Zaj)))
  (Zb0 (Zhy (Zjl (Zh1 (Zdl Zl9 (Zc9 Zdk (Za4 (Zai 5) Zaj)) (Zai 6))) (Zd8 (rt_b (Zb1 Zau (Za4 (Zb1 Zbe (Za4 (Zai 3) Zaj)) (Za4 (Zai 3) Zaj)))))) (Zc7 Zgw) Zdm)
  (Zhy (Zd8 (rt_b (Zb1 Zau (Za4 (Zb1 Zbe (Za4 (Zai 4) Zaj)) (Za4 (Zai 4) Zaj))))) (Zc7 Zgw) Zdm)))))))))))
  (Zc7 Zgw)), fun ns h63 => ?_⟩)
 simp! only []
 refine ⟨⟨by omega, by omega⟩, ?_⟩
 refine ⟨fun i s => ∃ (o1 o2 o3 o4 o5 o6 o7 : Option Val) (w : OW), s = ⟨[some (.scr ns), o1, o2, o3, o4, o5, o6, o7], w⟩, ⟨none, none, none, none, none, none, none, _, rfl⟩, fun _ _ _ => trivial, ?_, ?_⟩
 ·rintro i d s hd ⟨o1, o2, o3, o4, o5, o6, o7, o, rfl⟩
  have hi3 : i < 3 ∧ d = .int (0 + (i : Int)) := by
   unfold rngD at hd
   obtain ⟨r, hr, rfl⟩ := Zgb hd
   obtain ⟨h1, h2⟩ := List.getElem?_eq_some_iff.mp hr
   rw [List.length_range] at h1
   rw [List.getElem_range] at h2
   subst h2
   exact ⟨by omega, rfl⟩
  obtain ⟨hi3, rfl⟩ := hi3
  simp! only []
  refine ⟨⟨by omega, by omega⟩, fun u hu => ?_⟩
  simp! only []
  refine Zga (by omega) (by decide) (by decide) fun d1 h10 h11 => ?_
  simp! only []
  refine Zga (by omega) (by decide) (by decide) fun d2 h20 h21 => ?_
  obtain ⟨n, en⟩ := Int.eq_ofNat_of_zero_le (show 0 ≤ 1 + d1 by omega)
  obtain ⟨m, em⟩ := Int.eq_ofNat_of_zero_le (show 0 ≤ 1 + d2 by omega)
  have hn1 : 1 ≤ n := by omega
  have hn6 : n ≤ 6 := by omega
  have hm1 : 1 ≤ m := by omega
  have hm6 : m ≤ 6 := by omega
  simp! only [en, em]
  generalize o.put u (.urn (0 + 1 + 1)) = W
  have hrp : ∀ k, k ≤ 6 → okR (.list ((setsF k).map tI)) := fun k hk => (Rp.lst (Rps.map (setsF k) (f := tI) fun l hl => Rp.mono (Rp.tI (Zdo k hk l hl).2) (Nat.le_refl _) (show _ ≤ 700 from by have := (Zdo k hk l hl).1; omega))).ok (by decide) (by have := Zdn k hk; omega)
  have hsl := Zdn m hm6
  refine ⟨n, rfl, by omega, fun p hp => ?_⟩
  rw [Zcc hn1 hn6]
  simp! only []
  refine ⟨rfl, hrp n hn6, ?_⟩
  simp! only []
  refine ⟨m, rfl, by omega, fun p2 hp2 => ?_⟩
  rw [Zcc hm1 hm6]
  have h2p : p2 ≠ p := fun e => by rw [e, OW.put_same] at hp2; cases hp2
  simp! only []
  refine ⟨p, n, rfl, hn1, hn6, by rw [OW.put_ne (Ne.symm h2p), OW.put_same], ?_⟩
  simp! only []
  refine ⟨p2, m, rfl, hm1, hm6, OW.put_same, ?_⟩
  simp! only []
  simp! only [dRvs]
  refine ⟨_, rfl, ?_⟩
  simp! only []
  refine ⟨⟨_, rfl⟩, L2.sz2, _, rfl, Zcg (by rw [List.length_reverse, lmp]; omega), ?_⟩
  generalize (setsF m |>.map tI).reverse ++ [PyData.tuple [PyData.int 0, PyData.int 0]] = B
  have hg : ((W.put p (.lst ((setsF n).map tI))).put p2 (.lst B)) p = some (.lst ((setsF n).map tI)) := by rw [OW.put_ne (Ne.symm h2p), OW.put_same]
  simp! only [hg]
  refine ⟨rfl, hrp n hn6, ?_⟩
  simp! only [decide_true]
  refine ⟨n, rfl, by omega, fun p3 hp3 => ?_⟩
  rw [Zcc hn1 hn6]
  refine ⟨p3, n, rfl, hn1, hn6, OW.put_same, ?_⟩
  simp! only []
  refine ⟨m, rfl, by omega, fun p4 hp4 => ?_⟩
  rw [Zcc hm1 hm6]
  refine ⟨p4, m, rfl, hm1, hm6, OW.put_same, ?_⟩
  simp! only []
  exact ⟨_, _, _, _, _, _, _, _, rfl⟩
 ·rintro s ⟨o1, o2, o3, o4, o5, o6, o7, o, rfl⟩
  trivial
end
theorem Zjp {l : PySem.W.OpenLaw} {w : World} {K : PySem.W.Frag} {h : Heap} {mg : Str → Option Value} {fa f0 f1 f2 f3 f4 f5 : Addr} (X : K.In h) (G : h.Ns mainGlobals mg) (hfa : mg "law" = some (.ref fa))
  {od0 an0 od1 an1 od2 an2 od3 an3 od4 an4 od5 an5 : Option Addr} {sl0 sl1 sl2 sl3 sl4 sl5 : Array (Option Value)} {oc0 kV0 dc0 pm0 cd0 ct0 oc1 kV1 dc1 pm1 cd1 ct1 oc2 kV2 dc2 pm2 cd2 ct2 oc3 kV3 dc3 pm3 cd3 ct3 oc4 kV4 dc4 pm4 cd4 ct4 oc5 kV5 dc5 pm5 cd5 ct5 : Value}
  (a0 : PySem.W.nsIn K mainGlobals "sets_of" = some (some (.ref f0))) (l0 : K.lookup f0 = some ⟨oc0, od0, .func (PySem.W.fnOf "sets_of" "sets_of" (defArgs sSetsOf) (defBody sSetsOf) (defScope sSetsOf) .none kV0 dc0 pm0 an0 cd0 ct0), sl0⟩) (c0 : PySem.W.codeIn K cd0 "sets_of" = true) (k0 : PySem.W.keepIn K (.ref f0) = true)
  (a1 : PySem.W.nsIn K mainGlobals "_law_urn" = some (some (.ref f1))) (l1 : K.lookup f1 = some ⟨oc1, od1, .func (PySem.W.fnOf "_law_urn" "_law_urn" (defArgs sLawUrn) (defBody sLawUrn) (defScope sLawUrn) .none kV1 dc1 pm1 an1 cd1 ct1), sl1⟩) (c1 : PySem.W.codeIn K cd1 "_law_urn" = true) (k1 : PySem.W.keepIn K (.ref f1) = true)
  (a2 : PySem.W.nsIn K mainGlobals "_law_draw" = some (some (.ref f2))) (l2 : K.lookup f2 = some ⟨oc2, od2, .func (PySem.W.fnOf "_law_draw" "_law_draw" (defArgs sLawDraw) (defBody sLawDraw) (defScope sLawDraw) .none kV2 dc2 pm2 an2 cd2 ct2), sl2⟩) (c2 : PySem.W.codeIn K cd2 "_law_draw" = true) (k2 : PySem.W.keepIn K (.ref f2) = true)
  (a3 : PySem.W.nsIn K mainGlobals "_law_sets" = some (some (.ref f3))) (l3 : K.lookup f3 = some ⟨oc3, od3, .func (PySem.W.fnOf "_law_sets" "_law_sets" (defArgs sLawSets) (defBody sLawSets) (defScope sLawSets) .none kV3 dc3 pm3 an3 cd3 ct3), sl3⟩) (c3 : PySem.W.codeIn K cd3 "_law_sets" = true) (k3 : PySem.W.keepIn K (.ref f3) = true)
  (a4 : PySem.W.nsIn K mainGlobals "_law_is_right" = some (some (.ref f4))) (l4 : K.lookup f4 = some ⟨oc4, od4, .func (PySem.W.fnOf "_law_is_right" "_law_is_right" (defArgs sLawIsRight) (defBody sLawIsRight) (defScope sLawIsRight) .none kV4 dc4 pm4 an4 cd4 ct4), sl4⟩) (c4 : PySem.W.codeIn K cd4 "_law_is_right" = true) (k4 : PySem.W.keepIn K (.ref f4) = true)
  (a5 : PySem.W.nsIn K mainGlobals "law" = some (some (.ref f5))) (l5 : K.lookup f5 = some ⟨oc5, od5, .func (PySem.W.fnOf "law" "law" (defArgs sLaw) (defBody sLaw) (defScope sLaw) .none kV5 dc5 pm5 an5 cd5 ct5), sl5⟩) (c5 : PySem.W.codeIn K cd5 "law" = true) (k5 : PySem.W.keepIn K (.ref f5) = true)
  (z_abs : PySem.W.nsIn K mainGlobals "abs" = some none)
  (z_all : PySem.W.nsIn K mainGlobals "all" = some none)
  (z_isinstance : PySem.W.nsIn K mainGlobals "isinstance" = some none)
  (z_len : PySem.W.nsIn K mainGlobals "len" = some none)
  (z_list : PySem.W.nsIn K mainGlobals "list" = some none)
  (z_max : PySem.W.nsIn K mainGlobals "max" = some none)
  (z_min : PySem.W.nsIn K mainGlobals "min" = some none)
  (z_range : PySem.W.nsIn K mainGlobals "range" = some none)
  (z_repr : PySem.W.nsIn K mainGlobals "repr" = some none)
  (z_sorted : PySem.W.nsIn K mainGlobals "sorted" = some none)
  (z_tuple : PySem.W.nsIn K mainGlobals "tuple" = some none)
  : ∃ fd : FuncData, (∀ (s : Shared) (v : Value), BindsTo s fd ⟨[v], []⟩ [("_law_script", v)]) ∧ ∀ base : Heap, K.In base → base.Ns mainGlobals mg → FnOk l.prog w K mg base CX0 40 fa fd ["_law_script"] (spLaw K) := by
 have e := hfa.symm.trans (PySem.W.mg_of X G a5)
 cases e
 have T : Txt K mg := ⟨⟨_, _, Zck (st := sSetsOf) l0 c0 k0, PySem.W.mg_of X G a0⟩, ⟨_, _, Zck (st := sLawUrn) l1 c1 k1, PySem.W.mg_of X G a1⟩, ⟨_, _, Zck (st := sLawDraw) l2 c2 k2, PySem.W.mg_of X G a2⟩, ⟨_, _, Zck (st := sLawSets) l3 c3 k3, PySem.W.mg_of X G a3⟩, ⟨_, _, Zck (st := sLawIsRight) l4 c4 k4, PySem.W.mg_of X G a4⟩, ⟨_, _, Zck (st := sLaw) l5 c5 k5, PySem.W.mg_of X G a5⟩, PySem.W.mg_none_of X G z_abs, PySem.W.mg_none_of X G z_all, PySem.W.mg_none_of X G z_isinstance, PySem.W.mg_none_of X G z_len, PySem.W.mg_none_of X G z_list, PySem.W.mg_none_of X G z_max, PySem.W.mg_none_of X G z_min, PySem.W.mg_none_of X G z_range, PySem.W.mg_none_of X G z_repr, PySem.W.mg_none_of X G z_sorted, PySem.W.mg_none_of X G z_tuple⟩
 have F := Zck (st := sLaw) l5 c5 k5
 refine ⟨_, fun s v => ?_, fun base _ _ => Zjz T F⟩
 exact .of_eq rfl
theorem walk {l : PySem.W.OpenLaw} {q : Program} {loose : List Str} {XP : (Str → Option Value) → Heap → Prop} {YP : World → Heap → Prop} {d : DefRec} {K : Params → PySem.W.Frag} (hn : l.most = some 63) (hdf : d.params.defaults = [])
  (hY : ∀ (w : World) (h : Heap), YP w h → (K w.params).In h)
  (F : ∀ (w : World) (mg : Str → Option Value) (fa : Addr) (h : Heap), (K w.params).In h → h.Ns mainGlobals mg → mg d.name = some (.ref fa) →
   ∃ fd : FuncData, (∀ (s : Shared) (u : Value), BindsTo s fd ⟨[u], []⟩ [("_law_script", u)]) ∧ ∀ base : Heap, (K w.params).In base → base.Ns mainGlobals mg → FnOk l.prog w (K w.params) mg base CX0 40 fa fd ["_law_script"] (spLaw (K w.params))) :
  PySem.W.WalkO q loose XP YP l.row.toRowW d [] (fun f vs => PySem.call f vs) :=
 L2.Zjo (n := 63) (k := 40) (x := "_law_script") (CX := fun _ => CX0) (sp := fun w => spLaw (K w.params)) hn (by decide) hdf ⟨rfl, by decide, by decide, rfl⟩ hY F (fun _ _ a ns hl _ hS => ⟨a, ns, rfl, hS, hl, fun _ => rfl⟩) fun _ _ _ _ _ z => z
end Mine
open PySem PySem.W PyProof.Rows
set_option maxRecDepth 100000 in
set_option maxHeartbeats 0 in
theorem PySem.Challenge.cw_bundleclocks_k39_sets_in_order_holds : PySem.Challenge.rw_bundleclocks_k39_sets_in_order.Holds := by
 w_on; o_law; z_head; (case hw => w_witness2)
 refine L2.walkX (fun _ => by kernel_rfl) ?_
 k_fill
 refine Mine.walk (l := PySem.Challenge.rw_bundleclocks_k39_sets_in_order) rfl rfl (fun w h Y => Y) ?F
 case F =>
  intro w mg fa h KX G hmg
  refine' Mine.Zjp KX G hmg ?a0 ?l0 ?c0 ?k0 ?a1 ?l1 ?c1 ?k1 ?a2 ?l2 ?c2 ?k2 ?a3 ?l3 ?c3 ?k3 ?a4 ?l4 ?c4 ?k4 ?a5 ?l5 ?c5 ?k5 ?z_abs ?z_all ?z_isinstance ?z_len ?z_list ?z_max ?z_min ?z_range ?z_repr ?z_sorted ?z_tuple
  (case a0 => k_is); (case l0 => k_is); (case c0 => k_is); (case k0 => k_is)
  (case a1 => k_is); (case l1 => k_is); (case c1 => k_is); (case k1 => k_is)
  (case a2 => k_is); (case l2 => k_is); (case c2 => k_is); (case k2 => k_is)
  (case a3 => k_is); (case l3 => k_is); (case c3 => k_is); (case k3 => k_is)
  (case a4 => k_is); (case l4 => k_is); (case c4 => k_is); (case k4 => k_is)
  (case a5 => k_is); (case l5 => k_is); (case c5 => k_is); (case k5 => k_is)
  (case z_abs => k_is)
  (case z_all => k_is)
  (case z_isinstance => k_is)
  (case z_len => k_is)
  (case z_list => k_is)
  (case z_max => k_is)
  (case z_min => k_is)
  (case z_range => k_is)
  (case z_repr => k_is)
  (case z_sorted => k_is)
  (case z_tuple => k_is)
