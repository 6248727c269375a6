import PyProof.Rows.All
import Wide.All
import OpenK.AllK
import Wide.FinOn
import Lean
import PyProof.EqAt
import PyProof.EqKinds
import PyProof.TupleCall
import PyProof.ZipIter
import PyProof.Rows.ZipGen
import PyProof.Rows.SumAny
import PyProof.ConsumeWalk
import PyProof.EqLayable
import PyProof.ReprRoads
import PyProof.P3In
import PyProof.FitsBits
import PyProof.EnumStmt
import PyProof.Rows.EnumRows
import PyProof.ReprLen
import PyProof.Rows.SortShellK
import PyProof.Rows.SortWalk
import PyProof.MinMaxWalk
import PyProof.WalkInts
import PyProof.WalksMore
import PyProof.SeqI3
import PySem.Challenge.RW_bundleclocks_k06_told_bundles
set_option Elab.async false
set_option linter.all false
set_option maxRecDepth 100000
/-! THE HAND LAYER, for ints, bools, texts, own classes, LISTS and tuples (index, slices, in, append, pop ..), calls, loops. Paste it whole ahead of your own text; what your proof does not reach may be deleted. -/
namespace L2
open PySem PySem.Spec PyProof.Rows

/-- a key: an int or a str -/
abbrev Key := Sum Int Str
def keyIs : Key → Value → Bool
  | .inl k, v => Value.isInt k v
  | .inr x, v => Value.isStrOf x v
def keyH (w : World) : Key → Int
  | .inl k => hashInt k
  | .inr x => hashStr w x
theorem keyIs_shape : ∀ {k : Key} {v : Value}, keyIs k v = true → (∃ i t, k = Sum.inl i ∧ v = Value.int i t) ∨ (∃ x t, k = Sum.inr x ∧ v = Value.str x t)
  | .inl i, v, h => by
    obtain ⟨t, e⟩ := Value.isInt_shape (k := i) (v := v) h
    exact .inl ⟨i, t, rfl, e⟩
  | .inr x, v, h => by
    obtain ⟨t, e⟩ := Value.isStrOf_shape (x := x) (v := v) h
    exact .inr ⟨x, t, rfl, e⟩
theorem keyIs_int (i : Int) (t : Tok) : keyIs (.inl i) (.int i t) = true := by simp [keyIs, Value.isInt]
theorem keyIs_str (x : Str) (t : Tok) : keyIs (.inr x) (.str x t) = true := by simp [keyIs, Value.isStrOf]
theorem key_ll (a b : Int) : decide ((Sum.inl a : Key) = Sum.inl b) = (a == b) := by
  by_cases e : a = b
  · subst e; simp
  · have h : ¬ (Sum.inl a : Key) = Sum.inl b := fun q => e (Sum.inl.inj q)
    rw [decide_eq_false h]
    exact (beq_eq_false_iff_ne.mpr e).symm
theorem key_rr (a b : Str) : decide ((Sum.inr a : Key) = Sum.inr b) = decide (a = b) := by
  by_cases e : a = b
  · subst e; simp
  · have h : ¬ (Sum.inr a : Key) = Sum.inr b := fun q => e (Sum.inr.inj q)
    rw [decide_eq_false h, decide_eq_false e]
theorem key_lr (a : Int) (b : Str) : decide ((Sum.inl a : Key) = Sum.inr b) = false := decide_eq_false (fun q => nomatch q)
theorem key_rl (a : Str) (b : Int) : decide ((Sum.inr a : Key) = Sum.inl b) = false := decide_eq_false (fun q => nomatch q)

def mixKind (prog : Program) (w : World) : PySem.KeyKind prog w Key where
  is := keyIs
  hash := keyH w
  inj := fun v a b ha hb => by
    rcases keyIs_shape ha with ⟨i, t, rfl, rfl⟩ | ⟨x, t, rfl, rfl⟩
    · rcases keyIs_shape hb with ⟨j, u, rfl, e⟩ | ⟨y, u, rfl, e⟩
      · injection e with e1 _; rw [e1]
      · exact nomatch e
    · rcases keyIs_shape hb with ⟨j, u, rfl, e⟩ | ⟨y, u, rfl, e⟩
      · exact nomatch e
      · injection e with e1 _; rw [e1]
  byValue := fun k v h => by
    rcases keyIs_shape h with ⟨i, t, rfl, rfl⟩ | ⟨x, t, rfl, rfl⟩ <;> rfl
  pyHash := fun hv h => by
    rcases keyIs_shape hv with ⟨i, t, rfl, rfl⟩ | ⟨x, t, rfl, rfl⟩
    · exact wpAny_pyHash_int h
    · exact wpAny_pyHash_str h
  eqBool := fun hu hv h => by
    rcases keyIs_shape hu with ⟨i, t, rfl, rfl⟩ | ⟨x, t, rfl, rfl⟩
    · rcases keyIs_shape hv with ⟨j, u, rfl, rfl⟩ | ⟨y, u, rfl, rfl⟩
      · rw [key_ll] at h; exact wpAny_eqBool_int h
      · rw [key_lr] at h; exact SeqAt.EqAt.int_str i t y u _ _ _ _ h
    · rcases keyIs_shape hv with ⟨j, u, rfl, rfl⟩ | ⟨y, u, rfl, rfl⟩
      · rw [key_rl] at h; exact SeqAt.EqAt.str_int x t j u _ _ _ _ h
      · rw [key_rr] at h; exact wpAny_eqBool_str h
  «strs» := fun k x t v h => by
    rcases keyIs_shape h with ⟨i, u, rfl, e⟩ | ⟨y, u, rfl, e⟩
    · exact nomatch e
    · injection e with e1 _
      subst e1
      cases v <;> rfl

theorem mixKind_is (prog : Program) (w : World) (k : Key) (v : Value) : (mixKind prog w).is k v = keyIs k v := rfl
theorem mixKind_int (prog : Program) (w : World) (i : Int) (t : Tok) : (mixKind prog w).is (.inl i) (.int i t) = true := keyIs_int i t
theorem mixKind_str (prog : Program) (w : World) (x : Str) (t : Tok) : (mixKind prog w).is (.inr x) (.str x t) = true := keyIs_str x t
end L2

namespace L2
open PySem PySem.Spec PyProof.Rows

/-- a value, without the heap -/
inductive V where
  | non | bl (b : Bool) | int (i : Int) | str (x : Str) | byt (b : Array UInt8) | flt (b : UInt64) | ref (a : Addr) | ty (n : String)
  deriving DecidableEq

def RelV : V → Value → Prop
  | .non, u => u = Value.none
  | .bl b, u => u = Value.bool b
  | .int i, u => ∃ t, u = Value.int i t
  | .str x, u => ∃ t, u = Value.str x t
  | .byt b, u => ∃ t, u = Value.bytes b t
  | .flt b, u => ∃ t, u = Value.float b t
  | .ref a, u => u = Value.ref a
  | .ty n, u => u = Value.type n

abbrev Vals : List V → List Value → Prop := Paired RelV
theorem Vals.length {xs : List V} {us : List Value} (r : Vals xs us) : xs.length = us.length := Paired.length r
theorem Vals.get : ∀ {xs : List V} {us : List Value} {i : Nat} {x : V}, Vals xs us → xs[i]? = some x → ∃ u, us[i]? = some u ∧ RelV x u
  | _, _, _, _, .nil, e => by simp at e
  | _, _, 0, _, .cons r _, e => by simp at e; subst e; exact ⟨_, rfl, r⟩
  | _, _, i + 1, x, .cons _ t, e => by
    obtain ⟨u, h1, h2⟩ := Vals.get (i := i) (x := x) t (by simpa using e)
    exact ⟨u, by simpa using h1, h2⟩
theorem Vals.set {x : V} {u : Value} (r : RelV x u) : ∀ {xs : List V} {us : List Value} (i : Nat), Vals xs us → Vals (xs.set i x) (us.set i u)
  | _, _, _, .nil => .nil
  | _, _, 0, .cons _ t => .cons r t
  | _, _, i + 1, .cons q t => .cons q (Vals.set r i t)
theorem Vals.append : ∀ {xs ys : List V} {us ws : List Value}, Vals xs us → Vals ys ws → Vals (xs ++ ys) (us ++ ws)
  | _, _, _, _, .nil, s => s
  | _, _, _, _, .cons r t, s => .cons r (Vals.append t s)
theorem Vals.take : ∀ {xs : List V} {us : List Value} (n : Nat), Vals xs us → Vals (xs.take n) (us.take n)
  | _, _, 0, _ => .nil
  | _, _, _ + 1, .nil => .nil
  | _, _, n + 1, .cons r t => .cons r (Vals.take n t)
theorem Vals.drop : ∀ {xs : List V} {us : List Value} (n : Nat), Vals xs us → Vals (xs.drop n) (us.drop n)
  | _, _, 0, r => r
  | _, _, _ + 1, .nil => .nil
  | _, _, n + 1, .cons _ t => Vals.drop n t
theorem Vals.none_of : ∀ {xs : List V} {us : List Value} {i : Nat}, Vals xs us → xs[i]? = none → us[i]? = none := fun {xs us i} r e => by
  have h1 := r.length
  have h2 : xs.length ≤ i := List.getElem?_eq_none_iff.mp e
  exact List.getElem?_eq_none_iff.mpr (by omega)

def RelO : Option V → Option Value → Prop
  | some v, some u => RelV v u
  | none, none => True
  | _, _ => False
def KV {κ : Type} : List (κ × V) → List (κ × Value) → Prop := Paired fun (p : κ × V) (q : κ × Value) => p.1 = q.1 ∧ RelV p.2 q.2

/-- a key of a dict (00_mix): an int or a text -/
def kV : Key → V
  | .inl i => .int i
  | .inr x => .str x

/-- what stands at a tracked address -/
inductive HO where
  /-- a list -/
  | lst (xs : List V)
  /-- a tuple (never changes) -/
  | tup (xs : List V)
  /-- a dict whose keys are ints and texts; one whose keys are tuples of ints and texts (the empty one is both) -/
  | dK (kvs : List (Key × V)) | dT (kvs : List (List Key × V))
  /-- a set of ints: its members, its size -/
  | set (S : Int → Bool) (n : Nat)
  /-- an instance of the class at C, its dict at dx, its attributes -/
  | ins (C dx : Addr) (fs : List (Str × V))
  /-- the dict of the instance at x -/
  | own (x : Addr)
  /-- the dict of an exception -/
  | xd (fs : List (Str × V))
  /-- a bound method, f of x -/
  | met (f x : Addr)
  /-- a range object lo, lo + 1, .. below hi -/
  | rng (lo hi : Int)
  /-- a thing that is known to the object (the script; a dict while a loop walks it): read, never written while it is so -/
  | frz (o : Obj) (u : HO)
  /-- a code object's table -/
  | tbl (ps : Array Value)
  /-- any other thing, by what is true of its one object (a def of one's own: SetO a S n := HO.ext fun h => ..) -/
  | ext (φ : Heap → Prop)

abbrev Hp := Addr → Option HO
def upd (H : Hp) (a : Addr) (o : HO) : Hp := fun b => if b = a then some o else H b
theorem upd_same {H : Hp} {a : Addr} {o : HO} : upd H a o a = some o := by unfold upd; rw [if_pos rfl]
theorem upd_ne {H : Hp} {a b : Addr} {o : HO} (h : b ≠ a) : upd H a o b = H b := by unfold upd; rw [if_neg h]
theorem upd_upd {H : Hp} {a : Addr} {o u : HO} : upd (upd H a o) a u = upd H a u := by
  funext b; unfold upd; split <;> rfl
/-- two objects of different content stand apart -/
theorem ne_of {H : Hp} {a b : Addr} {o u : HO} (h : H a = some o) (h' : H b = some u) (d : o ≠ u) : a ≠ b := by
  intro e; subst e; rw [h] at h'; exact d (Option.some.inj h')
theorem ne_of_none {H : Hp} {a b : Addr} {o : HO} (h : H a = some o) (h' : H b = none) : a ≠ b := by
  intro e; subst e; rw [h] at h'; cases h'

section
variable (P : Program) (w : World)
def ObjOk (H : Hp) (h : Heap) (a : Addr) : HO → Prop
  | .lst xs => xs.length ≤ sizeLine ∧ ∃ (its : List Value) (n : Nat), Vals xs its ∧ h.get? a = some { cls := .type "list", data := .seq its.toArray n }
  | .tup xs => xs.length ≤ sizeLine ∧ ∃ its : List Value, Vals xs its ∧ IsTup h a its.toArray
  | .dK kvs => kvs.length ≤ sizeLine ∧ (a == sysModules) = false ∧ ∃ vs, KV kvs vs ∧ h.DictOf (mixKind P w) a vs
  | .dT kvs => kvs.length ≤ sizeLine ∧ (a == sysModules) = false ∧ ∃ xs : List (List Key × Addr × Value),
      Paired (fun (p : List Key × V) (q : List Key × Addr × Value) => p.1 = q.1 ∧ H q.2.1 = some (.tup (p.1.map kV)) ∧ RelV p.2 q.2.2) kvs xs ∧
      ∃ o es ep, h.get? a = some o ∧ o.ExactDict ∧ o.data = .dict es ep ∧ es.toList = xs.map (entryOfKey (tupleKind (mixKind P w))) ∧ (xs.map (·.1)).Nodup
  | .set S n => h.SetOf (intKind P w) a S n
  | .ins C dx fs => H dx = some (.own a) ∧ fs.length ≤ 1000 ∧ dx ≠ a ∧ h.get? a = some (PySem.W.instObj C dx) ∧
      ∃ mA, h.Ns1 dx mA ∧ (∀ f, RelO (fs.lookup f) (mA f)) ∧ PySem.Within mA (fs.map (·.1))
  | .own _ => ∃ o, h.get? a = some o
  | .xd fs => ∃ mA, h.Ns1 a mA ∧ ∀ f, RelO (fs.lookup f) (mA f)
  | .rng lo hi => ∃ t u v, h.get? a = some { cls := .type "range", data := .fields #[.int lo t, .int hi u, .int 1 v] }
  | .frz o u => h.get? a = some o ∧ ObjOk H h a u
  | .tbl ps => h.get? a = some { cls := .none, data := .fields ps }
  | .met f x => h.get? a = some (PySem.W.methodObj (.ref f) (.ref x))
  | .ext φ => φ h ∧ (∃ o, h.get? a = some o) ∧ ∀ h1 h2 : Heap, φ h1 → (∀ o, h1.get? a = some o → h2.get? a = some o) → φ h2
/-- the abstract heap is held -/
def HOk (H : Hp) (h : Heap) : Prop := ∀ a o, H a = some o → ObjOk P w H h a o
end

section
variable {P : Program} {w : World} {H H' : Hp} {h h' : Heap} {a : Addr} {o : HO}
theorem ObjOk.lt (x : ObjOk P w H h a o) : a < h.objs.size := by
  cases o with
  | lst xs => obtain ⟨_, _, _, _, e⟩ := x; exact Heap.lt_size e
  | tup xs => obtain ⟨_, _, _, p⟩ := x; exact p.lt
  | dK kvs => obtain ⟨_, _, _, _, o, _, _, e, _⟩ := x; exact Heap.lt_size e
  | dT kvs => obtain ⟨_, _, _, _, o, _, _, e, _⟩ := x; exact Heap.lt_size e
  | set S n => obtain ⟨o, _, _, _, e, _⟩ := x; exact Heap.lt_size e
  | ins C dx fs => obtain ⟨_, _, _, e, _⟩ := x; exact Heap.lt_size e
  | own y => obtain ⟨_, e⟩ := x; exact Heap.lt_size e
  | xd fs => obtain ⟨_, ⟨_, _, _, e, _⟩, _⟩ := x; exact Heap.lt_size e
  | rng lo hi => obtain ⟨_, _, _, e⟩ := x; exact Heap.lt_size e
  | frz ob u => obtain ⟨e, _⟩ := x; exact Heap.lt_size e
  | tbl ps => exact Heap.lt_size (show h.get? a = some _ from x)
  | met f y => exact Heap.lt_size (show h.get? a = some _ from x)
  | ext φ => obtain ⟨_, ⟨_, e⟩, _⟩ := x; exact Heap.lt_size e
theorem Paired.mapP {α β : Type} {F G : α → β → Prop} : ∀ {l₁ : List α} {l₂ : List β}, Paired F l₁ l₂ → (∀ a b, F a b → G a b) → Paired G l₁ l₂
  | _, _, .nil, _ => .nil
  | _, _, .cons r t, f => .cons (f _ _ r) (Paired.mapP t f)
theorem Paired.imp' {α β : Type} {F G : α → β → Prop} (f : ∀ a b, F a b → G a b) {l₁ : List α} {l₂ : List β} (r : Paired F l₁ l₂) : Paired G l₁ l₂ := Paired.mapP r f
/-- what an object's description leans on: its own object, its own dict, the tuples -/
theorem ObjOk.stay (x : ObjOk P w H h a o) (k : ∀ b u, (b = a ∨ H b = some (.own a)) → h.get? b = some u → h'.get? b = some u)
    (ho : ∀ b, H b = some (.own a) → H' b = some (.own a)) (ht : ∀ b xs, H b = some (.tup xs) → H' b = some (.tup xs)) : ObjOk P w H' h' a o := by
  induction o with
  | lst xs => obtain ⟨z, its, n, r, e⟩ := x; exact ⟨z, its, n, r, k _ _ (.inl rfl) e⟩
  | tup xs => obtain ⟨z, its, r, ob, e, c⟩ := x; exact ⟨z, its, r, ob, k _ _ (.inl rfl) e, c⟩
  | dK kvs => obtain ⟨z, y, vs, r, ob, es, ep, e, c⟩ := x; exact ⟨z, y, vs, r, ob, es, ep, k _ _ (.inl rfl) e, c⟩
  | dT kvs =>
    obtain ⟨z, y, xs, r, ob, es, ep, e, c⟩ := x
    exact ⟨z, y, xs, Paired.mapP r fun p q z => ⟨z.1, ht _ _ z.2.1, z.2.2⟩, ob, es, ep, k _ _ (.inl rfl) e, c⟩
  | set S n => obtain ⟨ob, es, ep, t, e, c⟩ := x; exact ⟨ob, es, ep, t, k _ _ (.inl rfl) e, c⟩
  | ins C dx fs =>
    obtain ⟨d, z, ne, e, mA, ⟨od, es, ep, e2, c⟩, r⟩ := x
    exact ⟨ho _ d, z, ne, k _ _ (.inl rfl) e, mA, ⟨od, es, ep, k _ _ (.inr d) e2, c⟩, r⟩
  | own y => obtain ⟨ob, e⟩ := x; exact ⟨ob, k _ _ (.inl rfl) e⟩
  | xd fs => obtain ⟨mA, ⟨od, es, ep, e, c⟩, r⟩ := x; exact ⟨mA, ⟨od, es, ep, k _ _ (.inl rfl) e, c⟩, r⟩
  | rng lo hi => obtain ⟨t, u, v, e⟩ := x; exact ⟨t, u, v, k _ _ (.inl rfl) e⟩
  | frz ob u ih => obtain ⟨e, q⟩ := x; exact ⟨k _ _ (.inl rfl) e, ih q⟩
  | tbl ps =>
    have e : h.get? a = some { cls := .none, data := .fields ps } := x
    show h'.get? a = some { cls := .none, data := .fields ps }
    exact k a _ (.inl rfl) e
  | met f y =>
    have e : h.get? a = some (PySem.W.methodObj (.ref f) (.ref y)) := x
    show h'.get? a = some (PySem.W.methodObj (.ref f) (.ref y))
    exact k a _ (.inl rfl) e
  | ext φ => obtain ⟨p, ⟨o, e⟩, st⟩ := x; exact ⟨st _ _ p fun o q => k _ _ (.inl rfl) q, ⟨o, k _ _ (.inl rfl) e⟩, st⟩
theorem HOk.lt (x : HOk P w H h) (e : H a = some o) : a < h.objs.size := (x a o e).lt
theorem HOk.fresh (x : HOk P w H h) (e : h.objs.size ≤ a) : H a = none := by
  cases q : H a with
  | none => rfl
  | some u => exact absurd (Nat.lt_of_lt_of_le (x.lt q) e) (Nat.lt_irrefl _)
/-- every object of the heap is kept -/
theorem HOk.kept (x : HOk P w H h) (k : ∀ b u, h.get? b = some u → h'.get? b = some u) : HOk P w H h' := fun a o e =>
  (x a o e).stay (fun b u _ q => k b u q) (fun _ q => q) fun _ _ q => q
/-- a new object is laid and tracked -/
theorem HOk.laid (x : HOk P w H h) (k : ∀ b u, h.get? b = some u → h'.get? b = some u) (hp : h.objs.size ≤ a) (new : ObjOk P w (upd H a o) h' a o) : HOk P w (upd H a o) h' := fun b u e => by
  have hn := x.fresh hp
  by_cases hb : b = a
  · subst hb; rw [upd_same] at e; cases e; exact new
  · rw [upd_ne hb] at e
    exact (x b u e).stay (fun c v _ q => k c v q) (fun c q => by rw [upd_ne (ne_of_none q hn)]; exact q) fun c xs q => by rw [upd_ne (ne_of_none q hn)]; exact q
end

/-- what may be read as u: it is u, or a known u -/
def Rd (H : Hp) (a : Addr) (u : HO) : Prop := H a = some u ∨ ∃ o, H a = some (.frz o u)
theorem Rd.of {H : Hp} {a : Addr} {u : HO} (h : H a = some u) : Rd H a u := .inl h
theorem Rd.ok {P : Program} {w : World} {H : Hp} {h : Heap} {a : Addr} {u : HO} (r : Rd H a u) (x : HOk P w H h) : ObjOk P w H h a u := by
  rcases r with r | ⟨o, r⟩
  · exact x a u r
  · obtain ⟨_, q⟩ := x a _ r
    exact q
/-- what may be written -/
def Mut : Option HO → Prop
  | some (.lst _) => True
  | some (.dK _) => True
  | some (.dT _) => True
  | some (.set _ _) => True
  | some (.ins _ _ _) => True
  | some (.ext _) => True
  | _ => False
section
variable {P : Program} {w : World} {H : Hp} {h h' : Heap} {x e : Addr} {o' : HO}
/-- the object at e is changed: x itself, or the dict of the instance x -/
theorem HOk.write (ok : HOk P w H h) (mu : Mut (H x)) (he : e = x ∨ H e = some (.own x)) (k : ∀ b u, b ≠ e → h.get? b = some u → h'.get? b = some u) (heo : ∃ u, h'.get? e = some u)
    (new : ObjOk P w (upd H x o') h' x o') : HOk P w (upd H x o') h' := fun b u q => by
  have nown : ∀ c y, H c = some (.own y) → c ≠ x := fun c y r z => by subst z; rw [r] at mu; exact mu
  have ntup : ∀ c xs, H c = some (.tup xs) → c ≠ x := fun c xs r z => by subst z; rw [r] at mu; exact mu
  by_cases hb : b = x
  · subst hb; rw [upd_same] at q; cases q; exact new
  · rw [upd_ne hb] at q
    by_cases hbe : b = e
    · have q' : H b = some (.own x) := by
        rcases he with z | z
        · exact absurd (hbe.trans z) hb
        · rw [hbe]; exact z
      rw [q] at q'; cases q'
      obtain ⟨v, hv⟩ := heo
      exact ⟨v, by rw [hbe]; exact hv⟩
    · refine (ok b u q).stay (fun c v hc r => k c v ?_ r) (fun c r => by rw [upd_ne (nown c b r)]; exact r) fun c xs r => by rw [upd_ne (ntup c xs r)]; exact r
      rcases hc with rfl | hc
      · exact hbe
      · rintro rfl
        rcases he with z | z
        · exact nown c b hc z
        · rw [hc] at z; cases z; exact hb rfl
end

/-! ### kept unless tracked; of the frames at fs (the callers') the slots may change (an exception that passes writes there); of the records at ex (iterators) nothing is said -/
structure Un (fs ex : List Addr) (H H' : Hp) (h h' : Heap) : Prop where
  keep : ∀ b o, h.get? b = some o → H b = none → b ∉ fs → b ∉ ex → h'.get? b = some o
  slot : ∀ b o, h.get? b = some o → H b = none → b ∈ fs → b ∉ ex → ∃ sl, h'.get? b = some { o with slots := sl }
  free : ∀ b o, h.get? b = some o → H b = none → b ∉ ex → H' b = none
  there : ∀ b o, h.get? b = some o → b ∉ ex → ∃ o', h'.get? b = some o'
  tups : ∀ b xs, H b = some (.tup xs) → H' b = some (.tup xs)
  frzs : ∀ b o u, H b = some (.frz o u) → H' b = some (.frz o u)
  tbls : ∀ b ps, H b = some (.tbl ps) → ∃ more, H' b = some (.tbl (ps ++ more))
section
variable {fs fs' ex ex' : List Addr} {H H1 H2 : Hp} {h h1 h2 h' : Heap} {a x e : Addr} {o : HO}
theorem Un.any (u : Un fs ex H H1 h h1) {b : Addr} {ob : Obj} (q : h.get? b = some ob) (n : H b = none) (hx : b ∉ ex) : ∃ sl, h1.get? b = some { ob with slots := sl } := by
  by_cases hb : b ∈ fs
  · exact u.slot b ob q n hb hx
  · exact ⟨ob.slots, u.keep b ob q n hb hx⟩
theorem Un.trans (a : Un fs ex H H1 h h1) (b : Un fs ex H1 H2 h1 h2) : Un fs ex H H2 h h2 where
  keep := fun c ob q n hc hx => b.keep c ob (a.keep c ob q n hc hx) (a.free c ob q n hx) hc hx
  slot := fun c ob q n hc hx => by
    obtain ⟨sl, e1⟩ := a.slot c ob q n hc hx
    obtain ⟨sl', e2⟩ := b.slot c _ e1 (a.free c ob q n hx) hc hx
    exact ⟨sl', e2⟩
  free := fun c ob q n hx => by
    obtain ⟨o', e1⟩ := a.there c ob q hx
    exact b.free c o' e1 (a.free c ob q n hx) hx
  there := fun c ob q hx => by
    obtain ⟨o', e1⟩ := a.there c ob q hx
    exact b.there c o' e1 hx
  tups := fun c xs q => b.tups c xs (a.tups c xs q)
  frzs := fun c ob xs q => b.frzs c ob xs (a.frzs c ob xs q)
  tbls := fun c ps q => by
    obtain ⟨m1, e1⟩ := a.tbls c ps q
    obtain ⟨m2, e2⟩ := b.tbls c _ e1
    exact ⟨m1 ++ m2, by rw [e2, Array.append_assoc]⟩
theorem Un.kept (k : ∀ b u, h.get? b = some u → h'.get? b = some u) : Un fs ex H H h h' :=
  ⟨fun b ob q _ _ _ => k b ob q, fun b ob q _ _ _ => ⟨ob.slots, k b ob q⟩, fun _ _ _ n _ => n, fun b ob q _ => ⟨ob, k b ob q⟩, fun _ _ q => q, fun _ _ _ q => q, fun _ ps q => ⟨#[], by rw [q]; simp⟩⟩
theorem Un.refl : Un fs ex H H h h := Un.kept fun _ _ q => q
theorem Un.laid (k : ∀ b u, h.get? b = some u → h'.get? b = some u) (hp : h.objs.size ≤ a) (hn : H a = none) : Un fs ex H (upd H a o) h h' where
  keep := fun b u q _ _ _ => k b u q
  slot := fun b u q _ _ _ => ⟨u.slots, k b u q⟩
  free := fun b u q n _ => by rw [upd_ne (Nat.ne_of_lt (Nat.lt_of_lt_of_le (Heap.lt_size q) hp))]; exact n
  there := fun b u q _ => ⟨u, k b u q⟩
  tups := fun b xs q => by rw [upd_ne (ne_of_none q hn)]; exact q
  frzs := fun b u xs q => by rw [upd_ne (ne_of_none q hn)]; exact q
  tbls := fun b ps q => ⟨#[], by rw [upd_ne (ne_of_none q hn), q]; simp⟩
theorem Un.write (mu : Mut (H x)) (he : e = x ∨ H e = some (.own x)) (k : ∀ b u, b ≠ e → h.get? b = some u → h'.get? b = some u) (heo : ∃ u, h'.get? e = some u) : Un fs ex H (upd H x o) h h' := by
  have hx : ∀ b, H b = none → b ≠ x := fun b n z => by subst z; rw [n] at mu; exact mu
  have hb : ∀ b, H b = none → b ≠ e := fun b n z => by
    subst z
    rcases he with r | r
    · exact hx b n r
    · rw [n] at r; cases r
  have hm : ∀ b u, H b = some u → ¬ Mut (some u) → b ≠ x := fun b u q nm z => by subst z; rw [q] at mu; exact nm mu
  refine ⟨fun b u q n _ _ => k b u (hb b n) q, fun b u q n _ _ => ⟨u.slots, k b u (hb b n) q⟩, fun b u q n _ => by rw [upd_ne (hx b n)]; exact n, fun b u q _ => ?_,
    fun b xs q => by rw [upd_ne (hm b _ q fun z => z)]; exact q, fun b u xs q => by rw [upd_ne (hm b _ q fun z => z)]; exact q, fun b ps q => ⟨#[], by rw [upd_ne (hm b _ q fun z => z), q]; simp⟩⟩
  by_cases hbe : b = e
  · subst hbe; exact heo
  · exact ⟨u, k b u hbe q⟩
theorem Un.mono (u : Un fs ex H H1 h h1) (hs : ∀ b ∈ fs, b ∈ fs') (hx : ∀ b ∈ ex, b ∈ ex') : Un fs' ex' H H1 h h1 :=
  ⟨fun b ob q n hb he => u.keep b ob q n (fun z => hb (hs b z)) fun z => he (hx b z), fun _ _ q n _ he => u.any q n fun z => he (hx _ z), fun b ob q n he => u.free b ob q n fun z => he (hx b z), fun b ob q he => u.there b ob q fun z => he (hx b z), u.tups, u.frzs, u.tbls⟩
end

/-! ### the heap without what is tracked -/
def trk (h : Heap) (H : Hp) : List Addr := (List.range h.objs.size).filter fun a => (H a).isSome
def hidT (h : Heap) (H : Hp) : Heap := PySem.W.hideAll h (trk h H)
theorem hidT_size (h : Heap) (H : Hp) : (hidT h H).objs.size = h.objs.size := PySem.W.hideAll_size _ _
theorem hidT_get {h : Heap} {H : Hp} {b : Addr} {o : Obj} (e : h.get? b = some o) (n : H b = none) : (hidT h H).get? b = some o :=
  PySem.W.hideAll_get _ e fun hm => by
    have q : (H b).isSome = true := (List.mem_filter.mp hm).2
    rw [n] at q; simp at q
theorem of_hidT {h : Heap} {H : Hp} {b : Addr} {o : Obj} (e : (hidT h H).get? b = some o) : h.get? b = some o ∧ H b = none := by
  have e' : h.get? b = some o := PySem.W.of_hideAll (trk h H) e
  refine ⟨e', ?_⟩
  cases q : H b with
  | none => rfl
  | some x =>
    have hm : b ∈ trk h H := List.mem_filter.mpr ⟨List.mem_range.mpr (Heap.lt_size e'), by simp [q]⟩
    have z : (hidT h H).get? b = none := PySem.W.hideAll_none (trk h H) hm
    rw [z] at e; cases e

/-! ### OpenK's ledger, filled with every new object but one -/
def allNews (g h : Heap) (L : Addr) : List (Addr × Obj) := (List.range h.objs.size).filterMap fun a => if a = L ∨ (g.get? a).isSome = true then none else (h.get? a).map fun o => (a, o)
theorem mem_allNews {g h : Heap} {L a : Addr} {o : Obj} (h1 : a ≠ L) (h2 : g.get? a = none) (h3 : h.get? a = some o) : (a, o) ∈ allNews g h L :=
  List.mem_filterMap.mpr ⟨a, List.mem_range.mpr (Heap.lt_size h3), by simp [h1, h2, h3]⟩
theorem of_mem_allNews {g h : Heap} {L : Addr} {p : Addr × Obj} (hp : p ∈ allNews g h L) : p.1 ≠ L ∧ g.get? p.1 = none ∧ h.get? p.1 = some p.2 := by
  obtain ⟨b, _, e⟩ := List.mem_filterMap.mp hp
  split at e
  · cases e
  · rename_i hn
    cases q : h.get? b with
    | none => rw [q] at e; simp at e
    | some u =>
      rw [q] at e
      simp only [Option.map_some, Option.some.injEq] at e
      subst e
      refine ⟨fun z => hn (.inl z), ?_, q⟩
      show g.get? b = none
      cases r : g.get? b with
      | none => rfl
      | some v => exact (hn (.inr (by simp [r]))).elim
def rest (g h : Heap) (L d : Addr) : List (Addr × Obj) := (allNews g h L).filter fun p => decide (p.1 ≠ d)
theorem rest_ne {g h : Heap} {L d : Addr} : ∀ p ∈ rest g h L d, p.1 ≠ d := fun p hp => of_decide_eq_true (List.mem_filter.mp hp).2
theorem mem_rest {g h : Heap} {L d a : Addr} {o : Obj} (h1 : a ≠ L) (h2 : g.get? a = none) (h3 : h.get? a = some o) (h4 : a ≠ d) : (a, o) ∈ rest g h L d :=
  List.mem_filter.mpr ⟨mem_allNews h1 h2 h3, decide_eq_true h4⟩
theorem news_all {g h : Heap} {L : Addr} : News g L h (allNews g h L) := fun p hp => let ⟨a, b, c⟩ := of_mem_allNews hp; ⟨c, a, b⟩
theorem news_at {g h : Heap} {L d : Addr} {o : Obj} (h1 : d ≠ L) (h2 : g.get? d = none) (h3 : h.get? d = some o) : News g L h ((d, o) :: rest g h L d) := fun p hp => by
  rcases List.mem_cons.mp hp with rfl | hp
  · exact ⟨h3, h1, h2⟩
  · exact news_all p (List.mem_filter.mp hp).1
/-- behind a rule that changed d alone: all else but the frame is kept -/
theorem kept_of_news {g h h' : Heap} {L d : Addr} {m : Str → Option Value} (k : ∀ b o, g.get? b = some o → h.get? b = some o) (F : Fr g L h' m) (N : News g L h' (rest g h L d)) :
    ∀ b o, b ≠ L → b ≠ d → h.get? b = some o → h'.get? b = some o := fun b o h1 h2 e => by
  cases q : g.get? b with
  | some u =>
    have := k b u q
    rw [e] at this; cases this
    exact F.keep b _ q
  | none => exact (N (b, o) (mem_rest h1 q e h2)).1
end L2

namespace L2
open PySem PySem.Spec PyProof.Rows

/-- the module's facts, over the base: the heap at the law's entry without what is tracked there -/
structure Mod (K : PySem.W.Frag) (mg : Str → Option Value) (base : Heap) : Prop where
  kin : K.In base
  glob : base.Ns mainGlobals mg
  blt : ∃ mb, base.Ns builtinsNs mb ∧ ∀ x : Str, x ≠ "__name__" → mb x = bootBuiltins x
  nolimit : base.NoLimit

/-- the context: a def's body (or a comprehension's block) running. base: fixed through the whole law; s₀, H₀: the entry; outer: the frames whose slots others may change (a def's callers); stack: all frames that run;
   ex: iterators that were made ahead of the entry and are walked here (a comprehension's); fn: the names whose cells were made at the entry (a def: all; a comprehension's block: its own); calm: not within an except suite; pn: pins that every state bears; xe: what is wanted of an exception that leaves the code -/
structure Cx where
  prog : Program
  w : World
  K : PySem.W.Frag
  mg : Str → Option Value
  base : Heap
  A : Around
  N : List Str
  s₀ : Shared
  H₀ : Hp
  env : Env
  outer : List Env
  stack : List Env
  ex : List Addr
  fn : Str → Bool
  calm : Bool
  pn : List (Addr × Obj)
  xe : Value → Shared → Prop
/-- the callers' frames -/
def frs (l : List Env) : List Addr := l.filterMap (·.frame)
abbrev Cx.fs (X : Cx) : List Addr := frs X.outer

def Vis (sc : Scope) (x : Str) : Prop := sc.names.lookup x = some .local ∨ sc.names.lookup x = some .cell ∨ sc.names.lookup x = some .free
def Loc (sc : Scope) (x : Str) : Prop := sc.names.lookup x = some .local ∨ sc.names.lookup x = some .cell
def Look (env : Env) (h : Heap) (m : Str → Option Value) (x : Str) (u : Value) : Prop :=
  (env.kindOf x = some .local ∧ m x = some u) ∨ ((env.kindOf x = some .cell ∨ env.kindOf x = some .free) ∧ ∃ c, env.cells.lookup x = some c ∧ h.IsCell c (some u))

structure Cx.Ok (X : Cx) : Prop where
  mod : Mod X.K X.mg X.base
  kind : X.env.scope.kind = .function
  glob : X.env.globals = mainGlobals
  blt : X.env.builtins = builtinsNs
  above : X.s₀.heap.objs.size ≤ X.env.locals
  inj : ∀ x y c, X.env.cells.lookup x = some c → X.env.cells.lookup y = some c → x = y
  has : ∀ x, (X.env.kindOf x = some .cell ∨ X.env.kindOf x = some .free) → ∃ c, X.env.cells.lookup x = some c
  cab : ∀ x c, X.fn x = true → X.env.cells.lookup x = some c → X.s₀.heap.objs.size ≤ c
  hd : X.calm = true → X.A.handled = none
  frames : X.A.frames = some X.stack
  stk : X.stack = X.outer ∨ (X.stack = X.env :: X.outer ∧ X.env.frame = some X.env.locals)
  exf : ∀ b ∈ X.ex, b ≠ X.env.locals ∧ ∀ x c, X.env.cells.lookup x = some c → c ≠ b
  bs : ∀ b o, X.base.get? b = some o → X.s₀.heap.get? b = some o ∧ X.H₀ b = none
  bsz : X.base.objs.size ≤ X.s₀.heap.objs.size
  noex : ∀ b o, X.base.get? b = some o → b ∉ X.ex
  exfs : ∀ b ∈ X.ex, b ∉ X.fs
  funs : X.s₀.heap.FunFrames X.base X.outer
  frf : ∀ b ∈ X.fs, X.H₀ b = none

structure Inv (X : Cx) (pins : List (Addr × Obj)) (σ : List (Option V)) (H : Hp) (s : Shared) : Prop where
  ok : X.Ok
  os : s.os = X.s₀.os
  bare : AllBare s.gens
  base : Un X.fs X.ex X.H₀ H X.s₀.heap s.heap
  loc : ∃ m, s.heap.Ns X.env.locals m ∧ ∀ (i : Nat) (x : Str) (v : V), X.N[i]? = some x → σ[i]? = some (some v) → Vis X.env.scope x → ∃ u, RelV v u ∧ Look X.env s.heap m x u
  cell : ∀ x c, X.env.cells.lookup x = some c → ∃ v, s.heap.IsCell c v
  free : H X.env.locals = none
  freeC : ∀ x c, X.env.cells.lookup x = some c → H c = none
  pin : ∀ p ∈ X.pn ++ pins, s.heap.get? p.1 = some p.2 ∧ H p.1 = none ∧ p.1 ≠ X.env.locals ∧ p.1 ∉ X.fs ∧ ∀ v, p.2.data ≠ .cell v
  hok : HOk X.prog X.w H s.heap
  len : σ.length = X.N.length

section
variable {X : Cx} {pins : List (Addr × Obj)} {σ : List (Option V)} {H H' : Hp} {s : Shared} {h' : Heap}

theorem Cx.Ok.nofr (ok : X.Ok) {b : Addr} {o : Obj} (e : X.base.get? b = some o) : b ∉ X.fs := fun hb => by
  have := (ok.funs.mem hb).1
  rw [e] at this; cases this
theorem Inv.bs (I : Inv X pins σ H s) : ∀ b o, X.base.get? b = some o → s.heap.get? b = some o ∧ H b = none := fun b o e =>
  ⟨I.base.keep b o (I.ok.bs b o e).1 (I.ok.bs b o e).2 (I.ok.nofr e) (I.ok.noex b o e), I.base.free b o (I.ok.bs b o e).1 (I.ok.bs b o e).2 (I.ok.noex b o e)⟩
theorem Inv.bk (I : Inv X pins σ H s) : ∀ b o, X.base.get? b = some o → s.heap.get? b = some o := fun b o e => (I.bs b o e).1
theorem Inv.mod (I : Inv X pins σ H s) : Mod X.K X.mg X.base := I.ok.mod
theorem Inv.kIn (I : Inv X pins σ H s) : X.K.In s.heap := I.ok.mod.kin.keeps I.bk
theorem Inv.nolimit (I : Inv X pins σ H s) : s.heap.NoLimit := I.ok.mod.nolimit.keeps I.bk
/-- the frame over the base: for OpenK's rules (K.In X.base is I.mod.kin) -/
theorem Inv.fr (I : Inv X pins σ H s) : ∃ m, Fr X.base X.env.locals s.heap m :=
  let ⟨m, hn, _⟩ := I.loc
  ⟨m, hn, I.bk, Nat.le_trans I.ok.bsz I.ok.above⟩
theorem Inv.lt (I : Inv X pins σ H s) : X.env.locals < s.heap.objs.size := let ⟨_, hn, _⟩ := I.loc; hn.lt
theorem Inv.sz (I : Inv X pins σ H s) : X.s₀.heap.objs.size ≤ s.heap.objs.size := Nat.le_trans I.ok.above (Nat.le_of_lt I.lt)
theorem Inv.nofs (I : Inv X pins σ H s) {a : Addr} (h : s.heap.objs.size ≤ a) : a ∉ X.fs := fun hb => by
  obtain ⟨_, o, ho, _⟩ := I.ok.funs.mem hb
  exact absurd (Nat.lt_of_lt_of_le (Heap.lt_size ho) (Nat.le_trans I.sz h)) (Nat.lt_irrefl _)
theorem Inv.cne (I : Inv X pins σ H s) : ∀ x c, X.env.cells.lookup x = some c → c ≠ X.env.locals := fun x c e z => by
  obtain ⟨v, o, ho, hd⟩ := I.cell x c e
  obtain ⟨m, ⟨o', es, ep, ho', hd', _⟩, _⟩ := I.loc
  rw [z, ho'] at ho; cases ho; rw [hd'] at hd; cases hd
theorem Inv.funs (I : Inv X pins σ H s) : s.heap.FunFrames X.base X.outer := by
  have all : ∀ (l : List Env), (∀ b ∈ frs l, b ∈ X.fs) → X.s₀.heap.FunFrames X.base l → s.heap.FunFrames X.base l := by
    intro l
    induction l with
    | nil => intro _ _; trivial
    | cons env r ih =>
      intro hs hl
      obtain ⟨hk, ⟨L, o, hf, hn, ho, hd⟩, hr⟩ := hl
      have hL : L ∈ X.fs := hs L (by unfold frs; rw [List.filterMap_cons, hf]; exact List.mem_cons_self)
      obtain ⟨sl, e⟩ := I.base.slot L o ho (I.ok.frf L hL) hL fun z => I.ok.exfs L z hL
      exact ⟨hk, ⟨L, _, hf, hn, e, hd⟩, ih (fun b hb => hs b (by unfold frs; rw [List.filterMap_cons, hf]; exact List.mem_cons_of_mem _ hb)) hr⟩
  exact all X.outer (fun _ hb => hb) I.ok.funs

/-- the frames that run, for a call -/
theorem Inv.stack (I : Inv X pins σ H s) : s.heap.FunFrames X.base X.stack := by
  rcases I.ok.stk with e | ⟨e, hf⟩
  · rw [e]; exact I.funs
  · rw [e]
    obtain ⟨m, hn, _⟩ := I.loc
    refine .cons (by rw [I.ok.kind]; decide) hf hn ?_ I.funs
    exact Heap.get?_none_of_le (Nat.le_trans I.ok.bsz I.ok.above)
theorem Inv.stkSub (I : Inv X pins σ H s) : ∀ b ∈ frs X.stack, b ∈ X.env.locals :: X.fs := fun b hb => by
  rcases I.ok.stk with e | ⟨e, hf⟩
  · rw [e] at hb; exact List.mem_cons_of_mem _ hb
  · rw [e] at hb
    unfold frs at hb
    rw [List.filterMap_cons, hf] at hb
    exact hb
theorem Inv.stkFree (I : Inv X pins σ H s) : ∀ b ∈ frs X.stack, H b = none := fun b hb => by
  rcases List.mem_cons.mp (I.stkSub b hb) with e | hb
  · rw [e]; exact I.free
  · obtain ⟨_, o, ho, _⟩ := I.ok.funs.mem hb
    exact I.base.free b o ho (I.ok.frf b hb) fun z => I.ok.exfs b z hb

/-- THE STEP: the untracked objects but the frame and the records at ch are kept (the callers' frames up to slots), the frame's map is kept, the new abstract heap is held -/
theorem Inv.step {g' : Array GenState} {t' : Nat} {d' : Drawn} {ch : List Addr} (I : Inv X pins σ H s)
    (hch : ∀ b ∈ ch, (b ∈ X.ex ∨ X.s₀.heap.objs.size ≤ b) ∧ b ≠ X.env.locals ∧ (∀ x c, X.env.cells.lookup x = some c → c ≠ b) ∧ ∀ p ∈ X.pn ++ pins, p.1 ≠ b)
    (keep : ∀ b o, b ≠ X.env.locals → b ∉ X.fs → b ∉ ch → s.heap.get? b = some o → H b = none → h'.get? b = some o)
    (slot : ∀ b o, b ≠ X.env.locals → b ∈ X.fs → b ∉ ch → s.heap.get? b = some o → H b = none → ∃ sl, h'.get? b = some { o with slots := sl }) (free : ∀ b o, b ∉ ch → s.heap.get? b = some o → H b = none → H' b = none)
    (there : ∀ b o, b ∉ ch → s.heap.get? b = some o → ∃ o', h'.get? b = some o')
    (tups : ∀ b xs, H b = some (.tup xs) → H' b = some (.tup xs)) (frzs : ∀ b o u, H b = some (.frz o u) → H' b = some (.frz o u)) (tbls : ∀ b ps, H b = some (.tbl ps) → ∃ more, H' b = some (.tbl (ps ++ more)))
    (ns : ∀ m, s.heap.Ns X.env.locals m → h'.Ns X.env.locals m) (hok : HOk X.prog X.w H' h') (hg : AllBare g') :
    Inv X pins σ H' { s with heap := h', gens := g', drawn := d', toks := t' } := by
  have neL : ∀ b o, X.s₀.heap.get? b = some o → b ≠ X.env.locals := fun b o e => Nat.ne_of_lt (Nat.lt_of_lt_of_le (Heap.lt_size e) I.ok.above)
  have neC : ∀ b o, X.s₀.heap.get? b = some o → b ∉ X.ex → b ∉ ch := fun b o e hx hb => by
    rcases (hch b hb).1 with z | z
    · exact hx z
    · exact absurd (Nat.lt_of_lt_of_le (Heap.lt_size e) z) (Nat.lt_irrefl _)
  have cellK : ∀ x c, X.env.cells.lookup x = some c → ∀ v, s.heap.IsCell c v → h'.IsCell c v := fun x c e v ⟨o, ho, hd⟩ => by
    have nch : c ∉ ch := fun z => (hch c z).2.2.1 x c e rfl
    by_cases hc : c ∈ X.fs
    · obtain ⟨sl, q⟩ := slot c o (I.cne x c e) hc nch ho (I.freeC x c e)
      exact ⟨_, q, hd⟩
    · exact ⟨o, keep c o (I.cne x c e) hc nch ho (I.freeC x c e), hd⟩
  refine ⟨I.ok, I.os, hg, ⟨fun b o e n hb hx => ?_, fun b o e n hb hx => ?_, fun b o e n hx => ?_, fun b o e hx => ?_, fun b xs e => tups b xs (I.base.tups b xs e), fun b o xs e => frzs b o xs (I.base.frzs b o xs e), fun b ps e => ?_⟩, ?_, fun x c e => ?_, ?_, fun x c e => ?_, fun p hp => ?_, hok, I.len⟩
  · exact keep b o (neL b o e) hb (neC b o e hx) (I.base.keep b o e n hb hx) (I.base.free b o e n hx)
  · obtain ⟨sl, e1⟩ := I.base.slot b o e n hb hx
    obtain ⟨sl', e2⟩ := slot b _ (neL b o e) hb (neC b o e hx) e1 (I.base.free b o e n hx)
    exact ⟨sl', e2⟩
  · obtain ⟨o', e1⟩ := I.base.there b o e hx
    exact free b o' (neC b o e hx) e1 (I.base.free b o e n hx)
  · obtain ⟨o', e1⟩ := I.base.there b o e hx
    exact there b o' (neC b o e hx) e1
  · obtain ⟨m1, e1⟩ := I.base.tbls b ps e
    obtain ⟨m2, e2⟩ := tbls b _ e1
    exact ⟨m1 ++ m2, by rw [e2, Array.append_assoc]⟩
  · obtain ⟨m, hn, hl⟩ := I.loc
    refine ⟨m, ns m hn, fun i x v e1 e2 e3 => ?_⟩
    obtain ⟨u, r, l⟩ := hl i x v e1 e2 e3
    refine ⟨u, r, ?_⟩
    rcases l with l | ⟨k, c, e, z⟩
    · exact .inl l
    · exact .inr ⟨k, c, e, cellK x c e _ z⟩
  · obtain ⟨v, z⟩ := I.cell x c e
    exact ⟨v, cellK x c e v z⟩
  · obtain ⟨m, ⟨o, _, _, ho, _⟩, _⟩ := I.loc
    exact free _ o (fun z => (hch _ z).2.1 rfl) ho I.free
  · obtain ⟨v, o, ho, hd⟩ := I.cell x c e
    exact free c o (fun z => (hch c z).2.2.1 x c e rfl) ho (I.freeC x c e)
  · obtain ⟨e, n, ne, nf, d⟩ := I.pin p hp
    have nch : p.1 ∉ ch := fun z => (hch p.1 z).2.2.2 p hp rfl
    exact ⟨keep p.1 p.2 ne nf nch e n, free p.1 p.2 nch e n, ne, nf, d⟩
/-- .. where the frame's own object is kept too -/
theorem Inv.un {t' : Nat} (I : Inv X pins σ H s) (u : Un X.fs [] H H' s.heap h') (hok : HOk X.prog X.w H' h') : Inv X pins σ H' { s with heap := h', toks := t' } := by
  obtain ⟨m, ⟨o, es, ep, ho, r⟩, _⟩ := id I.loc
  obtain ⟨sl, hL⟩ := u.any ho I.free (by simp)
  exact I.step (g' := s.gens) (d' := s.drawn) (ch := []) (fun _ z => nomatch z) (fun b o _ hb _ e n => u.keep b o e n hb (by simp)) (fun b o _ hb _ e n => u.slot b o e n hb (by simp)) (fun b o _ e n => u.free b o e n (by simp)) (fun b o _ e => u.there b o e (by simp)) u.tups u.frzs u.tbls (fun m' hm => by
    obtain ⟨o', es', ep', ho', r'⟩ := hm
    rw [ho] at ho'; cases ho'
    exact ⟨_, es', ep', hL, r'⟩) hok I.bare
/-- behind a call (or a comprehension's block): the slots of this frame may have changed too, the records at ch may have turned -/
theorem Inv.call {g' : Array GenState} {t' : Nat} {d' : Drawn} {ch : List Addr} (I : Inv X pins σ H s) (u : Un (frs X.stack) ch H H' s.heap h') (hok : HOk X.prog X.w H' h') (hg : AllBare g')
    (hch : ∀ b ∈ ch, (b ∈ X.ex ∨ X.s₀.heap.objs.size ≤ b) ∧ b ≠ X.env.locals ∧ (∀ x c, X.env.cells.lookup x = some c → c ≠ b) ∧ ∀ p ∈ X.pn ++ pins, p.1 ≠ b) :
    Inv X pins σ H' { s with heap := h', gens := g', drawn := d', toks := t' } := by
  obtain ⟨m, ⟨o, es, ep, ho, r⟩, _⟩ := id I.loc
  obtain ⟨sl, hL⟩ := u.any ho I.free fun z => (hch _ z).2.1 rfl
  exact I.step (ch := ch) hch (fun b o hL hb hc e n => u.keep b o e n (fun z => (List.mem_cons.mp (I.stkSub b z)).elim hL hb) hc) (fun b o _ _ hc e n => u.any e n hc) (fun b o hc e n => u.free b o e n hc) (fun b o hc e => u.there b o e hc) u.tups u.frzs u.tbls (fun m' hm => by
    obtain ⟨o', es', ep', ho', r'⟩ := hm
    rw [ho] at ho'; cases ho'
    exact ⟨_, es', ep', hL, r'⟩) hok hg
/-- an untracked record of ours (an iterator) has turned -/
theorem Inv.turned {t' : Nat} {it : Addr} (I : Inv X pins σ H s) (k : ∀ b o, b ≠ it → s.heap.get? b = some o → h'.get? b = some o) (hn : H it = none) (hL : it ≠ X.env.locals)
    (h1 : it ∈ X.ex ∨ X.s₀.heap.objs.size ≤ it) (h2 : ∀ x c, X.env.cells.lookup x = some c → c ≠ it) (h3 : ∀ p ∈ X.pn ++ pins, p.1 ≠ it) : Inv X pins σ H { s with heap := h', toks := t' } := by
  have nit : ∀ b u, H b = some u → b ≠ it := fun b u e z => by rw [z, hn] at e; cases e
  refine I.step (g' := s.gens) (d' := s.drawn) (ch := [it]) (fun b hb => ?_) (fun b o _ _ hc e _ => k b o (fun z => hc (by simp [z])) e) (fun b o _ _ hc e _ => ⟨o.slots, k b o (fun z => hc (by simp [z])) e⟩) (fun _ _ _ _ n => n)
    (fun b o hc e => ⟨o, k b o (fun z => hc (by simp [z])) e⟩) (fun _ _ e => e) (fun _ _ _ e => e) (fun b ps e => ⟨#[], by rw [e]; simp⟩) (fun m hm => ?_) (fun b u e => ?_) I.bare
  · have e : b = it := by simpa using hb
    subst e
    exact ⟨h1, hL, h2, h3⟩
  · obtain ⟨o, es, ep, ho, r⟩ := hm
    exact ⟨o, es, ep, k _ o (Ne.symm hL) ho, r⟩
  · refine (I.hok b u e).stay (fun c v hc q => k c v ?_ q) (fun _ q => q) fun _ _ q => q
    rcases hc with z | z
    · rw [z]; exact nit b u e
    · exact nit c _ z
theorem Inv.tok (I : Inv X pins σ H s) (t : Nat) : Inv X pins σ H { s with toks := t } := I.un (h' := s.heap) (t' := t) Un.refl I.hok
/-- all objects kept -/
theorem Inv.kept {t' : Nat} (I : Inv X pins σ H s) (k : ∀ b u, s.heap.get? b = some u → h'.get? b = some u) : Inv X pins σ H { s with heap := h', toks := t' } := I.un (Un.kept k) (I.hok.kept k)
/-- a new object laid and tracked -/
theorem Inv.laid {a : Addr} {o : HO} {t' : Nat} (I : Inv X pins σ H s) (k : ∀ b u, s.heap.get? b = some u → h'.get? b = some u) (hp : s.heap.objs.size ≤ a) (new : ObjOk X.prog X.w (upd H a o) h' a o) :
    Inv X pins σ (upd H a o) { s with heap := h', toks := t' } := I.un (Un.laid k hp (I.hok.fresh hp)) (I.hok.laid k hp new)
/-- an object written -/
theorem Inv.write {x e : Addr} {o : HO} {t' : Nat} (I : Inv X pins σ H s) (mu : Mut (H x)) (he : e = x ∨ H e = some (.own x)) (k : ∀ b u, b ≠ e → s.heap.get? b = some u → h'.get? b = some u) (heo : ∃ u, h'.get? e = some u)
    (new : ObjOk X.prog X.w (upd H x o) h' x o) : Inv X pins σ (upd H x o) { s with heap := h', toks := t' } := I.un (Un.write mu he k heo) (I.hok.write mu he k heo new)
/-- forgetting slots, pins -/
theorem Inv.weak {σ' : List (Option V)} (I : Inv X pins σ H s) (hl : σ'.length = σ.length) (w : ∀ (i : Nat) v, σ'[i]? = some (some v) → σ[i]? = some (some v)) : Inv X pins σ' H s :=
  ⟨I.ok, I.os, I.bare, I.base, let ⟨m, hn, hl'⟩ := I.loc; ⟨m, hn, fun i x v e1 e2 e3 => hl' i x v e1 (w i v e2) e3⟩, I.cell, I.free, I.freeC, I.pin, I.hok, hl.trans I.len⟩
theorem Inv.pins_of {pins' : List (Addr × Obj)} (I : Inv X pins σ H s) (h : ∀ p ∈ pins', s.heap.get? p.1 = some p.2 ∧ H p.1 = none ∧ p.1 ≠ X.env.locals ∧ p.1 ∉ X.fs ∧ ∀ v, p.2.data ≠ .cell v) : Inv X pins' σ H s :=
  ⟨I.ok, I.os, I.bare, I.base, I.loc, I.cell, I.free, I.freeC, fun p hp => (List.mem_append.mp hp).elim (fun z => I.pin p (List.mem_append_left _ z)) (h p), I.hok, I.len⟩

theorem nodup_ix {N : List Str} (hN : N.Nodup) {i j : Nat} {x : Str} (a : N[i]? = some x) (b : N[j]? = some x) : i = j := by
  obtain ⟨h1, e1⟩ := List.getElem?_eq_some_iff.mp a
  obtain ⟨h2, e2⟩ := List.getElem?_eq_some_iff.mp b
  exact (List.getElem_inj hN).mp (e1.trans e2.symm)

/-- a name is stored; what changed -/
theorem store_ok2 {M : Model} {A : Around} {E : Value → Shared → Prop} {i : Nat} {x : Str} {v : V} {u : Value} {Q : Unit → Shared → Prop} (I : Inv X pins σ H s) (hN : X.N.Nodup) (hi : X.N[i]? = some x) (hx : Loc X.env.scope x) (r : RelV v u)
    (h : ∀ s', Inv X pins (σ.set i (some v)) H s' → (∃ a, Heap.SameBut a s.heap s'.heap ∧ (a = X.env.locals ∨ X.env.cells.lookup x = some a)) → Q () s') (hf : X.fn x = true ∨ X.env.scope.names.lookup x = some .local := by first | exact .inl rfl | exact .inr rfl | assumption) : wpAny M A (storeName X.env x u) Q E s := by
  obtain ⟨m, hn, hl⟩ := id I.loc
  have hcls : (X.env.scope.kind == .class || (X.env.scope.kind == .module && X.env.locals != X.env.globals)) = false := by rw [I.ok.kind]; rfl
  have hiσ : i < σ.length := by rw [I.len]; exact (List.getElem?_eq_some_iff.mp hi).1
  have cne := I.cne
  have tracked : ∀ {a : Addr} {h' : Heap}, (∃ o, s.heap.get? a = some o ∧ H a = none) → Heap.SameBut a s.heap h' → HOk X.prog X.w H h' := fun {a h'} ha hs b ob e => by
    obtain ⟨_, _, hfree⟩ := ha
    refine (I.hok b ob e).stay (fun c w' hc q => (hs.2 c ?_).trans q) (fun _ q => q) fun _ _ q => q
    rintro rfl
    rcases hc with rfl | hc
    · rw [hfree] at e; cases e
    · rw [hfree] at hc; cases hc
  rcases hx with hk | hk
  · refine wpAny_storeName_local hk hn (fun h' hn' hs => ?_) hcls
    obtain ⟨oL, _, _, hoL, _⟩ := id hn
    refine h _ ⟨I.ok, I.os, I.bare, ⟨fun b o e n hb hx => ?_, fun b o e n hb hx => ?_, I.base.free, fun b o e hx => ?_, I.base.tups, I.base.frzs, I.base.tbls⟩, ⟨_, hn', fun j y v' e1 e2 e3 => ?_⟩, fun y c e => ?_, I.free, I.freeC, fun p hp => ?_, tracked ⟨oL, hoL, I.free⟩ hs, by simpa using I.len⟩ ⟨_, hs, .inl rfl⟩
    · exact (hs.2 b (Nat.ne_of_lt (Nat.lt_of_lt_of_le (Heap.lt_size e) I.ok.above))).trans (I.base.keep b o e n hb hx)
    · obtain ⟨sl, e1⟩ := I.base.slot b o e n hb hx
      exact ⟨sl, (hs.2 b (Nat.ne_of_lt (Nat.lt_of_lt_of_le (Heap.lt_size e) I.ok.above))).trans e1⟩
    · obtain ⟨o', e1⟩ := I.base.there b o e hx
      exact ⟨o', (hs.2 b (Nat.ne_of_lt (Nat.lt_of_lt_of_le (Heap.lt_size e) I.ok.above))).trans e1⟩
    · by_cases hj : j = i
      · subst hj
        rw [hi] at e1; cases e1
        rw [List.getElem?_set_self hiσ] at e2
        cases e2
        exact ⟨u, r, .inl ⟨hk, by simp⟩⟩
      · rw [List.getElem?_set_ne (Ne.symm hj)] at e2
        obtain ⟨u', r', q⟩ := hl j y v' e1 e2 e3
        refine ⟨u', r', ?_⟩
        rcases q with ⟨k, e⟩ | ⟨k, c, e, z⟩
        · refine .inl ⟨k, ?_⟩
          have : y ≠ x := fun e => hj (nodup_ix hN e1 (e ▸ hi))
          simp [this, e]
        · exact .inr ⟨k, c, e, z.sameBut hs (cne y c e)⟩
    · obtain ⟨w', z⟩ := I.cell y c e
      exact ⟨w', z.sameBut hs (cne y c e)⟩
    · obtain ⟨e, n, ne, nf, d⟩ := I.pin p hp
      exact ⟨(hs.2 p.1 ne).trans e, n, ne, nf, d⟩
  · have hfn : X.fn x = true := by
      rcases hf with z | z
      · exact z
      · rw [z] at hk; cases hk
    obtain ⟨c, hc⟩ := I.ok.has x (.inl hk)
    obtain ⟨w', z⟩ := I.cell x c hc
    refine wpAny_storeName_cell I.ok.kind hk hc z (fun h' hc' hs => ?_)
    obtain ⟨oc, hoc, hocd⟩ := id z
    refine h { s with heap := h' } ⟨I.ok, I.os, I.bare, ⟨fun b o e n hb hx => ?_, fun b o e n hb hx => ?_, I.base.free, fun b o e hx => ?_, I.base.tups, I.base.frzs, I.base.tbls⟩, ⟨m, hn.sameBut hs (Ne.symm (cne x c hc)), fun j y v' e1 e2 e3 => ?_⟩, fun y c' e => ?_, I.free, I.freeC, fun p hp => ?_, tracked ⟨oc, hoc, I.freeC x c hc⟩ hs, by simpa using I.len⟩ ⟨c, hs, .inr hc⟩
    · exact (hs.2 b (Nat.ne_of_lt (Nat.lt_of_lt_of_le (Heap.lt_size e) (I.ok.cab x c hfn hc)))).trans (I.base.keep b o e n hb hx)
    · obtain ⟨sl, e1⟩ := I.base.slot b o e n hb hx
      exact ⟨sl, (hs.2 b (Nat.ne_of_lt (Nat.lt_of_lt_of_le (Heap.lt_size e) (I.ok.cab x c hfn hc)))).trans e1⟩
    · obtain ⟨o', e1⟩ := I.base.there b o e hx
      exact ⟨o', (hs.2 b (Nat.ne_of_lt (Nat.lt_of_lt_of_le (Heap.lt_size e) (I.ok.cab x c hfn hc)))).trans e1⟩
    · by_cases hj : j = i
      · subst hj
        rw [hi] at e1; cases e1
        rw [List.getElem?_set_self hiσ] at e2
        cases e2
        exact ⟨u, r, .inr ⟨.inl hk, c, hc, hc'⟩⟩
      · rw [List.getElem?_set_ne (Ne.symm hj)] at e2
        obtain ⟨u', r', q⟩ := hl j y v' e1 e2 e3
        refine ⟨u', r', ?_⟩
        rcases q with q | ⟨k, c', e, z'⟩
        · exact .inl q
        · refine .inr ⟨k, c', e, z'.sameBut hs ?_⟩
          rintro rfl
          exact hj (nodup_ix hN e1 (I.ok.inj _ _ _ e hc ▸ hi))
    · by_cases hcc : c' = c
      · subst hcc; exact ⟨_, hc'⟩
      · obtain ⟨w2, z2⟩ := I.cell y c' e
        exact ⟨w2, z2.sameBut hs hcc⟩
    · obtain ⟨e, n, ne, nf, d⟩ := I.pin p hp
      refine ⟨(hs.2 p.1 ?_).trans e, n, ne, nf, d⟩
      intro q
      rw [q, hoc] at e
      have q' : oc = p.2 := Option.some.inj e
      exact d w' (by rw [← q']; exact hocd)
theorem store_ok {M : Model} {A : Around} {E : Value → Shared → Prop} {i : Nat} {x : Str} {v : V} {u : Value} {Q : Unit → Shared → Prop} (I : Inv X pins σ H s) (hN : X.N.Nodup) (hi : X.N[i]? = some x) (hx : Loc X.env.scope x) (r : RelV v u)
    (h : ∀ s', Inv X pins (σ.set i (some v)) H s' → Q () s') (hf : X.fn x = true ∨ X.env.scope.names.lookup x = some .local := by first | exact .inl rfl | exact .inr rfl | assumption) : wpAny M A (storeName X.env x u) Q E s :=
  store_ok2 I hN hi hx r (fun s' I' _ => h s' I') hf
/-- behind a call or a block, the state as it is -/
theorem Inv.call' {s' : Shared} {ch : List Addr} (I : Inv X pins σ H s) (ho : s'.os = s.os) (u : Un (frs X.stack) ch H H' s.heap s'.heap) (hok : HOk X.prog X.w H' s'.heap) (hg : AllBare s'.gens)
    (hch : ∀ b ∈ ch, (b ∈ X.ex ∨ X.s₀.heap.objs.size ≤ b) ∧ b ≠ X.env.locals ∧ (∀ x c, X.env.cells.lookup x = some c → c ≠ b) ∧ ∀ p ∈ X.pn ++ pins, p.1 ≠ b) : Inv X pins σ H' s' := by
  obtain ⟨h', g', d', t', o'⟩ := s'
  have e : o' = s.os := ho
  subst e
  exact I.call (g' := g') (t' := t') (d' := d') u hok hg hch
end

/-! ### the judgements -/
/-- an exception: its class, its own dict's address (where it has one), the abstract heap behind it -/
abbrev XK := Value → Option Addr → Hp → Prop
abbrev St := List (Option V)
abbrev VK := V → Hp → Prop
/-- an expression's reading; a test's; an argument list's -/
abbrev TE := St → Hp → VK → Prop
abbrev TT := St → Hp → (Bool → Hp → Prop) → Prop
abbrev TA := St → Hp → (List V → Hp → Prop) → Prop
/-- what is wanted behind a statement -/
structure Ends where
  nx : St → Hp → Prop
  rt : VK
  bk : St → Hp → Prop := fun _ _ => False
  ct : St → Hp → Prop := fun _ _ => False
abbrev TS := Ends → St → Hp → Prop

def EP (X : Cx) (pins : List (Addr × Obj)) (σ : St) (Q : VK) (u : Value) (s' : Shared) : Prop := ∃ v H', Inv X pins σ H' s' ∧ RelV v u ∧ Q v H'
def TP (X : Cx) (pins : List (Addr × Obj)) (σ : St) (Q : Bool → Hp → Prop) (b : Bool) (s' : Shared) : Prop := ∃ H', Inv X pins σ H' s' ∧ Q b H'
def AP (X : Cx) (pins : List (Addr × Obj)) (σ : St) (Q : List V → Hp → Prop) (us : List Value) (s' : Shared) : Prop := ∃ vs H', Inv X pins σ H' s' ∧ Vals vs us ∧ Q vs H'
def SP (X : Cx) (pins : List (Addr × Obj)) (D : Ends) (f : Flow) (s' : Shared) : Prop :=
  match f with
  | .next => ∃ σ' H', Inv X pins σ' H' s' ∧ D.nx σ' H'
  | .brk => ∃ σ' H', Inv X pins σ' H' s' ∧ D.bk σ' H'
  | .cont => ∃ σ' H', Inv X pins σ' H' s' ∧ D.ct σ' H'
  | .ret u => ∃ v σ' H', Inv X pins σ' H' s' ∧ RelV v u ∧ D.rt v H'

def PE (X : Cx) (e : Expr) (t : TE) : Prop :=
  ∀ (pins : List (Addr × Obj)) (s : Shared) (σ : St) (H : Hp) (Q : VK), Inv X pins σ H s → t σ H Q → wpAny (model X.prog X.w) X.A (eval e X.env) (EP X pins σ Q) X.xe s
def PT (X : Cx) (e : Expr) (t : TT) : Prop :=
  ∀ (pins : List (Addr × Obj)) (s : Shared) (σ : St) (H : Hp) (Q : Bool → Hp → Prop), Inv X pins σ H s → t σ H Q → wpAny (model X.prog X.w) X.A (isTrue e X.env (eval e X.env)) (TP X pins σ Q) X.xe s
/-- a test whatever its 'whole' is (and, or) -/
def PW (X : Cx) (e : Expr) (t : TT) : Prop :=
  ∀ (whole : Sem Value) (pins : List (Addr × Obj)) (s : Shared) (σ : St) (H : Hp) (Q : Bool → Hp → Prop), Inv X pins σ H s → t σ H Q → wpAny (model X.prog X.w) X.A (isTrue e X.env whole) (TP X pins σ Q) X.xe s
theorem PW.pt {X : Cx} {e : Expr} {t : TT} (h : PW X e t) : PT X e t := h _
/-- an argument list (no star), from the left -/
def PA (X : Cx) (es : List Expr) (t : TA) : Prop :=
  ∀ (pos : Pos) (pins : List (Addr × Obj)) (s : Shared) (σ : St) (H : Hp) (Q : List V → Hp → Prop), Inv X pins σ H s → t σ H Q → wpAny (model X.prog X.w) X.A (spliced (backTo pos (starEach es X.env))) (AP X pins σ Q) X.xe s
def PS (X : Cx) (st : Stmt) (t : TS) : Prop :=
  ∀ (pins : List (Addr × Obj)) (s : Shared) (σ : St) (H : Hp) (D : Ends), Inv X pins σ H s → t D σ H → wpAny (model X.prog X.w) X.A (exec st X.env) (SP X pins D) X.xe s
def PSs (X : Cx) (st : List Stmt) (t : TS) : Prop :=
  ∀ (pins : List (Addr × Obj)) (s : Shared) (σ : St) (H : Hp) (D : Ends), Inv X pins σ H s → t D σ H → wpAny (model X.prog X.w) X.A (execs st X.env) (SP X pins D) X.xe s
/-- weaken the end -/
theorem thn {α : Type} {t : Sem α} {Q Q' : α → Shared → Prop} {M : Model} {A : Around} {E : Value → Shared → Prop} {s : Shared} (h : wpAny M A t Q E s) (hQ : ∀ a s, Q a s → Q' a s) : wpAny M A t Q' E s := wpAny_mono h hQ fun _ _ x => x
end L2

namespace L2
open PySem PySem.Spec PyProof.Rows
section
variable {X : Cx}

/-- two expressions in a row -/
theorem bin {a b : Expr} {ta tb : TE} (ha : PE X a ta) (hb : PE X b tb) {pins : List (Addr × Obj)} {s : Shared} {σ : St} {H : Hp} {R : V → V → Hp → Prop} (I : Inv X pins σ H s) (h : ta σ H fun x H1 => tb σ H1 fun y H2 => R x y H2)
    {α : Type} {Q : α → Shared → Prop} {f : Value → Value → Sem α}
    (hf : ∀ v u s2 x y H2, Inv X pins σ H2 s2 → RelV x v → RelV y u → R x y H2 → wpAny (model X.prog X.w) X.A (f v u) Q X.xe s2) :
    wpAny (model X.prog X.w) X.A (eval a X.env) (fun v s₁ => wpAny (model X.prog X.w) X.A (eval b X.env) (fun u s₂ => wpAny (model X.prog X.w) X.A (f v u) Q X.xe s₂) X.xe s₁) X.xe s := by
  refine thn (ha pins s σ H _ I h) fun v s1 ⟨x, H1, I1, r1, q1⟩ => ?_
  refine thn (hb pins s1 σ H1 _ I1 q1) fun u s2 ⟨y, H2, I2, r2, q2⟩ => ?_
  exact hf v u s2 x y H2 I2 r1 r2 q2

/-! ### names and constants -/
def tVar (i : Nat) : TE := fun σ H Q => ∃ v, σ[i]? = some (some v) ∧ Q v H
def tC (v : V) : TE := fun _ H Q => Q v H
theorem pe_var {i : Nat} {x : Str} {pos : Pos} (hN : X.N[i]? = some x) (hv : Vis X.env.scope x) (hd : (x == ("__debug__" : Str)) = false := by decide) (hcd : (x == ("__classdict__" : Str)) = false := by decide) : PE X (.Name x pos) (tVar i) := by
  intro pins s σ H Q I h
  obtain ⟨v, e, h⟩ := h
  obtain ⟨m, hn, hl⟩ := I.loc
  obtain ⟨u, r, l⟩ := hl i x v hN e hv
  have fin : EP X pins σ Q u s := ⟨v, H, I, r, h⟩
  rcases l with ⟨hk, hm⟩ | ⟨hk, c, hc, hcell⟩
  · exact wpAny_Name (wpAny_loadName_local I.ok.kind hk hn hm fin) hd
  · rcases hk with hk | hk
    · exact wpAny_Name (wpAny_loadName_cell I.ok.kind hk hc hcell fin) hd
    · exact wpAny_Name (wpAny_loadName_free I.ok.kind hk hc hcell fin hcd) hd
theorem pe_int {i j pos} : PE X (.Constant (.int i) j pos) (tC (.int i)) := fun _ _ _ H _ I h => wpAny_Constant_int ⟨.int i, H, I.tok _, ⟨_, rfl⟩, h⟩
theorem pe_bl {b j pos} : PE X (.Constant (.bool b) j pos) (tC (.bl b)) := fun _ _ _ H _ I h => Constant_bool ⟨.bl b, H, I, rfl, h⟩
theorem pe_non {j pos} : PE X (.Constant .none j pos) (tC .non) := fun _ _ _ H _ I h => Constant_none ⟨.non, H, I, rfl, h⟩
theorem pe_str {x j pos} : PE X (.Constant (.str x) j pos) (tC (.str x)) := fun _ _ _ H _ I h => Calls.Constant_str ⟨.str x, H, I.tok _, ⟨_, rfl⟩, h⟩

/-- a global name of the def -/
def Gl (X : Cx) (x : Str) : Prop := X.env.kindOf x = some .globalImplicit
theorem ld_glob {E : Value → Shared → Prop} {pins : List (Addr × Obj)} {s : Shared} {σ : St} {H : Hp} {x : Str} {u : Value} {pos : Pos} {Q : Value → Shared → Prop} (I : Inv X pins σ H s) (hg : Gl X x) (hm : X.mg x = some u) (h : Q u s)
    (hd : (x == ("__debug__" : Str)) = false := by decide) : wpAny (model X.prog X.w) X.A (eval (.Name x pos) X.env) Q E s :=
  Calls.Name_function_global I.ok.kind hg (Calls.loadGlobal_global (by rw [I.ok.glob]; exact I.mod.glob.keeps I.bk) hm h) hd
theorem ld_blt {E : Value → Shared → Prop} {pins : List (Addr × Obj)} {s : Shared} {σ : St} {H : Hp} {x : Str} {u : Value} {pos : Pos} {Q : Value → Shared → Prop} (I : Inv X pins σ H s) (hg : Gl X x) (hm : X.mg x = none) (hv : bootBuiltins x = some u) (h : Q u s)
    (hn : x ≠ "__name__" := by decide) (hd : (x == ("__debug__" : Str)) = false := by decide) : wpAny (model X.prog X.w) X.A (eval (.Name x pos) X.env) Q E s := by
  obtain ⟨mb, h1, h2⟩ := I.mod.blt
  exact Calls.Name_function_global I.ok.kind hg (Calls.loadGlobal_builtin (by rw [I.ok.glob]; exact I.mod.glob.keeps I.bk) hm (by rw [I.ok.blt]; exact h1.keeps I.bk) ((h2 x hn).trans hv) h) hd
/-- a module's constant, a class, a function, as a value -/
theorem pe_glob {x : Str} {v : V} {u : Value} {pos : Pos} (hg : Gl X x) (hm : X.mg x = some u) (r : RelV v u) (hd : (x == ("__debug__" : Str)) = false := by decide) : PE X (.Name x pos) (tC v) :=
  fun _ _ _ H _ I h => ld_glob I hg hm ⟨v, H, I, r, h⟩ hd
theorem pe_bltn {x : Str} {v : V} {u : Value} {pos : Pos} (hg : Gl X x) (hm : X.mg x = none) (hv : bootBuiltins x = some u) (r : RelV v u) (hn : x ≠ "__name__" := by decide) (hd : (x == ("__debug__" : Str)) = false := by decide) : PE X (.Name x pos) (tC v) :=
  fun _ _ _ H _ I h => ld_blt I hg hm hv ⟨v, H, I, r, h⟩ hn hd

/-! ### arithmetic -/
/-- two ints -/
def t2I (ta tb : TE) (k : Int → Int → Hp → Prop) : St → Hp → Prop := fun σ H => ta σ H fun x H1 => tb σ H1 fun y H2 => ∃ i j, x = .int i ∧ y = .int j ∧ k i j H2
def tAdd (ta tb : TE) : TE := fun σ H Q => t2I ta tb (fun i j H2 => Q (.int (i + j)) H2) σ H
def tSub (ta tb : TE) : TE := fun σ H Q => t2I ta tb (fun i j H2 => Q (.int (i - j)) H2) σ H
/-- the left factor below 2^64 -/
def tMul (ta tb : TE) : TE := fun σ H Q => t2I ta tb (fun i j H2 => (-(2 ^ 64) < i ∧ i < 2 ^ 64) ∧ Q (.int (i * j)) H2) σ H
variable {a b : Expr} {ta tb : TE} {pos : Pos}
theorem pe_add (ha : PE X a ta) (hb : PE X b tb) : PE X (.BinOp a .Add b pos) (tAdd ta tb) := by
  intro pins s σ H Q I h
  refine wpAny_BinOp (bin ha hb I h fun v u s2 x y H2 I2 rx ry q => ?_)
  obtain ⟨i, j, rfl, rfl, q⟩ := q
  obtain ⟨t, rfl⟩ := rx
  obtain ⟨t', rfl⟩ := ry
  exact add_int ⟨.int _, H2, I2.tok _, ⟨_, rfl⟩, q⟩
theorem pe_sub (ha : PE X a ta) (hb : PE X b tb) : PE X (.BinOp a .Sub b pos) (tSub ta tb) := by
  intro pins s σ H Q I h
  refine wpAny_BinOp (bin ha hb I h fun v u s2 x y H2 I2 rx ry q => ?_)
  obtain ⟨i, j, rfl, rfl, q⟩ := q
  obtain ⟨t, rfl⟩ := rx
  obtain ⟨t', rfl⟩ := ry
  exact sub_int ⟨.int _, H2, I2.tok _, ⟨_, rfl⟩, q⟩
theorem pe_mul (ha : PE X a ta) (hb : PE X b tb) : PE X (.BinOp a .Mult b pos) (tMul ta tb) := by
  intro pins s σ H Q I h
  refine wpAny_BinOp (bin ha hb I h fun v u s2 x y H2 I2 rx ry q => ?_)
  obtain ⟨i, j, rfl, rfl, ⟨q1, q2⟩, q⟩ := q
  obtain ⟨t, rfl⟩ := rx
  obtain ⟨t', rfl⟩ := ry
  exact mul_int ⟨.int _, H2, I2.tok _, ⟨_, rfl⟩, q⟩ (.of_left (intBits_le_64 q1 q2))

/-! ### comparisons -/
def PC (X : Cx) (op : CmpOp) (a b : Expr) (t : TE) : Prop :=
  ∀ (pins : List (Addr × Obj)) (s : Shared) (σ : St) (H : Hp) (Q : VK), Inv X pins σ H s → t σ H Q →
    wpAny (model X.prog X.w) X.A (eval a X.env) (fun v s₁ => wpAny (model X.prog X.w) X.A (eval b X.env) (fun u s₂ => wpAny (model X.prog X.w) X.A (compareOp op v u) (EP X pins σ Q) X.xe s₂) X.xe s₁) X.xe s
theorem nobehind (b : Expr) {op : CmpOp} (h : op ≠ .In) (h2 : op ≠ .NotIn) : behindInMarks op b = false := by
  have e1 : (op == CmpOp.In) = false := by cases op <;> first | rfl | exact absurd rfl h
  have e2 : (op == CmpOp.NotIn) = false := by cases op <;> first | rfl | exact absurd rfl h2
  cases b <;> simp [behindInMarks, e1, e2]
def tCmp (p : Int → Int → Bool) (ta tb : TE) : TE := fun σ H Q => t2I ta tb (fun i j H2 => Q (.bl (p i j)) H2) σ H
abbrev tLt : TE → TE → TE := tCmp fun i j => decide (i < j)
abbrev tLe : TE → TE → TE := tCmp fun i j => decide (i ≤ j)
abbrev tGt : TE → TE → TE := tCmp fun i j => decide (j < i)
abbrev tGe : TE → TE → TE := tCmp fun i j => decide (j ≤ i)
abbrev tEqI : TE → TE → TE := tCmp fun i j => decide (i = j)
abbrev tNeI : TE → TE → TE := tCmp fun i j => !decide (i = j)
/-- a comparison of two ints, by its rule -/
theorem pc_int {op : CmpOp} {p : Int → Int → Bool} (ha : PE X a ta) (hb : PE X b tb)
    (rule : ∀ (i j : Int) (t u : Tok) (Q : Value → Shared → Prop) (s : Shared), Q (.bool (p i j)) s → wpAny (model X.prog X.w) X.A (compareOp op (.int i t) (.int j u)) Q X.xe s) : PC X op a b (tCmp p ta tb) := by
  intro pins s σ H Q I h
  refine bin ha hb I h fun v u s2 x y H2 I2 rx ry q => ?_
  obtain ⟨i, j, rfl, rfl, q⟩ := q
  obtain ⟨t, rfl⟩ := rx
  obtain ⟨t', rfl⟩ := ry
  exact rule i j t t' _ s2 ⟨.bl _, H2, I2, rfl, q⟩
theorem pc_lt (ha : PE X a ta) (hb : PE X b tb) : PC X .Lt a b (tLt ta tb) := pc_int ha hb fun _ _ _ _ _ _ h => lt_int h
theorem pc_le (ha : PE X a ta) (hb : PE X b tb) : PC X .LtE a b (tLe ta tb) := pc_int ha hb fun _ _ _ _ _ _ h => le_int h
theorem pc_gt (ha : PE X a ta) (hb : PE X b tb) : PC X .Gt a b (tGt ta tb) := pc_int ha hb fun _ _ _ _ _ _ h => gt_int h
theorem pc_ge (ha : PE X a ta) (hb : PE X b tb) : PC X .GtE a b (tGe ta tb) := pc_int ha hb fun _ _ _ _ _ _ h => ge_int h
theorem pc_eqI (ha : PE X a ta) (hb : PE X b tb) : PC X .Eq a b (tEqI ta tb) := pc_int ha hb fun _ _ _ _ _ _ h => eq_int (by rw [Bool.beq_eq_decide_eq]; exact h)
theorem pc_neI (ha : PE X a ta) (hb : PE X b tb) : PC X .NotEq a b (tNeI ta tb) := pc_int ha hb fun _ _ _ _ _ _ h => ne_int (by rw [bne, Bool.beq_eq_decide_eq]; exact h)
/-- is None -/
def tIsN (ta : TE) : TE := fun σ H Q => ta σ H fun x H1 => Q (.bl (decide (x = .non))) H1
def tNotN (ta : TE) : TE := fun σ H Q => ta σ H fun x H1 => Q (.bl (!decide (x = .non))) H1
theorem RelV.none_iff {x : V} {v : Value} (r : RelV x v) : (v == Value.none) = decide (x = .non) := by
  cases x with
  | non => cases r; rfl
  | bl _ => cases r; rfl
  | int _ => obtain ⟨t, rfl⟩ := r; rfl
  | str _ => obtain ⟨t, rfl⟩ := r; rfl
  | byt _ => obtain ⟨t, rfl⟩ := r; rfl
  | flt _ => obtain ⟨t, rfl⟩ := r; rfl
  | ref _ => cases r; rfl
  | ty _ => cases r; rfl
theorem pc_isN {j pos'} (ha : PE X a ta) : PC X .Is a (.Constant .none j pos') (tIsN ta) := by
  intro pins s σ H Q I h
  refine thn (ha pins s σ H _ I h) fun v s1 ⟨x, H1, I1, r1, q1⟩ => ?_
  exact Constant_none (is_none_gen ⟨.bl _, H1, I1, by rw [r1.none_iff]; rfl, q1⟩)
theorem pc_notN {j pos'} (ha : PE X a ta) : PC X .IsNot a (.Constant .none j pos') (tNotN ta) := by
  intro pins s σ H Q I h
  refine thn (ha pins s σ H _ I h) fun v s1 ⟨x, H1, I1, r1, q1⟩ => ?_
  exact Constant_none (isnot_none_gen ⟨.bl _, H1, I1, by rw [r1.none_iff]; rfl, q1⟩)
/-- a comparison as a value, as a test -/
def tB (t : TE) : TT := fun σ H Q => t σ H fun x H1 => ∃ c, x = .bl c ∧ Q c H1
theorem pe_cmp {op : CmpOp} {t : TE} (h : PC X op a b t) (h1 : behindInMarks op b = false := by first | exact nobehind _ (by decide) (by decide) | rfl) : PE X (.Compare a [op] [b] pos) t := fun pins s σ H Q I hw => wpAny_Compare1 (h pins s σ H Q I hw) h1
theorem pt_cmp {op : CmpOp} {t : TE} (h : PC X op a b t) (h1 : behindInMarks op b = false := by first | exact nobehind _ (by decide) (by decide) | rfl) : PT X (.Compare a [op] [b] pos) (tB t) := by
  intro pins s σ H Q I hw
  refine wpAny_isTrue_Compare1 (thn (h pins s σ H _ I hw) fun v s1 h1 => thn h1 fun u s2 h2 => thn h2 fun c s3 ⟨x, H1, I1, r1, q1⟩ => ?_) h1
  obtain ⟨d, rfl, q⟩ := q1
  cases r1
  exact wpAny_truthy_bool ⟨H1, I1, q⟩
/-- an expression whose value is a bool, as a test -/
theorem pt_val {e : Expr} {t : TE} (h : PE X e t) (he : ∀ whole, isTrue e X.env whole = (do let v ← whole; standAt e.pos; holding [v] (truthy v)) := by intro _; rfl) : PT X e (tB t) := by
  intro pins s σ H Q I hw
  refine isTrue_plain (thn (h pins s σ H _ I hw) fun v s1 ⟨x, H1, I1, r1, q1⟩ => ?_) (he _)
  obtain ⟨d, rfl, q⟩ := q1
  cases r1
  exact wpAny_truthy_bool ⟨H1, I1, q⟩

/-! ### and, or, not -/
variable {tA tB' : TT} {rest : List Expr}
def tAnd (t u : TT) : TT := fun σ H Q => t σ H fun c H1 => if c = true then u σ H1 Q else Q false H1
def tOr (t u : TT) : TT := fun σ H Q => t σ H fun c H1 => if c = true then Q true H1 else u σ H1 Q
def tNot (t : TT) : TT := fun σ H Q => t σ H fun c H1 => Q (!c) H1
theorem pw_and1 (ha : PT X a tA) : PW X (.BoolOp .And [a] pos) tA := by
  intro wh pins s σ H Q I h
  refine isTrue_and (thn (ha pins s σ H Q I h) fun c s1 e => ?_)
  cases c with
  | true => exact isTrue_and_nil e
  | false => exact e
theorem pw_or1 (ha : PT X a tA) : PW X (.BoolOp .Or [a] pos) tA := by
  intro wh pins s σ H Q I h
  refine isTrue_or (thn (ha pins s σ H Q I h) fun c s1 e => ?_)
  cases c with
  | false => exact isTrue_or_nil e
  | true => exact e
theorem pw_and (ha : PT X a tA) (hb : PW X (.BoolOp .And (b :: rest) pos) tB') : PW X (.BoolOp .And (a :: b :: rest) pos) (tAnd tA tB') := by
  intro wh pins s σ H Q I h
  refine isTrue_and (thn (ha pins s σ H _ I h) fun c s1 ⟨H1, I1, q1⟩ => ?_)
  cases c with
  | true => exact hb wh pins s1 σ H1 Q I1 q1
  | false => exact ⟨H1, I1, q1⟩
theorem pw_or (ha : PT X a tA) (hb : PW X (.BoolOp .Or (b :: rest) pos) tB') : PW X (.BoolOp .Or (a :: b :: rest) pos) (tOr tA tB') := by
  intro wh pins s σ H Q I h
  refine isTrue_or (thn (ha pins s σ H _ I h) fun c s1 ⟨H1, I1, q1⟩ => ?_)
  cases c with
  | true => exact ⟨H1, I1, q1⟩
  | false => exact hb wh pins s1 σ H1 Q I1 q1
theorem pt_not (ha : PT X a tA) : PT X (.UnaryOp .Not a pos) (tNot tA) := by
  intro pins s σ H Q I h
  exact isTrue_not (ha pins s σ H (fun c H1 => Q (!c) H1) I h)
/-- .. as values (bools) -/
def tAndV (ta tb : TE) : TE := fun σ H Q => ta σ H fun x H1 => ∃ c, x = .bl c ∧ if c = true then tb σ H1 Q else Q (.bl false) H1
def tOrV (ta tb : TE) : TE := fun σ H Q => ta σ H fun x H1 => ∃ c, x = .bl c ∧ if c = true then Q (.bl true) H1 else tb σ H1 Q
def tNotV (ta : TE) : TE := fun σ H Q => ta σ H fun x H1 => ∃ c, x = .bl c ∧ Q (.bl (!c)) H1
theorem pe_one {op} {t : TE} (h : PE X a t) : PE X (.BoolOp op [a] pos) t := fun pins s σ H Q I hw => BoolOp_one (h pins s σ H Q I hw)
theorem pe_and (ha : PE X a ta) (hb : PE X (.BoolOp .And (b :: rest) pos) tb) : PE X (.BoolOp .And (a :: b :: rest) pos) (tAndV ta tb) := by
  intro pins s σ H Q I h
  refine BoolOp_and (thn (ha pins s σ H _ I h) fun v s1 ⟨x, H1, I1, r1, q1⟩ => ?_)
  obtain ⟨c, rfl, q1⟩ := q1
  cases r1
  refine wpAny_truthy_bool ?_
  cases c with
  | true => exact hb pins s1 σ H1 Q I1 q1
  | false => exact ⟨.bl false, H1, I1, rfl, q1⟩
theorem pe_or (ha : PE X a ta) (hb : PE X (.BoolOp .Or (b :: rest) pos) tb) : PE X (.BoolOp .Or (a :: b :: rest) pos) (tOrV ta tb) := by
  intro pins s σ H Q I h
  refine BoolOp_or (thn (ha pins s σ H _ I h) fun v s1 ⟨x, H1, I1, r1, q1⟩ => ?_)
  obtain ⟨c, rfl, q1⟩ := q1
  cases r1
  refine wpAny_truthy_bool ?_
  cases c with
  | false => exact hb pins s1 σ H1 Q I1 q1
  | true => exact ⟨.bl true, H1, I1, rfl, q1⟩
theorem pe_not (ha : PE X a ta) : PE X (.UnaryOp .Not a pos) (tNotV ta) := by
  intro pins s σ H Q I h
  refine UnaryOp_ (thn (ha pins s σ H _ I h) fun v s1 ⟨x, H1, I1, r1, q1⟩ => ?_)
  obtain ⟨c, rfl, q1⟩ := q1
  cases r1
  exact not_of (wpAny_truthy_bool ⟨.bl (!c), H1, I1, rfl, q1⟩)
/-- a if t else b -/
def tIf (t : TT) (ta tb : TE) : TE := fun σ H Q => t σ H fun c H1 => if c = true then ta σ H1 Q else tb σ H1 Q
theorem pe_ifExp {c : Expr} (hc : PT X c tA) (ha : PE X a ta) (hb : PE X b tb) : PE X (.IfExp c a b pos) (tIf tA ta tb) := by
  intro pins s σ H Q I h
  refine wpAny_IfExp (thn (hc pins s σ H _ I h) fun d s1 ⟨H1, I1, q1⟩ => ?_)
  cases d with
  | true => exact ha pins s1 σ H1 Q I1 q1
  | false => exact hb pins s1 σ H1 Q I1 q1
end
end L2

namespace L2
open PySem PySem.Spec PyProof.Rows

/-! ### a list, a tuple that is read: tracked, frozen, or an object of the module -/
def SqL (K : PySem.W.Frag) (H : Hp) (a : Addr) (xs : List V) : Prop :=
  Rd H a (.lst xs) ∨
    ∃ (o : Obj) (its : Array Value) (n : Nat), K.lookup a = some o ∧ o.cls = .type "list" ∧ o.dict = none ∧ o.data = .seq its n ∧ its.size ≤ sizeLine ∧ Vals xs its.toList
def SqT (K : PySem.W.Frag) (H : Hp) (a : Addr) (xs : List V) : Prop :=
  Rd H a (.tup xs) ∨
    ∃ (o : Obj) (its : Array Value) (n : Nat), K.lookup a = some o ∧ o.cls = .type "tuple" ∧ o.data = .seq its n ∧ its.size ≤ sizeLine ∧ Vals xs its.toList
def absV : Value → Option V
  | .none => some .non
  | .bool b => some (.bl b)
  | .int i _ => some (.int i)
  | .str x _ => some (.str x)
  | .bytes b _ => some (.byt b)
  | .float b _ => some (.flt b)
  | .ref a => some (.ref a)
  | .type n => some (.ty n)
  | _ => none
theorem RelV.abs {x : V} {u : Value} (r : RelV x u) : absV u = some x := by
  cases x with
  | non => cases r; rfl
  | bl _ => cases r; rfl
  | int _ => obtain ⟨t, rfl⟩ := r; rfl
  | str _ => obtain ⟨t, rfl⟩ := r; rfl
  | byt _ => obtain ⟨t, rfl⟩ := r; rfl
  | flt _ => obtain ⟨t, rfl⟩ := r; rfl
  | ref _ => cases r; rfl
  | ty _ => cases r; rfl
theorem RelV.inj {x y : V} {u : Value} (r : RelV x u) (q : RelV y u) : x = y := Option.some.inj (r.abs.symm.trans q.abs)
theorem Vals.inj : ∀ {xs ys : List V} {us : List Value}, Vals xs us → Vals ys us → xs = ys
  | _, _, _, .nil, .nil => rfl
  | _, _, _, .cons r t, .cons r' t' => by rw [r.inj r', Vals.inj t t']
section
variable {X : Cx} {pins : List (Addr × Obj)} {σ : St} {H : Hp} {s : Shared} {a : Addr} {xs ys : List V}
theorem SqL.of {K : PySem.W.Frag} (h : H a = some (.lst xs)) : SqL K H a xs := .inl (.inl h)
theorem SqT.of {K : PySem.W.Frag} (h : H a = some (.tup xs)) : SqT K H a xs := .inl (.inl h)
theorem Inv.list (I : Inv X pins σ H s) (h : SqL X.K H a xs) : ∃ its : List Value, Vals xs its ∧ PlainL s.heap a its.toArray ∧ xs.length ≤ sizeLine := by
  rcases h with h | ⟨o, its, n, hk, hc, hd, hs, hz, r⟩
  · obtain ⟨z, its, n, r, e⟩ := h.ok I.hok
    exact ⟨its, r, ⟨_, n, e, rfl, rfl, rfl⟩, z⟩
  · refine ⟨its.toList, r, ⟨o, n, I.kIn a o hk, hc, hd, by simpa using hs⟩, ?_⟩
    have e := r.length
    simp only [Array.length_toList] at e
    omega
theorem Inv.tuple (I : Inv X pins σ H s) (h : SqT X.K H a xs) : ∃ its : List Value, Vals xs its ∧ IsTup s.heap a its.toArray ∧ xs.length ≤ sizeLine := by
  rcases h with h | ⟨o, its, n, hk, hc, hs, hz, r⟩
  · obtain ⟨z, its, r, p⟩ := h.ok I.hok
    exact ⟨its, r, p, z⟩
  · refine ⟨its.toList, r, ⟨o, I.kIn a o hk, hc, n, by simpa using hs⟩, ?_⟩
    have e := r.length
    simp only [Array.length_toList] at e
    omega
theorem Inv.list_inj (I : Inv X pins σ H s) (h : SqL X.K H a xs) (h' : SqL X.K H a ys) : xs = ys := by
  obtain ⟨its, r, ⟨o, n, e, _, _, d⟩, _⟩ := I.list h
  obtain ⟨its', r', ⟨o', n', e', _, _, d'⟩, _⟩ := I.list h'
  rw [e] at e'; cases e'
  rw [d] at d'
  injection d' with d1 _
  have : its = its' := by simpa using congrArg Array.toList d1
  subst this
  exact r.inj r'
theorem Inv.tuple_inj (I : Inv X pins σ H s) (h : SqT X.K H a xs) (h' : SqT X.K H a ys) : xs = ys := by
  obtain ⟨its, r, ⟨o, e, _, n, d⟩, _⟩ := I.tuple h
  obtain ⟨its', r', ⟨o', e', _, n', d'⟩, _⟩ := I.tuple h'
  rw [e] at e'; cases e'
  rw [d] at d'
  injection d' with d1 _
  have : its = its' := by simpa using congrArg Array.toList d1
  subst this
  exact r.inj r'
end

/-! ### another wish about exceptions -/
abbrev Cx.wish (X : Cx) (E : Value → Shared → Prop) : Cx := { X with xe := E }
/-- no exception leaves -/
abbrev Cx.nox (X : Cx) : Cx := X.wish fun _ _ => False
theorem Cx.Ok.wish {X : Cx} (ok : X.Ok) (E : Value → Shared → Prop) : (X.wish E).Ok :=
  ⟨ok.mod, ok.kind, ok.glob, ok.blt, ok.above, ok.inj, ok.has, ok.cab, ok.hd, ok.frames, ok.stk, ok.exf, ok.bs, ok.bsz, ok.noex, ok.exfs, ok.funs, ok.frf⟩
theorem Cx.Ok.unwish {X : Cx} {E : Value → Shared → Prop} (ok : (X.wish E).Ok) : X.Ok :=
  ⟨ok.mod, ok.kind, ok.glob, ok.blt, ok.above, ok.inj, ok.has, ok.cab, ok.hd, ok.frames, ok.stk, ok.exf, ok.bs, ok.bsz, ok.noex, ok.exfs, ok.funs, ok.frf⟩
section
variable {X : Cx} {pins : List (Addr × Obj)} {σ : St} {H : Hp} {s : Shared} {E : Value → Shared → Prop}
theorem Inv.wish (I : Inv X pins σ H s) (E : Value → Shared → Prop) : Inv (X.wish E) pins σ H s := ⟨I.ok.wish E, I.os, I.bare, I.base, I.loc, I.cell, I.free, I.freeC, I.pin, I.hok, I.len⟩
theorem Inv.unwish (I : Inv (X.wish E) pins σ H s) : Inv X pins σ H s := ⟨I.ok.unwish, I.os, I.bare, I.base, I.loc, I.cell, I.free, I.freeC, I.pin, I.hok, I.len⟩
theorem SP.unwish {D : Ends} {f : Flow} {s' : Shared} (h : SP (X.wish E) pins D f s') : SP X pins D f s' := by
  cases f with
  | next => obtain ⟨σ', H', I, q⟩ := h; exact ⟨σ', H', I.unwish, q⟩
  | brk => obtain ⟨σ', H', I, q⟩ := h; exact ⟨σ', H', I.unwish, q⟩
  | cont => obtain ⟨σ', H', I, q⟩ := h; exact ⟨σ', H', I.unwish, q⟩
  | ret u => obtain ⟨v, σ', H', I, r, q⟩ := h; exact ⟨v, σ', H', I.unwish, r, q⟩
theorem PE.nox {e : Expr} {t : TE} (h : PE X.nox e t) : PE X e t := fun pins s σ H Q I hw =>
  wpAny_mono (h pins s σ H Q (I.wish _) hw) (fun _ _ ⟨v, H', I', r, q⟩ => ⟨v, H', I'.unwish, r, q⟩) fun _ _ z => False.elim z
theorem PT.nox {e : Expr} {t : TT} (h : PT X.nox e t) : PT X e t := fun pins s σ H Q I hw =>
  wpAny_mono (h pins s σ H Q (I.wish _) hw) (fun _ _ ⟨H', I', q⟩ => ⟨H', I'.unwish, q⟩) fun _ _ z => False.elim z
theorem PSs.nox {st : List Stmt} {t : TS} (h : PSs X.nox st t) : PSs X st t := fun pins s σ H D I hw =>
  wpAny_mono (h pins s σ H D (I.wish _) hw) (fun _ _ q => q.unwish) fun _ _ z => False.elim z
end

/-! ### blocks and small statements -/
section
variable {X : Cx} {st : Stmt} {rest : List Stmt} {t u : TS} {e : Expr} {te : TE} {pos : Pos}
def tNext : TS := fun D σ H => D.nx σ H
def tSeq (t u : TS) : TS := fun D σ H => t { D with nx := u D } σ H
theorem pss_nil : PSs X [] tNext := fun _ _ σ H _ I h => wpAny_execs_nil ⟨σ, H, I, h⟩
theorem pss_cons (h1 : PS X st t) (h2 : PSs X rest u) : PSs X (st :: rest) (tSeq t u) := by
  intro pins s σ H D I h
  refine wpAny_execs_cons (thn (h1 pins s σ H { D with nx := u D } I h) fun f s1 q => ?_)
  cases f with
  | next =>
    obtain ⟨σ', H', I', q⟩ := q
    exact h2 pins s1 σ' H' D I' q
  | ret v => exact q
  | brk => exact q
  | cont => exact q
theorem pss_one (h1 : PS X st t) : PSs X [st] t := by
  intro pins s σ H D I h
  refine wpAny_execs_cons (thn (h1 pins s σ H D I h) fun f s1 q => ?_)
  cases f with
  | next => exact wpAny_execs_nil q
  | ret v => exact q
  | brk => exact q
  | cont => exact q
def tBreak : TS := fun D σ H => D.bk σ H
def tCont : TS := fun D σ H => D.ct σ H
theorem ps_pass : PS X (.Pass pos) tNext := fun _ _ σ H _ I h => wpAny_Pass ⟨σ, H, I, h⟩
theorem ps_break : PS X (.Break pos) tBreak := fun _ _ σ H _ I h => wpAny_Break ⟨σ, H, I, h⟩
theorem ps_continue : PS X (.Continue pos) tCont := fun _ _ σ H _ I h => wpAny_Continue ⟨σ, H, I, h⟩
/-- in a def's body nothing is shown -/
theorem Inv.quiet {pins : List (Addr × Obj)} {σ : St} {H : Hp} {s : Shared} (I : Inv X pins σ H s) : interactive X.env = false := by simp [interactive, I.ok.kind]
/-- a docstring -/
theorem ps_doc {x j pos pos'} : PS X (.Expr (.Constant (.str x) j pos) pos') tNext := fun _ s σ H _ I h => wpAny_Expr (Calls.Constant_str (show SP X _ _ .next { s with toks := s.toks + 1 } from ⟨σ, H, I.tok _, h⟩)) I.quiet
/-- an expression whose value is dropped -/
def tDrop (te : TE) : TS := fun D σ H => te σ H fun _ H1 => D.nx σ H1
theorem ps_expr (he : PE X e te) (hs : swapsWith e none pos.line X.env = pure false := by rfl) : PS X (.Expr e pos) (tDrop te) := by
  intro pins s σ H D I h
  exact wpAny_Expr_any (thn (he pins s σ H _ I h) fun v s1 ⟨x, H1, I1, r1, q1⟩ => ⟨σ, H1, I1, q1⟩) I.quiet hs
def tRet (te : TE) : TS := fun D σ H => te σ H D.rt
theorem ps_ret (he : PE X e te) : PS X (.Return (some e) pos) (tRet te) := by
  intro pins s σ H D I h
  exact wpAny_Return_some (thn (he pins s σ H _ I h) fun v s1 ⟨x, H1, I1, r1, q1⟩ => ⟨x, σ, H1, I1, r1, q1⟩)
def tRetN : TS := fun D _ H => D.rt .non H
theorem ps_retN : PS X (.Return none pos) tRetN := fun _ _ σ H _ I h => wpAny_Return_none ⟨.non, σ, H, I, rfl, h⟩
def tIfS (c : TT) (t u : TS) : TS := fun D σ H => c σ H fun b H1 => if b = true then t D σ H1 else u D σ H1
theorem ps_if {c : Expr} {a b : List Stmt} {tc : TT} (hc : PT X c tc) (ha : PSs X a t) (hb : PSs X b u) : PS X (.If c a b pos) (tIfS tc t u) := by
  intro pins s σ H D I h
  refine wpAny_If (thn (hc pins s σ H _ I h) fun d s1 ⟨H1, I1, q1⟩ => ?_)
  cases d with
  | true => exact ha pins s1 σ H1 D I1 q1
  | false => exact hb pins s1 σ H1 D I1 q1
/-- code that the proof never comes to -/
def tNever : TS := fun _ _ _ => False
theorem ps_never : PS X st tNever := fun _ _ _ _ _ _ h => h.elim
theorem pss_never {sts : List Stmt} : PSs X sts tNever := fun _ _ _ _ _ _ h => h.elim
end

/-! ### targets -/
abbrev TG := V → St → Hp → (St → Hp → Prop) → Prop
abbrev TGs := List V → St → Hp → (St → Hp → Prop) → Prop
def PG (X : Cx) (target : Expr) (t : TG) : Prop :=
  ∀ (pins : List (Addr × Obj)) (s : Shared) (σ : St) (H : Hp) (v : V) (u : Value) (Q : St → Hp → Prop), Inv X pins σ H s → RelV v u → t v σ H Q →
    wpAny (model X.prog X.w) X.A (assign target X.env u) (fun _ s' => ∃ σ' H', Inv X pins σ' H' s' ∧ Q σ' H') X.xe s
/-- several targets, one after another -/
def PGs (X : Cx) (ts : List Expr) (t : TGs) : Prop :=
  ∀ (pins : List (Addr × Obj)) (s : Shared) (σ : St) (H : Hp) (vs : List V) (us : List Value) (Q : St → Hp → Prop), Inv X pins σ H s → Vals vs us → t vs σ H Q →
    wpAny (model X.prog X.w) X.A (assignInOrder ((assignEach ts X.env).map (·.2)) us) (fun _ s' => ∃ σ' H', Inv X pins σ' H' s' ∧ Q σ' H') X.xe s
/-- o[i] = v, by values -/
abbrev TSet := V → V → V → Hp → (Hp → Prop) → Prop
def PSet (X : Cx) (t : TSet) : Prop :=
  ∀ (pins : List (Addr × Obj)) (s : Shared) (σ : St) (H : Hp) (o i v : V) (ov iv u : Value) (Q : Hp → Prop), Inv X pins σ H s → RelV o ov → RelV i iv → RelV v u → t o i v H Q →
    wpAny (model X.prog X.w) X.A (setItem ov iv u) (fun _ s' => ∃ H', Inv X pins σ H' s' ∧ Q H') X.xe s
/-- a op= b, by values -/
abbrev TIp := V → V → Hp → VK → Prop
def PIp (X : Cx) (op : Operator) (t : TIp) : Prop :=
  ∀ (pins : List (Addr × Obj)) (s : Shared) (σ : St) (H : Hp) (x y : V) (v u : Value) (Q : VK), Inv X pins σ H s → RelV x v → RelV y u → t x y H Q →
    wpAny (model X.prog X.w) X.A (inplaceOp op v u) (EP X pins σ Q) X.xe s
section
variable {X : Cx} {pos : Pos}
def gName (i : Nat) : TG := fun v σ H Q => Q (σ.set i (some v)) H
theorem pg_name {i : Nat} {x : Str} (hN : X.N.Nodup) (hi : X.N[i]? = some x) (hx : Loc X.env.scope x) (hf : X.fn x = true ∨ X.env.scope.names.lookup x = some .local := by first | exact .inl rfl | exact .inr rfl | assumption) : PG X (.Name x pos) (gName i) := by
  intro pins s σ H v u Q I r h
  exact wpAny_assign_Name (store_ok I hN hi hx r (fun s' I' => ⟨_, H, I', h⟩) hf)
def gNil : TGs := fun vs σ H Q => vs = [] ∧ Q σ H
def gCons (t : TG) (u : TGs) : TGs := fun vs σ H Q => ∃ v r, vs = v :: r ∧ t v σ H fun σ' H' => u r σ' H' Q
theorem pgs_nil : PGs X [] gNil := by
  intro pins s σ H vs us Q I r h
  obtain ⟨e, h⟩ := h
  subst e
  cases r
  exact assignInOrder_nil ⟨σ, H, I, h⟩
theorem pgs_cons {e : Expr} {es : List Expr} {t : TG} {u : TGs} (h1 : PG X e t) (h2 : PGs X es u)
    (hs : (assignEach (e :: es) X.env).map (·.2) = assign e X.env :: (assignEach es X.env).map (·.2) := by rfl) : PGs X (e :: es) (gCons t u) := by
  intro pins s σ H vs us Q I r h
  obtain ⟨v, vr, e1, h⟩ := h
  subst e1
  cases r with
  | cons r rr =>
    rw [hs]
    refine assignInOrder_cons (thn (h1 pins s σ H _ _ _ I r h) fun _ s1 ⟨σ1, H1, I1, q1⟩ => ?_)
    exact h2 pins s1 σ1 H1 _ _ Q I1 rr q1
/-- (a, b, ..) = a tuple of that length -/
def gTup (K : PySem.W.Frag) (n : Nat) (t : TGs) : TG := fun v σ H Q => ∃ a xs, v = .ref a ∧ SqT K H a xs ∧ xs.length = n ∧ t xs σ H Q
theorem pg_tup {es : List Expr} {k : Nat} {t : TGs} {n : Nat} (hc : X.calm = true) (h : PGs X es t)
    (hn : (assignEach es X.env).length = n := by rfl) (hst : (assignEach es X.env).findIdx? (·.1) = none := by rfl) : PG X (.Tuple es k pos) (gTup X.K n t) := by
  intro pins s σ H v u Q I r hw
  obtain ⟨a, xs, e1, hq, hl, hw⟩ := hw
  subst e1
  cases r
  obtain ⟨its, rv, ht, hz⟩ := I.tuple hq
  refine assign_Tuple_tuple (I.ok.hd hc) ht (by simp [hn, ← hl, rv.length]) hst fun h' hx => ?_
  have I1 : Inv X pins σ H { s with heap := h' } := I.kept (t' := s.toks) fun b o e => hx b o (Nat.ne_of_lt (Heap.lt_size e)) e
  exact h pins _ σ H xs _ Q I1 (by simpa using rv) hw
/-- o[i] = .. -/
def gSub (to ti : TE) (t : TSet) : TG := fun v σ H Q => to σ H fun o H1 => ti σ H1 fun i H2 => t o i v H2 fun H3 => Q σ H3
theorem pg_sub {o i : Expr} {to ti : TE} {t : TSet} (ho : PE X o to) (hi : PE X i ti) (hs : PSet X t)
    (ha : ∀ v, assign (.Subscript o i pos) X.env v = (do
      let ov ← holding [v] (eval o X.env)
      let iv ← holding [v, ov] (eval i X.env)
      standAt pos
      holding [v, ov, iv] (setItem ov iv v)
      release [v, ov, iv] []) := by intro _; rfl) : PG X (.Subscript o i pos) (gSub to ti t) := by
  intro pins s σ H v u Q I r h
  rw [ha]
  refine wpAny_bind (wpAny_holding (thn (ho pins s σ H _ I h) fun ov s1 ⟨x, H1, I1, r1, q1⟩ => ?_))
  refine wpAny_bind (wpAny_holding (thn (hi pins s1 σ H1 _ I1 q1) fun iv s2 ⟨y, H2, I2, r2, q2⟩ => ?_))
  refine wpAny_bind (wpAny_standAt (wpAny_bind (wpAny_holding (thn (hs pins s2 σ H2 x y v ov iv u _ I2 r1 r2 r q2) fun _ s3 ⟨H3, I3, q3⟩ => ?_))))
  exact wpAny_release ⟨σ, H3, I3, q3⟩
/-- target = value -/
def tAsg (te : TE) (g : TG) : TS := fun D σ H => te σ H fun x H1 => g x σ H1 D.nx
theorem ps_asg {tg e : Expr} {te : TE} {g : TG} (he : PE X e te) (hg : PG X tg g) (hs : swapsWithSole [tg] e pos.line X.env = pure false := by rfl) (hw : swappedStores [tg] e X.env = pure none := by rfl)
    (h1 : (assignEach [tg] X.env).map (·.2) = [assign tg X.env] := by rfl) : PS X (.Assign [tg] e pos) (tAsg te g) := by
  intro pins s σ H D I h
  refine wpAny_Assign_stores (thn (he pins s σ H _ I h) fun v s1 ⟨x, H1, I1, r1, q1⟩ => ?_) hs hw
  rw [h1]
  exact thn (hg pins s1 σ H1 x v _ I1 r1 q1) fun _ s2 q => q
/-- name = value -/
theorem ps_set {i : Nat} {x : Str} {e : Expr} {te : TE} {pos' : Pos} (hN : X.N.Nodup) (hi : X.N[i]? = some x) (hx : Loc X.env.scope x) (he : PE X e te) (hs : swapsWith e (some (.Name x pos')) pos.line X.env = pure false := by rfl) (hf : X.fn x = true ∨ X.env.scope.names.lookup x = some .local := by first | exact .inl rfl | exact .inr rfl | assumption) :
    PS X (.Assign [.Name x pos'] e pos) (tAsg te (gName i)) := by
  intro pins s σ H D I h
  refine wpAny_Assign_Name (thn (he pins s σ H _ I h) fun v s1 ⟨y, H1, I1, r1, q1⟩ => ?_) hs
  exact store_ok I1 hN hi hx r1 (fun s2 I2 => ⟨_, H1, I2, q1⟩) hf
/-- a, b = x, y with plain local names: stored from the right; the pair itself is not tracked (the opening rows as in PyProof/Rows/TupAssign.lean:23) -/
def tPar (i j : Nat) (ta : TA) : TS := fun D σ H => ta σ H fun vs H1 => ∃ v w, vs = [v, w] ∧ D.nx ((σ.set i (some v)).set j (some w)) H1
theorem ps_par {i j : Nat} {x y : Str} {a b : Expr} {ta : TA} {px py pt : Pos} {kt k2 pt2} (hc : X.calm = true) (hN : X.N.Nodup) (hi : X.N[i]? = some x) (hj : X.N[j]? = some y) (hij : i ≠ j)
    (hx : X.env.scope.names.lookup x = some .local) (hy : X.env.scope.names.lookup y = some .local) (ha : PA X [a, b] ta)
    (hw : swappedStores [.Tuple [.Name x px, .Name y py] kt pt] (.Tuple [a, b] k2 pt2) X.env = pure (some [x, y]))
    (hs : swapsWithSole [.Tuple [.Name x px, .Name y py] kt pt] (.Tuple [a, b] k2 pt2) pos.line X.env = pure false := by rfl) :
    PS X (.Assign [.Tuple [.Name x px, .Name y py] kt pt] (.Tuple [a, b] k2 pt2) pos) (tPar i j ta) := by
  intro pins s σ H D I h
  rw [exec_Assign_arm]
  refine wpAny_bind (wpAny_standAt ?_)
  rw [hs]
  refine wpAny_bind (wpAny_pure ?_)
  rw [if_neg (by decide)]
  refine wpAny_bind (Tuple_ (thn (ha _ pins s σ H _ I h) fun us s1 ⟨vs, H1, I1, r1, q1⟩ => ?_))
  obtain ⟨v, w, e1, q1⟩ := q1
  subst e1
  obtain ⟨u1, u2, rfl, rv, rw'⟩ : ∃ u1 u2, us = [u1, u2] ∧ RelV v u1 ∧ RelV w u2 := by
    cases r1 with
    | cons p q =>
      cases q with
      | cons p' q' =>
        cases q'
        exact ⟨_, _, rfl, p, p'⟩
  refine wpAny_newObj_type ?_ (by show 2 ≤ sizeLine; decide)
  have I2 : Inv X pins σ H1 { s1 with heap := s1.heap.push { cls := .type "tuple", data := .seq [u1, u2].toArray } } := I1.kept (t' := s1.toks) fun b o e => Heap.get?_push_of_some _ e
  rw [hw]
  refine wpAny_bind (wpAny_pure ?_)
  show wpAny (model X.prog X.w) X.A (do rule "assign.swapped-stores"; let items ← unpackItems (.ref s1.heap.objs.size) 2 none; assignInOrder [fun v => bindName X.env y v, fun v => bindName X.env x v] items.reverse; pure Flow.next) _ _ _
  refine wpAny_bind (wpAny_rule (wpAny_bind (unpackItems_tuple (items := #[u1, u2]) (I.ok.hd hc) (IsTup.new s1.heap _) fun h' hx' => ?_)))
  have I3 := I2.kept (h' := h') (t' := s1.toks) fun b o e => hx' b o (Nat.ne_of_lt (Heap.lt_size e)) e
  show wpAny _ _ (assignInOrder [fun v => bindName X.env y v, fun v => bindName X.env x v] [u2, u1] >>= fun _ => pure Flow.next) _ _ _
  refine wpAny_bind (assignInOrder_cons (wpAny_bindName (store_ok I3 hN hj (.inl hy) rw' (fun s2 I4 => ?_) (.inr hy))))
  refine assignInOrder_cons (wpAny_bindName (store_ok I4 hN hi (.inl hx) rv (fun s3 I5 => assignInOrder_nil (wpAny_pure ?_)) (.inr hx)))
  rw [List.set_comm _ _ (Ne.symm hij)] at I5
  exact ⟨_, H1, I5, q1⟩
/-- name op= e -/
def tAug (i : Nat) (te : TE) (ti : TIp) : TS := fun D σ H => ∃ x, σ[i]? = some (some x) ∧ te σ H fun y H1 => ti x y H1 fun z H2 => D.nx (σ.set i (some z)) H2
theorem ps_aug {i : Nat} {x : Str} {e : Expr} {te : TE} {op : Operator} {ti : TIp} {pos' : Pos} (hN : X.N.Nodup) (hi : X.N[i]? = some x) (hx : Loc X.env.scope x) (he : PE X e te) (ho : PIp X op ti) (hf : X.fn x = true ∨ X.env.scope.names.lookup x = some .local := by first | exact .inl rfl | exact .inr rfl | assumption) :
    PS X (.AugAssign (.Name x pos') op e pos) (tAug i te ti) := by
  intro pins s σ H D I h
  obtain ⟨v, e1, h⟩ := h
  obtain ⟨m, hn, hl⟩ := I.loc
  have vis : Vis X.env.scope x := by rcases hx with k | k; exact .inl k; exact .inr (.inl k)
  obtain ⟨u, r, l⟩ := hl i x v hi e1 vis
  refine wpAny_AugAssign_Name ?_
  have go : wpAny (model X.prog X.w) X.A (eval e X.env) (fun w s₂ => wpAny (model X.prog X.w) X.A (inplaceOp op u w) (fun r s₃ => wpAny (model X.prog X.w) X.A (storeName X.env x r) (fun _ => SP X pins D .next) X.xe s₃) X.xe s₂) X.xe s := by
    refine thn (he pins s σ H _ I h) fun w s1 ⟨y, H1, I1, r1, q1⟩ => ?_
    refine thn (ho pins s1 σ H1 v y u w _ I1 r r1 q1) fun z s2 ⟨zv, H2, I2, r2, q2⟩ => ?_
    exact store_ok I2 hN hi hx r2 (fun s3 I3 => ⟨_, H2, I3, q2⟩) hf
  rcases l with ⟨hk, hm⟩ | ⟨hk, c, hc, hcell⟩
  · exact wpAny_loadName_local I.ok.kind hk hn hm go
  · rcases hk with hk | hk
    · exact wpAny_loadName_cell I.ok.kind hk hc hcell go
    · rcases hx with k | k
      · have : X.env.scope.names.lookup x = some .free := hk
        rw [k] at this; cases this
      · have : X.env.scope.names.lookup x = some .free := hk
        rw [k] at this; cases this
/-- o[i] op= e -/
def tAugS (to ti te : TE) (tget : V → V → Hp → VK → Prop) (tip : TIp) (tset : TSet) : TS := fun D σ H => to σ H fun o H1 => ti σ H1 fun i H2 => tget o i H2 fun x H3 => te σ H3 fun y H4 => tip x y H4 fun z H5 => tset o i z H5 fun H6 => D.nx σ H6
/-- o[i], by values -/
def PGet (X : Cx) (t : V → V → Hp → VK → Prop) : Prop :=
  ∀ (pins : List (Addr × Obj)) (s : Shared) (σ : St) (H : Hp) (o i : V) (ov iv : Value) (Q : VK), Inv X pins σ H s → RelV o ov → RelV i iv → t o i H Q →
    wpAny (model X.prog X.w) X.A (getItem ov iv) (EP X pins σ Q) X.xe s
theorem ps_augS {o i e : Expr} {to ti te : TE} {tget : V → V → Hp → VK → Prop} {tip : TIp} {tset : TSet} {op : Operator} {tpos : Pos} (ho : PE X o to) (hi : PE X i ti) (hg : PGet X tget) (he : PE X e te) (hp : PIp X op tip) (hs : PSet X tset)
    (ha : ∀ ov iv new, augStore i ov iv new = (do holding [new, ov, iv] (setItem ov iv new); release [new, ov, iv] []; pure .next) := by intros; rfl) : PS X (.AugAssign (.Subscript o i tpos) op e pos) (tAugS to ti te tget tip tset) := by
  intro pins s σ H D I h
  refine wpAny_AugAssign_SubscriptAny (thn (ho pins s σ H _ I h) fun ov s1 ⟨x1, H1, I1, r1, q1⟩ => ?_) ha
  refine thn (hi pins s1 σ H1 _ I1 q1) fun iv s2 ⟨x2, H2, I2, r2, q2⟩ => ?_
  refine thn (hg pins s2 σ H2 x1 x2 ov iv _ I2 r1 r2 q2) fun old s3 ⟨x3, H3, I3, r3, q3⟩ => ?_
  refine thn (he pins s3 σ H3 _ I3 q3) fun v s4 ⟨x4, H4, I4, r4, q4⟩ => ?_
  refine thn (hp pins s4 σ H4 x3 x4 old v _ I4 r3 r4 q4) fun new s5 ⟨x5, H5, I5, r5, q5⟩ => ?_
  exact thn (hs pins s5 σ H5 x1 x2 x5 ov iv new _ I5 r1 r2 r5 q5) fun _ s6 ⟨H6, I6, q6⟩ => ⟨σ, H6, I6, q6⟩
/-- ints -/
def ipI (f : Int → Int → Int) : TIp := fun x y H Q => ∃ i j, x = .int i ∧ y = .int j ∧ Q (.int (f i j)) H
theorem ip_add : PIp X .Add (ipI fun i j => i + j) := by
  intro pins s σ H x y v u Q I r1 r2 h
  obtain ⟨i, j, e1, e2, q⟩ := h
  subst e1; subst e2
  obtain ⟨t, rfl⟩ := r1
  obtain ⟨t', rfl⟩ := r2
  exact iadd_int ⟨.int _, H, I.tok _, ⟨_, rfl⟩, q⟩
theorem ip_sub : PIp X .Sub (ipI fun i j => i - j) := by
  intro pins s σ H x y v u Q I r1 r2 h
  obtain ⟨i, j, e1, e2, q⟩ := h
  subst e1; subst e2
  obtain ⟨t, rfl⟩ := r1
  obtain ⟨t', rfl⟩ := r2
  exact isub_int ⟨.int _, H, I.tok _, ⟨_, rfl⟩, q⟩
end

/-! ### while -/
section
variable {X : Cx} {pos : Pos}
/-- the invariant W with its measure -/
def tWhile (c : TT) (tb : TS) : TS := fun D σ H => ∃ W : Nat → St → Hp → Prop, (∃ m, W m σ H) ∧ ∀ m σ H, W m σ H →
  c σ H fun b H1 => if b = true then ∃ N : St → Hp → Prop, (∀ σ' H', N σ' H' → ∃ m', m' < m ∧ W m' σ' H') ∧ tb { D with nx := N, ct := N, bk := D.nx } σ H1 else D.nx σ H1
theorem ps_while {c : Expr} {body : List Stmt} {tc : TT} {tb : TS} (hp : PassesOwn (model X.prog X.w) X.A X.env X.xe) (hc : PT X c tc) (hb : PSs X body tb) : PS X (.While c body [] pos) (tWhile tc tb) := by
  intro pins s σ H D I h
  obtain ⟨W, ⟨m0, w0⟩, turn⟩ := h
  refine wpAny_While (codeAny_whileLoop (fun n s' => ∃ σ' H', Inv X pins σ' H' s' ∧ W n σ' H') ?_ m0 ⟨σ, H, I, w0⟩)
  rintro n s1 ⟨σ1, H1, I1, w1⟩
  refine wpAny_passesOwn hp (thn (hc pins s1 σ1 H1 _ I1 (turn n σ1 H1 w1)) fun b s2 ⟨H2, I2, q2⟩ => ?_)
  cases b with
  | true =>
    obtain ⟨N, hN, q2⟩ := q2
    rw [if_pos rfl]
    refine wpAny_passesOwn hp (thn (hb pins s2 σ1 H2 _ I2 q2) fun f s3 q3 => ?_)
    cases f with
    | next =>
      obtain ⟨σ3, H3, I3, n3⟩ := q3
      obtain ⟨m', hm, w3⟩ := hN σ3 H3 n3
      exact ⟨m', hm, σ3, H3, I3, w3⟩
    | cont =>
      obtain ⟨σ3, H3, I3, n3⟩ := q3
      obtain ⟨m', hm, w3⟩ := hN σ3 H3 n3
      exact ⟨m', hm, σ3, H3, I3, w3⟩
    | brk => exact q3
    | ret v => exact q3
  | false =>
    rw [if_neg Bool.false_ne_true]
    exact wpAny_execs_nil ⟨σ1, H2, I2, q2⟩
end

/-! ### what a loop or a comprehension walks -/
/-- at turn i: it yields x (the heap may grow), or it stops -/
structure It where
  go : Nat → Hp → Prop
  yld : Nat → Hp → V → Hp → Prop
  stop : Nat → Hp → Prop
/-- the iterator's own objects may turn: they are not the frame's, not pinned, younger than the entry (or a comprehension's own) -/
def FpOk (X : Cx) (pins : List (Addr × Obj)) (H : Hp) (b : Addr) : Prop :=
  H b = none ∧ b ≠ X.env.locals ∧ b ∉ X.fs ∧ (b ∈ X.ex ∨ X.s₀.heap.objs.size ≤ b) ∧ (∀ x c, X.env.cells.lookup x = some c → c ≠ b) ∧ ∀ p ∈ X.pn ++ pins, p.1 ≠ b
theorem Inv.fpOk {X : Cx} {pins : List (Addr × Obj)} {σ : St} {H H' : Hp} {s : Shared} {b : Addr} (I : Inv X pins σ H s) (hb : s.heap.objs.size ≤ b) (hn : H' b = none) : FpOk X pins H' b := by
  refine ⟨hn, Nat.ne_of_gt (Nat.lt_of_lt_of_le I.lt hb), I.nofs hb, .inr (Nat.le_trans I.sz hb), fun x c e z => ?_, fun p hp z => ?_⟩
  · obtain ⟨v, q⟩ := I.cell x c e
    exact absurd (Nat.lt_of_lt_of_le q.lt (by rw [z]; exact hb)) (Nat.lt_irrefl _)
  · exact absurd (Nat.lt_of_lt_of_le (Heap.lt_size (I.pin p hp).1) (by rw [z]; exact hb)) (Nat.lt_irrefl _)
structure Turn (P : Program) (w : World) (K : PySem.W.Frag) (tg : Expr) (J : It) (fp : List Addr) (it : Addr) (tn : Nat → Heap → Prop) : Prop where
  mem : it ∈ fp
  obj : ∀ i h, tn i h → ∀ b ∈ fp, ∃ o, h.get? b = some o ∧ ∀ v, o.data ≠ .cell v
  keep : ∀ i h h', tn i h → (∀ b ∈ fp, ∀ o, h.get? b = some o → h'.get? b = some o) → tn i h'
  item : ∀ (X : Cx), X.prog = P → X.w = w → X.K = K → X.calm = true → ∀ (i : Nat) (pins : List (Addr × Obj)) (s : Shared) (σ : St) (H : Hp) (E : Value → Shared → Prop), Inv X pins σ H s → (∀ b ∈ fp, FpOk X pins H b) → tn i s.heap → J.go i H →
    wpAny (model P w) X.A (pyNext (.ref it)) (fun r s1 => ∃ u, r = some u ∧
      wpAny (model P w) X.A (letOwnedTupleGo tg (.ref it) u) (fun _ s2 => ∃ x H', Inv X pins σ H' s2 ∧ RelV x u ∧ J.yld i H x H' ∧ tn (i + 1) s2.heap ∧ ∀ b ∈ fp, H' b = none) E s1) E s
  done : ∀ (X : Cx), X.prog = P → X.w = w → X.K = K → X.calm = true → ∀ (i : Nat) (pins : List (Addr × Obj)) (s : Shared) (σ : St) (H : Hp) (E : Value → Shared → Prop), Inv X pins σ H s → (∀ b ∈ fp, FpOk X pins H b) → tn i s.heap → J.stop i H →
    wpAny (model P w) X.A (pyNext (.ref it)) (fun r s1 => r = none ∧ Inv X pins σ H s1) E s
  self : ∀ (A : Around) (i : Nat) (s : Shared) (Q : Value → Shared → Prop) (E : Value → Shared → Prop), tn i s.heap → Q (.ref it) s → wpAny (model P w) A (pyIter (.ref it)) Q E s
abbrev TI := St → Hp → (It → Hp → Prop) → Prop
/-- an iterator has come -/
def PIE (X : Cx) (pins : List (Addr × Obj)) (σ : St) (tg : Expr) (R : It → Hp → Prop) (itv : Value) (s2 : Shared) : Prop :=
  ∃ (it : Addr) (fp : List Addr) (tn : Nat → Heap → Prop) (J : It) (H' : Hp), itv = .ref it ∧ Inv X pins σ H' s2 ∧ Turn X.prog X.w X.K tg J fp it tn ∧ tn 0 s2.heap ∧ (∀ b ∈ fp, FpOk X pins H' b) ∧ R J H'
def PI (X : Cx) (tg iter : Expr) (wi : TI) : Prop :=
  ∀ (pins : List (Addr × Obj)) (s : Shared) (σ : St) (H : Hp) (R : It → Hp → Prop), Inv X pins σ H s → wi σ H R →
    wpAny (model X.prog X.w) X.A (eval iter X.env) (fun v s1 => wpAny (model X.prog X.w) X.A (pyIter v) (PIE X pins σ tg R) X.xe s1) X.xe s

/-- the step ahead of the store is nothing for an iterator that keeps no tuple -/
theorem go_of {M : Model} {A : Around} {E : Value → Shared → Prop} {s : Shared} {tg : Expr} {it : Addr} {u : Value} {o : Obj} {n : String} {vs : Array Value} {Q : Unit → Shared → Prop} (ho : s.heap.get? it = some o) (hc : o.cls = .type n) (hd : o.data = .fields vs)
    (hn : ["enumerate", "zip", "dict_itemiterator", "dict_reverseitemiterator", "odict_iterator", "itertools.zip_longest", "itertools.pairwise"].contains n = false) (hQ : Q () s) : wpAny M A (letOwnedTupleGo tg (.ref it) u) Q E s := by
  unfold letOwnedTupleGo
  cases tg <;> first
    | exact wpAny_pure hQ
    | (cases u <;> first
        | exact wpAny_pure hQ
        | (refine wpAny_bind (wpAny_load ho ?_)
           rw [hc, hd]
           show wpAny M A (if (["enumerate", "zip", "dict_itemiterator", "dict_reverseitemiterator", "odict_iterator", "itertools.zip_longest", "itertools.pairwise"].contains n && vs[0]? == some (rawInt _)) = true then _ else _) Q E s
           rw [if_neg (by intro h; rw [hn, Bool.false_and] at h; cases h)]
           exact wpAny_pure hQ))

/-- the list at a, as it stands at each turn (a loop may append to it) -/
def Itl (K : PySem.W.Frag) (a : Addr) : It :=
  ⟨fun i H => ∃ xs x, SqL K H a xs ∧ xs[i]? = some x, fun i H x H' => H' = H ∧ ∀ xs, SqL K H a xs → xs[i]? = some x, fun i H => ∃ xs, SqL K H a xs ∧ xs.length ≤ i⟩
def Itt (K : PySem.W.Frag) (a : Addr) : It :=
  ⟨fun i H => ∃ xs x, SqT K H a xs ∧ xs[i]? = some x, fun i H x H' => H' = H ∧ ∀ xs, SqT K H a xs → xs[i]? = some x, fun i H => ∃ xs, SqT K H a xs ∧ xs.length ≤ i⟩
/-- lo, lo + 1, .. (n of them) -/
def Itr (lo : Int) (n : Nat) : It := ⟨fun i _ => i < n, fun i H x H' => H' = H ∧ x = .int (lo + i), fun i _ => n ≤ i⟩
theorem turn_list {P : Program} {w : World} {K : PySem.W.Frag} {tg : Expr} (a it : Addr) : Turn P w K tg (Itl K a) [it] it (fun i h => h.IsListIter it a i) where
  mem := by simp
  obj := fun i h st b hb => by
    have e : b = it := by simpa using hb
    subst e
    obtain ⟨o, e, c, d⟩ := st
    exact ⟨o, e, fun v z => by rw [d] at z; cases z⟩
  keep := fun i h h' st k => st.at fun o e => k it (by simp) o e
  item := by
    intro X hP hw hK hc i pins s σ H E I hf st hg
    subst hP hw hK
    obtain ⟨xs, x, hq, hx⟩ := hg
    obtain ⟨its, rv, p, hz⟩ := I.list hq
    obtain ⟨u, hu, ru⟩ := rv.get hx
    obtain ⟨f0, f1, f2, f3, f4, f5⟩ := hf it (by simp)
    refine wpAny_pyNext_list_item st p.isList (x := u) (by simpa using hu) fun h' st' sb => ?_
    have I1 : Inv X pins σ H { s with heap := h' } := I.turned (t' := s.toks) (fun b o hb e => (sb.2 b hb).trans e) f0 f1 f3 f4 f5
    obtain ⟨o, e, c, d⟩ := id st'
    exact ⟨u, rfl, go_of (s := { s with heap := h' }) e c d (by decide) ⟨x, H, I1, ru, ⟨rfl, fun ys hy => by rw [I.list_inj hy hq]; exact hx⟩, st', fun b hb => (hf b hb).1⟩⟩
  done := by
    intro X hP hw hK hc i pins s σ H E I hf st hg
    subst hP hw hK
    obtain ⟨xs, hq, hx⟩ := hg
    obtain ⟨its, rv, p, hz⟩ := I.list hq
    obtain ⟨f0, f1, f2, f3, f4, f5⟩ := hf it (by simp)
    have hl := rv.length
    exact wpAny_pyNext_list_end (I.ok.hd hc) st p.isList (by simp; omega) fun h' eb => ⟨rfl, I.turned (t' := s.toks) (fun b o hb e => eb b o hb e) f0 f1 f3 f4 f5⟩
  self := fun _ _ _ _ _ st h => wpAny_pyIter_listiter st h
theorem turn_tuple {P : Program} {w : World} {K : PySem.W.Frag} {tg : Expr} (a it : Addr) : Turn P w K tg (Itt K a) [it] it (fun i h => h.IsTupleIter it a i) where
  mem := by simp
  obj := fun i h st b hb => by
    have e : b = it := by simpa using hb
    subst e
    obtain ⟨o, e, c, d⟩ := st
    exact ⟨o, e, fun v z => by rw [d] at z; cases z⟩
  keep := fun i h h' st k => st.at fun o e => k it (by simp) o e
  item := by
    intro X hP hw hK hc i pins s σ H E I hf st hg
    subst hP hw hK
    obtain ⟨xs, x, hq, hx⟩ := hg
    obtain ⟨its, rv, p, hz⟩ := I.tuple hq
    obtain ⟨u, hu, ru⟩ := rv.get hx
    obtain ⟨f0, f1, f2, f3, f4, f5⟩ := hf it (by simp)
    refine wpAny_pyNext_tuple_item st (show s.heap.IsTuple a its.toArray from p) (x := u) (by simpa using hu) fun h' st' sb => ?_
    have I1 : Inv X pins σ H { s with heap := h' } := I.turned (t' := s.toks) (fun b o hb e => (sb.2 b hb).trans e) f0 f1 f3 f4 f5
    obtain ⟨o, e, c, d⟩ := id st'
    exact ⟨u, rfl, go_of (s := { s with heap := h' }) e c d (by decide) ⟨x, H, I1, ru, ⟨rfl, fun ys hy => by rw [I.tuple_inj hy hq]; exact hx⟩, st', fun b hb => (hf b hb).1⟩⟩
  done := by
    intro X hP hw hK hc i pins s σ H E I hf st hg
    subst hP hw hK
    obtain ⟨xs, hq, hx⟩ := hg
    obtain ⟨its, rv, p, hz⟩ := I.tuple hq
    obtain ⟨f0, f1, f2, f3, f4, f5⟩ := hf it (by simp)
    have hl := rv.length
    exact wpAny_pyNext_tuple_end (I.ok.hd hc) st (show s.heap.IsTuple a its.toArray from p) (by simp; omega) fun h' eb => ⟨rfl, I.turned (t' := s.toks) (fun b o hb e => eb b o hb e) f0 f1 f3 f4 f5⟩
  self := fun _ _ _ _ _ st h => wpAny_pyIter_tupleiter st h
theorem turn_range {P : Program} {w : World} {K : PySem.W.Frag} {tg : Expr} (it : Addr) (lo : Int) (n : Nat) : Turn P w K tg (Itr lo n) [it] it (fun i h => IsRangeIter h it (lo + (i : Nat) * 1) ((n : Int) - (i : Nat)) 1) where
  mem := by simp
  obj := fun i h st b hb => by
    have e : b = it := by simpa using hb
    subst e
    exact ⟨_, st, fun v z => by
      have z' : Data.fields _ = Data.cell v := z
      cases z'⟩
  keep := fun i h h' st k => k it (by simp) _ st
  item := by
    intro X hP hw hK hc i pins s σ H E I hf st hg
    subst hP hw hK
    obtain ⟨f0, f1, f2, f3, f4, f5⟩ := hf it (by simp)
    have W := Walks.range (prog := X.prog) (w := X.w) (I.ok.hd hc) it lo 1 n
    refine W.item i s _ _ hg st fun v h' tk hv st' kk => ?_
    obtain ⟨t, rfl⟩ := hv
    have I1 : Inv X pins σ H { s with heap := h', toks := tk } := I.turned (fun b o hb e => kk b o (by simpa using hb) e) f0 f1 f3 f4 f5
    refine ⟨_, rfl, go_of (s := { s with heap := h', toks := tk }) (n := "range_iterator") st' rfl rfl (by decide) ⟨.int (lo + i), H, I1, ⟨t, ?_⟩, ⟨rfl, rfl⟩, st', fun b hb => (hf b hb).1⟩⟩
    rw [Int.mul_one]
  done := by
    intro X hP hw hK hc i pins s σ H E I hf st hg
    subst hP hw hK
    obtain ⟨f0, f1, f2, f3, f4, f5⟩ := hf it (by simp)
    exact wpAny_pyNext_range_end (I.ok.hd hc) st (by have : n ≤ i := hg; omega) fun h' eb => ⟨rfl, I.turned (t' := s.toks) (fun b o hb e => eb b o hb e) f0 f1 f3 f4 f5⟩
  self := fun _ _ _ _ _ st h => wpAny_pyIter_rangeiter st h
end L2

namespace L2
open PySem PySem.Spec PyProof.Rows
section
variable {X : Cx} {tg : Expr}
def iList (K : PySem.W.Frag) (tl : TE) : TI := fun σ H R => tl σ H fun x H1 => ∃ a, x = .ref a ∧ (∃ xs, SqL K H1 a xs) ∧ R (Itl K a) H1
def iTup (K : PySem.W.Frag) (tl : TE) : TI := fun σ H R => tl σ H fun x H1 => ∃ a, x = .ref a ∧ (∃ xs, SqT K H1 a xs) ∧ R (Itt K a) H1
theorem pi_list {l : Expr} {tl : TE} (hl : PE X l tl) : PI X tg l (iList X.K tl) := by
  intro pins s σ H R I h
  refine thn (hl pins s σ H _ I h) fun v s1 ⟨x, H1, I1, r1, q1⟩ => ?_
  obtain ⟨a, e, ⟨xs, hq⟩, q⟩ := q1
  subst e
  cases r1
  obtain ⟨its, rv, p, hz⟩ := I1.list hq
  refine wpAny_pyIter_list p.isList ?_
  refine ⟨s1.heap.objs.size, [s1.heap.objs.size], _, _, H1, rfl, I1.kept (t' := s1.toks) fun b o e => Heap.get?_push_of_some _ e, turn_list a _, ⟨_, Heap.get?_push_size _ rfl, rfl, rfl⟩, fun b hb => ?_, q⟩
  have e : b = s1.heap.objs.size := by simpa using hb
  subst e
  exact I1.fpOk (Nat.le_refl _) (I1.hok.fresh (Nat.le_refl _))
theorem pi_tup {l : Expr} {tl : TE} (hl : PE X l tl) : PI X tg l (iTup X.K tl) := by
  intro pins s σ H R I h
  refine thn (hl pins s σ H _ I h) fun v s1 ⟨x, H1, I1, r1, q1⟩ => ?_
  obtain ⟨a, e, ⟨xs, hq⟩, q⟩ := q1
  subst e
  cases r1
  obtain ⟨its, rv, p, hz⟩ := I1.tuple hq
  refine wpAny_pyIter_tuple (show s1.heap.IsTuple a its.toArray from p) ?_
  refine ⟨s1.heap.objs.size, [s1.heap.objs.size], _, _, H1, rfl, I1.kept (t' := s1.toks) fun b o e => Heap.get?_push_of_some _ e, turn_tuple a _, ⟨_, Heap.get?_push_size _ rfl, rfl, rfl⟩, fun b hb => ?_, q⟩
  have e : b = s1.heap.objs.size := by simpa using hb
  subst e
  exact I1.fpOk (Nat.le_refl _) (I1.hok.fresh (Nat.le_refl _))
/-- a range object just made, walked -/
theorem range_it {pins : List (Addr × Obj)} {σ : St} {H : Hp} {s : Shared} {R : It → Hp → Prop} {E : Value → Shared → Prop} {lo hi : Int} {t u v : Tok} {tk : Nat} (I : Inv X pins σ H s) (h1 : -(2 ^ 62) ≤ lo) (h2 : lo < 2 ^ 62) (h3 : -(2 ^ 62) ≤ hi) (h4 : hi < 2 ^ 62)
    (q : R (Itr lo (hi - lo).toNat) H) : wpAny (model X.prog X.w) X.A (pyIter (.ref s.heap.objs.size)) (PIE X pins σ tg R) E { s with heap := s.heap.push { cls := .type "range", data := .fields #[.int lo t, .int hi u, .int 1 v] }, toks := tk } := by
  refine wpAny_pyIter_range (IsRange.new ..) (small_one h1 h2 h3 h4) ?_
  have I1 : Inv X pins σ H { s with heap := s.heap.push { cls := .type "range", data := .fields #[.int lo t, .int hi u, .int 1 v] }, toks := tk } := I.kept fun b o e => Heap.get?_push_of_some _ e
  refine ⟨(s.heap.push { cls := .type "range", data := .fields #[.int lo t, .int hi u, .int 1 v] }).objs.size, [(s.heap.push { cls := .type "range", data := .fields #[.int lo t, .int hi u, .int 1 v] }).objs.size], _, _, H, rfl,
    I1.kept (t' := tk) fun b o e => Heap.get?_push_of_some _ e, turn_range _ lo (hi - lo).toNat, ?_, fun b hb => ?_, q⟩
  · have e1 : lo + ((0 : Nat) : Int) * 1 = lo := by simp
    have e2 : (((hi - lo).toNat : Nat) : Int) - ((0 : Nat) : Int) = Builtin.Range.rangeSize lo hi 1 := by rw [rangeSize_one]; split <;> omega
    show IsRangeIter _ _ (lo + ((0 : Nat) : Int) * 1) ((((hi - lo).toNat : Nat) : Int) - ((0 : Nat) : Int)) 1
    rw [e1, e2]
    exact Heap.get?_push_size _ rfl
  · have e : b = (s.heap.push { cls := .type "range", data := .fields #[.int lo t, .int hi u, .int 1 v] }).objs.size := by simpa using hb
    subst e
    exact I1.fpOk (Nat.le_refl _) (I1.hok.fresh (Nat.le_refl _))
def iRng1 (ta : TA) : TI := fun σ H R => ta σ H fun vs H1 => ∃ j : Int, vs = [.int j] ∧ -(2 ^ 62) ≤ j ∧ j < 2 ^ 62 ∧ R (Itr 0 j.toNat) H1
def iRng2 (ta : TA) : TI := fun σ H R => ta σ H fun vs H1 => ∃ i j : Int, vs = [.int i, .int j] ∧ (-(2 ^ 62) ≤ i ∧ i < 2 ^ 62 ∧ -(2 ^ 62) ≤ j ∧ j < 2 ^ 62) ∧ R (Itr i (j - i).toNat) H1
theorem pi_range1 {a : Expr} {ta : TA} {p pos : Pos} (hg : Gl X "range") (hm : X.mg "range" = none) (ha : PA X [a] ta) (hs : starEach [a] X.env = [(false, eval a X.env)] := by rfl) : PI X tg (.Call (.Name "range" p) [a] [] pos) (iRng1 ta) := by
  intro pins s σ H R I h
  refine Call_ (ld_blt I hg hm boot_range (PyProof.Rows.callWith_type1 (thn (ha pos pins s σ H _ I h) fun us s1 ⟨vs, H1, I1, r1, q1⟩ => ?_) hs rfl))
  obtain ⟨j, e, q1, q2, q⟩ := q1
  subst e
  cases r1 with
  | cons r rr =>
    cases rr
    obtain ⟨t, rfl⟩ := r
    exact call_range_1 (range_it I1 (by omega) (by omega) q1 q2 (by simpa using q))
theorem pi_range2 {a b : Expr} {ta : TA} {p pos : Pos} (hg : Gl X "range") (hm : X.mg "range" = none) (ha : PA X [a, b] ta) (hs : starEach [a, b] X.env = [(false, eval a X.env), (false, eval b X.env)] := by rfl) (hs2 : starEach [b] X.env = [(false, eval b X.env)] := by rfl) :
    PI X tg (.Call (.Name "range" p) [a, b] [] pos) (iRng2 ta) := by
  intro pins s σ H R I h
  refine Call_ (ld_blt I hg hm boot_range (PyProof.Rows.callWith_type1 (thn (ha pos pins s σ H _ I h) fun us s1 ⟨vs, H1, I1, r1, q1⟩ => ?_) (by rw [hs, hs2]) (by rw [hs2]; rfl)))
  obtain ⟨i, j, e, ⟨q1, q2, q3, q4⟩, q⟩ := q1
  subst e
  cases r1 with
  | cons r rr =>
    cases rr with
    | cons r' rr =>
      cases rr
      obtain ⟨t, rfl⟩ := r
      obtain ⟨t', rfl⟩ := r'
      exact call_range_2 (range_it I1 q1 q2 q3 q4 q)

/-! ### for -/
/-- W: the invariant by the turn and a measure; N: what the body is to reach -/
def tFor (wi : TI) (g : TG) (tb : TS) : TS := fun D σ H => wi σ H fun J H1 => ∃ W : Nat → Nat → St → Hp → Prop, (∃ m, W 0 m σ H1) ∧ ∀ i m σ H, W i m σ H →
  (J.stop i H ∧ D.nx σ H) ∨ (J.go i H ∧ ∃ N : St → Hp → Prop, (∀ σ' H', N σ' H' → ∃ m', m' < m ∧ W (i + 1) m' σ' H') ∧ ∀ x H', J.yld i H x H' → g x σ H' fun σ2 H2 => tb { D with nx := N, ct := N, bk := D.nx } σ2 H2)
/-- the records at fp as they stand -/
def pinsAt (fp : List Addr) (h : Heap) : List (Addr × Obj) := fp.filterMap fun b => (h.get? b).map fun o => (b, o)
theorem mem_pinsAt {fp : List Addr} {h : Heap} {b : Addr} {o : Obj} (hb : b ∈ fp) (e : h.get? b = some o) : (b, o) ∈ pinsAt fp h := List.mem_filterMap.mpr ⟨b, hb, by rw [e]; rfl⟩
theorem of_pinsAt {fp : List Addr} {h : Heap} {p : Addr × Obj} (hp : p ∈ pinsAt fp h) : p.1 ∈ fp ∧ h.get? p.1 = some p.2 := by
  obtain ⟨b, hb, e⟩ := List.mem_filterMap.mp hp
  cases q : h.get? b with
  | none => rw [q] at e; cases e
  | some o =>
    rw [q] at e
    have e' : (b, o) = p := Option.some.inj e
    subst e'
    exact ⟨hb, q⟩
theorem Inv.pinned {pins : List (Addr × Obj)} {σ : St} {H : Hp} {s : Shared} {fp : List Addr} (I : Inv X pins σ H s) (hf : ∀ b ∈ fp, FpOk X pins H b) (ho : ∀ b ∈ fp, ∃ o, s.heap.get? b = some o ∧ ∀ v, o.data ≠ .cell v) : Inv X (pins ++ pinsAt fp s.heap) σ H s :=
  I.pins_of fun p hp => (List.mem_append.mp hp).elim (fun z => I.pin p (List.mem_append_right _ z)) fun z => by
    obtain ⟨hb, e⟩ := of_pinsAt z
    obtain ⟨f0, f1, f2, _⟩ := hf p.1 hb
    obtain ⟨o, e', d⟩ := ho p.1 hb
    rw [e] at e'; cases e'
    exact ⟨e, f0, f1, f2, d⟩
theorem Inv.unpinned {pins pl : List (Addr × Obj)} {σ : St} {H : Hp} {s : Shared} (I : Inv X (pins ++ pl) σ H s) : Inv X pins σ H s := I.pins_of fun p hp => I.pin p (List.mem_append_right _ (List.mem_append_left _ hp))
theorem ps_for {iter : Expr} {body : List Stmt} {wi : TI} {g : TG} {tb : TS} {pos : Pos} (hp : PassesOwn (model X.prog X.w) X.A X.env X.xe) (hc : X.calm = true) (hi : PI X tg iter wi) (hg : PG X tg g) (hb : PSs X body tb)
    (hs : ∀ x, foldedSetIterable iter X.env x = pure x := by intro _; rfl) : PS X (.For tg iter body [] pos) (tFor wi g tb) := by
  intro pins s σ H D I h
  refine wpAny_For (thn (hi pins s σ H _ I h) fun v s1 h1 => thn h1 fun itv s2 h2 => ?_) hs
  obtain ⟨it, fp, tn, J, H2, e, I2, T, st2, f2, W, ⟨m0, w0⟩, turn⟩ := h2
  subst e
  -- what stays true of the iterator's objects through the loop
  have stat : ∀ {H' : Hp}, (∀ b ∈ fp, H' b = none) → ∀ b ∈ fp, FpOk X pins H' b := fun hn b hb => ⟨hn b hb, (f2 b hb).2⟩
  refine codeAny_forLoop_any (fun n s' => ∃ i σ' H', Inv X pins σ' H' s' ∧ tn i s'.heap ∧ (∀ b ∈ fp, H' b = none) ∧ W i n σ' H') ?_ m0 ⟨0, σ, H2, I2, st2, fun b hb => (f2 b hb).1, w0⟩
  rintro n s3 ⟨i, σ3, H3, I3, st3, fr3, w3⟩
  rcases turn i n σ3 H3 w3 with ⟨stop, qn⟩ | ⟨go, N, hN, step⟩
  · refine wpAny_passesOwn hp (thn (T.done X rfl rfl rfl hc i pins s3 σ3 H3 X.xe I3 (stat fr3) st3 stop) fun r s4 ⟨hr, I4⟩ => ?_)
    subst hr
    exact wpAny_execs_nil ⟨σ3, H3, I4, qn⟩
  · refine wpAny_passesOwn hp (thn (T.item X rfl rfl rfl hc i pins s3 σ3 H3 X.xe I3 (stat fr3) st3 go) fun r s4 ⟨u, hr, h4⟩ => ?_)
    subst hr
    refine wpAny_passesOwn hp (thn h4 fun _ s5 ⟨x, H5, I5, r5, y5, st5, fr5⟩ => ?_)
    have I5' := I5.pinned (stat fr5) (T.obj _ _ st5)
    refine wpAny_passesOwn hp (thn (hg _ s5 σ3 H5 x u _ I5' r5 (step x H5 y5)) fun _ s6 ⟨σ6, H6, I6, q6⟩ => ?_)
    refine wpAny_passesOwn hp (thn (hb _ s6 σ6 H6 _ I6 q6) fun f s7 q7 => ?_)
    have again : ∀ {σ7 : St} {H7 : Hp}, Inv X (pins ++ pinsAt fp s5.heap) σ7 H7 s7 → N σ7 H7 → ∃ m, m < n ∧ ∃ i σ' H', Inv X pins σ' H' s7 ∧ tn i s7.heap ∧ (∀ b ∈ fp, H' b = none) ∧ W i m σ' H' := fun {σ7 H7} I7 n7 => by
      obtain ⟨m', hm, w7⟩ := hN σ7 H7 n7
      refine ⟨m', hm, i + 1, σ7, H7, I7.unpinned, T.keep _ _ _ st5 fun b hb o e => (I7.pin (b, o) (List.mem_append_right _ (List.mem_append_right _ (mem_pinsAt hb e)))).1, fun b hb => ?_, w7⟩
      obtain ⟨o, e, d⟩ := T.obj _ _ st5 b hb
      exact (I7.pin (b, o) (List.mem_append_right _ (List.mem_append_right _ (mem_pinsAt hb e)))).2.1
    cases f with
    | next => obtain ⟨σ7, H7, I7, n7⟩ := q7; exact again I7 n7
    | cont => obtain ⟨σ7, H7, I7, n7⟩ := q7; exact again I7 n7
    | brk => obtain ⟨σ7, H7, I7, q7⟩ := q7; exact ⟨σ7, H7, I7.unpinned, q7⟩
    | ret v => obtain ⟨x7, σ7, H7, I7, r7, q7⟩ := q7; exact ⟨x7, σ7, H7, I7.unpinned, r7, q7⟩
end

/-! ### the forms one uses -/
/-- over a list that the body leaves as it is -/
theorem for_list {K : PySem.W.Frag} {a : Addr} {xs : List V} {g : TG} {tb : TS} {D : Ends} {σ : St} {H : Hp} (Pv : Nat → St → Hp → Prop) (h0 : Pv 0 σ H) (hl : ∀ i σ H, i ≤ xs.length → Pv i σ H → SqL K H a xs)
    (hs : ∀ i x σ H, xs[i]? = some x → Pv i σ H → g x σ H fun σ2 H2 => tb { D with nx := Pv (i + 1), ct := Pv (i + 1), bk := D.nx } σ2 H2) (hd : ∀ σ H, Pv xs.length σ H → D.nx σ H) :
    ∃ W : Nat → Nat → St → Hp → Prop, (∃ m, W 0 m σ H) ∧ ∀ i m σ H, W i m σ H →
      ((Itl K a).stop i H ∧ D.nx σ H) ∨ ((Itl K a).go i H ∧ ∃ N : St → Hp → Prop, (∀ σ' H', N σ' H' → ∃ m', m' < m ∧ W (i + 1) m' σ' H') ∧ ∀ x H', (Itl K a).yld i H x H' → g x σ H' fun σ2 H2 => tb { D with nx := N, ct := N, bk := D.nx } σ2 H2) := by
  refine ⟨fun i m σ H => m = xs.length - i ∧ i ≤ xs.length ∧ Pv i σ H, ⟨xs.length, by simp, Nat.zero_le _, h0⟩, ?_⟩
  rintro i m σ H ⟨rfl, hi, p⟩
  have q := hl i σ H hi p
  by_cases hlt : i < xs.length
  · refine .inr ⟨⟨xs, xs[i], q, by simp [hlt]⟩, Pv (i + 1), fun σ' H' p' => ⟨xs.length - (i + 1), by omega, rfl, hlt, p'⟩, fun x H' y => ?_⟩
    obtain ⟨e, y⟩ := y
    subst e
    exact hs i x σ _ (y xs q) p
  · have e : i = xs.length := by omega
    subst e
    exact .inl ⟨⟨xs, q, Nat.le_refl _⟩, hd σ H p⟩
theorem for_tup {K : PySem.W.Frag} {a : Addr} {xs : List V} {g : TG} {tb : TS} {D : Ends} {σ : St} {H : Hp} (Pv : Nat → St → Hp → Prop) (h0 : Pv 0 σ H) (hl : ∀ i σ H, i ≤ xs.length → Pv i σ H → SqT K H a xs)
    (hs : ∀ i x σ H, xs[i]? = some x → Pv i σ H → g x σ H fun σ2 H2 => tb { D with nx := Pv (i + 1), ct := Pv (i + 1), bk := D.nx } σ2 H2) (hd : ∀ σ H, Pv xs.length σ H → D.nx σ H) :
    ∃ W : Nat → Nat → St → Hp → Prop, (∃ m, W 0 m σ H) ∧ ∀ i m σ H, W i m σ H →
      ((Itt K a).stop i H ∧ D.nx σ H) ∨ ((Itt K a).go i H ∧ ∃ N : St → Hp → Prop, (∀ σ' H', N σ' H' → ∃ m', m' < m ∧ W (i + 1) m' σ' H') ∧ ∀ x H', (Itt K a).yld i H x H' → g x σ H' fun σ2 H2 => tb { D with nx := N, ct := N, bk := D.nx } σ2 H2) := by
  refine ⟨fun i m σ H => m = xs.length - i ∧ i ≤ xs.length ∧ Pv i σ H, ⟨xs.length, by simp, Nat.zero_le _, h0⟩, ?_⟩
  rintro i m σ H ⟨rfl, hi, p⟩
  have q := hl i σ H hi p
  by_cases hlt : i < xs.length
  · refine .inr ⟨⟨xs, xs[i], q, by simp [hlt]⟩, Pv (i + 1), fun σ' H' p' => ⟨xs.length - (i + 1), by omega, rfl, hlt, p'⟩, fun x H' y => ?_⟩
    obtain ⟨e, y⟩ := y
    subst e
    exact hs i x σ _ (y xs q) p
  · have e : i = xs.length := by omega
    subst e
    exact .inl ⟨⟨xs, q, Nat.le_refl _⟩, hd σ H p⟩
theorem for_range {lo : Int} {n : Nat} {g : TG} {tb : TS} {D : Ends} {σ : St} {H : Hp} (Pv : Nat → St → Hp → Prop) (h0 : Pv 0 σ H)
    (hs : ∀ i σ H, i < n → Pv i σ H → g (.int (lo + i)) σ H fun σ2 H2 => tb { D with nx := Pv (i + 1), ct := Pv (i + 1), bk := D.nx } σ2 H2) (hd : ∀ σ H, Pv n σ H → D.nx σ H) :
    ∃ W : Nat → Nat → St → Hp → Prop, (∃ m, W 0 m σ H) ∧ ∀ i m σ H, W i m σ H →
      ((Itr lo n).stop i H ∧ D.nx σ H) ∨ ((Itr lo n).go i H ∧ ∃ N : St → Hp → Prop, (∀ σ' H', N σ' H' → ∃ m', m' < m ∧ W (i + 1) m' σ' H') ∧ ∀ x H', (Itr lo n).yld i H x H' → g x σ H' fun σ2 H2 => tb { D with nx := N, ct := N, bk := D.nx } σ2 H2) := by
  refine ⟨fun i m σ H => m = n - i ∧ i ≤ n ∧ Pv i σ H, ⟨n, by simp, Nat.zero_le _, h0⟩, ?_⟩
  rintro i m σ H ⟨rfl, hi, p⟩
  by_cases hlt : i < n
  · refine .inr ⟨hlt, Pv (i + 1), fun σ' H' p' => ⟨n - (i + 1), by omega, rfl, hlt, p'⟩, fun x H' y => ?_⟩
    obtain ⟨e, y⟩ := y
    subst e y
    exact hs i σ _ hlt p
  · have e : i = n := by omega
    subst e
    exact .inl ⟨Nat.le_refl _, hd σ H p⟩
/-- while, by a word and a measure of the state -/
theorem while_by {c : TT} {tb : TS} {D : Ends} {σ : St} {H : Hp} (Pv : St → Hp → Prop) (μ : St → Hp → Nat) (h0 : Pv σ H)
    (hs : ∀ σ H, Pv σ H → c σ H fun b H1 => if b = true then tb { D with nx := fun σ' H' => Pv σ' H' ∧ μ σ' H' < μ σ H, ct := fun σ' H' => Pv σ' H' ∧ μ σ' H' < μ σ H, bk := D.nx } σ H1 else D.nx σ H1)
    (mono : ∀ σ H Q Q', (∀ b H1, Q b H1 → Q' b H1) → c σ H Q → c σ H Q') : tWhile c tb D σ H := by
  refine ⟨fun m σ H => m = μ σ H ∧ Pv σ H, ⟨_, rfl, h0⟩, ?_⟩
  rintro m σ H ⟨rfl, p⟩
  refine mono σ H _ _ (fun b H1 q => ?_) (hs σ H p)
  cases b with
  | true => exact ⟨_, fun σ' H' ⟨p', l⟩ => ⟨_, l, rfl, p'⟩, q⟩
  | false => exact q
end L2

namespace L2
open PySem PySem.Spec PyProof.Rows

abbrev R2 := V → V → Hp → VK → Prop
/-- a two-place operation on values: f is binaryOp op, inplaceOp op or compareOp op -/
def OpR (X : Cx) (f : Value → Value → Sem Value) (r : R2) : Prop :=
  ∀ (pins : List (Addr × Obj)) (s : Shared) (σ : St) (H : Hp) (x y : V) (v u : Value) (Q : VK), Inv X pins σ H s → RelV x v → RelV y u → r x y H Q →
    wpAny (model X.prog X.w) X.A (f v u) (EP X pins σ Q) X.xe s
/-- a one-place operation -/
def UnR (X : Cx) (f : Value → Sem Value) (r : V → Hp → VK → Prop) : Prop :=
  ∀ (pins : List (Addr × Obj)) (s : Shared) (σ : St) (H : Hp) (x : V) (v : Value) (Q : VK), Inv X pins σ H s → RelV x v → r x H Q →
    wpAny (model X.prog X.w) X.A (f v) (EP X pins σ Q) X.xe s
/-- a call of a value that is known (a builtin, a type) with values -/
def CallR (X : Cx) (f : Value) (r : List V → Hp → VK → Prop) : Prop :=
  ∀ (pins : List (Addr × Obj)) (s : Shared) (σ : St) (H : Hp) (xs : List V) (us : List Value) (Q : VK), Inv X pins σ H s → Vals xs us → r xs H Q →
    wpAny (model X.prog X.w) X.A (call f us) (EP X pins σ Q) X.xe s
/-- a value's truth -/
def TruR (X : Cx) (r : V → Hp → (Bool → Hp → Prop) → Prop) : Prop :=
  ∀ (pins : List (Addr × Obj)) (s : Shared) (σ : St) (H : Hp) (x : V) (v : Value) (Q : Bool → Hp → Prop), Inv X pins σ H s → RelV x v → r x H Q →
    wpAny (model X.prog X.w) X.A (truthy v) (TP X pins σ Q) X.xe s

def tOp (r : R2) (ta tb : TE) : TE := fun σ H Q => ta σ H fun x H1 => tb σ H1 fun y H2 => r x y H2 Q
def tUn (r : V → Hp → VK → Prop) (ta : TE) : TE := fun σ H Q => ta σ H fun x H1 => r x H1 Q
/-- ints in, under C, and a value out -/
def rI (C : Int → Int → Prop) (g : Int → Int → V) : R2 := fun x y H Q => ∃ i j, x = .int i ∧ y = .int j ∧ C i j ∧ Q (g i j) H
def rI0 (g : Int → Int → V) : R2 := fun x y H Q => ∃ i j, x = .int i ∧ y = .int j ∧ Q (g i j) H
def rU (g : Int → V) : V → Hp → VK → Prop := fun x H Q => ∃ i, x = .int i ∧ Q (g i) H

section
variable {X : Cx} {a b c : Expr} {ta tb tc : TE} {pos : Pos}

theorem binT (ha : PE X a ta) (hb : PE X b tb) {pins : List (Addr × Obj)} {s : Shared} {σ : St} {H : Hp} {R : V → V → Hp → Prop} (I : Inv X pins σ H s)
    (h : ta σ H fun x H1 => tb σ H1 fun y H2 => R x y H2) {Q : Value → Shared → Prop} {f : Value → Value → Sem Value}
    (hf : ∀ v u s2 x y H2, Inv X pins σ H2 s2 → RelV x v → RelV y u → R x y H2 → wpAny (model X.prog X.w) X.A (f v u) Q X.xe s2) :
    wpAny (model X.prog X.w) X.A (eval a X.env) (fun v s₁ => wpAny (model X.prog X.w) X.A (eval b X.env) (fun u s₂ => wpAny (model X.prog X.w) X.A (f v u) Q X.xe s₂) X.xe s₁) X.xe s := by
  refine thn (ha pins s σ H _ I h) fun v s1 ⟨x, H1, I1, r1, q1⟩ => ?_
  refine thn (hb pins s1 σ H1 _ I1 q1) fun u s2 ⟨y, H2, I2, r2, q2⟩ => ?_
  exact hf v u s2 x y H2 I2 r1 r2 q2

theorem pe_op {op : Operator} {r : R2} (ho : OpR X (binaryOp op) r) (ha : PE X a ta) (hb : PE X b tb) : PE X (.BinOp a op b pos) (tOp r ta tb) := by
  intro pins s σ H Q I h
  exact wpAny_BinOp (binT ha hb I h fun v u s2 x y H2 I2 rx ry q => ho pins s2 σ H2 x y v u Q I2 rx ry q)
theorem pe_un {op : UnaryOp} {r : V → Hp → VK → Prop} (ho : UnR X (unaryOp op) r) (ha : PE X a ta) : PE X (.UnaryOp op a pos) (tUn r ta) := by
  intro pins s σ H Q I h
  exact UnaryOp_ (thn (ha pins s σ H _ I h) fun v s1 ⟨x, H1, I1, r1, q1⟩ => ho pins s1 σ H1 x v Q I1 r1 q1)
/-- a op= e at a name: the name's slot i -/
theorem augR {op : Operator} {r : R2} (ho : OpR X (inplaceOp op) r) {pins : List (Addr × Obj)} {s : Shared} {σ : St} {H : Hp} {x y : V} {v u : Value} {Q : VK} (I : Inv X pins σ H s)
    (rx : RelV x v) (ry : RelV y u) (q : r x y H Q) : wpAny (model X.prog X.w) X.A (inplaceOp op v u) (EP X pins σ Q) X.xe s := ho pins s σ H x y v u Q I rx ry q

/-! ### ints -/
theorem opI {f : Value → Value → Sem Value} {C : Int → Int → Prop} {g : Int → Int → Int}
    (rule : ∀ (i j : Int) (t u : Tok) (s : Shared) (Q : Value → Shared → Prop) (E : Value → Shared → Prop), C i j → Q (.int (g i j) s.toks) { s with toks := s.toks + 1 } → wpAny (model X.prog X.w) X.A (f (.int i t) (.int j u)) Q E s) :
    OpR X f (rI C fun i j => .int (g i j)) := by
  intro pins s σ H x y v u Q I rx ry h
  obtain ⟨i, j, rfl, rfl, hc, q⟩ := h
  obtain ⟨t, rfl⟩ := rx
  obtain ⟨t', rfl⟩ := ry
  exact rule i j t t' s _ _ hc ⟨.int (g i j), H, I.tok _, ⟨_, rfl⟩, q⟩
theorem opI0 {f : Value → Value → Sem Value} {g : Int → Int → Int}
    (rule : ∀ (i j : Int) (t u : Tok) (s : Shared) (Q : Value → Shared → Prop) (E : Value → Shared → Prop), Q (.int (g i j) s.toks) { s with toks := s.toks + 1 } → wpAny (model X.prog X.w) X.A (f (.int i t) (.int j u)) Q E s) :
    OpR X f (rI0 fun i j => .int (g i j)) := by
  intro pins s σ H x y v u Q I rx ry h
  obtain ⟨i, j, rfl, rfl, q⟩ := h
  obtain ⟨t, rfl⟩ := rx
  obtain ⟨t', rfl⟩ := ry
  exact rule i j t t' s _ _ ⟨.int (g i j), H, I.tok _, ⟨_, rfl⟩, q⟩
theorem opB0 {f : Value → Value → Sem Value} {g : Int → Int → Bool}
    (rule : ∀ (i j : Int) (t u : Tok) (s : Shared) (Q : Value → Shared → Prop) (E : Value → Shared → Prop), Q (.bool (g i j)) s → wpAny (model X.prog X.w) X.A (f (.int i t) (.int j u)) Q E s) :
    OpR X f (rI0 fun i j => .bl (g i j)) := by
  intro pins s σ H x y v u Q I rx ry h
  obtain ⟨i, j, rfl, rfl, q⟩ := h
  obtain ⟨t, rfl⟩ := rx
  obtain ⟨t', rfl⟩ := ry
  exact rule i j t t' s _ _ ⟨.bl (g i j), H, I, rfl, q⟩

def CDiv (i j : Int) : Prop := 0 < j ∧ j < 1073741824
def CDivN (i j : Int) : Prop := j ≠ 0 ∧ j.natAbs < 1073741824
def CPow (i j : Int) : Prop := 0 ≤ j ∧ j ≤ 1000000 ∧ i.natAbs < 2 ^ 64
def CMul (i j : Int) : Prop := (-(2 ^ 64) < i ∧ i < 2 ^ 64) ∨ (-(2 ^ 64) < j ∧ j < 2 ^ 64)
theorem CMul.ok {i j : Int} (h : CMul i j) : IntMulOk i j := by
  rcases h with ⟨h1, h2⟩ | ⟨h1, h2⟩
  · exact .of_left (intBits_le_64 h1 h2)
  · exact .of_right (intBits_le_64 h1 h2)
theorem two_pow_nn (k : Nat) : (0 : Int) ≤ 2 ^ k := by
  rw [two_pow_cast]
  exact Int.natCast_nonneg _

theorem op_add : OpR X (binaryOp .Add) (rI0 fun i j => .int (i + j)) := opI0 fun _ _ _ _ _ _ _ q => add_int q
theorem op_sub : OpR X (binaryOp .Sub) (rI0 fun i j => .int (i - j)) := opI0 fun _ _ _ _ _ _ _ q => sub_int q
theorem op_mul : OpR X (binaryOp .Mult) (rI CMul fun i j => .int (i * j)) := opI fun _ _ _ _ _ _ _ hc q => mul_int q hc.ok
/-- // by a positive divisor -/
theorem op_fdiv : OpR X (binaryOp .FloorDiv) (rI CDiv fun i j => .int (i / j)) := opI fun i j _ _ _ _ _ hc q => by
  have h1 : (0 : Int) < j := hc.1
  have h2 : j < 1073741824 := hc.2
  exact floordiv_int (by omega) (by rw [Int.fdiv_eq_ediv_of_nonneg i (by omega)]; exact q) (.inl (PyProof.noPylong_small (by omega)))
theorem op_fdivN : OpR X (binaryOp .FloorDiv) (rI CDivN fun i j => .int (i.fdiv j)) := opI fun _ _ _ _ _ _ _ hc q => floordiv_int hc.1 q (.inl (PyProof.noPylong_small hc.2))
/-- % by a positive divisor of any size -/
theorem op_mod : OpR X (binaryOp .Mod) (rI (fun _ j => 0 < j) fun i j => .int (i % j)) := opI fun i j _ _ _ _ _ hc q => by
  have h1 : (0 : Int) < j := hc
  exact mod_int' (by omega) (by rw [Int.fmod_eq_emod_of_nonneg i (by omega)]; exact q)
theorem op_modN : OpR X (binaryOp .Mod) (rI (fun _ j => j ≠ 0) fun i j => .int (i.fmod j)) := opI fun _ _ _ _ _ _ _ hc q => mod_int' hc q
theorem op_pow : OpR X (binaryOp .Pow) (rI CPow fun i j => .int (i ^ j.toNat)) := opI fun _ _ _ _ _ _ _ hc q => pow_int_small hc.1 hc.2.1 hc.2.2 q
theorem op_shl : OpR X (binaryOp .LShift) (rI CPow fun i j => .int (i * 2 ^ j.toNat)) := opI fun _ _ _ _ _ _ _ hc q => lshift_int_small hc.1 hc.2.1 hc.2.2 q
theorem op_shr : OpR X (binaryOp .RShift) (rI (fun _ j => 0 ≤ j) fun i j => .int (i / 2 ^ j.toNat)) := opI fun i j _ _ _ _ _ hc q =>
  rshift_int hc (by rw [Int.fdiv_eq_ediv_of_nonneg i (two_pow_nn _)]; exact q)
theorem op_and : OpR X (binaryOp .BitAnd) (rI0 fun i j => .int (Builtin.bitAnd i j)) := opI0 fun _ _ _ _ _ _ _ q => and_int q
theorem op_or : OpR X (binaryOp .BitOr) (rI0 fun i j => .int (Builtin.bitOr i j)) := opI0 fun _ _ _ _ _ _ _ q => or_int q
theorem op_xor : OpR X (binaryOp .BitXor) (rI0 fun i j => .int (Builtin.bitXor i j)) := opI0 fun _ _ _ _ _ _ _ q => xor_int q

theorem iop_add : OpR X (inplaceOp .Add) (rI0 fun i j => .int (i + j)) := opI0 fun _ _ _ _ _ _ _ q => iadd_int q
theorem iop_sub : OpR X (inplaceOp .Sub) (rI0 fun i j => .int (i - j)) := opI0 fun _ _ _ _ _ _ _ q => isub_int q
theorem iop_mul : OpR X (inplaceOp .Mult) (rI CMul fun i j => .int (i * j)) := opI fun _ _ _ _ _ _ _ hc q => imul_int q hc.ok
theorem iop_fdiv : OpR X (inplaceOp .FloorDiv) (rI CDiv fun i j => .int (i / j)) := opI fun i j _ _ _ _ _ hc q => by
  have h1 : (0 : Int) < j := hc.1
  have h2 : j < 1073741824 := hc.2
  exact ifloordiv_int (by omega) (by rw [Int.fdiv_eq_ediv_of_nonneg i (by omega)]; exact q) (.inl (PyProof.noPylong_small (by omega)))
theorem iop_mod : OpR X (inplaceOp .Mod) (rI (fun _ j => 0 < j) fun i j => .int (i % j)) := opI fun i j _ _ _ _ _ hc q => by
  have h1 : (0 : Int) < j := hc
  exact imod_int (by omega) (by rw [Int.fmod_eq_emod_of_nonneg i (by omega)]; exact q)
theorem iop_shl : OpR X (inplaceOp .LShift) (rI CPow fun i j => .int (i * 2 ^ j.toNat)) := opI fun _ _ _ _ _ _ _ hc q => ilshift_int_small hc.1 hc.2.1 hc.2.2 q
theorem iop_shr : OpR X (inplaceOp .RShift) (rI (fun _ j => 0 ≤ j) fun i j => .int (i / 2 ^ j.toNat)) := opI fun i j _ _ _ _ _ hc q =>
  irshift_int hc (by rw [Int.fdiv_eq_ediv_of_nonneg i (two_pow_nn _)]; exact q)
theorem iop_and : OpR X (inplaceOp .BitAnd) (rI0 fun i j => .int (Builtin.bitAnd i j)) := opI0 fun _ _ _ _ _ _ _ q => iand_int q
theorem iop_or : OpR X (inplaceOp .BitOr) (rI0 fun i j => .int (Builtin.bitOr i j)) := opI0 fun _ _ _ _ _ _ _ q => ior_int q
theorem iop_xor : OpR X (inplaceOp .BitXor) (rI0 fun i j => .int (Builtin.bitXor i j)) := opI0 fun _ _ _ _ _ _ _ q => ixor_int q

theorem unI {f : Value → Sem Value} {g : Int → Int}
    (rule : ∀ (i : Int) (t : Tok) (s : Shared) (Q : Value → Shared → Prop) (E : Value → Shared → Prop), Q (.int (g i) s.toks) { s with toks := s.toks + 1 } → wpAny (model X.prog X.w) X.A (f (.int i t)) Q E s) :
    UnR X f (rU fun i => .int (g i)) := by
  intro pins s σ H x v Q I rx h
  obtain ⟨i, rfl, q⟩ := h
  obtain ⟨t, rfl⟩ := rx
  exact rule i t s _ _ ⟨.int (g i), H, I.tok _, ⟨_, rfl⟩, q⟩
theorem un_neg : UnR X (unaryOp .USub) (rU fun i => .int (-i)) := unI fun _ _ _ _ _ q => neg_int q
theorem un_inv : UnR X (unaryOp .Invert) (rU fun i => .int (Builtin.bitNot i)) := unI fun _ _ _ _ _ q => invert_int q

/-! ### bools among ints: n += (a < b) -/
theorem op_add_ib : OpR X (binaryOp .Add) (fun x y H Q => ∃ i k, x = .int i ∧ y = .bl k ∧ Q (.int (i + b2i k)) H) := by
  intro pins s σ H x y v u Q I rx ry h
  obtain ⟨i, k, rfl, rfl, q⟩ := h
  obtain ⟨t, rfl⟩ := rx
  cases ry
  exact add_int_bool ⟨.int (i + b2i k), H, I.tok _, ⟨_, rfl⟩, q⟩
end

/-! ### comparisons -/
/-- the scalars that == tells apart as data does -/
def scal : V → V → Bool
  | .non, .non => true | .non, .int _ => true | .int _, .non => true | .non, .bl _ => true | .bl _, .non => true | .non, .str _ => true | .str _, .non => true
  | .int _, .int _ => true | .bl _, .bl _ => true | .str _, .str _ => true | .byt _, .byt _ => true
  | .int _, .str _ => true | .str _, .int _ => true | .bl _, .str _ => true | .str _, .bl _ => true
  | _, _ => false
def rEq : R2 := fun x y H Q => scal x y = true ∧ Q (.bl (decide (x = y))) H
def rNe : R2 := fun x y H Q => scal x y = true ∧ Q (.bl (!decide (x = y))) H

theorem dec_int {i j : Int} : decide (V.int i = V.int j) = (i == j) := by
  rw [Bool.eq_iff_iff]
  simp
theorem dec_bl {i j : Bool} : decide (V.bl i = V.bl j) = (i == j) := by
  rw [Bool.eq_iff_iff]
  simp
theorem dec_str {i j : Str} : decide (V.str i = V.str j) = (i == j) := by
  rw [Bool.eq_iff_iff]
  simp
theorem dec_byt {i j : Array UInt8} : decide (V.byt i = V.byt j) = (i.toList == j.toList) := by
  rw [Bool.eq_iff_iff]
  cases i
  cases j
  simp

section
variable {X : Cx} {a b c : Expr} {ta tb tc : TE} {pos : Pos}
theorem fin_bl {pins : List (Addr × Obj)} {σ : St} {H : Hp} {s : Shared} {Q : VK} {k k' : Bool} (I : Inv X pins σ H s) (q : Q (.bl k) H) (e : k = k') : EP X pins σ Q (.bool k') s := by
  subst e
  exact ⟨.bl k, H, I, rfl, q⟩
theorem op_eq : OpR X (compareOp .Eq) rEq := by
  intro pins s σ H x y v u Q I rx ry h
  obtain ⟨hs, q⟩ := h
  cases x with
  | non =>
    cases rx
    cases y with
    | non => cases ry; exact PySem.EqNone.eq_none_none (fin_bl I q (by simp))
    | bl j => cases ry; exact PySem.EqNone.eq_none_bool (fin_bl I q (by simp))
    | int j => obtain ⟨t', rfl⟩ := ry; exact PySem.EqNone.eq_none_int (fin_bl I q (by simp))
    | str j => obtain ⟨t', rfl⟩ := ry; exact PySem.EqNone.eq_none_str (fin_bl I q (by simp))
    | _ => exact absurd (show false = true from hs) Bool.false_ne_true
  | bl i =>
    cases rx
    cases y with
    | non => cases ry; exact PySem.EqNone.eq_bool_none (fin_bl I q (by simp))
    | bl j => cases ry; exact eq_bool (fin_bl I q dec_bl)
    | str j => obtain ⟨t', rfl⟩ := ry; exact PySem.EqMixed.eq_bool_str (fin_bl I q (by simp))
    | _ => exact absurd (show false = true from hs) Bool.false_ne_true
  | int i =>
    obtain ⟨t, rfl⟩ := rx
    cases y with
    | non => cases ry; exact PySem.EqNone.eq_int_none (fin_bl I q (by simp))
    | int j => obtain ⟨t', rfl⟩ := ry; exact eq_int (fin_bl I q dec_int)
    | str j => obtain ⟨t', rfl⟩ := ry; exact PySem.EqMixed.eq_int_str (fin_bl I q (by simp))
    | _ => exact absurd (show false = true from hs) Bool.false_ne_true
  | str i =>
    obtain ⟨t, rfl⟩ := rx
    cases y with
    | non => cases ry; exact PySem.EqNone.eq_str_none (fin_bl I q (by simp))
    | bl j => cases ry; exact PySem.EqMixed.eq_str_bool (fin_bl I q (by simp))
    | int j => obtain ⟨t', rfl⟩ := ry; exact PySem.EqMixed.eq_str_int (fin_bl I q (by simp))
    | str j => obtain ⟨t', rfl⟩ := ry; exact eq_str (fin_bl I q dec_str)
    | _ => exact absurd (show false = true from hs) Bool.false_ne_true
  | byt i =>
    obtain ⟨t, rfl⟩ := rx
    cases y with
    | byt j => obtain ⟨t', rfl⟩ := ry; exact PySem.W.eq_bytes (fin_bl I q dec_byt)
    | _ => exact absurd (show false = true from hs) Bool.false_ne_true
  | _ => cases y <;> exact absurd (show false = true from hs) Bool.false_ne_true
theorem op_ne : OpR X (compareOp .NotEq) rNe := by
  intro pins s σ H x y v u Q I rx ry h
  obtain ⟨hs, q⟩ := h
  cases x with
  | non =>
    cases rx
    cases y with
    | non => cases ry; exact PySem.EqNone.ne_none_none (fin_bl I q (by simp))
    | bl j => cases ry; exact PySem.EqNone.ne_none_bool (fin_bl I q (by simp))
    | int j => obtain ⟨t', rfl⟩ := ry; exact PySem.EqNone.ne_none_int (fin_bl I q (by simp))
    | str j => obtain ⟨t', rfl⟩ := ry; exact PySem.EqNone.ne_none_str (fin_bl I q (by simp))
    | _ => exact absurd (show false = true from hs) Bool.false_ne_true
  | bl i =>
    cases rx
    cases y with
    | non => cases ry; exact PySem.EqNone.ne_bool_none (fin_bl I q (by simp))
    | bl j => cases ry; exact ne_bool (fin_bl I q (congrArg not dec_bl))
    | str j => obtain ⟨t', rfl⟩ := ry; exact PySem.EqMixed.ne_bool_str (fin_bl I q (by simp))
    | _ => exact absurd (show false = true from hs) Bool.false_ne_true
  | int i =>
    obtain ⟨t, rfl⟩ := rx
    cases y with
    | non => cases ry; exact PySem.EqNone.ne_int_none (fin_bl I q (by simp))
    | int j => obtain ⟨t', rfl⟩ := ry; exact ne_int (fin_bl I q (congrArg not dec_int))
    | str j => obtain ⟨t', rfl⟩ := ry; exact PySem.EqMixed.ne_int_str (fin_bl I q (by simp))
    | _ => exact absurd (show false = true from hs) Bool.false_ne_true
  | str i =>
    obtain ⟨t, rfl⟩ := rx
    cases y with
    | non => cases ry; exact PySem.EqNone.ne_str_none (fin_bl I q (by simp))
    | bl j => cases ry; exact PySem.EqMixed.ne_str_bool (fin_bl I q (by simp))
    | int j => obtain ⟨t', rfl⟩ := ry; exact PySem.EqMixed.ne_str_int (fin_bl I q (by simp))
    | str j => obtain ⟨t', rfl⟩ := ry; exact ne_str (fin_bl I q (congrArg not dec_str))
    | _ => exact absurd (show false = true from hs) Bool.false_ne_true
  | byt i =>
    obtain ⟨t, rfl⟩ := rx
    cases y with
    | byt j => obtain ⟨t', rfl⟩ := ry; exact PySem.W.ne_bytes (fin_bl I q (congrArg not dec_byt))
    | _ => exact absurd (show false = true from hs) Bool.false_ne_true
  | _ => cases y <;> exact absurd (show false = true from hs) Bool.false_ne_true

theorem op_lt : OpR X (compareOp .Lt) (rI0 fun i j => .bl (decide (i < j))) := opB0 fun _ _ _ _ _ _ _ q => lt_int q
theorem op_le : OpR X (compareOp .LtE) (rI0 fun i j => .bl (decide (i ≤ j))) := opB0 fun _ _ _ _ _ _ _ q => le_int q
theorem op_gt : OpR X (compareOp .Gt) (rI0 fun i j => .bl (decide (j < i))) := opB0 fun _ _ _ _ _ _ _ q => gt_int q
theorem op_ge : OpR X (compareOp .GtE) (rI0 fun i j => .bl (decide (j ≤ i))) := opB0 fun _ _ _ _ _ _ _ q => ge_int q
theorem op_lt_str : OpR X (compareOp .Lt) (fun x y H Q => ∃ i j, x = .str i ∧ y = .str j ∧ Q (.bl (decide (i.cps.toList < j.cps.toList))) H) := by
  intro pins s σ H x y v u Q I rx ry h
  obtain ⟨i, j, rfl, rfl, q⟩ := h
  obtain ⟨t, rfl⟩ := rx
  obtain ⟨t', rfl⟩ := ry
  exact lt_str (fin_bl I q rfl)
/-- the one string within the other -/
theorem op_in_str : OpR X (compareOp .In) (fun x y H Q => ∃ i j, x = .str i ∧ y = .str j ∧ Q (.bl (!(Builtin.Str.occurrences j i 0 j.length 1).isEmpty)) H) := by
  intro pins s σ H x y v u Q I rx ry h
  obtain ⟨i, j, rfl, rfl, q⟩ := h
  obtain ⟨t, rfl⟩ := rx
  obtain ⟨t', rfl⟩ := ry
  exact in_str (fin_bl I q rfl)

/-- is None, is not None: the right side a value none -/
theorem op_isN : OpR X (compareOp .Is) (fun x y H Q => y = .non ∧ Q (.bl (decide (x = .non))) H) := by
  intro pins s σ H x y v u Q I rx ry h
  obtain ⟨rfl, q⟩ := h
  cases ry
  refine is_none_gen (fin_bl I q ?_)
  cases x <;> first
    | (cases rx; rfl)
    | (obtain ⟨t, rfl⟩ := rx; rfl)
theorem op_notN : OpR X (compareOp .IsNot) (fun x y H Q => y = .non ∧ Q (.bl (!decide (x = .non))) H) := by
  intro pins s σ H x y v u Q I rx ry h
  obtain ⟨rfl, q⟩ := h
  cases ry
  refine isnot_none_gen (fin_bl I q ?_)
  cases x <;> first
    | (cases rx; rfl)
    | (obtain ⟨t, rfl⟩ := rx; rfl)

theorem op_notin_str : OpR X (compareOp .NotIn) (fun x y H Q => ∃ i j, x = .str i ∧ y = .str j ∧ Q (.bl (!(!(Builtin.Str.occurrences j i 0 j.length 1).isEmpty))) H) := by
  intro pins s σ H x y v u Q I rx ry h
  obtain ⟨i, j, rfl, rfl, q⟩ := h
  obtain ⟨t, rfl⟩ := rx
  obtain ⟨t', rfl⟩ := ry
  exact notIn_str (fin_bl I q rfl)
/-- is, is not of two objects that are tracked lists or instances -/
def isObj : HO → Bool
  | .lst _ => true
  | .ins _ _ _ => true
  | _ => false
theorem obj_there {pins : List (Addr × Obj)} {s : Shared} {σ : St} {H : Hp} {a : Addr} {o : HO} (I : Inv X pins σ H s) (h : H a = some o) (p : isObj o = true) : ∃ ob, s.heap.get? a = some ob ∧ ob.cls ≠ .type "tuple" := by
  cases o with
  | lst xs =>
    obtain ⟨_, its, n, _, e⟩ : xs.length ≤ sizeLine ∧ ∃ (its : List Value) (n : Nat), Vals xs its ∧ s.heap.get? a = some { cls := .type "list", data := .seq its.toArray n } := I.hok a _ h
    exact ⟨_, e, (by show Value.type "list" ≠ .type "tuple"; decide +kernel)⟩
  | ins C dx fs =>
    have x := I.hok a _ h
    obtain ⟨_, _, _, e, _⟩ := x
    exact ⟨_, e, (by show Value.ref C ≠ .type "tuple"; exact fun z => by cases z)⟩
  | _ => exact absurd (show false = true from p) Bool.false_ne_true
theorem op_is_ref : OpR X (compareOp .Is) (fun x y H Q => ∃ a b oa ob, x = .ref a ∧ y = .ref b ∧ H a = some oa ∧ isObj oa = true ∧ H b = some ob ∧ isObj ob = true ∧ Q (.bl (decide (a = b))) H) := by
  intro pins s σ H x y v u Q I rx ry h
  obtain ⟨a, b, oa, ob, rfl, rfl, ha, pa, hb, pb, q⟩ := h
  cases rx
  cases ry
  obtain ⟨o1, e1, n1⟩ := obj_there I ha pa
  obtain ⟨o2, e2, _⟩ := obj_there I hb pb
  by_cases z : a = b
  · subst z
    exact wpAny_is_ref_self (fin_bl I q (by simp))
  · exact wpAny_is_ref_other z e1 e2 n1 (fin_bl I q (by simp [z]))
theorem op_isnot_ref : OpR X (compareOp .IsNot) (fun x y H Q => ∃ a b oa ob, x = .ref a ∧ y = .ref b ∧ H a = some oa ∧ isObj oa = true ∧ H b = some ob ∧ isObj ob = true ∧ Q (.bl (!decide (a = b))) H) := by
  intro pins s σ H x y v u Q I rx ry h
  obtain ⟨a, b, oa, ob, rfl, rfl, ha, pa, hb, pb, q⟩ := h
  cases rx
  cases ry
  obtain ⟨o1, e1, n1⟩ := obj_there I ha pa
  obtain ⟨o2, e2, _⟩ := obj_there I hb pb
  by_cases z : a = b
  · subst z
    exact wpAny_isNot_ref_self (fin_bl I q (by simp))
  · exact wpAny_isNot_ref_other z e1 e2 n1 (fin_bl I q (by simp [z]))

/-- two rules for one operation: by cases -/
theorem OpR.or {f : Value → Value → Sem Value} {r r' : R2} (h : OpR X f r) (h' : OpR X f r') : OpR X f (fun x y H Q => r x y H Q ∨ r' x y H Q) := by
  intro pins s σ H x y v u Q I rx ry q
  rcases q with q | q
  · exact h pins s σ H x y v u Q I rx ry q
  · exact h' pins s σ H x y v u Q I rx ry q

theorem nomark (b : Expr) {op : CmpOp} (h : op ≠ .In := by decide) (h2 : op ≠ .NotIn := by decide) : behindInMarks op b = false := by
  have e1 : (op == CmpOp.In) = false := by cases op <;> first | rfl | exact absurd rfl h
  have e2 : (op == CmpOp.NotIn) = false := by cases op <;> first | rfl | exact absurd rfl h2
  cases b <;> simp [behindInMarks, e1, e2]
/-- a comparison as a value; hm: nomark b, or (for in, not in) by with_unfolding_all rfl -/
theorem pe_cmpR {op : CmpOp} {r : R2} (ho : OpR X (compareOp op) r) (ha : PE X a ta) (hb : PE X b tb) (hm : behindInMarks op b = false) : PE X (.Compare a [op] [b] pos) (tOp r ta tb) := by
  intro pins s σ H Q I h
  exact wpAny_Compare1 (binT ha hb I h fun v u s2 x y H2 I2 rx ry q => ho pins s2 σ H2 x y v u Q I2 rx ry q) hm
/-- a reading of a value as a test -/
def tTest (t : TE) : TT := fun σ H Q => t σ H fun x H' => ∃ k, x = .bl k ∧ Q k H'
theorem pt_cmpR {op : CmpOp} {r : R2} (ho : OpR X (compareOp op) r) (ha : PE X a ta) (hb : PE X b tb) (hm : behindInMarks op b = false) : PT X (.Compare a [op] [b] pos) (tTest (tOp r ta tb)) := by
  intro pins s σ H Q I h
  refine wpAny_isTrue_Compare1 (thn (ha pins s σ H _ I h) fun v s1 ⟨x, H1, I1, r1, q1⟩ => thn (hb pins s1 σ H1 _ I1 q1) fun u s2 ⟨y, H2, I2, r2, q2⟩ =>
    thn (ho pins s2 σ H2 x y v u _ I2 r1 r2 q2) fun c s3 ⟨z, H3, I3, r3, k, e, q3⟩ => ?_) hm
  subst e
  cases r3
  exact wpAny_truthy_bool ⟨H3, I3, q3⟩
/-- a op1 b op2 c -/
def tChain (r r' : R2) (ta tb tc : TE) : TE := fun σ H Q => ta σ H fun x H1 => tb σ H1 fun y H2 => r x y H2 fun z H3 => ∃ k, z = .bl k ∧
  (if k = true then tc σ H3 fun w' H4 => r' y w' H4 Q else Q (.bl false) H3)
theorem pe_chain {op op' : CmpOp} {r r' : R2} (ho : OpR X (compareOp op) r) (ho' : OpR X (compareOp op') r') (ha : PE X a ta) (hb : PE X b tb) (hc : PE X c tc)
    (hm : lastMarks [op, op'] [b, c] = false := by with_unfolding_all rfl) : PE X (.Compare a [op, op'] [b, c] pos) (tChain r r' ta tb tc) := by
  intro pins s σ H Q I h
  refine Compare_chain (thn (ha pins s σ H _ I h) fun v s1 ⟨x, H1, I1, r1, q1⟩ => chain_link (thn (hb pins s1 σ H1 _ I1 q1) fun u s2 ⟨y, H2, I2, r2, q2⟩ =>
    thn (ho pins s2 σ H2 x y v u _ I2 r1 r2 q2) fun d s3 ⟨z, H3, I3, r3, k, e, q3⟩ => ?_)) hm
  subst e
  cases r3
  refine wpAny_truthy_bool ?_
  cases k with
  | false => exact ite_ff ⟨.bl false, H3, I3, rfl, q3⟩
  | true => exact ite_tt (chain_last (thn (hc pins s3 σ H3 _ I3 q3) fun w' s4 ⟨z', H4, I4, r4, q4⟩ => ho' pins s4 σ H4 y z' u w' Q I4 r2 r4 q4))
theorem pt_chain {op op' : CmpOp} {r r' : R2} (ho : OpR X (compareOp op) r) (ho' : OpR X (compareOp op') r') (ha : PE X a ta) (hb : PE X b tb) (hc : PE X c tc)
    (hm : lastMarks [op, op'] [b, c] = false := by with_unfolding_all rfl) : PT X (.Compare a [op, op'] [b, c] pos) (tTest (tChain r r' ta tb tc)) := by
  intro pins s σ H Q I h
  refine isTrue_chain (thn (ha pins s σ H _ I h) fun v s1 ⟨x, H1, I1, r1, q1⟩ => test_link (thn (hb pins s1 σ H1 _ I1 q1) fun u s2 ⟨y, H2, I2, r2, q2⟩ =>
    thn (ho pins s2 σ H2 x y v u _ I2 r1 r2 q2) fun d s3 ⟨z, H3, I3, r3, k, e, q3⟩ => ?_)) hm
  subst e
  cases r3
  refine wpAny_truthy_bool ?_
  cases k with
  | false =>
    obtain ⟨k', e', q'⟩ := q3
    cases e'
    exact ite_ff ⟨H3, I3, q'⟩
  | true =>
    refine ite_tt (test_last (thn (hc pins s3 σ H3 _ I3 q3) fun w' s4 ⟨z', H4, I4, r4, q4⟩ => thn (ho' pins s4 σ H4 y z' u w' _ I4 r2 r4 q4) fun d' s5 ⟨z2, H5, I5, r5, k2, e2, q5⟩ => ?_))
    subst e2
    cases r5
    exact wpAny_truthy_bool ⟨H5, I5, q5⟩

/-! ### truth -/
/-- a value's truth by the abstract heap -/
def TruV (K : PySem.W.Frag) (x : V) (H : Hp) (k : Bool) : Prop :=
  match x with
  | .non => k = false
  | .bl b => k = b
  | .int i => k = (i != 0)
  | .str y => y.length ≤ sizeLine ∧ k = ((y.length : Int) != 0)
  | .byt y => y.size ≤ sizeLine ∧ k = ((y.size : Int) != 0)
  | .ref p => (∃ xs, SqL K H p xs ∧ k = !xs.isEmpty) ∨ (∃ xs, SqT K H p xs ∧ k = !xs.isEmpty) ∨ ∃ kvs, H p = some (.dK kvs) ∧ k = !kvs.isEmpty
  | _ => False
theorem isEmpty_kv {κ : Type} {kvs : List (κ × V)} {vs : List (κ × Value)} (r : KV kvs vs) : (!vs.isEmpty) = !kvs.isEmpty := by
  cases r <;> rfl
theorem isEmpty_of {xs : List V} {its : List Value} (r : Vals xs its) : (!its.toArray.isEmpty) = !xs.isEmpty := by
  cases r <;> simp
theorem line63 : (sizeLine : Nat) < 2 ^ 63 := by rw [sizeLine_eq]; decide
theorem tru_ok : TruR X (fun x H Q => ∃ k, TruV X.K x H k ∧ Q k H) := by
  intro pins s σ H x v Q I rx h
  obtain ⟨k, e, q⟩ := h
  have hl := line63
  have hs : sizeLine = 16777216 := sizeLine_eq
  cases x with
  | non =>
    cases rx
    have e' : k = false := e
    subst e'
    exact truthy_none ⟨H, I, q⟩
  | bl b =>
    cases rx
    have e' : k = b := e
    subst e'
    exact wpAny_truthy_bool ⟨H, I, q⟩
  | int i =>
    obtain ⟨t, rfl⟩ := rx
    have e' : k = (i != 0) := e
    subst e'
    exact PySem.P.truthy_int ⟨H, I, q⟩
  | str y =>
    obtain ⟨t, rfl⟩ := rx
    obtain ⟨hy, e'⟩ : y.length ≤ sizeLine ∧ k = ((y.length : Int) != 0) := e
    subst e'
    exact PySem.P.truthy_str (by omega) ⟨H, I.tok _, q⟩
  | byt y =>
    obtain ⟨t, rfl⟩ := rx
    obtain ⟨hy, e'⟩ : y.size ≤ sizeLine ∧ k = ((y.size : Int) != 0) := e
    subst e'
    exact PySem.W.truthy_bytes (by omega) ⟨H, I.tok _, q⟩
  | ref p =>
    cases rx
    have e' : (∃ xs, SqL X.K H p xs ∧ k = !xs.isEmpty) ∨ (∃ xs, SqT X.K H p xs ∧ k = !xs.isEmpty) ∨ ∃ kvs, H p = some (.dK kvs) ∧ k = !kvs.isEmpty := e
    rcases e' with ⟨xs, hx, e'⟩ | ⟨xs, hx, e'⟩ | ⟨kvs, hx, e'⟩
    · subst e'
      obtain ⟨its, r, pl, hz⟩ := I.list hx
      have hlen := r.length
      exact wpAny_truthy_list pl.isList (by simp only [List.size_toArray]; omega) ⟨H, I.tok _, by rw [isEmpty_of r]; exact q⟩
    · subst e'
      obtain ⟨its, r, pl, hz⟩ := I.tuple hx
      have hlen := r.length
      exact truthy_tuple pl (by simp only [List.size_toArray]; omega) ⟨H, I.tok _, by rw [isEmpty_of r]; exact q⟩
    · subst e'
      obtain ⟨hz, hS, vs, r, m⟩ : kvs.length ≤ sizeLine ∧ (p == sysModules) = false ∧ ∃ vs, KV kvs vs ∧ s.heap.DictOf (mixKind X.prog X.w) p vs := I.hok p _ hx
      have hlen : kvs.length = vs.length := Paired.length r
      exact wpAny_truthy_dict hS m (by omega) ⟨H, I.tok _, by rw [isEmpty_kv r]; exact q⟩
  | _ => exact (show False from e).elim
/-- any expression whose test is its value's truth (a name, a call, a subscript, a field ..: he by fun _ => rfl) -/
theorem pt_truth (ha : PE X a ta) (he : ∀ whole, isTrue a X.env whole = (do let v ← whole; standAt a.pos; holding [v] (truthy v))) :
    PT X a (fun σ H Q => ta σ H fun x H' => ∃ k, TruV X.K x H' k ∧ Q k H') := by
  intro pins s σ H Q I h
  exact isTrue_plain (thn (ha pins s σ H _ I h) fun v s1 ⟨x, H1, I1, r1, q1⟩ => tru_ok pins s1 σ H1 x v Q I1 r1 q1) (he _)

/-! ### strs and bytes -/
theorem pe_byt {x : List UInt8} {k : Nat} : PE X (.Constant (.bytes x) k pos) (fun _ H Q => Q (.byt x.toArray) H) := fun _ _ _ H _ I h => PySem.W.Constant_bytes ⟨.byt x.toArray, H, I.tok _, ⟨_, rfl⟩, h⟩
theorem op_add_str : OpR X (binaryOp .Add) (fun x y H Q => ∃ i j, x = .str i ∧ y = .str j ∧ i.length + j.length ≤ sizeLine ∧ Q (.str (i ++ j)) H) := by
  intro pins s σ H x y v u Q I rx ry h
  obtain ⟨i, j, rfl, rfl, hz, q⟩ := h
  obtain ⟨t, rfl⟩ := rx
  obtain ⟨t', rfl⟩ := ry
  exact add_str (fun t' tk => ⟨.str (i ++ j), H, I.tok _, ⟨_, rfl⟩, q⟩) hz
theorem iop_add_str : OpR X (inplaceOp .Add) (fun x y H Q => ∃ i j, x = .str i ∧ y = .str j ∧ i.length + j.length ≤ sizeLine ∧ Q (.str (i ++ j)) H) := by
  intro pins s σ H x y v u Q I rx ry h
  obtain ⟨i, j, rfl, rfl, hz, q⟩ := h
  obtain ⟨t, rfl⟩ := rx
  obtain ⟨t', rfl⟩ := ry
  exact iadd_str (fun t' tk => ⟨.str (i ++ j), H, I.tok _, ⟨_, rfl⟩, q⟩) hz
theorem op_add_byt : OpR X (binaryOp .Add) (fun x y H Q => ∃ i j, x = .byt i ∧ y = .byt j ∧ i.size + j.size ≤ 16777216 ∧ Q (.byt (i ++ j)) H) := by
  intro pins s σ H x y v u Q I rx ry h
  obtain ⟨i, j, rfl, rfl, hz, q⟩ := h
  obtain ⟨t, rfl⟩ := rx
  obtain ⟨t', rfl⟩ := ry
  exact PySem.W.KBy.add_bytes hz (fun t' tk => ⟨.byt (i ++ j), H, I.tok _, ⟨_, rfl⟩, q⟩)

def PlainIxT (b : Expr) : Prop := ∀ o i, subscripted b false o i = operate [o, i] (getItem o i)
/-- s[i], 0 ≤ i < len -/
theorem pe_item_str (ha : PE X a ta) (hb : PE X b tb) (hs : PlainIxT b) :
    PE X (.Subscript a b pos) (tOp (fun x y H Q => ∃ z i c, x = .str z ∧ y = .int i ∧ 0 ≤ i ∧ i < 2 ^ 63 ∧ i < z.length ∧ z.cps[i.toNat]? = some c ∧ Q (.str ⟨#[c]⟩) H) ta tb) := by
  intro pins s σ H Q I h
  refine Subscript_ (binT ha hb I h fun v u s2 x y H2 I2 rx ry q => ?_)
  obtain ⟨z, i, c, rfl, rfl, h0, h63, h1, hc, q⟩ := q
  obtain ⟨t, rfl⟩ := rx
  obtain ⟨t', rfl⟩ := ry
  have e : seqIndex? i z.length = some i.toNat := PySem.StrLaws.seqIndex_nonneg h0 h1
  exact tail_any (typeIs_str s2 z t) slot_str_getitem.lookup (getItem_str (c := c) (by
    have e1 : decide (i < -(2 ^ 63 : Int)) = false := decide_eq_false (by omega)
    have e2 : decide (i ≥ 2 ^ 63) = false := decide_eq_false (by omega)
    rw [e1, e2] <;> rfl) (by rw [e]; exact hc) ⟨.str ⟨#[c]⟩, H2, I2.tok _, ⟨_, rfl⟩, q⟩) (hs _ _)
/-- b[i], 0 ≤ i < len -/
theorem pe_item_byt (ha : PE X a ta) (hb : PE X b tb) (hs : PlainIxT b) :
    PE X (.Subscript a b pos) (tOp (fun x y H Q => ∃ (z : List UInt8) (i : Int), x = .byt z.toArray ∧ y = .int i ∧ z.length ≤ sizeLine ∧ 0 ≤ i ∧ i < z.length ∧ Q (.int ((z.getD i.toNat 0).toNat : Nat)) H) ta tb) := by
  intro pins s σ H Q I h
  refine Subscript_ (binT ha hb I h fun v u s2 x y H2 I2 rx ry q => ?_)
  obtain ⟨z, i, rfl, rfl, hz, h0, h1, q⟩ := q
  obtain ⟨t, rfl⟩ := rx
  obtain ⟨t', rfl⟩ := ry
  have hl : sizeLine = 16777216 := sizeLine_eq
  exact tail_any (PySem.W.typeIs_bytes s2 z.toArray t) PySem.W.FB.slot_bytes_getitem.lookup (PySem.W.getItem_bytes (by omega) h0 h1 ⟨.int ((z.getD i.toNat 0).toNat : Nat), H2, I2.tok _, ⟨_, rfl⟩, q⟩) (hs _ _)

/-! ### scalar builtins, by CallR -/
theorem vals1 {x : V} {us : List Value} (r : Vals [x] us) : ∃ u, us = [u] ∧ RelV x u := by
  cases r with
  | cons r1 r2 => cases r2; exact ⟨_, rfl, r1⟩
theorem vals2 {x y : V} {us : List Value} (r : Vals [x, y] us) : ∃ u w', us = [u, w'] ∧ RelV x u ∧ RelV y w' := by
  cases r with
  | cons r1 r2 =>
    cases r2 with
    | cons r3 r4 => cases r4; exact ⟨_, _, rfl, r1, r3⟩
theorem call_abs : CallR X (.builtin "abs") (fun xs H Q => ∃ i, xs = [.int i] ∧ Q (.int (if i < 0 then -i else i)) H) := by
  intro pins s σ H xs us Q I r h
  obtain ⟨i, rfl, q⟩ := h
  obtain ⟨u, rfl, t, rfl⟩ := vals1 r
  exact call_abs_int fun u tk => ⟨.int (if i < 0 then -i else i), H, I.tok _, ⟨_, rfl⟩, q⟩
theorem call_max2 (hc : X.calm = true) : CallR X (.builtin "max") (fun xs H Q => ∃ i j, xs = [.int i, .int j] ∧ Q (.int (if j > i then j else i)) H) := by
  intro pins s σ H xs us Q I r h
  obtain ⟨i, j, rfl, q⟩ := h
  obtain ⟨u, w', rfl, ⟨t, rfl⟩, ⟨t', rfl⟩⟩ := vals2 r
  refine max_two_ints (I.ok.hd hc) fun h' tk k => ⟨_, H, I.kept k, ?_, q⟩
  by_cases hj : j > i
  · rw [if_pos hj, if_pos hj]; exact ⟨_, rfl⟩
  · rw [if_neg hj, if_neg hj]; exact ⟨_, rfl⟩
theorem call_min2 (hc : X.calm = true) : CallR X (.builtin "min") (fun xs H Q => ∃ i j, xs = [.int i, .int j] ∧ Q (.int (if j < i then j else i)) H) := by
  intro pins s σ H xs us Q I r h
  obtain ⟨i, j, rfl, q⟩ := h
  obtain ⟨u, w', rfl, ⟨t, rfl⟩, ⟨t', rfl⟩⟩ := vals2 r
  refine min_two_ints (I.ok.hd hc) fun h' tk k => ⟨_, H, I.kept k, ?_, q⟩
  by_cases hj : j < i
  · rw [if_pos hj, if_pos hj]; exact ⟨_, rfl⟩
  · rw [if_neg hj, if_neg hj]; exact ⟨_, rfl⟩
theorem call_int1 : CallR X (.type "int") (fun xs H Q => (∃ i, xs = [.int i] ∧ Q (.int i) H) ∨ ∃ k, xs = [.bl k] ∧ Q (.int (if k then 1 else 0)) H) := by
  intro pins s σ H xs us Q I r h
  rcases h with ⟨i, rfl, q⟩ | ⟨k, rfl, q⟩
  · obtain ⟨u, rfl, t, rfl⟩ := vals1 r
    exact call_int_int ⟨.int i, H, I, ⟨_, rfl⟩, q⟩
  · obtain ⟨u, rfl, r1⟩ := vals1 r
    cases r1
    exact call_int_bool ⟨.int (if k then 1 else 0), H, I.tok _, ⟨_, rfl⟩, q⟩
theorem call_bool1 : CallR X (.type "bool") (fun xs H Q => (∃ i, xs = [.int i] ∧ Q (.bl (i != 0)) H) ∨ ∃ k, xs = [.bl k] ∧ Q (.bl k) H) := by
  intro pins s σ H xs us Q I r h
  rcases h with ⟨i, rfl, q⟩ | ⟨k, rfl, q⟩
  · obtain ⟨u, rfl, t, rfl⟩ := vals1 r
    exact call_bool_int ⟨.bl (i != 0), H, I, rfl, q⟩
  · obtain ⟨u, rfl, r1⟩ := vals1 r
    cases r1
    exact call_bool_bool ⟨.bl k, H, I, rfl, q⟩
theorem call_str_int : CallR X (.type "str") (fun xs H Q => ∃ i, xs = [.int i] ∧ i.natAbs.log2 < 1920 ∧ Q (.str (toString i)) H) := by
  intro pins s σ H xs us Q I r h
  obtain ⟨i, rfl, hz, q⟩ := h
  obtain ⟨u, rfl, t, rfl⟩ := vals1 r
  exact PySem.P.str_of_int hz ⟨.str _, H, I.tok _, ⟨_, rfl⟩, q⟩
theorem call_ord : CallR X (.builtin "ord") (fun xs H Q => ∃ x, xs = [.str x] ∧ x.length = 1 ∧ Q (.int (x.cps.getD 0 0 : Nat)) H) := by
  intro pins s σ H xs us Q I r h
  obtain ⟨x, rfl, hz, q⟩ := h
  obtain ⟨u, rfl, t, rfl⟩ := vals1 r
  exact ord_of_one hz ⟨.int _, H, I.tok _, ⟨_, rfl⟩, q⟩
theorem call_chr : CallR X (.builtin "chr") (fun xs H Q => ∃ i, xs = [.int i] ∧ 0 ≤ i ∧ i ≤ 1114111 ∧ Q (.str ⟨#[i.toNat]⟩) H) := by
  intro pins s σ H xs us Q I r h
  obtain ⟨i, rfl, h0, h1, q⟩ := h
  obtain ⟨u, rfl, t, rfl⟩ := vals1 r
  exact chr_of_range h0 h1 ⟨.str _, H, I.tok _, ⟨_, rfl⟩, q⟩
/-- len of a str, a bytes, a list, a tuple -/
def LenV (K : PySem.W.Frag) (x : V) (H : Hp) (n : Nat) : Prop :=
  match x with
  | .str y => y.length ≤ sizeLine ∧ n = y.length
  | .byt y => y.size ≤ sizeLine ∧ n = y.size
  | .ref p => (∃ xs, SqL K H p xs ∧ n = xs.length) ∨ ∃ xs, SqT K H p xs ∧ n = xs.length
  | _ => False
theorem call_len : CallR X (.builtin "len") (fun xs H Q => ∃ x n, xs = [x] ∧ LenV X.K x H n ∧ Q (.int n) H) := by
  intro pins s σ H xs us Q I r h
  obtain ⟨x, n, rfl, e, q⟩ := h
  obtain ⟨u, rfl, rx⟩ := vals1 r
  have hl := line63
  have hs : sizeLine = 16777216 := sizeLine_eq
  cases x with
  | str y =>
    obtain ⟨t, rfl⟩ := rx
    obtain ⟨hy, e'⟩ : y.length ≤ sizeLine ∧ n = y.length := e
    subst e'
    exact len_str (by omega) ⟨.int _, H, I.tok _, ⟨_, rfl⟩, q⟩
  | byt y =>
    obtain ⟨t, rfl⟩ := rx
    obtain ⟨hy, e'⟩ : y.size ≤ sizeLine ∧ n = y.size := e
    subst e'
    exact PySem.W.len_bytes (by omega) ⟨.int _, H, I.tok _, ⟨_, rfl⟩, q⟩
  | ref p =>
    cases rx
    have e' : (∃ xs, SqL X.K H p xs ∧ n = xs.length) ∨ ∃ xs, SqT X.K H p xs ∧ n = xs.length := e
    rcases e' with ⟨xs, hx, e'⟩ | ⟨xs, hx, e'⟩
    · subst e'
      obtain ⟨its, r', pl, hz⟩ := I.list hx
      have hlen := r'.length
      exact Calls.call_len_list pl.isList (by simp only [List.size_toArray]; omega) ⟨.int xs.length, H, I.tok _, ⟨_, by simp only [List.size_toArray]; rw [hlen]⟩, q⟩
    · subst e'
      obtain ⟨its, r', pl, hz⟩ := I.tuple hx
      have hlen := r'.length
      exact len_tuple pl (by simp only [List.size_toArray]; omega) ⟨.int xs.length, H, I.tok _, ⟨_, by simp only [List.size_toArray]; rw [hlen]⟩, q⟩
  | _ => exact (show False from e).elim
/-- divmod: a new tuple -/
theorem call_divmod : CallR X (.builtin "divmod") (fun xs H Q => ∃ i j, xs = [.int i, .int j] ∧ CDiv i j ∧ ∀ p, H p = none → Q (.ref p) (upd H p (.tup [.int (i / j), .int (i % j)]))) := by
  intro pins s σ H xs us Q I r h
  obtain ⟨i, j, rfl, ⟨h1, h2⟩, q⟩ := h
  obtain ⟨u, w', rfl, ⟨t, rfl⟩, ⟨t', rfl⟩⟩ := vals2 r
  refine divmod_int (by omega) ?_ (.inl (PyProof.noPylong_small (by omega)))
  rw [Int.fdiv_eq_ediv_of_nonneg i (by omega), Int.fmod_eq_emod_of_nonneg i (by omega)]
  have hn : H s.heap.objs.size = none := I.hok.fresh (Nat.le_refl _)
  refine ⟨.ref s.heap.objs.size, _, ?_, rfl, q _ hn⟩
  refine I.laid (fun b o e => Heap.get?_push_of_some _ e) (Nat.le_refl _) ⟨by simp only [List.length_cons, List.length_nil]; rw [sizeLine_eq]; decide, [.int (i / j) s.toks, .int (i % j) (s.toks + 1)], .cons ⟨_, rfl⟩ (.cons ⟨_, rfl⟩ .nil), ?_⟩
  exact ⟨_, Heap.get?_push_size s.heap rfl, rfl, 0, rfl⟩
end
end L2

namespace L2
open PySem PySem.Spec PyProof.Rows

/-! ### an instance, its attributes a map -/
structure ObjM (h : Heap) (x dx C : Addr) (mA : Str → Option Value) : Prop where
  obj : h.get? x = some (PySem.W.instObj C dx)
  ns : h.Ns1 dx mA
  ne : dx ≠ x

theorem lookIn_ns {h : Heap} {dx : Addr} {mA : Str → Option Value} (n : h.Ns1 dx mA) : ∃ od, h.get? dx = some od ∧ ∀ name, PySem.W.lookIn name od = some (mA name) := by
  obtain ⟨o, es, ep, ho, hd, hk, _, hm⟩ := n
  refine ⟨o, ho, fun name => ?_⟩
  have e := hm name
  unfold nsFind findBy at e
  rw [← Array.find?_toList] at e
  unfold PySem.W.lookIn
  rw [hd]
  dsimp only
  split
  · rename_i y q
    rw [q] at e
    exact congrArg some e
  · rename_i q
    rw [q] at e
    have a : es.toList.any (·.refKey) = false := by
      rw [List.any_eq_false]
      intro y hy
      obtain ⟨z, t, hkey⟩ := hk y (Array.mem_toList_iff.mp hy)
      simp [DictEntry.refKey, hkey]
    have a' : ¬ es.toList.any (·.refKey) = true := by rw [a]; exact Bool.false_ne_true
    rw [if_neg a']
    exact congrArg some e

theorem ObjM.look {h : Heap} {x dx C : Addr} {mA : Str → Option Value} (I : ObjM h x dx C mA) : ∃ od, PySem.W.InstAt h x (PySem.W.instObj C dx) C (some od) ∧ ∀ name, PySem.W.lookIn name od = some (mA name) :=
  let ⟨od, ho, hl⟩ := lookIn_ns I.ns
  ⟨od, ⟨I.obj, rfl, rfl, ho⟩, hl⟩

section
variable {prog : Program} {w : World} {A : Around} {E : Value → Shared → Prop} {s : Shared} {K : PySem.W.Frag} {x dx C f : Addr} {mA : Str → Option Value} {name : Str} {v : Value}

theorem get_map {expr : Bool} {Q : Value → Shared → Prop} (X : K.In s.heap) (I : ObjM s.heap x dx C mA) (hg : PySem.W.plainGet K C name = true) (hh : PySem.W.hasDictIn K C = true)
    (ha : PySem.W.findIn K (.ref C) name = some none) (hv : mA name = some v) (hv' : PySem.W.handedIn v = true) (h : Q v { s with toks := s.toks + 1 }) :
    wpAny (model prog w) A (getAttr (.ref x) name expr) Q E s := by
  obtain ⟨od, J, hl⟩ := I.look
  exact PySem.W.get_value X J (PySem.W.plainGet_of hg).1 (PySem.W.findObj_own hh ha rfl (by rw [hl, hv])) hv' h

theorem get_const {expr : Bool} {a : Value} {Q : Value → Shared → Prop} (X : K.In s.heap) (I : ObjM s.heap x dx C mA) (hg : PySem.W.plainGet K C name = true) (hh : PySem.W.hasDictIn K C = true)
    (ha : PySem.W.findIn K (.ref C) name = some (some a)) (hn : PySem.W.specialIn K a "__get__" = some none) (hc : PySem.W.copiedNames.contains name = false) (hv : mA name = none) (hv' : PySem.W.handedIn a = true)
    (h : Q a { s with toks := s.toks + 1 }) : wpAny (model prog w) A (getAttr (.ref x) name expr) Q E s := by
  obtain ⟨od, J, hl⟩ := I.look
  exact PySem.W.get_value X J (PySem.W.plainGet_of hg).1 (PySem.W.findObj_cls hh ha hn hv' hc (by rw [hl, hv])) hv' h

theorem get_meth {pl : Sem Bool} {Q : Value × List Value → Shared → Prop} (X : K.In s.heap) (I : ObjM s.heap x dx C mA) (hg : PySem.W.plainGet K C name = true)
    (hf : PySem.W.findIn K (.ref C) name = some (some (.ref f))) (ht : PySem.W.isFn K (.ref f) = true) (hv : mA name = none) (h : Q (.ref f, [.ref x]) s) :
    wpAny (model prog w) A (getMethod (.ref x) name pl) Q E s := by
  obtain ⟨od, J, hl⟩ := I.look
  exact PySem.W.method_fn X J (PySem.W.plainGet_of hg).1 (PySem.W.plainGet_of hg).2 hf (beq_iff_eq.mp ht) (by show (PySem.W.lookIn name od).map (·.isSome) = some false; rw [hl, hv]; rfl) h

theorem set_map {ns : List Str} {Q : Unit → Shared → Prop} (X : K.In s.heap) (I : ObjM s.heap x dx C mA)
    (hs : PySem.W.findIn K (.ref C) "__setattr__" = some (some (.builtin "object.__setattr__"))) (hp : PySem.W.plainOver K C = true) (ht : PySem.W.takerIn K C name = some none) (hh : PySem.W.hasDictIn K C = true)
    (hw : PySem.Within mA ns) (hsz : ns.length ≤ sizeLine)
    (h : ∀ h', ObjM h' x dx C (fun y => if y = name then some v else mA y) → Heap.SameBut dx s.heap h' → Q () { s with heap := h', toks := s.toks + 2 }) :
    wpAny (model prog w) A (setAttr (.ref x) name v) Q E s := by
  obtain ⟨od, J, hl⟩ := I.look
  refine PySem.W.set_plain X J hs (PySem.W.osa_open (s := { s with toks := s.toks + 1 }) (r := none) X J hp ht fun b => ?_)
  obtain ⟨cd, hc, hd'⟩ := PySem.W.any_some hh
  have hx : s.heap.get? x = some ⟨.ref C, some dx, .plain, #[]⟩ := I.obj
  refine wpAny_bind (wpAny_pure (wpAny_bind (wpAny_bind (wpAny_loadPart hx (wpAny_bind (PySem.W.Looks.here (s := { s with toks := s.toks + 1 }) (PySem.W.looks_clsIn X hc) ?_))))))
  rw [hd']
  refine wpAny_pure (a := some dx) (wpAny_bind (wpAny_pure (wpAny_bind ?_)))
  refine wpAny_nsSet1 (s := { s with toks := s.toks + 1 }) I.ns fun h' hn2 hs2 => ?_
  obtain ⟨oD, esD, epD, hoD, hdD, hcD⟩ := hn2.count (PySem.Within.cons name v hw)
  refine wpAny_bind (wpAny_lookBehind hoD (by rw [hdD]; exact pastItsLine_dict (Nat.le_trans hcD (by rw [List.length_cons]; omega))) ?_)
  exact wpAny_pure (h _ ⟨(hs2.2 _ (Ne.symm I.ne)).trans I.obj, hn2, I.ne⟩ hs2)

/-- C(..): the dict at the heap's end, the instance behind it; then its __init__ -/
theorem make_map {R : Result → Shared → Prop} {vs : List Value} {kw : List (Str × Value)} (X : K.In s.heap) (hm : PySem.W.makesIn K C = true)
    (hi : PySem.W.findIn K (.ref C) "__init__" = some (some (.ref f))) (hf : PySem.W.typeIn K (.ref f) = some (.type "function"))
    (h : codeAny (model prog w) (A.under (.builtin "type.__call__" ⟨.ref C :: vs, kw⟩)) (.call (.ref f) ⟨.ref (s.heap.objs.size + 1) :: vs, kw⟩) (PySem.W.InitBack (s.heap.objs.size + 1) R)
      { s with heap := (s.heap.push PySem.W.emptyDict).push (PySem.W.instObj C s.heap.objs.size) }) :
    codeAny (model prog w) A (.call (.ref C) ⟨vs, kw⟩) R s := by
  obtain ⟨hh, g, d, t, os⟩ := s
  exact PySem.W.make_core (PySem.W.makes_of X hm) (PySem.W.looks_findIn X hi) (fun self => PySem.W.bind_fn X self hf) (.inl rfl) h
/-- C() where there is no __init__ but object's -/
theorem make_map0 {R : Result → Shared → Prop} (X : K.In s.heap) (hm : PySem.W.makesIn K C = true)
    (hi : PySem.W.findIn K (.ref C) "__init__" = some (some (.builtin "object.__init__")))
    (hb : ∀ self, PySem.W.Looks (model prog w) s.heap (bindSpecial (.builtin "object.__init__") self) (.builtin "object.__init__", [self]))
    (h : codeAny (model prog w) (A.under (.builtin "type.__call__" ⟨[.ref C], []⟩)) (.call (.builtin "object.__init__") ⟨[.ref (s.heap.objs.size + 1)], []⟩) (PySem.W.InitBack (s.heap.objs.size + 1) R)
      { s with heap := (s.heap.push PySem.W.emptyDict).push (PySem.W.instObj C s.heap.objs.size) }) :
    codeAny (model prog w) A (.call (.ref C) ⟨[], []⟩) R s := by
  obtain ⟨hh, g, d, t, os⟩ := s
  exact PySem.W.make_core (PySem.W.makes_of X hm) (PySem.W.looks_findIn X hi) hb (.inr ⟨rfl, rfl⟩) h
end

/-! ### the attributes as a list of pairs -/
def putF (f : Str) (v : V) : List (Str × V) → List (Str × V)
  | [] => [(f, v)]
  | (g, x) :: r => if g = f then (g, v) :: r else (g, x) :: putF f v r
theorem lookup_putF (f g : Str) (v : V) : ∀ fs : List (Str × V), (putF f v fs).lookup g = if g = f then some v else fs.lookup g
  | [] => by
    show List.lookup g [(f, v)] = _
    by_cases h : g = f
    · have hb : (g == f) = true := beq_iff_eq.mpr h
      simp only [List.lookup, hb, if_pos h]
    · have hb : (g == f) = false := beq_eq_false_iff_ne.mpr h
      simp only [List.lookup, hb, if_neg h]
  | (k, x) :: r => by
    have ih := lookup_putF f g v r
    rw [show putF f v ((k, x) :: r) = (if k = f then (k, v) :: r else (k, x) :: putF f v r) from rfl]
    by_cases hk : k = f
    · rw [if_pos hk]
      by_cases h : g = k
      · have hb : (g == k) = true := beq_iff_eq.mpr h
        simp only [List.lookup, hb, if_pos (h.trans hk)]
      · have hb : (g == k) = false := beq_eq_false_iff_ne.mpr h
        simp only [List.lookup, hb, if_neg (fun e : g = f => h (e.trans hk.symm))]
    · rw [if_neg hk]
      by_cases h : g = k
      · have hb : (g == k) = true := beq_iff_eq.mpr h
        simp only [List.lookup, hb, if_neg (fun e : g = f => hk (h.symm.trans e))]
      · have hb : (g == k) = false := beq_eq_false_iff_ne.mpr h
        simp only [List.lookup, hb]
        exact ih
theorem keys_putF (f : Str) (v : V) : ∀ fs : List (Str × V), f ∈ (putF f v fs).map (·.1) ∧ ∀ g, g ∈ fs.map (·.1) → g ∈ (putF f v fs).map (·.1)
  | [] => ⟨by simp [putF], fun g h => by simp at h⟩
  | (k, x) :: r => by
    obtain ⟨i1, i2⟩ := keys_putF f v r
    rw [show putF f v ((k, x) :: r) = (if k = f then (k, v) :: r else (k, x) :: putF f v r) from rfl]
    by_cases hk : k = f
    · rw [if_pos hk]
      subst hk
      exact ⟨by simp, fun g h => by simpa using h⟩
    · rw [if_neg hk]
      refine ⟨?_, fun g h => ?_⟩
      · rw [List.map_cons]
        exact List.mem_cons_of_mem _ i1
      · rw [List.map_cons] at h ⊢
        rcases List.mem_cons.mp h with e | e
        · exact List.mem_cons.mpr (.inl e)
        · exact List.mem_cons_of_mem _ (i2 g e)
theorem length_putF (f : Str) (v : V) : ∀ fs : List (Str × V), (putF f v fs).length ≤ fs.length + 1
  | [] => by simp [putF]
  | (k, x) :: r => by
    have ih := length_putF f v r
    rw [show putF f v ((k, x) :: r) = (if k = f then (k, v) :: r else (k, x) :: putF f v r) from rfl]
    by_cases hk : k = f
    · rw [if_pos hk, List.length_cons, List.length_cons]; omega
    · rw [if_neg hk, List.length_cons, List.length_cons]; omega

theorem RelO.some_of {v : V} {o : Option Value} (r : RelO (some v) o) : ∃ u, o = some u ∧ RelV v u := by
  cases o with
  | none => exact (show False from r).elim
  | some u => exact ⟨u, rfl, r⟩
theorem RelO.none_of {o : Option Value} (r : RelO none o) : o = none := by
  cases o with
  | none => rfl
  | some u => exact (show False from r).elim
theorem handed_of {v : V} {u : Value} (r : RelV v u) : PySem.W.handedIn u = true := by
  cases v with
  | non => cases (show u = Value.none from r); rfl
  | bl b => cases (show u = Value.bool b from r); rfl
  | int i => obtain ⟨t, e⟩ := (show ∃ t, u = Value.int i t from r); cases e; rfl
  | str x => obtain ⟨t, e⟩ := (show ∃ t, u = Value.str x t from r); cases e; rfl
  | byt b => obtain ⟨t, e⟩ := (show ∃ t, u = Value.bytes b t from r); cases e; rfl
  | flt b => obtain ⟨t, e⟩ := (show ∃ t, u = Value.float b t from r); cases e; rfl
  | ref a => cases (show u = Value.ref a from r); rfl
  | ty n => cases (show u = Value.type n from r); rfl

section
variable {P : Program} {w : World} {H H' : Hp} {h h' : Heap} {a C dx : Addr} {fs fs' : List (Str × V)}
theorem ins_get (hok : HOk P w H h) (e : H a = some (.ins C dx fs)) : ∃ mA, ObjM h a dx C mA ∧ (∀ f, RelO (fs.lookup f) (mA f)) ∧ PySem.Within mA (fs.map (·.1)) ∧ fs.length ≤ 1000 ∧ H dx = some (.own a) := by
  obtain ⟨d, z, ne, ob, mA, n, r, q⟩ := (show ObjOk P w H h a (.ins C dx fs) from hok a _ e)
  exact ⟨mA, ⟨ob, n, ne⟩, r, q, z, d⟩
end

/-! ### what of the text a class must have -/
structure Cls (K : PySem.W.Frag) (C : Addr) : Prop where
  pg : PySem.W.plainGet K C Str.empty = true
  hd : PySem.W.hasDictIn K C = true
  po : PySem.W.plainOver K C = true
  sa : PySem.W.findIn K (.ref C) "__setattr__" = some (some (.builtin "object.__setattr__"))
theorem Cls.get {K : PySem.W.Frag} {C : Addr} (c : Cls K C) (f : Str) : PySem.W.plainGet K C f = true := c.pg
/-- no class of it has the name -/
def NoAttr (K : PySem.W.Frag) (C : Addr) (f : Str) : Prop := PySem.W.findIn K (.ref C) f = some none
theorem NoAttr.taker {K : PySem.W.Frag} {C : Addr} {f : Str} (n : NoAttr K C f) : PySem.W.takerIn K C f = some none := by
  unfold PySem.W.takerIn
  rw [show PySem.W.findIn K (.ref C) f = some none from n]
  rfl
/-- a constant of the class -/
structure Con (K : PySem.W.Frag) (C : Addr) (f : Str) (v : V) (u : Value) : Prop where
  at_ : PySem.W.findIn K (.ref C) f = some (some u)
  rel : RelV v u
  get : PySem.W.specialIn K u "__get__" = some none
  cp : PySem.W.copiedNames.contains f = false
/-- a method: a plain def of the class or of one above it -/
structure Meth (K : PySem.W.Frag) (C : Addr) (m : Str) (f : Addr) : Prop where
  at_ : PySem.W.findIn K (.ref C) m = some (some (.ref f))
  fn : PySem.W.isFn K (.ref f) = true
  kp : PySem.W.keepIn K (.ref f) = true

section
variable {X : Cx} {pins : List (Addr × Obj)} {σ : St} {H : Hp} {s : Shared} {a C dx : Addr} {fs : List (Str × V)} {f : Str} {v : V} {A : Around} {E : Value → Shared → Prop}

theorem getattr_ok {b : Bool} {Q : Value → Shared → Prop} (I : Inv X pins σ H s) (e : H a = some (.ins C dx fs)) (c : Cls X.K C) (n : NoAttr X.K C f) (l : fs.lookup f = some v)
    (h : ∀ u s', Inv X pins σ H s' → RelV v u → Q u s') : wpAny (model X.prog X.w) A (getAttr (.ref a) f b) Q E s := by
  obtain ⟨mA, O, r, _, _, _⟩ := ins_get I.hok e
  obtain ⟨u, hu, ru⟩ := RelO.some_of (v := v) (o := mA f) (by rw [← l]; exact r f)
  exact get_map I.kIn O (c.get f) c.hd n hu (handed_of ru) (h u _ (I.tok _) ru)

theorem getcon_ok {b : Bool} {u : Value} {Q : Value → Shared → Prop} (I : Inv X pins σ H s) (e : H a = some (.ins C dx fs)) (c : Cls X.K C) (k : Con X.K C f v u) (l : fs.lookup f = none)
    (h : ∀ s', Inv X pins σ H s' → Q u s') : wpAny (model X.prog X.w) A (getAttr (.ref a) f b) Q E s := by
  obtain ⟨mA, O, r, _, _, _⟩ := ins_get I.hok e
  have hn : mA f = none := RelO.none_of (by rw [← l]; exact r f)
  exact get_const I.kIn O (c.get f) c.hd k.at_ k.get k.cp hn (handed_of k.rel) (h _ (I.tok _))

theorem getmeth_ok {m : Str} {g : Addr} {pl : Sem Bool} {Q : Value × List Value → Shared → Prop} (I : Inv X pins σ H s) (e : H a = some (.ins C dx fs)) (c : Cls X.K C) (k : Meth X.K C m g) (l : fs.lookup m = none)
    (h : Q (.ref g, [.ref a]) s) : wpAny (model X.prog X.w) A (getMethod (.ref a) m pl) Q E s := by
  obtain ⟨mA, O, r, _, _, _⟩ := ins_get I.hok e
  have hn : mA m = none := RelO.none_of (by rw [← l]; exact r m)
  exact get_meth I.kIn O (c.get m) k.at_ k.fn hn h

theorem setattr_ok {y : V} {u : Value} {Q : Unit → Shared → Prop} (I : Inv X pins σ H s) (e : H a = some (.ins C dx fs)) (c : Cls X.K C) (n : NoAttr X.K C f) (hl : fs.length < 1000) (ry : RelV y u)
    (h : ∀ s', Inv X pins σ (upd H a (.ins C dx (putF f y fs))) s' → Q () s') : wpAny (model X.prog X.w) A (setAttr (.ref a) f u) Q E s := by
  obtain ⟨mA, O, r, wi, _, ho⟩ := ins_get I.hok e
  have hz : (fs.map (·.1)).length ≤ sizeLine := by rw [List.length_map, sizeLine_eq]; omega
  refine set_map I.kIn O c.sa c.po n.taker c.hd wi hz fun h' O' sb => h _ ?_
  have hd : ∃ o, h'.get? dx = some o := let ⟨o, _, _, e', _⟩ := O'.ns; ⟨o, e'⟩
  refine I.write (x := a) (e := dx) (by rw [e]; exact True.intro) (.inr ho) (fun b q hb z => (sb.2 b hb).trans z) hd ?_
  refine ⟨by rw [upd_ne O.ne]; exact ho, ?_, O.ne, O'.obj, _, O'.ns, fun g => ?_, fun g hg => ?_⟩
  · have := length_putF f y fs; omega
  · show RelO ((putF f y fs).lookup g) (if g = f then some u else mA g)
    rw [lookup_putF]
    by_cases q : g = f
    · rw [if_pos q, if_pos q]; exact ry
    · rw [if_neg q, if_neg q]; exact r g
  · by_cases q : g = f
    · rw [q]; exact (keys_putF f y fs).1
    · refine (keys_putF f y fs).2 g (wi g fun z => hg ?_)
      show (if g = f then some u else mA g) = none
      rw [if_neg q]; exact z

/-- a new instance, tracked, without attributes -/
theorem Inv.made (I : Inv X pins σ H s) : Inv X pins σ (upd (upd H s.heap.objs.size (.own (s.heap.objs.size + 1))) (s.heap.objs.size + 1) (.ins C s.heap.objs.size []))
    { s with heap := (s.heap.push PySem.W.emptyDict).push (PySem.W.instObj C s.heap.objs.size) } := by
  have e1 : (s.heap.push PySem.W.emptyDict).get? s.heap.objs.size = some PySem.W.emptyDict := Heap.get?_push_size s.heap rfl
  have e2 : ((s.heap.push PySem.W.emptyDict).push (PySem.W.instObj C s.heap.objs.size)).get? (s.heap.objs.size + 1) = some (PySem.W.instObj C s.heap.objs.size) := by
    have := Heap.get?_push_size (s.heap.push PySem.W.emptyDict) (o := PySem.W.instObj C s.heap.objs.size) rfl
    rwa [Heap.size_push] at this
  have e3 : (s.heap.push PySem.W.emptyDict).Ns s.heap.objs.size (fun _ => none) := ⟨PySem.W.emptyDict, #[], _, e1, rfl, (fun e he => absurd he (by simp)), fun _ => rfl⟩
  have I1 := I.laid (a := s.heap.objs.size) (o := .own (s.heap.objs.size + 1)) (h' := s.heap.push PySem.W.emptyDict) (t' := s.toks) (fun b u q => Heap.get?_push_of_some _ q) (Nat.le_refl _) ⟨_, e1⟩
  refine I1.laid (a := s.heap.objs.size + 1) (o := .ins C s.heap.objs.size []) (t' := s.toks) (fun b u q => Heap.get?_push_of_some _ q) (Nat.le_of_eq (Heap.size_push _ _)) ?_
  have ne : s.heap.objs.size ≠ s.heap.objs.size + 1 := Nat.ne_of_lt (Nat.lt_succ_self _)
  refine ⟨by rw [upd_ne ne, upd_same], Nat.zero_le _, ne, e2, fun _ => none, (Heap.Ns1.of_empty e3).at fun o q => Heap.get?_push_of_some _ q, fun _ => True.intro, fun y hy => absurd rfl hy⟩

/-- e.f where nothing but the object is asked: through attributeBase (super) and the last hold -/
theorem attr_of {prog : Program} {w : World} {env : Env} {e : Expr} {f : Str} {pos : Pos} {s : Shared} {Q : Value → Shared → Prop} (hb : attributeBase e f env (eval e env) = eval e env)
    (h : wpAny (model prog w) A (eval e env) (fun o s₁ => wpAny (model prog w) A (getAttr o f true) Q E s₁) E s) : wpAny (model prog w) A (eval (.Attribute e f pos) env) Q E s :=
  Attribute_any_ h (by rw [arm_eval_Attribute, hb])
end

/-! ### readings and rules -/
/-- e.f, an attribute of the instance -/
def tFld (K : PySem.W.Frag) (ta : TE) (f : Str) : TE := fun σ H Q => ta σ H fun x H1 => ∃ a C dx fs v, x = .ref a ∧ H1 a = some (.ins C dx fs) ∧ Cls K C ∧ NoAttr K C f ∧ fs.lookup f = some v ∧ Q v H1
/-- e.f, a constant of the class -/
def tCon (K : PySem.W.Frag) (ta : TE) (f : Str) : TE := fun σ H Q => ta σ H fun x H1 => ∃ a C dx fs v u, x = .ref a ∧ H1 a = some (.ins C dx fs) ∧ Cls K C ∧ Con K C f v u ∧ fs.lookup f = none ∧ Q v H1
/-- e.f = value -/
def sFld (K : PySem.W.Frag) (ta tv : TE) (f : Str) : TS := fun D σ H => tv σ H fun y H1 => ta σ H1 fun x H2 => ∃ a C dx fs, x = .ref a ∧ H2 a = some (.ins C dx fs) ∧ Cls K C ∧ NoAttr K C f ∧ fs.length < 1000 ∧
  D.nx σ (upd H2 a (.ins C dx (putF f y fs)))
/-- an augmented operator on two values -/
def InOp (X : Cx) (op : Operator) (rd : V → V → Hp → VK → Prop) : Prop :=
  ∀ (pins : List (Addr × Obj)) (s : Shared) (σ : St) (H : Hp) (x y : V) (u v : Value) (Q : VK), Inv X pins σ H s → RelV x u → RelV y v → rd x y H Q → wpAny (model X.prog X.w) X.A (inplaceOp op u v) (EP X pins σ Q) X.xe s
/-- e.f op= value -/
def sFldAug (K : PySem.W.Frag) (ta tv : TE) (rd : V → V → Hp → VK → Prop) (f : Str) : TS := fun D σ H => ta σ H fun x H1 => ∃ a C dx fs v, x = .ref a ∧ H1 a = some (.ins C dx fs) ∧ Cls K C ∧ NoAttr K C f ∧ fs.lookup f = some v ∧
  tv σ H1 fun y H2 => rd v y H2 fun z H3 => ∃ dx' fs', H3 a = some (.ins C dx' fs') ∧ fs'.length < 1000 ∧ D.nx σ (upd H3 a (.ins C dx' (putF f z fs')))

section
variable {X : Cx} {o e value : Expr} {f : Str} {pos pos' tpos : Pos} {ta tv : TE}
theorem pe_fld (he : PE X e ta) (hb : attributeBase e f X.env (eval e X.env) = eval e X.env) : PE X (.Attribute e f pos) (tFld X.K ta f) := by
  intro pins s σ H Q I h
  refine attr_of hb (thn (he pins s σ H _ I h) fun u s1 ⟨x, H1, I1, rx, a, C, dx, fs, v, ex, ea, c, n, l, q⟩ => ?_)
  subst ex
  obtain rfl : u = Value.ref a := rx
  exact getattr_ok I1 ea c n l fun u' s2 I2 ru => ⟨v, H1, I2, ru, q⟩
theorem pe_con (he : PE X e ta) (hb : attributeBase e f X.env (eval e X.env) = eval e X.env) : PE X (.Attribute e f pos) (tCon X.K ta f) := by
  intro pins s σ H Q I h
  refine attr_of hb (thn (he pins s σ H _ I h) fun u s1 ⟨x, H1, I1, rx, a, C, dx, fs, v, u0, ex, ea, c, k, l, q⟩ => ?_)
  subst ex
  obtain rfl : u = Value.ref a := rx
  exact getcon_ok I1 ea c k l fun s2 I2 => ⟨v, H1, I2, k.rel, q⟩
theorem ps_fld (ha : PE X o ta) (hv : PE X value tv) (hs : swapsWith value (some (.Attribute o f pos')) pos.line X.env = pure false) : PS X (.Assign [.Attribute o f pos'] value pos) (sFld X.K ta tv f) := by
  intro pins s σ H D I h
  refine plainObj_wpAny_Assign_Attribute (thn (hv pins s σ H _ I h) fun u s1 ⟨y, H1, I1, ry, q⟩ => thn (ha pins s1 σ H1 _ I1 q) fun ov s2 ⟨x, H2, I2, rx, a, C, dx, fs, ex, ea, c, n, l, q2⟩ => ?_) hs
  subst ex
  obtain rfl : ov = Value.ref a := rx
  exact setattr_ok I2 ea c n l ry fun s3 I3 => ⟨σ, _, I3, q2⟩
theorem ps_fldaug {op : Operator} {rd : V → V → Hp → VK → Prop} (ha : PE X o ta) (hv : PE X value tv) (hop : InOp X op rd) : PS X (.AugAssign (.Attribute o f tpos) op value pos) (sFldAug X.K ta tv rd f) := by
  intro pins s σ H D I h
  refine wpAny_AugAssign_AttributeAny (thn (ha pins s σ H _ I h) fun ov s1 ⟨x, H1, I1, rx, a, C, dx, fs, v, ex, ea, c, n, l, q⟩ => ?_)
  subst ex
  obtain rfl : ov = Value.ref a := rx
  refine getattr_ok I1 ea c n l fun u s2 I2 ru => thn (hv pins s2 σ H1 _ I2 q) fun w3 s3 ⟨y, H2, I3, ry, q3⟩ => thn (hop pins s3 σ H2 v y u w3 _ I3 ru ry q3) fun w4 s4 ⟨z, H3, I4, rz, dx', fs', ea', l', q4⟩ => ?_
  exact setattr_ok I4 ea' c n l' rz fun s5 I5 => ⟨σ, _, I5, q4⟩
def rAdd : V → V → Hp → VK → Prop := fun x y H Q => ∃ i j, x = .int i ∧ y = .int j ∧ Q (.int (i + j)) H
def rSub : V → V → Hp → VK → Prop := fun x y H Q => ∃ i j, x = .int i ∧ y = .int j ∧ Q (.int (i - j)) H
theorem in_add : InOp X .Add rAdd := by
  rintro pins s σ H x y u v Q I rx ry ⟨i, j, rfl, rfl, q⟩
  obtain ⟨t, rfl⟩ := (show ∃ t, u = Value.int i t from rx)
  obtain ⟨t', rfl⟩ := (show ∃ t', v = Value.int j t' from ry)
  exact PyProof.Rows.iadd_int ⟨.int (i + j), H, I.tok _, ⟨_, rfl⟩, q⟩
theorem in_sub : InOp X .Sub rSub := by
  rintro pins s σ H x y u v Q I rx ry ⟨i, j, rfl, rfl, q⟩
  obtain ⟨t, rfl⟩ := (show ∃ t, u = Value.int i t from rx)
  obtain ⟨t', rfl⟩ := (show ∃ t', v = Value.int j t' from ry)
  exact PyProof.Rows.isub_int ⟨.int (i - j), H, I.tok _, ⟨_, rfl⟩, q⟩

/-- what is between an instance and its method: the tree of a method call -/
theorem methcall_of {pl : Sem Bool} {m : Str} {apos : Pos} {args : List Expr} {pins : List (Addr × Obj)} {s : Shared} {σ : St} {H : Hp} {Q : Value → Shared → Prop} {te : TE} (he : PE X e te) (I : Inv X pins σ H s)
    (h : te σ H fun x H1 => ∃ a C dx fs g, x = .ref a ∧ H1 a = some (.ins C dx fs) ∧ Cls X.K C ∧ Meth X.K C m g ∧ fs.lookup m = none ∧
      ∀ s1, Inv X pins σ H1 s1 → wpAny (model X.prog X.w) X.A (callWith pos (.ref g) [.ref a] (backTo pos (starEach args X.env)) (backToKw pos (keywordEach [] X.env))) Q X.xe s1)
    (ht : eval (.Call (.Attribute e m apos) args [] pos) X.env = (do
      let ov ← eval e X.env
      standAt apos.atName
      let (f, first) ← holding [ov] (getMethod ov m pl)
      callWith pos f first (backTo pos (starEach args X.env)) (backToKw pos (keywordEach [] X.env)))) :
    wpAny (model X.prog X.w) X.A (eval (.Call (.Attribute e m apos) args [] pos) X.env) Q X.xe s := by
  refine PySem.W.methodCall_KW (pl := pl) (thn (he pins s σ H _ I h) fun u s1 ⟨x, H1, I1, rx, a, C, dx, fs, g, ex, ea, c, k, l, q⟩ => ?_) ht
  subst ex
  obtain rfl : u = Value.ref a := rx
  exact getmeth_ok I1 ea c k l (q s1 I1)
end

/-! ### isinstance -/
section
variable {X : Cx} {pins : List (Addr × Obj)} {σ : St} {H : Hp} {s : Shared} {A : Around} {E : Value → Shared → Prop} {Q : Value → Shared → Prop} {c : Value} {b : Bool}
/-- the type of a value, as the fragment's deciders take it; for an instance its class -/
inductive TyOf (K : PySem.W.Frag) (H : Hp) : V → Value → Prop where
  | non : TyOf K H .non (.type "NoneType")
  | bl (x : Bool) : TyOf K H (.bl x) (.type "bool")
  | int (i : Int) : TyOf K H (.int i) (.type "int")
  | str (x : Str) : TyOf K H (.str x) (.type "str")
  | flt (x : UInt64) : TyOf K H (.flt x) (.type "float")
  | lst {a : Addr} {xs : List V} (e : H a = some (.lst xs)) : TyOf K H (.ref a) (.type "list")
  | frz {a : Addr} {o : Obj} {xs : List V} (e : H a = some (.frz o (.lst xs))) : TyOf K H (.ref a) (.type "list")
  | tup {a : Addr} {xs : List V} (e : H a = some (.tup xs)) : TyOf K H (.ref a) (.type "tuple")
  | dK {a : Addr} {kvs : List (Key × V)} (e : H a = some (.dK kvs)) : TyOf K H (.ref a) (.type "dict")
  | dT {a : Addr} {kvs : List (List Key × V)} (e : H a = some (.dT kvs)) : TyOf K H (.ref a) (.type "dict")
  | ins {a C dx : Addr} {fs : List (Str × V)} (e : H a = some (.ins C dx fs)) (cl : Cls K C) (ha : PySem.W.findIn K (.ref C) "__class__" = some (some (.builtin "object.__class__")))
      (hn : PySem.W.specialIn K (.builtin "object.__class__") "__get__" = some (some (.builtin "getset_descriptor.__get__"))) (htk : PySem.W.takesIn K (.builtin "object.__class__") = some true)
      (hm : PySem.W.mroIn K C (.type "object") = some true) : TyOf K H (.ref a) (.ref C)
/-- isinstance(x, c) for one class c, a built-in or an own one: kitOne's answer -/
theorem isinst_ok {x : V} {u t : Value} (I : Inv X pins σ H s) (rx : RelV x u) (ty : TyOf X.K H x t) (e : PySem.W.kitOne X.K t c = some b) (h : ∀ tk, Q (.bool b) { s with toks := tk }) :
    wpAny (model X.prog X.w) A (call (.builtin "isinstance") [u, c]) Q E s := by
  cases ty with
  | non => cases (show u = Value.none from rx); exact PySem.W.kia_one PySem.W.kitx_none I.kIn True.intro e (fun z => nomatch z) h
  | bl y => cases (show u = Value.bool y from rx); exact PySem.W.kia_one PySem.W.kitx_bool I.kIn True.intro e (fun z => nomatch z) h
  | int i => obtain ⟨t, q⟩ := (show ∃ t, u = Value.int i t from rx); cases q; exact PySem.W.kia_one PySem.W.kitx_int I.kIn True.intro e (fun z => nomatch z) h
  | str y => obtain ⟨t, q⟩ := (show ∃ t, u = Value.str y t from rx); cases q; exact PySem.W.kia_one PySem.W.kitx_str I.kIn True.intro e (fun z => nomatch z) h
  | flt y => obtain ⟨t, q⟩ := (show ∃ t, u = Value.float y t from rx); cases q; exact PySem.W.kia_one PySem.W.kitx_float I.kIn True.intro e (fun z => nomatch z) h
  | @lst a xs ea =>
    cases (show u = Value.ref a from rx)
    obtain ⟨_, _, n, _, h1⟩ := (show ObjOk X.prog X.w H s.heap a (.lst xs) from I.hok a _ ea)
    exact PySem.W.kia_one PySem.W.kitx_list I.kIn ⟨_, h1, rfl⟩ e (fun z => nomatch z) h
  | @frz a ob xs ea =>
    cases (show u = Value.ref a from rx)
    obtain ⟨_, _, _, n, _, h1⟩ := (show ObjOk X.prog X.w H s.heap a (.frz ob (.lst xs)) from I.hok a _ ea)
    exact PySem.W.kia_one PySem.W.kitx_list I.kIn ⟨_, h1, rfl⟩ e (fun z => nomatch z) h
  | @tup a xs ea =>
    cases (show u = Value.ref a from rx)
    obtain ⟨_, _, _, p⟩ := (show ObjOk X.prog X.w H s.heap a (.tup xs) from I.hok a _ ea)
    obtain ⟨o, h1, h2, _⟩ := p
    exact PySem.W.kia_one PySem.W.kitx_tuple I.kIn ⟨o, h1, h2⟩ e (fun z => nomatch z) h
  | @dK a kvs ea =>
    cases (show u = Value.ref a from rx)
    obtain ⟨_, _, vs, _, p⟩ := (show ObjOk X.prog X.w H s.heap a (.dK kvs) from I.hok a _ ea)
    obtain ⟨o, es, ep, h1, h2, _⟩ := p
    exact PySem.W.kia_one PySem.W.kitx_dict I.kIn ⟨o, h1, h2.1⟩ e (fun z => nomatch z) h
  | @dT a kvs ea =>
    cases (show u = Value.ref a from rx)
    obtain ⟨_, _, xs, _, o, es, ep, h1, h2, _⟩ := (show ObjOk X.prog X.w H s.heap a (.dT kvs) from I.hok a _ ea)
    exact PySem.W.kia_one PySem.W.kitx_dict I.kIn ⟨o, h1, h2.1⟩ e (fun z => nomatch z) h
  | @ins a C dx fs ea cl ha hn htk hm =>
    cases (show u = Value.ref a from rx)
    obtain ⟨mA, O, _⟩ := ins_get I.hok ea
    obtain ⟨od, J, _⟩ := O.look
    exact PySem.W.kia_one (PySem.W.kitx_own (cl.get _) cl.hd ha hn htk hm) I.kIn J e (fun z => nomatch z) h
end
end L2

namespace L2
open PySem PySem.Spec PyProof.Rows

/-! ### room -/
structure Room (k : Nat) (A : Around) : Prop where
  hd : A.handled = none
  dp : A.depth + 3 * k + 5 < recursionLimit
  un : A.units + 16 * k + 200 < cLine
  gd : A.guards = some []
theorem Room.mono {j k : Nat} {A : Around} (r : Room k A) (h : j ≤ k) : Room j A := ⟨r.hd, by have := r.dp; omega, by have := r.un; omega, r.gd⟩
theorem Room.deeper {k : Nat} {A : Around} (r : Room (k + 1) A) (env : Env) : Room k (A.deeper env) :=
  ⟨r.hd, by have := r.dp; show A.depth + 1 + 3 * k + 5 < _; omega, by have := r.un; show A.units + 3 + 16 * k + 200 < _; omega, r.gd⟩
theorem Room.in1 {k : Nat} {A : Around} (r : Room (k + 1) A) : Room k A.in1 :=
  ⟨r.hd, by have := r.dp; show A.depth + 3 * k + 5 < _; omega, by have := r.un; show A.units + 1 + 16 * k + 200 < _; omega, r.gd⟩
theorem make_depth {A : Around} {C : Addr} {us : List Value} {kw : List (Str × Value)} : (A.under (.builtin "type.__call__" ⟨.ref C :: us, kw⟩)).depth = A.depth + 1 := by
  first | rfl | simp [Around.under, Code.weight, Code.isCreation, Code.isGuard, Code.isCaller, Code.frames, Code.isFrame, guardIds]
theorem make_units {A : Around} {C : Addr} {us : List Value} {kw : List (Str × Value)} : (A.under (.builtin "type.__call__" ⟨.ref C :: us, kw⟩)).units = A.units + 1 := by
  first | rfl | simp [Around.under, Code.cUnits, Code.frames, Code.isFrame]
theorem Room.make {k : Nat} {A : Around} (r : Room (k + 1) A) (C : Addr) (us : List Value) (kw : List (Str × Value)) : Room k (A.under (.builtin "type.__call__" ⟨.ref C :: us, kw⟩)) :=
  ⟨r.hd, by have := r.dp; rw [make_depth]; omega, by have := r.un; rw [make_units]; omega, by have := r.gd; simp [Around.under, this, pushGuards, Code.guards, Code.isGuard, guardIds]⟩
theorem Room.depth {k : Nat} {A : Around} (r : Room k A) : A.depth < recursionLimit := by have := r.dp; omega
theorem Room.units {k : Nat} {A : Around} (r : Room k A) : A.units + 64 < cLine := by have := r.un; omega
theorem Room.units0 {k : Nat} {A : Around} (r : Room k A) : A.units < cLine := by have := r.un; omega

/-! ### argument lists and displays -/
def tNil : TA := fun _ H Q => Q [] H
def tCons (ta : TE) (tr : TA) : TA := fun σ H Q => ta σ H fun x H1 => tr σ H1 fun xs H2 => Q (x :: xs) H2
section
variable {X : Cx} {e : Expr} {es : List Expr} {te : TE} {t : TA} {pos : Pos}
theorem pa_nil : PA X [] tNil := fun _ _ _ _ H Q I h => Calls.spliced_nil ⟨[], H, I, .nil, h⟩
theorem pa_cons (ha : PE X e te) (hr : PA X es t) (hs : starEach (e :: es) X.env = (false, eval e X.env) :: starEach es X.env := by rfl) : PA X (e :: es) (tCons te t) := by
  intro pos pins s σ H Q I h
  rw [hs]
  show wpAny _ _ (spliced ((false, eval e X.env) :: backTo pos (starEach es X.env))) _ _ s
  refine Calls.spliced_cons (thn (ha pins s σ H _ I h) fun u s1 ⟨x, H1, I1, r1, q1⟩ => ?_)
  exact thn (hr pos pins s1 σ H1 _ I1 q1) fun us s2 ⟨xs, H2, I2, r2, q2⟩ => ⟨x :: xs, H2, I2, .cons r1 r2, q2⟩

/-- a tuple, a list of written items -/
def tTup (t : TA) : TE := fun σ H Q => t σ H fun xs H1 => xs.length ≤ sizeLine ∧ ∀ p, H1 p = none → Q (.ref p) (upd H1 p (.tup xs))
def tLst (t : TA) : TE := fun σ H Q => t σ H fun xs H1 => xs.length ≤ sizeLine ∧ ∀ p, H1 p = none → Q (.ref p) (upd H1 p (.lst xs))
theorem pe_tup {x1} (h : PA X es t) : PE X (.Tuple es x1 pos) (tTup t) := by
  intro pins s σ H Q I hq
  refine wpAny_Tuple_spliced (thn (h pos pins s σ H _ I hq) fun us s1 ⟨xs, H1, I1, r, z, q⟩ => ⟨by rw [← r.length]; exact z, ?_⟩)
  have hf : H1 s1.heap.objs.size = none := I1.hok.fresh (Nat.le_refl _)
  refine ⟨.ref s1.heap.objs.size, upd H1 s1.heap.objs.size (.tup xs), I1.laid (t' := s1.toks) (fun b u e => Heap.get?_push_of_some _ e) (Nat.le_refl _) ?_, rfl, q _ hf⟩
  exact ⟨z, us, r, ⟨_, Heap.get?_push_size _ rfl, rfl, _, rfl⟩⟩
theorem pe_lst (h : PA X es t) : PE X (.List es pos) (tLst t) := by
  intro pins s σ H Q I hq
  refine wpAny_List_spliced (thn (h pos pins s σ H _ I hq) fun us s1 ⟨xs, H1, I1, r, z, q⟩ => ⟨by rw [← r.length]; exact z, ?_⟩)
  have hf : H1 s1.heap.objs.size = none := I1.hok.fresh (Nat.le_refl _)
  refine ⟨.ref s1.heap.objs.size, upd H1 s1.heap.objs.size (.lst xs), I1.laid (t' := s1.toks) (fun b u e => Heap.get?_push_of_some _ e) (Nat.le_refl _) ?_, rfl, q _ hf⟩
  exact ⟨z, us, 0, r, Heap.get?_push_size _ rfl⟩
end

/-! ### what a def promises -/
/-- a def's promise: the bound arguments in the parameters' order, the heap, the wanted end, the wanted exception -/
abbrev Sp := List V → Hp → VK → XK → Prop
/-- how an exception lies behind a call (file 08 gives it): the callers' frames, abstract heap and state ahead of the call, the wish, the exception, the state -/
abbrev CXT := List Env → Hp → Shared → XK → Value → Shared → Prop

/-- the state at a call -/
structure Env0 (P : Program) (w : World) (K : PySem.W.Frag) (mg : Str → Option Value) (base : Heap) (A : Around) (outer : List Env) (s : Shared) (H : Hp) : Prop where
  frames : A.frames = some outer
  mod : Mod K mg base
  bs : ∀ b o, base.get? b = some o → s.heap.get? b = some o ∧ H b = none
  bsz : base.objs.size ≤ s.heap.objs.size
  funs : s.heap.FunFrames base outer
  frf : ∀ b ∈ frs outer, H b = none
  hok : HOk P w H s.heap
  bare : AllBare s.gens
/-- a call's end -/
def CE (outer : List Env) (P : Program) (w : World) (H : Hp) (s : Shared) (Q : VK) (u : Value) (s' : Shared) : Prop :=
  ∃ v H', s'.os = s.os ∧ AllBare s'.gens ∧ Un (frs outer) [] H H' s.heap s'.heap ∧ HOk P w H' s'.heap ∧ RelV v u ∧ Q v H'
def CR (CX : CXT) (outer : List Env) (P : Program) (w : World) (H : Hp) (s : Shared) (Q : VK) (E : XK) (r : Result) (s' : Shared) : Prop :=
  match r with
  | .ok (.ret u) => CE outer P w H s Q u s'
  | .ok _ => False
  | .error e => CX outer H s E e s'
structure FnOk (P : Program) (w : World) (K : PySem.W.Frag) (mg : Str → Option Value) (base : Heap) (CX : CXT) (k : Nat) (f : Addr) (fd : FuncData) (ps : List Str) (sp : Sp) : Prop where
  len : ∀ vs H Q E, sp vs H Q E → vs.length = ps.length
  run : ∀ (A : Around) (outer : List Env) (s : Shared) (H : Hp) (args : Args) (us : List Value) (vs : List V) (Q : VK) (E : XK), Room k A → Env0 P w K mg base A outer s H → BindsTo s fd args (ps.zip us) → Vals vs us → sp vs H Q E →
    codeAny (model P w) A (.call (.ref f) args) (CR CX outer P w H s Q E) s
theorem FnOk.mono {P : Program} {w : World} {K : PySem.W.Frag} {mg : Str → Option Value} {base : Heap} {CX : CXT} {j k : Nat} {f : Addr} {fd : FuncData} {ps : List Str} {sp : Sp} (F : FnOk P w K mg base CX j f fd ps sp) (h : j ≤ k) :
    FnOk P w K mg base CX k f fd ps sp := ⟨F.len, fun A outer s H args us vs Q E hr => F.run A outer s H args us vs Q E (hr.mono h)⟩
/-- a weaker promise -/
theorem FnOk.imp {P : Program} {w : World} {K : PySem.W.Frag} {mg : Str → Option Value} {base : Heap} {CX : CXT} {k : Nat} {f : Addr} {fd : FuncData} {ps : List Str} {sp sp' : Sp} (F : FnOk P w K mg base CX k f fd ps sp)
    (h : ∀ vs H Q E, sp' vs H Q E → sp vs H Q E) : FnOk P w K mg base CX k f fd ps sp' :=
  ⟨fun vs H Q E q => F.len vs H Q E (h _ _ _ _ q), fun A outer s H args us vs Q E hr he hb hv hs => F.run A outer s H args us vs Q E hr he hb hv (h _ _ _ _ hs)⟩

theorem Env0.make {P : Program} {w : World} {K : PySem.W.Frag} {mg : Str → Option Value} {base : Heap} {A : Around} {outer : List Env} {s : Shared} {H : Hp} (e : Env0 P w K mg base A outer s H) (C : Addr) (us : List Value) (kw : List (Str × Value)) :
    Env0 P w K mg base (A.under (.builtin "type.__call__" ⟨.ref C :: us, kw⟩)) outer s H := ⟨by first | exact e.frames | (simpa [Around.under, Code.envs, Code.isFrame, pushEnvs] using e.frames), e.mod, e.bs, e.bsz, e.funs, e.frf, e.hok, e.bare⟩
theorem Env0.in1 {P : Program} {w : World} {K : PySem.W.Frag} {mg : Str → Option Value} {base : Heap} {A : Around} {outer : List Env} {s : Shared} {H : Hp} (e : Env0 P w K mg base A outer s H) :
    Env0 P w K mg base A.in1 outer s H := ⟨e.frames, e.mod, e.bs, e.bsz, e.funs, e.frf, e.hok, e.bare⟩

section
variable {X : Cx} {pins : List (Addr × Obj)} {σ : St} {H : Hp} {s s' : Shared}
/-- from a body: what a callee wants -/
theorem Inv.env0 (I : Inv X pins σ H s) : Env0 X.prog X.w X.K X.mg X.base X.A X.stack s H :=
  ⟨I.ok.frames, I.ok.mod, I.bs, Nat.le_trans I.ok.bsz I.sz, I.stack, I.stkFree, I.hok, I.bare⟩
/-- behind a call -/
theorem Inv.after {Q : VK} {u : Value} (I : Inv X pins σ H s) (h : CE X.stack X.prog X.w H s Q u s') : EP X pins σ Q u s' := by
  obtain ⟨v, H', os, bare, un, hok, r, q⟩ := h
  obtain ⟨hh, g, d, t, os'⟩ := s'
  obtain rfl : os' = s.os := os
  exact ⟨v, H', I.call (h' := hh) (g' := g) (d' := d) (t' := t) (ch := []) un hok bare (fun b z => absurd z (by simp)), r, q⟩
end

/-! ### calls -/
/-- f(..): the written arguments, then the defaults dvs; E: what is wanted of an exception -/
def tCall (sp : Sp) (dvs : List V) (E : XK) (t : TA) : TE := fun σ H Q => t σ H fun vs H1 => sp (vs ++ dvs) H1 Q E
/-- o.m(..) of an instance of the class at C -/
def tMeth (C : Addr) (m : Str) (sp : Sp) (dvs : List V) (E : XK) (ta : TE) (t : TA) : TE := fun σ H Q => ta σ H fun x H1 => ∃ a dx fs, x = .ref a ∧ H1 a = some (.ins C dx fs) ∧ fs.lookup m = none ∧
  t σ H1 fun vs H2 => sp (x :: (vs ++ dvs)) H2 Q E
/-- C(..): a new instance and its dict, then __init__ -/
def tMake (C : Addr) (sp : Sp) (dvs : List V) (E : XK) (t : TA) : TE := fun σ H Q => t σ H fun vs H1 => ∀ x dx, H1 x = none → H1 dx = none → dx ≠ x →
  sp (.ref x :: (vs ++ dvs)) (upd (upd H1 dx (.own x)) x (.ins C dx [])) (fun v H2 => v = .non ∧ Q (.ref x) H2) E

/-- how the parameters are bound: us the positional arguments, kw the keywords' values by name, ds the defaults that fill up -/
def Binds (K : PySem.W.Frag) (fd : FuncData) (ps : List Str) (ds : List Value) : Prop :=
  ∀ (s : Shared) (us : List Value), K.In s.heap → (us ++ ds).length = ps.length → BindsTo s fd ⟨us, []⟩ (ps.zip (us ++ ds))
/-- every parameter is given -/
theorem Binds.all {K : PySem.W.Frag} {fd : FuncData} {ps : List Str} (h : ∀ us : List Value, us.length = ps.length → bindArgs fd ⟨us, []⟩ = pure (ps.zip us)) : Binds K fd ps [] := fun s us _ hl => by
  rw [List.append_nil] at hl ⊢
  exact .of_eq (h us hl)

/-- an exception of a callee reaches what this body wants of exceptions -/
def Passes (CX : CXT) (X : Cx) (E : XK) : Prop := ∀ (pins : List (Addr × Obj)) (σ : St) (H : Hp) (s : Shared) (e : Value) (s' : Shared), Inv X pins σ H s → CX X.stack H s E e s' → X.xe e s'

section
variable {X : Cx} {CX : CXT} {k : Nat} {f C : Addr} {fd : FuncData} {ps : List Str} {sp : Sp} {dvs : List V} {ds : List Value} {E : XK} {x m : Str} {p pos apos : Pos} {e o : Expr} {es : List Expr} {ta : TE} {t : TA}

/-- the callee runs -/
theorem run_fn {pins : List (Addr × Obj)} {σ : St} {H : Hp} {s : Shared} {Q : VK} {us : List Value} {vs : List V} (F : FnOk X.prog X.w X.K X.mg X.base CX k f fd ps sp) (hr : Room k X.A) (hb : Binds X.K fd ps ds) (hd : Vals dvs ds) (hx : Passes CX X E)
    (I : Inv X pins σ H s) (r : Vals vs us) (h : sp (vs ++ dvs) H Q E) : wpAny (model X.prog X.w) X.A (call (.ref f) us) (EP X pins σ Q) X.xe s := by
  have r2 : Vals (vs ++ dvs) (us ++ ds) := r.append hd
  have hl : (us ++ ds).length = ps.length := by rw [← r2.length]; exact F.len _ _ _ _ h
  refine wpAny_call (codeAny_mono (F.run X.A X.stack s H ⟨us, []⟩ (us ++ ds) (vs ++ dvs) Q E hr I.env0 (hb s us I.kIn hl) r2 h) fun r s' hq => ?_)
  cases r with
  | error e => exact hx pins σ H s e s' I hq
  | ok fl =>
    cases fl with
    | ret u => exact I.after hq
    | next => exact False.elim hq
    | brk => exact False.elim hq
    | cont => exact False.elim hq

theorem pe_call (F : FnOk X.prog X.w X.K X.mg X.base CX k f fd ps sp) (hr : Room k X.A) (hg : Gl X x) (hm : X.mg x = some (.ref f)) (hk : PySem.W.keepIn X.K (.ref f) = true) (hb : Binds X.K fd ps ds) (hd : Vals dvs ds) (hx : Passes CX X E)
    (ha : PA X (e :: es) t) (hdb : (x == ("__debug__" : Str)) = false := by decide) (he : starEach (e :: es) X.env = (false, eval e X.env) :: starEach es X.env := by rfl) (hpl : (backTo pos (starEach es X.env)).any (·.1) = false := by rfl) :
    PE X (.Call (.Name x p) (e :: es) [] pos) (tCall sp dvs E t) := by
  intro pins s σ H Q I h
  refine wpAny_Call_Name_kw (ld_glob I hg hm ?_ hdb)
  refine PySem.W.callWith_K (h₀ := X.base) I.ok.mod.kin hk (thn (ha pos pins s σ H _ I h) fun us s1 ⟨vs, H1, I1, r, q⟩ => ⟨I1.kIn, ?_⟩) he hpl
  exact run_fn F hr hb hd hx I1 r q
theorem pe_call0 (F : FnOk X.prog X.w X.K X.mg X.base CX k f fd ps sp) (hr : Room k X.A) (hg : Gl X x) (hm : X.mg x = some (.ref f)) (hk : PySem.W.keepIn X.K (.ref f) = true) (hb : Binds X.K fd ps ds) (hd : Vals dvs ds) (hx : Passes CX X E)
    (hdb : (x == ("__debug__" : Str)) = false := by decide) : PE X (.Call (.Name x p) [] [] pos) (tCall sp dvs E tNil) := by
  intro pins s σ H Q I h
  refine wpAny_Call_Name_kw (ld_glob I hg hm ?_ hdb)
  exact PySem.W.callWith_K0 I.kIn hk (run_fn (us := []) F hr hb hd hx I .nil h)

/-- o.m(e, ..) -/
theorem pe_meth {pl : Sem Bool} (he : PE X o ta) (c : Cls X.K C) (hm : Meth X.K C m f) (F : FnOk X.prog X.w X.K X.mg X.base CX k f fd ps sp) (hr : Room k X.A) (hb : Binds X.K fd ps ds) (hd : Vals dvs ds) (hx : Passes CX X E) (ha : PA X (e :: es) t)
    (hst : starEach (e :: es) X.env = (false, eval e X.env) :: starEach es X.env := by rfl) (hpl : (backTo pos (starEach es X.env)).any (·.1) = false := by rfl)
    (ht : eval (.Call (.Attribute o m apos) (e :: es) [] pos) X.env = (do
      let ov ← eval o X.env
      standAt apos.atName
      let (f, first) ← holding [ov] (getMethod ov m pl)
      callWith pos f first (backTo pos (starEach (e :: es) X.env)) (backToKw pos (keywordEach [] X.env))) := by rfl) :
    PE X (.Call (.Attribute o m apos) (e :: es) [] pos) (tMeth C m sp dvs E ta t) := by
  intro pins s σ H Q I h
  refine PySem.W.methodCall_KW (pl := pl) (thn (he pins s σ H _ I h) fun u s1 ⟨x, H1, I1, rx, a, dx, fs, ex, ea, l, q⟩ => ?_) ht
  subst ex
  obtain rfl : u = Value.ref a := rx
  refine getmeth_ok I1 ea c hm l ?_
  refine PySem.W.callWith_K (first := [.ref a]) (h₀ := X.base) I.ok.mod.kin hm.kp (thn (ha pos pins s1 σ H1 _ I1 q) fun us s2 ⟨vs, H2, I2, r, q2⟩ => ⟨I2.kIn, ?_⟩) hst hpl
  exact run_fn (us := .ref a :: us) (vs := .ref a :: vs) F hr hb hd hx I2 (.cons rfl r) q2
/-- o.m() -/
theorem pe_meth0 {pl : Sem Bool} (he : PE X o ta) (c : Cls X.K C) (hm : Meth X.K C m f) (F : FnOk X.prog X.w X.K X.mg X.base CX k f fd ps sp) (hr : Room k X.A) (hb : Binds X.K fd ps ds) (hd : Vals dvs ds) (hx : Passes CX X E)
    (ht : eval (.Call (.Attribute o m apos) [] [] pos) X.env = (do
      let ov ← eval o X.env
      standAt apos.atName
      let (f, first) ← holding [ov] (getMethod ov m pl)
      callWith pos f first (backTo pos (starEach [] X.env)) (backToKw pos (keywordEach [] X.env))) := by rfl) :
    PE X (.Call (.Attribute o m apos) [] [] pos) (tMeth C m sp dvs E ta tNil) := by
  intro pins s σ H Q I h
  refine PySem.W.methodCall_KW (pl := pl) (thn (he pins s σ H _ I h) fun u s1 ⟨x, H1, I1, rx, a, dx, fs, ex, ea, l, q⟩ => ?_) ht
  subst ex
  obtain rfl : u = Value.ref a := rx
  refine getmeth_ok I1 ea c hm l ?_
  exact PySem.W.callWith_K0 (first := [.ref a]) I1.kIn hm.kp (run_fn (us := [.ref a]) (vs := [.ref a]) F hr hb hd hx I1 (.cons rfl .nil) q)

/-- what a class must have to be made -/
structure Mk (K : PySem.W.Frag) (C f : Addr) : Prop where
  makes : PySem.W.makesIn K C = true
  init : PySem.W.findIn K (.ref C) "__init__" = some (some (.ref f))
  fn : PySem.W.isFn K (.ref f) = true
  kp : PySem.W.keepIn K (.ref C) = true

theorem run_make {pins : List (Addr × Obj)} {σ : St} {H : Hp} {s : Shared} {Q : VK} {us : List Value} {vs : List V} (M : Mk X.K C f) (F : FnOk X.prog X.w X.K X.mg X.base CX k f fd ps sp) (hr : Room (k + 1) X.A) (hb : Binds X.K fd ps ds) (hd : Vals dvs ds)
    (hx : Passes CX X E) (I : Inv X pins σ H s) (r : Vals vs us)
    (h : ∀ x dx, H x = none → H dx = none → dx ≠ x → sp (.ref x :: (vs ++ dvs)) (upd (upd H dx (.own x)) x (.ins C dx [])) (fun v H2 => v = .non ∧ Q (.ref x) H2) E) :
    wpAny (model X.prog X.w) X.A (call (.ref C) us) (EP X pins σ Q) X.xe s := by
  have hq := h (s.heap.objs.size + 1) s.heap.objs.size (I.hok.fresh (Nat.le_succ _)) (I.hok.fresh (Nat.le_refl _)) (Nat.ne_of_lt (Nat.lt_succ_self _))
  have I2 := Inv.made (C := C) I
  have r2 : Vals (V.ref (s.heap.objs.size + 1) :: (vs ++ dvs)) (Value.ref (s.heap.objs.size + 1) :: (us ++ ds)) := .cons rfl (r.append hd)
  have hl : (Value.ref (s.heap.objs.size + 1) :: us ++ ds).length = ps.length := by
    have e := r2.length
    rw [F.len _ _ _ _ hq] at e
    exact e.symm
  refine wpAny_call (make_map (f := f) I.kIn M.makes M.init (beq_iff_eq.mp M.fn) (codeAny_mono (F.run _ X.stack _ _ ⟨Value.ref (s.heap.objs.size + 1) :: us, []⟩ (Value.ref (s.heap.objs.size + 1) :: (us ++ ds)) _ _ E (hr.make C us [])
    (I2.env0.make C us []) (hb _ (Value.ref (s.heap.objs.size + 1) :: us) I2.kIn hl) r2 hq) fun r s' hq' => ?_))
  cases r with
  | error e => exact hx pins σ _ _ e s' I2 hq'
  | ok fl =>
    cases fl with
    | ret u =>
      obtain ⟨v, H', I3, rv, ev, q3⟩ := I2.after hq'
      subst ev
      exact ⟨rv, ⟨V.ref (s.heap.objs.size + 1), H', I3, rfl, q3⟩⟩
    | next => exact False.elim hq'
    | brk => exact False.elim hq'
    | cont => exact False.elim hq'
theorem pe_make (M : Mk X.K C f) (F : FnOk X.prog X.w X.K X.mg X.base CX k f fd ps sp) (hr : Room (k + 1) X.A) (hg : Gl X x) (hm : X.mg x = some (.ref C)) (hb : Binds X.K fd ps ds) (hd : Vals dvs ds) (hx : Passes CX X E)
    (ha : PA X (e :: es) t) (hdb : (x == ("__debug__" : Str)) = false := by decide) (he : starEach (e :: es) X.env = (false, eval e X.env) :: starEach es X.env := by rfl) (hpl : (backTo pos (starEach es X.env)).any (·.1) = false := by rfl) :
    PE X (.Call (.Name x p) (e :: es) [] pos) (tMake C sp dvs E t) := by
  intro pins s σ H Q I h
  refine wpAny_Call_Name_kw (ld_glob I hg hm ?_ hdb)
  refine PySem.W.callWith_K (h₀ := X.base) I.ok.mod.kin M.kp (thn (ha pos pins s σ H _ I h) fun us s1 ⟨vs, H1, I1, r, q⟩ => ⟨I1.kIn, ?_⟩) he hpl
  exact run_make M F hr hb hd hx I1 r q
theorem pe_make0 (M : Mk X.K C f) (F : FnOk X.prog X.w X.K X.mg X.base CX k f fd ps sp) (hr : Room (k + 1) X.A) (hg : Gl X x) (hm : X.mg x = some (.ref C)) (hb : Binds X.K fd ps ds) (hd : Vals dvs ds) (hx : Passes CX X E)
    (hdb : (x == ("__debug__" : Str)) = false := by decide) : PE X (.Call (.Name x p) [] [] pos) (tMake C sp dvs E tNil) := by
  intro pins s σ H Q I h
  refine wpAny_Call_Name_kw (ld_glob I hg hm ?_ hdb)
  exact PySem.W.callWith_K0 I.kIn M.kp (run_make (us := []) M F hr hb hd hx I .nil h)
end

/-! ### keywords -/
/-- the values of the keywords, from the left -/
def PK (X : Cx) (kws : List Keyword) (t : TA) : Prop :=
  ∀ (pos : Pos) (pins : List (Addr × Obj)) (s : Shared) (σ : St) (H : Hp) (Q : List V → Hp → Prop), Inv X pins σ H s → t σ H Q → wpAny (model X.prog X.w) X.A (evalAll ((backToKw pos (keywordEach kws X.env)).map (·.2))) (AP X pins σ Q) X.xe s
section
variable {X : Cx} {CX : CXT} {k : Nat} {f C : Addr} {fd : FuncData} {ps ks : List Str} {sp : Sp} {E : XK} {x m : Str} {p pos apos kpos : Pos} {e o : Expr} {es : List Expr} {kws : List Keyword} {te ta : TE} {t tk : TA} {nm : Option Str}
theorem pk_nil : PK X [] tNil := fun _ _ _ _ H Q I h => wpAny_evalAll_nil ⟨[], H, I, .nil, h⟩
theorem pk_cons (ha : PE X e te) (hr : PK X kws t) : PK X (⟨nm, e, kpos⟩ :: kws) (tCons te t) := by
  intro pos pins s σ H Q I h
  show wpAny _ _ (evalAll ((do let v ← eval e X.env; standAt pos; pure v) :: (backToKw pos (keywordEach kws X.env)).map (·.2))) _ _ s
  refine wpAny_evalAll_cons (wpAny_bind (thn (ha pins s σ H _ I h) fun u s1 ⟨x, H1, I1, r1, q1⟩ => wpAny_bind (wpAny_standAt (wpAny_pure ?_))))
  exact thn (hr pos pins s1 σ H1 _ I1 q1) fun us s2 ⟨xs, H2, I2, r2, q2⟩ => ⟨x :: xs, H2, I2, .cons r1 r2, q2⟩

/-- how a call with keywords binds: g puts the positional values us and the keywords' values ws (names ks) in the parameters' order, defaults among them -/
structure KBinds (K : PySem.W.Frag) (fd : FuncData) (ps ks : List Str) (g : List Value → List Value → List Value) (gV : List V → List V → List V) : Prop where
  to : ∀ (s : Shared) (us ws : List Value), K.In s.heap → (g us ws).length = ps.length → BindsTo s fd ⟨us, ks.zip ws⟩ (ps.zip (g us ws))
  rel : ∀ {vs : List V} {us : List Value} {zs : List V} {ws : List Value}, Vals vs us → Vals zs ws → Vals (gV vs zs) (g us ws)
def tCallK (sp : Sp) (gV : List V → List V → List V) (E : XK) (t tk : TA) : TE := fun σ H Q => t σ H fun vs H1 => tk σ H1 fun zs H2 => sp (gV vs zs) H2 Q E
variable {g : List Value → List Value → List Value} {gV : List V → List V → List V}
theorem run_fnk {pins : List (Addr × Obj)} {σ : St} {H : Hp} {s : Shared} {Q : VK} {us ws : List Value} {vs zs : List V} (F : FnOk X.prog X.w X.K X.mg X.base CX k f fd ps sp) (hr : Room k X.A) (hb : KBinds X.K fd ps ks g gV) (hx : Passes CX X E)
    (I : Inv X pins σ H s) (r : Vals vs us) (rz : Vals zs ws) (h : sp (gV vs zs) H Q E) : wpAny (model X.prog X.w) X.A (call (.ref f) us (ks.zip ws)) (EP X pins σ Q) X.xe s := by
  have r2 := hb.rel r rz
  have hl : (g us ws).length = ps.length := by rw [← r2.length]; exact F.len _ _ _ _ h
  refine wpAny_call (codeAny_mono (F.run X.A X.stack s H ⟨us, ks.zip ws⟩ (g us ws) (gV vs zs) Q E hr I.env0 (hb.to s us ws I.kIn hl) r2 h) fun r s' hq => ?_)
  cases r with
  | error e => exact hx pins σ H s e s' I hq
  | ok fl =>
    cases fl with
    | ret u => exact I.after hq
    | next => exact False.elim hq
    | brk => exact False.elim hq
    | cont => exact False.elim hq
/-- f(e, .., k = v, ..) -/
theorem pe_callK (F : FnOk X.prog X.w X.K X.mg X.base CX k f fd ps sp) (hr : Room k X.A) (hg : Gl X x) (hm : X.mg x = some (.ref f)) (hk : PySem.W.keepIn X.K (.ref f) = true) (hb : KBinds X.K fd ps ks g gV) (hx : Passes CX X E)
    (ha : PA X (e :: es) t) (hkw : PK X kws tk) (hall : (backToKw pos (keywordEach kws X.env)).all (·.1.isSome) = true := by rfl) (hks : (backToKw pos (keywordEach kws X.env)).filterMap (·.1) = ks := by rfl)
    (hdb : (x == ("__debug__" : Str)) = false := by decide) (he : starEach (e :: es) X.env = (false, eval e X.env) :: starEach es X.env := by rfl)
    (hpl : ((backTo pos (starEach (e :: es) X.env)).any (·.1) || (backToKw pos (keywordEach kws X.env)).any (·.1.isNone)) = false := by rfl) :
    PE X (.Call (.Name x p) (e :: es) kws pos) (tCallK sp gV E t tk) := by
  intro pins s σ H Q I h
  refine wpAny_Call_Name_kw (ld_glob I hg hm ?_ hdb)
  refine PySem.W.callWith_KW (h₀ := X.base) I.ok.mod.kin hk hall (thn (ha pos pins s σ H _ I h) fun us s1 ⟨vs, H1, I1, r, q⟩ => ?_) hpl he
  refine thn (hkw pos pins s1 σ H1 _ I1 q) fun ws s2 ⟨zs, H2, I2, rz, q2⟩ => ⟨I2.kIn, ?_⟩
  rw [hks]
  exact run_fnk F hr hb hx I2 r rz q2
end

/-! ### a def's body keeps its promise -/
/-- names: the parameters first -/
structure FnScope (N P : List Str) (sc : Scope) : Prop where
  kind : sc.kind = .function
  co : sc.isCoroutine = false
  gen : sc.isGenerator = false
  nd : N.Nodup
  pre : N.take P.length = P
  par : ∀ x ∈ P, sc.names.lookup x = some .local ∨ sc.names.lookup x = some .cell
  nofree : ∀ y ∈ sc.names, y.2 ≠ .free

theorem bindL_out {kindOf : Str → Option NameKind} {x : Str} : ∀ {binds : List (Str × Value)} {m : Str → Option Value}, (∀ v, (x, v) ∉ binds) → bindL kindOf binds m x = m x
  | [], _, _ => rfl
  | (n, v) :: r, m, h => by
    unfold bindL
    rw [bindL_out fun w hw => h w (List.mem_cons_of_mem _ hw)]
    split
    · have : x ≠ n := by rintro rfl; exact h v List.mem_cons_self
      simp [this]
    · rfl
theorem bindC_out {kindOf : Str → Option NameKind} {x : Str} : ∀ {binds : List (Str × Value)} {m : Str → Option Value}, (∀ v, (x, v) ∉ binds) → bindC kindOf binds m x = m x
  | [], _, _ => rfl
  | (n, v) :: r, m, h => by
    unfold bindC
    rw [bindC_out fun w hw => h w (List.mem_cons_of_mem _ hw)]
    split
    · rfl
    · have : x ≠ n := by rintro rfl; exact h v List.mem_cons_self
      simp [this]
theorem bindL_get {kindOf : Str → Option NameKind} {x : Str} {v : Value} : ∀ {P : List Str} {vs : List Value} {i : Nat} {m : Str → Option Value}, P.Nodup → P[i]? = some x → vs[i]? = some v → kindOf x = some .local →
    bindL kindOf (P.zip vs) m x = some v
  | [], _, _, _, _, h, _, _ => by simp at h
  | _ :: _, [], _, _, _, _, h, _ => by simp at h
  | p :: P, w :: vs, 0, m, nd, h1, h2, hk => by
    simp at h1 h2; subst h1; subst h2
    show bindL kindOf ((p, w) :: P.zip vs) m p = _
    unfold bindL
    rw [bindL_out fun v hv => (List.nodup_cons.mp nd).1 (List.of_mem_zip hv).1, if_pos hk]
    simp
  | p :: P, w :: vs, i + 1, m, nd, h1, h2, hk => by
    show bindL kindOf ((p, w) :: P.zip vs) m x = _
    unfold bindL
    exact bindL_get (i := i) (List.nodup_cons.mp nd).2 (by simpa using h1) (by simpa using h2) hk
theorem bindC_get {kindOf : Str → Option NameKind} {x : Str} {v : Value} : ∀ {P : List Str} {vs : List Value} {i : Nat} {m : Str → Option Value}, P.Nodup → P[i]? = some x → vs[i]? = some v → kindOf x ≠ some .local →
    bindC kindOf (P.zip vs) m x = some v
  | [], _, _, _, _, h, _, _ => by simp at h
  | _ :: _, [], _, _, _, _, h, _ => by simp at h
  | p :: P, w :: vs, 0, m, nd, h1, h2, hk => by
    simp at h1 h2; subst h1; subst h2
    show bindC kindOf ((p, w) :: P.zip vs) m p = _
    unfold bindC
    rw [bindC_out fun v hv => (List.nodup_cons.mp nd).1 (List.of_mem_zip hv).1, if_neg hk]
    simp
  | p :: P, w :: vs, i + 1, m, nd, h1, h2, hk => by
    show bindC kindOf ((p, w) :: P.zip vs) m x = _
    unfold bindC
    exact bindC_get (i := i) (List.nodup_cons.mp nd).2 (by simpa using h1) (by simpa using h2) hk

/-- the names' values at the entry -/
def start (N : List Str) (vs : List V) : St := vs.map some ++ List.replicate (N.length - vs.length) none

/-- the context of a def's body, at its entry; an exception leaves the frame, then lies as CX says -/
def cxOf (CX : CXT) (P : Program) (w : World) (K : PySem.W.Frag) (mg : Str → Option Value) (base : Heap) (N : List Str) (qual : Str) (scope : Scope) (f : Addr) (cd : Value) (A : Around) (outer : List Env) (s : Shared) (H : Hp) (E : XK) : Cx where
  prog := P
  w := w
  K := K
  mg := mg
  base := base
  A := A.deeper (envOfC qual scope s.heap.objs.size f cd)
  N := N
  s₀ := s
  H₀ := H
  env := envOfC qual scope s.heap.objs.size f cd
  outer := outer
  stack := envOfC qual scope s.heap.objs.size f cd :: outer
  ex := []
  calm := true
  fn := fun _ => true
  pn := []
  xe := fun e s' => wpAny (model P w) (A.deeper (envOfC qual scope s.heap.objs.size f cd)) (leaving (envOfC qual scope s.heap.objs.size f cd) e) (fun _ s'' => CX outer H s E e s'') (fun e' s'' => CX outer H s E e' s'') s'

theorem cell_has {sc : Scope} {n : Nat} {x : Str} (h : sc.names.lookup x = some .cell) : ∃ c, (cellsFrom n sc.names []).lookup x = some c := by
  have q := PySem.W.cellsFrom_some sc.names n [] (.inl h)
  exact Option.isSome_iff_exists.mp q

theorem inv_start {CX : CXT} {P : Program} {w : World} {K : PySem.W.Frag} {mg : Str → Option Value} {base : Heap} {N ps : List Str} {qual : Str} {scope : Scope} {f : Addr} {cd : Value} {A : Around} {outer : List Env} {s s1 : Shared} {H : Hp} {E : XK} {us : List Value} {vs : List V}
    (S : FnScope N ps scope) (hd : A.handled = none) (e0 : Env0 P w K mg base A outer s H) (hl : vs.length = ps.length) (r : Vals vs us)
    (x : InCallC s s.heap.objs.size (bindL (envOfC qual scope s.heap.objs.size f cd).kindOf (ps.zip us) fun _ => none) (cellsFrom (s.heap.objs.size + 1) scope.names []) (bindC (envOfC qual scope s.heap.objs.size f cd).kindOf (ps.zip us) fun _ => none) s1) :
    Inv (cxOf CX P w K mg base N qual scope f cd A outer s H E) [] (start N vs) H s1 := by
  have hpl : ps.length ≤ N.length := by have := congrArg List.length S.pre; rw [List.length_take] at this; omega
  obtain ⟨h1, tk, rfl, hk⟩ := x.done
  have noA : ∀ b : Addr, b ∉ (cxOf CX P w K mg base N qual scope f cd A outer s H E).ex := fun b z => absurd (show b ∈ ([] : List Addr) from z) (by simp)
  refine ⟨⟨e0.mod, S.kind, rfl, rfl, Nat.le_refl _, fun y z c h1 h2 => ?_, fun y hy => ?_, fun y c _ h => ?_, fun _ => hd, Around.frames_deeper e0.frames, .inr ⟨rfl, rfl⟩, fun b z => absurd z (noA b), e0.bs, e0.bsz, fun b _ _ => noA b, fun b z => absurd z (noA b), e0.funs, e0.frf⟩,
    rfl, e0.bare, Un.kept hk, ⟨_, x.toInCall.ns, fun i y v h1 h2 h3 => ?_⟩, fun y c h => ⟨_, x.cell y c h⟩, e0.hok.fresh (Nat.le_refl _), fun y c h => ?_, fun p hp => absurd (show p ∈ ([] : List (Addr × Obj)) from hp) (by simp), e0.hok.kept hk, ?_⟩
  · exact name_of_addr x.apart (PySem.mem_of_lookup h1) (PySem.mem_of_lookup h2)
  · have hy : scope.names.lookup y = some .cell ∨ scope.names.lookup y = some .free := hy
    rcases hy with hy | hy
    · exact cell_has hy
    · exact absurd rfl (S.nofree _ (PySem.mem_of_lookup hy))
  · exact Nat.le_of_lt (x.above y c (PySem.mem_of_lookup h))
  · have hi : i < vs.length := by
      unfold start at h2
      by_cases hi : i < vs.length
      · exact hi
      · rw [List.getElem?_append_right (by simpa using hi)] at h2
        rw [List.getElem?_replicate] at h2
        split at h2 <;> cases h2
    have ha : vs[i]? = some v := by
      unfold start at h2
      rw [List.getElem?_append_left (by simpa using hi), List.getElem?_map] at h2
      cases e : vs[i]? with
      | none => rw [e] at h2; cases h2
      | some a => rw [e] at h2; cases h2; rfl
    obtain ⟨u, hu, rv⟩ := r.get ha
    have hp : ps[i]? = some y := by
      rw [← S.pre, List.getElem?_take_of_lt (by omega)]; exact h1
    have ndP : ps.Nodup := by rw [← S.pre]; exact S.nd.sublist (List.take_sublist _ _)
    refine ⟨u, rv, ?_⟩
    rcases S.par y (List.mem_of_getElem? hp) with k | k
    · exact .inl ⟨k, bindL_get ndP hp hu k⟩
    · obtain ⟨c, e⟩ := cell_has (n := s.heap.objs.size + 1) k
      refine .inr ⟨.inl k, c, e, ?_⟩
      have q := x.cell y c e
      rw [bindC_get ndP hp hu (by show scope.names.lookup y ≠ _; rw [k]; decide)] at q
      exact q
  · exact e0.hok.fresh (Nat.le_of_lt (x.above y c (PySem.mem_of_lookup h)))
  · unfold start
    show _ = N.length
    rw [List.length_append, List.length_map, List.length_replicate]
    omega

/-- THE RULE: a def (or a method) of the text, by its body. The body's reading t is chosen for each entry; it is run at the parameters' values -/
theorem fn_of {CX : CXT} {P : Program} {w : World} {K : PySem.W.Frag} {mg : Str → Option Value} {base : Heap} {k : Nat} {f : Addr} {name qual : Str} {params : Arguments} {body : List Stmt} {scope : Scope} {dV kV doc pm cdv ct oc : Value} {an od : Option Addr}
    {osl : Array (Option Value)} {N ps : List Str} {sp : Sp} (lk : K.lookup f = some ⟨oc, od, .func (PySem.W.fnOf name qual params body scope dV kV doc pm an cdv ct), osl⟩) (hcd : PySem.W.codeIn K cdv qual = true) (S : FnScope N ps scope)
    (len : ∀ vs H Q E, sp vs H Q E → vs.length = ps.length)
    (hbody : ∀ (A : Around) (outer : List Env) (s : Shared) (H : Hp) (vs : List V) (Q : VK) (E : XK), Room k (A.deeper (envOfC qual scope s.heap.objs.size f cdv)) → sp vs H Q E →
      ∃ t, PSs (cxOf CX P w K mg base N qual scope f cdv A outer s H E) body t ∧ t { nx := fun _ H' => Q .non H', rt := Q } (start N vs) H) :
    FnOk P w K mg base CX (k + 1) f (PySem.W.fnOf name qual params body scope dV kV doc pm an cdv ct) ps sp := by
  refine ⟨len, fun A outer s H args us vs Q E hr e0 hb r hsp => ?_⟩
  have hl := len _ _ _ _ hsp
  have KX : K.In s.heap := e0.mod.kin.keeps fun b o e => (e0.bs b o e).1
  have lim : s.heap.NoLimit := e0.mod.nolimit.keeps fun b o e => (e0.bs b o e).1
  have hkind : ∀ y ∈ ps.zip us, scope.names.lookup y.1 = some .local ∨ (scope.names.lookup y.1 = some .cell ∧ ((cellsFrom (s.heap.objs.size + 1) scope.names []).lookup y.1).isSome = true) := fun ⟨n, v⟩ hy => by
    rcases S.par n (List.of_mem_zip hy).1 with q | q
    · exact .inl q
    · exact .inr ⟨q, PySem.W.cellsFrom_some _ _ _ (.inl q)⟩
  refine codeAny_call_function hr.depth (KX _ _ lk) rfl S.co S.gen rfl (PySem.W.codeRec_of KX hcd) (hb _ _ _ _ ?_)
  refine wpAny_newFunctionEnv_cells S.kind hkind fun env he s1 x => ?_
  subst he
  refine ⟨lim.keeps x.toInCall.keep, codeAny_func ?_⟩
  obtain ⟨t, ht, hq⟩ := hbody A outer s H vs Q E (hr.deeper _) hsp
  have I : Inv (cxOf CX P w K mg base N qual scope f cdv A outer s H E) [] (start N vs) H s1 := inv_start S hr.hd e0 hl r x
  refine wpAny_mono (ht [] s1 (start N vs) H _ I hq) (fun fl s' hs => ?_) fun e s' hs => hs
  have fin : ∀ {σ' : St} {H' : Hp} {v : V} {u : Value}, Inv (cxOf CX P w K mg base N qual scope f cdv A outer s H E) [] σ' H' s' → RelV v u → Q v H' → CE outer P w H s Q u s' :=
    fun {σ' H' v u} J rv q => ⟨v, H', J.os, J.bare, J.base, J.hok, rv, q⟩
  cases fl with
  | ret u =>
    obtain ⟨v, σ', H', J, rv, q⟩ := hs
    exact fin J rv q
  | next =>
    obtain ⟨σ', H', J, q⟩ := hs
    exact fin (v := V.non) (u := Value.none) J rfl q
  | brk =>
    obtain ⟨_, _, _, q⟩ := hs
    exact False.elim q
  | cont =>
    obtain ⟨_, _, _, q⟩ := hs
    exact False.elim q
end L2

namespace L2
open PySem PySem.Spec PyProof.Rows
section
variable {X : Cx} {x : Str} {p pos : Pos} {e : Expr} {es : List Expr} {t : TA} {id T : String} {r : List V → Hp → VK → Prop}

def tCB (r : List V → Hp → VK → Prop) (t : TA) : TE := fun σ H Q => t σ H fun vs H1 => r vs H1 Q
/-- f(e, ..), f a built-in function -/
theorem pe_callB (hc : CallR X (.builtin id) r) (hg : Gl X x) (hm : X.mg x = none) (hv : bootBuiltins x = some (.builtin id)) (ha : PA X (e :: es) t) (hn : x ≠ "__name__" := by decide) (hdb : (x == ("__debug__" : Str)) = false := by decide)
    (he : starEach (e :: es) X.env = (false, eval e X.env) :: starEach es X.env := by rfl) (hpl : (backTo pos (starEach es X.env)).any (·.1) = false := by rfl) : PE X (.Call (.Name x p) (e :: es) [] pos) (tCB r t) := by
  intro pins s σ H Q I h
  refine wpAny_Call_Name_kw (ld_blt I hg hm hv ?_ hn hdb)
  exact PyProof.Rows.callWith_builtin1 (thn (ha pos pins s σ H _ I h) fun us s1 ⟨vs, H1, I1, r1, q1⟩ => hc pins s1 σ H1 vs us Q I1 r1 q1) he hpl
/-- T(e, ..), T a built-in type -/
theorem pe_callTy (hc : CallR X (.type T) r) (hg : Gl X x) (hm : X.mg x = none) (hv : bootBuiltins x = some (.type T)) (ha : PA X (e :: es) t) (hn : x ≠ "__name__" := by decide) (hdb : (x == ("__debug__" : Str)) = false := by decide)
    (he : starEach (e :: es) X.env = (false, eval e X.env) :: starEach es X.env := by rfl) (hpl : (backTo pos (starEach es X.env)).any (·.1) = false := by rfl) : PE X (.Call (.Name x p) (e :: es) [] pos) (tCB r t) := by
  intro pins s σ H Q I h
  refine wpAny_Call_Name_kw (ld_blt I hg hm hv ?_ hn hdb)
  exact PyProof.Rows.callWith_type1 (thn (ha pos pins s σ H _ I h) fun us s1 ⟨vs, H1, I1, r1, q1⟩ => hc pins s1 σ H1 vs us Q I1 r1 q1) he hpl
/-- T() -/
theorem pe_callTy0 (hc : CallR X (.type T) r) (hg : Gl X x) (hm : X.mg x = none) (hv : bootBuiltins x = some (.type T)) (hn : x ≠ "__name__" := by decide) (hdb : (x == ("__debug__" : Str)) = false := by decide) :
    PE X (.Call (.Name x p) [] [] pos) (tCB r tNil) := by
  intro pins s σ H Q I h
  refine wpAny_Call_Name_kw (ld_blt I hg hm hv ?_ hn hdb)
  exact PyProof.Rows.callWith_type0 (hc pins s σ H [] [] Q I .nil h)
end
end L2

namespace HT
open PySem PyProof.Rows

/-- t < u of tuples of ints -/
def lexLt : List Int → List Int → Bool
  | [], [] => false
  | [], _ :: _ => true
  | _ :: _, [] => false
  | x :: xs, y :: ys => if x = y then lexLt xs ys else decide (x < y)
theorem lexLt_cons (x y : Int) (xs ys : List Int) : lexLt (x :: xs) (y :: ys) = if x = y then lexLt xs ys else decide (x < y) := rfl
theorem lexLt_nil_nil : lexLt [] [] = false := rfl
theorem lexLt_nil_cons (y : Int) (ys : List Int) : lexLt [] (y :: ys) = true := rfl
theorem lexLt_cons_nil (x : Int) (xs : List Int) : lexLt (x :: xs) [] = false := rfl

theorem eqAt_int (A : Around) (s : Shared) (a : Int) (t : Tok) (c : Int) (u : Tok) : ∃ e, SeqAt.EqAt A s (.int a t) (.int c u) e ∧ (e = true ↔ a = c) :=
  ⟨(a == c), SeqAt.EqAt.int_int a t c u, by simp⟩
theorem rcLt_int (A : Around) (s : Shared) (a : Int) (t : Tok) (c : Int) (u : Tok) (prog : Program) (w : World) (E : Value → Shared → Prop) (Q : Value → Shared → Prop) (h : Q (.bool (decide (a < c))) s) :
    wpAny (model prog w) A (richCompare .Lt (.int a t) (.int c u)) Q E s :=
  (PyProof.Rows.lt_int h : wpAny (model prog w) A (compareOp .Lt (.int a t) (.int c u)) Q E s)

section
open PySem.SeqAt
open PySem.AutoSeq1 (wpAny_loadPart')
open PySem.MeetsSeq PySem.MeetsSeq2 PySem.MeetsSeq3

theorem tuple_lt_ints (l b : Addr) (items items2 : Array Value) (n n2 : Nat) (dd dd2 : Option Addr) (sl sl2 : Array (Option Value)) (ns ms : List Int) (hi : IntsAre items.toList ns) (hj : IntsAre items2.toList ms) :
    Meets (Builtin.«tuple.__lt__» ⟨[.ref l, .ref b], []⟩)
      (fun _ R s => s.heap.get? l = some { cls := .type "tuple", dict := dd, data := .seq items n, slots := sl } ∧ s.heap.get? b = some { cls := .type "tuple", dict := dd2, data := .seq items2 n2, slots := sl2 } ∧
        R (.ok (.ret (.bool (lexLt ns ms)))) s) :=
  .of_wp fun prog w A R s h => by
    obtain ⟨hp, g, d, tk, os⟩ := s; obtain ⟨hl, hb, h⟩ := h
    have f2 := AutoSeq1.sub_tuple_tuple
    have z1 : items.size = ns.length := by rw [← hi.length]; simp
    have z2 : items2.size = ms.length := by rw [← hj.length]; simp
    wp_walk using wpAny_loadPart' hl, wpAny_loadPart' hb, wpAny_forIn_list _ (fun rest b s' => b.1 = none ∧ s' = ⟨hp, g, d, tk, os⟩ ∧ ∃ (vs ws : List Value) (ns' ms' : List Int), rest = vs.zip ws ∧
      IntsAre vs ns' ∧ IntsAre ws ms' ∧ ns'.length + items2.size = ms'.length + items.size ∧ R (.ok (.ret (.bool (lexLt ns' ms')))) ⟨hp, g, d, tk, os⟩) _
    case turn =>
      rintro ⟨y, x⟩ rest b s' ⟨hb', rfl, vs, ws, ns', ms', hz, hvi, hwi, hlen, hR⟩
      cases hvi with
      | nil => rw [List.zip_nil_left] at hz; cases hz
      | cons a t hvi' =>
        cases hwi with
        | nil => rw [List.zip_nil_right] at hz; cases hz
        | cons c u hwi' =>
          rw [List.zip_cons_cons] at hz
          injection hz with hyx hrest
          injection hyx with hy hx
          subst hy hx
          rw [lexLt_cons] at hR
          simp only [List.length_cons] at hlen
          obtain ⟨e, he, hiff⟩ := eqAt_int A.in1 ⟨hp, g, d, tk, os⟩ a t c u
          refine wpAny_bind (he prog w _ _ ?_)
          cases e with
          | true =>
            rw [if_pos (hiff.mp rfl)] at hR
            wp_walk
            exact ⟨rfl, rfl, _, _, _, _, hrest, hvi', hwi', by omega, hR⟩
          | false =>
            rw [if_neg (fun q => absurd (hiff.mpr q) Bool.false_ne_true)] at hR
            have hri := rcLt_int A.in1 ⟨hp, g, d, tk, os⟩ a t c u prog w
            wp_walk using hri
            exact ⟨_, rfl, by simpa using hR⟩
    case fin =>
      rintro ⟨b1, b2⟩ s' ⟨hb', rfl, vs, ws, ns', ms', hz, hvi, hwi, hlen, hR⟩
      simp only at hb'
      subst hb'
      have hv : lexLt ns' ms' = decide (items.size < items2.size) := by
        cases hvi with
        | nil =>
          cases hwi with
          | nil =>
            simp only [List.length_nil] at hlen
            rw [lexLt_nil_nil]
            exact (decide_eq_false (by omega)).symm
          | cons c u hw =>
            simp only [List.length_nil, List.length_cons] at hlen
            rw [lexLt_nil_cons]
            exact (decide_eq_true (by omega)).symm
        | cons a t hv =>
          cases hwi with
          | nil =>
            simp only [List.length_nil, List.length_cons] at hlen
            rw [lexLt_cons_nil]
            exact (decide_eq_false (by omega)).symm
          | cons c u hw =>
            rw [List.zip_cons_cons] at hz
            cases hz
      rw [hv] at hR
      wp_walk
      exact ⟨_, rfl, by simpa [Builtin.Tuple.tupleCompareSizes] using hR⟩
    case h =>
      exact ⟨rfl, rfl, items.toList, items2.toList, ns, ms, rfl, hi, hj, by omega, h⟩
end

section
variable {prog : Program} {w : World} {A : Around} {E : Value → Shared → Prop} {s : Shared}

theorem lt_tupInts {l b : Addr} {items items2 : Array Value} {ns ms : List Int} {Q : Value → Shared → Prop} (hl : IsTup s.heap l items) (hb : IsTup s.heap b items2) (hi : IntsAre items.toList ns) (hj : IntsAre items2.toList ms)
    (hu : A.units < cLine) (h : Q (.bool (lexLt ns ms)) s) : wpAny (model prog w) A (compareOp .Lt (.ref l) (.ref b)) Q E s := by
  obtain ⟨⟨cls, dd, data, sl⟩, ho, hc, n, hd⟩ := id hl
  obtain ⟨⟨cls2, dd2, data2, sl2⟩, ho2, hc2, n2, hd2⟩ := id hb
  simp only at hc hd hc2 hd2
  subst hc hd hc2 hd2
  exact richCompare_meets_room (op := .Lt) ⟨_, ho, rfl⟩ ⟨_, ho2, rfl⟩ PySem.F.slot_tuple_lt PySem.F.entry_tuple_lt (PySem.F.args_tuple_lt_2 _ _) (tuple_lt_ints l b items items2 n n2 dd dd2 sl sl2 ns ms hi hj)
    ⟨ho, ho2, show Value.bool (lexLt ns ms) ≠ Value.notImplemented ∧ Q (.bool (lexLt ns ms)) s from ⟨(fun x => nomatch x), h⟩⟩ hu

/-- t + u, t not empty -/
theorem cat_tup {t b : Addr} {vs ws : List Value} {Q : Value → Shared → Prop} (ht : IsTup s.heap t vs.toArray) (hb : IsTup s.heap b ws.toArray) (hv : vs ≠ [])
    (h1 : ws = [] → Q (.ref t) s) (h2 : ws ≠ [] → Q (.ref s.heap.objs.size) { s with heap := s.heap.push { cls := .type "tuple", data := .seq (vs ++ ws).toArray } })
    (hsz : vs.length + ws.length ≤ sizeLine) : wpAny (model prog w) A (binaryOp .Add (.ref t) (.ref b)) Q E s := by
  obtain ⟨⟨cls, dd, data, sl⟩, ho, hc, n, hd⟩ := id ht
  obtain ⟨⟨cls2, dd2, data2, sl2⟩, ho2, hc2, n2, hd2⟩ := id hb
  simp only at hc hd hc2 hd2
  subst hc hd hc2 hd2
  have e : vs.toArray ++ ws.toArray = (vs ++ ws).toArray := by simp
  by_cases hw : ws = []
  · exact concat_meets ⟨_, ho, rfl⟩ ⟨_, ho2, rfl⟩ noFill_tuple_add seq_tuple_add PySem.F.slot_tuple_add PySem.F.entry_tuple_add (PySem.F.args_tuple_add_2 _ _)
      (tuple_addW1 t b vs.toArray ws.toArray n n2 dd dd2 sl sl2 (by simpa using hv) (by simp [hw])) ⟨ho, ho2, h1 hw⟩
  · refine concat_meets ⟨_, ho, rfl⟩ ⟨_, ho2, rfl⟩ noFill_tuple_add seq_tuple_add PySem.F.slot_tuple_add PySem.F.entry_tuple_add (PySem.F.args_tuple_add_2 _ _)
      (tuple_addW2 t b vs.toArray ws.toArray n n2 dd dd2 sl sl2 (by simpa using hv) (by simpa using hw) (by rw [List.size_toArray, List.size_toArray]; exact hsz)) ⟨ho, ho2, ?_⟩
    rw [e]
    exact h2 hw

/-! ### t[a:b], not the whole -/
/-- a slice's bound as a place among n (d where it is left out) -/
def sIx (n d : Nat) : Option Int → Nat
  | none => d
  | some v => if v < 0 then (v + (n : Int)).toNat else min v.toNat n
theorem sIx_none (n d : Nat) : sIx n d none = d := rfl
theorem sIx_nat (n d k : Nat) : sIx n d (some (k : Int)) = min k n := by
  show (if (k : Int) < 0 then ((k : Int) + (n : Int)).toNat else min (k : Int).toNat n) = min k n
  rw [if_neg (by omega), Int.toNat_natCast]
theorem sIx_le (n d : Nat) (hd : d ≤ n) (o : Option Int) : sIx n d o ≤ n := by
  cases o with
  | none => exact hd
  | some v =>
    show (if v < 0 then (v + (n : Int)).toNat else min v.toNat n) ≤ n
    by_cases hv : v < 0
    · rw [if_pos hv]; omega
    · rw [if_neg hv]; exact Nat.min_le_right _ _
theorem clip_eq (v : Int) (n d : Nat) : (if v < 0 then max (v + (n : Int)) 0 else min v (n : Int)) = ((sIx n d (some v) : Nat) : Int) := by
  show (if v < 0 then max (v + (n : Int)) 0 else min v (n : Int)) = (((if v < 0 then (v + (n : Int)).toNat else min v.toNat n) : Nat) : Int)
  by_cases hv : v < 0
  · simp only [if_pos hv]; omega
  · simp only [if_neg hv]; omega
theorem adjust_gen (lo hi : Option Int) (n : Nat) : Builtin.Slice.sliceAdjust lo hi 1 (n : Int) = (((sIx n 0 lo : Nat) : Int), ((sIx n n hi : Nat) : Int)) := by
  have h1 : ¬ ((1 : Int) < 0) := by omega
  unfold Builtin.Slice.sliceAdjust
  simp only [h1, if_false]
  refine Prod.ext ?_ ?_
  · cases lo with
    | none => rfl
    | some v => exact clip_eq v n 0
  · cases hi with
    | none => rfl
    | some v => exact clip_eq v n n
theorem places_gen (i j : Nat) : Builtin.Slice.slicePlaces (i : Int) (j : Int) 1 = j - i := by
  unfold Builtin.Slice.slicePlaces
  have h1 : (1 : Int) > 0 := by omega
  simp only [h1, if_true, Int.ediv_one]
  split <;> omega
theorem slicePart_ {v : Value} {o : Option Int} {Q : Option Int → Shared → Prop} (p : IsPart v o) (h : Q o s) : wpAny (model prog w) A (Builtin.Slice.slicePartIndex v) Q E s := by
  cases p with
  | none => exact slicePart_none h
  | int i t => exact slicePart_int h
theorem sliceApplied_gen {sl : Addr} {vl vu : Value} {lo hi : Option Int} {n : Nat} {Q : Int × Int × Nat → Shared → Prop} (hs : s.heap.IsSliceOf sl vl vu .none) (pl : IsPart vl lo) (pu : IsPart vu hi)
    (h : Q (((sIx n 0 lo : Nat) : Int), 1, sIx n n hi - sIx n 0 lo) s) : wpAny (model prog w) A (Builtin.Slice.sliceApplied (.ref sl) (pure (n : Int))) Q E s := by
  obtain ⟨os, hos, hcs, hds⟩ := id hs
  unfold Builtin.Slice.sliceApplied Builtin.Slice.sliceFields
  refine wpAny_bind (wpAny_bind (wpAny_field hos hds (x := vl) rfl (wpAny_bind (wpAny_field hos hds (x := vu) rfl (wpAny_bind (wpAny_field hos hds (x := .none) rfl (wpAny_pure ?_)))))))
  refine wpAny_bind (slicePart_none ?_)
  show wpAny _ _ (if ((1 : Int) == 0) = true then _ else _) _ _ s
  rw [if_neg (by decide)]
  refine wpAny_bind (slicePart_ pl (wpAny_bind (slicePart_ pu (wpAny_bind (wpAny_pure ?_)))))
  show wpAny _ _ (match Builtin.Slice.sliceAdjust lo hi 1 (n : Int) with | (lo, hi) => pure (lo, (1 : Int), Builtin.Slice.slicePlaces lo hi 1)) _ _ s
  rw [adjust_gen lo hi n]
  show wpAny _ _ (pure (((sIx n 0 lo : Nat) : Int), (1 : Int), Builtin.Slice.slicePlaces ((sIx n 0 lo : Nat) : Int) ((sIx n n hi : Nat) : Int) 1)) _ _ s
  rw [places_gen]
  exact wpAny_pure h
theorem pick_gen (xs : Array Value) (i k : Nat) : ((List.range k).filterMap fun (m : Nat) => xs[((i : Int) + (m : Int) * 1).toNat]?).toArray = ((xs.toList.drop i).take k).toArray := by
  have e : (fun (m : Nat) => xs[((i : Int) + (m : Int) * 1).toNat]?) = fun m => xs[i + m]? := by
    funext m
    have : ((i : Int) + (m : Int) * 1).toNat = i + m := by omega
    rw [this]
  rw [e]
  have := pick_run xs i k
  rw [List.filterMap_map] at this
  have e2 : ((fun x => xs[x]?) ∘ fun x => i + x) = fun m => xs[i + m]? := rfl
  rw [e2] at this
  rw [this]

theorem getItem_tuple_cut {t sl : Addr} {items : Array Value} {vl vu : Value} {lo hi : Option Int} {Q : Value → Shared → Prop} (ht : IsTup s.heap t items) (hs : s.heap.IsSliceOf sl vl vu .none) (pl : IsPart vl lo) (pu : IsPart vu hi)
    (hw : ¬ (sIx items.size 0 lo = 0 ∧ sIx items.size items.size hi = items.size))
    (h : Q (.ref s.heap.objs.size) { s with heap := s.heap.push { cls := .type "tuple", data := .seq ((items.toList.drop (sIx items.size 0 lo)).take (sIx items.size items.size hi - sIx items.size 0 lo)).toArray } })
    (hsz : items.size ≤ sizeLine) : wpAny (model prog w) A (getItem (.ref t) (.ref sl)) Q E s := by
  have htake : sizeOk (.seq ((items.toList.drop (sIx items.size 0 lo)).take (sIx items.size items.size hi - sIx items.size 0 lo)).toArray) := by
    show ((items.toList.drop (sIx items.size 0 lo)).take (sIx items.size items.size hi - sIx items.size 0 lo)).toArray.size ≤ sizeLine
    rw [List.size_toArray, List.length_take, List.length_drop, Array.length_toList]
    omega
  have hj : sIx items.size items.size hi ≤ items.size := sIx_le _ _ (Nat.le_refl _) hi
  obtain ⟨os, hos, hcs, hds⟩ := id hs
  have hTs : s.TypeIs (.ref sl) "slice" := ⟨os, hos, hcs⟩
  unfold getItem
  try with_reducible refine wpAny_holding ?_
  first | refine wpAny_bind (wpAny_pure ?_) | skip
  refine wpAny_bind (wpAny_sequenceKey ht.typeIs (by decide) ?_)
  refine wpAny_bind (wpAny_callSpecial?_slot (name := Str.ofString "__getitem__") ht.typeIs PyProof.Rows.slot_tuple_getitem
    (wpAny_call_entry PyProof.Rows.slot_tuple_getitem ht.typeIs entry_tuple_getitem ?_ (args_tuple_getitem _ _)))
  show wpAny _ _ (Builtin.Tuple.tupleItemsOf (.ref t) >>= _) _ _ s
  refine wpAny_bind (tupleItemsOf_ ht ?_)
  refine wpAny_bind (wpAny_typeOf hTs ?_)
  rw [if_pos (by decide)]
  refine wpAny_bind (sliceApplied_gen hs pl pu ?_)
  have hno : ¬ ((((sIx items.size 0 lo : Nat) : Int) == 0 && (1 : Int) == 1 && (sIx items.size items.size hi - sIx items.size 0 lo) == items.size) = true) := by
    intro q
    rw [Bool.and_eq_true, Bool.and_eq_true] at q
    have q1 : ((sIx items.size 0 lo : Nat) : Int) = 0 := eq_of_beq q.1.1
    have q2 : sIx items.size items.size hi - sIx items.size 0 lo = items.size := eq_of_beq q.2
    exact hw ⟨by omega, by omega⟩
  show wpAny _ _ (if (((sIx items.size 0 lo : Nat) : Int) == 0 && (1 : Int) == 1 && (sIx items.size items.size hi - sIx items.size 0 lo) == items.size) = true then _ else _) _ _ s
  rw [if_neg hno, pick_gen]
  first
    | exact wpAny_bind (m := Builtin.Tuple.tupleExact _) (wpAny_newObj_type (wpAny_pure ⟨_, rfl, wpAny_pure h⟩) htake)
    | exact wpAny_bind (m := Builtin.Tuple.tupleExact _) (wpAny_newObj_type (wpAny_bind (wpAny_pure (wpAny_pure ⟨_, rfl, wpAny_pure h⟩))) htake)
    | exact wpAny_bind (wpAny_bind (m := Builtin.Tuple.tupleExact _) (wpAny_newObj_type (wpAny_pure (wpAny_pure ⟨_, rfl, wpAny_pure h⟩)) htake))
    | exact wpAny_bind (wpAny_bind (m := Builtin.Tuple.tupleExact _) (wpAny_newObj_type (wpAny_pure ⟨_, rfl, wpAny_pure h⟩) htake))
end
end HT

namespace L2
open PySem PySem.Spec PyProof.Rows

/-! ### the parts of a slice -/
abbrev TO := St → Hp → (Option Int → Hp → Prop) → Prop
/-- a slice's part (left out, or an int) -/
def PO (X : Cx) (e : Option Expr) (t : TO) : Prop :=
  ∀ (pins : List (Addr × Obj)) (s : Shared) (σ : St) (H : Hp) (Q : Option Int → Hp → Prop), Inv X pins σ H s → t σ H Q →
    wpAny (model X.prog X.w) X.A (evalPart e X.env) (fun u s' => ∃ o H', Inv X pins σ H' s' ∧ IsPart u o ∧ Q o H') X.xe s
def tNoPart : TO := fun _ H Q => Q none H
def tPart (t : TE) : TO := fun σ H Q => t σ H fun x H1 => ∃ i, x = .int i ∧ Q (some i) H1

theorem intsAre_of {ns : List Int} : ∀ {us : List Value}, Vals (ns.map V.int) us → IntsAre us ns := by
  induction ns with
  | nil => intro us r; rw [List.map_nil] at r; cases r; exact .nil
  | cons n ns ih =>
    intro us r
    rw [List.map_cons] at r
    cases r with
    | cons r1 r2 =>
      obtain ⟨t, e⟩ := r1
      subst e
      exact .cons n t (ih r2)

section
variable {X : Cx} {e : Expr} {te : TE} {lo hi : Option Expr} {tl th : TO} {pos p2 : Pos}

theorem po_none : PO X none tNoPart := by
  intro pins s σ H Q I h
  rw [evalPart_none]
  exact wpAny_pure ⟨none, H, I, .none, h⟩
theorem po_some (h : PE X e te) : PO X (some e) (tPart te) := by
  intro pins s σ H Q I hw
  rw [evalPart_some]
  refine thn (h pins s σ H _ I hw) fun u s1 ⟨x, H1, I1, r1, q1⟩ => ?_
  obtain ⟨i, rfl, q⟩ := q1
  obtain ⟨t, rfl⟩ := r1
  exact ⟨some i, H1, I1, .int i t, q⟩

/-- what a slice of a value is, by values: the slice object stands at sl -/
def SlR (X : Cx) (r : V → Option Int → Option Int → Hp → VK → Prop) : Prop :=
  ∀ (pins : List (Addr × Obj)) (s : Shared) (σ : St) (H : Hp) (x : V) (v vl vu : Value) (lo hi : Option Int) (sl : Addr) (Q : VK), Inv X pins σ H s → RelV x v → s.heap.IsSliceOf sl vl vu .none → IsPart vl lo → IsPart vu hi → r x lo hi H Q →
    ∃ T id, typeLookup (.type T) "__getitem__" = pure (some (.builtin id)) ∧ s.TypeIs v T ∧ wpAny (model X.prog X.w) X.A (getItem v (.ref sl)) (EP X pins σ Q) X.xe s
theorem SlR.or {r r' : V → Option Int → Option Int → Hp → VK → Prop} (h : SlR X r) (h' : SlR X r') : SlR X (fun x lo hi H Q => r x lo hi H Q ∨ r' x lo hi H Q) := by
  intro pins s σ H x v vl vu lo hi sl Q I rx hs pl pu q
  rcases q with q | q
  · exact h pins s σ H x v vl vu lo hi sl Q I rx hs pl pu q
  · exact h' pins s σ H x v vl vu lo hi sl Q I rx hs pl pu q
def tSl (r : V → Option Int → Option Int → Hp → VK → Prop) (te : TE) (tl th : TO) : TE := fun σ H Q => te σ H fun x H1 => tl σ H1 fun l H2 => th σ H2 fun u H3 => r x l u H3 Q
/-- a[lo:hi], any a -/
theorem pe_slice {r : V → Option Int → Option Int → Hp → VK → Prop} (hr : SlR X r) (he : PE X e te) (hl : PO X lo tl) (hu : PO X hi th) : PE X (.Subscript e (.Slice lo hi none p2) pos) (tSl r te tl th) := by
  intro pins s σ H Q I h
  refine Subscript_ (thn (he pins s σ H _ I h) fun v s1 ⟨x, H1, I1, r1, q1⟩ => ?_)
  refine wpAny_Slice (thn (hl pins s1 σ H1 _ I1 q1) fun vl s2 ⟨l, H2, I2, pl, q2⟩ => thn (hu pins s2 σ H2 _ I2 q2) fun vu s3 ⟨u, H3, I3, pu, q3⟩ => ?_)
  rw [evalPart_none]
  refine wpAny_pure ?_
  have I4 : Inv X pins σ H3 { s3 with heap := s3.heap.push { cls := .type "slice", data := .fields #[vl, vu, .none] } } := I3.kept (t' := s3.toks) fun b ob q => Heap.get?_push_of_some _ q
  obtain ⟨T, id, hT, ht, hg⟩ := hr pins { s3 with heap := s3.heap.push { cls := .type "slice", data := .fields #[vl, vu, .none] } } σ H3 x v vl vu l u s3.heap.objs.size Q I4 r1 (Heap.IsSliceOf.new ..) pl pu q3
  show wpAny (model X.prog X.w) X.A (subscriptTail e (.Slice lo hi none p2) v (.ref s3.heap.objs.size)) (EP X pins σ Q) X.xe { s3 with heap := s3.heap.push { cls := .type "slice", data := .fields #[vl, vu, .none] } }
  exact tail_any (ops := [.ref s3.heap.objs.size, v]) ht hT hg (by with_unfolding_all rfl)

/-- the items of xs[lo:hi] -/
def cutV (xs : List V) (lo hi : Option Int) : List V := (xs.drop (HT.sIx xs.length 0 lo)).take (HT.sIx xs.length xs.length hi - HT.sIx xs.length 0 lo)
theorem cutV_length (xs : List V) (lo hi : Option Int) : (cutV xs lo hi).length ≤ xs.length := by
  unfold cutV
  rw [List.length_take, List.length_drop]
  omega
/-- t[lo:hi], not the whole of it (the whole would be t itself) -/
def rSlT (K : PySem.W.Frag) : V → Option Int → Option Int → Hp → VK → Prop := fun x lo hi H Q => ∃ a xs, x = .ref a ∧ SqT K H a xs ∧
  ¬ (HT.sIx xs.length 0 lo = 0 ∧ HT.sIx xs.length xs.length hi = xs.length) ∧ ∀ p, H p = none → Q (.ref p) (upd H p (.tup (cutV xs lo hi)))
theorem sl_tup : SlR X (rSlT X.K) := by
  intro pins s σ H x v vl vu lo hi sl Q I rx hs pl pu h
  obtain ⟨a, xs, rfl, hx, hw, q⟩ := h
  cases rx
  obtain ⟨its, r, ht, hz⟩ := I.tuple hx
  have hlen : its.toArray.size = xs.length := by rw [List.size_toArray]; exact r.length.symm
  refine ⟨"tuple", _, PyProof.Rows.slot_tuple_getitem.lookup, ht.typeIs, ?_⟩
  refine HT.getItem_tuple_cut ht hs pl pu (by rw [hlen]; exact hw) ?_ (by rw [hlen]; exact hz)
  rw [hlen]
  refine ⟨.ref s.heap.objs.size, _, I.laid (t' := s.toks) (o := .tup (cutV xs lo hi)) (fun b ob q => Heap.get?_push_of_some _ q) (Nat.le_refl _) ?_, rfl, q _ (I.hok.fresh (Nat.le_refl _))⟩
  exact ⟨Nat.le_trans (cutV_length xs lo hi) hz, _, (r.drop (HT.sIx xs.length 0 lo)).take (HT.sIx xs.length xs.length hi - HT.sIx xs.length 0 lo), IsTup.new _ _⟩

/-! ### t < u, t + u -/
def rLtT (K : PySem.W.Frag) : R2 := fun x y H Q => ∃ a b ns ms, x = .ref a ∧ y = .ref b ∧ SqT K H a (ns.map V.int) ∧ SqT K H b (ms.map V.int) ∧ Q (.bl (HT.lexLt ns ms)) H
theorem op_ltT (hu : X.A.units < cLine) : OpR X (compareOp .Lt) (rLtT X.K) := by
  intro pins s σ H x y v u Q I rx ry h
  obtain ⟨a, b, ns, ms, rfl, rfl, ha, hb, q⟩ := h
  cases rx
  cases ry
  obtain ⟨its, r1, p1, _⟩ := I.tuple ha
  obtain ⟨its2, r2, p2, _⟩ := I.tuple hb
  have i1 : IntsAre its.toArray.toList ns := intsAre_of r1
  have i2 : IntsAre its2.toArray.toList ms := intsAre_of r2
  exact HT.lt_tupInts p1 p2 i1 i2 hu ⟨.bl (HT.lexLt ns ms), H, I, rfl, q⟩
/-- t + u, t not empty: u empty gives t itself -/
def rCatT (K : PySem.W.Frag) : R2 := fun x y H Q => ∃ a b xs ys, x = .ref a ∧ y = .ref b ∧ SqT K H a xs ∧ SqT K H b ys ∧ xs ≠ [] ∧ xs.length + ys.length ≤ sizeLine ∧
  (ys = [] → Q (.ref a) H) ∧ (ys ≠ [] → ∀ p, H p = none → Q (.ref p) (upd H p (.tup (xs ++ ys))))
theorem Vals.nil_iff {xs : List V} {us : List Value} (r : Vals xs us) : us = [] ↔ xs = [] := by
  cases r with
  | nil => simp
  | cons _ _ => simp
theorem op_catT : OpR X (binaryOp .Add) (rCatT X.K) := by
  intro pins s σ H x y v u Q I rx ry h
  obtain ⟨a, b, xs, ys, rfl, rfl, ha, hb, hx, hz, q1, q2⟩ := h
  cases rx
  cases ry
  obtain ⟨its, r1, p1, _⟩ := I.tuple ha
  obtain ⟨its2, r2, p2, _⟩ := I.tuple hb
  refine HT.cat_tup p1 p2 (fun z => hx (r1.nil_iff.mp z)) (fun z => ⟨.ref a, H, I, rfl, q1 (r2.nil_iff.mp z)⟩) (fun z => ?_) (by rw [← r1.length, ← r2.length]; exact hz)
  refine ⟨.ref s.heap.objs.size, _, I.laid (t' := s.toks) (o := .tup (xs ++ ys)) (fun b ob q => Heap.get?_push_of_some _ q) (Nat.le_refl _) ?_, rfl, q2 (fun w => z (r2.nil_iff.mpr w)) _ (I.hok.fresh (Nat.le_refl _))⟩
  exact ⟨by rw [List.length_append]; exact hz, _, r1.append r2, IsTup.new _ _⟩
/-- tuple(t) -/
theorem call_tupleT : CallR X (.type "tuple") (fun xs H Q => ∃ a ys, xs = [.ref a] ∧ SqT X.K H a ys ∧ Q (.ref a) H) := by
  intro pins s σ H xs us Q I r h
  obtain ⟨a, ys, rfl, ha, q⟩ := h
  obtain ⟨u, rfl, ru⟩ := vals1 r
  cases ru
  obtain ⟨its, _, p1, _⟩ := I.tuple ha
  exact call_tuple_same (items := its.toArray) p1 ⟨.ref a, H, I, rfl, q⟩
end
end L2

namespace L2
open PySem PySem.Spec PyProof.Rows

/-! ### places -/
/-- the place that an index of any sign means -/
def ixN (n : Nat) (i : Int) : Option Nat := if 0 ≤ i then (if i < n then some i.toNat else none) else if -(n : Int) ≤ i then some (i + n).toNat else none
def atI {α : Type} (xs : List α) (i : Int) : Option α := (ixN xs.length i).bind fun j => xs[j]?
theorem ixN_seq {n : Nat} {i : Int} {j : Nat} (h : ixN n i = some j) : seqIndex? i n = some j ∧ j < n ∧ -(n : Int) ≤ i ∧ i < n := by
  unfold ixN at h
  by_cases h0 : 0 ≤ i
  · rw [if_pos h0] at h
    by_cases h1 : i < n
    · rw [if_pos h1] at h
      have e : i.toNat = j := Option.some.inj h
      exact ⟨by rw [seqIndex_of h0 h1, e], by omega, by omega, h1⟩
    · rw [if_neg h1] at h; cases h
  · rw [if_neg h0] at h
    by_cases h1 : -(n : Int) ≤ i
    · rw [if_pos h1] at h
      have e : (i + n).toNat = j := Option.some.inj h
      exact ⟨by rw [seqIndex_neg (by omega) h1, e], by omega, h1, by omega⟩
    · rw [if_neg h1] at h; cases h
theorem atI_get {α : Type} {xs : List α} {i : Int} {v : α} (h : atI xs i = some v) : ∃ j, seqIndex? i xs.length = some j ∧ xs[j]? = some v ∧ j < xs.length ∧ -(xs.length : Int) ≤ i ∧ i < xs.length := by
  unfold atI at h
  cases e : ixN xs.length i with
  | none => rw [e] at h; cases h
  | some j =>
    rw [e] at h
    obtain ⟨h1, h2, h3, h4⟩ := ixN_seq e
    exact ⟨j, h1, h, h2, h3, h4⟩
theorem atI_nat {α : Type} {xs : List α} {j : Nat} {v : α} (h : xs[j]? = some v) : atI xs (j : Int) = some v := by
  have hj : j < xs.length := (List.getElem?_eq_some_iff.mp h).1
  have e : ixN xs.length (j : Int) = some j := by
    unfold ixN
    rw [if_pos (by omega), if_pos (by omega)]; simp
  unfold atI; rw [e]; exact h
theorem atI_last {α : Type} (xs : List α) (v : α) : atI (xs ++ [v]) (-1) = some v := by
  have hl : (xs ++ [v]).length = xs.length + 1 := by simp
  have e : ixN (xs ++ [v]).length (-1) = some xs.length := by
    unfold ixN
    rw [hl, if_neg (by decide), if_pos (by omega)]
    congr 1
    omega
  unfold atI
  rw [e]
  show (xs ++ [v])[xs.length]? = some v
  simp

/-! ### what may be subscripted -/
/-- what stands as an index of a plain subscript -/
def PlainIx (b : Expr) : Prop := ∀ o i, subscripted b false o i = operate [o, i] (getItem o i)
/-- a subscript by values -/
def IxR (X : Cx) (r : R2) : Prop :=
  ∀ (value slice : Expr) (pins : List (Addr × Obj)) (s : Shared) (σ : St) (H : Hp) (x y : V) (v u : Value) (Q : VK), Inv X pins σ H s → RelV x v → RelV y u → r x y H Q →
    subscripted slice false v u = operate [v, u] (getItem v u) → wpAny (model X.prog X.w) X.A (subscriptTail value slice v u) (EP X pins σ Q) X.xe s
/-- a call of a builtin's method by values: the receiver, the arguments -/
def MtR (X : Cx) (id : String) (r : V → List V → Hp → VK → Prop) : Prop :=
  ∀ (pins : List (Addr × Obj)) (s : Shared) (σ : St) (H : Hp) (x : V) (xs : List V) (v : Value) (us : List Value) (Q : VK), Inv X pins σ H s → RelV x v → Vals xs us → r x xs H Q →
    wpAny (model X.prog X.w) X.A (call (.builtin id) (v :: us)) (EP X pins σ Q) X.xe s
section
variable {X : Cx} {a b : Expr} {ta tb : TE} {pos : Pos}
theorem IxR.or {r r' : R2} (h : IxR X r) (h' : IxR X r') : IxR X (fun x y H Q => r x y H Q ∨ r' x y H Q) := by
  intro value slice pins s σ H x y v u Q I rx ry q hs
  rcases q with q | q
  · exact h value slice pins s σ H x y v u Q I rx ry q hs
  · exact h' value slice pins s σ H x y v u Q I rx ry q hs
theorem MtR.or {id : String} {r r' : V → List V → Hp → VK → Prop} (h : MtR X id r) (h' : MtR X id r') : MtR X id (fun x xs H Q => r x xs H Q ∨ r' x xs H Q) := by
  intro pins s σ H x xs v us Q I rx rs q
  rcases q with q | q
  · exact h pins s σ H x xs v us Q I rx rs q
  · exact h' pins s σ H x xs v us Q I rx rs q
/-- a[b] -/
theorem pe_ix {r : R2} (hr : IxR X r) (ha : PE X a ta) (hb : PE X b tb) (hs : PlainIx b) : PE X (.Subscript a b pos) (tOp r ta tb) := by
  intro pins s σ H Q I h
  exact Subscript_ (binT ha hb I h fun v u s2 x y H2 I2 rx ry q => hr a b pins s2 σ H2 x y v u Q I2 rx ry q (hs _ _))

def rIxL (K : PySem.W.Frag) : R2 := fun x y H Q => ∃ p xs i v, x = .ref p ∧ y = .int i ∧ SqL K H p xs ∧ atI xs i = some v ∧ Q v H
def rIxT (K : PySem.W.Frag) : R2 := fun x y H Q => ∃ p xs i v, x = .ref p ∧ y = .int i ∧ SqT K H p xs ∧ atI xs i = some v ∧ Q v H
def rIxS : R2 := fun x y H Q => ∃ z i c, x = .str z ∧ y = .int i ∧ z.length ≤ sizeLine ∧ atI z.cps.toList i = some c ∧ Q (.str ⟨#[c]⟩) H
theorem ix_list : IxR X (rIxL X.K) := by
  intro value slice pins s σ H x y v u Q I rx ry h hs
  obtain ⟨p, xs, i, z, rfl, rfl, hq, he, q⟩ := h
  cases rx
  obtain ⟨t, rfl⟩ := ry
  obtain ⟨its, r, pl, hz⟩ := I.list hq
  obtain ⟨j, h1, h2, h3, h4, h5⟩ := atI_get he
  obtain ⟨w, ew, rw'⟩ := r.get h2
  have hl := r.length
  have hn := line63
  have fin : EP X pins σ Q w s := ⟨z, H, I, rw', q⟩
  by_cases h0 : 0 ≤ i
  · have hj : i.toNat = j := by
      rw [seqIndex_of h0 h5] at h1
      exact Option.some.inj h1
    exact item_listR pl.isList h0 (by omega) (by rw [hj]; simpa using ew) fin hs
  · have hj : (i + (its.toArray.size : Int)).toNat = j := by
      rw [seqIndex_neg (by omega) h4] at h1
      rw [List.size_toArray, ← hl]
      exact Option.some.inj h1
    exact subscriptTail_builtinR (x := w) pl.isList.typeIs slot_list_getitem.lookup
      (wpAny_getItem_list_neg (Q := fun r s' => r = w ∧ EP X pins σ Q r s') pl.isList (by omega) (by rw [List.size_toArray] <;> omega) (by omega) (by rw [hj]; simpa using ew) ⟨rfl, fin⟩) hs
theorem ix_tup : IxR X (rIxT X.K) := by
  intro value slice pins s σ H x y v u Q I rx ry h hs
  obtain ⟨p, xs, i, z, rfl, rfl, hq, he, q⟩ := h
  cases rx
  obtain ⟨t, rfl⟩ := ry
  obtain ⟨its, r, pl, hz⟩ := I.tuple hq
  obtain ⟨j, h1, h2, h3, h4, h5⟩ := atI_get he
  obtain ⟨w, ew, rw'⟩ := r.get h2
  have hl := r.length
  have hn := line63
  have fin : EP X pins σ Q w s := ⟨z, H, I, rw', q⟩
  exact subscriptTail_builtinR (x := w) pl.typeIs slot_tuple_getitem.lookup
    (getItem_tuple (j := j) (Q := fun r s' => r = w ∧ EP X pins σ Q r s') pl (by omega) (by omega) (by rw [List.size_toArray, ← hl]; exact h1) (by simpa using ew) ⟨rfl, fin⟩) hs
theorem ix_str : IxR X rIxS := by
  intro value slice pins s σ H x y v u Q I rx ry h hs
  obtain ⟨z, i, c, rfl, rfl, hz, he, q⟩ := h
  obtain ⟨t, rfl⟩ := rx
  obtain ⟨t', rfl⟩ := ry
  obtain ⟨j, h1, h2, h3, h4, h5⟩ := atI_get he
  have hl : z.cps.toList.length = z.length := by simp [Str.length]
  rw [hl] at h1 h4 h5
  have hn := line63
  exact tail_any (typeIs_str s z t) slot_str_getitem.lookup (getItem_str (c := c) (by
    have e1 : decide (i < -(2 ^ 63 : Int)) = false := decide_eq_false (by omega)
    have e2 : decide (i ≥ 2 ^ 63) = false := decide_eq_false (by omega)
    rw [e1, e2, Bool.or_false]) (by rw [h1]; simpa using h2) ⟨.str ⟨#[c]⟩, H, I.tok _, ⟨_, rfl⟩, q⟩) hs
/-- list, tuple or str -/
def rIx (K : PySem.W.Frag) : R2 := fun x y H Q => rIxL K x y H Q ∨ rIxT K x y H Q ∨ rIxS x y H Q
theorem ix_seq : IxR X (rIx X.K) := ix_list.or (ix_tup.or ix_str)

/-! ### xs[i] = v, any sign -/
/-- the list's object behind a store -/
theorem mapSeq_set (its : List Value) (n j : Nat) (u : Value) : Obj.mapSeq (·.setIfInBounds j u) { cls := .type "list", data := .seq its.toArray n } = { cls := .type "list", data := .seq (its.set j u).toArray n } := by
  simp [Obj.mapSeq]
theorem Inv.lst {pins : List (Addr × Obj)} {σ : St} {H : Hp} {s : Shared} {p : Addr} {xs : List V} (I : Inv X pins σ H s) (h : H p = some (.lst xs)) :
    ∃ (its : List Value) (n : Nat), Vals xs its ∧ s.heap.get? p = some { cls := .type "list", data := .seq its.toArray n } ∧ xs.length ≤ sizeLine := by
  obtain ⟨z, its, n, r, e⟩ := I.hok p _ h
  exact ⟨its, n, r, e, z⟩
/-- the list at p is written by an update of its object -/
theorem Inv.lstUpd {pins : List (Addr × Obj)} {σ : St} {H : Hp} {s : Shared} {p : Addr} {xs ys : List V} {its its' : List Value} {n n' : Nat} {f : Obj → Obj} (I : Inv X pins σ H s) (h : H p = some (.lst xs))
    (ho : s.heap.get? p = some { cls := .type "list", data := .seq its.toArray n }) (hf : f { cls := .type "list", data := .seq its.toArray n } = { cls := .type "list", data := .seq its'.toArray n' }) (r : Vals ys its') (hz : ys.length ≤ sizeLine) (t : Nat) :
    Inv X pins σ (upd H p (.lst ys)) { s with heap := s.heap.update p f, toks := t } := by
  have e : (s.heap.update p f).get? p = some { cls := .type "list", data := .seq its'.toArray n' } := by
    rw [Heap.get?_update_self f ho (by rw [hf] <;> rfl), hf]
  refine I.write (x := p) (e := p) (by rw [h]; trivial) (.inl rfl) (fun b u hb q => (Heap.get?_update_other _ _ (Ne.symm hb)).trans q) ⟨_, e⟩ ?_
  exact ⟨hz, its', n', r, e⟩
def rSetL : V → V → V → Hp → (Hp → Prop) → Prop := fun o i v H Q => ∃ p xs k j, o = .ref p ∧ i = .int k ∧ H p = some (.lst xs) ∧ ixN xs.length k = some j ∧ Q (upd H p (.lst (xs.set j v)))
theorem set_list : PSet X rSetL := by
  intro pins s σ H o i v ov iv u Q I ro ri rv h
  obtain ⟨p, xs, k, j, rfl, rfl, hp, hj, q⟩ := h
  cases ro
  obtain ⟨t, rfl⟩ := ri
  obtain ⟨its, n, r, ho, hz⟩ := I.lst hp
  obtain ⟨h1, h2, h3, h4⟩ := ixN_seq hj
  have hl := r.length
  have hn := line63
  have I' : Inv X pins σ (upd H p (.lst (xs.set j v))) { s with heap := s.heap.update p (Obj.mapSeq (·.setIfInBounds j u)) } :=
    I.lstUpd hp ho (mapSeq_set its n j u) (r.set rv j) (by rw [List.length_set]; exact hz) s.toks
  by_cases h0 : 0 ≤ k
  · have hk : k.toNat = j := by
      rw [seqIndex_of h0 h4] at h1
      exact Option.some.inj h1
    exact PySem.W.ki_setAt ho h0 (by omega) (by rw [List.size_toArray, ← hl]; exact h4) (by rw [hk]; exact ⟨_, I', q⟩)
  · have hk : (k + (its.toArray.size : Int)).toNat = j := by
      rw [seqIndex_neg (by omega) h3] at h1
      rw [List.size_toArray, ← hl]
      exact Option.some.inj h1
    exact PySem.W.ki_setBack ho (by omega) (by rw [List.size_toArray, ← hl]; exact h3) (by omega) (by rw [hk]; exact ⟨_, I', q⟩)

/-! ### slices -/
theorem slice_bounds (lo hi : Option Int) (n : Nat) : (sliceBounds lo hi none n).1 = ((HT.sIx n 0 lo : Nat) : Int) ∧ (sliceBounds lo hi none n).2.1 = ((HT.sIx n n hi : Nat) : Int) ∧ (sliceBounds lo hi none n).2.2 = 1 := by
  refine ⟨?_, ?_, rfl⟩
  · cases lo with
    | none => simp [sliceBounds, HT.sIx]
    | some i =>
      simp only [sliceBounds, HT.sIx, Option.getD_none, show (1 : Int) > 0 by decide, if_true]
      by_cases h : i < 0
      · simp only [h, if_true] <;> omega
      · simp only [h, if_false] <;> omega
  · cases hi with
    | none => simp [sliceBounds, HT.sIx]
    | some i =>
      simp only [sliceBounds, HT.sIx, Option.getD_none, show (1 : Int) > 0 by decide, if_true]
      by_cases h : i < 0
      · simp only [h, if_true] <;> omega
      · simp only [h, if_false] <;> omega
theorem slicePick_cut (its : List Value) (lo hi : Option Int) : slicePick its.toArray lo hi none = ((its.drop (HT.sIx its.length 0 lo)).take (HT.sIx its.length its.length hi - HT.sIx its.length 0 lo)).toArray := by
  obtain ⟨h1, h2, h3⟩ := slice_bounds lo hi its.toArray.size
  unfold slicePick
  rw [h1, h2, h3]
  simp only [sliceRange_one, pick_run, List.size_toArray] <;> rfl
/-- xs[lo:hi] of a list: a new list -/
def rSlL (K : PySem.W.Frag) : V → Option Int → Option Int → Hp → VK → Prop := fun x lo hi H Q => ∃ a xs, x = .ref a ∧ SqL K H a xs ∧ ∀ p, H p = none → Q (.ref p) (upd H p (.lst (cutV xs lo hi)))
theorem sl_list : SlR X (rSlL X.K) := by
  intro pins s σ H x v vl vu lo hi sl Q I rx hs pl pu h
  obtain ⟨a, xs, rfl, hx, q⟩ := h
  cases rx
  obtain ⟨its, r, ht, hz⟩ := I.list hx
  have hlen := r.length
  refine ⟨"list", _, slot_list_getitem.lookup, ht.isList.typeIs, ?_⟩
  refine wpAny_getItem_list_slice ht.isList hs pl pu .none (by simp) ?_ (by rw [List.size_toArray] <;> omega)
  rw [slicePick_cut, ← hlen]
  refine ⟨.ref s.heap.objs.size, _, I.laid (t' := s.toks) (o := .lst (cutV xs lo hi)) (fun b ob q => Heap.get?_push_of_some _ q) (Nat.le_refl _) ?_, rfl, q _ (I.hok.fresh (Nat.le_refl _))⟩
  exact ⟨Nat.le_trans (cutV_length xs lo hi) hz, _, 0, (r.drop (HT.sIx xs.length 0 lo)).take (HT.sIx xs.length xs.length hi - HT.sIx xs.length 0 lo), Heap.get?_push_size _ rfl⟩

/-! ### in, not in: flat items -/
def flatV : V → Bool
  | .non => true
  | .bl _ => true
  | .int _ => true
  | .str _ => true
  | _ => false
/-- == of flat values -/
def eqV : V → V → Bool
  | .non, .non => true
  | .bl a, .bl b => a == b
  | .bl a, .int b => (if a then 1 else 0) == b
  | .int a, .bl b => a == (if b then 1 else 0)
  | .int a, .int b => a == b
  | .str a, .str b => a == b
  | _, _ => false
theorem eqAt_V {A : Around} {s : Shared} {y x : V} {u v : Value} (ry : RelV y u) (rx : RelV x v) (fy : flatV y = true) (fx : flatV x = true) : SeqAt.EqAt A s u v (eqV y x) := by
  cases y with
  | non =>
    cases ry
    cases x with
    | non => cases rx; exact SeqAt.EqAt.same _
    | bl b => cases rx; exact SeqAt.EqAt.none_bool b
    | int b => obtain ⟨t, rfl⟩ := rx; exact SeqAt.EqAt.none_int b t
    | str b => obtain ⟨t, rfl⟩ := rx; exact SeqAt.EqAt.none_str b t
    | _ => exact absurd (show false = true from fx) Bool.false_ne_true
  | bl a =>
    cases ry
    cases x with
    | non => cases rx; exact SeqAt.EqAt.bool_none a
    | bl b => cases rx; exact SeqAt.EqAt.bool_bool a b
    | int b => obtain ⟨t, rfl⟩ := rx; exact SeqAt.EqAt.bool_int a b t
    | str b => obtain ⟨t, rfl⟩ := rx; exact SeqAt.EqAt.bool_str a b t
    | _ => exact absurd (show false = true from fx) Bool.false_ne_true
  | int a =>
    obtain ⟨t', rfl⟩ := ry
    cases x with
    | non => cases rx; exact SeqAt.EqAt.int_none a t'
    | bl b => cases rx; exact SeqAt.EqAt.int_bool a t' b
    | int b => obtain ⟨t, rfl⟩ := rx; exact SeqAt.EqAt.int_int a t' b t
    | str b => obtain ⟨t, rfl⟩ := rx; exact SeqAt.EqAt.int_str a t' b t
    | _ => exact absurd (show false = true from fx) Bool.false_ne_true
  | str a =>
    obtain ⟨t', rfl⟩ := ry
    cases x with
    | non => cases rx; exact SeqAt.EqAt.str_none a t'
    | bl b => cases rx; exact SeqAt.EqAt.str_bool a t' b
    | int b => obtain ⟨t, rfl⟩ := rx; exact SeqAt.EqAt.str_int a t' b t
    | str b => obtain ⟨t, rfl⟩ := rx; exact SeqAt.EqAt.str_str a t' b t
    | _ => exact absurd (show false = true from fx) Bool.false_ne_true
  | _ => exact absurd (show false = true from fy) Bool.false_ne_true
/-- the items' answers, read off the values (a value's own answer does not lean on its token) -/
def eqU (x : V) (u : Value) : Bool := match u with
  | .none => eqV .non x
  | .bool b => eqV (.bl b) x
  | .int i _ => eqV (.int i) x
  | .str z _ => eqV (.str z) x
  | _ => false
theorem eqU_of {x y : V} {u : Value} (r : RelV y u) (f : flatV y = true) : eqU x u = eqV y x := by
  cases y with
  | non => cases r; rfl
  | bl b => cases r; rfl
  | int i => obtain ⟨t, rfl⟩ := r; rfl
  | str z => obtain ⟨t, rfl⟩ := r; rfl
  | _ => exact absurd (show false = true from f) Bool.false_ne_true
theorem any_eqU {x : V} : ∀ {xs : List V} {us : List Value}, Vals xs us → xs.all flatV = true → us.any (eqU x) = xs.any fun y => eqV y x
  | _, _, .nil, _ => rfl
  | y :: xs, u :: us, .cons r t, f => by
    rw [List.all_cons, Bool.and_eq_true] at f
    rw [List.any_cons, List.any_cons, eqU_of r f.1, any_eqU t f.2]
theorem mem_eqAt {A : Around} {s : Shared} {x : V} {v : Value} (rx : RelV x v) (fx : flatV x = true) : ∀ {xs : List V} {us : List Value}, Vals xs us → xs.all flatV = true → ∀ u ∈ us, SeqAt.EqAt A s u v (eqU x u)
  | _, _, .nil, _ => fun u hu => by cases hu
  | y :: xs, u :: us, .cons r t, f => fun u' hu => by
    rw [List.all_cons, Bool.and_eq_true] at f
    rcases List.mem_cons.mp hu with rfl | hu
    · rw [eqU_of r f.1]; exact eqAt_V r rx f.1 fx
    · exact mem_eqAt rx fx t f.2 u' hu
def inV (x : V) (xs : List V) : Bool := xs.any fun y => eqV y x
/-- x in a list or tuple of flat items -/
def rIn (K : PySem.W.Frag) (neg : Bool) : R2 := fun x y H Q => ∃ p xs, y = .ref p ∧ (SqL K H p xs ∨ SqT K H p xs) ∧ flatV x = true ∧ xs.all flatV = true ∧ Q (.bl (if neg then !inV x xs else inV x xs)) H
theorem op_in_seq : OpR X (compareOp .In) (rIn X.K false) := by
  intro pins s σ H x y v u Q I rx ry h
  obtain ⟨p, xs, rfl, hq, fx, fs, q⟩ := h
  cases ry
  rcases hq with hq | hq
  · obtain ⟨its, r, pl, hz⟩ := I.list hq
    refine SeqAt.in_listAt (eqU x) pl.isList (fun w hw => mem_eqAt rx fx r fs w (by simpa using hw)) ⟨.bl _, H, I, rfl, ?_⟩
    rw [show its.toArray.any (eqU x) = its.any (eqU x) by simp, any_eqU r fs]
    exact q
  · obtain ⟨its, r, pl, hz⟩ := I.tuple hq
    refine SeqAt.in_tupleAt (eqU x) pl (fun w hw => mem_eqAt rx fx r fs w (by simpa using hw)) ⟨.bl _, H, I, rfl, ?_⟩
    rw [show its.toArray.any (eqU x) = its.any (eqU x) by simp, any_eqU r fs]
    exact q
theorem op_notIn_seq : OpR X (compareOp .NotIn) (rIn X.K true) := by
  intro pins s σ H x y v u Q I rx ry h
  obtain ⟨p, xs, rfl, hq, fx, fs, q⟩ := h
  cases ry
  rcases hq with hq | hq
  · obtain ⟨its, r, pl, hz⟩ := I.list hq
    refine SeqAt.notIn_listAt (eqU x) pl.isList (fun w hw => mem_eqAt rx fx r fs w (by simpa using hw)) ⟨.bl _, H, I, rfl, ?_⟩
    rw [show its.toArray.any (eqU x) = its.any (eqU x) by simp, any_eqU r fs]
    exact q
  · obtain ⟨its, r, pl, hz⟩ := I.tuple hq
    refine SeqAt.notIn_tupleAt (eqU x) pl (fun w hw => mem_eqAt rx fx r fs w (by simpa using hw)) ⟨.bl _, H, I, rfl, ?_⟩
    rw [show its.toArray.any (eqU x) = its.any (eqU x) by simp, any_eqU r fs]
    exact q
theorem op_notIn_str : OpR X (compareOp .NotIn) (fun x y H Q => ∃ i j, x = .str i ∧ y = .str j ∧ Q (.bl (!(!(Builtin.Str.occurrences j i 0 j.length 1).isEmpty))) H) := by
  intro pins s σ H x y v u Q I rx ry h
  obtain ⟨i, j, rfl, rfl, q⟩ := h
  obtain ⟨t, rfl⟩ := rx
  obtain ⟨t', rfl⟩ := ry
  exact notIn_str ⟨.bl _, H, I, rfl, q⟩

/-! ### len, list(x), tuple(x) of any list or tuple that is read -/
theorem call_len_seq : CallR X (.builtin "len") (fun xs H Q => ∃ p ys, xs = [.ref p] ∧ (SqL X.K H p ys ∨ SqT X.K H p ys) ∧ Q (.int ys.length) H) := by
  intro pins s σ H xs us Q I r h
  obtain ⟨p, ys, rfl, hq, q⟩ := h
  obtain ⟨u, rfl, rx⟩ := vals1 r
  cases rx
  have hn := line63
  rcases hq with hq | hq
  · obtain ⟨its, r', pl, hz⟩ := I.list hq
    have hlen := r'.length
    exact Calls.call_len_list pl.isList (by simp only [List.size_toArray] <;> omega) ⟨.int ys.length, H, I.tok _, ⟨s.toks + 1, by rw [List.size_toArray, hlen]⟩, q⟩
  · obtain ⟨its, r', pl, hz⟩ := I.tuple hq
    have hlen := r'.length
    exact len_tuple pl (by simp only [List.size_toArray] <;> omega) ⟨.int ys.length, H, I.tok _, ⟨s.toks + 1, by rw [List.size_toArray, hlen]⟩, q⟩
theorem call_len_str : CallR X (.builtin "len") (fun xs H Q => ∃ z, xs = [.str z] ∧ z.length ≤ sizeLine ∧ Q (.int z.length) H) := by
  intro pins s σ H xs us Q I r h
  obtain ⟨z, rfl, hz, q⟩ := h
  obtain ⟨u, rfl, t, rfl⟩ := vals1 r
  have hn := line63
  exact len_str (by omega) ⟨.int z.length, H, I.tok _, ⟨_, rfl⟩, q⟩
theorem CallR.or {f : Value} {r r' : List V → Hp → VK → Prop} (h : CallR X f r) (h' : CallR X f r') : CallR X f (fun xs H Q => r xs H Q ∨ r' xs H Q) := by
  intro pins s σ H xs us Q I rs q
  rcases q with q | q
  · exact h pins s σ H xs us Q I rs q
  · exact h' pins s σ H xs us Q I rs q
theorem call_list_of : CallR X (.type "list") (fun xs H Q => ∃ p ys, xs = [.ref p] ∧ (SqL X.K H p ys ∨ SqT X.K H p ys) ∧ ∀ l, H l = none → Q (.ref l) (upd H l (.lst ys))) := by
  intro pins s σ H xs us Q I r h
  obtain ⟨p, ys, rfl, hq, q⟩ := h
  obtain ⟨u, rfl, rx⟩ := vals1 r
  cases rx
  have fin : ∀ (its : List Value), Vals ys its → ys.length ≤ sizeLine → ∀ (h' : Heap) (c' : Nat), (∀ b o', s.heap.get? b = some o' → h'.get? b = some o') →
      h'.get? s.heap.objs.size = some { cls := .type "list", dict := none, data := .seq its.toArray c', slots := #[] } → EP X pins σ Q (.ref s.heap.objs.size) { s with heap := h' } := fun its r' hz h' c' kp e =>
    ⟨.ref s.heap.objs.size, _, I.laid (t' := s.toks) kp (Nat.le_refl _) (show ObjOk X.prog X.w _ h' _ (.lst ys) from ⟨hz, its, c', r', e⟩), rfl, q _ (I.hok.fresh (Nat.le_refl _))⟩
  rcases hq with hq | hq
  · obtain ⟨its, r', pl, hz⟩ := I.list hq
    have hlen := r'.length
    obtain ⟨o, ho, hc, n, hd⟩ := pl.isList
    exact call_list_seq p (.inl rfl) ho hc hd (fun h' c' kp e => fin its r' hz h' c' kp e) (by simp only [List.size_toArray] <;> omega)
  · obtain ⟨its, r', pl, hz⟩ := I.tuple hq
    have hlen := r'.length
    obtain ⟨o, ho, hc, n, hd⟩ := pl
    exact call_list_seq p (.inr rfl) ho hc hd (fun h' c' kp e => fin its r' hz h' c' kp e) (by simp only [List.size_toArray] <;> omega)
theorem call_tuple_of : CallR X (.type "tuple") (fun xs H Q => ∃ p ys, xs = [.ref p] ∧ ((SqL X.K H p ys ∧ ∀ l, H l = none → Q (.ref l) (upd H l (.tup ys))) ∨ (SqT X.K H p ys ∧ Q (.ref p) H))) := by
  intro pins s σ H xs us Q I r h
  obtain ⟨p, ys, rfl, h⟩ := h
  obtain ⟨u, rfl, rx⟩ := vals1 r
  cases rx
  rcases h with ⟨hq, q⟩ | ⟨hq, q⟩
  · obtain ⟨its, r', pl, hz⟩ := I.list hq
    have hlen := r'.length
    refine call_tuple_list pl.isList (fun h' kp => ?_) (by simp only [List.size_toArray] <;> omega)
    have I1 : Inv X pins σ H { s with heap := h' } := I.kept (t' := s.toks) kp
    have I2 : Inv X pins σ (upd H h'.objs.size (.tup ys)) { s with heap := h'.push { cls := .type "tuple", data := .seq its.toArray } } :=
      I1.laid (t' := s.toks) (fun b o e => Heap.get?_push_of_some _ e) (Nat.le_refl _) (show ObjOk X.prog X.w _ _ _ (.tup ys) from ⟨hz, its, r', IsTup.new _ _⟩)
    exact ⟨.ref h'.objs.size, _, I2, rfl, q _ (I1.hok.fresh (Nat.le_refl _))⟩
  · obtain ⟨its, r', pl, hz⟩ := I.tuple hq
    exact call_tuple_same pl ⟨.ref p, H, I, rfl, q⟩

/-! ### the call of a builtin's method: o.m(..) -/
/-- the value is of that builtin type -/
def tyV (K : PySem.W.Frag) (T : String) (x : V) (H : Hp) : Prop := match x with
  | .str _ => T = "str"
  | .int _ => T = "int"
  | .ref p => (T = "list" ∧ ∃ xs, SqL K H p xs) ∨ (T = "tuple" ∧ ∃ o, K.lookup p = some o ∧ o.cls = .type "tuple" ∧ o.dict = none) ∨
      (T = "dict" ∧ ((∃ kvs, H p = some (.dK kvs)) ∨ ∃ kvs, H p = some (.dT kvs))) ∨ (T = "set" ∧ ∃ S n, H p = some (.set S n))
  | _ => False
theorem tyV_is {pins : List (Addr × Obj)} {σ : St} {H : Hp} {s : Shared} {T : String} {x : V} {v : Value} (I : Inv X pins σ H s) (r : RelV x v) (ty : tyV X.K T x H) :
    s.TypeIs v T ∧ ∀ a, v = .ref a → ∃ ob, s.heap.get? a = some ob ∧ ob.dict = none := by
  cases x with
  | str z =>
    obtain ⟨t, rfl⟩ := r
    cases (show T = "str" from ty)
    exact ⟨typeIs_str s z t, fun _ e => nomatch e⟩
  | int i =>
    obtain ⟨t, rfl⟩ := r
    cases (show T = "int" from ty)
    exact ⟨typeIs_int s i t, fun _ e => nomatch e⟩
  | ref p =>
    cases r
    rcases ty with ⟨rfl, xs, hq⟩ | ⟨rfl, o, hk, hc, hd⟩ | ⟨rfl, hk⟩ | ⟨rfl, S, n, hk⟩
    · obtain ⟨its, _, pl, _⟩ := I.list hq
      refine ⟨pl.isList.typeIs, fun a e => ?_⟩
      cases e
      obtain ⟨o, n, e, c, hd, _⟩ := pl
      exact ⟨o, e, hd⟩
    · refine ⟨⟨o, I.kIn p o hk, hc⟩, fun a e => ?_⟩
      cases e
      exact ⟨o, I.kIn _ o hk, hd⟩
    · have z : ∃ o, s.heap.get? p = some o ∧ o.ExactDict := by
        rcases hk with ⟨kvs, hk⟩ | ⟨kvs, hk⟩
        · obtain ⟨_, _, _, _, o, _, _, e, ex, _⟩ := I.hok p _ hk
          exact ⟨o, e, ex⟩
        · obtain ⟨_, _, _, _, o, _, _, e, ex, _⟩ := I.hok p _ hk
          exact ⟨o, e, ex⟩
      obtain ⟨o, e, ex⟩ := z
      refine ⟨⟨o, e, ex.1⟩, fun a e2 => ?_⟩
      cases e2
      exact ⟨o, e, ex.2.1⟩
    · obtain ⟨o, _, _, _, e, ex, _⟩ := I.hok p _ hk
      refine ⟨⟨o, e, ex.1⟩, fun a e2 => ?_⟩
      cases e2
      exact ⟨o, e, ex.2.1⟩
  | _ => exact False.elim ty
def tBM0 (K : PySem.W.Frag) (T : String) (r : V → List V → Hp → VK → Prop) (to : TE) : TE := fun σ H Q => to σ H fun x H1 => tyV K T x H1 ∧ r x [] H1 Q
def tBM (K : PySem.W.Frag) (T : String) (r : V → List V → Hp → VK → Prop) (to : TE) (t : TA) : TE := fun σ H Q => to σ H fun x H1 => tyV K T x H1 ∧ t σ H1 fun xs H2 => r x xs H2 Q
variable {o e : Expr} {es : List Expr} {to : TE} {t : TA} {name : Str} {apos cpos : Pos} {T id : String} {r : V → List V → Hp → VK → Prop}
theorem pe_bm0 (pa : PlainAttrs T) (slot : Slot T name id) (hty : typeOf (.builtin id) = pure (.type "method_descriptor")) (hm : MtR X id r) (ho : PE X o to)
    (hbase : attributeBase o name X.env (eval o X.env) = eval o X.env := by rfl) (hline : (apos.endLine == cpos.line) = true := by rfl) : PE X (.Call (.Attribute o name apos) [] [] cpos) (tBM0 X.K T r to) := by
  intro pins s σ H Q I h
  refine wpAny_Call_method0_late hbase hline (thn (ho pins s σ H _ I h) fun v s1 ⟨x, H1, I1, r1, ty, q1⟩ => ?_)
  obtain ⟨h1, h2⟩ := tyV_is I1 r1 ty
  exact ⟨T, id, pa, slot, hty, h1, h2, Calls.callWith_builtin rfl (PySem.evalArgs_none (hm pins s1 σ H1 x [] v [] Q I1 r1 .nil q1))⟩
theorem pe_bm (pa : PlainAttrs T) (slot : Slot T name id) (hty : typeOf (.builtin id) = pure (.type "method_descriptor")) (hm : MtR X id r) (ho : PE X o to) (ha : PA X (e :: es) t)
    (hbase : attributeBase o name X.env (eval o X.env) = eval o X.env := by rfl)
    (hfew : ((backTo cpos (starEach (e :: es) X.env)).all (fun x => !x.1) && (backToKw cpos (keywordEach [] X.env)).all (fun x => x.1.isSome)
      && decide ((e :: es).length + ([] : List Keyword).length + (if ([] : List Keyword).isEmpty then 0 else 1) < 30)) = true := by rfl)
    (hline : (apos.endLine == cpos.line) = true := by rfl) (hs : starEach (e :: es) X.env = (false, eval e X.env) :: starEach es X.env := by rfl) (hplain : (backTo cpos (starEach es X.env)).any (·.1) = false := by rfl) :
    PE X (.Call (.Attribute o name apos) (e :: es) [] cpos) (tBM X.K T r to t) := by
  intro pins s σ H Q I h
  refine wpAny_Call_method_late hbase hfew hline rfl (thn (ho pins s σ H _ I h) fun v s1 ⟨x, H1, I1, r1, ty, q1⟩ => ?_)
  obtain ⟨h1, h2⟩ := tyV_is I1 r1 ty
  refine ⟨T, id, pa, slot, hty, h1, h2, ?_⟩
  have hA := ha cpos pins s1 σ H1 _ I1 q1
  rw [hs] at hA ⊢
  refine Calls.callWith_builtin (by show (false || (backTo cpos (starEach es X.env)).any (·.1)) = false; rw [hplain] <;> rfl) (Calls.evalArgs_plain ?_)
  exact thn hA fun us s2 ⟨vs, H2, I2, r2, q2⟩ => hm pins s2 σ H2 x vs v us Q I2 r1 r2 q2
/- xs.append(e), list.index on a module's tuple .. are MtR facts of 06m -/
end
end L2

namespace L2
open PySem PySem.Spec PyProof.Rows

def MtM (X : Cx) (id : String) (r : V → List V → Hp → VK → Prop) : Prop :=
  ∀ (pins : List (Addr × Obj)) (s : Shared) (σ : St) (H : Hp) (x : V) (xs : List V) (v : Value) (us : List Value) (Q : VK), Inv X pins σ H s → RelV x v → Vals xs us → r x xs H Q →
    wpAny (model X.prog X.w) X.A (call (.builtin id) (v :: us)) (EP X pins σ Q) X.xe s

/-! ### lists of values -/
theorem Vals.one : ∀ {x : V} {us : List Value}, Vals [x] us → ∃ u, us = [u] ∧ RelV x u
  | _, _, .cons r .nil => ⟨_, rfl, r⟩
theorem Vals.two : ∀ {x y : V} {us : List Value}, Vals [x, y] us → ∃ u v, us = [u, v] ∧ RelV x u ∧ RelV y v
  | _, _, _, .cons r (.cons q .nil) => ⟨_, _, rfl, r, q⟩
theorem Vals.zero : ∀ {us : List Value}, Vals [] us → us = []
  | _, .nil => rfl
theorem Vals.dropLast {xs : List V} {us : List Value} (h : Vals xs us) : Vals xs.dropLast us.dropLast := by
  induction h with
  | nil => exact .nil
  | cons r t ih =>
    cases t with
    | nil => exact .nil
    | cons q t' => exact .cons r ih
theorem Vals.eraseIdx : ∀ {xs : List V} {us : List Value} (i : Nat), Vals xs us → Vals (xs.eraseIdx i) (us.eraseIdx i)
  | _, _, _, .nil => .nil
  | _, _, 0, .cons _ t => t
  | _, _, i + 1, .cons r t => .cons r (Vals.eraseIdx i t)
theorem Vals.reverse {xs : List V} {us : List Value} (h : Vals xs us) : Vals xs.reverse us.reverse := by
  induction h with
  | nil => exact .nil
  | cons r t ih => rw [List.reverse_cons, List.reverse_cons]; exact Vals.append ih (.cons r .nil)
theorem Vals.rep {xs : List V} {us : List Value} (h : Vals xs us) : ∀ k : Nat, Vals (List.replicate k xs).flatten (List.replicate k us).flatten
  | 0 => .nil
  | k + 1 => by
    rw [List.replicate_succ, List.replicate_succ, List.flatten_cons, List.flatten_cons]
    exact Vals.append h (Vals.rep h k)
theorem erase_last {α : Type} (l : List α) : l.eraseIdx (l.length - 1) = l.dropLast := by
  induction l with
  | nil => rfl
  | cons a r ih =>
    cases r with
    | nil => rfl
    | cons b r =>
      have e : (a :: b :: r).length - 1 = ((b :: r).length - 1) + 1 := by
        have h1 : (a :: b :: r).length = r.length + 2 := rfl
        have h2 : (b :: r).length = r.length + 1 := rfl
        omega
      rw [e, List.eraseIdx_cons_succ, ih]
      all_goals rfl
theorem len_erase {α : Type} : ∀ (l : List α) (i : Nat), (l.eraseIdx i).length ≤ l.length
  | [], _ => Nat.le_refl _
  | _ :: _, 0 => Nat.le_succ _
  | _ :: r, i + 1 => Nat.succ_le_succ (len_erase r i)
theorem foldl_rep (its : List Value) : ∀ (k : Nat) (acc : List Value),
    List.foldl (fun x1 x2 => x1 ++ x2) acc.toArray (List.replicate k its.toArray) = (acc ++ (List.replicate k its).flatten).toArray
  | 0, acc => by simp
  | k + 1, acc => by
    have e : acc.toArray ++ its.toArray = (acc ++ its).toArray := by simp
    have e2 : (acc ++ its) ++ (List.replicate k its).flatten = acc ++ (List.replicate (k + 1) its).flatten := by
      rw [List.replicate_succ, List.flatten_cons, List.append_assoc]
    rw [← e2, ← foldl_rep its k (acc ++ its), ← e, List.replicate_succ, List.foldl_cons]

section
variable {X : Cx} {pins : List (Addr × Obj)} {σ : St} {H : Hp} {s : Shared} {l b : Addr} {xs ys zs : List V}

/-! ### the two steps: a tracked list is rewritten, a new list is laid -/
theorem Inv.lset {its its' : List Value} {n : Nat} {f : Array Value → Array Value} {t' : Nat} (I : Inv X pins σ H s) (hH : H l = some (.lst xs))
    (e : s.heap.get? l = some { cls := .type "list", data := .seq its.toArray n }) (hf : f its.toArray = its'.toArray) (hv : Vals ys its') (hz : ys.length ≤ sizeLine) :
    Inv X pins σ (upd H l (.lst ys)) { s with heap := s.heap.update l (Obj.mapSeq f), toks := t' } := by
  have q := PySem.IsL.update e f
  rw [hf] at q
  refine I.write (x := l) (e := l) (by rw [hH]; exact trivial) (.inl rfl) (fun b' u hb hu => (Heap.get?_update_other s.heap (Obj.mapSeq f) (Ne.symm hb)).trans hu) ⟨_, q⟩ ?_
  exact ⟨hz, its', _, hv, q⟩
theorem Inv.lnew {its : List Value} {t' : Nat} (I : Inv X pins σ H s) (hv : Vals ys its) (hz : ys.length ≤ sizeLine) :
    Inv X pins σ (upd H s.heap.objs.size (.lst ys)) { s with heap := s.heap.push { cls := .type "list", data := .seq its.toArray }, toks := t' } :=
  I.laid (fun _ _ q => Heap.get?_push_of_some _ q) (Nat.le_refl _) ⟨hz, its, 0, hv, Heap.get?_push_size _ rfl⟩
theorem Inv.fresh (I : Inv X pins σ H s) : H s.heap.objs.size = none := I.hok.fresh (Nat.le_refl _)
theorem Inv.lstM (I : Inv X pins σ H s) (hH : H l = some (.lst xs)) : xs.length ≤ sizeLine ∧ ∃ (its : List Value) (n : Nat), Vals xs its ∧ xs.length = its.length ∧ s.heap.get? l = some { cls := .type "list", data := .seq its.toArray n } := by
  obtain ⟨z, its, n, r, e⟩ := I.hok l _ hH
  exact ⟨z, its, n, r, r.length, e⟩

theorem notLongL {n : Nat} (h : n ≤ sizeLine) : Builtin.List.listTooLong n = false := by
  unfold Builtin.List.listTooLong
  exact decide_eq_false (by omega)
end

section
variable {X : Cx}

/-! ### methods -/
def rAppend : V → List V → Hp → VK → Prop := fun x vs H Q => ∃ l xs y, x = .ref l ∧ vs = [y] ∧ H l = some (.lst xs) ∧ xs.length < sizeLine ∧ Q .non (upd H l (.lst (xs ++ [y])))
theorem mt_append : MtM X "list.append" rAppend := by
  intro pins s σ H x vs v us Q I rx rv h
  obtain ⟨l, xs, y, rfl, rfl, hH, hz, q⟩ := h
  cases rx
  obtain ⟨u, rfl, ru⟩ := rv.one
  obtain ⟨z, its, n, r, hl, e⟩ := I.lstM hH
  refine call_meets F.slot_list_append ⟨_, e, rfl⟩ F.entry_list_append (F.args_list_append_2 _ _) (PySem.list_append l its.toArray n u (by rw [List.size_toArray]; omega)) ⟨e, ?_⟩
  refine ⟨.non, _, I.lset (its' := its ++ [u]) hH e (by simp) (r.append (.cons ru .nil)) ?_, rfl, q⟩
  rw [List.length_append, List.length_singleton]
  omega

def rExtend : V → List V → Hp → VK → Prop := fun x vs H Q => ∃ l b xs zs, x = .ref l ∧ vs = [.ref b] ∧ H l = some (.lst xs) ∧ H b = some (.lst zs) ∧ xs.length + zs.length ≤ sizeLine ∧ Q .non (upd H l (.lst (xs ++ zs)))
theorem mt_extend : MtM X "list.extend" rExtend := by
  intro pins s σ H x vs v us Q I rx rv h
  obtain ⟨l, b, xs, zs, rfl, rfl, hH, hB, hz, q⟩ := h
  cases rx
  obtain ⟨u, rfl, ru⟩ := rv.one
  cases ru
  obtain ⟨z, its, n, r, hl, e⟩ := I.lstM hH
  obtain ⟨z2, its2, n2, r2, hl2, e2⟩ := I.lstM hB
  have hsz : its.toArray.size + its2.toArray.size ≤ sizeLine := by rw [List.size_toArray, List.size_toArray]; omega
  have hlong : ¬ (!its.toArray.isEmpty && Builtin.List.listTooLong (its.toArray.size + its2.toArray.size)) = true := by
    rw [notLongL hsz, Bool.and_false]
    exact Bool.false_ne_true
  refine call_meets F.slot_list_extend ⟨_, e, rfl⟩ F.entry_list_extend (F.args_list_extend_2 _ _)
    (AutoSeq1.list_extend_list_list_0 l its.toArray n b its2.toArray n2 hlong (by rw [List.size_toArray]; omega) (by omega)) ⟨e, e2, ?_⟩
  refine ⟨.non, _, I.lset (its' := its ++ its2) hH e (by simp) (r.append r2) ?_, rfl, q⟩
  rw [List.length_append]
  omega

def rPop : V → List V → Hp → VK → Prop := fun x vs H Q => ∃ l xs y, x = .ref l ∧ vs = [] ∧ H l = some (.lst xs) ∧ xs[xs.length - 1]? = some y ∧ Q y (upd H l (.lst xs.dropLast))
theorem mt_pop : MtM X "list.pop" rPop := by
  intro pins s σ H x vs v us Q I rx rv h
  obtain ⟨l, xs, y, rfl, rfl, hH, hy, q⟩ := h
  cases rx
  have hus := rv.zero
  subst hus
  obtain ⟨z, its, n, r, hl, e⟩ := I.lstM hH
  obtain ⟨u, hu, ru⟩ := r.get hy
  have hy' : its.toArray[its.toArray.size - 1]? = some u := by
    show its.toArray[its.length - 1]? = some u
    rw [← Array.getElem?_toList, ← hl]
    exact hu
  refine call_meets F.slot_list_pop ⟨_, e, rfl⟩ F.entry_list_pop (F.args_list_pop_1 _) (MeetsSeq.list_pop_last l its.toArray n u hy' (by rw [List.size_toArray]; omega)) ⟨e, ?_⟩
  refine ⟨y, _, I.lset (its' := its.dropLast) hH e ?_ r.dropLast ?_, ru, q⟩
  · show its.toArray.eraseIdxIfInBounds (its.toArray.size - 1) = its.dropLast.toArray
    rw [List.size_toArray, List.eraseIdxIfInBounds_toArray, erase_last]
  · rw [List.length_dropLast]
    omega

def rPopAt : V → List V → Hp → VK → Prop := fun x vs H Q => ∃ l xs i k y, x = .ref l ∧ vs = [.int i] ∧ H l = some (.lst xs) ∧ -(2 ^ 63) ≤ i ∧ i < 2 ^ 63 ∧ seqIndex? i xs.length = some k ∧ xs[k]? = some y ∧ Q y (upd H l (.lst (xs.eraseIdx k)))
theorem mt_popAt : MtM X "list.pop" rPopAt := by
  intro pins s σ H x vs v us Q I rx rv h
  obtain ⟨l, xs, i, k, y, rfl, rfl, hH, h1, h2, hk, hy, q⟩ := h
  cases rx
  obtain ⟨u, rfl, ru⟩ := rv.one
  obtain ⟨t, rfl⟩ := ru
  obtain ⟨z, its, n, r, hl, e⟩ := I.lstM hH
  obtain ⟨w, hw, rw'⟩ := r.get hy
  refine call_meets F.slot_list_pop ⟨_, e, rfl⟩ F.entry_list_pop (F.args_list_pop_2 _ _)
    (MeetsSeq.list_pop_at l its.toArray n i t k w (fitsIndex_both h1 h2) (by rw [List.size_toArray, ← hl]; exact hk) (by rw [← Array.getElem?_toList]; exact hw) (by rw [List.size_toArray]; omega)) ⟨e, ?_⟩
  refine ⟨y, _, I.lset (its' := its.eraseIdx k) hH e ?_ (r.eraseIdx k) ?_, rw', q⟩
  · show its.toArray.eraseIdxIfInBounds k = (its.eraseIdx k).toArray
    rw [List.eraseIdxIfInBounds_toArray]
  · have := len_erase xs k
    omega

def rReverse : V → List V → Hp → VK → Prop := fun x vs H Q => ∃ l xs, x = .ref l ∧ vs = [] ∧ H l = some (.lst xs) ∧ Q .non (upd H l (.lst xs.reverse))
theorem mt_reverse : MtM X "list.reverse" rReverse := by
  intro pins s σ H x vs v us Q I rx rv h
  obtain ⟨l, xs, rfl, rfl, hH, q⟩ := h
  cases rx
  have hus := rv.zero
  subst hus
  obtain ⟨z, its, n, r, hl, e⟩ := I.lstM hH
  refine call_meets F.slot_list_reverse ⟨_, e, rfl⟩ F.entry_list_reverse (F.args_list_reverse_1 _) (AutoSeq1.list_reverse_list_0 l its.toArray n (by rw [List.size_toArray]; omega)) ⟨e, ?_⟩
  refine ⟨.non, _, I.lset (its' := its.reverse) hH e (by simp) r.reverse ?_, rfl, q⟩
  rw [List.length_reverse]
  omega

def rClear : V → List V → Hp → VK → Prop := fun x vs H Q => ∃ l xs, x = .ref l ∧ vs = [] ∧ H l = some (.lst xs) ∧ Q .non (upd H l (.lst []))
theorem mt_clear : MtM X "list.clear" rClear := by
  intro pins s σ H x vs v us Q I rx rv h
  obtain ⟨l, xs, rfl, rfl, hH, q⟩ := h
  cases rx
  have hus := rv.zero
  subst hus
  obtain ⟨z, its, n, r, hl, e⟩ := I.lstM hH
  refine call_meets F.slot_list_clear ⟨_, e, rfl⟩ F.entry_list_clear (F.args_list_clear_1 _) (AutoSeq1.list_clear_list_0 l its.toArray n (by rw [List.size_toArray]; omega)) ⟨e, ?_⟩
  exact ⟨.non, _, I.lset (its' := []) (ys := []) hH e rfl .nil (Nat.zero_le _), rfl, q⟩

/-! ### list + list, list += list, list * int -/
def rCat : R2 := fun x y H Q => ∃ l b xs zs, x = .ref l ∧ y = .ref b ∧ H l = some (.lst xs) ∧ H b = some (.lst zs) ∧ xs.length + zs.length ≤ sizeLine ∧ ∀ p, H p = none → Q (.ref p) (upd H p (.lst (xs ++ zs)))
theorem op_cat : OpR X (binaryOp .Add) rCat := by
  intro pins s σ H x y v u Q I rx ry h
  obtain ⟨l, b, xs, zs, rfl, rfl, hH, hB, hz, q⟩ := h
  cases rx
  cases ry
  obtain ⟨z, its, n, r, hl, e⟩ := I.lstM hH
  obtain ⟨z2, its2, n2, r2, hl2, e2⟩ := I.lstM hB
  refine PySem.P.add_list e e2 ?_ (by rw [List.size_toArray, List.size_toArray]; omega)
  have ea : its.toArray ++ its2.toArray = (its ++ its2).toArray := by simp
  rw [ea]
  exact ⟨.ref _, _, I.lnew (t' := s.toks) (r.append r2) (by rw [List.length_append]; omega), rfl, q _ I.fresh⟩
/-- a list times an int (a negative one is nothing) -/
def rRep : R2 := fun x y H Q => ∃ l k xs, x = .ref l ∧ y = .int k ∧ H l = some (.lst xs) ∧ -(2 ^ 63) ≤ k ∧ k < 2 ^ 63 ∧ xs.length * k.toNat ≤ sizeLine ∧
  ∀ p, H p = none → Q (.ref p) (upd H p (.lst (List.replicate k.toNat xs).flatten))
theorem len_rep {α : Type} (xs : List α) (k : Nat) : (List.replicate k xs).flatten.length = k * xs.length := by
  induction k with
  | zero => simp
  | succ k ih => rw [List.replicate_succ, List.flatten_cons, List.length_append, ih, Nat.succ_mul, Nat.add_comm]
theorem op_rep : OpR X (binaryOp .Mult) rRep := by
  intro pins s σ H x y v u Q I rx ry h
  obtain ⟨l, k, xs, rfl, rfl, hH, h1, h2, hz, q⟩ := h
  cases rx
  obtain ⟨t, rfl⟩ := ry
  obtain ⟨z, its, n, r, hl, e⟩ := I.lstM hH
  have hlen : its.toArray.size * k.toNat ≤ sizeLine := by rw [List.size_toArray, ← hl]; exact hz
  have hcap : ¬ its.toArray.size * k.toNat > (2 ^ 63 - 1) / 8 := by
    have : (sizeLine : Nat) ≤ (2 ^ 63 - 1) / 8 := by decide
    omega
  have hfit : ¬ (!Builtin.List.listFitsIndex k) = true := by
    rw [fitsIndex_both h1 h2]
    exact Bool.false_ne_true
  have hlong : ¬ Builtin.List.listTooLong (its.toArray.size * k.toNat) = true := by
    rw [notLongL hlen]
    exact Bool.false_ne_true
  have hnew : List.foldl (fun x1 x2 => x1 ++ x2) #[] (List.replicate (if its.toArray.isEmpty = true then 0 else k.toNat) its.toArray) = (List.replicate k.toNat its).flatten.toArray := by
    have f0 : ∀ m : Nat, List.foldl (fun x1 x2 => x1 ++ x2) #[] (List.replicate m its.toArray) = (List.replicate m its).flatten.toArray := fun m => by
      have := foldl_rep its m []
      rw [List.nil_append] at this
      exact this
    rw [f0]
    cases its with
    | nil => simp
    | cons a r' => rw [if_neg (by simp)]
  refine wpAny_binaryOp_repeat_ref (T := "list") (U := "int") (by decide) ⟨_, e, rfl⟩ (fun s' => typeIs_int s' k t) noFill_list_mul F.fills_int_mul F.slot_int_rmul repeat_list F.slot_int_index.lookup
    (call_meets F.slot_int_rmul (typeIs_int s k t) F.entry_int_rmul (F.args_int_rmul_2 _ _) (int___rmul___int_list k t l its.toArray n)
      ⟨e, rfl, ⟨_, e, rfl⟩, call_meets F.slot_list_mul ⟨_, e, rfl⟩ F.entry_list_mul (F.args_list_mul_2 _ _) (AutoListH.list___mul___list_int_3 l its.toArray n k t hfit hcap hlong) ⟨e, ?_⟩⟩)
  rw [hnew]
  exact ⟨.ref _, _, I.lnew (t' := s.toks) (r.rep k.toNat) (by rw [len_rep, Nat.mul_comm]; exact hz), rfl, q _ I.fresh⟩

/-! ### del xs[i] -/
theorem del_list {pins : List (Addr × Obj)} {s : Shared} {σ : St} {H : Hp} {l : Addr} {xs : List V} {i : Int} {t : Tok} {k : Nat} {Q : Unit → Shared → Prop} (I : Inv X pins σ H s) (hH : H l = some (.lst xs))
    (h1 : -(2 ^ 63) ≤ i) (h2 : i < 2 ^ 63) (hk : seqIndex? i xs.length = some k) (h : ∀ s', Inv X pins σ (upd H l (.lst (xs.eraseIdx k))) s' → Q () s') :
    wpAny (model X.prog X.w) X.A (delItem (.ref l) (.int i t)) Q X.xe s := by
  obtain ⟨z, its, n, r, hl, e⟩ := I.lstM hH
  refine PySem.P.delItem_list (k := k) e (fitsIndex_both h1 h2) (by rw [List.size_toArray, ← hl]; exact hk) (h _ ?_) (by rw [List.size_toArray]; omega)
  refine I.lset (its' := its.eraseIdx k) (t' := s.toks) hH e ?_ (r.eraseIdx k) ?_
  · show its.toArray.eraseIdxIfInBounds k = (its.eraseIdx k).toArray
    rw [List.eraseIdxIfInBounds_toArray]
  · have := len_erase xs k
    omega
end

/-! ### xs[a:b] = ys -/
section
variable {prog : Program} {w : World} {A : Around} {E : Value → Shared → Prop} {s : Shared}
theorem splice_eq (its its2 : List Value) (a c : Nat) : its.toArray.extract 0 a ++ its2.toArray ++ its.toArray.extract c its.toArray.size = (its.take a ++ its2 ++ its.drop c).toArray := by
  apply Array.toList_inj.mp
  first
    | (simp
       exact List.take_of_length_le (by simp))
    | simp [List.take_of_length_le]
    | simp
theorem bounds_run {a c n : Nat} (hac : a ≤ c) (hc : c ≤ n) : sliceBounds (some (a : Int)) (some (c : Int)) none n = ((a : Int), (c : Int), 1) := by
  simp only [sliceBounds, Option.getD_none]
  have h1 : ¬ ((a : Int) < 0) := by omega
  have h2 : ¬ ((c : Int) < 0) := by omega
  simp only [h1, h2, if_false, show (1 : Int) > 0 by decide, if_true]
  congr 1
  · omega
  · congr 1; omega
set_option maxRecDepth 100000 in
/-- list.__setitem__ with a slice of step one and another list -/
theorem setItem_slice {l b sl : Addr} {items new : Array Value} {n n2 : Nat} {vl vu : Value} {a c : Nat} {Q : Unit → Shared → Prop}
    (e : s.heap.get? l = some { cls := .type "list", data := .seq items n }) (e2 : s.heap.get? b = some { cls := .type "list", data := .seq new n2 }) (hne : l ≠ b)
    (hs : s.heap.IsSliceOf sl vl vu .none) (pl : IsPart vl (some (a : Int))) (pu : IsPart vu (some (c : Int))) (hac : a ≤ c) (hc : c ≤ items.size)
    (hsz : items.size + new.size ≤ sizeLine) (h : Q () { s with heap := s.heap.update l (Obj.mapSeq fun xs => xs.extract 0 a ++ new ++ xs.extract c xs.size) }) :
    wpAny (model prog w) A (setItem (.ref l) (.ref sl) (.ref b)) Q E s := by
  have hl : s.heap.IsList l items := PySem.IsL.isList e
  have hb : s.heap.IsList b new := PySem.IsL.isList e2
  obtain ⟨os, hos, hcs, hds⟩ := id hs
  have hTs : s.TypeIs (.ref sl) "slice" := ⟨os, hos, hcs⟩
  have hstep : ¬ ((rawPart none == rawInt 0) = true) := Bool.false_ne_true
  have hsame : Builtin.List.listSameRef (.ref l) (.ref b) = false := by
    unfold Builtin.List.listSameRef
    exact beq_eq_false_iff_ne.mpr hne
  have hmax : (max (a : Int) (c : Int)).toNat = c := by omega
  have hz' : ((fun xs : Array Value => xs.extract 0 a ++ new ++ xs.extract c xs.size) items).size ≤ sizeLine + 1 := by
    simp only [Array.size_append, Array.size_extract]
    omega
  unfold setItem
  try with_reducible refine wpAny_holding ?_
  first | refine wpAny_bind (wpAny_pure ?_) | skip
  refine wpAny_bind (wpAny_sequenceKey hl.typeIs (by decide) ?_)
  refine wpAny_bind (wpAny_callSpecial?_slot (name := Str.ofString "__setitem__") hl.typeIs slot_list_setitem
    (wpAny_call_entry slot_list_setitem hl.typeIs entry_list_setitem ?_ (args_list_setitem _ _ _)))
  show wpAny _ _ (Builtin.List.listSubscript? (.ref sl) >>= _) _ _ s
  refine wpAny_bind ?_
  unfold Builtin.List.listSubscript?
  refine wpAny_bind (wpAny_specialOf hTs slice_no_index ?_)
  simp only [Option.isNone_none, if_true]
  refine wpAny_pure ?_
  show wpAny _ _ (typeOf (.ref sl) >>= _) _ _ s
  refine wpAny_bind (wpAny_typeOf hTs ?_)
  first
    | rw [if_neg (by decide)]
    | refine PySem.W.KFB.if_not (by decide) ?_
  rw [listSliceParts_eq]
  refine wpAny_bind (wpAny_bind (wpAny_field hos hds (x := .none) rfl (wpAny_bind (wpAny_listPart .none ?_))))
  rw [if_neg hstep]
  refine wpAny_bind (wpAny_field hos hds (x := vl) rfl (wpAny_bind (wpAny_listPart pl ?_)))
  refine wpAny_bind (wpAny_field hos hds (x := vu) rfl (wpAny_bind (wpAny_listPart pu (wpAny_pure ?_))))
  first
    | simp only [hsame, Bool.false_eq_true, if_false]
    | refine PySem.W.KFB.if_not hsame ?_
    | (dsimp only
       rw [if_neg (by rw [hsame]; exact Bool.false_ne_true)])
  refine wpAny_bind (m := Builtin.List.listAllItems (.ref b) "must assign iterable to extended slice") ?_
  unfold Builtin.List.listAllItems
  refine wpAny_bind (wpAny_typeOf hb.typeIs ?_)
  first
    | refine PySem.W.KFB.if_so (by decide) ?_
    | rw [if_pos (by decide)]
    | simp only [beq_self_eq_true, Bool.true_or, if_true]
  unfold Builtin.List.listItems
  refine wpAny_bind (wpAny_seqItems e2 rfl (wpAny_pure ?_))
  refine wpAny_bind (wpAny_bind (wpAny_seqItems e rfl (wpAny_pure ?_)))
  refine wpAny_bind (wpAny_of_eq ((sliceIndices_raw (some (a : Int)) (some (c : Int)) none items.size (by simp)).trans (congrArg (pure : Int × Int × Int → Sem (Int × Int × Int)) (bounds_run hac hc))) ?_)
  show wpAny _ _ (if ((1 : Int) == 1) = true then _ else _) _ _ s
  rw [if_pos (by decide)]
  refine wpAny_bind (wpAny_rule ?_)
  first
    | simp only [notLongL hsz, Bool.false_eq_true, if_false]
    | refine PySem.W.KFB.if_not (notLongL hsz) ?_
  first | refine wpAny_bind (wpAny_pure ?_) | skip
  show wpAny _ _ (updateSeq l (fun xs => xs.extract 0 ((a : Int)).toNat ++ new ++ xs.extract (max (a : Int) (c : Int)).toNat xs.size) >>= _) _ _ s
  rw [hmax, Int.toNat_natCast]
  refine wpAny_bind (wpAny_updateSeq (hz := Nat.le_trans (Nat.le_add_right _ _) hsz) (_hz' := hz') e rfl ?_)
  refine wpAny_bind (wpAny_letGo ?_)
  first
    | exact wpAny_bind (wpAny_pure (wpAny_pure ⟨.none, rfl, wpAny_pure h⟩))
    | exact wpAny_pure ⟨.none, rfl, wpAny_pure h⟩
end

section
variable {X : Cx}
/-- xs[a:c] = ys of another list, at the value level: sl is the slice object that was just made -/
theorem set_slice {pins : List (Addr × Obj)} {s : Shared} {σ : St} {H : Hp} {l b sl : Addr} {xs ys : List V} {a c : Int} {vl vu : Value} {Q : Unit → Shared → Prop} (I : Inv X pins σ H s)
    (hH : H l = some (.lst xs)) (hB : H b = some (.lst ys)) (hne : l ≠ b) (hs : s.heap.IsSliceOf sl vl vu .none) (ra : RelV (.int a) vl) (rc : RelV (.int c) vu) (h0 : 0 ≤ a) (hac : a ≤ c) (hc : c ≤ xs.length)
    (hz : xs.length + ys.length ≤ sizeLine) (h : ∀ s', Inv X pins σ (upd H l (.lst (xs.take a.toNat ++ ys ++ xs.drop c.toNat))) s' → Q () s') :
    wpAny (model X.prog X.w) X.A (setItem (.ref l) (.ref sl) (.ref b)) Q X.xe s := by
  obtain ⟨ta, rfl⟩ := ra
  obtain ⟨tc, rfl⟩ := rc
  obtain ⟨z, its, n, r, hl, e⟩ := I.lstM hH
  obtain ⟨z2, its2, n2, r2, hl2, e2⟩ := I.lstM hB
  obtain ⟨a', rfl⟩ := Int.eq_ofNat_of_zero_le h0
  obtain ⟨c', rfl⟩ := Int.eq_ofNat_of_zero_le (Int.le_trans h0 hac)
  simp only [Int.toNat_natCast] at h
  refine setItem_slice (a := a') (c := c') e e2 hne hs (.int _ _) (.int _ _) (by omega) (by rw [List.size_toArray]; omega) (by rw [List.size_toArray, List.size_toArray]; omega) (h _ ?_)
  refine I.lset (its' := its.take a' ++ its2 ++ its.drop c') (t' := s.toks) hH e ?_ (Vals.append (Vals.append (r.take _) r2) (r.drop _)) ?_
  · exact splice_eq its its2 a' c'
  · rw [List.length_append, List.length_append, List.length_take, List.length_drop]
    omega
end
end L2

namespace Att
open PySem PySem.W PySem.Calls PyProof.Rows

/-! ### the script -/
theorem ints_of_wellAll {P : Params} {h : Heap} : ∀ (ns : List Int) (vs : List Value), WellAll P h vs (ns.map WData.int) → IntsAre vs ns := by
  intro ns
  induction ns with
  | nil =>
    intro vs w
    rw [List.map_nil] at w
    cases w
    exact .nil
  | cons n ns ih =>
    intro vs w
    rw [List.map_cons] at w
    cases w with
    | cons a b =>
      cases a
      exact .cons _ _ (ih _ b)

theorem script_of {l : OpenLaw} {n : Nat} (hn : l.most = some n) {P : Params} {h : Heap} {args : List WData} {vals : List Value}
    (hpre : l.row.toRowW.claim.pre args = true) (hwl : WellAll P h vals args) :
    ∃ a vs ns, vals = [Value.ref a] ∧ args = [WData.list (ns.map WData.int)] ∧ h.get? a = some { cls := .type "list", data := .seq vs.toArray } ∧ IntsAre vs ns ∧ ns.length ≤ n := by
  have hsh : WShape.hasAll [] args [.list .int] = true := (pre_splitW hpre).1
  have hc : l.pre.holds [] { args := args } = true := (pre_splitW hpre).2
  obtain ⟨d, r, rfl, h1, h2⟩ := hasAllW_cons hsh
  obtain rfl := hasAllW_nil h2
  obtain ⟨xs, rfl, h3⟩ := hasW_list h1
  obtain ⟨ns, rfl⟩ := items_int h3
  have hlen : ns.length ≤ n := by
    unfold OpenLaw.pre at hc
    have h4 : (WTm.not (.lt (.lit (.int (n : Int))) (.len (.arg 0)))).holds [] { args := [.list (ns.map .int)] } = true := by
      have h4 := (holds_andW hc).1
      rw [hn] at h4
      exact h4
    have h5 := condW_of h4 (w_not (w_lt w_lit (w_len_list (w_arg rfl))))
    rw [List.length_map] at h5
    refine Nat.le_of_not_lt fun q => ?_
    have q' : (n : Int) < ((ns.length : Nat) : Int) := by omega
    first
      | (rw [decide_eq_true q'] at h5; exact absurd h5 (by decide))
      | (simp at h5; omega)
  cases hwl with
  | cons w1 w2 =>
    cases w2
    cases w1 with
    | list ho hall => exact ⟨_, _, ns, rfl, rfl, ho, ints_of_wellAll ns _ hall, hlen⟩

theorem post_true (l : OpenLaw) (args : List WData) : l.row.toRowW.claim.post args (.bool true) args = true :=
  postW_of (r := l.row.toRowW) (X := (true == true))
    (show WShape.has [] (.bool true) .bool = true by first | rfl | decide | simp [WShape.has, WShape.arms, WShape.armsAll])
    (show (WTm.eq .res (.lit (.bool true))).value [] { args := args, res := some (.bool true), after := args } = some (.bool (true == true)) from w_eq_bool (w_res rfl) w_lit) rfl

/-! ### the attachment: holds_open's last premise (the goal 'hc' behind k_head) from a wpAny of the law's body -/
theorem attach {l : OpenLaw} {n : Nat} {q : Program} {loose : List Str} {XP : (Str → Option Value) → Heap → Prop} {YP : World → Heap → Prop} {d : DefRec} {x : Str}
    (hn : l.most = some n) (hdf : d.params.defaults = [])
    (hbind : ∀ pm cd doc v : Value, bindArgs (docDef d.name d.params d.body d.scope pm cd doc) ⟨[v], []⟩ = pure [(x, v)])
    (hx : d.scope.names.lookup x = some .local ∨ d.scope.names.lookup x = some .cell)
    (hk : d.scope.kind = .function) (hco : d.scope.isCoroutine = false) (hgen : d.scope.isGenerator = false)
    (body : ∀ (w : World) (s₀ s₁ s : Shared) (mg mb : Str → Option Value) (fa : Addr) (o : Obj) (pm cd doc : Value) (a : Addr) (vs : List Value) (ns : List Int),
      Ground q loose [] XP w s₀ mg mb s₁.heap → YP w s₁.heap →
      s₁.heap.get? fa = some o → o.data = .func (docDef d.name d.params d.body d.scope pm cd doc) → s₁.heap.CodeRec cd d.name → mg d.name = some (.ref fa) →
      s₁.heap.get? a = some { cls := .type "list", data := .seq vs.toArray } → IntsAre vs ns → ns.length ≤ n →
      s.gens = #[] → s.os = s₁.os →
      Fr s₁.heap s₁.heap.objs.size s.heap (bindL (envOfC d.name d.scope s₁.heap.objs.size fa cd).kindOf [(x, .ref a)] fun _ => none) →
      Cl s₁.heap.objs.size (cellsFrom (s₁.heap.objs.size + 1) d.scope.names []) s.heap (bindC (envOfC d.name d.scope s₁.heap.objs.size fa cd).kindOf [(x, .ref a)] fun _ => none) →
      wpAny (model l.prog w) (callerA.deeper (envOfC d.name d.scope s₁.heap.objs.size fa cd)) (execs d.body (envOfC d.name d.scope s₁.heap.objs.size fa cd))
        (fun f s' => f = .ret (.bool true) ∧ OldK s₁.heap s'.heap ∧ s'.os = s₁.os ∧ AllBare s'.gens) (fun _ _ => False) s) :
    WalkO q loose XP YP l.row.toRowW d [] (fun f vs => PySem.call f vs) := by
  intro w s₀ s₁ mg mb G Y fa o pm cd doc dV kV ho hd hcd hD hmg hg args vals as hpre hlay hrd hwl hlo
  obtain rfl : dV = .none := Dflts.none hD hdf
  obtain rfl : kV = .none := Dflts.noKw hD
  obtain ⟨a, vs, ns, rfl, rfl, hobj, hints, hlen⟩ := script_of hn hpre hwl
  refine enter_call ?_
  refine call_cells_ret (o := o) (by rw [depth_caller]; decide) ho (fd_plain hd) G.T.nolimit hcd (hbind pm cd doc (.ref a)) (fun y hy => ?_) (fun h₁ tk F X => ?_) hco hgen hk
  · obtain rfl : y = (x, Value.ref a) := List.mem_singleton.mp hy
    rcases hx with e | e
    · exact .inl e
    · exact .inr ⟨e, cellsFrom_some _ _ _ (.inl e)⟩
  · refine wpAny_mono (body w s₀ s₁ { s₁ with heap := h₁, toks := tk } mg mb fa o pm cd doc a vs ns G Y ho (fd_plain hd) hcd hmg hobj hints hlen hg rfl F X) (fun f s' hq => ?_) (fun _ _ hq => hq)
    obtain ⟨rfl, h2, h3, h4⟩ := hq
    exact ⟨.inl ⟨.bool true, .bool true, [], rfl, fun _ => rfl, .bool true, post_true l _, fun _ => ⟨List.Pairwise.nil, fun _ hm => (nomatch hm)⟩⟩, h2, h3, h4⟩

/-- the same from a codeAny of the CALL (for a layer whose function contracts speak of calls) -/
theorem attach_call {l : OpenLaw} {n : Nat} {q : Program} {loose : List Str} {XP : (Str → Option Value) → Heap → Prop} {YP : World → Heap → Prop} {d : DefRec}
    (hn : l.most = some n) (hdf : d.params.defaults = [])
    (call : ∀ (w : World) (s₀ s₁ : Shared) (mg mb : Str → Option Value) (fa : Addr) (o : Obj) (pm cd doc : Value) (a : Addr) (vs : List Value) (ns : List Int),
      Ground q loose [] XP w s₀ mg mb s₁.heap → YP w s₁.heap →
      s₁.heap.get? fa = some o → o.data = .func (docDef d.name d.params d.body d.scope pm cd doc) → s₁.heap.CodeRec cd d.name → mg d.name = some (.ref fa) →
      s₁.heap.get? a = some { cls := .type "list", data := .seq vs.toArray } → IntsAre vs ns → ns.length ≤ n → s₁.gens = #[] →
      codeAny (model l.prog w) callerA (.call (.ref fa) ⟨[.ref a], []⟩) (fun r s' => r = .ok (.ret (.bool true)) ∧ OldK s₁.heap s'.heap ∧ s'.os = s₁.os ∧ AllBare s'.gens) s₁) :
    WalkO q loose XP YP l.row.toRowW d [] (fun f vs => PySem.call f vs) := by
  intro w s₀ s₁ mg mb G Y fa o pm cd doc dV kV ho hd hcd hD hmg hg args vals as hpre hlay hrd hwl hlo
  obtain rfl : dV = .none := Dflts.none hD hdf
  obtain rfl : kV = .none := Dflts.noKw hD
  obtain ⟨a, vs, ns, rfl, rfl, hobj, hints, hlen⟩ := script_of hn hpre hwl
  refine enter_call (codeAny_mono (call w s₀ s₁ mg mb fa o pm cd doc a vs ns G Y ho (fd_plain hd) hcd hmg hobj hints hlen hg) fun r s' hq => ?_)
  obtain ⟨rfl, h2, h3, h4⟩ := hq
  exact ⟨.inl ⟨.bool true, .bool true, [], rfl, fun _ => rfl, .bool true, post_true l _, fun _ => ⟨List.Pairwise.nil, fun _ hm => (nomatch hm)⟩⟩, h2, h3, h4⟩

/-- the same where the top left finished generators (o_head chose holds_openN): nothing may have changed at all and no generator may be left -/
theorem attachN {l : OpenLaw} {n : Nat} {q : Program} {loose : List Str} {XP : (Str → Option Value) → Heap → Prop} {YP : World → Heap → Prop} {d : DefRec} {x : Str}
    (hn : l.most = some n) (hdf : d.params.defaults = [])
    (hbind : ∀ pm cd doc v : Value, bindArgs (docDef d.name d.params d.body d.scope pm cd doc) ⟨[v], []⟩ = pure [(x, v)])
    (hx : d.scope.names.lookup x = some .local ∨ d.scope.names.lookup x = some .cell)
    (hk : d.scope.kind = .function) (hco : d.scope.isCoroutine = false) (hgen : d.scope.isGenerator = false)
    (body : ∀ (w : World) (s₀ s₁ s : Shared) (mg mb : Str → Option Value) (fa : Addr) (o : Obj) (pm cd doc : Value) (a : Addr) (vs : List Value) (ns : List Int),
      Ground q loose [] XP w s₀ mg mb s₁.heap → YP w s₁.heap →
      s₁.heap.get? fa = some o → o.data = .func (docDef d.name d.params d.body d.scope pm cd doc) → s₁.heap.CodeRec cd d.name → mg d.name = some (.ref fa) →
      s₁.heap.get? a = some { cls := .type "list", data := .seq vs.toArray } → IntsAre vs ns → ns.length ≤ n →
      s.gens = #[] → s.os = s₁.os →
      Fr s₁.heap s₁.heap.objs.size s.heap (bindL (envOfC d.name d.scope s₁.heap.objs.size fa cd).kindOf [(x, .ref a)] fun _ => none) →
      Cl s₁.heap.objs.size (cellsFrom (s₁.heap.objs.size + 1) d.scope.names []) s.heap (bindC (envOfC d.name d.scope s₁.heap.objs.size fa cd).kindOf [(x, .ref a)] fun _ => none) →
      wpAny (model l.prog w) (callerA.deeper (envOfC d.name d.scope s₁.heap.objs.size fa cd)) (execs d.body (envOfC d.name d.scope s₁.heap.objs.size fa cd))
        (fun f s' => f = .ret (.bool true) ∧ (∀ b o, s₁.heap.get? b = some o → s'.heap.get? b = some o) ∧ s'.os = s₁.os ∧ s'.gens = #[]) (fun _ _ => False) s) :
    WalkN q loose XP YP l.row.toRowW d [] (fun f vs => PySem.call f vs) := by
  intro w s₀ s₁ mg mb G Y fa o pm cd doc dV kV ho hd hcd hD hmg hg args vals as hpre hlay hrd hwl hlo
  obtain rfl : dV = .none := Dflts.none hD hdf
  obtain rfl : kV = .none := Dflts.noKw hD
  obtain ⟨a, vs, ns, rfl, rfl, hobj, hints, hlen⟩ := script_of hn hpre hwl
  refine enter_callW ?_
  refine call_cells_ret (o := o) (by rw [depth_caller]; decide) ho (fd_plain hd) G.T.nolimit hcd (hbind pm cd doc (.ref a)) (fun y hy => ?_) (fun h₁ tk F X => ?_) hco hgen hk
  · obtain rfl : y = (x, Value.ref a) := List.mem_singleton.mp hy
    rcases hx with e | e
    · exact .inl e
    · exact .inr ⟨e, cellsFrom_some _ _ _ (.inl e)⟩
  · refine wpAny_mono (body w s₀ s₁ { s₁ with heap := h₁, toks := tk } mg mb fa o pm cd doc a vs ns G Y ho (fd_plain hd) hcd hmg hobj hints hlen hg rfl F X) (fun f s' hq => ?_) (fun _ _ hq => hq)
    obtain ⟨rfl, h2, h3, h4⟩ := hq
    exact ⟨.inl ⟨.bool true, .bool true, [], rfl, fun _ => rfl, .bool true, post_true l _, fun _ => ⟨List.Pairwise.nil, fun _ hm => (nomatch hm)⟩⟩, h2, h3, h4⟩

/-! ### rules over ANY heap (no ledger) from facts about the written part K: the library's own take a ledger (News) for what they write -/
section
variable {prog : Program} {w : World} {A : Around} {E : Value → Shared → Prop} {s : Shared} {K : Frag}

/-- a def of the module, or a method (qual 'C.m'), entered: the frame is the next address; cells behind it -/
theorem call_fn {R : Result → Shared → Prop} {name qual : Str} {params : Arguments} {body : List Stmt} {scope : Scope} {dV kV doc pm cdv ct oc : Value} {an od : Option Addr} {osl : Array (Option Value)} {f : Addr} {args : Args} {binds : List (Str × Value)}
    (X : K.In s.heap) (hlim : s.heap.NoLimit) (ho : K.lookup f = some ⟨oc, od, .func (fnOf name qual params body scope dV kV doc pm an cdv ct), osl⟩) (hcd : codeIn K cdv qual = true) (hroom : A.depth < recursionLimit)
    (hbind : BindsTo s (fnOf name qual params body scope dV kV doc pm an cdv ct) args binds)
    (hkind : (binds.all fun y => scope.names.lookup y.1 == some .local || scope.names.lookup y.1 == some .cell) = true)
    (h : ∀ s₁, InCallC s s.heap.objs.size (bindL (envOfC qual scope s.heap.objs.size f cdv).kindOf binds fun _ => none) (cellsFrom (s.heap.objs.size + 1) scope.names [])
        (bindC (envOfC qual scope s.heap.objs.size f cdv).kindOf binds fun _ => none) s₁ →
      wpAny (model prog w) (A.deeper (envOfC qual scope s.heap.objs.size f cdv)) (execs body (envOfC qual scope s.heap.objs.size f cdv))
        (fun fl s' => R (.ok (.ret (match fl with | .ret v => v | _ => .none))) s')
        (fun e s' => wpAny (model prog w) (A.deeper (envOfC qual scope s.heap.objs.size f cdv)) (leaving (envOfC qual scope s.heap.objs.size f cdv) e) (fun _ s'' => R (.error e) s'') (fun e' s'' => R (.error e') s'') s') s₁)
    (hco : scope.isCoroutine = false) (hgen : scope.isGenerator = false) (hk : scope.kind = .function) : codeAny (model prog w) A (.call (.ref f) args) R s := by
  refine codeAny_call_function hroom (X _ _ ho) rfl hco hgen rfl (codeRec_of X hcd) (hbind _ _ _ _ ?_)
  refine wpAny_newFunctionEnv_cells hk (kindsX hkind _) fun env he s₁ x => ?_
  subst he
  exact ⟨hlim.keeps x.toInCall.keep, codeAny_func (h s₁ x)⟩

/-- C(..): dict at size, instance at size + 1, then __init__ -/
theorem make_obj {R : Result → Shared → Prop} {C fI : Addr} {rest : List Value} {kw : List (Str × Value)}
    (X : K.In s.heap) (hm : makesIn K C = true) (hi : findIn K (.ref C) "__init__" = some (some (.ref fI))) (hf : isFn K (.ref fI) = true)
    (h : codeAny (model prog w) (A.under (.builtin "type.__call__" ⟨.ref C :: rest, kw⟩)) (.call (.ref fI) ⟨.ref (s.heap.objs.size + 1) :: rest, kw⟩) (InitBack (s.heap.objs.size + 1) R)
      { s with heap := (s.heap.push emptyDict).push (instObj C s.heap.objs.size) }) : codeAny (model prog w) A (.call (.ref C) ⟨rest, kw⟩) R s := by
  obtain ⟨hh, g, d, t, os⟩ := s
  exact make_core (makes_of X hm) (looks_findIn X hi) (fun self => bind_fn X self (beq_iff_eq.mp hf)) (.inl rfl) h

/-- x.name where the instance's dict holds the name and the class does not -/
theorem get_field {x C : Addr} {ox : Obj} {es : List DictEntry} {n : Nat} {name : Str} {expr : Bool} {v : Value} {Q : Value → Shared → Prop}
    (X : K.In s.heap) (I : PySem.W.InstAt s.heap x ox C (some (dictOf es n))) (hg : plainGet K C name = true) (hh : hasDictIn K C = true) (ha : findIn K (.ref C) name = some none)
    (hl : getL name es = some (some v)) (hv : handedIn v = true) (h : Q v { s with toks := s.toks + 1 }) : wpAny (model prog w) A (getAttr (.ref x) name expr) Q E s :=
  get_value X I (plainGet_of hg).1 (findObj_own hh ha rfl hl) hv h

/-- x.m(..): the method found in the class -/
theorem get_method {x C f : Addr} {ox : Obj} {es : List DictEntry} {n : Nat} {name : Str} {pl : Sem Bool} {Q : Value × List Value → Shared → Prop}
    (X : K.In s.heap) (I : PySem.W.InstAt s.heap x ox C (some (dictOf es n))) (hg : plainGet K C name = true) (hf : findIn K (.ref C) name = some (some (.ref f))) (ht : isFn K (.ref f) = true)
    (hl : getL name es = some none) (h : Q (.ref f, [.ref x]) s) : wpAny (model prog w) A (getMethod (.ref x) name pl) Q E s :=
  method_fn X I (plainGet_of hg).1 (plainGet_of hg).2 hf (beq_iff_eq.mp ht) (by show (lookIn name (dictOf es n)).map _ = _; rw [lookIn_dict, hl]; rfl) h

/-! the whole heap as the ledger: makes every rule that writes through a ledger a rule over any heap -/
def noObjs (h : Heap) : Heap := { h with objs := #[] }
theorem noObjs_get (h : Heap) (b : Addr) : (noObjs h).get? b = none := by
  cases e : (noObjs h).get? b with
  | none => rfl
  | some o => exact absurd (Heap.lt_size e) (Nat.not_lt_zero _)
def ledger (h : Heap) (L d : Addr) : List (Addr × Obj) := (List.range h.objs.size).filterMap fun a => if a = L ∨ a = d then none else (h.get? a).map fun o => (a, o)
theorem mem_ledger {h : Heap} {L d a : Addr} {o : Obj} : (a, o) ∈ ledger h L d ↔ a ≠ L ∧ a ≠ d ∧ h.get? a = some o := by
  unfold ledger
  rw [List.mem_filterMap]
  constructor
  · rintro ⟨b, _, e⟩
    split at e
    · cases e
    · rename_i hb
      obtain ⟨o', ho, e'⟩ := Option.map_eq_some_iff.mp e
      cases e'
      exact ⟨fun q => hb (.inl q), fun q => hb (.inr q), ho⟩
  · rintro ⟨n1, n2, ho⟩
    refine ⟨a, List.mem_range.mpr (Heap.lt_size ho), ?_⟩
    rw [if_neg (show ¬ (a = L ∨ a = d) from fun q => q.elim n1 n2), ho] <;> rfl
theorem news_ledger {h : Heap} {L d : Addr} {od : Obj} (hne : d ≠ L) (ho : h.get? d = some od) : News (noObjs h) L h ([] ++ (d, od) :: ledger h L d) := by
  rintro ⟨a, o⟩ hp
  rcases List.mem_cons.mp hp with e | hp
  · cases e
    exact ⟨ho, hne, noObjs_get _ _⟩
  · obtain ⟨n1, n2, e⟩ := mem_ledger.mp hp
    exact ⟨e, n1, noObjs_get _ _⟩
theorem fr_all {h : Heap} {L : Addr} {m : Str → Option Value} (n : h.Ns L m) : Fr (noObjs h) L h m :=
  ⟨n, fun b o e => (by rw [noObjs_get] at e; cases e), Nat.zero_le _⟩
/-- Upd of the head entry (for append_K, setItem_K ..) -/
theorem upd_ledger {h : Heap} {L d : Addr} {o o' : Obj} : Upd d o o' ((d, o) :: ledger h L d) ((d, o') :: ledger h L d) :=
  .head fun ⟨_, _⟩ hp => (mem_ledger.mp hp).2.1

/-- x.name = v over any heap: L is any namespace of the heap (the frame's, say): its map stays, its object is not told; all else but the dict stays -/
theorem set_field {x C dx L : Addr} {ox : Obj} {m : Str → Option Value} {es es' : List DictEntry} {n n' : Nat} {name : Str} {v : Value} {Q : Unit → Shared → Prop}
    (X : K.In s.heap) (I : PySem.W.InstAt s.heap x ox C (some (dictOf es n))) (hd : ox.dict = some dx) (hL : s.heap.Ns L m) (hne : dx ≠ L)
    (hs : findIn K (.ref C) "__setattr__" = some (some (.builtin "object.__setattr__"))) (hp : plainOver K C = true) (ht : takerIn K C name = some none) (hh : hasDictIn K C = true) (hl : (getL name es).isSome = true)
    (e : (putL name (PyData.keyHash w.params name) (.str name (s.toks + 1)) v es, putN name es n) = (es', n')) (hz : es'.length ≤ 1000)
    (h : ∀ h' : Heap, h'.Ns L m → h'.get? dx = some (dictOf es' n') → (∀ b o, b ≠ dx → b ≠ L → s.heap.get? b = some o → h'.get? b = some o) → Q () { s with heap := h', toks := s.toks + 2 }) :
    wpAny (model prog w) A (setAttr (.ref x) name v) Q E s := by
  obtain ⟨e1, e2⟩ := Prod.mk.inj e
  have hdx : s.heap.get? dx = some (dictOf es n) := by
    have := I.dict
    rw [hd] at this
    exact this
  refine set_plain X I hs (osa_dict (s := { s with toks := s.toks + 1 }) (h₀ := noObjs s.heap) (L := L) (m := m) (od := dictOf es n) (od' := dictOf es' n') (es := es') (n := n') (pre := []) (post := ledger s.heap L dx)
    (fr_all hL) (news_ledger hne hdx) X I hd hp ht hh hl (fun _ q => nomatch q) (fun ⟨_, _⟩ q => (mem_ledger.mp q).2.1) (by rw [putName_dict, e1, e2]) rfl hz fun h' F' N' => ?_)
  exact h h' F'.ns (N'.get (List.Mem.head _)) fun b o n1 n2 ho => N'.get (List.Mem.tail _ (mem_ledger.mpr ⟨n2, n1, ho⟩))
end
end Att

namespace L2
open PySem PySem.Spec PyProof.Rows

theorem vals_ints : ∀ {vs : List Value} {ns : List Int}, IntsAre vs ns → Vals (ns.map V.int) vs
  | _, _, .nil => .nil
  | _, _, .cons n t h => .cons ⟨t, rfl⟩ (vals_ints h)

/-- nothing is tracked but the script, known to the object (or it is an object of the module) -/
def Only (H : Hp) : Prop := ∀ b, H b = none ∨ ∃ o xs, H b = some (.frz o (.lst xs))

/-- THE HEAD: the law's promise, at the heap behind the top. F, the promise of the law's def, may use that base is part of the heap (so K.In base, base.Ns mainGlobals mg stand in Mod) -/
theorem law_call {P : Program} {w : World} {K : PySem.W.Frag} {mg mb : Str → Option Value} {CX : CXT} {k : Nat} {fa a : Addr} {fd : FuncData} {x : Str} {sp : Sp} {s₁ : Shared} {vs : List Value} {ns : List Int}
    (KX : K.In s₁.heap) (hns : s₁.heap.Ns mainGlobals mg) (hb : s₁.heap.Ns builtinsNs mb) (hbb : ∀ x : Str, x ≠ "__name__" → mb x = bootBuiltins x) (hlim : s₁.heap.NoLimit) (hg : s₁.gens = #[])
    (ha : s₁.heap.get? a = some { cls := .type "list", data := .seq vs.toArray }) (hi : IntsAre vs ns) (hl : ns.length ≤ sizeLine) (hr : Room k callerA)
    (F : ∀ base : Heap, K.In base → base.Ns mainGlobals mg → FnOk P w K mg base CX k fa fd [x] sp) (hbind : ∀ (s : Shared) (u : Value), BindsTo s fd ⟨[u], []⟩ [(x, u)])
    (hsp : ∀ H : Hp, Only H → SqL K H a (ns.map V.int) → sp [.ref a] H (fun v _ => v = .bl true) fun _ _ _ => False)
    (hCX : ∀ H e s', CX [] H s₁ (fun _ _ _ => False) e s' → False) :
    codeAny (model P w) callerA (.call (.ref fa) ⟨[.ref a], []⟩) (fun r s' => r = .ok (.ret (.bool true)) ∧ OldK s₁.heap s'.heap ∧ s'.os = s₁.os ∧ AllBare s'.gens) s₁ := by
  have rv := vals_ints hi
  have lenV := hi.length
  -- from an abstract heap in which nothing but the script may be tracked
  have core : ∀ H : Hp, Only H → SqL K H a (ns.map V.int) → HOk P w H s₁.heap → (∀ b, H b ≠ none → b = a) → (H a ≠ none → K.lookup a = none) →
      codeAny (model P w) callerA (.call (.ref fa) ⟨[.ref a], []⟩) (fun r s' => r = .ok (.ret (.bool true)) ∧ OldK s₁.heap s'.heap ∧ s'.os = s₁.os ∧ AllBare s'.gens) s₁ := by
    intro H hO hS hok hA hK
    have base_of : ∀ {b : Addr} {o : Obj}, s₁.heap.get? b = some o → H b = none → (hidT s₁.heap H).get? b = some o := fun e n => hidT_get e n
    have noA : ∀ {b : Addr} {o : Obj} {es : Array DictEntry} {ep : Nat}, s₁.heap.get? b = some o → o.data = .dict es ep → H b = none := fun {b o es ep} e d => by
      cases q : H b with
      | none => rfl
      | some u =>
        have e' : b = a := hA b (by rw [q]; simp)
        subst e'
        rw [ha] at e; cases e
        have d' : Data.seq vs.toArray _ = Data.dict es ep := d
        cases d'
    have nsK : ∀ {b : Addr} {m : Str → Option Value}, s₁.heap.Ns b m → (hidT s₁.heap H).Ns b m := fun {b m} ⟨o, es, ep, e, d, r⟩ => ⟨o, es, ep, base_of e (noA e d), d, r⟩
    have hKb : K.In (hidT s₁.heap H) := fun b o e => base_of (KX b o e) (by
      cases q : H b with
      | none => rfl
      | some u =>
        have e' : b = a := hA b (by rw [q]; simp)
        subst e'
        rw [hK (by rw [q]; simp)] at e; cases e)
    have hM : Mod K mg (hidT s₁.heap H) := ⟨hKb, nsK hns, ⟨mb, nsK hb, hbb⟩, let ⟨mc, h1, h2⟩ := hlim; ⟨mc, nsK h1, h2⟩⟩
    have e0 : Env0 P w K mg (hidT s₁.heap H) callerA [] s₁ H := ⟨rfl, hM, fun b o e => of_hidT e, Nat.le_of_eq (hidT_size _ _), trivial, fun b hb => absurd (show b ∈ ([] : List Addr) from hb) (by simp), hok, .of_eq hg⟩
    refine codeAny_mono ((F _ hKb (nsK hns)).run callerA [] s₁ H ⟨[.ref a], []⟩ [.ref a] [.ref a] _ _ hr e0 (hbind s₁ (.ref a)) (.cons rfl .nil) (hsp H hO hS)) fun r s' h => ?_
    cases r with
    | error e => exact (hCX H e s' h).elim
    | ok fl =>
      cases fl with
      | next => exact False.elim h
      | brk => exact False.elim h
      | cont => exact False.elim h
      | ret u =>
        obtain ⟨v, H', os, bare, un, hok', r', q⟩ := h
        have q' : v = .bl true := q
        subst q'
        obtain rfl : u = Value.bool true := r'
        refine ⟨rfl, OldK.of_keep fun b o e => ?_, os, bare⟩
        cases q : H b with
        | none => exact un.keep b o e q (by intro z; exact absurd (show b ∈ ([] : List Addr) from z) (by simp)) (by simp)
        | some u =>
          rcases hO b with z | ⟨ob, xs, z⟩
          · rw [q] at z; cases z
          · have z2 := un.frzs b ob _ z
            obtain ⟨e1, _⟩ := hok b _ z
            obtain ⟨e2, _⟩ := hok' b _ z2
            rw [e] at e1; cases e1
            exact e2
  cases hk : K.lookup a with
  | some o =>
    -- the script is one of the module's own objects
    have e := KX a o hk
    rw [ha] at e
    cases e
    refine core (fun _ => none) (fun _ => .inl rfl) (.inr ⟨_, vs.toArray, _, hk, rfl, rfl, rfl, by rw [List.size_toArray, lenV]; exact hl, by simpa using rv⟩) (fun b u z => by have z' : (none : Option HO) = some u := z; cases z') (fun b z => absurd rfl z) fun z => absurd rfl z
  | none =>
    refine core (fun b => if b = a then some (.frz { cls := .type "list", data := .seq vs.toArray } (.lst (ns.map V.int))) else none) (fun b => ?_) (.inl (.inr ⟨{ cls := .type "list", data := .seq vs.toArray }, if_pos rfl⟩)) (fun b u z => ?_) (fun b z => ?_) fun _ => hk
    · by_cases hb : b = a
      · exact .inr ⟨_, _, if_pos hb⟩
      · exact .inl (if_neg hb)
    · by_cases hb : b = a
      · have z' := (if_pos hb).symm.trans z
        cases z'
        subst hb
        exact ⟨ha, by rw [List.length_map]; exact hl, vs, _, rv, ha⟩
      · have z' := (if_neg hb).symm.trans z
        cases z'
    · by_cases hb : b = a
      · exact hb
      · exact absurd (if_neg hb) z
end L2

namespace L2
open PySem PySem.Spec PyProof.Rows

abbrev KOf {K : PySem.W.Frag} {h : Heap} (_ : K.In h) : PySem.W.Frag := K

/-- the goal that k_head leaves (case hc), from the law's promise. F gives the function object fd (K's own) once, then the promise over every base -/
theorem walk_of {l : PySem.W.OpenLaw} {n k : Nat} {q : Program} {loose : List Str} {XP : (Str → Option Value) → Heap → Prop} {YP : World → Heap → Prop} {d : DefRec} {K : Params → PySem.W.Frag} {CX : World → CXT} {sp : World → Sp} {x : Str}
    (hn : l.most = some n) (hn2 : n ≤ sizeLine) (hdf : d.params.defaults = []) (hr : Room k callerA)
    (hY : ∀ (w : World) (h : Heap), YP w h → (K w.params).In h)
    (F : ∀ (w : World) (mg : Str → Option Value) (fa : Addr) (h : Heap), (K w.params).In h → h.Ns mainGlobals mg → mg d.name = some (.ref fa) →
      ∃ fd : FuncData, (∀ (s : Shared) (u : Value), BindsTo s fd ⟨[u], []⟩ [(x, u)]) ∧
        ∀ base : Heap, (K w.params).In base → base.Ns mainGlobals mg → FnOk l.prog w (K w.params) mg base (CX w) k fa fd [x] (sp w))
    (hsp : ∀ (w : World) (H : Hp) (a : Addr) (ns : List Int), ns.length ≤ n → Only H → SqL (K w.params) H a (ns.map V.int) → sp w [.ref a] H (fun v _ => v = .bl true) fun _ _ _ => False)
    (hCX : ∀ (w : World) (H : Hp) (s : Shared) (e : Value) (s' : Shared), CX w [] H s (fun _ _ _ => False) e s' → False) :
    PySem.W.WalkO q loose XP YP l.row.toRowW d [] (fun f vs => PySem.call f vs) := by
  refine Att.attach_call hn hdf fun w s₀ s₁ mg mb fa o pm cd doc a vs ns G Y ho hd hcd hmg hobj hints hlen hg => ?_
  have KX := hY w _ Y
  obtain ⟨fd, hb, hF⟩ := F w mg fa _ KX G.T.g hmg
  exact law_call KX G.T.g G.T.b G.T.builtins G.T.nolimit hg hobj hints (Nat.le_trans hlen hn2) hr hF hb (fun H hO hS => hsp w H a ns hlen hO hS) fun H e s' => hCX w H s₁ e s'
/-- the same where the promise hangs on the written part alone: (sp := My.sp_law), no hole under a binder -/
theorem walk_ofK {l : PySem.W.OpenLaw} {n k : Nat} {q : Program} {loose : List Str} {XP : (Str → Option Value) → Heap → Prop} {YP : World → Heap → Prop} {d : DefRec} {K : Params → PySem.W.Frag} {CX : CXT} {sp : PySem.W.Frag → Sp} {x : Str}
    (hn : l.most = some n) (hn2 : n ≤ sizeLine) (hdf : d.params.defaults = []) (hr : Room k callerA)
    (hY : ∀ (w : World) (h : Heap), YP w h → (K w.params).In h)
    (F : ∀ (w : World) (mg : Str → Option Value) (fa : Addr) (h : Heap), (K w.params).In h → h.Ns mainGlobals mg → mg d.name = some (.ref fa) →
      ∃ fd : FuncData, (∀ (s : Shared) (u : Value), BindsTo s fd ⟨[u], []⟩ [(x, u)]) ∧
        ∀ base : Heap, (K w.params).In base → base.Ns mainGlobals mg → FnOk l.prog w (K w.params) mg base CX k fa fd [x] (sp (K w.params)))
    (hsp : ∀ (K : PySem.W.Frag) (H : Hp) (a : Addr) (ns : List Int), ns.length ≤ n → Only H → SqL K H a (ns.map V.int) → sp K [.ref a] H (fun v _ => v = .bl true) fun _ _ _ => False)
    (hCX : ∀ (H : Hp) (s : Shared) (e : Value) (s' : Shared), CX [] H s (fun _ _ _ => False) e s' → False) :
    PySem.W.WalkO q loose XP YP l.row.toRowW d [] (fun f vs => PySem.call f vs) :=
  walk_of (K := K) (CX := fun _ => CX) (sp := fun w => sp (K w.params)) hn hn2 hdf hr hY F (fun w H a ns h1 h2 h3 => hsp (K w.params) H a ns h1 h2 h3) fun _ H s e s' => hCX H s e s'
end L2

/- THE LAST THEOREM (shape; LID, My.* are yours):
   My.Adr: a structure of the addresses that your layer names (classes, functions); My.Txt K t: a structure (Prop) of the equations over K;
   My.txt_mk : {K} {implicit addresses ..} (e1 : nsIn K mainGlobals "law" = some (some (.ref f))) (e2 : K.lookup f = some ⟨oc, od, .func (fnOf "law" "law" params body scope dV kV doc pm an cdv ct), sl⟩) (e3 : codeIn K cdv "law" = true) .. : ∃ t, My.Txt K t

set_option maxRecDepth 100000 in
set_option maxHeartbeats 0 in
theorem PySem.Challenge.cw_LID_holds : PySem.Challenge.rw_LID.Holds := by
  w_on; o_law; k_head; (case hw => w_witness2)
  k_fill
  refine L2.walk_of (l := PySem.Challenge.rw_LID) (n := 63) (k := 40) (x := "script") (CX := fun w => ..) (sp := fun _ => My.sp_law) rfl (by decide) rfl ⟨rfl, by decide, by decide⟩ (fun w h Y => PySem.W.kIn_of Y) ?F ?S ?C
  case F =>
    intro w mg fa h KX G hmg
    have T : ∃ t, My.Txt (L2.KOf KX) t := by
      dsimp only [L2.KOf]                          -- K must stand as «<heap const> w.params» for k_is
      refine' My.txt_mk ?e1 ?e2 ?e3 ..
      (case e1 => PySem.W.k_is)                    -- in the order: a name -> its address -> its object -> its parts
      (case e2 => PySem.W.k_is)
      ..
    obtain ⟨t, T⟩ := T
    have e0 := hmg.symm.trans (PySem.W.mg_of KX G T.law)
    cases e0                                       -- fa is the law's own address
    exact ⟨_, fun s u => .of_eq rfl, fun base kb nb => My.law_fn T kb nb⟩     -- if «.of_eq rfl» comes too early: refine' ⟨_, ?b, fun base kb nb => My.law_fn T kb nb⟩; exact fun s u => .of_eq rfl
  case S => exact fun w H a ns hl hO hS => ..
  case C => exact ..
(the tactic k_is has no namespace: write k_is) -/

/-! SHORT WORDS over the layer: a def of the text, its body, what a loop and a test want. -/
namespace L2
open PySem PySem.Spec PyProof.Rows

/-! ### the text by places -/
/-- the j-th statement of a class's body -/
def inClass (s : Stmt) (j : Nat) : Stmt := match s with
  | .ClassDef _ _ _ body _ _ _ _ _ _ _ => body.getD j (.Pass ⟨0, 0, 0, 0⟩)
  | _ => .Pass ⟨0, 0, 0, 0⟩
def defArgs (s : Stmt) : Arguments := match s with
  | .FunctionDef _ a _ _ _ _ _ _ _ _ => a
  | _ => { posonlyargs := [], args := [], vararg := none, kwonlyargs := [], kw_defaults := [], kwarg := none, defaults := [] }
def defBody (s : Stmt) : List Stmt := match s with
  | .FunctionDef _ _ b _ _ _ _ _ _ _ => b
  | _ => []
def defScope (s : Stmt) : Scope := match s with
  | .FunctionDef _ _ _ _ _ _ sc _ _ _ => sc
  | _ => { kind := .function, names := [], isGenerator := false, isCoroutine := false }

/-! ### no exception leaves a def -/
abbrev CX0 : CXT := fun _ _ _ _ _ _ => False
abbrev E0 : XK := fun _ _ _ => False
theorem pass0 {X : Cx} : Passes CX0 X E0 := fun _ _ _ _ _ _ _ h => h.elim

/-! ### a def (or method) of the text as it stands behind the top -/
structure Fun (K : PySem.W.Frag) (x qual : Str) (st : Stmt) (f : Addr) (fd : FuncData) : Prop where
  ex : ∃ (oc : Value) (od : Option Addr) (kV doc pm : Value) (an : Option Addr) (cdv ct : Value) (osl : Array (Option Value)),
    fd = PySem.W.fnOf x qual (defArgs st) (defBody st) (defScope st) .none kV doc pm an cdv ct ∧ K.lookup f = some ⟨oc, od, .func fd, osl⟩ ∧ PySem.W.codeIn K cdv qual = true
  kp : PySem.W.keepIn K (.ref f) = true
section
variable {P : Program} {w : World} {K : PySem.W.Frag} {mg : Str → Option Value} {base : Heap}
/-- THE RULE for a def: its body as a term of rules, and the reading of that term -/
theorem Fun.ok {x qual : Str} {st : Stmt} {f : Addr} {fd : FuncData} {N ps : List Str} {k : Nat} {sp : Sp} (F : Fun K x qual st f fd) (S : FnScope N ps (defScope st)) (len : ∀ vs H Q E, sp vs H Q E → vs.length = ps.length)
    (hbody : ∀ (cdv : Value) (A : Around) (outer : List Env) (s : Shared) (H : Hp) (vs : List V) (Q : VK) (E : XK), Room k (A.deeper (envOfC qual (defScope st) s.heap.objs.size f cdv)) → sp vs H Q E →
      ∃ t, PSs (cxOf CX0 P w K mg base N qual (defScope st) f cdv A outer s H E).nox (defBody st) t ∧ t { nx := fun _ H' => Q .non H', rt := Q } (start N vs) H) : FnOk P w K mg base CX0 (k + 1) f fd ps sp := by
  obtain ⟨oc, od, kV, doc, pm, an, cdv, ct, osl, rfl, lk, hcd⟩ := F.ex
  refine fn_of lk hcd S len fun A outer s H vs Q E hr hsp => ?_
  obtain ⟨t, h, q⟩ := hbody cdv A outer s H vs Q E hr hsp
  exact ⟨t, h.nox, q⟩
/-- how its arguments bind (no defaults): h is «fun _ _ _ _ _ _ us hl => match us, hl with | [_, _], _ => rfl», one _ a parameter -/
theorem Fun.binds {x qual : Str} {st : Stmt} {f : Addr} {fd : FuncData} {ps : List Str} (F : Fun K x qual st f fd)
    (h : ∀ (kV doc pm : Value) (an : Option Addr) (cdv ct : Value) (us : List Value), us.length = ps.length → bindArgs (PySem.W.fnOf x qual (defArgs st) (defBody st) (defScope st) .none kV doc pm an cdv ct) ⟨us, []⟩ = pure (ps.zip us)) : Binds K fd ps [] := by
  obtain ⟨oc, od, kV, doc, pm, an, cdv, ct, osl, rfl, lk, hcd⟩ := F.ex
  exact .all (h kV doc pm an cdv ct)
theorem fun_mk {x qual : Str} {st : Stmt} {f : Addr} {oc : Value} {od an : Option Addr} {osl : Array (Option Value)} {kV doc pm cdv ct : Value} (l : K.lookup f = some ⟨oc, od, .func (PySem.W.fnOf x qual (defArgs st) (defBody st) (defScope st) .none kV doc pm an cdv ct), osl⟩)
    (c : PySem.W.codeIn K cdv qual = true) (k : PySem.W.keepIn K (.ref f) = true) : Fun K x qual st f (PySem.W.fnOf x qual (defArgs st) (defBody st) (defScope st) .none kV doc pm an cdv ct) := ⟨⟨oc, od, kV, doc, pm, an, cdv, ct, osl, rfl, l, c⟩, k⟩
end
theorem hu_of {A : Around} {k : Nat} (hr : Room k A) : A.units + 1 < cLine := Nat.lt_of_le_of_lt (Nat.add_le_add_left (by decide : 1 ≤ 64) _) hr.units
theorem small1000 {n : Nat} (h : n ≤ 1000) : n < sizeLine := Nat.lt_of_le_of_lt h (by decide)

/-! ### expressions in short: the name that stands in the i-th slot -/
section
variable {X : Cx}
theorem pv (i : Nat) {x : Str} {pos : Pos} (hN : X.N[i]? = some x := by rfl) (hv : Vis X.env.scope x := by first | exact Or.inl rfl | exact Or.inr (Or.inl rfl) | exact Or.inr (Or.inr rfl)) (hd : (x == ("__debug__" : Str)) = false := by decide)
    (hcd : (x == ("__classdict__" : Str)) = false := by decide) : PE X (.Name x pos) (tVar i) := pe_var hN hv hd hcd
end

/-! ### tests -/
theorem iteF {A B : Prop} (h : B) : if false = true then A else B := by
  rw [if_neg Bool.false_ne_true]
  exact h
theorem iteT {A B : Prop} (h : A) : if true = true then A else B := by
  rw [if_pos rfl]
  exact h
theorem ite2 {c A B : Prop} [Decidable c] (h1 : c → A) (h2 : ¬ c → B) : if c then A else B := by
  by_cases h : c
  · rw [if_pos h]
    exact h1 h
  · rw [if_neg h]
    exact h2 h
theorem iteNS {c A B : Prop} [Decidable c] (hc : c) (h : B) : if (!decide c) = true then A else B := by
  rw [decide_eq_true hc]
  exact iteF h

/-! ### heaps -/
/-- all that was tracked is as it was -/
def Same (H H' : Hp) : Prop := ∀ b o, H b = some o → H' b = some o
theorem Same.refl (H : Hp) : Same H H := fun _ _ h => h
theorem Same.trans {H H1 H2 : Hp} (a : Same H H1) (b : Same H1 H2) : Same H H2 := fun c o h => b c o (a c o h)
theorem Same.free {H H' : Hp} (e : Same H H') {l : Addr} (h : H' l = Option.none) : H l = Option.none := by
  cases q : H l with
  | none => rfl
  | some o =>
    rw [e l o q] at h
    cases h
theorem Same.seq {K : PySem.W.Frag} {H H' : Hp} {a : Addr} {xs : List V} (e : Same H H') (h : SqL K H a xs) : SqL K H' a xs := by
  rcases h with (h | ⟨o, h⟩) | h
  · exact .inl (.inl (e _ _ h))
  · exact .inl (.inr ⟨o, e _ _ h⟩)
  · exact .inr h

end L2

set_option Elab.async false
set_option linter.all false
set_option maxRecDepth 100000
set_option maxHeartbeats 4000000
namespace L2
open PySem PySem.Spec PyProof.Rows

/-! ### comprehensions: the block's context -/
abbrev lstO (us : List Value) : Obj := { cls := .type "list", data := .seq us.toArray us.length }
def cxComp (X : Cx) (Nc : List Str) (scope : Scope) (cs : List (Str × Addr)) (C : Addr) (s : Shared) (H : Hp) (fp : List Addr) : Cx where
  prog := X.prog
  w := X.w
  K := X.K
  mg := X.mg
  base := X.base
  A := X.A
  N := Nc
  s₀ := s
  H₀ := H
  env := compEnvC scope cs C X.env
  outer := X.stack
  stack := X.stack
  ex := fp
  fn := fun x => scope.names.lookup x == some .cell
  calm := X.calm
  pn := []
  xe := fun _ _ => False

/-- the cells of the free names -/
def clOf (cells : List (Str × Addr)) : List (Str × NameKind) → List (Str × Addr) → List (Str × Addr)
  | [], acc => acc
  | (n, k) :: r, acc => if k == .free then clOf cells r ((n, (cells.lookup n).getD 0) :: acc) else clOf cells r acc
theorem clOf_acc (cells : List (Str × Addr)) : ∀ (names : List (Str × NameKind)) (acc : List (Str × Addr)), clOf cells names acc = clOf cells names [] ++ acc
  | [], acc => rfl
  | (n, k) :: r, acc => by
    unfold clOf
    split
    · rw [clOf_acc cells r (_ :: acc), clOf_acc cells r [_], List.append_assoc]; rfl
    · exact clOf_acc cells r acc
theorem closure_loop {env : Env} : ∀ (names : List (Str × NameKind)) (acc : List (Str × Addr)), (∀ p ∈ names, p.2 = .free → ∃ c, env.cells.lookup p.1 = some c) →
    (forIn names acc fun (p : Str × NameKind) (cs : List (Str × Addr)) => (if p.2 == .free then (do let c ← cellOf env p.1; pure (ForInStep.yield ((p.1, c) :: cs))) else pure (ForInStep.yield cs) : Sem _)) = pure (clOf env.cells names acc)
  | [], acc, _ => rfl
  | (n, k) :: r, acc, h => by
    rw [List.forIn_cons]
    have hr : ∀ p ∈ r, p.2 = .free → ∃ c, env.cells.lookup p.1 = some c := fun p hp => h p (List.mem_cons_of_mem _ hp)
    unfold clOf
    by_cases hk : k = .free
    · subst hk
      obtain ⟨c, hc⟩ := h (n, .free) List.mem_cons_self rfl
      have hc' : env.cells.lookup n = some c := hc
      simp only [beq_self_eq_true, if_true, cellOf, hc', pure_bind, Option.getD_some]
      exact closure_loop r _ hr
    · have hb : (k == NameKind.free) = false := by simpa using hk
      simp only [hb, Bool.false_eq_true, if_false, pure_bind]
      exact closure_loop r _ hr
theorem closureFor_eq {scope : Scope} {env : Env} (h : ∀ p ∈ scope.names, p.2 = .free → ∃ c, env.cells.lookup p.1 = some c) : closureFor scope env = pure (clOf env.cells scope.names []) := by
  have e : closureFor scope env = (forIn scope.names [] fun (p : Str × NameKind) (cs : List (Str × Addr)) => (if p.2 == .free then (do let c ← cellOf env p.1; pure (ForInStep.yield ((p.1, c) :: cs))) else pure (ForInStep.yield cs) : Sem _)) := by
    simp only [closureFor]
    rw [bind_pure]
  rw [e]; exact closure_loop _ _ h
theorem clOf_mem {cells : List (Str × Addr)} : ∀ {names : List (Str × NameKind)} {x : Str} {c : Addr}, (∀ p ∈ names, p.2 = .free → ∃ c, cells.lookup p.1 = some c) → (x, c) ∈ clOf cells names [] → (x, .free) ∈ names ∧ cells.lookup x = some c
  | [], _, _, _, h => nomatch h
  | (n, k) :: r, x, c, hf, h => by
    have hr : ∀ p ∈ r, p.2 = .free → ∃ c, cells.lookup p.1 = some c := fun p hp => hf p (List.mem_cons_of_mem _ hp)
    unfold clOf at h
    by_cases hk : k = .free
    · subst hk
      obtain ⟨c0, hc⟩ := hf (n, .free) List.mem_cons_self rfl
      have hc' : cells.lookup n = some c0 := hc
      rw [if_pos (by simp), clOf_acc, hc'] at h
      rcases List.mem_append.mp h with h | h
      · obtain ⟨a, b⟩ := clOf_mem hr h
        exact ⟨List.mem_cons_of_mem _ a, b⟩
      · have e : (x, c) = (n, c0) := by simpa using h
        cases e
        exact ⟨List.mem_cons_self, hc'⟩
    · rw [if_neg (by simpa using hk)] at h
      obtain ⟨a, b⟩ := clOf_mem hr h
      exact ⟨List.mem_cons_of_mem _ a, b⟩
theorem clOf_has {cells : List (Str × Addr)} : ∀ {names : List (Str × NameKind)} {x : Str}, (x, .free) ∈ names → ∃ c, (x, c) ∈ clOf cells names []
  | [], _, h => nomatch h
  | (n, k) :: r, x, h => by
    unfold clOf
    rcases List.mem_cons.mp h with e | h
    · cases e
      rw [if_pos (by simp), clOf_acc]
      exact ⟨_, List.mem_append_right _ List.mem_cons_self⟩
    · obtain ⟨c, hc⟩ := clOf_has (cells := cells) h
      split
      · rw [clOf_acc]; exact ⟨c, List.mem_append_left _ hc⟩
      · exact ⟨c, hc⟩
theorem lookup_of_mem {α : Type} : ∀ {l : List (Str × α)} {x : Str} {c : α}, (x, c) ∈ l → ∃ c', l.lookup x = some c'
  | [], _, _, h => nomatch h
  | (k, v) :: r, x, c, h => by
    rw [List.lookup_cons]
    cases hb : x == k with
    | true => exact ⟨v, rfl⟩
    | false =>
      rcases List.mem_cons.mp h with e | h
      · cases e; simp at hb
      · exact lookup_of_mem h
theorem lookup_append {α : Type} : ∀ {l r : List (Str × α)} {x : Str} {c : α}, (l ++ r).lookup x = some c → l.lookup x = some c ∨ (l.lookup x = none ∧ r.lookup x = some c)
  | [], r, x, c, h => .inr ⟨rfl, h⟩
  | (k, v) :: l, r, x, c, h => by
    rw [List.cons_append, List.lookup_cons] at h
    rw [List.lookup_cons]
    cases hb : x == k with
    | true => rw [hb] at h; exact .inl h
    | false => rw [hb] at h; exact lookup_append h
theorem cellsFrom_acc : ∀ (names : List (Str × NameKind)) (n : Nat) (acc : List (Str × Addr)), cellsFrom n names acc = cellsFrom n names [] ++ acc
  | [], _, _ => rfl
  | (x, k) :: r, n, acc => by
    unfold cellsFrom
    split
    · rw [cellsFrom_acc r (n + 1) (_ :: acc), cellsFrom_acc r (n + 1) [_], List.append_assoc]; rfl
    · exact cellsFrom_acc r n acc
theorem cellsFrom_mem : ∀ {names : List (Str × NameKind)} {n : Nat} {x : Str} {c : Addr}, (x, c) ∈ cellsFrom n names [] → (x, .cell) ∈ names
  | [], _, _, _, h => nomatch h
  | (y, k) :: r, n, x, c, h => by
    unfold cellsFrom at h
    by_cases hk : k = .cell
    · subst hk
      rw [if_pos (by simp), cellsFrom_acc] at h
      rcases List.mem_append.mp h with h | h
      · exact List.mem_cons_of_mem _ (cellsFrom_mem h)
      · have e : (x, c) = (y, n) := by simpa using h
        cases e
        exact List.mem_cons_self
    · rw [if_neg (by simpa using hk)] at h
      exact List.mem_cons_of_mem _ (cellsFrom_mem h)

theorem lookup_relabel {env : Env} : ∀ {names : List (Str × NameKind)} {x : Str},
    (names.map fun (p : Str × NameKind) => if (p.2 == NameKind.free && env.scope.kind == .function && env.kindOf p.1 == some .cell) then (p.1, NameKind.cell) else (p.1, p.2)).lookup x =
      (names.lookup x).map fun k => if (k == NameKind.free && env.scope.kind == .function && env.kindOf x == some .cell) then .cell else k
  | [], _ => rfl
  | (n, k) :: r, x => by
    have ih := @lookup_relabel env r x
    rw [List.map_cons]
    by_cases hc : (k == NameKind.free && env.scope.kind == .function && env.kindOf n == some .cell) = true
    · rw [if_pos hc]
      cases hx : x == n with
      | true =>
        have e : x = n := by simpa using hx
        subst e
        rw [List.lookup_cons, List.lookup_cons, hx]
        simp only [Option.map_some, if_pos hc]
      | false => rw [List.lookup_cons, List.lookup_cons, hx]; exact ih
    · rw [if_neg hc]
      cases hx : x == n with
      | true =>
        have e : x = n := by simpa using hx
        subst e
        rw [List.lookup_cons, List.lookup_cons, hx]
        simp only [Option.map_some, if_neg hc]
      | false => rw [List.lookup_cons, List.lookup_cons, hx]; exact ih

theorem wpAny_newCompEnv {M : Model} {A : Around} {E : Value → Shared → Prop} {s : Shared} {scope : Scope} {cl : List (Str × Addr)} {env : Env} {Q : Env → Shared → Prop}
    (hQ : Q (newEnv scope s.heap.objs.size env.globals (cellsFrom (s.heap.objs.size + 1) scope.names cl) env.qual none .none (some env) builtinsNs) { s with heap := pushCells (s.heap.push { cls := .type "dict", data := .dict #[] }) scope.names }) :
    wpAny M A (newFunctionEnv scope env.globals cl [] env.qual none .none (some env)) Q E s := by
  simp only [newFunctionEnv, Option.isSome_some, if_true]
  refine wpAny_bind (wpAny_alloc ?_)
  refine wpAny_bind (wpAny_layCells _ (fun name kind cells => by cases hkc : kind == NameKind.cell <;> simp [hkc]) _ _ _ _ ?_)
  rw [show ({ s with heap := s.heap.push { cls := .type "dict", data := .dict #[] } } : Shared).heap.objs.size = s.heap.objs.size + 1 from Heap.size_push ..]
  refine wpAny_bind ?_
  rw [List.forIn_nil]
  exact wpAny_pure (wpAny_pure hQ)

/-- what is to be looked at of the text, once: the block's names, which of the outer slots they take -/
def capOk (X : Cx) (Nc : List Str) (cap : List (Option Nat)) (scope : Scope) : Bool :=
  (scope.names.all fun p => (p.2 != .free || (X.env.scope.names.lookup p.1 == some .cell || X.env.scope.names.lookup p.1 == some .free)) && (scope.names.lookup p.1 == some p.2)) &&
  (Nc.length == cap.length) &&
  ((Nc.zip cap).all fun p => match p.2 with | none => true | some j => (X.N[j]? == some p.1) && (scope.names.lookup p.1 == some .free))
def capt (cap : List (Option Nat)) (σ : St) : St := cap.map fun o => o.bind fun j => (σ[j]?).join

structure CapOk (X : Cx) (Nc : List Str) (cap : List (Option Nat)) (scope : Scope) : Prop where
  free : ∀ p ∈ scope.names, p.2 = .free → X.env.kindOf p.1 = some .cell ∨ X.env.kindOf p.1 = some .free
  look : ∀ p ∈ scope.names, scope.names.lookup p.1 = some p.2
  len : Nc.length = cap.length
  take : ∀ (i : Nat) (x : Str) (j : Nat), Nc[i]? = some x → cap[i]? = some (some j) → X.N[j]? = some x ∧ scope.names.lookup x = some .free
theorem CapOk.of {X : Cx} {Nc : List Str} {cap : List (Option Nat)} {scope : Scope} (h : capOk X Nc cap scope = true) : CapOk X Nc cap scope := by
  unfold capOk at h
  simp only [Bool.and_eq_true] at h
  obtain ⟨⟨h1, h2⟩, h3⟩ := h
  rw [List.all_eq_true] at h1 h3
  refine ⟨fun p hp hf => ?_, fun p hp => ?_, by simpa using h2, fun i x j e1 e2 => ?_⟩
  · have q := h1 p hp
    simp only [Bool.and_eq_true, Bool.or_eq_true] at q
    rcases q.1 with q | q | q
    · rw [hf] at q; simp at q
    · exact .inl (beq_iff_eq.mp q)
    · exact .inr (beq_iff_eq.mp q)
  · have q := h1 p hp
    simp only [Bool.and_eq_true] at q
    simpa using q.2
  · have q := h3 (x, some j) (by
      refine List.mem_of_getElem? (i := i) ?_
      rw [List.getElem?_zip_eq_some]
      exact ⟨e1, e2⟩)
    simp only [Bool.and_eq_true] at q
    exact ⟨by simpa using q.1, by simpa using q.2⟩

/-- an untracked record of ours becomes tracked -/
theorem Inv.track {X : Cx} {pins : List (Addr × Obj)} {σ : St} {H : Hp} {s : Shared} {D : Addr} {o : HO} (I : Inv X pins σ H s) (f : FpOk X pins H D) (new : ObjOk X.prog X.w (upd H D o) s.heap D o) : Inv X pins σ (upd H D o) s := by
  obtain ⟨f0, f1, f2, f3, f4, f5⟩ := f
  have ne : ∀ b u, H b = some u → b ≠ D := fun b u e z => by rw [z, f0] at e; cases e
  exact I.step (g' := s.gens) (d' := s.drawn) (t' := s.toks) (h' := s.heap) (ch := [D]) (fun b hb => by
      have e : b = D := by simpa using hb
      subst e
      exact ⟨f3, f1, f4, f5⟩) (fun b o _ _ _ e _ => e) (fun b o _ _ _ e _ => ⟨o.slots, e⟩) (fun b o hc _ n => by rw [upd_ne (fun z => hc (by simp [z]))]; exact n) (fun b o _ e => ⟨o, e⟩)
    (fun b xs e => by rw [upd_ne (ne b _ e)]; exact e) (fun b o u e => by rw [upd_ne (ne b _ e)]; exact e) (fun b ps e => ⟨#[], by rw [upd_ne (ne b _ e), e]; simp⟩) (fun m hm => hm)
    (fun b u e => by
      by_cases hb : b = D
      · subst hb; rw [upd_same] at e; cases e; exact new
      · rw [upd_ne hb] at e
        exact (I.hok b u e).stay (fun c v _ q => q) (fun c q => by rw [upd_ne (ne c _ q)]; exact q) fun c xs q => by rw [upd_ne (ne c _ q)]; exact q) I.bare

/-- the block's start: D the new list, C the block's names, then the block's cells -/
theorem comp_start {X : Cx} {pins : List (Addr × Obj)} {σ : St} {H : Hp} {s : Shared} {fp : List Addr} {Nc : List Str} {cap : List (Option Nat)} {scope : Scope} (I : Inv X pins σ H s) (hf : ∀ b ∈ fp, FpOk X pins H b) (hlt : ∀ b ∈ fp, b < s.heap.objs.size)
    (ok : CapOk X Nc cap scope) (hk : scope.kind = .function) :
    Inv (cxComp X Nc scope (cellsFrom (s.heap.objs.size + 2) scope.names (clOf X.env.cells scope.names [])) (s.heap.objs.size + 1) s H fp) [] (capt cap σ) H
      { s with heap := pushCells ((s.heap.push (lstO [])).push { cls := .type "dict", data := .dict #[] }) scope.names } ∧
    (pushCells ((s.heap.push (lstO [])).push { cls := .type "dict", data := .dict #[] }) scope.names).get? s.heap.objs.size = some (lstO []) := by
  generalize hh1 : (s.heap.push (lstO [])) = h1
  have z1 : h1.objs.size = s.heap.objs.size + 1 := by rw [← hh1, Heap.size_push]
  generalize hh2 : (h1.push { cls := .type "dict", data := .dict #[] }) = h2
  have z2 : h2.objs.size = s.heap.objs.size + 2 := by rw [← hh2, Heap.size_push, z1]
  have up : ∀ b o, s.heap.get? b = some o → (pushCells h2 scope.names).get? b = some o := fun b o e => pushCells_keeps _ _ b o (by rw [← hh2, ← hh1]; exact Heap.get?_push_of_some _ (Heap.get?_push_of_some _ e))
  have hD : (pushCells h2 scope.names).get? s.heap.objs.size = some (lstO []) := pushCells_keeps _ _ _ _ (by rw [← hh2, ← hh1]; exact Heap.get?_push_of_some _ (Heap.get?_push_size _ rfl))
  refine ⟨?_, hD⟩
  have hns : (pushCells h2 scope.names).Ns (s.heap.objs.size + 1) (fun _ => none) := by
    have q := Heap.Ns.new h1 (.type "dict")
    rw [hh2, z1] at q
    exact q.keeps fun b o e => pushCells_keeps _ _ b o e
  have okc := cellsFrom_ok scope.names h2 (s.heap.objs.size + 2) [] ⟨fun _ _ hm => (nomatch hm), List.Pairwise.nil⟩ (by rw [z2]; exact Nat.le_refl _)
  rw [z2] at okc
  have hcl : ∀ p ∈ scope.names, p.2 = .free → ∃ c, X.env.cells.lookup p.1 = some c := fun p hp e => I.ok.has p.1 (ok.free p hp e)
  -- a name of the block's cells: its own, or one that is taken
  have cse : ∀ x c, (cellsFrom (s.heap.objs.size + 2) scope.names (clOf X.env.cells scope.names [])).lookup x = some c →
      ((x, c) ∈ cellsFrom (s.heap.objs.size + 2) scope.names [] ∧ scope.names.lookup x = some .cell ∧ s.heap.objs.size + 2 ≤ c) ∨ (scope.names.lookup x = some .free ∧ X.env.cells.lookup x = some c ∧ c < s.heap.objs.size) := fun x c e => by
    rw [cellsFrom_acc] at e
    rcases lookup_append e with e | ⟨_, e⟩
    · have m := PySem.mem_of_lookup e
      exact .inl ⟨m, ok.look _ (cellsFrom_mem m), (okc.empty x c m).2⟩
    · obtain ⟨a, b⟩ := clOf_mem hcl (PySem.mem_of_lookup e)
      obtain ⟨v, q⟩ := I.cell x c b
      exact .inr ⟨ok.look _ a, b, q.lt⟩
  have kn : ∀ x, (compEnvC scope (cellsFrom (s.heap.objs.size + 2) scope.names (clOf X.env.cells scope.names [])) (s.heap.objs.size + 1) X.env).kindOf x = (scope.names.lookup x).map fun k => if (k == NameKind.free && X.env.scope.kind == .function && X.env.kindOf x == some .cell) then .cell else k := fun x => lookup_relabel
  have has : ∀ x, scope.names.lookup x = some .cell ∨ scope.names.lookup x = some .free → ∃ c, (cellsFrom (s.heap.objs.size + 2) scope.names (clOf X.env.cells scope.names [])).lookup x = some c := fun x h => by
    rw [cellsFrom_acc]
    rcases h with h | h
    · obtain ⟨c, hc⟩ := Option.isSome_iff_exists.mp (PySem.W.cellsFrom_some scope.names (s.heap.objs.size + 2) [] (.inl h))
      exact lookup_of_mem (List.mem_append_left _ (PySem.mem_of_lookup hc))
    · obtain ⟨c, hc⟩ := clOf_has (cells := X.env.cells) (PySem.mem_of_lookup h)
      exact lookup_of_mem (List.mem_append_right _ hc)
  have kfree : ∀ x, scope.names.lookup x = some .free → (compEnvC scope (cellsFrom (s.heap.objs.size + 2) scope.names (clOf X.env.cells scope.names [])) (s.heap.objs.size + 1) X.env).kindOf x = some .cell ∨ (compEnvC scope (cellsFrom (s.heap.objs.size + 2) scope.names (clOf X.env.cells scope.names [])) (s.heap.objs.size + 1) X.env).kindOf x = some .free := fun x h => by
    rw [kn x, h]
    simp only [Option.map_some]
    split
    · exact .inl rfl
    · exact .inr rfl
  refine ⟨⟨I.ok.mod, hk, I.ok.glob, I.ok.blt, Nat.le_succ _, fun x y c h1 h2 => ?_, fun x h => ?_, fun x c h1 h2 => ?_, I.ok.hd, I.ok.frames, .inl rfl, fun b hb => ⟨Nat.ne_of_lt (Nat.lt_succ_of_lt (hlt b hb)), fun x c e => ?_⟩, I.bs, Nat.le_trans I.ok.bsz I.sz, fun b o e hb => ?_, fun b hb hm => ?_, I.stack, I.stkFree⟩,
    rfl, I.bare, Un.kept up, ⟨fun _ => none, hns, fun i x v e1 e2 e3 => ?_⟩, fun x c e => ?_, I.hok.fresh (Nat.le_succ _), fun x c e => ?_, fun p hp => absurd (show p ∈ ([] : List (Addr × Obj)) from hp) (by simp), I.hok.kept up, ?_⟩
  · rcases cse x c h1 with ⟨m1, _, l1⟩ | ⟨_, b1, l1⟩ <;> rcases cse y c h2 with ⟨m2, _, l2⟩ | ⟨_, b2, l2⟩
    · exact name_of_addr okc.apart m1 m2
    · exact absurd (Nat.lt_of_lt_of_le l2 (Nat.le_trans (Nat.le_add_right _ 2) l1)) (Nat.lt_irrefl _)
    · exact absurd (Nat.lt_of_lt_of_le l1 (Nat.le_trans (Nat.le_add_right _ 2) l2)) (Nat.lt_irrefl _)
    · exact I.ok.inj x y c b1 b2
  · refine has x ?_
    have h' : (compEnvC scope (cellsFrom (s.heap.objs.size + 2) scope.names (clOf X.env.cells scope.names [])) (s.heap.objs.size + 1) X.env).kindOf x = some .cell ∨ (compEnvC scope (cellsFrom (s.heap.objs.size + 2) scope.names (clOf X.env.cells scope.names [])) (s.heap.objs.size + 1) X.env).kindOf x = some .free := h
    rw [kn x] at h'
    cases q : scope.names.lookup x with
    | none => rw [q] at h'; rcases h' with h' | h' <;> cases h'
    | some k =>
      rw [q] at h'
      simp only [Option.map_some] at h'
      cases k <;> simp_all
  · have h1' : (scope.names.lookup x == some NameKind.cell) = true := h1
    rcases cse x c h2 with ⟨_, _, l⟩ | ⟨q, _, _⟩
    · exact Nat.le_trans (Nat.le_add_right _ 2) l
    · rw [q] at h1'; cases h1'
  · rcases cse x c e with ⟨_, _, l⟩ | ⟨_, q, _⟩
    · have h3 := hlt b hb
      exact fun z => absurd (Nat.lt_of_lt_of_le h3 (Nat.le_trans (Nat.le_add_right _ 2) (z ▸ l))) (Nat.lt_irrefl _)
    · exact (hf b hb).2.2.2.2.1 x c q
  · rcases (hf b hb).2.2.2.1 with z | z
    · exact I.ok.noex b o e z
    · exact absurd (Nat.lt_of_lt_of_le (Nat.lt_of_lt_of_le (Heap.lt_size e) I.ok.bsz) z) (Nat.lt_irrefl _)
  · rcases List.mem_cons.mp (I.stkSub b hm) with z | z
    · exact (hf b hb).2.1 z
    · exact (hf b hb).2.2.1 z
  · -- the names that are taken
    have e2' : (cap[i]?).map (fun o => o.bind fun j => (σ[j]?).join) = some (some v) := by
      have : (capt cap σ)[i]? = some (some v) := e2
      unfold capt at this
      rwa [List.getElem?_map] at this
    cases q : cap[i]? with
    | none => rw [q] at e2'; cases e2'
    | some o =>
      rw [q] at e2'
      cases o with
      | none => cases e2'
      | some j =>
        obtain ⟨n1, n2⟩ := ok.take i x j e1 q
        have hj : σ[j]? = some (some v) := by
          have w : (σ[j]?).join = some v := Option.some.inj e2'
          cases r : σ[j]? with
          | none => rw [r] at w; cases w
          | some o => rw [r] at w; rw [show o = some v from w]
        have vis : Vis X.env.scope x := by
          rcases ok.free _ (PySem.mem_of_lookup n2) rfl with z | z
          · exact .inr (.inl z)
          · exact .inr (.inr z)
        obtain ⟨m, hn, hl⟩ := I.loc
        obtain ⟨u, ru, lk⟩ := hl j x v n1 hj vis
        refine ⟨u, ru, .inr ⟨kfree x n2, ?_⟩⟩
        obtain ⟨c, hc⟩ := has x (.inr n2)
        rcases cse x c hc with ⟨_, w, _⟩ | ⟨_, w, _⟩
        · rw [n2] at w; cases w
        · rcases lk with ⟨k, _⟩ | ⟨_, c', w', ic⟩
          · rcases ok.free _ (PySem.mem_of_lookup n2) rfl with z | z <;> (have z' : X.env.kindOf x = _ := z; rw [k] at z'; cases z')
          · rw [w] at w'; cases w'
            obtain ⟨oc, ho, hd⟩ := ic
            exact ⟨c, hc, oc, up _ _ ho, hd⟩
  · rcases cse x c e with ⟨m, _, _⟩ | ⟨_, q, _⟩
    · exact ⟨_, (okc.empty x c m).1⟩
    · obtain ⟨v, oc, ho, hd⟩ := I.cell x c q
      exact ⟨v, oc, up _ _ ho, hd⟩
  · rcases cse x c e with ⟨m, _, l⟩ | ⟨_, q, _⟩
    · exact I.hok.fresh (Nat.le_trans (Nat.le_add_right _ 2) l)
    · exact I.freeC x c q
  · show (capt cap σ).length = Nc.length
    unfold capt
    rw [List.length_map, ok.len]
end L2

set_option Elab.async false
set_option linter.all false
set_option maxRecDepth 100000
set_option maxHeartbeats 4000000
namespace L2
open PySem PySem.Spec PyProof.Rows

/-! ### comprehensions: the turns -/
def AccOk (Y : Cx) (pins : List (Addr × Obj)) (D : Addr) (ys : List V) (H : Hp) (s : Shared) : Prop := FpOk Y pins H D ∧ ys.length ≤ sizeLine ∧ ∃ us, Vals ys us ∧ s.heap.get? D = some (lstO us)
abbrev LK := List V → St → Hp → Prop
abbrev TL := List V → St → Hp → LK → Prop
def LP (Y : Cx) (pins : List (Addr × Obj)) (D : Addr) (Q : LK) (s' : Shared) : Prop := ∃ ys σ H, Inv Y pins σ H s' ∧ AccOk Y pins D ys H s' ∧ Q ys σ H
/-- what is done in a turn behind the tests -/
def PL (Y : Cx) (body : Value → Sem Unit) (t : TL) : Prop :=
  ∀ (D : Addr) (pins : List (Addr × Obj)) (s : Shared) (σ : St) (H : Hp) (ys : List V) (Q : LK), Inv Y pins σ H s → AccOk Y pins D ys H s → t ys σ H Q →
    wpAny (model Y.prog Y.w) Y.A (body (.ref D)) (fun _ s' => LP Y pins D Q s') Y.xe s
/-- the tests of a clause -/
def testsOf (ifs : List Expr) (env : Env) : Sem Bool := forIn ifs true fun c r => if r = true then do let ok ← isTrue c env (eval c env); pure (ForInStep.yield ok) else pure (ForInStep.yield r)
def PTs (Y : Cx) (ifs : List Expr) (t : TT) : Prop :=
  ∀ (pins : List (Addr × Obj)) (s : Shared) (σ : St) (H : Hp) (Q : Bool → Hp → Prop), Inv Y pins σ H s → t σ H Q → wpAny (model Y.prog Y.w) Y.A (testsOf ifs Y.env) (TP Y pins σ Q) Y.xe s
def tYes : TT := fun _ H Q => Q true H

section
variable {Y : Cx}
theorem pts_nil : PTs Y [] tYes := fun pins s σ H Q I h => wpAny_pure ⟨H, I, h⟩
theorem pts_one {c : Expr} {t : TT} (h : PT Y c t) : PTs Y [c] t := fun pins s σ H Q I hw => wpAny_tests_one (h pins s σ H Q I hw)

theorem AccOk.pin {pins : List (Addr × Obj)} {D : Addr} {ys : List V} {σ : St} {H : Hp} {s : Shared} {us : List Value} (I : Inv Y pins σ H s) (f : FpOk Y pins H D) (e : s.heap.get? D = some (lstO us)) : Inv Y (pins ++ [(D, lstO us)]) σ H s :=
  I.pins_of fun p hp => (List.mem_append.mp hp).elim (fun z => I.pin p (List.mem_append_right _ z)) fun z => by
    have z' : p = (D, lstO us) := by simpa using z
    subst z'
    exact ⟨e, f.1, f.2.1, f.2.2.1, fun v q => by cases q⟩

def tEmit (te : TE) : TL := fun ys σ H Q => ys.length < sizeLine ∧ te σ H fun v H' => Q (ys ++ [v]) σ H'
def emit (elt : Expr) (env : Env) (acc : Value) : Sem Unit := eval elt env >>= fun x => call (.builtin "list.append") [acc, x] >>= fun _ => pure ()
theorem pl_emit {elt : Expr} {te : TE} (he : PE Y elt te) : PL Y (emit elt Y.env) (tEmit te) := by
  rintro D pins s σ H ys Q I ⟨f, hz, us, r, e⟩ ⟨hl, h⟩
  have I' := AccOk.pin (ys := ys) I f e
  refine wpAny_bind (thn (he _ s σ H _ I' h) fun u s1 ⟨v, H1, I1, rv, q⟩ => ?_)
  obtain ⟨p1, p2, p3, p4, p5⟩ := I1.pin (D, lstO us) (by simp)
  have hlen := r.length
  refine wpAny_bind (append_at (hsz := by rw [List.size_toArray]; omega) p1 fun h' sb hD => wpAny_pure ⟨ys ++ [v], σ, H1, ?_, ⟨⟨p2, f.2⟩, ?_, us ++ [u], r.append (.cons rv .nil), ?_⟩, q⟩)
  · exact I1.unpinned.turned (t' := s1.toks) (fun b o hb e => sb.extBut b o hb e) p2 f.2.1 f.2.2.2.1 f.2.2.2.2.1 f.2.2.2.2.2
  · rw [List.length_append, List.length_singleton]; omega
  · show h'.get? D = _
    rw [hD]
    show some ({ cls := .type "list", data := .seq (us.toArray.push u) (us.length + 1) } : Obj) = some { cls := .type "list", data := .seq (us ++ [u]).toArray (us ++ [u]).length }
    rw [List.length_append, List.length_singleton, List.push_toArray]

/-- the turn of a clause, as the machine does it -/
def turnOf (tg iter : Expr) (ifs : List Expr) (body : Value → Sem Unit) (c : Code) (it acc : Value) (env : Env) : Sem Fin :=
  standAt iter.pos >>= fun _ => pyNext it >>= fun r => match r with
    | none => pure (.done .next)
    | some v => letOwnedTupleGo tg it v >>= fun _ => assign tg env v >>= fun _ => testsOf ifs env >>= fun ok => if ok = true then (body acc >>= fun _ => again c) else again c

def LTurn (J : It) (g : TG) (tt : TT) (tb : TL) (Q : LK) (W : Nat → List V → Nat → St → Hp → Prop) : Prop := ∀ i ys m σ H, W i ys m σ H →
  (J.stop i H ∧ Q ys σ H) ∨ (J.go i H ∧ ∃ N : LK, (∀ ys' σ' H', N ys' σ' H' → ∃ m', m' < m ∧ W (i + 1) ys' m' σ' H') ∧ ∀ x H', J.yld i H x H' → g x σ H' fun σ2 H2 => tt σ2 H2 fun b H3 => if b = true then tb ys σ2 H3 N else N ys σ2 H3)

theorem comp_loop {tg iter : Expr} {ifs : List Expr} {elt : Expr} {gens : List Comprehension} {scope : Scope} {pos : Pos} {d : Nat} {body : Value → Sem Unit} {g : TG} {tt : TT} {tb : TL} {J : It} {fp : List Addr} {it : Addr} {tn : Nat → Heap → Prop} {D : Addr} {Q : LK}
    {R : Result → Shared → Prop} {W : Nat → List V → Nat → St → Hp → Prop} {pins : List (Addr × Obj)} {s : Shared} {σ : St} {H : Hp} {ys : List V} {m : Nat}
    (hx : ∀ v s, Y.xe v s → False) (hc : Y.calm = true) (T : Turn Y.prog Y.w Y.K tg J fp it tn) (hg : PG Y tg g) (ht : PTs Y ifs tt) (hb : PL Y body tb)
    (hturn : compTurn (.ListComp elt gens scope pos) d (.ref it) (.ref D) Y.env = turnOf tg iter ifs body (.compLoop (.ListComp elt gens scope pos) d (.ref it) (.ref D) Y.env) (.ref it) (.ref D) Y.env)
    (I : Inv Y pins σ H s) (a : AccOk Y pins D ys H s) (st : tn 0 s.heap) (hf : ∀ b ∈ fp, FpOk Y pins H b) (hD : D ∉ fp) (w0 : W 0 ys m σ H) (turn : LTurn J g tt tb Q W) (hR : ∀ s', LP Y pins D Q s' → R (.ok .next) s') :
    codeAny (model Y.prog Y.w) Y.A (.compLoop (.ListComp elt gens scope pos) d (.ref it) (.ref D) Y.env) R s := by
  refine codeAny_loop rfl (fun n s' => ∃ i ys σ' H', Inv Y pins σ' H' s' ∧ AccOk Y pins D ys H' s' ∧ tn i s'.heap ∧ (∀ b ∈ fp, H' b = none) ∧ W i ys n σ' H') ?_ m ⟨0, ys, σ, H, I, a, st, fun b hb => (hf b hb).1, w0⟩
  rintro n s3 ⟨i, ys3, σ3, H3, I3, ⟨f3, hz3, us, r3, e3⟩, st3, fr3, w3⟩
  show wpAny _ Y.A ((compTurn (.ListComp elt gens scope pos) d (.ref it) (.ref D) Y.env).onRaise (fun x => do noteFrame x Y.env; theTreesLotGoes x)) _ _ s3
  refine wpAny_noted ?_
  rw [hturn]
  have I3' := AccOk.pin (ys := ys3) I3 f3 e3
  -- the iterator's records are apart from D
  have stat : ∀ {H' : Hp}, (∀ b ∈ fp, H' b = none) → ∀ b ∈ fp, FpOk Y (pins ++ [(D, lstO us)]) H' b := fun hn b hb => by
    obtain ⟨_, q1, q2, q3, q4, q5⟩ := hf b hb
    refine ⟨hn b hb, q1, q2, q3, q4, fun p hp => ?_⟩
    rcases List.mem_append.mp hp with z | z
    · exact q5 p (List.mem_append_left _ z)
    · rcases List.mem_append.mp z with z | z
      · exact q5 p (List.mem_append_right _ z)
      · have z' : p = (D, lstO us) := by simpa using z
        subst z'
        exact fun y => hD ((show D = b from y).symm ▸ hb)
  have no : ∀ {α : Type} {t : Sem α} {Q1 Q2 : α → Shared → Prop} {E : Value → Shared → Prop} {s' : Shared}, wpAny (model Y.prog Y.w) Y.A t Q1 Y.xe s' → (∀ a s, Q1 a s → Q2 a s) → wpAny (model Y.prog Y.w) Y.A t Q2 E s' := fun h q => wpAny_mono h q fun v s x => (hx v s x).elim
  rcases turn i ys3 n σ3 H3 w3 with ⟨stop, qn⟩ | ⟨go, N, hN, step⟩
  · refine wpAny_bind (wpAny_standAt (wpAny_bind (no (T.done Y rfl rfl rfl hc i _ s3 σ3 H3 Y.xe I3' (stat fr3) st3 stop) fun r s4 ⟨hr, I4⟩ => ?_)))
    subst hr
    obtain ⟨p1, p2, _⟩ := I4.pin (D, lstO us) (by simp)
    exact wpAny_pure (hR _ ⟨ys3, σ3, H3, I4.unpinned, ⟨f3, hz3, us, r3, p1⟩, qn⟩)
  · refine wpAny_bind (wpAny_standAt (wpAny_bind (no (T.item Y rfl rfl rfl hc i _ s3 σ3 H3 Y.xe I3' (stat fr3) st3 go) fun r s4 ⟨u, hr, h4⟩ => ?_)))
    subst hr
    refine wpAny_bind (no h4 fun _ s5 ⟨x, H5, I5, r5, y5, st5, fr5⟩ => ?_)
    have I5' := I5.pinned (stat fr5) (T.obj _ _ st5)
    refine wpAny_bind (no (hg _ s5 σ3 H5 x u _ I5' r5 (step x H5 y5)) fun _ s6 ⟨σ6, H6, I6, q6⟩ => ?_)
    refine wpAny_bind (no (ht _ s6 σ6 H6 _ I6 q6) fun ok s7 ⟨H7, I7, q7⟩ => ?_)
    have pD := I7.pin (D, lstO us) (by simp)
    have I7' : Inv Y (pins ++ pinsAt fp s5.heap) σ6 H7 s7 := I7.pins_of fun p hp => by
      rcases List.mem_append.mp hp with z | z
      · exact I7.pin p (List.mem_append_right _ (List.mem_append_left _ (List.mem_append_left _ z)))
      · exact I7.pin p (List.mem_append_right _ (List.mem_append_right _ z))
    have a7 : AccOk Y (pins ++ pinsAt fp s5.heap) D ys3 H7 s7 := by
      refine ⟨⟨pD.2.1, f3.2.1, f3.2.2.1, f3.2.2.2.1, f3.2.2.2.2.1, fun p hp => ?_⟩, hz3, us, r3, pD.1⟩
      rcases List.mem_append.mp hp with z | z
      · exact f3.2.2.2.2.2 p (List.mem_append_left _ z)
      · rcases List.mem_append.mp z with z | z
        · exact f3.2.2.2.2.2 p (List.mem_append_right _ z)
        · exact fun y => hD (y ▸ (of_pinsAt z).1)
    have fin : ∀ {ys8 : List V} {σ8 : St} {H8 : Hp} {s8 : Shared}, Inv Y (pins ++ pinsAt fp s5.heap) σ8 H8 s8 → AccOk Y (pins ++ pinsAt fp s5.heap) D ys8 H8 s8 → (∃ m', m' < n ∧ W (i + 1) ys8 m' σ8 H8) →
        ∃ m, m < n ∧ ∃ i ys σ' H', Inv Y pins σ' H' s8 ∧ AccOk Y pins D ys H' s8 ∧ tn i s8.heap ∧ (∀ b ∈ fp, H' b = none) ∧ W i ys m σ' H' := fun {ys8 σ8 H8 s8} I8 a8 ⟨m', hm, w8⟩ => by
      refine ⟨m', hm, i + 1, ys8, σ8, H8, I8.unpinned, ⟨⟨a8.1.1, f3.2⟩, a8.2⟩, T.keep _ _ _ st5 fun b hb o e => (I8.pin (b, o) (List.mem_append_right _ (List.mem_append_right _ (mem_pinsAt hb e)))).1, fun b hb => ?_, w8⟩
      obtain ⟨o, e, _⟩ := T.obj _ _ st5 b hb
      exact (I8.pin (b, o) (List.mem_append_right _ (List.mem_append_right _ (mem_pinsAt hb e)))).2.1
    cases ok with
    | true =>
      rw [if_pos rfl] at q7 ⊢
      refine wpAny_bind (no (hb D _ s7 σ6 H7 ys3 _ I7' a7 q7) fun _ s8 ⟨ys8, σ8, H8, I8, a8, q8⟩ => ?_)
      exact wpAny_pure ⟨rfl, fin I8 a8 (hN _ _ _ q8)⟩
    | false =>
      rw [if_neg Bool.false_ne_true] at q7 ⊢
      exact wpAny_pure ⟨rfl, fin I7' a7 (hN _ _ _ q7)⟩

theorem compStart_at {elt tg iter : Expr} {ifs : List Expr} {gens : List Comprehension} {scope : Scope} {pos : Pos} {d : Nat} {it acc : Value} {env : Env} {R : Result → Shared → Prop} {prog : Program} {w : World} {A : Around} {s : Shared} (hd : gens[d]? = some ⟨tg, iter, ifs, 0⟩)
    (h0 : codeAny (model prog w) A (.compLoop (.ListComp elt gens scope pos) d it acc env) R s)
    (h : wpAny (model prog w) A (pyIter it) (fun it' s' => codeAny (model prog w) A (.compLoop (.ListComp elt gens scope pos) d it' acc env) R s') (notedBy (model prog w) A env fun x s' => R (.error x) s') s) :
    codeAny (model prog w) A (.compStart (.ListComp elt gens scope pos) d it acc env) R s := by
  refine codeAny_of_tree ?_
  show wpAny _ _ ((compStart (.ListComp elt gens scope pos) d it acc env).onRaise (fun x => do noteFrame x env; standAt theWindowsPlace)) _ _ s
  refine wpAny_notedAt ?_
  unfold compStart
  simp only [clausesOf, hd, Option.elim]
  show wpAny _ _ (ask >>= _) _ _ s
  refine wpAny_bind (wpAny_askSetting (wpAny_ite ?_))
  split
  · first
      | exact wpAny_bind (wpAny_pure (wpAny_pure (And.intro rfl h0)))
      | exact wpAny_pure (And.intro rfl h0)
  · first
      | exact wpAny_bind (wpAny_rule (wpAny_bind (wpAny_standAt (wpAny_bind (wpAny_mono h (fun it' s' h' => wpAny_pure (And.intro rfl h')) fun _ _ x => x)))))
      | (refine wpAny_bind (wpAny_rule ?_); show wpAny _ _ (standAt iter.pos >>= _) _ _ s; exact wpAny_bind (wpAny_standAt (wpAny_bind (wpAny_mono h (fun it' s' h' => wpAny_pure (And.intro rfl h')) fun _ _ x => x))))

/-! ### one clause, two clauses -/
/-- what the reading of a clause asks: an invariant by the turn, the list so far and a measure -/
def tLoop (wi : TI) (g : TG) (tt : TT) (tb : TL) : TL := fun ys σ H Q => wi σ H fun J H1 => ∃ W : Nat → List V → Nat → St → Hp → Prop, (∃ m, W 0 ys m σ H1) ∧ LTurn J g tt tb Q W
def nest (elt : Expr) (gens : List Comprehension) (scope : Scope) (pos : Pos) (d : Nat) (iter : Expr) (env : Env) (acc : Value) : Sem Unit :=
  eval iter env >>= fun x => standAt iter.pos >>= fun _ => foldedSetIterable iter env x >>= fun x => holding [x] (pyIter x) >>= fun it => runOwn (.compStart (.ListComp elt gens scope pos) d it acc env) env >>= fun _ => pure ()
theorem pl_nest {elt tg iter : Expr} {ifs : List Expr} {gens : List Comprehension} {scope : Scope} {pos : Pos} {d : Nat} {body : Value → Sem Unit} {wi : TI} {g : TG} {tt : TT} {tb : TL}
    (hx : ∀ v s, Y.xe v s → False) (hc : Y.calm = true) (hi : PI Y tg iter wi) (hg : PG Y tg g) (ht : PTs Y ifs tt) (hb : PL Y body tb) (hd : gens[d]? = some ⟨tg, iter, ifs, 0⟩)
    (hturn : ∀ it acc, compTurn (.ListComp elt gens scope pos) d it acc Y.env = turnOf tg iter ifs body (.compLoop (.ListComp elt gens scope pos) d it acc Y.env) it acc Y.env)
    (hs : ∀ x, foldedSetIterable iter Y.env x = pure x) : PL Y (nest elt gens scope pos d iter Y.env) (tLoop wi g tt tb) := by
  rintro D pins s σ H ys Q I ⟨f, hz, us, r, e⟩ h
  have I' := AccOk.pin (ys := ys) I f e
  refine wpAny_bind (thn (hi _ s σ H _ I' h) fun v s1 h1 => ?_)
  refine wpAny_bind (wpAny_standAt (wpAny_bind (wpAny_of_eq (hs v) (wpAny_bind (wpAny_holding (thn h1 fun itv s2 h2 => ?_))))))
  obtain ⟨it, fp, tn, J, H2, e2, I2, T, st2, f2, W, ⟨m0, w0⟩, turn⟩ := h2
  subst e2
  obtain ⟨p1, p2, _⟩ := I2.pin (D, lstO us) (by simp)
  have hD : D ∉ fp := fun hb => (f2 D hb).2.2.2.2.2 (D, lstO us) (by simp) rfl
  have fo : ∀ b ∈ fp, FpOk Y pins H2 b := fun b hb => by
    obtain ⟨q0, q1, q2, q3, q4, q5⟩ := f2 b hb
    exact ⟨q0, q1, q2, q3, q4, fun p hp => q5 p (by
      rcases List.mem_append.mp hp with z | z
      · exact List.mem_append_left _ z
      · exact List.mem_append_right _ (List.mem_append_left _ z))⟩
  have loop : codeAny (model Y.prog Y.w) Y.A (.compLoop (.ListComp elt gens scope pos) d (.ref it) (.ref D) Y.env) (fun r s' => match r with
      | .ok f => wpAny (model Y.prog Y.w) Y.A (pure () : Sem Unit) (fun _ s' => LP Y pins D Q s') Y.xe s'
      | .error e => cameBackBy (model Y.prog Y.w) Y.A Y.env Y.xe e s') s2 :=
    comp_loop hx hc T hg ht hb (hturn _ _) I2.unpinned ⟨⟨p2, f.2⟩, hz, us, r, p1⟩ st2 fo hD w0 turn fun s' q => wpAny_pure q
  refine wpAny_bind (wpAny_runOwn ?_)
  rw [Around.mark_none]
  exact compStart_at hd loop (T.self _ 0 s2 _ _ st2 loop)
end

section
variable {X : Cx}
/-- [elt for tg in iter ..]: a new list -/
def tComp (wi : TI) (cap : List (Option Nat)) (g : TG) (tt : TT) (tb : TL) : TE := fun σ H Q => wi σ H fun J H1 => ∃ W : Nat → List V → Nat → St → Hp → Prop, (∃ m, W 0 [] m (capt cap σ) H1) ∧ LTurn J g tt tb (fun ys _ H' => ∀ p, H' p = none → Q (.ref p) (upd H' p (.lst ys))) W

theorem comp_core {elt tg iter : Expr} {ifs : List Expr} {rest : List Comprehension} {scope : Scope} {pos p0 : Pos} {Nc : List Str} {cap : List (Option Nat)} {body : Env → Value → Sem Unit} {wi : TI} {g : TG} {tt : TT} {tb : TL} {use : Option (Value → Sem Unit)} {Q : Value → Shared → Prop}
    {pins : List (Addr × Obj)} {s : Shared} {σ : St} {H : Hp} {P : VK}
    (hk : scope.kind = .function) (hc : X.calm = true) (hi : PI X tg iter wi) (ok : capOk X Nc cap scope = true)
    (hg : ∀ cs C s H fp, PG (cxComp X Nc scope cs C s H fp) tg g) (ht : ∀ cs C s H fp, PTs (cxComp X Nc scope cs C s H fp) ifs tt) (hb : ∀ cs C s H fp, PL (cxComp X Nc scope cs C s H fp) (body (compEnvC scope cs C X.env)) tb)
    (hturn : ∀ it acc env, compTurn (.ListComp elt (⟨tg, iter, ifs, 0⟩ :: rest) scope pos) 0 it acc env = turnOf tg iter ifs (body env) (.compLoop (.ListComp elt (⟨tg, iter, ifs, 0⟩ :: rest) scope pos) 0 it acc env) it acc env)
    (hs : ∀ x, foldedSetIterable iter X.env x = pure x) (I : Inv X pins σ H s) (h : tComp wi cap g tt tb σ H P)
    (hend : ∀ (D C : Addr) (H' : Hp) (s' : Shared), Inv X pins σ H' s' → FpOk X pins H' D → FpOk X pins H' C → C ≠ D → (∃ m, s'.heap.Ns C m) → (∃ ys us, Vals ys us ∧ ys.length ≤ sizeLine ∧ s'.heap.get? D = some (lstO us) ∧ P (.ref D) (upd H' D (.lst ys))) →
      compPost (model X.prog X.w) X.A X.xe use Q (.ref D) C (.ok .next) s') :
    wpAny (model X.prog X.w) X.A (comprehension (.ListComp elt (⟨tg, iter, ifs, 0⟩ :: rest) scope pos) scope X.env p0 (newList []) false (eval iter X.env) use) Q X.xe s := by
  have okc := CapOk.of ok
  have hcl : ∀ p ∈ scope.names, p.2 = .free → ∃ c, X.env.cells.lookup p.1 = some c := fun p hp e => I.ok.has p.1 (okc.free p hp e)
  refine wpAny_comprehension_free rfl hs (closureFor_eq hcl) hk (fun p hp e => by rw [okc.look p hp, e]) (thn (hi pins s σ H _ I h) fun v s1 h1 => thn h1 fun itv s2 h2 => ?_)
  obtain ⟨it, fp, tn, J, H2, e2, I2, T, st2, f2, W, ⟨m0, w0⟩, turn⟩ := h2
  subst e2
  refine wpAny_newObj_type (wpAny_newCompEnv ?_)
  dsimp only
  have z : (s2.heap.push { cls := .type "list", dict := none, data := .seq ([] : List Value).toArray }).objs.size = s2.heap.objs.size + 1 := Heap.size_push ..
  rw [z]
  have hlt : ∀ b ∈ fp, b < s2.heap.objs.size := fun b hb => by obtain ⟨o, e, _⟩ := T.obj _ _ st2 b hb; exact Heap.lt_size e
  obtain ⟨J3, hD⟩ := comp_start I2 f2 hlt okc hk
  generalize hcs : cellsFrom (s2.heap.objs.size + 2) scope.names (clOf X.env.cells scope.names []) = cs at J3
  generalize hY : cxComp X Nc scope cs (s2.heap.objs.size + 1) s2 H2 fp = Y at J3
  have up : ∀ b o, s2.heap.get? b = some o → (pushCells ((s2.heap.push (lstO [])).push { cls := .type "dict", data := .dict #[] }) scope.names).get? b = some o := fun b o e => pushCells_keeps _ _ b o (Heap.get?_push_of_some _ (Heap.get?_push_of_some _ e))
  have st3 : tn 0 (pushCells ((s2.heap.push (lstO [])).push { cls := .type "dict", data := .dict #[] }) scope.names) := T.keep _ _ _ st2 fun b _ o e => up b o e
  -- the new list's place
  have fD : FpOk X pins H2 s2.heap.objs.size := I2.fpOk (Nat.le_refl _) (I2.hok.fresh (Nat.le_refl _))
  have fC : FpOk X pins H2 (s2.heap.objs.size + 1) := I2.fpOk (Nat.le_succ _) (I2.hok.fresh (Nat.le_succ _))
  have cse : ∀ x c, cs.lookup x = some c → c < s2.heap.objs.size ∨ s2.heap.objs.size + 2 ≤ c := fun x c e => by
    rw [← hcs, cellsFrom_acc] at e
    have okz := cellsFrom_ok scope.names ((s2.heap.push (lstO [])).push { cls := .type "dict", data := .dict #[] }) (s2.heap.objs.size + 2) [] ⟨fun _ _ hm => (nomatch hm), List.Pairwise.nil⟩ (by rw [Heap.size_push, Heap.size_push]; exact Nat.le_refl _)
    rw [Heap.size_push, Heap.size_push] at okz
    rcases lookup_append e with e | ⟨_, e⟩
    · exact .inr (okz.empty x c (PySem.mem_of_lookup e)).2
    · obtain ⟨_, b⟩ := clOf_mem hcl (PySem.mem_of_lookup e)
      obtain ⟨v, q⟩ := I2.cell x c b
      exact .inl q.lt
  have fDY : FpOk Y [] H2 s2.heap.objs.size := by
    rw [← hY]
    refine ⟨fD.1, Nat.ne_of_lt (Nat.lt_succ_self _), fun hm => ?_, .inr (Nat.le_refl _), fun x c e q => ?_, fun p hp => absurd (show p ∈ ([] : List (Addr × Obj)) from hp) (by simp)⟩
    · rcases List.mem_cons.mp (I2.stkSub _ hm) with q | q
      · exact fD.2.1 q
      · exact fD.2.2.1 q
    · rcases cse x c e with l | l
      · rw [q] at l; exact absurd l (Nat.lt_irrefl _)
      · rw [q] at l; exact absurd (Nat.lt_of_lt_of_le (Nat.lt_succ_of_lt (Nat.lt_succ_self _)) l) (Nat.lt_irrefl _)
  have fpY : ∀ b ∈ fp, FpOk Y [] H2 b := fun b hb => by
    rw [← hY]
    obtain ⟨q0, q1, q2, q3, q4, q5⟩ := f2 b hb
    have hb' := hlt b hb
    refine ⟨q0, Nat.ne_of_lt (Nat.lt_succ_of_lt hb'), fun hm => ?_, .inl hb, fun x c e q => ?_, fun p hp => absurd (show p ∈ ([] : List (Addr × Obj)) from hp) (by simp)⟩
    · rcases List.mem_cons.mp (I2.stkSub _ hm) with q | q
      · exact q1 q
      · exact q2 q
    · rw [← hcs, cellsFrom_acc] at e
      rcases cse x c (by rw [← hcs, cellsFrom_acc]; exact e) with l | l
      · rcases lookup_append e with e | ⟨_, e⟩
        · have okz := cellsFrom_ok scope.names ((s2.heap.push (lstO [])).push { cls := .type "dict", data := .dict #[] }) (s2.heap.objs.size + 2) [] ⟨fun _ _ hm => (nomatch hm), List.Pairwise.nil⟩ (by rw [Heap.size_push, Heap.size_push]; exact Nat.le_refl _)
          rw [Heap.size_push, Heap.size_push] at okz
          have l2 := (okz.empty x c (PySem.mem_of_lookup e)).2
          exact absurd (Nat.lt_of_lt_of_le l (Nat.le_trans (Nat.le_add_right _ 2) l2)) (Nat.lt_irrefl _)
        · obtain ⟨_, b2⟩ := clOf_mem hcl (PySem.mem_of_lookup e)
          exact q4 x c b2 q
      · rw [q] at l; exact absurd (Nat.lt_of_lt_of_le hb' (Nat.le_trans (Nat.le_add_right _ 2) l)) (Nat.lt_irrefl _)
  have hYe : Y.env = compEnvC scope cs (s2.heap.objs.size + 1) X.env := by rw [← hY]; rfl
  have fin : ∀ s', LP Y [] s2.heap.objs.size (fun ys _ H' => ∀ p, H' p = none → P (.ref p) (upd H' p (.lst ys))) s' → compPost (model X.prog X.w) X.A X.xe use Q (.ref s2.heap.objs.size) (s2.heap.objs.size + 1) (.ok .next) s' := by
    rintro s' ⟨ys, σ', H', J', ⟨fD', hz, us, rv, eD⟩, q⟩
    have ub : Un (frs X.stack) fp H2 H' s2.heap s'.heap := by have b := J'.base; rw [← hY] at b; exact b
    have os : s'.os = s2.os := by have b := J'.os; rw [← hY] at b; exact b
    have hokX : HOk X.prog X.w H' s'.heap := by have b := J'.hok; rw [← hY] at b; exact b
    have hCn : H' (s2.heap.objs.size + 1) = none := by have b := J'.free; rw [← hY] at b; exact b
    have hns : ∃ m, s'.heap.Ns (s2.heap.objs.size + 1) m := by obtain ⟨m, b, _⟩ := J'.loc; rw [← hY] at b; exact ⟨m, b⟩
    have IX : Inv X pins σ H' s' := I2.call' os ub hokX J'.bare fun b hb => by
      obtain ⟨q0, q1, q2, q3, q4, q5⟩ := f2 b hb
      exact ⟨q3, q1, q4, q5⟩
    exact hend _ _ H' s' IX ⟨fD'.1, fD.2⟩ ⟨hCn, fC.2⟩ (Nat.ne_of_gt (Nat.lt_succ_self _)) hns ⟨ys, us, rv, hz, eD, q _ fD'.1⟩
  have loop : codeAny (model X.prog X.w) X.A (.compLoop (.ListComp elt (⟨tg, iter, ifs, 0⟩ :: rest) scope pos) 0 (.ref it) (.ref s2.heap.objs.size) (compEnvC scope cs (s2.heap.objs.size + 1) X.env)) (compPost (model X.prog X.w) X.A X.xe use Q (.ref s2.heap.objs.size) (s2.heap.objs.size + 1))
      { s2 with heap := pushCells ((s2.heap.push (lstO [])).push { cls := .type "dict", data := .dict #[] }) scope.names } := by
    subst hY
    exact comp_loop (Y := cxComp X Nc scope cs (s2.heap.objs.size + 1) s2 H2 fp) (fun _ _ f => f) hc T (hg _ _ _ _ _) (ht _ _ _ _ _) (hb _ _ _ _ _) (hturn _ _ _) J3 ⟨fDY, Nat.zero_le _, [], .nil, hD⟩ st3 fpY (fun hm => absurd (hlt _ hm) (Nat.lt_irrefl _)) w0 turn fin
  exact compStart_at rfl loop (T.self _ 0 _ _ _ st3 loop)

theorem comp_end {pins : List (Addr × Obj)} {σ : St} {H' : Hp} {s' : Shared} {D C : Addr} {P : VK} (I : Inv X pins σ H' s') (fD : FpOk X pins H' D) (fC : FpOk X pins H' C) (ne : C ≠ D)
    (q : ∃ ys us, Vals ys us ∧ ys.length ≤ sizeLine ∧ s'.heap.get? D = some (lstO us) ∧ P (.ref D) (upd H' D (.lst ys))) : ∃ H1, Inv X pins σ H1 s' ∧ P (.ref D) H1 ∧ FpOk X pins H1 C := by
  obtain ⟨ys, us, rv, hz, eD, q⟩ := q
  exact ⟨_, I.track (o := .lst ys) fD ⟨hz, us, _, rv, eD⟩, q, by rw [upd_ne ne]; exact fC.1, fC.2⟩

/-- the rule: one clause (no test, one test); two clauses -/
theorem pe_comp {elt tg iter : Expr} {ifs : List Expr} {scope : Scope} {pos : Pos} {Nc : List Str} {cap : List (Option Nat)} {wi : TI} {g : TG} {tt : TT} {te : TE}
    (hc : X.calm = true) (hi : PI X tg iter wi) (ok : capOk X Nc cap scope = true) (hg : ∀ cs C s H fp, PG (cxComp X Nc scope cs C s H fp) tg g) (ht : ∀ cs C s H fp, PTs (cxComp X Nc scope cs C s H fp) ifs tt)
    (he : ∀ cs C s H fp, PE (cxComp X Nc scope cs C s H fp) elt te) (hk : scope.kind = .function := by rfl) (hs : ∀ x, foldedSetIterable iter X.env x = pure x := by intro _; rfl) :
    PE X (.ListComp elt [⟨tg, iter, ifs, 0⟩] scope pos) (tComp wi cap g tt (tEmit te)) := by
  intro pins s σ H P I h
  rw [eval_ListComp]
  refine comp_core (body := fun env => emit elt env) hk hc hi ok hg ht (fun cs C s H fp => pl_emit (he cs C s H fp)) (fun it acc env => ?_) hs I h fun D C H' s' I' fD fC ne hn q => ?_
  · rw [compTurn_list]
    unfold turnOf testsOf emit
    congr 1
  · obtain ⟨H1, I1, q1, f1⟩ := comp_end I' fD fC ne q
    obtain ⟨m, hm⟩ := hn
    exact ⟨m, hm, fun h'' sb => ⟨.ref D, H1, I1.turned (t' := s'.toks) (fun b o hb e => sb.extBut b o hb e) f1.1 f1.2.1 f1.2.2.2.1 f1.2.2.2.2.1 f1.2.2.2.2.2, rfl, q1⟩⟩

theorem compTurn_two (elt tg iter tg2 iter2 : Expr) (scope : Scope) (pos : Pos) (it acc : Value) (env : Env) :
    compTurn (.ListComp elt [⟨tg, iter, [], 0⟩, ⟨tg2, iter2, [], 0⟩] scope pos) 0 it acc env = (do
      standAt iter.pos
      match ← pyNext it with
      | none => pure (.done .next)
      | some v =>
        letOwnedTupleGo tg it v
        assign tg env v
        let mut ok := true
        for c in ([] : List Expr) do
          if ok then ok ← isTrue c env (eval c env)
        if ok then
          let x ← eval iter2 env
          standAt iter2.pos
          let x ← foldedSetIterable iter2 env x
          let _ ← runOwn (.compStart (.ListComp elt [⟨tg, iter, [], 0⟩, ⟨tg2, iter2, [], 0⟩] scope pos) 1 (← holding [x] (pyIter x)) acc env) env
        again (.compLoop (.ListComp elt [⟨tg, iter, [], 0⟩, ⟨tg2, iter2, [], 0⟩] scope pos) 0 it acc env)) := by rfl
/-- two clauses, no tests -/
theorem pe_comp2 {elt tg iter tg2 iter2 : Expr} {scope : Scope} {pos : Pos} {Nc : List Str} {cap : List (Option Nat)} {wi wi2 : TI} {g g2 : TG} {te : TE}
    (hc : X.calm = true) (hi : PI X tg iter wi) (ok : capOk X Nc cap scope = true) (hg : ∀ cs C s H fp, PG (cxComp X Nc scope cs C s H fp) tg g)
    (hi2 : ∀ cs C s H fp, PI (cxComp X Nc scope cs C s H fp) tg2 iter2 wi2) (hg2 : ∀ cs C s H fp, PG (cxComp X Nc scope cs C s H fp) tg2 g2)
    (he : ∀ cs C s H fp, PE (cxComp X Nc scope cs C s H fp) elt te) (hk : scope.kind = .function := by rfl) (hs : ∀ x, foldedSetIterable iter X.env x = pure x := by intro _; rfl)
    (hs2 : ∀ env x, foldedSetIterable iter2 env x = pure x := by intro _ _; rfl) :
    PE X (.ListComp elt [⟨tg, iter, [], 0⟩, ⟨tg2, iter2, [], 0⟩] scope pos) (tComp wi cap g tYes (tLoop wi2 g2 tYes (tEmit te))) := by
  intro pins s σ H P I h
  rw [eval_ListComp]
  refine comp_core (body := fun env => nest elt [⟨tg, iter, [], 0⟩, ⟨tg2, iter2, [], 0⟩] scope pos 1 iter2 env) hk hc hi ok hg (fun cs C s H fp => pts_nil)
    (fun cs C s H fp => pl_nest (Y := cxComp X Nc scope cs C s H fp) (body := emit elt (compEnvC scope cs C X.env)) (fun _ _ f => f) hc (hi2 cs C s H fp) (hg2 cs C s H fp) pts_nil (pl_emit (he cs C s H fp)) rfl (fun it acc => rfl) (hs2 _)) (fun it acc env => ?_) hs I h fun D C H' s' I' fD fC ne hn q => ?_
  · rw [compTurn_two]
    unfold turnOf testsOf nest
    simp only [bind_assoc, pure_bind]
  · obtain ⟨H1, I1, q1, f1⟩ := comp_end I' fD fC ne q
    obtain ⟨m, hm⟩ := hn
    exact ⟨m, hm, fun h'' sb => ⟨.ref D, H1, I1.turned (t' := s'.toks) (fun b o hb e => sb.extBut b o hb e) f1.1 f1.2.1 f1.2.2.2.1 f1.2.2.2.2.1 f1.2.2.2.2.2, rfl, q1⟩⟩

/-- name = [.. for ..], the name a plain local of the def (the stores are exchanged) -/
theorem ps_setComp {i : Nat} {x : Str} {elt tg iter : Expr} {ifs : List Expr} {scope : Scope} {pos pos' spos : Pos} {Nc : List Str} {cap : List (Option Nat)} {wi : TI} {g : TG} {tt : TT} {te : TE}
    (hN : X.N.Nodup) (hx : X.N[i]? = some x) (hl : Loc X.env.scope x)
    (hc : X.calm = true) (hi : PI X tg iter wi) (ok : capOk X Nc cap scope = true) (hg : ∀ cs C s H fp, PG (cxComp X Nc scope cs C s H fp) tg g) (ht : ∀ cs C s H fp, PTs (cxComp X Nc scope cs C s H fp) ifs tt)
    (he : ∀ cs C s H fp, PE (cxComp X Nc scope cs C s H fp) elt te) (hsw : swapsWith (.ListComp elt [⟨tg, iter, ifs, 0⟩] scope pos) (some (.Name x pos')) spos.line X.env = pure true := by rfl)
    (hk : scope.kind = .function := by rfl) (hs : ∀ x, foldedSetIterable iter X.env x = pure x := by intro _; rfl)
    (hf : X.fn x = true ∨ X.env.scope.names.lookup x = some .local := by first | exact .inl rfl | exact .inr rfl | assumption) :
    PS X (.Assign [.Name x pos'] (.ListComp elt [⟨tg, iter, ifs, 0⟩] scope pos) spos) (tAsg (tComp wi cap g tt (tEmit te)) (gName i)) := by
  intro pins s σ H D I h
  rw [exec_Assign_Name_used _ _ _ _ hsw]
  refine wpAny_bind (wpAny_standAt (wpAny_bind ?_))
  show wpAny _ X.A (do let _ ← comprehension (.ListComp elt [⟨tg, iter, ifs, 0⟩] scope pos) scope X.env _ (newList []) false (eval iter X.env) (some (assign (.Name x pos') X.env))) _ _ s
  refine wpAny_bind (thn (comp_core (use := some (assign (.Name x pos') X.env)) (Q := fun _ s' => SP X pins D .next s') (body := fun env => emit elt env) hk hc hi ok hg ht (fun cs C s H fp => pl_emit (he cs C s H fp)) (fun it acc env => ?_) hs I h fun L C H' s' I' fD fC ne hn q => ?_) fun _ s' q => wpAny_pure (wpAny_pure q))
  · rw [compTurn_list]
    unfold turnOf testsOf emit
    congr 1
  · obtain ⟨H1, I1, q1, f1⟩ := comp_end (P := fun v H => gName i v σ H D.nx) I' fD fC ne q
    obtain ⟨m, hm⟩ := hn
    show wpAny _ X.A (assign (.Name x pos') X.env (.ref L)) _ _ _
    refine wpAny_assign_Name (store_ok2 I1 hN hx hl (v := .ref L) rfl (fun s2 I2 ⟨a, sb, ha⟩ => ?_) hf)
    have ca : C ≠ a := by
      rcases ha with z | z
      · rw [z]; exact f1.2.1
      · exact fun y => f1.2.2.2.2.1 x a z y.symm
    exact ⟨m, hm.sameBut sb ca, fun h'' sb2 => ⟨_, H1, I2.turned (t' := s2.toks) (fun b o hb e => sb2.extBut b o hb e) f1.1 f1.2.1 f1.2.2.2.1 f1.2.2.2.2.1 f1.2.2.2.2.2, q1⟩⟩
end

/-! ### the forms one uses -/
theorem yes_emit {g : TG} {te : TE} {x : V} {σ : St} {H : Hp} {ys : List V} {N : LK} (h : g x σ H fun σ2 H2 => ys.length < sizeLine ∧ te σ2 H2 fun v H3 => N (ys ++ [v]) σ2 H3) :
    g x σ H fun σ2 H2 => tYes σ2 H2 fun b H3 => if b = true then tEmit te ys σ2 H3 N else N ys σ2 H3 := by
  have e : (fun σ2 H2 => tYes σ2 H2 fun b H3 => if b = true then tEmit te ys σ2 H3 N else N ys σ2 H3) = fun σ2 H2 => ys.length < sizeLine ∧ te σ2 H2 fun v H3 => N (ys ++ [v]) σ2 H3 := by
    funext σ2 H2
    show (if true = true then tEmit te ys σ2 H2 N else N ys σ2 H2) = _
    rw [if_pos rfl]; rfl
  rw [e]; exact h
theorem comp_range {lo : Int} {n : Nat} {g : TG} {te : TE} {Q : LK} {σ : St} {H : Hp} (Pv : Nat → List V → St → Hp → Prop) (h0 : Pv 0 [] σ H)
    (hs : ∀ i ys σ H, i < n → Pv i ys σ H → g (.int (lo + i)) σ H fun σ2 H2 => ys.length < sizeLine ∧ te σ2 H2 fun v H3 => Pv (i + 1) (ys ++ [v]) σ2 H3) (hd : ∀ ys σ H, Pv n ys σ H → Q ys σ H) :
    ∃ W : Nat → List V → Nat → St → Hp → Prop, (∃ m, W 0 [] m σ H) ∧ LTurn (Itr lo n) g tYes (tEmit te) Q W := by
  refine ⟨fun i ys m σ H => m = n - i ∧ i ≤ n ∧ Pv i ys σ H, ⟨n, rfl, Nat.zero_le _, h0⟩, ?_⟩
  rintro i ys m σ H ⟨rfl, hi, p⟩
  by_cases hlt : i < n
  · refine .inr ⟨hlt, Pv (i + 1), fun ys' σ' H' p' => ⟨n - (i + 1), by omega, rfl, hlt, p'⟩, fun x H' y => ?_⟩
    obtain ⟨e, y⟩ := y
    subst e y
    exact yes_emit (hs i ys σ _ hlt p)
  · have e : i = n := by omega
    subst e
    exact .inl ⟨Nat.le_refl _, hd ys σ H p⟩
theorem comp_list {K : PySem.W.Frag} {a : Addr} {xs : List V} {g : TG} {te : TE} {Q : LK} {σ : St} {H : Hp} (Pv : Nat → List V → St → Hp → Prop) (h0 : Pv 0 [] σ H) (hl : ∀ i ys σ H, i ≤ xs.length → Pv i ys σ H → SqL K H a xs)
    (hs : ∀ i x ys σ H, xs[i]? = some x → Pv i ys σ H → g x σ H fun σ2 H2 => ys.length < sizeLine ∧ te σ2 H2 fun v H3 => Pv (i + 1) (ys ++ [v]) σ2 H3) (hd : ∀ ys σ H, Pv xs.length ys σ H → Q ys σ H) :
    ∃ W : Nat → List V → Nat → St → Hp → Prop, (∃ m, W 0 [] m σ H) ∧ LTurn (Itl K a) g tYes (tEmit te) Q W := by
  refine ⟨fun i ys m σ H => m = xs.length - i ∧ i ≤ xs.length ∧ Pv i ys σ H, ⟨xs.length, rfl, Nat.zero_le _, h0⟩, ?_⟩
  rintro i ys m σ H ⟨rfl, hi, p⟩
  have q := hl i ys σ H hi p
  by_cases hlt : i < xs.length
  · refine .inr ⟨⟨xs, xs[i], q, by simp [hlt]⟩, Pv (i + 1), fun ys' σ' H' p' => ⟨xs.length - (i + 1), by omega, rfl, hlt, p'⟩, fun x H' y => ?_⟩
    obtain ⟨e, y⟩ := y
    subst e
    exact yes_emit (hs i x ys σ _ (y xs q) p)
  · have e : i = xs.length := by omega
    subst e
    exact .inl ⟨⟨xs, q, Nat.le_refl _⟩, hd ys σ H p⟩
theorem comp_tup {K : PySem.W.Frag} {a : Addr} {xs : List V} {g : TG} {te : TE} {Q : LK} {σ : St} {H : Hp} (Pv : Nat → List V → St → Hp → Prop) (h0 : Pv 0 [] σ H) (hl : ∀ i ys σ H, i ≤ xs.length → Pv i ys σ H → SqT K H a xs)
    (hs : ∀ i x ys σ H, xs[i]? = some x → Pv i ys σ H → g x σ H fun σ2 H2 => ys.length < sizeLine ∧ te σ2 H2 fun v H3 => Pv (i + 1) (ys ++ [v]) σ2 H3) (hd : ∀ ys σ H, Pv xs.length ys σ H → Q ys σ H) :
    ∃ W : Nat → List V → Nat → St → Hp → Prop, (∃ m, W 0 [] m σ H) ∧ LTurn (Itt K a) g tYes (tEmit te) Q W := by
  refine ⟨fun i ys m σ H => m = xs.length - i ∧ i ≤ xs.length ∧ Pv i ys σ H, ⟨xs.length, rfl, Nat.zero_le _, h0⟩, ?_⟩
  rintro i ys m σ H ⟨rfl, hi, p⟩
  have q := hl i ys σ H hi p
  by_cases hlt : i < xs.length
  · refine .inr ⟨⟨xs, xs[i], q, by simp [hlt]⟩, Pv (i + 1), fun ys' σ' H' p' => ⟨xs.length - (i + 1), by omega, rfl, hlt, p'⟩, fun x H' y => ?_⟩
    obtain ⟨e, y⟩ := y
    subst e
    exact yes_emit (hs i x ys σ _ (y xs q) p)
  · have e : i = xs.length := by omega
    subst e
    exact .inl ⟨⟨xs, q, Nat.le_refl _⟩, hd ys σ H p⟩
end L2

set_option Elab.async false
set_option linter.all false
set_option maxRecDepth 100000
set_option maxHeartbeats 4000000
namespace L2
open PySem PySem.Spec PyProof.Rows

/-! ### sequences under an iterator: t says whether it is a tuple -/
def SIt (t : Bool) (h : Heap) (i l : Addr) (k : Nat) : Prop := match t with | true => h.IsTupleIter i l k | false => h.IsListIter i l k
def SAt (t : Bool) (h : Heap) (l : Addr) (xs : Array Value) : Prop := match t with | true => h.IsTuple l xs | false => h.IsList l xs
def sItO (t : Bool) (l : Addr) : Obj := { cls := .type (if t then "tuple_iterator" else "list_iterator"), data := .fields #[.ref l, .int 0 0] }
theorem SIt.obj {t : Bool} {h : Heap} {i l : Addr} {k : Nat} (x : SIt t h i l k) : ∃ o, h.get? i = some o ∧ ∀ v, o.data ≠ .cell v := by
  cases t <;> (obtain ⟨o, e, c, d⟩ := x; exact ⟨o, e, fun v z => by rw [d] at z; cases z⟩)
theorem SIt.at {t : Bool} {h h' : Heap} {i l : Addr} {k : Nat} (x : SIt t h i l k) (q : ∀ o, h.get? i = some o → h'.get? i = some o) : SIt t h' i l k := by
  cases t
  · exact Heap.IsListIter.at x q
  · exact Heap.IsTupleIter.at x q
theorem SAt.at {t : Bool} {h h' : Heap} {l : Addr} {xs : Array Value} (x : SAt t h l xs) (q : ∀ o, h.get? l = some o → h'.get? l = some o) : SAt t h' l xs := by
  cases t <;> (obtain ⟨o, e, c, d⟩ := x; exact ⟨o, q o e, c, d⟩)
theorem SAt.lt {t : Bool} {h : Heap} {l : Addr} {xs : Array Value} (x : SAt t h l xs) : l < h.objs.size := by
  cases t <;> (obtain ⟨o, e, c, d⟩ := x; exact Heap.lt_size e)
section
variable {prog : Program} {w : World} {A : Around} {E : Value → Shared → Prop} {s : Shared}
theorem nextT_item {it l : Addr} {i : Nat} {items : Array Value} {x : Value} {Q : Value → Shared → Prop} (hit : s.heap.IsTupleIter it l i) (hl : s.heap.IsTuple l items) (hx : items[i]? = some x)
    (hQ : ∀ h', h'.IsTupleIter it l (i + 1) → Heap.SameBut it s.heap h' → Q x { s with heap := h' }) : wpAny (model prog w) A (Builtin.SmallTypes.nextOf (.ref it)) Q E s := by
  obtain ⟨o, ho, hc, hd⟩ := id hit
  obtain ⟨ol, hol, _, nl, hdl⟩ := hl
  unfold Builtin.SmallTypes.nextOf
  refine wpAny_bind (wpAny_callSpecial?_slot (name := Str.ofString "__next__") hit.typeIs F.slot_tuple_iterator_next (wpAny_call_entry F.slot_tuple_iterator_next hit.typeIs F.entry_tuple_iterator_next ?_ (F.args_tuple_iterator_next_1 _)))
  show wpAny _ _ (field (.ref it) 0 >>= _) _ _ s; refine wpAny_bind (wpAny_field ho hd (x := .ref l) rfl ?_)
  show wpAny _ _ (if (Value.ref l == Value.none) = true then _ else _) _ _ s; rw [if_neg (show ¬ ((Value.ref l == Value.none) = true) from Bool.false_ne_true)]
  show wpAny _ _ (field (.ref it) 1 >>= _) _ _ s; refine wpAny_bind (wpAny_field ho hd (x := .int i 0) rfl ?_)
  show wpAny _ _ (seqItems? (.ref l) >>= _) _ _ s; refine wpAny_bind (wpAny_seqItems hol hdl ?_)
  simp only [Int.toNat_natCast, hx]
  refine wpAny_bind (wpAny_setField ho hd (by simp) (wpAny_pure ⟨x, rfl, wpAny_pure (hQ _ ?_ (Heap.SameBut.update ..))⟩))
  exact ⟨_, Heap.get?_update_self _ ho (Obj.isFreed_of_fields (Obj.data_mapFields hd _)), (Obj.cls_mapFields ..).trans hc, by rw [Obj.data_mapFields hd]; simp [rawInt]⟩
theorem nextT_end {it l : Addr} {i : Nat} {items : Array Value} {Q : Value → Shared → Prop} (hh : A.handled = none) (hit : s.heap.IsTupleIter it l i) (hl : s.heap.IsTuple l items) (hx : items[i]? = none)
    (hE : ∀ h' e, Heap.ExtBut it s.heap h' → (∃ o, h'.get? e = some o ∧ o.cls = .type "StopIteration") → E (.ref e) { s with heap := h' }) : wpAny (model prog w) A (Builtin.SmallTypes.nextOf (.ref it)) Q E s := by
  obtain ⟨o, ho, hc, hd⟩ := id hit
  obtain ⟨ol, hol, _, nl, hdl⟩ := hl
  unfold Builtin.SmallTypes.nextOf
  refine wpAny_bind (wpAny_callSpecial?_slot (name := Str.ofString "__next__") hit.typeIs F.slot_tuple_iterator_next (wpAny_call_entry F.slot_tuple_iterator_next hit.typeIs F.entry_tuple_iterator_next ?_ (F.args_tuple_iterator_next_1 _)))
  show wpAny _ _ (field (.ref it) 0 >>= _) _ _ s; refine wpAny_bind (wpAny_field ho hd (x := .ref l) rfl ?_)
  show wpAny _ _ (if (Value.ref l == Value.none) = true then _ else _) _ _ s; rw [if_neg (show ¬ ((Value.ref l == Value.none) = true) from Bool.false_ne_true)]
  show wpAny _ _ (field (.ref it) 1 >>= _) _ _ s; refine wpAny_bind (wpAny_field ho hd (x := .int i 0) rfl ?_)
  show wpAny _ _ (seqItems? (.ref l) >>= _) _ _ s; refine wpAny_bind (wpAny_seqItems hol hdl ?_)
  simp only [Int.toNat_natCast, hx]
  refine wpAny_bind (wpAny_rule (wpAny_bind (wpAny_setField ho hd (by simp) ?_)))
  show wpAny _ _ (newExc (.type "StopIteration") [] >>= _) _ _ _; refine wpAny_bind ?_
  simp only [newExc, newTuple]
  refine wpAny_bind (wpAny_newObj_type ?_ (by size_fits))
  refine wpAny_bind (m := firstArgMember _ _) (wpAny_of_eq (a := Value.none) (by first | rfl | (simp only [firstArgMember]; rfl)) ?_)
  refine wpAny_newObj_type ?_ (by size_fits)
  simp only [raiseNew]
  refine wpAny_bind (wpAny_handled ?_)
  first | rw [show A.in1.handled = none from hh] | rw [hh]
  exact wpAny_bind (wpAny_pure (wpAny_throw (hE _ _ (((Heap.SameBut.update ..).extBut.push _).push _) ⟨_, Heap.get?_push_size _ rfl, rfl⟩)))
theorem nextS_item {t : Bool} {it l : Addr} {i : Nat} {items : Array Value} {x : Value} {Q : Value → Shared → Prop} (hit : SIt t s.heap it l i) (hl : SAt t s.heap l items) (hx : items[i]? = some x)
    (hQ : ∀ h', SIt t h' it l (i + 1) → Heap.SameBut it s.heap h' → Q x { s with heap := h' }) : wpAny (model prog w) A (Builtin.SmallTypes.nextOf (.ref it)) Q E s := by
  cases t
  · exact wpAny_nextOf_list_item hit hl hx hQ
  · exact nextT_item hit hl hx hQ
theorem nextS_end {t : Bool} {it l : Addr} {i : Nat} {items : Array Value} {Q : Value → Shared → Prop} (hh : A.handled = none) (hit : SIt t s.heap it l i) (hl : SAt t s.heap l items) (hx : items[i]? = none)
    (hE : ∀ h' e, Heap.ExtBut it s.heap h' → (∃ o, h'.get? e = some o ∧ o.cls = .type "StopIteration") → E (.ref e) { s with heap := h' }) : wpAny (model prog w) A (Builtin.SmallTypes.nextOf (.ref it)) Q E s := by
  cases t
  · exact wpAny_nextOf_list_end hh hit hl hx hE
  · exact nextT_end hh hit hl hx hE
theorem iterS {t : Bool} {l : Addr} {items : Array Value} {Q : Value → Shared → Prop} (hl : SAt t s.heap l items) (h : Q (.ref s.heap.objs.size) { s with heap := s.heap.push (sItO t l) }) : wpAny (model prog w) A (pyIter (.ref l)) Q E s := by
  cases t
  · exact wpAny_pyIter_list hl h
  · exact wpAny_pyIter_tuple hl h

/-! ### zip of two -/
theorem zipS_item {t1 t2 : Bool} {z TI TO i1 i2 l1 l2 : Addr} {k1 k2 : Nat} {xs ys : Array Value} {x y a b : Value} {Q : Option Value → Shared → Prop} (D : ZipApart z TI TO i1 i2 l1 l2)
    (hz : IsZip s.heap z TI TO .none) (hTI : IsPair s.heap TI (.ref i1) (.ref i2)) (hTO : IsPair s.heap TO a b) (h1 : SIt t1 s.heap i1 l1 k1) (h2 : SIt t2 s.heap i2 l2 k2) (hl1 : SAt t1 s.heap l1 xs) (hl2 : SAt t2 s.heap l2 ys) (hx : xs[k1]? = some x) (hy : ys[k2]? = some y)
    (hQ : ∀ h', IsZip h' z TI TO (rawInt s.heap.objs.size) → IsPair h' TO x y → SIt t1 h' i1 l1 (k1 + 1) → SIt t2 h' i2 l2 (k2 + 1) → IsPair h' s.heap.objs.size x y → h'.objs.size = s.heap.objs.size + 1 →
      (∀ c o, c ≠ z → c ≠ TO → c ≠ i1 → c ≠ i2 → s.heap.get? c = some o → h'.get? c = some o) → Q (some (.ref s.heap.objs.size)) { s with heap := h' }) : wpAny (model prog w) A (pyNext (.ref z)) Q E s := by
  have hT : s.TypeIs (.ref z) "zip" := ⟨_, hz, rfl⟩
  unfold pyNext
  refine wpAny_bind (wpAny_attempt (wpAny_callSpecial?_slot (name := Str.ofString "__next__") hT F.slot_zip_next (wpAny_call_entry F.slot_zip_next hT F.entry_zip_next ?_ (F.args_zip_next_1 _))))
  show wpAny _ _ (field (.ref z) 2 >>= _) _ _ _; refine wpAny_bind (wpAny_field hz rfl (x := .bool false) rfl ?_)
  show wpAny _ _ (field (.ref z) 3 >>= _) _ _ _; refine wpAny_bind (wpAny_field hz rfl (x := .ref TI) rfl (wpAny_bind (wpAny_seqItems hTI rfl ?_)))
  show wpAny _ _ (Builtin.SmallTypes.ownedTupleIsFree (.ref z) >>= _) _ _ _; refine wpAny_bind ?_
  unfold Builtin.SmallTypes.ownedTupleIsFree
  refine wpAny_bind (wpAny_field hz rfl (x := .none) rfl (wpAny_pure ?_))
  simp only [if_true]
  refine wpAny_bind (wpAny_rule (wpAny_bind (wpAny_field hz rfl (x := .ref TO) rfl (wpAny_bind (wpAny_setField_rec hz (by simp) fun ha hza hsa => ?_)))))
  have hzA : IsZip ha z TI TO .ellipsis := hza
  refine wpAny_bind ?_
  simp only [List.zipIdx_cons, List.zipIdx_nil, List.forIn_cons, List.forIn_nil]
  refine wpAny_bind (wpAny_bind (wpAny_onRaise ?_))
  show wpAny _ _ (Builtin.SmallTypes.nextOf (.ref i1) >>= _) _ _ _
  refine wpAny_bind (nextS_item (h1.at fun o e => hsa.extBut _ o D.i1z e) (hl1.at fun o e => hsa.extBut _ o D.l1z e) hx fun hb h1b hsb => wpAny_pure ?_)
  have hTOb : IsPair hb TO a b := hsb.extBut _ _ D.TOi1 (hsa.extBut _ _ D.TOz hTO)
  refine wpAny_bind (wpAny_seqItems hTOb rfl (wpAny_bind (wpAny_updateSeq_pair hTOb fun hc hTOc hsc => wpAny_bind (wpAny_letGo (wpAny_pure ?_)))))
  have hTOc' : IsPair hc TO x b := hTOc
  refine wpAny_bind (wpAny_bind (wpAny_onRaise ?_))
  show wpAny _ _ (Builtin.SmallTypes.nextOf (.ref i2) >>= _) _ _ _
  have abc : ∀ c o, c ≠ z → c ≠ i1 → c ≠ TO → s.heap.get? c = some o → hc.get? c = some o := fun c o n1 n2 n3 e => hsc.extBut _ _ n3 (hsb.extBut _ _ n2 (hsa.extBut _ _ n1 e))
  refine wpAny_bind (nextS_item (h2.at fun o e => abc _ o D.i2z D.i12.symm D.TOi2.symm e) (hl2.at fun o e => abc _ o D.l2z D.l2i1 D.l2TO e) hy fun hd h2d hsd => wpAny_pure ?_)
  have hTOd : IsPair hd TO x b := hsd.extBut _ _ D.TOi2 hTOc'
  refine wpAny_bind (wpAny_seqItems hTOd rfl (wpAny_bind (wpAny_updateSeq_pair hTOd fun he hTOe hse => wpAny_bind (wpAny_letGo (wpAny_pure (wpAny_pure ?_))))))
  have hTOe' : IsPair he TO x y := hTOe
  refine wpAny_bind (wpAny_seqItems hTOe' rfl (wpAny_bind (wpAny_newTuple ?_)))
  have hsz : he.objs.size = s.heap.objs.size := by rw [hse.1, hsd.1, hsc.1, hsb.1, hsa.1]
  have hze : IsZip he z TI TO .ellipsis := hse.extBut _ _ D.TOz.symm (hsd.extBut _ _ D.i2z.symm (hsc.extBut _ _ D.TOz.symm (hsb.extBut _ _ D.i1z.symm hzA)))
  have all : ∀ c o, c ≠ z → c ≠ TO → c ≠ i1 → c ≠ i2 → s.heap.get? c = some o → he.get? c = some o := fun c o n1 n2 n3 n4 e => hse.extBut _ _ n2 (hsd.extBut _ _ n4 (abc c o n1 n3 n2 e))
  have h1e : SIt t1 he i1 l1 (k1 + 1) := h1b.at fun o e => hse.extBut _ o D.TOi1.symm (hsd.extBut _ o D.i12 (hsc.extBut _ o D.TOi1.symm e))
  have h2e : SIt t2 he i2 l2 (k2 + 1) := h2d.at fun o e => hse.extBut _ o D.TOi2.symm e
  show wpAny _ _ (Builtin.SmallTypes.ownedTupleHandOut (.ref z) (.ref he.objs.size) >>= _) _ _ _; refine wpAny_bind ?_
  unfold Builtin.SmallTypes.ownedTupleHandOut
  have hzf : IsZip (he.push { cls := .type "tuple", data := .seq #[x, y] }) z TI TO .ellipsis := Heap.get?_push_of_some _ hze
  refine wpAny_bind (wpAny_setField_rec hzf (by simp) fun hg hzg hsg => ?_)
  have hzg' : IsZip hg z TI TO (rawInt he.objs.size) := hzg
  refine wpAny_setField_rec hzg' (by simp) fun hh hzh hsh => ?_
  have hzh' : IsZip hh z TI TO (rawInt he.objs.size) := hzh
  have up : ∀ c o, c ≠ z → he.get? c = some o → hh.get? c = some o := fun c o n1 e => hsh.extBut _ _ n1 (hsg.extBut _ _ n1 (Heap.get?_push_of_some _ e))
  have zlt : he.objs.size ≠ z := Nat.ne_of_gt (Heap.lt_size hze)
  have hTh : IsPair hh he.objs.size x y := hsh.extBut _ _ zlt (hsg.extBut _ _ zlt (Heap.get?_push_size _ rfl))
  have hsz2 : hh.objs.size = he.objs.size + 1 := by rw [hsh.1, hsg.1, Heap.size_push]
  rw [hsz] at hzh' hTh hsz2
  refine wpAny_pure ⟨_, rfl, ?_⟩
  rw [hsz]
  exact wpAny_pure (hQ hh hzh' (up _ _ D.TOz hTOe') (h1e.at fun o e => up _ o D.i1z e) (h2e.at fun o e => up _ o D.i2z e) hTh hsz2 fun c o n1 n2 n3 n4 e => up c o n1 (all c o n1 n2 n3 n4 e))

theorem zipS_end {t1 t2 : Bool} {z TI TO i1 i2 l1 l2 : Addr} {k1 k2 : Nat} {xs ys : Array Value} {a b : Value} {Q : Option Value → Shared → Prop} (hh : A.handled = none) (D : ZipApart z TI TO i1 i2 l1 l2)
    (hz : IsZip s.heap z TI TO .none) (hTI : IsPair s.heap TI (.ref i1) (.ref i2)) (hTO : IsPair s.heap TO a b) (h1 : SIt t1 s.heap i1 l1 k1) (h2 : SIt t2 s.heap i2 l2 k2) (hl1 : SAt t1 s.heap l1 xs) (hl2 : SAt t2 s.heap l2 ys) (hend : xs[k1]? = none ∨ ys[k2]? = none)
    (hQ : ∀ h', (∀ c o, c ≠ z → c ≠ TO → c ≠ i1 → c ≠ i2 → s.heap.get? c = some o → h'.get? c = some o) → Q none { s with heap := h' }) : wpAny (model prog w) A (pyNext (.ref z)) Q E s := by
  have hT : s.TypeIs (.ref z) "zip" := ⟨_, hz, rfl⟩
  have fin : ∀ (h' : Heap) (e : Addr), (∀ c o, c ≠ z → c ≠ TO → c ≠ i1 → c ≠ i2 → s.heap.get? c = some o → h'.get? c = some o) → (∃ o, h'.get? e = some o ∧ o.cls = .type "StopIteration") →
      wpAny (model prog w) A (do if ← isInstance (.ref e) (.type "StopIteration") then pure none else throw (.ref e) : Sem (Option Value)) Q E { s with heap := h' } := fun h' e hk ⟨o, ho, hc⟩ =>
    wpAny_bind (wpAny_isInstance (T := "StopIteration") (b := true) ⟨o, ho, hc⟩ isSubtype_stop (wpAny_pure (hQ _ hk)))
  unfold pyNext
  refine wpAny_bind (wpAny_attempt (wpAny_callSpecial?_slot (name := Str.ofString "__next__") hT F.slot_zip_next (wpAny_call_entry F.slot_zip_next hT F.entry_zip_next ?_ (F.args_zip_next_1 _))))
  show wpAny _ _ (field (.ref z) 2 >>= _) _ _ _; refine wpAny_bind (wpAny_field hz rfl (x := .bool false) rfl ?_)
  show wpAny _ _ (field (.ref z) 3 >>= _) _ _ _; refine wpAny_bind (wpAny_field hz rfl (x := .ref TI) rfl (wpAny_bind (wpAny_seqItems hTI rfl ?_)))
  show wpAny _ _ (Builtin.SmallTypes.ownedTupleIsFree (.ref z) >>= _) _ _ _; refine wpAny_bind ?_
  unfold Builtin.SmallTypes.ownedTupleIsFree
  refine wpAny_bind (wpAny_field hz rfl (x := .none) rfl (wpAny_pure ?_))
  simp only [if_true]
  refine wpAny_bind (wpAny_rule (wpAny_bind (wpAny_field hz rfl (x := .ref TO) rfl (wpAny_bind (wpAny_setField_rec hz (by simp) fun ha hza hsa => ?_)))))
  have hzA : IsZip ha z TI TO .ellipsis := hza
  refine wpAny_bind ?_
  simp only [List.zipIdx_cons, List.zipIdx_nil, List.forIn_cons, List.forIn_nil]
  refine wpAny_bind (wpAny_bind (wpAny_onRaise ?_))
  show wpAny _ _ (Builtin.SmallTypes.nextOf (.ref i1) >>= _) _ _ _
  cases hx : xs[k1]? with
  | none =>
    refine wpAny_bind (nextS_end hh (h1.at fun o e => hsa.extBut _ o D.i1z e) (hl1.at fun o e => hsa.extBut _ o D.l1z e) hx fun hb e hsb he => ?_)
    obtain ⟨oe, hoe, hce⟩ := he
    have hzb : IsZip hb z TI TO .ellipsis := hsb _ _ D.i1z.symm hzA
    have hez : e ≠ z := fun x => by subst x; rw [hzb] at hoe; cases hoe; simp at hce
    exact wpAny_setField_rec hzb (by simp) fun hc _ hsc => fin hc e (fun c o n1 _ n3 _ x => hsc.extBut _ _ n1 (hsb _ _ n3 (hsa.extBut _ _ n1 x))) ⟨oe, hsc.extBut _ _ hez hoe, hce⟩
  | some x =>
    have hy : ys[k2]? = none := by rcases hend with h | h; rw [hx] at h; cases h; exact h
    refine wpAny_bind (nextS_item (h1.at fun o e => hsa.extBut _ o D.i1z e) (hl1.at fun o e => hsa.extBut _ o D.l1z e) hx fun hb h1b hsb => wpAny_pure ?_)
    have hTOb : IsPair hb TO a b := hsb.extBut _ _ D.TOi1 (hsa.extBut _ _ D.TOz hTO)
    refine wpAny_bind (wpAny_seqItems hTOb rfl (wpAny_bind (wpAny_updateSeq_pair hTOb fun hc hTOc hsc => wpAny_bind (wpAny_letGo (wpAny_pure ?_)))))
    refine wpAny_bind (wpAny_bind (wpAny_onRaise ?_))
    show wpAny _ _ (Builtin.SmallTypes.nextOf (.ref i2) >>= _) _ _ _
    have abc : ∀ c o, c ≠ z → c ≠ i1 → c ≠ TO → s.heap.get? c = some o → hc.get? c = some o := fun c o n1 n2 n3 e => hsc.extBut _ _ n3 (hsb.extBut _ _ n2 (hsa.extBut _ _ n1 e))
    refine wpAny_bind (nextS_end hh (h2.at fun o e => abc _ o D.i2z D.i12.symm D.TOi2.symm e) (hl2.at fun o e => abc _ o D.l2z D.l2i1 D.l2TO e) hy fun hd e hsd he => ?_)
    obtain ⟨oe, hoe, hce⟩ := he
    have hzd : IsZip hd z TI TO .ellipsis := hsd _ _ D.i2z.symm (hsc.extBut _ _ D.TOz.symm (hsb.extBut _ _ D.i1z.symm hzA))
    have hez : e ≠ z := fun x => by subst x; rw [hzd] at hoe; cases hoe; simp at hce
    exact wpAny_setField_rec hzd (by simp) fun hf _ hsf => fin hf e (fun c o n1 n2 n3 n4 x => hsf.extBut _ _ n1 (hsd _ _ n4 (abc c o n1 n3 n2 x))) ⟨oe, hsf.extBut _ _ hez hoe, hce⟩

abbrev zA (h : Heap) (t1 : Bool) (l1 : Addr) : Heap := h.push (sItO t1 l1)
abbrev zB (h : Heap) (t1 t2 : Bool) (l1 l2 : Addr) : Heap := (zA h t1 l1).push (sItO t2 l2)
abbrev zC (h : Heap) (t1 t2 : Bool) (l1 l2 : Addr) : Heap := (zB h t1 t2 l1 l2).push { cls := .type "tuple", data := .seq #[.ref h.objs.size, .ref (zA h t1 l1).objs.size] }
abbrev zD (h : Heap) (t1 t2 : Bool) (l1 l2 : Addr) : Heap := (zC h t1 t2 l1 l2).push { cls := .type "tuple", data := .seq #[.none, .none] }
abbrev zE (h : Heap) (t1 t2 : Bool) (l1 l2 : Addr) : Heap := (zD h t1 t2 l1 l2).push { cls := .type "zip", data := .fields #[.none, .bool false, .bool false, .ref (zB h t1 t2 l1 l2).objs.size, .ref (zC h t1 t2 l1 l2).objs.size] }
theorem meets_zipS (t1 t2 : Bool) (l1 l2 : Addr) (xs ys : Array Value) :
    Meets (Builtin.«zip.__new__» ⟨[.type "zip", .ref l1, .ref l2], []⟩) (fun _ R s => SAt t1 s.heap l1 xs ∧ SAt t2 s.heap l2 ys ∧ R (.ok (.ret (.ref (zD s.heap t1 t2 l1 l2).objs.size))) { s with heap := zE s.heap t1 t2 l1 l2 }) :=
  .of_wp fun prog w A R s h => by
    obtain ⟨hp, g, d, tk, os⟩ := s; obtain ⟨hl1, hl2, h⟩ := h
    have hsub := sub_zip
    have hL1 : SAt t1 (Shared.heap ⟨hp, g, d, tk, os⟩) l1 xs := hl1
    have hL2 : SAt t2 (Shared.heap ⟨hp.push (sItO t1 l1), g, d, tk, os⟩) l2 ys := SAt.at hl2 fun o e => Heap.get?_push_of_some _ e
    wp_walk using iterS hL1, iterS hL2
    exact ⟨_, rfl, h⟩
theorem call_zipS {t1 t2 : Bool} {l1 l2 : Addr} {xs ys : Array Value} {Q : Value → Shared → Prop} (hl1 : SAt t1 s.heap l1 xs) (hl2 : SAt t2 s.heap l2 ys)
    (h : ∀ h', IsZip h' (s.heap.objs.size + 4) (s.heap.objs.size + 2) (s.heap.objs.size + 3) .none → IsPair h' (s.heap.objs.size + 2) (.ref s.heap.objs.size) (.ref (s.heap.objs.size + 1)) → IsPair h' (s.heap.objs.size + 3) .none .none →
      SIt t1 h' s.heap.objs.size l1 0 → SIt t2 h' (s.heap.objs.size + 1) l2 0 → (∀ c o, s.heap.get? c = some o → h'.get? c = some o) → Q (.ref (s.heap.objs.size + 4)) { s with heap := h' }) :
    wpAny (model prog w) A (call (.type "zip") [.ref l1, .ref l2]) Q E s := by
  refine callType_new F.called_zip (by decide) (F.typeCall_zip_2 _ _) (F.newCall_zip_2 _ _) (fun obj => F.args_object_init_3 obj _ _) F.entry_zip_new (meets_zipS t1 t2 l1 l2 xs ys) ⟨hl1, hl2, ?_⟩
  have z1 : (zA s.heap t1 l1).objs.size = s.heap.objs.size + 1 := Heap.size_push ..
  have z2 : (zB s.heap t1 t2 l1 l2).objs.size = s.heap.objs.size + 2 := by rw [Heap.size_push, z1]
  have z3 : (zC s.heap t1 t2 l1 l2).objs.size = s.heap.objs.size + 3 := by rw [Heap.size_push, z2]
  have z4 : (zD s.heap t1 t2 l1 l2).objs.size = s.heap.objs.size + 4 := by rw [Heap.size_push, z3]
  have g5 : (zE s.heap t1 t2 l1 l2).get? (zD s.heap t1 t2 l1 l2).objs.size = some _ := Heap.get?_push_size _ rfl
  have g4 : (zE s.heap t1 t2 l1 l2).get? (zC s.heap t1 t2 l1 l2).objs.size = some _ := Heap.get?_push_of_some _ (Heap.get?_push_size _ rfl)
  have g3 : (zE s.heap t1 t2 l1 l2).get? (zB s.heap t1 t2 l1 l2).objs.size = some _ := Heap.get?_push_of_some _ (Heap.get?_push_of_some _ (Heap.get?_push_size _ rfl))
  have g2 : (zE s.heap t1 t2 l1 l2).get? (zA s.heap t1 l1).objs.size = some (sItO t2 l2) := Heap.get?_push_of_some _ (Heap.get?_push_of_some _ (Heap.get?_push_of_some _ (Heap.get?_push_size _ (by cases t2 <;> rfl))))
  have g1 : (zE s.heap t1 t2 l1 l2).get? s.heap.objs.size = some (sItO t1 l1) := Heap.get?_push_of_some _ (Heap.get?_push_of_some _ (Heap.get?_push_of_some _ (Heap.get?_push_of_some _ (Heap.get?_push_size _ (by cases t1 <;> rfl)))))
  show _ ∧ _
  rw [z2, z3, z4] at g5
  rw [z1, z2] at g3
  rw [z3] at g4
  rw [z1] at g2
  rw [z4]
  have mk : ∀ (t : Bool) (a l : Addr), (zE s.heap t1 t2 l1 l2).get? a = some (sItO t l) → SIt t (zE s.heap t1 t2 l1 l2) a l 0 := fun t a l e => by
    cases t <;> exact ⟨_, e, rfl, rfl⟩
  exact ⟨⟨_, g5, rfl⟩, h _ g5 g3 g4 (mk _ _ _ g1) (mk _ _ _ g2) fun c o x => Heap.get?_push_of_some _ (Heap.get?_push_of_some _ (Heap.get?_push_of_some _ (Heap.get?_push_of_some _ (Heap.get?_push_of_some _ x))))⟩
end

/-! ### zip in the layer -/
def SqB (K : PySem.W.Frag) (t : Bool) (H : Hp) (a : Addr) (xs : List V) : Prop := match t with | true => SqT K H a xs | false => SqL K H a xs
theorem Inv.sq {X : Cx} {pins : List (Addr × Obj)} {σ : St} {H : Hp} {s : Shared} {t : Bool} {a : Addr} {xs : List V} (I : Inv X pins σ H s) (h : SqB X.K t H a xs) : ∃ its : List Value, Vals xs its ∧ SAt t s.heap a its.toArray ∧ xs.length ≤ sizeLine := by
  cases t
  · obtain ⟨its, r, p, z⟩ := I.list h
    exact ⟨its, r, p.isList, z⟩
  · obtain ⟨its, r, p, z⟩ := I.tuple h
    exact ⟨its, r, p, z⟩
theorem Inv.sq_inj {X : Cx} {pins : List (Addr × Obj)} {σ : St} {H : Hp} {s : Shared} {t : Bool} {a : Addr} {xs ys : List V} (I : Inv X pins σ H s) (h : SqB X.K t H a xs) (h' : SqB X.K t H a ys) : xs = ys := by
  cases t
  · exact I.list_inj h h'
  · exact I.tuple_inj h h'
def Itz (K : PySem.W.Frag) (t1 t2 : Bool) (a b : Addr) : It :=
  ⟨fun i H => ∃ xs ys x y, SqB K t1 H a xs ∧ SqB K t2 H b ys ∧ xs[i]? = some x ∧ ys[i]? = some y,
   fun i H v H' => ∃ p x y, v = .ref p ∧ H p = none ∧ H' = upd H p (.tup [x, y]) ∧ ∀ xs ys, SqB K t1 H a xs → SqB K t2 H b ys → xs[i]? = some x ∧ ys[i]? = some y,
   fun i H => ∃ xs ys, SqB K t1 H a xs ∧ SqB K t2 H b ys ∧ (xs.length ≤ i ∨ ys.length ≤ i)⟩
def ZSt (t1 t2 : Bool) (z TI TO i1 i2 l1 l2 : Addr) (i : Nat) (h : Heap) : Prop := ZipApart z TI TO i1 i2 l1 l2 ∧ IsZip h z TI TO .none ∧ IsPair h TI (.ref i1) (.ref i2) ∧ (∃ a b, IsPair h TO a b) ∧ SIt t1 h i1 l1 i ∧ SIt t2 h i2 l2 i
theorem turn_zip {P : Program} {w : World} {K : PySem.W.Frag} {elts : List Expr} {kk : Nat} {pos : Pos} (t1 t2 : Bool) (z TI TO i1 i2 l1 l2 : Addr) : Turn P w K (.Tuple elts kk pos) (Itz K t1 t2 l1 l2) [z, TI, TO, i1, i2] z (ZSt t1 t2 z TI TO i1 i2 l1 l2) where
  mem := by simp
  obj := fun i h st b hb => by
    obtain ⟨_, hz, hTI, ⟨x, y, hTO⟩, h1, h2⟩ := st
    simp only [List.mem_cons, List.not_mem_nil, or_false] at hb
    rcases hb with e | e | e | e | e
    · subst e; exact ⟨_, hz, fun v q => by cases q⟩
    · subst e; exact ⟨_, hTI, fun v q => by cases q⟩
    · subst e; exact ⟨_, hTO, fun v q => by cases q⟩
    · subst e; exact h1.obj
    · subst e; exact h2.obj
  keep := fun i h h' st k => by
    obtain ⟨D, hz, hTI, ⟨x, y, hTO⟩, h1, h2⟩ := st
    exact ⟨D, k z (by simp) _ hz, k TI (by simp) _ hTI, ⟨x, y, k TO (by simp) _ hTO⟩, h1.at fun o e => k i1 (by simp) o e, h2.at fun o e => k i2 (by simp) o e⟩
  item := by
    intro X hP hw hK hc i pins s σ H E I hf st hg
    subst hP hw hK
    obtain ⟨xs, ys, x, y, q1, q2, gx, gy⟩ := hg
    obtain ⟨D, hz, hTI, ⟨a, b, hTO⟩, h1, h2⟩ := st
    obtain ⟨us, ru, su, _⟩ := I.sq q1
    obtain ⟨vs, rv, sv, _⟩ := I.sq q2
    obtain ⟨u, hu, rx⟩ := ru.get gx
    obtain ⟨v, hv, ry⟩ := rv.get gy
    refine zipS_item D hz hTI hTO h1 h2 su sv (x := u) (y := v) (by simpa using hu) (by simpa using hv) fun h' z1 z2 z3 z4 z5 z6 z7 => ⟨_, rfl, ?_⟩
    have szn : s.heap.objs.size ≠ z := Nat.ne_of_gt (Heap.lt_size hz)
    refine wpAny_letOwnedTupleGo_zip z1 fun h'' w1 w2 => ?_
    have hall : ∀ c o, c ≠ z → c ≠ TO → c ≠ i1 → c ≠ i2 → s.heap.get? c = some o → h''.get? c = some o := fun c o n1 n2 n3 n4 e => w2.extBut _ _ n1 (z7 c o n1 n2 n3 n4 e)
    have hn : H s.heap.objs.size = none := I.hok.fresh (Nat.le_refl _)
    have f := fun b hb => hf b hb
    have ch : ∀ b, b ∉ [z, TO, i1, i2] → b ≠ z ∧ b ≠ TO ∧ b ≠ i1 ∧ b ≠ i2 := fun b hb => by
      simp only [List.mem_cons, List.not_mem_nil, or_false, not_or] at hb
      exact hb
    have inf : ∀ b ∈ [z, TO, i1, i2], b ∈ [z, TI, TO, i1, i2] := fun b hb => by
      simp only [List.mem_cons, List.not_mem_nil, or_false] at hb ⊢
      rcases hb with e | e | e | e <;> simp [e]
    have tr : ∀ b o, H b = some o → b ∉ [z, TO, i1, i2] := fun b o e hb => by rw [(f b (inf b hb)).1] at e; cases e
    have nsz : ∀ b o, H b = some o → b ≠ s.heap.objs.size := fun b o e q => by rw [q, hn] at e; cases e
    have pair : h''.get? s.heap.objs.size = some { cls := .type "tuple", data := .seq #[u, v] } := w2.extBut _ _ szn z5
    refine ⟨.ref s.heap.objs.size, upd H s.heap.objs.size (.tup [x, y]), Inv.step (s := s) (h' := h'') (g' := s.gens) (d' := s.drawn) (t' := s.toks) (ch := [z, TO, i1, i2]) I (fun b hb => ?_) (fun b o _ _ hb e _ => ?_) (fun b o _ _ hb e _ => ⟨o.slots, ?_⟩) (fun b o hb e n => ?_) (fun b o hb e => ⟨o, ?_⟩) (fun b zs e => ?_) (fun b o zs e => ?_) (fun b ps e => ⟨#[], ?_⟩) (fun m hm => ?_) (fun b o e => ?_) I.bare, rfl, ⟨s.heap.objs.size, x, y, rfl, hn, rfl, fun xs' ys' p1 p2 => ?_⟩, ?_, fun b hb => ?_⟩
    · obtain ⟨_, f1, f2, f3, f4, f5⟩ := f b (inf b hb)
      exact ⟨f3, f1, f4, f5⟩
    · obtain ⟨n1, n2, n3, n4⟩ := ch b hb; exact hall b o n1 n2 n3 n4 e
    · obtain ⟨n1, n2, n3, n4⟩ := ch b hb; exact hall b o n1 n2 n3 n4 e
    · rw [upd_ne (Nat.ne_of_lt (Heap.lt_size e))]; exact n
    · obtain ⟨n1, n2, n3, n4⟩ := ch b hb; exact hall b o n1 n2 n3 n4 e
    · rw [upd_ne (nsz b _ e)]; exact e
    · rw [upd_ne (nsz b _ e)]; exact e
    · rw [upd_ne (nsz b _ e), e]; simp
    · obtain ⟨o, es, ep, ho, r⟩ := hm
      have nl : X.env.locals ∉ [z, TO, i1, i2] := fun hb => (f _ (inf _ hb)).2.1 rfl
      obtain ⟨n1, n2, n3, n4⟩ := ch _ nl
      exact ⟨o, es, ep, hall _ o n1 n2 n3 n4 ho, r⟩
    · by_cases hb : b = s.heap.objs.size
      · subst hb; rw [upd_same] at e; cases e
        exact ⟨by show 2 ≤ sizeLine; decide, [u, v], .cons rx (.cons ry .nil), _, pair, rfl, _, rfl⟩
      · rw [upd_ne hb] at e
        refine (I.hok b o e).stay (fun c o' hc q => ?_) (fun c q => by rw [upd_ne (nsz c _ q)]; exact q) fun c zs q => by rw [upd_ne (nsz c _ q)]; exact q
        have nc : c ∉ [z, TO, i1, i2] := by
          rcases hc with hc | hc
          · rw [hc]; exact tr b o e
          · exact tr c _ hc
        obtain ⟨n1, n2, n3, n4⟩ := ch c nc
        exact hall c o' n1 n2 n3 n4 q
    · rw [I.sq_inj p1 q1, I.sq_inj p2 q2]; exact ⟨gx, gy⟩
    · exact ⟨D, w1, hall _ _ D.TIz D.TITO D.TIi1 D.TIi2 hTI, ⟨_, _, w2.extBut _ _ D.TOz z2⟩, z3.at fun o e => w2.extBut _ o D.i1z e, z4.at fun o e => w2.extBut _ o D.i2z e⟩
    · obtain ⟨o, e, _⟩ := (show ∃ o, s.heap.get? b = some o ∧ ∀ v, o.data ≠ .cell v from by
        simp only [List.mem_cons, List.not_mem_nil, or_false] at hb
        rcases hb with q | q | q | q | q
        · subst q; exact ⟨_, hz, fun v q => by cases q⟩
        · subst q; exact ⟨_, hTI, fun v q => by cases q⟩
        · subst q; exact ⟨_, hTO, fun v q => by cases q⟩
        · subst q; exact h1.obj
        · subst q; exact h2.obj)
      rw [upd_ne (Nat.ne_of_lt (Heap.lt_size e))]; exact (f b hb).1
  done := by
    intro X hP hw hK hc i pins s σ H E I hf st hg
    subst hP hw hK
    obtain ⟨xs, ys, q1, q2, ge⟩ := hg
    obtain ⟨D, hz, hTI, ⟨a, b, hTO⟩, h1, h2⟩ := st
    obtain ⟨us, ru, su, _⟩ := I.sq q1
    obtain ⟨vs, rv, sv, _⟩ := I.sq q2
    have lu := ru.length
    have lv := rv.length
    refine zipS_end (I.ok.hd hc) D hz hTI hTO h1 h2 su sv (by
      rcases ge with e | e
      · exact .inl (by simp; omega)
      · exact .inr (by simp; omega)) fun h' hk => ⟨rfl, ?_⟩
    have f := fun b hb => hf b hb
    have ch : ∀ b, b ∉ [z, TO, i1, i2] → b ≠ z ∧ b ≠ TO ∧ b ≠ i1 ∧ b ≠ i2 := fun b hb => by
      simp only [List.mem_cons, List.not_mem_nil, or_false, not_or] at hb
      exact hb
    have inf : ∀ b ∈ [z, TO, i1, i2], b ∈ [z, TI, TO, i1, i2] := fun b hb => by
      simp only [List.mem_cons, List.not_mem_nil, or_false] at hb ⊢
      rcases hb with e | e | e | e <;> simp [e]
    have tr : ∀ b o, H b = some o → b ∉ [z, TO, i1, i2] := fun b o e hb => by rw [(f b (inf b hb)).1] at e; cases e
    have kk : ∀ b o, b ∉ [z, TO, i1, i2] → s.heap.get? b = some o → h'.get? b = some o := fun b o hb e => by obtain ⟨n1, n2, n3, n4⟩ := ch b hb; exact hk b o n1 n2 n3 n4 e
    refine I.step (g' := s.gens) (d' := s.drawn) (t' := s.toks) (ch := [z, TO, i1, i2]) (fun b hb => ?_) (fun b o _ _ hb e _ => kk b o hb e) (fun b o _ _ hb e _ => ⟨o.slots, kk b o hb e⟩) (fun b o hb e n => n) (fun b o hb e => ⟨o, kk b o hb e⟩) (fun b zs e => e) (fun b o zs e => e) (fun b ps e => ⟨#[], by rw [e]; simp⟩) (fun m hm => ?_) (fun b o e => ?_) I.bare
    · obtain ⟨_, f1, f2, f3, f4, f5⟩ := f b (inf b hb)
      exact ⟨f3, f1, f4, f5⟩
    · obtain ⟨o, es, ep, ho, r⟩ := hm
      exact ⟨o, es, ep, kk _ o (fun hb => (f _ (inf _ hb)).2.1 rfl) ho, r⟩
    · refine (I.hok b o e).stay (fun c o' hc q => kk c o' ?_ q) (fun c q => q) fun c zs q => q
      rcases hc with hc | hc
      · rw [hc]; exact tr b o e
      · exact tr c _ hc
  self := fun _ _ _ _ _ st h => wpAny_pyIter_zip st.2.1 h

section
variable {X : Cx}
def iZip (K : PySem.W.Frag) (t1 t2 : Bool) (ta : TA) : TI := fun σ H R => ta σ H fun vs H1 => ∃ a b xs ys, vs = [.ref a, .ref b] ∧ SqB K t1 H1 a xs ∧ SqB K t2 H1 b ys ∧ R (Itz K t1 t2 a b) H1
theorem pi_zip {elts : List Expr} {kk : Nat} {tp : Pos} {a b : Expr} {ta : TA} {p pos : Pos} (t1 t2 : Bool) (hg : Gl X "zip") (hm : X.mg "zip" = none) (ha : PA X [a, b] ta) (hs : starEach [a, b] X.env = [(false, eval a X.env), (false, eval b X.env)] := by rfl) (hs2 : starEach [b] X.env = [(false, eval b X.env)] := by rfl) :
    PI X (.Tuple elts kk tp) (.Call (.Name "zip" p) [a, b] [] pos) (iZip X.K t1 t2 ta) := by
  intro pins s σ H R I h
  refine Call_ (ld_blt I hg hm boot_zip (PyProof.Rows.callWith_type1 (thn (ha pos pins s σ H _ I h) fun us s1 ⟨vs, H1, I1, r1, q1⟩ => ?_) (by rw [hs, hs2]) (by rw [hs2]; rfl)))
  obtain ⟨l1, l2, xs, ys, e, q1, q2, q⟩ := q1
  subst e
  cases r1 with
  | cons r rr =>
    cases rr with
    | cons r' rr =>
      cases rr
      cases r
      cases r'
      obtain ⟨us, _, su, _⟩ := I1.sq q1
      obtain ⟨vs, _, sv, _⟩ := I1.sq q2
      refine call_zipS su sv fun h' z1 z2 z3 z4 z5 z6 => ?_
      have I2 : Inv X pins σ H1 { s1 with heap := h' } := I1.kept (t' := s1.toks) z6
      refine wpAny_pyIter_zip z1 ⟨_, [s1.heap.objs.size + 4, s1.heap.objs.size + 2, s1.heap.objs.size + 3, s1.heap.objs.size, s1.heap.objs.size + 1], _, _, H1, rfl, I2, turn_zip t1 t2 _ _ _ _ _ l1 l2, ⟨zipApart_new su.lt sv.lt, z1, z2, ⟨_, _, z3⟩, z4, z5⟩, fun b hb => ?_, q⟩
      have le : s1.heap.objs.size ≤ b := by
        simp only [List.mem_cons, List.not_mem_nil, or_false] at hb
        rcases hb with e | e | e | e | e <;> rw [e] <;> first | exact Nat.le_refl _ | exact Nat.le_add_right _ _
      have fo := I1.fpOk le (I1.hok.fresh le)
      exact fo
end

theorem comp_zip {K : PySem.W.Frag} {t1 t2 : Bool} {a b : Addr} {xs ys : List V} {g : TG} {te : TE} {Q : LK} {σ : St} {H : Hp} (Pv : Nat → List V → St → Hp → Prop) (h0 : Pv 0 [] σ H) (hl : ∀ i zs σ H, i ≤ (xs.zip ys).length → Pv i zs σ H → SqB K t1 H a xs ∧ SqB K t2 H b ys)
    (hs : ∀ i x y zs σ H p, xs[i]? = some x → ys[i]? = some y → H p = none → Pv i zs σ H → g (.ref p) σ (upd H p (.tup [x, y])) fun σ2 H2 => zs.length < sizeLine ∧ te σ2 H2 fun v H3 => Pv (i + 1) (zs ++ [v]) σ2 H3) (hd : ∀ zs σ H, Pv (xs.zip ys).length zs σ H → Q zs σ H) :
    ∃ W : Nat → List V → Nat → St → Hp → Prop, (∃ m, W 0 [] m σ H) ∧ LTurn (Itz K t1 t2 a b) g tYes (tEmit te) Q W := by
  refine ⟨fun i zs m σ H => m = (xs.zip ys).length - i ∧ i ≤ (xs.zip ys).length ∧ Pv i zs σ H, ⟨(xs.zip ys).length, rfl, Nat.zero_le _, h0⟩, ?_⟩
  rintro i zs m σ H ⟨rfl, hi, p⟩
  obtain ⟨q1, q2⟩ := hl i zs σ H hi p
  have lz : (xs.zip ys).length = min xs.length ys.length := List.length_zip
  by_cases hlt : i < (xs.zip ys).length
  · have ix : i < xs.length := by omega
    have iy : i < ys.length := by omega
    refine .inr ⟨⟨xs, ys, xs[i], ys[i], q1, q2, by simp [ix], by simp [iy]⟩, Pv (i + 1), fun zs' σ' H' p' => ⟨(xs.zip ys).length - (i + 1), by omega, rfl, hlt, p'⟩, fun x H' y => ?_⟩
    obtain ⟨r, x', y', e, hn, e', h⟩ := y
    subst e e'
    obtain ⟨g1, g2⟩ := h xs ys q1 q2
    exact yes_emit (hs i x' y' zs σ H r g1 g2 hn p)
  · have e : i = (xs.zip ys).length := by omega
    subst e
    exact .inl ⟨⟨xs, ys, q1, q2, by omega⟩, hd zs σ H p⟩
end L2

set_option Elab.async false
set_option linter.all false
set_option maxRecDepth 100000
set_option maxHeartbeats 4000000
namespace L2
open PySem PySem.Spec PyProof.Rows

/-! ### made data, as it is read -/
mutual
def DV (K : PySem.W.Frag) (H : Hp) : PyData → V → Prop
  | .none, v => v = .non
  | .bool b, v => v = .bl b
  | .int i, v => v = .int i
  | .str x, v => v = .str x
  | .list ds, v => ∃ a xs, v = .ref a ∧ SqL K H a xs ∧ DVs K H ds xs
  | .tuple ds, v => ∃ a xs, v = .ref a ∧ SqT K H a xs ∧ DVs K H ds xs
  | .dict _, _ => False
def DVs (K : PySem.W.Frag) (H : Hp) : List PyData → List V → Prop
  | [], xs => xs = []
  | d :: ds, xs => ∃ x r, xs = x :: r ∧ DV K H d x ∧ DVs K H ds r
end
theorem Same.tup {K : PySem.W.Frag} {H H' : Hp} {a : Addr} {xs : List V} (e : Same H H') (h : SqT K H a xs) : SqT K H' a xs := by
  rcases h with (h | ⟨o, h⟩) | h
  · exact .inl (.inl (e _ _ h))
  · exact .inl (.inr ⟨o, e _ _ h⟩)
  · exact .inr h
mutual
theorem DV.same {K : PySem.W.Frag} {H H' : Hp} (e : Same H H') : ∀ {d : PyData} {v : V}, DV K H d v → DV K H' d v
  | .none, _, h => by unfold DV at h ⊢; exact h
  | .bool _, _, h => by unfold DV at h ⊢; exact h
  | .int _, _, h => by unfold DV at h ⊢; exact h
  | .str _, _, h => by unfold DV at h ⊢; exact h
  | .list ds, _, h => by
    unfold DV at h ⊢
    obtain ⟨a, xs, q1, q2, q3⟩ := h
    exact ⟨a, xs, q1, e.seq q2, DVs.same e q3⟩
  | .tuple ds, _, h => by
    unfold DV at h ⊢
    obtain ⟨a, xs, q1, q2, q3⟩ := h
    exact ⟨a, xs, q1, e.tup q2, DVs.same e q3⟩
  | .dict _, _, h => by unfold DV at h; exact h.elim
theorem DVs.same {K : PySem.W.Frag} {H H' : Hp} (e : Same H H') : ∀ {ds : List PyData} {xs : List V}, DVs K H ds xs → DVs K H' ds xs
  | [], _, h => by unfold DVs at h ⊢; exact h
  | d :: ds, _, h => by
    unfold DVs at h ⊢
    obtain ⟨x, r, q1, q2, q3⟩ := h
    exact ⟨x, r, q1, DV.same e q2, DVs.same e q3⟩
end
theorem DVs.ints {K : PySem.W.Frag} {H : Hp} : ∀ ns : List Int, DVs K H (ns.map .int) (ns.map .int)
  | [] => by unfold DVs; rfl
  | n :: r => by unfold DVs; exact ⟨_, _, rfl, by unfold DV; rfl, DVs.ints r⟩
theorem DVs.bools {K : PySem.W.Frag} {H : Hp} : ∀ ns : List Bool, DVs K H (ns.map .bool) (ns.map .bl)
  | [] => by unfold DVs; rfl
  | n :: r => by unfold DVs; exact ⟨_, _, rfl, by unfold DV; rfl, DVs.bools r⟩
theorem DVs.nil {K : PySem.W.Frag} {H : Hp} : DVs K H [] [] := by unfold DVs; rfl
theorem DVs.cons {K : PySem.W.Frag} {H : Hp} {d : PyData} {ds : List PyData} {x : V} {xs : List V} (h : DV K H d x) (t : DVs K H ds xs) : DVs K H (d :: ds) (x :: xs) := by unfold DVs; exact ⟨x, xs, rfl, h, t⟩
theorem DV.int {K : PySem.W.Frag} {H : Hp} (i : Int) : DV K H (.int i) (.int i) := by unfold DV; rfl
theorem DV.bool {K : PySem.W.Frag} {H : Hp} (i : Bool) : DV K H (.bool i) (.bl i) := by unfold DV; rfl
theorem DV.list {K : PySem.W.Frag} {H : Hp} {a : Addr} {xs : List V} {ds : List PyData} (h : SqL K H a xs) (t : DVs K H ds xs) : DV K H (.list ds) (.ref a) := by unfold DV; exact ⟨a, xs, rfl, h, t⟩
theorem DV.tup {K : PySem.W.Frag} {H : Hp} {a : Addr} {xs : List V} {ds : List PyData} (h : SqT K H a xs) (t : DVs K H ds xs) : DV K H (.tuple ds) (.ref a) := by unfold DV; exact ⟨a, xs, rfl, h, t⟩
theorem DVs.append {K : PySem.W.Frag} {H : Hp} : ∀ {ds es : List PyData} {xs ys : List V}, DVs K H ds xs → DVs K H es ys → DVs K H (ds ++ es) (xs ++ ys)
  | [], _, _, _, h, t => by unfold DVs at h; subst h; exact t
  | d :: ds, es, _, ys, h, t => by
    unfold DVs at h
    obtain ⟨x, r, q1, q2, q3⟩ := h
    subst q1
    exact DVs.cons q2 (DVs.append q3 t)
theorem DVs.length {K : PySem.W.Frag} {H : Hp} : ∀ {ds : List PyData} {xs : List V}, DVs K H ds xs → ds.length = xs.length
  | [], _, h => by unfold DVs at h; subst h; rfl
  | d :: ds, _, h => by
    unfold DVs at h
    obtain ⟨x, r, q1, q2, q3⟩ := h
    subst q1
    rw [List.length_cons, List.length_cons, DVs.length q3]
theorem DVs.get {K : PySem.W.Frag} {H : Hp} : ∀ {ds : List PyData} {xs : List V} {i : Nat} {x : V}, DVs K H ds xs → xs[i]? = some x → ∃ d, ds[i]? = some d ∧ DV K H d x
  | [], _, i, x, h, e => by unfold DVs at h; subst h; simp at e
  | d :: ds, _, 0, x, h, e => by
    unfold DVs at h
    obtain ⟨y, r, q1, q2, q3⟩ := h
    subst q1
    simp at e; subst e
    exact ⟨d, rfl, q2⟩
  | d :: ds, _, i + 1, x, h, e => by
    unfold DVs at h
    obtain ⟨y, r, q1, q2, q3⟩ := h
    subst q1
    obtain ⟨d', h1, h2⟩ := DVs.get (i := i) (x := x) q3 (by simpa using e)
    exact ⟨d', by simpa using h1, h2⟩
section
variable {X : Cx} {pins : List (Addr × Obj)} {σ : St} {H : Hp} {s : Shared}
mutual
theorem Inv.reads (I : Inv X pins σ H s) : ∀ {d : PyData} {v : V} {u : Value}, DV X.K H d v → RelV v u → ∃ as, Reads s.heap u d as
  | .none, _, u, h, r => by unfold DV at h; subst h; cases (show u = Value.none from r); exact ⟨_, .none⟩
  | .bool b, _, u, h, r => by unfold DV at h; subst h; cases (show u = Value.bool b from r); exact ⟨_, .bool b⟩
  | .int i, _, u, h, r => by unfold DV at h; subst h; obtain ⟨t, q⟩ := (show ∃ t, u = Value.int i t from r); cases q; exact ⟨_, .int i t⟩
  | .str x, _, u, h, r => by unfold DV at h; subst h; obtain ⟨t, q⟩ := (show ∃ t, u = Value.str x t from r); cases q; exact ⟨_, .str x t⟩
  | .list ds, _, u, h, r => by
    unfold DV at h
    obtain ⟨a, xs, q1, q2, q3⟩ := h
    subst q1
    cases (show u = Value.ref a from r)
    obtain ⟨its, rv, p, _⟩ := I.list q2
    obtain ⟨as, ra⟩ := Inv.readsAll I q3 rv
    obtain ⟨o, e, c, n, d⟩ := p.isList
    exact ⟨_, .list e c d (by simpa using ra)⟩
  | .tuple ds, _, u, h, r => by
    unfold DV at h
    obtain ⟨a, xs, q1, q2, q3⟩ := h
    subst q1
    cases (show u = Value.ref a from r)
    obtain ⟨its, rv, p, _⟩ := I.tuple q2
    obtain ⟨as, ra⟩ := Inv.readsAll I q3 rv
    obtain ⟨o, e, c, n, d⟩ := p
    exact ⟨_, .tuple e c d (by simpa using ra)⟩
  | .dict _, _, _, h, _ => by unfold DV at h; exact h.elim
theorem Inv.readsAll (I : Inv X pins σ H s) : ∀ {ds : List PyData} {xs : List V} {us : List Value}, DVs X.K H ds xs → Vals xs us → ∃ as, ReadsAll s.heap us ds as
  | [], _, _, h, r => by unfold DVs at h; subst h; cases r; exact ⟨_, .nil⟩
  | d :: ds, _, us, h, r => by
    unfold DVs at h
    obtain ⟨x, t, q1, q2, q3⟩ := h
    subst q1
    cases r with
    | cons r1 r2 =>
      obtain ⟨as, ra⟩ := Inv.reads I q2 r1
      obtain ⟨bs, rb⟩ := Inv.readsAll I q3 r2
      exact ⟨_, .cons ra rb⟩
end
end
section
variable {X : Cx}
def rEqD (K : PySem.W.Frag) (neg : Bool) : R2 := fun x y H Q => ∃ da db, DV K H da x ∧ DV K H db y ∧ SeqAt.shaped da = true ∧ SeqAt.shaped db = true ∧ Q (.bl (if neg then !PyData.eqv da db else PyData.eqv da db)) H
theorem op_eqD (hu : X.A.units + 64 < cLine) : OpR X (compareOp .Eq) (rEqD X.K false) := by
  rintro pins s σ H x y v u Q I rx ry ⟨da, db, h1, h2, s1, s2, q⟩
  obtain ⟨as, ra⟩ := I.reads h1 rx
  obtain ⟨bs, rb⟩ := I.reads h2 ry
  exact SeqAt.compareEq_shaped ra rb s1 s2 hu ⟨.bl (PyData.eqv da db), H, I, rfl, q⟩
theorem op_neD (hu : X.A.units + 64 < cLine) : OpR X (compareOp .NotEq) (rEqD X.K true) := by
  rintro pins s σ H x y v u Q I rx ry ⟨da, db, h1, h2, s1, s2, q⟩
  obtain ⟨as, ra⟩ := I.reads h1 rx
  obtain ⟨bs, rb⟩ := I.reads h2 ry
  exact SeqAt.compareNe_shaped ra rb s1 s2 hu ⟨.bl (!PyData.eqv da db), H, I, rfl, q⟩
theorem call_reprD (hg : X.A.guards = some []) (hu : X.A.units + 64 < cLine) : CallR X (.builtin "repr") (fun xs H Q => ∃ a d, xs = [.ref a] ∧ DV X.K H d (.ref a) ∧ d.showable = true ∧ d.hasDict = false ∧ d.depth ≤ 40 ∧ d.shown.length ≤ sizeLine ∧ Q (.str d.shown) H) := by
  rintro pins s σ H xs us Q I r ⟨a, d, rfl, h, h1, h2, h3, h4, q⟩
  obtain ⟨u, rfl, rx⟩ := vals1 r
  cases (show u = Value.ref a from rx)
  obtain ⟨as, ra⟩ := I.reads h rx
  exact repr_of_reads' ra h1 (PyData.noDict_hsm h2) hg (by omega) (fun _ _ e => e) (fun h' u tk hk => ⟨.str d.shown, H, I.kept hk, ⟨u, rfl⟩, q⟩) h4

/-! ### sum, all of a list -/
theorem call_sumL (hc : X.calm = true) : CallR X (.builtin "sum") (fun xs H Q => ∃ (a : Addr) (ns : List Int), xs = [.ref a] ∧ SqL X.K H a (ns.map V.int) ∧ Q (.int ns.sum) H) := by
  rintro pins s σ H xs us Q I r ⟨a, ns, rfl, h, q⟩
  obtain ⟨u, rfl, rx⟩ := vals1 r
  cases (show u = Value.ref a from rx)
  obtain ⟨its, rv, p, hz⟩ := I.list h
  have ia : IntsAre its ns := intsAre_of rv
  refine call_sum_walkG (wpAny_pyIter_list p.isList ?_)
  have hlt : a < s.heap.objs.size := by obtain ⟨o, e, _⟩ := p.isList; exact Heap.lt_size e
  refine ⟨s.heap.objs.size, _, _, _, _, _, fun i => ns.getD i 0, rfl, Walks.list (A := X.A.in1) (I.ok.hd hc) s.heap.objs.size a (Nat.ne_of_lt hlt) its.toArray, ⟨⟨_, Heap.get?_push_size _ rfl, rfl, rfl⟩, p.isList.push _⟩, fun b hb => ?_, fun i v hv => ?_, fun h' tk t' hk => ?_⟩
  · show b < (s.heap.push _).objs.size
    rw [Heap.size_push]
    simp only [List.mem_cons, List.not_mem_nil, or_false] at hb
    rcases hb with e | e
    · rw [e]; exact Nat.lt_succ_self _
    · rw [e]; exact Nat.lt_succ_of_lt hlt
  · have hv' : its[i]? = some v := by simpa using hv
    have hl : i < ns.length := by
      have := (List.getElem?_eq_some_iff.mp hv').1
      have l2 := rv.length
      rw [List.length_map] at l2
      omega
    obtain ⟨u2, h1, t, h2⟩ := rv.get (i := i) (x := .int ns[i]) (by simp [hl])
    rw [hv'] at h1; cases h1
    refine ⟨t, h2.trans ?_⟩
    dsimp only
    rw [List.getD_eq_getElem?_getD, List.getElem?_eq_getElem hl]; rfl
  · have e1 : preSum (fun i => ns.getD i 0) its.toArray.size = ns.sum := by
      have l2 := rv.length
      rw [List.length_map] at l2
      rw [List.size_toArray, ← l2]
      have all : ∀ k ≤ ns.length, preSum (fun i => ns.getD i 0) k = (ns.take k).sum := by
        intro k
        induction k with
        | zero => intro _; rfl
        | succ k ih =>
          intro hk
          rw [List.take_succ_eq_append_getElem (by omega), List.sum_append]
          show preSum (fun i => ns.getD i 0) k + ns.getD k 0 = _
          rw [ih (by omega), List.getD_eq_getElem?_getD, List.getElem?_eq_getElem (by omega)]
          simp
      rw [all _ (Nat.le_refl _), List.take_length]
    refine ⟨.int ns.sum, H, I.kept (fun b o e => hk b o ?_ (Heap.get?_push_of_some _ e)), ⟨t', by rw [e1]⟩, q⟩
    intro hb
    have : b = s.heap.objs.size := by simpa using hb
    exact absurd (Heap.lt_size e) (by rw [this]; exact Nat.lt_irrefl _)
theorem call_allL (hc : X.calm = true) : CallR X (.builtin "all") (fun xs H Q => ∃ (a : Addr) (bs : List Bool), xs = [.ref a] ∧ SqL X.K H a (bs.map V.bl) ∧ Q (.bl (bs.all id)) H) := by
  rintro pins s σ H xs us Q I r ⟨a, bs, rfl, h, q⟩
  obtain ⟨u, rfl, rx⟩ := vals1 r
  cases (show u = Value.ref a from rx)
  obtain ⟨its, rv, p, hz⟩ := I.list h
  refine call_all_walk (wpAny_pyIter_list p.isList ?_)
  have hlt : a < s.heap.objs.size := by obtain ⟨o, e, _⟩ := p.isList; exact Heap.lt_size e
  have l2 := rv.length
  rw [List.length_map] at l2
  refine ⟨s.heap.objs.size, _, _, _, _, _, fun i => bs.getD i true, rfl, Walks.list (A := X.A.in1) (I.ok.hd hc) s.heap.objs.size a (Nat.ne_of_lt hlt) its.toArray, ⟨⟨_, Heap.get?_push_size _ rfl, rfl, rfl⟩, p.isList.push _⟩, ?_, fun h' tk hk => ?_⟩
  · intro i v s' Q' E' hv hq
    have hv' : its[i]? = some v := by simpa using hv
    have hl : i < bs.length := by
      have := (List.getElem?_eq_some_iff.mp hv').1
      omega
    obtain ⟨u2, h1, h2⟩ := rv.get (i := i) (x := .bl bs[i]) (by simp [hl])
    rw [hv'] at h1; cases h1
    cases (show v = Value.bool bs[i] from h2)
    refine wpAny_truthy_bool ?_
    dsimp only at hq
    rw [List.getD_eq_getElem?_getD, List.getElem?_eq_getElem hl] at hq
    exact hq
  · have e1 : (List.range its.toArray.size).all (fun i => bs.getD i true) = bs.all id := by
      rw [List.size_toArray, ← l2, Bool.eq_iff_iff, List.all_eq_true, List.all_eq_true]
      constructor
      · intro h x hx
        obtain ⟨i, hi, e⟩ := List.mem_iff_getElem.mp hx
        have := h i (by simpa using hi)
        rw [List.getD_eq_getElem?_getD, List.getElem?_eq_getElem hi] at this
        simpa [e] using this
      · intro h i hi
        have hi' : i < bs.length := by simpa using hi
        rw [List.getD_eq_getElem?_getD, List.getElem?_eq_getElem hi']
        simpa using h _ (List.getElem_mem hi')
    refine ⟨.bl (bs.all id), H, I.kept (fun b o e => hk b o ?_ (Heap.get?_push_of_some _ e)), by rw [e1]; rfl, q⟩
    intro hb
    have : b = s.heap.objs.size := by simpa using hb
    exact absurd (Heap.lt_size e) (by rw [this]; exact Nat.lt_irrefl _)

/-! ### isinstance -/
theorem call_isi : CallR X (.builtin "isinstance") (fun xs H Q => ∃ x t c b, xs = [x, .ty c] ∧ TyOf X.K H x t ∧ PySem.W.kitOne X.K t (.type c) = some b ∧ Q (.bl b) H) := by
  rintro pins s σ H xs us Q I r ⟨x, t, c, b, rfl, ty, e, q⟩
  obtain ⟨u, w, rfl, rx, rc⟩ := vals2 r
  cases (show w = Value.type c from rc)
  exact isinst_ok I rx ty e fun tk => ⟨.bl b, H, I.tok _, rfl, q⟩

/-! ### powers, whatever the base -/
def CPowB (i j : Int) : Prop := 0 ≤ j ∧ (Builtin.Int.intBits i : Int) * j ≤ 2 ^ 27
theorem op_powB : OpR X (binaryOp .Pow) (rI CPowB fun i j => .int (i ^ j.toNat)) := opI fun _ _ _ _ _ _ _ hc q => pow_int hc.1 hc.2 q
end
end L2

set_option Elab.async false
set_option linter.all false
set_option maxRecDepth 100000
set_option maxHeartbeats 4000000
namespace L2
open PySem PySem.Spec PyProof.Rows
open AutoSeq1 (wpAny_loadPart')
open MeetsSeq MeetsSeq2 MeetsSeq3 SeqRoads2

theorem noFill_tuple_mul2 : fillsNumberSlot (.type "tuple") "mul" = pure false :=
  PySem.fillsNumberSlot_seq (id := "tuple.__mul__") (r := some (.builtin "tuple.__rmul__")) PySem.F.slot_tuple_mul.lookup (by decide +kernel) PySem.F.slot_tuple_rmul.lookup (by decide +kernel)
theorem repeat_tuple2 : seqRepeat? (.type "tuple") = pure (some (.builtin "tuple.__mul__")) := by
  unfold seqRepeat?; rw [PySem.seqSlot_of (T := "tuple") (name := "__mul__") (id := "tuple.__mul__") PySem.F.slot_tuple_mul.lookup (by decide +kernel), PySem.seqSlot_of (T := "tuple") (name := "__rmul__") (id := "tuple.__rmul__") PySem.F.slot_tuple_rmul.lookup (by decide +kernel)]; rfl
theorem int_rmul_seq (a : Int) (t : Tok) (l : Addr) (items : Array Value) (n : Nat) (dd : Option Addr) (sl : Array (Option Value)) : Meets (Builtin.«int.__rmul__» ⟨[.int a t, .ref l], []⟩) (fun _ R s => s.heap.get? l = some { cls := .type "tuple", dict := dd, data := .seq items n, slots := sl } ∧ R (.ok (.ret Value.notImplemented)) s) :=
  .of_wp fun prog w A R s h => by obtain ⟨hp, g, d, tk, os⟩ := s; obtain ⟨hl, h⟩ := h; wp_walk; exact ⟨_, rfl, h⟩
theorem tup_mul_same (l : Addr) (items : Array Value) (n : Nat) (dd : Option Addr) (sl : Array (Option Value)) (t : Tok) :
    Meets (Builtin.«tuple.__mul__» ⟨[.ref l, .int 1 t], []⟩) (fun _ R s => s.heap.get? l = some { cls := .type "tuple", dict := dd, data := .seq items n, slots := sl } ∧ R (.ok (.ret (.ref l))) s) :=
  .of_wp fun prog w A R s h => by
    obtain ⟨hp, g, d, tk, os⟩ := s; obtain ⟨hl, h⟩ := h; have f1 := AutoSeq1.idx_int; have f2 := AutoSeq1.sub_tuple_tuple
    wp_walk using wpAny_loadPart' hl
    exact ⟨_, rfl, h⟩
theorem tup_mul_new (l : Addr) (items : Array Value) (n : Nat) (dd : Option Addr) (sl : Array (Option Value)) (t : Tok) (k : Int) (h1 : 1 < k) (h2 : k < 2 ^ 63) (he : items.isEmpty = false) (hz : items.size * k.toNat ≤ sizeLine) :
    Meets (Builtin.«tuple.__mul__» ⟨[.ref l, .int k t], []⟩) (fun _ R s => s.heap.get? l = some { cls := .type "tuple", dict := dd, data := .seq items n, slots := sl } ∧ R (.ok (.ret (.ref s.heap.objs.size))) { s with heap := s.heap.push { cls := .type "tuple", data := .seq ((List.replicate k.toNat items).foldl (· ++ ·) #[]) } }) :=
  .of_wp fun prog w A R s h => by
    obtain ⟨hp, g, d, tk, os⟩ := s; obtain ⟨hl, h⟩ := h; have f1 := AutoSeq1.idx_int; have f2 := AutoSeq1.sub_tuple_tuple
    have c1 : (decide (k < -2 ^ 63) || decide (k ≥ 2 ^ 63)) = false := by
      rw [Bool.or_eq_false_iff]; exact ⟨decide_eq_false (by omega), decide_eq_false (by omega)⟩
    have c2 : (items.isEmpty || k == 1) = false := by rw [he, Bool.false_or]; exact beq_eq_false_iff_ne.mpr (by omega)
    have c3 : (decide (k ≤ 0) || items.isEmpty) = false := by rw [he, Bool.or_false]; exact decide_eq_false (by omega)
    have kn : ((k.toNat : Nat) : Int) = k := by omega
    have hz' : (items.size : Int) * k ≤ (sizeLine : Int) := by rw [← kn]; exact_mod_cast hz
    have c4 : ¬ ((items.size : Int) * k > (2 ^ 63 - 1) / 8) := by
      have : (sizeLine : Int) ≤ (2 ^ 63 - 1) / 8 := by decide
      omega
    have c5 : Builtin.Tuple.tupleTooMany ((items.size : Int) * k) = false := decide_eq_false (by omega)
    have cc : ∀ {b : Bool}, b = false → decide (b = true) = false := fun h => by rw [h]; rfl
    wp_walk using wpAny_loadPart' hl
    refine wpAny_ite_false (cc c1) ?_
    wp_walk using wpAny_loadPart' hl
    refine wpAny_ite_false (cc c2) ?_
    wp_walk using wpAny_loadPart' hl
    refine wpAny_ite_false (cc c3) ?_
    wp_walk using wpAny_loadPart' hl
    refine wpAny_ite_false (decide_eq_false c4) ?_
    wp_walk using wpAny_loadPart' hl
    have fit : (List.foldl (fun x1 x2 => x1 ++ x2) #[] (List.replicate k.toNat items)).size ≤ sizeLine := by
      have all : ∀ (m : Nat) (acc : Array Value), (List.foldl (fun x1 x2 => x1 ++ x2) acc (List.replicate m items)).size = acc.size + items.size * m := by
        intro m
        induction m with
        | zero => intro acc; simp
        | succ m ih => intro acc; rw [List.replicate_succ, List.foldl_cons, ih, Array.size_append, Nat.mul_succ]; omega
      rw [all]; simpa using hz
    refine wpAny_ite_false (decide_eq_false (Nat.not_lt.mpr fit)) ?_
    wp_walk using wpAny_loadPart' hl
    exact ⟨_, rfl, h⟩

section
variable {X : Cx}
/-- a tuple times an int from 1 on -/
def rRepT (K : PySem.W.Frag) : R2 := fun x y H Q => ∃ l k xs, x = .ref l ∧ y = .int k ∧ SqT K H l xs ∧ xs ≠ [] ∧ 1 ≤ k ∧ k < 2 ^ 63 ∧ xs.length * k.toNat ≤ sizeLine ∧
  ∀ p H', Same H H' → SqT K H' p (List.replicate k.toNat xs).flatten → Q (.ref p) H'
theorem same_newH {H : Hp} {p : Addr} (h : H p = none) (o : HO) : Same H (upd H p o) := fun b u q => by rw [upd_ne (ne_of_none q h)]; exact q
theorem op_repT : OpR X (binaryOp .Mult) (rRepT X.K) := by
  rintro pins s σ H x y v u Q I rx ry ⟨l, k, xs, rfl, rfl, hq, hne, h1, h2, hz, q⟩
  cases (show v = Value.ref l from rx)
  obtain ⟨t, rfl⟩ := (show ∃ t, u = Value.int k t from ry)
  obtain ⟨its, rv, ht, hzz⟩ := I.tuple hq
  obtain ⟨⟨cls, dd, data, sl⟩, ho, hc, n, hd⟩ := id ht
  simp only at hc hd
  subst hc hd
  have hl := rv.length
  refine wpAny_binaryOp_repeat_ref (T := "tuple") (U := "int") (by decide) ⟨_, ho, rfl⟩ (fun s' => typeIs_int s' k t) noFill_tuple_mul2 PySem.F.fills_int_mul PySem.F.slot_int_rmul repeat_tuple2 PySem.F.slot_int_index.lookup
    (call_meets PySem.F.slot_int_rmul (typeIs_int s k t) PySem.F.entry_int_rmul (PySem.F.args_int_rmul_2 _ _) (int_rmul_seq k t l its.toArray n dd sl) ⟨ho, rfl, ⟨_, ho, rfl⟩, ?_⟩)
  by_cases e1 : k = 1
  · subst e1
    refine call_meets PySem.F.slot_tuple_mul ⟨_, ho, rfl⟩ PySem.F.entry_tuple_mul (PySem.F.args_tuple_mul_2 _ _) (tup_mul_same l its.toArray n dd sl t) ⟨ho, ⟨.ref l, H, I, rfl, q l H (Same.refl H) ?_⟩⟩
    have e : (List.replicate (1 : Int).toNat xs).flatten = xs := by show (List.replicate 1 xs).flatten = xs; simp
    rw [e]; exact hq
  · refine call_meets PySem.F.slot_tuple_mul ⟨_, ho, rfl⟩ PySem.F.entry_tuple_mul (PySem.F.args_tuple_mul_2 _ _) (tup_mul_new l its.toArray n dd sl t k (by omega) h2 (by
        cases its with
        | nil => cases rv; exact absurd rfl hne
        | cons a r => rfl) (by rw [List.size_toArray, ← hl]; exact hz)) ⟨ho, ?_⟩
    have e : List.foldl (fun x1 x2 => x1 ++ x2) #[] (List.replicate k.toNat its.toArray) = (List.replicate k.toNat its).flatten.toArray := by
      have := foldl_rep its k.toNat []
      rw [List.nil_append] at this
      exact this
    rw [e]
    have fr : H s.heap.objs.size = none := I.hok.fresh (Nat.le_refl _)
    refine ⟨.ref s.heap.objs.size, upd H s.heap.objs.size (.tup (List.replicate k.toNat xs).flatten), I.laid (t' := s.toks) (fun b o e => Heap.get?_push_of_some _ e) (Nat.le_refl _) (show ObjOk X.prog X.w _ _ _ (.tup _) from ⟨by rw [len_rep, Nat.mul_comm]; exact hz, _, rv.rep k.toNat, IsTup.new _ _⟩), rfl, q _ _ (same_newH fr _) (SqT.of upd_same)⟩
/-- t + u, whatever the lengths -/
theorem tup_add0 (l b : Addr) (items items2 : Array Value) (n n2 : Nat) (dd dd2 : Option Addr) (sl sl2 : Array (Option Value)) (hc0 : items.isEmpty = true) :
    Meets (Builtin.«tuple.__add__» ⟨[.ref l, .ref b], []⟩) (fun _ R s => s.heap.get? l = some { cls := .type "tuple", dict := dd, data := .seq items n, slots := sl } ∧ s.heap.get? b = some { cls := .type "tuple", dict := dd2, data := .seq items2 n2, slots := sl2 } ∧ R (.ok (.ret (Value.ref b))) s) :=
  .of_wp fun prog w A R s h => by obtain ⟨hp, g, d, tk, os⟩ := s; obtain ⟨hl, hb, h⟩ := h; have f1 := AutoSeq1.idx_int; have f2 := AutoSeq1.sub_tuple_tuple; wp_walk using wpAny_loadPart' hl, wpAny_loadPart' hb; exact ⟨_, rfl, h⟩
def rCatTT (K : PySem.W.Frag) : R2 := fun x y H Q => ∃ a b xs ys, x = .ref a ∧ y = .ref b ∧ SqT K H a xs ∧ SqT K H b ys ∧ xs.length + ys.length ≤ sizeLine ∧ ∀ p H', Same H H' → SqT K H' p (xs ++ ys) → Q (.ref p) H'
theorem op_catTT : OpR X (binaryOp .Add) (rCatTT X.K) := by
  rintro pins s σ H x y v u Q I rx ry ⟨a, b, xs, ys, rfl, rfl, h1, h2, hz, q⟩
  cases (show v = Value.ref a from rx)
  cases (show u = Value.ref b from ry)
  obtain ⟨us, ru, hu, _⟩ := I.tuple h1
  obtain ⟨ws, rw', hw, _⟩ := I.tuple h2
  have lu := ru.length
  have lw := rw'.length
  by_cases e : us = []
  · subst e
    have ex : xs = [] := by cases xs with | nil => rfl | cons a r => cases ru
    obtain ⟨⟨cls, dd, data, sl⟩, ho, hc, n, hd⟩ := id hu
    obtain ⟨⟨cls2, dd2, data2, sl2⟩, ho2, hc2, n2, hd2⟩ := id hw
    simp only at hc hd hc2 hd2
    subst hc hd hc2 hd2
    exact concat_meets ⟨_, ho, rfl⟩ ⟨_, ho2, rfl⟩ noFill_tuple_add seq_tuple_add PySem.F.slot_tuple_add PySem.F.entry_tuple_add (PySem.F.args_tuple_add_2 _ _) (tup_add0 a b _ ws.toArray n n2 dd dd2 sl sl2 rfl) ⟨ho, ho2, ⟨.ref b, H, I, rfl, q b H (Same.refl H) (by rw [ex]; exact h2)⟩⟩
  · refine HT.cat_tup hu hw e (fun ew => ⟨.ref a, H, I, rfl, q a H (Same.refl H) ?_⟩) (fun ew => ?_) (by omega)
    · have ey : ys = [] := by cases ys with | nil => rfl | cons a r => subst ew; cases rw'
      rw [ey, List.append_nil]; exact h1
    · have fr : H s.heap.objs.size = none := I.hok.fresh (Nat.le_refl _)
      exact ⟨.ref s.heap.objs.size, upd H s.heap.objs.size (.tup (xs ++ ys)), I.laid (t' := s.toks) (fun b o e => Heap.get?_push_of_some _ e) (Nat.le_refl _) (show ObjOk X.prog X.w _ _ _ (.tup _) from ⟨by rw [List.length_append]; exact hz, _, ru.append rw', IsTup.new _ _⟩), rfl, q _ _ (same_newH fr _) (SqT.of upd_same)⟩
end
end L2

set_option Elab.async false
set_option linter.all false
set_option maxRecDepth 100000
set_option maxHeartbeats 4000000
namespace L2
open PySem PySem.Spec PyProof.Rows
section
variable {X : Cx} {CX : CXT} {k : Nat} {f C : Addr} {fd : FuncData} {ps ks : List Str} {sp : Sp} {E : XK} {x m : Str} {p pos apos kpos : Pos} {kws : List Keyword} {tk : TA}
variable {g : List Value → List Value → List Value} {gV : List V → List V → List V}
/-- f(k = v, ..) -/
theorem pe_callK0 (F : FnOk X.prog X.w X.K X.mg X.base CX k f fd ps sp) (hr : Room k X.A) (hg : Gl X x) (hm : X.mg x = some (.ref f)) (hk : PySem.W.keepIn X.K (.ref f) = true) (hb : KBinds X.K fd ps ks g gV) (hx : Passes CX X E)
    (hkw : PK X kws tk) (hall : (backToKw pos (keywordEach kws X.env)).all (·.1.isSome) = true := by rfl) (hks : (backToKw pos (keywordEach kws X.env)).filterMap (·.1) = ks := by rfl)
    (hdb : (x == ("__debug__" : Str)) = false := by decide) (hpl : ((backTo pos (starEach [] X.env)).any (·.1) || (backToKw pos (keywordEach kws X.env)).any (·.1.isNone)) = false := by rfl) :
    PE X (.Call (.Name x p) [] kws pos) (tCallK sp gV E tNil tk) := by
  intro pins s σ H Q I h
  refine wpAny_Call_Name_kw (ld_glob I hg hm ?_ hdb)
  refine PySem.W.callWith_KW0 (h₀ := X.base) I.ok.mod.kin hk hall (thn (hkw pos pins s σ H _ I h) fun ws s2 ⟨zs, H2, I2, rz, q2⟩ => ⟨I2.kIn, ?_⟩) hpl
  rw [hks]
  exact run_fnk F hr hb hx I2 .nil rz q2
end
section
variable {X : Cx}
theorem op_mulB : OpR X (binaryOp .Mult) (rI IntMulOk fun i j => .int (i * j)) := opI fun _ _ _ _ _ _ _ hc q => mul_int q hc
theorem intBits_le {i : Int} {n : Nat} (h : i.natAbs < 2 ^ n) : Builtin.Int.intBits i ≤ n := by
  unfold Builtin.Int.intBits
  split
  · exact Nat.zero_le _
  · rename_i hne
    have h0 : i.natAbs ≠ 0 := by
      intro z
      exact hne (by simpa using z)
    have := (Nat.log2_lt h0).mpr h
    omega
theorem mulOk_of {i j : Int} {n : Nat} (hn : n ≤ 2 ^ 20) (hi : i.natAbs < 2 ^ n) (hj : j.natAbs < 2 ^ n) : IntMulOk i j := IntMulOk.of_bits (Nat.le_trans (intBits_le hi) hn) (Nat.le_trans (intBits_le hj) hn)
end
/-! ### all but one -/
def SB (u : Addr) (H H' : Hp) : Prop := ∀ b o, b ≠ u → H b = some o → H' b = some o
theorem SB.refl (u : Addr) (H : Hp) : SB u H H := fun _ _ _ h => h
theorem SB.trans {u : Addr} {H H1 H2 : Hp} (a : SB u H H1) (b : SB u H1 H2) : SB u H H2 := fun c o n h => b c o n (a c o n h)
theorem Same.sb {H H' : Hp} (e : Same H H') (u : Addr) : SB u H H' := fun b o _ h => e b o h
theorem SB.upd (u : Addr) (H : Hp) (o : HO) : SB u H (upd H u o) := fun b v n h => by rw [upd_ne n]; exact h
theorem SB.seq {K : PySem.W.Frag} {u : Addr} {H H' : Hp} {a : Addr} {xs : List V} (e : SB u H H') (n : a ≠ u) (h : SqL K H a xs) : SqL K H' a xs := by
  rcases h with (h | ⟨o, h⟩) | h
  · exact .inl (.inl (e _ _ n h))
  · exact .inl (.inr ⟨o, e _ _ n h⟩)
  · exact .inr h
theorem SB.tup {K : PySem.W.Frag} {u : Addr} {H H' : Hp} {a : Addr} {xs : List V} (e : SB u H H') (n : a ≠ u) (h : SqT K H a xs) : SqT K H' a xs := by
  rcases h with (h | ⟨o, h⟩) | h
  · exact .inl (.inl (e _ _ n h))
  · exact .inl (.inr ⟨o, e _ _ n h⟩)
  · exact .inr h
theorem SB.get {u : Addr} {H H' : Hp} (e : SB u H H') {b : Addr} {o : HO} (h : H b = some o) (n : b ≠ u) : H' b = some o := e b o n h
end L2

set_option Elab.async false
set_option linter.all false
set_option maxRecDepth 100000
set_option maxHeartbeats 4000000
namespace L2
open PySem PySem.Spec PyProof.Rows

/-! ### a def of the text with its promise -/
def BindsAll (x : Str) (st : Stmt) (ps : List Str) : Prop := ∀ (kV doc pm : Value) (an : Option Addr) (cdv ct : Value) (us : List Value), us.length = ps.length → bindArgs (PySem.W.fnOf x x (defArgs st) (defBody st) (defScope st) .none kV doc pm an cdv ct) ⟨us, []⟩ = pure (ps.zip us)
def gaP (na nk : Nat) (pick : List (Bool × Nat)) {α : Type} (us ws : List α) : List α := if us.length = na ∧ ws.length = nk then pick.filterMap (fun p => if p.1 = true then us[p.2]? else ws[p.2]?) else []
def KBindsAll (x : Str) (st : Stmt) (ps ks : List Str) (na nk : Nat) (pick : List (Bool × Nat)) : Prop := ∀ (kV doc pm : Value) (an : Option Addr) (cdv ct : Value) (us ws : List Value), (gaP na nk pick us ws).length = ps.length →
  bindArgs (PySem.W.fnOf x x (defArgs st) (defBody st) (defScope st) .none kV doc pm an cdv ct) ⟨us, ks.zip ws⟩ = pure (ps.zip (gaP na nk pick us ws))
theorem gaP_len {na nk : Nat} {pick : List (Bool × Nat)} {α : Type} {us ws : List α} {n : Nat} (h : (gaP na nk pick us ws).length = n + 1) : us.length = na ∧ ws.length = nk := by
  unfold gaP at h
  split at h
  · assumption
  · cases h
theorem gaP_rel {na nk : Nat} {pick : List (Bool × Nat)} {vs : List V} {us : List Value} {zs : List V} {ws : List Value} (r : Vals vs us) (z : Vals zs ws) : Vals (gaP na nk pick vs zs) (gaP na nk pick us ws) := by
  unfold gaP
  rw [r.length, z.length]
  split
  · induction pick with
    | nil => exact .nil
    | cons p t ih =>
      have look : ∀ {as : List V} {bs : List Value}, Vals as bs → ∀ i : Nat, (∃ a b, as[i]? = some a ∧ bs[i]? = some b ∧ RelV a b) ∨ (as[i]? = none ∧ bs[i]? = none) := fun {as bs} q i => by
        cases e : as[i]? with
        | none => exact .inr ⟨rfl, q.none_of e⟩
        | some a => obtain ⟨b, h1, h2⟩ := q.get e; exact .inl ⟨a, b, rfl, h1, h2⟩
      rw [List.filterMap_cons, List.filterMap_cons]
      cases p.1 with
      | true =>
        rcases look r p.2 with ⟨a, b, e1, e2, q⟩ | ⟨e1, e2⟩
        · simp only [if_true, e1, e2]; exact .cons q ih
        · simp only [if_true, e1, e2]; exact ih
      | false =>
        rcases look z p.2 with ⟨a, b, e1, e2, q⟩ | ⟨e1, e2⟩
        · simp only [Bool.false_eq_true, if_false, e1, e2]; exact .cons q ih
        · simp only [Bool.false_eq_true, if_false, e1, e2]; exact ih
  · exact .nil
structure Dn (P : Program) (w : World) (K : PySem.W.Frag) (mg : Str → Option Value) (base : Heap) (k : Nat) (x : Str) (st : Stmt) (ps : List Str) (sp : Sp) : Prop where
  ex : ∃ f fd, FnOk P w K mg base CX0 k f fd ps sp ∧ Fun K x x st f fd ∧ mg x = some (.ref f)
section
variable {X : Cx} {k : Nat} {x : Str} {st : Stmt} {ps ks : List Str} {sp : Sp} {p pos : Pos} {e : Expr} {es : List Expr} {kws : List Keyword} {t tk : TA} {na nk : Nat} {pick : List (Bool × Nat)}
theorem pe_def (D : Dn X.prog X.w X.K X.mg X.base k x st ps sp) (hb : BindsAll x st ps) (hr : Room k X.A) (ha : PA X (e :: es) t) (hg : Gl X x := by rfl) (hs : starEach (e :: es) X.env = (false, eval e X.env) :: starEach es X.env := by rfl) (hpl : (backTo pos (starEach es X.env)).any (·.1) = false := by rfl)
    (hdb : (x == ("__debug__" : Str)) = false := by decide) : PE X (.Call (.Name x p) (e :: es) [] pos) (tCall sp [] E0 t) := by
  obtain ⟨f, fd, F, U, m⟩ := D.ex
  exact pe_call F hr hg m U.kp (U.binds hb) .nil pass0 ha (hdb := hdb) (he := hs) (hpl := hpl)
theorem pe_def0 (D : Dn X.prog X.w X.K X.mg X.base k x st ps sp) (hb : BindsAll x st ps) (hr : Room k X.A) (hg : Gl X x := by rfl) (hdb : (x == ("__debug__" : Str)) = false := by decide) : PE X (.Call (.Name x p) [] [] pos) (tCall sp [] E0 tNil) := by
  obtain ⟨f, fd, F, U, m⟩ := D.ex
  exact pe_call0 F hr hg m U.kp (U.binds hb) .nil pass0 hdb
theorem Fun.kbinds {K : PySem.W.Frag} {f : Addr} {fd : FuncData} (F : Fun K x x st f fd) (h : KBindsAll x st ps ks na nk pick) : KBinds K fd ps ks (gaP na nk pick) (gaP na nk pick) := by
  obtain ⟨oc, od, kV, doc, pm, an, cdv, ct, osl, rfl, lk, hcd⟩ := F.ex
  exact ⟨fun s us ws _ hl => .of_eq (h kV doc pm an cdv ct us ws hl), fun r z => gaP_rel r z⟩
theorem pe_defK0 (D : Dn X.prog X.w X.K X.mg X.base k x st ps sp) (hb : KBindsAll x st ps ks na nk pick) (hr : Room k X.A) (hkw : PK X kws tk) (hg : Gl X x := by rfl) (hall : (backToKw pos (keywordEach kws X.env)).all (·.1.isSome) = true := by rfl) (hks : (backToKw pos (keywordEach kws X.env)).filterMap (·.1) = ks := by rfl)
    (hdb : (x == ("__debug__" : Str)) = false := by decide) (hpl : ((backTo pos (starEach [] X.env)).any (·.1) || (backToKw pos (keywordEach kws X.env)).any (·.1.isNone)) = false := by rfl) : PE X (.Call (.Name x p) [] kws pos) (tCallK sp (gaP na nk pick) E0 tNil tk) := by
  obtain ⟨f, fd, F, U, m⟩ := D.ex
  exact pe_callK0 F hr hg m U.kp (U.kbinds hb) pass0 hkw hall hks hdb hpl
theorem pe_defK (D : Dn X.prog X.w X.K X.mg X.base k x st ps sp) (hb : KBindsAll x st ps ks na nk pick) (hr : Room k X.A) (ha : PA X (e :: es) t) (hkw : PK X kws tk) (hg : Gl X x := by rfl) (hall : (backToKw pos (keywordEach kws X.env)).all (·.1.isSome) = true := by rfl) (hks : (backToKw pos (keywordEach kws X.env)).filterMap (·.1) = ks := by rfl)
    (hdb : (x == ("__debug__" : Str)) = false := by decide) (he : starEach (e :: es) X.env = (false, eval e X.env) :: starEach es X.env := by rfl)
    (hpl : ((backTo pos (starEach (e :: es) X.env)).any (·.1) || (backToKw pos (keywordEach kws X.env)).any (·.1.isNone)) = false := by rfl) : PE X (.Call (.Name x p) (e :: es) kws pos) (tCallK sp (gaP na nk pick) E0 t tk) := by
  obtain ⟨f, fd, F, U, m⟩ := D.ex
  exact pe_callK F hr hg m U.kp (U.kbinds hb) pass0 ha hkw hall hks hdb he hpl
end
/-- a def's promise from its body -/
theorem Dn.of {P : Program} {w : World} {K : PySem.W.Frag} {mg : Str → Option Value} {base : Heap} {x : Str} {st : Stmt} {N ps : List Str} {k : Nat} {sp : Sp} (U : ∃ f fd, Fun K x x st f fd ∧ mg x = some (.ref f)) (S : FnScope N ps (defScope st)) (len : ∀ vs H Q E, sp vs H Q E → vs.length = ps.length)
    (hbody : ∀ (f : Addr) (cdv : Value) (A : Around) (outer : List Env) (s : Shared) (H : Hp) (vs : List V) (Q : VK) (E : XK), Room k (A.deeper (envOfC x (defScope st) s.heap.objs.size f cdv)) → sp vs H Q E →
      ∃ t, PSs (cxOf CX0 P w K mg base N x (defScope st) f cdv A outer s H E).nox (defBody st) t ∧ t { nx := fun _ H' => Q .non H', rt := Q } (start N vs) H) : Dn P w K mg base (k + 1) x st ps sp := by
  obtain ⟨f, fd, F, m⟩ := U
  exact ⟨f, fd, F.ok S len fun cdv A outer s H vs Q E hr h => hbody f cdv A outer s H vs Q E hr h, F, m⟩

/-! ### the urn: three numbers in a list -/
def Urn (H : Hp) (u : Addr) (m : Nat) : Prop := ∃ g c n : Int, H u = some (.lst [.int g, .int c, .int n]) ∧ 0 ≤ g ∧ 0 ≤ c ∧ c ≤ 4000000000000000000 ∧ 0 ≤ n ∧ n ≤ m
theorem Urn.mono {H : Hp} {u : Addr} {m m' : Nat} (h : Urn H u m) (le : m ≤ m') : Urn H u m' := by
  obtain ⟨g, c, n, e, h1, h2, h3, h4, h5⟩ := h
  exact ⟨g, c, n, e, h1, h2, h3, h4, by omega⟩
theorem Urn.same {H H' : Hp} {u : Addr} {m : Nat} (h : Urn H u m) (s : Same H H') : Urn H' u m := by
  obtain ⟨g, c, n, e, r⟩ := h
  exact ⟨g, c, n, s _ _ e, r⟩
theorem Urn.ne {H : Hp} {u p : Addr} {m : Nat} (h : Urn H u m) (e : H p = none) : p ≠ u := by
  obtain ⟨g, c, n, q, _⟩ := h
  exact fun z => by rw [z, q] at e; cases e
theorem Urn.neT {H : Hp} {u p : Addr} {m : Nat} {xs : List V} (h : Urn H u m) (e : H p = some (.tup xs)) : p ≠ u := by
  obtain ⟨g, c, n, q, _⟩ := h
  exact fun z => by rw [z, q] at e; cases e
/-- the promise of the urn's making -/
def spUrn (K : PySem.W.Frag) : Sp := fun vs H Q _ => ∃ (a : Addr) (ns : List Int) (k : Int), vs = [.ref a, .int k] ∧ SqL K H a (ns.map V.int) ∧ 0 ≤ k ∧ k ≤ 100 ∧
  ∀ (r : Addr) (H' : Hp), Same H H' → H r = none → Urn H' r 0 → Q (.ref r) H'
/-- of a draw -/
def spDraw : Sp := fun vs H Q _ => ∃ (u : Addr) (wd : Int) (m : Nat), vs = [.ref u, .int wd] ∧ Urn H u m ∧ m ≤ 1000000 ∧ 0 < wd ∧ wd < 1073741824 ∧
  ∀ (d : Int) (H' : Hp), 0 ≤ d → d < wd → SB u H H' → Urn H' u (m + 1) → Q (.int d) H'
theorem natAbs_lt {i : Int} {n : Nat} (h0 : 0 ≤ i) (h : i < 2 ^ n) : i.natAbs < 2 ^ n := by
  have e : ((i.natAbs : Nat) : Int) = i := Int.natAbs_of_nonneg h0
  have : ((i.natAbs : Nat) : Int) < ((2 ^ n : Nat) : Int) := by rw [e]; simpa using h
  exact_mod_cast this
theorem prime7 (j : Int) : ∃ q : Int, atI [V.int 2147483647, V.int 2147483629, V.int 2147483587, V.int 2147483579, V.int 2147483563, V.int 2147483549, V.int 2147483543] (j % 7) = some (.int q) ∧ 0 < q ∧ q ≤ 2147483647 := by
  have h0 := Int.emod_nonneg j (show (7 : Int) ≠ 0 by decide)
  have h1 := Int.emod_lt_of_pos j (show (0 : Int) < 7 by decide)
  have : j % 7 = 0 ∨ j % 7 = 1 ∨ j % 7 = 2 ∨ j % 7 = 3 ∨ j % 7 = 4 ∨ j % 7 = 5 ∨ j % 7 = 6 := by omega
  rcases this with e | e | e | e | e | e | e <;> rw [e] <;> exact ⟨_, rfl, by decide, by decide⟩
end L2

set_option Elab.async false
set_option linter.all false
set_option maxRecDepth 100000
set_option maxHeartbeats 4000000
namespace L2
open PySem PySem.Spec PyProof.Rows
/-! ### names in a comprehension's block, by the block's own scope -/
section
variable {X : Cx} {Nc : List Str} {scope : Scope} {cs : List (Str × Addr)} {C : Addr} {s : Shared} {H : Hp} {fp : List Addr} {x : Str} {pos : Pos}
theorem comp_kind : (cxComp X Nc scope cs C s H fp).env.scope.names.lookup x = (scope.names.lookup x).map fun k => if (k == NameKind.free && X.env.scope.kind == .function && X.env.kindOf x == some .cell) then .cell else k := lookup_relabel
theorem comp_local (h : scope.names.lookup x = some .local) : (cxComp X Nc scope cs C s H fp).env.scope.names.lookup x = some .local := by rw [comp_kind, h]; rfl
theorem comp_cell (h : scope.names.lookup x = some .cell) : (cxComp X Nc scope cs C s H fp).env.scope.names.lookup x = some .cell := by rw [comp_kind, h]; rfl
theorem gl_comp (h : scope.names.lookup x = some .globalImplicit := by rfl) : Gl (cxComp X Nc scope cs C s H fp) x := by
  show (cxComp X Nc scope cs C s H fp).env.scope.names.lookup x = _
  rw [comp_kind, h]; rfl
theorem vis_free (h : scope.names.lookup x = some .free) : Vis (cxComp X Nc scope cs C s H fp).env.scope x := by
  unfold Vis
  rw [comp_kind, h]
  simp only [Option.map_some]
  split
  · exact .inr (.inl rfl)
  · exact .inr (.inr rfl)
theorem pvl (i : Nat) (hN : Nc[i]? = some x := by rfl) (hk : scope.names.lookup x = some .local := by rfl) (hd : (x == ("__debug__" : Str)) = false := by decide) (hcd : (x == ("__classdict__" : Str)) = false := by decide) : PE (cxComp X Nc scope cs C s H fp) (.Name x pos) (tVar i) :=
  pe_var (X := cxComp X Nc scope cs C s H fp) hN (.inl (comp_local hk)) hd hcd
theorem pvc (i : Nat) (hN : Nc[i]? = some x := by rfl) (hk : scope.names.lookup x = some .cell := by rfl) (hd : (x == ("__debug__" : Str)) = false := by decide) (hcd : (x == ("__classdict__" : Str)) = false := by decide) : PE (cxComp X Nc scope cs C s H fp) (.Name x pos) (tVar i) :=
  pe_var (X := cxComp X Nc scope cs C s H fp) hN (.inr (.inl (comp_cell hk))) hd hcd
theorem pvf (i : Nat) (hN : Nc[i]? = some x := by rfl) (hk : scope.names.lookup x = some .free := by rfl) (hd : (x == ("__debug__" : Str)) = false := by decide) (hcd : (x == ("__classdict__" : Str)) = false := by decide) : PE (cxComp X Nc scope cs C s H fp) (.Name x pos) (tVar i) :=
  pe_var (X := cxComp X Nc scope cs C s H fp) hN (vis_free hk) hd hcd
theorem pgl (i : Nat) (hN : Nc.Nodup) (hi : Nc[i]? = some x := by rfl) (hk : scope.names.lookup x = some .local := by rfl) : PG (cxComp X Nc scope cs C s H fp) (.Name x pos) (gName i) :=
  pg_name (X := cxComp X Nc scope cs C s H fp) hN hi (.inl (comp_local hk)) (.inr (comp_local hk))
theorem pgc (i : Nat) (hN : Nc.Nodup) (hi : Nc[i]? = some x := by rfl) (hk : scope.names.lookup x = some .cell := by rfl) : PG (cxComp X Nc scope cs C s H fp) (.Name x pos) (gName i) :=
  pg_name (X := cxComp X Nc scope cs C s H fp) hN hi (.inr (comp_cell hk)) (.inl (by show (scope.names.lookup x == some .cell) = true; rw [hk]; rfl))
end
end L2

set_option Elab.async false
set_option linter.all false
set_option maxRecDepth 100000
set_option maxHeartbeats 4000000
namespace L2
open PySem PySem.Spec PyProof.Rows
/-! ### the judgements, shut: the elaborator is not to look into them -/
@[irreducible] def IPE (X : Cx) (e : Expr) (t : TE) : Prop := PE X e t
theorem IPE_eq {X : Cx} {e : Expr} {t : TE} : IPE X e t = PE X e t := by unfold IPE; rfl
@[irreducible] def IPT (X : Cx) (e : Expr) (t : TT) : Prop := PT X e t
theorem IPT_eq {X : Cx} {e : Expr} {t : TT} : IPT X e t = PT X e t := by unfold IPT; rfl
@[irreducible] def IPW (X : Cx) (e : Expr) (t : TT) : Prop := PW X e t
theorem IPW_eq {X : Cx} {e : Expr} {t : TT} : IPW X e t = PW X e t := by unfold IPW; rfl
@[irreducible] def IPA (X : Cx) (e : List Expr) (t : TA) : Prop := PA X e t
theorem IPA_eq {X : Cx} {e : List Expr} {t : TA} : IPA X e t = PA X e t := by unfold IPA; rfl
@[irreducible] def IPK (X : Cx) (e : List Keyword) (t : TA) : Prop := PK X e t
theorem IPK_eq {X : Cx} {e : List Keyword} {t : TA} : IPK X e t = PK X e t := by unfold IPK; rfl
@[irreducible] def IPS (X : Cx) (e : Stmt) (t : TS) : Prop := PS X e t
theorem IPS_eq {X : Cx} {e : Stmt} {t : TS} : IPS X e t = PS X e t := by unfold IPS; rfl
@[irreducible] def IPSs (X : Cx) (e : List Stmt) (t : TS) : Prop := PSs X e t
theorem IPSs_eq {X : Cx} {e : List Stmt} {t : TS} : IPSs X e t = PSs X e t := by unfold IPSs; rfl
@[irreducible] def IPG (X : Cx) (e : Expr) (t : TG) : Prop := PG X e t
theorem IPG_eq {X : Cx} {e : Expr} {t : TG} : IPG X e t = PG X e t := by unfold IPG; rfl
@[irreducible] def IPGs (X : Cx) (e : List Expr) (t : TGs) : Prop := PGs X e t
theorem IPGs_eq {X : Cx} {e : List Expr} {t : TGs} : IPGs X e t = PGs X e t := by unfold IPGs; rfl
@[irreducible] def IPI (X : Cx) (tg e : Expr) (t : TI) : Prop := PI X tg e t
theorem IPI_eq {X : Cx} {tg e : Expr} {t : TI} : IPI X tg e t = PI X tg e t := by unfold IPI; rfl
@[irreducible] def IPO (X : Cx) (e : Option Expr) (t : TO) : Prop := PO X e t
theorem IPO_eq {X : Cx} {e : Option Expr} {t : TO} : IPO X e t = PO X e t := by unfold IPO; rfl
@[irreducible] def IPTs (X : Cx) (e : List Expr) (t : TT) : Prop := PTs X e t
theorem IPTs_eq {X : Cx} {e : List Expr} {t : TT} : IPTs X e t = PTs X e t := by unfold IPTs; rfl
theorem IPSs.get {X : Cx} {e : List Stmt} {t : TS} (h : IPSs X e t) : PSs X e t := by rw [← IPSs_eq]; exact h
theorem IPW.pt {X : Cx} {e : Expr} {t : TT} (h : IPW X e t) : IPT X e t := by rw [IPT_eq]; rw [IPW_eq] at h; exact h.pt
theorem i_pe_var {X : Cx} {i : Nat} {x : Str} {pos : Pos} (hN : X.N[i]? = some x) (hv : Vis X.env.scope x) (hd : (x == ("__debug__" : Str)) = false := by decide) (hcd : (x == ("__classdict__" : Str)) = false := by decide) : IPE X (.Name x pos) (tVar i) := by
  simp only [IPE_eq, IPT_eq, IPW_eq, IPA_eq, IPK_eq, IPS_eq, IPSs_eq, IPG_eq, IPGs_eq, IPI_eq, IPO_eq, IPTs_eq] at *
  exact pe_var (hN := hN) (hv := hv) (hd := hd) (hcd := hcd)
theorem i_pe_int {X : Cx} {i j pos} : IPE X (.Constant (.int i) j pos) (tC (.int i)) := by
  simp only [IPE_eq, IPT_eq, IPW_eq, IPA_eq, IPK_eq, IPS_eq, IPSs_eq, IPG_eq, IPGs_eq, IPI_eq, IPO_eq, IPTs_eq] at *
  exact pe_int 
theorem i_pe_bl {X : Cx} {b j pos} : IPE X (.Constant (.bool b) j pos) (tC (.bl b)) := by
  simp only [IPE_eq, IPT_eq, IPW_eq, IPA_eq, IPK_eq, IPS_eq, IPSs_eq, IPG_eq, IPGs_eq, IPI_eq, IPO_eq, IPTs_eq] at *
  exact pe_bl 
theorem i_pe_non {X : Cx} {j pos} : IPE X (.Constant .none j pos) (tC .non) := by
  simp only [IPE_eq, IPT_eq, IPW_eq, IPA_eq, IPK_eq, IPS_eq, IPSs_eq, IPG_eq, IPGs_eq, IPI_eq, IPO_eq, IPTs_eq] at *
  exact pe_non 
theorem i_pe_str {X : Cx} {x j pos} : IPE X (.Constant (.str x) j pos) (tC (.str x)) := by
  simp only [IPE_eq, IPT_eq, IPW_eq, IPA_eq, IPK_eq, IPS_eq, IPSs_eq, IPG_eq, IPGs_eq, IPI_eq, IPO_eq, IPTs_eq] at *
  exact pe_str 
theorem i_pe_un {X : Cx} {op : UnaryOp} {r : V → Hp → VK → Prop} (ho : UnR X (unaryOp op) r) (ha : IPE X a ta) : IPE X (.UnaryOp op a pos) (tUn r ta) := by
  simp only [IPE_eq, IPT_eq, IPW_eq, IPA_eq, IPK_eq, IPS_eq, IPSs_eq, IPG_eq, IPGs_eq, IPI_eq, IPO_eq, IPTs_eq] at *
  exact pe_un (ho := ho) (ha := ha)
theorem i_pe_not {X : Cx} (ha : IPE X a ta) : IPE X (.UnaryOp .Not a pos) (tNotV ta) := by
  simp only [IPE_eq, IPT_eq, IPW_eq, IPA_eq, IPK_eq, IPS_eq, IPSs_eq, IPG_eq, IPGs_eq, IPI_eq, IPO_eq, IPTs_eq] at *
  exact pe_not (ha := ha)
theorem i_pe_op {X : Cx} {op : Operator} {r : R2} (ho : OpR X (binaryOp op) r) (ha : IPE X a ta) (hb : IPE X b tb) : IPE X (.BinOp a op b pos) (tOp r ta tb) := by
  simp only [IPE_eq, IPT_eq, IPW_eq, IPA_eq, IPK_eq, IPS_eq, IPSs_eq, IPG_eq, IPGs_eq, IPI_eq, IPO_eq, IPTs_eq] at *
  exact pe_op (ho := ho) (ha := ha) (hb := hb)
theorem i_pe_cmpR {X : Cx} {op : CmpOp} {r : R2} (ho : OpR X (compareOp op) r) (ha : IPE X a ta) (hb : IPE X b tb) (hm : behindInMarks op b = false) : IPE X (.Compare a [op] [b] pos) (tOp r ta tb) := by
  simp only [IPE_eq, IPT_eq, IPW_eq, IPA_eq, IPK_eq, IPS_eq, IPSs_eq, IPG_eq, IPGs_eq, IPI_eq, IPO_eq, IPTs_eq] at *
  exact pe_cmpR (ho := ho) (ha := ha) (hb := hb) (hm := hm)
theorem i_pe_and {X : Cx} {rest : List Expr} (ha : IPE X a ta) (hb : IPE X (.BoolOp .And (b :: rest) pos) tb) : IPE X (.BoolOp .And (a :: b :: rest) pos) (tAndV ta tb) := by
  simp only [IPE_eq, IPT_eq, IPW_eq, IPA_eq, IPK_eq, IPS_eq, IPSs_eq, IPG_eq, IPGs_eq, IPI_eq, IPO_eq, IPTs_eq] at *
  exact pe_and (ha := ha) (hb := hb)
theorem i_pe_or {X : Cx} {rest : List Expr} (ha : IPE X a ta) (hb : IPE X (.BoolOp .Or (b :: rest) pos) tb) : IPE X (.BoolOp .Or (a :: b :: rest) pos) (tOrV ta tb) := by
  simp only [IPE_eq, IPT_eq, IPW_eq, IPA_eq, IPK_eq, IPS_eq, IPSs_eq, IPG_eq, IPGs_eq, IPI_eq, IPO_eq, IPTs_eq] at *
  exact pe_or (ha := ha) (hb := hb)
theorem i_pe_one {X : Cx} {op} {t : TE} (h : IPE X a t) : IPE X (.BoolOp op [a] pos) t := by
  simp only [IPE_eq, IPT_eq, IPW_eq, IPA_eq, IPK_eq, IPS_eq, IPSs_eq, IPG_eq, IPGs_eq, IPI_eq, IPO_eq, IPTs_eq] at *
  exact pe_one (h := h)
theorem i_pe_ifExp {X : Cx} {c : Expr} (hc : IPT X c tA) (ha : IPE X a ta) (hb : IPE X b tb) : IPE X (.IfExp c a b pos) (tIf tA ta tb) := by
  simp only [IPE_eq, IPT_eq, IPW_eq, IPA_eq, IPK_eq, IPS_eq, IPSs_eq, IPG_eq, IPGs_eq, IPI_eq, IPO_eq, IPTs_eq] at *
  exact pe_ifExp (hc := hc) (ha := ha) (hb := hb)
theorem i_pe_lst {X : Cx} (h : IPA X es t) : IPE X (.List es pos) (tLst t) := by
  simp only [IPE_eq, IPT_eq, IPW_eq, IPA_eq, IPK_eq, IPS_eq, IPSs_eq, IPG_eq, IPGs_eq, IPI_eq, IPO_eq, IPTs_eq] at *
  exact pe_lst (h := h)
theorem i_pe_tup {X : Cx} {x1} (h : IPA X es t) : IPE X (.Tuple es x1 pos) (tTup t) := by
  simp only [IPE_eq, IPT_eq, IPW_eq, IPA_eq, IPK_eq, IPS_eq, IPSs_eq, IPG_eq, IPGs_eq, IPI_eq, IPO_eq, IPTs_eq] at *
  exact pe_tup (h := h)
theorem i_pe_slice {X : Cx} {lo : Option Expr} {hi : Option Expr} {th : TO} {tl : TO} {r : V → Option Int → Option Int → Hp → VK → Prop} (hr : SlR X r) (he : IPE X e te) (hl : IPO X lo tl) (hu : IPO X hi th) : IPE X (.Subscript e (.Slice lo hi none p2) pos) (tSl r te tl th) := by
  simp only [IPE_eq, IPT_eq, IPW_eq, IPA_eq, IPK_eq, IPS_eq, IPSs_eq, IPG_eq, IPGs_eq, IPI_eq, IPO_eq, IPTs_eq] at *
  exact pe_slice (hr := hr) (he := he) (hl := hl) (hu := hu)
theorem i_po_none {X : Cx} : IPO X none tNoPart := by
  simp only [IPE_eq, IPT_eq, IPW_eq, IPA_eq, IPK_eq, IPS_eq, IPSs_eq, IPG_eq, IPGs_eq, IPI_eq, IPO_eq, IPTs_eq] at *
  exact po_none 
theorem i_po_some {X : Cx} (h : IPE X e te) : IPO X (some e) (tPart te) := by
  simp only [IPE_eq, IPT_eq, IPW_eq, IPA_eq, IPK_eq, IPS_eq, IPSs_eq, IPG_eq, IPGs_eq, IPI_eq, IPO_eq, IPTs_eq] at *
  exact po_some (h := h)
theorem i_pe_ix {X : Cx} {r : R2} (hr : IxR X r) (ha : IPE X a ta) (hb : IPE X b tb) (hs : PlainIx b) : IPE X (.Subscript a b pos) (tOp r ta tb) := by
  simp only [IPE_eq, IPT_eq, IPW_eq, IPA_eq, IPK_eq, IPS_eq, IPSs_eq, IPG_eq, IPGs_eq, IPI_eq, IPO_eq, IPTs_eq] at *
  exact pe_ix (hr := hr) (ha := ha) (hb := hb) (hs := hs)
theorem i_pe_callB {X : Cx} {id : String} (hc : CallR X (.builtin id) r) (hg : Gl X x) (hm : X.mg x = none) (hv : bootBuiltins x = some (.builtin id)) (ha : IPA X (e :: es) t) (hn : x ≠ "__name__" := by decide) (hdb : (x == ("__debug__" : Str)) = false := by decide)
    (he : starEach (e :: es) X.env = (false, eval e X.env) :: starEach es X.env := by rfl) (hpl : (backTo pos (starEach es X.env)).any (·.1) = false := by rfl) : IPE X (.Call (.Name x p) (e :: es) [] pos) (tCB r t) := by
  simp only [IPE_eq, IPT_eq, IPW_eq, IPA_eq, IPK_eq, IPS_eq, IPSs_eq, IPG_eq, IPGs_eq, IPI_eq, IPO_eq, IPTs_eq] at *
  exact pe_callB (hc := hc) (hg := hg) (hm := hm) (hv := hv) (ha := ha) (hn := hn) (hdb := hdb) (he := he) (hpl := hpl)
theorem i_pe_callTy {X : Cx} {T : String} (hc : CallR X (.type T) r) (hg : Gl X x) (hm : X.mg x = none) (hv : bootBuiltins x = some (.type T)) (ha : IPA X (e :: es) t) (hn : x ≠ "__name__" := by decide) (hdb : (x == ("__debug__" : Str)) = false := by decide)
    (he : starEach (e :: es) X.env = (false, eval e X.env) :: starEach es X.env := by rfl) (hpl : (backTo pos (starEach es X.env)).any (·.1) = false := by rfl) : IPE X (.Call (.Name x p) (e :: es) [] pos) (tCB r t) := by
  simp only [IPE_eq, IPT_eq, IPW_eq, IPA_eq, IPK_eq, IPS_eq, IPSs_eq, IPG_eq, IPGs_eq, IPI_eq, IPO_eq, IPTs_eq] at *
  exact pe_callTy (hc := hc) (hg := hg) (hm := hm) (hv := hv) (ha := ha) (hn := hn) (hdb := hdb) (he := he) (hpl := hpl)
theorem i_pe_callTy0 {X : Cx} {T : String} (hc : CallR X (.type T) r) (hg : Gl X x) (hm : X.mg x = none) (hv : bootBuiltins x = some (.type T)) (hn : x ≠ "__name__" := by decide) (hdb : (x == ("__debug__" : Str)) = false := by decide) :
    IPE X (.Call (.Name x p) [] [] pos) (tCB r tNil) := by
  simp only [IPE_eq, IPT_eq, IPW_eq, IPA_eq, IPK_eq, IPS_eq, IPSs_eq, IPG_eq, IPGs_eq, IPI_eq, IPO_eq, IPTs_eq] at *
  exact pe_callTy0 (hc := hc) (hg := hg) (hm := hm) (hv := hv) (hn := hn) (hdb := hdb)
theorem i_pe_def {X : Cx} {st : Stmt} {sp : Sp} {ps : List Str} (D : Dn X.prog X.w X.K X.mg X.base k x st ps sp) (hb : BindsAll x st ps) (hr : Room k X.A) (ha : IPA X (e :: es) t) (hg : Gl X x := by rfl) (hs : starEach (e :: es) X.env = (false, eval e X.env) :: starEach es X.env := by rfl) (hpl : (backTo pos (starEach es X.env)).any (·.1) = false := by rfl)
    (hdb : (x == ("__debug__" : Str)) = false := by decide) : IPE X (.Call (.Name x p) (e :: es) [] pos) (tCall sp [] E0 t) := by
  simp only [IPE_eq, IPT_eq, IPW_eq, IPA_eq, IPK_eq, IPS_eq, IPSs_eq, IPG_eq, IPGs_eq, IPI_eq, IPO_eq, IPTs_eq] at *
  exact pe_def (D := D) (hb := hb) (hr := hr) (ha := ha) (hg := hg) (hs := hs) (hpl := hpl) (hdb := hdb)
theorem i_pe_def0 {X : Cx} {st : Stmt} {sp : Sp} {ps : List Str} (D : Dn X.prog X.w X.K X.mg X.base k x st ps sp) (hb : BindsAll x st ps) (hr : Room k X.A) (hg : Gl X x := by rfl) (hdb : (x == ("__debug__" : Str)) = false := by decide) : IPE X (.Call (.Name x p) [] [] pos) (tCall sp [] E0 tNil) := by
  simp only [IPE_eq, IPT_eq, IPW_eq, IPA_eq, IPK_eq, IPS_eq, IPSs_eq, IPG_eq, IPGs_eq, IPI_eq, IPO_eq, IPTs_eq] at *
  exact pe_def0 (D := D) (hb := hb) (hr := hr) (hg := hg) (hdb := hdb)
theorem i_pe_defK {X : Cx} {st : Stmt} {sp : Sp} {kws : List Keyword} {tk : TA} {ps : List Str} {ks : List Str} {pick : List (Bool × Nat)} {na : Nat} {nk : Nat} (D : Dn X.prog X.w X.K X.mg X.base k x st ps sp) (hb : KBindsAll x st ps ks na nk pick) (hr : Room k X.A) (ha : IPA X (e :: es) t) (hkw : IPK X kws tk) (hg : Gl X x := by rfl) (hall : (backToKw pos (keywordEach kws X.env)).all (·.1.isSome) = true := by rfl) (hks : (backToKw pos (keywordEach kws X.env)).filterMap (·.1) = ks := by rfl)
    (hdb : (x == ("__debug__" : Str)) = false := by decide) (he : starEach (e :: es) X.env = (false, eval e X.env) :: starEach es X.env := by rfl)
    (hpl : ((backTo pos (starEach (e :: es) X.env)).any (·.1) || (backToKw pos (keywordEach kws X.env)).any (·.1.isNone)) = false := by rfl) : IPE X (.Call (.Name x p) (e :: es) kws pos) (tCallK sp (gaP na nk pick) E0 t tk) := by
  simp only [IPE_eq, IPT_eq, IPW_eq, IPA_eq, IPK_eq, IPS_eq, IPSs_eq, IPG_eq, IPGs_eq, IPI_eq, IPO_eq, IPTs_eq] at *
  exact pe_defK (D := D) (hb := hb) (hr := hr) (ha := ha) (hkw := hkw) (hg := hg) (hall := hall) (hks := hks) (hdb := hdb) (he := he) (hpl := hpl)
theorem i_pe_defK0 {X : Cx} {st : Stmt} {sp : Sp} {kws : List Keyword} {tk : TA} {ps : List Str} {ks : List Str} {pick : List (Bool × Nat)} {na : Nat} {nk : Nat} (D : Dn X.prog X.w X.K X.mg X.base k x st ps sp) (hb : KBindsAll x st ps ks na nk pick) (hr : Room k X.A) (hkw : IPK X kws tk) (hg : Gl X x := by rfl) (hall : (backToKw pos (keywordEach kws X.env)).all (·.1.isSome) = true := by rfl) (hks : (backToKw pos (keywordEach kws X.env)).filterMap (·.1) = ks := by rfl)
    (hdb : (x == ("__debug__" : Str)) = false := by decide) (hpl : ((backTo pos (starEach [] X.env)).any (·.1) || (backToKw pos (keywordEach kws X.env)).any (·.1.isNone)) = false := by rfl) : IPE X (.Call (.Name x p) [] kws pos) (tCallK sp (gaP na nk pick) E0 tNil tk) := by
  simp only [IPE_eq, IPT_eq, IPW_eq, IPA_eq, IPK_eq, IPS_eq, IPSs_eq, IPG_eq, IPGs_eq, IPI_eq, IPO_eq, IPTs_eq] at *
  exact pe_defK0 (D := D) (hb := hb) (hr := hr) (hkw := hkw) (hg := hg) (hall := hall) (hks := hks) (hdb := hdb) (hpl := hpl)
theorem i_pe_bm {X : Cx} {id : String} {T : String} {name : Str} {to : TE} (pa : PlainAttrs T) (slot : Slot T name id) (hty : typeOf (.builtin id) = pure (.type "method_descriptor")) (hm : MtR X id r) (ho : IPE X o to) (ha : IPA X (e :: es) t)
    (hbase : attributeBase o name X.env (eval o X.env) = eval o X.env := by rfl)
    (hfew : ((backTo cpos (starEach (e :: es) X.env)).all (fun x => !x.1) && (backToKw cpos (keywordEach [] X.env)).all (fun x => x.1.isSome)
      && decide ((e :: es).length + ([] : List Keyword).length + (if ([] : List Keyword).isEmpty then 0 else 1) < 30)) = true := by rfl)
    (hline : (apos.endLine == cpos.line) = true := by rfl) (hs : starEach (e :: es) X.env = (false, eval e X.env) :: starEach es X.env := by rfl) (hplain : (backTo cpos (starEach es X.env)).any (·.1) = false := by rfl) :
    IPE X (.Call (.Attribute o name apos) (e :: es) [] cpos) (tBM X.K T r to t) := by
  simp only [IPE_eq, IPT_eq, IPW_eq, IPA_eq, IPK_eq, IPS_eq, IPSs_eq, IPG_eq, IPGs_eq, IPI_eq, IPO_eq, IPTs_eq] at *
  exact pe_bm (pa := pa) (slot := slot) (hty := hty) (hm := hm) (ho := ho) (ha := ha) (hbase := hbase) (hfew := hfew) (hline := hline) (hs := hs) (hplain := hplain)
theorem i_pe_bm0 {X : Cx} {id : String} {T : String} {name : Str} {to : TE} (pa : PlainAttrs T) (slot : Slot T name id) (hty : typeOf (.builtin id) = pure (.type "method_descriptor")) (hm : MtR X id r) (ho : IPE X o to)
    (hbase : attributeBase o name X.env (eval o X.env) = eval o X.env := by rfl) (hline : (apos.endLine == cpos.line) = true := by rfl) : IPE X (.Call (.Attribute o name apos) [] [] cpos) (tBM0 X.K T r to) := by
  simp only [IPE_eq, IPT_eq, IPW_eq, IPA_eq, IPK_eq, IPS_eq, IPSs_eq, IPG_eq, IPGs_eq, IPI_eq, IPO_eq, IPTs_eq] at *
  exact pe_bm0 (pa := pa) (slot := slot) (hty := hty) (hm := hm) (ho := ho) (hbase := hbase) (hline := hline)
theorem i_pe_bltn {X : Cx} {x : Str} {v : V} {u : Value} {pos : Pos} (hg : Gl X x) (hm : X.mg x = none) (hv : bootBuiltins x = some u) (r : RelV v u) (hn : x ≠ "__name__" := by decide) (hd : (x == ("__debug__" : Str)) = false := by decide) : IPE X (.Name x pos) (tC v) := by
  simp only [IPE_eq, IPT_eq, IPW_eq, IPA_eq, IPK_eq, IPS_eq, IPSs_eq, IPG_eq, IPGs_eq, IPI_eq, IPO_eq, IPTs_eq] at *
  exact pe_bltn (hg := hg) (hm := hm) (hv := hv) (r := r) (hn := hn) (hd := hd)
theorem i_pe_comp {X : Cx} {elt tg iter : Expr} {ifs : List Expr} {scope : Scope} {pos : Pos} {Nc : List Str} {cap : List (Option Nat)} {wi : TI} {g : TG} {tt : TT} {te : TE}
    (hc : X.calm = true) (hi : IPI X tg iter wi) (ok : capOk X Nc cap scope = true) (hg : ∀ cs C s H fp, IPG (cxComp X Nc scope cs C s H fp) tg g) (ht : ∀ cs C s H fp, IPTs (cxComp X Nc scope cs C s H fp) ifs tt)
    (he : ∀ cs C s H fp, IPE (cxComp X Nc scope cs C s H fp) elt te) (hk : scope.kind = .function := by rfl) (hs : ∀ x, foldedSetIterable iter X.env x = pure x := by intro _; rfl) :
    IPE X (.ListComp elt [⟨tg, iter, ifs, 0⟩] scope pos) (tComp wi cap g tt (tEmit te)) := by
  simp only [IPE_eq, IPT_eq, IPW_eq, IPA_eq, IPK_eq, IPS_eq, IPSs_eq, IPG_eq, IPGs_eq, IPI_eq, IPO_eq, IPTs_eq] at *
  exact pe_comp (hc := hc) (hi := hi) (ok := ok) (hg := hg) (ht := ht) (he := he) (hk := hk) (hs := hs)
theorem i_pe_comp2 {X : Cx} {elt tg iter tg2 iter2 : Expr} {scope : Scope} {pos : Pos} {Nc : List Str} {cap : List (Option Nat)} {wi wi2 : TI} {g g2 : TG} {te : TE}
    (hc : X.calm = true) (hi : IPI X tg iter wi) (ok : capOk X Nc cap scope = true) (hg : ∀ cs C s H fp, IPG (cxComp X Nc scope cs C s H fp) tg g)
    (hi2 : ∀ cs C s H fp, IPI (cxComp X Nc scope cs C s H fp) tg2 iter2 wi2) (hg2 : ∀ cs C s H fp, IPG (cxComp X Nc scope cs C s H fp) tg2 g2)
    (he : ∀ cs C s H fp, IPE (cxComp X Nc scope cs C s H fp) elt te) (hk : scope.kind = .function := by rfl) (hs : ∀ x, foldedSetIterable iter X.env x = pure x := by intro _; rfl)
    (hs2 : ∀ env x, foldedSetIterable iter2 env x = pure x := by intro _ _; rfl) :
    IPE X (.ListComp elt [⟨tg, iter, [], 0⟩, ⟨tg2, iter2, [], 0⟩] scope pos) (tComp wi cap g tYes (tLoop wi2 g2 tYes (tEmit te))) := by
  simp only [IPE_eq, IPT_eq, IPW_eq, IPA_eq, IPK_eq, IPS_eq, IPSs_eq, IPG_eq, IPGs_eq, IPI_eq, IPO_eq, IPTs_eq] at *
  exact pe_comp2 (hc := hc) (hi := hi) (ok := ok) (hg := hg) (hi2 := hi2) (hg2 := hg2) (he := he) (hk := hk) (hs := hs) (hs2 := hs2)
theorem i_ps_setComp {X : Cx} {i : Nat} {x : Str} {elt tg iter : Expr} {ifs : List Expr} {scope : Scope} {pos pos' spos : Pos} {Nc : List Str} {cap : List (Option Nat)} {wi : TI} {g : TG} {tt : TT} {te : TE}
    (hN : X.N.Nodup) (hx : X.N[i]? = some x) (hl : Loc X.env.scope x)
    (hc : X.calm = true) (hi : IPI X tg iter wi) (ok : capOk X Nc cap scope = true) (hg : ∀ cs C s H fp, IPG (cxComp X Nc scope cs C s H fp) tg g) (ht : ∀ cs C s H fp, IPTs (cxComp X Nc scope cs C s H fp) ifs tt)
    (he : ∀ cs C s H fp, IPE (cxComp X Nc scope cs C s H fp) elt te) (hsw : swapsWith (.ListComp elt [⟨tg, iter, ifs, 0⟩] scope pos) (some (.Name x pos')) spos.line X.env = pure true := by rfl)
    (hk : scope.kind = .function := by rfl) (hs : ∀ x, foldedSetIterable iter X.env x = pure x := by intro _; rfl)
    (hf : X.fn x = true ∨ X.env.scope.names.lookup x = some .local := by first | exact .inl rfl | exact .inr rfl | assumption) :
    IPS X (.Assign [.Name x pos'] (.ListComp elt [⟨tg, iter, ifs, 0⟩] scope pos) spos) (tAsg (tComp wi cap g tt (tEmit te)) (gName i)) := by
  simp only [IPE_eq, IPT_eq, IPW_eq, IPA_eq, IPK_eq, IPS_eq, IPSs_eq, IPG_eq, IPGs_eq, IPI_eq, IPO_eq, IPTs_eq] at *
  exact ps_setComp (hN := hN) (hx := hx) (hl := hl) (hc := hc) (hi := hi) (ok := ok) (hg := hg) (ht := ht) (he := he) (hsw := hsw) (hk := hk) (hs := hs) (hf := hf)
theorem i_pt_cmpR {X : Cx} {op : CmpOp} {r : R2} (ho : OpR X (compareOp op) r) (ha : IPE X a ta) (hb : IPE X b tb) (hm : behindInMarks op b = false) : IPT X (.Compare a [op] [b] pos) (tTest (tOp r ta tb)) := by
  simp only [IPE_eq, IPT_eq, IPW_eq, IPA_eq, IPK_eq, IPS_eq, IPSs_eq, IPG_eq, IPGs_eq, IPI_eq, IPO_eq, IPTs_eq] at *
  exact pt_cmpR (ho := ho) (ha := ha) (hb := hb) (hm := hm)
theorem i_pt_not {X : Cx} (ha : IPT X a tA) : IPT X (.UnaryOp .Not a pos) (tNot tA) := by
  simp only [IPE_eq, IPT_eq, IPW_eq, IPA_eq, IPK_eq, IPS_eq, IPSs_eq, IPG_eq, IPGs_eq, IPI_eq, IPO_eq, IPTs_eq] at *
  exact pt_not (ha := ha)
theorem i_pw_and {X : Cx} {rest : List Expr} (ha : IPT X a tA) (hb : IPW X (.BoolOp .And (b :: rest) pos) tB') : IPW X (.BoolOp .And (a :: b :: rest) pos) (tAnd tA tB') := by
  simp only [IPE_eq, IPT_eq, IPW_eq, IPA_eq, IPK_eq, IPS_eq, IPSs_eq, IPG_eq, IPGs_eq, IPI_eq, IPO_eq, IPTs_eq] at *
  exact pw_and (ha := ha) (hb := hb)
theorem i_pw_and1 {X : Cx} (ha : IPT X a tA) : IPW X (.BoolOp .And [a] pos) tA := by
  simp only [IPE_eq, IPT_eq, IPW_eq, IPA_eq, IPK_eq, IPS_eq, IPSs_eq, IPG_eq, IPGs_eq, IPI_eq, IPO_eq, IPTs_eq] at *
  exact pw_and1 (ha := ha)
theorem i_pw_or {X : Cx} {rest : List Expr} (ha : IPT X a tA) (hb : IPW X (.BoolOp .Or (b :: rest) pos) tB') : IPW X (.BoolOp .Or (a :: b :: rest) pos) (tOr tA tB') := by
  simp only [IPE_eq, IPT_eq, IPW_eq, IPA_eq, IPK_eq, IPS_eq, IPSs_eq, IPG_eq, IPGs_eq, IPI_eq, IPO_eq, IPTs_eq] at *
  exact pw_or (ha := ha) (hb := hb)
theorem i_pw_or1 {X : Cx} (ha : IPT X a tA) : IPW X (.BoolOp .Or [a] pos) tA := by
  simp only [IPE_eq, IPT_eq, IPW_eq, IPA_eq, IPK_eq, IPS_eq, IPSs_eq, IPG_eq, IPGs_eq, IPI_eq, IPO_eq, IPTs_eq] at *
  exact pw_or1 (ha := ha)
theorem i_pt_val {X : Cx} {e : Expr} {t : TE} (h : IPE X e t) (he : ∀ whole, isTrue e X.env whole = (do let v ← whole; standAt e.pos; holding [v] (truthy v)) := by intro _; rfl) : IPT X e (tB t) := by
  simp only [IPE_eq, IPT_eq, IPW_eq, IPA_eq, IPK_eq, IPS_eq, IPSs_eq, IPG_eq, IPGs_eq, IPI_eq, IPO_eq, IPTs_eq] at *
  exact pt_val (h := h) (he := he)
theorem i_pa_nil {X : Cx} : IPA X [] tNil := by
  simp only [IPE_eq, IPT_eq, IPW_eq, IPA_eq, IPK_eq, IPS_eq, IPSs_eq, IPG_eq, IPGs_eq, IPI_eq, IPO_eq, IPTs_eq] at *
  exact pa_nil 
theorem i_pa_cons {X : Cx} (ha : IPE X e te) (hr : IPA X es t) (hs : starEach (e :: es) X.env = (false, eval e X.env) :: starEach es X.env := by rfl) : IPA X (e :: es) (tCons te t) := by
  simp only [IPE_eq, IPT_eq, IPW_eq, IPA_eq, IPK_eq, IPS_eq, IPSs_eq, IPG_eq, IPGs_eq, IPI_eq, IPO_eq, IPTs_eq] at *
  exact pa_cons (ha := ha) (hr := hr) (hs := hs)
theorem i_pk_nil {X : Cx} : IPK X [] tNil := by
  simp only [IPE_eq, IPT_eq, IPW_eq, IPA_eq, IPK_eq, IPS_eq, IPSs_eq, IPG_eq, IPGs_eq, IPI_eq, IPO_eq, IPTs_eq] at *
  exact pk_nil 
theorem i_pk_cons {X : Cx} {kws : List Keyword} (ha : IPE X e te) (hr : IPK X kws t) : IPK X (⟨nm, e, kpos⟩ :: kws) (tCons te t) := by
  simp only [IPE_eq, IPT_eq, IPW_eq, IPA_eq, IPK_eq, IPS_eq, IPSs_eq, IPG_eq, IPGs_eq, IPI_eq, IPO_eq, IPTs_eq] at *
  exact pk_cons (ha := ha) (hr := hr)
theorem i_pi_range1 {X : Cx} {a : Expr} {ta : TA} {p pos : Pos} (hg : Gl X "range") (hm : X.mg "range" = none) (ha : IPA X [a] ta) (hs : starEach [a] X.env = [(false, eval a X.env)] := by rfl) : IPI X tg (.Call (.Name "range" p) [a] [] pos) (iRng1 ta) := by
  simp only [IPE_eq, IPT_eq, IPW_eq, IPA_eq, IPK_eq, IPS_eq, IPSs_eq, IPG_eq, IPGs_eq, IPI_eq, IPO_eq, IPTs_eq] at *
  exact pi_range1 (hg := hg) (hm := hm) (ha := ha) (hs := hs)
theorem i_pi_range2 {X : Cx} {a b : Expr} {ta : TA} {p pos : Pos} (hg : Gl X "range") (hm : X.mg "range" = none) (ha : IPA X [a, b] ta) (hs : starEach [a, b] X.env = [(false, eval a X.env), (false, eval b X.env)] := by rfl) (hs2 : starEach [b] X.env = [(false, eval b X.env)] := by rfl) :
    IPI X tg (.Call (.Name "range" p) [a, b] [] pos) (iRng2 ta) := by
  simp only [IPE_eq, IPT_eq, IPW_eq, IPA_eq, IPK_eq, IPS_eq, IPSs_eq, IPG_eq, IPGs_eq, IPI_eq, IPO_eq, IPTs_eq] at *
  exact pi_range2 (hg := hg) (hm := hm) (ha := ha) (hs := hs) (hs2 := hs2)
theorem i_pi_list {X : Cx} {l : Expr} {tl : TE} (hl : IPE X l tl) : IPI X tg l (iList X.K tl) := by
  simp only [IPE_eq, IPT_eq, IPW_eq, IPA_eq, IPK_eq, IPS_eq, IPSs_eq, IPG_eq, IPGs_eq, IPI_eq, IPO_eq, IPTs_eq] at *
  exact pi_list (hl := hl)
theorem i_pi_tup {X : Cx} {l : Expr} {tl : TE} (hl : IPE X l tl) : IPI X tg l (iTup X.K tl) := by
  simp only [IPE_eq, IPT_eq, IPW_eq, IPA_eq, IPK_eq, IPS_eq, IPSs_eq, IPG_eq, IPGs_eq, IPI_eq, IPO_eq, IPTs_eq] at *
  exact pi_tup (hl := hl)
theorem i_pi_zip {X : Cx} {elts : List Expr} {kk : Nat} {tp : Pos} {a b : Expr} {ta : TA} {p pos : Pos} (t1 t2 : Bool) (hg : Gl X "zip") (hm : X.mg "zip" = none) (ha : IPA X [a, b] ta) (hs : starEach [a, b] X.env = [(false, eval a X.env), (false, eval b X.env)] := by rfl) (hs2 : starEach [b] X.env = [(false, eval b X.env)] := by rfl) :
    IPI X (.Tuple elts kk tp) (.Call (.Name "zip" p) [a, b] [] pos) (iZip X.K t1 t2 ta) := by
  simp only [IPE_eq, IPT_eq, IPW_eq, IPA_eq, IPK_eq, IPS_eq, IPSs_eq, IPG_eq, IPGs_eq, IPI_eq, IPO_eq, IPTs_eq] at *
  exact pi_zip (t1 := t1) (t2 := t2) (hg := hg) (hm := hm) (ha := ha) (hs := hs) (hs2 := hs2)
theorem i_pg_name {X : Cx} {i : Nat} {x : Str} (hN : X.N.Nodup) (hi : X.N[i]? = some x) (hx : Loc X.env.scope x) (hf : X.fn x = true ∨ X.env.scope.names.lookup x = some .local := by first | exact .inl rfl | exact .inr rfl | assumption) : IPG X (.Name x pos) (gName i) := by
  simp only [IPE_eq, IPT_eq, IPW_eq, IPA_eq, IPK_eq, IPS_eq, IPSs_eq, IPG_eq, IPGs_eq, IPI_eq, IPO_eq, IPTs_eq] at *
  exact pg_name (hN := hN) (hi := hi) (hx := hx) (hf := hf)
theorem i_pgl {X : Cx} (i : Nat) (hN : Nc.Nodup) (hi : Nc[i]? = some x := by rfl) (hk : scope.names.lookup x = some .local := by rfl) : IPG (cxComp X Nc scope cs C s H fp) (.Name x pos) (gName i) := by
  simp only [IPE_eq, IPT_eq, IPW_eq, IPA_eq, IPK_eq, IPS_eq, IPSs_eq, IPG_eq, IPGs_eq, IPI_eq, IPO_eq, IPTs_eq] at *
  exact pgl (i := i) (hN := hN) (hi := hi) (hk := hk)
theorem i_pgc {X : Cx} (i : Nat) (hN : Nc.Nodup) (hi : Nc[i]? = some x := by rfl) (hk : scope.names.lookup x = some .cell := by rfl) : IPG (cxComp X Nc scope cs C s H fp) (.Name x pos) (gName i) := by
  simp only [IPE_eq, IPT_eq, IPW_eq, IPA_eq, IPK_eq, IPS_eq, IPSs_eq, IPG_eq, IPGs_eq, IPI_eq, IPO_eq, IPTs_eq] at *
  exact pgc (i := i) (hN := hN) (hi := hi) (hk := hk)
theorem i_pvl {X : Cx} (i : Nat) (hN : Nc[i]? = some x := by rfl) (hk : scope.names.lookup x = some .local := by rfl) (hd : (x == ("__debug__" : Str)) = false := by decide) (hcd : (x == ("__classdict__" : Str)) = false := by decide) : IPE (cxComp X Nc scope cs C s H fp) (.Name x pos) (tVar i) := by
  simp only [IPE_eq, IPT_eq, IPW_eq, IPA_eq, IPK_eq, IPS_eq, IPSs_eq, IPG_eq, IPGs_eq, IPI_eq, IPO_eq, IPTs_eq] at *
  exact pvl (i := i) (hN := hN) (hk := hk) (hd := hd) (hcd := hcd)
theorem i_pvc {X : Cx} (i : Nat) (hN : Nc[i]? = some x := by rfl) (hk : scope.names.lookup x = some .cell := by rfl) (hd : (x == ("__debug__" : Str)) = false := by decide) (hcd : (x == ("__classdict__" : Str)) = false := by decide) : IPE (cxComp X Nc scope cs C s H fp) (.Name x pos) (tVar i) := by
  simp only [IPE_eq, IPT_eq, IPW_eq, IPA_eq, IPK_eq, IPS_eq, IPSs_eq, IPG_eq, IPGs_eq, IPI_eq, IPO_eq, IPTs_eq] at *
  exact pvc (i := i) (hN := hN) (hk := hk) (hd := hd) (hcd := hcd)
theorem i_pvf {X : Cx} (i : Nat) (hN : Nc[i]? = some x := by rfl) (hk : scope.names.lookup x = some .free := by rfl) (hd : (x == ("__debug__" : Str)) = false := by decide) (hcd : (x == ("__classdict__" : Str)) = false := by decide) : IPE (cxComp X Nc scope cs C s H fp) (.Name x pos) (tVar i) := by
  simp only [IPE_eq, IPT_eq, IPW_eq, IPA_eq, IPK_eq, IPS_eq, IPSs_eq, IPG_eq, IPGs_eq, IPI_eq, IPO_eq, IPTs_eq] at *
  exact pvf (i := i) (hN := hN) (hk := hk) (hd := hd) (hcd := hcd)
theorem i_pv {X : Cx} (i : Nat) {x : Str} {pos : Pos} (hN : X.N[i]? = some x := by rfl) (hv : Vis X.env.scope x := by first | exact Or.inl rfl | exact Or.inr (Or.inl rfl) | exact Or.inr (Or.inr rfl)) (hd : (x == ("__debug__" : Str)) = false := by decide)
    (hcd : (x == ("__classdict__" : Str)) = false := by decide) : IPE X (.Name x pos) (tVar i) := by
  simp only [IPE_eq, IPT_eq, IPW_eq, IPA_eq, IPK_eq, IPS_eq, IPSs_eq, IPG_eq, IPGs_eq, IPI_eq, IPO_eq, IPTs_eq] at *
  exact pv (i := i) (hN := hN) (hv := hv) (hd := hd) (hcd := hcd)
theorem i_pg_tup {X : Cx} {es : List Expr} {k : Nat} {t : TGs} {n : Nat} (hc : X.calm = true) (h : IPGs X es t)
    (hn : (assignEach es X.env).length = n := by rfl) (hst : (assignEach es X.env).findIdx? (·.1) = none := by rfl) : IPG X (.Tuple es k pos) (gTup X.K n t) := by
  simp only [IPE_eq, IPT_eq, IPW_eq, IPA_eq, IPK_eq, IPS_eq, IPSs_eq, IPG_eq, IPGs_eq, IPI_eq, IPO_eq, IPTs_eq] at *
  exact pg_tup (hc := hc) (h := h) (hn := hn) (hst := hst)
theorem i_pgs_nil {X : Cx} : IPGs X [] gNil := by
  simp only [IPE_eq, IPT_eq, IPW_eq, IPA_eq, IPK_eq, IPS_eq, IPSs_eq, IPG_eq, IPGs_eq, IPI_eq, IPO_eq, IPTs_eq] at *
  exact pgs_nil 
theorem i_pgs_cons {X : Cx} {e : Expr} {es : List Expr} {t : TG} {u : TGs} (h1 : IPG X e t) (h2 : IPGs X es u)
    (hs : (assignEach (e :: es) X.env).map (·.2) = assign e X.env :: (assignEach es X.env).map (·.2) := by rfl) : IPGs X (e :: es) (gCons t u) := by
  simp only [IPE_eq, IPT_eq, IPW_eq, IPA_eq, IPK_eq, IPS_eq, IPSs_eq, IPG_eq, IPGs_eq, IPI_eq, IPO_eq, IPTs_eq] at *
  exact pgs_cons (h1 := h1) (h2 := h2) (hs := hs)
theorem i_pg_sub {X : Cx} {o i : Expr} {to ti : TE} {t : TSet} (ho : IPE X o to) (hi : IPE X i ti) (hs : PSet X t)
    (ha : ∀ v, assign (.Subscript o i pos) X.env v = (do
      let ov ← holding [v] (eval o X.env)
      let iv ← holding [v, ov] (eval i X.env)
      standAt pos
      holding [v, ov, iv] (setItem ov iv v)
      release [v, ov, iv] []) := by intro _; rfl) : IPG X (.Subscript o i pos) (gSub to ti t) := by
  simp only [IPE_eq, IPT_eq, IPW_eq, IPA_eq, IPK_eq, IPS_eq, IPSs_eq, IPG_eq, IPGs_eq, IPI_eq, IPO_eq, IPTs_eq] at *
  exact pg_sub (ho := ho) (hi := hi) (hs := hs) (ha := ha)
theorem i_pss_nil {X : Cx} : IPSs X [] tNext := by
  simp only [IPE_eq, IPT_eq, IPW_eq, IPA_eq, IPK_eq, IPS_eq, IPSs_eq, IPG_eq, IPGs_eq, IPI_eq, IPO_eq, IPTs_eq] at *
  exact pss_nil 
theorem i_pss_cons {X : Cx} {rest : List Stmt} {st : Stmt} (h1 : IPS X st t) (h2 : IPSs X rest u) : IPSs X (st :: rest) (tSeq t u) := by
  simp only [IPE_eq, IPT_eq, IPW_eq, IPA_eq, IPK_eq, IPS_eq, IPSs_eq, IPG_eq, IPGs_eq, IPI_eq, IPO_eq, IPTs_eq] at *
  exact pss_cons (h1 := h1) (h2 := h2)
theorem i_pss_one {X : Cx} {st : Stmt} (h1 : IPS X st t) : IPSs X [st] t := by
  simp only [IPE_eq, IPT_eq, IPW_eq, IPA_eq, IPK_eq, IPS_eq, IPSs_eq, IPG_eq, IPGs_eq, IPI_eq, IPO_eq, IPTs_eq] at *
  exact pss_one (h1 := h1)
theorem i_ps_set {X : Cx} {i : Nat} {x : Str} {e : Expr} {te : TE} {pos' : Pos} (hN : X.N.Nodup) (hi : X.N[i]? = some x) (hx : Loc X.env.scope x) (he : IPE X e te) (hs : swapsWith e (some (.Name x pos')) pos.line X.env = pure false := by rfl) (hf : X.fn x = true ∨ X.env.scope.names.lookup x = some .local := by first | exact .inl rfl | exact .inr rfl | assumption) :
    IPS X (.Assign [.Name x pos'] e pos) (tAsg te (gName i)) := by
  simp only [IPE_eq, IPT_eq, IPW_eq, IPA_eq, IPK_eq, IPS_eq, IPSs_eq, IPG_eq, IPGs_eq, IPI_eq, IPO_eq, IPTs_eq] at *
  exact ps_set (hN := hN) (hi := hi) (hx := hx) (he := he) (hs := hs) (hf := hf)
theorem i_ps_asg {X : Cx} {tg e : Expr} {te : TE} {g : TG} (he : IPE X e te) (hg : IPG X tg g) (hs : swapsWithSole [tg] e pos.line X.env = pure false := by rfl) (hw : swappedStores [tg] e X.env = pure none := by rfl)
    (h1 : (assignEach [tg] X.env).map (·.2) = [assign tg X.env] := by rfl) : IPS X (.Assign [tg] e pos) (tAsg te g) := by
  simp only [IPE_eq, IPT_eq, IPW_eq, IPA_eq, IPK_eq, IPS_eq, IPSs_eq, IPG_eq, IPGs_eq, IPI_eq, IPO_eq, IPTs_eq] at *
  exact ps_asg (he := he) (hg := hg) (hs := hs) (hw := hw) (h1 := h1)
theorem i_ps_if {X : Cx} {c : Expr} {a b : List Stmt} {tc : TT} (hc : IPT X c tc) (ha : IPSs X a t) (hb : IPSs X b u) : IPS X (.If c a b pos) (tIfS tc t u) := by
  simp only [IPE_eq, IPT_eq, IPW_eq, IPA_eq, IPK_eq, IPS_eq, IPSs_eq, IPG_eq, IPGs_eq, IPI_eq, IPO_eq, IPTs_eq] at *
  exact ps_if (hc := hc) (ha := ha) (hb := hb)
theorem i_ps_ret {X : Cx} (he : IPE X e te) : IPS X (.Return (some e) pos) (tRet te) := by
  simp only [IPE_eq, IPT_eq, IPW_eq, IPA_eq, IPK_eq, IPS_eq, IPSs_eq, IPG_eq, IPGs_eq, IPI_eq, IPO_eq, IPTs_eq] at *
  exact ps_ret (he := he)
theorem i_ps_retN {X : Cx} : IPS X (.Return none pos) tRetN := by
  simp only [IPE_eq, IPT_eq, IPW_eq, IPA_eq, IPK_eq, IPS_eq, IPSs_eq, IPG_eq, IPGs_eq, IPI_eq, IPO_eq, IPTs_eq] at *
  exact ps_retN 
theorem i_ps_expr {X : Cx} (he : IPE X e te) (hs : swapsWith e none pos.line X.env = pure false := by rfl) : IPS X (.Expr e pos) (tDrop te) := by
  simp only [IPE_eq, IPT_eq, IPW_eq, IPA_eq, IPK_eq, IPS_eq, IPSs_eq, IPG_eq, IPGs_eq, IPI_eq, IPO_eq, IPTs_eq] at *
  exact ps_expr (he := he) (hs := hs)
theorem i_ps_for {X : Cx} {iter : Expr} {body : List Stmt} {wi : TI} {g : TG} {tb : TS} {pos : Pos} (hp : PassesOwn (model X.prog X.w) X.A X.env X.xe) (hc : X.calm = true) (hi : IPI X tg iter wi) (hg : IPG X tg g) (hb : IPSs X body tb)
    (hs : ∀ x, foldedSetIterable iter X.env x = pure x := by intro _; rfl) : IPS X (.For tg iter body [] pos) (tFor wi g tb) := by
  simp only [IPE_eq, IPT_eq, IPW_eq, IPA_eq, IPK_eq, IPS_eq, IPSs_eq, IPG_eq, IPGs_eq, IPI_eq, IPO_eq, IPTs_eq] at *
  exact ps_for (hp := hp) (hc := hc) (hi := hi) (hg := hg) (hb := hb) (hs := hs)
theorem i_ps_pass {X : Cx} : IPS X (.Pass pos) tNext := by
  simp only [IPE_eq, IPT_eq, IPW_eq, IPA_eq, IPK_eq, IPS_eq, IPSs_eq, IPG_eq, IPGs_eq, IPI_eq, IPO_eq, IPTs_eq] at *
  exact ps_pass 
theorem i_pts_nil {Y : Cx} : IPTs Y [] tYes := by
  simp only [IPE_eq, IPT_eq, IPW_eq, IPA_eq, IPK_eq, IPS_eq, IPSs_eq, IPG_eq, IPGs_eq, IPI_eq, IPO_eq, IPTs_eq] at *
  exact pts_nil 
theorem i_pts_one {Y : Cx} {c : Expr} {t : TT} (h : IPT Y c t) : IPTs Y [c] t := by
  simp only [IPE_eq, IPT_eq, IPW_eq, IPA_eq, IPK_eq, IPS_eq, IPSs_eq, IPG_eq, IPGs_eq, IPI_eq, IPO_eq, IPTs_eq] at *
  exact pts_one (h := h)
theorem i_pgl2 {X : Cx} {Nc : List Str} {scope : Scope} {cs : List (Str × Addr)} {C : Addr} {s : Shared} {H : Hp} {fp : List Addr} {x y : Str} {px py pt : Pos} {kk : Nat} (i j : Nat) (hc : X.calm = true) (hN : Nc.Nodup) (hi : Nc[i]? = some x := by rfl) (hj : Nc[j]? = some y := by rfl) (hx : scope.names.lookup x = some .local := by rfl) (hy : scope.names.lookup y = some .local := by rfl) :
    IPG (cxComp X Nc scope cs C s H fp) (.Tuple [.Name x px, .Name y py] kk pt) (gTup X.K 2 (gCons (gName i) (gCons (gName j) gNil))) := by
  rw [IPG_eq]
  exact pg_tup (X := cxComp X Nc scope cs C s H fp) (n := 2) hc (pgs_cons (pgl i hN hi hx) (pgs_cons (pgl j hN hj hy) pgs_nil)) rfl rfl
end L2

set_option Elab.async false
set_option linter.all false
set_option maxRecDepth 100000
set_option maxHeartbeats 4000000
namespace L2
open PySem PySem.Spec PyProof.Rows
open AutoSeq1 (wpAny_loadPart')
section
variable {prog : Program} {w : World} {A : Around} {E : Value → Shared → Prop} {s : Shared}
/-! ### enumerate of a list or a tuple -/
theorem enumS_item {t : Bool} {e it l : Addr} {i : Nat} {items : Array Value} {x old : Value} {Q : Option Value → Shared → Prop} (he : IsEnum s.heap e it i old) (hit : SIt t s.heap it l i) (hl : SAt t s.heap l items) (hx : items[i]? = some x) (hne : e ≠ it)
    (hQ : ∀ h', IsEnumOut h' e it ((i : Int) + 1) x s.heap.objs.size → SIt t h' it l (i + 1) → h'.get? s.heap.objs.size = some { cls := .type "tuple", data := .seq #[.int i s.toks, x] } →
      (∀ b o, b ≠ e → b ≠ it → s.heap.get? b = some o → h'.get? b = some o) → Q (some (.ref s.heap.objs.size)) { s with heap := h', toks := s.toks + 1 }) : wpAny (model prog w) A (pyNext (.ref e)) Q E s := by
  obtain ⟨hp, g, d, tk, os⟩ := s
  have hT : Shared.TypeIs ⟨hp, g, d, tk, os⟩ (.ref e) "enumerate" := ⟨_, he, rfl⟩
  have hel : e < hp.objs.size := Heap.lt_size he
  unfold pyNext
  refine wpAny_bind (wpAny_attempt (wpAny_callSpecial?_slot (name := Str.ofString "__next__") hT F.slot_enumerate_next (wpAny_call_entry F.slot_enumerate_next hT F.entry_enumerate_next ?_ (F.args_enumerate_next_1 _))))
  show wpAny _ _ (field (.ref e) 2 >>= _) _ _ _; refine wpAny_bind (wpAny_field he rfl (x := .ref it) rfl (wpAny_bind (nextS_item hit hl hx fun ha hita hsa => ?_)))
  have hsa' : Heap.SameBut it hp ha := hsa
  have hea : IsEnum ha e it i old := (hsa'.2 e hne).trans he
  show wpAny _ _ (field (.ref e) 3 >>= _) _ _ ⟨ha, g, d, tk, os⟩; refine wpAny_bind (wpAny_field hea rfl (x := rawInt i) rfl ?_)
  show wpAny _ _ (field (.ref e) 4 >>= _) _ _ ⟨ha, g, d, tk, os⟩; refine wpAny_bind (wpAny_field hea rfl (x := .none) rfl ?_)
  show wpAny _ _ (mkInt i >>= _) _ _ ⟨ha, g, d, tk, os⟩; refine wpAny_bind (wpAny_mkInt ?_)
  show wpAny _ _ (setField (.ref e) 3 (rawInt ((i : Int) + 1)) >>= _) _ _ ⟨ha, g, d, tk + 1, os⟩
  refine wpAny_bind (wpAny_setField_rec hea (by simp) fun hb heb hsb => ?_)
  have hsb' : Heap.SameBut e ha hb := hsb
  have heb' : IsEnum hb e it ((i : Int) + 1) old := heb
  show wpAny _ _ (setField (.ref e) 4 .none >>= _) _ _ ⟨hb, g, d, tk + 1, os⟩
  refine wpAny_bind (wpAny_setField_rec heb' (by simp) fun hc hec hsc => ?_)
  have hsc' : Heap.SameBut e hb hc := hsc
  have hec' : IsEnum hc e it ((i : Int) + 1) old := hec
  show wpAny _ _ (newTuple [.int i tk, x] >>= _) _ _ ⟨hc, g, d, tk + 1, os⟩
  refine wpAny_bind (wpAny_newTuple ?_)
  have hsz : hc.objs.size = hp.objs.size := by rw [hsc'.1, hsb'.1, hsa'.1]
  obtain ⟨hd, ehd⟩ : ∃ hd, hd = hc.push { cls := .type "tuple", data := .seq #[.int i tk, x] } := ⟨_, rfl⟩
  have hed : IsEnum hd e it ((i : Int) + 1) old := by rw [ehd]; exact Heap.get?_push_of_some _ hec'
  have htd : hd.get? hp.objs.size = some { cls := .type "tuple", data := .seq #[.int i tk, x] } := by rw [ehd, ← hsz]; exact Heap.get?_push_size _ rfl
  have hkd : ∀ b o, b ≠ e → b ≠ it → hp.get? b = some o → hd.get? b = some o := fun b o n1 n2 q => by rw [ehd]; exact Heap.get?_push_of_some _ (hsc'.extBut b o n1 (hsb'.extBut b o n1 (hsa'.extBut b o n2 q)))
  have hitd : SIt t hd it l (i + 1) := hita.at fun o q => by rw [ehd]; exact Heap.get?_push_of_some _ (hsc'.extBut _ _ (Ne.symm hne) (hsb'.extBut _ _ (Ne.symm hne) q))
  show wpAny _ _ (Builtin.SmallTypes.ownedTupleIsFree (.ref e) >>= _) _ _ ⟨hc.push { cls := .type "tuple", data := .seq #[.int i tk, x] }, g, d, tk + 1, os⟩
  rw [hsz, ← ehd]
  refine wpAny_bind ?_
  unfold Builtin.SmallTypes.ownedTupleIsFree
  refine wpAny_bind (wpAny_field hed rfl (x := .none) rfl (wpAny_pure ?_))
  simp only [if_true]
  refine wpAny_bind (wpAny_rule (wpAny_bind (wpAny_field hed rfl (x := old) rfl (wpAny_bind (wpAny_setField_rec hed (by simp) fun hf hef hsf => ?_)))))
  have hsf' : Heap.SameBut e hd hf := hsf
  have hef' : IsEnum hf e it ((i : Int) + 1) x := hef
  show wpAny _ _ (Builtin.SmallTypes.ownedTupleHandOut (.ref e) (.ref hp.objs.size) >>= _) _ _ ⟨hf, g, d, tk + 1, os⟩
  refine wpAny_bind ?_
  unfold Builtin.SmallTypes.ownedTupleHandOut
  refine wpAny_bind (wpAny_setField_rec hef' (by simp) fun hg heg hsg => ?_)
  have hsg' : Heap.SameBut e hf hg := hsg
  have heg' : IsEnumOut hg e it ((i : Int) + 1) x hp.objs.size := heg
  refine wpAny_setField_rec heg' (by simp) fun hh heh hsh => ?_
  have hsh' : Heap.SameBut e hg hh := hsh
  have heh' : IsEnumOut hh e it ((i : Int) + 1) x hp.objs.size := heh
  have up : ∀ b o, b ≠ e → hd.get? b = some o → hh.get? b = some o := fun b o n q => hsh'.extBut b o n (hsg'.extBut b o n (hsf'.extBut b o n q))
  exact wpAny_bind (wpAny_letGo (wpAny_pure ⟨_, rfl, wpAny_pure (hQ hh heh' (hitd.at fun o q => up _ o (Ne.symm hne) q) (up _ _ (Nat.ne_of_gt hel) htd) fun b o n1 n2 q => up b o n1 (hkd b o n1 n2 q))⟩))
theorem enumS_end {t : Bool} {e it l : Addr} {i : Nat} {items : Array Value} {old : Value} {Q : Option Value → Shared → Prop} (hh : A.handled = none) (he : IsEnum s.heap e it i old) (hit : SIt t s.heap it l i) (hl : SAt t s.heap l items) (hx : items[i]? = none)
    (hQ : ∀ h', Heap.ExtBut it s.heap h' → Q none { s with heap := h' }) : wpAny (model prog w) A (pyNext (.ref e)) Q E s := by
  have hT : s.TypeIs (.ref e) "enumerate" := ⟨_, he, rfl⟩
  unfold pyNext
  refine wpAny_bind (wpAny_attempt (wpAny_callSpecial?_slot (name := Str.ofString "__next__") hT F.slot_enumerate_next (wpAny_call_entry F.slot_enumerate_next hT F.entry_enumerate_next ?_ (F.args_enumerate_next_1 _))))
  show wpAny _ _ (field (.ref e) 2 >>= _) _ _ _; refine wpAny_bind (wpAny_field he rfl (x := .ref it) rfl (wpAny_bind (nextS_end hh hit hl hx fun h' x he' ⟨o, ho, hc⟩ => ?_)))
  exact wpAny_bind (wpAny_isInstance (T := "StopIteration") (b := true) ⟨o, ho, hc⟩ isSubtype_stop (wpAny_pure (hQ _ he')))
end
end L2

set_option Elab.async false
set_option linter.all false
set_option maxRecDepth 100000
set_option maxHeartbeats 4000000
namespace L2
open PySem PySem.Spec PyProof.Rows
open AutoSeq1 (wpAny_loadPart')
abbrev enA (h : Heap) (t : Bool) (l : Addr) : Heap := h.push (sItO t l)
abbrev enB (h : Heap) (t : Bool) (l : Addr) : Heap := (enA h t l).push { cls := .type "enumerate", data := .fields #[.none, .bool false, .ref h.objs.size, rawInt 0, .none, .none] }
theorem meets_enumS (t : Bool) (l : Addr) (items : Array Value) (n : Nat) (dct : Option Addr) (sl : Array (Option Value)) :
    Meets (Builtin.«enumerate.__new__» ⟨[.type "enumerate", .ref l], []⟩) (fun _ R s => s.heap.get? l = some { cls := .type (if t then "tuple" else "list"), dict := dct, data := .seq items n, slots := sl } ∧
      R (.ok (.ret (.ref (enA s.heap t l).objs.size))) { s with heap := enB s.heap t l }) :=
  .of_wp fun prog w A R s h => by
    obtain ⟨hp, g, d, tk, os⟩ := s; obtain ⟨hl, h⟩ := h
    have hsub := sub_enumerate
    have hL : SAt t (Shared.heap ⟨hp, g, d, tk, os⟩) l items := by cases t <;> exact ⟨_, hl, rfl, n, rfl⟩
    wp_walk using wpAny_loadPart' hl
    refine wpAny_stack_any fun st => wpAny_pure ?_
    split
    · rename_i c _ _ _ _ _
      cases (c == Value.type "enumerate")
      · wp_walk using wpAny_loadPart' hl, iterS hL
        exact ⟨_, rfl, h⟩
      · wp_walk using wpAny_loadPart' hl, iterS hL
        exact ⟨_, rfl, h⟩
    · wp_walk using wpAny_loadPart' hl, iterS hL
      exact ⟨_, rfl, h⟩
section
variable {prog : Program} {w : World} {A : Around} {E : Value → Shared → Prop} {s : Shared}
theorem call_enumS {t : Bool} {l : Addr} {items : Array Value} {Q : Value → Shared → Prop} (hL : SAt t s.heap l items)
    (h : ∀ h', IsEnum h' (s.heap.objs.size + 1) s.heap.objs.size 0 .none → SIt t h' s.heap.objs.size l 0 →
      (∀ b o, s.heap.get? b = some o → h'.get? b = some o) → Q (.ref (s.heap.objs.size + 1)) { s with heap := h' }) :
    wpAny (model prog w) A (call (.type "enumerate") [.ref l]) Q E s := by
  obtain ⟨dct, n, sl, hl⟩ : ∃ dct n sl, s.heap.get? l = some { cls := .type (if t then "tuple" else "list"), dict := dct, data := .seq items n, slots := sl } := by
    cases t <;> (obtain ⟨⟨c, dct, dt, sl⟩, hl, hc, n, hd⟩ := hL; simp only at hc hd; subst hc hd; exact ⟨dct, n, sl, hl⟩)
  refine callType_new F.called_enumerate (by decide) (F.typeCall_enumerate_1 _) (F.newCall_enumerate_1 _) (fun obj => F.args_object_init_2 obj _) F.entry_enumerate_new
    (meets_enumS t l items n dct sl) ⟨hl, ?_⟩
  have hz : (enA s.heap t l).objs.size = s.heap.objs.size + 1 := Heap.size_push ..
  have he : IsEnum (enB s.heap t l) (s.heap.objs.size + 1) s.heap.objs.size 0 .none := by
    have := Heap.get?_push_size (enA s.heap t l) (o := { cls := .type "enumerate", data := .fields #[.none, .bool false, .ref s.heap.objs.size, rawInt 0, .none, .none] }) rfl
    rw [hz] at this; exact this
  have g1 : (enB s.heap t l).get? s.heap.objs.size = some (sItO t l) := Heap.get?_push_of_some _ (Heap.get?_push_size _ (by cases t <;> rfl))
  have mk : SIt t (enB s.heap t l) s.heap.objs.size l 0 := by cases t <;> exact ⟨_, g1, rfl, rfl⟩
  show _ ∧ _
  rw [hz]
  exact ⟨⟨_, he, rfl⟩, h _ he mk fun b o x => Heap.get?_push_of_some _ (Heap.get?_push_of_some _ x)⟩
end
def Ite (K : PySem.W.Frag) (t : Bool) (a : Addr) : It :=
  ⟨fun i H => ∃ xs x, SqB K t H a xs ∧ xs[i]? = some x,
   fun i H v H' => ∃ p x, v = .ref p ∧ H p = none ∧ H' = upd H p (.tup [.int i, x]) ∧ ∀ xs, SqB K t H a xs → xs[i]? = some x,
   fun i H => ∃ xs, SqB K t H a xs ∧ xs.length ≤ i⟩
def ESt (t : Bool) (e it l : Addr) (i : Nat) (h : Heap) : Prop := e ≠ it ∧ (∃ old, IsEnum h e it i old) ∧ SIt t h it l i
theorem turn_enum {P : Program} {w : World} {K : PySem.W.Frag} {elts : List Expr} {kk : Nat} {pos : Pos} (t : Bool) (z i1 l1 : Addr) : Turn P w K (.Tuple elts kk pos) (Ite K t l1) [z, i1] z (ESt t z i1 l1) where
  mem := by simp
  obj := fun i h st b hb => by
    obtain ⟨_, ⟨old, hz⟩, h1⟩ := st
    simp only [List.mem_cons, List.not_mem_nil, or_false] at hb
    rcases hb with e | e
    · subst e; exact ⟨_, hz, fun v q => by cases q⟩
    · subst e; exact h1.obj
  keep := fun i h h' st k => by
    obtain ⟨D, ⟨old, hz⟩, h1⟩ := st
    exact ⟨D, ⟨old, k z (by simp) _ hz⟩, h1.at fun o e => k i1 (by simp) o e⟩
  item := by
    intro X hP hw hK hc i pins s σ H E I hf st hg
    subst hP hw hK
    obtain ⟨xs, x, q1, gx⟩ := hg
    obtain ⟨D, ⟨old, hz⟩, h1⟩ := st
    obtain ⟨us, ru, su, _⟩ := I.sq q1
    obtain ⟨u, hu, rx⟩ := ru.get gx
    refine enumS_item hz h1 su (x := u) (by simpa using hu) D fun h' z1 z3 z5 z7 => ⟨_, rfl, ?_⟩
    have szn : s.heap.objs.size ≠ z := Nat.ne_of_gt (Heap.lt_size hz)
    refine wpAny_letOwnedTupleGo_enum (s := { s with heap := h', toks := s.toks + 1 }) z1 fun h'' w1 w2 => ?_
    have w2' : Heap.SameBut z h' h'' := w2
    have hall : ∀ c o, c ≠ z → c ≠ i1 → s.heap.get? c = some o → h''.get? c = some o := fun c o n1 n3 e => w2'.extBut _ _ n1 (z7 c o n1 n3 e)
    have hn : H s.heap.objs.size = none := I.hok.fresh (Nat.le_refl _)
    have f := fun b hb => hf b hb
    have ch : ∀ b, b ∉ [z, i1] → b ≠ z ∧ b ≠ i1 := fun b hb => by
      simp only [List.mem_cons, List.not_mem_nil, or_false, not_or] at hb
      exact hb
    have tr : ∀ b o, H b = some o → b ∉ [z, i1] := fun b o e hb => by rw [(f b hb).1] at e; cases e
    have nsz : ∀ b o, H b = some o → b ≠ s.heap.objs.size := fun b o e q => by rw [q, hn] at e; cases e
    have pair : h''.get? s.heap.objs.size = some { cls := .type "tuple", data := .seq #[.int i s.toks, u] } := w2'.extBut _ _ szn z5
    refine ⟨.ref s.heap.objs.size, upd H s.heap.objs.size (.tup [.int i, x]), Inv.step (s := s) (h' := h'') (g' := s.gens) (d' := s.drawn) (t' := s.toks + 1) (ch := [z, i1]) I (fun b hb => ?_) (fun b o _ _ hb e _ => ?_) (fun b o _ _ hb e _ => ⟨o.slots, ?_⟩) (fun b o hb e n => ?_) (fun b o hb e => ⟨o, ?_⟩) (fun b zs e => ?_) (fun b o zs e => ?_) (fun b ps e => ⟨#[], ?_⟩) (fun m hm => ?_) (fun b o e => ?_) I.bare, rfl, ⟨s.heap.objs.size, x, rfl, hn, rfl, fun xs' p1 => ?_⟩, ?_, fun b hb => ?_⟩
    · obtain ⟨_, f1, f2, f3, f4, f5⟩ := f b hb
      exact ⟨f3, f1, f4, f5⟩
    · obtain ⟨n1, n2⟩ := ch b hb; exact hall b o n1 n2 e
    · obtain ⟨n1, n2⟩ := ch b hb; exact hall b o n1 n2 e
    · rw [upd_ne (Nat.ne_of_lt (Heap.lt_size e))]; exact n
    · obtain ⟨n1, n2⟩ := ch b hb; exact hall b o n1 n2 e
    · rw [upd_ne (nsz b _ e)]; exact e
    · rw [upd_ne (nsz b _ e)]; exact e
    · rw [upd_ne (nsz b _ e), e]; simp
    · obtain ⟨o, es, ep, ho, r⟩ := hm
      have nl : X.env.locals ∉ [z, i1] := fun hb => (f _ hb).2.1 rfl
      obtain ⟨n1, n2⟩ := ch _ nl
      exact ⟨o, es, ep, hall _ o n1 n2 ho, r⟩
    · by_cases hb : b = s.heap.objs.size
      · subst hb; rw [upd_same] at e; cases e
        exact ⟨by show 2 ≤ sizeLine; decide, [.int i s.toks, u], .cons ⟨_, rfl⟩ (.cons rx .nil), _, pair, rfl, _, rfl⟩
      · rw [upd_ne hb] at e
        refine (I.hok b o e).stay (fun c o' hc q => ?_) (fun c q => by rw [upd_ne (nsz c _ q)]; exact q) fun c zs q => by rw [upd_ne (nsz c _ q)]; exact q
        have nc : c ∉ [z, i1] := by
          rcases hc with hc | hc
          · rw [hc]; exact tr b o e
          · exact tr c _ hc
        obtain ⟨n1, n2⟩ := ch c nc
        exact hall c o' n1 n2 q
    · rw [I.sq_inj p1 q1]; exact gx
    · exact ⟨D, ⟨u, by have := w1; exact_mod_cast this⟩, z3.at fun o e => w2'.extBut _ o (Ne.symm D) e⟩
    · obtain ⟨o, e, _⟩ := (show ∃ o, s.heap.get? b = some o ∧ ∀ v, o.data ≠ .cell v from by
        simp only [List.mem_cons, List.not_mem_nil, or_false] at hb
        rcases hb with q | q
        · subst q; exact ⟨_, hz, fun v q => by cases q⟩
        · subst q; exact h1.obj)
      rw [upd_ne (Nat.ne_of_lt (Heap.lt_size e))]; exact (f b hb).1
  done := by
    intro X hP hw hK hc i pins s σ H E I hf st hg
    subst hP hw hK
    obtain ⟨xs, q1, ge⟩ := hg
    obtain ⟨D, ⟨old, hz⟩, h1⟩ := st
    obtain ⟨us, ru, su, _⟩ := I.sq q1
    have lu := ru.length
    refine enumS_end (I.ok.hd hc) hz h1 su (by simp; omega) fun h' hk => ⟨rfl, ?_⟩
    have f := fun b hb => hf b hb
    have tr : ∀ b o, H b = some o → b ∉ [i1] := fun b o e hb => by rw [(f b (by simp at hb; simp [hb])).1] at e; cases e
    have kk : ∀ b o, b ∉ [i1] → s.heap.get? b = some o → h'.get? b = some o := fun b o hb e => hk b o (by simpa using hb) e
    refine I.step (g' := s.gens) (d' := s.drawn) (t' := s.toks) (ch := [i1]) (fun b hb => ?_) (fun b o _ _ hb e _ => kk b o hb e) (fun b o _ _ hb e _ => ⟨o.slots, kk b o hb e⟩) (fun b o hb e n => n) (fun b o hb e => ⟨o, kk b o hb e⟩) (fun b zs e => e) (fun b o zs e => e) (fun b ps e => ⟨#[], by rw [e]; simp⟩) (fun m hm => ?_) (fun b o e => ?_) I.bare
    · obtain ⟨_, f1, f2, f3, f4, f5⟩ := f b (by simp at hb; simp [hb])
      exact ⟨f3, f1, f4, f5⟩
    · obtain ⟨o, es, ep, ho, r⟩ := hm
      exact ⟨o, es, ep, kk _ o (fun hb => (f _ (by simp at hb; simp [hb])).2.1 rfl) ho, r⟩
    · refine (I.hok b o e).stay (fun c o' hc q => kk c o' ?_ q) (fun c q => q) fun c zs q => q
      rcases hc with hc | hc
      · rw [hc]; exact tr b o e
      · exact tr c _ hc
  self := fun _ _ _ _ _ st h => by
    obtain ⟨D, ⟨old, hz⟩, h1⟩ := st
    exact wpAny_pyIter_enum hz h
section
variable {X : Cx}
def iEnum (K : PySem.W.Frag) (t : Bool) (ta : TA) : TI := fun σ H R => ta σ H fun vs H1 => ∃ a xs, vs = [.ref a] ∧ SqB K t H1 a xs ∧ R (Ite K t a) H1
theorem pi_enum {elts : List Expr} {kk : Nat} {tp : Pos} {a : Expr} {ta : TA} {p pos : Pos} (t : Bool) (hg : Gl X "enumerate") (hm : X.mg "enumerate" = none) (ha : PA X [a] ta) (hs : starEach [a] X.env = [(false, eval a X.env)] := by rfl) :
    PI X (.Tuple elts kk tp) (.Call (.Name "enumerate" p) [a] [] pos) (iEnum X.K t ta) := by
  intro pins s σ H R I h
  refine Call_ (ld_blt I hg hm boot_enumerate (PyProof.Rows.callWith_type1 (thn (ha pos pins s σ H _ I h) fun us s1 ⟨vs, H1, I1, r1, q1⟩ => ?_) (by rw [hs]; rfl) rfl))
  obtain ⟨l1, xs, e, q1, q⟩ := q1
  subst e
  cases r1 with
  | cons r rr =>
    cases rr
    cases r
    obtain ⟨us, _, su, _⟩ := I1.sq q1
    refine call_enumS su fun h' z1 z4 z6 => ?_
    have I2 : Inv X pins σ H1 { s1 with heap := h' } := I1.kept (t' := s1.toks) z6
    refine wpAny_pyIter_enum z1 ⟨_, [s1.heap.objs.size + 1, s1.heap.objs.size], _, _, H1, rfl, I2, turn_enum t _ _ l1, ⟨Nat.succ_ne_self _, ⟨_, z1⟩, z4⟩, fun b hb => ?_, q⟩
    have le : s1.heap.objs.size ≤ b := by
      simp only [List.mem_cons, List.not_mem_nil, or_false] at hb
      rcases hb with e | e <;> rw [e] <;> first | exact Nat.le_refl _ | exact Nat.le_add_right _ _
    exact I1.fpOk le (I1.hok.fresh le)
end
theorem for_enum {K : PySem.W.Frag} {t : Bool} {a : Addr} {xs : List V} {g : TG} {tb : TS} {D : Ends} {σ : St} {H : Hp} (Pv : Nat → St → Hp → Prop) (h0 : Pv 0 σ H) (hl : ∀ i σ H, i ≤ xs.length → Pv i σ H → SqB K t H a xs)
    (hs : ∀ i x σ H p, xs[i]? = some x → H p = none → Pv i σ H → g (.ref p) σ (upd H p (.tup [.int i, x])) fun σ2 H2 => tb { D with nx := Pv (i + 1), ct := Pv (i + 1), bk := D.nx } σ2 H2) (hd : ∀ σ H, Pv xs.length σ H → D.nx σ H) :
    ∃ W : Nat → Nat → St → Hp → Prop, (∃ m, W 0 m σ H) ∧ ∀ i m σ H, W i m σ H →
      ((Ite K t a).stop i H ∧ D.nx σ H) ∨ ((Ite K t a).go i H ∧ ∃ N : St → Hp → Prop, (∀ σ' H', N σ' H' → ∃ m', m' < m ∧ W (i + 1) m' σ' H') ∧ ∀ x H', (Ite K t a).yld i H x H' → g x σ H' fun σ2 H2 => tb { D with nx := N, ct := N, bk := D.nx } σ2 H2) := by
  refine ⟨fun i m σ H => m = xs.length - i ∧ i ≤ xs.length ∧ Pv i σ H, ⟨xs.length, by simp, Nat.zero_le _, h0⟩, ?_⟩
  rintro i m σ H ⟨rfl, hi, p⟩
  have q := hl i σ H hi p
  by_cases hlt : i < xs.length
  · refine .inr ⟨⟨xs, xs[i], q, by simp [hlt]⟩, Pv (i + 1), fun σ' H' p' => ⟨xs.length - (i + 1), by omega, rfl, hlt, p'⟩, fun x H' y => ?_⟩
    obtain ⟨r, x', e, hn, e', h⟩ := y
    subst e e'
    exact hs i x' σ H r (h xs q) hn p
  · have e : i = xs.length := by omega
    subst e
    exact .inl ⟨⟨xs, q, Nat.le_refl _⟩, hd σ H p⟩
theorem i_pi_enum {X : Cx} {elts : List Expr} {kk : Nat} {tp : Pos} {a : Expr} {ta : TA} {p pos : Pos} (t : Bool) (hg : Gl X "enumerate") (hm : X.mg "enumerate" = none) (ha : IPA X [a] ta) (hs : starEach [a] X.env = [(false, eval a X.env)] := by rfl) :
    IPI X (.Tuple elts kk tp) (.Call (.Name "enumerate" p) [a] [] pos) (iEnum X.K t ta) := by
  rw [IPI_eq]; rw [IPA_eq] at ha; exact pi_enum t hg hm ha hs
end L2

set_option Elab.async false
set_option linter.all false
set_option maxRecDepth 100000
set_option maxHeartbeats 4000000
namespace L2
open PySem PySem.Spec PyProof.Rows
section
variable {X : Cx}
/-! ### is, is not of two truths -/
theorem op_isB : OpR X (compareOp .Is) (fun x y H Q => ∃ b c, x = .bl b ∧ y = .bl c ∧ Q (.bl (b == c)) H) := by
  rintro pins s σ H x y v u Q I rx ry ⟨b, c, rfl, rfl, q⟩
  cases rx; cases ry
  exact wpAny_is_plain rfl (fin_bl I q (by cases b <;> cases c <;> rfl))
theorem op_isnotB : OpR X (compareOp .IsNot) (fun x y H Q => ∃ b c, x = .bl b ∧ y = .bl c ∧ Q (.bl (!(b == c))) H) := by
  rintro pins s σ H x y v u Q I rx ry ⟨b, c, rfl, rfl, q⟩
  cases rx; cases ry
  exact wpAny_isNot_plain rfl (fin_bl I q (by cases b <;> cases c <;> rfl))

/-! ### xs[::-1] -/
theorem sliceRange_rev (n : Nat) : sliceRange ((n : Int) - 1) (-1) (-1) = (List.range n).map fun k => n - 1 - k := by
  unfold sliceRange
  have h0 : ¬ ((-1 : Int) > 0) := by decide
  simp only [h0, if_false]
  by_cases hn : (n : Int) - 1 > -1
  · rw [if_pos hn]
    have e : ((n : Int) - 1 - -1 - -1 - 1) / (- -1) = n := by
      have e : (- -1 : Int) = 1 := by decide
      rw [e, Int.ediv_one]; omega
    rw [e, Int.toNat_natCast]
    refine List.map_congr_left fun k hk => ?_
    have := List.mem_range.mp hk
    omega
  · rw [if_neg hn]
    have : n = 0 := by omega
    subst this; rfl
theorem slicePick_rev (its : List Value) : slicePick its.toArray none none (some (-1)) = its.reverse.toArray := by
  unfold slicePick
  have h1 : (sliceBounds none none (some (-1)) its.toArray.size).1 = (its.length : Int) - 1 := by simp [sliceBounds]
  have h2 : (sliceBounds none none (some (-1)) its.toArray.size).2.1 = -1 := by simp [sliceBounds]
  have h3 : (sliceBounds none none (some (-1)) its.toArray.size).2.2 = -1 := by simp [sliceBounds]
  rw [h1, h2, h3, sliceRange_rev]
  congr 1
  have : ∀ k ≤ its.length, ((List.range k).map fun j => its.length - 1 - j).filterMap (its.toArray[·]?) = its.reverse.take k := by
    intro k
    induction k with
    | zero => intro _; simp
    | succ k ih =>
      intro hk
      rw [List.range_succ, List.map_append, List.filterMap_append, ih (by omega), List.take_add_one]
      congr 1
      have e : its.reverse[k]? = its[its.length - 1 - k]? := by rw [List.getElem?_reverse (by omega)]
      rw [e]
      have hl : its.length - 1 - k < its.length := by omega
      simp [List.getElem?_eq_getElem hl]
  rw [this _ (Nat.le_refl _), List.take_of_length_le (by simp)]
def tRev (K : PySem.W.Frag) (te ts : TE) : TE := fun σ H Q => te σ H fun x H1 => ts σ H1 fun y H2 => y = .int (-1) ∧ ∃ a xs, x = .ref a ∧ SqL K H2 a xs ∧ ∀ p, H2 p = none → Q (.ref p) (upd H2 p (.lst xs.reverse))
theorem pe_rev {e st : Expr} {te ts : TE} {p2 pos : Pos} (he : PE X e te) (hs : PE X st ts) : PE X (.Subscript e (.Slice none none (some st) p2) pos) (tRev X.K te ts) := by
  intro pins s σ H Q I h
  refine Subscript_ (thn (he pins s σ H _ I h) fun v s1 ⟨x, H1, I1, r1, q1⟩ => ?_)
  refine wpAny_Slice ?_
  rw [evalPart_none]
  refine wpAny_pure ?_
  refine wpAny_pure ?_
  rw [evalPart_some]
  refine thn (hs pins s1 σ H1 _ I1 q1) fun u s2 ⟨y, H2, I2, r2, q2⟩ => ?_
  obtain ⟨rfl, a, xs, rfl, hx, q⟩ := q2
  obtain ⟨tk, rfl⟩ := r2
  cases r1
  have I4 : Inv X pins σ H2 { s2 with heap := s2.heap.push { cls := .type "slice", data := .fields #[.none, .none, .int (-1) tk] } } := I2.kept (t' := s2.toks) fun b ob q => Heap.get?_push_of_some _ q
  obtain ⟨its, r, ht, hz⟩ := I4.list hx
  have hlen := r.length
  show wpAny (model X.prog X.w) X.A (subscriptTail e (.Slice none none (some st) p2) (.ref a) (.ref s2.heap.objs.size)) (EP X pins σ Q) X.xe { s2 with heap := s2.heap.push { cls := .type "slice", data := .fields #[.none, .none, .int (-1) tk] } }
  refine tail_any (T := "list") (ops := [.ref a, .ref s2.heap.objs.size]) ht.isList.typeIs slot_list_getitem.lookup ?_ (by with_unfolding_all rfl)
  refine wpAny_getItem_list_slice ht.isList (Heap.IsSliceOf.new ..) .none .none (.int (-1) tk) (by simp) ?_ (by rw [List.size_toArray] <;> omega)
  rw [slicePick_rev]
  refine ⟨.ref _, _, I4.laid (t' := s2.toks) (o := .lst xs.reverse) (fun b ob q => Heap.get?_push_of_some _ q) (Nat.le_refl _) ?_, rfl, q _ (I4.hok.fresh (Nat.le_refl _))⟩
  exact ⟨by rw [List.length_reverse]; exact hz, _, 0, r.reverse, Heap.get?_push_size _ rfl⟩
theorem i_pe_rev {e st : Expr} {te ts : TE} {p2 pos : Pos} (he : IPE X e te) (hs : IPE X st ts) : IPE X (.Subscript e (.Slice none none (some st) p2) pos) (tRev X.K te ts) := by
  rw [IPE_eq] at *; exact pe_rev he hs
/-! ### in, not in, of data -/
def rInD (K : PySem.W.Frag) (neg : Bool) : R2 := fun x y H Q => ∃ d ds p ys, DV K H d x ∧ y = .ref p ∧ (SqL K H p ys ∨ SqT K H p ys) ∧ DVs K H ds ys ∧ d.canLay0 = true ∧ PyData.canLayAll0 ds = true ∧ d.depth ≤ 30 ∧ Q (.bl (if neg then !ds.any (fun y => PyData.eqv y d) else ds.any (fun y => PyData.eqv y d))) H
theorem op_inD (hu : X.A.units + 64 < cLine) : OpR X (compareOp .In) (rInD X.K false) := by
  rintro pins s σ H x y v u Q I rx ry ⟨d, ds, p, ys, h1, rfl, hq, h2, c1, c2, dp, q⟩
  obtain ⟨bs, rb⟩ := I.reads h1 rx
  have hm : X.A.units + 1 + min (PyData.depthAll ds) d.depth < cLine := by omega
  rcases hq with hq | hq
  · obtain ⟨as, ra⟩ := I.reads (DV.list hq h2) ry
    exact SeqAt.in_list_reads ra rb c2 c1 hm ⟨.bl _, H, I, rfl, q⟩
  · obtain ⟨as, ra⟩ := I.reads (DV.tup hq h2) ry
    exact SeqAt.in_tuple_reads ra rb c2 c1 hm ⟨.bl _, H, I, rfl, q⟩
theorem op_notInD (hu : X.A.units + 64 < cLine) : OpR X (compareOp .NotIn) (rInD X.K true) := by
  rintro pins s σ H x y v u Q I rx ry ⟨d, ds, p, ys, h1, rfl, hq, h2, c1, c2, dp, q⟩
  obtain ⟨bs, rb⟩ := I.reads h1 rx
  have hm : X.A.units + 1 + min (PyData.depthAll ds) d.depth < cLine := by omega
  rcases hq with hq | hq
  · obtain ⟨as, ra⟩ := I.reads (DV.list hq h2) ry
    exact SeqAt.notIn_list_reads ra rb c2 c1 hm ⟨.bl _, H, I, rfl, q⟩
  · obtain ⟨as, ra⟩ := I.reads (DV.tup hq h2) ry
    exact SeqAt.notIn_tuple_reads ra rb c2 c1 hm ⟨.bl _, H, I, rfl, q⟩
end
end L2

set_option Elab.async false
set_option linter.all false
set_option maxRecDepth 100000
set_option maxHeartbeats 4000000
namespace L2
open PySem PySem.Spec PyProof.Rows
/-! ### tuples of ints, lists of these, as data -/
def tI (ns : List Int) : PyData := .tuple (ns.map .int)
def lT (rows : List (List Int)) : PyData := .list (rows.map tI)
def Bits (w : Nat) (ns : List Int) : Prop := ∀ x ∈ ns, x.natAbs < 2 ^ w
theorem shown_ok {d : PyData} (hc : d.canLay0 = true) (hi : d.intsShort 101 = true) (hw : d.weight ≤ 100000) : d.shown.length ≤ sizeLine := by
  have h := PyData.shown_le 101 (by decide) d (PyData.leavesShort_of_canLay0 101 d hc hi)
  have e : sizeLine = 16777216 := by decide
  omega
theorem log2_of {i : Int} {w : Nat} (hw : 0 < w) (h : i.natAbs < 2 ^ w) : i.natAbs.log2 < w := by
  by_cases h0 : i.natAbs = 0
  · rw [h0]; simpa using hw
  · exact (Nat.log2_lt h0).mpr h
theorem short_int {i : Int} {w : Nat} (hw : 0 < w) (hw2 : w ≤ 100) (h : i.natAbs < 2 ^ w) : (PyData.int i).intsShort 101 = true := by
  have e := int_text_length_le (a := i) (k := w) hw (log2_of hw h)
  simp only [PyData.intsShort, decide_eq_true_eq]
  show (Str.ofString (toString i)).length ≤ 101
  rw [PySem.ofString_length]
  omega
theorem weight_int {i : Int} {w : Nat} (hw : 0 < w) (h : i.natAbs < 2 ^ w) : (PyData.int i).weight ≤ w := by
  have := log2_of hw h
  simp only [PyData.weight]
  split <;> omega
theorem ints_canAll : ∀ ns : List Int, PyData.canLayAll0 (ns.map .int) = true
  | [] => by simp [PyData.canLayAll0]
  | x :: r => by simp [PyData.canLayAll0, PyData.canLay0, ints_canAll r]
theorem ints_depth : ∀ ns : List Int, PyData.depthAll (ns.map .int) = 0
  | [] => by simp [PyData.depthAll]
  | x :: r => by simp [PyData.depthAll, PyData.depth, ints_depth r]
theorem ints_dict : ∀ ns : List Int, PyData.hasDictAll (ns.map .int) = false
  | [] => by simp [PyData.hasDictAll]
  | x :: r => by simp [PyData.hasDictAll, PyData.hasDict, ints_dict r]
theorem ints_short {w : Nat} (hw : 0 < w) (hw2 : w ≤ 100) : ∀ ns : List Int, Bits w ns → PyData.intsShortAll 101 (ns.map .int) = true
  | [], _ => by simp [PyData.intsShortAll]
  | x :: r, h => by
    rw [List.map_cons, PyData.intsShortAll, short_int hw hw2 (h x (List.mem_cons_self ..)), ints_short hw hw2 r fun y hy => h y (List.mem_cons_of_mem _ hy)]; rfl
theorem ints_weight {w : Nat} (hw : 0 < w) : ∀ ns : List Int, Bits w ns → PyData.weightAll (ns.map .int) ≤ (w + 1) * ns.length
  | [], _ => by simp [PyData.weightAll]
  | x :: r, h => by
    have h1 := weight_int hw (h x (List.mem_cons_self ..))
    have h2 := ints_weight hw r fun y hy => h y (List.mem_cons_of_mem _ hy)
    rw [List.map_cons, PyData.weightAll, List.length_cons, Nat.mul_add, Nat.mul_one]
    omega
theorem ints_show {w : Nat} (hw : 0 < w) (hw2 : w ≤ 100) : ∀ ns : List Int, Bits w ns → PyData.showableAll (ns.map .int) = true
  | [], _ => by simp [PyData.showableAll]
  | x :: r, h => by
    have h1 := log2_of hw (h x (List.mem_cons_self ..))
    rw [List.map_cons, PyData.showableAll, ints_show hw hw2 r fun y hy => h y (List.mem_cons_of_mem _ hy)]
    simp [PyData.showable]; omega
theorem tI_can (ns : List Int) : (tI ns).canLay0 = true := by simp [tI, PyData.canLay0, ints_canAll]
theorem tI_depth (ns : List Int) : (tI ns).depth = 1 := by simp [tI, PyData.depth, ints_depth]
theorem tI_shaped (ns : List Int) : SeqAt.shaped (tI ns) = true := by
  have h := tI_depth ns
  simp [SeqAt.shaped, tI_can, h]
theorem tI_dict (ns : List Int) : (tI ns).hasDict = false := by simp [tI, PyData.hasDict, ints_dict]
theorem tI_short {w : Nat} (hw : 0 < w) (hw2 : w ≤ 100) {ns : List Int} (h : Bits w ns) : (tI ns).intsShort 101 = true := by
  rw [tI, PyData.intsShort]; exact ints_short hw hw2 ns h
theorem tI_show {w : Nat} (hw : 0 < w) (hw2 : w ≤ 100) {ns : List Int} (h : Bits w ns) : (tI ns).showable = true := by
  rw [tI, PyData.showable]; exact ints_show hw hw2 ns h
theorem tI_len {w : Nat} (hw : 0 < w) (hw2 : w ≤ 100) {ns : List Int} (h : Bits w ns) (hl : ns.length ≤ 100) : (tI ns).shown.length ≤ sizeLine := by
  refine shown_ok (tI_can ns) (tI_short hw hw2 h) ?_
  have h1 := ints_weight hw ns h
  rw [tI, PyData.weight]
  have : (w + 1) * ns.length ≤ 101 * 100 := Nat.mul_le_mul (by omega) hl
  omega
/-- all that repr asks of a tuple of ints -/
theorem tI_repr {w : Nat} (hw : 0 < w) (hw2 : w ≤ 100) {ns : List Int} (h : Bits w ns) (hl : ns.length ≤ 100) : (tI ns).showable = true ∧ (tI ns).hasDict = false ∧ (tI ns).depth ≤ 40 ∧ (tI ns).shown.length ≤ sizeLine :=
  ⟨tI_show hw hw2 h, tI_dict ns, by rw [tI_depth]; decide, tI_len hw hw2 h hl⟩
theorem rows_canAll : ∀ rows : List (List Int), PyData.canLayAll0 (rows.map tI) = true
  | [] => by simp [PyData.canLayAll0]
  | x :: r => by simp [PyData.canLayAll0, tI_can, rows_canAll r]
theorem rows_depth : ∀ rows : List (List Int), PyData.depthAll (rows.map tI) ≤ 1
  | [] => by simp [PyData.depthAll]
  | x :: r => by
    have := rows_depth r
    rw [List.map_cons, PyData.depthAll, tI_depth]
    omega
theorem rows_dict : ∀ rows : List (List Int), PyData.hasDictAll (rows.map tI) = false
  | [] => by simp [PyData.hasDictAll]
  | x :: r => by simp [PyData.hasDictAll, tI_dict, rows_dict r]
theorem rows_short {w : Nat} (hw : 0 < w) (hw2 : w ≤ 100) : ∀ rows : List (List Int), (∀ r ∈ rows, Bits w r) → PyData.intsShortAll 101 (rows.map tI) = true
  | [], _ => by simp [PyData.intsShortAll]
  | x :: r, h => by
    rw [List.map_cons, PyData.intsShortAll, tI_short hw hw2 (h x (List.mem_cons_self ..)), rows_short hw hw2 r fun y hy => h y (List.mem_cons_of_mem _ hy)]; rfl
theorem rows_show {w : Nat} (hw : 0 < w) (hw2 : w ≤ 100) : ∀ rows : List (List Int), (∀ r ∈ rows, Bits w r) → PyData.showableAll (rows.map tI) = true
  | [], _ => by simp [PyData.showableAll]
  | x :: r, h => by
    rw [List.map_cons, PyData.showableAll, tI_show hw hw2 (h x (List.mem_cons_self ..)), rows_show hw hw2 r fun y hy => h y (List.mem_cons_of_mem _ hy)]; rfl
theorem rows_weight {w n : Nat} (hw : 0 < w) : ∀ rows : List (List Int), (∀ r ∈ rows, Bits w r ∧ r.length ≤ n) → PyData.weightAll (rows.map tI) ≤ ((w + 1) * n + 1) * rows.length
  | [], _ => by simp [PyData.weightAll]
  | x :: r, h => by
    obtain ⟨b, l⟩ := h x (List.mem_cons_self ..)
    have h1 := ints_weight hw x b
    have h2 := rows_weight hw r fun y hy => h y (List.mem_cons_of_mem _ hy)
    have h3 : (w + 1) * x.length ≤ (w + 1) * n := Nat.mul_le_mul_left _ l
    have e : (tI x).weight = PyData.weightAll (x.map .int) := by rw [tI, PyData.weight]
    rw [List.map_cons, PyData.weightAll, List.length_cons, Nat.mul_add, Nat.mul_one, e]
    omega
theorem lT_can (rows : List (List Int)) : (lT rows).canLay0 = true := by rw [lT, PyData.canLay0]; exact rows_canAll rows
theorem lT_depth (rows : List (List Int)) : (lT rows).depth ≤ 2 := by
  have := rows_depth rows
  rw [lT, PyData.depth]; omega
theorem lT_shaped (rows : List (List Int)) : SeqAt.shaped (lT rows) = true := by
  have := lT_depth rows
  simp only [SeqAt.shaped, lT_can, Bool.true_and, decide_eq_true_eq]; omega
theorem lT_repr {w n N : Nat} (hw : 0 < w) (hw2 : w ≤ 100) {rows : List (List Int)} (h : ∀ r ∈ rows, Bits w r ∧ r.length ≤ n) (hN : rows.length ≤ N) (hb : ((w + 1) * n + 1) * N ≤ 100000) :
    (lT rows).showable = true ∧ (lT rows).hasDict = false ∧ (lT rows).depth ≤ 40 ∧ (lT rows).shown.length ≤ sizeLine := by
  refine ⟨by rw [lT, PyData.showable]; exact rows_show hw hw2 rows fun r hr => (h r hr).1, by rw [lT, PyData.hasDict]; exact rows_dict rows, by have := lT_depth rows; omega, shown_ok (lT_can rows) (by rw [lT, PyData.intsShort]; exact rows_short hw hw2 rows fun r hr => (h r hr).1) ?_⟩
  have h1 := rows_weight hw rows h
  have h2 : ((w + 1) * n + 1) * rows.length ≤ ((w + 1) * n + 1) * N := Nat.mul_le_mul_left _ hN
  rw [lT, PyData.weight]; omega
theorem DV.tI {K : PySem.W.Frag} {H : Hp} {a : Addr} {ns : List Int} (h : SqT K H a (ns.map V.int)) : DV K H (tI ns) (.ref a) := DV.tup h (DVs.ints ns)
theorem DV.tI_inv {K : PySem.W.Frag} {H : Hp} {ns : List Int} {x : V} (h : DV K H (L2.tI ns) x) : ∃ a, x = .ref a ∧ SqT K H a (ns.map V.int) := by
  unfold L2.tI DV at h
  obtain ⟨a, xs, rfl, hs, hd⟩ := h
  have : ∀ (l : List Int) (ys : List V), DVs K H (l.map .int) ys → ys = l.map V.int := fun l => by
    induction l with
    | nil => intro ys h; unfold DVs at h; exact h
    | cons x r ih =>
      intro ys h
      rw [List.map_cons] at h
      unfold DVs at h
      obtain ⟨y, t, rfl, h1, h2⟩ := h
      unfold DV at h1
      rw [h1, ih t h2]; rfl
  rw [this ns xs hd] at hs
  exact ⟨a, rfl, hs⟩
/-- the list at l has these rows -/
def LR (K : PySem.W.Frag) (H : Hp) (l : Addr) (rows : List (List Int)) : Prop := ∃ xs, SqL K H l xs ∧ DVs K H (rows.map tI) xs
theorem LR.dv {K : PySem.W.Frag} {H : Hp} {l : Addr} {rows : List (List Int)} (h : LR K H l rows) : DV K H (lT rows) (.ref l) := by
  obtain ⟨xs, h1, h2⟩ := h
  exact DV.list h1 h2
theorem LR.same {K : PySem.W.Frag} {H H' : Hp} {l : Addr} {rows : List (List Int)} (h : LR K H l rows) (e : Same H H') : LR K H' l rows := by
  obtain ⟨xs, h1, h2⟩ := h
  exact ⟨xs, e.seq h1, DVs.same e h2⟩
theorem DVs.snoc {K : PySem.W.Frag} {H : Hp} {ds : List PyData} {d : PyData} {xs : List V} {x : V} (h : DVs K H ds xs) (t : DV K H d x) : DVs K H (ds ++ [d]) (xs ++ [x]) := DVs.append h (DVs.cons t DVs.nil)
theorem DVs.take {K : PySem.W.Frag} {H : Hp} : ∀ {ds : List PyData} {xs : List V} (k : Nat), DVs K H ds xs → DVs K H (ds.take k) (xs.take k)
  | [], xs, k, h => by unfold DVs at h; subst h; simp; exact DVs.nil
  | d :: ds, xs, 0, h => by simp; exact DVs.nil
  | d :: ds, xs, k + 1, h => by
    unfold DVs at h
    obtain ⟨x, r, rfl, h1, h2⟩ := h
    exact DVs.cons h1 (DVs.take k h2)
theorem DVs.drop {K : PySem.W.Frag} {H : Hp} : ∀ {ds : List PyData} {xs : List V} (k : Nat), DVs K H ds xs → DVs K H (ds.drop k) (xs.drop k)
  | [], xs, k, h => by unfold DVs at h; subst h; simp; exact DVs.nil
  | d :: ds, xs, 0, h => h
  | d :: ds, xs, k + 1, h => by
    unfold DVs at h
    obtain ⟨x, r, rfl, h1, h2⟩ := h
    exact DVs.drop k h2
theorem DVs.reverse {K : PySem.W.Frag} {H : Hp} : ∀ {ds : List PyData} {xs : List V}, DVs K H ds xs → DVs K H ds.reverse xs.reverse
  | [], xs, h => by unfold DVs at h; subst h; exact DVs.nil
  | d :: ds, xs, h => by
    unfold DVs at h
    obtain ⟨x, r, rfl, h1, h2⟩ := h
    rw [List.reverse_cons, List.reverse_cons]
    exact DVs.snoc (DVs.reverse h2) h1
theorem eqv_refl_ints : ∀ ns : List Int, PyData.eqvAll (ns.map .int) (ns.map .int) = true
  | [] => by simp [PyData.eqvAll]
  | x :: r => by simp [PyData.eqvAll, PyData.eqv, eqv_refl_ints r]
theorem eqv_tI (ns : List Int) : PyData.eqv (tI ns) (tI ns) = true := by
  unfold tI; rw [PyData.eqv]; exact eqv_refl_ints ns
theorem eqv_rows : ∀ rows : List (List Int), PyData.eqvAll (rows.map tI) (rows.map tI) = true
  | [] => by simp [PyData.eqvAll]
  | x :: r => by simp [PyData.eqvAll, eqv_tI, eqv_rows r]
theorem eqv_lT (rows : List (List Int)) : PyData.eqv (lT rows) (lT rows) = true := by
  unfold lT; rw [PyData.eqv]; exact eqv_rows rows
end L2

set_option Elab.async false
set_option linter.all false
set_option maxRecDepth 100000
set_option maxHeartbeats 4000000
namespace L2
open PySem PySem.Spec PyProof.Rows
/-! ### the rules once more, with the frag named: inside a comprehension the answer's term must not speak of its own block -/
section
variable {X : Cx} {K : PySem.W.Frag}
theorem ix_tupK (h : X.K = K) : IxR X (rIxT K) := h ▸ ix_tup
theorem ix_listK (h : X.K = K) : IxR X (rIxL K) := h ▸ ix_list
theorem sl_listK (h : X.K = K) : SlR X (rSlL K) := h ▸ sl_list
theorem sl_tupK (h : X.K = K) : SlR X (rSlT K) := h ▸ sl_tup
theorem op_in_seqK (h : X.K = K) : OpR X (compareOp .In) (rIn K false) := h ▸ op_in_seq
theorem op_notIn_seqK (h : X.K = K) : OpR X (compareOp .NotIn) (rIn K true) := h ▸ op_notIn_seq
theorem op_repTK (h : X.K = K) : OpR X (binaryOp .Mult) (rRepT K) := h ▸ op_repT
theorem op_catTTK (h : X.K = K) : OpR X (binaryOp .Add) (rCatTT K) := h ▸ op_catTT
theorem op_eqDK (h : X.K = K) (hu : X.A.units + 64 < cLine) : OpR X (compareOp .Eq) (rEqD K false) := h ▸ op_eqD hu
theorem op_neDK (h : X.K = K) (hu : X.A.units + 64 < cLine) : OpR X (compareOp .NotEq) (rEqD K true) := h ▸ op_neD hu
theorem op_inDK (h : X.K = K) (hu : X.A.units + 64 < cLine) : OpR X (compareOp .In) (rInD K false) := h ▸ op_inD hu
theorem op_notInDK (h : X.K = K) (hu : X.A.units + 64 < cLine) : OpR X (compareOp .NotIn) (rInD K true) := h ▸ op_notInD hu
theorem call_len_seqK (h : X.K = K) : CallR X (.builtin "len") (fun xs H Q => ∃ p ys, xs = [.ref p] ∧ (SqL K H p ys ∨ SqT K H p ys) ∧ Q (.int ys.length) H) := h ▸ call_len_seq
theorem call_list_ofK (h : X.K = K) : CallR X (.type "list") (fun xs H Q => ∃ p ys, xs = [.ref p] ∧ (SqL K H p ys ∨ SqT K H p ys) ∧ ∀ l, H l = none → Q (.ref l) (upd H l (.lst ys))) := h ▸ call_list_of
theorem call_tuple_ofK (h : X.K = K) : CallR X (.type "tuple") (fun xs H Q => ∃ p ys, xs = [.ref p] ∧ ((SqL K H p ys ∧ ∀ l, H l = none → Q (.ref l) (upd H l (.tup ys))) ∨ (SqT K H p ys ∧ Q (.ref p) H))) := h ▸ call_tuple_of
theorem call_sumLK (h : X.K = K) (hc : X.calm = true) : CallR X (.builtin "sum") (fun xs H Q => ∃ (a : Addr) (ns : List Int), xs = [.ref a] ∧ SqL K H a (ns.map V.int) ∧ Q (.int ns.sum) H) := h ▸ call_sumL hc
theorem call_allLK (h : X.K = K) (hc : X.calm = true) : CallR X (.builtin "all") (fun xs H Q => ∃ (a : Addr) (bs : List Bool), xs = [.ref a] ∧ SqL K H a (bs.map V.bl) ∧ Q (.bl (bs.all id)) H) := h ▸ call_allL hc
theorem i_pi_listK {l tg : Expr} {tl : TE} (h : X.K = K) (hl : IPE X l tl) : IPI X tg l (iList K tl) := h ▸ i_pi_list hl
theorem i_pi_tupK {l tg : Expr} {tl : TE} (h : X.K = K) (hl : IPE X l tl) : IPI X tg l (iTup K tl) := h ▸ i_pi_tup hl
theorem i_pi_zipK {elts : List Expr} {kk : Nat} {tp : Pos} {a b : Expr} {ta : TA} {p pos : Pos} (h : X.K = K) (t1 t2 : Bool) (hg : Gl X "zip") (hm : X.mg "zip" = none) (ha : IPA X [a, b] ta) (hs : starEach [a, b] X.env = [(false, eval a X.env), (false, eval b X.env)] := by rfl) (hs2 : starEach [b] X.env = [(false, eval b X.env)] := by rfl) :
    IPI X (.Tuple elts kk tp) (.Call (.Name "zip" p) [a, b] [] pos) (iZip K t1 t2 ta) := h ▸ i_pi_zip t1 t2 hg hm ha hs hs2
theorem i_pe_revK {e st : Expr} {te ts : TE} {p2 pos : Pos} (h : X.K = K) (he : IPE X e te) (hs : IPE X st ts) : IPE X (.Subscript e (.Slice none none (some st) p2) pos) (tRev K te ts) := h ▸ i_pe_rev he hs
theorem i_pgl2K {Nc : List Str} {scope : Scope} {cs : List (Str × Addr)} {C : Addr} {s : Shared} {H : Hp} {fp : List Addr} {x y : Str} {px py pt : Pos} {kk : Nat} (h : X.K = K) (i j : Nat) (hc : X.calm = true) (hN : Nc.Nodup) (hi : Nc[i]? = some x := by rfl) (hj : Nc[j]? = some y := by rfl) (hx : scope.names.lookup x = some .local := by rfl) (hy : scope.names.lookup y = some .local := by rfl) :
    IPG (cxComp X Nc scope cs C s H fp) (.Tuple [.Name x px, .Name y py] kk pt) (gTup K 2 (gCons (gName i) (gCons (gName j) gNil))) := h ▸ i_pgl2 i j hc hN hi hj hx hy
end
end L2

set_option Elab.async false
set_option linter.all false
set_option maxRecDepth 100000
set_option maxHeartbeats 4000000
namespace L2
open PySem PySem.Spec PyProof.Rows
section
variable {X : Cx}
/-- name = [.. for .. for ..], the name a plain local of the def (the stores are exchanged) -/
theorem ps_setComp2 {i : Nat} {x : Str} {elt tg iter tg2 iter2 : Expr} {scope : Scope} {pos pos' spos : Pos} {Nc : List Str} {cap : List (Option Nat)} {wi wi2 : TI} {g g2 : TG} {te : TE}
    (hN : X.N.Nodup) (hx : X.N[i]? = some x) (hl : Loc X.env.scope x)
    (hc : X.calm = true) (hi : PI X tg iter wi) (ok : capOk X Nc cap scope = true) (hg : ∀ cs C s H fp, PG (cxComp X Nc scope cs C s H fp) tg g)
    (hi2 : ∀ cs C s H fp, PI (cxComp X Nc scope cs C s H fp) tg2 iter2 wi2) (hg2 : ∀ cs C s H fp, PG (cxComp X Nc scope cs C s H fp) tg2 g2)
    (he : ∀ cs C s H fp, PE (cxComp X Nc scope cs C s H fp) elt te) (hsw : swapsWith (.ListComp elt [⟨tg, iter, [], 0⟩, ⟨tg2, iter2, [], 0⟩] scope pos) (some (.Name x pos')) spos.line X.env = pure true := by rfl)
    (hk : scope.kind = .function := by rfl) (hs : ∀ x, foldedSetIterable iter X.env x = pure x := by intro _; rfl)
    (hs2 : ∀ env x, foldedSetIterable iter2 env x = pure x := by intro _ _; rfl)
    (hf : X.fn x = true ∨ X.env.scope.names.lookup x = some .local := by first | exact .inl rfl | exact .inr rfl | assumption) :
    PS X (.Assign [.Name x pos'] (.ListComp elt [⟨tg, iter, [], 0⟩, ⟨tg2, iter2, [], 0⟩] scope pos) spos) (tAsg (tComp wi cap g tYes (tLoop wi2 g2 tYes (tEmit te))) (gName i)) := by
  intro pins s σ H D I h
  rw [exec_Assign_Name_used _ _ _ _ hsw]
  refine wpAny_bind (wpAny_standAt (wpAny_bind ?_))
  show wpAny _ X.A (do let _ ← comprehension (.ListComp elt [⟨tg, iter, [], 0⟩, ⟨tg2, iter2, [], 0⟩] scope pos) scope X.env _ (newList []) false (eval iter X.env) (some (assign (.Name x pos') X.env))) _ _ s
  refine wpAny_bind (thn (comp_core (use := some (assign (.Name x pos') X.env)) (Q := fun _ s' => SP X pins D .next s') (body := fun env => nest elt [⟨tg, iter, [], 0⟩, ⟨tg2, iter2, [], 0⟩] scope pos 1 iter2 env) hk hc hi ok hg (fun cs C s H fp => pts_nil)
    (fun cs C s H fp => pl_nest (Y := cxComp X Nc scope cs C s H fp) (body := emit elt (compEnvC scope cs C X.env)) (fun _ _ f => f) hc (hi2 cs C s H fp) (hg2 cs C s H fp) pts_nil (pl_emit (he cs C s H fp)) rfl (fun it acc => rfl) (hs2 _)) (fun it acc env => ?_) hs I h fun L C H' s' I' fD fC ne hn q => ?_) fun _ s' q => wpAny_pure (wpAny_pure q))
  · rw [compTurn_two]
    unfold turnOf testsOf nest
    simp only [bind_assoc, pure_bind]
  · obtain ⟨H1, I1, q1, f1⟩ := comp_end (P := fun v H => gName i v σ H D.nx) I' fD fC ne q
    obtain ⟨m, hm⟩ := hn
    show wpAny _ X.A (assign (.Name x pos') X.env (.ref L)) _ _ _
    refine wpAny_assign_Name (store_ok2 I1 hN hx hl (v := .ref L) rfl (fun s2 I2 ⟨a, sb, ha⟩ => ?_) hf)
    have ca : C ≠ a := by
      rcases ha with z | z
      · rw [z]; exact f1.2.1
      · exact fun y => f1.2.2.2.2.1 x a z y.symm
    exact ⟨m, hm.sameBut sb ca, fun h'' sb2 => ⟨_, H1, I2.turned (t' := s2.toks) (fun b o hb e => sb2.extBut b o hb e) f1.1 f1.2.1 f1.2.2.2.1 f1.2.2.2.2.1 f1.2.2.2.2.2, q1⟩⟩
theorem i_ps_setComp2 {i : Nat} {x : Str} {elt tg iter tg2 iter2 : Expr} {scope : Scope} {pos pos' spos : Pos} {Nc : List Str} {cap : List (Option Nat)} {wi wi2 : TI} {g g2 : TG} {te : TE}
    (hN : X.N.Nodup) (hx : X.N[i]? = some x) (hl : Loc X.env.scope x)
    (hc : X.calm = true) (hi : IPI X tg iter wi) (ok : capOk X Nc cap scope = true) (hg : ∀ cs C s H fp, IPG (cxComp X Nc scope cs C s H fp) tg g)
    (hi2 : ∀ cs C s H fp, IPI (cxComp X Nc scope cs C s H fp) tg2 iter2 wi2) (hg2 : ∀ cs C s H fp, IPG (cxComp X Nc scope cs C s H fp) tg2 g2)
    (he : ∀ cs C s H fp, IPE (cxComp X Nc scope cs C s H fp) elt te) (hsw : swapsWith (.ListComp elt [⟨tg, iter, [], 0⟩, ⟨tg2, iter2, [], 0⟩] scope pos) (some (.Name x pos')) spos.line X.env = pure true := by rfl)
    (hk : scope.kind = .function := by rfl) (hs : ∀ x, foldedSetIterable iter X.env x = pure x := by intro _; rfl)
    (hs2 : ∀ env x, foldedSetIterable iter2 env x = pure x := by intro _ _; rfl)
    (hf : X.fn x = true ∨ X.env.scope.names.lookup x = some .local := by first | exact .inl rfl | exact .inr rfl | assumption) :
    IPS X (.Assign [.Name x pos'] (.ListComp elt [⟨tg, iter, [], 0⟩, ⟨tg2, iter2, [], 0⟩] scope pos) spos) (tAsg (tComp wi cap g tYes (tLoop wi2 g2 tYes (tEmit te))) (gName i)) := by
  simp only [IPE_eq, IPS_eq, IPG_eq, IPI_eq] at *
  exact ps_setComp2 hN hx hl hc hi ok hg hi2 hg2 he hsw hk hs hs2 hf
end
/-- a list walked, whatever is done with each item -/
theorem comp_listL {K : PySem.W.Frag} {a : Addr} {xs : List V} {g : TG} {tb : TL} {Q : LK} {σ : St} {H : Hp} (Pv : Nat → List V → St → Hp → Prop) (h0 : Pv 0 [] σ H) (hl : ∀ i ys σ H, i ≤ xs.length → Pv i ys σ H → SqL K H a xs)
    (hs : ∀ i x ys σ H, xs[i]? = some x → Pv i ys σ H → g x σ H fun σ2 H2 => tb ys σ2 H2 (Pv (i + 1))) (hg : ∀ x σ H Q1 Q2, (∀ σ2 H2, Q1 σ2 H2 → Q2 σ2 H2) → g x σ H Q1 → g x σ H Q2) (hd : ∀ ys σ H, Pv xs.length ys σ H → Q ys σ H) :
    ∃ W : Nat → List V → Nat → St → Hp → Prop, (∃ m, W 0 [] m σ H) ∧ LTurn (Itl K a) g tYes tb Q W := by
  refine ⟨fun i ys m σ H => m = xs.length - i ∧ i ≤ xs.length ∧ Pv i ys σ H, ⟨xs.length, rfl, Nat.zero_le _, h0⟩, ?_⟩
  rintro i ys m σ H ⟨rfl, hi, p⟩
  have q := hl i ys σ H hi p
  by_cases hlt : i < xs.length
  · refine .inr ⟨⟨xs, xs[i], q, by simp [hlt]⟩, Pv (i + 1), fun ys' σ' H' p' => ⟨xs.length - (i + 1), by omega, rfl, hlt, p'⟩, fun x H' y => ?_⟩
    obtain ⟨e, y⟩ := y
    subst e
    refine hg x σ _ _ _ (fun σ2 H2 z => ?_) (hs i x ys σ _ (y xs q) p)
    show if true = true then tb ys σ2 H2 (Pv (i + 1)) else Pv (i + 1) ys σ2 H2
    exact iteT z
  · have e : i = xs.length := by omega
    subst e
    exact .inl ⟨⟨xs, q, Nat.le_refl _⟩, hd ys σ H p⟩
theorem mono_gName (j : Nat) : ∀ (x : V) (σ : St) (H : Hp) (Q1 Q2 : St → Hp → Prop), (∀ σ2 H2, Q1 σ2 H2 → Q2 σ2 H2) → gName j x σ H Q1 → gName j x σ H Q2 := fun _ _ _ _ _ h z => h _ _ z
/-- a range walked, behind what there is -/
theorem comp_rangeA {lo : Int} {n : Nat} {g : TG} {te : TE} {Q : LK} {σ : St} {H : Hp} {ys0 : List V} (Pv : Nat → List V → St → Hp → Prop) (h0 : Pv 0 ys0 σ H)
    (hs : ∀ i ys σ H, i < n → Pv i ys σ H → g (.int (lo + i)) σ H fun σ2 H2 => ys.length < sizeLine ∧ te σ2 H2 fun v H3 => Pv (i + 1) (ys ++ [v]) σ2 H3) (hd : ∀ ys σ H, Pv n ys σ H → Q ys σ H) :
    ∃ W : Nat → List V → Nat → St → Hp → Prop, (∃ m, W 0 ys0 m σ H) ∧ LTurn (Itr lo n) g tYes (tEmit te) Q W := by
  refine ⟨fun i ys m σ H => m = n - i ∧ i ≤ n ∧ Pv i ys σ H, ⟨n, rfl, Nat.zero_le _, h0⟩, ?_⟩
  rintro i ys m σ H ⟨rfl, hi, p⟩
  by_cases hlt : i < n
  · refine .inr ⟨hlt, Pv (i + 1), fun ys' σ' H' p' => ⟨n - (i + 1), by omega, rfl, hlt, p'⟩, fun x H' y => ?_⟩
    obtain ⟨e, y⟩ := y
    subst e y
    exact yes_emit (hs i ys σ _ hlt p)
  · have e : i = n := by omega
    subst e
    exact .inl ⟨Nat.le_refl _, hd ys σ H p⟩
end L2

set_option Elab.async false
set_option linter.all false
set_option maxRecDepth 100000
set_option maxHeartbeats 4000000
namespace L2
open PySem PySem.Spec PyProof.Rows
/-! ### sorted(..) of a list of tuples of ints that stands in order by now -/
def lexLt : List Int → List Int → Bool
  | x :: xs, y :: ys => decide (x < y) || (decide (x = y) && lexLt xs ys)
  | _, _ => false
def TpI (h : Heap) (v : Value) (ns : List Int) : Prop := ∃ a o vs n, v = .ref a ∧ h.get? a = some o ∧ o.cls = .type "tuple" ∧ o.data = .seq (List.toArray vs) n ∧ IntsAre vs ns
theorem TpI.keep {h h' : Heap} {v : Value} {ns : List Int} (x : TpI h v ns) (k : ∀ b o, o.cls = .type "tuple" → h.get? b = some o → h'.get? b = some o) : TpI h' v ns := by
  obtain ⟨a, o, vs, n, e, h1, h2, h3, h4⟩ := x
  exact ⟨a, o, vs, n, e, k _ _ h2 h1, h2, h3, h4⟩
theorem keyLt'_tuples (f : Bool) (x y : Value) : keyLt' (tuples' f) x y = (do
    let xs ← Builtin.List.listItems x; let ys ← Builtin.List.listItems y
    for ((p, q), i) in (xs.toList.zip ys.toList).zipIdx do
      if !(← eqBool p q) then return ← oneLt' (f && i == 0) p q
    return xs.size < ys.size) := rfl
section
variable {prog : Program} {w : World} {A : Around} {E : Value → Shared → Prop} {s : Shared}
theorem oneLt_int0 {a b : Int} {t u : Tok} {Q : Bool → Shared → Prop} (h : Q (decide (a < b)) s) : wpAny (model prog w) A (oneLt' false (.int a t) (.int b u)) Q E s := by
  rw [oneLt'_eq]
  simp only [Bool.false_eq_true, if_false]
  refine wpAny_bind ?_
  show wpAny _ _ (compareOp .Lt (.int a t) (.int b u)) _ _ s
  exact lt_int (wpAny_truthy_bool h)
theorem oneLt_intB {c : Bool} {a b : Int} {t u : Tok} {Q : Bool → Shared → Prop} (h : Q (decide (a < b)) s) : wpAny (model prog w) A (oneLt' c (.int a t) (.int b u)) Q E s := by
  cases c
  · exact oneLt_int0 h
  · exact oneLt_int h
theorem loop_not : ∀ {vs us : List Value} {ns ms : List Int} (k : Nat) {Q : Option Bool × Unit → Shared → Prop}, IntsAre vs ns → IntsAre us ms → ns.length = ms.length → lexLt ms ns = true → Q (some false, ()) s →
    wpAny (model prog w) A (forIn ((vs.zip us).zipIdx k) ((none, ()) : Option Bool × Unit) fun x __s => do
      let __do_lift ← eqBool x.1.fst x.1.snd
      if (!__do_lift) = true then do
          let __do_lift ← oneLt' (true && x.snd == 0) x.1.fst x.1.snd
          pure (ForInStep.done (some __do_lift, ()))
        else pure (ForInStep.yield (none, ()))) Q E s
  | _, _, _, _, k, Q, .nil, h2, hl, hlt, h => by
    cases h2 with
    | nil => simp [lexLt] at hlt
    | cons => simp at hl
  | _, _, _, _, k, Q, .cons n1 t1 g4, h2, hl, hlt, h => by
    cases h2 with
    | nil => simp at hl
    | cons m1 t2 k4 =>
      rename_i vs ns' us ms'
      have lex : m1 < n1 ∨ (m1 = n1 ∧ lexLt ms' ns' = true) := by
        simp only [lexLt, Bool.or_eq_true, Bool.and_eq_true, decide_eq_true_eq] at hlt
        exact hlt
      simp only [List.zip_cons_cons, List.zipIdx_cons, List.forIn_cons, bind_assoc]
      refine wpAny_bind (wpAny_eqBool_int ?_)
      rcases lex with z | ⟨z, z2⟩
      · have e : (n1 == m1) = false := by rw [beq_eq_false_iff_ne]; omega
        rw [e]
        refine wpAny_bind (wpAny_bind (oneLt_intB (wpAny_pure (wpAny_pure ?_))))
        rw [decide_eq_false (by omega)]; exact h
      · have e : (n1 == m1) = true := by rw [beq_iff_eq]; exact z.symm
        rw [e]
        refine wpAny_bind (wpAny_pure ?_)
        exact loop_not (k + 1) g4 k4 (by simpa using hl) z2 h
theorem keyLt_not {x y : Value} {ns ms : List Int} {Q : Bool → Shared → Prop} (hx : TpI s.heap x ns) (hy : TpI s.heap y ms) (hl : ns.length = ms.length) (hlt : lexLt ms ns = true) (h : Q false s) :
    wpAny (model prog w) A (keyLt' (tuples' true) x y) Q E s := by
  obtain ⟨a, o, vs, n, rfl, g1, g2, g3, g4⟩ := hx
  obtain ⟨b, o', us, n', rfl, k1, k2, k3, k4⟩ := hy
  rw [keyLt'_tuples]
  refine wpAny_bind (listItems_at g1 g3 (wpAny_bind (listItems_at k1 k3 ?_)))
  dsimp only
  refine wpAny_bind (loop_not 0 g4 k4 hl hlt ?_)
  exact wpAny_pure h
theorem wpS_ltNot {st : SortSt} {i j : Nat} {x y p q : Value} {ns ms : List Int} {Q : Option Bool → SortSt → Prop} (hk : kindOf st = tuples' true)
    (hi : (arrOf st)[i]? = some (x, p)) (hj : (arrOf st)[j]? = some (y, q)) (hx : TpI s.heap x ns) (hy : TpI s.heap y ms) (hl : ns.length = ms.length) (hlt : lexLt ms ns = true) (h : Q (some false) st) :
    wpS (model prog w) A E s (ltAt' i j) Q st := by
  rw [ltAt'_eq]
  refine wpS_bind (wpS_get ?_)
  show wpS _ _ _ _ (do let x ← elem' (arrOf st) i; let y ← elem' (arrOf st) j; lt' x y) Q st
  rw [elem'_eq, elem'_eq, hi, hj]
  refine wpS_bind (wpS_pure (wpS_bind (wpS_pure ?_)))
  rw [lt'_eq]
  refine wpS_bind (wpS_get ?_)
  rw [hk]
  refine wpS_bind (wpS_lift (wpAny_attempt (keyLt_not hx hy hl hlt ⟨rfl, ?_⟩)))
  exact wpS_pure h
/-- the pairs stand in order -/
def Asc (h : Heap) (xs : Array Keyed) : Prop := ∀ i, i + 1 < xs.size → ∃ x y p q ns ms, xs[i]? = some (y, q) ∧ xs[i + 1]? = some (x, p) ∧ TpI h x ns ∧ TpI h y ms ∧ ns.length = ms.length ∧ lexLt ms ns = true
theorem wpS_runAsc {st : SortSt} {Q : Option Nat → SortSt → Prop} (hk : kindOf st = tuples' true) (ha : Asc s.heap (arrOf st)) (h1 : 1 ≤ (arrOf st).size) (h : Q (some (arrOf st).size) st) :
    wpS (model prog w) A E s (countRun' 0 (arrOf st).size) Q st := by
  rw [countRun0_eq]
  refine wpS_bind ?_
  unfold ascLoop
  refine wpS_forRange (I := fun x c st' => st' = st ∧ c = (none, x)) ?step ?fin ⟨rfl, rfl⟩
  case fin =>
    rintro c st' ⟨rfl, rfl⟩
    rw [show max 1 (arrOf st').size = (arrOf st').size by omega]
    dsimp only
    rw [if_pos (by simp)]
    exact wpS_pure h
  case step =>
    rintro x c st' hax hxn ⟨rfl, rfl⟩
    dsimp only
    obtain ⟨y, z, p, q, ns, ms, e1, e2, e3, e4, e5, e6⟩ := ha (x - 1) (by omega)
    rw [show x - 1 + 1 = x by omega] at e2
    refine wpS_bind (wpS_ltNot hk e2 e1 e3 e4 e5 e6 ?_)
    simp only [Bool.false_eq_true, if_false]
    exact wpS_pure ⟨rfl, rfl⟩
theorem minRun_le : ∀ (fuel n r : Nat), minRun' fuel n r ≤ n + r
  | 0, n, r => Nat.le_refl _
  | fuel + 1, n, r => by
    rw [minRun'_succ]
    split
    · exact Nat.le_refl _
    · refine Nat.le_trans (minRun_le fuel (n / 2) (max r (n % 2))) ?_
      omega
theorem wpS_sortAsc {st : SortSt} {Q : Unit → SortSt → Prop} (hk : kindOf st = tuples' true) (ha : Asc s.heap (arrOf st)) (h2 : 2 ≤ (arrOf st).size) (hp : pendingOf st = #[])
    (h : ∀ st', arrOf st' = arrOf st → failedOf st' = failedOf st → Q () st') : wpS (model prog w) A E s sortRuns' Q st := by
  rw [sortRuns'_eq]
  refine wpS_bind (wpS_get ?_)
  dsimp only
  have hmr : ¬ ((arrOf st).size < minRun' (arrOf st).size (arrOf st).size 0) := by
    have := minRun_le (arrOf st).size (arrOf st).size 0
    omega
  refine wpS_bind (wpS_mono (wpS_forRange
    (I := fun x c st' => (x = 0 ∧ c = (none, 0) ∧ st' = st) ∨ (1 ≤ x ∧ c = (none, (arrOf st).size) ∧ st' = setPending st #[(0, (arrOf st).size, 0)]))
    (Q := fun c st' => c = (none, (arrOf st).size) ∧ st' = setPending st #[(0, (arrOf st).size, 0)]) ?step ?fin (.inl ⟨rfl, rfl, rfl⟩)) ?post)
  case fin =>
    rintro c st' (⟨hx, _, _⟩ | ⟨_, hc, hD⟩)
    · omega
    · exact ⟨hc, hD⟩
  case step =>
    rintro x c st' _ hx (⟨rfl, rfl, rfl⟩ | ⟨hx1, rfl, rfl⟩)
    · dsimp only
      rw [if_neg (by omega)]
      simp only [Nat.sub_zero, Nat.zero_add]
      refine wpS_bind (wpS_runAsc hk ha (by omega) ?_)
      dsimp only
      rw [if_neg hmr]
      refine wpS_bind (wpS_get ?_)
      have hb : (pendingOf st').back? = none := by rw [hp]; rfl
      rw [hb]
      dsimp only
      refine wpS_bind (wpS_modify (wpS_pure (.inr ⟨by omega, rfl, ?_⟩)))
      show setPending st' ((pendingOf st').push _) = _
      rw [hp]; rfl
    · dsimp only
      rw [if_pos (Nat.le_refl _)]
      exact wpS_pure ⟨rfl, rfl⟩
  case post =>
    rintro c st' ⟨rfl, rfl⟩
    dsimp only
    refine wpS_bind (wpS_mono (wpS_forRange (I := fun _ c st'' => st'' = setPending st #[(0, (arrOf st).size, 0)] ∧ c = (none, ())) (Q := fun c st'' => st'' = setPending st #[(0, (arrOf st).size, 0)] ∧ c = (none, ())) ?_ (fun _ _ hh => hh) ⟨rfl, rfl⟩) ?_)
    · rintro x c st'' _ _ ⟨rfl, rfl⟩
      refine wpS_bind (wpS_get ?_)
      rw [if_pos (show (pendingOf (setPending st #[(0, (arrOf st).size, 0)])).size ≤ 1 from Nat.le_refl 1)]
      exact wpS_pure ⟨rfl, rfl⟩
    · rintro c st'' ⟨rfl, rfl⟩
      exact wpS_pure (h _ rfl rfl)
/-- the kind of the keys -/
theorem firstOf_tup {v : Value} {ns : List Int} {Q : Option Value → Shared → Prop} (hv : TpI s.heap v ns) (h1 : 1 ≤ ns.length) (h : ∀ i t, Q (some (.int i t)) s) : wpAny (model prog w) A (firstOfTuple' v) Q E s := by
  obtain ⟨a, o, vs, n, rfl, g1, g2, g3, g4⟩ := hv
  show wpAny _ _ (do
    if (← typeOf (.ref a)) != .type "tuple" then return none
    return (← Builtin.List.listItems (.ref a))[0]?) _ _ s
  refine wpAny_bind (wpAny_typeOf (T := "tuple") ⟨o, g1, g2⟩ ?_)
  simp only [bne_self_eq_false, Bool.false_eq_true, if_false]
  refine wpAny_bind (listItems_at g1 g3 ?_)
  cases g4 with
  | nil => simp at h1
  | cons i t r => exact wpAny_pure (h i t)
theorem firsts_tup : ∀ {vs : List Value} {Q : List (Option Value) → Shared → Prop}, (∀ v ∈ vs, ∃ ns, TpI s.heap v ns ∧ 1 ≤ ns.length) → (∀ us : List Value, us.length = vs.length → (∀ u ∈ us, ∃ i t, u = Value.int i t) → Q (us.map some) s) → wpAny (model prog w) A (vs.mapM firstOfTuple') Q E s
  | [], Q, _, h => by
    rw [List.mapM_nil]
    exact wpAny_pure (h [] rfl fun u hu => (nomatch hu))
  | v :: vs, Q, hv, h => by
    rw [List.mapM_cons]
    obtain ⟨ns, h1, h2⟩ := hv v (List.mem_cons_self ..)
    refine wpAny_bind (firstOf_tup h1 h2 fun i t => wpAny_bind (firsts_tup (fun u hu => hv u (List.mem_cons_of_mem _ hu)) fun us l hu => wpAny_pure ?_))
    refine h (Value.int i t :: us) (by simp [l]) fun u hu' => ?_
    rcases List.mem_cons.mp hu' with e | e
    · exact ⟨i, t, e⟩
    · exact hu u e
theorem intsAre_of_all : ∀ us : List Value, (∀ u ∈ us, ∃ i t, u = Value.int i t) → ∃ ns, IntsAre us ns
  | [], _ => ⟨[], .nil⟩
  | u :: us, h => by
    obtain ⟨i, t, rfl⟩ := h u (List.mem_cons_self ..)
    obtain ⟨ns, hn⟩ := intsAre_of_all us fun x hx => h x (List.mem_cons_of_mem _ hx)
    exact ⟨i :: ns, .cons i t hn⟩
theorem keyKind_tup {v1 : Value} {vs : List Value} {Q : SortKind → Shared → Prop} (hv : ∀ v ∈ v1 :: vs, ∃ ns, TpI s.heap v ns ∧ 1 ≤ ns.length) (h : Q (tuples' true) s) : wpAny (model prog w) A (keyKind' (v1 :: vs).toArray) Q E s := by
  rw [keyKind'_eq, List.mapM_toArray]
  refine wpAny_bind ?_
  show wpAny _ _ (List.toArray <$> (v1 :: vs).mapM firstOfTuple') _ _ s
  rw [map_eq_pure_bind]
  refine wpAny_bind (firsts_tup hv fun us l hu => wpAny_pure ?_)
  rw [if_pos (by simp)]
  refine wpAny_bind (wpAny_rule ?_)
  obtain ⟨ns, hI⟩ := intsAre_of_all us hu
  have e : (List.map some us).toArray.filterMap id = us.toArray := by simp
  rw [e, oneTypeOnly'_eq, List.mapM_toArray, mapM_typeOf_ints hI]
  simp only [map_pure, pure_bind]
  cases us with
  | nil => simp at l
  | cons u us =>
    have hall : ((List.map (fun _ => Value.type "int") (u :: us)).toArray.all fun x => x == Value.type "int") = true := by
      simp only [List.all_toArray, List.all_map, List.all_eq_true]
      intro _ _
      rfl
    have h0 : (List.map (fun _ => Value.type "int") (u :: us)).toArray[0]? = some (Value.type "int") := by simp
    rw [h0]
    simp only [hall, if_true, pure_bind]
    exact wpAny_pure h
/-- what sorting asks of the items -/
def AscV (h : Heap) (vs : List Value) : Prop := (∀ v ∈ vs, ∃ ns, TpI h v ns ∧ 1 ≤ ns.length) ∧ ∀ i x y, vs[i]? = some y → vs[i + 1]? = some x → ∃ ns ms, TpI h x ns ∧ TpI h y ms ∧ ns.length = ms.length ∧ lexLt ms ns = true
theorem AscV.keep {h h' : Heap} {vs : List Value} (x : AscV h vs) (k : ∀ b o, o.cls = .type "tuple" → h.get? b = some o → h'.get? b = some o) : AscV h' vs := by
  refine ⟨fun v hv => ?_, fun i a b e1 e2 => ?_⟩
  · obtain ⟨ns, h1, h2⟩ := x.1 v hv
    exact ⟨ns, h1.keep k, h2⟩
  · obtain ⟨ns, ms, h1, h2, h3, h4⟩ := x.2 i a b e1 e2
    exact ⟨ns, ms, h1.keep k, h2.keep k, h3, h4⟩
theorem AscV.asc {h : Heap} {vs : List Value} (x : AscV h vs) : Asc h (pairsOf vs) := by
  intro i hi
  rw [pairsOf_size] at hi
  obtain ⟨ns, ms, h1, h2, h3, h4⟩ := x.2 i vs[i + 1] vs[i] (List.getElem?_eq_getElem (by omega)) (List.getElem?_eq_getElem hi)
  have g : ∀ j (hj : j < vs.length), (pairsOf vs)[j]? = some (vs[j], vs[j]) := fun j hj => by
    unfold pairsOf; simp [hj]
  exact ⟨vs[i + 1], vs[i], vs[i + 1], vs[i], ns, ms, g i (by omega), g (i + 1) hi, h1, h2, h3, h4⟩
theorem pairs_snd (vs : List Value) : (pairsOf vs).map (·.2) = vs.toArray := by
  apply Array.toList_inj.mp
  rw [Array.toList_map, pairsOf_toList]
  exact List.map_snd_zip (Nat.le_refl _)
theorem list_sort_asc {a : Addr} {vs : List Value} {n : Nat} {R : Fin → Shared → Prop} (ho : s.heap.get? a = some (seqObj "list" vs.toArray n)) (hA : AscV s.heap vs) (hlen : vs.length ≤ 100000)
    (h : R (.done (.ret .none)) { s with heap := sortedHeap s.heap a vs vs.toArray }) : wpAny (model prog w) A (Builtin.«list.sort» ⟨[.ref a], []⟩) R E s := by
  rw [list_sort_plain]
  have ha : a < s.heap.objs.size := Heap.lt_size ho
  have hsl : sizeLine = 16777216 := by decide
  refine wpAny_bind (listItems_at ho rfl ?_)
  refine wpAny_bind (listUpdate_at ho rfl ?_ (by rw [List.size_toArray]; omega) (by show 0 ≤ _; omega))
  obtain ⟨e1, ho1⟩ : ∃ e1, (s.heap.update a (Obj.mapSeq fun _ => #[])).get? a = some (seqObj "list" #[] e1) := ⟨_, get?_update_seq ho (fun _ => #[])⟩
  refine wpAny_bind (seqEpoch_at ho1 rfl ?_)
  refine wpAny_bind (wpAny_newTuple ?_ (by rw [List.toList_toArray]; omega))
  refine wpAny_bind (wpAny_newList ?_)
  refine wpAny_holding ?_
  have ho6 : (((s.heap.update a (Obj.mapSeq fun _ => #[])).push (seqObj "tuple" vs.toArray 0)).push (seqObj "list" #[] 0)).get? a = some (seqObj "list" #[] e1) := by
    rw [Heap.get?_push_ne _ _ _ (by rw [size_push', Heap.size_update]; exact Nat.ne_of_lt (Nat.lt_succ_of_lt ha)), Heap.get?_push_ne _ _ _ (by rw [Heap.size_update]; exact Nat.ne_of_lt ha)]
    exact ho1
  have kp : ∀ b o, o.cls = .type "tuple" → s.heap.get? b = some o → (((s.heap.update a (Obj.mapSeq fun _ => #[])).push (seqObj "tuple" vs.toArray 0)).push (seqObj "list" #[] 0)).get? b = some o := by
    intro b o hc hb
    have nb : b ≠ a := fun z => by rw [z, ho] at hb; cases hb; simp at hc
    exact Heap.get?_push_of_some _ (Heap.get?_push_of_some _ ((Heap.SameBut.update ..).extBut _ _ nb hb))
  show wpAny (model prog w) A _ R E { s with heap := ((s.heap.update a (Obj.mapSeq fun _ => #[])).push (seqObj "tuple" vs.toArray 0)).push (seqObj "list" #[] 0) }
  dsimp only
  have hsz : vs.toArray.size = vs.length := by simp
  have fin : R (.done (.ret .none)) { s with heap := sortedHeap s.heap a vs ((pairsOf vs).map (·.2)) } := by rw [pairs_snd]; exact h
  by_cases h2 : vs.toArray.size < 2
  · rw [if_pos h2, if_pos h2]
    refine wpAny_bind (wpAny_pure ?_)
    rw [StateT.run_pure]
    refine wpAny_bind (wpAny_pure ?_)
    dsimp only
    refine wpAny_bind (seqEpoch_at ho6 rfl ?_)
    refine wpAny_bind (listUpdate_at ho6 rfl ?_ (hsz2 := by rw [Array.size_map]; show (pairsOf vs).size ≤ _; rw [pairsOf_size]; omega))
    simp only [bne_self_eq_false, Bool.false_eq_true, if_false]
    exact wpAny_pure fin
  · rw [if_neg h2, if_neg h2]
    obtain ⟨v₁, rest, rfl⟩ : ∃ v₁ rest, vs = v₁ :: rest := by
      match vs, h2 with
      | [], h2 => simp at h2
      | v₁ :: rest, _ => exact ⟨v₁, rest, rfl⟩
    have hA' := hA.keep kp
    refine wpAny_bind (keyKind_tup hA'.1 ?_)
    refine wpAny_bind (wpAny_mono (wpS_sortAsc (st := SortSt.mk' (tuples' true) ((v₁ :: rest).toArray.zip (v₁ :: rest).toArray) #[] 7 none)
      (Q := fun _ st' => arrOf st' = pairsOf (v₁ :: rest) ∧ failedOf st' = none) rfl hA'.asc (by show 2 ≤ (pairsOf (v₁ :: rest)).size; rw [pairsOf_size]; omega) rfl fun st' a1 a2 => ⟨a1, a2⟩) ?_ fun _ _ e => e)
    rintro ⟨⟨⟩, st'⟩ s' ⟨rfl, hp, hf⟩
    dsimp only
    refine wpAny_bind (seqEpoch_at ho6 rfl ?_)
    refine wpAny_bind (listUpdate_at ho6 rfl ?_ (hsz2 := by rw [Array.size_map, hp, pairsOf_size]; omega))
    rw [hf]
    simp only [bne_self_eq_false, Bool.false_eq_true, if_false]
    refine wpAny_pure ?_
    rw [hp]
    exact fin
theorem sorted_asc {l : Addr} {vs : List Value} {Q : Value → Shared → Prop} (hl : s.heap.IsList l vs.toArray) (hA : AscV s.heap vs) (hlen : vs.length ≤ 100000)
    (h : Q (.ref (s.heap.objs.size + 1)) { s with heap := sortedAll s.heap vs vs.toArray }) :
    wpAny (model prog w) A (call (.builtin "sorted") [.ref l]) Q E s := by
  have hsl : sizeLine = 16777216 := by decide
  refine Calls.call_function_entry kind_sorted plain_sorted entry_sorted (args_sorted1 _) ?_
  unfold Builtin.«sorted»
  refine wpAny_bind (m := checkCount "sorted" 1 1 _) (wpAny_pure ?_)
  refine wpAny_bind (collect_list hl ?_ (by omega))
  refine wpAny_bind (wpAny_newList ?_ (by omega))
  have hsz : ((s.heap.push (seqObj "list" #[] 0)).update s.heap.objs.size (Obj.mapSeq (· ++ vs.toArray))).objs.size = s.heap.objs.size + 1 := by
    rw [Heap.size_update, size_push']
  have hoL : (((s.heap.push (seqObj "list" #[] 0)).update s.heap.objs.size (Obj.mapSeq (· ++ vs.toArray))).push (seqObj "list" vs.toArray 0)).get? (s.heap.objs.size + 1) = some (seqObj "list" vs.toArray 0) := by
    rw [← hsz]; exact Heap.get?_push_size _ rfl
  have kp : ∀ b o, o.cls = .type "tuple" → s.heap.get? b = some o → (((s.heap.push (seqObj "list" #[] 0)).update s.heap.objs.size (Obj.mapSeq (· ++ vs.toArray))).push (seqObj "list" vs.toArray 0)).get? b = some o := by
    intro b o hc hb
    have nb : b ≠ s.heap.objs.size := Nat.ne_of_lt (Heap.lt_size hb)
    exact Heap.get?_push_of_some _ ((Heap.SameBut.update ..).extBut _ _ nb (Heap.get?_push_of_some _ hb))
  show wpAny _ _ _ _ _ { s with heap := ((s.heap.push (seqObj "list" #[] 0)).update s.heap.objs.size (Obj.mapSeq (· ++ vs.toArray))).push (seqObj "list" vs.toArray 0) }
  rw [hsz]
  refine wpAny_bind (wpAny_holding (wpAny_call_entry slot_list_sort ⟨_, hoL, rfl⟩ entry_list_sort (list_sort_asc hoL (hA.keep kp) hlen ⟨_, rfl, ?_⟩) (args_list_sort _)))
  exact wpAny_pure ⟨_, rfl, h⟩
end
/-- rows in order -/
def AscR (rows : List (List Int)) : Prop := (∀ r ∈ rows, 1 ≤ r.length) ∧ ∀ i r r', rows[i]? = some r → rows[i + 1]? = some r' → r'.length = r.length ∧ lexLt r r' = true
section
variable {X : Cx}
theorem call_sortedT (hu : X.A.units + 64 < cLine) : CallR X (.builtin "sorted") (fun xs H Q => ∃ a ys rows, xs = [.ref a] ∧ SqL X.K H a ys ∧ DVs X.K H (rows.map tI) ys ∧ AscR rows ∧ ys.length ≤ 100000 ∧ ∀ p, H p = none → Q (.ref p) (upd H p (.lst ys))) := by
  rintro pins s σ H xs us Q I r ⟨a, ys, rows, rfl, hq, hD, hA, hl, q⟩
  obtain ⟨u, rfl, rx⟩ := vals1 r
  cases (show u = Value.ref a from rx)
  obtain ⟨its, rv, p, hz⟩ := I.list hq
  have lv := rv.length
  have lD := hD.length
  rw [List.length_map] at lD
  have get : ∀ (i : Nat) (v : Value), its[i]? = some v → ∃ r, rows[i]? = some r ∧ TpI s.heap v r := by
    intro i v hv
    have hi : i < ys.length := by have := (List.getElem?_eq_some_iff.mp hv).1; omega
    obtain ⟨u, e1, e2⟩ := rv.get (i := i) (x := ys[i]) (List.getElem?_eq_getElem hi)
    rw [hv] at e1; cases e1
    obtain ⟨d, hd, dv⟩ := hD.get (i := i) (List.getElem?_eq_getElem hi)
    rw [List.getElem?_map] at hd
    obtain ⟨r, hr, rfl⟩ : ∃ r, rows[i]? = some r ∧ tI r = d := by
      cases e : rows[i]? with
      | none => rw [e] at hd; cases hd
      | some r => rw [e] at hd; exact ⟨r, rfl, Option.some.inj hd⟩
    obtain ⟨b, e3, ht⟩ := DV.tI_inv dv
    rw [e3] at e2
    cases (show v = Value.ref b from e2)
    obtain ⟨ts, r1, ⟨o, g1, g2, n, g3⟩, _⟩ := I.tuple ht
    exact ⟨r, hr, b, o, ts, n, rfl, g1, g2, g3, intsAre_of r1⟩
  have hV : AscV s.heap its := by
    refine ⟨fun v hv => ?_, fun i x y e1 e2 => ?_⟩
    · obtain ⟨i, hi⟩ := List.mem_iff_getElem?.mp hv
      obtain ⟨r, hr, ht⟩ := get i v hi
      exact ⟨r, ht, hA.1 r (List.mem_of_getElem? hr)⟩
    · obtain ⟨r, hr, ht⟩ := get i y e1
      obtain ⟨r', hr', ht'⟩ := get (i + 1) x e2
      obtain ⟨h1, h2⟩ := hA.2 i r r' hr hr'
      exact ⟨r', r, ht', ht, h1, h2⟩
  refine sorted_asc p.isList hV (by omega) ?_
  have hf : H (s.heap.objs.size + 1) = none := I.hok.fresh (Nat.le_succ _)
  obtain ⟨e, he⟩ := sortedAll_at s.heap its its.toArray
  refine ⟨.ref (s.heap.objs.size + 1), upd H (s.heap.objs.size + 1) (.lst ys), I.laid (t' := s.toks) (fun b o hb => sortedAll_old hb) (Nat.le_succ _) ?_, rfl, q _ hf⟩
  exact ⟨hz, its, e, rv, he⟩
end
end L2

set_option Elab.async false
set_option linter.all false
set_option maxRecDepth 100000
set_option maxHeartbeats 4000000
namespace L2
open PySem PySem.Spec PyProof.Rows
section
variable {X : Cx}
theorem walkS {prog : Program} {w : World} {A : Around} (t : Bool) (hh : A.handled = none) (I ax : Addr) (hne : ax ≠ I) (items : Array Value) :
    Walks prog w A I [I, ax] [I] items.size (fun i v => items[i]? = some v) (fun i h => SIt t h I ax i ∧ SAt t h ax items) := by
  cases t
  · exact Walks.list hh I ax hne items
  · exact Walks.tuple hh I ax hne items
theorem val_at {ns : List Int} {its : List Value} (rv : Vals (ns.map V.int) its) (i : Nat) (v : Value) (hv : its.toArray[i]? = some v) : i < ns.length ∧ ∃ t, v = .int (ns.getD i 0) t := by
  have hv' : its[i]? = some v := by simpa using hv
  have l2 := rv.length
  rw [List.length_map] at l2
  have hl : i < ns.length := by have := (List.getElem?_eq_some_iff.mp hv').1; omega
  obtain ⟨u2, h1, t, h2⟩ := rv.get (i := i) (x := .int ns[i]) (by simp [hl])
  rw [hv'] at h1; cases h1
  refine ⟨hl, t, h2.trans ?_⟩
  rw [List.getD_eq_getElem?_getD, List.getElem?_eq_getElem hl]; rfl
/-- max, min of ints in a list (false) or a tuple (true) -/
theorem call_maxS (t : Bool) (hc : X.calm = true) : CallR X (.builtin "max") (fun xs H Q => ∃ (a : Addr) (ns : List Int), xs = [.ref a] ∧ SqB X.K t H a (ns.map V.int) ∧ ns ≠ [] ∧ ∀ m, m ∈ ns → (∀ x ∈ ns, x ≤ m) → Q (.int m) H) := by
  rintro pins s σ H xs us Q I r ⟨a, ns, rfl, h, hne, q⟩
  obtain ⟨u, rfl, rx⟩ := vals1 r
  cases (show u = Value.ref a from rx)
  obtain ⟨its, rv, p, hz⟩ := I.sq h
  have l2 := rv.length
  rw [List.length_map] at l2
  have hpos : 0 < ns.length := List.length_pos_iff.mpr hne
  have hlt := p.lt
  refine call_max_walk (iterS p ?_)
  refine ⟨s.heap.objs.size, _, _, _, _, _, _, rfl, walkS (A := X.A.in1) t (I.ok.hd hc) s.heap.objs.size a (Nat.ne_of_lt hlt) its.toArray, ⟨?_, p.at fun o e => Heap.get?_push_of_some _ e⟩, fun b hb => ?_, by rw [List.size_toArray]; omega, CmpOf.ints_gt (fun i => ns.getD i 0) (fun i v hv => (val_at rv i v hv).2), fun v h' tk hP hk => ?_⟩
  · cases t <;> exact ⟨_, Heap.get?_push_size _ rfl, rfl, rfl⟩
  · show b < (s.heap.push _).objs.size
    rw [Heap.size_push]
    simp only [List.mem_cons, List.not_mem_nil, or_false] at hb
    rcases hb with e | e
    · rw [e]; exact Nat.lt_succ_self _
    · rw [e]; exact Nat.lt_succ_of_lt hlt
  · obtain ⟨hl, t', e⟩ := val_at rv _ v hP
    obtain ⟨g1, g2⟩ := argBest_gt (fun i => ns.getD i 0) (its.toArray.size - 1)
    refine ⟨.int (ns.getD (argBest (fun i j => decide (ns.getD i 0 > ns.getD j 0)) (its.toArray.size - 1)) 0), H, I.kept (fun b o e => hk b o ?_ (Heap.get?_push_of_some _ e)), ⟨t', e⟩, q _ ?_ fun x hx => ?_⟩
    · intro hb
      have : b = s.heap.objs.size := by simpa using hb
      exact absurd (Heap.lt_size e) (by rw [this]; exact Nat.lt_irrefl _)
    · rw [List.getD_eq_getElem?_getD, List.getElem?_eq_getElem hl]; exact List.getElem_mem hl
    · obtain ⟨j, hj, rfl⟩ := List.mem_iff_getElem.mp hx
      have := g2 j (by rw [List.size_toArray]; omega)
      rw [List.getD_eq_getElem?_getD, List.getElem?_eq_getElem hj] at this
      exact this
theorem call_minS (t : Bool) (hc : X.calm = true) : CallR X (.builtin "min") (fun xs H Q => ∃ (a : Addr) (ns : List Int), xs = [.ref a] ∧ SqB X.K t H a (ns.map V.int) ∧ ns ≠ [] ∧ ∀ m, m ∈ ns → (∀ x ∈ ns, m ≤ x) → Q (.int m) H) := by
  rintro pins s σ H xs us Q I r ⟨a, ns, rfl, h, hne, q⟩
  obtain ⟨u, rfl, rx⟩ := vals1 r
  cases (show u = Value.ref a from rx)
  obtain ⟨its, rv, p, hz⟩ := I.sq h
  have l2 := rv.length
  rw [List.length_map] at l2
  have hpos : 0 < ns.length := List.length_pos_iff.mpr hne
  have hlt := p.lt
  refine call_min_walk (iterS p ?_)
  refine ⟨s.heap.objs.size, _, _, _, _, _, _, rfl, walkS (A := X.A.in1) t (I.ok.hd hc) s.heap.objs.size a (Nat.ne_of_lt hlt) its.toArray, ⟨?_, p.at fun o e => Heap.get?_push_of_some _ e⟩, fun b hb => ?_, by rw [List.size_toArray]; omega, CmpOf.ints_lt (fun i => ns.getD i 0) (fun i v hv => (val_at rv i v hv).2), fun v h' tk hP hk => ?_⟩
  · cases t <;> exact ⟨_, Heap.get?_push_size _ rfl, rfl, rfl⟩
  · show b < (s.heap.push _).objs.size
    rw [Heap.size_push]
    simp only [List.mem_cons, List.not_mem_nil, or_false] at hb
    rcases hb with e | e
    · rw [e]; exact Nat.lt_succ_self _
    · rw [e]; exact Nat.lt_succ_of_lt hlt
  · obtain ⟨hl, t', e⟩ := val_at rv _ v hP
    obtain ⟨g1, g2⟩ := argBest_lt (fun i => ns.getD i 0) (its.toArray.size - 1)
    refine ⟨.int (ns.getD (argBest (fun i j => decide (ns.getD i 0 < ns.getD j 0)) (its.toArray.size - 1)) 0), H, I.kept (fun b o e => hk b o ?_ (Heap.get?_push_of_some _ e)), ⟨t', e⟩, q _ ?_ fun x hx => ?_⟩
    · intro hb
      have : b = s.heap.objs.size := by simpa using hb
      exact absurd (Heap.lt_size e) (by rw [this]; exact Nat.lt_irrefl _)
    · rw [List.getD_eq_getElem?_getD, List.getElem?_eq_getElem hl]; exact List.getElem_mem hl
    · obtain ⟨j, hj, rfl⟩ := List.mem_iff_getElem.mp hx
      have := g2 j (by rw [List.size_toArray]; omega)
      rw [List.getD_eq_getElem?_getD (i := j), List.getElem?_eq_getElem hj] at this
      exact this
/-- sorted(..) of a short list of ints -/
theorem call_sortedI : CallR X (.builtin "sorted") (fun xs H Q => ∃ (a : Addr) (ns : List Int), xs = [.ref a] ∧ SqL X.K H a (ns.map V.int) ∧ ns.length < 64 ∧ ∀ (p : Addr) (ns' : List Int), H p = none → ns'.Perm ns → ns'.Pairwise (· ≤ ·) → Q (.ref p) (upd H p (.lst (ns'.map V.int)))) := by
  rintro pins s σ H xs us Q I r ⟨a, ns, rfl, h, hl, q⟩
  obtain ⟨u, rfl, rx⟩ := vals1 r
  cases (show u = Value.ref a from rx)
  obtain ⟨its, rv, p, hz⟩ := I.list h
  have lv := rv.length
  rw [List.length_map] at lv
  have hf : H (s.heap.objs.size + 1) = none := I.hok.fresh (Nat.le_succ _)
  refine sorted_ints p.isList (intsAre_of rv) (by omega) fun out ns' h1 h2 h3 => ?_
  obtain ⟨e, he⟩ := sortedAll_at s.heap its out
  refine ⟨.ref (s.heap.objs.size + 1), upd H (s.heap.objs.size + 1) (.lst (ns'.map V.int)), I.laid (t' := s.toks) (fun b o hb => sortedAll_old hb) (Nat.le_succ _) ?_, rfl, q _ _ hf h2 h3⟩
  refine ⟨by rw [List.length_map, h2.length_eq]; exact Nat.le_trans (Nat.le_of_lt hl) (by decide), out.toList, e, vals_ints h1, by simpa using he⟩
end
theorem comp_zipT {K : PySem.W.Frag} {t1 t2 : Bool} {a b : Addr} {xs ys : List V} {g : TG} {tt : TT} {te : TE} {Q : LK} {σ : St} {H : Hp} (Pv : Nat → List V → St → Hp → Prop) (h0 : Pv 0 [] σ H) (hl : ∀ i zs σ H, i ≤ (xs.zip ys).length → Pv i zs σ H → SqB K t1 H a xs ∧ SqB K t2 H b ys)
    (hs : ∀ i x y zs σ H p, xs[i]? = some x → ys[i]? = some y → H p = none → Pv i zs σ H → g (.ref p) σ (upd H p (.tup [x, y])) fun σ2 H2 => tt σ2 H2 fun b H3 => if b = true then tEmit te zs σ2 H3 (Pv (i + 1)) else Pv (i + 1) zs σ2 H3) (hd : ∀ zs σ H, Pv (xs.zip ys).length zs σ H → Q zs σ H) :
    ∃ W : Nat → List V → Nat → St → Hp → Prop, (∃ m, W 0 [] m σ H) ∧ LTurn (Itz K t1 t2 a b) g tt (tEmit te) Q W := by
  refine ⟨fun i zs m σ H => m = (xs.zip ys).length - i ∧ i ≤ (xs.zip ys).length ∧ Pv i zs σ H, ⟨(xs.zip ys).length, rfl, Nat.zero_le _, h0⟩, ?_⟩
  rintro i zs m σ H ⟨rfl, hi, p⟩
  obtain ⟨q1, q2⟩ := hl i zs σ H hi p
  have lz : (xs.zip ys).length = min xs.length ys.length := List.length_zip
  by_cases hlt : i < (xs.zip ys).length
  · have ix : i < xs.length := by omega
    have iy : i < ys.length := by omega
    refine .inr ⟨⟨xs, ys, xs[i], ys[i], q1, q2, by simp [ix], by simp [iy]⟩, Pv (i + 1), fun zs' σ' H' p' => ⟨(xs.zip ys).length - (i + 1), by omega, rfl, hlt, p'⟩, fun x H' y => ?_⟩
    obtain ⟨r, x', y', e, hn, e', h⟩ := y
    subst e e'
    obtain ⟨g1, g2⟩ := h xs ys q1 q2
    exact hs i x' y' zs σ H r g1 g2 hn p
  · have e : i = (xs.zip ys).length := by omega
    subst e
    exact .inl ⟨⟨xs, ys, q1, q2, by omega⟩, hd zs σ H p⟩
/-! ### data without lists stays while a list changes -/
mutual
def flatD : PyData → Bool
  | .none => true
  | .bool _ => true
  | .int _ => true
  | .str _ => true
  | .list _ => false
  | .tuple ds => flatDs ds
  | .dict _ => false
def flatDs : List PyData → Bool
  | [] => true
  | d :: ds => flatD d && flatDs ds
end
theorem SqT.but {K : PySem.W.Frag} {H H' : Hp} {v a : Addr} {xs ys : List V} (hv : H v = some (.lst ys)) (s : SB v H H') (h : SqT K H a xs) : SqT K H' a xs := by
  rcases h with (h | ⟨o, h⟩) | h
  · exact .inl (.inl (s _ _ (fun z => by rw [z, hv] at h; cases h) h))
  · exact .inl (.inr ⟨o, s _ _ (fun z => by rw [z, hv] at h; cases h) h⟩)
  · exact .inr h
mutual
theorem DV.but {K : PySem.W.Frag} {H H' : Hp} {v : Addr} {ys : List V} (hv : H v = some (.lst ys)) (e : SB v H H') : ∀ {d : PyData} {x : V}, flatD d = true → DV K H d x → DV K H' d x
  | .none, _, _, h => by unfold DV at h ⊢; exact h
  | .bool _, _, _, h => by unfold DV at h ⊢; exact h
  | .int _, _, _, h => by unfold DV at h ⊢; exact h
  | .str _, _, _, h => by unfold DV at h ⊢; exact h
  | .list _, _, f, _ => by simp [flatD] at f
  | .tuple ds, _, f, h => by
    unfold DV at h ⊢
    obtain ⟨a, xs, q1, q2, q3⟩ := h
    exact ⟨a, xs, q1, SqT.but hv e q2, DVs.but hv e (by simpa [flatD] using f) q3⟩
  | .dict _, _, _, h => by unfold DV at h; exact h.elim
theorem DVs.but {K : PySem.W.Frag} {H H' : Hp} {v : Addr} {ys : List V} (hv : H v = some (.lst ys)) (e : SB v H H') : ∀ {ds : List PyData} {xs : List V}, flatDs ds = true → DVs K H ds xs → DVs K H' ds xs
  | [], _, _, h => by unfold DVs at h ⊢; exact h
  | d :: ds, _, f, h => by
    unfold DVs at h ⊢
    obtain ⟨x, r, q1, q2, q3⟩ := h
    have f' : flatD d = true ∧ flatDs ds = true := by simpa [flatDs] using f
    exact ⟨x, r, q1, DV.but hv e f'.1 q2, DVs.but hv e f'.2 q3⟩
end
theorem flatD_ints (ns : List Int) : flatDs (ns.map .int) = true := by
  induction ns with
  | nil => simp [flatDs]
  | cons x r ih => simp [flatDs, flatD, ih]
theorem flatD_tI (ns : List Int) : flatD (tI ns) = true := by unfold tI; rw [flatD]; exact flatD_ints ns
theorem i_ps_par2 {X : Cx} {x y : Str} {a b : Expr} {ta : TA} {px py pt pos : Pos} {kt k2 : Nat} {pt2 : Pos} (i j : Nat) (hc : X.calm = true) (hN : X.N.Nodup) (ha : IPA X [a, b] ta) (hi : X.N[i]? = some x := by rfl) (hj : X.N[j]? = some y := by rfl) (hij : i ≠ j := by decide)
    (hx : X.env.scope.names.lookup x = some .local := by rfl) (hy : X.env.scope.names.lookup y = some .local := by rfl)
    (hw : swappedStores [.Tuple [.Name x px, .Name y py] kt pt] (.Tuple [a, b] k2 pt2) X.env = pure (some [x, y]) := by rfl)
    (hs : swapsWithSole [.Tuple [.Name x px, .Name y py] kt pt] (.Tuple [a, b] k2 pt2) pos.line X.env = pure false := by rfl) :
    IPS X (.Assign [.Tuple [.Name x px, .Name y py] kt pt] (.Tuple [a, b] k2 pt2) pos) (tPar i j ta) := by
  rw [IPS_eq]
  rw [IPA_eq] at ha
  exact ps_par hc hN hi hj hij hx hy ha hw hs
end L2

set_option Elab.async false
set_option linter.all false
set_option maxRecDepth 100000
set_option maxHeartbeats 4000000
namespace L2
open PySem PySem.Spec PyProof.Rows
/-! ### a def with one default, an object of the text -/
def gaQ {α : Type} (d : α) (na nk : Nat) (pick : List (Nat × Nat)) (us ws : List α) : List α := if us.length = na ∧ ws.length = nk then pick.filterMap (fun p => if p.1 = 0 then us[p.2]? else if p.1 = 1 then ws[p.2]? else some d) else []
theorem gaQ_len {na nk : Nat} {pick : List (Nat × Nat)} {α : Type} {d : α} {us ws : List α} {n : Nat} (h : (gaQ d na nk pick us ws).length = n + 1) : us.length = na ∧ ws.length = nk := by
  unfold gaQ at h
  split at h
  · assumption
  · cases h
theorem gaQ_rel {na nk : Nat} {pick : List (Nat × Nat)} {dv : V} {du : Value} (hd : RelV dv du) {vs : List V} {us : List Value} {zs : List V} {ws : List Value} (r : Vals vs us) (z : Vals zs ws) : Vals (gaQ dv na nk pick vs zs) (gaQ du na nk pick us ws) := by
  unfold gaQ
  rw [r.length, z.length]
  split
  · induction pick with
    | nil => exact .nil
    | cons p t ih =>
      have look : ∀ {as : List V} {bs : List Value}, Vals as bs → ∀ i : Nat, (∃ a b, as[i]? = some a ∧ bs[i]? = some b ∧ RelV a b) ∨ (as[i]? = none ∧ bs[i]? = none) := fun {as bs} q i => by
        cases e : as[i]? with
        | none => exact .inr ⟨rfl, q.none_of e⟩
        | some a => obtain ⟨b, h1, h2⟩ := q.get e; exact .inl ⟨a, b, rfl, h1, h2⟩
      rw [List.filterMap_cons, List.filterMap_cons]
      by_cases c0 : p.1 = 0
      · rcases look r p.2 with ⟨a, b, e1, e2, q⟩ | ⟨e1, e2⟩
        · simp only [c0, if_true, e1, e2]; exact .cons q ih
        · simp only [c0, if_true, e1, e2]; exact ih
      · by_cases c1 : p.1 = 1
        · rcases look z p.2 with ⟨a, b, e1, e2, q⟩ | ⟨e1, e2⟩
          · simp only [c0, c1, if_false, if_true, e1, e2]; exact .cons q ih
          · simp only [c0, c1, if_false, if_true, e1, e2]; exact ih
        · simp only [c0, c1, if_false]; exact .cons hd ih
  · exact .nil
def KBindsD (x : Str) (st : Stmt) (ps ks : List Str) (na nk : Nat) (pick : List (Nat × Nat)) : Prop := ∀ (T e : Addr) (kV doc pm : Value) (an : Option Addr) (cdv ct : Value) (us ws : List Value), (gaQ (Value.ref e) na nk pick us ws).length = ps.length →
  ∃ k : Option (Array Value) → Sem (List (Str × Value)), bindArgs (PySem.W.fnOf x x (defArgs st) (defBody st) (defScope st) (.ref T) kV doc pm an cdv ct) ⟨us, ks.zip ws⟩ = seqItems? (.ref T) >>= k ∧ k (some #[.ref e]) = pure (ps.zip (gaQ (Value.ref e) na nk pick us ws))
structure FunD (K : PySem.W.Frag) (x : Str) (st : Stmt) (f : Addr) (fd : FuncData) (e : Addr) : Prop where
  ex : ∃ (oc : Value) (od : Option Addr) (T : Addr) (kV doc pm : Value) (an : Option Addr) (cdv ct : Value) (osl : Array (Option Value)) (oT : Obj) (n : Nat),
    fd = PySem.W.fnOf x x (defArgs st) (defBody st) (defScope st) (.ref T) kV doc pm an cdv ct ∧ K.lookup f = some ⟨oc, od, .func fd, osl⟩ ∧ PySem.W.codeIn K cdv x = true ∧ K.lookup T = some oT ∧ oT.data = .seq #[.ref e] n
  kp : PySem.W.keepIn K (.ref f) = true
def EmptyAt (K : PySem.W.Frag) (e : Addr) : Prop := ∃ (o : Obj) (n : Nat), K.lookup e = some o ∧ o.cls = .type "tuple" ∧ o.data = .seq #[] n
theorem EmptyAt.tup {K : PySem.W.Frag} {e : Addr} (h : EmptyAt K e) (H : Hp) : SqT K H e [] := by
  obtain ⟨o, n, h1, h2, h3⟩ := h
  exact .inr ⟨o, #[], n, h1, h2, h3, by decide, .nil⟩
theorem FunD.kbinds {K : PySem.W.Frag} {x : Str} {st : Stmt} {ps ks : List Str} {na nk : Nat} {pick : List (Nat × Nat)} {f e : Addr} {fd : FuncData} (F : FunD K x st f fd e) (h : KBindsD x st ps ks na nk pick) : KBinds K fd ps ks (gaQ (Value.ref e) na nk pick) (gaQ (V.ref e) na nk pick) := by
  obtain ⟨oc, od, T, kV, doc, pm, an, cdv, ct, osl, oT, n, rfl, lk, hcd, hT, hd⟩ := F.ex
  refine ⟨fun s us ws kin hl => ?_, fun r z => gaQ_rel (show RelV (V.ref e) (Value.ref e) from rfl) r z⟩
  obtain ⟨k, h1, h2⟩ := h T e kV doc pm an cdv ct us ws hl
  exact BindsTo.of_defaults (T := T) rfl (kin T oT hT) hd h1 h2
structure DnD (P : Program) (w : World) (K : PySem.W.Frag) (mg : Str → Option Value) (base : Heap) (k : Nat) (x : Str) (st : Stmt) (ps : List Str) (sp : Sp) (e : Addr) : Prop where
  ex : ∃ f fd, FnOk P w K mg base CX0 k f fd ps sp ∧ FunD K x st f fd e ∧ mg x = some (.ref f)
theorem DnD.of {P : Program} {w : World} {K : PySem.W.Frag} {mg : Str → Option Value} {base : Heap} {x : Str} {st : Stmt} {N ps : List Str} {k : Nat} {sp : Sp} {e : Addr} (U : ∃ f fd, FunD K x st f fd e ∧ mg x = some (.ref f)) (S : FnScope N ps (defScope st)) (len : ∀ vs H Q E, sp vs H Q E → vs.length = ps.length)
    (hbody : ∀ (f : Addr) (cdv : Value) (A : Around) (outer : List Env) (s : Shared) (H : Hp) (vs : List V) (Q : VK) (E : XK), Room k (A.deeper (envOfC x (defScope st) s.heap.objs.size f cdv)) → sp vs H Q E →
      ∃ t, PSs (cxOf CX0 P w K mg base N x (defScope st) f cdv A outer s H E).nox (defBody st) t ∧ t { nx := fun _ H' => Q .non H', rt := Q } (start N vs) H) : DnD P w K mg base (k + 1) x st ps sp e := by
  obtain ⟨f, fd, F, m⟩ := U
  refine ⟨f, fd, ?_, F, m⟩
  obtain ⟨oc, od, T, kV, doc, pm, an, cdv, ct, osl, oT, n, rfl, lk, hcd, hT, hd⟩ := F.ex
  refine fn_of lk hcd S len fun A outer s H vs Q E hr hsp => ?_
  obtain ⟨t, h, q⟩ := hbody f cdv A outer s H vs Q E hr hsp
  exact ⟨t, h.nox, q⟩
section
variable {X : Cx} {k : Nat} {x : Str} {st : Stmt} {ps ks : List Str} {sp : Sp} {p pos : Pos} {e : Expr} {es : List Expr} {kws : List Keyword} {t tk : TA} {na nk : Nat} {pick : List (Nat × Nat)} {d : Addr}
theorem i_pe_defDK0 (D : DnD X.prog X.w X.K X.mg X.base k x st ps sp d) (hb : KBindsD x st ps ks na nk pick) (hr : Room k X.A) (hkw : IPK X kws tk) (hg : Gl X x := by rfl) (hall : (backToKw pos (keywordEach kws X.env)).all (·.1.isSome) = true := by rfl) (hks : (backToKw pos (keywordEach kws X.env)).filterMap (·.1) = ks := by rfl)
    (hdb : (x == ("__debug__" : Str)) = false := by decide) (hpl : ((backTo pos (starEach [] X.env)).any (·.1) || (backToKw pos (keywordEach kws X.env)).any (·.1.isNone)) = false := by rfl) : IPE X (.Call (.Name x p) [] kws pos) (tCallK sp (gaQ (V.ref d) na nk pick) E0 tNil tk) := by
  rw [IPE_eq]; rw [IPK_eq] at hkw
  obtain ⟨f, fd, F, U, m⟩ := D.ex
  exact pe_callK0 F hr hg m U.kp (U.kbinds hb) pass0 hkw hall hks hdb hpl
theorem i_pe_defDK (D : DnD X.prog X.w X.K X.mg X.base k x st ps sp d) (hb : KBindsD x st ps ks na nk pick) (hr : Room k X.A) (ha : IPA X (e :: es) t) (hkw : IPK X kws tk) (hg : Gl X x := by rfl) (hall : (backToKw pos (keywordEach kws X.env)).all (·.1.isSome) = true := by rfl) (hks : (backToKw pos (keywordEach kws X.env)).filterMap (·.1) = ks := by rfl)
    (hdb : (x == ("__debug__" : Str)) = false := by decide) (he : starEach (e :: es) X.env = (false, eval e X.env) :: starEach es X.env := by rfl)
    (hpl : ((backTo pos (starEach (e :: es) X.env)).any (·.1) || (backToKw pos (keywordEach kws X.env)).any (·.1.isNone)) = false := by rfl) : IPE X (.Call (.Name x p) (e :: es) kws pos) (tCallK sp (gaQ (V.ref d) na nk pick) E0 t tk) := by
  rw [IPE_eq]; rw [IPK_eq] at hkw; rw [IPA_eq] at ha
  obtain ⟨f, fd, F, U, m⟩ := D.ex
  exact pe_callK F hr hg m U.kp (U.kbinds hb) pass0 ha hkw hall hks hdb he hpl
end
end L2

set_option Elab.async false
set_option linter.all false
set_option maxRecDepth 100000
set_option maxHeartbeats 4000000
namespace L2
open PySem PySem.Spec PyProof.Rows
section
variable {prog : Program} {w : World} {A : Around} {E : Value → Shared → Prop} {s : Shared}
open HT in
theorem getItem_tuple_whole {t sl : Addr} {items : Array Value} {vl vu : Value} {lo hi : Option Int} {Q : Value → Shared → Prop} (ht : IsTup s.heap t items) (hs : s.heap.IsSliceOf sl vl vu .none) (pl : IsPart vl lo) (pu : IsPart vu hi)
    (hw : sIx items.size 0 lo = 0 ∧ sIx items.size items.size hi = items.size) (h : Q (.ref t) s) : wpAny (model prog w) A (getItem (.ref t) (.ref sl)) Q E s := by
  obtain ⟨os, hos, hcs, hds⟩ := id hs
  have hTs : s.TypeIs (.ref sl) "slice" := ⟨os, hos, hcs⟩
  unfold getItem
  try with_reducible refine wpAny_holding ?_
  first | refine wpAny_bind (wpAny_pure ?_) | skip
  refine wpAny_bind (wpAny_sequenceKey ht.typeIs (by decide) ?_)
  refine wpAny_bind (wpAny_callSpecial?_slot (name := Str.ofString "__getitem__") ht.typeIs PyProof.Rows.slot_tuple_getitem
    (wpAny_call_entry PyProof.Rows.slot_tuple_getitem ht.typeIs entry_tuple_getitem ?_ (args_tuple_getitem _ _)))
  show wpAny _ _ (Builtin.Tuple.tupleItemsOf (.ref t) >>= _) _ _ s
  refine wpAny_bind (tupleItemsOf_ ht ?_)
  refine wpAny_bind (wpAny_typeOf hTs ?_)
  rw [if_pos (by decide)]
  refine wpAny_bind (sliceApplied_gen hs pl pu ?_)
  show wpAny _ _ (if (((sIx items.size 0 lo : Nat) : Int) == 0 && (1 : Int) == 1 && (sIx items.size items.size hi - sIx items.size 0 lo) == items.size) = true then _ else _) _ _ s
  rw [if_pos (by rw [hw.1, hw.2]; simp)]
  refine wpAny_bind ?_
  unfold Builtin.Tuple.tupleIsExact
  refine wpAny_bind (wpAny_typeOf ht.typeIs (wpAny_pure ?_))
  rw [if_pos (by decide)]
  exact wpAny_bind (wpAny_rule (wpAny_pure ⟨_, rfl, wpAny_pure h⟩))
end
section
variable {X : Cx}
/-- t[lo:hi], whole or not -/
def rSlTA (K : PySem.W.Frag) : V → Option Int → Option Int → Hp → VK → Prop := fun x lo hi H Q => ∃ a xs, x = .ref a ∧ SqT K H a xs ∧ ∀ p H', Same H H' → SqT K H' p (cutV xs lo hi) → Q (.ref p) H'
theorem sl_tupA : SlR X (rSlTA X.K) := by
  intro pins s σ H x v vl vu lo hi sl Q I rx hs pl pu h
  obtain ⟨a, xs, rfl, hx, q⟩ := h
  by_cases hw : HT.sIx xs.length 0 lo = 0 ∧ HT.sIx xs.length xs.length hi = xs.length
  · cases rx
    obtain ⟨its, r, ht, hz⟩ := I.tuple hx
    have hlen : its.toArray.size = xs.length := by rw [List.size_toArray]; exact r.length.symm
    refine ⟨"tuple", _, PyProof.Rows.slot_tuple_getitem.lookup, ht.typeIs, ?_⟩
    refine getItem_tuple_whole ht hs pl pu (by rw [hlen]; exact hw) ⟨.ref a, H, I, rfl, q a H (Same.refl H) ?_⟩
    have e : cutV xs lo hi = xs := by unfold cutV; rw [hw.1, hw.2, List.drop_zero, Nat.sub_zero, List.take_length]
    rw [e]; exact hx
  · exact sl_tup pins s σ H _ v vl vu lo hi sl Q I rx hs pl pu ⟨a, xs, rfl, hx, hw, fun p hp => q p _ (same_newH hp _) (SqT.of upd_same)⟩
end
end L2

set_option Elab.async false
set_option linter.all false
set_option maxRecDepth 100000
set_option maxHeartbeats 4000000
namespace Mine
open PySem PySem.Spec PyProof.Rows L2
/-! the text by places -/
def top (i : Nat) : Stmt := PySem.Challenge.pw_bundleclocks_k06_told_bundles.main.body.getD i (.Pass ⟨0, 0, 0, 0⟩)
abbrev sTogether : Stmt := top 1
abbrev sToldBundles : Stmt := top 3
abbrev sLawUrn : Stmt := top 5
abbrev sLawDraw : Stmt := top 6
abbrev sLawAmounts : Stmt := top 7
abbrev sLawBundle : Stmt := top 8
abbrev sLawPrices : Stmt := top 9
abbrev sLawCost : Stmt := top 10
abbrev sLawAllWithin : Stmt := top 11
abbrev sLawTaste : Stmt := top 12
abbrev sLawLiked : Stmt := top 13
abbrev sLawWanted : Stmt := top 14
abbrev sLawSmall : Stmt := top 15
abbrev sLawTold : Stmt := top 16
abbrev sLawHistory : Stmt := top 17
abbrev sLawMeant : Stmt := top 18
abbrev sLawAnyRows : Stmt := top 19
abbrev sLawIsRight : Stmt := top 20
abbrev sLaw : Stmt := top 21
structure Txt (K : PySem.W.Frag) (mg : Str → Option Value) : Prop where
  f_together : ∃ f fd, Fun K "together" "together" sTogether f fd ∧ mg "together" = some (.ref f)
  f_told_bundles : ∃ e, EmptyAt K e ∧ ∃ f fd, FunD K "told_bundles" sToldBundles f fd e ∧ mg "told_bundles" = some (.ref f)
  f_law_urn : ∃ f fd, Fun K "_law_urn" "_law_urn" sLawUrn f fd ∧ mg "_law_urn" = some (.ref f)
  f_law_draw : ∃ f fd, Fun K "_law_draw" "_law_draw" sLawDraw f fd ∧ mg "_law_draw" = some (.ref f)
  f_law_amounts : ∃ f fd, Fun K "_law_amounts" "_law_amounts" sLawAmounts f fd ∧ mg "_law_amounts" = some (.ref f)
  f_law_bundle : ∃ f fd, Fun K "_law_bundle" "_law_bundle" sLawBundle f fd ∧ mg "_law_bundle" = some (.ref f)
  f_law_prices : ∃ f fd, Fun K "_law_prices" "_law_prices" sLawPrices f fd ∧ mg "_law_prices" = some (.ref f)
  f_law_cost : ∃ f fd, Fun K "_law_cost" "_law_cost" sLawCost f fd ∧ mg "_law_cost" = some (.ref f)
  f_law_all_within : ∃ f fd, Fun K "_law_all_within" "_law_all_within" sLawAllWithin f fd ∧ mg "_law_all_within" = some (.ref f)
  f_law_taste : ∃ f fd, Fun K "_law_taste" "_law_taste" sLawTaste f fd ∧ mg "_law_taste" = some (.ref f)
  f_law_liked : ∃ f fd, Fun K "_law_liked" "_law_liked" sLawLiked f fd ∧ mg "_law_liked" = some (.ref f)
  f_law_wanted : ∃ f fd, Fun K "_law_wanted" "_law_wanted" sLawWanted f fd ∧ mg "_law_wanted" = some (.ref f)
  f_law_small : ∃ f fd, Fun K "_law_small" "_law_small" sLawSmall f fd ∧ mg "_law_small" = some (.ref f)
  f_law_told : ∃ f fd, Fun K "_law_told" "_law_told" sLawTold f fd ∧ mg "_law_told" = some (.ref f)
  f_law_history : ∃ f fd, Fun K "_law_history" "_law_history" sLawHistory f fd ∧ mg "_law_history" = some (.ref f)
  f_law_meant : ∃ f fd, Fun K "_law_meant" "_law_meant" sLawMeant f fd ∧ mg "_law_meant" = some (.ref f)
  f_law_any_rows : ∃ f fd, Fun K "_law_any_rows" "_law_any_rows" sLawAnyRows f fd ∧ mg "_law_any_rows" = some (.ref f)
  f_law_is_right : ∃ f fd, Fun K "_law_is_right" "_law_is_right" sLawIsRight f fd ∧ mg "_law_is_right" = some (.ref f)
  f_law : ∃ f fd, Fun K "law" "law" sLaw f fd ∧ mg "law" = some (.ref f)
  z_abs : mg "abs" = none
  z_int : mg "int" = none
  z_len : mg "len" = none
  z_max : mg "max" = none
  z_min : mg "min" = none
  z_range : mg "range" = none
  z_repr : mg "repr" = none
  z_sorted : mg "sorted" = none
  z_sum : mg "sum" = none
  z_tuple : mg "tuple" = none
  z_zip : mg "zip" = none
theorem sc_together : FnScope ["some", "kinds"] ["some", "kinds"] (defScope sTogether) := ⟨rfl, rfl, rfl, by decide +kernel, rfl, by decide +kernel, by decide +kernel⟩
theorem sc_told_bundles : FnScope ["rounds", "sealed", "kinds", "bundles", "told", "bundle"] ["rounds", "sealed", "kinds"] (defScope sToldBundles) := ⟨rfl, rfl, rfl, by decide +kernel, rfl, by decide +kernel, by decide +kernel⟩
theorem sc_law_urn : FnScope ["_law_script", "_law_spot", "_law_cell", "_law_great"] ["_law_script", "_law_spot"] (defScope sLawUrn) := ⟨rfl, rfl, rfl, by decide +kernel, rfl, by decide +kernel, by decide +kernel⟩
theorem bd_law_urn : BindsAll "_law_urn" sLawUrn ["_law_script", "_law_spot"] := fun _ _ _ _ _ _ us hl => match us, hl with | [_, _], _ => rfl
theorem sc_law_draw : FnScope ["_law_urn_here", "_law_wide", "_law_digit", "_law_primes", "_law_step", "_law_base", "_law_mixed"] ["_law_urn_here", "_law_wide"] (defScope sLawDraw) := ⟨rfl, rfl, rfl, by decide +kernel, rfl, by decide +kernel, by decide +kernel⟩
theorem bd_law_draw : BindsAll "_law_draw" sLawDraw ["_law_urn_here", "_law_wide"] := fun _ _ _ _ _ _ us hl => match us, hl with | [_, _], _ => rfl
theorem sc_law_amounts : FnScope ["_law_urn_here"] ["_law_urn_here"] (defScope sLawAmounts) := ⟨rfl, rfl, rfl, by decide +kernel, rfl, by decide +kernel, by decide +kernel⟩
theorem bd_law_amounts : BindsAll "_law_amounts" sLawAmounts ["_law_urn_here"] := fun _ _ _ _ _ _ us hl => match us, hl with | [_], _ => rfl
theorem sc_law_bundle : FnScope ["_law_urn_here", "_law_amounts_here", "_law_kind", "_law_spot", "_law_found"] ["_law_urn_here", "_law_amounts_here"] (defScope sLawBundle) := ⟨rfl, rfl, rfl, by decide +kernel, rfl, by decide +kernel, by decide +kernel⟩
theorem bd_law_bundle : BindsAll "_law_bundle" sLawBundle ["_law_urn_here", "_law_amounts_here"] := fun _ _ _ _ _ _ us hl => match us, hl with | [_, _], _ => rfl
theorem sc_law_prices : FnScope ["_law_urn_here", "_law_several", "_law_wide"] ["_law_urn_here", "_law_several"] (defScope sLawPrices) := ⟨rfl, rfl, rfl, by decide +kernel, rfl, by decide +kernel, by decide +kernel⟩
theorem bd_law_prices : BindsAll "_law_prices" sLawPrices ["_law_urn_here", "_law_several"] := fun _ _ _ _ _ _ us hl => match us, hl with | [_, _], _ => rfl
theorem sc_law_cost : FnScope ["_law_prices_here", "_law_bundle_here"] ["_law_prices_here", "_law_bundle_here"] (defScope sLawCost) := ⟨rfl, rfl, rfl, by decide +kernel, rfl, by decide +kernel, by decide +kernel⟩
theorem bd_law_cost : BindsAll "_law_cost" sLawCost ["_law_prices_here", "_law_bundle_here"] := fun _ _ _ _ _ _ us hl => match us, hl with | [_, _], _ => rfl
theorem sc_law_all_within : FnScope ["_law_amounts_here", "_law_found", "_law_many", "_law_longer", "_law_row"] ["_law_amounts_here"] (defScope sLawAllWithin) := ⟨rfl, rfl, rfl, by decide +kernel, rfl, by decide +kernel, by decide +kernel⟩
theorem bd_law_all_within : BindsAll "_law_all_within" sLawAllWithin ["_law_amounts_here"] := fun _ _ _ _ _ _ us hl => match us, hl with | [_], _ => rfl
theorem sc_law_taste : FnScope ["_law_urn_here", "_law_amounts_here", "_law_wide", "_law_rows", "_law_many", "_law_row"] ["_law_urn_here", "_law_amounts_here"] (defScope sLawTaste) := ⟨rfl, rfl, rfl, by decide +kernel, rfl, by decide +kernel, by decide +kernel⟩
theorem bd_law_taste : BindsAll "_law_taste" sLawTaste ["_law_urn_here", "_law_amounts_here"] := fun _ _ _ _ _ _ us hl => match us, hl with | [_, _], _ => rfl
theorem sc_law_liked : FnScope ["_law_taste_here", "_law_bundle_here", "_law_rows", "_law_more", "_law_found"] ["_law_taste_here", "_law_bundle_here"] (defScope sLawLiked) := ⟨rfl, rfl, rfl, by decide +kernel, rfl, by decide +kernel, by decide +kernel⟩
theorem bd_law_liked : BindsAll "_law_liked" sLawLiked ["_law_taste_here", "_law_bundle_here"] := fun _ _ _ _ _ _ us hl => match us, hl with | [_, _], _ => rfl
theorem sc_law_wanted : FnScope ["_law_urn_here", "_law_taste_here", "_law_amounts_here", "_law_prices_here", "_law_some", "_law_gains", "_law_bundle_here", "_law_most", "_law_best_ones"] ["_law_urn_here", "_law_taste_here", "_law_amounts_here", "_law_prices_here"] (defScope sLawWanted) := ⟨rfl, rfl, rfl, by decide +kernel, rfl, by decide +kernel, by decide +kernel⟩
theorem bd_law_wanted : BindsAll "_law_wanted" sLawWanted ["_law_urn_here", "_law_taste_here", "_law_amounts_here", "_law_prices_here"] := fun _ _ _ _ _ _ us hl => match us, hl with | [_, _, _, _], _ => rfl
theorem sc_law_small : FnScope ["_law_urn_here", "_law_several", "_law_wide"] ["_law_urn_here", "_law_several"] (defScope sLawSmall) := ⟨rfl, rfl, rfl, by decide +kernel, rfl, by decide +kernel, by decide +kernel⟩
theorem bd_law_small : BindsAll "_law_small" sLawSmall ["_law_urn_here", "_law_several"] := fun _ _ _ _ _ _ us hl => match us, hl with | [_, _], _ => rfl
theorem sc_law_told : FnScope ["_law_rows", "_law_seals", "_law_several", "_law_found", "_law_prices_here", "_law_bundle_here", "_law_coins"] ["_law_rows", "_law_seals", "_law_several"] (defScope sLawTold) := ⟨rfl, rfl, rfl, by decide +kernel, rfl, by decide +kernel, by decide +kernel⟩
theorem bd_law_told : BindsAll "_law_told" sLawTold ["_law_rows", "_law_seals", "_law_several"] := fun _ _ _ _ _ _ us hl => match us, hl with | [_, _, _], _ => rfl
theorem sc_law_history : FnScope ["_law_urn_here", "_law_several", "_law_most", "_law_some", "_law_rows", "_law_seals", "_law_k", "_law_bundle_here", "_law_coins"] ["_law_urn_here", "_law_several", "_law_most"] (defScope sLawHistory) := ⟨rfl, rfl, rfl, by decide +kernel, rfl, by decide +kernel, by decide +kernel⟩
theorem bd_law_history : BindsAll "_law_history" sLawHistory ["_law_urn_here", "_law_several", "_law_most"] := fun _ _ _ _ _ _ us hl => match us, hl with | [_, _, _], _ => rfl
theorem sc_law_meant : FnScope ["_law_urn_here", "_law_amounts_here", "_law_most", "_law_taste_here", "_law_rows", "_law_seals", "_law_k", "_law_prices_here", "_law_bundle_here"] ["_law_urn_here", "_law_amounts_here", "_law_most"] (defScope sLawMeant) := ⟨rfl, rfl, rfl, by decide +kernel, rfl, by decide +kernel, by decide +kernel⟩
theorem bd_law_meant : BindsAll "_law_meant" sLawMeant ["_law_urn_here", "_law_amounts_here", "_law_most"] := fun _ _ _ _ _ _ us hl => match us, hl with | [_, _, _], _ => rfl
theorem sc_law_any_rows : FnScope ["_law_urn_here", "_law_most", "_law_amounts_here", "_law_way", "_law_rows", "_law_seals", "_law_taste_here", "_law_spot", "_law_other", "_law_coins"] ["_law_urn_here", "_law_most"] (defScope sLawAnyRows) := ⟨rfl, rfl, rfl, by decide +kernel, rfl, by decide +kernel, by decide +kernel⟩
theorem bd_law_any_rows : BindsAll "_law_any_rows" sLawAnyRows ["_law_urn_here", "_law_most"] := fun _ _ _ _ _ _ us hl => match us, hl with | [_, _], _ => rfl
theorem sc_law_is_right : FnScope ["_law_rows", "_law_seals", "_law_several", "_law_due", "_law_told_here", "_law_bare"] ["_law_rows", "_law_seals", "_law_several"] (defScope sLawIsRight) := ⟨rfl, rfl, rfl, by decide +kernel, rfl, by decide +kernel, by decide +kernel⟩
theorem bd_law_is_right : BindsAll "_law_is_right" sLawIsRight ["_law_rows", "_law_seals", "_law_several"] := fun _ _ _ _ _ _ us hl => match us, hl with | [_, _, _], _ => rfl
theorem sc_law : FnScope ["_law_script", "_law_spot", "_law_urn_here", "_law_some", "_law_rows", "_law_seals", "_law_several"] ["_law_script"] (defScope sLaw) := ⟨rfl, rfl, rfl, by decide +kernel, rfl, by decide +kernel, by decide +kernel⟩
theorem bd_law : BindsAll "law" sLaw ["_law_script"] := fun _ _ _ _ _ _ us hl => match us, hl with | [_], _ => rfl
theorem kb_together_1_kinds : KBindsAll "together" sTogether ["some", "kinds"] ["kinds"] 1 1 [(true, 0), (false, 0)] := fun _ _ _ _ _ _ us ws hl => by
  obtain ⟨h1, h2⟩ := gaP_len hl
  match us, ws, h1, h2 with
  | [_], [_], _, _ => rfl
theorem kb_told_bundles_2_kinds : KBindsD "told_bundles" sToldBundles ["rounds", "sealed", "kinds"] ["kinds"] 2 1 [(0, 0), (0, 1), (1, 0)] := fun _ _ _ _ _ _ _ _ us ws hl => by
  obtain ⟨h1, h2⟩ := gaQ_len hl
  match us, ws, h1, h2 with
  | [_, _], [_], _, _ => exact ⟨_, rfl, rfl⟩
theorem kb_told_bundles_0_kinds_sealed_rounds : KBindsD "told_bundles" sToldBundles ["rounds", "sealed", "kinds"] ["kinds", "sealed", "rounds"] 0 3 [(1, 2), (1, 1), (1, 0)] := fun _ _ _ _ _ _ _ _ us ws hl => by
  obtain ⟨h1, h2⟩ := gaQ_len hl
  match us, ws, h1, h2 with
  | [], [_, _, _], _, _ => exact ⟨_, rfl, rfl⟩
theorem kb_told_bundles_1_kinds : KBindsD "told_bundles" sToldBundles ["rounds", "sealed", "kinds"] ["kinds"] 1 1 [(0, 0), (2, 0), (1, 0)] := fun _ _ _ _ _ _ _ _ us ws hl => by
  obtain ⟨h1, h2⟩ := gaQ_len hl
  match us, ws, h1, h2 with
  | [_], [_], _, _ => exact ⟨_, rfl, rfl⟩
section
variable {P : Program} {w : World} {K : PySem.W.Frag} {mg : Str → Option Value} {base : Heap}
theorem mk0 {i j : Int} (hi0 : 0 ≤ i) (hi : i < 2 ^ 200) (hj0 : 0 ≤ j) (hj : j < 2 ^ 200) : IntMulOk i j := mulOk_of (n := 200) (by decide) (natAbs_lt hi0 hi) (natAbs_lt hj0 hj)
theorem dn_urn (T : Txt K mg) : Dn P w K mg base 1 "_law_urn" sLawUrn ["_law_script", "_law_spot"] (spUrn K) := by
  refine Dn.of T.f_law_urn sc_law_urn (fun vs H Q E h => ?_) (fun f cdv A outer s H vs Q E hr h => ?_)
  · obtain ⟨a, ns, k, rfl, _⟩ := h; rfl
  obtain ⟨a, ns, k, rfl, hS, h0, h1, q⟩ := h
  refine ⟨_, IPSs.get (i_pss_cons (i_ps_set (i := 2) sc_law_urn.nd rfl (Or.inl rfl) i_pe_int)
    (i_pss_cons (i_ps_if (i_pt_cmpR op_lt (i_pv 1) (i_pe_callB call_len_seq rfl T.z_len boot_len (i_pa_cons (i_pv 0) i_pa_nil)) (nomark _)) (i_pss_one (i_ps_set (i := 2) sc_law_urn.nd rfl (Or.inl rfl) (i_pe_ix ix_list (i_pv 0) (i_pv 1) (fun _ _ => rfl)))) i_pss_nil)
    (i_pss_cons (i_ps_set (i := 3) sc_law_urn.nd rfl (Or.inl rfl) (i_pe_callB call_abs rfl T.z_abs boot_abs (i_pa_cons (i_pv 2) i_pa_nil)))
    (i_pss_cons (i_ps_if (i_pt_cmpR op_lt (i_pv 3) (i_pe_op op_powB i_pe_int i_pe_int) (nomark _)) (i_pss_one (i_ps_set (i := 3) sc_law_urn.nd rfl (Or.inl rfl) i_pe_int)) i_pss_nil)
    (i_pss_one (i_ps_ret (i_pe_lst (i_pa_cons (i_pv 3) (i_pa_cons (i_pe_op op_add (i_pe_op op_add (i_pe_op op_add (i_pe_op op_mod (i_pv 2) i_pe_int) (i_pe_op op_mulB (i_pe_op op_mulB i_pe_int (i_pv 1)) (i_pv 1))) (i_pe_op op_mulB i_pe_int (i_pv 1))) i_pe_int) (i_pa_cons i_pe_int i_pa_nil)))))))))), ?_⟩
  have fin : ∀ (g c : Int) (p : Addr), 0 ≤ g → H p = none → Q (.ref p) (upd H p (.lst [.int g, .int (c % 1000000000000000003 + 97 * k * k + 31 * k + 1), .int 0])) := fun g c p hg hp => by
    refine q p _ (same_newH hp _) hp ⟨_, _, _, upd_same, hg, ?_, ?_, by decide, by decide⟩
    · have e1 := Int.emod_nonneg c (show (1000000000000000003 : Int) ≠ 0 by decide)
      have e2 : 0 ≤ 97 * k * k := Int.mul_nonneg (by omega) h0
      omega
    · have e1 := Int.emod_lt_of_pos c (show (0 : Int) < 1000000000000000003 by decide)
      have e2 : 97 * k * k ≤ 97 * 100 * 100 := Int.mul_le_mul (by omega) h1 h0 (by decide)
      omega
  have k2 : 97 * k < 2 ^ 200 := by omega
  have m1 : IntMulOk 97 k := mk0 (by decide) (by decide) h0 (by omega)
  have m2 : IntMulOk (97 * k) k := mk0 (by omega) k2 h0 (by omega)
  have m3 : IntMulOk 31 k := mk0 (by decide) (by decide) h0 (by omega)
  refine ⟨_, rfl, _, rfl, a, _, rfl, .inl hS, _, _, rfl, rfl, _, rfl, ?_⟩
  refine ite2 (fun c => ?_) (fun c => ?_)
  · have c' : k < (((ns.map V.int).length : Nat) : Int) := of_decide_eq_true c
    rw [List.length_map] at c'
    have hk : k.toNat < ns.length := by omega
    have hv : atI (ns.map V.int) k = some (.int ns[k.toNat]) := by
      have z := atI_nat (xs := ns.map V.int) (j := k.toNat) (v := .int ns[k.toNat]) (by rw [List.getElem?_map, List.getElem?_eq_getElem hk]; rfl)
      rwa [show ((k.toNat : Nat) : Int) = k by omega] at z
    refine ⟨_, rfl, _, rfl, a, _, _, _, rfl, rfl, hS, hv, ?_⟩
    refine ⟨_, rfl, _, rfl, ?_⟩
    refine ⟨_, rfl, _, _, rfl, rfl, ⟨by decide, by decide +kernel⟩, _, _, rfl, rfl, _, rfl, ?_⟩
    refine ite2 (fun c2 => ?_) (fun c2 => ?_)
    · refine ⟨_, rfl, _, rfl, _, _, rfl, rfl, (by show (0 : Int) < 1000000000000000003; decide), _, rfl, _, _, rfl, rfl, m1, _, rfl, _, _, rfl, rfl, m2, _, _, rfl, rfl, _, rfl, _, _, rfl, rfl, m3, _, _, rfl, rfl, _, _, rfl, rfl, (by show 3 ≤ sizeLine; decide), fun p hp => ?_⟩
      exact fin 0 _ p (by decide) hp
    · refine ⟨_, rfl, _, rfl, _, _, rfl, rfl, (by show (0 : Int) < 1000000000000000003; decide), _, rfl, _, _, rfl, rfl, m1, _, rfl, _, _, rfl, rfl, m2, _, _, rfl, rfl, _, rfl, _, _, rfl, rfl, m3, _, _, rfl, rfl, _, _, rfl, rfl, (by show 3 ≤ sizeLine; decide), fun p hp => ?_⟩
      exact fin _ _ p (by split <;> omega) hp
  · refine ⟨_, rfl, _, rfl, ?_⟩
    refine ⟨_, rfl, _, _, rfl, rfl, ⟨by decide, by decide +kernel⟩, _, _, rfl, rfl, _, rfl, ?_⟩
    refine ite2 (fun c2 => ?_) (fun c2 => ?_)
    · refine ⟨_, rfl, _, rfl, _, _, rfl, rfl, (by show (0 : Int) < 1000000000000000003; decide), _, rfl, _, _, rfl, rfl, m1, _, rfl, _, _, rfl, rfl, m2, _, _, rfl, rfl, _, rfl, _, _, rfl, rfl, m3, _, _, rfl, rfl, _, _, rfl, rfl, (by show 3 ≤ sizeLine; decide), fun p hp => ?_⟩
      exact fin 0 _ p (by decide) hp
    · refine ⟨_, rfl, _, rfl, _, _, rfl, rfl, (by show (0 : Int) < 1000000000000000003; decide), _, rfl, _, _, rfl, rfl, m1, _, rfl, _, _, rfl, rfl, m2, _, _, rfl, rfl, _, rfl, _, _, rfl, rfl, m3, _, _, rfl, rfl, _, _, rfl, rfl, (by show 3 ≤ sizeLine; decide), fun p hp => ?_⟩
      exact fin _ _ p (by split <;> omega) hp
theorem dn_draw (T : Txt K mg) : Dn P w K mg base 1 "_law_draw" sLawDraw ["_law_urn_here", "_law_wide"] spDraw := by
  refine Dn.of T.f_law_draw sc_law_draw (fun vs H Q E h => ?_) (fun f cdv A outer s H vs Q E hr h => ?_)
  · obtain ⟨u, wd, m, rfl, _⟩ := h; rfl
  obtain ⟨u, wd, m, rfl, hU, hm, w0, w1, q⟩ := h
  obtain ⟨g, c, n, hu, g0, c0, c1, n0, n1⟩ := hU
  refine ⟨_, IPSs.get (i_pss_cons (i_ps_if (i_pt_cmpR op_gt (i_pe_ix ix_list (i_pv 0) i_pe_int (fun _ _ => rfl)) i_pe_int (nomark _)) (i_pss_cons (i_ps_set (i := 2) sc_law_draw.nd rfl (Or.inl rfl) (i_pe_op op_mod (i_pe_ix ix_list (i_pv 0) i_pe_int (fun _ _ => rfl)) (i_pv 1)))
    (i_pss_cons (i_ps_asg (i_pe_op op_fdiv (i_pe_ix ix_list (i_pv 0) i_pe_int (fun _ _ => rfl)) (i_pv 1)) (i_pg_sub (i_pv 0) i_pe_int set_list))
    (i_pss_one (i_ps_ret (i_pv 2))))) i_pss_nil)
    (i_pss_cons (i_ps_set (i := 3) sc_law_draw.nd rfl (Or.inl rfl) (i_pe_tup (i_pa_cons i_pe_int (i_pa_cons i_pe_int (i_pa_cons i_pe_int (i_pa_cons i_pe_int (i_pa_cons i_pe_int (i_pa_cons i_pe_int (i_pa_cons i_pe_int i_pa_nil)))))))))
    (i_pss_cons (i_ps_asg (i_pe_op op_add (i_pe_ix ix_list (i_pv 0) i_pe_int (fun _ _ => rfl)) i_pe_int) (i_pg_sub (i_pv 0) i_pe_int set_list))
    (i_pss_cons (i_ps_set (i := 4) sc_law_draw.nd rfl (Or.inl rfl) (i_pe_ix ix_list (i_pv 0) i_pe_int (fun _ _ => rfl)))
    (i_pss_cons (i_ps_set (i := 5) sc_law_draw.nd rfl (Or.inl rfl) (i_pe_op op_add (i_pe_op op_add (i_pe_op op_mulB (i_pe_ix ix_list (i_pv 0) i_pe_int (fun _ _ => rfl)) (i_pe_op op_add (i_pe_op op_mulB i_pe_int (i_pv 4)) i_pe_int)) (i_pe_op op_mulB (i_pe_op op_mulB i_pe_int (i_pv 4)) (i_pv 4))) i_pe_int))
    (i_pss_cons (i_ps_set (i := 6) sc_law_draw.nd rfl (Or.inl rfl) (i_pe_op op_mod (i_pe_op op_powB (i_pv 5) i_pe_int) (i_pe_ix ix_tup (i_pv 3) (i_pe_op op_mod (i_pv 4) i_pe_int) (fun _ _ => rfl))))
    (i_pss_one (i_ps_ret (i_pe_op op_mod (i_pe_op op_fdiv (i_pe_op op_mod (i_pe_op op_mulB (i_pv 6) (i_pe_op op_add (i_pe_op op_fdiv (i_pv 6) i_pe_int) (i_pv 4))) (i_pe_ix ix_tup (i_pv 3) (i_pe_op op_mod (i_pe_op op_add (i_pv 4) i_pe_int) i_pe_int) (fun _ _ => rfl))) i_pe_int) (i_pv 1)))))))))), ?_⟩
  refine ⟨_, rfl, u, _, _, _, rfl, rfl, SqL.of hu, rfl, _, _, rfl, rfl, _, rfl, ?_⟩
  refine ite2 (fun cg => ?_) (fun cg => ?_)
  · refine ⟨_, rfl, u, _, _, _, rfl, rfl, SqL.of hu, rfl, _, rfl, _, _, rfl, rfl, w0, ?_⟩
    refine ⟨_, rfl, u, _, _, _, rfl, rfl, SqL.of hu, rfl, _, rfl, _, _, rfl, rfl, ⟨w0, w1⟩, _, rfl, u, _, _, _, rfl, rfl, hu, rfl, ?_⟩
    refine ⟨_, rfl, ?_⟩
    exact q _ _ (Int.emod_nonneg _ (by omega)) (Int.emod_lt_of_pos _ w0) (SB.upd u H _) ⟨_, _, _, upd_same, Int.ediv_nonneg g0 (by omega), c0, c1, n0, by omega⟩
  · refine ⟨(by show 7 ≤ sizeLine; decide), fun p hp => ?_⟩
    have pu : u ≠ p := fun z => by rw [z, hp] at hu; cases hu
    have hu1 : upd H p (.tup [V.int 2147483647, V.int 2147483629, V.int 2147483587, V.int 2147483579, V.int 2147483563, V.int 2147483549, V.int 2147483543]) u = some (.lst [.int g, .int c, .int n]) := by rw [upd_ne pu]; exact hu
    refine ⟨_, rfl, u, _, _, _, rfl, rfl, SqL.of hu1, rfl, _, _, rfl, rfl, _, rfl, u, _, _, _, rfl, rfl, hu1, rfl, ?_⟩
    obtain ⟨q1, e1, p1, p2⟩ := prime7 (n + 1)
    obtain ⟨q2, e2, p3, p4⟩ := prime7 (n + 1 + 3)
    generalize hH2 : upd (upd H p (.tup [V.int 2147483647, V.int 2147483629, V.int 2147483587, V.int 2147483579, V.int 2147483563, V.int 2147483549, V.int 2147483543])) u (.lst ([V.int g, V.int c, V.int n].set (Int.toNat 2) ((fun i j => V.int (i + j)) n 1))) = H2
    have hu2 : H2 u = some (.lst [.int g, .int c, .int (n + 1)]) := by rw [← hH2]; exact upd_same
    have hp2 : H2 p = some (.tup [V.int 2147483647, V.int 2147483629, V.int 2147483587, V.int 2147483579, V.int 2147483563, V.int 2147483549, V.int 2147483543]) := by rw [← hH2, upd_ne (Ne.symm pu)]; exact upd_same
    have hSB : SB u H H2 := fun b o nb e => by rw [← hH2, upd_ne nb, upd_ne (ne_of_none e hp)]; exact e
    have n9 : n + 1 ≤ 1000001 := by omega
    have b1 : 2 * (n + 1) + 1 ≤ 2000003 := by omega
    have b2 : c * (2 * (n + 1) + 1) ≤ 4000000000000000000 * 2000003 := Int.mul_le_mul c1 b1 (by omega) (by decide)
    have b2' : 0 ≤ c * (2 * (n + 1) + 1) := Int.mul_nonneg c0 (by omega)
    have b3 : 6007 * (n + 1) * (n + 1) ≤ 6007 * 1000001 * 1000001 := Int.mul_le_mul (by omega) n9 (by omega) (by decide)
    have b3' : 0 ≤ 6007 * (n + 1) * (n + 1) := Int.mul_nonneg (by omega) (by omega)
    refine ⟨_, rfl, u, _, _, _, rfl, rfl, SqL.of hu2, rfl, ?_⟩
    refine ⟨_, rfl, u, _, _, _, rfl, rfl, SqL.of hu2, rfl, _, rfl, _, _, rfl, rfl, mk0 (by decide) (by decide) (by omega) (by omega), _, _, rfl, rfl, _, _, rfl, rfl, mk0 c0 (by omega) (by omega) (by omega), _, rfl, _, _, rfl, rfl, mk0 (by decide) (by decide) (by omega) (by omega), _, rfl, _, _, rfl, rfl, mk0 (by omega) (by omega) (by omega) (by omega), _, _, rfl, rfl, _, _, rfl, rfl, ?_⟩
    have bs0 : 0 ≤ c * (2 * (n + 1) + 1) + 6007 * (n + 1) * (n + 1) + 53 := by omega
    have bs1 : c * (2 * (n + 1) + 1) + 6007 * (n + 1) * (n + 1) + 53 < 2 ^ 200 := by omega
    have pw : CPowB (c * (2 * (n + 1) + 1) + 6007 * (n + 1) * (n + 1) + 53) 3 := by
      refine ⟨by decide, ?_⟩
      have := L2.intBits_le (natAbs_lt bs0 bs1)
      omega
    refine ⟨_, rfl, _, _, rfl, rfl, pw, _, rfl, _, rfl, _, _, rfl, rfl, (by show (0 : Int) < 7; decide), p, _, _, _, rfl, rfl, SqT.of hp2, e1, _, _, rfl, rfl, p1, ?_⟩
    obtain ⟨mx, hmx⟩ : ∃ mx, mx = (c * (2 * (n + 1) + 1) + 6007 * (n + 1) * (n + 1) + 53) ^ (3 : Int).toNat % q1 := ⟨_, rfl⟩
    have mx0 : 0 ≤ mx := by rw [hmx]; exact Int.emod_nonneg _ (by omega)
    have mx1 : mx < q1 := by rw [hmx]; exact Int.emod_lt_of_pos _ p1
    have d1 : mx / 8191 ≤ mx := Int.ediv_le_self _ mx0
    have d0 : 0 ≤ mx / 8191 := Int.ediv_nonneg mx0 (by decide)
    refine ⟨_, rfl, _, rfl, _, _, rfl, rfl, ⟨by decide, by decide⟩, _, rfl, _, _, rfl, rfl, _, _, rfl, rfl, (show IntMulOk ((c * (2 * (n + 1) + 1) + 6007 * (n + 1) * (n + 1) + 53) ^ (3 : Int).toNat % q1) ((c * (2 * (n + 1) + 1) + 6007 * (n + 1) * (n + 1) + 53) ^ (3 : Int).toNat % q1 / 8191 + (n + 1)) by rw [← hmx]; exact mk0 mx0 (by omega) (by omega) (by omega)), _, rfl, _, rfl, _, _, rfl, rfl, _, _, rfl, rfl, (by show (0 : Int) < 7; decide), p, _, _, _, rfl, rfl, SqT.of hp2, e2, _, _, rfl, rfl, p3, _, _, rfl, rfl, ⟨by decide, by decide⟩, _, rfl, _, _, rfl, rfl, w0, ?_⟩
    exact q _ _ (Int.emod_nonneg _ (by omega)) (Int.emod_lt_of_pos _ w0) hSB ⟨_, _, _, hu2, g0, c0, c1, by omega, by omega⟩

end
end Mine

set_option Elab.async false
set_option linter.all false
set_option maxRecDepth 100000
set_option maxHeartbeats 4000000
namespace Mine
open PySem PySem.Spec PyProof.Rows L2
section
variable {P : Program} {w : World} {K : PySem.W.Frag} {mg : Str → Option Value} {base : Heap}
theorem free_of {u p : Addr} {H H' : Hp} {m m' : Nat} (s : SB u H H') (h : Urn H u m) (h' : Urn H' u m') (e : H' p = none) : H p = none := by
  cases q : H p with
  | none => rfl
  | some o => rw [s p o (h'.ne e) q] at e; cases e
def Small (ns : List Int) : Prop := ∀ x ∈ ns, 0 ≤ x ∧ x < 2 ^ 90
theorem Small.ok {ns ms : List Int} (h1 : Small ns) (h2 : Small ms) {x y : Int} (hx : x ∈ ns) (hy : y ∈ ms) : IntMulOk x y := mk0 (h1 x hx).1 (by have := (h1 x hx).2; omega) (h2 y hy).1 (by have := (h2 y hy).2; omega)
def dot (ns ms : List Int) : Int := ((ns.zip ms).map fun p => p.1 * p.2).sum
def spFar : Sp := fun vs H Q _ => ∃ (u : Addr) (wd : Int) (m : Nat), vs = [.ref u, .int wd] ∧ Urn H u m ∧ m + 3 ≤ 1000000 ∧ 0 < wd ∧
  ∀ (d : Int) (H' : Hp), 0 ≤ d → d < 2 ^ 90 → SB u H H' → Urn H' u (m + 3) → Q (.int d) H'
/-- a tuple drawn -/
def spTup : Sp := fun vs H Q _ => ∃ (u : Addr) (k : Int) (m : Nat), vs = [.ref u, .int k] ∧ Urn H u m ∧ m + 20 ≤ 1000000 ∧ 1 ≤ k ∧ k ≤ 3 ∧
  ∀ (p : Addr) (ns : List Int) (H' : Hp), ns.length = k.toNat → Small ns → SB u H H' → H p = none → H' p = some (.tup (ns.map V.int)) → Urn H' u (m + 20) → Q (.ref p) H'
def spDot (K : PySem.W.Frag) : Sp := fun vs H Q _ => ∃ (a b : Addr) (ns ms : List Int), vs = [.ref a, .ref b] ∧ SqT K H a (ns.map V.int) ∧ SqT K H b (ms.map V.int) ∧ Small ns ∧ Small ms ∧ ns.length ≤ sizeLine ∧ ∀ H', Same H H' → Q (.int (dot ns ms)) H'

/-! ### the sum of bundles -/
def sumAt (rows : List (List Int)) (j : Nat) : Int := (rows.map fun r => r.getD j 0).sum
def sums (rows : List (List Int)) (k : Nat) : List Int := (List.range k).map (sumAt rows)
def spTog (K : PySem.W.Frag) : Sp := fun vs H Q _ => ∃ (l : Addr) (rows : List (List Int)) (k : Int), vs = [.ref l, .int k] ∧ LR K H l rows ∧ 0 ≤ k ∧ k ≤ 3 ∧ (∀ r ∈ rows, r.length = k.toNat) ∧ rows.length ≤ sizeLine ∧
  ∀ (p : Addr) (H' : Hp), Same H H' → H p = none → H' p = some (.tup ((sums rows k.toNat).map V.int)) → Q (.ref p) H'
theorem atI_of {r : List Int} {i : Nat} (h : i < r.length) : atI (r.map V.int) (0 + (i : Int)) = some (.int (r.getD i 0)) := by
  have e : (0 + (i : Int)) = (i : Int) := by omega
  rw [e]
  exact atI_nat (by rw [List.getElem?_map, List.getD_eq_getElem?_getD, List.getElem?_eq_getElem h]; rfl)
/-- the inner one: the i-th of each row -/
theorem comp_col {K : PySem.W.Frag} {H : Hp} {l : Addr} {rows : List (List Int)} {xs : List V} {k i : Nat} {Q : LK} {o : Option V} (h1 : SqL K H l xs) (h2 : DVs K H (rows.map tI) xs) (hk : ∀ r ∈ rows, r.length = k) (hi : i < k) (hz : rows.length ≤ sizeLine)
    (hq : ∀ σ H', Same H H' → Q ((rows.map fun r => r.getD i 0).map V.int) σ H') :
    ∃ W : Nat → List V → Nat → L2.St → Hp → Prop, (∃ m, W 0 [] m [o, some (.int (0 + (i : Int)))] H) ∧ LTurn (Itl K l) (gName 0) tYes (tEmit (tOp (rIxT K) (tVar 0) (tVar 1))) Q W := by
  have lx : rows.length = xs.length := by have := h2.length; rwa [List.length_map] at this
  refine comp_list (xs := xs) (fun j ys σ H' => ∃ o', σ = [o', some (.int (0 + (i : Int)))] ∧ ys = ((rows.take j).map fun r => r.getD i 0).map V.int ∧ Same H H') ⟨_, rfl, rfl, Same.refl H⟩ ?_ ?_ ?_
  · rintro j ys σ H' hj ⟨o', rfl, rfl, s⟩
    exact s.seq h1
  · rintro j x ys σ H' hx ⟨o', rfl, rfl, s⟩
    obtain ⟨d, hd, dv⟩ := h2.get hx
    rw [List.getElem?_map] at hd
    obtain ⟨r, hr, rfl⟩ : ∃ r, rows[j]? = some r ∧ tI r = d := by
      cases e : rows[j]? with
      | none => rw [e] at hd; cases hd
      | some r => rw [e] at hd; exact ⟨r, rfl, Option.some.inj hd⟩
    obtain ⟨a, rfl, ha⟩ := DV.tI_inv dv
    have hj : j < rows.length := (List.getElem?_eq_some_iff.mp hr).1
    refine ⟨?_, _, rfl, _, rfl, a, _, _, _, rfl, rfl, s.tup ha, atI_of (by rw [hk r (List.mem_of_getElem? hr)]; exact hi), _, rfl, ?_, s⟩
    · rw [List.length_map, List.length_map, List.length_take]; omega
    · rw [List.take_add_one, hr, List.map_append, List.map_append]; rfl
  · rintro ys σ H' ⟨o', rfl, rfl, s⟩
    rw [← lx, List.take_length]
    exact hq _ _ s

theorem dn_together (T : Txt K mg) : Dn P w K mg base 1 "together" sTogether ["some", "kinds"] (spTog K) := by
  refine Dn.of T.f_together sc_together (fun vs H Q E h => ?_) (fun f cdv A outer s H vs Q E hr h => ?_)
  · obtain ⟨l, rows, k, rfl, _⟩ := h; rfl
  obtain ⟨l, rows, k, rfl, hR, k0, k1, hk, hz, q⟩ := h
  refine ⟨_, IPSs.get (i_pss_cons (i_ps_ret (i_pe_callTy call_tuple_of rfl T.z_tuple (by decide +kernel) (i_pa_cons (by refine' i_pe_comp (Nc := ["kind", "some"]) (cap := [none, some 0]) rfl ?i ?k ?g ?t ?e; (case k => kernel_rfl); (case i => exact (i_pi_range1 rfl T.z_range (i_pa_cons (i_pv 1) i_pa_nil))); (case g => exact (fun _ _ _ _ _ => (i_pgc 0 (by show List.Nodup (["kind", "some"] : List Str); decide +kernel)))); (case t => exact (fun _ _ _ _ _ => i_pts_nil)); (case e => exact (fun _ _ _ _ _ => (i_pe_callB (call_sumLK (K := K) rfl rfl) gl_comp T.z_sum boot_sum (i_pa_cons (by refine' i_pe_comp (Nc := ["bundle", "kind"]) (cap := [none, some 0]) rfl ?i ?k ?g ?t ?e; (case k => kernel_rfl); (case i => exact (i_pi_listK (K := K) rfl (i_pvf 1))); (case g => exact (fun _ _ _ _ _ => (i_pgl 0 (by show List.Nodup (["bundle", "kind"] : List Str); decide +kernel)))); (case t => exact (fun _ _ _ _ _ => i_pts_nil)); (case e => exact (fun _ _ _ _ _ => (i_pe_ix (ix_tupK (K := K) rfl) (i_pvl 0) (i_pvf 1) (fun _ _ => rfl))))) i_pa_nil))))) i_pa_nil))) i_pss_nil), ?_⟩
  obtain ⟨xs, hL, hD⟩ := hR
  refine ⟨_, rfl, k, rfl, by omega, by omega, comp_range (lo := 0) (n := k.toNat) (fun i ys σ H' => ∃ o, σ = [o, some (.ref l)] ∧ ys = ((List.range i).map (sumAt rows)).map V.int ∧ Same H H') ⟨_, rfl, rfl, Same.refl H⟩ ?_ ?_⟩
  · rintro i ys σ H' hi ⟨o, rfl, rfl, s⟩
    refine ⟨?_, _, rfl, l, rfl, ⟨xs, s.seq hL⟩, comp_col (s.seq hL) (DVs.same s hD) hk hi hz fun σ2 H2 s2 p hp => ⟨p, _, rfl, SqL.of upd_same, _, rfl, ?_, (s.trans s2).trans (same_newH hp _)⟩⟩
    · rw [List.length_map, List.length_map, List.length_range]; exact Nat.lt_of_lt_of_le (by omega : i < 100) (by decide)
    · rw [List.range_succ, List.map_append, List.map_append]; rfl
  · rintro ys σ H' ⟨o, rfl, rfl, s⟩ p hp
    refine ⟨p, _, rfl, .inl ⟨SqL.of upd_same, fun t ht => ?_⟩⟩
    have s2 := (s.trans (same_newH hp (.lst (((List.range k.toNat).map (sumAt rows)).map V.int))))
    exact q t _ (s2.trans (same_newH ht _)) (Same.free s2 ht) upd_same

/-! ### rows in lists, while another list changes -/
theorem seq_mid {a b : TS} {D : Ends} {σ : L2.St} {H : Hp} (M : L2.St → Hp → Prop) (h2 : ∀ σ' H', M σ' H' → b D σ' H') (h1 : ∀ N : L2.St → Hp → Prop, (∀ σ' H', M σ' H' → N σ' H') → a { D with nx := N } σ H) : tSeq a b D σ H := h1 (b D) h2
theorem asg_seq {i : Nat} {v : V} {t u : TS} {D D' : Ends} {σ : L2.St} {H : Hp} (h : tSeq t u D (σ.set i (some v)) H) : gName i v σ H (Ends.nx { D' with nx := tSeq t u D }) := h
theorem nx_seq {t u : TS} {D D' : Ends} {σ : L2.St} {H : Hp} (h : tSeq t u D σ H) : Ends.nx { D' with nx := tSeq t u D } σ H := h
theorem tup_but {H H' : Hp} {v a : Addr} {xs ys : List V} (hv : H v = some (.lst ys)) (s : SB v H H') (h : SqT K H a xs) : SqT K H' a xs := by
  rcases h with (h | ⟨o, h⟩) | h
  · exact .inl (.inl (s _ _ (fun z => by rw [z, hv] at h; cases h) h))
  · exact .inl (.inr ⟨o, s _ _ (fun z => by rw [z, hv] at h; cases h) h⟩)
  · exact .inr h
theorem rows_but {H H' : Hp} {v : Addr} {ys : List V} (hv : H v = some (.lst ys)) (s : SB v H H') : ∀ {rows : List (List Int)} {xs : List V}, DVs K H (rows.map tI) xs → DVs K H' (rows.map tI) xs
  | [], xs, h => by rw [List.map_nil] at h ⊢; unfold DVs at h ⊢; exact h
  | r :: rows, xs, h => by
    rw [List.map_cons] at h ⊢
    unfold DVs at h
    obtain ⟨x, t, rfl, h1, h2⟩ := h
    obtain ⟨a, rfl, ha⟩ := DV.tI_inv h1
    exact DVs.cons (DV.tI (tup_but hv s ha)) (rows_but hv s h2)
theorem urn_lst {H : Hp} {u : Addr} {m : Nat} (h : Urn H u m) : ∃ ys, H u = some (.lst ys) := by
  obtain ⟨g, c, n, e, _⟩ := h
  exact ⟨_, e⟩
theorem same_via {H H1 H2 : Hp} {u : Addr} (hu : H u = none) (s : Same H H1) (sb : SB u H1 H2) : Same H H2 := fun b o e => sb b o (fun z => by rw [z, hu] at e; cases e) (s b o e)
/-- the list at l, made anew, has these rows -/
def LL (K : PySem.W.Frag) (H : Hp) (l : Addr) (rows : List (List Int)) : Prop := ∃ xs, H l = some (.lst xs) ∧ DVs K H (rows.map tI) xs
theorem LL.lr {H : Hp} {l : Addr} {rows : List (List Int)} (h : LL K H l rows) : LR K H l rows := by
  obtain ⟨xs, h1, h2⟩ := h
  exact ⟨xs, SqL.of h1, h2⟩
theorem LL.same {H H' : Hp} {l : Addr} {rows : List (List Int)} (h : LL K H l rows) (s : Same H H') : LL K H' l rows := by
  obtain ⟨xs, h1, h2⟩ := h
  exact ⟨xs, s _ _ h1, DVs.same s h2⟩
theorem LL.but {H H' : Hp} {l v : Addr} {ys : List V} {rows : List (List Int)} (h : LL K H l rows) (hv : H v = some (.lst ys)) (s : SB v H H') (n : l ≠ v) : LL K H' l rows := by
  obtain ⟨xs, h1, h2⟩ := h
  exact ⟨xs, s _ _ n h1, rows_but hv s h2⟩
theorem LL.urn {H H' : Hp} {l u : Addr} {m : Nat} {rows : List (List Int)} (h : LL K H l rows) (U : Urn H u m) (s : SB u H H') (n : l ≠ u) : LL K H' l rows := by
  obtain ⟨ys, hv⟩ := urn_lst U
  exact h.but hv s n
theorem LL.ne {H : Hp} {l p : Addr} {rows : List (List Int)} (h : LL K H l rows) (e : H p = none) : l ≠ p := by
  obtain ⟨xs, h1, _⟩ := h
  exact fun z => by rw [z, e] at h1; cases h1
theorem LL.len {H : Hp} {l : Addr} {rows : List (List Int)} (h : LL K H l rows) : ∃ xs, H l = some (.lst xs) ∧ DVs K H (rows.map tI) xs ∧ xs.length = rows.length := by
  obtain ⟨xs, h1, h2⟩ := h
  exact ⟨xs, h1, h2, by have := h2.length; rw [List.length_map] at this; exact this.symm⟩
theorem sIx_some {n d : Nat} {i : Int} (h : 0 ≤ i) : HT.sIx n d (some i) = min i.toNat n := by
  unfold HT.sIx
  simp only []
  rw [if_neg (by omega)]
theorem cut_take {xs : List V} {i : Int} (h : 0 ≤ i) : cutV xs none (some i) = xs.take i.toNat := by
  unfold cutV
  rw [sIx_some h]
  have e : HT.sIx xs.length 0 none = 0 := rfl
  rw [e, List.drop_zero, Nat.sub_zero]
  by_cases c : i.toNat ≤ xs.length
  · rw [Nat.min_eq_left c]
  · rw [Nat.min_eq_right (by omega), List.take_length, List.take_of_length_le (by omega)]
theorem cut_drop {xs : List V} {i : Int} (h : 0 ≤ i) : cutV xs (some i) none = xs.drop i.toNat := by
  unfold cutV
  rw [sIx_some h]
  have e : HT.sIx xs.length xs.length none = xs.length := rfl
  rw [e]
  by_cases c : i.toNat ≤ xs.length
  · rw [Nat.min_eq_left c, List.take_of_length_le (by rw [List.length_drop]; omega)]
  · rw [Nat.min_eq_right (by omega), Nat.sub_self, List.take_zero, List.drop_eq_nil_of_le (by omega)]
theorem dvs_cutT {H : Hp} {rows : List (List Int)} {xs : List V} {i : Int} (h : 0 ≤ i) (D : DVs K H (rows.map tI) xs) : DVs K H ((rows.take i.toNat).map tI) (cutV xs none (some i)) := by
  rw [cut_take h, List.map_take]; exact DVs.take _ D
theorem dvs_cutD {H : Hp} {rows : List (List Int)} {xs : List V} {i : Int} (h : 0 ≤ i) (D : DVs K H (rows.map tI) xs) : DVs K H ((rows.drop i.toNat).map tI) (cutV xs (some i) none) := by
  rw [cut_drop h, List.map_drop]; exact DVs.drop _ D
theorem dvs_rep {H : Hp} {ds : List PyData} {xs : List V} (h : DVs K H ds xs) : ∀ k : Nat, DVs K H (List.replicate k ds).flatten (List.replicate k xs).flatten
  | 0 => DVs.nil
  | k + 1 => by rw [List.replicate_succ, List.replicate_succ, List.flatten_cons, List.flatten_cons]; exact DVs.append h (dvs_rep h k)
theorem map_rep (rows : List (List Int)) (k : Nat) : (List.replicate k (rows.map tI)).flatten = ((List.replicate k rows).flatten).map tI := by
  induction k with
  | zero => rfl
  | succ k ih => rw [List.replicate_succ, List.flatten_cons, ih, List.replicate_succ, List.flatten_cons, List.map_append]
/-- rows of one length, small, not too many -/
def Good (k : Nat) (rows : List (List Int)) : Prop := ∀ r ∈ rows, r.length = k ∧ Small r
theorem Good.mono {k : Nat} {rows rows' : List (List Int)} (h : Good k rows) (s : ∀ r ∈ rows', r ∈ rows) : Good k rows' := fun r hr => h r (s r hr)
theorem sumAt_append (a b : List (List Int)) (j : Nat) : sumAt (a ++ b) j = sumAt a j + sumAt b j := by
  unfold sumAt; rw [List.map_append, List.sum_append]
theorem sumAt_reverse (rows : List (List Int)) (j : Nat) : sumAt rows.reverse j = sumAt rows j := by
  induction rows with
  | nil => rfl
  | cons r rows ih =>
    rw [List.reverse_cons, sumAt_append, ih]
    show sumAt rows j + (r.getD j 0 + 0) = r.getD j 0 + sumAt rows j
    omega
theorem sums_reverse (rows : List (List Int)) (k : Nat) : sums rows.reverse k = sums rows k := by
  unfold sums; exact List.map_congr_left fun j _ => sumAt_reverse rows j
theorem sums_getD (rows : List (List Int)) (k j : Nat) (h : j < k) : (sums rows k).getD j 0 = sumAt rows j := by
  unfold sums
  rw [List.getD_eq_getElem?_getD, List.getElem?_map, List.getElem?_range h]; rfl
theorem sums_parts (rows : List (List Int)) (h k : Nat) : sums [sums (rows.take h) k, sums (rows.drop h) k] k = sums rows k := by
  unfold sums
  refine List.map_congr_left fun j hj => ?_
  have hj' := List.mem_range.mp hj
  have e1 := sums_getD (rows.take h) k j hj'
  have e2 := sums_getD (rows.drop h) k j hj'
  unfold sums at e1 e2
  have e3 := sumAt_append (rows.take h) (rows.drop h) j
  rw [List.take_append_drop] at e3
  show (List.getD _ j 0) + ((List.getD _ j 0) + 0) = _
  rw [e1, e2, e3]; omega
theorem sums_length (rows : List (List Int)) (k : Nat) : (sums rows k).length = k := by unfold sums; simp
theorem sumAt_bound {k : Nat} {rows : List (List Int)} (h : Good k rows) (j : Nat) : 0 ≤ sumAt rows j ∧ sumAt rows j ≤ rows.length * 2 ^ 90 := by
  induction rows with
  | nil => exact ⟨Int.le_refl 0, by simp [sumAt]⟩
  | cons r rows ih =>
    obtain ⟨i1, i2⟩ := ih (h.mono fun x hx => List.mem_cons_of_mem _ hx)
    have hg : 0 ≤ r.getD j 0 ∧ r.getD j 0 < 2 ^ 90 := by
      rw [List.getD_eq_getElem?_getD]
      cases e : r[j]? with
      | none => exact ⟨by decide, by decide⟩
      | some z => exact (h r (List.mem_cons_self ..)).2 z (List.mem_of_getElem? e)
    have e : sumAt (r :: rows) j = r.getD j 0 + sumAt rows j := rfl
    rw [e, List.length_cons]
    omega
theorem sums_bits {k : Nat} {rows : List (List Int)} (h : Good k rows) (hl : rows.length ≤ 1000) (k' : Nat) : Bits 100 (sums rows k') := by
  intro x hx
  obtain ⟨j, _, rfl⟩ := List.mem_map.mp hx
  obtain ⟨h1, h2⟩ := sumAt_bound h j
  have : (rows.length : Int) * 2 ^ 90 ≤ 1000 * 2 ^ 90 := Int.mul_le_mul_of_nonneg_right (by omega) (by decide)
  omega
theorem sums_nil (k : Nat) : sums [] k = List.replicate k 0 := by
  unfold sums
  rw [List.eq_replicate_iff]
  exact ⟨by simp, fun b hb => by obtain ⟨j, _, rfl⟩ := List.mem_map.mp hb; rfl⟩
theorem noughts (k : Nat) : (List.replicate k [V.int 0]).flatten = (List.replicate k (0 : Int)).map V.int := by
  induction k with
  | zero => rfl
  | succ k ih => rw [List.replicate_succ, List.flatten_cons, ih, List.replicate_succ]; rfl

/-! ### all bundles within amounts -/
def ext (r : List Int) (k : Nat) : List (List Int) := (List.range k).map fun (j : Nat) => r ++ [(j : Int)]
def step1 (rows : List (List Int)) (a : Nat) : List (List Int) := rows.flatMap fun r => ext r (a + 1)
def allW (as : List Nat) : List (List Int) := as.foldl step1 [[]]
theorem ext_succ (r : List Int) (k : Nat) : ext r (k + 1) = ext r k ++ [r ++ [(k : Int)]] := by unfold ext; rw [List.range_succ, List.map_append]; rfl
theorem ext_len (r : List Int) (k : Nat) : (ext r k).length = k := by unfold ext; simp
theorem step1_snoc (rows : List (List Int)) (r : List Int) (a : Nat) : step1 (rows ++ [r]) a = step1 rows a ++ ext r (a + 1) := by unfold step1; rw [List.flatMap_append]; simp
theorem step1_len (rows : List (List Int)) (a : Nat) : (step1 rows a).length = rows.length * (a + 1) := by
  induction rows with
  | nil => simp [step1]
  | cons r rows ih =>
    have e : step1 (r :: rows) a = ext r (a + 1) ++ step1 rows a := rfl
    rw [e, List.length_append, ext_len, ih, List.length_cons, Nat.succ_mul]; omega
theorem allW_snoc (as : List Nat) (a : Nat) : allW (as ++ [a]) = step1 (allW as) a := by unfold allW; rw [List.foldl_append]; rfl
theorem mem_step1 {rows : List (List Int)} {a : Nat} {z : List Int} : z ∈ step1 rows a ↔ ∃ r ∈ rows, ∃ j < a + 1, z = r ++ [(j : Int)] := by
  unfold step1 ext
  simp only [List.mem_flatMap, List.mem_map, List.mem_range]
  constructor
  · rintro ⟨r, hr, j, hj, e⟩; exact ⟨r, hr, j, hj, e.symm⟩
  · rintro ⟨r, hr, j, hj, e⟩; exact ⟨r, hr, j, hj, e.symm⟩
theorem take_snoc {α : Type} {as : List α} {i : Nat} {a : α} (h : as[i]? = some a) : as.take (i + 1) = as.take i ++ [a] := by rw [List.take_add_one, h]; rfl
theorem allW_facts (as : List Nat) (h30 : ∀ a ∈ as, a ≤ 30) : ∀ i ≤ as.length, (allW (as.take i)).length ≤ 31 ^ i ∧ ∀ r ∈ allW (as.take i), r.length = i ∧ ∀ x ∈ r, 0 ≤ x ∧ x ≤ 30 := by
  intro i
  induction i with
  | zero => intro _; exact ⟨by simp [allW], fun r hr => by simp [allW] at hr; subst hr; exact ⟨rfl, fun x hx => (nomatch hx)⟩⟩
  | succ i ih =>
    intro hi
    obtain ⟨h1, h2⟩ := ih (by omega)
    have e : as[i]? = some as[i] := List.getElem?_eq_getElem (by omega)
    have ha : as[i] ≤ 30 := h30 _ (List.getElem_mem _)
    rw [take_snoc e, allW_snoc]
    refine ⟨?_, fun r hr => ?_⟩
    · rw [step1_len, Nat.pow_succ]
      exact Nat.mul_le_mul h1 (by omega)
    · obtain ⟨r', hr', j, hj, rfl⟩ := mem_step1.mp hr
      obtain ⟨l, b⟩ := h2 r' hr'
      refine ⟨by rw [List.length_append, l]; rfl, fun x hx => ?_⟩
      rcases List.mem_append.mp hx with z | z
      · exact b x z
      · have : x = (j : Int) := by simpa using z
        omega
theorem pow31 {i : Nat} (h : i ≤ 3) : 31 ^ i ≤ 29791 := Nat.le_trans (Nat.pow_le_pow_right (by decide) h) (by decide)
def natV (as : List Nat) : List V := as.map fun (n : Nat) => V.int (n : Int)
theorem get_nat {as : List Nat} {i : Nat} {x : V} (h : (natV as)[i]? = some x) : ∃ a : Nat, as[i]? = some a ∧ x = V.int (a : Int) := by
  unfold natV at h
  rw [List.getElem?_map] at h
  cases e : as[i]? with
  | none => rw [e] at h; cases h
  | some z => rw [e] at h; exact ⟨z, rfl, (Option.some.inj h).symm⟩
theorem tup_snoc {H : Hp} {p : Addr} {r : List Int} {j : Int} (h : SqT K H p (r.map V.int ++ [V.int j])) : SqT K H p ((r ++ [j]).map V.int) := by rw [List.map_append]; exact h
def spAll (K : PySem.W.Frag) : Sp := fun vs H Q _ => ∃ (t : Addr) (as : List Nat), vs = [.ref t] ∧ SqT K H t (natV as) ∧ as.length ≤ 3 ∧ (∀ a ∈ as, a ≤ 30) ∧
  ∀ (p : Addr) (H' : Hp), Same H H' → H p = none → LL K H' p (allW as) → Q (.ref p) H'
/-- the rows of one head: the inner loop -/
theorem comp_ext {H : Hp} {hp : Addr} {r : List Int} {a n : Nat} (hn : n = a + 1) {rows0 : List (List Int)} {ys : List V} {o : Option V} {Q : LK} (hT : SqT K H hp (r.map V.int)) (hD : DVs K H (rows0.map tI) ys) (hr : r.length ≤ 3) (ha : a ≤ 30) (hl : rows0.length ≤ 1000000)
    (hq : ∀ zs σ H', Same H H' → (∃ o', σ = [some (.ref hp), o', some (.int (a : Int))]) → DVs K H' ((rows0 ++ ext r (a + 1)).map tI) zs → Q zs σ H') :
    ∃ W : Nat → List V → Nat → L2.St → Hp → Prop, (∃ m, W 0 ys m [some (.ref hp), o, some (.int (a : Int))] H) ∧ LTurn (Itr 0 n) (gName 1) tYes (tEmit (tOp (rCatTT K) (tVar 0) (tTup (tCons (tVar 1) tNil)))) Q W := by
  subst hn
  refine comp_rangeA (fun j zs σ H' => ∃ o', σ = [some (.ref hp), o', some (.int (a : Int))] ∧ DVs K H' ((rows0 ++ ext r j).map tI) zs ∧ Same H H') ⟨_, rfl, by rw [show ext r 0 = [] from rfl, List.append_nil]; exact hD, Same.refl H⟩ ?_ ?_
  · rintro j zs σ H' hj ⟨o', rfl, hD', s⟩
    have ly := hD'.length
    rw [List.length_map, List.length_append, ext_len] at ly
    refine ⟨Nat.lt_of_lt_of_le (by omega : zs.length < 2000000) (by decide), _, rfl, _, rfl, (by show 1 ≤ sizeLine; decide), fun p hp' => ?_⟩
    have s2 := same_newH hp' (.tup [V.int (0 + (j : Int))])
    refine ⟨hp, p, _, _, rfl, rfl, (s.trans s2).tup hT, SqT.of upd_same, Nat.le_trans (by rw [List.length_map]; exact Nat.add_le_add_right hr _) (by show 3 + 1 ≤ sizeLine; decide), fun q' H2 s3 t3 => ?_⟩
    refine ⟨_, rfl, ?_, (s.trans s2).trans s3⟩
    have e : (0 + (j : Int)) = (j : Int) := by omega
    rw [e] at t3
    rw [ext_succ, ← List.append_assoc, List.map_append]
    exact DVs.snoc (DVs.same (s2.trans s3) hD') (DV.tI (tup_snoc t3))
  · rintro zs σ H' ⟨o', rfl, hD', s⟩
    exact hq _ _ _ s ⟨o', rfl⟩ hD'
/-- all heads: the outer loop -/
theorem comp_step1 {H : Hp} {l : Addr} {rows : List (List Int)} {xs : List V} {a i : Nat} {o1 o2 : Option V} {Q : LK} (hL : SqL K H l xs) (hD : DVs K H (rows.map tI) xs) (hr : ∀ r ∈ rows, r.length = i) (hi : i ≤ 2) (ha : a ≤ 30) (hl : rows.length ≤ 30000)
    (hq : ∀ zs σ H', Same H H' → DVs K H' ((step1 rows a).map tI) zs → Q zs σ H') :
    ∃ W : Nat → List V → Nat → L2.St → Hp → Prop, (∃ m, W 0 [] m [o1, o2, some (.int (a : Int))] H) ∧ LTurn (Itl K l) (gName 0) tYes (tLoop (iRng1 (tCons (tOp (rI0 fun i j => V.int (i + j)) (tVar 2) (tC (V.int 1))) tNil)) (gName 1) tYes (tEmit (tOp (rCatTT K) (tVar 0) (tTup (tCons (tVar 1) tNil))))) Q W := by
  have lx : rows.length = xs.length := by have := hD.length; rwa [List.length_map] at this
  refine comp_listL (xs := xs) (fun j ys σ H' => ∃ p1 p2, σ = [p1, p2, some (.int (a : Int))] ∧ DVs K H' ((step1 (rows.take j) a).map tI) ys ∧ Same H H') ⟨_, _, rfl, DVs.nil, Same.refl H⟩ ?_ ?_ (mono_gName 0) ?_
  · rintro j ys σ H' hj ⟨p1, p2, rfl, hD', s⟩
    exact s.seq hL
  · rintro j x ys σ H' hx ⟨p1, p2, rfl, hD', s⟩
    obtain ⟨d, hd, dv⟩ := hD.get hx
    rw [List.getElem?_map] at hd
    obtain ⟨r, hr', rfl⟩ : ∃ r, rows[j]? = some r ∧ tI r = d := by
      cases e : rows[j]? with
      | none => rw [e] at hd; cases hd
      | some r => rw [e] at hd; exact ⟨r, rfl, Option.some.inj hd⟩
    obtain ⟨hp, rfl, ha'⟩ := DV.tI_inv dv
    have hj : j < rows.length := (List.getElem?_eq_some_iff.mp hr').1
    refine ⟨_, rfl, _, _, rfl, rfl, _, rfl, by omega, by omega, ?_⟩
    refine comp_ext (o := p2) (by omega) (s.tup ha') hD' (by rw [hr r (List.mem_of_getElem? hr')]; omega) ha (by rw [step1_len, List.length_take]; exact Nat.le_trans (Nat.mul_le_mul (Nat.le_trans (Nat.min_le_right _ _) hl) (by omega : a + 1 ≤ 31)) (by decide)) ?_
    · rintro zs σ' H'' s2 ⟨o', rfl⟩ hD2
      exact ⟨_, _, rfl, by rw [take_snoc hr', step1_snoc]; exact hD2, s.trans s2⟩
  · rintro ys σ H' ⟨p1, p2, rfl, hD', s⟩
    rw [← lx, List.take_length] at hD'
    exact hq _ _ _ s hD'

/-- a row made longer: the comprehension -/
theorem comp_ext1 {H : Hp} {hp : Addr} {r : List Int} {a n : Nat} (hn : n = a + 1) {o : Option V} {Q : LK} (hT : SqT K H hp (r.map V.int)) (hr : r.length ≤ 3) (ha : a ≤ 30)
    (hq : ∀ zs σ H', Same H H' → DVs K H' ((ext r (a + 1)).map tI) zs → Q zs σ H') :
    ∃ W : Nat → List V → Nat → L2.St → Hp → Prop, (∃ m, W 0 [] m [o, some (.ref hp)] H) ∧ LTurn (Itr 0 n) (gName 0) tYes (tEmit (tOp (rCatTT K) (tVar 1) (tTup (tCons (tVar 0) tNil)))) Q W := by
  subst hn
  refine comp_range (fun j zs σ H' => ∃ o', σ = [o', some (.ref hp)] ∧ DVs K H' ((ext r j).map tI) zs ∧ Same H H') ⟨_, rfl, DVs.nil, Same.refl H⟩ ?_ ?_
  · rintro j zs σ H' hj ⟨o', rfl, hD', s⟩
    have ly := hD'.length
    rw [List.length_map, ext_len] at ly
    refine ⟨Nat.lt_of_lt_of_le (by omega : zs.length < 2000000) (by decide), _, rfl, _, rfl, (by show 1 ≤ sizeLine; decide), fun p hp' => ?_⟩
    have s2 := same_newH hp' (.tup [V.int (0 + (j : Int))])
    refine ⟨hp, p, _, _, rfl, rfl, (s.trans s2).tup hT, SqT.of upd_same, Nat.le_trans (by rw [List.length_map]; exact Nat.add_le_add_right hr _) (by show 3 + 1 ≤ sizeLine; decide), fun q' H2 s3 t3 => ?_⟩
    refine ⟨_, rfl, ?_, (s.trans s2).trans s3⟩
    have e : (0 + (j : Int)) = (j : Int) := by omega
    rw [e] at t3
    rw [ext_succ, List.map_append]
    exact DVs.snoc (DVs.same (s2.trans s3) hD') (DV.tI (tup_snoc t3))
  · rintro zs σ H' ⟨o', rfl, hD', s⟩
    exact hq _ _ _ s hD'

/-! ### amounts drawn -/
def spAm : Sp := fun vs H Q _ => ∃ (u : Addr) (m : Nat), vs = [.ref u] ∧ Urn H u m ∧ m + 4 ≤ 1000000 ∧
  ∀ (p : Addr) (as : List Nat) (H' : Hp), 1 ≤ as.length → as.length ≤ 3 → (∀ a ∈ as, 1 ≤ a ∧ a ≤ 4) → SB u H H' → H p = none → H' p = some (.tup (natV as)) → Urn H' u (m + 4) → Q (.ref p) H'
theorem natV_snoc (as : List Nat) (a : Nat) : natV (as ++ [a]) = natV as ++ [V.int (a : Int)] := by unfold natV; rw [List.map_append]; rfl
theorem natV_length (as : List Nat) : (natV as).length = as.length := by unfold natV; rw [List.length_map]
theorem dn_amounts (T : Txt K mg) : Dn P w K mg base 2 "_law_amounts" sLawAmounts ["_law_urn_here"] spAm := by
  refine Dn.of T.f_law_amounts sc_law_amounts (fun vs H Q E h => ?_) (fun f cdv A outer s H vs Q E hr h => ?_)
  · obtain ⟨u, m, rfl, _⟩ := h; rfl
  obtain ⟨u, m, rfl, hU, hm, q⟩ := h
  have D_law_draw := dn_draw (P := P) (w := w) (base := base) T
  refine ⟨_, IPSs.get (i_pss_cons (i_ps_ret (i_pe_callTy call_tuple_of rfl T.z_tuple (by decide +kernel) (i_pa_cons (by refine' i_pe_comp (Nc := ["_law_k", "_law_urn_here"]) (cap := [none, some 0]) rfl ?i ?k ?g ?t ?e; (case k => kernel_rfl); (case i => exact (i_pi_range1 rfl T.z_range (i_pa_cons (i_pe_op op_add i_pe_int (i_pe_def D_law_draw bd_law_draw (hr.mono (by decide)) (i_pa_cons (i_pv 0) (i_pa_cons i_pe_int i_pa_nil)))) i_pa_nil))); (case g => exact (fun _ _ _ _ _ => (i_pgl 0 (by show List.Nodup (["_law_k", "_law_urn_here"] : List Str); decide +kernel)))); (case t => exact (fun _ _ _ _ _ => i_pts_nil)); (case e => exact (fun _ _ _ _ _ => (i_pe_op op_add i_pe_int (i_pe_def D_law_draw bd_law_draw (hr.mono (by decide)) (i_pa_cons (i_pvf 1) (i_pa_cons i_pe_int i_pa_nil)) (hg := gl_comp)))))) i_pa_nil))) i_pss_nil), ?_⟩
  refine ⟨_, rfl, u, 3, m, rfl, hU, by omega, by decide, by decide, fun d H1 d0 d1 s1 u1 => ⟨_, _, rfl, rfl, _, rfl, by omega, by omega, ?_⟩⟩
  refine comp_range (lo := 0) (n := (1 + d).toNat) (fun i ys σ H' => ∃ o as, σ = [o, some (.ref u)] ∧ ys = natV as ∧ as.length = i ∧ (∀ a ∈ as, 1 ≤ a ∧ a ≤ 4) ∧ SB u H1 H' ∧ Urn H' u (m + 1 + i)) ⟨_, [], rfl, rfl, rfl, fun x hx => (nomatch hx), SB.refl _ _, u1⟩ ?_ ?_
  · rintro i ys σ H' hi ⟨o, as, rfl, rfl, rfl, hs, sb, uu⟩
    have hi' : as.length < 3 := by omega
    refine ⟨?_, _, rfl, u, 4, _, rfl, uu, by omega, by decide, by decide, fun d' H2 e0 e1 s2 u2 => ⟨_, _, rfl, rfl, ?_⟩⟩
    · rw [natV_length]; exact Nat.lt_of_lt_of_le (by omega : as.length < 100) (by decide)
    · refine ⟨_, as ++ [(1 + d').toNat], rfl, ?_, by rw [List.length_append]; rfl, fun x hx => ?_, sb.trans s2, u2.mono (by omega)⟩
      · rw [natV_snoc]
        have : (((1 + d').toNat : Nat) : Int) = 1 + d' := by omega
        rw [this]
      · rcases List.mem_append.mp hx with z | z
        · exact hs x z
        · have : x = (1 + d').toNat := by simpa using z
          omega
  · rintro ys σ H' ⟨o, as, rfl, rfl, hl, hs, sb, uu⟩ p hp
    refine ⟨p, _, rfl, .inl ⟨SqL.of upd_same, fun t ht => ?_⟩⟩
    have U2 : Urn (upd H' p (.lst (natV as))) u (m + 1 + (1 + d).toNat) := uu.same (same_newH hp _)
    have S3 : SB u H (upd H' p (.lst (natV as))) := (s1.trans sb).trans ((same_newH hp _).sb u)
    exact q t as _ (by omega) (by omega) hs (S3.trans ((same_newH ht _).sb u)) (free_of S3 hU U2 ht) upd_same ((U2.same (same_newH ht _)).mono (by omega))

theorem dn_all_within (T : Txt K mg) : Dn P w K mg base 1 "_law_all_within" sLawAllWithin ["_law_amounts_here"] (spAll K) := by
  refine Dn.of T.f_law_all_within sc_law_all_within (fun vs H Q E h => ?_) (fun f cdv A outer s H vs Q E hr h => ?_)
  · obtain ⟨t, as, rfl, _⟩ := h; rfl
  obtain ⟨t, as, rfl, hT, l3, h30, q⟩ := h
  refine ⟨_, IPSs.get (i_pss_cons (i_ps_set (i := 1) sc_law_all_within.nd rfl (Or.inl rfl) (i_pe_lst (i_pa_cons (i_pe_tup i_pa_nil) i_pa_nil)))
    (i_pss_cons (i_ps_for PassesOwn.never rfl (i_pi_tup (i_pv 0)) (i_pg_name (i := 2) sc_law_all_within.nd rfl (Or.inl rfl)) (i_pss_cons (i_ps_set (i := 3) sc_law_all_within.nd rfl (Or.inl rfl) (i_pe_lst i_pa_nil))
    (i_pss_cons (i_ps_for PassesOwn.never rfl (i_pi_list (i_pv 1)) (i_pg_name (i := 4) sc_law_all_within.nd rfl (Or.inr rfl)) (i_pss_one (i_ps_expr (i_pe_bm PySem.F.plainAttrs_list PySem.F.slot_list_extend PySem.F.type_list_extend mt_extend (i_pv 3) (i_pa_cons (by refine' i_pe_comp (Nc := ["_law_pieces", "_law_row"]) (cap := [none, some 4]) rfl ?i ?k ?g ?t ?e; (case k => kernel_rfl); (case i => exact (i_pi_range1 rfl T.z_range (i_pa_cons (i_pe_op op_add (i_pv 2) i_pe_int) i_pa_nil))); (case g => exact (fun _ _ _ _ _ => (i_pgl 0 (by show List.Nodup (["_law_pieces", "_law_row"] : List Str); decide +kernel)))); (case t => exact (fun _ _ _ _ _ => i_pts_nil)); (case e => exact (fun _ _ _ _ _ => (i_pe_op (op_catTTK (K := K) rfl) (i_pvf 1) (i_pe_tup (i_pa_cons (i_pvl 0) i_pa_nil)))))) i_pa_nil)))))
    (i_pss_one (i_ps_set (i := 1) sc_law_all_within.nd rfl (Or.inl rfl) (i_pv 3))))))
    (i_pss_one (i_ps_ret (i_pv 1))))), ?_⟩
  have lt : (natV as).length = as.length := by unfold natV; rw [List.length_map]
  refine ⟨(by show 0 ≤ sizeLine; decide), fun p0 hp0 => ⟨(by show 1 ≤ sizeLine; decide), fun L0 hL0 => ?_⟩⟩
  have s0 := same_newH hp0 (.tup [])
  have s1 := same_newH hL0 (.lst [V.ref p0])
  refine ⟨_, rfl, t, rfl, ⟨_, (s0.trans s1).tup hT⟩, for_tup (xs := natV as) (fun i σ H' => ∃ L o2 o3 o4, σ = [some (.ref t), some (.ref L), o2, o3, o4] ∧ LL K H' L (allW (as.take i)) ∧ Same H H' ∧ H L = none) ⟨L0, _, _, _, rfl, ⟨_, upd_same, DVs.cons (DV.tI (ns := []) (SqT.of (s1 _ _ upd_same))) DVs.nil⟩, s0.trans s1, Same.free s0 hL0⟩ ?_ ?_ ?_⟩
  · rintro i σ H' hi ⟨L, o2, o3, o4, rfl, hLL, s, hf⟩
    exact s.tup hT
  · rintro i x σ H' hx ⟨L, o2, o3, o4, rfl, hLL, s, hf⟩
    obtain ⟨a, ea, rfl⟩ := get_nat hx
    have hi : i < as.length := (List.getElem?_eq_some_iff.mp ea).1
    have ha := h30 a (List.mem_of_getElem? ea)
    obtain ⟨f1, f2⟩ := allW_facts as h30 i (by omega)
    have f1' : (allW (as.take i)).length ≤ 30000 := Nat.le_trans f1 (Nat.le_trans (pow31 (by omega)) (by decide))
    generalize hrows : allW (as.take i) = rows at f1 f2 f1' hLL
    refine ⟨(by show 0 ≤ sizeLine; decide), fun Lg hLg => ?_⟩
    have sg := same_newH hLg (.lst [])
    have hg : H Lg = none := Same.free s hLg
    obtain ⟨xs, x1, x2, x3⟩ := (hLL.same sg).len
    have nL : L ≠ Lg := hLL.ne hLg
    refine ⟨_, rfl, L, rfl, ⟨xs, SqL.of x1⟩, for_list (xs := xs) (fun j σ H2 => ∃ o5 ys, σ = [some (.ref t), some (.ref L), some (.int (a : Int)), some (.ref Lg), o5] ∧ H2 Lg = some (.lst ys) ∧ DVs K H2 ((step1 (rows.take j) a).map tI) ys ∧ H2 L = some (.lst xs) ∧ DVs K H2 (rows.map tI) xs ∧ Same H H2) ⟨_, [], rfl, upd_same, DVs.nil, x1, x2, s.trans sg⟩ ?_ ?_ ?_⟩
    · rintro j σ H2 hj ⟨o5, ys, rfl, y1, y2, y3, y4, y5⟩
      exact SqL.of y3
    · rintro j x σ H2 hx ⟨o5, ys, rfl, y1, y2, y3, y4, y5⟩
      obtain ⟨d, hd, dv⟩ := y4.get hx
      rw [List.getElem?_map] at hd
      obtain ⟨r, hr', rfl⟩ : ∃ r, rows[j]? = some r ∧ tI r = d := by
        cases e : rows[j]? with
        | none => rw [e] at hd; cases hd
        | some r => rw [e] at hd; exact ⟨r, rfl, Option.some.inj hd⟩
      obtain ⟨hp, rfl, ha'⟩ := DV.tI_inv dv
      have ly := y2.length
      rw [List.length_map, step1_len, List.length_take] at ly
      have lb : ys.length ≤ 30000 * 31 := by rw [← ly]; exact Nat.mul_le_mul (Nat.le_trans (Nat.min_le_right _ _) f1') (by omega)
      refine ⟨_, rfl, .inl ⟨rfl, _, SqL.of y1⟩, _, rfl, _, _, rfl, rfl, _, rfl, by omega, by omega, comp_ext1 (by omega) ha' (by rw [(f2 r (List.mem_of_getElem? hr')).1]; omega) ha fun zs σ3 H3 s3 hD3 p hp3 => ?_⟩
      have s4 := same_newH hp3 (.lst zs)
      have lz := hD3.length
      rw [List.length_map, ext_len] at lz
      have g1 := s4 _ _ (s3 _ _ y1)
      have s34 := s3.trans s4
      refine ⟨Lg, p, ys, zs, rfl, rfl, g1, upd_same, Nat.le_trans (by omega : ys.length + zs.length ≤ 2000000) (by decide), ?_⟩
      have sb := SB.upd Lg (upd H3 p (.lst zs)) (.lst (ys ++ zs))
      refine ⟨_, _, rfl, upd_same, ?_, sb _ _ nL (s34 _ _ y3), rows_but g1 sb (DVs.same s34 y4), same_via hg (y5.trans s34) sb⟩
      rw [take_snoc hr', step1_snoc, List.map_append]
      have := DVs.append (DVs.same s34 y2) (DVs.same s4 hD3)
      rw [← List.map_append] at this ⊢
      exact rows_but g1 sb this
    · rintro σ H2 ⟨o5, ys, rfl, y1, y2, y3, y4, y5⟩
      refine ⟨_, rfl, ?_⟩
      rw [x3, List.take_length] at y2
      refine ⟨Lg, _, _, _, rfl, ⟨ys, y1, ?_⟩, y5, hg⟩
      rw [take_snoc ea, allW_snoc, hrows]
      exact y2
  · rintro σ H' ⟨L, o2, o3, o4, rfl, hLL, s, hf⟩
    rw [lt, List.take_length] at hLL
    exact ⟨_, rfl, q L _ s hf hLL⟩

theorem dn_prices (T : Txt K mg) : Dn P w K mg base 2 "_law_prices" sLawPrices ["_law_urn_here", "_law_several"] spTup := by
  refine Dn.of T.f_law_prices sc_law_prices (fun vs H Q E h => ?_) (fun f cdv A outer s H vs Q E hr h => ?_)
  · obtain ⟨u, wd, m, rfl, _⟩ := h; rfl
  obtain ⟨u, k, m, rfl, hU, hm, k0, k1, q⟩ := h
  have D_law_draw := dn_draw (P := P) (w := w) (base := base) T
  refine ⟨_, IPSs.get (i_pss_cons (i_ps_set (i := 2) sc_law_prices.nd rfl (Or.inr rfl) (i_pe_ix ix_list (i_pe_lst (i_pa_cons i_pe_int (i_pa_cons i_pe_int (i_pa_cons i_pe_int (i_pa_cons i_pe_int i_pa_nil))))) (i_pe_def D_law_draw bd_law_draw (hr.mono (by decide)) (i_pa_cons (i_pv 0) (i_pa_cons i_pe_int i_pa_nil))) (fun _ _ => rfl)))
    (i_pss_one (i_ps_ret (i_pe_callTy call_tuple_of rfl T.z_tuple (by decide +kernel) (i_pa_cons (by refine' i_pe_comp (Nc := ["_law_k", "_law_urn_here", "_law_wide"]) (cap := [none, some 0, some 2]) rfl ?i ?k ?g ?t ?e; (case k => kernel_rfl); (case i => exact (i_pi_range1 rfl T.z_range (i_pa_cons (i_pv 1) i_pa_nil))); (case g => exact (fun _ _ _ _ _ => (i_pgl 0 (by show List.Nodup (["_law_k", "_law_urn_here", "_law_wide"] : List Str); decide +kernel)))); (case t => exact (fun _ _ _ _ _ => i_pts_nil)); (case e => exact (fun _ _ _ _ _ => (i_pe_def D_law_draw bd_law_draw (hr.mono (by decide)) (i_pa_cons (i_pvf 1) (i_pa_cons (i_pvf 2) i_pa_nil)) (hg := gl_comp))))) i_pa_nil))))), ?_⟩
  refine ⟨(by show 4 ≤ sizeLine; decide), fun L hL => ?_⟩
  have U1 : Urn (upd H L (.lst [V.int 3, V.int 12, V.int 100, V.int 1000001])) u m := hU.same (same_newH hL _)
  refine ⟨_, rfl, u, 4, m, rfl, U1, by omega, by decide, by decide, fun d H1 d0 d1 s1 u1 => ?_⟩
  have L1 : H1 L = some (.lst [V.int 3, V.int 12, V.int 100, V.int 1000001]) := s1 _ _ (hU.ne hL) upd_same
  obtain ⟨wd, ew, w0, w1⟩ : ∃ wd : Int, atI [V.int 3, V.int 12, V.int 100, V.int 1000001] d = some (.int wd) ∧ 0 < wd ∧ wd < 1073741824 := by
    have : d = 0 ∨ d = 1 ∨ d = 2 ∨ d = 3 := by omega
    rcases this with e | e | e | e <;> rw [e] <;> exact ⟨_, rfl, by decide, by decide⟩
  refine ⟨L, _, _, _, rfl, rfl, SqL.of L1, ew, ?_⟩
  have s01 : SB u H H1 := ((same_newH hL _).sb u).trans s1
  refine ⟨_, rfl, k, rfl, by omega, by omega, comp_range (lo := 0) (n := k.toNat) (fun i ys σ H' => ∃ o ns, σ = [o, some (.ref u), some (.int wd)] ∧ ys = ns.map V.int ∧ ns.length = i ∧ Small ns ∧ SB u H1 H' ∧ Urn H' u (m + 1 + 3 * i)) ⟨_, [], rfl, rfl, rfl, fun x hx => (nomatch hx), SB.refl _ _, u1⟩ ?_ ?_⟩
  · rintro i ys σ H' hi ⟨o, ns, rfl, rfl, rfl, hs, sb, uu⟩
    refine ⟨?_, _, rfl, _, rfl, u, wd, m + 1 + 3 * ns.length, rfl, uu, by omega, w0, w1, fun d' H2 e0 e1 s2 u2 => ?_⟩
    · rw [List.length_map]; exact Nat.lt_of_lt_of_le (by omega : ns.length < 100) (by decide)
    · refine ⟨_, ns ++ [d'], rfl, by rw [List.map_append]; rfl, by rw [List.length_append]; rfl, fun x hx => ?_, sb.trans s2, u2.mono (by omega)⟩
      rcases List.mem_append.mp hx with z | z
      · exact hs x z
      · have : x = d' := by simpa using z
        subst this; exact ⟨e0, by omega⟩
  · rintro ys σ H' ⟨o, ns, rfl, rfl, hl, hs, sb, uu⟩ p hp
    refine ⟨p, _, rfl, .inl ⟨SqL.of upd_same, fun t ht => ?_⟩⟩
    have U2 : Urn (upd H' p (.lst (ns.map V.int))) u (m + 1 + 3 * k.toNat) := uu.same (same_newH hp _)
    have S2 : SB u H (upd (upd H' p (.lst (ns.map V.int))) t (.tup (ns.map V.int))) := (s01.trans sb).trans (((same_newH hp _).trans (same_newH ht _)).sb u)
    have S3 : SB u H (upd H' p (.lst (ns.map V.int))) := (s01.trans sb).trans ((same_newH hp _).sb u)
    exact q t ns _ hl hs S2 (free_of S3 hU U2 ht) upd_same ((U2.same (same_newH ht _)).mono (by omega))

theorem dn_small (T : Txt K mg) : Dn P w K mg base 2 "_law_small" sLawSmall ["_law_urn_here", "_law_several"] spTup := by
  refine Dn.of T.f_law_small sc_law_small (fun vs H Q E h => ?_) (fun f cdv A outer s H vs Q E hr h => ?_)
  · obtain ⟨u, wd, m, rfl, _⟩ := h; rfl
  obtain ⟨u, k, m, rfl, hU, hm, k0, k1, q⟩ := h
  have D_law_draw := dn_draw (P := P) (w := w) (base := base) T
  refine ⟨_, IPSs.get (i_pss_cons (i_ps_set (i := 2) sc_law_small.nd rfl (Or.inr rfl) (i_pe_ix ix_list (i_pe_lst (i_pa_cons i_pe_int (i_pa_cons i_pe_int (i_pa_cons i_pe_int (i_pa_cons i_pe_int i_pa_nil))))) (i_pe_def D_law_draw bd_law_draw (hr.mono (by decide)) (i_pa_cons (i_pv 0) (i_pa_cons i_pe_int i_pa_nil))) (fun _ _ => rfl)))
    (i_pss_one (i_ps_ret (i_pe_callTy call_tuple_of rfl T.z_tuple (by decide +kernel) (i_pa_cons (by refine' i_pe_comp (Nc := ["_law_k", "_law_urn_here", "_law_wide"]) (cap := [none, some 0, some 2]) rfl ?i ?k ?g ?t ?e; (case k => kernel_rfl); (case i => exact (i_pi_range1 rfl T.z_range (i_pa_cons (i_pv 1) i_pa_nil))); (case g => exact (fun _ _ _ _ _ => (i_pgl 0 (by show List.Nodup (["_law_k", "_law_urn_here", "_law_wide"] : List Str); decide +kernel)))); (case t => exact (fun _ _ _ _ _ => i_pts_nil)); (case e => exact (fun _ _ _ _ _ => (i_pe_def D_law_draw bd_law_draw (hr.mono (by decide)) (i_pa_cons (i_pvf 1) (i_pa_cons (i_pvf 2) i_pa_nil)) (hg := gl_comp))))) i_pa_nil))))), ?_⟩
  refine ⟨(by show 4 ≤ sizeLine; decide), fun L hL => ?_⟩
  have U1 : Urn (upd H L (.lst [V.int 2, V.int 3, V.int 5, V.int 1000])) u m := hU.same (same_newH hL _)
  refine ⟨_, rfl, u, 4, m, rfl, U1, by omega, by decide, by decide, fun d H1 d0 d1 s1 u1 => ?_⟩
  have L1 : H1 L = some (.lst [V.int 2, V.int 3, V.int 5, V.int 1000]) := s1 _ _ (hU.ne hL) upd_same
  obtain ⟨wd, ew, w0, w1⟩ : ∃ wd : Int, atI [V.int 2, V.int 3, V.int 5, V.int 1000] d = some (.int wd) ∧ 0 < wd ∧ wd < 1073741824 := by
    have : d = 0 ∨ d = 1 ∨ d = 2 ∨ d = 3 := by omega
    rcases this with e | e | e | e <;> rw [e] <;> exact ⟨_, rfl, by decide, by decide⟩
  refine ⟨L, _, _, _, rfl, rfl, SqL.of L1, ew, ?_⟩
  have s01 : SB u H H1 := ((same_newH hL _).sb u).trans s1
  refine ⟨_, rfl, k, rfl, by omega, by omega, comp_range (lo := 0) (n := k.toNat) (fun i ys σ H' => ∃ o ns, σ = [o, some (.ref u), some (.int wd)] ∧ ys = ns.map V.int ∧ ns.length = i ∧ Small ns ∧ SB u H1 H' ∧ Urn H' u (m + 1 + 3 * i)) ⟨_, [], rfl, rfl, rfl, fun x hx => (nomatch hx), SB.refl _ _, u1⟩ ?_ ?_⟩
  · rintro i ys σ H' hi ⟨o, ns, rfl, rfl, rfl, hs, sb, uu⟩
    refine ⟨?_, _, rfl, _, rfl, u, wd, m + 1 + 3 * ns.length, rfl, uu, by omega, w0, w1, fun d' H2 e0 e1 s2 u2 => ?_⟩
    · rw [List.length_map]; exact Nat.lt_of_lt_of_le (by omega : ns.length < 100) (by decide)
    · refine ⟨_, ns ++ [d'], rfl, by rw [List.map_append]; rfl, by rw [List.length_append]; rfl, fun x hx => ?_, sb.trans s2, u2.mono (by omega)⟩
      rcases List.mem_append.mp hx with z | z
      · exact hs x z
      · have : x = d' := by simpa using z
        subst this; exact ⟨e0, by omega⟩
  · rintro ys σ H' ⟨o, ns, rfl, rfl, hl, hs, sb, uu⟩ p hp
    refine ⟨p, _, rfl, .inl ⟨SqL.of upd_same, fun t ht => ?_⟩⟩
    have U2 : Urn (upd H' p (.lst (ns.map V.int))) u (m + 1 + 3 * k.toNat) := uu.same (same_newH hp _)
    have S2 : SB u H (upd (upd H' p (.lst (ns.map V.int))) t (.tup (ns.map V.int))) := (s01.trans sb).trans (((same_newH hp _).trans (same_newH ht _)).sb u)
    have S3 : SB u H (upd H' p (.lst (ns.map V.int))) := (s01.trans sb).trans ((same_newH hp _).sb u)
    exact q t ns _ hl hs S2 (free_of S3 hU U2 ht) upd_same ((U2.same (same_newH ht _)).mono (by omega))

theorem dot_nil (ms : List Int) : dot [] ms = 0 := by simp [dot]
theorem take_zip {ns ms : List Int} {i : Nat} {x y : Int} (hx : ns[i]? = some x) (hy : ms[i]? = some y) : ((ns.zip ms).take (i + 1)).map (fun p => V.int (p.1 * p.2)) = ((ns.zip ms).take i).map (fun p => V.int (p.1 * p.2)) ++ [V.int (x * y)] := by
  have h : (ns.zip ms)[i]? = some (x, y) := List.getElem?_zip_eq_some.mpr ⟨hx, hy⟩
  rw [List.take_add_one, h, List.map_append]; rfl
theorem comp_dot {K : PySem.W.Frag} {H : Hp} {a b : Addr} {ns ms : List Int} {Q : LK} {o1 o2 : Option V} (h1 : SqT K H a (ns.map V.int)) (h2 : SqT K H b (ms.map V.int)) (b1 : Small ns) (b2 : Small ms)
    (hq : ∀ σ H', Same H H' → Q (((ns.zip ms).map fun p => p.1 * p.2).map V.int) σ H') (hz : ns.length ≤ sizeLine) :
    ∃ W : Nat → List V → Nat → L2.St → Hp → Prop, (∃ m, W 0 [] m [o1, o2] H) ∧ LTurn (Itz K true true a b) (gTup K 2 (gCons (gName 0) (gCons (gName 1) gNil))) tYes (tEmit (tOp (rI IntMulOk fun i j => .int (i * j)) (tVar 0) (tVar 1))) Q W := by
  refine comp_zip (xs := ns.map V.int) (ys := ms.map V.int) (fun i zs σ H' => ∃ p1 p2, σ = [p1, p2] ∧ zs = ((ns.zip ms).take i).map (fun p => V.int (p.1 * p.2)) ∧ Same H H') ⟨_, _, rfl, rfl, Same.refl H⟩ ?_ ?_ ?_
  · rintro i zs σ H' hi ⟨p1, p2, rfl, rfl, s⟩
    exact ⟨s.tup h1, s.tup h2⟩
  · rintro i x y zs σ H' p hx hy hp ⟨p1, p2, rfl, rfl, s⟩
    rw [List.getElem?_map] at hx hy
    obtain ⟨x', ex, rfl⟩ : ∃ x', ns[i]? = some x' ∧ V.int x' = x := by
      cases e : ns[i]? with
      | none => rw [e] at hx; cases hx
      | some z => rw [e] at hx; exact ⟨z, rfl, Option.some.inj hx⟩
    obtain ⟨y', ey, rfl⟩ : ∃ y', ms[i]? = some y' ∧ V.int y' = y := by
      cases e : ms[i]? with
      | none => rw [e] at hy; cases hy
      | some z => rw [e] at hy; exact ⟨z, rfl, Option.some.inj hy⟩
    refine ⟨p, [V.int x', V.int y'], rfl, SqT.of upd_same, rfl, _, _, rfl, _, _, rfl, rfl, ?_, _, rfl, _, rfl, _, _, rfl, rfl, b1.ok b2 (List.mem_of_getElem? ex) (List.mem_of_getElem? ey), ?_⟩
    · have hi : i < ns.length := (List.getElem?_eq_some_iff.mp ex).1
      rw [List.length_map, List.length_take]
      exact Nat.lt_of_le_of_lt (Nat.min_le_left _ _) (Nat.lt_of_lt_of_le hi hz)
    · exact ⟨_, _, rfl, (take_zip ex ey).symm, s.trans (same_newH hp _)⟩
  · rintro zs σ H' ⟨p1, p2, rfl, rfl, s⟩
    have e : ((ns.map V.int).zip (ms.map V.int)).length = (ns.zip ms).length := by simp
    rw [e, List.take_length]
    have := hq [p1, p2] H' s
    rwa [List.map_map] at this

theorem dn_lcost (T : Txt K mg) : Dn P w K mg base 1 "_law_cost" sLawCost ["_law_prices_here", "_law_bundle_here"] (spDot K) := by
  refine Dn.of T.f_law_cost sc_law_cost (fun vs H Q E h => ?_) (fun f cdv A outer s H vs Q E hr h => ?_)
  · obtain ⟨a, b, ns, ms, rfl, _⟩ := h; rfl
  obtain ⟨a, b, ns, ms, rfl, h1, h2, b1, b2, hz, q⟩ := h
  refine ⟨_, IPSs.get (i_pss_cons (i_ps_ret (i_pe_callB (call_sumL rfl) rfl T.z_sum boot_sum (i_pa_cons (by refine' i_pe_comp (Nc := ["_law_price", "_law_pieces"]) (cap := [none, none]) rfl ?i ?k ?g ?t ?e; (case k => kernel_rfl); (case i => exact (i_pi_zip true true rfl T.z_zip (i_pa_cons (i_pv 0) (i_pa_cons (i_pv 1) i_pa_nil)))); (case g => exact (fun _ _ _ _ _ => (i_pgl2K (K := K) rfl 0 1 rfl (by show List.Nodup (["_law_price", "_law_pieces"] : List Str); decide +kernel)))); (case t => exact (fun _ _ _ _ _ => i_pts_nil)); (case e => exact (fun _ _ _ _ _ => (i_pe_op op_mulB (i_pvl 0) (i_pvl 1))))) i_pa_nil))) i_pss_nil), ?_⟩
  refine ⟨_, rfl, _, rfl, a, b, _, _, rfl, h1, h2, comp_dot h1 h2 b1 b2 (fun σ H' s p hp => ?_) hz⟩
  exact ⟨p, _, rfl, SqL.of upd_same, q _ (s.trans (same_newH hp _))⟩

end
end Mine

set_option Elab.async false
set_option linter.all false
set_option maxRecDepth 100000
set_option maxHeartbeats 4000000
namespace Mine
open PySem PySem.Spec PyProof.Rows L2
section
variable {P : Program} {w : World} {K : PySem.W.Frag} {mg : Str → Option Value} {base : Heap}
/-! ### a bundle drawn -/
def Pcs (ns : List Int) : Prop := ∀ x ∈ ns, 0 ≤ x ∧ x ≤ 30
theorem Pcs.small {ns : List Int} (h : Pcs ns) : Small ns := fun x hx => ⟨(h x hx).1, by have := (h x hx).2; omega⟩
def spBun (K : PySem.W.Frag) : Sp := fun vs H Q _ => ∃ (u t : Addr) (as : List Nat) (m : Nat), vs = [.ref u, .ref t] ∧ Urn H u m ∧ m + 6 ≤ 1000000 ∧ SqT K H t (natV as) ∧ 1 ≤ as.length ∧ as.length ≤ 3 ∧ (∀ a ∈ as, a ≤ 30) ∧
  ∀ (p : Addr) (ns : List Int) (H' : Hp), ns.length = as.length → Pcs ns → SB u H H' → SqT K H' p (ns.map V.int) → Urn H' u (m + 6) → Q (.ref p) H'
theorem mulC {x : Int} {c : Bool} (h0 : 0 ≤ x) (h1 : x ≤ 30) : IntMulOk x (if c then 1 else 0) := mk0 h0 (by omega) (by cases c <;> decide) (by cases c <;> decide)
theorem mulB {x : Int} {c : Bool} (h0 : 0 ≤ x) (h1 : x ≤ 30) : 0 ≤ x * (if c then 1 else 0) ∧ x * (if c then 1 else 0) ≤ 30 := by cases c <;> simp <;> omega
theorem snoc_int (ks : List Int) (z : Int) : ks.map V.int ++ [V.int z] = (ks ++ [z]).map V.int := by rw [List.map_append]; rfl
theorem natV_int (as : List Nat) : natV as = (as.map fun (n : Nat) => (n : Int)).map V.int := by unfold natV; rw [List.map_map]; rfl
theorem dn_bundle (T : Txt K mg) : Dn P w K mg base 2 "_law_bundle" sLawBundle ["_law_urn_here", "_law_amounts_here"] (spBun K) := by
  refine Dn.of T.f_law_bundle sc_law_bundle (fun vs H Q E h => ?_) (fun f cdv A outer s H vs Q E hr h => ?_)
  · obtain ⟨u, t, as, m, rfl, _⟩ := h; rfl
  obtain ⟨u, t, as, m, rfl, hU, hm, hT, l1, l3, h30, q⟩ := h
  have D_law_draw := dn_draw (P := P) (w := w) (base := base) T
  refine ⟨_, IPSs.get (i_pss_cons (i_ps_set (i := 2) sc_law_bundle.nd rfl (Or.inl rfl) (i_pe_def D_law_draw bd_law_draw (hr.mono (by decide)) (i_pa_cons (i_pv 0) (i_pa_cons i_pe_int i_pa_nil))))
    (i_pss_cons (i_ps_set (i := 3) sc_law_bundle.nd rfl (Or.inr rfl) (i_pe_def D_law_draw bd_law_draw (hr.mono (by decide)) (i_pa_cons (i_pv 0) (i_pa_cons (i_pe_callB call_len_seq rfl T.z_len boot_len (i_pa_cons (i_pv 1) i_pa_nil)) i_pa_nil))))
    (i_pss_cons (i_ps_if (i_pt_cmpR op_eq (i_pv 2) i_pe_int (nomark _)) (i_pss_one (i_ps_ret (i_pe_callTy call_tuple_of rfl T.z_tuple (by decide +kernel) (i_pa_cons (by refine' i_pe_comp (Nc := ["_law_one"]) (cap := [none]) rfl ?i ?k ?g ?t ?e; (case k => kernel_rfl); (case i => exact (i_pi_tup (i_pv 1))); (case g => exact (fun _ _ _ _ _ => (i_pgl 0 (by show List.Nodup (["_law_one"] : List Str); decide +kernel)))); (case t => exact (fun _ _ _ _ _ => i_pts_nil)); (case e => exact (fun _ _ _ _ _ => i_pe_int))) i_pa_nil)))) i_pss_nil)
    (i_pss_cons (i_ps_if (i_pt_cmpR op_eq (i_pv 2) i_pe_int (nomark _)) (i_pss_one (i_ps_ret (i_pv 1))) i_pss_nil)
    (i_pss_cons (i_ps_set (i := 4) sc_law_bundle.nd rfl (Or.inr rfl) (by refine' i_pe_comp (Nc := ["_law_one", "_law_urn_here"]) (cap := [none, some 0]) rfl ?i ?k ?g ?t ?e; (case k => kernel_rfl); (case i => exact (i_pi_tup (i_pv 1))); (case g => exact (fun _ _ _ _ _ => (i_pgl 0 (by show List.Nodup (["_law_one", "_law_urn_here"] : List Str); decide +kernel)))); (case t => exact (fun _ _ _ _ _ => i_pts_nil)); (case e => exact (fun _ _ _ _ _ => (i_pe_def D_law_draw bd_law_draw (hr.mono (by decide)) (i_pa_cons (i_pvf 1) (i_pa_cons (i_pe_op op_add (i_pvl 0) i_pe_int) i_pa_nil)) (hg := gl_comp))))))
    (i_pss_cons (i_ps_if (i_pt_cmpR op_eq (i_pv 2) i_pe_int (nomark _)) (i_pss_one (i_ps_ret (i_pe_callTy call_tuple_of rfl T.z_tuple (by decide +kernel) (i_pa_cons (by refine' i_pe_comp (Nc := ["_law_k", "_law_found", "_law_spot"]) (cap := [none, some 4, some 3]) rfl ?i ?k ?g ?t ?e; (case k => kernel_rfl); (case i => exact (i_pi_range1 rfl T.z_range (i_pa_cons (i_pe_callB call_len_seq rfl T.z_len boot_len (i_pa_cons (i_pv 1) i_pa_nil)) i_pa_nil))); (case g => exact (fun _ _ _ _ _ => (i_pgl 0 (by show List.Nodup (["_law_k", "_law_found", "_law_spot"] : List Str); decide +kernel)))); (case t => exact (fun _ _ _ _ _ => i_pts_nil)); (case e => exact (fun _ _ _ _ _ => (i_pe_op op_mulB (i_pe_ix (ix_listK (K := K) rfl) (i_pvf 1) (i_pvl 0) (fun _ _ => rfl)) (i_pe_callTy call_int1 gl_comp T.z_int (by decide +kernel) (i_pa_cons (i_pe_cmpR op_eq (i_pvl 0) (i_pvf 2) (nomark _)) i_pa_nil)))))) i_pa_nil)))) i_pss_nil)
    (i_pss_one (i_ps_ret (i_pe_callTy call_tuple_of rfl T.z_tuple (by decide +kernel) (i_pa_cons (i_pv 4) i_pa_nil)))))))))), ?_⟩
  refine ⟨_, rfl, u, 6, m, rfl, hU, by omega, by decide, by decide, fun d H1 d0 d1 s1 U1 => ?_⟩
  obtain ⟨y0, v0⟩ := urn_lst hU
  have hT1 := tup_but v0 s1 hT
  refine ⟨_, rfl, _, rfl, t, _, rfl, .inr hT1, u, _, _, rfl, U1, by omega, by rw [natV_length]; omega, by rw [natV_length]; omega, fun e H2 e0 e1 s2 U2 => ?_⟩
  rw [natV_length] at e1
  obtain ⟨y1, v1⟩ := urn_lst U1
  have hT2 := tup_but v1 s2 hT1
  have s12 := s1.trans s2
  refine ⟨_, rfl, rfl, _, rfl, ?_⟩
  refine ite2 (fun _ => ?_) (fun _ => ?_)
  · refine ⟨_, rfl, t, rfl, ⟨_, hT2⟩, comp_tup (xs := natV as) (fun i ys σ H' => ∃ o, σ = [o] ∧ ys = (List.replicate i (0 : Int)).map V.int ∧ Same H2 H') ⟨_, rfl, rfl, Same.refl _⟩ ?_ ?_ ?_⟩
    · rintro i ys σ H' hi ⟨o, rfl, rfl, s⟩
      exact s.tup hT2
    · rintro i x ys σ H' hx ⟨o, rfl, rfl, s⟩
      have hi : i < as.length := by have := (List.getElem?_eq_some_iff.mp hx).1; rwa [natV_length] at this
      refine ⟨?_, _, rfl, ?_, s⟩
      · rw [List.length_map, List.length_replicate]; exact Nat.lt_of_lt_of_le (by omega : i < 100) (by decide)
      · rw [List.replicate_succ', List.map_append]; rfl
    · rintro ys σ H' ⟨o, rfl, rfl, s⟩ p hp
      refine ⟨p, _, rfl, .inl ⟨SqL.of upd_same, fun t' ht' => ?_⟩⟩
      have S := (s.trans (same_newH hp _)).trans (same_newH ht' (.tup ((List.replicate (natV as).length (0 : Int)).map V.int)))
      exact q t' _ _ (by rw [List.length_replicate, natV_length]) (fun x hx => by rw [(List.mem_replicate.mp hx).2]; decide) (s12.trans (S.sb u)) (SqT.of upd_same) ((U2.same S).mono (by omega))
  · refine ⟨_, rfl, rfl, _, rfl, ?_⟩
    refine ite2 (fun _ => ?_) (fun _ => ?_)
    · refine ⟨_, rfl, q t (as.map fun (n : Nat) => (n : Int)) _ (by rw [List.length_map]) (fun x hx => ?_) s12 (by rw [← natV_int]; exact hT2) (U2.mono (by omega))⟩
      obtain ⟨n, hn, rfl⟩ := List.mem_map.mp hx
      have := h30 n hn
      omega
    · refine ⟨_, rfl, t, rfl, ⟨_, hT2⟩, comp_tup (xs := natV as) (fun i ys σ H' => ∃ o ns, σ = [o, some (.ref u)] ∧ ys = ns.map V.int ∧ ns.length = i ∧ Pcs ns ∧ SB u H2 H' ∧ Urn H' u (m + 2 + i)) ⟨_, [], rfl, rfl, rfl, fun x hx => (nomatch hx), SB.refl _ _, U2⟩ ?_ ?_ ?_⟩
      · rintro i ys σ H' hi ⟨o, ns, rfl, rfl, rfl, hs, sb, uu⟩
        obtain ⟨y2, v2⟩ := urn_lst U2
        exact tup_but v2 sb hT2
      · rintro i x ys σ H' hx ⟨o, ns, rfl, rfl, rfl, hs, sb, uu⟩
        obtain ⟨a, ea, rfl⟩ := get_nat hx
        have hi : ns.length < as.length := (List.getElem?_eq_some_iff.mp ea).1
        have ha := h30 a (List.mem_of_getElem? ea)
        refine ⟨?_, _, rfl, _, rfl, _, _, rfl, rfl, u, _, _, rfl, uu, by omega, by omega, by omega, fun d' H3 f0 f1 s3 u3 => ?_⟩
        · rw [List.length_map]; exact Nat.lt_of_lt_of_le (by omega : ns.length < 100) (by decide)
        · refine ⟨_, ns ++ [d'], rfl, by rw [List.map_append]; rfl, by rw [List.length_append]; rfl, fun x hx => ?_, sb.trans s3, u3.mono (by omega)⟩
          rcases List.mem_append.mp hx with z | z
          · exact hs x z
          · have : x = d' := by simpa using z
            subst this; omega
      · rintro ys σ H' ⟨o, ns, rfl, rfl, hl, hs, sb, uu⟩ p hp
        rw [natV_length] at hl
        have S1 := same_newH hp (.lst (ns.map V.int))
        have sbA := (s12.trans sb).trans (S1.sb u)
        have uA := (uu.same S1).mono (show m + 2 + (natV as).length ≤ m + 6 by rw [natV_length]; omega)
        refine ⟨_, rfl, rfl, _, rfl, ?_⟩
        obtain ⟨y2, v2⟩ := urn_lst U2
        have hT3 := S1.tup (tup_but v2 sb hT2)
        have ep : (upd H' p (.lst (ns.map V.int))) p = some (.lst (ns.map V.int)) := upd_same
        generalize upd H' p (.lst (ns.map V.int)) = H4 at *
        refine ite2 (fun _ => ?_) (fun _ => ?_)
        · refine ⟨_, rfl, t, _, rfl, .inr hT3, _, rfl, by rw [natV_length]; omega, by rw [natV_length]; omega, ?_⟩
          refine comp_range (lo := 0) (n := (((natV as).length : Nat) : Int).toNat) (fun i ys σ H' => ∃ o ks, σ = [o, some (.ref p), some (.int e)] ∧ ys = ks.map V.int ∧ ks.length = i ∧ Pcs ks ∧ Same H4 H') ⟨_, [], rfl, rfl, rfl, fun x hx => (nomatch hx), Same.refl _⟩ ?_ ?_
          · rintro i ys σ H5 hi ⟨o, ks, rfl, rfl, rfl, hs2, s⟩
            rw [Int.toNat_natCast, natV_length] at hi
            have hb : 0 ≤ ns.getD ks.length 0 ∧ ns.getD ks.length 0 ≤ 30 := by
              rw [List.getD_eq_getElem?_getD, List.getElem?_eq_getElem (by omega)]
              exact hs _ (List.getElem_mem _)
            refine ⟨?_, _, rfl, _, rfl, p, _, _, _, rfl, rfl, SqL.of (s _ _ ep), atI_of (by omega), _, rfl, _, rfl, rfl, .inr ⟨_, rfl, _, _, rfl, rfl, mulC hb.1 hb.2, ?_⟩⟩
            · rw [List.length_map]; exact Nat.lt_of_lt_of_le (by omega : ks.length < 100) (by decide)
            · refine ⟨_, _, rfl, snoc_int ks _, by rw [List.length_append]; rfl, ?_, s⟩
              intro x hx
              rcases List.mem_append.mp hx with z | z
              · exact hs2 x z
              · rw [List.mem_singleton.mp z]
                exact mulB hb.1 hb.2
          · rintro ys σ H5 ⟨o, ks, rfl, rfl, hl2, hs2, s⟩ p2 hp2
            rw [Int.toNat_natCast, natV_length] at hl2
            refine ⟨p2, _, rfl, .inl ⟨SqL.of upd_same, fun t' ht' => ?_⟩⟩
            have S2 := (s.trans (same_newH hp2 (.lst (ks.map V.int)))).trans (same_newH ht' (.tup (ks.map V.int)))
            exact q t' ks _ hl2 hs2 (sbA.trans (S2.sb u)) (SqT.of upd_same) (uA.same S2)
        · refine ⟨_, rfl, p, _, rfl, .inl ⟨SqL.of ep, fun t' ht' => ?_⟩⟩
          have S2 := same_newH ht' (.tup (ns.map V.int))
          exact q t' ns _ hl hs (sbA.trans (S2.sb u)) (SqT.of upd_same) (uA.same S2)

end
end Mine

set_option Elab.async false
set_option linter.all false
set_option maxRecDepth 100000
set_option maxHeartbeats 4000000
namespace Mine
open PySem PySem.Spec PyProof.Rows L2
section
variable {P : Program} {w : World} {K : PySem.W.Frag} {mg : Str → Option Value} {base : Heap}
/-! ### tastes -/
def TasteAt (H : Hp) (t Lr : Addr) (Ls : List Addr) (more : Int) : Prop := H t = some (.tup [.ref Lr, .int more]) ∧ H Lr = some (.lst (Ls.map V.ref)) ∧ (∀ l ∈ Ls, ∃ ns : List Int, H l = some (.lst (ns.map V.int)) ∧ ns.length ≤ 30 ∧ ∀ x ∈ ns, 0 ≤ x ∧ x < 3000) ∧ 0 ≤ more ∧ more < 3000
theorem TasteAt.same {H H' : Hp} {t Lr : Addr} {Ls : List Addr} {more : Int} (h : TasteAt H t Lr Ls more) (s : Same H H') : TasteAt H' t Lr Ls more := by
  obtain ⟨h1, h2, h3, h4⟩ := h
  exact ⟨s _ _ h1, s _ _ h2, fun l hl => by obtain ⟨ns, e, r⟩ := h3 l hl; exact ⟨ns, s _ _ e, r⟩, h4⟩
theorem TasteAt.sb {H H' : Hp} {t Lr v : Addr} {Ls : List Addr} {more : Int} (h : TasteAt H t Lr Ls more) (s : SB v H H') (n1 : t ≠ v) (n2 : Lr ≠ v) (n3 : v ∉ Ls) : TasteAt H' t Lr Ls more := by
  obtain ⟨h1, h2, h3, h4⟩ := h
  exact ⟨s _ _ n1 h1, s _ _ n2 h2, fun l hl => by obtain ⟨ns, e, r⟩ := h3 l hl; exact ⟨ns, s _ _ (fun z => n3 (z ▸ hl)) e, r⟩, h4⟩
/-- nothing of the taste lies at v -/
def Off (t Lr : Addr) (Ls : List Addr) (v : Addr) : Prop := t ≠ v ∧ Lr ≠ v ∧ v ∉ Ls
theorem TasteAt.off {H : Hp} {t Lr v : Addr} {Ls : List Addr} {more : Int} (h : TasteAt H t Lr Ls more) (e : H v = none) : Off t Lr Ls v := by
  obtain ⟨h1, h2, h3, h4⟩ := h
  refine ⟨fun z => (by rw [z, e] at h1; cases h1), fun z => (by rw [z, e] at h2; cases h2), fun hm => ?_⟩
  obtain ⟨ns, e', _⟩ := h3 v hm
  rw [e] at e'; cases e'
def spTaste (K : PySem.W.Frag) : Sp := fun vs H Q _ => ∃ (u t : Addr) (as : List Nat) (m : Nat), vs = [.ref u, .ref t] ∧ Urn H u m ∧ m + 120 ≤ 1000000 ∧ SqT K H t (natV as) ∧ as.length ≤ 3 ∧ (∀ a ∈ as, a ≤ 30) ∧
  ∀ (p Lr : Addr) (Ls : List Addr) (more : Int) (H' : Hp), Ls.length = as.length → TasteAt H' p Lr Ls more → Off p Lr Ls u → SB u H H' → Urn H' u (m + 120) → Q (.ref p) H'
theorem dn_taste (T : Txt K mg) : Dn P w K mg base 2 "_law_taste" sLawTaste ["_law_urn_here", "_law_amounts_here"] (spTaste K) := by
  refine Dn.of T.f_law_taste sc_law_taste (fun vs H Q E h => ?_) (fun f cdv A outer s H vs Q E hr h => ?_)
  · obtain ⟨u, t, as, m, rfl, _⟩ := h; rfl
  obtain ⟨u, t, as, m, rfl, hU, hm, hT, l3, h30, q⟩ := h
  have D_law_draw := dn_draw (P := P) (w := w) (base := base) T
  refine ⟨_, IPSs.get (i_pss_cons (i_ps_set (i := 2) sc_law_taste.nd rfl (Or.inr rfl) (i_pe_ix ix_list (i_pe_lst (i_pa_cons i_pe_int (i_pa_cons i_pe_int (i_pa_cons i_pe_int (i_pa_cons i_pe_int i_pa_nil))))) (i_pe_def D_law_draw bd_law_draw (hr.mono (by decide)) (i_pa_cons (i_pv 0) (i_pa_cons i_pe_int i_pa_nil))) (fun _ _ => rfl)))
    (i_pss_cons (i_ps_set (i := 3) sc_law_taste.nd rfl (Or.inl rfl) (i_pe_lst i_pa_nil))
    (i_pss_cons (i_ps_for PassesOwn.never rfl (i_pi_tup (i_pv 1)) (i_pg_name (i := 4) sc_law_taste.nd rfl (Or.inl rfl)) (i_pss_cons (i_ps_set (i := 5) sc_law_taste.nd rfl (Or.inl rfl) (i_pe_callB call_sortedI rfl T.z_sorted boot_sorted (i_pa_cons (by refine' i_pe_comp (Nc := ["_law_k", "_law_urn_here", "_law_wide"]) (cap := [none, some 0, some 2]) rfl ?i ?k ?g ?t ?e; (case k => kernel_rfl); (case i => exact (i_pi_range1 rfl T.z_range (i_pa_cons (i_pv 4) i_pa_nil))); (case g => exact (fun _ _ _ _ _ => (i_pgl 0 (by show List.Nodup (["_law_k", "_law_urn_here", "_law_wide"] : List Str); decide +kernel)))); (case t => exact (fun _ _ _ _ _ => i_pts_nil)); (case e => exact (fun _ _ _ _ _ => (i_pe_def D_law_draw bd_law_draw (hr.mono (by decide)) (i_pa_cons (i_pvf 1) (i_pa_cons (i_pvf 2) i_pa_nil)) (hg := gl_comp))))) i_pa_nil)))
    (i_pss_one (i_ps_expr (i_pe_bm PySem.F.plainAttrs_list PySem.F.slot_list_append PySem.F.type_list_append mt_append (i_pv 3) (i_pa_cons (i_pe_rev (i_pv 5) (i_pe_un un_neg i_pe_int)) i_pa_nil))))))
    (i_pss_one (i_ps_ret (i_pe_tup (i_pa_cons (i_pv 3) (i_pa_cons (i_pe_def D_law_draw bd_law_draw (hr.mono (by decide)) (i_pa_cons (i_pv 0) (i_pa_cons (i_pe_ix ix_list (i_pe_lst (i_pa_cons i_pe_int (i_pa_cons (i_pv 2) i_pa_nil))) (i_pe_def D_law_draw bd_law_draw (hr.mono (by decide)) (i_pa_cons (i_pv 0) (i_pa_cons i_pe_int i_pa_nil))) (fun _ _ => rfl)) i_pa_nil))) i_pa_nil)))))))), ?_⟩
  refine ⟨(by show 4 ≤ sizeLine; decide), fun L hL => ?_⟩
  have SL := same_newH hL (.lst [V.int 4, V.int 20, V.int 200, V.int 3000])
  refine ⟨_, rfl, u, 4, m, rfl, hU.same SL, by omega, by decide, by decide, fun d H1 d0 d1 s1 U1 => ?_⟩
  have L1 := s1 _ _ (hU.ne hL) upd_same
  obtain ⟨wd, ew, w0, w1⟩ : ∃ wd : Int, atI [V.int 4, V.int 20, V.int 200, V.int 3000] d = some (.int wd) ∧ 0 < wd ∧ wd ≤ 3000 := by
    have : d = 0 ∨ d = 1 ∨ d = 2 ∨ d = 3 := by omega
    rcases this with e | e | e | e <;> rw [e] <;> exact ⟨_, rfl, by decide, by decide⟩
  refine ⟨L, _, _, _, rfl, rfl, SqL.of L1, ew, ?_⟩
  have s01 : SB u H H1 := (SL.sb u).trans s1
  obtain ⟨y0, v0⟩ := urn_lst hU
  have hT1 := tup_but v0 s01 hT
  refine ⟨(by show 0 ≤ sizeLine; decide), fun Lr hLr => ?_⟩
  have SR := same_newH hLr (.lst [])
  have U2 := U1.same SR
  have nu : Lr ≠ u := U1.ne hLr
  have hT2 := SR.tup hT1
  have fLr : H Lr = none := free_of s01 hU U1 hLr
  refine ⟨_, rfl, t, rfl, ⟨_, hT2⟩, for_tup (xs := natV as) (fun i σ H' => ∃ o1 o2 Ls, σ = [some (.ref u), some (.ref t), some (.int wd), some (.ref Lr), o1, o2] ∧ Ls.length = i ∧ H' Lr = some (.lst (Ls.map V.ref)) ∧ (∀ l ∈ Ls, l ≠ u ∧ l ≠ Lr ∧ ∃ ns : List Int, H' l = some (.lst (ns.map V.int)) ∧ ns.length ≤ 30 ∧ ∀ x ∈ ns, 0 ≤ x ∧ x < 3000) ∧ SqT K H' t (natV as) ∧ SB u H H' ∧ Urn H' u (m + 1 + 30 * i)) ⟨_, _, [], rfl, rfl, upd_same, fun l hl => (nomatch hl), hT2, s01.trans (SR.sb u), U2⟩ ?_ ?_ ?_⟩
  · rintro i σ H' hi ⟨o1, o2, Ls, rfl, hl, e1, e2, e3, e4, e5⟩
    exact e3
  · rintro i x σ H' hx ⟨o1, o2, Ls, rfl, hl, e1, e2, e3, e4, e5⟩
    obtain ⟨a, ea, rfl⟩ := get_nat hx
    have hi : i < as.length := (List.getElem?_eq_some_iff.mp ea).1
    have ha := h30 a (List.mem_of_getElem? ea)
    refine ⟨_, rfl, _, rfl, by omega, by omega, comp_range (lo := 0) (n := ((a : Nat) : Int).toNat) (fun j ys σ H2 => ∃ o ns, σ = [o, some (.ref u), some (.int wd)] ∧ ys = ns.map V.int ∧ ns.length = j ∧ (∀ x ∈ ns, 0 ≤ x ∧ x < 3000) ∧ SB u H' H2 ∧ Urn H2 u (m + 1 + 30 * i + j)) ⟨_, [], rfl, rfl, rfl, fun x hx => (nomatch hx), SB.refl _ _, e5⟩ ?_ ?_⟩
    · rintro j ys σ H2 hj ⟨o, ns, rfl, rfl, rfl, hs, sb, uu⟩
      rw [Int.toNat_natCast] at hj
      refine ⟨?_, _, rfl, _, rfl, u, wd, _, rfl, uu, by omega, w0, by omega, fun d' H3 f0 f1 s3 u3 => ?_⟩
      · rw [List.length_map]; exact Nat.lt_of_lt_of_le (by omega : ns.length < 100) (by decide)
      · refine ⟨_, ns ++ [d'], rfl, by rw [List.map_append]; rfl, by rw [List.length_append]; rfl, fun x hx => ?_, sb.trans s3, u3.mono (by omega)⟩
        rcases List.mem_append.mp hx with z | z
        · exact hs x z
        · have : x = d' := by simpa using z
          subst this; omega
    · rintro ys σ H2 ⟨o, ns, rfl, rfl, hln, hs, sb, uu⟩ p hp
      rw [Int.toNat_natCast] at hln
      have S1 := same_newH hp (.lst (ns.map V.int))
      refine ⟨p, ns, rfl, SqL.of upd_same, by omega, fun p2 ns' hp2 hperm _ => ?_⟩
      have S2 := same_newH hp2 (.lst (ns'.map V.int))
      have S12 := S1.trans S2
      have e1' := S12 _ _ (sb _ _ nu e1)
      refine ⟨_, rfl, .inl ⟨rfl, _, SqL.of e1'⟩, _, rfl, 1, rfl, rfl, p2, _, rfl, SqL.of upd_same, fun p3 hp3 => ?_⟩
      have S3 := same_newH hp3 (.lst (ns'.map V.int).reverse)
      have e1'' := S3 _ _ e1'
      refine ⟨Lr, _, _, rfl, rfl, e1'', Nat.lt_of_lt_of_le (by rw [List.length_map]; omega : (Ls.map V.ref).length < 100) (by decide), ?_⟩
      have S13 := S12.trans S3
      have n3 : p3 ≠ Lr := fun z => by rw [z, e1'] at hp3; cases hp3
      have uu3 := uu.same S13
      have n3u : p3 ≠ u := (uu.same S12).ne hp3
      have sbL := SB.upd Lr (upd (upd (upd H2 p (.lst (ns.map V.int))) p2 (.lst (ns'.map V.int))) p3 (.lst (ns'.map V.int).reverse)) (.lst (Ls.map V.ref ++ [V.ref p3]))
      have e33 : (upd (upd (upd H2 p (.lst (ns.map V.int))) p2 (.lst (ns'.map V.int))) p3 (.lst (ns'.map V.int).reverse)) p3 = some (.lst (ns'.map V.int).reverse) := upd_same
      refine ⟨_, _, Ls ++ [p3], rfl, by rw [List.length_append, hl]; rfl, by rw [upd_same, List.map_append]; rfl, fun l hl' => ?_, ?_, ?_, ?_⟩
      · rcases List.mem_append.mp hl' with z | z
        · obtain ⟨g1, g2, ms, g3, g4⟩ := e2 l z
          exact ⟨g1, g2, ms, sbL _ _ g2 (S13 _ _ (sb _ _ g1 g3)), g4⟩
        · have : l = p3 := by simpa using z
          subst this
          refine ⟨n3u, n3, ns'.reverse, ?_, ?_, ?_⟩
          · rw [List.map_reverse]; exact sbL _ _ n3 e33
          · rw [List.length_reverse, hperm.length_eq]; omega
          · intro x hx
            exact hs x (hperm.mem_iff.mp (List.mem_reverse.mp hx))
      · obtain ⟨y5, v5⟩ := urn_lst e5
        exact tup_but e1'' sbL (S13.tup (tup_but v5 sb e3))
      · intro b o n h
        refine sbL b o (fun z => by rw [z, fLr] at h; cases h) (S13 _ _ (sb _ _ n (e4 b o n h)))
      · obtain ⟨g', c', n', e', r'⟩ := uu3
        exact ⟨g', c', n', sbL _ _ (Ne.symm nu) e', by omega⟩
  · rintro σ H' ⟨o1, o2, Ls, rfl, hl, e1, e2, e3, e4, e5⟩
    rw [natV_length] at hl e5
    refine ⟨_, rfl, _, rfl, _, rfl, (by show 2 ≤ sizeLine; decide), fun L2 hL2 => ?_⟩
    have S1 := same_newH hL2 (.lst [V.int 1, V.int wd])
    refine ⟨_, rfl, u, 2, _, rfl, e5.same S1, by omega, by decide, by decide, fun g H2 g0 g1 s2 U2' => ?_⟩
    have l2e := s2 _ _ (e5.ne hL2) upd_same
    obtain ⟨wd2, ew2, w20, w21⟩ : ∃ wd2 : Int, atI [V.int 1, V.int wd] g = some (.int wd2) ∧ 0 < wd2 ∧ wd2 ≤ 3000 := by
      have : g = 0 ∨ g = 1 := by omega
      rcases this with z | z <;> rw [z]
      · exact ⟨_, rfl, by decide, by decide⟩
      · exact ⟨_, rfl, w0, w1⟩
    refine ⟨L2, _, _, _, rfl, rfl, SqL.of l2e, ew2, u, wd2, _, rfl, U2', by omega, w20, by omega, fun mo H3 m0 m1 s3 U3 => ⟨(by show 2 ≤ sizeLine; decide), fun p hp => ?_⟩⟩
    have S4 := same_newH hp (.tup [V.ref Lr, V.int mo])
    have up : ∀ b o, b ≠ u → H' b = some o → (upd H3 p (.tup [V.ref Lr, V.int mo])) b = some o := fun b o n h => S4 _ _ (s3 _ _ n (s2 _ _ n (S1 _ _ h)))
    refine q p Lr Ls mo _ hl ⟨upd_same, up _ _ nu e1, fun l hl' => ?_, m0, by omega⟩ ⟨U3.ne hp, nu, fun hm => (e2 u hm).1 rfl⟩ (fun b o n h => up b o n (e4 b o n h)) ((U3.same S4).mono (by omega))
    obtain ⟨g1', g2', ms, g3', g4'⟩ := e2 l hl'
    exact ⟨ms, up _ _ g1' g3', g4'⟩

end
end Mine

set_option Elab.async false
set_option linter.all false
set_option maxRecDepth 100000
set_option maxHeartbeats 4000000
namespace Mine
open PySem PySem.Spec PyProof.Rows L2
section
variable {P : Program} {w : World} {K : PySem.W.Frag} {mg : Str → Option Value} {base : Heap}

theorem get_intL {ns : List Int} {i : Nat} {x : V} (hx : (ns.map V.int)[i]? = some x) : ∃ x', ns[i]? = some x' ∧ V.int x' = x := by
  rw [List.getElem?_map] at hx
  cases e : ns[i]? with
  | none => rw [e] at hx; cases hx
  | some z => rw [e] at hx; exact ⟨z, rfl, Option.some.inj hx⟩
theorem sum_le {c : Int} : ∀ ks : List Int, (∀ x ∈ ks, 0 ≤ x ∧ x ≤ c) → 0 ≤ ks.sum ∧ ks.sum ≤ c * ks.length
  | [], _ => by simp
  | x :: r, h => by
    obtain ⟨h1, h2⟩ := sum_le r fun y hy => h y (List.mem_cons_of_mem _ hy)
    obtain ⟨h3, h4⟩ := h x (List.mem_cons_self ..)
    have e : c * ((x :: r).length : Int) = c * (r.length : Int) + c := by rw [List.length_cons]; push_cast; rw [Int.mul_add, Int.mul_one]
    rw [e, List.sum_cons]
    omega
def spLiked (K : PySem.W.Frag) : Sp := fun vs H Q _ => ∃ (t b Lr : Addr) (Ls : List Addr) (more : Int) (ns : List Int), vs = [.ref t, .ref b] ∧ TasteAt H t Lr Ls more ∧ Ls.length ≤ 3 ∧ SqT K H b (ns.map V.int) ∧ ns ≠ [] ∧ Pcs ns ∧
  ∀ (d : Int) (H' : Hp), 0 ≤ d → d ≤ 1000000 → Same H H' → Q (.int d) H'
theorem dn_liked (T : Txt K mg) : Dn P w K mg base 1 "_law_liked" sLawLiked ["_law_taste_here", "_law_bundle_here"] (spLiked K) := by
  refine Dn.of T.f_law_liked sc_law_liked (fun vs H Q E h => ?_) (fun f cdv A outer s H vs Q E hr h => ?_)
  · obtain ⟨t, b, Lr, Ls, more, ns, rfl, _⟩ := h; rfl
  obtain ⟨t, b, Lr, Ls, more, ns, rfl, hTa, l3, hT, hne, hP, q⟩ := h
  refine ⟨_, IPSs.get (i_pss_cons (i_ps_asg (i_pv 0) (i_pg_tup rfl (i_pgs_cons (i_pg_name (i := 2) sc_law_liked.nd rfl (Or.inl rfl)) (i_pgs_cons (i_pg_name (i := 3) sc_law_liked.nd rfl (Or.inl rfl)) i_pgs_nil))))
    (i_pss_cons (i_ps_set (i := 4) sc_law_liked.nd rfl (Or.inl rfl) (i_pe_callB (call_sumL rfl) rfl T.z_sum boot_sum (i_pa_cons (by refine' i_pe_comp (Nc := ["_law_row", "_law_pieces"]) (cap := [none, none]) rfl ?i ?k ?g ?t ?e; (case k => kernel_rfl); (case i => exact (i_pi_zip false true rfl T.z_zip (i_pa_cons (i_pv 2) (i_pa_cons (i_pv 1) i_pa_nil)))); (case g => exact (fun _ _ _ _ _ => (i_pgl2K (K := K) rfl 0 1 rfl (by show List.Nodup (["_law_row", "_law_pieces"] : List Str); decide +kernel)))); (case t => exact (fun _ _ _ _ _ => i_pts_nil)); (case e => exact (fun _ _ _ _ _ => (i_pe_callB (call_sumLK (K := K) rfl rfl) gl_comp T.z_sum boot_sum (i_pa_cons (i_pe_slice (sl_listK (K := K) rfl) (i_pvl 0) i_po_none (i_po_some (i_pvl 1))) i_pa_nil))))) i_pa_nil)))
    (i_pss_cons (i_ps_if (i_pt_cmpR op_gt (i_pe_callB (call_minS true rfl) rfl T.z_min boot_min (i_pa_cons (i_pv 1) i_pa_nil)) i_pe_int (nomark _)) (i_pss_one (i_ps_set (i := 4) sc_law_liked.nd rfl (Or.inl rfl) (i_pe_op op_add (i_pv 4) (i_pv 3)))) i_pss_nil)
    (i_pss_one (i_ps_ret (i_pv 4)))))), ?_⟩
  obtain ⟨t1, t2, t3, t4, t5⟩ := id hTa
  refine ⟨_, rfl, t, _, rfl, SqT.of t1, rfl, _, _, rfl, _, _, rfl, rfl, ?_⟩
  refine ⟨_, rfl, _, rfl, Lr, b, _, _, rfl, SqL.of t2, hT, ?_⟩
  refine comp_zip (xs := Ls.map V.ref) (ys := ns.map V.int) (fun i zs σ H' => ∃ o1 o2 ks, σ = [o1, o2] ∧ zs = ks.map V.int ∧ ks.length = i ∧ (∀ x ∈ ks, 0 ≤ x ∧ x ≤ 90000) ∧ Same H H') ⟨_, _, [], rfl, rfl, rfl, fun x hx => (nomatch hx), Same.refl H⟩ ?_ ?_ ?_
  · rintro i zs σ H' hi ⟨o1, o2, ks, rfl, rfl, rfl, hs, s⟩
    exact ⟨s.seq (SqL.of t2), s.tup hT⟩
  · rintro i x y zs σ H' p hx hy hp ⟨o1, o2, ks, rfl, rfl, rfl, hs, s⟩
    obtain ⟨y', ey, rfl⟩ := get_intL hy
    rw [List.getElem?_map] at hx
    obtain ⟨l, hl, rfl⟩ : ∃ l, Ls[ks.length]? = some l ∧ V.ref l = x := by
      cases e : Ls[ks.length]? with
      | none => rw [e] at hx; cases hx
      | some r => rw [e] at hx; exact ⟨r, rfl, Option.some.inj hx⟩
    have hi : ks.length < Ls.length := (List.getElem?_eq_some_iff.mp hl).1
    obtain ⟨ms, m1, m2, m3⟩ := t3 l (List.mem_of_getElem? hl)
    have S1 := same_newH hp (.tup [V.ref l, V.int y'])
    have hy0 := (hP y' (List.mem_of_getElem? ey)).1
    refine ⟨p, _, rfl, SqT.of upd_same, rfl, _, _, rfl, _, _, rfl, rfl, ?_, ?_⟩
    · rw [List.length_map]; exact Nat.lt_of_lt_of_le (by omega : ks.length < 100) (by decide)
    refine ⟨_, rfl, _, rfl, _, rfl, l, _, rfl, SqL.of (S1 _ _ (s _ _ m1)), fun p2 hp2 => ?_⟩
    have S2 := same_newH hp2 (.lst (cutV (ms.map V.int) none (some y')))
    have ec : cutV (ms.map V.int) none (some y') = (ms.take y'.toNat).map V.int := by rw [cut_take hy0, List.map_take]
    refine ⟨p2, ms.take y'.toNat, rfl, by rw [← ec]; exact SqL.of upd_same, ?_⟩
    have b1 := sum_le (c := 3000) (ms.take y'.toNat) fun x hx => by have := m3 x (List.mem_of_mem_take hx); omega
    have b2 : (ms.take y'.toNat).length ≤ 30 := Nat.le_trans (by rw [List.length_take]; exact Nat.min_le_right _ _) m2
    refine ⟨_, _, _, rfl, snoc_int ks _, by rw [List.length_append]; rfl, fun x hx => ?_, (s.trans S1).trans S2⟩
    rcases List.mem_append.mp hx with z | z
    · exact hs x z
    · rw [List.mem_singleton.mp z]; omega
  · rintro zs σ H' ⟨o1, o2, ks, rfl, rfl, hl, hs, s⟩ p hp
    have hk : ks.length ≤ 3 := by rw [hl, List.length_zip, List.length_map]; omega
    have b1 := sum_le (c := 90000) ks hs
    have S1 := same_newH hp (.lst (ks.map V.int))
    refine ⟨p, ks, rfl, SqL.of upd_same, ?_⟩
    refine ⟨_, rfl, b, ns, rfl, (s.trans S1).tup hT, hne, fun mi _ _ => ⟨_, _, rfl, rfl, _, rfl, ?_⟩⟩
    refine ite2 (fun _ => ?_) (fun _ => ?_)
    · refine ⟨_, rfl, _, rfl, _, _, rfl, rfl, ?_⟩
      exact ⟨_, rfl, q _ _ (by show 0 ≤ ks.sum + more; omega) (by show ks.sum + more ≤ 1000000; omega) (s.trans S1)⟩
    · exact ⟨_, rfl, q _ _ b1.1 (by omega) (s.trans S1)⟩

end
end Mine

set_option Elab.async false
set_option linter.all false
set_option maxRecDepth 100000
set_option maxHeartbeats 4000000
namespace Mine
open PySem PySem.Spec PyProof.Rows L2
section
variable {P : Program} {w : World} {K : PySem.W.Frag} {mg : Str → Option Value} {base : Heap}
def spWanted (K : PySem.W.Frag) : Sp := fun vs H Q _ => ∃ (u t a pr Lr : Addr) (Ls : List Addr) (more : Int) (as : List Nat) (ps : List Int) (m : Nat), vs = [.ref u, .ref t, .ref a, .ref pr] ∧ Urn H u m ∧ m + 1 ≤ 1000000 ∧ TasteAt H t Lr Ls more ∧ Ls.length ≤ 3 ∧ Off t Lr Ls u ∧
  SqT K H a (natV as) ∧ 1 ≤ as.length ∧ as.length ≤ 3 ∧ (∀ a ∈ as, a ≤ 30) ∧ SqT K H pr (ps.map V.int) ∧ Small ps ∧ ps.length ≤ 3 ∧
  ∀ (p : Addr) (ns : List Int) (H' : Hp), ns.length = as.length → Pcs ns → SB u H H' → SqT K H' p (ns.map V.int) → Urn H' u (m + 1) → Q (.ref p) H'
theorem row_of {H : Hp} {rows : List (List Int)} {xs : List V} {i : Nat} {x : V} (h : DVs K H (rows.map tI) xs) (hx : xs[i]? = some x) : ∃ r a, rows[i]? = some r ∧ x = .ref a ∧ SqT K H a (r.map V.int) := by
  obtain ⟨d, hd, dv⟩ := h.get hx
  rw [List.getElem?_map] at hd
  obtain ⟨r, hr, rfl⟩ : ∃ r, rows[i]? = some r ∧ tI r = d := by
    cases e : rows[i]? with
    | none => rw [e] at hd; cases hd
    | some r => rw [e] at hd; exact ⟨r, rfl, Option.some.inj hd⟩
  obtain ⟨a, rfl, ha⟩ := DV.tI_inv dv
  exact ⟨r, a, hr, rfl, ha⟩
theorem allW_pos (as : List Nat) : ∀ i ≤ as.length, 1 ≤ (allW (as.take i)).length := by
  intro i
  induction i with
  | zero => intro _; simp [allW]
  | succ i ih =>
    intro hi
    rw [take_snoc (List.getElem?_eq_getElem (by omega)), allW_snoc, step1_len]
    exact Nat.mul_pos (ih (by omega)) (by omega)
theorem dn_wanted (T : Txt K mg) : Dn P w K mg base 2 "_law_wanted" sLawWanted ["_law_urn_here", "_law_taste_here", "_law_amounts_here", "_law_prices_here"] (spWanted K) := by
  refine Dn.of T.f_law_wanted sc_law_wanted (fun vs H Q E h => ?_) (fun f cdv A outer s H vs Q E hr h => ?_)
  · obtain ⟨u, t, a, pr, Lr, Ls, more, as, ps, m, rfl, _⟩ := h; rfl
  obtain ⟨u, t, a, pr, Lr, Ls, more, as, ps, m, rfl, hU, hm, hTa, hL3, hOff, hA, l1, l3, h30, hPr, hSm, hp3, q⟩ := h
  have D_law_draw := dn_draw (P := P) (w := w) (base := base) T
  have D_law_all_within := dn_all_within (P := P) (w := w) (base := base) T
  have D_law_liked := dn_liked (P := P) (w := w) (base := base) T
  have D_law_cost := dn_lcost (P := P) (w := w) (base := base) T
  refine ⟨_, IPSs.get (i_pss_cons (i_ps_set (i := 4) sc_law_wanted.nd rfl (Or.inl rfl) (i_pe_def D_law_all_within bd_law_all_within (hr.mono (by decide)) (i_pa_cons (i_pv 2) i_pa_nil)))
    (i_pss_cons (i_ps_set (i := 5) sc_law_wanted.nd rfl (Or.inl rfl) (i_pe_lst i_pa_nil))
    (i_pss_cons (i_ps_for PassesOwn.never rfl (i_pi_list (i_pv 4)) (i_pg_name (i := 6) sc_law_wanted.nd rfl (Or.inl rfl)) (i_pss_one (i_ps_expr (i_pe_bm PySem.F.plainAttrs_list PySem.F.slot_list_append PySem.F.type_list_append mt_append (i_pv 5) (i_pa_cons (i_pe_op op_sub (i_pe_def D_law_liked bd_law_liked (hr.mono (by decide)) (i_pa_cons (i_pv 1) (i_pa_cons (i_pv 6) i_pa_nil))) (i_pe_def D_law_cost bd_law_cost (hr.mono (by decide)) (i_pa_cons (i_pv 3) (i_pa_cons (i_pv 6) i_pa_nil)))) i_pa_nil)))))
    (i_pss_cons (i_ps_set (i := 7) sc_law_wanted.nd rfl (Or.inr rfl) (i_pe_callB (call_maxS false rfl) rfl T.z_max boot_max (i_pa_cons (i_pv 5) i_pa_nil)))
    (i_pss_cons (by refine' i_ps_setComp (i := 8) sc_law_wanted.nd rfl (Or.inl rfl) (Nc := ["_law_bundle_here", "_law_gain", "_law_most"]) (cap := [none, none, some 7]) rfl ?i ?k ?g ?t ?e; (case k => kernel_rfl); (case i => exact (i_pi_zip false false rfl T.z_zip (i_pa_cons (i_pv 4) (i_pa_cons (i_pv 5) i_pa_nil)))); (case g => exact (fun _ _ _ _ _ => (i_pgl2K (K := K) rfl 0 1 rfl (by show List.Nodup (["_law_bundle_here", "_law_gain", "_law_most"] : List Str); decide +kernel)))); (case t => exact (fun _ _ _ _ _ => (i_pts_one (i_pt_cmpR op_eq (i_pvl 1) (i_pvf 2) (nomark _))))); (case e => exact (fun _ _ _ _ _ => (i_pvl 0))))
    (i_pss_one (i_ps_ret (i_pe_ix ix_list (i_pv 8) (i_pe_def D_law_draw bd_law_draw (hr.mono (by decide)) (i_pa_cons (i_pv 0) (i_pa_cons (i_pe_callB call_len_seq rfl T.z_len boot_len (i_pa_cons (i_pv 8) i_pa_nil)) i_pa_nil))) (fun _ _ => rfl))))))))), ?_⟩
  refine ⟨_, rfl, a, as, rfl, hA, l3, h30, fun Lw H1 s1 fw hLw => ?_⟩
  obtain ⟨xs, x1, x2, x3⟩ := hLw.len
  obtain ⟨f1, f2⟩ := allW_facts as h30 as.length (Nat.le_refl _)
  have fpos := allW_pos as as.length (Nat.le_refl _)
  rw [List.take_length] at f1 f2 fpos
  generalize hrows : allW as = rows at *
  have hN : rows.length ≤ 29791 := Nat.le_trans f1 (pow31 l3)
  refine ⟨(by show 0 ≤ sizeLine; decide), fun Lg hLg => ?_⟩
  have SG := same_newH hLg (.lst [])
  have s2 := s1.trans SG
  have fG : H Lg = none := Same.free s1 hLg
  have x1' := SG _ _ x1
  have x2' := DVs.same SG x2
  have nW : Lw ≠ Lg := fun z => by rw [z, hLg] at x1; cases x1
  have eG : (upd H1 Lg (.lst [])) Lg = some (.lst []) := upd_same
  have oG := hTa.off fG
  generalize upd H1 Lg (.lst []) = H2 at *
  refine ⟨_, rfl, Lw, rfl, ⟨xs, SqL.of x1'⟩, for_list (xs := xs) (fun i σ H' => ∃ o gs, σ = [some (.ref u), some (.ref t), some (.ref a), some (.ref pr), some (.ref Lw), some (.ref Lg), o, none, none] ∧ H' Lg = some (.lst (gs.map V.int)) ∧ gs.length = i ∧ SB Lg H2 H') ⟨_, [], rfl, eG, rfl, SB.refl _ _⟩ ?_ ?_ ?_⟩
  · rintro i σ H' hi ⟨o, gs, rfl, e1, e2, sb⟩
    exact SqL.of (sb _ _ nW x1')
  · rintro i x σ H' hx ⟨o, gs, rfl, e1, e2, sb⟩
    have hi : i < xs.length := (List.getElem?_eq_some_iff.mp hx).1
    obtain ⟨r, b, hr', rfl, hb⟩ := row_of x2' hx
    have hb' := tup_but eG sb hb
    obtain ⟨fr1, fr2⟩ := f2 r (List.mem_of_getElem? hr')
    have hTa' := (hTa.same s2).sb sb oG.1 oG.2.1 oG.2.2
    refine ⟨_, rfl, .inl ⟨rfl, _, SqL.of e1⟩, _, rfl, _, rfl, t, b, Lr, Ls, more, r, rfl, hTa', hL3, hb', (by intro z; rw [z] at fr1; simp at fr1; omega), fr2, fun dd H3 _ _ s3 => ?_⟩
    refine ⟨_, rfl, _, rfl, pr, b, ps, r, rfl, s3.tup (tup_but eG sb (s2.tup hPr)), s3.tup hb', hSm, Pcs.small fr2, Nat.le_trans hp3 (by decide), fun H4 s4 => ⟨_, _, rfl, rfl, ?_⟩⟩
    have s34 := s3.trans s4
    refine ⟨Lg, _, _, rfl, rfl, s34 _ _ e1, Nat.lt_of_lt_of_le (by rw [List.length_map]; omega : (gs.map V.int).length < 100000) (by decide), ?_⟩
    exact ⟨_, gs ++ [dd - dot ps r], rfl, by rw [upd_same, ← snoc_int], by rw [List.length_append, e2]; rfl, (sb.trans (s34.sb Lg)).trans (SB.upd Lg _ _)⟩
  · rintro σ H' ⟨o, gs, rfl, e1, e2, sb⟩
    have hg : gs ≠ [] := fun z => by rw [z] at e2; simp at e2; omega
    refine ⟨_, rfl, Lg, gs, rfl, SqL.of e1, hg, fun mo hmo hmx => ?_⟩
    have w1 := sb _ _ nW x1'
    have w2 := rows_but eG sb x2'
    refine ⟨_, rfl, _, rfl, Lw, Lg, _, _, rfl, SqL.of w1, SqL.of e1, ?_⟩
    refine comp_zipT (xs := xs) (ys := gs.map V.int) (fun i zs σ H3 => ∃ o1 o2 br, σ = [o1, o2, some (.int mo)] ∧ DVs K H3 (br.map tI) zs ∧ (∀ r ∈ br, r ∈ rows) ∧ br.length ≤ i ∧ (∀ j < i, gs[j]? = some mo → br ≠ []) ∧ Same H' H3) ⟨_, _, [], rfl, DVs.nil, fun r hr => (nomatch hr), Nat.le_refl _, fun j hj => (nomatch hj), Same.refl _⟩ ?_ ?_ ?_
    · rintro i zs σ H3 hi ⟨o1, o2, br, rfl, y1, y2, y3, y4, y5⟩
      exact ⟨SqL.of (y5 _ _ w1), SqL.of (y5 _ _ e1)⟩
    · rintro i x y zs σ H3 p hx hy hp ⟨o1, o2, br, rfl, y1, y2, y3, y4, y5⟩
      have hi : i < xs.length := (List.getElem?_eq_some_iff.mp hx).1
      obtain ⟨gg, eg, rfl⟩ := get_intL hy
      obtain ⟨r, b, hr', rfl, hb⟩ := row_of w2 hx
      have S1 := same_newH hp (.tup [V.ref b, V.int gg])
      have ly := y1.length
      rw [List.length_map] at ly
      refine ⟨p, _, rfl, SqT.of upd_same, rfl, _, _, rfl, _, _, rfl, rfl, _, rfl, _, rfl, rfl, _, rfl, ?_⟩
      refine ite2 (fun c => ?_) (fun c => ?_)
      · refine ⟨Nat.lt_of_lt_of_le (by omega : zs.length < 100000) (by decide), _, rfl, _, _, br ++ [r], rfl, ?_, ?_, by rw [List.length_append]; exact Nat.succ_le_succ y3, fun j hj _ => by simp, y5.trans S1⟩
        · rw [List.map_append]
          exact DVs.snoc (DVs.same S1 y1) (DV.tI ((y5.trans S1).tup hb))
        · intro r' hr2
          rcases List.mem_append.mp hr2 with z | z
          · exact y2 r' z
          · rw [List.mem_singleton.mp z]; exact List.mem_of_getElem? hr'
      · refine ⟨_, _, br, rfl, DVs.same S1 y1, y2, by omega, fun j hj hm => ?_, y5.trans S1⟩
        by_cases hj' : j < i
        · exact y4 j hj' hm
        · have : j = i := by omega
          subst this
          rw [eg] at hm
          exact absurd (by rw [Option.some.inj hm]; exact decide_eq_true rfl) c
    · rintro zs σ H3 ⟨o1, o2, br, rfl, y1, y2, y3, y4, y5⟩ pb hpb
      have S1 := same_newH hpb (.lst zs)
      have ly := y1.length
      rw [List.length_map] at ly
      have lz : (xs.zip (gs.map V.int)).length = xs.length := by rw [List.length_zip, List.length_map, e2, Nat.min_self]
      rw [lz] at y3 y4
      have hbr : br ≠ [] := by
        obtain ⟨j, hj⟩ := List.mem_iff_getElem?.mp hmo
        exact y4 j (by rw [← e2]; exact (List.getElem?_eq_some_iff.mp hj).1) hj
      have hpos : 0 < zs.length := by rw [← ly]; exact List.length_pos_iff.mpr hbr
      have sAll : SB u H H3 := fun b o n h => y5 _ _ (sb b o (fun z => by rw [z, fG] at h; cases h) (s2 _ _ h))
      have uG : Lg ≠ u := fun z => by rw [z] at fG; obtain ⟨y, v⟩ := urn_lst hU; rw [v] at fG; cases fG
      have U3 : Urn H3 u m := by
        obtain ⟨g', c', n', e', r'⟩ := hU
        exact ⟨g', c', n', y5 _ _ (sb _ _ (Ne.symm uG) (s2 _ _ e')), r'⟩
      refine ⟨_, rfl, _, rfl, _, rfl, pb, zs, rfl, .inl (SqL.of upd_same), u, _, m, rfl, U3.same S1, by omega, by omega, by omega, fun g H4 g0 g1 s4 U4 => ?_⟩
      have nb : pb ≠ u := U3.ne hpb
      have e4 := s4 _ _ nb upd_same
      obtain ⟨v, hv⟩ : ∃ v, zs[g.toNat]? = some v := ⟨_, List.getElem?_eq_getElem (by omega)⟩
      have eg : ((g.toNat : Nat) : Int) = g := by omega
      refine ⟨pb, zs, g, v, rfl, rfl, SqL.of e4, by rw [← eg]; exact atI_nat hv, ?_⟩
      obtain ⟨y6, v6⟩ := urn_lst (U3.same S1)
      obtain ⟨r, b, hr', rfl, hb⟩ := row_of (rows_but v6 s4 (DVs.same S1 y1)) hv
      obtain ⟨fr1, fr2⟩ := f2 r (y2 r (List.mem_of_getElem? hr'))
      exact q b r _ fr1 fr2 ((sAll.trans (S1.sb u)).trans s4) hb U4

end
end Mine

set_option Elab.async false
set_option linter.all false
set_option maxRecDepth 100000
set_option maxHeartbeats 4000000
namespace Mine
open PySem PySem.Spec PyProof.Rows L2
section
variable {P : Program} {w : World} {K : PySem.W.Frag} {mg : Str → Option Value} {base : Heap}
/-! ### rounds and sealed bids as data -/
def rowD (r : List Int × List Int) : PyData := .tuple [tI r.1, tI r.2]
def sealD (r : List Int × Int) : PyData := .tuple [tI r.1, .int r.2]
def GoodR (k : Nat) (rs : List (List Int × List Int)) : Prop := ∀ r ∈ rs, r.1.length = k ∧ r.2.length = k ∧ Small r.1 ∧ Small r.2
def GoodS (k : Nat) (ss : List (List Int × Int)) : Prop := ∀ r ∈ ss, r.1.length = k ∧ Small r.1 ∧ 0 ≤ r.2 ∧ r.2 < 2 ^ 80
def GoodS2 (k : Nat) (ss : List (List Int × Int)) : Prop := ∀ r ∈ ss, r.1.length = k ∧ Small r.1 ∧ 0 ≤ r.2 ∧ r.2 < 2 ^ 90
theorem GoodS.up {k : Nat} {ss : List (List Int × Int)} (h : GoodS k ss) : GoodS2 k ss := fun r hr => by obtain ⟨a, b, c, d⟩ := h r hr; exact ⟨a, b, c, by omega⟩
theorem GoodR.snoc {k : Nat} {rs : List (List Int × List Int)} {r : List Int × List Int} (h : GoodR k rs) (h' : r.1.length = k ∧ r.2.length = k ∧ Small r.1 ∧ Small r.2) : GoodR k (rs ++ [r]) := fun x hx => by
  rcases List.mem_append.mp hx with z | z
  · exact h x z
  · rw [List.mem_singleton.mp z]; exact h'
theorem GoodS.snoc {k : Nat} {rs : List (List Int × Int)} {r : List Int × Int} (h : GoodS k rs) (h' : r.1.length = k ∧ Small r.1 ∧ 0 ≤ r.2 ∧ r.2 < 2 ^ 80) : GoodS k (rs ++ [r]) := fun x hx => by
  rcases List.mem_append.mp hx with z | z
  · exact h x z
  · rw [List.mem_singleton.mp z]; exact h'
theorem flat_rows (rs : List (List Int × List Int)) : flatDs (rs.map rowD) = true := by
  induction rs with
  | nil => simp [flatDs]
  | cons x r ih => simp [flatDs, rowD, flatD, flatD_tI, ih]
theorem flat_seals (rs : List (List Int × Int)) : flatDs (rs.map sealD) = true := by
  induction rs with
  | nil => simp [flatDs]
  | cons x r ih => simp [flatDs, sealD, flatD, flatD_tI, ih]
theorem DV.row {H : Hp} {q p b : Addr} {r1 r2 : List Int} (h : SqT K H q [V.ref p, V.ref b]) (h1 : SqT K H p (r1.map V.int)) (h2 : SqT K H b (r2.map V.int)) : DV K H (rowD (r1, r2)) (.ref q) := DV.tup h (DVs.cons (DV.tI h1) (DVs.cons (DV.tI h2) DVs.nil))
theorem DV.seal {H : Hp} {q b : Addr} {r1 : List Int} {c : Int} (h : SqT K H q [V.ref b, V.int c]) (h1 : SqT K H b (r1.map V.int)) : DV K H (sealD (r1, c)) (.ref q) := DV.tup h (DVs.cons (DV.tI h1) (DVs.cons (DV.int c) DVs.nil))
theorem dv_tup {H : Hp} {ds : List PyData} {x : V} (h : DV K H (.tuple ds) x) : ∃ a xs, x = .ref a ∧ SqT K H a xs ∧ DVs K H ds xs := by unfold DV at h; exact h
theorem dvs_cons {H : Hp} {d : PyData} {ds : List PyData} {xs : List V} (h : DVs K H (d :: ds) xs) : ∃ x r, xs = x :: r ∧ DV K H d x ∧ DVs K H ds r := by unfold DVs at h; exact h
theorem dvs_nil {H : Hp} {xs : List V} (h : DVs K H [] xs) : xs = [] := by unfold DVs at h; exact h
theorem dv_int {H : Hp} {i : Int} {x : V} (h : DV K H (.int i) x) : x = .int i := by unfold DV at h; exact h
theorem dv_row {H : Hp} {r : List Int × List Int} {x : V} (h : DV K H (rowD r) x) : ∃ q p b, x = .ref q ∧ SqT K H q [V.ref p, V.ref b] ∧ SqT K H p (r.1.map V.int) ∧ SqT K H b (r.2.map V.int) := by
  obtain ⟨q, xs, rfl, h1, h2⟩ := dv_tup h
  obtain ⟨y, t, rfl, h3, h4⟩ := dvs_cons h2
  obtain ⟨z, t', rfl, h5, h6⟩ := dvs_cons h4
  rw [dvs_nil h6] at h1
  obtain ⟨p, rfl, hp⟩ := DV.tI_inv h3
  obtain ⟨b, rfl, hb⟩ := DV.tI_inv h5
  exact ⟨q, p, b, rfl, h1, hp, hb⟩
theorem dv_seal {H : Hp} {r : List Int × Int} {x : V} (h : DV K H (sealD r) x) : ∃ q b, x = .ref q ∧ SqT K H q [V.ref b, V.int r.2] ∧ SqT K H b (r.1.map V.int) := by
  obtain ⟨q, xs, rfl, h1, h2⟩ := dv_tup h
  obtain ⟨y, t, rfl, h3, h4⟩ := dvs_cons h2
  obtain ⟨z, t', rfl, h5, h6⟩ := dvs_cons h4
  rw [dvs_nil h6, dv_int h5] at h1
  obtain ⟨b, rfl, hb⟩ := DV.tI_inv h3
  exact ⟨q, b, rfl, h1, hb⟩
theorem get_map {α β : Type} {f : α → β} {l : List α} {i : Nat} {d : β} (h : (l.map f)[i]? = some d) : ∃ r, l[i]? = some r ∧ f r = d := by
  rw [List.getElem?_map] at h
  cases e : l[i]? with
  | none => rw [e] at h; cases h
  | some r => rw [e] at h; exact ⟨r, rfl, Option.some.inj h⟩
/-- the firsts of pairs in a list -/
theorem comp_firsts {H : Hp} {l : Addr} {ss : List (List Int × Int)} {xs : List V} {o1 o2 : Option V} {Q : LK} (h1 : SqL K H l xs) (h2 : DVs K H (ss.map sealD) xs) (hz : xs.length ≤ 1000)
    (hq : ∀ zs σ H', Same H H' → DVs K H' ((ss.map (·.1)).map tI) zs → Q zs σ H') :
    ∃ W : Nat → List V → Nat → L2.St → Hp → Prop, (∃ m, W 0 [] m [o1, o2] H) ∧ LTurn (Itl K l) (gTup K 2 (gCons (gName 0) (gCons (gName 1) gNil))) tYes (tEmit (tVar 0)) Q W := by
  have lx : ss.length = xs.length := by have := h2.length; rwa [List.length_map] at this
  refine comp_list (xs := xs) (fun j ys σ H' => ∃ o1 o2, σ = [o1, o2] ∧ DVs K H' (((ss.take j).map (·.1)).map tI) ys ∧ Same H H') ⟨_, _, rfl, DVs.nil, Same.refl H⟩ ?_ ?_ ?_
  · rintro j ys σ H' hj ⟨o1, o2, rfl, y, s⟩
    exact s.seq h1
  · rintro j x ys σ H' hx ⟨o1, o2, rfl, y, s⟩
    have hj : j < xs.length := (List.getElem?_eq_some_iff.mp hx).1
    obtain ⟨d, hd, dv⟩ := h2.get hx
    obtain ⟨r, hr, rfl⟩ := get_map hd
    obtain ⟨q, b, rfl, g1, g2⟩ := dv_seal dv
    have ly := y.length
    rw [List.length_map, List.length_map, List.length_take] at ly
    refine ⟨q, _, rfl, s.tup g1, rfl, _, _, rfl, _, _, rfl, rfl, Nat.lt_of_lt_of_le (by omega : ys.length < 2000) (by decide), _, rfl, _, _, rfl, ?_, s⟩
    rw [take_snoc hr, List.map_append, List.map_append]
    exact DVs.snoc y (DV.tI (s.tup g2))
  · rintro ys σ H' ⟨o1, o2, rfl, y, s⟩
    rw [← lx, List.take_length] at y
    exact hq _ _ _ s y

end
end Mine

set_option Elab.async false
set_option linter.all false
set_option maxRecDepth 100000
set_option maxHeartbeats 4000000
namespace Mine
open PySem PySem.Spec PyProof.Rows L2
section
variable {P : Program} {w : World} {K : PySem.W.Frag} {mg : Str → Option Value} {base : Heap}
def spHist (K : PySem.W.Frag) : Sp := fun vs H Q _ => ∃ (u : Addr) (k mo : Int) (m : Nat), vs = [.ref u, .int k, .int mo] ∧ Urn H u m ∧ m + 2000 ≤ 1000000 ∧ 1 ≤ k ∧ k ≤ 3 ∧ 6 ≤ mo ∧ mo ≤ 12 ∧
  ∀ (p : Addr) (rs : List (List Int × List Int)) (ss : List (List Int × Int)) (H' : Hp), GoodR k.toNat rs → GoodS k.toNat ss → rs.length ≤ 12 → ss.length ≤ 12 → SB u H H' → DV K H' (.tuple [.tuple (rs.map rowD), .tuple (ss.map sealD)]) (.ref p) → Urn H' u (m + 2000) → Q (.ref p) H'
theorem pick4 {a b c mo e : Int} (ha : 0 < a ∧ a ≤ 13) (hb : 0 < b ∧ b ≤ 13) (hc : 0 < c ∧ c ≤ 13) (hm : 0 < mo ∧ mo ≤ 13) (e0 : 0 ≤ e) (e1 : e < 4) : ∃ wd : Int, atI [V.int a, V.int b, V.int c, V.int mo] e = some (.int wd) ∧ 0 < wd ∧ wd ≤ 13 := by
  have : e = 0 ∨ e = 1 ∨ e = 2 ∨ e = 3 := by omega
  rcases this with z | z | z | z <;> rw [z]
  · exact ⟨_, rfl, ha⟩
  · exact ⟨_, rfl, hb⟩
  · exact ⟨_, rfl, hc⟩
  · exact ⟨_, rfl, hm⟩
theorem dn_history (T : Txt K mg) : Dn P w K mg base 3 "_law_history" sLawHistory ["_law_urn_here", "_law_several", "_law_most"] (spHist K) := by
  refine Dn.of T.f_law_history sc_law_history (fun vs H Q E h => ?_) (fun f cdv A outer s H vs Q E hr h => ?_)
  · obtain ⟨u, k, mo, m, rfl, _⟩ := h; rfl
  obtain ⟨u, k, mo, m, rfl, hU, hm, k0, k1, m0, m1, q⟩ := h
  have D_law_draw := dn_draw (P := P) (w := w) (base := base) T
  have D_law_small := dn_small (P := P) (w := w) (base := base) T
  have D_law_prices := dn_prices (P := P) (w := w) (base := base) T
  refine ⟨_, IPSs.get (i_pss_cons (by refine' i_ps_setComp (i := 3) sc_law_history.nd rfl (Or.inl rfl) (Nc := ["_law_k", "_law_urn_here", "_law_several"]) (cap := [none, some 0, some 1]) rfl ?i ?k ?g ?t ?e; (case k => kernel_rfl); (case i => exact (i_pi_range1 rfl T.z_range (i_pa_cons (i_pe_op op_add i_pe_int (i_pe_def D_law_draw bd_law_draw (hr.mono (by decide)) (i_pa_cons (i_pv 0) (i_pa_cons i_pe_int i_pa_nil)))) i_pa_nil))); (case g => exact (fun _ _ _ _ _ => (i_pgl 0 (by show List.Nodup (["_law_k", "_law_urn_here", "_law_several"] : List Str); decide +kernel)))); (case t => exact (fun _ _ _ _ _ => i_pts_nil)); (case e => exact (fun _ _ _ _ _ => (i_pe_def D_law_small bd_law_small (hr.mono (by decide)) (i_pa_cons (i_pvf 1) (i_pa_cons (i_pvf 2) i_pa_nil)) (hg := gl_comp)))))
    (i_pss_cons (i_ps_par2 4 5 rfl sc_law_history.nd (i_pa_cons (i_pe_lst i_pa_nil) (i_pa_cons (i_pe_lst i_pa_nil) i_pa_nil)))
    (i_pss_cons (i_ps_for PassesOwn.never rfl (i_pi_range1 rfl T.z_range (i_pa_cons (i_pe_def D_law_draw bd_law_draw (hr.mono (by decide)) (i_pa_cons (i_pv 0) (i_pa_cons (i_pe_ix ix_list (i_pe_lst (i_pa_cons i_pe_int (i_pa_cons i_pe_int (i_pa_cons i_pe_int (i_pa_cons (i_pe_op op_add (i_pv 2) i_pe_int) i_pa_nil))))) (i_pe_def D_law_draw bd_law_draw (hr.mono (by decide)) (i_pa_cons (i_pv 0) (i_pa_cons i_pe_int i_pa_nil))) (fun _ _ => rfl)) i_pa_nil))) i_pa_nil)) (i_pg_name (i := 6) sc_law_history.nd rfl (Or.inl rfl)) (i_pss_one (i_ps_expr (i_pe_bm PySem.F.plainAttrs_list PySem.F.slot_list_append PySem.F.type_list_append mt_append (i_pv 4) (i_pa_cons (i_pe_tup (i_pa_cons (i_pe_def D_law_prices bd_law_prices (hr.mono (by decide)) (i_pa_cons (i_pv 0) (i_pa_cons (i_pv 1) i_pa_nil))) (i_pa_cons (i_pe_ix ix_list (i_pv 3) (i_pe_def D_law_draw bd_law_draw (hr.mono (by decide)) (i_pa_cons (i_pv 0) (i_pa_cons (i_pe_callB call_len_seq rfl T.z_len boot_len (i_pa_cons (i_pv 3) i_pa_nil)) i_pa_nil))) (fun _ _ => rfl)) i_pa_nil))) i_pa_nil)))))
    (i_pss_cons (i_ps_for PassesOwn.never rfl (i_pi_range1 rfl T.z_range (i_pa_cons (i_pe_def D_law_draw bd_law_draw (hr.mono (by decide)) (i_pa_cons (i_pv 0) (i_pa_cons (i_pe_ix ix_list (i_pe_lst (i_pa_cons i_pe_int (i_pa_cons i_pe_int (i_pa_cons i_pe_int (i_pa_cons (i_pe_op op_add (i_pv 2) i_pe_int) i_pa_nil))))) (i_pe_def D_law_draw bd_law_draw (hr.mono (by decide)) (i_pa_cons (i_pv 0) (i_pa_cons i_pe_int i_pa_nil))) (fun _ _ => rfl)) i_pa_nil))) i_pa_nil)) (i_pg_name (i := 6) sc_law_history.nd rfl (Or.inl rfl)) (i_pss_cons (i_ps_set (i := 7) sc_law_history.nd rfl (Or.inl rfl) (i_pe_ix ix_list (i_pv 3) (i_pe_def D_law_draw bd_law_draw (hr.mono (by decide)) (i_pa_cons (i_pv 0) (i_pa_cons (i_pe_callB call_len_seq rfl T.z_len boot_len (i_pa_cons (i_pv 3) i_pa_nil)) i_pa_nil))) (fun _ _ => rfl)))
    (i_pss_cons (i_ps_if (i_pt_cmpR op_eq (i_pe_def D_law_draw bd_law_draw (hr.mono (by decide)) (i_pa_cons (i_pv 0) (i_pa_cons i_pe_int i_pa_nil))) i_pe_int (nomark _)) (i_pss_one (i_ps_set (i := 7) sc_law_history.nd rfl (Or.inl rfl) (i_pe_def D_law_small bd_law_small (hr.mono (by decide)) (i_pa_cons (i_pv 0) (i_pa_cons (i_pv 1) i_pa_nil))))) i_pss_nil)
    (i_pss_cons (i_ps_set (i := 8) sc_law_history.nd rfl (Or.inl rfl) (i_pe_def D_law_draw bd_law_draw (hr.mono (by decide)) (i_pa_cons (i_pv 0) (i_pa_cons (i_pe_ix ix_list (i_pe_lst (i_pa_cons i_pe_int (i_pa_cons i_pe_int (i_pa_cons i_pe_int (i_pa_cons (i_pe_op op_powB i_pe_int i_pe_int) i_pa_nil))))) (i_pe_def D_law_draw bd_law_draw (hr.mono (by decide)) (i_pa_cons (i_pv 0) (i_pa_cons i_pe_int i_pa_nil))) (fun _ _ => rfl)) i_pa_nil))))
    (i_pss_one (i_ps_if (IPW.pt (i_pw_and (i_pt_cmpR op_gt (i_pe_callB (call_maxS true rfl) rfl T.z_max boot_max (i_pa_cons (i_pv 7) i_pa_nil)) i_pe_int (nomark _)) (i_pw_and1 (i_pt_cmpR (op_notInD hr.units) (i_pv 7) (by refine' i_pe_comp (Nc := ["_law_one", "_law_paid"]) (cap := [none, none]) rfl ?i ?k ?g ?t ?e; (case k => kernel_rfl); (case i => exact (i_pi_list (i_pv 5))); (case g => exact (fun _ _ _ _ _ => (i_pgl2K (K := K) rfl 0 1 rfl (by show List.Nodup (["_law_one", "_law_paid"] : List Str); decide +kernel)))); (case t => exact (fun _ _ _ _ _ => i_pts_nil)); (case e => exact (fun _ _ _ _ _ => (i_pvl 0)))) rfl)))) (i_pss_one (i_ps_expr (i_pe_bm PySem.F.plainAttrs_list PySem.F.slot_list_append PySem.F.type_list_append mt_append (i_pv 5) (i_pa_cons (i_pe_tup (i_pa_cons (i_pv 7) (i_pa_cons (i_pv 8) i_pa_nil))) i_pa_nil)))) i_pss_nil))))))
    (i_pss_one (i_ps_ret (i_pe_tup (i_pa_cons (i_pe_callTy call_tuple_of rfl T.z_tuple (by decide +kernel) (i_pa_cons (i_pv 4) i_pa_nil)) (i_pa_cons (i_pe_callTy call_tuple_of rfl T.z_tuple (by decide +kernel) (i_pa_cons (i_pv 5) i_pa_nil)) i_pa_nil))))))))), ?_⟩
  refine ⟨_, rfl, u, 6, m, rfl, hU, by omega, by decide, by decide, fun d H1 d0 d1 s1 U1 => ⟨_, _, rfl, rfl, _, rfl, by omega, by omega, ?_⟩⟩
  refine comp_range (lo := 0) (n := (1 + d).toNat) (fun j ys σ H' => ∃ o rows, σ = [o, some (.ref u), some (.int k)] ∧ DVs K H' (rows.map tI) ys ∧ rows.length = j ∧ Good k.toNat rows ∧ SB u H1 H' ∧ Urn H' u (m + 1 + 20 * j)) ⟨_, [], rfl, DVs.nil, rfl, fun r hr => (nomatch hr), SB.refl _ _, U1⟩ ?_ ?_
  · rintro j ys σ H6 hj ⟨o, rows, rfl, hD, hl, hG, sb, U6⟩
    have ly := hD.length
    rw [List.length_map] at ly
    refine ⟨?_, _, rfl, _, rfl, u, _, _, rfl, U6, by omega, k0, k1, fun p1 n1 H7 l1 sm1 sb7 f1 e1 U7 => ?_⟩
    · exact Nat.lt_of_lt_of_le (by omega : ys.length < 100) (by decide)
    obtain ⟨zs, hv⟩ := urn_lst U6
    refine ⟨_, rows ++ [n1], rfl, ?_, by rw [List.length_append, hl]; rfl, ?_, sb.trans sb7, U7.mono (by omega)⟩
    · rw [List.map_append]
      exact DVs.snoc (rows_but hv sb7 hD) (DV.tI (SqT.of e1))
    · intro r hr
      rcases List.mem_append.mp hr with z | z
      · exact hG r z
      · have : r = n1 := by simpa using z
        subst this; exact ⟨l1, sm1⟩
  · rintro ys σ H6 ⟨o, rows, rfl, hD, hl, hG, sb6, U6⟩ Lo hLo
    have SO := same_newH hLo (.lst ys)
    have nO : Lo ≠ u := U6.ne hLo
    have hSome : LL K (upd H6 Lo (.lst ys)) Lo rows := ⟨ys, upd_same, DVs.same SO hD⟩
    have U7 := U6.same SO
    have sb7 : SB u H (upd H6 Lo (.lst ys)) := (s1.trans sb6).trans (SO.sb u)
    have fO : H Lo = none := free_of (s1.trans sb6) hU U6 hLo
    have hr1 : 1 ≤ rows.length := by omega
    have hr6 : rows.length ≤ 6 := by omega
    generalize upd H6 Lo (.lst ys) = H7 at hSome U7 sb7 ⊢
    refine ⟨(by show 0 ≤ sizeLine; decide), fun Lr hLr => ⟨(by show 0 ≤ sizeLine; decide), fun Ls hLs => ⟨_, _, rfl, ?_⟩⟩⟩
    have SR := same_newH hLr (.lst [])
    have SS := same_newH hLs (.lst [])
    have nRu : Lr ≠ u := U7.ne hLr
    have nSu : Ls ≠ u := (U7.same SR).ne hLs
    have nRS : Lr ≠ Ls := fun z => by rw [← z, upd_same] at hLs; cases hLs
    have nRO : Lo ≠ Lr := hSome.ne hLr
    have nSO : Lo ≠ Ls := (hSome.same SR).ne hLs
    have fR : H Lr = none := free_of sb7 hU U7 hLr
    have fS : H Ls = none := free_of (sb7.trans (SR.sb u)) hU (U7.same SR) hLs
    have U8 := (U7.same SR).same SS
    have sb8 := sb7.trans ((SR.trans SS).sb u)
    have hSome8 := hSome.same (SR.trans SS)
    have eR8 : (upd (upd H7 Lr (.lst [])) Ls (.lst [])) Lr = some (.lst []) := SS _ _ upd_same
    have eS8 : (upd (upd H7 Lr (.lst [])) Ls (.lst [])) Ls = some (.lst []) := upd_same
    generalize upd (upd H7 Lr (.lst [])) Ls (.lst []) = H8 at U8 sb8 hSome8 eR8 eS8 ⊢
    have mle : m + 1 + 20 * (1 + d).toNat ≤ m + 121 := by omega
    have U8' := U8.mono mle
    -- how many rounds
    refine ⟨_, rfl, _, rfl, _, _, rfl, rfl, (by show 4 ≤ sizeLine; decide), fun L hL => ?_⟩
    have SL := same_newH hL (.lst [V.int 3, V.int 5, V.int 7, V.int (mo + 1)])
    refine ⟨_, rfl, u, 4, _, rfl, U8'.same SL, by omega, by decide, by decide, fun e H9 e0 e1 sb9 U9 => ?_⟩
    have L9 := sb9 _ _ (U8'.ne hL) upd_same
    obtain ⟨wd, ew, w0, w1⟩ := pick4 (a := 3) (b := 5) (c := 7) (mo := mo + 1) (by decide) (by decide) (by decide) (by omega) e0 e1
    refine ⟨L, _, _, _, rfl, rfl, SqL.of L9, ew, u, wd, _, rfl, U9, by omega, w0, by omega, fun n H10 n0 n1 sb10 U10 => ?_⟩
    have sbu : SB u H8 H10 := ((SL.sb u).trans sb9).trans sb10
    have hSome10 := hSome8.urn U8' sbu nO
    have eR10 := sbu _ _ nRu eR8
    have eS10 := sbu _ _ nSu eS8
    have sb10' := sb8.trans sbu
    refine ⟨n, rfl, by omega, by omega, for_range (fun i σ H' => ∃ o6 rs xs, σ = [some (.ref u), some (.int k), some (.int mo), some (.ref Lo), some (.ref Lr), some (.ref Ls), o6, none, none] ∧ H' Lr = some (.lst xs) ∧ DVs K H' (rs.map rowD) xs ∧ rs.length = i ∧ GoodR k.toNat rs ∧ LL K H' Lo rows ∧ H' Ls = some (.lst []) ∧ SB u H H' ∧ Urn H' u (m + 123 + 21 * i)) ⟨_, [], [], rfl, eR10, DVs.nil, rfl, fun r hr => (nomatch hr), hSome10, eS10, sb10', U10⟩ ?_ ?_⟩
    · rintro i σ H' hi ⟨o6, rs, xs, rfl, i1, i2, i3, i4, i5, i6, i7, i8⟩
      have hi12 : i < 12 := by omega
      refine ⟨_, rfl, .inl ⟨rfl, _, SqL.of i1⟩, _, rfl, _, rfl, u, k, _, rfl, i8, by omega, k0, k1, fun pp np H11 lp sp sb11 fp ep U11 => ?_⟩
      have j5 := i5.urn i8 sb11 nO
      obtain ⟨ys, z1, z2, z3⟩ := j5.len
      refine ⟨_, rfl, _, rfl, _, rfl, Lo, ys, rfl, .inl (SqL.of z1), u, _, _, rfl, U11, by omega, by omega, by omega, fun g H12 g0 g1 sb12 U12 => ?_⟩
      have k5 := j5.urn U11 sb12 nO
      obtain ⟨ys', z1', z2', z3'⟩ := k5.len
      obtain ⟨v, hv⟩ : ∃ v, ys'[g.toNat]? = some v := ⟨_, List.getElem?_eq_getElem (by omega)⟩
      have eg : ((g.toNat : Nat) : Int) = g := by omega
      obtain ⟨r, b, hr', rfl, hb⟩ := row_of z2' hv
      refine ⟨Lo, ys', g, _, rfl, rfl, SqL.of z1', by rw [← eg]; exact atI_nat hv, ?_⟩
      refine ⟨(by show 2 ≤ sizeLine; decide), fun qq hqq => ?_⟩
      have SQ := same_newH hqq (.tup [V.ref pp, V.ref b])
      obtain ⟨yu, vu⟩ := urn_lst i8
      obtain ⟨yu2, vu2⟩ := urn_lst U11
      have i1' := SQ _ _ (sb12 _ _ nRu (sb11 _ _ nRu i1))
      have i2' := DVs.same SQ (DVs.but vu2 sb12 (flat_rows rs) (DVs.but vu sb11 (flat_rows rs) i2))
      have lx := i2.length
      rw [List.length_map] at lx
      refine ⟨Lr, xs, _, rfl, rfl, i1', Nat.lt_of_lt_of_le (by omega : xs.length < 100) (by decide), ?_⟩
      have sbL := SB.upd Lr (upd H12 qq (.tup [V.ref pp, V.ref b])) (.lst (xs ++ [V.ref qq]))
      have rowq : DV K (upd H12 qq (.tup [V.ref pp, V.ref b])) (rowD (np, r)) (.ref qq) := DV.row (SqT.of upd_same) (SQ.tup (tup_but vu2 sb12 (SqT.of ep))) (SQ.tup hb)
      have hGr := hG r (List.mem_of_getElem? hr')
      refine ⟨_, rs ++ [(np, r)], _, rfl, upd_same, ?_, by rw [List.length_append, i3]; rfl, i4.snoc ⟨lp, hGr.1, sp, hGr.2⟩, (k5.same SQ).but i1' sbL nRO, sbL _ _ (Ne.symm nRS) (SQ _ _ (sb12 _ _ nSu (sb11 _ _ nSu i6))), ?_, ?_⟩
      · rw [List.map_append]
        have := DVs.snoc i2' rowq
        have e2 : rs.map rowD ++ [rowD (np, r)] = (rs ++ [(np, r)]).map rowD := by rw [List.map_append]; rfl
        rw [e2] at this
        have := DVs.but i1' sbL (flat_rows _) this
        rw [← e2] at this
        exact this
      · intro b' o' n' h'
        exact sbL b' o' (fun z => by rw [z, fR] at h'; cases h') (SQ _ _ (sb12 _ _ n' (sb11 _ _ n' (i7 b' o' n' h'))))
      · obtain ⟨g', c', n', e', r'⟩ := U12.same SQ
        exact ⟨g', c', n', sbL _ _ (Ne.symm nRu) e', by omega⟩
    · rintro σ H' ⟨o6, rs, xs, rfl, i1, i2, i3, i4, i5, i6, i7, i8⟩
      have i3' : rs.length ≤ 12 := by omega
      have i8' : Urn H' u (m + 500) := i8.mono (by omega)
      clear i8 i3
      refine ⟨_, rfl, _, rfl, _, _, rfl, rfl, (by show 4 ≤ sizeLine; decide), fun L hL => ?_⟩
      have SL := same_newH hL (.lst [V.int 1, V.int 3, V.int 5, V.int (mo + 1)])
      refine ⟨_, rfl, u, 4, _, rfl, i8'.same SL, by omega, by decide, by decide, fun e H9 e0 e1 sb9 U9 => ?_⟩
      have L9 := sb9 _ _ (i8'.ne hL) upd_same
      obtain ⟨wd, ew, w0, w1⟩ := pick4 (a := 1) (b := 3) (c := 5) (mo := mo + 1) (by decide) (by decide) (by decide) (by omega) e0 e1
      refine ⟨L, _, _, _, rfl, rfl, SqL.of L9, ew, u, wd, _, rfl, U9, by omega, w0, by omega, fun n2 H10 n20 n21 sb10 U10 => ?_⟩
      have sbu : SB u H' H10 := ((SL.sb u).trans sb9).trans sb10
      obtain ⟨yu, vu⟩ := urn_lst i8'
      have j5 := i5.urn i8' sbu nO
      have j1 := sbu _ _ nRu i1
      have j2 := DVs.but vu sbu (flat_rows rs) i2
      have j6 := sbu _ _ nSu i6
      have j7 := i7.trans sbu
      refine ⟨n2, rfl, by omega, by omega, for_range (fun i σ H' => ∃ o6 o7 o8 ss zs, σ = [some (.ref u), some (.int k), some (.int mo), some (.ref Lo), some (.ref Lr), some (.ref Ls), o6, o7, o8] ∧ H' Ls = some (.lst zs) ∧ DVs K H' (ss.map sealD) zs ∧ ss.length ≤ i ∧ GoodS k.toNat ss ∧ LL K H' Lo rows ∧ H' Lr = some (.lst xs) ∧ DVs K H' (rs.map rowD) xs ∧ SB u H H' ∧ Urn H' u (m + 502 + 24 * i)) ⟨_, _, _, [], [], rfl, j6, DVs.nil, Nat.le_refl _, fun r hr => (nomatch hr), j5, j1, j2, j7, U10⟩ ?_ ?_⟩
      · rintro i σ H2 hi ⟨o6, o7, o8, ss, zs, rfl, a1, a2, a3, a4, a5, a6, a7, a8, a9⟩
        have hi12 : i < 13 := by omega
        obtain ⟨ys, z1, z2, z3⟩ := a5.len
        refine ⟨_, rfl, _, rfl, _, rfl, Lo, ys, rfl, .inl (SqL.of z1), u, _, _, rfl, a9, by omega, by omega, by omega, fun g H12 g0 g1 sb12 U12 => ?_⟩
        obtain ⟨yu2, vu2⟩ := urn_lst a9
        have k5 := a5.urn a9 sb12 nO
        obtain ⟨ys', z1', z2', z3'⟩ := k5.len
        obtain ⟨v, hv⟩ : ∃ v, ys'[g.toNat]? = some v := ⟨_, List.getElem?_eq_getElem (by omega)⟩
        have eg : ((g.toNat : Nat) : Int) = g := by omega
        obtain ⟨r, b, hr', rfl, hb⟩ := row_of z2' hv
        have hGr := hG r (List.mem_of_getElem? hr')
        refine ⟨Lo, ys', g, _, rfl, rfl, SqL.of z1', by rw [← eg]; exact atI_nat hv, ?_⟩
        let I2 : Hp → Prop := fun Hx => Hx Ls = some (.lst zs) ∧ DVs K Hx (ss.map sealD) zs ∧ LL K Hx Lo rows ∧ Hx Lr = some (.lst xs) ∧ DVs K Hx (rs.map rowD) xs ∧ SB u H Hx
        have i2sb : ∀ {Ha Hb : Hp} {m' : Nat}, I2 Ha → Urn Ha u m' → SB u Ha Hb → I2 Hb := by
          rintro Ha Hb m' ⟨b1, b2, b3, b4, b5, b6⟩ Ux sx
          obtain ⟨yx, vx⟩ := urn_lst Ux
          exact ⟨sx _ _ nSu b1, DVs.but vx sx (flat_seals ss) b2, b3.urn Ux sx nO, sx _ _ nRu b4, DVs.but vx sx (flat_rows rs) b5, b6.trans sx⟩
        have i2same : ∀ {Ha Hb : Hp}, I2 Ha → Same Ha Hb → I2 Hb := by
          rintro Ha Hb ⟨b1, b2, b3, b4, b5, b6⟩ sx
          exact ⟨sx _ _ b1, DVs.same sx b2, b3.same sx, sx _ _ b4, DVs.same sx b5, b6.trans (sx.sb u)⟩
        have I12 : I2 H12 := i2sb ⟨a1, a2, a5, a6, a7, a8⟩ a9 sb12
        refine asg_seq (seq_mid (fun σ H' => ∃ b r, σ = [some (.ref u), some (.int k), some (.int mo), some (.ref Lo), some (.ref Lr), some (.ref Ls), some (.int (0 + (i : Int))), some (.ref b), o8] ∧ SqT K H' b (r.map V.int) ∧ r.length = k.toNat ∧ Small r ∧ I2 H' ∧ Urn H' u (m + 502 + 24 * i + 22)) ?_ ?_)
        · rintro σ' H13 ⟨b, r, rfl, hb, hrl, hrs, I13, U13⟩
          refine ⟨_, rfl, _, _, rfl, rfl, ⟨by decide, by decide +kernel⟩, (by show 4 ≤ sizeLine; decide), fun L hL => ?_⟩
          have SL := same_newH hL (.lst [V.int 3, V.int 30, V.int 1000, V.int 1000000])
          refine ⟨_, rfl, u, 4, _, rfl, U13.same SL, by omega, by decide, by decide, fun e H9 e0 e1 sb9 U9 => ?_⟩
          have L9 := sb9 _ _ (U13.ne hL) upd_same
          obtain ⟨wd, ew, w0, w1⟩ : ∃ wd : Int, atI [V.int 3, V.int 30, V.int 1000, V.int 1000000] e = some (.int wd) ∧ 0 < wd ∧ wd ≤ 1000000 := by
            have : e = 0 ∨ e = 1 ∨ e = 2 ∨ e = 3 := by omega
            rcases this with z | z | z | z <;> rw [z] <;> exact ⟨_, rfl, by decide, by decide⟩
          refine ⟨L, _, _, _, rfl, rfl, SqL.of L9, ew, u, wd, _, rfl, U9, by omega, w0, by omega, fun co H10 c0 c1 sb10 U10 => ?_⟩
          have sbu : SB u H13 H10 := ((SL.sb u).trans sb9).trans sb10
          have I10 : I2 H10 := i2sb I13 U13 sbu
          obtain ⟨y13, v13⟩ := urn_lst U13
          have hb10 := tup_but v13 sbu hb
          have U10' : Urn H10 u (m + 502 + 24 * (i + 1)) := U10.mono (by omega)
          have rne : r ≠ [] := fun z => by rw [z] at hrl; simp at hrl; omega
          refine ⟨_, rfl, b, r, rfl, hb10, rne, fun mx _ _ => ⟨_, _, rfl, rfl, _, rfl, ?_⟩⟩
          have done : ∀ {Hx : Hp} {o : Option V}, Same H10 Hx → ∃ o6 o7 o8 ss zs, [some (V.ref u), some (V.int k), some (V.int mo), some (V.ref Lo), some (V.ref Lr), some (V.ref Ls), some (V.int (0 + (i : Int))), some (V.ref b), some (V.int co)] = [some (V.ref u), some (V.int k), some (V.int mo), some (V.ref Lo), some (V.ref Lr), some (V.ref Ls), o6, o7, o8] ∧ Hx Ls = some (.lst zs) ∧ DVs K Hx (ss.map sealD) zs ∧ ss.length ≤ i + 1 ∧ GoodS k.toNat ss ∧ LL K Hx Lo rows ∧ Hx Lr = some (.lst xs) ∧ DVs K Hx (rs.map rowD) xs ∧ SB u H Hx ∧ Urn Hx u (m + 502 + 24 * (i + 1)) := by
            intro Hx o sx
            obtain ⟨b1, b2, b3, b4, b5, b6⟩ := i2same I10 sx
            exact ⟨_, _, _, ss, zs, rfl, b1, b2, by omega, a4, b3, b4, b5, b6, U10'.same sx⟩
          refine ite2 (fun _ => ?_) (fun _ => iteF (done (o := none) (Same.refl _)))
          obtain ⟨b1, b2, b3, b4, b5, b6⟩ := id I10
          have lz := b2.length
          rw [List.length_map] at lz
          refine ⟨_, rfl, _, rfl, Ls, rfl, ⟨zs, SqL.of b1⟩, comp_firsts (SqL.of b1) b2 (by omega) fun ws σ2 H11 s11 hW pw hpw => ?_⟩
          have SW := same_newH hpw (.lst ws)
          refine ⟨tI r, (ss.map (·.1)).map tI, pw, ws, DV.tI ((s11.trans SW).tup hb10), rfl, .inl (SqL.of upd_same), DVs.same SW hW, tI_can r, rows_canAll _, by rw [tI_depth]; decide, _, rfl, ?_⟩
          refine ite2 (fun _ => ?_) (fun _ => done (o := none) (s11.trans SW))
          refine ⟨_, rfl, .inl ⟨rfl, _, SqL.of ((s11.trans SW) _ _ b1)⟩, _, rfl, _, rfl, (by show 2 ≤ sizeLine; decide), fun qq hqq => ?_⟩
          have SQ := same_newH hqq (.tup [V.ref b, V.int co])
          have sA := (s11.trans SW).trans SQ
          obtain ⟨c1', c2', c3', c4', c5', c6'⟩ := i2same I10 sA
          refine ⟨Ls, zs, _, rfl, rfl, c1', Nat.lt_of_lt_of_le (by omega : zs.length < 100) (by decide), ?_⟩
          have sbL := SB.upd Ls (upd (upd H11 pw (.lst ws)) qq (.tup [V.ref b, V.int co])) (.lst (zs ++ [V.ref qq]))
          have sq : DV K (upd (upd H11 pw (.lst ws)) qq (.tup [V.ref b, V.int co])) (sealD (r, co)) (.ref qq) := DV.seal (SqT.of upd_same) (sA.tup hb10)
          refine ⟨_, _, _, ss ++ [(r, co)], _, rfl, upd_same, ?_, by rw [List.length_append]; exact Nat.succ_le_succ a3, a4.snoc ⟨hrl, hrs, c0, by show co < 2 ^ 80; omega⟩, c3'.but c1' sbL nSO, sbL _ _ nRS c4', DVs.but c1' sbL (flat_rows rs) c5', ?_, ?_⟩
          · have := DVs.snoc c2' sq
            have e2 : ss.map sealD ++ [sealD (r, co)] = (ss ++ [(r, co)]).map sealD := by rw [List.map_append]; rfl
            rw [e2] at this
            exact DVs.but c1' sbL (flat_seals _) this
          · intro b' o' n' h'
            exact sbL b' o' (fun z => by rw [z, fS] at h'; cases h') (c6' b' o' n' h')
          · obtain ⟨g', c', n', e', r'⟩ := U10'.same sA
            exact ⟨g', c', n', sbL _ _ (Ne.symm nSu) e', r'⟩
        · intro N hN
          refine ⟨_, rfl, u, 3, _, rfl, U12, by omega, by decide, by decide, fun h H13 h0 h1 sb13 U13 => ⟨rfl, _, rfl, ?_⟩⟩
          obtain ⟨y12, v12⟩ := urn_lst U12
          refine ite2 (fun _ => ?_) (fun _ => ?_)
          · refine ⟨_, rfl, _, rfl, u, k, _, rfl, U13, by omega, k0, k1, fun pb nb H14 lb sb14' sb14 fb eb U14 => ?_⟩
            exact hN _ _ ⟨pb, nb, rfl, SqT.of eb, lb, sb14', i2sb (i2sb I12 U12 sb13) U13 sb14, U14.mono (by omega)⟩
          · exact hN _ _ ⟨b, r, rfl, tup_but v12 sb13 hb, hGr.1, hGr.2, i2sb I12 U12 sb13, U13.mono (by omega)⟩
      · rintro σ H2 ⟨o6, o7, o8, ss, zs, rfl, a1, a2, a3, a4, a5, a6, a7, a8, a9⟩
        refine ⟨_, rfl, Lr, xs, rfl, .inl ⟨SqL.of a6, fun t1 ht1 => ?_⟩⟩
        have S1 := same_newH ht1 (.tup xs)
        refine ⟨_, rfl, Ls, zs, rfl, .inl ⟨SqL.of (S1 _ _ a1), fun t2 ht2 => ?_⟩⟩
        have S2 := same_newH ht2 (.tup zs)
        refine ⟨(by show 2 ≤ sizeLine; decide), fun t3 ht3 => ?_⟩
        have S3 := same_newH ht3 (.tup [V.ref t1, V.ref t2])
        have S13 := (S1.trans S2).trans S3
        refine q t3 rs ss _ (by assumption) a4 i3' (by omega) (a8.trans (S13.sb u)) ?_ ((a9.same S13).mono (by omega))
        exact DV.tup (SqT.of upd_same) (DVs.cons (DV.tup (SqT.of (S3 _ _ (S2 _ _ upd_same))) (DVs.same S13 a7)) (DVs.cons (DV.tup (SqT.of (S3 _ _ upd_same)) (DVs.same S13 a2)) DVs.nil))

end
end Mine

set_option Elab.async false
set_option linter.all false
set_option maxRecDepth 100000
set_option maxHeartbeats 4000000
namespace Mine
open PySem PySem.Spec PyProof.Rows L2
section
variable {P : Program} {w : World} {K : PySem.W.Frag} {mg : Str → Option Value} {base : Heap}
def spMeant (K : PySem.W.Frag) : Sp := fun vs H Q _ => ∃ (u a : Addr) (as : List Nat) (mo : Int) (m : Nat), vs = [.ref u, .ref a, .int mo] ∧ Urn H u m ∧ m + 2000 ≤ 1000000 ∧ SqT K H a (natV as) ∧ 1 ≤ as.length ∧ as.length ≤ 3 ∧ (∀ a ∈ as, a ≤ 30) ∧ 6 ≤ mo ∧ mo ≤ 12 ∧
  ∀ (p : Addr) (x y z : V) (rs : List (List Int × List Int)) (ss : List (List Int × Int)) (H' : Hp), GoodR as.length rs → GoodS as.length ss → rs.length ≤ 12 → ss.length ≤ 12 → SB u H H' → SqT K H' p [x, y, z] → DV K H' (.tuple (rs.map rowD)) x → DV K H' (.tuple (ss.map sealD)) y → Urn H' u (m + 2000) → Q (.ref p) H'
theorem dn_meant (T : Txt K mg) : Dn P w K mg base 3 "_law_meant" sLawMeant ["_law_urn_here", "_law_amounts_here", "_law_most"] (spMeant K) := by
  refine Dn.of T.f_law_meant sc_law_meant (fun vs H Q E h => ?_) (fun f cdv A outer s H vs Q E hr h => ?_)
  · obtain ⟨u, a, as, mo, m, rfl, _⟩ := h; rfl
  obtain ⟨u, a, as, mo, m, rfl, hU, hm, hA, l1, l3, h30, m0, m1, q⟩ := h
  have D_law_draw := dn_draw (P := P) (w := w) (base := base) T
  have D_law_taste := dn_taste (P := P) (w := w) (base := base) T
  have D_law_prices := dn_prices (P := P) (w := w) (base := base) T
  have D_law_wanted := dn_wanted (P := P) (w := w) (base := base) T
  have D_law_bundle := dn_bundle (P := P) (w := w) (base := base) T
  have D_law_liked := dn_liked (P := P) (w := w) (base := base) T
  refine ⟨_, IPSs.get (i_pss_cons (i_ps_set (i := 3) sc_law_meant.nd rfl (Or.inl rfl) (i_pe_def D_law_taste bd_law_taste (hr.mono (by decide)) (i_pa_cons (i_pv 0) (i_pa_cons (i_pv 1) i_pa_nil))))
    (i_pss_cons (i_ps_par2 4 5 rfl sc_law_meant.nd (i_pa_cons (i_pe_lst i_pa_nil) (i_pa_cons (i_pe_lst i_pa_nil) i_pa_nil)))
    (i_pss_cons (i_ps_for PassesOwn.never rfl (i_pi_range1 rfl T.z_range (i_pa_cons (i_pe_def D_law_draw bd_law_draw (hr.mono (by decide)) (i_pa_cons (i_pv 0) (i_pa_cons (i_pe_ix ix_list (i_pe_lst (i_pa_cons i_pe_int (i_pa_cons i_pe_int (i_pa_cons i_pe_int (i_pa_cons (i_pe_op op_add (i_pv 2) i_pe_int) i_pa_nil))))) (i_pe_def D_law_draw bd_law_draw (hr.mono (by decide)) (i_pa_cons (i_pv 0) (i_pa_cons i_pe_int i_pa_nil))) (fun _ _ => rfl)) i_pa_nil))) i_pa_nil)) (i_pg_name (i := 6) sc_law_meant.nd rfl (Or.inl rfl)) (i_pss_cons (i_ps_set (i := 7) sc_law_meant.nd rfl (Or.inl rfl) (i_pe_def D_law_prices bd_law_prices (hr.mono (by decide)) (i_pa_cons (i_pv 0) (i_pa_cons (i_pe_callB call_len_seq rfl T.z_len boot_len (i_pa_cons (i_pv 1) i_pa_nil)) i_pa_nil))))
    (i_pss_one (i_ps_expr (i_pe_bm PySem.F.plainAttrs_list PySem.F.slot_list_append PySem.F.type_list_append mt_append (i_pv 4) (i_pa_cons (i_pe_tup (i_pa_cons (i_pv 7) (i_pa_cons (i_pe_def D_law_wanted bd_law_wanted (hr.mono (by decide)) (i_pa_cons (i_pv 0) (i_pa_cons (i_pv 3) (i_pa_cons (i_pv 1) (i_pa_cons (i_pv 7) i_pa_nil))))) i_pa_nil))) i_pa_nil))))))
    (i_pss_cons (i_ps_for PassesOwn.never rfl (i_pi_range1 rfl T.z_range (i_pa_cons (i_pe_def D_law_draw bd_law_draw (hr.mono (by decide)) (i_pa_cons (i_pv 0) (i_pa_cons (i_pe_ix ix_list (i_pe_lst (i_pa_cons i_pe_int (i_pa_cons i_pe_int (i_pa_cons i_pe_int (i_pa_cons (i_pe_op op_add (i_pv 2) i_pe_int) i_pa_nil))))) (i_pe_def D_law_draw bd_law_draw (hr.mono (by decide)) (i_pa_cons (i_pv 0) (i_pa_cons i_pe_int i_pa_nil))) (fun _ _ => rfl)) i_pa_nil))) i_pa_nil)) (i_pg_name (i := 6) sc_law_meant.nd rfl (Or.inl rfl)) (i_pss_cons (i_ps_set (i := 8) sc_law_meant.nd rfl (Or.inl rfl) (i_pe_def D_law_bundle bd_law_bundle (hr.mono (by decide)) (i_pa_cons (i_pv 0) (i_pa_cons (i_pv 1) i_pa_nil))))
    (i_pss_one (i_ps_if (IPW.pt (i_pw_and (i_pt_cmpR op_gt (i_pe_callB (call_maxS true rfl) rfl T.z_max boot_max (i_pa_cons (i_pv 8) i_pa_nil)) i_pe_int (nomark _)) (i_pw_and1 (i_pt_cmpR (op_notInD hr.units) (i_pv 8) (by refine' i_pe_comp (Nc := ["_law_one", "_law_paid"]) (cap := [none, none]) rfl ?i ?k ?g ?t ?e; (case k => kernel_rfl); (case i => exact (i_pi_list (i_pv 5))); (case g => exact (fun _ _ _ _ _ => (i_pgl2K (K := K) rfl 0 1 rfl (by show List.Nodup (["_law_one", "_law_paid"] : List Str); decide +kernel)))); (case t => exact (fun _ _ _ _ _ => i_pts_nil)); (case e => exact (fun _ _ _ _ _ => (i_pvl 0)))) rfl)))) (i_pss_one (i_ps_expr (i_pe_bm PySem.F.plainAttrs_list PySem.F.slot_list_append PySem.F.type_list_append mt_append (i_pv 5) (i_pa_cons (i_pe_tup (i_pa_cons (i_pv 8) (i_pa_cons (i_pe_def D_law_liked bd_law_liked (hr.mono (by decide)) (i_pa_cons (i_pv 3) (i_pa_cons (i_pv 8) i_pa_nil))) i_pa_nil))) i_pa_nil)))) i_pss_nil))))
    (i_pss_one (i_ps_ret (i_pe_tup (i_pa_cons (i_pe_callTy call_tuple_of rfl T.z_tuple (by decide +kernel) (i_pa_cons (i_pv 4) i_pa_nil)) (i_pa_cons (i_pe_callTy call_tuple_of rfl T.z_tuple (by decide +kernel) (i_pa_cons (i_pv 5) i_pa_nil)) (i_pa_cons (i_pv 3) i_pa_nil)))))))))), ?_⟩
  have lk : ((natV as).length : Int).toNat = as.length := by rw [Int.toNat_natCast, natV_length]
  refine ⟨_, rfl, _, rfl, u, a, as, m, rfl, hU, by omega, hA, l3, h30, fun tt TL TLs more H7 lT hTa hOff sb7 U7 => ?_⟩
  obtain ⟨y0, v0⟩ := urn_lst hU
  have hA7 := tup_but v0 sb7 hA
  refine ⟨(by show 0 ≤ sizeLine; decide), fun Lr hLr => ⟨(by show 0 ≤ sizeLine; decide), fun Ls hLs => ⟨_, _, rfl, ?_⟩⟩⟩
  have SR := same_newH hLr (.lst [])
  have SS := same_newH hLs (.lst [])
  have nRu : Lr ≠ u := U7.ne hLr
  have nSu : Ls ≠ u := (U7.same SR).ne hLs
  have nRS : Lr ≠ Ls := fun z => by rw [← z, upd_same] at hLs; cases hLs
  have fR : H Lr = none := free_of sb7 hU U7 hLr
  have fS : H Ls = none := free_of (sb7.trans (SR.sb u)) hU (U7.same SR) hLs
  have oR := hTa.off hLr
  have oS := (hTa.same SR).off hLs
  have U8 := (U7.same SR).same SS
  have sb8 := sb7.trans ((SR.trans SS).sb u)
  have hTa8 := hTa.same (SR.trans SS)
  have hA8 := (SR.trans SS).tup hA7
  have eR8 : (upd (upd H7 Lr (.lst [])) Ls (.lst [])) Lr = some (.lst []) := SS _ _ upd_same
  have eS8 : (upd (upd H7 Lr (.lst [])) Ls (.lst [])) Ls = some (.lst []) := upd_same
  generalize upd (upd H7 Lr (.lst [])) Ls (.lst []) = H8 at U8 sb8 hTa8 hA8 eR8 eS8 ⊢
  refine ⟨_, rfl, _, rfl, _, _, rfl, rfl, (by show 4 ≤ sizeLine; decide), fun L hL => ?_⟩
  have SL := same_newH hL (.lst [V.int 3, V.int 5, V.int 7, V.int (mo + 1)])
  refine ⟨_, rfl, u, 4, _, rfl, U8.same SL, by omega, by decide, by decide, fun e H9 e0 e1 sb9 U9 => ?_⟩
  have L9 := sb9 _ _ (U8.ne hL) upd_same
  obtain ⟨wd, ew, w0, w1⟩ := pick4 (a := 3) (b := 5) (c := 7) (mo := mo + 1) (by decide) (by decide) (by decide) (by omega) e0 e1
  refine ⟨L, _, _, _, rfl, rfl, SqL.of L9, ew, u, wd, _, rfl, U9, by omega, w0, by omega, fun n H10 n0 n1 sb10 U10 => ?_⟩
  have sbu : SB u H8 H10 := ((SL.sb u).trans sb9).trans sb10
  obtain ⟨y8, v8⟩ := urn_lst U8
  have hTa10 := hTa8.sb sbu hOff.1 hOff.2.1 hOff.2.2
  have hA10 := tup_but v8 sbu hA8
  have eR10 := sbu _ _ nRu eR8
  have eS10 := sbu _ _ nSu eS8
  have sb10' := sb8.trans sbu
  refine ⟨n, rfl, by omega, by omega, for_range (fun i σ H' => ∃ o6 o7 rs xs, σ = [some (.ref u), some (.ref a), some (.int mo), some (.ref tt), some (.ref Lr), some (.ref Ls), o6, o7, none] ∧ H' Lr = some (.lst xs) ∧ DVs K H' (rs.map rowD) xs ∧ rs.length = i ∧ GoodR as.length rs ∧ TasteAt H' tt TL TLs more ∧ SqT K H' a (natV as) ∧ H' Ls = some (.lst []) ∧ SB u H H' ∧ Urn H' u (m + 122 + 21 * i)) ⟨_, _, [], [], rfl, eR10, DVs.nil, rfl, fun r hr => (nomatch hr), hTa10, hA10, eS10, sb10', U10⟩ ?_ ?_⟩
  · rintro i σ H' hi ⟨o6, o7, rs, xs, rfl, i1, i2, i3, i4, i5, ia, i6, i7, i8⟩
    have hi12 : i < 12 := by omega
    refine ⟨_, rfl, _, rfl, a, _, rfl, .inr ia, u, _, _, rfl, i8, by omega, by rw [natV_length]; omega, by rw [natV_length]; omega, fun pp np H11 lp sp sb11 fp ep U11 => ?_⟩
    rw [lk] at lp
    obtain ⟨yu, vu⟩ := urn_lst i8
    have jT := i5.sb sb11 hOff.1 hOff.2.1 hOff.2.2
    have ja := tup_but vu sb11 ia
    refine ⟨_, rfl, .inl ⟨rfl, _, SqL.of (sb11 _ _ nRu i1)⟩, _, rfl, _, rfl, _, rfl, _, rfl, _, rfl, u, tt, a, pp, TL, TLs, more, as, np, _, rfl, U11, by omega, jT, by omega, hOff, ja, l1, l3, h30, SqT.of ep, sp, by omega, fun b r H12 lr pr sb12 hb U12 => ?_⟩
    obtain ⟨yu2, vu2⟩ := urn_lst U11
    refine ⟨(by show 2 ≤ sizeLine; decide), fun qq hqq => ?_⟩
    have SQ := same_newH hqq (.tup [V.ref pp, V.ref b])
    have i1' := SQ _ _ (sb12 _ _ nRu (sb11 _ _ nRu i1))
    have i2' := DVs.same SQ (DVs.but vu2 sb12 (flat_rows rs) (DVs.but vu sb11 (flat_rows rs) i2))
    have lx := i2.length
    rw [List.length_map] at lx
    refine ⟨Lr, xs, _, rfl, rfl, i1', Nat.lt_of_lt_of_le (by omega : xs.length < 100) (by decide), ?_⟩
    have sbL := SB.upd Lr (upd H12 qq (.tup [V.ref pp, V.ref b])) (.lst (xs ++ [V.ref qq]))
    have rowq : DV K (upd H12 qq (.tup [V.ref pp, V.ref b])) (rowD (np, r)) (.ref qq) := DV.row (SqT.of upd_same) (SQ.tup (tup_but vu2 sb12 (SqT.of ep))) (SQ.tup hb)
    have jT2 := ((jT.sb sb12 hOff.1 hOff.2.1 hOff.2.2).same SQ).sb sbL oR.1 oR.2.1 oR.2.2
    refine ⟨_, _, rs ++ [(np, r)], _, rfl, upd_same, ?_, by rw [List.length_append, i3]; rfl, i4.snoc ⟨lp, lr, sp, Pcs.small pr⟩, jT2, tup_but i1' sbL (SQ.tup (tup_but vu2 sb12 ja)), sbL _ _ (Ne.symm nRS) (SQ _ _ (sb12 _ _ nSu (sb11 _ _ nSu i6))), ?_, ?_⟩
    · rw [List.map_append]
      have := DVs.snoc i2' rowq
      have e2 : rs.map rowD ++ [rowD (np, r)] = (rs ++ [(np, r)]).map rowD := by rw [List.map_append]; rfl
      rw [e2] at this
      have := DVs.but i1' sbL (flat_rows _) this
      rw [← e2] at this
      exact this
    · intro b' o' n' h'
      exact sbL b' o' (fun z => by rw [z, fR] at h'; cases h') (SQ _ _ (sb12 _ _ n' (sb11 _ _ n' (i7 b' o' n' h'))))
    · obtain ⟨g', c', n', e', r'⟩ := U12.same SQ
      exact ⟨g', c', n', sbL _ _ (Ne.symm nRu) e', by omega⟩
  · rintro σ H' ⟨o6, o7, rs, xs, rfl, i1, i2, i3, i4, i5, ia, i6, i7, i8⟩
    have i3' : rs.length ≤ 12 := by omega
    have i8' : Urn H' u (m + 500) := i8.mono (by omega)
    clear i8 i3
    refine ⟨_, rfl, _, rfl, _, _, rfl, rfl, (by show 4 ≤ sizeLine; decide), fun L hL => ?_⟩
    have SL := same_newH hL (.lst [V.int 1, V.int 3, V.int 5, V.int (mo + 1)])
    refine ⟨_, rfl, u, 4, _, rfl, i8'.same SL, by omega, by decide, by decide, fun e H9 e0 e1 sb9 U9 => ?_⟩
    have L9 := sb9 _ _ (i8'.ne hL) upd_same
    obtain ⟨wd, ew, w0, w1⟩ := pick4 (a := 1) (b := 3) (c := 5) (mo := mo + 1) (by decide) (by decide) (by decide) (by omega) e0 e1
    refine ⟨L, _, _, _, rfl, rfl, SqL.of L9, ew, u, wd, _, rfl, U9, by omega, w0, by omega, fun n2 H10 n20 n21 sb10 U10 => ?_⟩
    have sbu : SB u H' H10 := ((SL.sb u).trans sb9).trans sb10
    obtain ⟨yu, vu⟩ := urn_lst i8'
    have jT := i5.sb sbu hOff.1 hOff.2.1 hOff.2.2
    have ja := tup_but vu sbu ia
    have j1 := sbu _ _ nRu i1
    have j2 := DVs.but vu sbu (flat_rows rs) i2
    have j6 := sbu _ _ nSu i6
    have j7 := i7.trans sbu
    refine ⟨n2, rfl, by omega, by omega, for_range (fun i σ H' => ∃ o6 o7 o8 ss zs, σ = [some (.ref u), some (.ref a), some (.int mo), some (.ref tt), some (.ref Lr), some (.ref Ls), o6, o7, o8] ∧ H' Ls = some (.lst zs) ∧ DVs K H' (ss.map sealD) zs ∧ ss.length ≤ i ∧ GoodS as.length ss ∧ TasteAt H' tt TL TLs more ∧ SqT K H' a (natV as) ∧ H' Lr = some (.lst xs) ∧ DVs K H' (rs.map rowD) xs ∧ SB u H H' ∧ Urn H' u (m + 502 + 24 * i)) ⟨_, _, _, [], [], rfl, j6, DVs.nil, Nat.le_refl _, fun r hr => (nomatch hr), jT, ja, j1, j2, j7, U10⟩ ?_ ?_⟩
    · rintro i σ H2 hi ⟨w6, w7, w8, ss, zs, rfl, a1, a2, a3, a4, a5, aa, a6, a7, a8, a9⟩
      have hi12 : i < 13 := by omega
      let I2 : Hp → Prop := fun Hx => Hx Ls = some (.lst zs) ∧ DVs K Hx (ss.map sealD) zs ∧ TasteAt Hx tt TL TLs more ∧ SqT K Hx a (natV as) ∧ Hx Lr = some (.lst xs) ∧ DVs K Hx (rs.map rowD) xs ∧ SB u H Hx
      have i2sb : ∀ {Ha Hb : Hp} {m' : Nat}, I2 Ha → Urn Ha u m' → SB u Ha Hb → I2 Hb := by
        rintro Ha Hb m' ⟨b1, b2, b3, ba, b4, b5, b6⟩ Ux sx
        obtain ⟨yx, vx⟩ := urn_lst Ux
        exact ⟨sx _ _ nSu b1, DVs.but vx sx (flat_seals ss) b2, b3.sb sx hOff.1 hOff.2.1 hOff.2.2, tup_but vx sx ba, sx _ _ nRu b4, DVs.but vx sx (flat_rows rs) b5, b6.trans sx⟩
      have i2same : ∀ {Ha Hb : Hp}, I2 Ha → Same Ha Hb → I2 Hb := by
        rintro Ha Hb ⟨b1, b2, b3, ba, b4, b5, b6⟩ sx
        exact ⟨sx _ _ b1, DVs.same sx b2, b3.same sx, sx.tup ba, sx _ _ b4, DVs.same sx b5, b6.trans (sx.sb u)⟩
      refine ⟨_, rfl, _, rfl, u, a, as, _, rfl, a9, by omega, aa, l1, l3, h30, fun b r H10 hrl hrs sb10 hb10 U10 => ?_⟩
      have I10 : I2 H10 := i2sb ⟨a1, a2, a5, aa, a6, a7, a8⟩ a9 sb10
      have U10' : Urn H10 u (m + 502 + 24 * (i + 1)) := U10.mono (by omega)
      have rne : r ≠ [] := fun z => by rw [z] at hrl; simp at hrl; omega
      refine ⟨_, rfl, b, r, rfl, hb10, rne, fun mx _ _ => ⟨_, _, rfl, rfl, _, rfl, ?_⟩⟩
      have done : ∀ {Hx : Hp} {oo : Option V}, Same H10 Hx → ∃ o6 o7 o8 ss zs, [some (V.ref u), some (V.ref a), some (V.int mo), some (V.ref tt), some (V.ref Lr), some (V.ref Ls), some (V.int (0 + (i : Int))), w7, some (V.ref b)] = [some (V.ref u), some (V.ref a), some (V.int mo), some (V.ref tt), some (V.ref Lr), some (V.ref Ls), o6, o7, o8] ∧ Hx Ls = some (.lst zs) ∧ DVs K Hx (ss.map sealD) zs ∧ ss.length ≤ i + 1 ∧ GoodS as.length ss ∧ TasteAt Hx tt TL TLs more ∧ SqT K Hx a (natV as) ∧ Hx Lr = some (.lst xs) ∧ DVs K Hx (rs.map rowD) xs ∧ SB u H Hx ∧ Urn Hx u (m + 502 + 24 * (i + 1)) := by
        intro Hx oo sx
        obtain ⟨b1, b2, b3, ba, b4, b5, b6⟩ := i2same I10 sx
        exact ⟨_, _, _, ss, zs, rfl, b1, b2, by omega, a4, b3, ba, b4, b5, b6, U10'.same sx⟩
      refine ite2 (fun _ => ?_) (fun _ => iteF (done (oo := none) (Same.refl _)))
      obtain ⟨b1, b2, b3, ba, b4, b5, b6⟩ := id I10
      have lz := b2.length
      rw [List.length_map] at lz
      refine ⟨_, rfl, _, rfl, Ls, rfl, ⟨zs, SqL.of b1⟩, comp_firsts (SqL.of b1) b2 (by omega) fun ws σ2 H11 s11 hW pw hpw => ?_⟩
      have SW := same_newH hpw (.lst ws)
      refine ⟨tI r, (ss.map (·.1)).map tI, pw, ws, DV.tI ((s11.trans SW).tup hb10), rfl, .inl (SqL.of upd_same), DVs.same SW hW, tI_can r, rows_canAll _, by rw [tI_depth]; decide, _, rfl, ?_⟩
      refine ite2 (fun _ => ?_) (fun _ => done (oo := none) (s11.trans SW))
      have sW := s11.trans SW
      refine ⟨_, rfl, .inl ⟨rfl, _, SqL.of (sW _ _ b1)⟩, _, rfl, _, rfl, _, rfl, tt, b, TL, TLs, more, r, rfl, b3.same sW, by omega, sW.tup hb10, rne, hrs, fun co H14 c0 c1 s14 => ?_⟩
      refine ⟨(by show 2 ≤ sizeLine; decide), fun qq hqq => ?_⟩
      have SQ := same_newH hqq (.tup [V.ref b, V.int co])
      have sA := (sW.trans s14).trans SQ
      obtain ⟨c1', c2', c3', ca', c4', c5', c6'⟩ := i2same I10 sA
      refine ⟨Ls, zs, _, rfl, rfl, c1', Nat.lt_of_lt_of_le (by omega : zs.length < 100) (by decide), ?_⟩
      have sbL := SB.upd Ls (upd H14 qq (.tup [V.ref b, V.int co])) (.lst (zs ++ [V.ref qq]))
      have sq : DV K (upd H14 qq (.tup [V.ref b, V.int co])) (sealD (r, co)) (.ref qq) := DV.seal (SqT.of upd_same) (sA.tup hb10)
      refine ⟨_, _, _, ss ++ [(r, co)], _, rfl, upd_same, ?_, by rw [List.length_append]; exact Nat.succ_le_succ a3, a4.snoc ⟨hrl, Pcs.small hrs, c0, by show co < 2 ^ 80; omega⟩, c3'.sb sbL oS.1 oS.2.1 oS.2.2, tup_but c1' sbL ca', sbL _ _ nRS c4', DVs.but c1' sbL (flat_rows rs) c5', ?_, ?_⟩
      · have := DVs.snoc c2' sq
        have e2 : ss.map sealD ++ [sealD (r, co)] = (ss ++ [(r, co)]).map sealD := by rw [List.map_append]; rfl
        rw [e2] at this
        exact DVs.but c1' sbL (flat_seals _) this
      · intro b' o' n' h'
        exact sbL b' o' (fun z => by rw [z, fS] at h'; cases h') (c6' b' o' n' h')
      · obtain ⟨g', c', n', e', r'⟩ := U10'.same sA
        exact ⟨g', c', n', sbL _ _ (Ne.symm nSu) e', r'⟩
    · rintro σ H2 ⟨o6, o7, o8, ss, zs, rfl, a1, a2, a3, a4, a5, aa, a6, a7, a8, a9⟩
      refine ⟨_, rfl, Lr, xs, rfl, .inl ⟨SqL.of a6, fun t1 ht1 => ?_⟩⟩
      have S1 := same_newH ht1 (.tup xs)
      refine ⟨_, rfl, Ls, zs, rfl, .inl ⟨SqL.of (S1 _ _ a1), fun t2 ht2 => ?_⟩⟩
      have S2 := same_newH ht2 (.tup zs)
      refine ⟨_, rfl, (by show 3 ≤ sizeLine; decide), fun t3 ht3 => ?_⟩
      have S3 := same_newH ht3 (.tup [V.ref t1, V.ref t2, V.ref tt])
      have S13 := (S1.trans S2).trans S3
      exact q t3 _ _ _ rs ss _ (by assumption) a4 i3' (by omega) (a8.trans (S13.sb u)) (SqT.of upd_same) (DV.tup (SqT.of (S3 _ _ (S2 _ _ upd_same))) (DVs.same S13 a7)) (DV.tup (SqT.of (S3 _ _ upd_same)) (DVs.same S13 a2)) ((a9.same S13).mono (by omega))

end
end Mine

set_option Elab.async false
set_option linter.all false
set_option maxRecDepth 100000
set_option maxHeartbeats 4000000
namespace Mine
open PySem PySem.Spec PyProof.Rows L2
section
variable {P : Program} {w : World} {K : PySem.W.Frag} {mg : Str → Option Value} {base : Heap}
def rowsD (rs : List (List Int × List Int)) : PyData := .tuple (rs.map rowD)
def sealsD (ss : List (List Int × Int)) : PyData := .tuple (ss.map sealD)
theorem rowsD_shaped (rs : List (List Int × List Int)) : SeqAt.shaped (rowsD rs) = true := by
  have h1 : ∀ l : List (List Int × List Int), PyData.canLayAll0 (l.map rowD) = true ∧ PyData.depthAll (l.map rowD) ≤ 2 := fun l => by
    induction l with
    | nil => simp [PyData.canLayAll0, PyData.depthAll]
    | cons x r ih =>
      have d1 := tI_depth x.1
      have d2 := tI_depth x.2
      simp only [List.map_cons, PyData.canLayAll0, PyData.depthAll, rowD, PyData.canLay0, PyData.depth, tI_can, ih.1, Bool.and_true, true_and, d1, d2]
      have := ih.2
      omega
  have := h1 rs
  simp only [SeqAt.shaped, rowsD, PyData.canLay0, PyData.depth, this.1, Bool.true_and, decide_eq_true_eq]
  omega
theorem sealsD_shaped (rs : List (List Int × Int)) : SeqAt.shaped (sealsD rs) = true := by
  have h1 : ∀ l : List (List Int × Int), PyData.canLayAll0 (l.map sealD) = true ∧ PyData.depthAll (l.map sealD) ≤ 2 := fun l => by
    induction l with
    | nil => simp [PyData.canLayAll0, PyData.depthAll]
    | cons x r ih =>
      have d1 := tI_depth x.1
      simp only [List.map_cons, PyData.canLayAll0, PyData.depthAll, sealD, PyData.canLay0, PyData.depth, tI_can, ih.1, Bool.and_true, true_and, d1]
      have := ih.2
      omega
  have := h1 rs
  simp only [SeqAt.shaped, sealsD, PyData.canLay0, PyData.depth, this.1, Bool.true_and, decide_eq_true_eq]
  omega
theorem eqv_nilR {rs : List (List Int × List Int)} (h : (!PyData.eqv (rowsD rs) (.tuple [])) = true) : rs ≠ [] := by
  intro z; subst z; simp [rowsD, PyData.eqv, PyData.eqvAll] at h
theorem eqv_nilS {rs : List (List Int × Int)} (h : (!PyData.eqv (sealsD rs) (.tuple [])) = true) : rs ≠ [] := by
  intro z; subst z; simp [sealsD, PyData.eqv, PyData.eqvAll] at h
def spAny (K : PySem.W.Frag) : Sp := fun vs H Q _ => ∃ (u : Addr) (mo : Int) (m : Nat), vs = [.ref u, .int mo] ∧ Urn H u m ∧ m + 3000 ≤ 1000000 ∧ 6 ≤ mo ∧ mo ≤ 12 ∧
  ∀ (p : Addr) (x y : V) (k : Int) (rs : List (List Int × List Int)) (ss : List (List Int × Int)) (H' : Hp), 1 ≤ k → k ≤ 3 → GoodR k.toNat rs → GoodS2 k.toNat ss → rs.length ≤ 12 → ss.length ≤ 12 → SB u H H' → SqT K H' p [x, y, .int k] → DV K H' (rowsD rs) x → DV K H' (sealsD ss) y → Urn H' u (m + 3000) → Q (.ref p) H'
theorem flat_rowsD (rs : List (List Int × List Int)) : flatD (rowsD rs) = true := by unfold rowsD; rw [flatD]; exact flat_rows rs
theorem flat_sealsD (rs : List (List Int × Int)) : flatD (sealsD rs) = true := by unfold sealsD; rw [flatD]; exact flat_seals rs
theorem take_mem {α : Type} {l : List α} {i : Nat} {x y : α} (h : x ∈ l.take i ++ [y] ++ l.drop (i + 1)) : x ∈ l ∨ x = y := by
  rcases List.mem_append.mp h with z | z
  · rcases List.mem_append.mp z with z | z
    · exact .inl (List.mem_of_mem_take z)
    · exact .inr (List.mem_singleton.mp z)
  · exact .inl (List.mem_of_mem_drop z)
theorem put_len {α : Type} {l : List α} {i : Nat} {y : α} (h : i < l.length) : (l.take i ++ [y] ++ l.drop (i + 1)).length = l.length := by
  simp only [List.length_append, List.length_take, List.length_drop, List.length_cons, List.length_nil]; omega
theorem dvs_put {H : Hp} {ds : List PyData} {d : PyData} {xs : List V} {x : V} {g : Int} (h : DVs K H ds xs) (hd : DV K H d x) (g0 : 0 ≤ g) : DVs K H (ds.take g.toNat ++ [d] ++ ds.drop (g.toNat + 1)) ((cutV xs none (some g) ++ [x]) ++ cutV xs (some (g + 1)) none) := by
  rw [cut_take g0, cut_drop (by omega), show (g + 1).toNat = g.toNat + 1 by omega]
  exact DVs.append (DVs.snoc (DVs.take _ h) hd) (DVs.drop _ h)
theorem dn_any_rows (T : Txt K mg) : Dn P w K mg base 4 "_law_any_rows" sLawAnyRows ["_law_urn_here", "_law_most"] (spAny K) := by
  refine Dn.of T.f_law_any_rows sc_law_any_rows (fun vs H Q E h => ?_) (fun f cdv A outer s H vs Q E hr h => ?_)
  · obtain ⟨u, mo, m, rfl, _⟩ := h; rfl
  obtain ⟨u, mo, m, rfl, hU, hm, m0, m1, q⟩ := h
  have D_law_draw := dn_draw (P := P) (w := w) (base := base) T
  have D_law_amounts := dn_amounts (P := P) (w := w) (base := base) T
  have D_law_history := dn_history (P := P) (w := w) (base := base) T
  have D_law_meant := dn_meant (P := P) (w := w) (base := base) T
  have D_law_bundle := dn_bundle (P := P) (w := w) (base := base) T
  refine ⟨_, IPSs.get (i_pss_cons (i_ps_set (i := 2) sc_law_any_rows.nd rfl (Or.inl rfl) (i_pe_def D_law_amounts bd_law_amounts (hr.mono (by decide)) (i_pa_cons (i_pv 0) i_pa_nil)))
    (i_pss_cons (i_ps_set (i := 3) sc_law_any_rows.nd rfl (Or.inl rfl) (i_pe_def D_law_draw bd_law_draw (hr.mono (by decide)) (i_pa_cons (i_pv 0) (i_pa_cons i_pe_int i_pa_nil))))
    (i_pss_cons (i_ps_if (i_pt_cmpR op_eq (i_pv 3) i_pe_int (nomark _)) (i_pss_cons (i_ps_asg (i_pe_def D_law_history bd_law_history (hr.mono (by decide)) (i_pa_cons (i_pv 0) (i_pa_cons (i_pe_callB call_len_seq rfl T.z_len boot_len (i_pa_cons (i_pv 2) i_pa_nil)) (i_pa_cons (i_pv 1) i_pa_nil)))) (i_pg_tup rfl (i_pgs_cons (i_pg_name (i := 4) sc_law_any_rows.nd rfl (Or.inl rfl)) (i_pgs_cons (i_pg_name (i := 5) sc_law_any_rows.nd rfl (Or.inl rfl)) i_pgs_nil))))
    (i_pss_one (i_ps_ret (i_pe_tup (i_pa_cons (i_pv 4) (i_pa_cons (i_pv 5) (i_pa_cons (i_pe_callB call_len_seq rfl T.z_len boot_len (i_pa_cons (i_pv 2) i_pa_nil)) i_pa_nil))))))) i_pss_nil)
    (i_pss_cons (i_ps_asg (i_pe_def D_law_meant bd_law_meant (hr.mono (by decide)) (i_pa_cons (i_pv 0) (i_pa_cons (i_pv 2) (i_pa_cons (i_pv 1) i_pa_nil)))) (i_pg_tup rfl (i_pgs_cons (i_pg_name (i := 4) sc_law_any_rows.nd rfl (Or.inl rfl)) (i_pgs_cons (i_pg_name (i := 5) sc_law_any_rows.nd rfl (Or.inl rfl)) (i_pgs_cons (i_pg_name (i := 6) sc_law_any_rows.nd rfl (Or.inl rfl)) i_pgs_nil)))))
    (i_pss_cons (i_ps_if (IPW.pt (i_pw_and (i_pt_cmpR op_eq (i_pv 3) i_pe_int (nomark _)) (i_pw_and1 (i_pt_cmpR (op_neD hr.units) (i_pv 4) (i_pe_tup i_pa_nil) (nomark _))))) (i_pss_cons (i_ps_set (i := 7) sc_law_any_rows.nd rfl (Or.inl rfl) (i_pe_def D_law_draw bd_law_draw (hr.mono (by decide)) (i_pa_cons (i_pv 0) (i_pa_cons (i_pe_callB call_len_seq rfl T.z_len boot_len (i_pa_cons (i_pv 4) i_pa_nil)) i_pa_nil))))
    (i_pss_cons (i_ps_set (i := 8) sc_law_any_rows.nd rfl (Or.inl rfl) (i_pe_tup (i_pa_cons (i_pe_ix ix_tup (i_pe_ix ix_tup (i_pv 4) (i_pv 7) (fun _ _ => rfl)) i_pe_int (fun _ _ => rfl)) (i_pa_cons (i_pe_def D_law_bundle bd_law_bundle (hr.mono (by decide)) (i_pa_cons (i_pv 0) (i_pa_cons (i_pv 2) i_pa_nil))) i_pa_nil))))
    (i_pss_one (i_ps_set (i := 4) sc_law_any_rows.nd rfl (Or.inl rfl) (i_pe_op op_catTT (i_pe_op op_catTT (i_pe_slice sl_tup (i_pv 4) i_po_none (i_po_some (i_pv 7))) (i_pe_tup (i_pa_cons (i_pv 8) i_pa_nil))) (i_pe_slice sl_tup (i_pv 4) (i_po_some (i_pe_op op_add (i_pv 7) i_pe_int)) i_po_none)))))) i_pss_nil)
    (i_pss_cons (i_ps_if (IPW.pt (i_pw_and (i_pt_cmpR op_eq (i_pv 3) i_pe_int (nomark _)) (i_pw_and1 (i_pt_cmpR (op_neD hr.units) (i_pv 5) (i_pe_tup i_pa_nil) (nomark _))))) (i_pss_cons (i_ps_set (i := 7) sc_law_any_rows.nd rfl (Or.inl rfl) (i_pe_def D_law_draw bd_law_draw (hr.mono (by decide)) (i_pa_cons (i_pv 0) (i_pa_cons (i_pe_callB call_len_seq rfl T.z_len boot_len (i_pa_cons (i_pv 5) i_pa_nil)) i_pa_nil))))
    (i_pss_cons (i_ps_set (i := 9) sc_law_any_rows.nd rfl (Or.inl rfl) (i_pe_callB (call_max2 rfl) rfl T.z_max boot_max (i_pa_cons i_pe_int (i_pa_cons (i_pe_op op_sub (i_pe_op op_add (i_pe_ix ix_tup (i_pe_ix ix_tup (i_pv 5) (i_pv 7) (fun _ _ => rfl)) i_pe_int (fun _ _ => rfl)) (i_pe_def D_law_draw bd_law_draw (hr.mono (by decide)) (i_pa_cons (i_pv 0) (i_pa_cons i_pe_int i_pa_nil)))) i_pe_int) i_pa_nil))))
    (i_pss_cons (i_ps_set (i := 8) sc_law_any_rows.nd rfl (Or.inl rfl) (i_pe_tup (i_pa_cons (i_pe_ix ix_tup (i_pe_ix ix_tup (i_pv 5) (i_pv 7) (fun _ _ => rfl)) i_pe_int (fun _ _ => rfl)) (i_pa_cons (i_pv 9) i_pa_nil))))
    (i_pss_one (i_ps_set (i := 5) sc_law_any_rows.nd rfl (Or.inl rfl) (i_pe_op op_catTT (i_pe_op op_catTT (i_pe_slice sl_tup (i_pv 5) i_po_none (i_po_some (i_pv 7))) (i_pe_tup (i_pa_cons (i_pv 8) i_pa_nil))) (i_pe_slice sl_tup (i_pv 5) (i_po_some (i_pe_op op_add (i_pv 7) i_pe_int)) i_po_none))))))) i_pss_nil)
    (i_pss_one (i_ps_ret (i_pe_tup (i_pa_cons (i_pv 4) (i_pa_cons (i_pv 5) (i_pa_cons (i_pe_callB call_len_seq rfl T.z_len boot_len (i_pa_cons (i_pv 2) i_pa_nil)) i_pa_nil)))))))))))), ?_⟩
  refine ⟨_, rfl, u, m, rfl, hU, by omega, fun a as H1 l1 l3 h4 s1 fa ea U1 => ?_⟩
  have h30 : ∀ a ∈ as, a ≤ 30 := fun a ha => by have := (h4 a ha).2; omega
  have ln : ((natV as).length : Int).toNat = as.length := by rw [Int.toNat_natCast, natV_length]
  refine ⟨_, rfl, u, 4, _, rfl, U1, by omega, by decide, by decide, fun d H2 d0 d1 s2 U2 => ?_⟩
  have ea2 := s2 _ _ (U1.neT ea) ea
  refine ⟨_, rfl, rfl, _, rfl, ?_⟩
  refine ite2 (fun _ => ?_) (fun _ => ?_)
  · refine ⟨_, rfl, _, rfl, a, _, rfl, .inr (SqT.of ea2), _, rfl, u, _, mo, _, rfl, U2, by omega, by rw [natV_length]; omega, by rw [natV_length]; omega, m0, m1, fun p rs ss H3 gr gs lr ls s3 dv U3 => ?_⟩
    rw [ln] at gr gs
    obtain ⟨p', xs, e, hp, hd⟩ := dv_tup dv
    cases e
    obtain ⟨x, t1, rfl, dx, hd⟩ := dvs_cons hd
    obtain ⟨y, t2, rfl, dy, hd⟩ := dvs_cons hd
    rw [dvs_nil hd] at hp
    refine ⟨p, _, rfl, hp, rfl, _, _, rfl, _, _, rfl, rfl, ?_⟩
    have ea3 := s3 _ _ (U2.neT ea2) ea2
    refine ⟨_, rfl, _, rfl, _, rfl, a, _, rfl, .inr (SqT.of ea3), (by show 3 ≤ sizeLine; decide), fun t ht => ?_⟩
    have S := same_newH ht (.tup [x, y, V.int ((natV as).length : Int)])
    exact q t x y _ rs ss _ (by rw [natV_length]; omega) (by rw [natV_length]; omega) (by rw [ln]; exact gr) (by rw [ln]; exact gs.up) lr ls (((s1.trans s2).trans s3).trans (S.sb u)) (SqT.of upd_same) (DV.same S dx) (DV.same S dy) ((U3.same S).mono (by omega))
  · refine ⟨_, rfl, _, rfl, _, rfl, u, a, as, mo, _, rfl, U2, by omega, SqT.of ea2, l1, l3, h30, m0, m1, fun p x y z rs ss H3 gr gs lr ls s3 hp dx dy U3 => ?_⟩
    have ea3 := s3 _ _ (U2.neT ea2) ea2
    have sA := (s1.trans s2).trans s3
    refine ⟨p, _, rfl, hp, rfl, _, _, rfl, _, _, rfl, _, _, rfl, rfl, ?_⟩
    have dx' : DV K H3 (rowsD rs) x := dx
    have dy' : DV K H3 (sealsD ss) y := dy
    refine nx_seq (seq_mid (fun σ H' => ∃ x rs o7 o8 o9, σ = [some (.ref u), some (.int mo), some (.ref a), some (.int d), some x, some y, some z, o7, o8, o9] ∧ DV K H' (rowsD rs) x ∧ DV K H' (sealsD ss) y ∧ GoodR as.length rs ∧ rs.length ≤ 12 ∧ H' a = some (.tup (natV as)) ∧ SB u H H' ∧ Urn H' u (m + 2100)) ?_ ?_)
    · clear dx dy dx' lr gr
      rintro σ' H4 ⟨x, rs, o7, o8, o9, rfl, dx, dy, gr, lr, ea4, sb4, U4⟩
      refine seq_mid (fun σ H' => ∃ y ss o7 o8 o9, σ = [some (.ref u), some (.int mo), some (.ref a), some (.int d), some x, some y, some z, o7, o8, o9] ∧ DV K H' (rowsD rs) x ∧ DV K H' (sealsD ss) y ∧ GoodS2 as.length ss ∧ ss.length ≤ 12 ∧ H' a = some (.tup (natV as)) ∧ SB u H H' ∧ Urn H' u (m + 2200)) ?_ ?_
      · rintro σ' H5 ⟨y, ss, o7, o8, o9, rfl, dx, dy, gs, ls, ea5, sb5, U5⟩
        refine ⟨_, rfl, _, rfl, _, rfl, a, _, rfl, .inr (SqT.of ea5), (by show 3 ≤ sizeLine; decide), fun t ht => ?_⟩
        have S := same_newH ht (.tup [x, y, V.int ((natV as).length : Int)])
        exact q t x y _ rs ss _ (by rw [natV_length]; omega) (by rw [natV_length]; omega) (by rw [ln]; exact gr) (by rw [ln]; exact gs) lr ls (sb5.trans (S.sb u)) (SqT.of upd_same) (DV.same S dx) (DV.same S dy) ((U5.same S).mono (by omega))
      · intro N hN
        have keep : ∀ {Hx : Hp}, Same H4 Hx → N [some (.ref u), some (.int mo), some (.ref a), some (.int d), some x, some y, some z, o7, o8, o9] Hx := fun {Hx} sx => hN _ _ ⟨y, ss, o7, o8, o9, rfl, DV.same sx dx, DV.same sx dy, gs.up, ls, sx _ _ ea4, sb4.trans (sx.sb u), (U4.same sx).mono (by omega)⟩
        refine ⟨_, rfl, rfl, _, rfl, ?_⟩
        refine ite2 (fun _ => ?_) (fun _ => iteF (keep (Same.refl _)))
        refine ⟨_, rfl, (by show 0 ≤ sizeLine; decide), fun em hem => ?_⟩
        have S0 := same_newH hem (.tup [])
        refine ⟨sealsD ss, .tuple [], DV.same S0 dy, DV.tup (SqT.of upd_same) DVs.nil, sealsD_shaped ss, by decide, _, rfl, ?_⟩
        refine ite2 (fun c => ?_) (fun _ => keep S0)
        have sne := eqv_nilS c
        obtain ⟨py, ys, rfl, hy, dys⟩ := dv_tup (DV.same S0 dy)
        have ly := dys.length
        rw [List.length_map] at ly
        have spos : 0 < ss.length := List.length_pos_iff.mpr sne
        refine ⟨_, rfl, _, rfl, py, ys, rfl, .inr hy, u, _, _, rfl, U4.same S0, by omega, by omega, by omega, fun g H5 g0 g1 sb5 U5 => ?_⟩
        obtain ⟨yu, vu⟩ := urn_lst (U4.same S0)
        have hy5 := SqT.but vu sb5 hy
        have dys5 := DVs.but vu sb5 (flat_seals ss) dys
        have dx5 := DV.but vu sb5 (flat_rowsD rs) (DV.same S0 dx)
        have eg : ((g.toNat : Nat) : Int) = g := by omega
        obtain ⟨v, hv⟩ : ∃ v, ys[g.toNat]? = some v := ⟨_, List.getElem?_eq_getElem (by omega)⟩
        obtain ⟨dd, hdd, dv⟩ := dys5.get hv
        obtain ⟨sl, hsl, rfl⟩ := get_map hdd
        obtain ⟨qs, bs, rfl, hq1, hq2⟩ := dv_seal dv
        have gsl := gs sl (List.mem_of_getElem? hsl)
        have hat : atI ys g = some (.ref qs) := by rw [← eg]; exact atI_nat hv
        refine ⟨_, rfl, _, rfl, py, ys, g, _, rfl, rfl, hy5, hat, qs, _, 1, _, rfl, rfl, hq1, rfl, ?_⟩
        refine ⟨_, rfl, u, 21, _, rfl, U5, by omega, by decide, by decide, fun e H6 e0 e1 sb6 U6 => ⟨_, _, rfl, rfl, _, _, rfl, rfl, _, _, rfl, ?_⟩⟩
        obtain ⟨yu6, vu6⟩ := urn_lst U5
        have hy6 := SqT.but vu6 sb6 hy5
        have dys6 := DVs.but vu6 sb6 (flat_seals ss) dys5
        have dx6 := DV.but vu6 sb6 (flat_rowsD rs) dx5
        have hq16 := SqT.but vu6 sb6 hq1
        have hq26 := SqT.but vu6 sb6 hq2
        generalize hco : (if sl.2 + e - 10 > 0 then sl.2 + e - 10 else 0) = co
        have co0 : 0 ≤ co ∧ co < 2 ^ 90 := by
          have := gsl.2.2
          rw [← hco]; split <;> omega
        refine ⟨_, rfl, _, rfl, py, ys, g, _, rfl, rfl, hy6, hat, qs, _, 0, _, rfl, rfl, hq16, rfl, _, rfl, (by show 2 ≤ sizeLine; decide), fun qq hqq => ?_⟩
        have SQ := same_newH hqq (.tup [V.ref bs, V.int co])
        have sealq : DV K (upd H6 qq (.tup [V.ref bs, V.int co])) (sealD (sl.1, co)) (.ref qq) := DV.seal (SqT.of upd_same) (SQ.tup hq26)
        refine ⟨_, rfl, _, rfl, _, rfl, py, ys, rfl, SQ.tup hy6, ?_, fun p1 hp1 => ?_⟩
        · intro hc
          have := hc.2
          rw [sIx_some g0] at this
          omega
        have S1 := same_newH hp1 (.tup (cutV ys none (some g)))
        refine ⟨_, rfl, (by show 1 ≤ sizeLine; decide), fun p2 hp2 => ?_⟩
        have S2 := same_newH hp2 (.tup [V.ref qq])
        have c1 : (cutV ys none (some g)).length ≤ 12 := Nat.le_trans (cutV_length _ _ _) (by omega)
        refine ⟨p1, p2, _, _, rfl, rfl, SqT.of (S2 _ _ upd_same), SqT.of upd_same, Nat.le_trans (Nat.add_le_add_right c1 _) (by show 12 + 1 ≤ sizeLine; decide), fun p3 H7 S3 t3 => ?_⟩
        have S13 := (S1.trans S2).trans S3
        refine ⟨_, rfl, _, rfl, _, _, rfl, rfl, _, rfl, py, ys, rfl, S13.tup (SQ.tup hy6), ?_, fun p4 hp4 => ?_⟩
        · intro hc
          have := hc.1
          rw [sIx_some (by omega)] at this
          omega
        have S4 := same_newH hp4 (.tup (cutV ys (some (g + 1)) none))
        have c2 : (cutV ys (some (g + 1)) none).length ≤ 12 := Nat.le_trans (cutV_length _ _ _) (by omega)
        refine ⟨p3, p4, _, _, rfl, rfl, S4.tup t3, SqT.of upd_same, Nat.le_trans (Nat.add_le_add (Nat.le_trans (by rw [List.length_append]; exact Nat.add_le_add_right c1 _) (Nat.le_refl (12 + 1))) c2) (by show 12 + 1 + 12 ≤ sizeLine; decide), fun p5 H8 S5 t5 => ?_⟩
        have S15 := (S13.trans S4).trans S5
        have sA5 := SQ.trans S15
        have g1' : g.toNat < ss.length := by omega
        have dnew := dvs_put (DVs.same S15 (DVs.same SQ dys6)) (DV.same S15 sealq) g0
        have em : (ss.map sealD).take g.toNat ++ [sealD (sl.1, co)] ++ (ss.map sealD).drop (g.toNat + 1) = (ss.take g.toNat ++ [(sl.1, co)] ++ ss.drop (g.toNat + 1)).map sealD := by rw [List.map_append, List.map_append, List.map_take, List.map_drop]; rfl
        rw [em] at dnew
        have sbF : SB u H4 H8 := (((S0.sb u).trans sb5).trans sb6).trans (sA5.sb u)
        refine hN _ _ ⟨_, _, _, _, _, rfl, DV.same sA5 dx6, DV.tup t5 dnew, ?_, by rw [put_len g1']; omega, ?_, sb4.trans sbF, (U6.same sA5).mono (by omega)⟩
        · intro r hr
          rcases take_mem hr with z | z
          · exact gs.up r z
          · rw [z]; exact ⟨gsl.1, gsl.2.1, co0⟩
        · exact sbF _ _ (U4.neT ea4) ea4
    · intro N hN
      have keep : ∀ {Hx : Hp}, Same H3 Hx → N [some (.ref u), some (.int mo), some (.ref a), some (.int d), some x, some y, some z, none, none, none] Hx := fun {Hx} sx => hN _ _ ⟨x, rs, _, _, _, rfl, DV.same sx dx', DV.same sx dy', gr, lr, sx _ _ ea3, sA.trans (sx.sb u), (U3.same sx).mono (by omega)⟩
      refine ⟨_, rfl, rfl, _, rfl, ?_⟩
      refine ite2 (fun _ => ?_) (fun _ => iteF (keep (Same.refl _)))
      refine ⟨_, rfl, (by show 0 ≤ sizeLine; decide), fun em hem => ?_⟩
      have S0 := same_newH hem (.tup [])
      refine ⟨rowsD rs, .tuple [], DV.same S0 dx', DV.tup (SqT.of upd_same) DVs.nil, rowsD_shaped rs, by decide, _, rfl, ?_⟩
      refine ite2 (fun c => ?_) (fun _ => keep S0)
      have rne := eqv_nilR c
      obtain ⟨px, xs, rfl, hx, dxs⟩ := dv_tup (DV.same S0 dx')
      have lx := dxs.length
      rw [List.length_map] at lx
      have rpos : 0 < rs.length := List.length_pos_iff.mpr rne
      refine ⟨_, rfl, _, rfl, px, xs, rfl, .inr hx, u, _, _, rfl, U3.same S0, by omega, by omega, by omega, fun g H5 g0 g1 sb5 U5 => ?_⟩
      obtain ⟨yu, vu⟩ := urn_lst (U3.same S0)
      have hx5 := SqT.but vu sb5 hx
      have dxs5 := DVs.but vu sb5 (flat_rows rs) dxs
      have dy5 := DV.but vu sb5 (flat_sealsD ss) (DV.same S0 dy')
      have ea5 := sb5 _ _ ((U3.same S0).neT (S0 _ _ ea3)) (S0 _ _ ea3)
      have eg : ((g.toNat : Nat) : Int) = g := by omega
      obtain ⟨v, hv⟩ : ∃ v, xs[g.toNat]? = some v := ⟨_, List.getElem?_eq_getElem (by omega)⟩
      obtain ⟨dd, hdd, dv⟩ := dxs5.get hv
      obtain ⟨rw', hrw, rfl⟩ := get_map hdd
      obtain ⟨qs, ps, bs, rfl, hq1, hq2, hq3⟩ := dv_row dv
      have grw := gr rw' (List.mem_of_getElem? hrw)
      have hat : atI xs g = some (.ref qs) := by rw [← eg]; exact atI_nat hv
      refine ⟨_, rfl, _, rfl, px, xs, g, _, rfl, rfl, hx5, hat, qs, _, 0, _, rfl, rfl, hq1, rfl, ?_⟩
      refine ⟨_, rfl, _, rfl, u, a, as, _, rfl, U5, by omega, SqT.of ea5, l1, l3, h30, fun b nb H6 lb pb sb6 hb U6 => ⟨(by show 2 ≤ sizeLine; decide), fun qq hqq => ?_⟩⟩
      obtain ⟨yu6, vu6⟩ := urn_lst U5
      have SQ := same_newH hqq (.tup [V.ref ps, V.ref b])
      have hx6 := SQ.tup (SqT.but vu6 sb6 hx5)
      have dxs6 := DVs.same SQ (DVs.but vu6 sb6 (flat_rows rs) dxs5)
      have dy6 := DV.same SQ (DV.but vu6 sb6 (flat_sealsD ss) dy5)
      have rowq : DV K (upd H6 qq (.tup [V.ref ps, V.ref b])) (rowD (rw'.1, nb)) (.ref qq) := DV.row (SqT.of upd_same) (SQ.tup (SqT.but vu6 sb6 hq2)) (SQ.tup hb)
      refine ⟨_, rfl, _, rfl, _, rfl, px, xs, rfl, hx6, ?_, fun p1 hp1 => ?_⟩
      · intro hc
        have := hc.2
        rw [sIx_some g0] at this
        omega
      have S1 := same_newH hp1 (.tup (cutV xs none (some g)))
      refine ⟨_, rfl, (by show 1 ≤ sizeLine; decide), fun p2 hp2 => ?_⟩
      have S2 := same_newH hp2 (.tup [V.ref qq])
      have c1 : (cutV xs none (some g)).length ≤ 12 := Nat.le_trans (cutV_length _ _ _) (by omega)
      refine ⟨p1, p2, _, _, rfl, rfl, SqT.of (S2 _ _ upd_same), SqT.of upd_same, Nat.le_trans (Nat.add_le_add_right c1 _) (by show 12 + 1 ≤ sizeLine; decide), fun p3 H7 S3 t3 => ?_⟩
      have S13 := (S1.trans S2).trans S3
      refine ⟨_, rfl, _, rfl, _, _, rfl, rfl, _, rfl, px, xs, rfl, S13.tup hx6, ?_, fun p4 hp4 => ?_⟩
      · intro hc
        have := hc.1
        rw [sIx_some (by omega)] at this
        omega
      have S4 := same_newH hp4 (.tup (cutV xs (some (g + 1)) none))
      have c2 : (cutV xs (some (g + 1)) none).length ≤ 12 := Nat.le_trans (cutV_length _ _ _) (by omega)
      refine ⟨p3, p4, _, _, rfl, rfl, S4.tup t3, SqT.of upd_same, Nat.le_trans (Nat.add_le_add (Nat.le_trans (by rw [List.length_append]; exact Nat.add_le_add_right c1 _) (Nat.le_refl (12 + 1))) c2) (by show 12 + 1 + 12 ≤ sizeLine; decide), fun p5 H8 S5 t5 => ?_⟩
      have S15 := (S13.trans S4).trans S5
      have g1' : g.toNat < rs.length := by omega
      have dnew := dvs_put (DVs.same S15 dxs6) (DV.same S15 rowq) g0
      have em : (rs.map rowD).take g.toNat ++ [rowD (rw'.1, nb)] ++ (rs.map rowD).drop (g.toNat + 1) = (rs.take g.toNat ++ [(rw'.1, nb)] ++ rs.drop (g.toNat + 1)).map rowD := by rw [List.map_append, List.map_append, List.map_take, List.map_drop]; rfl
      rw [em] at dnew
      have sbF : SB u H3 H8 := (((S0.sb u).trans sb5).trans sb6).trans ((SQ.trans S15).sb u)
      refine hN _ _ ⟨_, _, _, _, _, rfl, DV.tup t5 dnew, DV.same S15 dy6, ?_, by rw [put_len g1']; omega, ?_, sA.trans sbF, ((U6.same SQ).same S15).mono (by omega)⟩
      · intro r hr
        rcases take_mem hr with z | z
        · exact gr r z
        · rw [z]; exact ⟨grw.1, lb, grw.2.2.1, Pcs.small pb⟩
      · exact sbF _ _ (U3.neT ea3) ea3

end
end Mine

set_option Elab.async false
set_option linter.all false
set_option maxRecDepth 100000
set_option maxHeartbeats 4000000
namespace Mine
open PySem PySem.Spec PyProof.Rows L2
section
variable {P : Program} {w : World} {K : PySem.W.Frag} {mg : Str → Option Value} {base : Heap}
/-! ### the told bundles, just so -/
def addB (bs : List (List Int)) (b : List Int) : List (List Int) := if (!(bs.map tI).any (fun y => PyData.eqv y (tI b))) = true then bs ++ [b] else bs
theorem addB_pos {bs : List (List Int)} {b : List Int} (c : (!(bs.map tI).any (fun y => PyData.eqv y (tI b))) = true) : addB bs b = bs ++ [b] := if_pos c
theorem addB_neg {bs : List (List Int)} {b : List Int} (c : ¬ (!(bs.map tI).any (fun y => PyData.eqv y (tI b))) = true) : addB bs b = bs := if_neg c
def toldF (k : Nat) (rs : List (List Int × List Int)) (ss : List (List Int × Int)) : List (List Int) := (ss.map Prod.fst).foldl addB ((rs.map Prod.snd).foldl addB [List.replicate k 0])
def Gb (k n : Nat) (bs : List (List Int)) : Prop := (∀ r ∈ bs, r.length = k ∧ Small r) ∧ bs.length ≤ n
theorem Gb.add {k n : Nat} {bs : List (List Int)} {b : List Int} (h : Gb k n bs) (hb : b.length = k ∧ Small b) : Gb k (n + 1) (addB bs b) := by
  unfold addB
  split
  · refine ⟨fun r hr => ?_, by rw [List.length_append]; exact Nat.succ_le_succ h.2⟩
    rcases List.mem_append.mp hr with z | z
    · exact h.1 r z
    · rw [List.mem_singleton.mp z]; exact hb
  · exact ⟨h.1, Nat.le_succ_of_le h.2⟩
theorem Gb.fold {k : Nat} : ∀ (l : List (List Int)) {n : Nat} {bs : List (List Int)}, Gb k n bs → (∀ b ∈ l, b.length = k ∧ Small b) → Gb k (n + l.length) (l.foldl addB bs)
  | [], n, bs, h, _ => h
  | b :: l, n, bs, h, hl => by
    have := Gb.fold l (h.add (hl b (List.mem_cons_self ..))) fun x hx => hl x (List.mem_cons_of_mem _ hx)
    rw [List.foldl_cons, List.length_cons]
    rwa [show n + 1 + l.length = n + (l.length + 1) by omega] at this
theorem Gb.zero (k : Nat) : Gb k 1 [List.replicate k 0] := ⟨fun r hr => by
    rw [List.mem_singleton.mp hr]
    exact ⟨by rw [List.length_replicate], fun x hx => by rw [(List.mem_replicate.mp hx).2]; exact ⟨by decide, by decide⟩⟩, Nat.le_refl _⟩
theorem Gb.told {k : Nat} {rs : List (List Int × List Int)} {ss : List (List Int × Int)} (gr : GoodR k rs) (gs : GoodS2 k ss) : Gb k (1 + rs.length + ss.length) (toldF k rs ss) := by
  have h1 := Gb.fold (rs.map Prod.snd) (Gb.zero k) fun b hb => by obtain ⟨r, hr, rfl⟩ := List.mem_map.mp hb; exact ⟨(gr r hr).2.1, (gr r hr).2.2.2⟩
  have h2 := Gb.fold (ss.map Prod.fst) h1 fun b hb => by obtain ⟨r, hr, rfl⟩ := List.mem_map.mp hb; exact ⟨(gs r hr).1, (gs r hr).2.1⟩
  rwa [List.length_map, List.length_map] at h2
theorem fold_take {l : List (List Int)} {bs : List (List Int)} {i : Nat} {b : List Int} (h : l[i]? = some b) : (l.take (i + 1)).foldl addB bs = addB ((l.take i).foldl addB bs) b := by rw [take_snoc h, List.foldl_append]; rfl
def spToldX (K : PySem.W.Frag) : Sp := fun vs H Q _ => ∃ (x y : V) (k : Int) (rs : List (List Int × List Int)) (ss : List (List Int × Int)), vs = [x, y, .int k] ∧ DV K H (rowsD rs) x ∧ DV K H (sealsD ss) y ∧ 1 ≤ k ∧ k ≤ 3 ∧ GoodR k.toNat rs ∧ GoodS2 k.toNat ss ∧ rs.length ≤ 13 ∧ ss.length ≤ 13 ∧
  ∀ (p : Addr) (H' : Hp), Same H H' → H p = none → LL K H' p (toldF k.toNat rs ss) → Q (.ref p) H'
theorem dn_toldx (T : Txt K mg) : Dn P w K mg base 1 "_law_told" sLawTold ["_law_rows", "_law_seals", "_law_several"] (spToldX K) := by
  refine Dn.of T.f_law_told sc_law_told (fun vs H Q E h => ?_) (fun f cdv A outer s H vs Q E hr h => ?_)
  · obtain ⟨x, y, k, rs, ss, rfl, _⟩ := h; rfl
  obtain ⟨x, y, k, rs, ss, rfl, dx, dy, k0, k1, gr, gs, lr, ls, q⟩ := h
  refine ⟨_, IPSs.get (i_pss_cons (i_ps_set (i := 3) sc_law_told.nd rfl (Or.inl rfl) (i_pe_lst (i_pa_cons (i_pe_op op_repT (i_pe_tup (i_pa_cons i_pe_int i_pa_nil)) (i_pv 2)) i_pa_nil)))
    (i_pss_cons (i_ps_for PassesOwn.never rfl (i_pi_tup (i_pv 0)) (i_pg_tup rfl (i_pgs_cons (i_pg_name (i := 4) sc_law_told.nd rfl (Or.inl rfl)) (i_pgs_cons (i_pg_name (i := 5) sc_law_told.nd rfl (Or.inl rfl)) i_pgs_nil))) (i_pss_one (i_ps_if (i_pt_cmpR (op_notInD hr.units) (i_pv 5) (i_pv 3) rfl) (i_pss_one (i_ps_expr (i_pe_bm PySem.F.plainAttrs_list PySem.F.slot_list_append PySem.F.type_list_append mt_append (i_pv 3) (i_pa_cons (i_pv 5) i_pa_nil)))) i_pss_nil)))
    (i_pss_cons (i_ps_for PassesOwn.never rfl (i_pi_tup (i_pv 1)) (i_pg_tup rfl (i_pgs_cons (i_pg_name (i := 5) sc_law_told.nd rfl (Or.inl rfl)) (i_pgs_cons (i_pg_name (i := 6) sc_law_told.nd rfl (Or.inl rfl)) i_pgs_nil))) (i_pss_one (i_ps_if (i_pt_cmpR (op_notInD hr.units) (i_pv 5) (i_pv 3) rfl) (i_pss_one (i_ps_expr (i_pe_bm PySem.F.plainAttrs_list PySem.F.slot_list_append PySem.F.type_list_append mt_append (i_pv 3) (i_pa_cons (i_pv 5) i_pa_nil)))) i_pss_nil)))
    (i_pss_one (i_ps_ret (i_pv 3)))))), ?_⟩
  obtain ⟨px, xs, rfl, hx, dxs⟩ := dv_tup dx
  obtain ⟨py, ys, rfl, hy, dys⟩ := dv_tup dy
  have lx := dxs.length
  have ly := dys.length
  rw [List.length_map] at lx ly
  refine ⟨(by show 1 ≤ sizeLine; decide), fun z hz => ⟨_, rfl, z, _, _, rfl, rfl, SqT.of upd_same, by simp, k0, by omega, ?_, fun zz H1 s1 tz => ⟨(by show 1 ≤ sizeLine; decide), fun L hL => ?_⟩⟩⟩
  · refine Nat.le_trans ?_ (by decide : 3 ≤ sizeLine)
    show 1 * k.toNat ≤ 3
    omega
  rw [noughts] at tz
  have S0 := same_newH hz (.tup [V.int 0])
  have SL := same_newH hL (.lst [V.ref zz])
  have s2 := (S0.trans s1).trans SL
  have fL : H L = none := Same.free (S0.trans s1) hL
  have LL2 : LL K (upd H1 L (.lst [V.ref zz])) L [List.replicate k.toNat 0] := ⟨_, upd_same, DVs.cons (DV.tI (SL.tup tz)) DVs.nil⟩
  generalize upd H1 L (.lst [V.ref zz]) = H2 at *
  have G1 : ∀ i, Gb k.toNat (1 + ((rs.map Prod.snd).take i).length) (((rs.map Prod.snd).take i).foldl addB [List.replicate k.toNat 0]) := fun i => Gb.fold _ (Gb.zero _) fun b hb => by obtain ⟨r, hr, rfl⟩ := List.mem_map.mp (List.mem_of_mem_take hb); exact ⟨(gr r hr).2.1, (gr r hr).2.2.2⟩
  refine ⟨_, rfl, px, rfl, ⟨_, s2.tup hx⟩, for_tup (xs := xs) (fun i σ H' => ∃ o4 o5, σ = [some (.ref px), some (.ref py), some (.int k), some (.ref L), o4, o5, none] ∧ LL K H' L (((rs.map Prod.snd).take i).foldl addB [List.replicate k.toNat 0]) ∧ Same H H') ⟨_, _, rfl, LL2, s2⟩ ?_ ?_ ?_⟩
  · rintro i σ H' hi ⟨o4, o5, rfl, i1, i5⟩
    exact i5.tup hx
  · rintro i v σ H' hv ⟨o4, o5, rfl, i1, i5⟩
    have hi : i < xs.length := (List.getElem?_eq_some_iff.mp hv).1
    obtain ⟨dd, hdd, dv⟩ := (DVs.same i5 dxs).get hv
    obtain ⟨r, hr', rfl⟩ := get_map hdd
    obtain ⟨qs, ps, b, rfl, hq1, hq2, hq3⟩ := dv_row dv
    refine ⟨qs, _, rfl, hq1, rfl, _, _, rfl, _, _, rfl, rfl, ?_⟩
    obtain ⟨ws, w1, w2, w3⟩ := i1.len
    have hb' : (rs.map Prod.snd)[i]? = some r.2 := by rw [List.getElem?_map, hr']; rfl
    have lb := (G1 i).2
    rw [List.length_take, List.length_map] at lb
    refine ⟨_, rfl, _, rfl, tI r.2, _, L, ws, DV.tI hq3, rfl, .inl (SqL.of w1), w2, tI_can _, rows_canAll _, by rw [tI_depth]; decide, _, rfl, ?_⟩
    refine ite2 (fun c => ?_) (fun c => ?_)
    · refine ⟨_, rfl, .inl ⟨rfl, _, SqL.of w1⟩, _, rfl, L, ws, _, rfl, rfl, w1, Nat.lt_of_lt_of_le (by omega : ws.length < 100) (by decide), ?_⟩
      have sbL := SB.upd L H' (.lst (ws ++ [V.ref b]))
      refine ⟨_, _, rfl, ⟨_, upd_same, ?_⟩, same_via fL i5 sbL⟩
      rw [fold_take hb', addB_pos c, List.map_append]
      exact DVs.snoc (rows_but w1 sbL w2) (DV.tI (tup_but w1 sbL hq3))
    · refine ⟨_, _, rfl, ?_, i5⟩
      rw [fold_take hb', addB_neg c]
      exact ⟨ws, w1, w2⟩
  · rintro σ H' ⟨o4, o5, rfl, i1, i5⟩
    rw [← lx, show rs.length = (rs.map Prod.snd).length by rw [List.length_map], List.take_length] at i1
    have G2 : ∀ i, Gb k.toNat (1 + rs.length + ((ss.map Prod.fst).take i).length) (((ss.map Prod.fst).take i).foldl addB ((rs.map Prod.snd).foldl addB [List.replicate k.toNat 0])) := fun i => by
      have g1 := G1 (rs.map Prod.snd).length
      rw [List.take_length, List.length_map] at g1
      exact Gb.fold _ g1 fun b hb => by obtain ⟨r, hr, rfl⟩ := List.mem_map.mp (List.mem_of_mem_take hb); exact ⟨(gs r hr).1, (gs r hr).2.1⟩
    refine ⟨_, rfl, py, rfl, ⟨_, i5.tup hy⟩, for_tup (xs := ys) (fun i σ H' => ∃ o4 o5 o6, σ = [some (.ref px), some (.ref py), some (.int k), some (.ref L), o4, o5, o6] ∧ LL K H' L (((ss.map Prod.fst).take i).foldl addB ((rs.map Prod.snd).foldl addB [List.replicate k.toNat 0])) ∧ Same H H') ⟨_, _, _, rfl, i1, i5⟩ ?_ ?_ ?_⟩
    · rintro i σ H' hi ⟨o4, o5, o6, rfl, i1, i5⟩
      exact i5.tup hy
    · rintro i v σ H' hv ⟨o4, o5, o6, rfl, i1, i5⟩
      have hi : i < ys.length := (List.getElem?_eq_some_iff.mp hv).1
      obtain ⟨dd, hdd, dv⟩ := (DVs.same i5 dys).get hv
      obtain ⟨r, hr', rfl⟩ := get_map hdd
      obtain ⟨qs, b, rfl, hq1, hq3⟩ := dv_seal dv
      refine ⟨qs, _, rfl, hq1, rfl, _, _, rfl, _, _, rfl, rfl, ?_⟩
      obtain ⟨ws, w1, w2, w3⟩ := i1.len
      have hb' : (ss.map Prod.fst)[i]? = some r.1 := by rw [List.getElem?_map, hr']; rfl
      have lb := (G2 i).2
      rw [List.length_take, List.length_map] at lb
      refine ⟨_, rfl, _, rfl, tI r.1, _, L, ws, DV.tI hq3, rfl, .inl (SqL.of w1), w2, tI_can _, rows_canAll _, by rw [tI_depth]; decide, _, rfl, ?_⟩
      refine ite2 (fun c => ?_) (fun c => ?_)
      · refine ⟨_, rfl, .inl ⟨rfl, _, SqL.of w1⟩, _, rfl, L, ws, _, rfl, rfl, w1, Nat.lt_of_lt_of_le (by omega : ws.length < 100) (by decide), ?_⟩
        have sbL := SB.upd L H' (.lst (ws ++ [V.ref b]))
        refine ⟨_, _, _, rfl, ⟨_, upd_same, ?_⟩, same_via fL i5 sbL⟩
        rw [fold_take hb', addB_pos c, List.map_append]
        exact DVs.snoc (rows_but w1 sbL w2) (DV.tI (tup_but w1 sbL hq3))
      · refine ⟨_, _, _, rfl, ?_, i5⟩
        rw [fold_take hb', addB_neg c]
        exact ⟨ws, w1, w2⟩
    · rintro σ H' ⟨o4, o5, o6, rfl, i1, i5⟩
      rw [← ly, show ss.length = (ss.map Prod.fst).length by rw [List.length_map], List.take_length] at i1
      exact ⟨_, rfl, q L _ i5 fL i1⟩

end
end Mine

set_option Elab.async false
set_option linter.all false
set_option maxRecDepth 100000
set_option maxHeartbeats 4000000
namespace Mine
open PySem PySem.Spec PyProof.Rows L2
section
variable {P : Program} {w : World} {K : PySem.W.Frag} {mg : Str → Option Value} {base : Heap}
/-! ### what the program tells -/
def tT (bs : List (List Int)) : PyData := .tuple (bs.map tI)
theorem comp_seconds {H : Hp} {t : Addr} {rs : List (List Int × List Int)} {xs : List V} {o1 o2 : Option V} {Q : LK} (h1 : SqT K H t xs) (h2 : DVs K H (rs.map rowD) xs) (hz : xs.length ≤ 1000)
    (hq : ∀ zs σ H', Same H H' → DVs K H' ((rs.map Prod.snd).map tI) zs → Q zs σ H') :
    ∃ W : Nat → List V → Nat → L2.St → Hp → Prop, (∃ m, W 0 [] m [o1, o2] H) ∧ LTurn (Itt K t) (gTup K 2 (gCons (gName 0) (gCons (gName 1) gNil))) tYes (tEmit (tVar 1)) Q W := by
  have lx : rs.length = xs.length := by have := h2.length; rwa [List.length_map] at this
  refine comp_tup (xs := xs) (fun j ys σ H' => ∃ o1 o2, σ = [o1, o2] ∧ DVs K H' (((rs.take j).map Prod.snd).map tI) ys ∧ Same H H') ⟨_, _, rfl, DVs.nil, Same.refl H⟩ ?_ ?_ ?_
  · rintro j ys σ H' hj ⟨o1, o2, rfl, y, s⟩
    exact s.tup h1
  · rintro j x ys σ H' hx ⟨o1, o2, rfl, y, s⟩
    have hj : j < xs.length := (List.getElem?_eq_some_iff.mp hx).1
    obtain ⟨d, hd, dv⟩ := h2.get hx
    obtain ⟨r, hr, rfl⟩ := get_map hd
    obtain ⟨q, p, b, rfl, g1, g2, g3⟩ := dv_row dv
    have ly := y.length
    rw [List.length_map, List.length_map, List.length_take] at ly
    refine ⟨q, _, rfl, s.tup g1, rfl, _, _, rfl, _, _, rfl, rfl, Nat.lt_of_lt_of_le (by omega : ys.length < 2000) (by decide), _, rfl, _, _, rfl, ?_, s⟩
    rw [take_snoc hr, List.map_append, List.map_append]
    exact DVs.snoc y (DV.tI (s.tup g3))
  · rintro ys σ H' ⟨o1, o2, rfl, y, s⟩
    rw [← lx, List.take_length] at y
    exact hq _ _ _ s y
theorem comp_firstsT {H : Hp} {t : Addr} {ss : List (List Int × Int)} {xs : List V} {o1 o2 : Option V} {Q : LK} (h1 : SqT K H t xs) (h2 : DVs K H (ss.map sealD) xs) (hz : xs.length ≤ 1000)
    (hq : ∀ zs σ H', Same H H' → DVs K H' ((ss.map Prod.fst).map tI) zs → Q zs σ H') :
    ∃ W : Nat → List V → Nat → L2.St → Hp → Prop, (∃ m, W 0 [] m [o1, o2] H) ∧ LTurn (Itt K t) (gTup K 2 (gCons (gName 0) (gCons (gName 1) gNil))) tYes (tEmit (tVar 0)) Q W := by
  have lx : ss.length = xs.length := by have := h2.length; rwa [List.length_map] at this
  refine comp_tup (xs := xs) (fun j ys σ H' => ∃ o1 o2, σ = [o1, o2] ∧ DVs K H' (((ss.take j).map Prod.fst).map tI) ys ∧ Same H H') ⟨_, _, rfl, DVs.nil, Same.refl H⟩ ?_ ?_ ?_
  · rintro j ys σ H' hj ⟨o1, o2, rfl, y, s⟩
    exact s.tup h1
  · rintro j x ys σ H' hx ⟨o1, o2, rfl, y, s⟩
    have hj : j < xs.length := (List.getElem?_eq_some_iff.mp hx).1
    obtain ⟨d, hd, dv⟩ := h2.get hx
    obtain ⟨r, hr, rfl⟩ := get_map hd
    obtain ⟨q, b, rfl, g1, g2⟩ := dv_seal dv
    have ly := y.length
    rw [List.length_map, List.length_map, List.length_take] at ly
    refine ⟨q, _, rfl, s.tup g1, rfl, _, _, rfl, _, _, rfl, rfl, Nat.lt_of_lt_of_le (by omega : ys.length < 2000) (by decide), _, rfl, _, _, rfl, ?_, s⟩
    rw [take_snoc hr, List.map_append, List.map_append]
    exact DVs.snoc y (DV.tI (s.tup g2))
  · rintro ys σ H' ⟨o1, o2, rfl, y, s⟩
    rw [← lx, List.take_length] at y
    exact hq _ _ _ s y
def spTB (K : PySem.W.Frag) : Sp := fun vs H Q _ => ∃ (x y : V) (k : Int) (rs : List (List Int × List Int)) (ss : List (List Int × Int)), vs = [x, y, .int k] ∧ DV K H (rowsD rs) x ∧ DV K H (sealsD ss) y ∧ 1 ≤ k ∧ k ≤ 3 ∧ GoodR k.toNat rs ∧ GoodS2 k.toNat ss ∧ rs.length ≤ 13 ∧ ss.length ≤ 13 ∧
  ∀ (p : Addr) (H' : Hp), Same H H' → DV K H' (tT (toldF k.toNat rs ss)) (.ref p) → Q (.ref p) H'
theorem dn_tb (T : Txt K mg) {e : Addr} (U : ∃ f fd, FunD K "told_bundles" sToldBundles f fd e ∧ mg "told_bundles" = some (.ref f)) : DnD P w K mg base 2 "told_bundles" sToldBundles ["rounds", "sealed", "kinds"] (spTB K) e := by
  refine DnD.of U sc_told_bundles (fun vs H Q E h => ?_) (fun f cdv A outer s H vs Q E hr h => ?_)
  · obtain ⟨x, y, k, rs, ss, rfl, _⟩ := h; rfl
  obtain ⟨x, y, k, rs, ss, rfl, dx, dy, k0, k1, gr, gs, lr, ls, q⟩ := h
  have D_together := dn_together (P := P) (w := w) (base := base) T
  refine ⟨_, IPSs.get (i_pss_cons (i_ps_set (i := 3) sc_told_bundles.nd rfl (Or.inl rfl) (i_pe_op op_cat (by refine' i_pe_comp (Nc := ["prices", "bundle"]) (cap := [none, none]) rfl ?i ?k ?g ?t ?e; (case k => kernel_rfl); (case i => exact (i_pi_tup (i_pv 0))); (case g => exact (fun _ _ _ _ _ => (i_pgl2K (K := K) rfl 0 1 rfl (by show List.Nodup (["prices", "bundle"] : List Str); decide +kernel)))); (case t => exact (fun _ _ _ _ _ => i_pts_nil)); (case e => exact (fun _ _ _ _ _ => (i_pvl 1)))) (by refine' i_pe_comp (Nc := ["bundle", "money"]) (cap := [none, none]) rfl ?i ?k ?g ?t ?e; (case k => kernel_rfl); (case i => exact (i_pi_tup (i_pv 1))); (case g => exact (fun _ _ _ _ _ => (i_pgl2K (K := K) rfl 0 1 rfl (by show List.Nodup (["bundle", "money"] : List Str); decide +kernel)))); (case t => exact (fun _ _ _ _ _ => i_pts_nil)); (case e => exact (fun _ _ _ _ _ => (i_pvl 0))))))
    (i_pss_cons (i_ps_set (i := 4) sc_told_bundles.nd rfl (Or.inl rfl) (i_pe_lst (i_pa_cons (i_pe_defK D_together (kb_together_1_kinds) (hr.mono (by decide)) (i_pa_cons (i_pe_lst i_pa_nil) i_pa_nil) (i_pk_cons (i_pv 2) i_pk_nil)) i_pa_nil)))
    (i_pss_cons (i_ps_for PassesOwn.never rfl (i_pi_list (i_pv 3)) (i_pg_name (i := 5) sc_told_bundles.nd rfl (Or.inl rfl)) (i_pss_one (i_ps_if (i_pt_cmpR (op_notInD hr.units) (i_pv 5) (i_pv 4) rfl) (i_pss_one (i_ps_expr (i_pe_bm PySem.F.plainAttrs_list PySem.F.slot_list_append PySem.F.type_list_append mt_append (i_pv 4) (i_pa_cons (i_pv 5) i_pa_nil)))) i_pss_nil)))
    (i_pss_one (i_ps_ret (i_pe_callTy call_tuple_of rfl T.z_tuple (by decide +kernel) (i_pa_cons (i_pv 4) i_pa_nil))))))), ?_⟩
  obtain ⟨px, xs, rfl, hx, dxs⟩ := dv_tup dx
  obtain ⟨py, ys, rfl, hy, dys⟩ := dv_tup dy
  have lx := dxs.length
  have ly := dys.length
  rw [List.length_map] at lx ly
  refine ⟨_, rfl, px, rfl, ⟨_, hx⟩, comp_seconds hx dxs (by omega) fun zs σ1 H1 s1 d1 p1 hp1 => ?_⟩
  have S1 := same_newH hp1 (.lst zs)
  have s01 := s1.trans S1
  refine ⟨_, rfl, py, rfl, ⟨_, s01.tup hy⟩, comp_firstsT (s01.tup hy) (DVs.same s01 dys) (by omega) fun ws σ2 H2 s2 d2 p2 hp2 => ?_⟩
  have S2 := same_newH hp2 (.lst ws)
  have s12 := s2.trans S2
  have lz := d1.length
  have lw := d2.length
  rw [List.length_map, List.length_map] at lz lw
  refine ⟨p1, p2, zs, ws, rfl, rfl, s12 _ _ upd_same, upd_same, Nat.le_trans (by omega : zs.length + ws.length ≤ 100) (by decide), fun p3 hp3 => ?_⟩
  have S3 := same_newH hp3 (.lst (zs ++ ws))
  have dAll : DVs K (upd (upd H2 p2 (.lst ws)) p3 (.lst (zs ++ ws))) ((rs.map Prod.snd ++ ss.map Prod.fst).map tI) (zs ++ ws) := by
    rw [List.map_append]
    exact DVs.append (DVs.same ((S1.trans s12).trans S3) d1) (DVs.same (S2.trans S3) d2)
  have sA := (s01.trans s12).trans S3
  have e3 : (upd (upd H2 p2 (.lst ws)) p3 (.lst (zs ++ ws))) p3 = some (.lst (zs ++ ws)) := upd_same
  generalize upd (upd H2 p2 (.lst ws)) p3 (.lst (zs ++ ws)) = H3 at dAll sA e3 ⊢
  refine ⟨(by show 0 ≤ sizeLine; decide), fun e0 he0 => ?_⟩
  have S4 := same_newH he0 (.lst [])
  refine ⟨_, rfl, e0, [], k, rfl, ⟨[], SqL.of upd_same, DVs.nil⟩, by omega, k1, fun r hr => (nomatch hr), by decide, fun pt H4 s4 ft et => ⟨(by show 1 ≤ sizeLine; decide), fun Lt hLt => ?_⟩⟩
  rw [sums_nil] at et
  have S5 := same_newH hLt (.lst [V.ref pt])
  have s35 := (S4.trans s4).trans S5
  have LL5 : LL K (upd H4 Lt (.lst [V.ref pt])) Lt [List.replicate k.toNat 0] := ⟨_, upd_same, DVs.cons (DV.tI (SqT.of (S5 _ _ et))) DVs.nil⟩
  have fL : H Lt = none := Same.free (sA.trans (S4.trans s4)) hLt
  have n3 : p3 ≠ Lt := fun z => by rw [← z, (S4.trans s4) _ _ e3] at hLt; cases hLt
  have sB := sA.trans s35
  have e35 := s35 _ _ e3
  have dAll5 := DVs.same s35 dAll
  generalize upd H4 Lt (.lst [V.ref pt]) = H5 at LL5 sB e35 dAll5 ⊢
  obtain ⟨bl, hbl⟩ : ∃ bl, bl = rs.map Prod.snd ++ ss.map Prod.fst := ⟨_, rfl⟩
  rw [← hbl] at dAll5
  have gbl : ∀ b ∈ bl, b.length = k.toNat ∧ Small b := fun b hb => by
    rw [hbl] at hb
    rcases List.mem_append.mp hb with z | z
    · obtain ⟨r, hr, rfl⟩ := List.mem_map.mp z; exact ⟨(gr r hr).2.1, (gr r hr).2.2.2⟩
    · obtain ⟨r, hr, rfl⟩ := List.mem_map.mp z; exact ⟨(gs r hr).1, (gs r hr).2.1⟩
  have lbl : bl.length ≤ 26 := by rw [hbl, List.length_append, List.length_map, List.length_map]; omega
  have G1 : ∀ i, Gb k.toNat (1 + (bl.take i).length) ((bl.take i).foldl addB [List.replicate k.toNat 0]) := fun i => Gb.fold _ (Gb.zero _) fun b hb => gbl b (List.mem_of_mem_take hb)
  have ln := dAll5.length
  rw [List.length_map] at ln
  refine ⟨_, rfl, p3, rfl, ⟨_, SqL.of e35⟩, for_list (xs := zs ++ ws) (fun i σ H' => ∃ o5, σ = [some (.ref px), some (.ref py), some (.int k), some (.ref p3), some (.ref Lt), o5] ∧ LL K H' Lt ((bl.take i).foldl addB [List.replicate k.toNat 0]) ∧ H' p3 = some (.lst (zs ++ ws)) ∧ DVs K H' (bl.map tI) (zs ++ ws) ∧ Same H H') ⟨_, rfl, LL5, e35, dAll5, sB⟩ ?_ ?_ ?_⟩
  · rintro i σ H' hi ⟨o5, rfl, i1, i2, i3, i4⟩
    exact SqL.of i2
  · rintro i v σ H' hv ⟨o5, rfl, i1, i2, i3, i4⟩
    have hi : i < (zs ++ ws).length := (List.getElem?_eq_some_iff.mp hv).1
    obtain ⟨r, b, hr', rfl, hb⟩ := row_of i3 hv
    obtain ⟨us, w1, w2, w3⟩ := i1.len
    have lb := (G1 i).2
    rw [List.length_take] at lb
    refine ⟨_, rfl, _, rfl, tI r, _, Lt, us, DV.tI hb, rfl, .inl (SqL.of w1), w2, tI_can _, rows_canAll _, by rw [tI_depth]; decide, _, rfl, ?_⟩
    refine ite2 (fun c => ?_) (fun c => ?_)
    · refine ⟨_, rfl, .inl ⟨rfl, _, SqL.of w1⟩, _, rfl, Lt, us, _, rfl, rfl, w1, Nat.lt_of_lt_of_le (by omega : us.length < 100) (by decide), ?_⟩
      have sbL := SB.upd Lt H' (.lst (us ++ [V.ref b]))
      refine ⟨_, rfl, ⟨_, upd_same, ?_⟩, sbL _ _ n3 i2, rows_but w1 sbL i3, same_via fL i4 sbL⟩
      rw [fold_take hr', addB_pos c, List.map_append]
      exact DVs.snoc (rows_but w1 sbL w2) (DV.tI (tup_but w1 sbL hb))
    · refine ⟨_, rfl, ?_, i2, i3, i4⟩
      rw [fold_take hr', addB_neg c]
      exact ⟨us, w1, w2⟩
  · rintro σ H' ⟨o5, rfl, i1, i2, i3, i4⟩
    rw [← ln, List.take_length] at i1
    obtain ⟨us, w1, w2, w3⟩ := i1.len
    refine ⟨_, rfl, Lt, us, rfl, .inl ⟨SqL.of w1, fun t ht => ?_⟩⟩
    have ST := same_newH ht (.tup us)
    refine q t _ (i4.trans ST) ?_
    have et2 : toldF k.toNat rs ss = bl.foldl addB [List.replicate k.toNat 0] := by rw [hbl, List.foldl_append]; rfl
    rw [et2]
    exact DV.tup (SqT.of upd_same) (DVs.same ST w2)

end
end Mine

set_option Elab.async false
set_option linter.all false
set_option maxRecDepth 100000
set_option maxHeartbeats 4000000
namespace Mine
open PySem PySem.Spec PyProof.Rows L2
section
variable {P : Program} {w : World} {K : PySem.W.Frag} {mg : Str → Option Value} {base : Heap}
theorem tT_shown {k n : Nat} {bs : List (List Int)} (h : Gb k n bs) (k3 : k ≤ 3) (n27 : n ≤ 27) : (PyData.list [tT bs, tT bs]).showable = true ∧ (PyData.list [tT bs, tT bs]).hasDict = false ∧ (PyData.list [tT bs, tT bs]).depth ≤ 40 ∧ (PyData.list [tT bs, tT bs]).shown.length ≤ sizeLine := by
  have hb : ∀ r ∈ bs, Bits 90 r := fun r hr x hx => by have := (h.1 r hr).2 x hx; omega
  have e1 : (tT bs).showable = true := by rw [tT, PyData.showable]; exact rows_show (by decide) (by decide) bs hb
  have e2 : (tT bs).hasDict = false := by rw [tT, PyData.hasDict]; exact rows_dict bs
  have e3 : (tT bs).depth ≤ 2 := by have := rows_depth bs; rw [tT, PyData.depth]; omega
  have e4 : (tT bs).canLay0 = true := by rw [tT, PyData.canLay0]; exact rows_canAll bs
  have e5 : (tT bs).intsShort 101 = true := by rw [tT, PyData.intsShort]; exact rows_short (by decide) (by decide) bs hb
  have e6 : (tT bs).weight ≤ 7398 := by
    have := rows_weight (w := 90) (n := 3) (by decide) bs fun r hr => ⟨hb r hr, by rw [(h.1 r hr).1]; exact k3⟩
    have l := h.2
    rw [tT, PyData.weight]
    omega
  refine ⟨by simp [PyData.showable, PyData.showableAll, e1], by simp [PyData.hasDict, PyData.hasDictAll, e2], ?_, shown_ok ?_ ?_ ?_⟩
  · simp only [PyData.depth, PyData.depthAll]; omega
  · simp [PyData.canLay0, PyData.canLayAll0, e4]
  · simp [PyData.intsShort, PyData.intsShortAll, e5]
  · simp only [PyData.weight, PyData.weightAll]; omega
def spRight6 (K : PySem.W.Frag) : Sp := fun vs H Q _ => ∃ (x y : V) (k : Int) (rs : List (List Int × List Int)) (ss : List (List Int × Int)), vs = [x, y, .int k] ∧ DV K H (rowsD rs) x ∧ DV K H (sealsD ss) y ∧ 1 ≤ k ∧ k ≤ 3 ∧ GoodR k.toNat rs ∧ GoodS2 k.toNat ss ∧ rs.length ≤ 13 ∧ ss.length ≤ 13 ∧ ∀ (H' : Hp), Same H H' → Q (.bl true) H'
theorem dn_right6 (T : Txt K mg) : Dn P w K mg base 3 "_law_is_right" sLawIsRight ["_law_rows", "_law_seals", "_law_several"] (spRight6 K) := by
  refine Dn.of T.f_law_is_right sc_law_is_right (fun vs H Q E h => ?_) (fun f cdv A outer s H vs Q E hr h => ?_)
  · obtain ⟨x, y, k, rs, ss, rfl, _⟩ := h; rfl
  obtain ⟨x, y, k, rs, ss, rfl, dx, dy, k0, k1, gr, gs, lr, ls, q⟩ := h
  obtain ⟨e, hE, U⟩ := T.f_told_bundles
  have D_told_bundles := dn_tb (P := P) (w := w) (base := base) T U
  have D_law_told := dn_toldx (P := P) (w := w) (base := base) T
  have g0 : GoodS2 k.toNat [] := fun r hr => (nomatch hr)
  have k3 : k.toNat ≤ 3 := by omega
  have str_ne : ∀ x : Str, (!decide (V.str x = V.str x)) = false := fun x => by simp
  have str_eq : ∀ x : Str, decide (V.str x = V.str x) = true := fun x => decide_eq_true rfl
  refine ⟨_, IPSs.get (i_pss_cons (i_ps_set (i := 3) sc_law_is_right.nd rfl (Or.inl rfl) (i_pe_callTy call_tuple_of rfl T.z_tuple (by decide +kernel) (i_pa_cons (i_pe_def D_law_told bd_law_told (hr.mono (by decide)) (i_pa_cons (i_pv 0) (i_pa_cons (i_pv 1) (i_pa_cons (i_pv 2) i_pa_nil)))) i_pa_nil)))
    (i_pss_cons (i_ps_set (i := 4) sc_law_is_right.nd rfl (Or.inl rfl) (i_pe_lst (i_pa_cons (i_pe_defDK D_told_bundles (kb_told_bundles_2_kinds) (hr.mono (by decide)) (i_pa_cons (i_pv 0) (i_pa_cons (i_pv 1) i_pa_nil)) (i_pk_cons (i_pv 2) i_pk_nil)) (i_pa_cons (i_pe_defDK0 D_told_bundles (kb_told_bundles_0_kinds_sealed_rounds) (hr.mono (by decide)) (i_pk_cons (i_pv 2) (i_pk_cons (i_pv 1) (i_pk_cons (i_pv 0) i_pk_nil)))) i_pa_nil))))
    (i_pss_cons (i_ps_set (i := 5) sc_law_is_right.nd rfl (Or.inl rfl) (i_pe_lst (i_pa_cons (i_pe_defDK D_told_bundles (kb_told_bundles_1_kinds) (hr.mono (by decide)) (i_pa_cons (i_pv 0) i_pa_nil) (i_pk_cons (i_pv 2) i_pk_nil)) (i_pa_cons (i_pe_defDK D_told_bundles (kb_told_bundles_2_kinds) (hr.mono (by decide)) (i_pa_cons (i_pv 0) (i_pa_cons (i_pe_tup i_pa_nil) i_pa_nil)) (i_pk_cons (i_pv 2) i_pk_nil)) i_pa_nil))))
    (i_pss_cons (i_ps_if (i_pt_cmpR op_ne (i_pe_callB (call_reprD hr.gd hr.units) rfl T.z_repr boot_repr (i_pa_cons (i_pv 4) i_pa_nil)) (i_pe_callB (call_reprD hr.gd hr.units) rfl T.z_repr boot_repr (i_pa_cons (i_pe_lst (i_pa_cons (i_pv 3) (i_pa_cons (i_pv 3) i_pa_nil))) i_pa_nil)) (nomark _)) (i_pss_one (i_ps_ret (i_pe_bl))) i_pss_nil)
    (i_pss_cons (i_ps_set (i := 3) sc_law_is_right.nd rfl (Or.inl rfl) (i_pe_callTy call_tuple_of rfl T.z_tuple (by decide +kernel) (i_pa_cons (i_pe_def D_law_told bd_law_told (hr.mono (by decide)) (i_pa_cons (i_pv 0) (i_pa_cons (i_pe_tup i_pa_nil) (i_pa_cons (i_pv 2) i_pa_nil)))) i_pa_nil)))
    (i_pss_one (i_ps_ret (i_pe_cmpR op_eq (i_pe_callB (call_reprD hr.gd hr.units) rfl T.z_repr boot_repr (i_pa_cons (i_pv 5) i_pa_nil)) (i_pe_callB (call_reprD hr.gd hr.units) rfl T.z_repr boot_repr (i_pa_cons (i_pe_lst (i_pa_cons (i_pv 3) (i_pa_cons (i_pv 3) i_pa_nil))) i_pa_nil)) (nomark _))))))))), ?_⟩
  refine ⟨_, rfl, _, rfl, _, rfl, x, y, k, rs, ss, rfl, dx, dy, k0, k1, gr, gs, lr, ls, fun L1 H1 s1 f1 hL1 => ?_⟩
  obtain ⟨us, u1, u2⟩ := hL1
  refine ⟨L1, us, rfl, .inl ⟨SqL.of u1, fun t1 ht1 => ?_⟩⟩
  have S1 := same_newH ht1 (.tup us)
  have r1 := s1.trans S1
  have dd1 : DV K (upd H1 t1 (.tup us)) (tT (toldF k.toNat rs ss)) (.ref t1) := DV.tup (SqT.of upd_same) (DVs.same S1 u2)
  generalize upd H1 t1 (.tup us) = H2 at r1 dd1 ⊢
  refine ⟨_, rfl, _, rfl, _, rfl, x, y, k, rs, ss, rfl, DV.same r1 dx, DV.same r1 dy, k0, k1, gr, gs, lr, ls, fun p1 H3 s3 d3 => ?_⟩
  have r3 := r1.trans s3
  refine ⟨_, rfl, _, rfl, _, rfl, x, y, k, rs, ss, rfl, DV.same r3 dx, DV.same r3 dy, k0, k1, gr, gs, lr, ls, fun p2 H4 s4 d4 => ⟨(by show 2 ≤ sizeLine; decide), fun Lh hLh => ?_⟩⟩
  have S4 := same_newH hLh (.lst [V.ref p1, V.ref p2])
  have s24 := (s3.trans s4).trans S4
  have r4 := r1.trans s24
  have dh : DV K (upd H4 Lh (.lst [V.ref p1, V.ref p2])) (.list [tT (toldF k.toNat rs ss), tT (toldF k.toNat rs ss)]) (.ref Lh) := DV.list (SqL.of upd_same) (DVs.cons (DV.same (s4.trans S4) d3) (DVs.cons (DV.same S4 d4) DVs.nil))
  have dd4 := DV.same s24 dd1
  generalize upd H4 Lh (.lst [V.ref p1, V.ref p2]) = H5 at r4 dh dd4 ⊢
  refine ⟨_, rfl, _, rfl, x, .ref e, k, rs, [], rfl, DV.same r4 dx, DV.tup (hE.tup _) DVs.nil, k0, k1, gr, g0, lr, by decide, fun p3 H6 s6 d6 => ?_⟩
  have r6 := r4.trans s6
  refine ⟨_, rfl, (by show 0 ≤ sizeLine; decide), fun em hem => ?_⟩
  have S6 := same_newH hem (.tup [])
  refine ⟨_, rfl, x, .ref em, k, rs, [], rfl, DV.same (r6.trans S6) dx, DV.tup (SqT.of upd_same) DVs.nil, k0, k1, gr, g0, lr, by decide, fun p4 H7 s7 d7 => ⟨(by show 2 ≤ sizeLine; decide), fun Lb hLb => ?_⟩⟩
  have S7 := same_newH hLb (.lst [V.ref p3, V.ref p4])
  have s57 := ((s6.trans S6).trans s7).trans S7
  have r7 := r4.trans s57
  have db : DV K (upd H7 Lb (.lst [V.ref p3, V.ref p4])) (.list [tT (toldF k.toNat rs []), tT (toldF k.toNat rs [])]) (.ref Lb) := DV.list (SqL.of upd_same) (DVs.cons (DV.same ((S6.trans s7).trans S7) d6) (DVs.cons (DV.same S7 d7) DVs.nil))
  have dh7 := DV.same s57 dh
  have dd7 := DV.same s57 dd4
  generalize upd H7 Lb (.lst [V.ref p3, V.ref p4]) = H8 at r7 db dh7 dd7 ⊢
  obtain ⟨a1, a2, a3, a4⟩ := tT_shown (Gb.told gr gs) k3 (by omega)
  obtain ⟨c1, c2, c3, c4⟩ := tT_shown (Gb.told gr g0) k3 (by simp; omega)
  refine ⟨_, rfl, Lh, _, rfl, dh7, a1, a2, a3, a4, ?_⟩
  refine ⟨_, rfl, _, rfl, (by show 2 ≤ sizeLine; decide), fun Lx hLx => ?_⟩
  have SX := same_newH hLx (.lst [V.ref t1, V.ref t1])
  refine ⟨Lx, _, rfl, DV.list (SqL.of upd_same) (DVs.cons (DV.same SX dd7) (DVs.cons (DV.same SX dd7) DVs.nil)), a1, a2, a3, a4, rfl, false, congrArg V.bl (str_ne _), iteF ?_⟩
  have r8 := r7.trans SX
  refine ⟨_, rfl, (by show 0 ≤ sizeLine; decide), fun em2 hem2 => ?_⟩
  have S9 := same_newH hem2 (.tup [])
  refine ⟨_, rfl, x, .ref em2, k, rs, [], rfl, DV.same (r8.trans S9) dx, DV.tup (SqT.of upd_same) DVs.nil, k0, k1, gr, g0, lr, by decide, fun L2 H9 s9 f9 hL2 => ?_⟩
  obtain ⟨vs', v1, v2⟩ := hL2
  refine ⟨L2, vs', rfl, .inl ⟨SqL.of v1, fun t2 ht2 => ?_⟩⟩
  have S10 := same_newH ht2 (.tup vs')
  have sD := ((SX.trans S9).trans s9).trans S10
  have r10 := r7.trans sD
  refine ⟨_, rfl, Lb, _, rfl, DV.same sD db, c1, c2, c3, c4, ?_⟩
  refine ⟨_, rfl, _, rfl, (by show 2 ≤ sizeLine; decide), fun Ly hLy => ?_⟩
  have SY := same_newH hLy (.lst [V.ref t2, V.ref t2])
  have d10 : DV K (upd (upd H9 t2 (.tup vs')) Ly (.lst [V.ref t2, V.ref t2])) (tT (toldF k.toNat rs [])) (.ref t2) := DV.tup (SqT.of (SY _ _ upd_same)) (DVs.same (S10.trans SY) v2)
  refine ⟨Ly, _, rfl, DV.list (SqL.of upd_same) (DVs.cons d10 (DVs.cons d10 DVs.nil)), c1, c2, c3, c4, rfl, ?_⟩
  rw [str_eq]
  exact q _ (r10.trans SY)

end
end Mine

set_option Elab.async false
set_option linter.all false
set_option maxRecDepth 100000
set_option maxHeartbeats 4000000
namespace Mine
open PySem PySem.Spec PyProof.Rows L2
section
variable {P : Program} {w : World} {K : PySem.W.Frag} {mg : Str → Option Value} {base : Heap}

def spLaw (K : PySem.W.Frag) : Sp := fun vs H Q _ => ∃ (a : Addr) (ns : List Int), vs = [.ref a] ∧ SqL K H a (ns.map V.int) ∧ ns.length ≤ 63 ∧ ∀ H', Q (.bl true) H'
/-- rows, sealed bids, how many kinds, as drawn -/
def Case (K : PySem.W.Frag) (H : Hp) (p : Addr) : Prop := ∃ (x y : V) (k : Int) (rs : List (List Int × List Int)) (ss : List (List Int × Int)), SqT K H p [x, y, .int k] ∧ DV K H (rowsD rs) x ∧ DV K H (sealsD ss) y ∧ 1 ≤ k ∧ k ≤ 3 ∧ GoodR k.toNat rs ∧ GoodS2 k.toNat ss ∧ rs.length ≤ 12 ∧ ss.length ≤ 12
theorem Case.same {H H' : Hp} {p : Addr} (h : Case K H p) (s : Same H H') : Case K H' p := by
  obtain ⟨x, y, k, rs, ss, h1, h2, h3, r⟩ := h
  exact ⟨x, y, k, rs, ss, s.tup h1, DV.same s h2, DV.same s h3, r⟩
theorem Case.urn {H H' : Hp} {p u : Addr} {m : Nat} (h : Case K H p) (U : Urn H u m) (s : SB u H H') : Case K H' p := by
  obtain ⟨x, y, k, rs, ss, h1, h2, h3, r⟩ := h
  obtain ⟨yu, vu⟩ := urn_lst U
  exact ⟨x, y, k, rs, ss, SqT.but vu s h1, DV.but vu s (flat_rowsD rs) h2, DV.but vu s (flat_sealsD ss) h3, r⟩
theorem ok_law (T : Txt K mg) {fa : Addr} {fd : FuncData} (F : Fun K "law" "law" sLaw fa fd) : FnOk P w K mg base CX0 40 fa fd ["_law_script"] (spLaw K) := by
  refine F.ok (k := 39) sc_law (fun vs H Q E h => ?_) (fun cdv A outer s H vs Q E hr h => ?_)
  · obtain ⟨a, ns, rfl, _⟩ := h; rfl
  obtain ⟨a, ns, rfl, hS, h63, q⟩ := h
  have D_law_urn := dn_urn (P := P) (w := w) (base := base) T
  have D_law_draw := dn_draw (P := P) (w := w) (base := base) T
  have D_law_any_rows := dn_any_rows (P := P) (w := w) (base := base) T
  have D_law_is_right := dn_right6 (P := P) (w := w) (base := base) T
  refine ⟨_, IPSs.get (i_pss_cons (i_ps_for PassesOwn.never rfl (i_pi_range1 rfl T.z_range (i_pa_cons (i_pe_callB (call_max2 rfl) rfl T.z_max boot_max (i_pa_cons i_pe_int (i_pa_cons (i_pe_callB (call_min2 rfl) rfl T.z_min boot_min (i_pa_cons i_pe_int (i_pa_cons (i_pe_callB call_len_seq rfl T.z_len boot_len (i_pa_cons (i_pv 0) i_pa_nil)) i_pa_nil))) i_pa_nil))) i_pa_nil)) (i_pg_name (i := 1) sc_law.nd rfl (Or.inl rfl)) (i_pss_cons (i_ps_set (i := 2) sc_law.nd rfl (Or.inl rfl) (i_pe_def D_law_urn bd_law_urn (hr.mono (by decide)) (i_pa_cons (i_pv 0) (i_pa_cons (i_pv 1) i_pa_nil))))
    (i_pss_cons (i_ps_set (i := 3) sc_law.nd rfl (Or.inl rfl) (i_pe_lst (i_pa_cons (i_pe_def D_law_any_rows bd_law_any_rows (hr.mono (by decide)) (i_pa_cons (i_pv 2) (i_pa_cons i_pe_int i_pa_nil))) (i_pa_cons (i_pe_def D_law_any_rows bd_law_any_rows (hr.mono (by decide)) (i_pa_cons (i_pv 2) (i_pa_cons i_pe_int i_pa_nil))) i_pa_nil))))
    (i_pss_one (i_ps_for PassesOwn.never rfl (i_pi_list (i_pe_op op_cat (i_pe_op op_cat (i_pv 3) (i_pe_slice sl_list (i_pv 3) i_po_none (i_po_some i_pe_int))) (i_pe_lst (i_pa_cons (i_pe_tup (i_pa_cons (i_pe_tup i_pa_nil) (i_pa_cons (i_pe_tup i_pa_nil) (i_pa_cons (i_pe_op op_add i_pe_int (i_pe_def D_law_draw bd_law_draw (hr.mono (by decide)) (i_pa_cons (i_pv 2) (i_pa_cons i_pe_int i_pa_nil)))) i_pa_nil)))) i_pa_nil)))) (i_pg_tup rfl (i_pgs_cons (i_pg_name (i := 4) sc_law.nd rfl (Or.inl rfl)) (i_pgs_cons (i_pg_name (i := 5) sc_law.nd rfl (Or.inl rfl)) (i_pgs_cons (i_pg_name (i := 6) sc_law.nd rfl (Or.inl rfl)) i_pgs_nil)))) (i_pss_cons (i_ps_if (i_pt_not (i_pt_val (i_pe_def D_law_is_right bd_law_is_right (hr.mono (by decide)) (i_pa_cons (i_pv 4) (i_pa_cons (i_pv 5) (i_pa_cons (i_pv 6) i_pa_nil)))))) (i_pss_one (i_ps_ret (i_pe_bl))) i_pss_nil)
    (i_pss_one (i_ps_if (i_pt_not (i_pt_val (i_pe_def D_law_is_right bd_law_is_right (hr.mono (by decide)) (i_pa_cons (i_pe_slice sl_tupA (i_pe_op op_catTT (i_pe_slice sl_tupA (i_pv 4) i_po_none (i_po_some i_pe_int)) (i_pv 4)) i_po_none (i_po_some i_pe_int)) (i_pa_cons (i_pv 5) (i_pa_cons (i_pv 6) i_pa_nil)))))) (i_pss_one (i_ps_ret (i_pe_bl))) i_pss_nil))))))))
    (i_pss_one (i_ps_ret (i_pe_bl)))), ?_⟩
  refine ⟨_, rfl, a, _, rfl, .inl hS, _, _, rfl, _, _, rfl, _, rfl, ?_, ?_, for_range (fun i σ H' => ∃ o1 o2 o3 o4 o5 o6, σ = [some (.ref a), o1, o2, o3, o4, o5, o6] ∧ Same H H') ⟨_, _, _, _, _, _, rfl, Same.refl H⟩ ?_ ?_⟩
  · rw [List.length_map]; split <;> (try split) <;> omega
  · rw [List.length_map]; split <;> (try split) <;> omega
  · rintro i σ H0 hi ⟨o1, o2, o3, o4, o5, o6, rfl, s0⟩
    have hi4 : i < 5 := by
      rw [List.length_map] at hi
      refine Nat.lt_of_lt_of_le hi ?_
      split <;> (try split) <;> omega
    refine ⟨_, rfl, _, rfl, a, ns, _, rfl, s0.seq hS, by omega, by omega, fun u H1 s1 hu U1 => ?_⟩
    have huH : H u = none := Same.free s0 hu
    have b1 : Same H H1 := s0.trans s1
    refine ⟨_, rfl, u, 12, 0, rfl, U1, by decide, by decide, by decide, fun p1 x1 y1 k1 rs1 ss1 H2 a1 a2 a3 a4 a5 a6 sb2 a7 a8 a9 U2 => ?_⟩
    have C1 : Case K H2 p1 := ⟨x1, y1, k1, rs1, ss1, a7, a8, a9, a1, a2, a3, a4, a5, a6⟩
    refine ⟨_, rfl, u, 12, _, rfl, U2, by decide, by decide, by decide, fun p2 x2 y2 k2 rs2 ss2 H3 c1 c2 c3 c4 c5 c6 sb3 c7 c8 c9 U3 => ⟨(by show 2 ≤ sizeLine; decide), fun Lo hLo => ?_⟩⟩
    have C2 : Case K H3 p2 := ⟨x2, y2, k2, rs2, ss2, c7, c8, c9, c1, c2, c3, c4, c5, c6⟩
    have C1' := C1.urn U2 sb3
    have SO := same_newH hLo (.lst [V.ref p1, V.ref p2])
    have b4 := (same_via huH (same_via huH b1 sb2) sb3).trans SO
    have U4 := U3.same SO
    refine ⟨_, rfl, _, rfl, 1, rfl, Lo, _, rfl, SqL.of upd_same, fun p3 hp3 => ?_⟩
    have S3 := same_newH hp3 (.lst (cutV [V.ref p1, V.ref p2] none (some 1)))
    refine ⟨Lo, p3, _, _, rfl, rfl, S3 _ _ upd_same, upd_same, (by show 3 ≤ sizeLine; decide), fun p4 hp4 => ?_⟩
    have S4 := same_newH hp4 (.lst ([V.ref p1, V.ref p2] ++ cutV [V.ref p1, V.ref p2] none (some 1)))
    have sX := (SO.trans S3).trans S4
    have b5 := b4.trans (S3.trans S4)
    have U5 := U4.same (S3.trans S4)
    have n4 : p4 ≠ u := (U4.same S3).ne hp4
    refine ⟨(by show 0 ≤ sizeLine; decide), fun ea hea => ⟨(by show 0 ≤ sizeLine; decide), fun eb heb => ?_⟩⟩
    have SA := same_newH hea (.tup [])
    have SB' := same_newH heb (.tup [])
    refine ⟨_, rfl, u, 3, _, rfl, (U5.same SA).same SB', by decide, by decide, by decide, fun d H6 d0 d1 sb6 U6 => ⟨_, _, rfl, rfl, (by show 3 ≤ sizeLine; decide), fun t ht => ⟨(by show 1 ≤ sizeLine; decide), fun p5 hp5 => ?_⟩⟩⟩
    have ST := same_newH ht (.tup [V.ref ea, V.ref eb, V.int (1 + d)])
    have S5 := same_newH hp5 (.lst [V.ref t])
    have nA : ea ≠ u := U5.ne hea
    have nB : eb ≠ u := (U5.same SA).ne heb
    have sAB := SA.trans SB'
    have ep4 := (ST.trans S5) _ _ (sb6 _ _ n4 (sAB _ _ upd_same))
    refine ⟨p4, p5, _, _, rfl, rfl, ep4, upd_same, (by show 4 ≤ sizeLine; decide), fun p6 hp6 => ?_⟩
    have S6 := same_newH hp6 (.lst (([V.ref p1, V.ref p2] ++ cutV [V.ref p1, V.ref p2] none (some 1)) ++ [V.ref t]))
    have sT := (ST.trans S5).trans S6
    have U5' := U5.same sAB
    have C1f := (((C1'.same sX).same sAB).urn U5' sb6).same sT
    have C2f := (((C2.same sX).same sAB).urn U5' sb6).same sT
    have g0 : GoodS2 (1 + d).toNat [] := fun r hr => (nomatch hr)
    have gr0 : GoodR (1 + d).toNat [] := fun r hr => (nomatch hr)
    have Ctf : Case K (upd (upd (upd H6 t (.tup [V.ref ea, V.ref eb, V.int (1 + d)])) p5 (.lst [V.ref t])) p6 (.lst (([V.ref p1, V.ref p2] ++ cutV [V.ref p1, V.ref p2] none (some 1)) ++ [V.ref t]))) t :=
      ⟨.ref ea, .ref eb, 1 + d, [], [], SqT.of ((S5.trans S6) _ _ upd_same), DV.tup (SqT.of (sT _ _ (sb6 _ _ nA (SB' _ _ upd_same)))) DVs.nil, DV.tup (SqT.of (sT _ _ (sb6 _ _ nB upd_same))) DVs.nil, by omega, by omega, gr0, g0, by decide, by decide⟩
    have b6 := (same_via huH (b5.trans sAB) sb6).trans sT
    have e6 : (upd (upd (upd H6 t (.tup [V.ref ea, V.ref eb, V.int (1 + d)])) p5 (.lst [V.ref t])) p6 (.lst (([V.ref p1, V.ref p2] ++ cutV [V.ref p1, V.ref p2] none (some 1)) ++ [V.ref t]))) p6 = some (.lst [V.ref p1, V.ref p2, V.ref p1, V.ref t]) := upd_same
    generalize upd (upd (upd H6 t (.tup [V.ref ea, V.ref eb, V.int (1 + d)])) p5 (.lst [V.ref t])) p6 (.lst (([V.ref p1, V.ref p2] ++ cutV [V.ref p1, V.ref p2] none (some 1)) ++ [V.ref t])) = H7 at C1f C2f Ctf b6 e6 ⊢
    have look : ∀ (j : Nat) (v : V), [V.ref p1, V.ref p2, V.ref p1, V.ref t][j]? = some v → ∃ pp, v = .ref pp ∧ Case K H7 pp := by
      intro j v hv
      match j, hv with
      | 0, hv => exact ⟨p1, (Option.some.inj hv).symm, C1f⟩
      | 1, hv => exact ⟨p2, (Option.some.inj hv).symm, C2f⟩
      | 2, hv => exact ⟨p1, (Option.some.inj hv).symm, C1f⟩
      | 3, hv => exact ⟨t, (Option.some.inj hv).symm, Ctf⟩
      | j + 4, hv => cases hv
    refine ⟨p6, rfl, ⟨_, SqL.of e6⟩, for_list (xs := [V.ref p1, V.ref p2, V.ref p1, V.ref t]) (fun j σ H' => ∃ d4 d5 d6, σ = [some (.ref a), some (.int (0 + (i : Int))), some (.ref u), some (.ref Lo), d4, d5, d6] ∧ Same H7 H') ⟨_, _, _, rfl, Same.refl _⟩ ?_ ?_ ?_⟩
    · rintro j σ H' hj ⟨d4, d5, d6, rfl, sj⟩
      exact SqL.of (sj _ _ e6)
    · rintro j v σ H' hv ⟨d4, d5, d6, rfl, sj⟩
      obtain ⟨pp, rfl, hC⟩ := look j v hv
      obtain ⟨x, y, k, rs, ss, hp, dx, dy, k0, k1, gr, gs, lr, ls⟩ := hC.same sj
      refine ⟨pp, _, rfl, hp, rfl, _, _, rfl, _, _, rfl, _, _, rfl, rfl, ?_⟩
      refine ⟨_, rfl, _, rfl, _, rfl, x, y, k, rs, ss, rfl, dx, dy, k0, k1, gr, gs, by omega, by omega, fun H8 s8 => ⟨true, rfl, iteF ?_⟩⟩
      obtain ⟨px, xs, rfl, hx, dxs⟩ := dv_tup (DV.same s8 dx)
      have lx := dxs.length
      rw [List.length_map] at lx
      refine ⟨_, rfl, 1, rfl, px, xs, rfl, hx, fun q1 H9 s9 t9 => ?_⟩
      have c1' : (cutV xs none (some 1)).length ≤ 12 := Nat.le_trans (cutV_length _ _ _) (by omega)
      refine ⟨_, rfl, q1, px, _, _, rfl, rfl, t9, s9.tup hx, Nat.le_trans (Nat.add_le_add c1' (by omega : xs.length ≤ 12)) (by show 12 + 12 ≤ sizeLine; decide), fun q2 H10 s10 t10 => ?_⟩
      refine ⟨12, rfl, q2, _, rfl, t10, fun q3 H11 s11 t11 => ?_⟩
      have sE := (s9.trans s10).trans s11
      have dxs' : DVs K H11 (((rs.take 1 ++ rs).take 12).map rowD) (cutV (cutV xs none (some 1) ++ xs) none (some 12)) := by
        rw [cut_take (by decide), cut_take (by decide), List.map_take, List.map_append, List.map_take]
        exact DVs.take 12 (DVs.append (DVs.take 1 (DVs.same sE dxs)) (DVs.same sE dxs))
      have gr' : GoodR k.toNat ((rs.take 1 ++ rs).take 12) := fun r hr => by
        rcases List.mem_append.mp (List.mem_of_mem_take hr) with z | z
        · exact gr r (List.mem_of_mem_take z)
        · exact gr r z
      have sG := s8.trans sE
      refine ⟨_, rfl, _, rfl, .ref q3, y, k, (rs.take 1 ++ rs).take 12, ss, rfl, DV.tup t11 dxs', DV.same sG dy, k0, k1, gr', gs, by rw [List.length_take]; omega, by omega, fun H12 s12 => ⟨true, rfl, iteF ?_⟩⟩
      exact ⟨_, _, _, rfl, (sj.trans sG).trans s12⟩
    · rintro σ H' ⟨d4, d5, d6, rfl, sj⟩
      exact ⟨_, _, _, _, _, _, rfl, b6.trans sj⟩
  · rintro σ H0 ⟨o1, o2, o3, o4, o5, o6, rfl, s0⟩
    exact q _
end
theorem all_mk {l : PySem.W.OpenLaw} {w : World} {K : PySem.W.Frag} {h : Heap} {mg : Str → Option Value} {fa f0 f1 f2 f3 f4 f5 f6 f7 f8 f9 f10 f11 f12 f13 f14 f15 f16 f17 f18 : Addr} (X : K.In h) (G : h.Ns mainGlobals mg) (hfa : mg "law" = some (.ref fa))
    {od0 an0 od1 an1 od2 an2 od3 an3 od4 an4 od5 an5 od6 an6 od7 an7 od8 an8 od9 an9 od10 an10 od11 an11 od12 an12 od13 an13 od14 an14 od15 an15 od16 an16 od17 an17 od18 an18 : Option Addr} {sl0 sl1 sl2 sl3 sl4 sl5 sl6 sl7 sl8 sl9 sl10 sl11 sl12 sl13 sl14 sl15 sl16 sl17 sl18 : Array (Option Value)} {oc0 kV0 dc0 pm0 cd0 ct0 oc1 kV1 dc1 pm1 cd1 ct1 oc2 kV2 dc2 pm2 cd2 ct2 oc3 kV3 dc3 pm3 cd3 ct3 oc4 kV4 dc4 pm4 cd4 ct4 oc5 kV5 dc5 pm5 cd5 ct5 oc6 kV6 dc6 pm6 cd6 ct6 oc7 kV7 dc7 pm7 cd7 ct7 oc8 kV8 dc8 pm8 cd8 ct8 oc9 kV9 dc9 pm9 cd9 ct9 oc10 kV10 dc10 pm10 cd10 ct10 oc11 kV11 dc11 pm11 cd11 ct11 oc12 kV12 dc12 pm12 cd12 ct12 oc13 kV13 dc13 pm13 cd13 ct13 oc14 kV14 dc14 pm14 cd14 ct14 oc15 kV15 dc15 pm15 cd15 ct15 oc16 kV16 dc16 pm16 cd16 ct16 oc17 kV17 dc17 pm17 cd17 ct17 oc18 kV18 dc18 pm18 cd18 ct18 : Value}
    {T1 e1 : Addr} {odT1 ode1 : Option Addr} {slT1 sle1 : Array (Option Value)} {ocT1 : Value} {nT1 ne1 : Nat}
    (a0 : PySem.W.nsIn K mainGlobals "together" = some (some (.ref f0))) (l0 : K.lookup f0 = some ⟨oc0, od0, .func (PySem.W.fnOf "together" "together" (defArgs sTogether) (defBody sTogether) (defScope sTogether) .none kV0 dc0 pm0 an0 cd0 ct0), sl0⟩) (c0 : PySem.W.codeIn K cd0 "together" = true) (k0 : PySem.W.keepIn K (.ref f0) = true)
    (a1 : PySem.W.nsIn K mainGlobals "told_bundles" = some (some (.ref f1))) (l1 : K.lookup f1 = some ⟨oc1, od1, .func (PySem.W.fnOf "told_bundles" "told_bundles" (defArgs sToldBundles) (defBody sToldBundles) (defScope sToldBundles) (.ref T1) kV1 dc1 pm1 an1 cd1 ct1), sl1⟩) (c1 : PySem.W.codeIn K cd1 "told_bundles" = true) (k1 : PySem.W.keepIn K (.ref f1) = true) (lT1 : K.lookup T1 = some ⟨ocT1, odT1, .seq #[.ref e1] nT1, slT1⟩) (le1 : K.lookup e1 = some ⟨.type "tuple", ode1, .seq #[] ne1, sle1⟩)
    (a2 : PySem.W.nsIn K mainGlobals "_law_urn" = some (some (.ref f2))) (l2 : K.lookup f2 = some ⟨oc2, od2, .func (PySem.W.fnOf "_law_urn" "_law_urn" (defArgs sLawUrn) (defBody sLawUrn) (defScope sLawUrn) .none kV2 dc2 pm2 an2 cd2 ct2), sl2⟩) (c2 : PySem.W.codeIn K cd2 "_law_urn" = true) (k2 : PySem.W.keepIn K (.ref f2) = true)
    (a3 : PySem.W.nsIn K mainGlobals "_law_draw" = some (some (.ref f3))) (l3 : K.lookup f3 = some ⟨oc3, od3, .func (PySem.W.fnOf "_law_draw" "_law_draw" (defArgs sLawDraw) (defBody sLawDraw) (defScope sLawDraw) .none kV3 dc3 pm3 an3 cd3 ct3), sl3⟩) (c3 : PySem.W.codeIn K cd3 "_law_draw" = true) (k3 : PySem.W.keepIn K (.ref f3) = true)
    (a4 : PySem.W.nsIn K mainGlobals "_law_amounts" = some (some (.ref f4))) (l4 : K.lookup f4 = some ⟨oc4, od4, .func (PySem.W.fnOf "_law_amounts" "_law_amounts" (defArgs sLawAmounts) (defBody sLawAmounts) (defScope sLawAmounts) .none kV4 dc4 pm4 an4 cd4 ct4), sl4⟩) (c4 : PySem.W.codeIn K cd4 "_law_amounts" = true) (k4 : PySem.W.keepIn K (.ref f4) = true)
    (a5 : PySem.W.nsIn K mainGlobals "_law_bundle" = some (some (.ref f5))) (l5 : K.lookup f5 = some ⟨oc5, od5, .func (PySem.W.fnOf "_law_bundle" "_law_bundle" (defArgs sLawBundle) (defBody sLawBundle) (defScope sLawBundle) .none kV5 dc5 pm5 an5 cd5 ct5), sl5⟩) (c5 : PySem.W.codeIn K cd5 "_law_bundle" = true) (k5 : PySem.W.keepIn K (.ref f5) = true)
    (a6 : PySem.W.nsIn K mainGlobals "_law_prices" = some (some (.ref f6))) (l6 : K.lookup f6 = some ⟨oc6, od6, .func (PySem.W.fnOf "_law_prices" "_law_prices" (defArgs sLawPrices) (defBody sLawPrices) (defScope sLawPrices) .none kV6 dc6 pm6 an6 cd6 ct6), sl6⟩) (c6 : PySem.W.codeIn K cd6 "_law_prices" = true) (k6 : PySem.W.keepIn K (.ref f6) = true)
    (a7 : PySem.W.nsIn K mainGlobals "_law_cost" = some (some (.ref f7))) (l7 : K.lookup f7 = some ⟨oc7, od7, .func (PySem.W.fnOf "_law_cost" "_law_cost" (defArgs sLawCost) (defBody sLawCost) (defScope sLawCost) .none kV7 dc7 pm7 an7 cd7 ct7), sl7⟩) (c7 : PySem.W.codeIn K cd7 "_law_cost" = true) (k7 : PySem.W.keepIn K (.ref f7) = true)
    (a8 : PySem.W.nsIn K mainGlobals "_law_all_within" = some (some (.ref f8))) (l8 : K.lookup f8 = some ⟨oc8, od8, .func (PySem.W.fnOf "_law_all_within" "_law_all_within" (defArgs sLawAllWithin) (defBody sLawAllWithin) (defScope sLawAllWithin) .none kV8 dc8 pm8 an8 cd8 ct8), sl8⟩) (c8 : PySem.W.codeIn K cd8 "_law_all_within" = true) (k8 : PySem.W.keepIn K (.ref f8) = true)
    (a9 : PySem.W.nsIn K mainGlobals "_law_taste" = some (some (.ref f9))) (l9 : K.lookup f9 = some ⟨oc9, od9, .func (PySem.W.fnOf "_law_taste" "_law_taste" (defArgs sLawTaste) (defBody sLawTaste) (defScope sLawTaste) .none kV9 dc9 pm9 an9 cd9 ct9), sl9⟩) (c9 : PySem.W.codeIn K cd9 "_law_taste" = true) (k9 : PySem.W.keepIn K (.ref f9) = true)
    (a10 : PySem.W.nsIn K mainGlobals "_law_liked" = some (some (.ref f10))) (l10 : K.lookup f10 = some ⟨oc10, od10, .func (PySem.W.fnOf "_law_liked" "_law_liked" (defArgs sLawLiked) (defBody sLawLiked) (defScope sLawLiked) .none kV10 dc10 pm10 an10 cd10 ct10), sl10⟩) (c10 : PySem.W.codeIn K cd10 "_law_liked" = true) (k10 : PySem.W.keepIn K (.ref f10) = true)
    (a11 : PySem.W.nsIn K mainGlobals "_law_wanted" = some (some (.ref f11))) (l11 : K.lookup f11 = some ⟨oc11, od11, .func (PySem.W.fnOf "_law_wanted" "_law_wanted" (defArgs sLawWanted) (defBody sLawWanted) (defScope sLawWanted) .none kV11 dc11 pm11 an11 cd11 ct11), sl11⟩) (c11 : PySem.W.codeIn K cd11 "_law_wanted" = true) (k11 : PySem.W.keepIn K (.ref f11) = true)
    (a12 : PySem.W.nsIn K mainGlobals "_law_small" = some (some (.ref f12))) (l12 : K.lookup f12 = some ⟨oc12, od12, .func (PySem.W.fnOf "_law_small" "_law_small" (defArgs sLawSmall) (defBody sLawSmall) (defScope sLawSmall) .none kV12 dc12 pm12 an12 cd12 ct12), sl12⟩) (c12 : PySem.W.codeIn K cd12 "_law_small" = true) (k12 : PySem.W.keepIn K (.ref f12) = true)
    (a13 : PySem.W.nsIn K mainGlobals "_law_told" = some (some (.ref f13))) (l13 : K.lookup f13 = some ⟨oc13, od13, .func (PySem.W.fnOf "_law_told" "_law_told" (defArgs sLawTold) (defBody sLawTold) (defScope sLawTold) .none kV13 dc13 pm13 an13 cd13 ct13), sl13⟩) (c13 : PySem.W.codeIn K cd13 "_law_told" = true) (k13 : PySem.W.keepIn K (.ref f13) = true)
    (a14 : PySem.W.nsIn K mainGlobals "_law_history" = some (some (.ref f14))) (l14 : K.lookup f14 = some ⟨oc14, od14, .func (PySem.W.fnOf "_law_history" "_law_history" (defArgs sLawHistory) (defBody sLawHistory) (defScope sLawHistory) .none kV14 dc14 pm14 an14 cd14 ct14), sl14⟩) (c14 : PySem.W.codeIn K cd14 "_law_history" = true) (k14 : PySem.W.keepIn K (.ref f14) = true)
    (a15 : PySem.W.nsIn K mainGlobals "_law_meant" = some (some (.ref f15))) (l15 : K.lookup f15 = some ⟨oc15, od15, .func (PySem.W.fnOf "_law_meant" "_law_meant" (defArgs sLawMeant) (defBody sLawMeant) (defScope sLawMeant) .none kV15 dc15 pm15 an15 cd15 ct15), sl15⟩) (c15 : PySem.W.codeIn K cd15 "_law_meant" = true) (k15 : PySem.W.keepIn K (.ref f15) = true)
    (a16 : PySem.W.nsIn K mainGlobals "_law_any_rows" = some (some (.ref f16))) (l16 : K.lookup f16 = some ⟨oc16, od16, .func (PySem.W.fnOf "_law_any_rows" "_law_any_rows" (defArgs sLawAnyRows) (defBody sLawAnyRows) (defScope sLawAnyRows) .none kV16 dc16 pm16 an16 cd16 ct16), sl16⟩) (c16 : PySem.W.codeIn K cd16 "_law_any_rows" = true) (k16 : PySem.W.keepIn K (.ref f16) = true)
    (a17 : PySem.W.nsIn K mainGlobals "_law_is_right" = some (some (.ref f17))) (l17 : K.lookup f17 = some ⟨oc17, od17, .func (PySem.W.fnOf "_law_is_right" "_law_is_right" (defArgs sLawIsRight) (defBody sLawIsRight) (defScope sLawIsRight) .none kV17 dc17 pm17 an17 cd17 ct17), sl17⟩) (c17 : PySem.W.codeIn K cd17 "_law_is_right" = true) (k17 : PySem.W.keepIn K (.ref f17) = true)
    (a18 : PySem.W.nsIn K mainGlobals "law" = some (some (.ref f18))) (l18 : K.lookup f18 = some ⟨oc18, od18, .func (PySem.W.fnOf "law" "law" (defArgs sLaw) (defBody sLaw) (defScope sLaw) .none kV18 dc18 pm18 an18 cd18 ct18), sl18⟩) (c18 : PySem.W.codeIn K cd18 "law" = true) (k18 : PySem.W.keepIn K (.ref f18) = true)
    (z_abs : PySem.W.nsIn K mainGlobals "abs" = some none)
    (z_int : PySem.W.nsIn K mainGlobals "int" = some none)
    (z_len : PySem.W.nsIn K mainGlobals "len" = some none)
    (z_max : PySem.W.nsIn K mainGlobals "max" = some none)
    (z_min : PySem.W.nsIn K mainGlobals "min" = some none)
    (z_range : PySem.W.nsIn K mainGlobals "range" = some none)
    (z_repr : PySem.W.nsIn K mainGlobals "repr" = some none)
    (z_sorted : PySem.W.nsIn K mainGlobals "sorted" = some none)
    (z_sum : PySem.W.nsIn K mainGlobals "sum" = some none)
    (z_tuple : PySem.W.nsIn K mainGlobals "tuple" = some none)
    (z_zip : PySem.W.nsIn K mainGlobals "zip" = some none)
    : ∃ fd : FuncData, (∀ (s : Shared) (v : Value), BindsTo s fd ⟨[v], []⟩ [("_law_script", v)]) ∧ ∀ base : Heap, K.In base → base.Ns mainGlobals mg → FnOk l.prog w K mg base CX0 40 fa fd ["_law_script"] (spLaw K) := by
  have e := hfa.symm.trans (PySem.W.mg_of X G a18)
  cases e
  have T : Txt K mg := ⟨⟨_, _, fun_mk (st := sTogether) l0 c0 k0, PySem.W.mg_of X G a0⟩, ⟨e1, ⟨_, _, le1, rfl, rfl⟩, _, _, ⟨⟨_, _, _, _, _, _, _, _, _, _, _, _, rfl, l1, c1, lT1, rfl⟩, k1⟩, PySem.W.mg_of X G a1⟩, ⟨_, _, fun_mk (st := sLawUrn) l2 c2 k2, PySem.W.mg_of X G a2⟩, ⟨_, _, fun_mk (st := sLawDraw) l3 c3 k3, PySem.W.mg_of X G a3⟩, ⟨_, _, fun_mk (st := sLawAmounts) l4 c4 k4, PySem.W.mg_of X G a4⟩, ⟨_, _, fun_mk (st := sLawBundle) l5 c5 k5, PySem.W.mg_of X G a5⟩, ⟨_, _, fun_mk (st := sLawPrices) l6 c6 k6, PySem.W.mg_of X G a6⟩, ⟨_, _, fun_mk (st := sLawCost) l7 c7 k7, PySem.W.mg_of X G a7⟩, ⟨_, _, fun_mk (st := sLawAllWithin) l8 c8 k8, PySem.W.mg_of X G a8⟩, ⟨_, _, fun_mk (st := sLawTaste) l9 c9 k9, PySem.W.mg_of X G a9⟩, ⟨_, _, fun_mk (st := sLawLiked) l10 c10 k10, PySem.W.mg_of X G a10⟩, ⟨_, _, fun_mk (st := sLawWanted) l11 c11 k11, PySem.W.mg_of X G a11⟩, ⟨_, _, fun_mk (st := sLawSmall) l12 c12 k12, PySem.W.mg_of X G a12⟩, ⟨_, _, fun_mk (st := sLawTold) l13 c13 k13, PySem.W.mg_of X G a13⟩, ⟨_, _, fun_mk (st := sLawHistory) l14 c14 k14, PySem.W.mg_of X G a14⟩, ⟨_, _, fun_mk (st := sLawMeant) l15 c15 k15, PySem.W.mg_of X G a15⟩, ⟨_, _, fun_mk (st := sLawAnyRows) l16 c16 k16, PySem.W.mg_of X G a16⟩, ⟨_, _, fun_mk (st := sLawIsRight) l17 c17 k17, PySem.W.mg_of X G a17⟩, ⟨_, _, fun_mk (st := sLaw) l18 c18 k18, PySem.W.mg_of X G a18⟩, PySem.W.mg_none_of X G z_abs, PySem.W.mg_none_of X G z_int, PySem.W.mg_none_of X G z_len, PySem.W.mg_none_of X G z_max, PySem.W.mg_none_of X G z_min, PySem.W.mg_none_of X G z_range, PySem.W.mg_none_of X G z_repr, PySem.W.mg_none_of X G z_sorted, PySem.W.mg_none_of X G z_sum, PySem.W.mg_none_of X G z_tuple, PySem.W.mg_none_of X G z_zip⟩
  have F := fun_mk (st := sLaw) l18 c18 k18
  refine ⟨_, fun s v => ?_, fun base _ _ => ok_law T F⟩
  exact .of_eq rfl
theorem walk {l : PySem.W.OpenLaw} {q : Program} {loose : List Str} {XP : (Str → Option Value) → Heap → Prop} {YP : World → Heap → Prop} {d : DefRec} {K : Params → PySem.W.Frag} (hn : l.most = some 63) (hdf : d.params.defaults = [])
    (hY : ∀ (w : World) (h : Heap), YP w h → (K w.params).In h)
    (F : ∀ (w : World) (mg : Str → Option Value) (fa : Addr) (h : Heap), (K w.params).In h → h.Ns mainGlobals mg → mg d.name = some (.ref fa) →
      ∃ fd : FuncData, (∀ (s : Shared) (u : Value), BindsTo s fd ⟨[u], []⟩ [("_law_script", u)]) ∧ ∀ base : Heap, (K w.params).In base → base.Ns mainGlobals mg → FnOk l.prog w (K w.params) mg base CX0 40 fa fd ["_law_script"] (spLaw (K w.params))) :
    PySem.W.WalkO q loose XP YP l.row.toRowW d [] (fun f vs => PySem.call f vs) :=
  L2.walk_of (n := 63) (k := 40) (x := "_law_script") (CX := fun _ => CX0) (sp := fun w => spLaw (K w.params)) hn (by decide) hdf ⟨rfl, by decide, by decide, rfl⟩ hY F (fun _ _ a ns hl _ hS => ⟨a, ns, rfl, hS, hl, fun _ => rfl⟩) fun _ _ _ _ _ z => z
end Mine
open PySem PySem.W PyProof.Rows
set_option maxRecDepth 100000 in
set_option maxHeartbeats 0 in
theorem PySem.Challenge.cw_bundleclocks_k06_told_bundles_holds : PySem.Challenge.rw_bundleclocks_k06_told_bundles.Holds := by
  w_on; o_law; k_head; (case hw => w_witness2)
  k_fill
  refine Mine.walk (l := PySem.Challenge.rw_bundleclocks_k06_told_bundles) rfl rfl (fun w h Y => PySem.W.kIn_of Y) ?F
  case F =>
    intro w mg fa h KX G hmg
    refine' Mine.all_mk KX G hmg ?a0 ?l0 ?c0 ?k0 ?a1 ?l1 ?c1 ?k1 ?lT1 ?le1 ?a2 ?l2 ?c2 ?k2 ?a3 ?l3 ?c3 ?k3 ?a4 ?l4 ?c4 ?k4 ?a5 ?l5 ?c5 ?k5 ?a6 ?l6 ?c6 ?k6 ?a7 ?l7 ?c7 ?k7 ?a8 ?l8 ?c8 ?k8 ?a9 ?l9 ?c9 ?k9 ?a10 ?l10 ?c10 ?k10 ?a11 ?l11 ?c11 ?k11 ?a12 ?l12 ?c12 ?k12 ?a13 ?l13 ?c13 ?k13 ?a14 ?l14 ?c14 ?k14 ?a15 ?l15 ?c15 ?k15 ?a16 ?l16 ?c16 ?k16 ?a17 ?l17 ?c17 ?k17 ?a18 ?l18 ?c18 ?k18 ?z_abs ?z_int ?z_len ?z_max ?z_min ?z_range ?z_repr ?z_sorted ?z_sum ?z_tuple ?z_zip
    (case a0 => k_is); (case l0 => k_is); (case c0 => k_is); (case k0 => k_is)
    (case a1 => k_is); (case l1 => k_is); (case c1 => k_is); (case k1 => k_is); (case lT1 => k_is); (case le1 => k_is)
    (case a2 => k_is); (case l2 => k_is); (case c2 => k_is); (case k2 => k_is)
    (case a3 => k_is); (case l3 => k_is); (case c3 => k_is); (case k3 => k_is)
    (case a4 => k_is); (case l4 => k_is); (case c4 => k_is); (case k4 => k_is)
    (case a5 => k_is); (case l5 => k_is); (case c5 => k_is); (case k5 => k_is)
    (case a6 => k_is); (case l6 => k_is); (case c6 => k_is); (case k6 => k_is)
    (case a7 => k_is); (case l7 => k_is); (case c7 => k_is); (case k7 => k_is)
    (case a8 => k_is); (case l8 => k_is); (case c8 => k_is); (case k8 => k_is)
    (case a9 => k_is); (case l9 => k_is); (case c9 => k_is); (case k9 => k_is)
    (case a10 => k_is); (case l10 => k_is); (case c10 => k_is); (case k10 => k_is)
    (case a11 => k_is); (case l11 => k_is); (case c11 => k_is); (case k11 => k_is)
    (case a12 => k_is); (case l12 => k_is); (case c12 => k_is); (case k12 => k_is)
    (case a13 => k_is); (case l13 => k_is); (case c13 => k_is); (case k13 => k_is)
    (case a14 => k_is); (case l14 => k_is); (case c14 => k_is); (case k14 => k_is)
    (case a15 => k_is); (case l15 => k_is); (case c15 => k_is); (case k15 => k_is)
    (case a16 => k_is); (case l16 => k_is); (case c16 => k_is); (case k16 => k_is)
    (case a17 => k_is); (case l17 => k_is); (case c17 => k_is); (case k17 => k_is)
    (case a18 => k_is); (case l18 => k_is); (case c18 => k_is); (case k18 => k_is)
    (case z_abs => k_is)
    (case z_int => k_is)
    (case z_len => k_is)
    (case z_max => k_is)
    (case z_min => k_is)
    (case z_range => k_is)
    (case z_repr => k_is)
    (case z_sorted => k_is)
    (case z_sum => k_is)
    (case z_tuple => k_is)
    (case z_zip => k_is)

