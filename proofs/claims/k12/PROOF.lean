import PyProof.Rows.All
import Wide.All
import OpenK.AllK
import Wide.FinOn
import Lean
import PyProof.EqAt
import PyProof.EqKinds
import PyProof.TupleCall
import PyProof.ZipIter
import PyProof.Rows.ZipGen
import PyProof.Rows.SumAny
import PyProof.ConsumeWalk
import PyProof.EqLayable
import PyProof.ReprRoads
import PyProof.P3In
import PyProof.FitsBits
import PyProof.EnumStmt
import PyProof.Rows.EnumRows
import PyProof.ReprLen
import PyProof.Rows.SortShellK
import PyProof.Rows.SortWalk
import PyProof.MinMaxWalk
import PyProof.WalkInts
import PyProof.WalksMore
import PyProof.SeqI3
import PyProof.Rows.TupDisplay
import PyProof.CollectWalk
import PyProof.ListRange
import PyProof.AttrMissHeap
import PyProof.DictUpdate
import KE.KDictOf
import KE.KSortTup
import KE.KSortAsk
import PySem.Challenge.RW_bundleclocks_k12_whole_parts_and_turns_o
open List (all_eq_true any_cons any_eq_true any_nil append_assoc append_nil cons_append drop_zero filterMap_cons flatMap_append flatMap_cons flatten_cons foldl_append foldl_cons forIn_cons forIn_nil getD_eq_getElem?_getD getElem?_append_left getElem?_cons_succ getElem?_cons_zero getElem?_map getElem?_set_ne getElem?_set_self getElem?_zip_eq_some getElem_map getElem_mem getElem_of_mem isEmpty_map length_append length_cons length_drop length_eq_zero_iff length_map length_nil length_pos_iff length_range length_reverse length_singleton length_take length_zip lookup_cons map_append map_congr_left map_cons map_flatMap map_map map_nil map_replicate map_reverse map_take mem_append mem_append_left mem_append_right mem_cons mem_cons_of_mem mem_cons_self mem_filter mem_flatMap mem_iff_getElem mem_map mem_map_of_mem mem_of_getElem? mem_of_mem_drop mem_of_mem_take mem_range mem_replicate mem_reverse mem_singleton nil_append nodup_cons not_mem_nil of_mem_zip range_succ replicate_succ reverse_cons reverse_reverse size_toArray sum_append sum_cons sum_nil take_add_one take_length take_of_length_le zip_append zip_cons_cons)
open Nat (add_mul le_add_right le_of_lt le_refl le_succ le_trans lt_irrefl lt_of_le_of_lt lt_of_lt_of_le lt_succ_of_lt lt_succ_self mul_le_mul mul_le_mul_right mul_one ne_of_gt ne_of_lt one_mul sub_zero zero_add zero_le)
open PySem.Heap (get?_push_of_some get?_push_size lt_size size_push)
open Option (bind_some isSome_iff_exists isSome_map isSome_none isSome_some map_eq_some_iff map_some)
open Bool (and_eq_true false_eq_true or_eq_false_iff)
open PySem.F (args_tuple_add_2 entry_tuple_add plainAttrs_list slot_list_iadd slot_list_index slot_tuple_add slot_tuple_mul)
open PySem.W (cellsFrom_some kia_one)
theorem L2.sz1:1≤PySem.sizeLine:=by decide
theorem L2.sz2:2≤PySem.sizeLine:=by decide
theorem L2.sz3:3≤PySem.sizeLine:=by decide
theorem L2.sz4:4≤PySem.sizeLine:=by decide
theorem L2.sz5:5≤PySem.sizeLine:=by decide
theorem L2.sz6:6≤PySem.sizeLine:=by decide
theorem lmp {α β:Type _}{as:List α} (f:α->β):(as.map f).length=as.length:=length_map f
theorem gEq {α:Type _}{l:List α}{i:Nat} (h:i<l.length):l[i]? = some l[i]:=List.getElem?_eq_getElem h
set_option bootstrap.genMatcherCode false
set_option compiler.extract_closed false
set_option hygiene false
local macro_rules
 | `(tactic| omega) => `(tactic| first | lia | omega (config := {}))
set_option Elab.async false
set_option linter.all false
set_option maxRecDepth 100000
namespace L2
open PySem PySem.Spec PyProof.Rows
abbrev Key:=Sum Int Str
def keyIs:Key->Value->Bool
 | .inl k,v=>Value.isInt k v
 | .inr x,v=>Value.isStrOf x v
def keyH (w:World):Key->Int
 | .inl k=>hashInt k
 | .inr x=>hashStr w x
theorem Zdj:∀ {k:Key}{v:Value},keyIs k v=true->(∃ i t,k=Sum.inl i/\v=Value.int i t) \/ (∃ x t,k=Sum.inr x/\v=Value.str x t)
 | .inl i,v,h=>by
  obtain ⟨t,e⟩:=Value.isInt_shape (k:=i) (v:=v) h
  exact .inl ⟨i,t,rfl,e⟩
 | .inr x,v,h=>by
  obtain ⟨t,e⟩:=Value.isStrOf_shape (x:=x) (v:=v) h
  exact .inr ⟨x,t,rfl,e⟩
theorem Ztl (i:Int) (t:Tok):keyIs (.inl i) (.int i t)=true:=by simp [keyIs,Value.isInt]
theorem Ztm (x:Str) (t:Tok):keyIs (.inr x) (.str x t)=true:=by simp [keyIs,Value.isStrOf]
theorem Zyz (a b:Int):decide ((Sum.inl a:Key)=Sum.inl b)=(a == b):=by
 by_cases e:a=b
 ·subst e;simp
 ·have h:¬ (Sum.inl a:Key)=Sum.inl b:=λ q=>e (Sum.inl.inj q)
  rw [decide_eq_false h]
  exact (beq_eq_false_iff_ne.mpr e).symm
theorem Zz2 (a b:Str):decide ((Sum.inr a:Key)=Sum.inr b)=decide (a=b):=by
 by_cases e:a=b
 ·subst e;simp
 ·have h:¬ (Sum.inr a:Key)=Sum.inr b:=λ q=>e (Sum.inr.inj q)
  rw [decide_eq_false h,decide_eq_false e]
theorem Zz0 (a:Int) (b:Str):decide ((Sum.inl a:Key)=Sum.inr b)=false:=decide_eq_false (λ q=>nomatch q)
theorem Zz1 (a:Str) (b:Int):decide ((Sum.inr a:Key)=Sum.inl b)=false:=decide_eq_false (λ q=>nomatch q)
def mixKind (prog:Program) (w:World):PySem.KeyKind prog w Key where
 is:=keyIs
 hash:=keyH w
 inj:=λ v a b ha hb=>by
  rcases Zdj ha with ⟨i,t,rfl,rfl⟩|⟨x,t,rfl,rfl⟩
  ·rcases Zdj hb with ⟨j,u,rfl,e⟩|⟨y,u,rfl,e⟩
   ·injection e with e1 _;rw [e1]
   ·exact nomatch e
  ·rcases Zdj hb with ⟨j,u,rfl,e⟩|⟨y,u,rfl,e⟩
   ·exact nomatch e
   ·injection e with e1 _;rw [e1]
 byValue:=λ k v h=>by
  rcases Zdj h with ⟨i,t,rfl,rfl⟩|⟨x,t,rfl,rfl⟩ <;> rfl
 pyHash:=λ hv h=>by
  rcases Zdj hv with ⟨i,t,rfl,rfl⟩|⟨x,t,rfl,rfl⟩
  ·exact wpAny_pyHash_int h
  ·exact wpAny_pyHash_str h
 eqBool:=λ hu hv h=>by
  rcases Zdj hu with ⟨i,t,rfl,rfl⟩|⟨x,t,rfl,rfl⟩
  ·rcases Zdj hv with ⟨j,u,rfl,rfl⟩|⟨y,u,rfl,rfl⟩
   ·rw [Zyz] at h;exact wpAny_eqBool_int h
   ·rw [Zz0] at h;exact SeqAt.EqAt.int_str i t y u _ _ _ _ h
  ·rcases Zdj hv with ⟨j,u,rfl,rfl⟩|⟨y,u,rfl,rfl⟩
   ·rw [Zz1] at h;exact SeqAt.EqAt.str_int x t j u _ _ _ _ h
   ·rw [Zz2] at h;exact wpAny_eqBool_str h
 «strs»:=λ k x t v h=>by
  rcases Zdj h with ⟨i,u,rfl,e⟩|⟨y,u,rfl,e⟩
  ·exact nomatch e
  ·injection e with e1 _
   subst e1
   cases v <;> rfl
theorem Zq6 (prog:Program) (w:World) (i:Int) (t:Tok):(mixKind prog w).is (.inl i) (.int i t)=true:=Ztl i t
theorem Zq7 (prog:Program) (w:World) (x:Str) (t:Tok):(mixKind prog w).is (.inr x) (.str x t)=true:=Ztm x t
end L2
namespace L2
open PySem PySem.Spec PyProof.Rows
inductive V where
 | non|bl (b:Bool)|int (i:Int)|str (x:Str)|byt (b:Array UInt8)|flt (b:UInt64)|ref (a:Addr)|ty (n:String)
 deriving DecidableEq
def RelV:V->Value->Prop
 | .non,u=>u=Value.none
 | .bl b,u=>u=Value.bool b
 | .int i,u=>∃ t,u=Value.int i t
 | .str x,u=>∃ t,u=Value.str x t
 | .byt b,u=>∃ t,u=Value.bytes b t
 | .flt b,u=>∃ t,u=Value.float b t
 | .ref a,u=>u=Value.ref a
 | .ty n,u=>u=Value.type n
abbrev Vals:List V->List Value->Prop:=Paired RelV
theorem Vals.length {xs:List V}{us:List Value} (r:Vals xs us):xs.length=us.length:=Paired.length r
theorem Vals.get:∀ {xs:List V}{us:List Value}{i:Nat}{x:V},Vals xs us->xs[i]? = some x->∃ u,us[i]? = some u/\RelV x u
 | _,_,_,_,.nil,e=>by simp at e
 | _,_,0,_,.cons r _,e=>by simp at e;subst e;exact ⟨_,rfl,r⟩
 | _,_,i+1,x,.cons _ t,e=>by
  obtain ⟨u,h1,h2⟩:=Vals.get (i:=i) (x:=x) t (by simpa using e)
  exact ⟨u,by simpa using h1,h2⟩
theorem Vals.set {x:V}{u:Value} (r:RelV x u):∀ {xs:List V}{us:List Value} (i:Nat),Vals xs us->Vals (xs.set i x) (us.set i u)
 | _,_,_,.nil=>.nil
 | _,_,0,.cons _ t=>.cons r t
 | _,_,i+1,.cons q t=>.cons q (Vals.set r i t)
theorem Vals.append:∀ {xs ys:List V}{us ws:List Value},Vals xs us->Vals ys ws->Vals (xs++ys) (us++ws)
 | _,_,_,_,.nil,s=>s
 | _,_,_,_,.cons r t,s=>.cons r (Vals.append t s)
theorem Vals.take:∀ {xs:List V}{us:List Value} (n:Nat),Vals xs us->Vals (xs.take n) (us.take n)
 | _,_,0,_=>.nil
 | _,_,_+1,.nil=>.nil
 | _,_,n+1,.cons r t=>.cons r (Vals.take n t)
theorem Vals.drop:∀ {xs:List V}{us:List Value} (n:Nat),Vals xs us->Vals (xs.drop n) (us.drop n)
 | _,_,0,r=>r
 | _,_,_+1,.nil=>.nil
 | _,_,n+1,.cons _ t=>Vals.drop n t
theorem Vals.none_of:∀ {xs:List V}{us:List Value}{i:Nat},Vals xs us->xs[i]? = none->us[i]? = none:=λ {xs us i} r e=>by
 have h1:=r.length
 have h2:xs.length≤i:=List.getElem?_eq_none_iff.mp e
 exact List.getElem?_eq_none_iff.mpr (by omega)
def RelO:Option V->Option Value->Prop
 | some v,some u=>RelV v u
 | none,none=>True
 | _,_=>False
def KV {κ:Type}:List (κ × V)->List (κ × Value)->Prop:=Paired λ (p:κ × V) (q:κ × Value)=>p.1=q.1/\RelV p.2 q.2
def kV:Key->V
 | .inl i=>.int i
 | .inr x=>.str x
inductive HO where
 /-- a list -/
 | lst (xs:List V)
 /-- a tuple (never changes) -/
 | tup (xs:List V)
 /-- a dict whose keys are ints and texts;one whose keys are tuples of ints and texts (the empty one is both) -/
 | dK (kvs:List (Key × V))|dT (kvs:List (List Key × V))
 /-- a set of ints: its members,its size -/
 | set (S:Int->Bool) (n:Nat)
 /-- an instance of the class at C,its dict at dx,its attributes -/
 | ins (C dx:Addr) (fs:List (Str × V))
 /-- the dict of the instance at x -/
 | own (x:Addr)
 /-- the dict of an exception -/
 | xd (fs:List (Str × V))
 /-- a bound method,f of x -/
 | met (f x:Addr)
 /-- a range object lo,lo+1,.. below hi -/
 | rng (lo hi:Int)
 /-- a thing that is known to the object (the script;a dict while a loop walks it): read,never written while it is so -/
 | frz (o:Obj) (u:HO)
 /-- a code object's table -/
 | tbl (ps:Array Value)
 /-- any other thing,by what is true of its one object (a def of one's own: SetO a S n:=HO.ext λ h=>..) -/
 | ext (φ:Heap->Prop)
abbrev Hp:=Addr->Option HO
def upd (H:Hp) (a:Addr) (o:HO):Hp:=λ b=>if b=a then some o else H b
theorem Zbw {H:Hp}{a:Addr}{o:HO}:upd H a o a=some o:=by unfold upd;rw [if_pos rfl]
theorem Zbk {H:Hp}{a b:Addr}{o:HO} (h:b≠a):upd H a o b=H b:=by unfold upd;rw [if_neg h]
theorem Zz3 {H:Hp}{a b:Addr}{o u:HO} (h:H a=some o) (h':H b=some u) (d:o≠u):a≠b:=by
 intro e;subst e;rw [h] at h';exact d (Option.some.inj h')
theorem Zeh {H:Hp}{a b:Addr}{o:HO} (h:H a=some o) (h':H b=none):a≠b:=by
 intro e;subst e;rw [h] at h';cases h'
def IsTu (h:Heap) (a:Addr) (its:Array Value):Prop:=∃ o,h.get? a=some o/\o.cls = .type "tuple"/\∃ n,o.data = .seq its n/\o.dict=none
theorem IsTu.tup {h:Heap}{a:Addr}{its:Array Value} (x:IsTu h a its):IsTup h a its:=by obtain ⟨o,e,c,n,d,_⟩:=x;exact ⟨o,e,c,n,d⟩
theorem IsTu.new (h:Heap) (its:Array Value):IsTu (h.push { cls:=.type "tuple",data:=.seq its }) h.objs.size its:=⟨_,get?_push_size _ rfl,rfl,0,rfl,rfl⟩
section
variable (P:Program) (w:World)
def ObjOk (H:Hp) (h:Heap) (a:Addr):HO->Prop
 | .lst xs=>xs.length≤sizeLine/\∃ (its:List Value) (n:Nat),Vals xs its/\h.get? a=some { cls:=.type "list",data:=.seq its.toArray n }
 | .tup xs=>xs.length≤sizeLine/\∃ its:List Value,Vals xs its/\IsTu h a its.toArray
 | .dK kvs=>kvs.length≤sizeLine/\(a == sysModules)=false/\∃ vs,KV kvs vs/\h.DictOf (mixKind P w) a vs
 | .dT kvs=>kvs.length≤sizeLine/\(a == sysModules)=false/\∃ xs:List (List Key × Addr × Value),
   Paired (λ (p:List Key × V) (q:List Key × Addr × Value)=>p.1=q.1/\H q.2.1=some (.tup (p.1.map kV))/\RelV p.2 q.2.2) kvs xs /\
   ∃ o es ep,h.get? a=some o/\o.ExactDict/\o.data = .dict es ep/\es.toList=xs.map (entryOfKey (tupleKind (mixKind P w)))/\(xs.map (·.1)).Nodup
 | .set S n=>h.SetOf (intKind P w) a S n
 | .ins C dx fs=>H dx=some (.own a)/\fs.length≤1000/\dx≠a/\h.get? a=some (PySem.W.instObj C dx) /\
   ∃ mA,h.Ns1 dx mA/\(∀ f,RelO (fs.lookup f) (mA f))/\PySem.Within mA (fs.map (·.1))
 | .own _=>∃ o,h.get? a=some o
 | .xd fs=>∃ mA,h.Ns1 a mA/\∀ f,RelO (fs.lookup f) (mA f)
 | .rng lo hi=>∃ t u v,h.get? a=some { cls:=.type "range",data:=.fields #[.int lo t,.int hi u,.int 1 v] }
 | .frz o u=>h.get? a=some o/\ObjOk H h a u
 | .tbl ps=>h.get? a=some { cls:=.none,data:=.fields ps }
 | .met f x=>h.get? a=some (PySem.W.methodObj (.ref f) (.ref x))
 | .ext φ=>φ h/\(∃ o,h.get? a=some o)/\∀ h1 h2:Heap,φ h1->(∀ o,h1.get? a=some o->h2.get? a=some o)->φ h2
def HOk (H:Hp) (h:Heap):Prop:=∀ a o,H a=some o->ObjOk P w H h a o
end
section
variable {P:Program}{w:World}{H H':Hp}{h h':Heap}{a:Addr}{o:HO}
theorem ObjOk.lt (x:ObjOk P w H h a o):a<h.objs.size:=by
 cases o with
 | lst xs=>obtain ⟨_,_,_,_,e⟩:=x;exact lt_size e
 | tup xs=>obtain ⟨_,_,_,p⟩:=x;exact p.tup.lt
 | dK kvs=>obtain ⟨_,_,_,_,o,_,_,e,_⟩:=x;exact lt_size e
 | dT kvs=>obtain ⟨_,_,_,_,o,_,_,e,_⟩:=x;exact lt_size e
 | set S n=>obtain ⟨o,_,_,_,e,_⟩:=x;exact lt_size e
 | ins C dx fs=>obtain ⟨_,_,_,e,_⟩:=x;exact lt_size e
 | own y=>obtain ⟨_,e⟩:=x;exact lt_size e
 | xd fs=>obtain ⟨_,⟨_,_,_,e,_⟩,_⟩:=x;exact lt_size e
 | rng lo hi=>obtain ⟨_,_,_,e⟩:=x;exact lt_size e
 | frz ob u=>obtain ⟨e,_⟩:=x;exact lt_size e
 | tbl ps=>exact lt_size (show h.get? a=some _ from x)
 | met f y=>exact lt_size (show h.get? a=some _ from x)
 | ext φ=>obtain ⟨_,⟨_,e⟩,_⟩:=x;exact lt_size e
theorem Paired.mapP {α β:Type}{F G:α->β->Prop}:∀ {l₁:List α}{l₂:List β},Paired F l₁ l₂->(∀ a b,F a b->G a b)->Paired G l₁ l₂
 | _,_,.nil,_=>.nil
 | _,_,.cons r t,f=>.cons (f _ _ r) (Paired.mapP t f)
theorem ObjOk.stay (x:ObjOk P w H h a o) (k:∀ b u,(b=a \/ H b=some (.own a))->h.get? b=some u->h'.get? b=some u)
  (ho:∀ b,H b=some (.own a)->H' b=some (.own a)) (ht:∀ b xs,H b=some (.tup xs)->H' b=some (.tup xs)):ObjOk P w H' h' a o:=by
 induction o with
 | lst xs=>obtain ⟨z,its,n,r,e⟩:=x;exact ⟨z,its,n,r,k _ _ (.inl rfl) e⟩
 | tup xs=>obtain ⟨z,its,r,ob,e,c⟩:=x;exact ⟨z,its,r,ob,k _ _ (.inl rfl) e,c⟩
 | dK kvs=>obtain ⟨z,y,vs,r,ob,es,ep,e,c⟩:=x;exact ⟨z,y,vs,r,ob,es,ep,k _ _ (.inl rfl) e,c⟩
 | dT kvs=>
  obtain ⟨z,y,xs,r,ob,es,ep,e,c⟩:=x
  exact ⟨z,y,xs,Paired.mapP r λ p q z=>⟨z.1,ht _ _ z.2.1,z.2.2⟩,ob,es,ep,k _ _ (.inl rfl) e,c⟩
 | set S n=>obtain ⟨ob,es,ep,t,e,c⟩:=x;exact ⟨ob,es,ep,t,k _ _ (.inl rfl) e,c⟩
 | ins C dx fs=>
  obtain ⟨d,z,ne,e,mA,⟨od,es,ep,e2,c⟩,r⟩:=x
  exact ⟨ho _ d,z,ne,k _ _ (.inl rfl) e,mA,⟨od,es,ep,k _ _ (.inr d) e2,c⟩,r⟩
 | own y=>obtain ⟨ob,e⟩:=x;exact ⟨ob,k _ _ (.inl rfl) e⟩
 | xd fs=>obtain ⟨mA,⟨od,es,ep,e,c⟩,r⟩:=x;exact ⟨mA,⟨od,es,ep,k _ _ (.inl rfl) e,c⟩,r⟩
 | rng lo hi=>obtain ⟨t,u,v,e⟩:=x;exact ⟨t,u,v,k _ _ (.inl rfl) e⟩
 | frz ob u ih=>obtain ⟨e,q⟩:=x;exact ⟨k _ _ (.inl rfl) e,ih q⟩
 | tbl ps=>
  have e:h.get? a=some { cls:=.none,data:=.fields ps }:=x
  show h'.get? a=some { cls:=.none,data:=.fields ps }
  exact k a _ (.inl rfl) e
 | met f y=>
  have e:h.get? a=some (PySem.W.methodObj (.ref f) (.ref y)):=x
  show h'.get? a=some (PySem.W.methodObj (.ref f) (.ref y))
  exact k a _ (.inl rfl) e
 | ext φ=>obtain ⟨p,⟨o,e⟩,st⟩:=x;exact ⟨st _ _ p λ o q=>k _ _ (.inl rfl) q,⟨o,k _ _ (.inl rfl) e⟩,st⟩
theorem HOk.lt (x:HOk P w H h) (e:H a=some o):a<h.objs.size:=(x a o e).lt
theorem HOk.fresh (x:HOk P w H h) (e:h.objs.size≤a):H a=none:=by
 cases q:H a with
 | none=>rfl
 | some u=>exact absurd (lt_of_lt_of_le (x.lt q) e) (lt_irrefl _)
theorem HOk.kept (x:HOk P w H h) (k:∀ b u,h.get? b=some u->h'.get? b=some u):HOk P w H h':=λ a o e=>
 (x a o e).stay (λ b u _ q=>k b u q) (λ _ q=>q) λ _ _ q=>q
theorem HOk.laid (x:HOk P w H h) (k:∀ b u,h.get? b=some u->h'.get? b=some u) (hp:h.objs.size≤a) (new:ObjOk P w (upd H a o) h' a o):HOk P w (upd H a o) h':=λ b u e=>by
 have hn:=x.fresh hp
 by_cases hb:b=a
 ·subst hb;rw [Zbw] at e;cases e;exact new
 ·rw [Zbk hb] at e
  exact (x b u e).stay (λ c v _ q=>k c v q) (λ c q=>by rw [Zbk (Zeh q hn)];exact q) λ c xs q=>by rw [Zbk (Zeh q hn)];exact q
end
def Rd (H:Hp) (a:Addr) (u:HO):Prop:=H a=some u \/ ∃ o,H a=some (.frz o u)
theorem Rd.of {H:Hp}{a:Addr}{u:HO} (h:H a=some u):Rd H a u:=.inl h
theorem Rd.ok {P:Program}{w:World}{H:Hp}{h:Heap}{a:Addr}{u:HO} (r:Rd H a u) (x:HOk P w H h):ObjOk P w H h a u:=by
 rcases r with r|⟨o,r⟩
 ·exact x a u r
 ·obtain ⟨_,q⟩:=x a _ r
  exact q
def Mut:Option HO->Prop
 | some (.lst _)=>True
 | some (.dK _)=>True
 | some (.dT _)=>True
 | some (.set _ _)=>True
 | some (.ins _ _ _)=>True
 | some (.ext _)=>True
 | _=>False
section
variable {P:Program}{w:World}{H:Hp}{h h':Heap}{x e:Addr}{o':HO}
theorem HOk.write (ok:HOk P w H h) (mu:Mut (H x)) (he:e=x \/ H e=some (.own x)) (k:∀ b u,b≠e->h.get? b=some u->h'.get? b=some u) (heo:∃ u,h'.get? e=some u)
  (new:ObjOk P w (upd H x o') h' x o'):HOk P w (upd H x o') h':=λ b u q=>by
 have nown:∀ c y,H c=some (.own y)->c≠x:=λ c y r z=>by subst z;rw [r] at mu;exact mu
 have ntup:∀ c xs,H c=some (.tup xs)->c≠x:=λ c xs r z=>by subst z;rw [r] at mu;exact mu
 by_cases hb:b=x
 ·subst hb;rw [Zbw] at q;cases q;exact new
 ·rw [Zbk hb] at q
  by_cases hbe:b=e
  ·have q':H b=some (.own x):=by
    rcases he with z|z
    ·exact absurd (hbe.trans z) hb
    ·rw [hbe];exact z
   rw [q] at q';cases q'
   obtain ⟨v,hv⟩:=heo
   exact ⟨v,by rw [hbe];exact hv⟩
  ·refine (ok b u q).stay (λ c v hc r=>k c v ?_ r) (λ c r=>by rw [Zbk (nown c b r)];exact r) λ c xs r=>by rw [Zbk (ntup c xs r)];exact r
   rcases hc with rfl|hc
   ·exact hbe
   ·rintro rfl
    rcases he with z|z
    ·exact nown c b hc z
    ·rw [hc] at z;cases z;exact hb rfl
end
structure Un (fs ex:List Addr) (H H':Hp) (h h':Heap):Prop where
 keep:∀ b o,h.get? b=some o->H b=none->b ∉ fs->b ∉ ex->h'.get? b=some o
 slot:∀ b o,h.get? b=some o->H b=none->b∈fs->b ∉ ex->∃ sl,h'.get? b=some { o with slots:=sl }
 free:∀ b o,h.get? b=some o->H b=none->b ∉ ex->H' b=none
 there:∀ b o,h.get? b=some o->b ∉ ex->∃ o',h'.get? b=some o'
 tups:∀ b xs,H b=some (.tup xs)->H' b=some (.tup xs)
 frzs:∀ b o u,H b=some (.frz o u)->H' b=some (.frz o u)
 tbls:∀ b ps,H b=some (.tbl ps)->∃ more,H' b=some (.tbl (ps++more))
section
variable {fs fs' ex ex':List Addr}{H H1 H2:Hp}{h h1 h2 h':Heap}{a x e:Addr}{o:HO}
theorem Un.any (u:Un fs ex H H1 h h1) {b:Addr}{ob:Obj} (q:h.get? b=some ob) (n:H b=none) (hx:b ∉ ex):∃ sl,h1.get? b=some { ob with slots:=sl }:=by
 by_cases hb:b∈fs
 ·exact u.slot b ob q n hb hx
 ·exact ⟨ob.slots,u.keep b ob q n hb hx⟩
theorem Un.trans (a:Un fs ex H H1 h h1) (b:Un fs ex H1 H2 h1 h2):Un fs ex H H2 h h2 where
 keep:=λ c ob q n hc hx=>b.keep c ob (a.keep c ob q n hc hx) (a.free c ob q n hx) hc hx
 slot:=λ c ob q n hc hx=>by
  obtain ⟨sl,e1⟩:=a.slot c ob q n hc hx
  obtain ⟨sl',e2⟩:=b.slot c _ e1 (a.free c ob q n hx) hc hx
  exact ⟨sl',e2⟩
 free:=λ c ob q n hx=>by
  obtain ⟨o',e1⟩:=a.there c ob q hx
  exact b.free c o' e1 (a.free c ob q n hx) hx
 there:=λ c ob q hx=>by
  obtain ⟨o',e1⟩:=a.there c ob q hx
  exact b.there c o' e1 hx
 tups:=λ c xs q=>b.tups c xs (a.tups c xs q)
 frzs:=λ c ob xs q=>b.frzs c ob xs (a.frzs c ob xs q)
 tbls:=λ c ps q=>by
  obtain ⟨m1,e1⟩:=a.tbls c ps q
  obtain ⟨m2,e2⟩:=b.tbls c _ e1
  exact ⟨m1++m2,by rw [e2,Array.append_assoc]⟩
theorem Un.kept (k:∀ b u,h.get? b=some u->h'.get? b=some u):Un fs ex H H h h':=
 ⟨λ b ob q _ _ _=>k b ob q,λ b ob q _ _ _=>⟨ob.slots,k b ob q⟩,λ _ _ _ n _=>n,λ b ob q _=>⟨ob,k b ob q⟩,λ _ _ q=>q,λ _ _ _ q=>q,λ _ ps q=>⟨#[],by rw [q];simp⟩⟩
theorem Un.refl:Un fs ex H H h h:=Un.kept λ _ _ q=>q
theorem Un.laid (k:∀ b u,h.get? b=some u->h'.get? b=some u) (hp:h.objs.size≤a) (hn:H a=none):Un fs ex H (upd H a o) h h' where
 keep:=λ b u q _ _ _=>k b u q
 slot:=λ b u q _ _ _=>⟨u.slots,k b u q⟩
 free:=λ b u q n _=>by rw [Zbk (ne_of_lt (lt_of_lt_of_le (lt_size q) hp))];exact n
 there:=λ b u q _=>⟨u,k b u q⟩
 tups:=λ b xs q=>by rw [Zbk (Zeh q hn)];exact q
 frzs:=λ b u xs q=>by rw [Zbk (Zeh q hn)];exact q
 tbls:=λ b ps q=>⟨#[],by rw [Zbk (Zeh q hn),q];simp⟩
theorem Un.write (mu:Mut (H x)) (he:e=x \/ H e=some (.own x)) (k:∀ b u,b≠e->h.get? b=some u->h'.get? b=some u) (heo:∃ u,h'.get? e=some u):Un fs ex H (upd H x o) h h':=by
 have hx:∀ b,H b=none->b≠x:=λ b n z=>by subst z;rw [n] at mu;exact mu
 have hb:∀ b,H b=none->b≠e:=λ b n z=>by
  subst z
  rcases he with r|r
  ·exact hx b n r
  ·rw [n] at r;cases r
 have hm:∀ b u,H b=some u->¬ Mut (some u)->b≠x:=λ b u q nm z=>by subst z;rw [q] at mu;exact nm mu
 refine ⟨λ b u q n _ _=>k b u (hb b n) q,λ b u q n _ _=>⟨u.slots,k b u (hb b n) q⟩,λ b u q n _=>by rw [Zbk (hx b n)];exact n,λ b u q _=>?_,
  λ b xs q=>by rw [Zbk (hm b _ q λ z=>z)];exact q,λ b u xs q=>by rw [Zbk (hm b _ q λ z=>z)];exact q,λ b ps q=>⟨#[],by rw [Zbk (hm b _ q λ z=>z),q];simp⟩⟩
 by_cases hbe:b=e
 ·subst hbe;exact heo
 ·exact ⟨u,k b u hbe q⟩
end
def trk (h:Heap) (H:Hp):List Addr:=(List.range h.objs.size).filter λ a=>(H a).isSome
def hidT (h:Heap) (H:Hp):Heap:=PySem.W.hideAll h (trk h H)
theorem Ztg (h:Heap) (H:Hp):(hidT h H).objs.size=h.objs.size:=PySem.W.hideAll_size _ _
theorem Zv7 {h:Heap}{H:Hp}{b:Addr}{o:Obj} (e:h.get? b=some o) (n:H b=none):(hidT h H).get? b=some o:=
 PySem.W.hideAll_get _ e λ hm=>by
  have q:(H b).isSome=true:=(mem_filter.mp hm).2
  rw [n] at q;simp at q
theorem Zxl {h:Heap}{H:Hp}{b:Addr}{o:Obj} (e:(hidT h H).get? b=some o):h.get? b=some o/\H b=none:=by
 have e':h.get? b=some o:=PySem.W.of_hideAll (trk h H) e
 refine ⟨e',?_⟩
 cases q:H b with
 | none=>rfl
 | some x=>
  have hm:b∈trk h H:=mem_filter.mpr ⟨mem_range.mpr (lt_size e'),by simp [q]⟩
  have z:(hidT h H).get? b=none:=PySem.W.hideAll_none (trk h H) hm
  rw [z] at e;cases e
def allNews (g h:Heap) (L:Addr):List (Addr × Obj):=(List.range h.objs.size).filterMap λ a=>if a=L \/ (g.get? a).isSome=true then none else (h.get? a).map λ o=>(a,o)
def rest (g h:Heap) (L d:Addr):List (Addr × Obj):=(allNews g h L).filter λ p=>decide (p.1≠d)
end L2
namespace L2
open PySem PySem.Spec PyProof.Rows
structure Mod (K:PySem.W.Frag) (mg:Str->Option Value) (base:Heap):Prop where
 kin:K.In base
 glob:base.Ns mainGlobals mg
 blt:∃ mb,base.Ns builtinsNs mb/\∀ x:Str,x≠"__name__"->mb x=bootBuiltins x
 nolimit:base.NoLimit
structure Cx where
 prog:Program
 w:World
 K:PySem.W.Frag
 mg:Str->Option Value
 base:Heap
 A:Around
 N:List Str
 s₀:Shared
 H₀:Hp
 env:Env
 outer:List Env
 stack:List Env
 ex:List Addr
 fn:Str->Bool
 calm:Bool
 pn:List (Addr × Obj)
 xe:Value->Shared->Prop
def frs (l:List Env):List Addr:=l.filterMap (·.frame)
abbrev Cx.fs (X:Cx):List Addr:=frs X.outer
def Vis (sc:Scope) (x:Str):Prop:=sc.names.lookup x=some .local \/ sc.names.lookup x=some .cell \/ sc.names.lookup x=some .free
def Loc (sc:Scope) (x:Str):Prop:=sc.names.lookup x=some .local \/ sc.names.lookup x=some .cell
def Look (env:Env) (h:Heap) (m:Str->Option Value) (x:Str) (u:Value):Prop:=
 (env.kindOf x=some .local/\m x=some u) \/ ((env.kindOf x=some .cell \/ env.kindOf x=some .free)/\∃ c,env.cells.lookup x=some c/\h.IsCell c (some u))
structure Cx.Ok (X:Cx):Prop where
 mod:Mod X.K X.mg X.base
 kind:X.env.scope.kind = .function
 glob:X.env.globals=mainGlobals
 blt:X.env.builtins=builtinsNs
 above:X.s₀.heap.objs.size≤X.env.locals
 inj:∀ x y c,X.env.cells.lookup x=some c->X.env.cells.lookup y=some c->x=y
 has:∀ x,(X.env.kindOf x=some .cell \/ X.env.kindOf x=some .free)->∃ c,X.env.cells.lookup x=some c
 cab:∀ x c,X.fn x=true->X.env.cells.lookup x=some c->X.s₀.heap.objs.size≤c
 hd:X.calm=true->X.A.handled=none
 frames:X.A.frames=some X.stack
 stk:X.stack=X.outer \/ (X.stack=X.env::X.outer/\X.env.frame=some X.env.locals)
 exf:∀ b∈X.ex,b≠X.env.locals/\∀ x c,X.env.cells.lookup x=some c->c≠b
 bs:∀ b o,X.base.get? b=some o->X.s₀.heap.get? b=some o/\X.H₀ b=none
 bsz:X.base.objs.size≤X.s₀.heap.objs.size
 noex:∀ b o,X.base.get? b=some o->b ∉ X.ex
 exfs:∀ b∈X.ex,b ∉ X.fs
 funs:X.s₀.heap.FunFrames X.base X.outer
 frf:∀ b∈X.fs,X.H₀ b=none
structure Inv (X:Cx) (pins:List (Addr × Obj)) (σ:List (Option V)) (H:Hp) (s:Shared):Prop where
 ok:X.Ok
 os:s.os=X.s₀.os
 bare:AllBare s.gens
 base:Un X.fs X.ex X.H₀ H X.s₀.heap s.heap
 loc:∃ m,s.heap.Ns X.env.locals m/\∀ (i:Nat) (x:Str) (v:V),X.N[i]? = some x->σ[i]? = some (some v)->Vis X.env.scope x->∃ u,RelV v u/\Look X.env s.heap m x u
 cell:∀ x c,X.env.cells.lookup x=some c->∃ v,s.heap.IsCell c v
 free:H X.env.locals=none
 freeC:∀ x c,X.env.cells.lookup x=some c->H c=none
 pin:∀ p∈X.pn++pins,s.heap.get? p.1=some p.2/\H p.1=none/\p.1≠X.env.locals/\p.1 ∉ X.fs/\∀ v,p.2.data≠.cell v
 hok:HOk X.prog X.w H s.heap
 len:σ.length=X.N.length
section
variable {X:Cx}{pins:List (Addr × Obj)}{σ:List (Option V)}{H H':Hp}{s:Shared}{h':Heap}
theorem Cx.Ok.nofr (ok:X.Ok) {b:Addr}{o:Obj} (e:X.base.get? b=some o):b ∉ X.fs:=λ hb=>by
 have:=(ok.funs.mem hb).1
 rw [e] at this;cases this
theorem Inv.bs (I:Inv X pins σ H s):∀ b o,X.base.get? b=some o->s.heap.get? b=some o/\H b=none:=λ b o e=>
 ⟨I.base.keep b o (I.ok.bs b o e).1 (I.ok.bs b o e).2 (I.ok.nofr e) (I.ok.noex b o e),I.base.free b o (I.ok.bs b o e).1 (I.ok.bs b o e).2 (I.ok.noex b o e)⟩
theorem Inv.bk (I:Inv X pins σ H s):∀ b o,X.base.get? b=some o->s.heap.get? b=some o:=λ b o e=>(I.bs b o e).1
theorem Inv.mod (I:Inv X pins σ H s):Mod X.K X.mg X.base:=I.ok.mod
theorem Inv.kIn (I:Inv X pins σ H s):X.K.In s.heap:=I.ok.mod.kin.keeps I.bk
theorem Inv.nolimit (I:Inv X pins σ H s):s.heap.NoLimit:=I.ok.mod.nolimit.keeps I.bk
theorem Inv.lt (I:Inv X pins σ H s):X.env.locals<s.heap.objs.size:=let ⟨_,hn,_⟩:=I.loc;hn.lt
theorem Inv.sz (I:Inv X pins σ H s):X.s₀.heap.objs.size≤s.heap.objs.size:=le_trans I.ok.above (le_of_lt I.lt)
theorem Inv.nofs (I:Inv X pins σ H s) {a:Addr} (h:s.heap.objs.size≤a):a ∉ X.fs:=λ hb=>by
 obtain ⟨_,o,ho,_⟩:=I.ok.funs.mem hb
 exact absurd (lt_of_lt_of_le (lt_size ho) (le_trans I.sz h)) (lt_irrefl _)
theorem Inv.cne (I:Inv X pins σ H s):∀ x c,X.env.cells.lookup x=some c->c≠X.env.locals:=λ x c e z=>by
 obtain ⟨v,o,ho,hd⟩:=I.cell x c e
 obtain ⟨m,⟨o',es,ep,ho',hd',_⟩,_⟩:=I.loc
 rw [z,ho'] at ho;cases ho;rw [hd'] at hd;cases hd
theorem Inv.funs (I:Inv X pins σ H s):s.heap.FunFrames X.base X.outer:=by
 have all:∀ (l:List Env),(∀ b∈frs l,b∈X.fs)->X.s₀.heap.FunFrames X.base l->s.heap.FunFrames X.base l:=by
  intro l
  induction l with
  | nil=>intro _ _;trivial
  | cons env r ih=>
   intro hs hl
   obtain ⟨hk,⟨L,o,hf,hn,ho,hd⟩,hr⟩:=hl
   have hL:L∈X.fs:=hs L (by unfold frs;rw [filterMap_cons,hf];exact mem_cons_self)
   obtain ⟨sl,e⟩:=I.base.slot L o ho (I.ok.frf L hL) hL λ z=>I.ok.exfs L z hL
   exact ⟨hk,⟨L,_,hf,hn,e,hd⟩,ih (λ b hb=>hs b (by unfold frs;rw [filterMap_cons,hf];exact mem_cons_of_mem _ hb)) hr⟩
 exact all X.outer (λ _ hb=>hb) I.ok.funs
theorem Inv.stack (I:Inv X pins σ H s):s.heap.FunFrames X.base X.stack:=by
 rcases I.ok.stk with e|⟨e,hf⟩
 ·rw [e];exact I.funs
 ·rw [e]
  obtain ⟨m,hn,_⟩:=I.loc
  refine .cons (by rw [I.ok.kind];decide) hf hn ?_ I.funs
  exact Heap.get?_none_of_le (le_trans I.ok.bsz I.ok.above)
theorem Inv.stkSub (I:Inv X pins σ H s):∀ b∈frs X.stack,b∈X.env.locals::X.fs:=λ b hb=>by
 rcases I.ok.stk with e|⟨e,hf⟩
 ·rw [e] at hb;exact mem_cons_of_mem _ hb
 ·rw [e] at hb
  unfold frs at hb
  rw [filterMap_cons,hf] at hb
  exact hb
theorem Inv.stkFree (I:Inv X pins σ H s):∀ b∈frs X.stack,H b=none:=λ b hb=>by
 rcases mem_cons.mp (I.stkSub b hb) with e|hb
 ·rw [e];exact I.free
 ·obtain ⟨_,o,ho,_⟩:=I.ok.funs.mem hb
  exact I.base.free b o ho (I.ok.frf b hb) λ z=>I.ok.exfs b z hb
theorem Inv.step {g':Array GenState}{t':Nat}{d':Drawn}{ch:List Addr} (I:Inv X pins σ H s)
  (hch:∀ b∈ch,(b∈X.ex \/ X.s₀.heap.objs.size≤b)/\b≠X.env.locals/\(∀ x c,X.env.cells.lookup x=some c->c≠b)/\∀ p∈X.pn++pins,p.1≠b)
  (keep:∀ b o,b≠X.env.locals->b ∉ X.fs->b ∉ ch->s.heap.get? b=some o->H b=none->h'.get? b=some o)
  (slot:∀ b o,b≠X.env.locals->b∈X.fs->b ∉ ch->s.heap.get? b=some o->H b=none->∃ sl,h'.get? b=some { o with slots:=sl }) (free:∀ b o,b ∉ ch->s.heap.get? b=some o->H b=none->H' b=none)
  (there:∀ b o,b ∉ ch->s.heap.get? b=some o->∃ o',h'.get? b=some o')
  (tups:∀ b xs,H b=some (.tup xs)->H' b=some (.tup xs)) (frzs:∀ b o u,H b=some (.frz o u)->H' b=some (.frz o u)) (tbls:∀ b ps,H b=some (.tbl ps)->∃ more,H' b=some (.tbl (ps++more)))
  (ns:∀ m,s.heap.Ns X.env.locals m->h'.Ns X.env.locals m) (hok:HOk X.prog X.w H' h') (hg:AllBare g') :
  Inv X pins σ H' { s with heap:=h',gens:=g',drawn:=d',toks:=t' }:=by
 have neL:∀ b o,X.s₀.heap.get? b=some o->b≠X.env.locals:=λ b o e=>ne_of_lt (lt_of_lt_of_le (lt_size e) I.ok.above)
 have neC:∀ b o,X.s₀.heap.get? b=some o->b ∉ X.ex->b ∉ ch:=λ b o e hx hb=>by
  rcases (hch b hb).1 with z|z
  ·exact hx z
  ·exact absurd (lt_of_lt_of_le (lt_size e) z) (lt_irrefl _)
 have cellK:∀ x c,X.env.cells.lookup x=some c->∀ v,s.heap.IsCell c v->h'.IsCell c v:=λ x c e v ⟨o,ho,hd⟩=>by
  have nch:c ∉ ch:=λ z=>(hch c z).2.2.1 x c e rfl
  by_cases hc:c∈X.fs
  ·obtain ⟨sl,q⟩:=slot c o (I.cne x c e) hc nch ho (I.freeC x c e)
   exact ⟨_,q,hd⟩
  ·exact ⟨o,keep c o (I.cne x c e) hc nch ho (I.freeC x c e),hd⟩
 refine ⟨I.ok,I.os,hg,⟨λ b o e n hb hx=>?_,λ b o e n hb hx=>?_,λ b o e n hx=>?_,λ b o e hx=>?_,λ b xs e=>tups b xs (I.base.tups b xs e),λ b o xs e=>frzs b o xs (I.base.frzs b o xs e),λ b ps e=>?_⟩,?_,λ x c e=>?_,?_,λ x c e=>?_,λ p hp=>?_,hok,I.len⟩
 ·exact keep b o (neL b o e) hb (neC b o e hx) (I.base.keep b o e n hb hx) (I.base.free b o e n hx)
 ·obtain ⟨sl,e1⟩:=I.base.slot b o e n hb hx
  obtain ⟨sl',e2⟩:=slot b _ (neL b o e) hb (neC b o e hx) e1 (I.base.free b o e n hx)
  exact ⟨sl',e2⟩
 ·obtain ⟨o',e1⟩:=I.base.there b o e hx
  exact free b o' (neC b o e hx) e1 (I.base.free b o e n hx)
 ·obtain ⟨o',e1⟩:=I.base.there b o e hx
  exact there b o' (neC b o e hx) e1
 ·obtain ⟨m1,e1⟩:=I.base.tbls b ps e
  obtain ⟨m2,e2⟩:=tbls b _ e1
  exact ⟨m1++m2,by rw [e2,Array.append_assoc]⟩
 ·obtain ⟨m,hn,hl⟩:=I.loc
  refine ⟨m,ns m hn,λ i x v e1 e2 e3=>?_⟩
  obtain ⟨u,r,l⟩:=hl i x v e1 e2 e3
  refine ⟨u,r,?_⟩
  rcases l with l|⟨k,c,e,z⟩
  ·exact .inl l
  ·exact .inr ⟨k,c,e,cellK x c e _ z⟩
 ·obtain ⟨v,z⟩:=I.cell x c e
  exact ⟨v,cellK x c e v z⟩
 ·obtain ⟨m,⟨o,_,_,ho,_⟩,_⟩:=I.loc
  exact free _ o (λ z=>(hch _ z).2.1 rfl) ho I.free
 ·obtain ⟨v,o,ho,hd⟩:=I.cell x c e
  exact free c o (λ z=>(hch c z).2.2.1 x c e rfl) ho (I.freeC x c e)
 ·obtain ⟨e,n,ne,nf,d⟩:=I.pin p hp
  have nch:p.1 ∉ ch:=λ z=>(hch p.1 z).2.2.2 p hp rfl
  exact ⟨keep p.1 p.2 ne nf nch e n,free p.1 p.2 nch e n,ne,nf,d⟩
theorem Inv.un {t':Nat} (I:Inv X pins σ H s) (u:Un X.fs [] H H' s.heap h') (hok:HOk X.prog X.w H' h'):Inv X pins σ H' { s with heap:=h',toks:=t' }:=by
 obtain ⟨m,⟨o,es,ep,ho,r⟩,_⟩:=id I.loc
 obtain ⟨sl,hL⟩:=u.any ho I.free (by simp)
 exact I.step (g':=s.gens) (d':=s.drawn) (ch:=[]) (λ _ z=>nomatch z) (λ b o _ hb _ e n=>u.keep b o e n hb (by simp)) (λ b o _ hb _ e n=>u.slot b o e n hb (by simp)) (λ b o _ e n=>u.free b o e n (by simp)) (λ b o _ e=>u.there b o e (by simp)) u.tups u.frzs u.tbls (λ m' hm=>by
  obtain ⟨o',es',ep',ho',r'⟩:=hm
  rw [ho] at ho';cases ho'
  exact ⟨_,es',ep',hL,r'⟩) hok I.bare
theorem Inv.call {g':Array GenState}{t':Nat}{d':Drawn}{ch:List Addr} (I:Inv X pins σ H s) (u:Un (frs X.stack) ch H H' s.heap h') (hok:HOk X.prog X.w H' h') (hg:AllBare g')
  (hch:∀ b∈ch,(b∈X.ex \/ X.s₀.heap.objs.size≤b)/\b≠X.env.locals/\(∀ x c,X.env.cells.lookup x=some c->c≠b)/\∀ p∈X.pn++pins,p.1≠b) :
  Inv X pins σ H' { s with heap:=h',gens:=g',drawn:=d',toks:=t' }:=by
 obtain ⟨m,⟨o,es,ep,ho,r⟩,_⟩:=id I.loc
 obtain ⟨sl,hL⟩:=u.any ho I.free λ z=>(hch _ z).2.1 rfl
 exact I.step (ch:=ch) hch (λ b o hL hb hc e n=>u.keep b o e n (λ z=>(mem_cons.mp (I.stkSub b z)).elim hL hb) hc) (λ b o _ _ hc e n=>u.any e n hc) (λ b o hc e n=>u.free b o e n hc) (λ b o hc e=>u.there b o e hc) u.tups u.frzs u.tbls (λ m' hm=>by
  obtain ⟨o',es',ep',ho',r'⟩:=hm
  rw [ho] at ho';cases ho'
  exact ⟨_,es',ep',hL,r'⟩) hok hg
theorem Inv.turned {t':Nat}{it:Addr} (I:Inv X pins σ H s) (k:∀ b o,b≠it->s.heap.get? b=some o->h'.get? b=some o) (hn:H it=none) (hL:it≠X.env.locals)
  (h1:it∈X.ex \/ X.s₀.heap.objs.size≤it) (h2:∀ x c,X.env.cells.lookup x=some c->c≠it) (h3:∀ p∈X.pn++pins,p.1≠it):Inv X pins σ H { s with heap:=h',toks:=t' }:=by
 have nit:∀ b u,H b=some u->b≠it:=λ b u e z=>by rw [z,hn] at e;cases e
 refine I.step (g':=s.gens) (d':=s.drawn) (ch:=[it]) (λ b hb=>?_) (λ b o _ _ hc e _=>k b o (λ z=>hc (by simp [z])) e) (λ b o _ _ hc e _=>⟨o.slots,k b o (λ z=>hc (by simp [z])) e⟩) (λ _ _ _ _ n=>n)
  (λ b o hc e=>⟨o,k b o (λ z=>hc (by simp [z])) e⟩) (λ _ _ e=>e) (λ _ _ _ e=>e) (λ b ps e=>⟨#[],by rw [e];simp⟩) (λ m hm=>?_) (λ b u e=>?_) I.bare
 ·have e:b=it:=by simpa using hb
  subst e
  exact ⟨h1,hL,h2,h3⟩
 ·obtain ⟨o,es,ep,ho,r⟩:=hm
  exact ⟨o,es,ep,k _ o (Ne.symm hL) ho,r⟩
 ·refine (I.hok b u e).stay (λ c v hc q=>k c v ?_ q) (λ _ q=>q) λ _ _ q=>q
  rcases hc with z|z
  ·rw [z];exact nit b u e
  ·exact nit c _ z
theorem Inv.tok (I:Inv X pins σ H s) (t:Nat):Inv X pins σ H { s with toks:=t }:=I.un (h':=s.heap) (t':=t) Un.refl I.hok
theorem Inv.kept {t':Nat} (I:Inv X pins σ H s) (k:∀ b u,s.heap.get? b=some u->h'.get? b=some u):Inv X pins σ H { s with heap:=h',toks:=t' }:=I.un (Un.kept k) (I.hok.kept k)
theorem Inv.laid {a:Addr}{o:HO}{t':Nat} (I:Inv X pins σ H s) (k:∀ b u,s.heap.get? b=some u->h'.get? b=some u) (hp:s.heap.objs.size≤a) (new:ObjOk X.prog X.w (upd H a o) h' a o) :
  Inv X pins σ (upd H a o) { s with heap:=h',toks:=t' }:=I.un (Un.laid k hp (I.hok.fresh hp)) (I.hok.laid k hp new)
theorem Inv.write {x e:Addr}{o:HO}{t':Nat} (I:Inv X pins σ H s) (mu:Mut (H x)) (he:e=x \/ H e=some (.own x)) (k:∀ b u,b≠e->s.heap.get? b=some u->h'.get? b=some u) (heo:∃ u,h'.get? e=some u)
  (new:ObjOk X.prog X.w (upd H x o) h' x o):Inv X pins σ (upd H x o) { s with heap:=h',toks:=t' }:=I.un (Un.write mu he k heo) (I.hok.write mu he k heo new)
theorem Inv.pins_of {pins':List (Addr × Obj)} (I:Inv X pins σ H s) (h:∀ p∈pins',s.heap.get? p.1=some p.2/\H p.1=none/\p.1≠X.env.locals/\p.1 ∉ X.fs/\∀ v,p.2.data≠.cell v):Inv X pins' σ H s:=
 ⟨I.ok,I.os,I.bare,I.base,I.loc,I.cell,I.free,I.freeC,λ p hp=>(mem_append.mp hp).elim (λ z=>I.pin p (mem_append_left _ z)) (h p),I.hok,I.len⟩
theorem Zrf {N:List Str} (hN:N.Nodup) {i j:Nat}{x:Str} (a:N[i]? = some x) (b:N[j]? = some x):i=j:=by
 obtain ⟨h1,e1⟩:=List.getElem?_eq_some_iff.mp a
 obtain ⟨h2,e2⟩:=List.getElem?_eq_some_iff.mp b
 exact (List.getElem_inj hN).mp (e1.trans e2.symm)
theorem Zph {M:Model}{A:Around}{E:Value->Shared->Prop}{i:Nat}{x:Str}{v:V}{u:Value}{Q:Unit->Shared->Prop} (I:Inv X pins σ H s) (hN:X.N.Nodup) (hi:X.N[i]? = some x) (hx:Loc X.env.scope x) (r:RelV v u)
  (h:∀ s',Inv X pins (σ.set i (some v)) H s'->(∃ a,Heap.SameBut a s.heap s'.heap/\(a=X.env.locals \/ X.env.cells.lookup x=some a))->Q () s') (hf:X.fn x=true \/ X.env.scope.names.lookup x=some .local:=by first|exact .inl rfl|exact .inr rfl|assumption):wpAny M A (storeName X.env x u) Q E s:=by
 obtain ⟨m,hn,hl⟩:=id I.loc
 have hcls:(X.env.scope.kind == .class || (X.env.scope.kind == .module && X.env.locals != X.env.globals))=false:=by rw [I.ok.kind];rfl
 have hiσ:i<σ.length:=by rw [I.len];exact (List.getElem?_eq_some_iff.mp hi).1
 have cne:=I.cne
 have tracked:∀ {a:Addr}{h':Heap},(∃ o,s.heap.get? a=some o/\H a=none)->Heap.SameBut a s.heap h'->HOk X.prog X.w H h':=λ {a h'} ha hs b ob e=>by
  obtain ⟨_,_,hfree⟩:=ha
  refine (I.hok b ob e).stay (λ c w' hc q=>(hs.2 c ?_).trans q) (λ _ q=>q) λ _ _ q=>q
  rintro rfl
  rcases hc with rfl|hc
  ·rw [hfree] at e;cases e
  ·rw [hfree] at hc;cases hc
 rcases hx with hk|hk
 ·refine wpAny_storeName_local hk hn (λ h' hn' hs=>?_) hcls
  obtain ⟨oL,_,_,hoL,_⟩:=id hn
  refine h _ ⟨I.ok,I.os,I.bare,⟨λ b o e n hb hx=>?_,λ b o e n hb hx=>?_,I.base.free,λ b o e hx=>?_,I.base.tups,I.base.frzs,I.base.tbls⟩,⟨_,hn',λ j y v' e1 e2 e3=>?_⟩,λ y c e=>?_,I.free,I.freeC,λ p hp=>?_,tracked ⟨oL,hoL,I.free⟩ hs,by simpa using I.len⟩ ⟨_,hs,.inl rfl⟩
  ·exact (hs.2 b (ne_of_lt (lt_of_lt_of_le (lt_size e) I.ok.above))).trans (I.base.keep b o e n hb hx)
  ·obtain ⟨sl,e1⟩:=I.base.slot b o e n hb hx
   exact ⟨sl,(hs.2 b (ne_of_lt (lt_of_lt_of_le (lt_size e) I.ok.above))).trans e1⟩
  ·obtain ⟨o',e1⟩:=I.base.there b o e hx
   exact ⟨o',(hs.2 b (ne_of_lt (lt_of_lt_of_le (lt_size e) I.ok.above))).trans e1⟩
  ·by_cases hj:j=i
   ·subst hj
    rw [hi] at e1;cases e1
    rw [getElem?_set_self hiσ] at e2
    cases e2
    exact ⟨u,r,.inl ⟨hk,by simp⟩⟩
   ·rw [getElem?_set_ne (Ne.symm hj)] at e2
    obtain ⟨u',r',q⟩:=hl j y v' e1 e2 e3
    refine ⟨u',r',?_⟩
    rcases q with ⟨k,e⟩|⟨k,c,e,z⟩
    ·refine .inl ⟨k,?_⟩
     have:y≠x:=λ e=>hj (Zrf hN e1 (e▸hi))
     simp [this,e]
    ·exact .inr ⟨k,c,e,z.sameBut hs (cne y c e)⟩
  ·obtain ⟨w',z⟩:=I.cell y c e
   exact ⟨w',z.sameBut hs (cne y c e)⟩
  ·obtain ⟨e,n,ne,nf,d⟩:=I.pin p hp
   exact ⟨(hs.2 p.1 ne).trans e,n,ne,nf,d⟩
 ·have hfn:X.fn x=true:=by
   rcases hf with z|z
   ·exact z
   ·rw [z] at hk;cases hk
  obtain ⟨c,hc⟩:=I.ok.has x (.inl hk)
  obtain ⟨w',z⟩:=I.cell x c hc
  refine wpAny_storeName_cell I.ok.kind hk hc z (λ h' hc' hs=>?_)
  obtain ⟨oc,hoc,hocd⟩:=id z
  refine h { s with heap:=h' } ⟨I.ok,I.os,I.bare,⟨λ b o e n hb hx=>?_,λ b o e n hb hx=>?_,I.base.free,λ b o e hx=>?_,I.base.tups,I.base.frzs,I.base.tbls⟩,⟨m,hn.sameBut hs (Ne.symm (cne x c hc)),λ j y v' e1 e2 e3=>?_⟩,λ y c' e=>?_,I.free,I.freeC,λ p hp=>?_,tracked ⟨oc,hoc,I.freeC x c hc⟩ hs,by simpa using I.len⟩ ⟨c,hs,.inr hc⟩
  ·exact (hs.2 b (ne_of_lt (lt_of_lt_of_le (lt_size e) (I.ok.cab x c hfn hc)))).trans (I.base.keep b o e n hb hx)
  ·obtain ⟨sl,e1⟩:=I.base.slot b o e n hb hx
   exact ⟨sl,(hs.2 b (ne_of_lt (lt_of_lt_of_le (lt_size e) (I.ok.cab x c hfn hc)))).trans e1⟩
  ·obtain ⟨o',e1⟩:=I.base.there b o e hx
   exact ⟨o',(hs.2 b (ne_of_lt (lt_of_lt_of_le (lt_size e) (I.ok.cab x c hfn hc)))).trans e1⟩
  ·by_cases hj:j=i
   ·subst hj
    rw [hi] at e1;cases e1
    rw [getElem?_set_self hiσ] at e2
    cases e2
    exact ⟨u,r,.inr ⟨.inl hk,c,hc,hc'⟩⟩
   ·rw [getElem?_set_ne (Ne.symm hj)] at e2
    obtain ⟨u',r',q⟩:=hl j y v' e1 e2 e3
    refine ⟨u',r',?_⟩
    rcases q with q|⟨k,c',e,z'⟩
    ·exact .inl q
    ·refine .inr ⟨k,c',e,z'.sameBut hs ?_⟩
     rintro rfl
     exact hj (Zrf hN e1 (I.ok.inj _ _ _ e hc▸hi))
  ·by_cases hcc:c' = c
   ·subst hcc;exact ⟨_,hc'⟩
   ·obtain ⟨w2,z2⟩:=I.cell y c' e
    exact ⟨w2,z2.sameBut hs hcc⟩
  ·obtain ⟨e,n,ne,nf,d⟩:=I.pin p hp
   refine ⟨(hs.2 p.1 ?_).trans e,n,ne,nf,d⟩
   intro q
   rw [q,hoc] at e
   have q':oc=p.2:=Option.some.inj e
   exact d w' (by rw [<- q'];exact hocd)
theorem Ziv {M:Model}{A:Around}{E:Value->Shared->Prop}{i:Nat}{x:Str}{v:V}{u:Value}{Q:Unit->Shared->Prop} (I:Inv X pins σ H s) (hN:X.N.Nodup) (hi:X.N[i]? = some x) (hx:Loc X.env.scope x) (r:RelV v u)
  (h:∀ s',Inv X pins (σ.set i (some v)) H s'->Q () s') (hf:X.fn x=true \/ X.env.scope.names.lookup x=some .local:=by first|exact .inl rfl|exact .inr rfl|assumption):wpAny M A (storeName X.env x u) Q E s:=
 Zph I hN hi hx r (λ s' I' _=>h s' I') hf
theorem Inv.call' {s':Shared}{ch:List Addr} (I:Inv X pins σ H s) (ho:s'.os=s.os) (u:Un (frs X.stack) ch H H' s.heap s'.heap) (hok:HOk X.prog X.w H' s'.heap) (hg:AllBare s'.gens)
  (hch:∀ b∈ch,(b∈X.ex \/ X.s₀.heap.objs.size≤b)/\b≠X.env.locals/\(∀ x c,X.env.cells.lookup x=some c->c≠b)/\∀ p∈X.pn++pins,p.1≠b):Inv X pins σ H' s':=by
 obtain ⟨h',g',d',t',o'⟩:=s'
 have e:o' = s.os:=ho
 subst e
 exact I.call (g':=g') (t':=t') (d':=d') u hok hg hch
end
abbrev XK:=Value->Option Addr->Hp->Prop
abbrev St:=List (Option V)
abbrev VK:=V->Hp->Prop
abbrev TE:=St->Hp->VK->Prop
abbrev TT:=St->Hp->(Bool->Hp->Prop)->Prop
abbrev TA:=St->Hp->(List V->Hp->Prop)->Prop
structure Ends where
 nx:St->Hp->Prop
 rt:VK
 bk:St->Hp->Prop:=λ _ _=>False
 ct:St->Hp->Prop:=λ _ _=>False
abbrev TS:=Ends->St->Hp->Prop
def EP (X:Cx) (pins:List (Addr × Obj)) (σ:St) (Q:VK) (u:Value) (s':Shared):Prop:=∃ v H',Inv X pins σ H' s'/\RelV v u/\Q v H'
def TP (X:Cx) (pins:List (Addr × Obj)) (σ:St) (Q:Bool->Hp->Prop) (b:Bool) (s':Shared):Prop:=∃ H',Inv X pins σ H' s'/\Q b H'
def AP (X:Cx) (pins:List (Addr × Obj)) (σ:St) (Q:List V->Hp->Prop) (us:List Value) (s':Shared):Prop:=∃ vs H',Inv X pins σ H' s'/\Vals vs us/\Q vs H'
def SP (X:Cx) (pins:List (Addr × Obj)) (D:Ends) (f:Flow) (s':Shared):Prop:=
 match f with
 | .next=>∃ σ' H',Inv X pins σ' H' s'/\D.nx σ' H'
 | .brk=>∃ σ' H',Inv X pins σ' H' s'/\D.bk σ' H'
 | .cont=>∃ σ' H',Inv X pins σ' H' s'/\D.ct σ' H'
 | .ret u=>∃ v σ' H',Inv X pins σ' H' s'/\RelV v u/\D.rt v H'
def PE (X:Cx) (e:Expr) (t:TE):Prop:=
 ∀ (pins:List (Addr × Obj)) (s:Shared) (σ:St) (H:Hp) (Q:VK),Inv X pins σ H s->t σ H Q->wpAny (model X.prog X.w) X.A (eval e X.env) (EP X pins σ Q) X.xe s
def PT (X:Cx) (e:Expr) (t:TT):Prop:=
 ∀ (pins:List (Addr × Obj)) (s:Shared) (σ:St) (H:Hp) (Q:Bool->Hp->Prop),Inv X pins σ H s->t σ H Q->wpAny (model X.prog X.w) X.A (isTrue e X.env (eval e X.env)) (TP X pins σ Q) X.xe s
def PW (X:Cx) (e:Expr) (t:TT):Prop:=
 ∀ (whole:Sem Value) (pins:List (Addr × Obj)) (s:Shared) (σ:St) (H:Hp) (Q:Bool->Hp->Prop),Inv X pins σ H s->t σ H Q->wpAny (model X.prog X.w) X.A (isTrue e X.env whole) (TP X pins σ Q) X.xe s
theorem PW.pt {X:Cx}{e:Expr}{t:TT} (h:PW X e t):PT X e t:=h _
def PA (X:Cx) (es:List Expr) (t:TA):Prop:=
 ∀ (pos:Pos) (pins:List (Addr × Obj)) (s:Shared) (σ:St) (H:Hp) (Q:List V->Hp->Prop),Inv X pins σ H s->t σ H Q->wpAny (model X.prog X.w) X.A (spliced (backTo pos (starEach es X.env))) (AP X pins σ Q) X.xe s
def PS (X:Cx) (st:Stmt) (t:TS):Prop:=
 ∀ (pins:List (Addr × Obj)) (s:Shared) (σ:St) (H:Hp) (D:Ends),Inv X pins σ H s->t D σ H->wpAny (model X.prog X.w) X.A (exec st X.env) (SP X pins D) X.xe s
def PSs (X:Cx) (st:List Stmt) (t:TS):Prop:=
 ∀ (pins:List (Addr × Obj)) (s:Shared) (σ:St) (H:Hp) (D:Ends),Inv X pins σ H s->t D σ H->wpAny (model X.prog X.w) X.A (execs st X.env) (SP X pins D) X.xe s
theorem thn {α:Type}{t:Sem α}{Q Q':α->Shared->Prop}{M:Model}{A:Around}{E:Value->Shared->Prop}{s:Shared} (h:wpAny M A t Q E s) (hQ:∀ a s,Q a s->Q' a s):wpAny M A t Q' E s:=wpAny_mono h hQ λ _ _ x=>x
end L2
namespace L2
open PySem PySem.Spec PyProof.Rows
section
variable {X:Cx}
def tVar (i:Nat):TE:=λ σ H Q=>∃ v,σ[i]? = some (some v)/\Q v H
def tC (v:V):TE:=λ _ H Q=>Q v H
theorem Zu1 {i:Nat}{x:Str}{pos:Pos} (hN:X.N[i]? = some x) (hv:Vis X.env.scope x) (hd:(x == ("__debug__" : Str))=false:=by decide) (hcd:(x == ("__classdict__" : Str))=false:=by decide):PE X (.Name x pos) (tVar i):=by
 intro pins s σ H Q I h
 obtain ⟨v,e,h⟩:=h
 obtain ⟨m,hn,hl⟩:=I.loc
 obtain ⟨u,r,l⟩:=hl i x v hN e hv
 have fin:EP X pins σ Q u s:=⟨v,H,I,r,h⟩
 rcases l with ⟨hk,hm⟩|⟨hk,c,hc,hcell⟩
 ·exact wpAny_Name (wpAny_loadName_local I.ok.kind hk hn hm fin) hd
 ·rcases hk with hk|hk
  ·exact wpAny_Name (wpAny_loadName_cell I.ok.kind hk hc hcell fin) hd
  ·exact wpAny_Name (wpAny_loadName_free I.ok.kind hk hc hcell fin hcd) hd
theorem Zzb {i j pos}:PE X (.Constant (.int i) j pos) (tC (.int i)):=λ _ _ _ H _ I h=>wpAny_Constant_int ⟨.int i,H,I.tok _,⟨_,rfl⟩,h⟩
theorem Yae {b j pos}:PE X (.Constant (.bool b) j pos) (tC (.bl b)):=λ _ _ _ H _ I h=>Constant_bool ⟨.bl b,H,I,rfl,h⟩
theorem Zzd {j pos}:PE X (.Constant .none j pos) (tC .non):=λ _ _ _ H _ I h=>Constant_none ⟨.non,H,I,rfl,h⟩
theorem Zzh {x j pos}:PE X (.Constant (.str x) j pos) (tC (.str x)):=λ _ _ _ H _ I h=>Calls.Constant_str ⟨.str x,H,I.tok _,⟨_,rfl⟩,h⟩
def Gl (X:Cx) (x:Str):Prop:=X.env.kindOf x=some .globalImplicit
theorem Zto {E:Value->Shared->Prop}{pins:List (Addr × Obj)}{s:Shared}{σ:St}{H:Hp}{x:Str}{u:Value}{pos:Pos}{Q:Value->Shared->Prop} (I:Inv X pins σ H s) (hg:Gl X x) (hm:X.mg x=some u) (h:Q u s)
  (hd:(x == ("__debug__" : Str))=false:=by decide):wpAny (model X.prog X.w) X.A (eval (.Name x pos) X.env) Q E s:=
 Calls.Name_function_global I.ok.kind hg (Calls.loadGlobal_global (by rw [I.ok.glob];exact I.mod.glob.keeps I.bk) hm h) hd
theorem Zmq {E:Value->Shared->Prop}{pins:List (Addr × Obj)}{s:Shared}{σ:St}{H:Hp}{x:Str}{u:Value}{pos:Pos}{Q:Value->Shared->Prop} (I:Inv X pins σ H s) (hg:Gl X x) (hm:X.mg x=none) (hv:bootBuiltins x=some u) (h:Q u s)
  (hn:x≠"__name__":=by decide) (hd:(x == ("__debug__" : Str))=false:=by decide):wpAny (model X.prog X.w) X.A (eval (.Name x pos) X.env) Q E s:=by
 obtain ⟨mb,h1,h2⟩:=I.mod.blt
 exact Calls.Name_function_global I.ok.kind hg (Calls.loadGlobal_builtin (by rw [I.ok.glob];exact I.mod.glob.keeps I.bk) hm (by rw [I.ok.blt];exact h1.keeps I.bk) ((h2 x hn).trans hv) h) hd
theorem Zxn {x:Str}{v:V}{u:Value}{pos:Pos} (hg:Gl X x) (hm:X.mg x=none) (hv:bootBuiltins x=some u) (r:RelV v u) (hn:x≠"__name__":=by decide) (hd:(x == ("__debug__" : Str))=false:=by decide):PE X (.Name x pos) (tC v):=
 λ _ _ _ H _ I h=>Zmq I hg hm hv ⟨v,H,I,r,h⟩ hn hd
variable {a b:Expr}{ta tb:TE}{pos:Pos}
def PC (X:Cx) (op:CmpOp) (a b:Expr) (t:TE):Prop:=
 ∀ (pins:List (Addr × Obj)) (s:Shared) (σ:St) (H:Hp) (Q:VK),Inv X pins σ H s->t σ H Q ->
  wpAny (model X.prog X.w) X.A (eval a X.env) (λ v s₁=>wpAny (model X.prog X.w) X.A (eval b X.env) (λ u s₂=>wpAny (model X.prog X.w) X.A (compareOp op v u) (EP X pins σ Q) X.xe s₂) X.xe s₁) X.xe s
theorem nobehind (b:Expr) {op:CmpOp} (h:op≠.In) (h2:op≠.NotIn):behindInMarks op b=false:=by
 have e1:(op == CmpOp.In)=false:=by cases op <;> first|rfl|exact absurd rfl h
 have e2:(op == CmpOp.NotIn)=false:=by cases op <;> first|rfl|exact absurd rfl h2
 cases b <;> simp [behindInMarks,e1,e2]
theorem RelV.none_iff {x:V}{v:Value} (r:RelV x v):(v == Value.none)=decide (x = .non):=by
 cases x with
 | non=>cases r;rfl
 | bl _=>cases r;rfl
 | int _=>obtain ⟨t,rfl⟩:=r;rfl
 | str _=>obtain ⟨t,rfl⟩:=r;rfl
 | byt _=>obtain ⟨t,rfl⟩:=r;rfl
 | flt _=>obtain ⟨t,rfl⟩:=r;rfl
 | ref _=>cases r;rfl
 | ty _=>cases r;rfl
def tB (t:TE):TT:=λ σ H Q=>t σ H λ x H1=>∃ c,x = .bl c/\Q c H1
theorem Zwz {op:CmpOp}{t:TE} (h:PC X op a b t) (h1:behindInMarks op b=false:=by first|exact nobehind _ (by decide) (by decide)|rfl):PT X (.Compare a [op] [b] pos) (tB t):=by
 intro pins s σ H Q I hw
 refine wpAny_isTrue_Compare1 (thn (h pins s σ H _ I hw) λ v s1 h1=>thn h1 λ u s2 h2=>thn h2 λ c s3 ⟨x,H1,I1,r1,q1⟩=>?_) h1
 obtain ⟨d,rfl,q⟩:=q1
 cases r1
 exact wpAny_truthy_bool ⟨H1,I1,q⟩
theorem Zzv {e:Expr}{t:TE} (h:PE X e t) (he:∀ whole,isTrue e X.env whole=(do let v <- whole;standAt e.pos;holding [v] (truthy v)):=by intro _;rfl):PT X e (tB t):=by
 intro pins s σ H Q I hw
 refine isTrue_plain (thn (h pins s σ H _ I hw) λ v s1 ⟨x,H1,I1,r1,q1⟩=>?_) (he _)
 obtain ⟨d,rfl,q⟩:=q1
 cases r1
 exact wpAny_truthy_bool ⟨H1,I1,q⟩
variable {tA tB':TT}{rest:List Expr}
def tAnd (t u:TT):TT:=λ σ H Q=>t σ H λ c H1=>if c=true then u σ H1 Q else Q false H1
def tOr (t u:TT):TT:=λ σ H Q=>t σ H λ c H1=>if c=true then Q true H1 else u σ H1 Q
def tNot (t:TT):TT:=λ σ H Q=>t σ H λ c H1=>Q (!c) H1
theorem Zy8 (ha:PT X a tA):PW X (.BoolOp .And [a] pos) tA:=by
 intro wh pins s σ H Q I h
 refine isTrue_and (thn (ha pins s σ H Q I h) λ c s1 e=>?_)
 cases c with
 | true=>exact isTrue_and_nil e
 | false=>exact e
theorem Zzy (ha:PT X a tA):PW X (.BoolOp .Or [a] pos) tA:=by
 intro wh pins s σ H Q I h
 refine isTrue_or (thn (ha pins s σ H Q I h) λ c s1 e=>?_)
 cases c with
 | false=>exact isTrue_or_nil e
 | true=>exact e
theorem Zzx (ha:PT X a tA) (hb:PW X (.BoolOp .And (b::rest) pos) tB'):PW X (.BoolOp .And (a::b::rest) pos) (tAnd tA tB'):=by
 intro wh pins s σ H Q I h
 refine isTrue_and (thn (ha pins s σ H _ I h) λ c s1 ⟨H1,I1,q1⟩=>?_)
 cases c with
 | true=>exact hb wh pins s1 σ H1 Q I1 q1
 | false=>exact ⟨H1,I1,q1⟩
theorem Yak (ha:PT X a tA) (hb:PW X (.BoolOp .Or (b::rest) pos) tB'):PW X (.BoolOp .Or (a::b::rest) pos) (tOr tA tB'):=by
 intro wh pins s σ H Q I h
 refine isTrue_or (thn (ha pins s σ H _ I h) λ c s1 ⟨H1,I1,q1⟩=>?_)
 cases c with
 | true=>exact ⟨H1,I1,q1⟩
 | false=>exact hb wh pins s1 σ H1 Q I1 q1
theorem Zzu (ha:PT X a tA):PT X (.UnaryOp .Not a pos) (tNot tA):=by
 intro pins s σ H Q I h
 exact isTrue_not (ha pins s σ H (λ c H1=>Q (!c) H1) I h)
def tAndV (ta tb:TE):TE:=λ σ H Q=>ta σ H λ x H1=>∃ c,x = .bl c/\if c=true then tb σ H1 Q else Q (.bl false) H1
def tNotV (ta:TE):TE:=λ σ H Q=>ta σ H λ x H1=>∃ c,x = .bl c/\Q (.bl (!c)) H1
theorem Zzf {op}{t:TE} (h:PE X a t):PE X (.BoolOp op [a] pos) t:=λ pins s σ H Q I hw=>BoolOp_one (h pins s σ H Q I hw)
theorem Zz9 (ha:PE X a ta) (hb:PE X (.BoolOp .And (b::rest) pos) tb):PE X (.BoolOp .And (a::b::rest) pos) (tAndV ta tb):=by
 intro pins s σ H Q I h
 refine BoolOp_and (thn (ha pins s σ H _ I h) λ v s1 ⟨x,H1,I1,r1,q1⟩=>?_)
 obtain ⟨c,rfl,q1⟩:=q1
 cases r1
 refine wpAny_truthy_bool ?_
 cases c with
 | true=>exact hb pins s1 σ H1 Q I1 q1
 | false=>exact ⟨.bl false,H1,I1,rfl,q1⟩
theorem Zze (ha:PE X a ta):PE X (.UnaryOp .Not a pos) (tNotV ta):=by
 intro pins s σ H Q I h
 refine UnaryOp_ (thn (ha pins s σ H _ I h) λ v s1 ⟨x,H1,I1,r1,q1⟩=>?_)
 obtain ⟨c,rfl,q1⟩:=q1
 cases r1
 exact not_of (wpAny_truthy_bool ⟨.bl (!c),H1,I1,rfl,q1⟩)
def tIf (t:TT) (ta tb:TE):TE:=λ σ H Q=>t σ H λ c H1=>if c=true then ta σ H1 Q else tb σ H1 Q
theorem Zvp {c:Expr} (hc:PT X c tA) (ha:PE X a ta) (hb:PE X b tb):PE X (.IfExp c a b pos) (tIf tA ta tb):=by
 intro pins s σ H Q I h
 refine wpAny_IfExp (thn (hc pins s σ H _ I h) λ d s1 ⟨H1,I1,q1⟩=>?_)
 cases d with
 | true=>exact ha pins s1 σ H1 Q I1 q1
 | false=>exact hb pins s1 σ H1 Q I1 q1
end
end L2
namespace L2
open PySem PySem.Spec PyProof.Rows
def SqL (K:PySem.W.Frag) (H:Hp) (a:Addr) (xs:List V):Prop:=
 Rd H a (.lst xs) \/
  ∃ (o:Obj) (its:Array Value) (n:Nat),K.lookup a=some o/\o.cls = .type "list"/\o.dict=none/\o.data = .seq its n/\its.size≤sizeLine/\Vals xs its.toList
def SqT (K:PySem.W.Frag) (H:Hp) (a:Addr) (xs:List V):Prop:=
 Rd H a (.tup xs) \/
  ∃ (o:Obj) (its:Array Value) (n:Nat),K.lookup a=some o/\o.cls = .type "tuple"/\o.data = .seq its n/\its.size≤sizeLine/\Vals xs its.toList
def absV:Value->Option V
 | .none=>some .non
 | .bool b=>some (.bl b)
 | .int i _=>some (.int i)
 | .str x _=>some (.str x)
 | .bytes b _=>some (.byt b)
 | .float b _=>some (.flt b)
 | .ref a=>some (.ref a)
 | .type n=>some (.ty n)
 | _=>none
theorem RelV.abs {x:V}{u:Value} (r:RelV x u):absV u=some x:=by
 cases x with
 | non=>cases r;rfl
 | bl _=>cases r;rfl
 | int _=>obtain ⟨t,rfl⟩:=r;rfl
 | str _=>obtain ⟨t,rfl⟩:=r;rfl
 | byt _=>obtain ⟨t,rfl⟩:=r;rfl
 | flt _=>obtain ⟨t,rfl⟩:=r;rfl
 | ref _=>cases r;rfl
 | ty _=>cases r;rfl
theorem RelV.inj {x y:V}{u:Value} (r:RelV x u) (q:RelV y u):x=y:=Option.some.inj (r.abs.symm.trans q.abs)
theorem Vals.inj:∀ {xs ys:List V}{us:List Value},Vals xs us->Vals ys us->xs=ys
 | _,_,_,.nil,.nil=>rfl
 | _,_,_,.cons r t,.cons r' t'=>by rw [r.inj r',Vals.inj t t']
section
variable {X:Cx}{pins:List (Addr × Obj)}{σ:St}{H:Hp}{s:Shared}{a:Addr}{xs ys:List V}
theorem SqL.of {K:PySem.W.Frag} (h:H a=some (.lst xs)):SqL K H a xs:=.inl (.inl h)
theorem SqT.of {K:PySem.W.Frag} (h:H a=some (.tup xs)):SqT K H a xs:=.inl (.inl h)
theorem Inv.list (I:Inv X pins σ H s) (h:SqL X.K H a xs):∃ its:List Value,Vals xs its/\PlainL s.heap a its.toArray/\xs.length≤sizeLine:=by
 rcases h with h|⟨o,its,n,hk,hc,hd,hs,hz,r⟩
 ·obtain ⟨z,its,n,r,e⟩:=h.ok I.hok
  exact ⟨its,r,⟨_,n,e,rfl,rfl,rfl⟩,z⟩
 ·refine ⟨its.toList,r,⟨o,n,I.kIn a o hk,hc,hd,by simpa using hs⟩,?_⟩
  have e:=r.length
  simp only [Array.length_toList] at e
  omega
theorem Inv.tuple (I:Inv X pins σ H s) (h:SqT X.K H a xs):∃ its:List Value,Vals xs its/\IsTup s.heap a its.toArray/\xs.length≤sizeLine:=by
 rcases h with h|⟨o,its,n,hk,hc,hs,hz,r⟩
 ·obtain ⟨z,its,r,p⟩:=h.ok I.hok
  exact ⟨its,r,p.tup,z⟩
 ·refine ⟨its.toList,r,⟨o,I.kIn a o hk,hc,n,by simpa using hs⟩,?_⟩
  have e:=r.length
  simp only [Array.length_toList] at e
  omega
theorem Inv.list_inj (I:Inv X pins σ H s) (h:SqL X.K H a xs) (h':SqL X.K H a ys):xs=ys:=by
 obtain ⟨its,r,⟨o,n,e,_,_,d⟩,_⟩:=I.list h
 obtain ⟨its',r',⟨o',n',e',_,_,d'⟩,_⟩:=I.list h'
 rw [e] at e';cases e'
 rw [d] at d'
 injection d' with d1 _
 have:its=its':=by simpa using congrArg Array.toList d1
 subst this
 exact r.inj r'
theorem Inv.tuple_inj (I:Inv X pins σ H s) (h:SqT X.K H a xs) (h':SqT X.K H a ys):xs=ys:=by
 obtain ⟨its,r,⟨o,e,_,n,d⟩,_⟩:=I.tuple h
 obtain ⟨its',r',⟨o',e',_,n',d'⟩,_⟩:=I.tuple h'
 rw [e] at e';cases e'
 rw [d] at d'
 injection d' with d1 _
 have:its=its':=by simpa using congrArg Array.toList d1
 subst this
 exact r.inj r'
end
abbrev Cx.wish (X:Cx) (E:Value->Shared->Prop):Cx:={ X with xe:=E }
abbrev Cx.nox (X:Cx):Cx:=X.wish λ _ _=>False
theorem Cx.Ok.wish {X:Cx} (ok:X.Ok) (E:Value->Shared->Prop):(X.wish E).Ok:=
 ⟨ok.mod,ok.kind,ok.glob,ok.blt,ok.above,ok.inj,ok.has,ok.cab,ok.hd,ok.frames,ok.stk,ok.exf,ok.bs,ok.bsz,ok.noex,ok.exfs,ok.funs,ok.frf⟩
theorem Cx.Ok.unwish {X:Cx}{E:Value->Shared->Prop} (ok:(X.wish E).Ok):X.Ok:=
 ⟨ok.mod,ok.kind,ok.glob,ok.blt,ok.above,ok.inj,ok.has,ok.cab,ok.hd,ok.frames,ok.stk,ok.exf,ok.bs,ok.bsz,ok.noex,ok.exfs,ok.funs,ok.frf⟩
section
variable {X:Cx}{pins:List (Addr × Obj)}{σ:St}{H:Hp}{s:Shared}{E:Value->Shared->Prop}
theorem Inv.wish (I:Inv X pins σ H s) (E:Value->Shared->Prop):Inv (X.wish E) pins σ H s:=⟨I.ok.wish E,I.os,I.bare,I.base,I.loc,I.cell,I.free,I.freeC,I.pin,I.hok,I.len⟩
theorem Inv.unwish (I:Inv (X.wish E) pins σ H s):Inv X pins σ H s:=⟨I.ok.unwish,I.os,I.bare,I.base,I.loc,I.cell,I.free,I.freeC,I.pin,I.hok,I.len⟩
theorem SP.unwish {D:Ends}{f:Flow}{s':Shared} (h:SP (X.wish E) pins D f s'):SP X pins D f s':=by
 cases f with
 | next=>obtain ⟨σ',H',I,q⟩:=h;exact ⟨σ',H',I.unwish,q⟩
 | brk=>obtain ⟨σ',H',I,q⟩:=h;exact ⟨σ',H',I.unwish,q⟩
 | cont=>obtain ⟨σ',H',I,q⟩:=h;exact ⟨σ',H',I.unwish,q⟩
 | ret u=>obtain ⟨v,σ',H',I,r,q⟩:=h;exact ⟨v,σ',H',I.unwish,r,q⟩
theorem PSs.nox {st:List Stmt}{t:TS} (h:PSs X.nox st t):PSs X st t:=λ pins s σ H D I hw=>
 wpAny_mono (h pins s σ H D (I.wish _) hw) (λ _ _ q=>q.unwish) λ _ _ z=>False.elim z
end
section
variable {X:Cx}{st:Stmt}{rest:List Stmt}{t u:TS}{e:Expr}{te:TE}{pos:Pos}
def tNext:TS:=λ D σ H=>D.nx σ H
def tSeq (t u:TS):TS:=λ D σ H=>t { D with nx:=u D } σ H
theorem Zy3:PSs X [] tNext:=λ _ _ σ H _ I h=>wpAny_execs_nil ⟨σ,H,I,h⟩
theorem Zvw (h1:PS X st t) (h2:PSs X rest u):PSs X (st::rest) (tSeq t u):=by
 intro pins s σ H D I h
 refine wpAny_execs_cons (thn (h1 pins s σ H { D with nx:=u D } I h) λ f s1 q=>?_)
 cases f with
 | next=>
  obtain ⟨σ',H',I',q⟩:=q
  exact h2 pins s1 σ' H' D I' q
 | ret v=>exact q
 | brk=>exact q
 | cont=>exact q
theorem Zy4 (h1:PS X st t):PSs X [st] t:=by
 intro pins s σ H D I h
 refine wpAny_execs_cons (thn (h1 pins s σ H D I h) λ f s1 q=>?_)
 cases f with
 | next=>exact wpAny_execs_nil q
 | ret v=>exact q
 | brk=>exact q
 | cont=>exact q
def tBreak:TS:=λ D σ H=>D.bk σ H
theorem Zvu:PS X (.Break pos) tBreak:=λ _ _ σ H _ I h=>wpAny_Break ⟨σ,H,I,h⟩
theorem Inv.quiet {pins:List (Addr × Obj)}{σ:St}{H:Hp}{s:Shared} (I:Inv X pins σ H s):interactive X.env=false:=by simp [interactive,I.ok.kind]
def tDrop (te:TE):TS:=λ D σ H=>te σ H λ _ H1=>D.nx σ H1
theorem Zy2 (he:PE X e te) (hs:swapsWith e none pos.line X.env=pure false:=by rfl):PS X (.Expr e pos) (tDrop te):=by
 intro pins s σ H D I h
 exact wpAny_Expr_any (thn (he pins s σ H _ I h) λ v s1 ⟨x,H1,I1,r1,q1⟩=>⟨σ,H1,I1,q1⟩) I.quiet hs
def tRet (te:TE):TS:=λ D σ H=>te σ H D.rt
theorem Zzs (he:PE X e te):PS X (.Return (some e) pos) (tRet te):=by
 intro pins s σ H D I h
 exact wpAny_Return_some (thn (he pins s σ H _ I h) λ v s1 ⟨x,H1,I1,r1,q1⟩=>⟨x,σ,H1,I1,r1,q1⟩)
def tIfS (c:TT) (t u:TS):TS:=λ D σ H=>c σ H λ b H1=>if b=true then t D σ H1 else u D σ H1
theorem Yaj {c:Expr}{a b:List Stmt}{tc:TT} (hc:PT X c tc) (ha:PSs X a t) (hb:PSs X b u):PS X (.If c a b pos) (tIfS tc t u):=by
 intro pins s σ H D I h
 refine wpAny_If (thn (hc pins s σ H _ I h) λ d s1 ⟨H1,I1,q1⟩=>?_)
 cases d with
 | true=>exact ha pins s1 σ H1 D I1 q1
 | false=>exact hb pins s1 σ H1 D I1 q1
end
abbrev TG:=V->St->Hp->(St->Hp->Prop)->Prop
abbrev TGs:=List V->St->Hp->(St->Hp->Prop)->Prop
def PG (X:Cx) (target:Expr) (t:TG):Prop:=
 ∀ (pins:List (Addr × Obj)) (s:Shared) (σ:St) (H:Hp) (v:V) (u:Value) (Q:St->Hp->Prop),Inv X pins σ H s->RelV v u->t v σ H Q ->
  wpAny (model X.prog X.w) X.A (assign target X.env u) (λ _ s'=>∃ σ' H',Inv X pins σ' H' s'/\Q σ' H') X.xe s
def PGs (X:Cx) (ts:List Expr) (t:TGs):Prop:=
 ∀ (pins:List (Addr × Obj)) (s:Shared) (σ:St) (H:Hp) (vs:List V) (us:List Value) (Q:St->Hp->Prop),Inv X pins σ H s->Vals vs us->t vs σ H Q ->
  wpAny (model X.prog X.w) X.A (assignInOrder ((assignEach ts X.env).map (·.2)) us) (λ _ s'=>∃ σ' H',Inv X pins σ' H' s'/\Q σ' H') X.xe s
abbrev TSet:=V->V->V->Hp->(Hp->Prop)->Prop
def PSet (X:Cx) (t:TSet):Prop:=
 ∀ (pins:List (Addr × Obj)) (s:Shared) (σ:St) (H:Hp) (o i v:V) (ov iv u:Value) (Q:Hp->Prop),Inv X pins σ H s->RelV o ov->RelV i iv->RelV v u->t o i v H Q ->
  wpAny (model X.prog X.w) X.A (setItem ov iv u) (λ _ s'=>∃ H',Inv X pins σ H' s'/\Q H') X.xe s
abbrev TIp:=V->V->Hp->VK->Prop
def PIp (X:Cx) (op:Operator) (t:TIp):Prop:=
 ∀ (pins:List (Addr × Obj)) (s:Shared) (σ:St) (H:Hp) (x y:V) (v u:Value) (Q:VK),Inv X pins σ H s->RelV x v->RelV y u->t x y H Q ->
  wpAny (model X.prog X.w) X.A (inplaceOp op v u) (EP X pins σ Q) X.xe s
section
variable {X:Cx}{pos:Pos}
def gName (i:Nat):TG:=λ v σ H Q=>Q (σ.set i (some v)) H
theorem Zqe {i:Nat}{x:Str} (hN:X.N.Nodup) (hi:X.N[i]? = some x) (hx:Loc X.env.scope x) (hf:X.fn x=true \/ X.env.scope.names.lookup x=some .local:=by first|exact .inl rfl|exact .inr rfl|assumption):PG X (.Name x pos) (gName i):=by
 intro pins s σ H v u Q I r h
 exact wpAny_assign_Name (Ziv I hN hi hx r (λ s' I'=>⟨_,H,I',h⟩) hf)
def gNil:TGs:=λ vs σ H Q=>vs=[]/\Q σ H
def gCons (t:TG) (u:TGs):TGs:=λ vs σ H Q=>∃ v r,vs=v::r/\t v σ H λ σ' H'=>u r σ' H' Q
theorem Zxu:PGs X [] gNil:=by
 intro pins s σ H vs us Q I r h
 obtain ⟨e,h⟩:=h
 subst e
 cases r
 exact assignInOrder_nil ⟨σ,H,I,h⟩
theorem Zvr {e:Expr}{es:List Expr}{t:TG}{u:TGs} (h1:PG X e t) (h2:PGs X es u)
  (hs:(assignEach (e::es) X.env).map (·.2)=assign e X.env::(assignEach es X.env).map (·.2):=by rfl):PGs X (e::es) (gCons t u):=by
 intro pins s σ H vs us Q I r h
 obtain ⟨v,vr,e1,h⟩:=h
 subst e1
 cases r with
 | cons r rr=>
  rw [hs]
  refine assignInOrder_cons (thn (h1 pins s σ H _ _ _ I r h) λ _ s1 ⟨σ1,H1,I1,q1⟩=>?_)
  exact h2 pins s1 σ1 H1 _ _ Q I1 rr q1
def gTup (K:PySem.W.Frag) (n:Nat) (t:TGs):TG:=λ v σ H Q=>∃ a xs,v = .ref a/\SqT K H a xs/\xs.length=n/\t xs σ H Q
theorem Zzk {es:List Expr}{k:Nat}{t:TGs}{n:Nat} (hc:X.calm=true) (h:PGs X es t)
  (hn:(assignEach es X.env).length=n:=by rfl) (hst:(assignEach es X.env).findIdx? (·.1)=none:=by rfl):PG X (.Tuple es k pos) (gTup X.K n t):=by
 intro pins s σ H v u Q I r hw
 obtain ⟨a,xs,e1,hq,hl,hw⟩:=hw
 subst e1
 cases r
 obtain ⟨its,rv,ht,hz⟩:=I.tuple hq
 refine assign_Tuple_tuple (I.ok.hd hc) ht (by simp [hn,<- hl,rv.length]) hst λ h' hx=>?_
 have I1:Inv X pins σ H { s with heap:=h' }:=I.kept (t':=s.toks) λ b o e=>hx b o (ne_of_lt (lt_size e)) e
 exact h pins _ σ H xs _ Q I1 (by simpa using rv) hw
def gSub (to ti:TE) (t:TSet):TG:=λ v σ H Q=>to σ H λ o H1=>ti σ H1 λ i H2=>t o i v H2 λ H3=>Q σ H3
theorem Zzj {o i:Expr}{to ti:TE}{t:TSet} (ho:PE X o to) (hi:PE X i ti) (hs:PSet X t)
  (ha:∀ v,assign (.Subscript o i pos) X.env v=(do
   let ov <- holding [v] (eval o X.env)
   let iv <- holding [v,ov] (eval i X.env)
   standAt pos
   holding [v,ov,iv] (setItem ov iv v)
   release [v,ov,iv] []):=by intro _;rfl):PG X (.Subscript o i pos) (gSub to ti t):=by
 intro pins s σ H v u Q I r h
 rw [ha]
 refine wpAny_bind (wpAny_holding (thn (ho pins s σ H _ I h) λ ov s1 ⟨x,H1,I1,r1,q1⟩=>?_))
 refine wpAny_bind (wpAny_holding (thn (hi pins s1 σ H1 _ I1 q1) λ iv s2 ⟨y,H2,I2,r2,q2⟩=>?_))
 refine wpAny_bind (wpAny_standAt (wpAny_bind (wpAny_holding (thn (hs pins s2 σ H2 x y v ov iv u _ I2 r1 r2 r q2) λ _ s3 ⟨H3,I3,q3⟩=>?_))))
 exact wpAny_release ⟨σ,H3,I3,q3⟩
def tAsg (te:TE) (g:TG):TS:=λ D σ H=>te σ H λ x H1=>g x σ H1 D.nx
theorem Zzo {tg e:Expr}{te:TE}{g:TG} (he:PE X e te) (hg:PG X tg g) (hs:swapsWithSole [tg] e pos.line X.env=pure false:=by rfl) (hw:swappedStores [tg] e X.env=pure none:=by rfl)
  (h1:(assignEach [tg] X.env).map (·.2)=[assign tg X.env]:=by rfl):PS X (.Assign [tg] e pos) (tAsg te g):=by
 intro pins s σ H D I h
 refine wpAny_Assign_stores (thn (he pins s σ H _ I h) λ v s1 ⟨x,H1,I1,r1,q1⟩=>?_) hs hw
 rw [h1]
 exact thn (hg pins s1 σ H1 x v _ I1 r1 q1) λ _ s2 q=>q
theorem Zzt {i:Nat}{x:Str}{e:Expr}{te:TE}{pos':Pos} (hN:X.N.Nodup) (hi:X.N[i]? = some x) (hx:Loc X.env.scope x) (he:PE X e te) (hs:swapsWith e (some (.Name x pos')) pos.line X.env=pure false:=by rfl) (hf:X.fn x=true \/ X.env.scope.names.lookup x=some .local:=by first|exact .inl rfl|exact .inr rfl|assumption) :
  PS X (.Assign [.Name x pos'] e pos) (tAsg te (gName i)):=by
 intro pins s σ H D I h
 refine wpAny_Assign_Name (thn (he pins s σ H _ I h) λ v s1 ⟨y,H1,I1,r1,q1⟩=>?_) hs
 exact Ziv I1 hN hi hx r1 (λ s2 I2=>⟨_,H1,I2,q1⟩) hf
def tPar (i j:Nat) (ta:TA):TS:=λ D σ H=>ta σ H λ vs H1=>∃ v w,vs=[v,w]/\D.nx ((σ.set i (some v)).set j (some w)) H1
theorem Zzr {i j:Nat}{x y:Str}{a b:Expr}{ta:TA}{px py pt:Pos}{kt k2 pt2} (hc:X.calm=true) (hN:X.N.Nodup) (hi:X.N[i]? = some x) (hj:X.N[j]? = some y) (hij:i≠j)
  (hx:X.env.scope.names.lookup x=some .local) (hy:X.env.scope.names.lookup y=some .local) (ha:PA X [a,b] ta)
  (hw:swappedStores [.Tuple [.Name x px,.Name y py] kt pt] (.Tuple [a,b] k2 pt2) X.env=pure (some [x,y]))
  (hs:swapsWithSole [.Tuple [.Name x px,.Name y py] kt pt] (.Tuple [a,b] k2 pt2) pos.line X.env=pure false:=by rfl) :
  PS X (.Assign [.Tuple [.Name x px,.Name y py] kt pt] (.Tuple [a,b] k2 pt2) pos) (tPar i j ta):=by
 intro pins s σ H D I h
 rw [exec_Assign_arm]
 refine wpAny_bind (wpAny_standAt ?_)
 rw [hs]
 refine wpAny_bind (wpAny_pure ?_)
 rw [if_neg (by decide)]
 refine wpAny_bind (Tuple_ (thn (ha _ pins s σ H _ I h) λ us s1 ⟨vs,H1,I1,r1,q1⟩=>?_))
 obtain ⟨v,w,e1,q1⟩:=q1
 subst e1
 obtain ⟨u1,u2,rfl,rv,rw'⟩:∃ u1 u2,us=[u1,u2]/\RelV v u1/\RelV w u2:=by
  cases r1 with
  | cons p q=>
   cases q with
   | cons p' q'=>
    cases q'
    exact ⟨_,_,rfl,p,p'⟩
 refine wpAny_newObj_type ?_ (L2.sz2)
 have I2:Inv X pins σ H1 { s1 with heap:=s1.heap.push { cls:=.type "tuple",data:=.seq [u1,u2].toArray } }:=I1.kept (t':=s1.toks) λ b o e=>get?_push_of_some _ e
 rw [hw]
 refine wpAny_bind (wpAny_pure ?_)
 show wpAny (model X.prog X.w) X.A (do rule "assign.swapped-stores";let items <- unpackItems (.ref s1.heap.objs.size) 2 none;assignInOrder [λ v=>bindName X.env y v,λ v=>bindName X.env x v] items.reverse;pure Flow.next) _ _ _
 refine wpAny_bind (wpAny_rule (wpAny_bind (unpackItems_tuple (items:=#[u1,u2]) (I.ok.hd hc) (IsTup.new s1.heap _) λ h' hx'=>?_)))
 have I3:=I2.kept (h':=h') (t':=s1.toks) λ b o e=>hx' b o (ne_of_lt (lt_size e)) e
 show wpAny _ _ (assignInOrder [λ v=>bindName X.env y v,λ v=>bindName X.env x v] [u2,u1] >>= λ _=>pure Flow.next) _ _ _
 refine wpAny_bind (assignInOrder_cons (wpAny_bindName (Ziv I3 hN hj (.inl hy) rw' (λ s2 I4=>?_) (.inr hy))))
 refine assignInOrder_cons (wpAny_bindName (Ziv I4 hN hi (.inl hx) rv (λ s3 I5=>assignInOrder_nil (wpAny_pure ?_)) (.inr hx)))
 rw [List.set_comm _ _ (Ne.symm hij)] at I5
 exact ⟨_,H1,I5,q1⟩
def tAug (i:Nat) (te:TE) (ti:TIp):TS:=λ D σ H=>∃ x,σ[i]? = some (some x)/\te σ H λ y H1=>ti x y H1 λ z H2=>D.nx (σ.set i (some z)) H2
theorem Zzp {i:Nat}{x:Str}{e:Expr}{te:TE}{op:Operator}{ti:TIp}{pos':Pos} (hN:X.N.Nodup) (hi:X.N[i]? = some x) (hx:Loc X.env.scope x) (he:PE X e te) (ho:PIp X op ti) (hf:X.fn x=true \/ X.env.scope.names.lookup x=some .local:=by first|exact .inl rfl|exact .inr rfl|assumption) :
  PS X (.AugAssign (.Name x pos') op e pos) (tAug i te ti):=by
 intro pins s σ H D I h
 obtain ⟨v,e1,h⟩:=h
 obtain ⟨m,hn,hl⟩:=I.loc
 have vis:Vis X.env.scope x:=by rcases hx with k|k;exact .inl k;exact .inr (.inl k)
 obtain ⟨u,r,l⟩:=hl i x v hi e1 vis
 refine wpAny_AugAssign_Name ?_
 have go:wpAny (model X.prog X.w) X.A (eval e X.env) (λ w s₂=>wpAny (model X.prog X.w) X.A (inplaceOp op u w) (λ r s₃=>wpAny (model X.prog X.w) X.A (storeName X.env x r) (λ _=>SP X pins D .next) X.xe s₃) X.xe s₂) X.xe s:=by
  refine thn (he pins s σ H _ I h) λ w s1 ⟨y,H1,I1,r1,q1⟩=>?_
  refine thn (ho pins s1 σ H1 v y u w _ I1 r r1 q1) λ z s2 ⟨zv,H2,I2,r2,q2⟩=>?_
  exact Ziv I2 hN hi hx r2 (λ s3 I3=>⟨_,H2,I3,q2⟩) hf
 rcases l with ⟨hk,hm⟩|⟨hk,c,hc,hcell⟩
 ·exact wpAny_loadName_local I.ok.kind hk hn hm go
 ·rcases hk with hk|hk
  ·exact wpAny_loadName_cell I.ok.kind hk hc hcell go
  ·rcases hx with k|k
   ·have:X.env.scope.names.lookup x=some .free:=hk
    rw [k] at this;cases this
   ·have:X.env.scope.names.lookup x=some .free:=hk
    rw [k] at this;cases this
end
section
variable {X:Cx}{pos:Pos}
def tWhile (c:TT) (tb:TS):TS:=λ D σ H=>∃ W:Nat->St->Hp->Prop,(∃ m,W m σ H)/\∀ m σ H,W m σ H ->
 c σ H λ b H1=>if b=true then ∃ N:St->Hp->Prop,(∀ σ' H',N σ' H'->∃ m',m' < m/\W m' σ' H')/\tb { D with nx:=N,ct:=N,bk:=D.nx } σ H1 else D.nx σ H1
theorem Zvv {c:Expr}{body:List Stmt}{tc:TT}{tb:TS} (hp:PassesOwn (model X.prog X.w) X.A X.env X.xe) (hc:PT X c tc) (hb:PSs X body tb):PS X (.While c body [] pos) (tWhile tc tb):=by
 intro pins s σ H D I h
 obtain ⟨W,⟨m0,w0⟩,turn⟩:=h
 refine wpAny_While (codeAny_whileLoop (λ n s'=>∃ σ' H',Inv X pins σ' H' s'/\W n σ' H') ?_ m0 ⟨σ,H,I,w0⟩)
 rintro n s1 ⟨σ1,H1,I1,w1⟩
 refine wpAny_passesOwn hp (thn (hc pins s1 σ1 H1 _ I1 (turn n σ1 H1 w1)) λ b s2 ⟨H2,I2,q2⟩=>?_)
 cases b with
 | true=>
  obtain ⟨N,hN,q2⟩:=q2
  rw [if_pos rfl]
  refine wpAny_passesOwn hp (thn (hb pins s2 σ1 H2 _ I2 q2) λ f s3 q3=>?_)
  cases f with
  | next=>
   obtain ⟨σ3,H3,I3,n3⟩:=q3
   obtain ⟨m',hm,w3⟩:=hN σ3 H3 n3
   exact ⟨m',hm,σ3,H3,I3,w3⟩
  | cont=>
   obtain ⟨σ3,H3,I3,n3⟩:=q3
   obtain ⟨m',hm,w3⟩:=hN σ3 H3 n3
   exact ⟨m',hm,σ3,H3,I3,w3⟩
  | brk=>exact q3
  | ret v=>exact q3
 | false=>
  rw [if_neg Bool.false_ne_true]
  exact wpAny_execs_nil ⟨σ1,H2,I2,q2⟩
end
structure It where
 go:Nat->Hp->Prop
 yld:Nat->Hp->V->Hp->Prop
 stop:Nat->Hp->Prop
def FpOk (X:Cx) (pins:List (Addr × Obj)) (H:Hp) (b:Addr):Prop:=
 H b=none/\b≠X.env.locals/\b ∉ X.fs/\(b∈X.ex \/ X.s₀.heap.objs.size≤b)/\(∀ x c,X.env.cells.lookup x=some c->c≠b)/\∀ p∈X.pn++pins,p.1≠b
theorem Inv.fpOk {X:Cx}{pins:List (Addr × Obj)}{σ:St}{H H':Hp}{s:Shared}{b:Addr} (I:Inv X pins σ H s) (hb:s.heap.objs.size≤b) (hn:H' b=none):FpOk X pins H' b:=by
 refine ⟨hn,ne_of_gt (lt_of_lt_of_le I.lt hb),I.nofs hb,.inr (le_trans I.sz hb),λ x c e z=>?_,λ p hp z=>?_⟩
 ·obtain ⟨v,q⟩:=I.cell x c e
  exact absurd (lt_of_lt_of_le q.lt (by rw [z];exact hb)) (lt_irrefl _)
 ·exact absurd (lt_of_lt_of_le (lt_size (I.pin p hp).1) (by rw [z];exact hb)) (lt_irrefl _)
structure Turn (P:Program) (w:World) (K:PySem.W.Frag) (tg:Expr) (J:It) (fp:List Addr) (it:Addr) (tn:Nat->Heap->Prop):Prop where
 mem:it∈fp
 obj:∀ i h,tn i h->∀ b∈fp,∃ o,h.get? b=some o/\∀ v,o.data≠.cell v
 keep:∀ i h h',tn i h->(∀ b∈fp,∀ o,h.get? b=some o->h'.get? b=some o)->tn i h'
 item:∀ (X:Cx),X.prog=P->X.w=w->X.K=K->X.calm=true->∀ (i:Nat) (pins:List (Addr × Obj)) (s:Shared) (σ:St) (H:Hp) (E:Value->Shared->Prop),Inv X pins σ H s->(∀ b∈fp,FpOk X pins H b)->tn i s.heap->J.go i H ->
  wpAny (model P w) X.A (pyNext (.ref it)) (λ r s1=>∃ u,r=some u /\
   wpAny (model P w) X.A (letOwnedTupleGo tg (.ref it) u) (λ _ s2=>∃ x H',Inv X pins σ H' s2/\RelV x u/\J.yld i H x H'/\tn (i+1) s2.heap/\∀ b∈fp,H' b=none) E s1) E s
 done:∀ (X:Cx),X.prog=P->X.w=w->X.K=K->X.calm=true->∀ (i:Nat) (pins:List (Addr × Obj)) (s:Shared) (σ:St) (H:Hp) (E:Value->Shared->Prop),Inv X pins σ H s->(∀ b∈fp,FpOk X pins H b)->tn i s.heap->J.stop i H ->
  wpAny (model P w) X.A (pyNext (.ref it)) (λ r s1=>r=none/\Inv X pins σ H s1) E s
 self:∀ (A:Around) (i:Nat) (s:Shared) (Q:Value->Shared->Prop) (E:Value->Shared->Prop),tn i s.heap->Q (.ref it) s->wpAny (model P w) A (pyIter (.ref it)) Q E s
abbrev TI:=St->Hp->(It->Hp->Prop)->Prop
def PIE (X:Cx) (pins:List (Addr × Obj)) (σ:St) (tg:Expr) (R:It->Hp->Prop) (itv:Value) (s2:Shared):Prop:=
 ∃ (it:Addr) (fp:List Addr) (tn:Nat->Heap->Prop) (J:It) (H':Hp),itv = .ref it/\Inv X pins σ H' s2/\Turn X.prog X.w X.K tg J fp it tn/\tn 0 s2.heap/\(∀ b∈fp,FpOk X pins H' b)/\R J H'
def PI (X:Cx) (tg iter:Expr) (wi:TI):Prop:=
 ∀ (pins:List (Addr × Obj)) (s:Shared) (σ:St) (H:Hp) (R:It->Hp->Prop),Inv X pins σ H s->wi σ H R ->
  wpAny (model X.prog X.w) X.A (eval iter X.env) (λ v s1=>wpAny (model X.prog X.w) X.A (pyIter v) (PIE X pins σ tg R) X.xe s1) X.xe s
theorem Zxf {M:Model}{A:Around}{E:Value->Shared->Prop}{s:Shared}{tg:Expr}{it:Addr}{u:Value}{o:Obj}{n:String}{vs:Array Value}{Q:Unit->Shared->Prop} (ho:s.heap.get? it=some o) (hc:o.cls = .type n) (hd:o.data = .fields vs)
  (hn:["enumerate", "zip", "dict_itemiterator", "dict_reverseitemiterator", "odict_iterator", "itertools.zip_longest", "itertools.pairwise"].contains n=false) (hQ:Q () s):wpAny M A (letOwnedTupleGo tg (.ref it) u) Q E s:=by
 unfold letOwnedTupleGo
 cases tg <;> first
  | exact wpAny_pure hQ
  | (cases u <;> first
    | exact wpAny_pure hQ
    | (refine wpAny_bind (wpAny_load ho ?_)
       rw [hc,hd]
       show wpAny M A (if (["enumerate", "zip", "dict_itemiterator", "dict_reverseitemiterator", "odict_iterator", "itertools.zip_longest", "itertools.pairwise"].contains n && vs[0]? == some (rawInt _))=true then _ else _) Q E s
       rw [if_neg (by intro h;rw [hn,Bool.false_and] at h;cases h)]
       exact wpAny_pure hQ))
def Itl (K:PySem.W.Frag) (a:Addr):It:=
 ⟨λ i H=>∃ xs x,SqL K H a xs/\xs[i]? = some x,λ i H x H'=>H' = H/\∀ xs,SqL K H a xs->xs[i]? = some x,λ i H=>∃ xs,SqL K H a xs/\xs.length≤i⟩
def Itt (K:PySem.W.Frag) (a:Addr):It:=
 ⟨λ i H=>∃ xs x,SqT K H a xs/\xs[i]? = some x,λ i H x H'=>H' = H/\∀ xs,SqT K H a xs->xs[i]? = some x,λ i H=>∃ xs,SqT K H a xs/\xs.length≤i⟩
def Itr (lo:Int) (n:Nat):It:=⟨λ i _=>i<n,λ i H x H'=>H' = H/\x = .int (lo+i),λ i _=>n≤i⟩
theorem Zut {P:Program}{w:World}{K:PySem.W.Frag}{tg:Expr} (a it:Addr):Turn P w K tg (Itl K a) [it] it (λ i h=>h.IsListIter it a i) where
 mem:=by simp
 obj:=λ i h st b hb=>by
  have e:b=it:=by simpa using hb
  subst e
  obtain ⟨o,e,c,d⟩:=st
  exact ⟨o,e,λ v z=>by rw [d] at z;cases z⟩
 keep:=λ i h h' st k=>st.at λ o e=>k it (by simp) o e
 item:=by
  intro X hP hw hK hc i pins s σ H E I hf st hg
  subst hP hw hK
  obtain ⟨xs,x,hq,hx⟩:=hg
  obtain ⟨its,rv,p,hz⟩:=I.list hq
  obtain ⟨u,hu,ru⟩:=rv.get hx
  obtain ⟨f0,f1,f2,f3,f4,f5⟩:=hf it (by simp)
  refine wpAny_pyNext_list_item st p.isList (x:=u) (by simpa using hu) λ h' st' sb=>?_
  have I1:Inv X pins σ H { s with heap:=h' }:=I.turned (t':=s.toks) (λ b o hb e=>(sb.2 b hb).trans e) f0 f1 f3 f4 f5
  obtain ⟨o,e,c,d⟩:=id st'
  exact ⟨u,rfl,Zxf (s:={ s with heap:=h' }) e c d (by decide) ⟨x,H,I1,ru,⟨rfl,λ ys hy=>by rw [I.list_inj hy hq];exact hx⟩,st',λ b hb=>(hf b hb).1⟩⟩
 done:=by
  intro X hP hw hK hc i pins s σ H E I hf st hg
  subst hP hw hK
  obtain ⟨xs,hq,hx⟩:=hg
  obtain ⟨its,rv,p,hz⟩:=I.list hq
  obtain ⟨f0,f1,f2,f3,f4,f5⟩:=hf it (by simp)
  have hl:=rv.length
  exact wpAny_pyNext_list_end (I.ok.hd hc) st p.isList (by simp;omega) λ h' eb=>⟨rfl,I.turned (t':=s.toks) (λ b o hb e=>eb b o hb e) f0 f1 f3 f4 f5⟩
 self:=λ _ _ _ _ _ st h=>wpAny_pyIter_listiter st h
theorem Zsp {P:Program}{w:World}{K:PySem.W.Frag}{tg:Expr} (a it:Addr):Turn P w K tg (Itt K a) [it] it (λ i h=>h.IsTupleIter it a i) where
 mem:=by simp
 obj:=λ i h st b hb=>by
  have e:b=it:=by simpa using hb
  subst e
  obtain ⟨o,e,c,d⟩:=st
  exact ⟨o,e,λ v z=>by rw [d] at z;cases z⟩
 keep:=λ i h h' st k=>st.at λ o e=>k it (by simp) o e
 item:=by
  intro X hP hw hK hc i pins s σ H E I hf st hg
  subst hP hw hK
  obtain ⟨xs,x,hq,hx⟩:=hg
  obtain ⟨its,rv,p,hz⟩:=I.tuple hq
  obtain ⟨u,hu,ru⟩:=rv.get hx
  obtain ⟨f0,f1,f2,f3,f4,f5⟩:=hf it (by simp)
  refine wpAny_pyNext_tuple_item st (show s.heap.IsTuple a its.toArray from p) (x:=u) (by simpa using hu) λ h' st' sb=>?_
  have I1:Inv X pins σ H { s with heap:=h' }:=I.turned (t':=s.toks) (λ b o hb e=>(sb.2 b hb).trans e) f0 f1 f3 f4 f5
  obtain ⟨o,e,c,d⟩:=id st'
  exact ⟨u,rfl,Zxf (s:={ s with heap:=h' }) e c d (by decide) ⟨x,H,I1,ru,⟨rfl,λ ys hy=>by rw [I.tuple_inj hy hq];exact hx⟩,st',λ b hb=>(hf b hb).1⟩⟩
 done:=by
  intro X hP hw hK hc i pins s σ H E I hf st hg
  subst hP hw hK
  obtain ⟨xs,hq,hx⟩:=hg
  obtain ⟨its,rv,p,hz⟩:=I.tuple hq
  obtain ⟨f0,f1,f2,f3,f4,f5⟩:=hf it (by simp)
  have hl:=rv.length
  exact wpAny_pyNext_tuple_end (I.ok.hd hc) st (show s.heap.IsTuple a its.toArray from p) (by simp;omega) λ h' eb=>⟨rfl,I.turned (t':=s.toks) (λ b o hb e=>eb b o hb e) f0 f1 f3 f4 f5⟩
 self:=λ _ _ _ _ _ st h=>wpAny_pyIter_tupleiter st h
theorem Zso {P:Program}{w:World}{K:PySem.W.Frag}{tg:Expr} (it:Addr) (lo:Int) (n:Nat):Turn P w K tg (Itr lo n) [it] it (λ i h=>IsRangeIter h it (lo+(i:Nat)*1) ((n:Int)-(i:Nat)) 1) where
 mem:=by simp
 obj:=λ i h st b hb=>by
  have e:b=it:=by simpa using hb
  subst e
  exact ⟨_,st,λ v z=>by
   have z':Data.fields _=Data.cell v:=z
   cases z'⟩
 keep:=λ i h h' st k=>k it (by simp) _ st
 item:=by
  intro X hP hw hK hc i pins s σ H E I hf st hg
  subst hP hw hK
  obtain ⟨f0,f1,f2,f3,f4,f5⟩:=hf it (by simp)
  have W:=Walks.range (prog:=X.prog) (w:=X.w) (I.ok.hd hc) it lo 1 n
  refine W.item i s _ _ hg st λ v h' tk hv st' kk=>?_
  obtain ⟨t,rfl⟩:=hv
  have I1:Inv X pins σ H { s with heap:=h',toks:=tk }:=I.turned (λ b o hb e=>kk b o (by simpa using hb) e) f0 f1 f3 f4 f5
  refine ⟨_,rfl,Zxf (s:={ s with heap:=h',toks:=tk }) (n:="range_iterator") st' rfl rfl (by decide) ⟨.int (lo+i),H,I1,⟨t,?_⟩,⟨rfl,rfl⟩,st',λ b hb=>(hf b hb).1⟩⟩
  rw [Int.mul_one]
 done:=by
  intro X hP hw hK hc i pins s σ H E I hf st hg
  subst hP hw hK
  obtain ⟨f0,f1,f2,f3,f4,f5⟩:=hf it (by simp)
  exact wpAny_pyNext_range_end (I.ok.hd hc) st (by have:n≤i:=hg;omega) λ h' eb=>⟨rfl,I.turned (t':=s.toks) (λ b o hb e=>eb b o hb e) f0 f1 f3 f4 f5⟩
 self:=λ _ _ _ _ _ st h=>wpAny_pyIter_rangeiter st h
end L2
namespace L2
open PySem PySem.Spec PyProof.Rows
section
variable {X:Cx}{tg:Expr}
def iList (K:PySem.W.Frag) (tl:TE):TI:=λ σ H R=>tl σ H λ x H1=>∃ a,x = .ref a/\(∃ xs,SqL K H1 a xs)/\R (Itl K a) H1
def iTup (K:PySem.W.Frag) (tl:TE):TI:=λ σ H R=>tl σ H λ x H1=>∃ a,x = .ref a/\(∃ xs,SqT K H1 a xs)/\R (Itt K a) H1
theorem Zxw {l:Expr}{tl:TE} (hl:PE X l tl):PI X tg l (iList X.K tl):=by
 intro pins s σ H R I h
 refine thn (hl pins s σ H _ I h) λ v s1 ⟨x,H1,I1,r1,q1⟩=>?_
 obtain ⟨a,e,⟨xs,hq⟩,q⟩:=q1
 subst e
 cases r1
 obtain ⟨its,rv,p,hz⟩:=I1.list hq
 refine wpAny_pyIter_list p.isList ?_
 refine ⟨s1.heap.objs.size,[s1.heap.objs.size],_,_,H1,rfl,I1.kept (t':=s1.toks) λ b o e=>get?_push_of_some _ e,Zut a _,⟨_,get?_push_size _ rfl,rfl,rfl⟩,λ b hb=>?_,q⟩
 have e:b=s1.heap.objs.size:=by simpa using hb
 subst e
 exact I1.fpOk (le_refl _) (I1.hok.fresh (le_refl _))
theorem Zzl {l:Expr}{tl:TE} (hl:PE X l tl):PI X tg l (iTup X.K tl):=by
 intro pins s σ H R I h
 refine thn (hl pins s σ H _ I h) λ v s1 ⟨x,H1,I1,r1,q1⟩=>?_
 obtain ⟨a,e,⟨xs,hq⟩,q⟩:=q1
 subst e
 cases r1
 obtain ⟨its,rv,p,hz⟩:=I1.tuple hq
 refine wpAny_pyIter_tuple (show s1.heap.IsTuple a its.toArray from p) ?_
 refine ⟨s1.heap.objs.size,[s1.heap.objs.size],_,_,H1,rfl,I1.kept (t':=s1.toks) λ b o e=>get?_push_of_some _ e,Zsp a _,⟨_,get?_push_size _ rfl,rfl,rfl⟩,λ b hb=>?_,q⟩
 have e:b=s1.heap.objs.size:=by simpa using hb
 subst e
 exact I1.fpOk (le_refl _) (I1.hok.fresh (le_refl _))
theorem Zvz {pins:List (Addr × Obj)}{σ:St}{H:Hp}{s:Shared}{R:It->Hp->Prop}{E:Value->Shared->Prop}{lo hi:Int}{t u v:Tok}{tk:Nat} (I:Inv X pins σ H s) (h1 : -(2 ^ 62)≤lo) (h2:lo<2 ^ 62) (h3 : -(2 ^ 62)≤hi) (h4:hi<2 ^ 62)
  (q:R (Itr lo (hi-lo).toNat) H):wpAny (model X.prog X.w) X.A (pyIter (.ref s.heap.objs.size)) (PIE X pins σ tg R) E { s with heap:=s.heap.push { cls:=.type "range",data:=.fields #[.int lo t,.int hi u,.int 1 v] },toks:=tk }:=by
 refine wpAny_pyIter_range (IsRange.new ..) (small_one h1 h2 h3 h4) ?_
 have I1:Inv X pins σ H { s with heap:=s.heap.push { cls:=.type "range",data:=.fields #[.int lo t,.int hi u,.int 1 v] },toks:=tk }:=I.kept λ b o e=>get?_push_of_some _ e
 refine ⟨(s.heap.push { cls:=.type "range",data:=.fields #[.int lo t,.int hi u,.int 1 v] }).objs.size,[(s.heap.push { cls:=.type "range",data:=.fields #[.int lo t,.int hi u,.int 1 v] }).objs.size],_,_,H,rfl,
  I1.kept (t':=tk) λ b o e=>get?_push_of_some _ e,Zso _ lo (hi-lo).toNat,?_,λ b hb=>?_,q⟩
 ·have e1:lo+((0:Nat):Int)*1=lo:=by simp
  have e2:(((hi-lo).toNat:Nat):Int)-((0:Nat):Int)=Builtin.Range.rangeSize lo hi 1:=by rw [rangeSize_one];split <;> omega
  show IsRangeIter _ _ (lo+((0:Nat):Int)*1) ((((hi-lo).toNat:Nat):Int)-((0:Nat):Int)) 1
  rw [e1,e2]
  exact get?_push_size _ rfl
 ·have e:b=(s.heap.push { cls:=.type "range",data:=.fields #[.int lo t,.int hi u,.int 1 v] }).objs.size:=by simpa using hb
  subst e
  exact I1.fpOk (le_refl _) (I1.hok.fresh (le_refl _))
def iRng1 (ta:TA):TI:=λ σ H R=>ta σ H λ vs H1=>∃ j:Int,vs=[.int j]/\-(2 ^ 62)≤j/\j<2 ^ 62/\R (Itr 0 j.toNat) H1
theorem Zu2 {a:Expr}{ta:TA}{p pos:Pos} (hg:Gl X "range") (hm:X.mg "range" = none) (ha:PA X [a] ta) (hs:starEach [a] X.env=[(false,eval a X.env)]:=by rfl):PI X tg (.Call (.Name "range" p) [a] [] pos) (iRng1 ta):=by
 intro pins s σ H R I h
 refine Call_ (Zmq I hg hm boot_range (PyProof.Rows.callWith_type1 (thn (ha pos pins s σ H _ I h) λ us s1 ⟨vs,H1,I1,r1,q1⟩=>?_) hs rfl))
 obtain ⟨j,e,q1,q2,q⟩:=q1
 subst e
 cases r1 with
 | cons r rr=>
  cases rr
  obtain ⟨t,rfl⟩:=r
  exact call_range_1 (Zvz I1 (by omega) (by omega) q1 q2 (by simpa using q))
def tFor (wi:TI) (g:TG) (tb:TS):TS:=λ D σ H=>wi σ H λ J H1=>∃ W:Nat->Nat->St->Hp->Prop,(∃ m,W 0 m σ H1)/\∀ i m σ H,W i m σ H ->
 (J.stop i H/\D.nx σ H) \/ (J.go i H/\∃ N:St->Hp->Prop,(∀ σ' H',N σ' H'->∃ m',m' < m/\W (i+1) m' σ' H')/\∀ x H',J.yld i H x H'->g x σ H' λ σ2 H2=>tb { D with nx:=N,ct:=N,bk:=D.nx } σ2 H2)
def pinsAt (fp:List Addr) (h:Heap):List (Addr × Obj):=fp.filterMap λ b=>(h.get? b).map λ o=>(b,o)
theorem Zhk {fp:List Addr}{h:Heap}{b:Addr}{o:Obj} (hb:b∈fp) (e:h.get? b=some o):(b,o)∈pinsAt fp h:=List.mem_filterMap.mpr ⟨b,hb,by rw [e];rfl⟩
theorem Zp9 {fp:List Addr}{h:Heap}{p:Addr × Obj} (hp:p∈pinsAt fp h):p.1∈fp/\h.get? p.1=some p.2:=by
 obtain ⟨b,hb,e⟩:=List.mem_filterMap.mp hp
 cases q:h.get? b with
 | none=>rw [q] at e;cases e
 | some o=>
  rw [q] at e
  have e':(b,o)=p:=Option.some.inj e
  subst e'
  exact ⟨hb,q⟩
theorem Inv.pinned {pins:List (Addr × Obj)}{σ:St}{H:Hp}{s:Shared}{fp:List Addr} (I:Inv X pins σ H s) (hf:∀ b∈fp,FpOk X pins H b) (ho:∀ b∈fp,∃ o,s.heap.get? b=some o/\∀ v,o.data≠.cell v):Inv X (pins++pinsAt fp s.heap) σ H s:=
 I.pins_of λ p hp=>(mem_append.mp hp).elim (λ z=>I.pin p (mem_append_right _ z)) λ z=>by
  obtain ⟨hb,e⟩:=Zp9 z
  obtain ⟨f0,f1,f2,_⟩:=hf p.1 hb
  obtain ⟨o,e',d⟩:=ho p.1 hb
  rw [e] at e';cases e'
  exact ⟨e,f0,f1,f2,d⟩
theorem Inv.unpinned {pins pl:List (Addr × Obj)}{σ:St}{H:Hp}{s:Shared} (I:Inv X (pins++pl) σ H s):Inv X pins σ H s:=I.pins_of λ p hp=>I.pin p (mem_append_right _ (mem_append_left _ hp))
theorem Zzq {iter:Expr}{body:List Stmt}{wi:TI}{g:TG}{tb:TS}{pos:Pos} (hp:PassesOwn (model X.prog X.w) X.A X.env X.xe) (hc:X.calm=true) (hi:PI X tg iter wi) (hg:PG X tg g) (hb:PSs X body tb)
  (hs:∀ x,foldedSetIterable iter X.env x=pure x:=by intro _;rfl):PS X (.For tg iter body [] pos) (tFor wi g tb):=by
 intro pins s σ H D I h
 refine wpAny_For (thn (hi pins s σ H _ I h) λ v s1 h1=>thn h1 λ itv s2 h2=>?_) hs
 obtain ⟨it,fp,tn,J,H2,e,I2,T,st2,f2,W,⟨m0,w0⟩,turn⟩:=h2
 subst e
 -- what stays true of the iterator's objects through the loop
 have stat:∀ {H':Hp},(∀ b∈fp,H' b=none)->∀ b∈fp,FpOk X pins H' b:=λ hn b hb=>⟨hn b hb,(f2 b hb).2⟩
 refine codeAny_forLoop_any (λ n s'=>∃ i σ' H',Inv X pins σ' H' s'/\tn i s'.heap/\(∀ b∈fp,H' b=none)/\W i n σ' H') ?_ m0 ⟨0,σ,H2,I2,st2,λ b hb=>(f2 b hb).1,w0⟩
 rintro n s3 ⟨i,σ3,H3,I3,st3,fr3,w3⟩
 rcases turn i n σ3 H3 w3 with ⟨stop,qn⟩|⟨go,N,hN,step⟩
 ·refine wpAny_passesOwn hp (thn (T.done X rfl rfl rfl hc i pins s3 σ3 H3 X.xe I3 (stat fr3) st3 stop) λ r s4 ⟨hr,I4⟩=>?_)
  subst hr
  exact wpAny_execs_nil ⟨σ3,H3,I4,qn⟩
 ·refine wpAny_passesOwn hp (thn (T.item X rfl rfl rfl hc i pins s3 σ3 H3 X.xe I3 (stat fr3) st3 go) λ r s4 ⟨u,hr,h4⟩=>?_)
  subst hr
  refine wpAny_passesOwn hp (thn h4 λ _ s5 ⟨x,H5,I5,r5,y5,st5,fr5⟩=>?_)
  have I5':=I5.pinned (stat fr5) (T.obj _ _ st5)
  refine wpAny_passesOwn hp (thn (hg _ s5 σ3 H5 x u _ I5' r5 (step x H5 y5)) λ _ s6 ⟨σ6,H6,I6,q6⟩=>?_)
  refine wpAny_passesOwn hp (thn (hb _ s6 σ6 H6 _ I6 q6) λ f s7 q7=>?_)
  have again:∀ {σ7:St}{H7:Hp},Inv X (pins++pinsAt fp s5.heap) σ7 H7 s7->N σ7 H7->∃ m,m<n/\∃ i σ' H',Inv X pins σ' H' s7/\tn i s7.heap/\(∀ b∈fp,H' b=none)/\W i m σ' H':=λ {σ7 H7} I7 n7=>by
   obtain ⟨m',hm,w7⟩:=hN σ7 H7 n7
   refine ⟨m',hm,i+1,σ7,H7,I7.unpinned,T.keep _ _ _ st5 λ b hb o e=>(I7.pin (b,o) (mem_append_right _ (mem_append_right _ (Zhk hb e)))).1,λ b hb=>?_,w7⟩
   obtain ⟨o,e,d⟩:=T.obj _ _ st5 b hb
   exact (I7.pin (b,o) (mem_append_right _ (mem_append_right _ (Zhk hb e)))).2.1
  cases f with
  | next=>obtain ⟨σ7,H7,I7,n7⟩:=q7;exact again I7 n7
  | cont=>obtain ⟨σ7,H7,I7,n7⟩:=q7;exact again I7 n7
  | brk=>obtain ⟨σ7,H7,I7,q7⟩:=q7;exact ⟨σ7,H7,I7.unpinned,q7⟩
  | ret v=>obtain ⟨x7,σ7,H7,I7,r7,q7⟩:=q7;exact ⟨x7,σ7,H7,I7.unpinned,r7,q7⟩
end
end L2
namespace L2
open PySem PySem.Spec PyProof.Rows
abbrev R2:=V->V->Hp->VK->Prop
def OpR (X:Cx) (f:Value->Value->Sem Value) (r:R2):Prop:=
 ∀ (pins:List (Addr × Obj)) (s:Shared) (σ:St) (H:Hp) (x y:V) (v u:Value) (Q:VK),Inv X pins σ H s->RelV x v->RelV y u->r x y H Q ->
  wpAny (model X.prog X.w) X.A (f v u) (EP X pins σ Q) X.xe s
def UnR (X:Cx) (f:Value->Sem Value) (r:V->Hp->VK->Prop):Prop:=
 ∀ (pins:List (Addr × Obj)) (s:Shared) (σ:St) (H:Hp) (x:V) (v:Value) (Q:VK),Inv X pins σ H s->RelV x v->r x H Q ->
  wpAny (model X.prog X.w) X.A (f v) (EP X pins σ Q) X.xe s
def CallR (X:Cx) (f:Value) (r:List V->Hp->VK->Prop):Prop:=
 ∀ (pins:List (Addr × Obj)) (s:Shared) (σ:St) (H:Hp) (xs:List V) (us:List Value) (Q:VK),Inv X pins σ H s->Vals xs us->r xs H Q ->
  wpAny (model X.prog X.w) X.A (call f us) (EP X pins σ Q) X.xe s
def TruR (X:Cx) (r:V->Hp->(Bool->Hp->Prop)->Prop):Prop:=
 ∀ (pins:List (Addr × Obj)) (s:Shared) (σ:St) (H:Hp) (x:V) (v:Value) (Q:Bool->Hp->Prop),Inv X pins σ H s->RelV x v->r x H Q ->
  wpAny (model X.prog X.w) X.A (truthy v) (TP X pins σ Q) X.xe s
def tOp (r:R2) (ta tb:TE):TE:=λ σ H Q=>ta σ H λ x H1=>tb σ H1 λ y H2=>r x y H2 Q
def tUn (r:V->Hp->VK->Prop) (ta:TE):TE:=λ σ H Q=>ta σ H λ x H1=>r x H1 Q
def rI (C:Int->Int->Prop) (g:Int->Int->V):R2:=λ x y H Q=>∃ i j,x = .int i/\y = .int j/\C i j/\Q (g i j) H
def rI0 (g:Int->Int->V):R2:=λ x y H Q=>∃ i j,x = .int i/\y = .int j/\Q (g i j) H
def rU (g:Int->V):V->Hp->VK->Prop:=λ x H Q=>∃ i,x = .int i/\Q (g i) H
section
variable {X:Cx}{a b c:Expr}{ta tb tc:TE}{pos:Pos}
theorem binT (ha:PE X a ta) (hb:PE X b tb) {pins:List (Addr × Obj)}{s:Shared}{σ:St}{H:Hp}{R:V->V->Hp->Prop} (I:Inv X pins σ H s)
  (h:ta σ H λ x H1=>tb σ H1 λ y H2=>R x y H2) {Q:Value->Shared->Prop}{f:Value->Value->Sem Value}
  (hf:∀ v u s2 x y H2,Inv X pins σ H2 s2->RelV x v->RelV y u->R x y H2->wpAny (model X.prog X.w) X.A (f v u) Q X.xe s2) :
  wpAny (model X.prog X.w) X.A (eval a X.env) (λ v s₁=>wpAny (model X.prog X.w) X.A (eval b X.env) (λ u s₂=>wpAny (model X.prog X.w) X.A (f v u) Q X.xe s₂) X.xe s₁) X.xe s:=by
 refine thn (ha pins s σ H _ I h) λ v s1 ⟨x,H1,I1,r1,q1⟩=>?_
 refine thn (hb pins s1 σ H1 _ I1 q1) λ u s2 ⟨y,H2,I2,r2,q2⟩=>?_
 exact hf v u s2 x y H2 I2 r1 r2 q2
theorem Yah {op:Operator}{r:R2} (ho:OpR X (binaryOp op) r) (ha:PE X a ta) (hb:PE X b tb):PE X (.BinOp a op b pos) (tOp r ta tb):=by
 intro pins s σ H Q I h
 exact wpAny_BinOp (binT ha hb I h λ v u s2 x y H2 I2 rx ry q=>ho pins s2 σ H2 x y v u Q I2 rx ry q)
theorem Yai {op:UnaryOp}{r:V->Hp->VK->Prop} (ho:UnR X (unaryOp op) r) (ha:PE X a ta):PE X (.UnaryOp op a pos) (tUn r ta):=by
 intro pins s σ H Q I h
 exact UnaryOp_ (thn (ha pins s σ H _ I h) λ v s1 ⟨x,H1,I1,r1,q1⟩=>ho pins s1 σ H1 x v Q I1 r1 q1)
theorem opI {f:Value->Value->Sem Value}{C:Int->Int->Prop}{g:Int->Int->Int}
  (rule:∀ (i j:Int) (t u:Tok) (s:Shared) (Q:Value->Shared->Prop) (E:Value->Shared->Prop),C i j->Q (.int (g i j) s.toks) { s with toks:=s.toks+1 }->wpAny (model X.prog X.w) X.A (f (.int i t) (.int j u)) Q E s) :
  OpR X f (rI C λ i j=>.int (g i j)):=by
 intro pins s σ H x y v u Q I rx ry h
 obtain ⟨i,j,rfl,rfl,hc,q⟩:=h
 obtain ⟨t,rfl⟩:=rx
 obtain ⟨t',rfl⟩:=ry
 exact rule i j t t' s _ _ hc ⟨.int (g i j),H,I.tok _,⟨_,rfl⟩,q⟩
theorem opI0 {f:Value->Value->Sem Value}{g:Int->Int->Int}
  (rule:∀ (i j:Int) (t u:Tok) (s:Shared) (Q:Value->Shared->Prop) (E:Value->Shared->Prop),Q (.int (g i j) s.toks) { s with toks:=s.toks+1 }->wpAny (model X.prog X.w) X.A (f (.int i t) (.int j u)) Q E s) :
  OpR X f (rI0 λ i j=>.int (g i j)):=by
 intro pins s σ H x y v u Q I rx ry h
 obtain ⟨i,j,rfl,rfl,q⟩:=h
 obtain ⟨t,rfl⟩:=rx
 obtain ⟨t',rfl⟩:=ry
 exact rule i j t t' s _ _ ⟨.int (g i j),H,I.tok _,⟨_,rfl⟩,q⟩
theorem opB0 {f:Value->Value->Sem Value}{g:Int->Int->Bool}
  (rule:∀ (i j:Int) (t u:Tok) (s:Shared) (Q:Value->Shared->Prop) (E:Value->Shared->Prop),Q (.bool (g i j)) s->wpAny (model X.prog X.w) X.A (f (.int i t) (.int j u)) Q E s) :
  OpR X f (rI0 λ i j=>.bl (g i j)):=by
 intro pins s σ H x y v u Q I rx ry h
 obtain ⟨i,j,rfl,rfl,q⟩:=h
 obtain ⟨t,rfl⟩:=rx
 obtain ⟨t',rfl⟩:=ry
 exact rule i j t t' s _ _ ⟨.bl (g i j),H,I,rfl,q⟩
def CDiv (i j:Int):Prop:=0<j/\j<1073741824
def CMul (i j:Int):Prop:=(-(2 ^ 64)<i/\i<2 ^ 64) \/ (-(2 ^ 64)<j/\j<2 ^ 64)
theorem CMul.ok {i j:Int} (h:CMul i j):IntMulOk i j:=by
 rcases h with ⟨h1,h2⟩|⟨h1,h2⟩
 ·exact .of_left (intBits_le_64 h1 h2)
 ·exact .of_right (intBits_le_64 h1 h2)
theorem Zct:OpR X (binaryOp .Add) (rI0 λ i j=>.int (i+j)):=opI0 λ _ _ _ _ _ _ _ q=>add_int q
theorem Zhs:OpR X (binaryOp .Sub) (rI0 λ i j=>.int (i-j)):=opI0 λ _ _ _ _ _ _ _ q=>sub_int q
theorem Zqb:OpR X (binaryOp .FloorDiv) (rI CDiv λ i j=>.int (i / j)):=opI λ i j _ _ _ _ _ hc q=>by
 have h1:(0:Int)<j:=hc.1
 have h2:j<1073741824:=hc.2
 exact floordiv_int (by omega) (by rw [Int.fdiv_eq_ediv_of_nonneg i (by omega)];exact q) (.inl (PyProof.noPylong_small (by omega)))
theorem Zli:OpR X (binaryOp .Mod) (rI (λ _ j=>0<j) λ i j=>.int (i % j)):=opI λ i j _ _ _ _ _ hc q=>by
 have h1:(0:Int)<j:=hc
 exact mod_int' (by omega) (by rw [Int.fmod_eq_emod_of_nonneg i (by omega)];exact q)
theorem unI {f:Value->Sem Value}{g:Int->Int}
  (rule:∀ (i:Int) (t:Tok) (s:Shared) (Q:Value->Shared->Prop) (E:Value->Shared->Prop),Q (.int (g i) s.toks) { s with toks:=s.toks+1 }->wpAny (model X.prog X.w) X.A (f (.int i t)) Q E s) :
  UnR X f (rU λ i=>.int (g i)):=by
 intro pins s σ H x v Q I rx h
 obtain ⟨i,rfl,q⟩:=h
 obtain ⟨t,rfl⟩:=rx
 exact rule i t s _ _ ⟨.int (g i),H,I.tok _,⟨_,rfl⟩,q⟩
theorem Zjz:UnR X (unaryOp .USub) (rU λ i=>.int (-i)):=unI λ _ _ _ _ _ q=>neg_int q
end
def scal:V->V->Bool
 | .non,.non=>true | .non,.int _=>true | .int _,.non=>true | .non,.bl _=>true | .bl _,.non=>true | .non,.str _=>true | .str _,.non=>true
 | .int _,.int _=>true | .bl _,.bl _=>true | .str _,.str _=>true | .byt _,.byt _=>true
 | .int _,.str _=>true | .str _,.int _=>true | .bl _,.str _=>true | .str _,.bl _=>true
 | _,_=>false
def rEq:R2:=λ x y H Q=>scal x y=true/\Q (.bl (decide (x=y))) H
def rNe:R2:=λ x y H Q=>scal x y=true/\Q (.bl (!decide (x=y))) H
theorem Zt5 {i j:Int}:decide (V.int i=V.int j)=(i == j):=by
 rw [Bool.eq_iff_iff]
 simp
theorem Zwq {i j:Bool}:decide (V.bl i=V.bl j)=(i == j):=by
 rw [Bool.eq_iff_iff]
 simp
theorem Zt6 {i j:Str}:decide (V.str i=V.str j)=(i == j):=by
 rw [Bool.eq_iff_iff]
 simp
theorem Zt4 {i j:Array UInt8}:decide (V.byt i=V.byt j)=(i.toList == j.toList):=by
 rw [Bool.eq_iff_iff]
 cases i
 cases j
 simp
section
variable {X:Cx}{a b c:Expr}{ta tb tc:TE}{pos:Pos}
theorem Zcs {pins:List (Addr × Obj)}{σ:St}{H:Hp}{s:Shared}{Q:VK}{k k':Bool} (I:Inv X pins σ H s) (q:Q (.bl k) H) (e:k=k'):EP X pins σ Q (.bool k') s:=by
 subst e
 exact ⟨.bl k,H,I,rfl,q⟩
theorem Zea:OpR X (compareOp .Eq) rEq:=by
 intro pins s σ H x y v u Q I rx ry h
 obtain ⟨hs,q⟩:=h
 cases x with
 | non=>
  cases rx
  cases y with
  | non=>cases ry;exact PySem.EqNone.eq_none_none (Zcs I q (by simp))
  | bl j=>cases ry;exact PySem.EqNone.eq_none_bool (Zcs I q (by simp))
  | int j=>obtain ⟨t',rfl⟩:=ry;exact PySem.EqNone.eq_none_int (Zcs I q (by simp))
  | str j=>obtain ⟨t',rfl⟩:=ry;exact PySem.EqNone.eq_none_str (Zcs I q (by simp))
  | _=>exact absurd (show false=true from hs) Bool.false_ne_true
 | bl i=>
  cases rx
  cases y with
  | non=>cases ry;exact PySem.EqNone.eq_bool_none (Zcs I q (by simp))
  | bl j=>cases ry;exact eq_bool (Zcs I q Zwq)
  | str j=>obtain ⟨t',rfl⟩:=ry;exact PySem.EqMixed.eq_bool_str (Zcs I q (by simp))
  | _=>exact absurd (show false=true from hs) Bool.false_ne_true
 | int i=>
  obtain ⟨t,rfl⟩:=rx
  cases y with
  | non=>cases ry;exact PySem.EqNone.eq_int_none (Zcs I q (by simp))
  | int j=>obtain ⟨t',rfl⟩:=ry;exact eq_int (Zcs I q Zt5)
  | str j=>obtain ⟨t',rfl⟩:=ry;exact PySem.EqMixed.eq_int_str (Zcs I q (by simp))
  | _=>exact absurd (show false=true from hs) Bool.false_ne_true
 | str i=>
  obtain ⟨t,rfl⟩:=rx
  cases y with
  | non=>cases ry;exact PySem.EqNone.eq_str_none (Zcs I q (by simp))
  | bl j=>cases ry;exact PySem.EqMixed.eq_str_bool (Zcs I q (by simp))
  | int j=>obtain ⟨t',rfl⟩:=ry;exact PySem.EqMixed.eq_str_int (Zcs I q (by simp))
  | str j=>obtain ⟨t',rfl⟩:=ry;exact eq_str (Zcs I q Zt6)
  | _=>exact absurd (show false=true from hs) Bool.false_ne_true
 | byt i=>
  obtain ⟨t,rfl⟩:=rx
  cases y with
  | byt j=>obtain ⟨t',rfl⟩:=ry;exact PySem.W.eq_bytes (Zcs I q Zt4)
  | _=>exact absurd (show false=true from hs) Bool.false_ne_true
 | _=>cases y <;> exact absurd (show false=true from hs) Bool.false_ne_true
theorem Zpa:OpR X (compareOp .NotEq) rNe:=by
 intro pins s σ H x y v u Q I rx ry h
 obtain ⟨hs,q⟩:=h
 cases x with
 | non=>
  cases rx
  cases y with
  | non=>cases ry;exact PySem.EqNone.ne_none_none (Zcs I q (by simp))
  | bl j=>cases ry;exact PySem.EqNone.ne_none_bool (Zcs I q (by simp))
  | int j=>obtain ⟨t',rfl⟩:=ry;exact PySem.EqNone.ne_none_int (Zcs I q (by simp))
  | str j=>obtain ⟨t',rfl⟩:=ry;exact PySem.EqNone.ne_none_str (Zcs I q (by simp))
  | _=>exact absurd (show false=true from hs) Bool.false_ne_true
 | bl i=>
  cases rx
  cases y with
  | non=>cases ry;exact PySem.EqNone.ne_bool_none (Zcs I q (by simp))
  | bl j=>cases ry;exact ne_bool (Zcs I q (congrArg not Zwq))
  | str j=>obtain ⟨t',rfl⟩:=ry;exact PySem.EqMixed.ne_bool_str (Zcs I q (by simp))
  | _=>exact absurd (show false=true from hs) Bool.false_ne_true
 | int i=>
  obtain ⟨t,rfl⟩:=rx
  cases y with
  | non=>cases ry;exact PySem.EqNone.ne_int_none (Zcs I q (by simp))
  | int j=>obtain ⟨t',rfl⟩:=ry;exact ne_int (Zcs I q (congrArg not Zt5))
  | str j=>obtain ⟨t',rfl⟩:=ry;exact PySem.EqMixed.ne_int_str (Zcs I q (by simp))
  | _=>exact absurd (show false=true from hs) Bool.false_ne_true
 | str i=>
  obtain ⟨t,rfl⟩:=rx
  cases y with
  | non=>cases ry;exact PySem.EqNone.ne_str_none (Zcs I q (by simp))
  | bl j=>cases ry;exact PySem.EqMixed.ne_str_bool (Zcs I q (by simp))
  | int j=>obtain ⟨t',rfl⟩:=ry;exact PySem.EqMixed.ne_str_int (Zcs I q (by simp))
  | str j=>obtain ⟨t',rfl⟩:=ry;exact ne_str (Zcs I q (congrArg not Zt6))
  | _=>exact absurd (show false=true from hs) Bool.false_ne_true
 | byt i=>
  obtain ⟨t,rfl⟩:=rx
  cases y with
  | byt j=>obtain ⟨t',rfl⟩:=ry;exact PySem.W.ne_bytes (Zcs I q (congrArg not Zt4))
  | _=>exact absurd (show false=true from hs) Bool.false_ne_true
 | _=>cases y <;> exact absurd (show false=true from hs) Bool.false_ne_true
theorem Znr:OpR X (compareOp .Lt) (rI0 λ i j=>.bl (decide (i<j))):=opB0 λ _ _ _ _ _ _ _ q=>lt_int q
theorem Ztw:OpR X (compareOp .LtE) (rI0 λ i j=>.bl (decide (i≤j))):=opB0 λ _ _ _ _ _ _ _ q=>le_int q
theorem Zsi:OpR X (compareOp .Gt) (rI0 λ i j=>.bl (decide (j<i))):=opB0 λ _ _ _ _ _ _ _ q=>gt_int q
theorem Zz6:OpR X (compareOp .Is) (λ x y H Q=>y = .non/\Q (.bl (decide (x = .non))) H):=by
 intro pins s σ H x y v u Q I rx ry h
 obtain ⟨rfl,q⟩:=h
 cases ry
 refine is_none_gen (Zcs I q ?_)
 cases x <;> first
  | (cases rx;rfl)
  | (obtain ⟨t,rfl⟩:=rx;rfl)
theorem Zty:OpR X (compareOp .IsNot) (λ x y H Q=>y = .non/\Q (.bl (!decide (x = .non))) H):=by
 intro pins s σ H x y v u Q I rx ry h
 obtain ⟨rfl,q⟩:=h
 cases ry
 refine isnot_none_gen (Zcs I q ?_)
 cases x <;> first
  | (cases rx;rfl)
  | (obtain ⟨t,rfl⟩:=rx;rfl)
theorem nomark (b:Expr) {op:CmpOp} (h:op≠.In:=by decide) (h2:op≠.NotIn:=by decide):behindInMarks op b=false:=by
 have e1:(op == CmpOp.In)=false:=by cases op <;> first|rfl|exact absurd rfl h
 have e2:(op == CmpOp.NotIn)=false:=by cases op <;> first|rfl|exact absurd rfl h2
 cases b <;> simp [behindInMarks,e1,e2]
theorem Zxp {op:CmpOp}{r:R2} (ho:OpR X (compareOp op) r) (ha:PE X a ta) (hb:PE X b tb) (hm:behindInMarks op b=false):PE X (.Compare a [op] [b] pos) (tOp r ta tb):=by
 intro pins s σ H Q I h
 exact wpAny_Compare1 (binT ha hb I h λ v u s2 x y H2 I2 rx ry q=>ho pins s2 σ H2 x y v u Q I2 rx ry q) hm
def tTest (t:TE):TT:=λ σ H Q=>t σ H λ x H'=>∃ k,x = .bl k/\Q k H'
theorem Zy5 {op:CmpOp}{r:R2} (ho:OpR X (compareOp op) r) (ha:PE X a ta) (hb:PE X b tb) (hm:behindInMarks op b=false):PT X (.Compare a [op] [b] pos) (tTest (tOp r ta tb)):=by
 intro pins s σ H Q I h
 refine wpAny_isTrue_Compare1 (thn (ha pins s σ H _ I h) λ v s1 ⟨x,H1,I1,r1,q1⟩=>thn (hb pins s1 σ H1 _ I1 q1) λ u s2 ⟨y,H2,I2,r2,q2⟩=>
  thn (ho pins s2 σ H2 x y v u _ I2 r1 r2 q2) λ c s3 ⟨z,H3,I3,r3,k,e,q3⟩=>?_) hm
 subst e
 cases r3
 exact wpAny_truthy_bool ⟨H3,I3,q3⟩
def tChain (r r':R2) (ta tb tc:TE):TE:=λ σ H Q=>ta σ H λ x H1=>tb σ H1 λ y H2=>r x y H2 λ z H3=>∃ k,z = .bl k /\
 (if k=true then tc σ H3 λ w' H4=>r' y w' H4 Q else Q (.bl false) H3)
theorem Zvx {op op':CmpOp}{r r':R2} (ho:OpR X (compareOp op) r) (ho':OpR X (compareOp op') r') (ha:PE X a ta) (hb:PE X b tb) (hc:PE X c tc)
  (hm:lastMarks [op,op'] [b,c]=false:=by with_unfolding_all rfl):PT X (.Compare a [op,op'] [b,c] pos) (tTest (tChain r r' ta tb tc)):=by
 intro pins s σ H Q I h
 refine isTrue_chain (thn (ha pins s σ H _ I h) λ v s1 ⟨x,H1,I1,r1,q1⟩=>test_link (thn (hb pins s1 σ H1 _ I1 q1) λ u s2 ⟨y,H2,I2,r2,q2⟩=>
  thn (ho pins s2 σ H2 x y v u _ I2 r1 r2 q2) λ d s3 ⟨z,H3,I3,r3,k,e,q3⟩=>?_)) hm
 subst e
 cases r3
 refine wpAny_truthy_bool ?_
 cases k with
 | false=>
  obtain ⟨k',e',q'⟩:=q3
  cases e'
  exact ite_ff ⟨H3,I3,q'⟩
 | true=>
  refine ite_tt (test_last (thn (hc pins s3 σ H3 _ I3 q3) λ w' s4 ⟨z',H4,I4,r4,q4⟩=>thn (ho' pins s4 σ H4 y z' u w' _ I4 r2 r4 q4) λ d' s5 ⟨z2,H5,I5,r5,k2,e2,q5⟩=>?_))
  subst e2
  cases r5
  exact wpAny_truthy_bool ⟨H5,I5,q5⟩
def TruV (K:PySem.W.Frag) (x:V) (H:Hp) (k:Bool):Prop:=
 match x with
 | .non=>k=false
 | .bl b=>k=b
 | .int i=>k=(i != 0)
 | .str y=>y.length≤sizeLine/\k=((y.length:Int) != 0)
 | .byt y=>y.size≤sizeLine/\k=((y.size:Int) != 0)
 | .ref p=>(∃ xs,SqL K H p xs/\k = !xs.isEmpty) \/ (∃ xs,SqT K H p xs/\k = !xs.isEmpty) \/ ∃ kvs,H p=some (.dK kvs)/\k = !kvs.isEmpty
 | _=>False
theorem Zsa {κ:Type}{kvs:List (κ × V)}{vs:List (κ × Value)} (r:KV kvs vs):(!vs.isEmpty) = !kvs.isEmpty:=by
 cases r <;> rfl
theorem Zmo {xs:List V}{its:List Value} (r:Vals xs its):(!its.toArray.isEmpty) = !xs.isEmpty:=by
 cases r <;> simp
theorem line63:(sizeLine:Nat)<2 ^ 63:=by rw [sizeLine_eq];decide
theorem Yaa:TruR X (λ x H Q=>∃ k,TruV X.K x H k/\Q k H):=by
 intro pins s σ H x v Q I rx h
 obtain ⟨k,e,q⟩:=h
 have hl:=line63
 have hs:sizeLine=16777216:=sizeLine_eq
 cases x with
 | non=>
  cases rx
  have e':k=false:=e
  subst e'
  exact truthy_none ⟨H,I,q⟩
 | bl b=>
  cases rx
  have e':k=b:=e
  subst e'
  exact wpAny_truthy_bool ⟨H,I,q⟩
 | int i=>
  obtain ⟨t,rfl⟩:=rx
  have e':k=(i != 0):=e
  subst e'
  exact PySem.P.truthy_int ⟨H,I,q⟩
 | str y=>
  obtain ⟨t,rfl⟩:=rx
  obtain ⟨hy,e'⟩:y.length≤sizeLine/\k=((y.length:Int) != 0):=e
  subst e'
  exact PySem.P.truthy_str (by omega) ⟨H,I.tok _,q⟩
 | byt y=>
  obtain ⟨t,rfl⟩:=rx
  obtain ⟨hy,e'⟩:y.size≤sizeLine/\k=((y.size:Int) != 0):=e
  subst e'
  exact PySem.W.truthy_bytes (by omega) ⟨H,I.tok _,q⟩
 | ref p=>
  cases rx
  have e':(∃ xs,SqL X.K H p xs/\k = !xs.isEmpty) \/ (∃ xs,SqT X.K H p xs/\k = !xs.isEmpty) \/ ∃ kvs,H p=some (.dK kvs)/\k = !kvs.isEmpty:=e
  rcases e' with ⟨xs,hx,e'⟩|⟨xs,hx,e'⟩|⟨kvs,hx,e'⟩
  ·subst e'
   obtain ⟨its,r,pl,hz⟩:=I.list hx
   have hlen:=r.length
   exact wpAny_truthy_list pl.isList (by simp only [size_toArray];omega) ⟨H,I.tok _,by rw [Zmo r];exact q⟩
  ·subst e'
   obtain ⟨its,r,pl,hz⟩:=I.tuple hx
   have hlen:=r.length
   exact truthy_tuple pl (by simp only [size_toArray];omega) ⟨H,I.tok _,by rw [Zmo r];exact q⟩
  ·subst e'
   obtain ⟨hz,hS,vs,r,m⟩:kvs.length≤sizeLine/\(p == sysModules)=false/\∃ vs,KV kvs vs/\s.heap.DictOf (mixKind X.prog X.w) p vs:=I.hok p _ hx
   have hlen:kvs.length=vs.length:=Paired.length r
   exact wpAny_truthy_dict hS m (by omega) ⟨H,I.tok _,by rw [Zsa r];exact q⟩
 | _=>exact (show False from e).elim
theorem Zvy (ha:PE X a ta) (he:∀ whole,isTrue a X.env whole=(do let v <- whole;standAt a.pos;holding [v] (truthy v))) :
  PT X a (λ σ H Q=>ta σ H λ x H'=>∃ k,TruV X.K x H' k/\Q k H'):=by
 intro pins s σ H Q I h
 exact isTrue_plain (thn (ha pins s σ H _ I h) λ v s1 ⟨x,H1,I1,r1,q1⟩=>Yaa pins s1 σ H1 x v Q I1 r1 q1) (he _)
theorem vals1 {x:V}{us:List Value} (r:Vals [x] us):∃ u,us=[u]/\RelV x u:=by
 cases r with
 | cons r1 r2=>cases r2;exact ⟨_,rfl,r1⟩
theorem vals2 {x y:V}{us:List Value} (r:Vals [x,y] us):∃ u w',us=[u,w']/\RelV x u/\RelV y w':=by
 cases r with
 | cons r1 r2=>
  cases r2 with
  | cons r3 r4=>cases r4;exact ⟨_,_,rfl,r1,r3⟩
theorem Zv1:CallR X (.builtin "abs") (λ xs H Q=>∃ i,xs=[.int i]/\Q (.int (if i<0 then -i else i)) H):=by
 intro pins s σ H xs us Q I r h
 obtain ⟨i,rfl,q⟩:=h
 obtain ⟨u,rfl,t,rfl⟩:=vals1 r
 exact call_abs_int λ u tk=>⟨.int (if i<0 then -i else i),H,I.tok _,⟨_,rfl⟩,q⟩
theorem Zog (hc:X.calm=true):CallR X (.builtin "max") (λ xs H Q=>∃ i j,xs=[.int i,.int j]/\Q (.int (if j > i then j else i)) H):=by
 intro pins s σ H xs us Q I r h
 obtain ⟨i,j,rfl,q⟩:=h
 obtain ⟨u,w',rfl,⟨t,rfl⟩,⟨t',rfl⟩⟩:=vals2 r
 refine max_two_ints (I.ok.hd hc) λ h' tk k=>⟨_,H,I.kept k,?_,q⟩
 by_cases hj:j > i
 ·rw [if_pos hj,if_pos hj];exact ⟨_,rfl⟩
 ·rw [if_neg hj,if_neg hj];exact ⟨_,rfl⟩
theorem Zsw (hc:X.calm=true):CallR X (.builtin "min") (λ xs H Q=>∃ i j,xs=[.int i,.int j]/\Q (.int (if j<i then j else i)) H):=by
 intro pins s σ H xs us Q I r h
 obtain ⟨i,j,rfl,q⟩:=h
 obtain ⟨u,w',rfl,⟨t,rfl⟩,⟨t',rfl⟩⟩:=vals2 r
 refine min_two_ints (I.ok.hd hc) λ h' tk k=>⟨_,H,I.kept k,?_,q⟩
 by_cases hj:j<i
 ·rw [if_pos hj,if_pos hj];exact ⟨_,rfl⟩
 ·rw [if_neg hj,if_neg hj];exact ⟨_,rfl⟩
theorem Zkn:CallR X (.type "int") (λ xs H Q=>(∃ i,xs=[.int i]/\Q (.int i) H) \/ ∃ k,xs=[.bl k]/\Q (.int (if k then 1 else 0)) H):=by
 intro pins s σ H xs us Q I r h
 rcases h with ⟨i,rfl,q⟩|⟨k,rfl,q⟩
 ·obtain ⟨u,rfl,t,rfl⟩:=vals1 r
  exact call_int_int ⟨.int i,H,I,⟨_,rfl⟩,q⟩
 ·obtain ⟨u,rfl,r1⟩:=vals1 r
  cases r1
  exact call_int_bool ⟨.int (if k then 1 else 0),H,I.tok _,⟨_,rfl⟩,q⟩
end
end L2
namespace L2
open PySem PySem.Spec PyProof.Rows
structure ObjM (h:Heap) (x dx C:Addr) (mA:Str->Option Value):Prop where
 obj:h.get? x=some (PySem.W.instObj C dx)
 ns:h.Ns1 dx mA
 ne:dx≠x
theorem Ztr {h:Heap}{dx:Addr}{mA:Str->Option Value} (n:h.Ns1 dx mA):∃ od,h.get? dx=some od/\∀ name,PySem.W.lookIn name od=some (mA name):=by
 obtain ⟨o,es,ep,ho,hd,hk,_,hm⟩:=n
 refine ⟨o,ho,λ name=>?_⟩
 have e:=hm name
 unfold nsFind findBy at e
 rw [<- Array.find?_toList] at e
 unfold PySem.W.lookIn
 rw [hd]
 dsimp only
 split
 ·rename_i y q
  rw [q] at e
  exact congrArg some e
 ·rename_i q
  rw [q] at e
  have a:es.toList.any (·.refKey)=false:=by
   rw [List.any_eq_false]
   intro y hy
   obtain ⟨z,t,hkey⟩:=hk y (Array.mem_toList_iff.mp hy)
   simp [DictEntry.refKey,hkey]
  have a':¬ es.toList.any (·.refKey)=true:=by rw [a];exact Bool.false_ne_true
  rw [if_neg a']
  exact congrArg some e
theorem ObjM.look {h:Heap}{x dx C:Addr}{mA:Str->Option Value} (I:ObjM h x dx C mA):∃ od,PySem.W.InstAt h x (PySem.W.instObj C dx) C (some od)/\∀ name,PySem.W.lookIn name od=some (mA name):=
 let ⟨od,ho,hl⟩:=Ztr I.ns
 ⟨od,⟨I.obj,rfl,rfl,ho⟩,hl⟩
section
variable {prog:Program}{w:World}{A:Around}{E:Value->Shared->Prop}{s:Shared}{K:PySem.W.Frag}{x dx C f:Addr}{mA:Str->Option Value}{name:Str}{v:Value}
end
theorem RelO.some_of {v:V}{o:Option Value} (r:RelO (some v) o):∃ u,o=some u/\RelV v u:=by
 cases o with
 | none=>exact (show False from r).elim
 | some u=>exact ⟨u,rfl,r⟩
section
variable {P:Program}{w:World}{H H':Hp}{h h':Heap}{a C dx:Addr}{fs fs':List (Str × V)}
theorem Zxh (hok:HOk P w H h) (e:H a=some (.ins C dx fs)):∃ mA,ObjM h a dx C mA/\(∀ f,RelO (fs.lookup f) (mA f))/\PySem.Within mA (fs.map (·.1))/\fs.length≤1000/\H dx=some (.own a):=by
 obtain ⟨d,z,ne,ob,mA,n,r,q⟩:=(show ObjOk P w H h a (.ins C dx fs) from hok a _ e)
 exact ⟨mA,⟨ob,n,ne⟩,r,q,z,d⟩
end
structure Cls (K:PySem.W.Frag) (C:Addr):Prop where
 pg:PySem.W.plainGet K C Str.empty=true
 hd:PySem.W.hasDictIn K C=true
 po:PySem.W.plainOver K C=true
 sa:PySem.W.findIn K (.ref C) "__setattr__" = some (some (.builtin "object.__setattr__"))
theorem Cls.get {K:PySem.W.Frag}{C:Addr} (c:Cls K C) (f:Str):PySem.W.plainGet K C f=true:=c.pg
section
variable {X:Cx}{pins:List (Addr × Obj)}{σ:St}{H:Hp}{s:Shared}{a C dx:Addr}{fs:List (Str × V)}{f:Str}{v:V}{A:Around}{E:Value->Shared->Prop}
end
section
variable {X:Cx}{o e value:Expr}{f:Str}{pos pos' tpos:Pos}{ta tv:TE}
end
section
variable {X:Cx}{pins:List (Addr × Obj)}{σ:St}{H:Hp}{s:Shared}{A:Around}{E:Value->Shared->Prop}{Q:Value->Shared->Prop}{c:Value}{b:Bool}
inductive TyOf (K:PySem.W.Frag) (H:Hp):V->Value->Prop where
 | non:TyOf K H .non (.type "NoneType")
 | bl (x:Bool):TyOf K H (.bl x) (.type "bool")
 | int (i:Int):TyOf K H (.int i) (.type "int")
 | str (x:Str):TyOf K H (.str x) (.type "str")
 | flt (x:UInt64):TyOf K H (.flt x) (.type "float")
 | lst {a:Addr}{xs:List V} (e:H a=some (.lst xs)):TyOf K H (.ref a) (.type "list")
 | frz {a:Addr}{o:Obj}{xs:List V} (e:H a=some (.frz o (.lst xs))):TyOf K H (.ref a) (.type "list")
 | tup {a:Addr}{xs:List V} (e:H a=some (.tup xs)):TyOf K H (.ref a) (.type "tuple")
 | dK {a:Addr}{kvs:List (Key × V)} (e:H a=some (.dK kvs)):TyOf K H (.ref a) (.type "dict")
 | dT {a:Addr}{kvs:List (List Key × V)} (e:H a=some (.dT kvs)):TyOf K H (.ref a) (.type "dict")
 | ins {a C dx:Addr}{fs:List (Str × V)} (e:H a=some (.ins C dx fs)) (cl:Cls K C) (ha:PySem.W.findIn K (.ref C) "__class__" = some (some (.builtin "object.__class__")))
   (hn:PySem.W.specialIn K (.builtin "object.__class__") "__get__" = some (some (.builtin "getset_descriptor.__get__"))) (htk:PySem.W.takesIn K (.builtin "object.__class__")=some true)
   (hm:PySem.W.mroIn K C (.type "object")=some true):TyOf K H (.ref a) (.ref C)
theorem Ztj {x:V}{u t:Value} (I:Inv X pins σ H s) (rx:RelV x u) (ty:TyOf X.K H x t) (e:PySem.W.kitOne X.K t c=some b) (h:∀ tk,Q (.bool b) { s with toks:=tk }) :
  wpAny (model X.prog X.w) A (call (.builtin "isinstance") [u,c]) Q E s:=by
 cases ty with
 | non=>cases (show u=Value.none from rx);exact kia_one PySem.W.kitx_none I.kIn True.intro e (λ z=>nomatch z) h
 | bl y=>cases (show u=Value.bool y from rx);exact kia_one PySem.W.kitx_bool I.kIn True.intro e (λ z=>nomatch z) h
 | int i=>obtain ⟨t,q⟩:=(show ∃ t,u=Value.int i t from rx);cases q;exact kia_one PySem.W.kitx_int I.kIn True.intro e (λ z=>nomatch z) h
 | str y=>obtain ⟨t,q⟩:=(show ∃ t,u=Value.str y t from rx);cases q;exact kia_one PySem.W.kitx_str I.kIn True.intro e (λ z=>nomatch z) h
 | flt y=>obtain ⟨t,q⟩:=(show ∃ t,u=Value.float y t from rx);cases q;exact kia_one PySem.W.kitx_float I.kIn True.intro e (λ z=>nomatch z) h
 | @lst a xs ea=>
  cases (show u=Value.ref a from rx)
  obtain ⟨_,_,n,_,h1⟩:=(show ObjOk X.prog X.w H s.heap a (.lst xs) from I.hok a _ ea)
  exact kia_one PySem.W.kitx_list I.kIn ⟨_,h1,rfl⟩ e (λ z=>nomatch z) h
 | @frz a ob xs ea=>
  cases (show u=Value.ref a from rx)
  obtain ⟨_,_,_,n,_,h1⟩:=(show ObjOk X.prog X.w H s.heap a (.frz ob (.lst xs)) from I.hok a _ ea)
  exact kia_one PySem.W.kitx_list I.kIn ⟨_,h1,rfl⟩ e (λ z=>nomatch z) h
 | @tup a xs ea=>
  cases (show u=Value.ref a from rx)
  obtain ⟨_,_,_,p⟩:=(show ObjOk X.prog X.w H s.heap a (.tup xs) from I.hok a _ ea)
  obtain ⟨o,h1,h2,_⟩:=p
  exact kia_one PySem.W.kitx_tuple I.kIn ⟨o,h1,h2⟩ e (λ z=>nomatch z) h
 | @dK a kvs ea=>
  cases (show u=Value.ref a from rx)
  obtain ⟨_,_,vs,_,p⟩:=(show ObjOk X.prog X.w H s.heap a (.dK kvs) from I.hok a _ ea)
  obtain ⟨o,es,ep,h1,h2,_⟩:=p
  exact kia_one PySem.W.kitx_dict I.kIn ⟨o,h1,h2.1⟩ e (λ z=>nomatch z) h
 | @dT a kvs ea=>
  cases (show u=Value.ref a from rx)
  obtain ⟨_,_,xs,_,o,es,ep,h1,h2,_⟩:=(show ObjOk X.prog X.w H s.heap a (.dT kvs) from I.hok a _ ea)
  exact kia_one PySem.W.kitx_dict I.kIn ⟨o,h1,h2.1⟩ e (λ z=>nomatch z) h
 | @ins a C dx fs ea cl ha hn htk hm=>
  cases (show u=Value.ref a from rx)
  obtain ⟨mA,O,_⟩:=Zxh I.hok ea
  obtain ⟨od,J,_⟩:=O.look
  exact kia_one (PySem.W.kitx_own (cl.get _) cl.hd ha hn htk hm) I.kIn J e (λ z=>nomatch z) h
end
end L2
namespace L2
open PySem PySem.Spec PyProof.Rows
structure Room (k:Nat) (A:Around):Prop where
 hd:A.handled=none
 dp:A.depth+3*k+5<recursionLimit
 un:A.units+16*k+200<cLine
 gd:A.guards=some []
theorem Room.mono {j k:Nat}{A:Around} (r:Room k A) (h:j≤k):Room j A:=⟨r.hd,by have:=r.dp;omega,by have:=r.un;omega,r.gd⟩
theorem Room.deeper {k:Nat}{A:Around} (r:Room (k+1) A) (env:Env):Room k (A.deeper env):=
 ⟨r.hd,by have:=r.dp;show A.depth+1+3*k+5<_;omega,by have:=r.un;show A.units+3+16*k+200<_;omega,r.gd⟩
theorem Room.depth {k:Nat}{A:Around} (r:Room k A):A.depth<recursionLimit:=by have:=r.dp;omega
theorem Room.units {k:Nat}{A:Around} (r:Room k A):A.units+64<cLine:=by have:=r.un;omega
def tNil:TA:=λ _ H Q=>Q [] H
def tCons (ta:TE) (tr:TA):TA:=λ σ H Q=>ta σ H λ x H1=>tr σ H1 λ xs H2=>Q (x::xs) H2
section
variable {X:Cx}{e:Expr}{es:List Expr}{te:TE}{t:TA}{pos:Pos}
theorem Zz7:PA X [] tNil:=λ _ _ _ _ H Q I h=>Calls.spliced_nil ⟨[],H,I,.nil,h⟩
theorem Zxm (ha:PE X e te) (hr:PA X es t) (hs:starEach (e::es) X.env=(false,eval e X.env)::starEach es X.env:=by rfl):PA X (e::es) (tCons te t):=by
 intro pos pins s σ H Q I h
 rw [hs]
 show wpAny _ _ (spliced ((false,eval e X.env)::backTo pos (starEach es X.env))) _ _ s
 refine Calls.spliced_cons (thn (ha pins s σ H _ I h) λ u s1 ⟨x,H1,I1,r1,q1⟩=>?_)
 exact thn (hr pos pins s1 σ H1 _ I1 q1) λ us s2 ⟨xs,H2,I2,r2,q2⟩=>⟨x::xs,H2,I2,.cons r1 r2,q2⟩
def tTup (t:TA):TE:=λ σ H Q=>t σ H λ xs H1=>xs.length≤sizeLine/\∀ p,H1 p=none->Q (.ref p) (upd H1 p (.tup xs))
def tLst (t:TA):TE:=λ σ H Q=>t σ H λ xs H1=>xs.length≤sizeLine/\∀ p,H1 p=none->Q (.ref p) (upd H1 p (.lst xs))
theorem Zzi {x1} (h:PA X es t):PE X (.Tuple es x1 pos) (tTup t):=by
 intro pins s σ H Q I hq
 refine wpAny_Tuple_spliced (thn (h pos pins s σ H _ I hq) λ us s1 ⟨xs,H1,I1,r,z,q⟩=>⟨by rw [<- r.length];exact z,?_⟩)
 have hf:H1 s1.heap.objs.size=none:=I1.hok.fresh (le_refl _)
 refine ⟨.ref s1.heap.objs.size,upd H1 s1.heap.objs.size (.tup xs),I1.laid (t':=s1.toks) (λ b u e=>get?_push_of_some _ e) (le_refl _) ?_,rfl,q _ hf⟩
 exact ⟨z,us,r,⟨_,get?_push_size _ rfl,rfl,_,rfl,rfl⟩⟩
theorem Zzc (h:PA X es t):PE X (.List es pos) (tLst t):=by
 intro pins s σ H Q I hq
 refine wpAny_List_spliced (thn (h pos pins s σ H _ I hq) λ us s1 ⟨xs,H1,I1,r,z,q⟩=>⟨by rw [<- r.length];exact z,?_⟩)
 have hf:H1 s1.heap.objs.size=none:=I1.hok.fresh (le_refl _)
 refine ⟨.ref s1.heap.objs.size,upd H1 s1.heap.objs.size (.lst xs),I1.laid (t':=s1.toks) (λ b u e=>get?_push_of_some _ e) (le_refl _) ?_,rfl,q _ hf⟩
 exact ⟨z,us,0,r,get?_push_size _ rfl⟩
end
abbrev Sp:=List V->Hp->VK->XK->Prop
abbrev CXT:=List Env->Hp->Shared->XK->Value->Shared->Prop
structure Env0 (P:Program) (w:World) (K:PySem.W.Frag) (mg:Str->Option Value) (base:Heap) (A:Around) (outer:List Env) (s:Shared) (H:Hp):Prop where
 frames:A.frames=some outer
 mod:Mod K mg base
 bs:∀ b o,base.get? b=some o->s.heap.get? b=some o/\H b=none
 bsz:base.objs.size≤s.heap.objs.size
 funs:s.heap.FunFrames base outer
 frf:∀ b∈frs outer,H b=none
 hok:HOk P w H s.heap
 bare:AllBare s.gens
def CE (outer:List Env) (P:Program) (w:World) (H:Hp) (s:Shared) (Q:VK) (u:Value) (s':Shared):Prop:=
 ∃ v H',s'.os=s.os/\AllBare s'.gens/\Un (frs outer) [] H H' s.heap s'.heap/\HOk P w H' s'.heap/\RelV v u/\Q v H'
def CR (CX:CXT) (outer:List Env) (P:Program) (w:World) (H:Hp) (s:Shared) (Q:VK) (E:XK) (r:Result) (s':Shared):Prop:=
 match r with
 | .ok (.ret u)=>CE outer P w H s Q u s'
 | .ok _=>False
 | .error e=>CX outer H s E e s'
structure FnOk (P:Program) (w:World) (K:PySem.W.Frag) (mg:Str->Option Value) (base:Heap) (CX:CXT) (k:Nat) (f:Addr) (fd:FuncData) (ps:List Str) (sp:Sp):Prop where
 len:∀ vs H Q E,sp vs H Q E->vs.length=ps.length
 run:∀ (A:Around) (outer:List Env) (s:Shared) (H:Hp) (args:Args) (us:List Value) (vs:List V) (Q:VK) (E:XK),Room k A->Env0 P w K mg base A outer s H->BindsTo s fd args (ps.zip us)->Vals vs us->sp vs H Q E ->
  codeAny (model P w) A (.call (.ref f) args) (CR CX outer P w H s Q E) s
theorem FnOk.imp {P:Program}{w:World}{K:PySem.W.Frag}{mg:Str->Option Value}{base:Heap}{CX:CXT}{k:Nat}{f:Addr}{fd:FuncData}{ps:List Str}{sp sp':Sp} (F:FnOk P w K mg base CX k f fd ps sp)
  (h:∀ vs H Q E,sp' vs H Q E->sp vs H Q E):FnOk P w K mg base CX k f fd ps sp':=
 ⟨λ vs H Q E q=>F.len vs H Q E (h _ _ _ _ q),λ A outer s H args us vs Q E hr he hb hv hs=>F.run A outer s H args us vs Q E hr he hb hv (h _ _ _ _ hs)⟩
section
variable {X:Cx}{pins:List (Addr × Obj)}{σ:St}{H:Hp}{s s':Shared}
theorem Inv.env0 (I:Inv X pins σ H s):Env0 X.prog X.w X.K X.mg X.base X.A X.stack s H:=
 ⟨I.ok.frames,I.ok.mod,I.bs,le_trans I.ok.bsz I.sz,I.stack,I.stkFree,I.hok,I.bare⟩
theorem Inv.after {Q:VK}{u:Value} (I:Inv X pins σ H s) (h:CE X.stack X.prog X.w H s Q u s'):EP X pins σ Q u s':=by
 obtain ⟨v,H',os,bare,un,hok,r,q⟩:=h
 obtain ⟨hh,g,d,t,os'⟩:=s'
 obtain rfl:os' = s.os:=os
 exact ⟨v,H',I.call (h':=hh) (g':=g) (d':=d) (t':=t) (ch:=[]) un hok bare (λ b z=>absurd z (by simp)),r,q⟩
end
def tCall (sp:Sp) (dvs:List V) (E:XK) (t:TA):TE:=λ σ H Q=>t σ H λ vs H1=>sp (vs++dvs) H1 Q E
def Binds (K:PySem.W.Frag) (fd:FuncData) (ps:List Str) (ds:List Value):Prop:=
 ∀ (s:Shared) (us:List Value),K.In s.heap->(us++ds).length=ps.length->BindsTo s fd ⟨us,[]⟩ (ps.zip (us++ds))
theorem Binds.all {K:PySem.W.Frag}{fd:FuncData}{ps:List Str} (h:∀ us:List Value,us.length=ps.length->bindArgs fd ⟨us,[]⟩=pure (ps.zip us)):Binds K fd ps []:=λ s us _ hl=>by
 rw [append_nil] at hl |-
 exact .of_eq (h us hl)
def Passes (CX:CXT) (X:Cx) (E:XK):Prop:=∀ (pins:List (Addr × Obj)) (σ:St) (H:Hp) (s:Shared) (e:Value) (s':Shared),Inv X pins σ H s->CX X.stack H s E e s'->X.xe e s'
section
variable {X:Cx}{CX:CXT}{k:Nat}{f C:Addr}{fd:FuncData}{ps:List Str}{sp:Sp}{dvs:List V}{ds:List Value}{E:XK}{x m:Str}{p pos apos:Pos}{e o:Expr}{es:List Expr}{ta:TE}{t:TA}
theorem Ya7 {pins:List (Addr × Obj)}{σ:St}{H:Hp}{s:Shared}{Q:VK}{us:List Value}{vs:List V} (F:FnOk X.prog X.w X.K X.mg X.base CX k f fd ps sp) (hr:Room k X.A) (hb:Binds X.K fd ps ds) (hd:Vals dvs ds) (hx:Passes CX X E)
  (I:Inv X pins σ H s) (r:Vals vs us) (h:sp (vs++dvs) H Q E):wpAny (model X.prog X.w) X.A (call (.ref f) us) (EP X pins σ Q) X.xe s:=by
 have r2:Vals (vs++dvs) (us++ds):=r.append hd
 have hl:(us++ds).length=ps.length:=by rw [<- r2.length];exact F.len _ _ _ _ h
 refine wpAny_call (codeAny_mono (F.run X.A X.stack s H ⟨us,[]⟩ (us++ds) (vs++dvs) Q E hr I.env0 (hb s us I.kIn hl) r2 h) λ r s' hq=>?_)
 cases r with
 | error e=>exact hx pins σ H s e s' I hq
 | ok fl=>
  cases fl with
  | ret u=>exact I.after hq
  | next=>exact False.elim hq
  | brk=>exact False.elim hq
  | cont=>exact False.elim hq
theorem Zxo (F:FnOk X.prog X.w X.K X.mg X.base CX k f fd ps sp) (hr:Room k X.A) (hg:Gl X x) (hm:X.mg x=some (.ref f)) (hk:PySem.W.keepIn X.K (.ref f)=true) (hb:Binds X.K fd ps ds) (hd:Vals dvs ds) (hx:Passes CX X E)
  (ha:PA X (e::es) t) (hdb:(x == ("__debug__" : Str))=false:=by decide) (he:starEach (e::es) X.env=(false,eval e X.env)::starEach es X.env:=by rfl) (hpl:(backTo pos (starEach es X.env)).any (·.1)=false:=by rfl) :
  PE X (.Call (.Name x p) (e::es) [] pos) (tCall sp dvs E t):=by
 intro pins s σ H Q I h
 refine wpAny_Call_Name_kw (Zto I hg hm ?_ hdb)
 refine PySem.W.callWith_K (h₀:=X.base) I.ok.mod.kin hk (thn (ha pos pins s σ H _ I h) λ us s1 ⟨vs,H1,I1,r,q⟩=>⟨I1.kIn,?_⟩) he hpl
 exact Ya7 F hr hb hd hx I1 r q
end
def PK (X:Cx) (kws:List Keyword) (t:TA):Prop:=
 ∀ (pos:Pos) (pins:List (Addr × Obj)) (s:Shared) (σ:St) (H:Hp) (Q:List V->Hp->Prop),Inv X pins σ H s->t σ H Q->wpAny (model X.prog X.w) X.A (evalAll ((backToKw pos (keywordEach kws X.env)).map (·.2))) (AP X pins σ Q) X.xe s
section
variable {X:Cx}{CX:CXT}{k:Nat}{f C:Addr}{fd:FuncData}{ps ks:List Str}{sp:Sp}{E:XK}{x m:Str}{p pos apos kpos:Pos}{e o:Expr}{es:List Expr}{kws:List Keyword}{te ta:TE}{t tk:TA}{nm:Option Str}
theorem Zzn:PK X [] tNil:=λ _ _ _ _ H Q I h=>wpAny_evalAll_nil ⟨[],H,I,.nil,h⟩
theorem Zxx (ha:PE X e te) (hr:PK X kws t):PK X (⟨nm,e,kpos⟩::kws) (tCons te t):=by
 intro pos pins s σ H Q I h
 show wpAny _ _ (evalAll ((do let v <- eval e X.env;standAt pos;pure v)::(backToKw pos (keywordEach kws X.env)).map (·.2))) _ _ s
 refine wpAny_evalAll_cons (wpAny_bind (thn (ha pins s σ H _ I h) λ u s1 ⟨x,H1,I1,r1,q1⟩=>wpAny_bind (wpAny_standAt (wpAny_pure ?_))))
 exact thn (hr pos pins s1 σ H1 _ I1 q1) λ us s2 ⟨xs,H2,I2,r2,q2⟩=>⟨x::xs,H2,I2,.cons r1 r2,q2⟩
structure KBinds (K:PySem.W.Frag) (fd:FuncData) (ps ks:List Str) (g:List Value->List Value->List Value) (gV:List V->List V->List V):Prop where
 to:∀ (s:Shared) (us ws:List Value),K.In s.heap->(g us ws).length=ps.length->BindsTo s fd ⟨us,ks.zip ws⟩ (ps.zip (g us ws))
 rel:∀ {vs:List V}{us:List Value}{zs:List V}{ws:List Value},Vals vs us->Vals zs ws->Vals (gV vs zs) (g us ws)
def tCallK (sp:Sp) (gV:List V->List V->List V) (E:XK) (t tk:TA):TE:=λ σ H Q=>t σ H λ vs H1=>tk σ H1 λ zs H2=>sp (gV vs zs) H2 Q E
variable {g:List Value->List Value->List Value}{gV:List V->List V->List V}
theorem Zyi {pins:List (Addr × Obj)}{σ:St}{H:Hp}{s:Shared}{Q:VK}{us ws:List Value}{vs zs:List V} (F:FnOk X.prog X.w X.K X.mg X.base CX k f fd ps sp) (hr:Room k X.A) (hb:KBinds X.K fd ps ks g gV) (hx:Passes CX X E)
  (I:Inv X pins σ H s) (r:Vals vs us) (rz:Vals zs ws) (h:sp (gV vs zs) H Q E):wpAny (model X.prog X.w) X.A (call (.ref f) us (ks.zip ws)) (EP X pins σ Q) X.xe s:=by
 have r2:=hb.rel r rz
 have hl:(g us ws).length=ps.length:=by rw [<- r2.length];exact F.len _ _ _ _ h
 refine wpAny_call (codeAny_mono (F.run X.A X.stack s H ⟨us,ks.zip ws⟩ (g us ws) (gV vs zs) Q E hr I.env0 (hb.to s us ws I.kIn hl) r2 h) λ r s' hq=>?_)
 cases r with
 | error e=>exact hx pins σ H s e s' I hq
 | ok fl=>
  cases fl with
  | ret u=>exact I.after hq
  | next=>exact False.elim hq
  | brk=>exact False.elim hq
  | cont=>exact False.elim hq
theorem Zrh (F:FnOk X.prog X.w X.K X.mg X.base CX k f fd ps sp) (hr:Room k X.A) (hg:Gl X x) (hm:X.mg x=some (.ref f)) (hk:PySem.W.keepIn X.K (.ref f)=true) (hb:KBinds X.K fd ps ks g gV) (hx:Passes CX X E)
  (ha:PA X (e::es) t) (hkw:PK X kws tk) (hall:(backToKw pos (keywordEach kws X.env)).all (·.1.isSome)=true:=by rfl) (hks:(backToKw pos (keywordEach kws X.env)).filterMap (·.1)=ks:=by rfl)
  (hdb:(x == ("__debug__" : Str))=false:=by decide) (he:starEach (e::es) X.env=(false,eval e X.env)::starEach es X.env:=by rfl)
  (hpl:((backTo pos (starEach (e::es) X.env)).any (·.1) || (backToKw pos (keywordEach kws X.env)).any (·.1.isNone))=false:=by rfl) :
  PE X (.Call (.Name x p) (e::es) kws pos) (tCallK sp gV E t tk):=by
 intro pins s σ H Q I h
 refine wpAny_Call_Name_kw (Zto I hg hm ?_ hdb)
 refine PySem.W.callWith_KW (h₀:=X.base) I.ok.mod.kin hk hall (thn (ha pos pins s σ H _ I h) λ us s1 ⟨vs,H1,I1,r,q⟩=>?_) hpl he
 refine thn (hkw pos pins s1 σ H1 _ I1 q) λ ws s2 ⟨zs,H2,I2,rz,q2⟩=>⟨I2.kIn,?_⟩
 rw [hks]
 exact Zyi F hr hb hx I2 r rz q2
end
structure FnScope (N P:List Str) (sc:Scope):Prop where
 kind:sc.kind = .function
 co:sc.isCoroutine=false
 gen:sc.isGenerator=false
 nd:N.Nodup
 pre:N.take P.length=P
 par:∀ x∈P,sc.names.lookup x=some .local \/ sc.names.lookup x=some .cell
 nofree:∀ y∈sc.names,y.2≠.free
theorem Zof {kindOf:Str->Option NameKind}{x:Str}:∀ {binds:List (Str × Value)}{m:Str->Option Value},(∀ v,(x,v) ∉ binds)->bindL kindOf binds m x=m x
 | [],_,_=>rfl
 | (n,v)::r,m,h=>by
  unfold bindL
  rw [Zof λ w hw=>h w (mem_cons_of_mem _ hw)]
  split
  ·have:x≠n:=by rintro rfl;exact h v mem_cons_self
   simp [this]
  ·rfl
theorem Zod {kindOf:Str->Option NameKind}{x:Str}:∀ {binds:List (Str × Value)}{m:Str->Option Value},(∀ v,(x,v) ∉ binds)->bindC kindOf binds m x=m x
 | [],_,_=>rfl
 | (n,v)::r,m,h=>by
  unfold bindC
  rw [Zod λ w hw=>h w (mem_cons_of_mem _ hw)]
  split
  ·rfl
  ·have:x≠n:=by rintro rfl;exact h v mem_cons_self
   simp [this]
theorem Zoe {kindOf:Str->Option NameKind}{x:Str}{v:Value}:∀ {P:List Str}{vs:List Value}{i:Nat}{m:Str->Option Value},P.Nodup->P[i]? = some x->vs[i]? = some v->kindOf x=some .local ->
  bindL kindOf (P.zip vs) m x=some v
 | [],_,_,_,_,h,_,_=>by simp at h
 | _::_,[],_,_,_,_,h,_=>by simp at h
 | p::P,w::vs,0,m,nd,h1,h2,hk=>by
  simp at h1 h2;subst h1;subst h2
  show bindL kindOf ((p,w)::P.zip vs) m p=_
  unfold bindL
  rw [Zof λ v hv=>(nodup_cons.mp nd).1 (of_mem_zip hv).1,if_pos hk]
  simp
 | p::P,w::vs,i+1,m,nd,h1,h2,hk=>by
  show bindL kindOf ((p,w)::P.zip vs) m x=_
  unfold bindL
  exact Zoe (i:=i) (nodup_cons.mp nd).2 (by simpa using h1) (by simpa using h2) hk
theorem Zoc {kindOf:Str->Option NameKind}{x:Str}{v:Value}:∀ {P:List Str}{vs:List Value}{i:Nat}{m:Str->Option Value},P.Nodup->P[i]? = some x->vs[i]? = some v->kindOf x≠some .local ->
  bindC kindOf (P.zip vs) m x=some v
 | [],_,_,_,_,h,_,_=>by simp at h
 | _::_,[],_,_,_,_,h,_=>by simp at h
 | p::P,w::vs,0,m,nd,h1,h2,hk=>by
  simp at h1 h2;subst h1;subst h2
  show bindC kindOf ((p,w)::P.zip vs) m p=_
  unfold bindC
  rw [Zod λ v hv=>(nodup_cons.mp nd).1 (of_mem_zip hv).1,if_neg hk]
  simp
 | p::P,w::vs,i+1,m,nd,h1,h2,hk=>by
  show bindC kindOf ((p,w)::P.zip vs) m x=_
  unfold bindC
  exact Zoc (i:=i) (nodup_cons.mp nd).2 (by simpa using h1) (by simpa using h2) hk
def start (N:List Str) (vs:List V):St:=vs.map some++List.replicate (N.length-vs.length) none
def cxOf (CX:CXT) (P:Program) (w:World) (K:PySem.W.Frag) (mg:Str->Option Value) (base:Heap) (N:List Str) (qual:Str) (scope:Scope) (f:Addr) (cd:Value) (A:Around) (outer:List Env) (s:Shared) (H:Hp) (E:XK):Cx where
 prog:=P
 w:=w
 K:=K
 mg:=mg
 base:=base
 A:=A.deeper (envOfC qual scope s.heap.objs.size f cd)
 N:=N
 s₀:=s
 H₀:=H
 env:=envOfC qual scope s.heap.objs.size f cd
 outer:=outer
 stack:=envOfC qual scope s.heap.objs.size f cd::outer
 ex:=[]
 calm:=true
 fn:=λ _=>true
 pn:=[]
 xe:=λ e s'=>wpAny (model P w) (A.deeper (envOfC qual scope s.heap.objs.size f cd)) (leaving (envOfC qual scope s.heap.objs.size f cd) e) (λ _ s''=>CX outer H s E e s'') (λ e' s''=>CX outer H s E e' s'') s'
theorem Zqu {sc:Scope}{n:Nat}{x:Str} (h:sc.names.lookup x=some .cell):∃ c,(cellsFrom n sc.names []).lookup x=some c:=by
 have q:=cellsFrom_some sc.names n [] (.inl h)
 exact isSome_iff_exists.mp q
theorem Zti {CX:CXT}{P:Program}{w:World}{K:PySem.W.Frag}{mg:Str->Option Value}{base:Heap}{N ps:List Str}{qual:Str}{scope:Scope}{f:Addr}{cd:Value}{A:Around}{outer:List Env}{s s1:Shared}{H:Hp}{E:XK}{us:List Value}{vs:List V}
  (S:FnScope N ps scope) (hd:A.handled=none) (e0:Env0 P w K mg base A outer s H) (hl:vs.length=ps.length) (r:Vals vs us)
  (x:InCallC s s.heap.objs.size (bindL (envOfC qual scope s.heap.objs.size f cd).kindOf (ps.zip us) λ _=>none) (cellsFrom (s.heap.objs.size+1) scope.names []) (bindC (envOfC qual scope s.heap.objs.size f cd).kindOf (ps.zip us) λ _=>none) s1) :
  Inv (cxOf CX P w K mg base N qual scope f cd A outer s H E) [] (start N vs) H s1:=by
 have hpl:ps.length≤N.length:=by have:=congrArg List.length S.pre;rw [length_take] at this;omega
 obtain ⟨h1,tk,rfl,hk⟩:=x.done
 have noA:∀ b:Addr,b ∉ (cxOf CX P w K mg base N qual scope f cd A outer s H E).ex:=λ b z=>absurd (show b∈([]:List Addr) from z) (by simp)
 refine ⟨⟨e0.mod,S.kind,rfl,rfl,le_refl _,λ y z c h1 h2=>?_,λ y hy=>?_,λ y c _ h=>?_,λ _=>hd,Around.frames_deeper e0.frames,.inr ⟨rfl,rfl⟩,λ b z=>absurd z (noA b),e0.bs,e0.bsz,λ b _ _=>noA b,λ b z=>absurd z (noA b),e0.funs,e0.frf⟩,
  rfl,e0.bare,Un.kept hk,⟨_,x.toInCall.ns,λ i y v h1 h2 h3=>?_⟩,λ y c h=>⟨_,x.cell y c h⟩,e0.hok.fresh (le_refl _),λ y c h=>?_,λ p hp=>absurd (show p∈([]:List (Addr × Obj)) from hp) (by simp),e0.hok.kept hk,?_⟩
 ·exact name_of_addr x.apart (PySem.mem_of_lookup h1) (PySem.mem_of_lookup h2)
 ·have hy:scope.names.lookup y=some .cell \/ scope.names.lookup y=some .free:=hy
  rcases hy with hy|hy
  ·exact Zqu hy
  ·exact absurd rfl (S.nofree _ (PySem.mem_of_lookup hy))
 ·exact le_of_lt (x.above y c (PySem.mem_of_lookup h))
 ·have hi:i<vs.length:=by
   unfold start at h2
   by_cases hi:i<vs.length
   ·exact hi
   ·rw [List.getElem?_append_right (by simpa using hi)] at h2
    rw [List.getElem?_replicate] at h2
    split at h2 <;> cases h2
  have ha:vs[i]? = some v:=by
   unfold start at h2
   rw [getElem?_append_left (by simpa using hi),getElem?_map] at h2
   cases e:vs[i]? with
   | none=>rw [e] at h2;cases h2
   | some a=>rw [e] at h2;cases h2;rfl
  obtain ⟨u,hu,rv⟩:=r.get ha
  have hp:ps[i]? = some y:=by
   rw [<- S.pre,List.getElem?_take_of_lt (by omega)];exact h1
  have ndP:ps.Nodup:=by rw [<- S.pre];exact S.nd.sublist (List.take_sublist _ _)
  refine ⟨u,rv,?_⟩
  rcases S.par y (mem_of_getElem? hp) with k|k
  ·exact .inl ⟨k,Zoe ndP hp hu k⟩
  ·obtain ⟨c,e⟩:=Zqu (n:=s.heap.objs.size+1) k
   refine .inr ⟨.inl k,c,e,?_⟩
   have q:=x.cell y c e
   rw [Zoc ndP hp hu (by show scope.names.lookup y≠_;rw [k];decide)] at q
   exact q
 ·exact e0.hok.fresh (le_of_lt (x.above y c (PySem.mem_of_lookup h)))
 ·unfold start
  show _=N.length
  rw [length_append,lmp,List.length_replicate]
  omega
theorem Zyu {CX:CXT}{P:Program}{w:World}{K:PySem.W.Frag}{mg:Str->Option Value}{base:Heap}{k:Nat}{f:Addr}{name qual:Str}{params:Arguments}{body:List Stmt}{scope:Scope}{dV kV doc pm cdv ct oc:Value}{an od:Option Addr}
  {osl:Array (Option Value)}{N ps:List Str}{sp:Sp} (lk:K.lookup f=some ⟨oc,od,.func (PySem.W.fnOf name qual params body scope dV kV doc pm an cdv ct),osl⟩) (hcd:PySem.W.codeIn K cdv qual=true) (S:FnScope N ps scope)
  (len:∀ vs H Q E,sp vs H Q E->vs.length=ps.length)
  (hbody:∀ (A:Around) (outer:List Env) (s:Shared) (H:Hp) (vs:List V) (Q:VK) (E:XK),Room k (A.deeper (envOfC qual scope s.heap.objs.size f cdv))->sp vs H Q E ->
   ∃ t,PSs (cxOf CX P w K mg base N qual scope f cdv A outer s H E) body t/\t { nx:=λ _ H'=>Q .non H',rt:=Q } (start N vs) H) :
  FnOk P w K mg base CX (k+1) f (PySem.W.fnOf name qual params body scope dV kV doc pm an cdv ct) ps sp:=by
 refine ⟨len,λ A outer s H args us vs Q E hr e0 hb r hsp=>?_⟩
 have hl:=len _ _ _ _ hsp
 have KX:K.In s.heap:=e0.mod.kin.keeps λ b o e=>(e0.bs b o e).1
 have lim:s.heap.NoLimit:=e0.mod.nolimit.keeps λ b o e=>(e0.bs b o e).1
 have hkind:∀ y∈ps.zip us,scope.names.lookup y.1=some .local \/ (scope.names.lookup y.1=some .cell/\((cellsFrom (s.heap.objs.size+1) scope.names []).lookup y.1).isSome=true):=λ ⟨n,v⟩ hy=>by
  rcases S.par n (of_mem_zip hy).1 with q|q
  ·exact .inl q
  ·exact .inr ⟨q,cellsFrom_some _ _ _ (.inl q)⟩
 refine codeAny_call_function hr.depth (KX _ _ lk) rfl S.co S.gen rfl (PySem.W.codeRec_of KX hcd) (hb _ _ _ _ ?_)
 refine wpAny_newFunctionEnv_cells S.kind hkind λ env he s1 x=>?_
 subst he
 refine ⟨lim.keeps x.toInCall.keep,codeAny_func ?_⟩
 obtain ⟨t,ht,hq⟩:=hbody A outer s H vs Q E (hr.deeper _) hsp
 have I:Inv (cxOf CX P w K mg base N qual scope f cdv A outer s H E) [] (start N vs) H s1:=Zti S hr.hd e0 hl r x
 refine wpAny_mono (ht [] s1 (start N vs) H _ I hq) (λ fl s' hs=>?_) λ e s' hs=>hs
 have fin:∀ {σ':St}{H':Hp}{v:V}{u:Value},Inv (cxOf CX P w K mg base N qual scope f cdv A outer s H E) [] σ' H' s'->RelV v u->Q v H'->CE outer P w H s Q u s':=
  λ {σ' H' v u} J rv q=>⟨v,H',J.os,J.bare,J.base,J.hok,rv,q⟩
 cases fl with
 | ret u=>
  obtain ⟨v,σ',H',J,rv,q⟩:=hs
  exact fin J rv q
 | next=>
  obtain ⟨σ',H',J,q⟩:=hs
  exact fin (v:=V.non) (u:=Value.none) J rfl q
 | brk=>
  obtain ⟨_,_,_,q⟩:=hs
  exact False.elim q
 | cont=>
  obtain ⟨_,_,_,q⟩:=hs
  exact False.elim q
end L2
namespace L2
open PySem PySem.Spec PyProof.Rows
section
variable {X:Cx}{x:Str}{p pos:Pos}{e:Expr}{es:List Expr}{t:TA}{id T:String}{r:List V->Hp->VK->Prop}
def tCB (r:List V->Hp->VK->Prop) (t:TA):TE:=λ σ H Q=>t σ H λ vs H1=>r vs H1 Q
theorem Zvl (hc:CallR X (.builtin id) r) (hg:Gl X x) (hm:X.mg x=none) (hv:bootBuiltins x=some (.builtin id)) (ha:PA X (e::es) t) (hn:x≠"__name__":=by decide) (hdb:(x == ("__debug__" : Str))=false:=by decide)
  (he:starEach (e::es) X.env=(false,eval e X.env)::starEach es X.env:=by rfl) (hpl:(backTo pos (starEach es X.env)).any (·.1)=false:=by rfl):PE X (.Call (.Name x p) (e::es) [] pos) (tCB r t):=by
 intro pins s σ H Q I h
 refine wpAny_Call_Name_kw (Zmq I hg hm hv ?_ hn hdb)
 exact PyProof.Rows.callWith_builtin1 (thn (ha pos pins s σ H _ I h) λ us s1 ⟨vs,H1,I1,r1,q1⟩=>hc pins s1 σ H1 vs us Q I1 r1 q1) he hpl
theorem Zu0 (hc:CallR X (.type T) r) (hg:Gl X x) (hm:X.mg x=none) (hv:bootBuiltins x=some (.type T)) (ha:PA X (e::es) t) (hn:x≠"__name__":=by decide) (hdb:(x == ("__debug__" : Str))=false:=by decide)
  (he:starEach (e::es) X.env=(false,eval e X.env)::starEach es X.env:=by rfl) (hpl:(backTo pos (starEach es X.env)).any (·.1)=false:=by rfl):PE X (.Call (.Name x p) (e::es) [] pos) (tCB r t):=by
 intro pins s σ H Q I h
 refine wpAny_Call_Name_kw (Zmq I hg hm hv ?_ hn hdb)
 exact PyProof.Rows.callWith_type1 (thn (ha pos pins s σ H _ I h) λ us s1 ⟨vs,H1,I1,r1,q1⟩=>hc pins s1 σ H1 vs us Q I1 r1 q1) he hpl
end
end L2
namespace HT
open PySem PyProof.Rows
def lexLt:List Int->List Int->Bool
 | [],[]=>false
 | [],_::_=>true
 | _::_,[]=>false
 | x::xs,y::ys=>if x=y then lexLt xs ys else decide (x<y)
section
open PySem.SeqAt
open PySem.AutoSeq1 (wpAny_loadPart')
open PySem.MeetsSeq PySem.MeetsSeq2 PySem.MeetsSeq3
end
section
variable {prog:Program}{w:World}{A:Around}{E:Value->Shared->Prop}{s:Shared}
theorem cat_tup {t b:Addr}{vs ws:List Value}{Q:Value->Shared->Prop} (ht:IsTup s.heap t vs.toArray) (hb:IsTup s.heap b ws.toArray) (hv:vs≠[])
  (h1:ws=[]->Q (.ref t) s) (h2:ws≠[]->Q (.ref s.heap.objs.size) { s with heap:=s.heap.push { cls:=.type "tuple",data:=.seq (vs++ws).toArray } })
  (hsz:vs.length+ws.length≤sizeLine):wpAny (model prog w) A (binaryOp .Add (.ref t) (.ref b)) Q E s:=by
 obtain ⟨⟨cls,dd,data,sl⟩,ho,hc,n,hd⟩:=id ht
 obtain ⟨⟨cls2,dd2,data2,sl2⟩,ho2,hc2,n2,hd2⟩:=id hb
 simp only at hc hd hc2 hd2
 subst hc hd hc2 hd2
 have e:vs.toArray++ws.toArray=(vs++ws).toArray:=by simp
 by_cases hw:ws=[]
 ·exact concat_meets ⟨_,ho,rfl⟩ ⟨_,ho2,rfl⟩ noFill_tuple_add seq_tuple_add slot_tuple_add entry_tuple_add (args_tuple_add_2 _ _)
   (tuple_addW1 t b vs.toArray ws.toArray n n2 dd dd2 sl sl2 (by simpa using hv) (by simp [hw])) ⟨ho,ho2,h1 hw⟩
 ·refine concat_meets ⟨_,ho,rfl⟩ ⟨_,ho2,rfl⟩ noFill_tuple_add seq_tuple_add slot_tuple_add entry_tuple_add (args_tuple_add_2 _ _)
   (tuple_addW2 t b vs.toArray ws.toArray n n2 dd dd2 sl sl2 (by simpa using hv) (by simpa using hw) (by rw [size_toArray,size_toArray];exact hsz)) ⟨ho,ho2,?_⟩
  rw [e]
  exact h2 hw
def sIx (n d:Nat):Option Int->Nat
 | none=>d
 | some v=>if v<0 then (v+(n:Int)).toNat else min v.toNat n
theorem sIx_none (n d:Nat):sIx n d none=d:=rfl
theorem sIx_nat (n d k:Nat):sIx n d (some (k:Int))=min k n:=by
 show (if (k:Int)<0 then ((k:Int)+(n:Int)).toNat else min (k:Int).toNat n)=min k n
 rw [if_neg (by omega),Int.toNat_natCast]
theorem Ya8 (n d:Nat) (hd:d≤n) (o:Option Int):sIx n d o≤n:=by
 cases o with
 | none=>exact hd
 | some v=>
  show (if v<0 then (v+(n:Int)).toNat else min v.toNat n)≤n
  by_cases hv:v<0
  ·rw [if_pos hv];omega
  ·rw [if_neg hv];exact Nat.min_le_right _ _
theorem Zsy (v:Int) (n d:Nat):(if v<0 then max (v+(n:Int)) 0 else min v (n:Int))=((sIx n d (some v):Nat):Int):=by
 show (if v<0 then max (v+(n:Int)) 0 else min v (n:Int))=(((if v<0 then (v+(n:Int)).toNat else min v.toNat n):Nat):Int)
 by_cases hv:v<0
 ·simp only [if_pos hv];omega
 ·simp only [if_neg hv];omega
theorem Zru (lo hi:Option Int) (n:Nat):Builtin.Slice.sliceAdjust lo hi 1 (n:Int)=(((sIx n 0 lo:Nat):Int),((sIx n n hi:Nat):Int)):=by
 have h1:¬ ((1:Int)<0):=by omega
 unfold Builtin.Slice.sliceAdjust
 simp only [h1,if_false]
 refine Prod.ext ?_ ?_
 ·cases lo with
  | none=>rfl
  | some v=>exact Zsy v n 0
 ·cases hi with
  | none=>rfl
  | some v=>exact Zsy v n n
theorem Zsj (i j:Nat):Builtin.Slice.slicePlaces (i:Int) (j:Int) 1=j-i:=by
 unfold Builtin.Slice.slicePlaces
 have h1:(1:Int) > 0:=by omega
 simp only [h1,if_true,Int.ediv_one]
 split <;> omega
theorem slicePart_ {v:Value}{o:Option Int}{Q:Option Int->Shared->Prop} (p:IsPart v o) (h:Q o s):wpAny (model prog w) A (Builtin.Slice.slicePartIndex v) Q E s:=by
 cases p with
 | none=>exact slicePart_none h
 | int i t=>exact slicePart_int h
theorem Zgp {sl:Addr}{vl vu:Value}{lo hi:Option Int}{n:Nat}{Q:Int × Int × Nat->Shared->Prop} (hs:s.heap.IsSliceOf sl vl vu .none) (pl:IsPart vl lo) (pu:IsPart vu hi)
  (h:Q (((sIx n 0 lo:Nat):Int),1,sIx n n hi-sIx n 0 lo) s):wpAny (model prog w) A (Builtin.Slice.sliceApplied (.ref sl) (pure (n:Int))) Q E s:=by
 obtain ⟨os,hos,hcs,hds⟩:=id hs
 unfold Builtin.Slice.sliceApplied Builtin.Slice.sliceFields
 refine wpAny_bind (wpAny_bind (wpAny_field hos hds (x:=vl) rfl (wpAny_bind (wpAny_field hos hds (x:=vu) rfl (wpAny_bind (wpAny_field hos hds (x:=.none) rfl (wpAny_pure ?_)))))))
 refine wpAny_bind (slicePart_none ?_)
 show wpAny _ _ (if ((1:Int) == 0)=true then _ else _) _ _ s
 rw [if_neg (by decide)]
 refine wpAny_bind (slicePart_ pl (wpAny_bind (slicePart_ pu (wpAny_bind (wpAny_pure ?_)))))
 show wpAny _ _ (match Builtin.Slice.sliceAdjust lo hi 1 (n:Int) with|(lo,hi)=>pure (lo,(1:Int),Builtin.Slice.slicePlaces lo hi 1)) _ _ s
 rw [Zru lo hi n]
 show wpAny _ _ (pure (((sIx n 0 lo:Nat):Int),(1:Int),Builtin.Slice.slicePlaces ((sIx n 0 lo:Nat):Int) ((sIx n n hi:Nat):Int) 1)) _ _ s
 rw [Zsj]
 exact wpAny_pure h
theorem Zvs (xs:Array Value) (i k:Nat):((List.range k).filterMap λ (m:Nat)=>xs[((i:Int)+(m:Int)*1).toNat]?).toArray=((xs.toList.drop i).take k).toArray:=by
 have e:(λ (m:Nat)=>xs[((i:Int)+(m:Int)*1).toNat]?)=λ m=>xs[i+m]?:=by
  funext m
  have:((i:Int)+(m:Int)*1).toNat=i+m:=by omega
  rw [this]
 rw [e]
 have:=pick_run xs i k
 rw [List.filterMap_map] at this
 have e2:((λ x=>xs[x]?) ∘ λ x=>i+x)=λ m=>xs[i+m]?:=rfl
 rw [e2] at this
 rw [this]
theorem getItem_tuple_cut {t sl:Addr}{items:Array Value}{vl vu:Value}{lo hi:Option Int}{Q:Value->Shared->Prop} (ht:IsTup s.heap t items) (hs:s.heap.IsSliceOf sl vl vu .none) (pl:IsPart vl lo) (pu:IsPart vu hi)
  (hw:¬ (sIx items.size 0 lo=0/\sIx items.size items.size hi=items.size))
  (h:Q (.ref s.heap.objs.size) { s with heap:=s.heap.push { cls:=.type "tuple",data:=.seq ((items.toList.drop (sIx items.size 0 lo)).take (sIx items.size items.size hi-sIx items.size 0 lo)).toArray } })
  (hsz:items.size≤sizeLine):wpAny (model prog w) A (getItem (.ref t) (.ref sl)) Q E s:=by
 have htake:sizeOk (.seq ((items.toList.drop (sIx items.size 0 lo)).take (sIx items.size items.size hi-sIx items.size 0 lo)).toArray):=by
  show ((items.toList.drop (sIx items.size 0 lo)).take (sIx items.size items.size hi-sIx items.size 0 lo)).toArray.size≤sizeLine
  rw [size_toArray,length_take,length_drop,Array.length_toList]
  omega
 have hj:sIx items.size items.size hi≤items.size:=Ya8 _ _ (le_refl _) hi
 obtain ⟨os,hos,hcs,hds⟩:=id hs
 have hTs:s.TypeIs (.ref sl) "slice":=⟨os,hos,hcs⟩
 unfold getItem
 try with_reducible refine wpAny_holding ?_
 first|refine wpAny_bind (wpAny_pure ?_)|skip
 refine wpAny_bind (wpAny_sequenceKey ht.typeIs (by decide) ?_)
 refine wpAny_bind (wpAny_callSpecial?_slot (name:=Str.ofString "__getitem__") ht.typeIs PyProof.Rows.slot_tuple_getitem
  (wpAny_call_entry PyProof.Rows.slot_tuple_getitem ht.typeIs entry_tuple_getitem ?_ (args_tuple_getitem _ _)))
 show wpAny _ _ (Builtin.Tuple.tupleItemsOf (.ref t) >>= _) _ _ s
 refine wpAny_bind (tupleItemsOf_ ht ?_)
 refine wpAny_bind (wpAny_typeOf hTs ?_)
 rw [if_pos (by decide)]
 refine wpAny_bind (Zgp hs pl pu ?_)
 have hno:¬ ((((sIx items.size 0 lo:Nat):Int) == 0 && (1:Int) == 1 && (sIx items.size items.size hi-sIx items.size 0 lo) == items.size)=true):=by
  intro q
  rw [and_eq_true,and_eq_true] at q
  have q1:((sIx items.size 0 lo:Nat):Int)=0:=eq_of_beq q.1.1
  have q2:sIx items.size items.size hi-sIx items.size 0 lo=items.size:=eq_of_beq q.2
  exact hw ⟨by omega,by omega⟩
 show wpAny _ _ (if (((sIx items.size 0 lo:Nat):Int) == 0 && (1:Int) == 1 && (sIx items.size items.size hi-sIx items.size 0 lo) == items.size)=true then _ else _) _ _ s
 rw [if_neg hno,Zvs]
 first
  | exact wpAny_bind (m:=Builtin.Tuple.tupleExact _) (wpAny_newObj_type (wpAny_pure ⟨_,rfl,wpAny_pure h⟩) htake)
  | exact wpAny_bind (m:=Builtin.Tuple.tupleExact _) (wpAny_newObj_type (wpAny_bind (wpAny_pure (wpAny_pure ⟨_,rfl,wpAny_pure h⟩))) htake)
  | exact wpAny_bind (wpAny_bind (m:=Builtin.Tuple.tupleExact _) (wpAny_newObj_type (wpAny_pure (wpAny_pure ⟨_,rfl,wpAny_pure h⟩)) htake))
  | exact wpAny_bind (wpAny_bind (m:=Builtin.Tuple.tupleExact _) (wpAny_newObj_type (wpAny_pure ⟨_,rfl,wpAny_pure h⟩) htake))
end
end HT
namespace L2
open PySem PySem.Spec PyProof.Rows
abbrev TO:=St->Hp->(Option Int->Hp->Prop)->Prop
def PO (X:Cx) (e:Option Expr) (t:TO):Prop:=
 ∀ (pins:List (Addr × Obj)) (s:Shared) (σ:St) (H:Hp) (Q:Option Int->Hp->Prop),Inv X pins σ H s->t σ H Q ->
  wpAny (model X.prog X.w) X.A (evalPart e X.env) (λ u s'=>∃ o H',Inv X pins σ H' s'/\IsPart u o/\Q o H') X.xe s
def tNoPart:TO:=λ _ H Q=>Q none H
def tPart (t:TE):TO:=λ σ H Q=>t σ H λ x H1=>∃ i,x = .int i/\Q (some i) H1
theorem Zmm {ns:List Int}:∀ {us:List Value},Vals (ns.map V.int) us->IntsAre us ns:=by
 induction ns with
 | nil=>intro us r;rw [map_nil] at r;cases r;exact .nil
 | cons n ns ih=>
  intro us r
  rw [map_cons] at r
  cases r with
  | cons r1 r2=>
   obtain ⟨t,e⟩:=r1
   subst e
   exact .cons n t (ih r2)
section
variable {X:Cx}{e:Expr}{te:TE}{lo hi:Option Expr}{tl th:TO}{pos p2:Pos}
theorem Zxz:PO X none tNoPart:=by
 intro pins s σ H Q I h
 rw [evalPart_none]
 exact wpAny_pure ⟨none,H,I,.none,h⟩
theorem Zy0 (h:PE X e te):PO X (some e) (tPart te):=by
 intro pins s σ H Q I hw
 rw [evalPart_some]
 refine thn (h pins s σ H _ I hw) λ u s1 ⟨x,H1,I1,r1,q1⟩=>?_
 obtain ⟨i,rfl,q⟩:=q1
 obtain ⟨t,rfl⟩:=r1
 exact ⟨some i,H1,I1,.int i t,q⟩
def SlR (X:Cx) (r:V->Option Int->Option Int->Hp->VK->Prop):Prop:=
 ∀ (pins:List (Addr × Obj)) (s:Shared) (σ:St) (H:Hp) (x:V) (v vl vu:Value) (lo hi:Option Int) (sl:Addr) (Q:VK),Inv X pins σ H s->RelV x v->s.heap.IsSliceOf sl vl vu .none->IsPart vl lo->IsPart vu hi->r x lo hi H Q ->
  ∃ T id,typeLookup (.type T) "__getitem__" = pure (some (.builtin id))/\s.TypeIs v T/\wpAny (model X.prog X.w) X.A (getItem v (.ref sl)) (EP X pins σ Q) X.xe s
def tSl (r:V->Option Int->Option Int->Hp->VK->Prop) (te:TE) (tl th:TO):TE:=λ σ H Q=>te σ H λ x H1=>tl σ H1 λ l H2=>th σ H2 λ u H3=>r x l u H3 Q
theorem Zvq {r:V->Option Int->Option Int->Hp->VK->Prop} (hr:SlR X r) (he:PE X e te) (hl:PO X lo tl) (hu:PO X hi th):PE X (.Subscript e (.Slice lo hi none p2) pos) (tSl r te tl th):=by
 intro pins s σ H Q I h
 refine Subscript_ (thn (he pins s σ H _ I h) λ v s1 ⟨x,H1,I1,r1,q1⟩=>?_)
 refine wpAny_Slice (thn (hl pins s1 σ H1 _ I1 q1) λ vl s2 ⟨l,H2,I2,pl,q2⟩=>thn (hu pins s2 σ H2 _ I2 q2) λ vu s3 ⟨u,H3,I3,pu,q3⟩=>?_)
 rw [evalPart_none]
 refine wpAny_pure ?_
 have I4:Inv X pins σ H3 { s3 with heap:=s3.heap.push { cls:=.type "slice",data:=.fields #[vl,vu,.none] } }:=I3.kept (t':=s3.toks) λ b ob q=>get?_push_of_some _ q
 obtain ⟨T,id,hT,ht,hg⟩:=hr pins { s3 with heap:=s3.heap.push { cls:=.type "slice",data:=.fields #[vl,vu,.none] } } σ H3 x v vl vu l u s3.heap.objs.size Q I4 r1 (Heap.IsSliceOf.new ..) pl pu q3
 show wpAny (model X.prog X.w) X.A (subscriptTail e (.Slice lo hi none p2) v (.ref s3.heap.objs.size)) (EP X pins σ Q) X.xe { s3 with heap:=s3.heap.push { cls:=.type "slice",data:=.fields #[vl,vu,.none] } }
 exact tail_any (ops:=[.ref s3.heap.objs.size,v]) ht hT hg (by with_unfolding_all rfl)
def cutV (xs:List V) (lo hi:Option Int):List V:=(xs.drop (HT.sIx xs.length 0 lo)).take (HT.sIx xs.length xs.length hi-HT.sIx xs.length 0 lo)
theorem Zkq (xs:List V) (lo hi:Option Int):(cutV xs lo hi).length≤xs.length:=by
 unfold cutV
 rw [length_take,length_drop]
 omega
def rSlT (K:PySem.W.Frag):V->Option Int->Option Int->Hp->VK->Prop:=λ x lo hi H Q=>∃ a xs,x = .ref a/\SqT K H a xs /\
 ¬ (HT.sIx xs.length 0 lo=0/\HT.sIx xs.length xs.length hi=xs.length)/\∀ p,H p=none->Q (.ref p) (upd H p (.tup (cutV xs lo hi)))
theorem Ya9:SlR X (rSlT X.K):=by
 intro pins s σ H x v vl vu lo hi sl Q I rx hs pl pu h
 obtain ⟨a,xs,rfl,hx,hw,q⟩:=h
 cases rx
 obtain ⟨its,r,ht,hz⟩:=I.tuple hx
 have hlen:its.toArray.size=xs.length:=by rw [size_toArray];exact r.length.symm
 refine ⟨"tuple",_,PyProof.Rows.slot_tuple_getitem.lookup,ht.typeIs,?_⟩
 refine HT.getItem_tuple_cut ht hs pl pu (by rw [hlen];exact hw) ?_ (by rw [hlen];exact hz)
 rw [hlen]
 refine ⟨.ref s.heap.objs.size,_,I.laid (t':=s.toks) (o:=.tup (cutV xs lo hi)) (λ b ob q=>get?_push_of_some _ q) (le_refl _) ?_,rfl,q _ (I.hok.fresh (le_refl _))⟩
 exact ⟨le_trans (Zkq xs lo hi) hz,_,(r.drop (HT.sIx xs.length 0 lo)).take (HT.sIx xs.length xs.length hi-HT.sIx xs.length 0 lo),IsTu.new _ _⟩
end
end L2
namespace L2
open PySem PySem.Spec PyProof.Rows
def ixN (n:Nat) (i:Int):Option Nat:=if 0≤i then (if i<n then some i.toNat else none) else if -(n:Int)≤i then some (i+n).toNat else none
def atI {α:Type} (xs:List α) (i:Int):Option α:=(ixN xs.length i).bind λ j=>xs[j]?
theorem Ztk {n:Nat}{i:Int}{j:Nat} (h:ixN n i=some j):seqIndex? i n=some j/\j<n/\-(n:Int)≤i/\i<n:=by
 unfold ixN at h
 by_cases h0:0≤i
 ·rw [if_pos h0] at h
  by_cases h1:i<n
  ·rw [if_pos h1] at h
   have e:i.toNat=j:=Option.some.inj h
   exact ⟨by rw [seqIndex_of h0 h1,e],by omega,by omega,h1⟩
  ·rw [if_neg h1] at h;cases h
 ·rw [if_neg h0] at h
  by_cases h1 : -(n:Int)≤i
  ·rw [if_pos h1] at h
   have e:(i+n).toNat=j:=Option.some.inj h
   exact ⟨by rw [seqIndex_neg (by omega) h1,e],by omega,h1,by omega⟩
  ·rw [if_neg h1] at h;cases h
theorem Zss {α:Type}{xs:List α}{i:Int}{v:α} (h:atI xs i=some v):∃ j,seqIndex? i xs.length=some j/\xs[j]? = some v/\j<xs.length/\-(xs.length:Int)≤i/\i<xs.length:=by
 unfold atI at h
 cases e:ixN xs.length i with
 | none=>rw [e] at h;cases h
 | some j=>
  rw [e] at h
  obtain ⟨h1,h2,h3,h4⟩:=Ztk e
  exact ⟨j,h1,h,h2,h3,h4⟩
theorem Zcy {α:Type}{xs:List α}{j:Nat}{v:α} (h:xs[j]? = some v):atI xs (j:Int)=some v:=by
 have hj:j<xs.length:=(List.getElem?_eq_some_iff.mp h).1
 have e:ixN xs.length (j:Int)=some j:=by
  unfold ixN
  rw [if_pos (by omega),if_pos (by omega)];simp
 unfold atI;rw [e];exact h
theorem Zv0 {α:Type} (xs:List α) (v:α):atI (xs++[v]) (-1)=some v:=by
 have hl:(xs++[v]).length=xs.length+1:=by simp
 have e:ixN (xs++[v]).length (-1)=some xs.length:=by
  unfold ixN
  rw [hl,if_neg (by decide),if_pos (by omega)]
  congr 1
  omega
 unfold atI
 rw [e]
 show (xs++[v])[xs.length]? = some v
 simp
def PlainIx (b:Expr):Prop:=∀ o i,subscripted b false o i=operate [o,i] (getItem o i)
def IxR (X:Cx) (r:R2):Prop:=
 ∀ (value slice:Expr) (pins:List (Addr × Obj)) (s:Shared) (σ:St) (H:Hp) (x y:V) (v u:Value) (Q:VK),Inv X pins σ H s->RelV x v->RelV y u->r x y H Q ->
  subscripted slice false v u=operate [v,u] (getItem v u)->wpAny (model X.prog X.w) X.A (subscriptTail value slice v u) (EP X pins σ Q) X.xe s
def MtR (X:Cx) (id:String) (r:V->List V->Hp->VK->Prop):Prop:=
 ∀ (pins:List (Addr × Obj)) (s:Shared) (σ:St) (H:Hp) (x:V) (xs:List V) (v:Value) (us:List Value) (Q:VK),Inv X pins σ H s->RelV x v->Vals xs us->r x xs H Q ->
  wpAny (model X.prog X.w) X.A (call (.builtin id) (v::us)) (EP X pins σ Q) X.xe s
section
variable {X:Cx}{a b:Expr}{ta tb:TE}{pos:Pos}
theorem Yag {r:R2} (hr:IxR X r) (ha:PE X a ta) (hb:PE X b tb) (hs:PlainIx b):PE X (.Subscript a b pos) (tOp r ta tb):=by
 intro pins s σ H Q I h
 exact Subscript_ (binT ha hb I h λ v u s2 x y H2 I2 rx ry q=>hr a b pins s2 σ H2 x y v u Q I2 rx ry q (hs _ _))
def rIxL (K:PySem.W.Frag):R2:=λ x y H Q=>∃ p xs i v,x = .ref p/\y = .int i/\SqL K H p xs/\atI xs i=some v/\Q v H
def rIxT (K:PySem.W.Frag):R2:=λ x y H Q=>∃ p xs i v,x = .ref p/\y = .int i/\SqT K H p xs/\atI xs i=some v/\Q v H
theorem Zco:IxR X (rIxL X.K):=by
 intro value slice pins s σ H x y v u Q I rx ry h hs
 obtain ⟨p,xs,i,z,rfl,rfl,hq,he,q⟩:=h
 cases rx
 obtain ⟨t,rfl⟩:=ry
 obtain ⟨its,r,pl,hz⟩:=I.list hq
 obtain ⟨j,h1,h2,h3,h4,h5⟩:=Zss he
 obtain ⟨w,ew,rw'⟩:=r.get h2
 have hl:=r.length
 have hn:=line63
 have fin:EP X pins σ Q w s:=⟨z,H,I,rw',q⟩
 by_cases h0:0≤i
 ·have hj:i.toNat=j:=by
   rw [seqIndex_of h0 h5] at h1
   exact Option.some.inj h1
  exact item_listR pl.isList h0 (by omega) (by rw [hj];simpa using ew) fin hs
 ·have hj:(i+(its.toArray.size:Int)).toNat=j:=by
   rw [seqIndex_neg (by omega) h4] at h1
   rw [size_toArray,<- hl]
   exact Option.some.inj h1
  exact subscriptTail_builtinR (x:=w) pl.isList.typeIs slot_list_getitem.lookup
   (wpAny_getItem_list_neg (Q:=λ r s'=>r=w/\EP X pins σ Q r s') pl.isList (by omega) (by rw [size_toArray] <;> omega) (by omega) (by rw [hj];simpa using ew) ⟨rfl,fin⟩) hs
theorem Zc0:IxR X (rIxT X.K):=by
 intro value slice pins s σ H x y v u Q I rx ry h hs
 obtain ⟨p,xs,i,z,rfl,rfl,hq,he,q⟩:=h
 cases rx
 obtain ⟨t,rfl⟩:=ry
 obtain ⟨its,r,pl,hz⟩:=I.tuple hq
 obtain ⟨j,h1,h2,h3,h4,h5⟩:=Zss he
 obtain ⟨w,ew,rw'⟩:=r.get h2
 have hl:=r.length
 have hn:=line63
 have fin:EP X pins σ Q w s:=⟨z,H,I,rw',q⟩
 exact subscriptTail_builtinR (x:=w) pl.typeIs slot_tuple_getitem.lookup
  (getItem_tuple (j:=j) (Q:=λ r s'=>r=w/\EP X pins σ Q r s') pl (by omega) (by omega) (by rw [size_toArray,<- hl];exact h1) (by simpa using ew) ⟨rfl,fin⟩) hs
theorem Zse (its:List Value) (n j:Nat) (u:Value):Obj.mapSeq (·.setIfInBounds j u) { cls:=.type "list",data:=.seq its.toArray n } = { cls:=.type "list",data:=.seq (its.set j u).toArray n }:=by
 simp [Obj.mapSeq]
theorem Inv.lst {pins:List (Addr × Obj)}{σ:St}{H:Hp}{s:Shared}{p:Addr}{xs:List V} (I:Inv X pins σ H s) (h:H p=some (.lst xs)) :
  ∃ (its:List Value) (n:Nat),Vals xs its/\s.heap.get? p=some { cls:=.type "list",data:=.seq its.toArray n }/\xs.length≤sizeLine:=by
 obtain ⟨z,its,n,r,e⟩:=I.hok p _ h
 exact ⟨its,n,r,e,z⟩
theorem Inv.lstUpd {pins:List (Addr × Obj)}{σ:St}{H:Hp}{s:Shared}{p:Addr}{xs ys:List V}{its its':List Value}{n n':Nat}{f:Obj->Obj} (I:Inv X pins σ H s) (h:H p=some (.lst xs))
  (ho:s.heap.get? p=some { cls:=.type "list",data:=.seq its.toArray n }) (hf:f { cls:=.type "list",data:=.seq its.toArray n } = { cls:=.type "list",data:=.seq its'.toArray n' }) (r:Vals ys its') (hz:ys.length≤sizeLine) (t:Nat) :
  Inv X pins σ (upd H p (.lst ys)) { s with heap:=s.heap.update p f,toks:=t }:=by
 have e:(s.heap.update p f).get? p=some { cls:=.type "list",data:=.seq its'.toArray n' }:=by
  rw [Heap.get?_update_self f ho (by rw [hf] <;> rfl),hf]
 refine I.write (x:=p) (e:=p) (by rw [h];trivial) (.inl rfl) (λ b u hb q=>(Heap.get?_update_other _ _ (Ne.symm hb)).trans q) ⟨_,e⟩ ?_
 exact ⟨hz,its',n',r,e⟩
def rSetL:V->V->V->Hp->(Hp->Prop)->Prop:=λ o i v H Q=>∃ p xs k j,o = .ref p/\i = .int k/\H p=some (.lst xs)/\ixN xs.length k=some j/\Q (upd H p (.lst (xs.set j v)))
theorem Zro:PSet X rSetL:=by
 intro pins s σ H o i v ov iv u Q I ro ri rv h
 obtain ⟨p,xs,k,j,rfl,rfl,hp,hj,q⟩:=h
 cases ro
 obtain ⟨t,rfl⟩:=ri
 obtain ⟨its,n,r,ho,hz⟩:=I.lst hp
 obtain ⟨h1,h2,h3,h4⟩:=Ztk hj
 have hl:=r.length
 have hn:=line63
 have I':Inv X pins σ (upd H p (.lst (xs.set j v))) { s with heap:=s.heap.update p (Obj.mapSeq (·.setIfInBounds j u)) }:=
  I.lstUpd hp ho (Zse its n j u) (r.set rv j) (by rw [List.length_set];exact hz) s.toks
 by_cases h0:0≤k
 ·have hk:k.toNat=j:=by
   rw [seqIndex_of h0 h4] at h1
   exact Option.some.inj h1
  exact PySem.W.ki_setAt ho h0 (by omega) (by rw [size_toArray,<- hl];exact h4) (by rw [hk];exact ⟨_,I',q⟩)
 ·have hk:(k+(its.toArray.size:Int)).toNat=j:=by
   rw [seqIndex_neg (by omega) h3] at h1
   rw [size_toArray,<- hl]
   exact Option.some.inj h1
  exact PySem.W.ki_setBack ho (by omega) (by rw [size_toArray,<- hl];exact h3) (by omega) (by rw [hk];exact ⟨_,I',q⟩)
theorem Zpg (lo hi:Option Int) (n:Nat):(sliceBounds lo hi none n).1=((HT.sIx n 0 lo:Nat):Int)/\(sliceBounds lo hi none n).2.1=((HT.sIx n n hi:Nat):Int)/\(sliceBounds lo hi none n).2.2=1:=by
 refine ⟨?_,?_,rfl⟩
 ·cases lo with
  | none=>simp [sliceBounds,HT.sIx]
  | some i=>
   simp only [sliceBounds,HT.sIx,Option.getD_none,show (1:Int) > 0 by decide,if_true]
   by_cases h:i<0
   ·simp only [h,if_true] <;> omega
   ·simp only [h,if_false] <;> omega
 ·cases hi with
  | none=>simp [sliceBounds,HT.sIx]
  | some i=>
   simp only [sliceBounds,HT.sIx,Option.getD_none,show (1:Int) > 0 by decide,if_true]
   by_cases h:i<0
   ·simp only [h,if_true] <;> omega
   ·simp only [h,if_false] <;> omega
theorem Zny (its:List Value) (lo hi:Option Int):slicePick its.toArray lo hi none=((its.drop (HT.sIx its.length 0 lo)).take (HT.sIx its.length its.length hi-HT.sIx its.length 0 lo)).toArray:=by
 obtain ⟨h1,h2,h3⟩:=Zpg lo hi its.toArray.size
 unfold slicePick
 rw [h1,h2,h3]
 simp only [sliceRange_one,pick_run,size_toArray] <;> rfl
def rSlL (K:PySem.W.Frag):V->Option Int->Option Int->Hp->VK->Prop:=λ x lo hi H Q=>∃ a xs,x = .ref a/\SqL K H a xs/\∀ p,H p=none->Q (.ref p) (upd H p (.lst (cutV xs lo hi)))
theorem Zyk:SlR X (rSlL X.K):=by
 intro pins s σ H x v vl vu lo hi sl Q I rx hs pl pu h
 obtain ⟨a,xs,rfl,hx,q⟩:=h
 cases rx
 obtain ⟨its,r,ht,hz⟩:=I.list hx
 have hlen:=r.length
 refine ⟨"list",_,slot_list_getitem.lookup,ht.isList.typeIs,?_⟩
 refine wpAny_getItem_list_slice ht.isList hs pl pu .none (by simp) ?_ (by rw [size_toArray] <;> omega)
 rw [Zny,<- hlen]
 refine ⟨.ref s.heap.objs.size,_,I.laid (t':=s.toks) (o:=.lst (cutV xs lo hi)) (λ b ob q=>get?_push_of_some _ q) (le_refl _) ?_,rfl,q _ (I.hok.fresh (le_refl _))⟩
 exact ⟨le_trans (Zkq xs lo hi) hz,_,0,(r.drop (HT.sIx xs.length 0 lo)).take (HT.sIx xs.length xs.length hi-HT.sIx xs.length 0 lo),get?_push_size _ rfl⟩
theorem Zaz:CallR X (.builtin "len") (λ xs H Q=>∃ p ys,xs=[.ref p]/\(SqL X.K H p ys \/ SqT X.K H p ys)/\Q (.int ys.length) H):=by
 intro pins s σ H xs us Q I r h
 obtain ⟨p,ys,rfl,hq,q⟩:=h
 obtain ⟨u,rfl,rx⟩:=vals1 r
 cases rx
 have hn:=line63
 rcases hq with hq|hq
 ·obtain ⟨its,r',pl,hz⟩:=I.list hq
  have hlen:=r'.length
  exact Calls.call_len_list pl.isList (by simp only [size_toArray] <;> omega) ⟨.int ys.length,H,I.tok _,⟨s.toks+1,by rw [size_toArray,hlen]⟩,q⟩
 ·obtain ⟨its,r',pl,hz⟩:=I.tuple hq
  have hlen:=r'.length
  exact len_tuple pl (by simp only [size_toArray] <;> omega) ⟨.int ys.length,H,I.tok _,⟨s.toks+1,by rw [size_toArray,hlen]⟩,q⟩
theorem Zb5:CallR X (.type "tuple") (λ xs H Q=>∃ p ys,xs=[.ref p]/\((SqL X.K H p ys/\∀ l,H l=none->Q (.ref l) (upd H l (.tup ys))) \/ (SqT X.K H p ys/\Q (.ref p) H))):=by
 intro pins s σ H xs us Q I r h
 obtain ⟨p,ys,rfl,h⟩:=h
 obtain ⟨u,rfl,rx⟩:=vals1 r
 cases rx
 rcases h with ⟨hq,q⟩|⟨hq,q⟩
 ·obtain ⟨its,r',pl,hz⟩:=I.list hq
  have hlen:=r'.length
  refine call_tuple_list pl.isList (λ h' kp=>?_) (by simp only [size_toArray] <;> omega)
  have I1:Inv X pins σ H { s with heap:=h' }:=I.kept (t':=s.toks) kp
  have I2:Inv X pins σ (upd H h'.objs.size (.tup ys)) { s with heap:=h'.push { cls:=.type "tuple",data:=.seq its.toArray } }:=
   I1.laid (t':=s.toks) (λ b o e=>get?_push_of_some _ e) (le_refl _) (show ObjOk X.prog X.w _ _ _ (.tup ys) from ⟨hz,its,r',IsTu.new _ _⟩)
  exact ⟨.ref h'.objs.size,_,I2,rfl,q _ (I1.hok.fresh (le_refl _))⟩
 ·obtain ⟨its,r',pl,hz⟩:=I.tuple hq
  exact call_tuple_same pl ⟨.ref p,H,I,rfl,q⟩
def tyV (K:PySem.W.Frag) (T:String) (x:V) (H:Hp):Prop:=match x with
 | .str _=>T = "str"
 | .int _=>T = "int"
 | .ref p=>(T = "list"/\∃ xs,SqL K H p xs) \/ (T = "tuple"/\∃ o,K.lookup p=some o/\o.cls = .type "tuple"/\o.dict=none) \/
   (T = "dict"/\((∃ kvs,H p=some (.dK kvs)) \/ ∃ kvs,H p=some (.dT kvs))) \/ (T = "set"/\∃ S n,H p=some (.set S n))
 | _=>False
theorem Yab {pins:List (Addr × Obj)}{σ:St}{H:Hp}{s:Shared}{T:String}{x:V}{v:Value} (I:Inv X pins σ H s) (r:RelV x v) (ty:tyV X.K T x H) :
  s.TypeIs v T/\∀ a,v = .ref a->∃ ob,s.heap.get? a=some ob/\ob.dict=none:=by
 cases x with
 | str z=>
  obtain ⟨t,rfl⟩:=r
  cases (show T = "str" from ty)
  exact ⟨typeIs_str s z t,λ _ e=>nomatch e⟩
 | int i=>
  obtain ⟨t,rfl⟩:=r
  cases (show T = "int" from ty)
  exact ⟨typeIs_int s i t,λ _ e=>nomatch e⟩
 | ref p=>
  cases r
  rcases ty with ⟨rfl,xs,hq⟩|⟨rfl,o,hk,hc,hd⟩|⟨rfl,hk⟩|⟨rfl,S,n,hk⟩
  ·obtain ⟨its,_,pl,_⟩:=I.list hq
   refine ⟨pl.isList.typeIs,λ a e=>?_⟩
   cases e
   obtain ⟨o,n,e,c,hd,_⟩:=pl
   exact ⟨o,e,hd⟩
  ·refine ⟨⟨o,I.kIn p o hk,hc⟩,λ a e=>?_⟩
   cases e
   exact ⟨o,I.kIn _ o hk,hd⟩
  ·have z:∃ o,s.heap.get? p=some o/\o.ExactDict:=by
    rcases hk with ⟨kvs,hk⟩|⟨kvs,hk⟩
    ·obtain ⟨_,_,_,_,o,_,_,e,ex,_⟩:=I.hok p _ hk
     exact ⟨o,e,ex⟩
    ·obtain ⟨_,_,_,_,o,_,_,e,ex,_⟩:=I.hok p _ hk
     exact ⟨o,e,ex⟩
   obtain ⟨o,e,ex⟩:=z
   refine ⟨⟨o,e,ex.1⟩,λ a e2=>?_⟩
   cases e2
   exact ⟨o,e,ex.2.1⟩
  ·obtain ⟨o,_,_,_,e,ex,_⟩:=I.hok p _ hk
   refine ⟨⟨o,e,ex.1⟩,λ a e2=>?_⟩
   cases e2
   exact ⟨o,e,ex.2.1⟩
 | _=>exact False.elim ty
def tBM (K:PySem.W.Frag) (T:String) (r:V->List V->Hp->VK->Prop) (to:TE) (t:TA):TE:=λ σ H Q=>to σ H λ x H1=>tyV K T x H1/\t σ H1 λ xs H2=>r x xs H2 Q
variable {o e:Expr}{es:List Expr}{to:TE}{t:TA}{name:Str}{apos cpos:Pos}{T id:String}{r:V->List V->Hp->VK->Prop}
theorem Yaf (pa:PlainAttrs T) (slot:Slot T name id) (hty:typeOf (.builtin id)=pure (.type "method_descriptor")) (hm:MtR X id r) (ho:PE X o to) (ha:PA X (e::es) t)
  (hbase:attributeBase o name X.env (eval o X.env)=eval o X.env:=by rfl)
  (hfew:((backTo cpos (starEach (e::es) X.env)).all (λ x=>!x.1) && (backToKw cpos (keywordEach [] X.env)).all (λ x=>x.1.isSome)
   && decide ((e::es).length+([]:List Keyword).length+(if ([]:List Keyword).isEmpty then 0 else 1)<30))=true:=by rfl)
  (hline:(apos.endLine == cpos.line)=true:=by rfl) (hs:starEach (e::es) X.env=(false,eval e X.env)::starEach es X.env:=by rfl) (hplain:(backTo cpos (starEach es X.env)).any (·.1)=false:=by rfl) :
  PE X (.Call (.Attribute o name apos) (e::es) [] cpos) (tBM X.K T r to t):=by
 intro pins s σ H Q I h
 refine wpAny_Call_method_late hbase hfew hline rfl (thn (ho pins s σ H _ I h) λ v s1 ⟨x,H1,I1,r1,ty,q1⟩=>?_)
 obtain ⟨h1,h2⟩:=Yab I1 r1 ty
 refine ⟨T,id,pa,slot,hty,h1,h2,?_⟩
 have hA:=ha cpos pins s1 σ H1 _ I1 q1
 rw [hs] at hA |-
 refine Calls.callWith_builtin (by show (false || (backTo cpos (starEach es X.env)).any (·.1))=false;rw [hplain] <;> rfl) (Calls.evalArgs_plain ?_)
 exact thn hA λ us s2 ⟨vs,H2,I2,r2,q2⟩=>hm pins s2 σ H2 x vs v us Q I2 r1 r2 q2
end
end L2
namespace L2
open PySem PySem.Spec PyProof.Rows
def MtM (X:Cx) (id:String) (r:V->List V->Hp->VK->Prop):Prop:=
 ∀ (pins:List (Addr × Obj)) (s:Shared) (σ:St) (H:Hp) (x:V) (xs:List V) (v:Value) (us:List Value) (Q:VK),Inv X pins σ H s->RelV x v->Vals xs us->r x xs H Q ->
  wpAny (model X.prog X.w) X.A (call (.builtin id) (v::us)) (EP X pins σ Q) X.xe s
theorem Vals.one:∀ {x:V}{us:List Value},Vals [x] us->∃ u,us=[u]/\RelV x u
 | _,_,.cons r .nil=>⟨_,rfl,r⟩
theorem Vals.zero:∀ {us:List Value},Vals [] us->us=[]
 | _,.nil=>rfl
theorem Vals.reverse {xs:List V}{us:List Value} (h:Vals xs us):Vals xs.reverse us.reverse:=by
 induction h with
 | nil=>exact .nil
 | cons r t ih=>rw [reverse_cons,reverse_cons];exact Vals.append ih (.cons r .nil)
theorem Vals.rep {xs:List V}{us:List Value} (h:Vals xs us):∀ k:Nat,Vals (List.replicate k xs).flatten (List.replicate k us).flatten
 | 0=>.nil
 | k+1=>by
  rw [replicate_succ,replicate_succ,flatten_cons,flatten_cons]
  exact Vals.append h (Vals.rep h k)
theorem Zow (its:List Value):∀ (k:Nat) (acc:List Value),
  List.foldl (λ x1 x2=>x1++x2) acc.toArray (List.replicate k its.toArray)=(acc++(List.replicate k its).flatten).toArray
 | 0,acc=>by simp
 | k+1,acc=>by
  have e:acc.toArray++its.toArray=(acc++its).toArray:=by simp
  have e2:(acc++its)++(List.replicate k its).flatten=acc++(List.replicate (k+1) its).flatten:=by
   rw [replicate_succ,flatten_cons,append_assoc]
  rw [<- e2,<- Zow its k (acc++its),<- e,replicate_succ,foldl_cons]
section
variable {X:Cx}{pins:List (Addr × Obj)}{σ:St}{H:Hp}{s:Shared}{l b:Addr}{xs ys zs:List V}
theorem Inv.lset {its its':List Value}{n:Nat}{f:Array Value->Array Value}{t':Nat} (I:Inv X pins σ H s) (hH:H l=some (.lst xs))
  (e:s.heap.get? l=some { cls:=.type "list",data:=.seq its.toArray n }) (hf:f its.toArray=its'.toArray) (hv:Vals ys its') (hz:ys.length≤sizeLine) :
  Inv X pins σ (upd H l (.lst ys)) { s with heap:=s.heap.update l (Obj.mapSeq f),toks:=t' }:=by
 have q:=PySem.IsL.update e f
 rw [hf] at q
 refine I.write (x:=l) (e:=l) (by rw [hH];exact trivial) (.inl rfl) (λ b' u hb hu=>(Heap.get?_update_other s.heap (Obj.mapSeq f) (Ne.symm hb)).trans hu) ⟨_,q⟩ ?_
 exact ⟨hz,its',_,hv,q⟩
theorem Inv.lnew {its:List Value}{t':Nat} (I:Inv X pins σ H s) (hv:Vals ys its) (hz:ys.length≤sizeLine) :
  Inv X pins σ (upd H s.heap.objs.size (.lst ys)) { s with heap:=s.heap.push { cls:=.type "list",data:=.seq its.toArray },toks:=t' }:=
 I.laid (λ _ _ q=>get?_push_of_some _ q) (le_refl _) ⟨hz,its,0,hv,get?_push_size _ rfl⟩
theorem Inv.fresh (I:Inv X pins σ H s):H s.heap.objs.size=none:=I.hok.fresh (le_refl _)
theorem Inv.lstM (I:Inv X pins σ H s) (hH:H l=some (.lst xs)):xs.length≤sizeLine/\∃ (its:List Value) (n:Nat),Vals xs its/\xs.length=its.length/\s.heap.get? l=some { cls:=.type "list",data:=.seq its.toArray n }:=by
 obtain ⟨z,its,n,r,e⟩:=I.hok l _ hH
 exact ⟨z,its,n,r,r.length,e⟩
theorem notLongL {n:Nat} (h:n≤sizeLine):Builtin.List.listTooLong n=false:=by
 unfold Builtin.List.listTooLong
 exact decide_eq_false (by omega)
end
section
variable {X:Cx}
def rAppend:V->List V->Hp->VK->Prop:=λ x vs H Q=>∃ l xs y,x = .ref l/\vs=[y]/\H l=some (.lst xs)/\xs.length<sizeLine/\Q .non (upd H l (.lst (xs++[y])))
theorem Zck:MtM X "list.append" rAppend:=by
 intro pins s σ H x vs v us Q I rx rv h
 obtain ⟨l,xs,y,rfl,rfl,hH,hz,q⟩:=h
 cases rx
 obtain ⟨u,rfl,ru⟩:=rv.one
 obtain ⟨z,its,n,r,hl,e⟩:=I.lstM hH
 refine call_meets F.slot_list_append ⟨_,e,rfl⟩ F.entry_list_append (F.args_list_append_2 _ _) (PySem.list_append l its.toArray n u (by rw [size_toArray];omega)) ⟨e,?_⟩
 refine ⟨.non,_,I.lset (its':=its++[u]) hH e (by simp) (r.append (.cons ru .nil)) ?_,rfl,q⟩
 rw [length_append,length_singleton]
 omega
def rExtend:V->List V->Hp->VK->Prop:=λ x vs H Q=>∃ l b xs zs,x = .ref l/\vs=[.ref b]/\H l=some (.lst xs)/\H b=some (.lst zs)/\xs.length+zs.length≤sizeLine/\Q .non (upd H l (.lst (xs++zs)))
theorem Zts:MtM X "list.extend" rExtend:=by
 intro pins s σ H x vs v us Q I rx rv h
 obtain ⟨l,b,xs,zs,rfl,rfl,hH,hB,hz,q⟩:=h
 cases rx
 obtain ⟨u,rfl,ru⟩:=rv.one
 cases ru
 obtain ⟨z,its,n,r,hl,e⟩:=I.lstM hH
 obtain ⟨z2,its2,n2,r2,hl2,e2⟩:=I.lstM hB
 have hsz:its.toArray.size+its2.toArray.size≤sizeLine:=by rw [size_toArray,size_toArray];omega
 have hlong:¬ (!its.toArray.isEmpty && Builtin.List.listTooLong (its.toArray.size+its2.toArray.size))=true:=by
  rw [notLongL hsz,Bool.and_false]
  exact Bool.false_ne_true
 refine call_meets F.slot_list_extend ⟨_,e,rfl⟩ F.entry_list_extend (F.args_list_extend_2 _ _)
  (AutoSeq1.list_extend_list_list_0 l its.toArray n b its2.toArray n2 hlong (by rw [size_toArray];omega) (by omega)) ⟨e,e2,?_⟩
 refine ⟨.non,_,I.lset (its':=its++its2) hH e (by simp) (r.append r2) ?_,rfl,q⟩
 rw [length_append]
 omega
def rCat:R2:=λ x y H Q=>∃ l b xs zs,x = .ref l/\y = .ref b/\H l=some (.lst xs)/\H b=some (.lst zs)/\xs.length+zs.length≤sizeLine/\∀ p,H p=none->Q (.ref p) (upd H p (.lst (xs++zs)))
theorem Ztu:OpR X (binaryOp .Add) rCat:=by
 intro pins s σ H x y v u Q I rx ry h
 obtain ⟨l,b,xs,zs,rfl,rfl,hH,hB,hz,q⟩:=h
 cases rx
 cases ry
 obtain ⟨z,its,n,r,hl,e⟩:=I.lstM hH
 obtain ⟨z2,its2,n2,r2,hl2,e2⟩:=I.lstM hB
 refine PySem.P.add_list e e2 ?_ (by rw [size_toArray,size_toArray];omega)
 have ea:its.toArray++its2.toArray=(its++its2).toArray:=by simp
 rw [ea]
 exact ⟨.ref _,_,I.lnew (t':=s.toks) (r.append r2) (by rw [length_append];omega),rfl,q _ I.fresh⟩
theorem Zxj {α:Type} (xs:List α) (k:Nat):(List.replicate k xs).flatten.length=k*xs.length:=by
 induction k with
 | zero=>simp
 | succ k ih=>rw [replicate_succ,flatten_cons,length_append,ih,Nat.succ_mul,Nat.add_comm]
end
section
variable {prog:Program}{w:World}{A:Around}{E:Value->Shared->Prop}{s:Shared}
set_option maxRecDepth 100000 in
end
section
variable {X:Cx}
end
end L2
namespace Att
open PySem PySem.W PySem.Calls PyProof.Rows
theorem Zl3 {P:Params}{h:Heap}:∀ (ns:List Int) (vs:List Value),WellAll P h vs (ns.map WData.int)->IntsAre vs ns:=by
 intro ns
 induction ns with
 | nil=>
  intro vs w
  rw [map_nil] at w
  cases w
  exact .nil
 | cons n ns ih=>
  intro vs w
  rw [map_cons] at w
  cases w with
  | cons a b=>
   cases a
   exact .cons _ _ (ih _ b)
theorem Zuj {l:OpenLaw}{n:Nat} (hn:l.most=some n) {P:Params}{h:Heap}{args:List WData}{vals:List Value}
  (hpre:l.row.toRowW.claim.pre args=true) (hwl:WellAll P h vals args) :
  ∃ a vs ns,vals=[Value.ref a]/\args=[WData.list (ns.map WData.int)]/\h.get? a=some { cls:=.type "list",data:=.seq vs.toArray }/\IntsAre vs ns/\ns.length≤n:=by
 have hsh:WShape.hasAll [] args [.list .int]=true:=(pre_splitW hpre).1
 have hc:l.pre.holds [] { args:=args }=true:=(pre_splitW hpre).2
 obtain ⟨d,r,rfl,h1,h2⟩:=hasAllW_cons hsh
 obtain rfl:=hasAllW_nil h2
 obtain ⟨xs,rfl,h3⟩:=hasW_list h1
 obtain ⟨ns,rfl⟩:=items_int h3
 have hlen:ns.length≤n:=by
  unfold OpenLaw.pre at hc
  have h4:(WTm.not (.lt (.lit (.int (n:Int))) (.len (.arg 0)))).holds [] { args:=[.list (ns.map .int)] }=true:=by
   have h4:=(holds_andW hc).1
   rw [hn] at h4
   exact h4
  have h5:=condW_of h4 (w_not (w_lt w_lit (w_len_list (w_arg rfl))))
  rw [lmp] at h5
  refine Nat.le_of_not_lt λ q=>?_
  have q':(n:Int)<((ns.length:Nat):Int):=by omega
  first
   | (rw [decide_eq_true q'] at h5;exact absurd h5 (by decide))
   | (simp at h5;omega)
 cases hwl with
 | cons w1 w2=>
  cases w2
  cases w1 with
  | list ho hall=>exact ⟨_,_,ns,rfl,rfl,ho,Zl3 ns _ hall,hlen⟩
theorem Zu3 (l:OpenLaw) (args:List WData):l.row.toRowW.claim.post args (.bool true) args=true:=
 postW_of (r:=l.row.toRowW) (X:=(true == true))
  (show WShape.has [] (.bool true) .bool=true by first|rfl|decide|simp [WShape.has,WShape.arms,WShape.armsAll])
  (show (WTm.eq .res (.lit (.bool true))).value [] { args:=args,res:=some (.bool true),after:=args }=some (.bool (true == true)) from w_eq_bool (w_res rfl) w_lit) rfl
theorem attach_call {l:OpenLaw}{n:Nat}{q:Program}{loose:List Str}{XP:(Str->Option Value)->Heap->Prop}{YP:World->Heap->Prop}{d:DefRec}
  (hn:l.most=some n) (hdf:d.params.defaults=[])
  (call:∀ (w:World) (s₀ s₁:Shared) (mg mb:Str->Option Value) (fa:Addr) (o:Obj) (pm cd doc:Value) (a:Addr) (vs:List Value) (ns:List Int),
   Ground q loose [] XP w s₀ mg mb s₁.heap->YP w s₁.heap ->
   s₁.heap.get? fa=some o->o.data = .func (docDef d.name d.params d.body d.scope pm cd doc)->s₁.heap.CodeRec cd d.name->mg d.name=some (.ref fa) ->
   s₁.heap.get? a=some { cls:=.type "list",data:=.seq vs.toArray }->IntsAre vs ns->ns.length≤n->s₁.gens = #[] ->
   codeAny (model l.prog w) callerA (.call (.ref fa) ⟨[.ref a],[]⟩) (λ r s'=>r = .ok (.ret (.bool true))/\OldK s₁.heap s'.heap/\s'.os=s₁.os/\AllBare s'.gens) s₁) :
  WalkO q loose XP YP l.row.toRowW d [] (λ f vs=>PySem.call f vs):=by
 intro w s₀ s₁ mg mb G Y fa o pm cd doc dV kV ho hd hcd hD hmg hg args vals as hpre hlay hrd hwl hlo
 obtain rfl:dV = .none:=Dflts.none hD hdf
 obtain rfl:kV = .none:=Dflts.noKw hD
 obtain ⟨a,vs,ns,rfl,rfl,hobj,hints,hlen⟩:=Zuj hn hpre hwl
 refine enter_call (codeAny_mono (call w s₀ s₁ mg mb fa o pm cd doc a vs ns G Y ho (fd_plain hd) hcd hmg hobj hints hlen hg) λ r s' hq=>?_)
 obtain ⟨rfl,h2,h3,h4⟩:=hq
 exact ⟨.inl ⟨.bool true,.bool true,[],rfl,λ _=>rfl,.bool true,Zu3 l _,λ _=>⟨List.Pairwise.nil,λ _ hm=>(nomatch hm)⟩⟩,h2,h3,h4⟩
section
variable {prog:Program}{w:World}{A:Around}{E:Value->Shared->Prop}{s:Shared}{K:Frag}
end
end Att
namespace L2
open PySem PySem.Spec PyProof.Rows
theorem Zlt:∀ {vs:List Value}{ns:List Int},IntsAre vs ns->Vals (ns.map V.int) vs
 | _,_,.nil=>.nil
 | _,_,.cons n t h=>.cons ⟨t,rfl⟩ (Zlt h)
def Only (H:Hp):Prop:=∀ b,H b=none \/ ∃ o xs,H b=some (.frz o (.lst xs))
theorem Zvd {P:Program}{w:World}{K:PySem.W.Frag}{mg mb:Str->Option Value}{CX:CXT}{k:Nat}{fa a:Addr}{fd:FuncData}{x:Str}{sp:Sp}{s₁:Shared}{vs:List Value}{ns:List Int}
  (KX:K.In s₁.heap) (hns:s₁.heap.Ns mainGlobals mg) (hb:s₁.heap.Ns builtinsNs mb) (hbb:∀ x:Str,x≠"__name__"->mb x=bootBuiltins x) (hlim:s₁.heap.NoLimit) (hg:s₁.gens = #[])
  (ha:s₁.heap.get? a=some { cls:=.type "list",data:=.seq vs.toArray }) (hi:IntsAre vs ns) (hl:ns.length≤sizeLine) (hr:Room k callerA)
  (F:∀ base:Heap,K.In base->base.Ns mainGlobals mg->FnOk P w K mg base CX k fa fd [x] sp) (hbind:∀ (s:Shared) (u:Value),BindsTo s fd ⟨[u],[]⟩ [(x,u)])
  (hsp:∀ H:Hp,Only H->SqL K H a (ns.map V.int)->sp [.ref a] H (λ v _=>v = .bl true) λ _ _ _=>False)
  (hCX:∀ H e s',CX [] H s₁ (λ _ _ _=>False) e s'->False) :
  codeAny (model P w) callerA (.call (.ref fa) ⟨[.ref a],[]⟩) (λ r s'=>r = .ok (.ret (.bool true))/\OldK s₁.heap s'.heap/\s'.os=s₁.os/\AllBare s'.gens) s₁:=by
 have rv:=Zlt hi
 have lenV:=hi.length
 -- from an abstract heap in which nothing but the script may be tracked
 have core:∀ H:Hp,Only H->SqL K H a (ns.map V.int)->HOk P w H s₁.heap->(∀ b,H b≠none->b=a)->(H a≠none->K.lookup a=none) ->
   codeAny (model P w) callerA (.call (.ref fa) ⟨[.ref a],[]⟩) (λ r s'=>r = .ok (.ret (.bool true))/\OldK s₁.heap s'.heap/\s'.os=s₁.os/\AllBare s'.gens) s₁:=by
  intro H hO hS hok hA hK
  have base_of:∀ {b:Addr}{o:Obj},s₁.heap.get? b=some o->H b=none->(hidT s₁.heap H).get? b=some o:=λ e n=>Zv7 e n
  have noA:∀ {b:Addr}{o:Obj}{es:Array DictEntry}{ep:Nat},s₁.heap.get? b=some o->o.data = .dict es ep->H b=none:=λ {b o es ep} e d=>by
   cases q:H b with
   | none=>rfl
   | some u=>
    have e':b=a:=hA b (by rw [q];simp)
    subst e'
    rw [ha] at e;cases e
    have d':Data.seq vs.toArray _=Data.dict es ep:=d
    cases d'
  have nsK:∀ {b:Addr}{m:Str->Option Value},s₁.heap.Ns b m->(hidT s₁.heap H).Ns b m:=λ {b m} ⟨o,es,ep,e,d,r⟩=>⟨o,es,ep,base_of e (noA e d),d,r⟩
  have hKb:K.In (hidT s₁.heap H):=λ b o e=>base_of (KX b o e) (by
   cases q:H b with
   | none=>rfl
   | some u=>
    have e':b=a:=hA b (by rw [q];simp)
    subst e'
    rw [hK (by rw [q];simp)] at e;cases e)
  have hM:Mod K mg (hidT s₁.heap H):=⟨hKb,nsK hns,⟨mb,nsK hb,hbb⟩,let ⟨mc,h1,h2⟩:=hlim;⟨mc,nsK h1,h2⟩⟩
  have e0:Env0 P w K mg (hidT s₁.heap H) callerA [] s₁ H:=⟨rfl,hM,λ b o e=>Zxl e,Nat.le_of_eq (Ztg _ _),trivial,λ b hb=>absurd (show b∈([]:List Addr) from hb) (by simp),hok,.of_eq hg⟩
  refine codeAny_mono ((F _ hKb (nsK hns)).run callerA [] s₁ H ⟨[.ref a],[]⟩ [.ref a] [.ref a] _ _ hr e0 (hbind s₁ (.ref a)) (.cons rfl .nil) (hsp H hO hS)) λ r s' h=>?_
  cases r with
  | error e=>exact (hCX H e s' h).elim
  | ok fl=>
   cases fl with
   | next=>exact False.elim h
   | brk=>exact False.elim h
   | cont=>exact False.elim h
   | ret u=>
    obtain ⟨v,H',os,bare,un,hok',r',q⟩:=h
    have q':v = .bl true:=q
    subst q'
    obtain rfl:u=Value.bool true:=r'
    refine ⟨rfl,OldK.of_keep λ b o e=>?_,os,bare⟩
    cases q:H b with
    | none=>exact un.keep b o e q (by intro z;exact absurd (show b∈([]:List Addr) from z) (by simp)) (by simp)
    | some u=>
     rcases hO b with z|⟨ob,xs,z⟩
     ·rw [q] at z;cases z
     ·have z2:=un.frzs b ob _ z
      obtain ⟨e1,_⟩:=hok b _ z
      obtain ⟨e2,_⟩:=hok' b _ z2
      rw [e] at e1;cases e1
      exact e2
 cases hk:K.lookup a with
 | some o=>
  -- the script is one of the module's own objects
  have e:=KX a o hk
  rw [ha] at e
  cases e
  refine core (λ _=>none) (λ _=>.inl rfl) (.inr ⟨_,vs.toArray,_,hk,rfl,rfl,rfl,by rw [size_toArray,lenV];exact hl,by simpa using rv⟩) (λ b u z=>by have z':(none:Option HO)=some u:=z;cases z') (λ b z=>absurd rfl z) λ z=>absurd rfl z
 | none=>
  refine core (λ b=>if b=a then some (.frz { cls:=.type "list",data:=.seq vs.toArray } (.lst (ns.map V.int))) else none) (λ b=>?_) (.inl (.inr ⟨{ cls:=.type "list",data:=.seq vs.toArray },if_pos rfl⟩)) (λ b u z=>?_) (λ b z=>?_) λ _=>hk
  ·by_cases hb:b=a
   ·exact .inr ⟨_,_,if_pos hb⟩
   ·exact .inl (if_neg hb)
  ·by_cases hb:b=a
   ·have z':=(if_pos hb).symm.trans z
    cases z'
    subst hb
    exact ⟨ha,by rw [lmp];exact hl,vs,_,rv,ha⟩
   ·have z':=(if_neg hb).symm.trans z
    cases z'
  ·by_cases hb:b=a
   ·exact hb
   ·exact absurd (if_neg hb) z
end L2
namespace L2
open PySem PySem.Spec PyProof.Rows
end L2
namespace L2
open PySem PySem.Spec PyProof.Rows
def defArgs (s:Stmt):Arguments:=match s with
 | .FunctionDef _ a _ _ _ _ _ _ _ _=>a
 | _=>{ posonlyargs:=[],args:=[],vararg:=none,kwonlyargs:=[],kw_defaults:=[],kwarg:=none,defaults:=[] }
def defBody (s:Stmt):List Stmt:=match s with
 | .FunctionDef _ _ b _ _ _ _ _ _ _=>b
 | _=>[]
def defScope (s:Stmt):Scope:=match s with
 | .FunctionDef _ _ _ _ _ _ sc _ _ _=>sc
 | _=>{ kind:=.function,names:=[],isGenerator:=false,isCoroutine:=false }
abbrev CX0:CXT:=λ _ _ _ _ _ _=>False
abbrev E0:XK:=λ _ _ _=>False
theorem pass0 {X:Cx}:Passes CX0 X E0:=λ _ _ _ _ _ _ _ h=>h.elim
structure Fun (K:PySem.W.Frag) (x qual:Str) (st:Stmt) (f:Addr) (fd:FuncData):Prop where
 ex:∃ (oc:Value) (od:Option Addr) (kV doc pm:Value) (an:Option Addr) (cdv ct:Value) (osl:Array (Option Value)),
  fd=PySem.W.fnOf x qual (defArgs st) (defBody st) (defScope st) .none kV doc pm an cdv ct/\K.lookup f=some ⟨oc,od,.func fd,osl⟩/\PySem.W.codeIn K cdv qual=true
 kp:PySem.W.keepIn K (.ref f)=true
section
variable {P:Program}{w:World}{K:PySem.W.Frag}{mg:Str->Option Value}{base:Heap}
theorem Fun.ok {x qual:Str}{st:Stmt}{f:Addr}{fd:FuncData}{N ps:List Str}{k:Nat}{sp:Sp} (F:Fun K x qual st f fd) (S:FnScope N ps (defScope st)) (len:∀ vs H Q E,sp vs H Q E->vs.length=ps.length)
  (hbody:∀ (cdv:Value) (A:Around) (outer:List Env) (s:Shared) (H:Hp) (vs:List V) (Q:VK) (E:XK),Room k (A.deeper (envOfC qual (defScope st) s.heap.objs.size f cdv))->sp vs H Q E ->
   ∃ t,PSs (cxOf CX0 P w K mg base N qual (defScope st) f cdv A outer s H E).nox (defBody st) t/\t { nx:=λ _ H'=>Q .non H',rt:=Q } (start N vs) H):FnOk P w K mg base CX0 (k+1) f fd ps sp:=by
 obtain ⟨oc,od,kV,doc,pm,an,cdv,ct,osl,rfl,lk,hcd⟩:=F.ex
 refine Zyu lk hcd S len λ A outer s H vs Q E hr hsp=>?_
 obtain ⟨t,h,q⟩:=hbody cdv A outer s H vs Q E hr hsp
 exact ⟨t,h.nox,q⟩
theorem Fun.binds {x qual:Str}{st:Stmt}{f:Addr}{fd:FuncData}{ps:List Str} (F:Fun K x qual st f fd)
  (h:∀ (kV doc pm:Value) (an:Option Addr) (cdv ct:Value) (us:List Value),us.length=ps.length->bindArgs (PySem.W.fnOf x qual (defArgs st) (defBody st) (defScope st) .none kV doc pm an cdv ct) ⟨us,[]⟩=pure (ps.zip us)):Binds K fd ps []:=by
 obtain ⟨oc,od,kV,doc,pm,an,cdv,ct,osl,rfl,lk,hcd⟩:=F.ex
 exact .all (h kV doc pm an cdv ct)
theorem Zyw {x qual:Str}{st:Stmt}{f:Addr}{oc:Value}{od an:Option Addr}{osl:Array (Option Value)}{kV doc pm cdv ct:Value} (l:K.lookup f=some ⟨oc,od,.func (PySem.W.fnOf x qual (defArgs st) (defBody st) (defScope st) .none kV doc pm an cdv ct),osl⟩)
  (c:PySem.W.codeIn K cdv qual=true) (k:PySem.W.keepIn K (.ref f)=true):Fun K x qual st f (PySem.W.fnOf x qual (defArgs st) (defBody st) (defScope st) .none kV doc pm an cdv ct):=⟨⟨oc,od,kV,doc,pm,an,cdv,ct,osl,rfl,l,c⟩,k⟩
end
theorem Zh4 {A:Around}{k:Nat} (hr:Room k A):A.units+1<cLine:=lt_of_le_of_lt (Nat.add_le_add_left (by decide:1≤64) _) hr.units
section
variable {X:Cx}
theorem pv (i:Nat) {x:Str}{pos:Pos} (hN:X.N[i]? = some x:=by rfl) (hv:Vis X.env.scope x:=by first|exact Or.inl rfl|exact Or.inr (Or.inl rfl)|exact Or.inr (Or.inr rfl)) (hd:(x == ("__debug__" : Str))=false:=by decide)
  (hcd:(x == ("__classdict__" : Str))=false:=by decide):PE X (.Name x pos) (tVar i):=Zu1 hN hv hd hcd
end
theorem ite2 {c A B:Prop} [Decidable c] (h1:c->A) (h2:¬ c->B):if c then A else B:=by
 by_cases h:c
 ·rw [if_pos h]
  exact h1 h
 ·rw [if_neg h]
  exact h2 h
def Same (H H':Hp):Prop:=∀ b o,H b=some o->H' b=some o
theorem Same.refl (H:Hp):Same H H:=λ _ _ h=>h
theorem Same.trans {H H1 H2:Hp} (a:Same H H1) (b:Same H1 H2):Same H H2:=λ c o h=>b c o (a c o h)
theorem Same.free {H H':Hp} (e:Same H H') {l:Addr} (h:H' l=Option.none):H l=Option.none:=by
 cases q:H l with
 | none=>rfl
 | some o=>
  rw [e l o q] at h
  cases h
theorem Same.seq {K:PySem.W.Frag}{H H':Hp}{a:Addr}{xs:List V} (e:Same H H') (h:SqL K H a xs):SqL K H' a xs:=by
 rcases h with (h|⟨o,h⟩)|h
 ·exact .inl (.inl (e _ _ h))
 ·exact .inl (.inr ⟨o,e _ _ h⟩)
 ·exact .inr h
end L2
set_option maxHeartbeats 4000000
namespace L2
open PySem PySem.Spec PyProof.Rows
abbrev lstO (us:List Value):Obj:={ cls:=.type "list",data:=.seq us.toArray us.length }
def cxComp (X:Cx) (Nc:List Str) (scope:Scope) (cs:List (Str × Addr)) (C:Addr) (s:Shared) (H:Hp) (fp:List Addr):Cx where
 prog:=X.prog
 w:=X.w
 K:=X.K
 mg:=X.mg
 base:=X.base
 A:=X.A
 N:=Nc
 s₀:=s
 H₀:=H
 env:=compEnvC scope cs C X.env
 outer:=X.stack
 stack:=X.stack
 ex:=fp
 fn:=λ x=>scope.names.lookup x == some .cell
 calm:=X.calm
 pn:=[]
 xe:=λ _ _=>False
def clOf (cells:List (Str × Addr)):List (Str × NameKind)->List (Str × Addr)->List (Str × Addr)
 | [],acc=>acc
 | (n,k)::r,acc=>if k == .free then clOf cells r ((n,(cells.lookup n).getD 0)::acc) else clOf cells r acc
theorem Zhg (cells:List (Str × Addr)):∀ (names:List (Str × NameKind)) (acc:List (Str × Addr)),clOf cells names acc=clOf cells names []++acc
 | [],acc=>rfl
 | (n,k)::r,acc=>by
  unfold clOf
  split
  ·rw [Zhg cells r (_::acc),Zhg cells r [_],append_assoc];rfl
  ·exact Zhg cells r acc
theorem Zgt {env:Env}:∀ (names:List (Str × NameKind)) (acc:List (Str × Addr)),(∀ p∈names,p.2 = .free->∃ c,env.cells.lookup p.1=some c) ->
  (forIn names acc λ (p:Str × NameKind) (cs:List (Str × Addr))=>(if p.2 == .free then (do let c <- cellOf env p.1;pure (ForInStep.yield ((p.1,c)::cs))) else pure (ForInStep.yield cs):Sem _))=pure (clOf env.cells names acc)
 | [],acc,_=>rfl
 | (n,k)::r,acc,h=>by
  rw [forIn_cons]
  have hr:∀ p∈r,p.2 = .free->∃ c,env.cells.lookup p.1=some c:=λ p hp=>h p (mem_cons_of_mem _ hp)
  unfold clOf
  by_cases hk:k = .free
  ·subst hk
   obtain ⟨c,hc⟩:=h (n,.free) mem_cons_self rfl
   have hc':env.cells.lookup n=some c:=hc
   simp only [beq_self_eq_true,if_true,cellOf,hc',pure_bind,Option.getD_some]
   exact Zgt r _ hr
  ·have hb:(k == NameKind.free)=false:=by simpa using hk
   simp only [hb,false_eq_true,if_false,pure_bind]
   exact Zgt r _ hr
theorem Zn3 {scope:Scope}{env:Env} (h:∀ p∈scope.names,p.2 = .free->∃ c,env.cells.lookup p.1=some c):closureFor scope env=pure (clOf env.cells scope.names []):=by
 have e:closureFor scope env=(forIn scope.names [] λ (p:Str × NameKind) (cs:List (Str × Addr))=>(if p.2 == .free then (do let c <- cellOf env p.1;pure (ForInStep.yield ((p.1,c)::cs))) else pure (ForInStep.yield cs):Sem _)):=by
  simp only [closureFor]
  rw [bind_pure]
 rw [e];exact Zgt _ _ h
theorem Zia {cells:List (Str × Addr)}:∀ {names:List (Str × NameKind)}{x:Str}{c:Addr},(∀ p∈names,p.2 = .free->∃ c,cells.lookup p.1=some c)->(x,c)∈clOf cells names []->(x,.free)∈names/\cells.lookup x=some c
 | [],_,_,_,h=>nomatch h
 | (n,k)::r,x,c,hf,h=>by
  have hr:∀ p∈r,p.2 = .free->∃ c,cells.lookup p.1=some c:=λ p hp=>hf p (mem_cons_of_mem _ hp)
  unfold clOf at h
  by_cases hk:k = .free
  ·subst hk
   obtain ⟨c0,hc⟩:=hf (n,.free) mem_cons_self rfl
   have hc':cells.lookup n=some c0:=hc
   rw [if_pos (by simp),Zhg,hc'] at h
   rcases mem_append.mp h with h|h
   ·obtain ⟨a,b⟩:=Zia hr h
    exact ⟨mem_cons_of_mem _ a,b⟩
   ·have e:(x,c)=(n,c0):=by simpa using h
    cases e
    exact ⟨mem_cons_self,hc'⟩
  ·rw [if_neg (by simpa using hk)] at h
   obtain ⟨a,b⟩:=Zia hr h
   exact ⟨mem_cons_of_mem _ a,b⟩
theorem Zqv {cells:List (Str × Addr)}:∀ {names:List (Str × NameKind)}{x:Str},(x,.free)∈names->∃ c,(x,c)∈clOf cells names []
 | [],_,h=>nomatch h
 | (n,k)::r,x,h=>by
  unfold clOf
  rcases mem_cons.mp h with e|h
  ·cases e
   rw [if_pos (by simp),Zhg]
   exact ⟨_,mem_append_right _ mem_cons_self⟩
  ·obtain ⟨c,hc⟩:=Zqv (cells:=cells) h
   split
   ·rw [Zhg];exact ⟨c,mem_append_left _ hc⟩
   ·exact ⟨c,hc⟩
theorem Zgk {α:Type}:∀ {l:List (Str × α)}{x:Str}{c:α},(x,c)∈l->∃ c',l.lookup x=some c'
 | [],_,_,h=>nomatch h
 | (k,v)::r,x,c,h=>by
  rw [lookup_cons]
  cases hb:x == k with
  | true=>exact ⟨v,rfl⟩
  | false=>
   rcases mem_cons.mp h with e|h
   ·cases e;simp at hb
   ·exact Zgk h
theorem Zf1 {α:Type}:∀ {l r:List (Str × α)}{x:Str}{c:α},(l++r).lookup x=some c->l.lookup x=some c \/ (l.lookup x=none/\r.lookup x=some c)
 | [],r,x,c,h=>.inr ⟨rfl,h⟩
 | (k,v)::l,r,x,c,h=>by
  rw [cons_append,lookup_cons] at h
  rw [lookup_cons]
  cases hb:x == k with
  | true=>rw [hb] at h;exact .inl h
  | false=>rw [hb] at h;exact Zf1 h
theorem Zcr:∀ (names:List (Str × NameKind)) (n:Nat) (acc:List (Str × Addr)),cellsFrom n names acc=cellsFrom n names []++acc
 | [],_,_=>rfl
 | (x,k)::r,n,acc=>by
  unfold cellsFrom
  split
  ·rw [Zcr r (n+1) (_::acc),Zcr r (n+1) [_],append_assoc];rfl
  ·exact Zcr r n acc
theorem Zg9:∀ {names:List (Str × NameKind)}{n:Nat}{x:Str}{c:Addr},(x,c)∈cellsFrom n names []->(x,.cell)∈names
 | [],_,_,_,h=>nomatch h
 | (y,k)::r,n,x,c,h=>by
  unfold cellsFrom at h
  by_cases hk:k = .cell
  ·subst hk
   rw [if_pos (by simp),Zcr] at h
   rcases mem_append.mp h with h|h
   ·exact mem_cons_of_mem _ (Zg9 h)
   ·have e:(x,c)=(y,n):=by simpa using h
    cases e
    exact mem_cons_self
  ·rw [if_neg (by simpa using hk)] at h
   exact mem_cons_of_mem _ (Zg9 h)
theorem Zfv {env:Env}:∀ {names:List (Str × NameKind)}{x:Str},
  (names.map λ (p:Str × NameKind)=>if (p.2 == NameKind.free && env.scope.kind == .function && env.kindOf p.1 == some .cell) then (p.1,NameKind.cell) else (p.1,p.2)).lookup x =
   (names.lookup x).map λ k=>if (k == NameKind.free && env.scope.kind == .function && env.kindOf x == some .cell) then .cell else k
 | [],_=>rfl
 | (n,k)::r,x=>by
  have ih:=@Zfv env r x
  rw [map_cons]
  by_cases hc:(k == NameKind.free && env.scope.kind == .function && env.kindOf n == some .cell)=true
  ·rw [if_pos hc]
   cases hx:x == n with
   | true=>
    have e:x=n:=by simpa using hx
    subst e
    rw [lookup_cons,lookup_cons,hx]
    simp only [map_some,if_pos hc]
   | false=>rw [lookup_cons,lookup_cons,hx];exact ih
  ·rw [if_neg hc]
   cases hx:x == n with
   | true=>
    have e:x=n:=by simpa using hx
    subst e
    rw [lookup_cons,lookup_cons,hx]
    simp only [map_some,if_neg hc]
   | false=>rw [lookup_cons,lookup_cons,hx];exact ih
theorem Zk9 {M:Model}{A:Around}{E:Value->Shared->Prop}{s:Shared}{scope:Scope}{cl:List (Str × Addr)}{env:Env}{Q:Env->Shared->Prop}
  (hQ:Q (newEnv scope s.heap.objs.size env.globals (cellsFrom (s.heap.objs.size+1) scope.names cl) env.qual none .none (some env) builtinsNs) { s with heap:=pushCells (s.heap.push { cls:=.type "dict",data:=.dict #[] }) scope.names }) :
  wpAny M A (newFunctionEnv scope env.globals cl [] env.qual none .none (some env)) Q E s:=by
 simp only [newFunctionEnv,isSome_some,if_true]
 refine wpAny_bind (wpAny_alloc ?_)
 refine wpAny_bind (wpAny_layCells _ (λ name kind cells=>by cases hkc:kind == NameKind.cell <;> simp [hkc]) _ _ _ _ ?_)
 rw [show ({ s with heap:=s.heap.push { cls:=.type "dict",data:=.dict #[] } }:Shared).heap.objs.size=s.heap.objs.size+1 from size_push ..]
 refine wpAny_bind ?_
 rw [forIn_nil]
 exact wpAny_pure (wpAny_pure hQ)
def capOk (X:Cx) (Nc:List Str) (cap:List (Option Nat)) (scope:Scope):Bool:=
 (scope.names.all λ p=>(p.2 != .free || (X.env.scope.names.lookup p.1 == some .cell || X.env.scope.names.lookup p.1 == some .free)) && (scope.names.lookup p.1 == some p.2)) &&
 (Nc.length == cap.length) &&
 ((Nc.zip cap).all λ p=>match p.2 with|none=>true|some j=>(X.N[j]? == some p.1) && (scope.names.lookup p.1 == some .free))
def capt (cap:List (Option Nat)) (σ:St):St:=cap.map λ o=>o.bind λ j=>(σ[j]?).join
structure CapOk (X:Cx) (Nc:List Str) (cap:List (Option Nat)) (scope:Scope):Prop where
 free:∀ p∈scope.names,p.2 = .free->X.env.kindOf p.1=some .cell \/ X.env.kindOf p.1=some .free
 look:∀ p∈scope.names,scope.names.lookup p.1=some p.2
 len:Nc.length=cap.length
 take:∀ (i:Nat) (x:Str) (j:Nat),Nc[i]? = some x->cap[i]? = some (some j)->X.N[j]? = some x/\scope.names.lookup x=some .free
theorem CapOk.of {X:Cx}{Nc:List Str}{cap:List (Option Nat)}{scope:Scope} (h:capOk X Nc cap scope=true):CapOk X Nc cap scope:=by
 unfold capOk at h
 simp only [and_eq_true] at h
 obtain ⟨⟨h1,h2⟩,h3⟩:=h
 rw [all_eq_true] at h1 h3
 refine ⟨λ p hp hf=>?_,λ p hp=>?_,by simpa using h2,λ i x j e1 e2=>?_⟩
 ·have q:=h1 p hp
  simp only [and_eq_true,Bool.or_eq_true] at q
  rcases q.1 with q|q|q
  ·rw [hf] at q;simp at q
  ·exact .inl (beq_iff_eq.mp q)
  ·exact .inr (beq_iff_eq.mp q)
 ·have q:=h1 p hp
  simp only [and_eq_true] at q
  simpa using q.2
 ·have q:=h3 (x,some j) (by
   refine mem_of_getElem? (i:=i) ?_
   rw [getElem?_zip_eq_some]
   exact ⟨e1,e2⟩)
  simp only [and_eq_true] at q
  exact ⟨by simpa using q.1,by simpa using q.2⟩
theorem Inv.track {X:Cx}{pins:List (Addr × Obj)}{σ:St}{H:Hp}{s:Shared}{D:Addr}{o:HO} (I:Inv X pins σ H s) (f:FpOk X pins H D) (new:ObjOk X.prog X.w (upd H D o) s.heap D o):Inv X pins σ (upd H D o) s:=by
 obtain ⟨f0,f1,f2,f3,f4,f5⟩:=f
 have ne:∀ b u,H b=some u->b≠D:=λ b u e z=>by rw [z,f0] at e;cases e
 exact I.step (g':=s.gens) (d':=s.drawn) (t':=s.toks) (h':=s.heap) (ch:=[D]) (λ b hb=>by
   have e:b=D:=by simpa using hb
   subst e
   exact ⟨f3,f1,f4,f5⟩) (λ b o _ _ _ e _=>e) (λ b o _ _ _ e _=>⟨o.slots,e⟩) (λ b o hc _ n=>by rw [Zbk (λ z=>hc (by simp [z]))];exact n) (λ b o _ e=>⟨o,e⟩)
  (λ b xs e=>by rw [Zbk (ne b _ e)];exact e) (λ b o u e=>by rw [Zbk (ne b _ e)];exact e) (λ b ps e=>⟨#[],by rw [Zbk (ne b _ e),e];simp⟩) (λ m hm=>hm)
  (λ b u e=>by
   by_cases hb:b=D
   ·subst hb;rw [Zbw] at e;cases e;exact new
   ·rw [Zbk hb] at e
    exact (I.hok b u e).stay (λ c v _ q=>q) (λ c q=>by rw [Zbk (ne c _ q)];exact q) λ c xs q=>by rw [Zbk (ne c _ q)];exact q) I.bare
theorem Zs0 {X:Cx}{pins:List (Addr × Obj)}{σ:St}{H:Hp}{s:Shared}{fp:List Addr}{Nc:List Str}{cap:List (Option Nat)}{scope:Scope} (I:Inv X pins σ H s) (hf:∀ b∈fp,FpOk X pins H b) (hlt:∀ b∈fp,b<s.heap.objs.size)
  (ok:CapOk X Nc cap scope) (hk:scope.kind = .function) :
  Inv (cxComp X Nc scope (cellsFrom (s.heap.objs.size+2) scope.names (clOf X.env.cells scope.names [])) (s.heap.objs.size+1) s H fp) [] (capt cap σ) H
   { s with heap:=pushCells ((s.heap.push (lstO [])).push { cls:=.type "dict",data:=.dict #[] }) scope.names } /\
  (pushCells ((s.heap.push (lstO [])).push { cls:=.type "dict",data:=.dict #[] }) scope.names).get? s.heap.objs.size=some (lstO []):=by
 generalize hh1:(s.heap.push (lstO []))=h1
 have z1:h1.objs.size=s.heap.objs.size+1:=by rw [<- hh1,size_push]
 generalize hh2:(h1.push { cls:=.type "dict",data:=.dict #[] })=h2
 have z2:h2.objs.size=s.heap.objs.size+2:=by rw [<- hh2,size_push,z1]
 have up:∀ b o,s.heap.get? b=some o->(pushCells h2 scope.names).get? b=some o:=λ b o e=>pushCells_keeps _ _ b o (by rw [<- hh2,<- hh1];exact get?_push_of_some _ (get?_push_of_some _ e))
 have hD:(pushCells h2 scope.names).get? s.heap.objs.size=some (lstO []):=pushCells_keeps _ _ _ _ (by rw [<- hh2,<- hh1];exact get?_push_of_some _ (get?_push_size _ rfl))
 refine ⟨?_,hD⟩
 have hns:(pushCells h2 scope.names).Ns (s.heap.objs.size+1) (λ _=>none):=by
  have q:=Heap.Ns.new h1 (.type "dict")
  rw [hh2,z1] at q
  exact q.keeps λ b o e=>pushCells_keeps _ _ b o e
 have okc:=cellsFrom_ok scope.names h2 (s.heap.objs.size+2) [] ⟨λ _ _ hm=>(nomatch hm),List.Pairwise.nil⟩ (by rw [z2];exact le_refl _)
 rw [z2] at okc
 have hcl:∀ p∈scope.names,p.2 = .free->∃ c,X.env.cells.lookup p.1=some c:=λ p hp e=>I.ok.has p.1 (ok.free p hp e)
 -- a name of the block's cells: its own,or one that is taken
 have cse:∀ x c,(cellsFrom (s.heap.objs.size+2) scope.names (clOf X.env.cells scope.names [])).lookup x=some c ->
   ((x,c)∈cellsFrom (s.heap.objs.size+2) scope.names []/\scope.names.lookup x=some .cell/\s.heap.objs.size+2≤c) \/ (scope.names.lookup x=some .free/\X.env.cells.lookup x=some c/\c<s.heap.objs.size):=λ x c e=>by
  rw [Zcr] at e
  rcases Zf1 e with e|⟨_,e⟩
  ·have m:=PySem.mem_of_lookup e
   exact .inl ⟨m,ok.look _ (Zg9 m),(okc.empty x c m).2⟩
  ·obtain ⟨a,b⟩:=Zia hcl (PySem.mem_of_lookup e)
   obtain ⟨v,q⟩:=I.cell x c b
   exact .inr ⟨ok.look _ a,b,q.lt⟩
 have kn:∀ x,(compEnvC scope (cellsFrom (s.heap.objs.size+2) scope.names (clOf X.env.cells scope.names [])) (s.heap.objs.size+1) X.env).kindOf x=(scope.names.lookup x).map λ k=>if (k == NameKind.free && X.env.scope.kind == .function && X.env.kindOf x == some .cell) then .cell else k:=λ x=>Zfv
 have has:∀ x,scope.names.lookup x=some .cell \/ scope.names.lookup x=some .free->∃ c,(cellsFrom (s.heap.objs.size+2) scope.names (clOf X.env.cells scope.names [])).lookup x=some c:=λ x h=>by
  rw [Zcr]
  rcases h with h|h
  ·obtain ⟨c,hc⟩:=isSome_iff_exists.mp (cellsFrom_some scope.names (s.heap.objs.size+2) [] (.inl h))
   exact Zgk (mem_append_left _ (PySem.mem_of_lookup hc))
  ·obtain ⟨c,hc⟩:=Zqv (cells:=X.env.cells) (PySem.mem_of_lookup h)
   exact Zgk (mem_append_right _ hc)
 have kfree:∀ x,scope.names.lookup x=some .free->(compEnvC scope (cellsFrom (s.heap.objs.size+2) scope.names (clOf X.env.cells scope.names [])) (s.heap.objs.size+1) X.env).kindOf x=some .cell \/ (compEnvC scope (cellsFrom (s.heap.objs.size+2) scope.names (clOf X.env.cells scope.names [])) (s.heap.objs.size+1) X.env).kindOf x=some .free:=λ x h=>by
  rw [kn x,h]
  simp only [map_some]
  split
  ·exact .inl rfl
  ·exact .inr rfl
 refine ⟨⟨I.ok.mod,hk,I.ok.glob,I.ok.blt,le_succ _,λ x y c h1 h2=>?_,λ x h=>?_,λ x c h1 h2=>?_,I.ok.hd,I.ok.frames,.inl rfl,λ b hb=>⟨ne_of_lt (lt_succ_of_lt (hlt b hb)),λ x c e=>?_⟩,I.bs,le_trans I.ok.bsz I.sz,λ b o e hb=>?_,λ b hb hm=>?_,I.stack,I.stkFree⟩,
  rfl,I.bare,Un.kept up,⟨λ _=>none,hns,λ i x v e1 e2 e3=>?_⟩,λ x c e=>?_,I.hok.fresh (le_succ _),λ x c e=>?_,λ p hp=>absurd (show p∈([]:List (Addr × Obj)) from hp) (by simp),I.hok.kept up,?_⟩
 ·rcases cse x c h1 with ⟨m1,_,l1⟩|⟨_,b1,l1⟩ <;> rcases cse y c h2 with ⟨m2,_,l2⟩|⟨_,b2,l2⟩
  ·exact name_of_addr okc.apart m1 m2
  ·exact absurd (lt_of_lt_of_le l2 (le_trans (le_add_right _ 2) l1)) (lt_irrefl _)
  ·exact absurd (lt_of_lt_of_le l1 (le_trans (le_add_right _ 2) l2)) (lt_irrefl _)
  ·exact I.ok.inj x y c b1 b2
 ·refine has x ?_
  have h':(compEnvC scope (cellsFrom (s.heap.objs.size+2) scope.names (clOf X.env.cells scope.names [])) (s.heap.objs.size+1) X.env).kindOf x=some .cell \/ (compEnvC scope (cellsFrom (s.heap.objs.size+2) scope.names (clOf X.env.cells scope.names [])) (s.heap.objs.size+1) X.env).kindOf x=some .free:=h
  rw [kn x] at h'
  cases q:scope.names.lookup x with
  | none=>rw [q] at h';rcases h' with h' | h' <;> cases h'
  | some k=>
   rw [q] at h'
   simp only [map_some] at h'
   cases k <;> simp_all
 ·have h1':(scope.names.lookup x == some NameKind.cell)=true:=h1
  rcases cse x c h2 with ⟨_,_,l⟩|⟨q,_,_⟩
  ·exact le_trans (le_add_right _ 2) l
  ·rw [q] at h1';cases h1'
 ·rcases cse x c e with ⟨_,_,l⟩|⟨_,q,_⟩
  ·have h3:=hlt b hb
   exact λ z=>absurd (lt_of_lt_of_le h3 (le_trans (le_add_right _ 2) (z▸l))) (lt_irrefl _)
  ·exact (hf b hb).2.2.2.2.1 x c q
 ·rcases (hf b hb).2.2.2.1 with z|z
  ·exact I.ok.noex b o e z
  ·exact absurd (lt_of_lt_of_le (lt_of_lt_of_le (lt_size e) I.ok.bsz) z) (lt_irrefl _)
 ·rcases mem_cons.mp (I.stkSub b hm) with z|z
  ·exact (hf b hb).2.1 z
  ·exact (hf b hb).2.2.1 z
 ·-- the names that are taken
  have e2':(cap[i]?).map (λ o=>o.bind λ j=>(σ[j]?).join)=some (some v):=by
   have:(capt cap σ)[i]? = some (some v):=e2
   unfold capt at this
   rwa [getElem?_map] at this
  cases q:cap[i]? with
  | none=>rw [q] at e2';cases e2'
  | some o=>
   rw [q] at e2'
   cases o with
   | none=>cases e2'
   | some j=>
    obtain ⟨n1,n2⟩:=ok.take i x j e1 q
    have hj:σ[j]? = some (some v):=by
     have w:(σ[j]?).join=some v:=Option.some.inj e2'
     cases r:σ[j]? with
     | none=>rw [r] at w;cases w
     | some o=>rw [r] at w;rw [show o=some v from w]
    have vis:Vis X.env.scope x:=by
     rcases ok.free _ (PySem.mem_of_lookup n2) rfl with z|z
     ·exact .inr (.inl z)
     ·exact .inr (.inr z)
    obtain ⟨m,hn,hl⟩:=I.loc
    obtain ⟨u,ru,lk⟩:=hl j x v n1 hj vis
    refine ⟨u,ru,.inr ⟨kfree x n2,?_⟩⟩
    obtain ⟨c,hc⟩:=has x (.inr n2)
    rcases cse x c hc with ⟨_,w,_⟩|⟨_,w,_⟩
    ·rw [n2] at w;cases w
    ·rcases lk with ⟨k,_⟩|⟨_,c',w',ic⟩
     ·rcases ok.free _ (PySem.mem_of_lookup n2) rfl with z|z <;> (have z':X.env.kindOf x=_:=z;rw [k] at z';cases z')
     ·rw [w] at w';cases w'
      obtain ⟨oc,ho,hd⟩:=ic
      exact ⟨c,hc,oc,up _ _ ho,hd⟩
 ·rcases cse x c e with ⟨m,_,_⟩|⟨_,q,_⟩
  ·exact ⟨_,(okc.empty x c m).1⟩
  ·obtain ⟨v,oc,ho,hd⟩:=I.cell x c q
   exact ⟨v,oc,up _ _ ho,hd⟩
 ·rcases cse x c e with ⟨m,_,l⟩|⟨_,q,_⟩
  ·exact I.hok.fresh (le_trans (le_add_right _ 2) l)
  ·exact I.freeC x c q
 ·show (capt cap σ).length=Nc.length
  unfold capt
  rw [lmp,ok.len]
end L2
namespace L2
open PySem PySem.Spec PyProof.Rows
def AccOk (Y:Cx) (pins:List (Addr × Obj)) (D:Addr) (ys:List V) (H:Hp) (s:Shared):Prop:=FpOk Y pins H D/\ys.length≤sizeLine/\∃ us,Vals ys us/\s.heap.get? D=some (lstO us)
abbrev LK:=List V->St->Hp->Prop
abbrev TL:=List V->St->Hp->LK->Prop
def LP (Y:Cx) (pins:List (Addr × Obj)) (D:Addr) (Q:LK) (s':Shared):Prop:=∃ ys σ H,Inv Y pins σ H s'/\AccOk Y pins D ys H s'/\Q ys σ H
def PL (Y:Cx) (body:Value->Sem Unit) (t:TL):Prop:=
 ∀ (D:Addr) (pins:List (Addr × Obj)) (s:Shared) (σ:St) (H:Hp) (ys:List V) (Q:LK),Inv Y pins σ H s->AccOk Y pins D ys H s->t ys σ H Q ->
  wpAny (model Y.prog Y.w) Y.A (body (.ref D)) (λ _ s'=>LP Y pins D Q s') Y.xe s
def testsOf (ifs:List Expr) (env:Env):Sem Bool:=forIn ifs true λ c r=>if r=true then do let ok <- isTrue c env (eval c env);pure (ForInStep.yield ok) else pure (ForInStep.yield r)
def PTs (Y:Cx) (ifs:List Expr) (t:TT):Prop:=
 ∀ (pins:List (Addr × Obj)) (s:Shared) (σ:St) (H:Hp) (Q:Bool->Hp->Prop),Inv Y pins σ H s->t σ H Q->wpAny (model Y.prog Y.w) Y.A (testsOf ifs Y.env) (TP Y pins σ Q) Y.xe s
def tYes:TT:=λ _ H Q=>Q true H
section
variable {Y:Cx}
theorem Zqg:PTs Y [] tYes:=λ pins s σ H Q I h=>wpAny_pure ⟨H,I,h⟩
theorem Zy7 {c:Expr}{t:TT} (h:PT Y c t):PTs Y [c] t:=λ pins s σ H Q I hw=>wpAny_tests_one (h pins s σ H Q I hw)
theorem AccOk.pin {pins:List (Addr × Obj)}{D:Addr}{ys:List V}{σ:St}{H:Hp}{s:Shared}{us:List Value} (I:Inv Y pins σ H s) (f:FpOk Y pins H D) (e:s.heap.get? D=some (lstO us)):Inv Y (pins++[(D,lstO us)]) σ H s:=
 I.pins_of λ p hp=>(mem_append.mp hp).elim (λ z=>I.pin p (mem_append_right _ z)) λ z=>by
  have z':p=(D,lstO us):=by simpa using z
  subst z'
  exact ⟨e,f.1,f.2.1,f.2.2.1,λ v q=>by cases q⟩
def tEmit (te:TE):TL:=λ ys σ H Q=>ys.length<sizeLine/\te σ H λ v H'=>Q (ys++[v]) σ H'
def emit (elt:Expr) (env:Env) (acc:Value):Sem Unit:=eval elt env >>= λ x=>call (.builtin "list.append") [acc,x] >>= λ _=>pure ()
theorem Zqf {elt:Expr}{te:TE} (he:PE Y elt te):PL Y (emit elt Y.env) (tEmit te):=by
 rintro D pins s σ H ys Q I ⟨f,hz,us,r,e⟩ ⟨hl,h⟩
 have I':=AccOk.pin (ys:=ys) I f e
 refine wpAny_bind (thn (he _ s σ H _ I' h) λ u s1 ⟨v,H1,I1,rv,q⟩=>?_)
 obtain ⟨p1,p2,p3,p4,p5⟩:=I1.pin (D,lstO us) (by simp)
 have hlen:=r.length
 refine wpAny_bind (append_at (hsz:=by rw [size_toArray];omega) p1 λ h' sb hD=>wpAny_pure ⟨ys++[v],σ,H1,?_,⟨⟨p2,f.2⟩,?_,us++[u],r.append (.cons rv .nil),?_⟩,q⟩)
 ·exact I1.unpinned.turned (t':=s1.toks) (λ b o hb e=>sb.extBut b o hb e) p2 f.2.1 f.2.2.2.1 f.2.2.2.2.1 f.2.2.2.2.2
 ·rw [length_append,length_singleton];omega
 ·show h'.get? D=_
  rw [hD]
  show some ({ cls:=.type "list",data:=.seq (us.toArray.push u) (us.length+1) }:Obj)=some { cls:=.type "list",data:=.seq (us++[u]).toArray (us++[u]).length }
  rw [length_append,length_singleton,List.push_toArray]
def turnOf (tg iter:Expr) (ifs:List Expr) (body:Value->Sem Unit) (c:Code) (it acc:Value) (env:Env):Sem Fin:=
 standAt iter.pos >>= λ _=>pyNext it >>= λ r=>match r with
  | none=>pure (.done .next)
  | some v=>letOwnedTupleGo tg it v >>= λ _=>assign tg env v >>= λ _=>testsOf ifs env >>= λ ok=>if ok=true then (body acc >>= λ _=>again c) else again c
def LTurn (J:It) (g:TG) (tt:TT) (tb:TL) (Q:LK) (W:Nat->List V->Nat->St->Hp->Prop):Prop:=∀ i ys m σ H,W i ys m σ H ->
 (J.stop i H/\Q ys σ H) \/ (J.go i H/\∃ N:LK,(∀ ys' σ' H',N ys' σ' H'->∃ m',m' < m/\W (i+1) ys' m' σ' H')/\∀ x H',J.yld i H x H'->g x σ H' λ σ2 H2=>tt σ2 H2 λ b H3=>if b=true then tb ys σ2 H3 N else N ys σ2 H3)
theorem Zoj {tg iter:Expr}{ifs:List Expr}{elt:Expr}{gens:List Comprehension}{scope:Scope}{pos:Pos}{d:Nat}{body:Value->Sem Unit}{g:TG}{tt:TT}{tb:TL}{J:It}{fp:List Addr}{it:Addr}{tn:Nat->Heap->Prop}{D:Addr}{Q:LK}
  {R:Result->Shared->Prop}{W:Nat->List V->Nat->St->Hp->Prop}{pins:List (Addr × Obj)}{s:Shared}{σ:St}{H:Hp}{ys:List V}{m:Nat}
  (hx:∀ v s,Y.xe v s->False) (hc:Y.calm=true) (T:Turn Y.prog Y.w Y.K tg J fp it tn) (hg:PG Y tg g) (ht:PTs Y ifs tt) (hb:PL Y body tb)
  (hturn:compTurn (.ListComp elt gens scope pos) d (.ref it) (.ref D) Y.env=turnOf tg iter ifs body (.compLoop (.ListComp elt gens scope pos) d (.ref it) (.ref D) Y.env) (.ref it) (.ref D) Y.env)
  (I:Inv Y pins σ H s) (a:AccOk Y pins D ys H s) (st:tn 0 s.heap) (hf:∀ b∈fp,FpOk Y pins H b) (hD:D ∉ fp) (w0:W 0 ys m σ H) (turn:LTurn J g tt tb Q W) (hR:∀ s',LP Y pins D Q s'->R (.ok .next) s') :
  codeAny (model Y.prog Y.w) Y.A (.compLoop (.ListComp elt gens scope pos) d (.ref it) (.ref D) Y.env) R s:=by
 refine codeAny_loop rfl (λ n s'=>∃ i ys σ' H',Inv Y pins σ' H' s'/\AccOk Y pins D ys H' s'/\tn i s'.heap/\(∀ b∈fp,H' b=none)/\W i ys n σ' H') ?_ m ⟨0,ys,σ,H,I,a,st,λ b hb=>(hf b hb).1,w0⟩
 rintro n s3 ⟨i,ys3,σ3,H3,I3,⟨f3,hz3,us,r3,e3⟩,st3,fr3,w3⟩
 show wpAny _ Y.A ((compTurn (.ListComp elt gens scope pos) d (.ref it) (.ref D) Y.env).onRaise (λ x=>do noteFrame x Y.env;theTreesLotGoes x)) _ _ s3
 refine wpAny_noted ?_
 rw [hturn]
 have I3':=AccOk.pin (ys:=ys3) I3 f3 e3
 -- the iterator's records are apart from D
 have stat:∀ {H':Hp},(∀ b∈fp,H' b=none)->∀ b∈fp,FpOk Y (pins++[(D,lstO us)]) H' b:=λ hn b hb=>by
  obtain ⟨_,q1,q2,q3,q4,q5⟩:=hf b hb
  refine ⟨hn b hb,q1,q2,q3,q4,λ p hp=>?_⟩
  rcases mem_append.mp hp with z|z
  ·exact q5 p (mem_append_left _ z)
  ·rcases mem_append.mp z with z|z
   ·exact q5 p (mem_append_right _ z)
   ·have z':p=(D,lstO us):=by simpa using z
    subst z'
    exact λ y=>hD ((show D=b from y).symm▸hb)
 have no:∀ {α:Type}{t:Sem α}{Q1 Q2:α->Shared->Prop}{E:Value->Shared->Prop}{s':Shared},wpAny (model Y.prog Y.w) Y.A t Q1 Y.xe s'->(∀ a s,Q1 a s->Q2 a s)->wpAny (model Y.prog Y.w) Y.A t Q2 E s':=λ h q=>wpAny_mono h q λ v s x=>(hx v s x).elim
 rcases turn i ys3 n σ3 H3 w3 with ⟨stop,qn⟩|⟨go,N,hN,step⟩
 ·refine wpAny_bind (wpAny_standAt (wpAny_bind (no (T.done Y rfl rfl rfl hc i _ s3 σ3 H3 Y.xe I3' (stat fr3) st3 stop) λ r s4 ⟨hr,I4⟩=>?_)))
  subst hr
  obtain ⟨p1,p2,_⟩:=I4.pin (D,lstO us) (by simp)
  exact wpAny_pure (hR _ ⟨ys3,σ3,H3,I4.unpinned,⟨f3,hz3,us,r3,p1⟩,qn⟩)
 ·refine wpAny_bind (wpAny_standAt (wpAny_bind (no (T.item Y rfl rfl rfl hc i _ s3 σ3 H3 Y.xe I3' (stat fr3) st3 go) λ r s4 ⟨u,hr,h4⟩=>?_)))
  subst hr
  refine wpAny_bind (no h4 λ _ s5 ⟨x,H5,I5,r5,y5,st5,fr5⟩=>?_)
  have I5':=I5.pinned (stat fr5) (T.obj _ _ st5)
  refine wpAny_bind (no (hg _ s5 σ3 H5 x u _ I5' r5 (step x H5 y5)) λ _ s6 ⟨σ6,H6,I6,q6⟩=>?_)
  refine wpAny_bind (no (ht _ s6 σ6 H6 _ I6 q6) λ ok s7 ⟨H7,I7,q7⟩=>?_)
  have pD:=I7.pin (D,lstO us) (by simp)
  have I7':Inv Y (pins++pinsAt fp s5.heap) σ6 H7 s7:=I7.pins_of λ p hp=>by
   rcases mem_append.mp hp with z|z
   ·exact I7.pin p (mem_append_right _ (mem_append_left _ (mem_append_left _ z)))
   ·exact I7.pin p (mem_append_right _ (mem_append_right _ z))
  have a7:AccOk Y (pins++pinsAt fp s5.heap) D ys3 H7 s7:=by
   refine ⟨⟨pD.2.1,f3.2.1,f3.2.2.1,f3.2.2.2.1,f3.2.2.2.2.1,λ p hp=>?_⟩,hz3,us,r3,pD.1⟩
   rcases mem_append.mp hp with z|z
   ·exact f3.2.2.2.2.2 p (mem_append_left _ z)
   ·rcases mem_append.mp z with z|z
    ·exact f3.2.2.2.2.2 p (mem_append_right _ z)
    ·exact λ y=>hD (y▸(Zp9 z).1)
  have fin:∀ {ys8:List V}{σ8:St}{H8:Hp}{s8:Shared},Inv Y (pins++pinsAt fp s5.heap) σ8 H8 s8->AccOk Y (pins++pinsAt fp s5.heap) D ys8 H8 s8->(∃ m',m' < n/\W (i+1) ys8 m' σ8 H8) ->
    ∃ m,m<n/\∃ i ys σ' H',Inv Y pins σ' H' s8/\AccOk Y pins D ys H' s8/\tn i s8.heap/\(∀ b∈fp,H' b=none)/\W i ys m σ' H':=λ {ys8 σ8 H8 s8} I8 a8 ⟨m',hm,w8⟩=>by
   refine ⟨m',hm,i+1,ys8,σ8,H8,I8.unpinned,⟨⟨a8.1.1,f3.2⟩,a8.2⟩,T.keep _ _ _ st5 λ b hb o e=>(I8.pin (b,o) (mem_append_right _ (mem_append_right _ (Zhk hb e)))).1,λ b hb=>?_,w8⟩
   obtain ⟨o,e,_⟩:=T.obj _ _ st5 b hb
   exact (I8.pin (b,o) (mem_append_right _ (mem_append_right _ (Zhk hb e)))).2.1
  cases ok with
  | true=>
   rw [if_pos rfl] at q7 |-
   refine wpAny_bind (no (hb D _ s7 σ6 H7 ys3 _ I7' a7 q7) λ _ s8 ⟨ys8,σ8,H8,I8,a8,q8⟩=>?_)
   exact wpAny_pure ⟨rfl,fin I8 a8 (hN _ _ _ q8)⟩
  | false=>
   rw [if_neg Bool.false_ne_true] at q7 |-
   exact wpAny_pure ⟨rfl,fin I7' a7 (hN _ _ _ q7)⟩
theorem Zjp {elt tg iter:Expr}{ifs:List Expr}{gens:List Comprehension}{scope:Scope}{pos:Pos}{d:Nat}{it acc:Value}{env:Env}{R:Result->Shared->Prop}{prog:Program}{w:World}{A:Around}{s:Shared} (hd:gens[d]? = some ⟨tg,iter,ifs,0⟩)
  (h0:codeAny (model prog w) A (.compLoop (.ListComp elt gens scope pos) d it acc env) R s)
  (h:wpAny (model prog w) A (pyIter it) (λ it' s'=>codeAny (model prog w) A (.compLoop (.ListComp elt gens scope pos) d it' acc env) R s') (notedBy (model prog w) A env λ x s'=>R (.error x) s') s) :
  codeAny (model prog w) A (.compStart (.ListComp elt gens scope pos) d it acc env) R s:=by
 refine codeAny_of_tree ?_
 show wpAny _ _ ((compStart (.ListComp elt gens scope pos) d it acc env).onRaise (λ x=>do noteFrame x env;standAt theWindowsPlace)) _ _ s
 refine wpAny_notedAt ?_
 unfold compStart
 simp only [clausesOf,hd,Option.elim]
 show wpAny _ _ (ask >>= _) _ _ s
 refine wpAny_bind (wpAny_askSetting (wpAny_ite ?_))
 split
 ·first
   | exact wpAny_bind (wpAny_pure (wpAny_pure (And.intro rfl h0)))
   | exact wpAny_pure (And.intro rfl h0)
 ·first
   | exact wpAny_bind (wpAny_rule (wpAny_bind (wpAny_standAt (wpAny_bind (wpAny_mono h (λ it' s' h'=>wpAny_pure (And.intro rfl h')) λ _ _ x=>x)))))
   | (refine wpAny_bind (wpAny_rule ?_);show wpAny _ _ (standAt iter.pos >>= _) _ _ s;exact wpAny_bind (wpAny_standAt (wpAny_bind (wpAny_mono h (λ it' s' h'=>wpAny_pure (And.intro rfl h')) λ _ _ x=>x))))
def tLoop (wi:TI) (g:TG) (tt:TT) (tb:TL):TL:=λ ys σ H Q=>wi σ H λ J H1=>∃ W:Nat->List V->Nat->St->Hp->Prop,(∃ m,W 0 ys m σ H1)/\LTurn J g tt tb Q W
def nest (elt:Expr) (gens:List Comprehension) (scope:Scope) (pos:Pos) (d:Nat) (iter:Expr) (env:Env) (acc:Value):Sem Unit:=
 eval iter env >>= λ x=>standAt iter.pos >>= λ _=>foldedSetIterable iter env x >>= λ x=>holding [x] (pyIter x) >>= λ it=>runOwn (.compStart (.ListComp elt gens scope pos) d it acc env) env >>= λ _=>pure ()
theorem Zxy {elt tg iter:Expr}{ifs:List Expr}{gens:List Comprehension}{scope:Scope}{pos:Pos}{d:Nat}{body:Value->Sem Unit}{wi:TI}{g:TG}{tt:TT}{tb:TL}
  (hx:∀ v s,Y.xe v s->False) (hc:Y.calm=true) (hi:PI Y tg iter wi) (hg:PG Y tg g) (ht:PTs Y ifs tt) (hb:PL Y body tb) (hd:gens[d]? = some ⟨tg,iter,ifs,0⟩)
  (hturn:∀ it acc,compTurn (.ListComp elt gens scope pos) d it acc Y.env=turnOf tg iter ifs body (.compLoop (.ListComp elt gens scope pos) d it acc Y.env) it acc Y.env)
  (hs:∀ x,foldedSetIterable iter Y.env x=pure x):PL Y (nest elt gens scope pos d iter Y.env) (tLoop wi g tt tb):=by
 rintro D pins s σ H ys Q I ⟨f,hz,us,r,e⟩ h
 have I':=AccOk.pin (ys:=ys) I f e
 refine wpAny_bind (thn (hi _ s σ H _ I' h) λ v s1 h1=>?_)
 refine wpAny_bind (wpAny_standAt (wpAny_bind (wpAny_of_eq (hs v) (wpAny_bind (wpAny_holding (thn h1 λ itv s2 h2=>?_))))))
 obtain ⟨it,fp,tn,J,H2,e2,I2,T,st2,f2,W,⟨m0,w0⟩,turn⟩:=h2
 subst e2
 obtain ⟨p1,p2,_⟩:=I2.pin (D,lstO us) (by simp)
 have hD:D ∉ fp:=λ hb=>(f2 D hb).2.2.2.2.2 (D,lstO us) (by simp) rfl
 have fo:∀ b∈fp,FpOk Y pins H2 b:=λ b hb=>by
  obtain ⟨q0,q1,q2,q3,q4,q5⟩:=f2 b hb
  exact ⟨q0,q1,q2,q3,q4,λ p hp=>q5 p (by
   rcases mem_append.mp hp with z|z
   ·exact mem_append_left _ z
   ·exact mem_append_right _ (mem_append_left _ z))⟩
 have loop:codeAny (model Y.prog Y.w) Y.A (.compLoop (.ListComp elt gens scope pos) d (.ref it) (.ref D) Y.env) (λ r s'=>match r with
   | .ok f=>wpAny (model Y.prog Y.w) Y.A (pure ():Sem Unit) (λ _ s'=>LP Y pins D Q s') Y.xe s'
   | .error e=>cameBackBy (model Y.prog Y.w) Y.A Y.env Y.xe e s') s2:=
  Zoj hx hc T hg ht hb (hturn _ _) I2.unpinned ⟨⟨p2,f.2⟩,hz,us,r,p1⟩ st2 fo hD w0 turn λ s' q=>wpAny_pure q
 refine wpAny_bind (wpAny_runOwn ?_)
 rw [Around.mark_none]
 exact Zjp hd loop (T.self _ 0 s2 _ _ st2 loop)
end
section
variable {X:Cx}
def tComp (wi:TI) (cap:List (Option Nat)) (g:TG) (tt:TT) (tb:TL):TE:=λ σ H Q=>wi σ H λ J H1=>∃ W:Nat->List V->Nat->St->Hp->Prop,(∃ m,W 0 [] m (capt cap σ) H1)/\LTurn J g tt tb (λ ys _ H'=>∀ p,H' p=none->Q (.ref p) (upd H' p (.lst ys))) W
theorem Zkp {elt tg iter:Expr}{ifs:List Expr}{rest:List Comprehension}{scope:Scope}{pos p0:Pos}{Nc:List Str}{cap:List (Option Nat)}{body:Env->Value->Sem Unit}{wi:TI}{g:TG}{tt:TT}{tb:TL}{use:Option (Value->Sem Unit)}{Q:Value->Shared->Prop}
  {pins:List (Addr × Obj)}{s:Shared}{σ:St}{H:Hp}{P:VK}
  (hk:scope.kind = .function) (hc:X.calm=true) (hi:PI X tg iter wi) (ok:capOk X Nc cap scope=true)
  (hg:∀ cs C s H fp,PG (cxComp X Nc scope cs C s H fp) tg g) (ht:∀ cs C s H fp,PTs (cxComp X Nc scope cs C s H fp) ifs tt) (hb:∀ cs C s H fp,PL (cxComp X Nc scope cs C s H fp) (body (compEnvC scope cs C X.env)) tb)
  (hturn:∀ it acc env,compTurn (.ListComp elt (⟨tg,iter,ifs,0⟩::rest) scope pos) 0 it acc env=turnOf tg iter ifs (body env) (.compLoop (.ListComp elt (⟨tg,iter,ifs,0⟩::rest) scope pos) 0 it acc env) it acc env)
  (hs:∀ x,foldedSetIterable iter X.env x=pure x) (I:Inv X pins σ H s) (h:tComp wi cap g tt tb σ H P)
  (hend:∀ (D C:Addr) (H':Hp) (s':Shared),Inv X pins σ H' s'->FpOk X pins H' D->FpOk X pins H' C->C≠D->(∃ m,s'.heap.Ns C m)->(∃ ys us,Vals ys us/\ys.length≤sizeLine/\s'.heap.get? D=some (lstO us)/\P (.ref D) (upd H' D (.lst ys))) ->
   compPost (model X.prog X.w) X.A X.xe use Q (.ref D) C (.ok .next) s') :
  wpAny (model X.prog X.w) X.A (comprehension (.ListComp elt (⟨tg,iter,ifs,0⟩::rest) scope pos) scope X.env p0 (newList []) false (eval iter X.env) use) Q X.xe s:=by
 have okc:=CapOk.of ok
 have hcl:∀ p∈scope.names,p.2 = .free->∃ c,X.env.cells.lookup p.1=some c:=λ p hp e=>I.ok.has p.1 (okc.free p hp e)
 refine wpAny_comprehension_free rfl hs (Zn3 hcl) hk (λ p hp e=>by rw [okc.look p hp,e]) (thn (hi pins s σ H _ I h) λ v s1 h1=>thn h1 λ itv s2 h2=>?_)
 obtain ⟨it,fp,tn,J,H2,e2,I2,T,st2,f2,W,⟨m0,w0⟩,turn⟩:=h2
 subst e2
 refine wpAny_newObj_type (Zk9 ?_)
 dsimp only
 have z:(s2.heap.push { cls:=.type "list",dict:=none,data:=.seq ([]:List Value).toArray }).objs.size=s2.heap.objs.size+1:=size_push ..
 rw [z]
 have hlt:∀ b∈fp,b<s2.heap.objs.size:=λ b hb=>by obtain ⟨o,e,_⟩:=T.obj _ _ st2 b hb;exact lt_size e
 obtain ⟨J3,hD⟩:=Zs0 I2 f2 hlt okc hk
 generalize hcs:cellsFrom (s2.heap.objs.size+2) scope.names (clOf X.env.cells scope.names [])=cs at J3
 generalize hY:cxComp X Nc scope cs (s2.heap.objs.size+1) s2 H2 fp=Y at J3
 have up:∀ b o,s2.heap.get? b=some o->(pushCells ((s2.heap.push (lstO [])).push { cls:=.type "dict",data:=.dict #[] }) scope.names).get? b=some o:=λ b o e=>pushCells_keeps _ _ b o (get?_push_of_some _ (get?_push_of_some _ e))
 have st3:tn 0 (pushCells ((s2.heap.push (lstO [])).push { cls:=.type "dict",data:=.dict #[] }) scope.names):=T.keep _ _ _ st2 λ b _ o e=>up b o e
 -- the new list's place
 have fD:FpOk X pins H2 s2.heap.objs.size:=I2.fpOk (le_refl _) (I2.hok.fresh (le_refl _))
 have fC:FpOk X pins H2 (s2.heap.objs.size+1):=I2.fpOk (le_succ _) (I2.hok.fresh (le_succ _))
 have cse:∀ x c,cs.lookup x=some c->c<s2.heap.objs.size \/ s2.heap.objs.size+2≤c:=λ x c e=>by
  rw [<- hcs,Zcr] at e
  have okz:=cellsFrom_ok scope.names ((s2.heap.push (lstO [])).push { cls:=.type "dict",data:=.dict #[] }) (s2.heap.objs.size+2) [] ⟨λ _ _ hm=>(nomatch hm),List.Pairwise.nil⟩ (by rw [size_push,size_push];exact le_refl _)
  rw [size_push,size_push] at okz
  rcases Zf1 e with e|⟨_,e⟩
  ·exact .inr (okz.empty x c (PySem.mem_of_lookup e)).2
  ·obtain ⟨_,b⟩:=Zia hcl (PySem.mem_of_lookup e)
   obtain ⟨v,q⟩:=I2.cell x c b
   exact .inl q.lt
 have fDY:FpOk Y [] H2 s2.heap.objs.size:=by
  rw [<- hY]
  refine ⟨fD.1,ne_of_lt (lt_succ_self _),λ hm=>?_,.inr (le_refl _),λ x c e q=>?_,λ p hp=>absurd (show p∈([]:List (Addr × Obj)) from hp) (by simp)⟩
  ·rcases mem_cons.mp (I2.stkSub _ hm) with q|q
   ·exact fD.2.1 q
   ·exact fD.2.2.1 q
  ·rcases cse x c e with l|l
   ·rw [q] at l;exact absurd l (lt_irrefl _)
   ·rw [q] at l;exact absurd (lt_of_lt_of_le (lt_succ_of_lt (lt_succ_self _)) l) (lt_irrefl _)
 have fpY:∀ b∈fp,FpOk Y [] H2 b:=λ b hb=>by
  rw [<- hY]
  obtain ⟨q0,q1,q2,q3,q4,q5⟩:=f2 b hb
  have hb':=hlt b hb
  refine ⟨q0,ne_of_lt (lt_succ_of_lt hb'),λ hm=>?_,.inl hb,λ x c e q=>?_,λ p hp=>absurd (show p∈([]:List (Addr × Obj)) from hp) (by simp)⟩
  ·rcases mem_cons.mp (I2.stkSub _ hm) with q|q
   ·exact q1 q
   ·exact q2 q
  ·rw [<- hcs,Zcr] at e
   rcases cse x c (by rw [<- hcs,Zcr];exact e) with l|l
   ·rcases Zf1 e with e|⟨_,e⟩
    ·have okz:=cellsFrom_ok scope.names ((s2.heap.push (lstO [])).push { cls:=.type "dict",data:=.dict #[] }) (s2.heap.objs.size+2) [] ⟨λ _ _ hm=>(nomatch hm),List.Pairwise.nil⟩ (by rw [size_push,size_push];exact le_refl _)
     rw [size_push,size_push] at okz
     have l2:=(okz.empty x c (PySem.mem_of_lookup e)).2
     exact absurd (lt_of_lt_of_le l (le_trans (le_add_right _ 2) l2)) (lt_irrefl _)
    ·obtain ⟨_,b2⟩:=Zia hcl (PySem.mem_of_lookup e)
     exact q4 x c b2 q
   ·rw [q] at l;exact absurd (lt_of_lt_of_le hb' (le_trans (le_add_right _ 2) l)) (lt_irrefl _)
 have hYe:Y.env=compEnvC scope cs (s2.heap.objs.size+1) X.env:=by rw [<- hY];rfl
 have fin:∀ s',LP Y [] s2.heap.objs.size (λ ys _ H'=>∀ p,H' p=none->P (.ref p) (upd H' p (.lst ys))) s'->compPost (model X.prog X.w) X.A X.xe use Q (.ref s2.heap.objs.size) (s2.heap.objs.size+1) (.ok .next) s':=by
  rintro s' ⟨ys,σ',H',J',⟨fD',hz,us,rv,eD⟩,q⟩
  have ub:Un (frs X.stack) fp H2 H' s2.heap s'.heap:=by have b:=J'.base;rw [<- hY] at b;exact b
  have os:s'.os=s2.os:=by have b:=J'.os;rw [<- hY] at b;exact b
  have hokX:HOk X.prog X.w H' s'.heap:=by have b:=J'.hok;rw [<- hY] at b;exact b
  have hCn:H' (s2.heap.objs.size+1)=none:=by have b:=J'.free;rw [<- hY] at b;exact b
  have hns:∃ m,s'.heap.Ns (s2.heap.objs.size+1) m:=by obtain ⟨m,b,_⟩:=J'.loc;rw [<- hY] at b;exact ⟨m,b⟩
  have IX:Inv X pins σ H' s':=I2.call' os ub hokX J'.bare λ b hb=>by
   obtain ⟨q0,q1,q2,q3,q4,q5⟩:=f2 b hb
   exact ⟨q3,q1,q4,q5⟩
  exact hend _ _ H' s' IX ⟨fD'.1,fD.2⟩ ⟨hCn,fC.2⟩ (ne_of_gt (lt_succ_self _)) hns ⟨ys,us,rv,hz,eD,q _ fD'.1⟩
 have loop:codeAny (model X.prog X.w) X.A (.compLoop (.ListComp elt (⟨tg,iter,ifs,0⟩::rest) scope pos) 0 (.ref it) (.ref s2.heap.objs.size) (compEnvC scope cs (s2.heap.objs.size+1) X.env)) (compPost (model X.prog X.w) X.A X.xe use Q (.ref s2.heap.objs.size) (s2.heap.objs.size+1))
   { s2 with heap:=pushCells ((s2.heap.push (lstO [])).push { cls:=.type "dict",data:=.dict #[] }) scope.names }:=by
  subst hY
  exact Zoj (Y:=cxComp X Nc scope cs (s2.heap.objs.size+1) s2 H2 fp) (λ _ _ f=>f) hc T (hg _ _ _ _ _) (ht _ _ _ _ _) (hb _ _ _ _ _) (hturn _ _ _) J3 ⟨fDY,zero_le _,[],.nil,hD⟩ st3 fpY (λ hm=>absurd (hlt _ hm) (lt_irrefl _)) w0 turn fin
 exact Zjp rfl loop (T.self _ 0 _ _ _ st3 loop)
theorem Zn4 {pins:List (Addr × Obj)}{σ:St}{H':Hp}{s':Shared}{D C:Addr}{P:VK} (I:Inv X pins σ H' s') (fD:FpOk X pins H' D) (fC:FpOk X pins H' C) (ne:C≠D)
  (q:∃ ys us,Vals ys us/\ys.length≤sizeLine/\s'.heap.get? D=some (lstO us)/\P (.ref D) (upd H' D (.lst ys))):∃ H1,Inv X pins σ H1 s'/\P (.ref D) H1/\FpOk X pins H1 C:=by
 obtain ⟨ys,us,rv,hz,eD,q⟩:=q
 exact ⟨_,I.track (o:=.lst ys) fD ⟨hz,us,_,rv,eD⟩,q,by rw [Zbk ne];exact fC.1,fC.2⟩
theorem Zxq {elt tg iter:Expr}{ifs:List Expr}{scope:Scope}{pos:Pos}{Nc:List Str}{cap:List (Option Nat)}{wi:TI}{g:TG}{tt:TT}{te:TE}
  (hc:X.calm=true) (hi:PI X tg iter wi) (ok:capOk X Nc cap scope=true) (hg:∀ cs C s H fp,PG (cxComp X Nc scope cs C s H fp) tg g) (ht:∀ cs C s H fp,PTs (cxComp X Nc scope cs C s H fp) ifs tt)
  (he:∀ cs C s H fp,PE (cxComp X Nc scope cs C s H fp) elt te) (hk:scope.kind = .function:=by rfl) (hs:∀ x,foldedSetIterable iter X.env x=pure x:=by intro _;rfl) :
  PE X (.ListComp elt [⟨tg,iter,ifs,0⟩] scope pos) (tComp wi cap g tt (tEmit te)):=by
 intro pins s σ H P I h
 rw [eval_ListComp]
 refine Zkp (body:=λ env=>emit elt env) hk hc hi ok hg ht (λ cs C s H fp=>Zqf (he cs C s H fp)) (λ it acc env=>?_) hs I h λ D C H' s' I' fD fC ne hn q=>?_
 ·rw [compTurn_list]
  unfold turnOf testsOf emit
  congr 1
 ·obtain ⟨H1,I1,q1,f1⟩:=Zn4 I' fD fC ne q
  obtain ⟨m,hm⟩:=hn
  exact ⟨m,hm,λ h'' sb=>⟨.ref D,H1,I1.turned (t':=s'.toks) (λ b o hb e=>sb.extBut b o hb e) f1.1 f1.2.1 f1.2.2.2.1 f1.2.2.2.2.1 f1.2.2.2.2.2,rfl,q1⟩⟩
theorem Zoi (elt tg iter tg2 iter2:Expr) (scope:Scope) (pos:Pos) (it acc:Value) (env:Env) :
  compTurn (.ListComp elt [⟨tg,iter,[],0⟩,⟨tg2,iter2,[],0⟩] scope pos) 0 it acc env=(do
   standAt iter.pos
   match <- pyNext it with
   | none=>pure (.done .next)
   | some v=>
    letOwnedTupleGo tg it v
    assign tg env v
    let mut ok:=true
    for c in ([]:List Expr) do
     if ok then ok <- isTrue c env (eval c env)
    if ok then
     let x <- eval iter2 env
     standAt iter2.pos
     let x <- foldedSetIterable iter2 env x
     let _ <- runOwn (.compStart (.ListComp elt [⟨tg,iter,[],0⟩,⟨tg2,iter2,[],0⟩] scope pos) 1 (<- holding [x] (pyIter x)) acc env) env
    again (.compLoop (.ListComp elt [⟨tg,iter,[],0⟩,⟨tg2,iter2,[],0⟩] scope pos) 0 it acc env)):=by rfl
theorem Zvm {elt tg iter tg2 iter2:Expr}{scope:Scope}{pos:Pos}{Nc:List Str}{cap:List (Option Nat)}{wi wi2:TI}{g g2:TG}{te:TE}
  (hc:X.calm=true) (hi:PI X tg iter wi) (ok:capOk X Nc cap scope=true) (hg:∀ cs C s H fp,PG (cxComp X Nc scope cs C s H fp) tg g)
  (hi2:∀ cs C s H fp,PI (cxComp X Nc scope cs C s H fp) tg2 iter2 wi2) (hg2:∀ cs C s H fp,PG (cxComp X Nc scope cs C s H fp) tg2 g2)
  (he:∀ cs C s H fp,PE (cxComp X Nc scope cs C s H fp) elt te) (hk:scope.kind = .function:=by rfl) (hs:∀ x,foldedSetIterable iter X.env x=pure x:=by intro _;rfl)
  (hs2:∀ env x,foldedSetIterable iter2 env x=pure x:=by intro _ _;rfl) :
  PE X (.ListComp elt [⟨tg,iter,[],0⟩,⟨tg2,iter2,[],0⟩] scope pos) (tComp wi cap g tYes (tLoop wi2 g2 tYes (tEmit te))):=by
 intro pins s σ H P I h
 rw [eval_ListComp]
 refine Zkp (body:=λ env=>nest elt [⟨tg,iter,[],0⟩,⟨tg2,iter2,[],0⟩] scope pos 1 iter2 env) hk hc hi ok hg (λ cs C s H fp=>Zqg)
  (λ cs C s H fp=>Zxy (Y:=cxComp X Nc scope cs C s H fp) (body:=emit elt (compEnvC scope cs C X.env)) (λ _ _ f=>f) hc (hi2 cs C s H fp) (hg2 cs C s H fp) Zqg (Zqf (he cs C s H fp)) rfl (λ it acc=>rfl) (hs2 _)) (λ it acc env=>?_) hs I h λ D C H' s' I' fD fC ne hn q=>?_
 ·rw [Zoi]
  unfold turnOf testsOf nest
  simp only [bind_assoc,pure_bind]
 ·obtain ⟨H1,I1,q1,f1⟩:=Zn4 I' fD fC ne q
  obtain ⟨m,hm⟩:=hn
  exact ⟨m,hm,λ h'' sb=>⟨.ref D,H1,I1.turned (t':=s'.toks) (λ b o hb e=>sb.extBut b o hb e) f1.1 f1.2.1 f1.2.2.2.1 f1.2.2.2.2.1 f1.2.2.2.2.2,rfl,q1⟩⟩
theorem Zsk {i:Nat}{x:Str}{elt tg iter:Expr}{ifs:List Expr}{scope:Scope}{pos pos' spos:Pos}{Nc:List Str}{cap:List (Option Nat)}{wi:TI}{g:TG}{tt:TT}{te:TE}
  (hN:X.N.Nodup) (hx:X.N[i]? = some x) (hl:Loc X.env.scope x)
  (hc:X.calm=true) (hi:PI X tg iter wi) (ok:capOk X Nc cap scope=true) (hg:∀ cs C s H fp,PG (cxComp X Nc scope cs C s H fp) tg g) (ht:∀ cs C s H fp,PTs (cxComp X Nc scope cs C s H fp) ifs tt)
  (he:∀ cs C s H fp,PE (cxComp X Nc scope cs C s H fp) elt te) (hsw:swapsWith (.ListComp elt [⟨tg,iter,ifs,0⟩] scope pos) (some (.Name x pos')) spos.line X.env=pure true:=by rfl)
  (hk:scope.kind = .function:=by rfl) (hs:∀ x,foldedSetIterable iter X.env x=pure x:=by intro _;rfl)
  (hf:X.fn x=true \/ X.env.scope.names.lookup x=some .local:=by first|exact .inl rfl|exact .inr rfl|assumption) :
  PS X (.Assign [.Name x pos'] (.ListComp elt [⟨tg,iter,ifs,0⟩] scope pos) spos) (tAsg (tComp wi cap g tt (tEmit te)) (gName i)):=by
 intro pins s σ H D I h
 rw [exec_Assign_Name_used _ _ _ _ hsw]
 refine wpAny_bind (wpAny_standAt (wpAny_bind ?_))
 show wpAny _ X.A (do let _ <- comprehension (.ListComp elt [⟨tg,iter,ifs,0⟩] scope pos) scope X.env _ (newList []) false (eval iter X.env) (some (assign (.Name x pos') X.env))) _ _ s
 refine wpAny_bind (thn (Zkp (use:=some (assign (.Name x pos') X.env)) (Q:=λ _ s'=>SP X pins D .next s') (body:=λ env=>emit elt env) hk hc hi ok hg ht (λ cs C s H fp=>Zqf (he cs C s H fp)) (λ it acc env=>?_) hs I h λ L C H' s' I' fD fC ne hn q=>?_) λ _ s' q=>wpAny_pure (wpAny_pure q))
 ·rw [compTurn_list]
  unfold turnOf testsOf emit
  congr 1
 ·obtain ⟨H1,I1,q1,f1⟩:=Zn4 (P:=λ v H=>gName i v σ H D.nx) I' fD fC ne q
  obtain ⟨m,hm⟩:=hn
  show wpAny _ X.A (assign (.Name x pos') X.env (.ref L)) _ _ _
  refine wpAny_assign_Name (Zph I1 hN hx hl (v:=.ref L) rfl (λ s2 I2 ⟨a,sb,ha⟩=>?_) hf)
  have ca:C≠a:=by
   rcases ha with z|z
   ·rw [z];exact f1.2.1
   ·exact λ y=>f1.2.2.2.2.1 x a z y.symm
  exact ⟨m,hm.sameBut sb ca,λ h'' sb2=>⟨_,H1,I2.turned (t':=s2.toks) (λ b o hb e=>sb2.extBut b o hb e) f1.1 f1.2.1 f1.2.2.2.1 f1.2.2.2.2.1 f1.2.2.2.2.2,q1⟩⟩
end
end L2
namespace L2
open PySem PySem.Spec PyProof.Rows
def SIt (t:Bool) (h:Heap) (i l:Addr) (k:Nat):Prop:=match t with|true=>h.IsTupleIter i l k|false=>h.IsListIter i l k
def SAt (t:Bool) (h:Heap) (l:Addr) (xs:Array Value):Prop:=match t with|true=>h.IsTuple l xs|false=>h.IsList l xs
def sItO (t:Bool) (l:Addr):Obj:={ cls:=.type (if t then "tuple_iterator" else "list_iterator"),data:=.fields #[.ref l,.int 0 0] }
theorem SIt.obj {t:Bool}{h:Heap}{i l:Addr}{k:Nat} (x:SIt t h i l k):∃ o,h.get? i=some o/\∀ v,o.data≠.cell v:=by
 cases t <;> (obtain ⟨o,e,c,d⟩:=x;exact ⟨o,e,λ v z=>by rw [d] at z;cases z⟩)
theorem SIt.at {t:Bool}{h h':Heap}{i l:Addr}{k:Nat} (x:SIt t h i l k) (q:∀ o,h.get? i=some o->h'.get? i=some o):SIt t h' i l k:=by
 cases t
 ·exact Heap.IsListIter.at x q
 ·exact Heap.IsTupleIter.at x q
theorem SAt.at {t:Bool}{h h':Heap}{l:Addr}{xs:Array Value} (x:SAt t h l xs) (q:∀ o,h.get? l=some o->h'.get? l=some o):SAt t h' l xs:=by
 cases t <;> (obtain ⟨o,e,c,d⟩:=x;exact ⟨o,q o e,c,d⟩)
theorem SAt.lt {t:Bool}{h:Heap}{l:Addr}{xs:Array Value} (x:SAt t h l xs):l<h.objs.size:=by
 cases t <;> (obtain ⟨o,e,c,d⟩:=x;exact lt_size e)
section
variable {prog:Program}{w:World}{A:Around}{E:Value->Shared->Prop}{s:Shared}
theorem Zsh {it l:Addr}{i:Nat}{items:Array Value}{x:Value}{Q:Value->Shared->Prop} (hit:s.heap.IsTupleIter it l i) (hl:s.heap.IsTuple l items) (hx:items[i]? = some x)
  (hQ:∀ h',h'.IsTupleIter it l (i+1)->Heap.SameBut it s.heap h'->Q x { s with heap:=h' }):wpAny (model prog w) A (Builtin.SmallTypes.nextOf (.ref it)) Q E s:=by
 obtain ⟨o,ho,hc,hd⟩:=id hit
 obtain ⟨ol,hol,_,nl,hdl⟩:=hl
 unfold Builtin.SmallTypes.nextOf
 refine wpAny_bind (wpAny_callSpecial?_slot (name:=Str.ofString "__next__") hit.typeIs F.slot_tuple_iterator_next (wpAny_call_entry F.slot_tuple_iterator_next hit.typeIs F.entry_tuple_iterator_next ?_ (F.args_tuple_iterator_next_1 _)))
 show wpAny _ _ (field (.ref it) 0 >>= _) _ _ s;refine wpAny_bind (wpAny_field ho hd (x:=.ref l) rfl ?_)
 show wpAny _ _ (if (Value.ref l == Value.none)=true then _ else _) _ _ s;rw [if_neg (show ¬ ((Value.ref l == Value.none)=true) from Bool.false_ne_true)]
 show wpAny _ _ (field (.ref it) 1 >>= _) _ _ s;refine wpAny_bind (wpAny_field ho hd (x:=.int i 0) rfl ?_)
 show wpAny _ _ (seqItems? (.ref l) >>= _) _ _ s;refine wpAny_bind (wpAny_seqItems hol hdl ?_)
 simp only [Int.toNat_natCast,hx]
 refine wpAny_bind (wpAny_setField ho hd (by simp) (wpAny_pure ⟨x,rfl,wpAny_pure (hQ _ ?_ (Heap.SameBut.update ..))⟩))
 exact ⟨_,Heap.get?_update_self _ ho (Obj.isFreed_of_fields (Obj.data_mapFields hd _)),(Obj.cls_mapFields ..).trans hc,by rw [Obj.data_mapFields hd];simp [rawInt]⟩
theorem Ztt {it l:Addr}{i:Nat}{items:Array Value}{Q:Value->Shared->Prop} (hh:A.handled=none) (hit:s.heap.IsTupleIter it l i) (hl:s.heap.IsTuple l items) (hx:items[i]? = none)
  (hE:∀ h' e,Heap.ExtBut it s.heap h'->(∃ o,h'.get? e=some o/\o.cls = .type "StopIteration")->E (.ref e) { s with heap:=h' }):wpAny (model prog w) A (Builtin.SmallTypes.nextOf (.ref it)) Q E s:=by
 obtain ⟨o,ho,hc,hd⟩:=id hit
 obtain ⟨ol,hol,_,nl,hdl⟩:=hl
 unfold Builtin.SmallTypes.nextOf
 refine wpAny_bind (wpAny_callSpecial?_slot (name:=Str.ofString "__next__") hit.typeIs F.slot_tuple_iterator_next (wpAny_call_entry F.slot_tuple_iterator_next hit.typeIs F.entry_tuple_iterator_next ?_ (F.args_tuple_iterator_next_1 _)))
 show wpAny _ _ (field (.ref it) 0 >>= _) _ _ s;refine wpAny_bind (wpAny_field ho hd (x:=.ref l) rfl ?_)
 show wpAny _ _ (if (Value.ref l == Value.none)=true then _ else _) _ _ s;rw [if_neg (show ¬ ((Value.ref l == Value.none)=true) from Bool.false_ne_true)]
 show wpAny _ _ (field (.ref it) 1 >>= _) _ _ s;refine wpAny_bind (wpAny_field ho hd (x:=.int i 0) rfl ?_)
 show wpAny _ _ (seqItems? (.ref l) >>= _) _ _ s;refine wpAny_bind (wpAny_seqItems hol hdl ?_)
 simp only [Int.toNat_natCast,hx]
 refine wpAny_bind (wpAny_rule (wpAny_bind (wpAny_setField ho hd (by simp) ?_)))
 show wpAny _ _ (newExc (.type "StopIteration") [] >>= _) _ _ _;refine wpAny_bind ?_
 simp only [newExc,newTuple]
 refine wpAny_bind (wpAny_newObj_type ?_ (by size_fits))
 refine wpAny_bind (m:=firstArgMember _ _) (wpAny_of_eq (a:=Value.none) (by first|rfl|(simp only [firstArgMember];rfl)) ?_)
 refine wpAny_newObj_type ?_ (by size_fits)
 simp only [raiseNew]
 refine wpAny_bind (wpAny_handled ?_)
 first|rw [show A.in1.handled=none from hh]|rw [hh]
 exact wpAny_bind (wpAny_pure (wpAny_throw (hE _ _ (((Heap.SameBut.update ..).extBut.push _).push _) ⟨_,get?_push_size _ rfl,rfl⟩)))
theorem Zhl {t:Bool}{it l:Addr}{i:Nat}{items:Array Value}{x:Value}{Q:Value->Shared->Prop} (hit:SIt t s.heap it l i) (hl:SAt t s.heap l items) (hx:items[i]? = some x)
  (hQ:∀ h',SIt t h' it l (i+1)->Heap.SameBut it s.heap h'->Q x { s with heap:=h' }):wpAny (model prog w) A (Builtin.SmallTypes.nextOf (.ref it)) Q E s:=by
 cases t
 ·exact wpAny_nextOf_list_item hit hl hx hQ
 ·exact Zsh hit hl hx hQ
theorem Zlh {t:Bool}{it l:Addr}{i:Nat}{items:Array Value}{Q:Value->Shared->Prop} (hh:A.handled=none) (hit:SIt t s.heap it l i) (hl:SAt t s.heap l items) (hx:items[i]? = none)
  (hE:∀ h' e,Heap.ExtBut it s.heap h'->(∃ o,h'.get? e=some o/\o.cls = .type "StopIteration")->E (.ref e) { s with heap:=h' }):wpAny (model prog w) A (Builtin.SmallTypes.nextOf (.ref it)) Q E s:=by
 cases t
 ·exact wpAny_nextOf_list_end hh hit hl hx hE
 ·exact Ztt hh hit hl hx hE
theorem iterS {t:Bool}{l:Addr}{items:Array Value}{Q:Value->Shared->Prop} (hl:SAt t s.heap l items) (h:Q (.ref s.heap.objs.size) { s with heap:=s.heap.push (sItO t l) }):wpAny (model prog w) A (pyIter (.ref l)) Q E s:=by
 cases t
 ·exact wpAny_pyIter_list hl h
 ·exact wpAny_pyIter_tuple hl h
theorem Zuw {t1 t2:Bool}{z TI TO i1 i2 l1 l2:Addr}{k1 k2:Nat}{xs ys:Array Value}{x y a b:Value}{Q:Option Value->Shared->Prop} (D:ZipApart z TI TO i1 i2 l1 l2)
  (hz:IsZip s.heap z TI TO .none) (hTI:IsPair s.heap TI (.ref i1) (.ref i2)) (hTO:IsPair s.heap TO a b) (h1:SIt t1 s.heap i1 l1 k1) (h2:SIt t2 s.heap i2 l2 k2) (hl1:SAt t1 s.heap l1 xs) (hl2:SAt t2 s.heap l2 ys) (hx:xs[k1]? = some x) (hy:ys[k2]? = some y)
  (hQ:∀ h',IsZip h' z TI TO (rawInt s.heap.objs.size)->IsPair h' TO x y->SIt t1 h' i1 l1 (k1+1)->SIt t2 h' i2 l2 (k2+1)->IsPair h' s.heap.objs.size x y->h'.objs.size=s.heap.objs.size+1 ->
   (∀ c o,c≠z->c≠TO->c≠i1->c≠i2->s.heap.get? c=some o->h'.get? c=some o)->Q (some (.ref s.heap.objs.size)) { s with heap:=h' }):wpAny (model prog w) A (pyNext (.ref z)) Q E s:=by
 have hT:s.TypeIs (.ref z) "zip":=⟨_,hz,rfl⟩
 unfold pyNext
 refine wpAny_bind (wpAny_attempt (wpAny_callSpecial?_slot (name:=Str.ofString "__next__") hT F.slot_zip_next (wpAny_call_entry F.slot_zip_next hT F.entry_zip_next ?_ (F.args_zip_next_1 _))))
 show wpAny _ _ (field (.ref z) 2 >>= _) _ _ _;refine wpAny_bind (wpAny_field hz rfl (x:=.bool false) rfl ?_)
 show wpAny _ _ (field (.ref z) 3 >>= _) _ _ _;refine wpAny_bind (wpAny_field hz rfl (x:=.ref TI) rfl (wpAny_bind (wpAny_seqItems hTI rfl ?_)))
 show wpAny _ _ (Builtin.SmallTypes.ownedTupleIsFree (.ref z) >>= _) _ _ _;refine wpAny_bind ?_
 unfold Builtin.SmallTypes.ownedTupleIsFree
 refine wpAny_bind (wpAny_field hz rfl (x:=.none) rfl (wpAny_pure ?_))
 simp only [if_true]
 refine wpAny_bind (wpAny_rule (wpAny_bind (wpAny_field hz rfl (x:=.ref TO) rfl (wpAny_bind (wpAny_setField_rec hz (by simp) λ ha hza hsa=>?_)))))
 have hzA:IsZip ha z TI TO .ellipsis:=hza
 refine wpAny_bind ?_
 simp only [List.zipIdx_cons,List.zipIdx_nil,forIn_cons,forIn_nil]
 refine wpAny_bind (wpAny_bind (wpAny_onRaise ?_))
 show wpAny _ _ (Builtin.SmallTypes.nextOf (.ref i1) >>= _) _ _ _
 refine wpAny_bind (Zhl (h1.at λ o e=>hsa.extBut _ o D.i1z e) (hl1.at λ o e=>hsa.extBut _ o D.l1z e) hx λ hb h1b hsb=>wpAny_pure ?_)
 have hTOb:IsPair hb TO a b:=hsb.extBut _ _ D.TOi1 (hsa.extBut _ _ D.TOz hTO)
 refine wpAny_bind (wpAny_seqItems hTOb rfl (wpAny_bind (wpAny_updateSeq_pair hTOb λ hc hTOc hsc=>wpAny_bind (wpAny_letGo (wpAny_pure ?_)))))
 have hTOc':IsPair hc TO x b:=hTOc
 refine wpAny_bind (wpAny_bind (wpAny_onRaise ?_))
 show wpAny _ _ (Builtin.SmallTypes.nextOf (.ref i2) >>= _) _ _ _
 have abc:∀ c o,c≠z->c≠i1->c≠TO->s.heap.get? c=some o->hc.get? c=some o:=λ c o n1 n2 n3 e=>hsc.extBut _ _ n3 (hsb.extBut _ _ n2 (hsa.extBut _ _ n1 e))
 refine wpAny_bind (Zhl (h2.at λ o e=>abc _ o D.i2z D.i12.symm D.TOi2.symm e) (hl2.at λ o e=>abc _ o D.l2z D.l2i1 D.l2TO e) hy λ hd h2d hsd=>wpAny_pure ?_)
 have hTOd:IsPair hd TO x b:=hsd.extBut _ _ D.TOi2 hTOc'
 refine wpAny_bind (wpAny_seqItems hTOd rfl (wpAny_bind (wpAny_updateSeq_pair hTOd λ he hTOe hse=>wpAny_bind (wpAny_letGo (wpAny_pure (wpAny_pure ?_))))))
 have hTOe':IsPair he TO x y:=hTOe
 refine wpAny_bind (wpAny_seqItems hTOe' rfl (wpAny_bind (wpAny_newTuple ?_)))
 have hsz:he.objs.size=s.heap.objs.size:=by rw [hse.1,hsd.1,hsc.1,hsb.1,hsa.1]
 have hze:IsZip he z TI TO .ellipsis:=hse.extBut _ _ D.TOz.symm (hsd.extBut _ _ D.i2z.symm (hsc.extBut _ _ D.TOz.symm (hsb.extBut _ _ D.i1z.symm hzA)))
 have all:∀ c o,c≠z->c≠TO->c≠i1->c≠i2->s.heap.get? c=some o->he.get? c=some o:=λ c o n1 n2 n3 n4 e=>hse.extBut _ _ n2 (hsd.extBut _ _ n4 (abc c o n1 n3 n2 e))
 have h1e:SIt t1 he i1 l1 (k1+1):=h1b.at λ o e=>hse.extBut _ o D.TOi1.symm (hsd.extBut _ o D.i12 (hsc.extBut _ o D.TOi1.symm e))
 have h2e:SIt t2 he i2 l2 (k2+1):=h2d.at λ o e=>hse.extBut _ o D.TOi2.symm e
 show wpAny _ _ (Builtin.SmallTypes.ownedTupleHandOut (.ref z) (.ref he.objs.size) >>= _) _ _ _;refine wpAny_bind ?_
 unfold Builtin.SmallTypes.ownedTupleHandOut
 have hzf:IsZip (he.push { cls:=.type "tuple",data:=.seq #[x,y] }) z TI TO .ellipsis:=get?_push_of_some _ hze
 refine wpAny_bind (wpAny_setField_rec hzf (by simp) λ hg hzg hsg=>?_)
 have hzg':IsZip hg z TI TO (rawInt he.objs.size):=hzg
 refine wpAny_setField_rec hzg' (by simp) λ hh hzh hsh=>?_
 have hzh':IsZip hh z TI TO (rawInt he.objs.size):=hzh
 have up:∀ c o,c≠z->he.get? c=some o->hh.get? c=some o:=λ c o n1 e=>hsh.extBut _ _ n1 (hsg.extBut _ _ n1 (get?_push_of_some _ e))
 have zlt:he.objs.size≠z:=ne_of_gt (lt_size hze)
 have hTh:IsPair hh he.objs.size x y:=hsh.extBut _ _ zlt (hsg.extBut _ _ zlt (get?_push_size _ rfl))
 have hsz2:hh.objs.size=he.objs.size+1:=by rw [hsh.1,hsg.1,size_push]
 rw [hsz] at hzh' hTh hsz2
 refine wpAny_pure ⟨_,rfl,?_⟩
 rw [hsz]
 exact wpAny_pure (hQ hh hzh' (up _ _ D.TOz hTOe') (h1e.at λ o e=>up _ o D.i1z e) (h2e.at λ o e=>up _ o D.i2z e) hTh hsz2 λ c o n1 n2 n3 n4 e=>up c o n1 (all c o n1 n2 n3 n4 e))
theorem Zwm {t1 t2:Bool}{z TI TO i1 i2 l1 l2:Addr}{k1 k2:Nat}{xs ys:Array Value}{a b:Value}{Q:Option Value->Shared->Prop} (hh:A.handled=none) (D:ZipApart z TI TO i1 i2 l1 l2)
  (hz:IsZip s.heap z TI TO .none) (hTI:IsPair s.heap TI (.ref i1) (.ref i2)) (hTO:IsPair s.heap TO a b) (h1:SIt t1 s.heap i1 l1 k1) (h2:SIt t2 s.heap i2 l2 k2) (hl1:SAt t1 s.heap l1 xs) (hl2:SAt t2 s.heap l2 ys) (hend:xs[k1]? = none \/ ys[k2]? = none)
  (hQ:∀ h',(∀ c o,c≠z->c≠TO->c≠i1->c≠i2->s.heap.get? c=some o->h'.get? c=some o)->Q none { s with heap:=h' }):wpAny (model prog w) A (pyNext (.ref z)) Q E s:=by
 have hT:s.TypeIs (.ref z) "zip":=⟨_,hz,rfl⟩
 have fin:∀ (h':Heap) (e:Addr),(∀ c o,c≠z->c≠TO->c≠i1->c≠i2->s.heap.get? c=some o->h'.get? c=some o)->(∃ o,h'.get? e=some o/\o.cls = .type "StopIteration") ->
   wpAny (model prog w) A (do if <- isInstance (.ref e) (.type "StopIteration") then pure none else throw (.ref e):Sem (Option Value)) Q E { s with heap:=h' }:=λ h' e hk ⟨o,ho,hc⟩=>
  wpAny_bind (wpAny_isInstance (T:="StopIteration") (b:=true) ⟨o,ho,hc⟩ isSubtype_stop (wpAny_pure (hQ _ hk)))
 unfold pyNext
 refine wpAny_bind (wpAny_attempt (wpAny_callSpecial?_slot (name:=Str.ofString "__next__") hT F.slot_zip_next (wpAny_call_entry F.slot_zip_next hT F.entry_zip_next ?_ (F.args_zip_next_1 _))))
 show wpAny _ _ (field (.ref z) 2 >>= _) _ _ _;refine wpAny_bind (wpAny_field hz rfl (x:=.bool false) rfl ?_)
 show wpAny _ _ (field (.ref z) 3 >>= _) _ _ _;refine wpAny_bind (wpAny_field hz rfl (x:=.ref TI) rfl (wpAny_bind (wpAny_seqItems hTI rfl ?_)))
 show wpAny _ _ (Builtin.SmallTypes.ownedTupleIsFree (.ref z) >>= _) _ _ _;refine wpAny_bind ?_
 unfold Builtin.SmallTypes.ownedTupleIsFree
 refine wpAny_bind (wpAny_field hz rfl (x:=.none) rfl (wpAny_pure ?_))
 simp only [if_true]
 refine wpAny_bind (wpAny_rule (wpAny_bind (wpAny_field hz rfl (x:=.ref TO) rfl (wpAny_bind (wpAny_setField_rec hz (by simp) λ ha hza hsa=>?_)))))
 have hzA:IsZip ha z TI TO .ellipsis:=hza
 refine wpAny_bind ?_
 simp only [List.zipIdx_cons,List.zipIdx_nil,forIn_cons,forIn_nil]
 refine wpAny_bind (wpAny_bind (wpAny_onRaise ?_))
 show wpAny _ _ (Builtin.SmallTypes.nextOf (.ref i1) >>= _) _ _ _
 cases hx:xs[k1]? with
 | none=>
  refine wpAny_bind (Zlh hh (h1.at λ o e=>hsa.extBut _ o D.i1z e) (hl1.at λ o e=>hsa.extBut _ o D.l1z e) hx λ hb e hsb he=>?_)
  obtain ⟨oe,hoe,hce⟩:=he
  have hzb:IsZip hb z TI TO .ellipsis:=hsb _ _ D.i1z.symm hzA
  have hez:e≠z:=λ x=>by subst x;rw [hzb] at hoe;cases hoe;simp at hce
  exact wpAny_setField_rec hzb (by simp) λ hc _ hsc=>fin hc e (λ c o n1 _ n3 _ x=>hsc.extBut _ _ n1 (hsb _ _ n3 (hsa.extBut _ _ n1 x))) ⟨oe,hsc.extBut _ _ hez hoe,hce⟩
 | some x=>
  have hy:ys[k2]? = none:=by rcases hend with h|h;rw [hx] at h;cases h;exact h
  refine wpAny_bind (Zhl (h1.at λ o e=>hsa.extBut _ o D.i1z e) (hl1.at λ o e=>hsa.extBut _ o D.l1z e) hx λ hb h1b hsb=>wpAny_pure ?_)
  have hTOb:IsPair hb TO a b:=hsb.extBut _ _ D.TOi1 (hsa.extBut _ _ D.TOz hTO)
  refine wpAny_bind (wpAny_seqItems hTOb rfl (wpAny_bind (wpAny_updateSeq_pair hTOb λ hc hTOc hsc=>wpAny_bind (wpAny_letGo (wpAny_pure ?_)))))
  refine wpAny_bind (wpAny_bind (wpAny_onRaise ?_))
  show wpAny _ _ (Builtin.SmallTypes.nextOf (.ref i2) >>= _) _ _ _
  have abc:∀ c o,c≠z->c≠i1->c≠TO->s.heap.get? c=some o->hc.get? c=some o:=λ c o n1 n2 n3 e=>hsc.extBut _ _ n3 (hsb.extBut _ _ n2 (hsa.extBut _ _ n1 e))
  refine wpAny_bind (Zlh hh (h2.at λ o e=>abc _ o D.i2z D.i12.symm D.TOi2.symm e) (hl2.at λ o e=>abc _ o D.l2z D.l2i1 D.l2TO e) hy λ hd e hsd he=>?_)
  obtain ⟨oe,hoe,hce⟩:=he
  have hzd:IsZip hd z TI TO .ellipsis:=hsd _ _ D.i2z.symm (hsc.extBut _ _ D.TOz.symm (hsb.extBut _ _ D.i1z.symm hzA))
  have hez:e≠z:=λ x=>by subst x;rw [hzd] at hoe;cases hoe;simp at hce
  exact wpAny_setField_rec hzd (by simp) λ hf _ hsf=>fin hf e (λ c o n1 n2 n3 n4 x=>hsf.extBut _ _ n1 (hsd _ _ n4 (abc c o n1 n3 n2 x))) ⟨oe,hsf.extBut _ _ hez hoe,hce⟩
abbrev zA (h:Heap) (t1:Bool) (l1:Addr):Heap:=h.push (sItO t1 l1)
abbrev zB (h:Heap) (t1 t2:Bool) (l1 l2:Addr):Heap:=(zA h t1 l1).push (sItO t2 l2)
abbrev zC (h:Heap) (t1 t2:Bool) (l1 l2:Addr):Heap:=(zB h t1 t2 l1 l2).push { cls:=.type "tuple",data:=.seq #[.ref h.objs.size,.ref (zA h t1 l1).objs.size] }
abbrev zD (h:Heap) (t1 t2:Bool) (l1 l2:Addr):Heap:=(zC h t1 t2 l1 l2).push { cls:=.type "tuple",data:=.seq #[.none,.none] }
abbrev zE (h:Heap) (t1 t2:Bool) (l1 l2:Addr):Heap:=(zD h t1 t2 l1 l2).push { cls:=.type "zip",data:=.fields #[.none,.bool false,.bool false,.ref (zB h t1 t2 l1 l2).objs.size,.ref (zC h t1 t2 l1 l2).objs.size] }
theorem Zsf (t1 t2:Bool) (l1 l2:Addr) (xs ys:Array Value) :
  Meets (Builtin.«zip.__new__» ⟨[.type "zip",.ref l1,.ref l2],[]⟩) (λ _ R s=>SAt t1 s.heap l1 xs/\SAt t2 s.heap l2 ys/\R (.ok (.ret (.ref (zD s.heap t1 t2 l1 l2).objs.size))) { s with heap:=zE s.heap t1 t2 l1 l2 }):=
 .of_wp λ prog w A R s h=>by
  obtain ⟨hp,g,d,tk,os⟩:=s;obtain ⟨hl1,hl2,h⟩:=h
  have hsub:=sub_zip
  have hL1:SAt t1 (Shared.heap ⟨hp,g,d,tk,os⟩) l1 xs:=hl1
  have hL2:SAt t2 (Shared.heap ⟨hp.push (sItO t1 l1),g,d,tk,os⟩) l2 ys:=SAt.at hl2 λ o e=>get?_push_of_some _ e
  wp_walk using iterS hL1,iterS hL2
  exact ⟨_,rfl,h⟩
theorem Zsx {t1 t2:Bool}{l1 l2:Addr}{xs ys:Array Value}{Q:Value->Shared->Prop} (hl1:SAt t1 s.heap l1 xs) (hl2:SAt t2 s.heap l2 ys)
  (h:∀ h',IsZip h' (s.heap.objs.size+4) (s.heap.objs.size+2) (s.heap.objs.size+3) .none->IsPair h' (s.heap.objs.size+2) (.ref s.heap.objs.size) (.ref (s.heap.objs.size+1))->IsPair h' (s.heap.objs.size+3) .none .none ->
   SIt t1 h' s.heap.objs.size l1 0->SIt t2 h' (s.heap.objs.size+1) l2 0->(∀ c o,s.heap.get? c=some o->h'.get? c=some o)->Q (.ref (s.heap.objs.size+4)) { s with heap:=h' }) :
  wpAny (model prog w) A (call (.type "zip") [.ref l1,.ref l2]) Q E s:=by
 refine callType_new F.called_zip (by decide) (F.typeCall_zip_2 _ _) (F.newCall_zip_2 _ _) (λ obj=>F.args_object_init_3 obj _ _) F.entry_zip_new (Zsf t1 t2 l1 l2 xs ys) ⟨hl1,hl2,?_⟩
 have z1:(zA s.heap t1 l1).objs.size=s.heap.objs.size+1:=size_push ..
 have z2:(zB s.heap t1 t2 l1 l2).objs.size=s.heap.objs.size+2:=by rw [size_push,z1]
 have z3:(zC s.heap t1 t2 l1 l2).objs.size=s.heap.objs.size+3:=by rw [size_push,z2]
 have z4:(zD s.heap t1 t2 l1 l2).objs.size=s.heap.objs.size+4:=by rw [size_push,z3]
 have g5:(zE s.heap t1 t2 l1 l2).get? (zD s.heap t1 t2 l1 l2).objs.size=some _:=get?_push_size _ rfl
 have g4:(zE s.heap t1 t2 l1 l2).get? (zC s.heap t1 t2 l1 l2).objs.size=some _:=get?_push_of_some _ (get?_push_size _ rfl)
 have g3:(zE s.heap t1 t2 l1 l2).get? (zB s.heap t1 t2 l1 l2).objs.size=some _:=get?_push_of_some _ (get?_push_of_some _ (get?_push_size _ rfl))
 have g2:(zE s.heap t1 t2 l1 l2).get? (zA s.heap t1 l1).objs.size=some (sItO t2 l2):=get?_push_of_some _ (get?_push_of_some _ (get?_push_of_some _ (get?_push_size _ (by cases t2 <;> rfl))))
 have g1:(zE s.heap t1 t2 l1 l2).get? s.heap.objs.size=some (sItO t1 l1):=get?_push_of_some _ (get?_push_of_some _ (get?_push_of_some _ (get?_push_of_some _ (get?_push_size _ (by cases t1 <;> rfl)))))
 show _/\_
 rw [z2,z3,z4] at g5
 rw [z1,z2] at g3
 rw [z3] at g4
 rw [z1] at g2
 rw [z4]
 have mk:∀ (t:Bool) (a l:Addr),(zE s.heap t1 t2 l1 l2).get? a=some (sItO t l)->SIt t (zE s.heap t1 t2 l1 l2) a l 0:=λ t a l e=>by
  cases t <;> exact ⟨_,e,rfl,rfl⟩
 exact ⟨⟨_,g5,rfl⟩,h _ g5 g3 g4 (mk _ _ _ g1) (mk _ _ _ g2) λ c o x=>get?_push_of_some _ (get?_push_of_some _ (get?_push_of_some _ (get?_push_of_some _ (get?_push_of_some _ x))))⟩
end
def SqB (K:PySem.W.Frag) (t:Bool) (H:Hp) (a:Addr) (xs:List V):Prop:=match t with|true=>SqT K H a xs|false=>SqL K H a xs
theorem Inv.sq {X:Cx}{pins:List (Addr × Obj)}{σ:St}{H:Hp}{s:Shared}{t:Bool}{a:Addr}{xs:List V} (I:Inv X pins σ H s) (h:SqB X.K t H a xs):∃ its:List Value,Vals xs its/\SAt t s.heap a its.toArray/\xs.length≤sizeLine:=by
 cases t
 ·obtain ⟨its,r,p,z⟩:=I.list h
  exact ⟨its,r,p.isList,z⟩
 ·obtain ⟨its,r,p,z⟩:=I.tuple h
  exact ⟨its,r,p,z⟩
theorem Inv.sq_inj {X:Cx}{pins:List (Addr × Obj)}{σ:St}{H:Hp}{s:Shared}{t:Bool}{a:Addr}{xs ys:List V} (I:Inv X pins σ H s) (h:SqB X.K t H a xs) (h':SqB X.K t H a ys):xs=ys:=by
 cases t
 ·exact I.list_inj h h'
 ·exact I.tuple_inj h h'
def Itz (K:PySem.W.Frag) (t1 t2:Bool) (a b:Addr):It:=
 ⟨λ i H=>∃ xs ys x y,SqB K t1 H a xs/\SqB K t2 H b ys/\xs[i]? = some x/\ys[i]? = some y,
   λ i H v H'=>∃ p x y,v = .ref p/\H p=none/\H' = upd H p (.tup [x,y])/\∀ xs ys,SqB K t1 H a xs->SqB K t2 H b ys->xs[i]? = some x/\ys[i]? = some y,
   λ i H=>∃ xs ys,SqB K t1 H a xs/\SqB K t2 H b ys/\(xs.length≤i \/ ys.length≤i)⟩
def ZSt (t1 t2:Bool) (z TI TO i1 i2 l1 l2:Addr) (i:Nat) (h:Heap):Prop:=ZipApart z TI TO i1 i2 l1 l2/\IsZip h z TI TO .none/\IsPair h TI (.ref i1) (.ref i2)/\(∃ a b,IsPair h TO a b)/\SIt t1 h i1 l1 i/\SIt t2 h i2 l2 i
theorem Zwf {P:Program}{w:World}{K:PySem.W.Frag}{elts:List Expr}{kk:Nat}{pos:Pos} (t1 t2:Bool) (z TI TO i1 i2 l1 l2:Addr):Turn P w K (.Tuple elts kk pos) (Itz K t1 t2 l1 l2) [z,TI,TO,i1,i2] z (ZSt t1 t2 z TI TO i1 i2 l1 l2) where
 mem:=by simp
 obj:=λ i h st b hb=>by
  obtain ⟨_,hz,hTI,⟨x,y,hTO⟩,h1,h2⟩:=st
  simp only [mem_cons,not_mem_nil,or_false] at hb
  rcases hb with e|e|e|e|e
  ·subst e;exact ⟨_,hz,λ v q=>by cases q⟩
  ·subst e;exact ⟨_,hTI,λ v q=>by cases q⟩
  ·subst e;exact ⟨_,hTO,λ v q=>by cases q⟩
  ·subst e;exact h1.obj
  ·subst e;exact h2.obj
 keep:=λ i h h' st k=>by
  obtain ⟨D,hz,hTI,⟨x,y,hTO⟩,h1,h2⟩:=st
  exact ⟨D,k z (by simp) _ hz,k TI (by simp) _ hTI,⟨x,y,k TO (by simp) _ hTO⟩,h1.at λ o e=>k i1 (by simp) o e,h2.at λ o e=>k i2 (by simp) o e⟩
 item:=by
  intro X hP hw hK hc i pins s σ H E I hf st hg
  subst hP hw hK
  obtain ⟨xs,ys,x,y,q1,q2,gx,gy⟩:=hg
  obtain ⟨D,hz,hTI,⟨a,b,hTO⟩,h1,h2⟩:=st
  obtain ⟨us,ru,su,_⟩:=I.sq q1
  obtain ⟨vs,rv,sv,_⟩:=I.sq q2
  obtain ⟨u,hu,rx⟩:=ru.get gx
  obtain ⟨v,hv,ry⟩:=rv.get gy
  refine Zuw D hz hTI hTO h1 h2 su sv (x:=u) (y:=v) (by simpa using hu) (by simpa using hv) λ h' z1 z2 z3 z4 z5 z6 z7=>⟨_,rfl,?_⟩
  have szn:s.heap.objs.size≠z:=ne_of_gt (lt_size hz)
  refine wpAny_letOwnedTupleGo_zip z1 λ h'' w1 w2=>?_
  have hall:∀ c o,c≠z->c≠TO->c≠i1->c≠i2->s.heap.get? c=some o->h''.get? c=some o:=λ c o n1 n2 n3 n4 e=>w2.extBut _ _ n1 (z7 c o n1 n2 n3 n4 e)
  have hn:H s.heap.objs.size=none:=I.hok.fresh (le_refl _)
  have f:=λ b hb=>hf b hb
  have ch:∀ b,b ∉ [z,TO,i1,i2]->b≠z/\b≠TO/\b≠i1/\b≠i2:=λ b hb=>by
   simp only [mem_cons,not_mem_nil,or_false,not_or] at hb
   exact hb
  have inf:∀ b∈[z,TO,i1,i2],b∈[z,TI,TO,i1,i2]:=λ b hb=>by
   simp only [mem_cons,not_mem_nil,or_false] at hb |-
   rcases hb with e|e|e|e <;> simp [e]
  have tr:∀ b o,H b=some o->b ∉ [z,TO,i1,i2]:=λ b o e hb=>by rw [(f b (inf b hb)).1] at e;cases e
  have nsz:∀ b o,H b=some o->b≠s.heap.objs.size:=λ b o e q=>by rw [q,hn] at e;cases e
  have pair:h''.get? s.heap.objs.size=some { cls:=.type "tuple",data:=.seq #[u,v] }:=w2.extBut _ _ szn z5
  refine ⟨.ref s.heap.objs.size,upd H s.heap.objs.size (.tup [x,y]),Inv.step (s:=s) (h':=h'') (g':=s.gens) (d':=s.drawn) (t':=s.toks) (ch:=[z,TO,i1,i2]) I (λ b hb=>?_) (λ b o _ _ hb e _=>?_) (λ b o _ _ hb e _=>⟨o.slots,?_⟩) (λ b o hb e n=>?_) (λ b o hb e=>⟨o,?_⟩) (λ b zs e=>?_) (λ b o zs e=>?_) (λ b ps e=>⟨#[],?_⟩) (λ m hm=>?_) (λ b o e=>?_) I.bare,rfl,⟨s.heap.objs.size,x,y,rfl,hn,rfl,λ xs' ys' p1 p2=>?_⟩,?_,λ b hb=>?_⟩
  ·obtain ⟨_,f1,f2,f3,f4,f5⟩:=f b (inf b hb)
   exact ⟨f3,f1,f4,f5⟩
  ·obtain ⟨n1,n2,n3,n4⟩:=ch b hb;exact hall b o n1 n2 n3 n4 e
  ·obtain ⟨n1,n2,n3,n4⟩:=ch b hb;exact hall b o n1 n2 n3 n4 e
  ·rw [Zbk (ne_of_lt (lt_size e))];exact n
  ·obtain ⟨n1,n2,n3,n4⟩:=ch b hb;exact hall b o n1 n2 n3 n4 e
  ·rw [Zbk (nsz b _ e)];exact e
  ·rw [Zbk (nsz b _ e)];exact e
  ·rw [Zbk (nsz b _ e),e];simp
  ·obtain ⟨o,es,ep,ho,r⟩:=hm
   have nl:X.env.locals ∉ [z,TO,i1,i2]:=λ hb=>(f _ (inf _ hb)).2.1 rfl
   obtain ⟨n1,n2,n3,n4⟩:=ch _ nl
   exact ⟨o,es,ep,hall _ o n1 n2 n3 n4 ho,r⟩
  ·by_cases hb:b=s.heap.objs.size
   ·subst hb;rw [Zbw] at e;cases e
    exact ⟨L2.sz2,[u,v],.cons rx (.cons ry .nil),_,pair,rfl,_,rfl,rfl⟩
   ·rw [Zbk hb] at e
    refine (I.hok b o e).stay (λ c o' hc q=>?_) (λ c q=>by rw [Zbk (nsz c _ q)];exact q) λ c zs q=>by rw [Zbk (nsz c _ q)];exact q
    have nc:c ∉ [z,TO,i1,i2]:=by
     rcases hc with hc|hc
     ·rw [hc];exact tr b o e
     ·exact tr c _ hc
    obtain ⟨n1,n2,n3,n4⟩:=ch c nc
    exact hall c o' n1 n2 n3 n4 q
  ·rw [I.sq_inj p1 q1,I.sq_inj p2 q2];exact ⟨gx,gy⟩
  ·exact ⟨D,w1,hall _ _ D.TIz D.TITO D.TIi1 D.TIi2 hTI,⟨_,_,w2.extBut _ _ D.TOz z2⟩,z3.at λ o e=>w2.extBut _ o D.i1z e,z4.at λ o e=>w2.extBut _ o D.i2z e⟩
  ·obtain ⟨o,e,_⟩:=(show ∃ o,s.heap.get? b=some o/\∀ v,o.data≠.cell v from by
    simp only [mem_cons,not_mem_nil,or_false] at hb
    rcases hb with q|q|q|q|q
    ·subst q;exact ⟨_,hz,λ v q=>by cases q⟩
    ·subst q;exact ⟨_,hTI,λ v q=>by cases q⟩
    ·subst q;exact ⟨_,hTO,λ v q=>by cases q⟩
    ·subst q;exact h1.obj
    ·subst q;exact h2.obj)
   rw [Zbk (ne_of_lt (lt_size e))];exact (f b hb).1
 done:=by
  intro X hP hw hK hc i pins s σ H E I hf st hg
  subst hP hw hK
  obtain ⟨xs,ys,q1,q2,ge⟩:=hg
  obtain ⟨D,hz,hTI,⟨a,b,hTO⟩,h1,h2⟩:=st
  obtain ⟨us,ru,su,_⟩:=I.sq q1
  obtain ⟨vs,rv,sv,_⟩:=I.sq q2
  have lu:=ru.length
  have lv:=rv.length
  refine Zwm (I.ok.hd hc) D hz hTI hTO h1 h2 su sv (by
   rcases ge with e|e
   ·exact .inl (by simp;omega)
   ·exact .inr (by simp;omega)) λ h' hk=>⟨rfl,?_⟩
  have f:=λ b hb=>hf b hb
  have ch:∀ b,b ∉ [z,TO,i1,i2]->b≠z/\b≠TO/\b≠i1/\b≠i2:=λ b hb=>by
   simp only [mem_cons,not_mem_nil,or_false,not_or] at hb
   exact hb
  have inf:∀ b∈[z,TO,i1,i2],b∈[z,TI,TO,i1,i2]:=λ b hb=>by
   simp only [mem_cons,not_mem_nil,or_false] at hb |-
   rcases hb with e|e|e|e <;> simp [e]
  have tr:∀ b o,H b=some o->b ∉ [z,TO,i1,i2]:=λ b o e hb=>by rw [(f b (inf b hb)).1] at e;cases e
  have kk:∀ b o,b ∉ [z,TO,i1,i2]->s.heap.get? b=some o->h'.get? b=some o:=λ b o hb e=>by obtain ⟨n1,n2,n3,n4⟩:=ch b hb;exact hk b o n1 n2 n3 n4 e
  refine I.step (g':=s.gens) (d':=s.drawn) (t':=s.toks) (ch:=[z,TO,i1,i2]) (λ b hb=>?_) (λ b o _ _ hb e _=>kk b o hb e) (λ b o _ _ hb e _=>⟨o.slots,kk b o hb e⟩) (λ b o hb e n=>n) (λ b o hb e=>⟨o,kk b o hb e⟩) (λ b zs e=>e) (λ b o zs e=>e) (λ b ps e=>⟨#[],by rw [e];simp⟩) (λ m hm=>?_) (λ b o e=>?_) I.bare
  ·obtain ⟨_,f1,f2,f3,f4,f5⟩:=f b (inf b hb)
   exact ⟨f3,f1,f4,f5⟩
  ·obtain ⟨o,es,ep,ho,r⟩:=hm
   exact ⟨o,es,ep,kk _ o (λ hb=>(f _ (inf _ hb)).2.1 rfl) ho,r⟩
  ·refine (I.hok b o e).stay (λ c o' hc q=>kk c o' ?_ q) (λ c q=>q) λ c zs q=>q
   rcases hc with hc|hc
   ·rw [hc];exact tr b o e
   ·exact tr c _ hc
 self:=λ _ _ _ _ _ st h=>wpAny_pyIter_zip st.2.1 h
section
variable {X:Cx}
def iZip (K:PySem.W.Frag) (t1 t2:Bool) (ta:TA):TI:=λ σ H R=>ta σ H λ vs H1=>∃ a b xs ys,vs=[.ref a,.ref b]/\SqB K t1 H1 a xs/\SqB K t2 H1 b ys/\R (Itz K t1 t2 a b) H1
theorem Zzm {elts:List Expr}{kk:Nat}{tp:Pos}{a b:Expr}{ta:TA}{p pos:Pos} (t1 t2:Bool) (hg:Gl X "zip") (hm:X.mg "zip" = none) (ha:PA X [a,b] ta) (hs:starEach [a,b] X.env=[(false,eval a X.env),(false,eval b X.env)]:=by rfl) (hs2:starEach [b] X.env=[(false,eval b X.env)]:=by rfl) :
  PI X (.Tuple elts kk tp) (.Call (.Name "zip" p) [a,b] [] pos) (iZip X.K t1 t2 ta):=by
 intro pins s σ H R I h
 refine Call_ (Zmq I hg hm boot_zip (PyProof.Rows.callWith_type1 (thn (ha pos pins s σ H _ I h) λ us s1 ⟨vs,H1,I1,r1,q1⟩=>?_) (by rw [hs,hs2]) (by rw [hs2];rfl)))
 obtain ⟨l1,l2,xs,ys,e,q1,q2,q⟩:=q1
 subst e
 cases r1 with
 | cons r rr=>
  cases rr with
  | cons r' rr=>
   cases rr
   cases r
   cases r'
   obtain ⟨us,_,su,_⟩:=I1.sq q1
   obtain ⟨vs,_,sv,_⟩:=I1.sq q2
   refine Zsx su sv λ h' z1 z2 z3 z4 z5 z6=>?_
   have I2:Inv X pins σ H1 { s1 with heap:=h' }:=I1.kept (t':=s1.toks) z6
   refine wpAny_pyIter_zip z1 ⟨_,[s1.heap.objs.size+4,s1.heap.objs.size+2,s1.heap.objs.size+3,s1.heap.objs.size,s1.heap.objs.size+1],_,_,H1,rfl,I2,Zwf t1 t2 _ _ _ _ _ l1 l2,⟨zipApart_new su.lt sv.lt,z1,z2,⟨_,_,z3⟩,z4,z5⟩,λ b hb=>?_,q⟩
   have le:s1.heap.objs.size≤b:=by
    simp only [mem_cons,not_mem_nil,or_false] at hb
    rcases hb with e|e|e|e|e <;> rw [e] <;> first|exact le_refl _|exact le_add_right _ _
   have fo:=I1.fpOk le (I1.hok.fresh le)
   exact fo
end
end L2
namespace L2
open PySem PySem.Spec PyProof.Rows
mutual
def DV (K:PySem.W.Frag) (H:Hp):PyData->V->Prop
 | .none,v=>v = .non
 | .bool b,v=>v = .bl b
 | .int i,v=>v = .int i
 | .str x,v=>v = .str x
 | .list ds,v=>∃ a xs,v = .ref a/\SqL K H a xs/\DVs K H ds xs
 | .tuple ds,v=>∃ a xs,v = .ref a/\SqT K H a xs/\DVs K H ds xs
 | .dict _,_=>False
def DVs (K:PySem.W.Frag) (H:Hp):List PyData->List V->Prop
 | [],xs=>xs=[]
 | d::ds,xs=>∃ x r,xs=x::r/\DV K H d x/\DVs K H ds r
end
theorem Same.tup {K:PySem.W.Frag}{H H':Hp}{a:Addr}{xs:List V} (e:Same H H') (h:SqT K H a xs):SqT K H' a xs:=by
 rcases h with (h|⟨o,h⟩)|h
 ·exact .inl (.inl (e _ _ h))
 ·exact .inl (.inr ⟨o,e _ _ h⟩)
 ·exact .inr h
mutual
theorem DV.same {K:PySem.W.Frag}{H H':Hp} (e:Same H H'):∀ {d:PyData}{v:V},DV K H d v->DV K H' d v
 | .none,_,h=>by unfold DV at h |-;exact h
 | .bool _,_,h=>by unfold DV at h |-;exact h
 | .int _,_,h=>by unfold DV at h |-;exact h
 | .str _,_,h=>by unfold DV at h |-;exact h
 | .list ds,_,h=>by
  unfold DV at h |-
  obtain ⟨a,xs,q1,q2,q3⟩:=h
  exact ⟨a,xs,q1,e.seq q2,DVs.same e q3⟩
 | .tuple ds,_,h=>by
  unfold DV at h |-
  obtain ⟨a,xs,q1,q2,q3⟩:=h
  exact ⟨a,xs,q1,e.tup q2,DVs.same e q3⟩
 | .dict _,_,h=>by unfold DV at h;exact h.elim
theorem DVs.same {K:PySem.W.Frag}{H H':Hp} (e:Same H H'):∀ {ds:List PyData}{xs:List V},DVs K H ds xs->DVs K H' ds xs
 | [],_,h=>by unfold DVs at h |-;exact h
 | d::ds,_,h=>by
  unfold DVs at h |-
  obtain ⟨x,r,q1,q2,q3⟩:=h
  exact ⟨x,r,q1,DV.same e q2,DVs.same e q3⟩
end
theorem DVs.ints {K:PySem.W.Frag}{H:Hp}:∀ ns:List Int,DVs K H (ns.map .int) (ns.map .int)
 | []=>by unfold DVs;rfl
 | n::r=>by unfold DVs;exact ⟨_,_,rfl,by unfold DV;rfl,DVs.ints r⟩
theorem DVs.nil {K:PySem.W.Frag}{H:Hp}:DVs K H [] []:=by unfold DVs;rfl
theorem DVs.cons {K:PySem.W.Frag}{H:Hp}{d:PyData}{ds:List PyData}{x:V}{xs:List V} (h:DV K H d x) (t:DVs K H ds xs):DVs K H (d::ds) (x::xs):=by unfold DVs;exact ⟨x,xs,rfl,h,t⟩
theorem DV.int {K:PySem.W.Frag}{H:Hp} (i:Int):DV K H (.int i) (.int i):=by unfold DV;rfl
theorem DV.bool {K:PySem.W.Frag}{H:Hp} (i:Bool):DV K H (.bool i) (.bl i):=by unfold DV;rfl
theorem DV.list {K:PySem.W.Frag}{H:Hp}{a:Addr}{xs:List V}{ds:List PyData} (h:SqL K H a xs) (t:DVs K H ds xs):DV K H (.list ds) (.ref a):=by unfold DV;exact ⟨a,xs,rfl,h,t⟩
theorem DV.tup {K:PySem.W.Frag}{H:Hp}{a:Addr}{xs:List V}{ds:List PyData} (h:SqT K H a xs) (t:DVs K H ds xs):DV K H (.tuple ds) (.ref a):=by unfold DV;exact ⟨a,xs,rfl,h,t⟩
theorem DVs.append {K:PySem.W.Frag}{H:Hp}:∀ {ds es:List PyData}{xs ys:List V},DVs K H ds xs->DVs K H es ys->DVs K H (ds++es) (xs++ys)
 | [],_,_,_,h,t=>by unfold DVs at h;subst h;exact t
 | d::ds,es,_,ys,h,t=>by
  unfold DVs at h
  obtain ⟨x,r,q1,q2,q3⟩:=h
  subst q1
  exact DVs.cons q2 (DVs.append q3 t)
theorem DVs.length {K:PySem.W.Frag}{H:Hp}:∀ {ds:List PyData}{xs:List V},DVs K H ds xs->ds.length=xs.length
 | [],_,h=>by unfold DVs at h;subst h;rfl
 | d::ds,_,h=>by
  unfold DVs at h
  obtain ⟨x,r,q1,q2,q3⟩:=h
  subst q1
  rw [length_cons,length_cons,DVs.length q3]
theorem DVs.get {K:PySem.W.Frag}{H:Hp}:∀ {ds:List PyData}{xs:List V}{i:Nat}{x:V},DVs K H ds xs->xs[i]? = some x->∃ d,ds[i]? = some d/\DV K H d x
 | [],_,i,x,h,e=>by unfold DVs at h;subst h;simp at e
 | d::ds,_,0,x,h,e=>by
  unfold DVs at h
  obtain ⟨y,r,q1,q2,q3⟩:=h
  subst q1
  simp at e;subst e
  exact ⟨d,rfl,q2⟩
 | d::ds,_,i+1,x,h,e=>by
  unfold DVs at h
  obtain ⟨y,r,q1,q2,q3⟩:=h
  subst q1
  obtain ⟨d',h1,h2⟩:=DVs.get (i:=i) (x:=x) q3 (by simpa using e)
  exact ⟨d',by simpa using h1,h2⟩
section
variable {X:Cx}{pins:List (Addr × Obj)}{σ:St}{H:Hp}{s:Shared}
mutual
theorem Inv.reads (I:Inv X pins σ H s):∀ {d:PyData}{v:V}{u:Value},DV X.K H d v->RelV v u->∃ as,Reads s.heap u d as
 | .none,_,u,h,r=>by unfold DV at h;subst h;cases (show u=Value.none from r);exact ⟨_,.none⟩
 | .bool b,_,u,h,r=>by unfold DV at h;subst h;cases (show u=Value.bool b from r);exact ⟨_,.bool b⟩
 | .int i,_,u,h,r=>by unfold DV at h;subst h;obtain ⟨t,q⟩:=(show ∃ t,u=Value.int i t from r);cases q;exact ⟨_,.int i t⟩
 | .str x,_,u,h,r=>by unfold DV at h;subst h;obtain ⟨t,q⟩:=(show ∃ t,u=Value.str x t from r);cases q;exact ⟨_,.str x t⟩
 | .list ds,_,u,h,r=>by
  unfold DV at h
  obtain ⟨a,xs,q1,q2,q3⟩:=h
  subst q1
  cases (show u=Value.ref a from r)
  obtain ⟨its,rv,p,_⟩:=I.list q2
  obtain ⟨as,ra⟩:=Inv.readsAll I q3 rv
  obtain ⟨o,e,c,n,d⟩:=p.isList
  exact ⟨_,.list e c d (by simpa using ra)⟩
 | .tuple ds,_,u,h,r=>by
  unfold DV at h
  obtain ⟨a,xs,q1,q2,q3⟩:=h
  subst q1
  cases (show u=Value.ref a from r)
  obtain ⟨its,rv,p,_⟩:=I.tuple q2
  obtain ⟨as,ra⟩:=Inv.readsAll I q3 rv
  obtain ⟨o,e,c,n,d⟩:=p
  exact ⟨_,.tuple e c d (by simpa using ra)⟩
 | .dict _,_,_,h,_=>by unfold DV at h;exact h.elim
theorem Inv.readsAll (I:Inv X pins σ H s):∀ {ds:List PyData}{xs:List V}{us:List Value},DVs X.K H ds xs->Vals xs us->∃ as,ReadsAll s.heap us ds as
 | [],_,_,h,r=>by unfold DVs at h;subst h;cases r;exact ⟨_,.nil⟩
 | d::ds,_,us,h,r=>by
  unfold DVs at h
  obtain ⟨x,t,q1,q2,q3⟩:=h
  subst q1
  cases r with
  | cons r1 r2=>
   obtain ⟨as,ra⟩:=Inv.reads I q2 r1
   obtain ⟨bs,rb⟩:=Inv.readsAll I q3 r2
   exact ⟨_,.cons ra rb⟩
end
end
section
variable {X:Cx}
def rEqD (K:PySem.W.Frag) (neg:Bool):R2:=λ x y H Q=>∃ da db,DV K H da x/\DV K H db y/\SeqAt.shaped da=true/\SeqAt.shaped db=true/\Q (.bl (if neg then !PyData.eqv da db else PyData.eqv da db)) H
theorem Zwy (hu:X.A.units+64<cLine):OpR X (compareOp .Eq) (rEqD X.K false):=by
 rintro pins s σ H x y v u Q I rx ry ⟨da,db,h1,h2,s1,s2,q⟩
 obtain ⟨as,ra⟩:=I.reads h1 rx
 obtain ⟨bs,rb⟩:=I.reads h2 ry
 exact SeqAt.compareEq_shaped ra rb s1 s2 hu ⟨.bl (PyData.eqv da db),H,I,rfl,q⟩
theorem Ztx (hu:X.A.units+64<cLine):OpR X (compareOp .NotEq) (rEqD X.K true):=by
 rintro pins s σ H x y v u Q I rx ry ⟨da,db,h1,h2,s1,s2,q⟩
 obtain ⟨as,ra⟩:=I.reads h1 rx
 obtain ⟨bs,rb⟩:=I.reads h2 ry
 exact SeqAt.compareNe_shaped ra rb s1 s2 hu ⟨.bl (!PyData.eqv da db),H,I,rfl,q⟩
theorem Zmf (hg:X.A.guards=some []) (hu:X.A.units+64<cLine):CallR X (.builtin "repr") (λ xs H Q=>∃ a d,xs=[.ref a]/\DV X.K H d (.ref a)/\d.showable=true/\d.hasDict=false/\d.depth≤40/\d.shown.length≤sizeLine/\Q (.str d.shown) H):=by
 rintro pins s σ H xs us Q I r ⟨a,d,rfl,h,h1,h2,h3,h4,q⟩
 obtain ⟨u,rfl,rx⟩:=vals1 r
 cases (show u=Value.ref a from rx)
 obtain ⟨as,ra⟩:=I.reads h rx
 exact repr_of_reads' ra h1 (PyData.noDict_hsm h2) hg (by omega) (λ _ _ e=>e) (λ h' u tk hk=>⟨.str d.shown,H,I.kept hk,⟨u,rfl⟩,q⟩) h4
theorem Zfz (hc:X.calm=true):CallR X (.builtin "sum") (λ xs H Q=>∃ (a:Addr) (ns:List Int),xs=[.ref a]/\SqL X.K H a (ns.map V.int)/\Q (.int ns.sum) H):=by
 rintro pins s σ H xs us Q I r ⟨a,ns,rfl,h,q⟩
 obtain ⟨u,rfl,rx⟩:=vals1 r
 cases (show u=Value.ref a from rx)
 obtain ⟨its,rv,p,hz⟩:=I.list h
 have ia:IntsAre its ns:=Zmm rv
 refine call_sum_walkG (wpAny_pyIter_list p.isList ?_)
 have hlt:a<s.heap.objs.size:=by obtain ⟨o,e,_⟩:=p.isList;exact lt_size e
 refine ⟨s.heap.objs.size,_,_,_,_,_,λ i=>ns.getD i 0,rfl,Walks.list (A:=X.A.in1) (I.ok.hd hc) s.heap.objs.size a (ne_of_lt hlt) its.toArray,⟨⟨_,get?_push_size _ rfl,rfl,rfl⟩,p.isList.push _⟩,λ b hb=>?_,λ i v hv=>?_,λ h' tk t' hk=>?_⟩
 ·show b<(s.heap.push _).objs.size
  rw [size_push]
  simp only [mem_cons,not_mem_nil,or_false] at hb
  rcases hb with e|e
  ·rw [e];exact lt_succ_self _
  ·rw [e];exact lt_succ_of_lt hlt
 ·have hv':its[i]? = some v:=by simpa using hv
  have hl:i<ns.length:=by
   have:=(List.getElem?_eq_some_iff.mp hv').1
   have l2:=rv.length
   rw [lmp] at l2
   omega
  obtain ⟨u2,h1,t,h2⟩:=rv.get (i:=i) (x:=.int ns[i]) (by simp [hl])
  rw [hv'] at h1;cases h1
  refine ⟨t,h2.trans ?_⟩
  dsimp only
  rw [getD_eq_getElem?_getD,gEq hl];rfl
 ·have e1:preSum (λ i=>ns.getD i 0) its.toArray.size=ns.sum:=by
   have l2:=rv.length
   rw [lmp] at l2
   rw [size_toArray,<- l2]
   have all:∀ k≤ns.length,preSum (λ i=>ns.getD i 0) k=(ns.take k).sum:=by
    intro k
    induction k with
    | zero=>intro _;rfl
    | succ k ih=>
     intro hk
     rw [List.take_succ_eq_append_getElem (by omega),sum_append]
     show preSum (λ i=>ns.getD i 0) k+ns.getD k 0=_
     rw [ih (by omega),getD_eq_getElem?_getD,gEq (by omega)]
     simp
   rw [all _ (le_refl _),take_length]
  refine ⟨.int ns.sum,H,I.kept (λ b o e=>hk b o ?_ (get?_push_of_some _ e)),⟨t',by rw [e1]⟩,q⟩
  intro hb
  have:b=s.heap.objs.size:=by simpa using hb
  exact absurd (lt_size e) (by rw [this];exact lt_irrefl _)
theorem Zi9 (hc:X.calm=true):CallR X (.builtin "all") (λ xs H Q=>∃ (a:Addr) (bs:List Bool),xs=[.ref a]/\SqL X.K H a (bs.map V.bl)/\Q (.bl (bs.all id)) H):=by
 rintro pins s σ H xs us Q I r ⟨a,bs,rfl,h,q⟩
 obtain ⟨u,rfl,rx⟩:=vals1 r
 cases (show u=Value.ref a from rx)
 obtain ⟨its,rv,p,hz⟩:=I.list h
 refine call_all_walk (wpAny_pyIter_list p.isList ?_)
 have hlt:a<s.heap.objs.size:=by obtain ⟨o,e,_⟩:=p.isList;exact lt_size e
 have l2:=rv.length
 rw [lmp] at l2
 refine ⟨s.heap.objs.size,_,_,_,_,_,λ i=>bs.getD i true,rfl,Walks.list (A:=X.A.in1) (I.ok.hd hc) s.heap.objs.size a (ne_of_lt hlt) its.toArray,⟨⟨_,get?_push_size _ rfl,rfl,rfl⟩,p.isList.push _⟩,?_,λ h' tk hk=>?_⟩
 ·intro i v s' Q' E' hv hq
  have hv':its[i]? = some v:=by simpa using hv
  have hl:i<bs.length:=by
   have:=(List.getElem?_eq_some_iff.mp hv').1
   omega
  obtain ⟨u2,h1,h2⟩:=rv.get (i:=i) (x:=.bl bs[i]) (by simp [hl])
  rw [hv'] at h1;cases h1
  cases (show v=Value.bool bs[i] from h2)
  refine wpAny_truthy_bool ?_
  dsimp only at hq
  rw [getD_eq_getElem?_getD,gEq hl] at hq
  exact hq
 ·have e1:(List.range its.toArray.size).all (λ i=>bs.getD i true)=bs.all id:=by
   rw [size_toArray,<- l2,Bool.eq_iff_iff,all_eq_true,all_eq_true]
   constructor
   ·intro h x hx
    obtain ⟨i,hi,e⟩:=mem_iff_getElem.mp hx
    have:=h i (by simpa using hi)
    rw [getD_eq_getElem?_getD,gEq hi] at this
    simpa [e] using this
   ·intro h i hi
    have hi':i<bs.length:=by simpa using hi
    rw [getD_eq_getElem?_getD,gEq hi']
    simpa using h _ (getElem_mem hi')
  refine ⟨.bl (bs.all id),H,I.kept (λ b o e=>hk b o ?_ (get?_push_of_some _ e)),by rw [e1];rfl,q⟩
  intro hb
  have:b=s.heap.objs.size:=by simpa using hb
  exact absurd (lt_size e) (by rw [this];exact lt_irrefl _)
theorem Zv2:CallR X (.builtin "isinstance") (λ xs H Q=>∃ x t c b,xs=[x,.ty c]/\TyOf X.K H x t/\PySem.W.kitOne X.K t (.type c)=some b/\Q (.bl b) H):=by
 rintro pins s σ H xs us Q I r ⟨x,t,c,b,rfl,ty,e,q⟩
 obtain ⟨u,w,rfl,rx,rc⟩:=vals2 r
 cases (show w=Value.type c from rc)
 exact Ztj I rx ty e λ tk=>⟨.bl b,H,I.tok _,rfl,q⟩
def CPowB (i j:Int):Prop:=0≤j/\(Builtin.Int.intBits i:Int)*j≤2 ^ 27
theorem Zqc:OpR X (binaryOp .Pow) (rI CPowB λ i j=>.int (i ^ j.toNat)):=opI λ _ _ _ _ _ _ _ hc q=>pow_int hc.1 hc.2 q
end
end L2
namespace L2
open PySem PySem.Spec PyProof.Rows
open AutoSeq1 (wpAny_loadPart')
open MeetsSeq MeetsSeq2 MeetsSeq3 SeqRoads2
theorem Zji:fillsNumberSlot (.type "tuple") "mul" = pure false:=
 PySem.fillsNumberSlot_seq (id:="tuple.__mul__") (r:=some (.builtin "tuple.__rmul__")) slot_tuple_mul.lookup (by decide +kernel) PySem.F.slot_tuple_rmul.lookup (by decide +kernel)
theorem Znt:seqRepeat? (.type "tuple")=pure (some (.builtin "tuple.__mul__")):=by
 unfold seqRepeat?;rw [PySem.seqSlot_of (T:="tuple") (name:="__mul__") (id:="tuple.__mul__") slot_tuple_mul.lookup (by decide +kernel),PySem.seqSlot_of (T:="tuple") (name:="__rmul__") (id:="tuple.__rmul__") PySem.F.slot_tuple_rmul.lookup (by decide +kernel)];rfl
theorem Zoy (a:Int) (t:Tok) (l:Addr) (items:Array Value) (n:Nat) (dd:Option Addr) (sl:Array (Option Value)):Meets (Builtin.«int.__rmul__» ⟨[.int a t,.ref l],[]⟩) (λ _ R s=>s.heap.get? l=some { cls:=.type "tuple",dict:=dd,data:=.seq items n,slots:=sl }/\R (.ok (.ret Value.notImplemented)) s):=
 .of_wp λ prog w A R s h=>by obtain ⟨hp,g,d,tk,os⟩:=s;obtain ⟨hl,h⟩:=h;wp_walk;exact ⟨_,rfl,h⟩
theorem Zpj (l:Addr) (items:Array Value) (n:Nat) (dd:Option Addr) (sl:Array (Option Value)) (t:Tok) :
  Meets (Builtin.«tuple.__mul__» ⟨[.ref l,.int 1 t],[]⟩) (λ _ R s=>s.heap.get? l=some { cls:=.type "tuple",dict:=dd,data:=.seq items n,slots:=sl }/\R (.ok (.ret (.ref l))) s):=
 .of_wp λ prog w A R s h=>by
  obtain ⟨hp,g,d,tk,os⟩:=s;obtain ⟨hl,h⟩:=h;have f1:=AutoSeq1.idx_int;have f2:=AutoSeq1.sub_tuple_tuple
  wp_walk using wpAny_loadPart' hl
  exact ⟨_,rfl,h⟩
theorem Zqq (l:Addr) (items:Array Value) (n:Nat) (dd:Option Addr) (sl:Array (Option Value)) (t:Tok) (k:Int) (h1:1<k) (h2:k<2 ^ 63) (he:items.isEmpty=false) (hz:items.size*k.toNat≤sizeLine) :
  Meets (Builtin.«tuple.__mul__» ⟨[.ref l,.int k t],[]⟩) (λ _ R s=>s.heap.get? l=some { cls:=.type "tuple",dict:=dd,data:=.seq items n,slots:=sl }/\R (.ok (.ret (.ref s.heap.objs.size))) { s with heap:=s.heap.push { cls:=.type "tuple",data:=.seq ((List.replicate k.toNat items).foldl (·++·) #[]) } }):=
 .of_wp λ prog w A R s h=>by
  obtain ⟨hp,g,d,tk,os⟩:=s;obtain ⟨hl,h⟩:=h;have f1:=AutoSeq1.idx_int;have f2:=AutoSeq1.sub_tuple_tuple
  have c1:(decide (k < -2 ^ 63) || decide (k ≥ 2 ^ 63))=false:=by
   rw [or_eq_false_iff];exact ⟨decide_eq_false (by omega),decide_eq_false (by omega)⟩
  have c2:(items.isEmpty || k == 1)=false:=by rw [he,Bool.false_or];exact beq_eq_false_iff_ne.mpr (by omega)
  have c3:(decide (k≤0) || items.isEmpty)=false:=by rw [he,Bool.or_false];exact decide_eq_false (by omega)
  have kn:((k.toNat:Nat):Int)=k:=by omega
  have hz':(items.size:Int)*k≤(sizeLine:Int):=by rw [<- kn];exact_mod_cast hz
  have c4:¬ ((items.size:Int)*k > (2 ^ 63-1) / 8):=by
   have:(sizeLine:Int)≤(2 ^ 63-1) / 8:=by decide
   omega
  have c5:Builtin.Tuple.tupleTooMany ((items.size:Int)*k)=false:=decide_eq_false (by omega)
  have cc:∀ {b:Bool},b=false->decide (b=true)=false:=λ h=>by rw [h];rfl
  wp_walk using wpAny_loadPart' hl
  refine wpAny_ite_false (cc c1) ?_
  wp_walk using wpAny_loadPart' hl
  refine wpAny_ite_false (cc c2) ?_
  wp_walk using wpAny_loadPart' hl
  refine wpAny_ite_false (cc c3) ?_
  wp_walk using wpAny_loadPart' hl
  refine wpAny_ite_false (decide_eq_false c4) ?_
  wp_walk using wpAny_loadPart' hl
  have fit:(List.foldl (λ x1 x2=>x1++x2) #[] (List.replicate k.toNat items)).size≤sizeLine:=by
   have all:∀ (m:Nat) (acc:Array Value),(List.foldl (λ x1 x2=>x1++x2) acc (List.replicate m items)).size=acc.size+items.size*m:=by
    intro m
    induction m with
    | zero=>intro acc;simp
    | succ m ih=>intro acc;rw [replicate_succ,foldl_cons,ih,Array.size_append,Nat.mul_succ];omega
   rw [all];simpa using hz
  refine wpAny_ite_false (decide_eq_false (Nat.not_lt.mpr fit)) ?_
  wp_walk using wpAny_loadPart' hl
  exact ⟨_,rfl,h⟩
section
variable {X:Cx}
theorem Zdb {H:Hp}{p:Addr} (h:H p=none) (o:HO):Same H (upd H p o):=λ b u q=>by rw [Zbk (Zeh q h)];exact q
theorem Zwe (l b:Addr) (items items2:Array Value) (n n2:Nat) (dd dd2:Option Addr) (sl sl2:Array (Option Value)) (hc0:items.isEmpty=true) :
  Meets (Builtin.«tuple.__add__» ⟨[.ref l,.ref b],[]⟩) (λ _ R s=>s.heap.get? l=some { cls:=.type "tuple",dict:=dd,data:=.seq items n,slots:=sl }/\s.heap.get? b=some { cls:=.type "tuple",dict:=dd2,data:=.seq items2 n2,slots:=sl2 }/\R (.ok (.ret (Value.ref b))) s):=
 .of_wp λ prog w A R s h=>by obtain ⟨hp,g,d,tk,os⟩:=s;obtain ⟨hl,hb,h⟩:=h;have f1:=AutoSeq1.idx_int;have f2:=AutoSeq1.sub_tuple_tuple;wp_walk using wpAny_loadPart' hl,wpAny_loadPart' hb;exact ⟨_,rfl,h⟩
end
end L2
namespace L2
open PySem PySem.Spec PyProof.Rows
section
variable {X:Cx}{CX:CXT}{k:Nat}{f C:Addr}{fd:FuncData}{ps ks:List Str}{sp:Sp}{E:XK}{x m:Str}{p pos apos kpos:Pos}{kws:List Keyword}{tk:TA}
variable {g:List Value->List Value->List Value}{gV:List V->List V->List V}
end
section
variable {X:Cx}
theorem Ze7:OpR X (binaryOp .Mult) (rI IntMulOk λ i j=>.int (i*j)):=opI λ _ _ _ _ _ _ _ hc q=>mul_int q hc
theorem Zjb {i:Int}{n:Nat} (h:i.natAbs<2 ^ n):Builtin.Int.intBits i≤n:=by
 unfold Builtin.Int.intBits
 split
 ·exact zero_le _
 ·rename_i hne
  have h0:i.natAbs≠0:=by
   intro z
   exact hne (by simpa using z)
  have:=(Nat.log2_lt h0).mpr h
  omega
theorem Zrd {i j:Int}{n:Nat} (hn:n≤2 ^ 20) (hi:i.natAbs<2 ^ n) (hj:j.natAbs<2 ^ n):IntMulOk i j:=IntMulOk.of_bits (le_trans (Zjb hi) hn) (le_trans (Zjb hj) hn)
end
def SB (u:Addr) (H H':Hp):Prop:=∀ b o,b≠u->H b=some o->H' b=some o
theorem SB.trans {u:Addr}{H H1 H2:Hp} (a:SB u H H1) (b:SB u H1 H2):SB u H H2:=λ c o n h=>b c o n (a c o n h)
theorem Same.sb {H H':Hp} (e:Same H H') (u:Addr):SB u H H':=λ b o _ h=>e b o h
theorem SB.upd (u:Addr) (H:Hp) (o:HO):SB u H (upd H u o):=λ b v n h=>by rw [Zbk n];exact h
theorem SB.seq {K:PySem.W.Frag}{u:Addr}{H H':Hp}{a:Addr}{xs:List V} (e:SB u H H') (n:a≠u) (h:SqL K H a xs):SqL K H' a xs:=by
 rcases h with (h|⟨o,h⟩)|h
 ·exact .inl (.inl (e _ _ n h))
 ·exact .inl (.inr ⟨o,e _ _ n h⟩)
 ·exact .inr h
theorem SB.tup {K:PySem.W.Frag}{u:Addr}{H H':Hp}{a:Addr}{xs:List V} (e:SB u H H') (n:a≠u) (h:SqT K H a xs):SqT K H' a xs:=by
 rcases h with (h|⟨o,h⟩)|h
 ·exact .inl (.inl (e _ _ n h))
 ·exact .inl (.inr ⟨o,e _ _ n h⟩)
 ·exact .inr h
theorem SB.get {u:Addr}{H H':Hp} (e:SB u H H') {b:Addr}{o:HO} (h:H b=some o) (n:b≠u):H' b=some o:=e b o n h
end L2
namespace L2
open PySem PySem.Spec PyProof.Rows
def BindsAll (x:Str) (st:Stmt) (ps:List Str):Prop:=∀ (kV doc pm:Value) (an:Option Addr) (cdv ct:Value) (us:List Value),us.length=ps.length->bindArgs (PySem.W.fnOf x x (defArgs st) (defBody st) (defScope st) .none kV doc pm an cdv ct) ⟨us,[]⟩=pure (ps.zip us)
def gaP (na nk:Nat) (pick:List (Bool × Nat)) {α:Type} (us ws:List α):List α:=if us.length=na/\ws.length=nk then pick.filterMap (λ p=>if p.1=true then us[p.2]? else ws[p.2]?) else []
def KBindsAll (x:Str) (st:Stmt) (ps ks:List Str) (na nk:Nat) (pick:List (Bool × Nat)):Prop:=∀ (kV doc pm:Value) (an:Option Addr) (cdv ct:Value) (us ws:List Value),(gaP na nk pick us ws).length=ps.length ->
 bindArgs (PySem.W.fnOf x x (defArgs st) (defBody st) (defScope st) .none kV doc pm an cdv ct) ⟨us,ks.zip ws⟩=pure (ps.zip (gaP na nk pick us ws))
theorem Zxc {na nk:Nat}{pick:List (Bool × Nat)}{α:Type}{us ws:List α}{n:Nat} (h:(gaP na nk pick us ws).length=n+1):us.length=na/\ws.length=nk:=by
 unfold gaP at h
 split at h
 ·assumption
 ·cases h
theorem Zxd {na nk:Nat}{pick:List (Bool × Nat)}{vs:List V}{us:List Value}{zs:List V}{ws:List Value} (r:Vals vs us) (z:Vals zs ws):Vals (gaP na nk pick vs zs) (gaP na nk pick us ws):=by
 unfold gaP
 rw [r.length,z.length]
 split
 ·induction pick with
  | nil=>exact .nil
  | cons p t ih=>
   have look:∀ {as:List V}{bs:List Value},Vals as bs->∀ i:Nat,(∃ a b,as[i]? = some a/\bs[i]? = some b/\RelV a b) \/ (as[i]? = none/\bs[i]? = none):=λ {as bs} q i=>by
    cases e:as[i]? with
    | none=>exact .inr ⟨rfl,q.none_of e⟩
    | some a=>obtain ⟨b,h1,h2⟩:=q.get e;exact .inl ⟨a,b,rfl,h1,h2⟩
   rw [filterMap_cons,filterMap_cons]
   cases p.1 with
   | true=>
    rcases look r p.2 with ⟨a,b,e1,e2,q⟩|⟨e1,e2⟩
    ·simp only [if_true,e1,e2];exact .cons q ih
    ·simp only [if_true,e1,e2];exact ih
   | false=>
    rcases look z p.2 with ⟨a,b,e1,e2,q⟩|⟨e1,e2⟩
    ·simp only [false_eq_true,if_false,e1,e2];exact .cons q ih
    ·simp only [false_eq_true,if_false,e1,e2];exact ih
 ·exact .nil
structure Dn (P:Program) (w:World) (K:PySem.W.Frag) (mg:Str->Option Value) (base:Heap) (k:Nat) (x:Str) (st:Stmt) (ps:List Str) (sp:Sp):Prop where
 ex:∃ f fd,FnOk P w K mg base CX0 k f fd ps sp/\Fun K x x st f fd/\mg x=some (.ref f)
section
variable {X:Cx}{k:Nat}{x:Str}{st:Stmt}{ps ks:List Str}{sp:Sp}{p pos:Pos}{e:Expr}{es:List Expr}{kws:List Keyword}{t tk:TA}{na nk:Nat}{pick:List (Bool × Nat)}
theorem Zza (D:Dn X.prog X.w X.K X.mg X.base k x st ps sp) (hb:BindsAll x st ps) (hr:Room k X.A) (ha:PA X (e::es) t) (hg:Gl X x:=by rfl) (hs:starEach (e::es) X.env=(false,eval e X.env)::starEach es X.env:=by rfl) (hpl:(backTo pos (starEach es X.env)).any (·.1)=false:=by rfl)
  (hdb:(x == ("__debug__" : Str))=false:=by decide):PE X (.Call (.Name x p) (e::es) [] pos) (tCall sp [] E0 t):=by
 obtain ⟨f,fd,F,U,m⟩:=D.ex
 exact Zxo F hr hg m U.kp (U.binds hb) .nil pass0 ha (hdb:=hdb) (he:=hs) (hpl:=hpl)
theorem Fun.kbinds {K:PySem.W.Frag}{f:Addr}{fd:FuncData} (F:Fun K x x st f fd) (h:KBindsAll x st ps ks na nk pick):KBinds K fd ps ks (gaP na nk pick) (gaP na nk pick):=by
 obtain ⟨oc,od,kV,doc,pm,an,cdv,ct,osl,rfl,lk,hcd⟩:=F.ex
 exact ⟨λ s us ws _ hl=>.of_eq (h kV doc pm an cdv ct us ws hl),λ r z=>Zxd r z⟩
theorem Zxr (D:Dn X.prog X.w X.K X.mg X.base k x st ps sp) (hb:KBindsAll x st ps ks na nk pick) (hr:Room k X.A) (ha:PA X (e::es) t) (hkw:PK X kws tk) (hg:Gl X x:=by rfl) (hall:(backToKw pos (keywordEach kws X.env)).all (·.1.isSome)=true:=by rfl) (hks:(backToKw pos (keywordEach kws X.env)).filterMap (·.1)=ks:=by rfl)
  (hdb:(x == ("__debug__" : Str))=false:=by decide) (he:starEach (e::es) X.env=(false,eval e X.env)::starEach es X.env:=by rfl)
  (hpl:((backTo pos (starEach (e::es) X.env)).any (·.1) || (backToKw pos (keywordEach kws X.env)).any (·.1.isNone))=false:=by rfl):PE X (.Call (.Name x p) (e::es) kws pos) (tCallK sp (gaP na nk pick) E0 t tk):=by
 obtain ⟨f,fd,F,U,m⟩:=D.ex
 exact Zrh F hr hg m U.kp (U.kbinds hb) pass0 ha hkw hall hks hdb he hpl
end
theorem Dn.of {P:Program}{w:World}{K:PySem.W.Frag}{mg:Str->Option Value}{base:Heap}{x:Str}{st:Stmt}{N ps:List Str}{k:Nat}{sp:Sp} (U:∃ f fd,Fun K x x st f fd/\mg x=some (.ref f)) (S:FnScope N ps (defScope st)) (len:∀ vs H Q E,sp vs H Q E->vs.length=ps.length)
  (hbody:∀ (f:Addr) (cdv:Value) (A:Around) (outer:List Env) (s:Shared) (H:Hp) (vs:List V) (Q:VK) (E:XK),Room k (A.deeper (envOfC x (defScope st) s.heap.objs.size f cdv))->sp vs H Q E ->
   ∃ t,PSs (cxOf CX0 P w K mg base N x (defScope st) f cdv A outer s H E).nox (defBody st) t/\t { nx:=λ _ H'=>Q .non H',rt:=Q } (start N vs) H):Dn P w K mg base (k+1) x st ps sp:=by
 obtain ⟨f,fd,F,m⟩:=U
 exact ⟨f,fd,F.ok S len λ cdv A outer s H vs Q E hr h=>hbody f cdv A outer s H vs Q E hr h,F,m⟩
def Urn (H:Hp) (u:Addr) (m:Nat):Prop:=∃ g c n:Int,H u=some (.lst [.int g,.int c,.int n])/\0≤g/\0≤c/\c≤4000000000000000000/\0≤n/\n≤m
theorem Urn.mono {H:Hp}{u:Addr}{m m':Nat} (h:Urn H u m) (le:m≤m'):Urn H u m':=by
 obtain ⟨g,c,n,e,h1,h2,h3,h4,h5⟩:=h
 exact ⟨g,c,n,e,h1,h2,h3,h4,by omega⟩
theorem Urn.same {H H':Hp}{u:Addr}{m:Nat} (h:Urn H u m) (s:Same H H'):Urn H' u m:=by
 obtain ⟨g,c,n,e,r⟩:=h
 exact ⟨g,c,n,s _ _ e,r⟩
theorem Urn.ne {H:Hp}{u p:Addr}{m:Nat} (h:Urn H u m) (e:H p=none):p≠u:=by
 obtain ⟨g,c,n,q,_⟩:=h
 exact λ z=>by rw [z,q] at e;cases e
def spUrn (K:PySem.W.Frag):Sp:=λ vs H Q _=>∃ (a:Addr) (ns:List Int) (k:Int),vs=[.ref a,.int k]/\SqL K H a (ns.map V.int)/\0≤k/\k≤100 /\
 ∀ (r:Addr) (H':Hp),Same H H'->H r=none->Urn H' r 0->Q (.ref r) H'
def spDraw:Sp:=λ vs H Q _=>∃ (u:Addr) (wd:Int) (m:Nat),vs=[.ref u,.int wd]/\Urn H u m/\m≤1000000/\0<wd/\wd<1073741824 /\
 ∀ (d:Int) (H':Hp),0≤d->d<wd->SB u H H'->Urn H' u (m+1)->Q (.int d) H'
theorem Zlg {i:Int}{n:Nat} (h0:0≤i) (h:i<2 ^ n):i.natAbs<2 ^ n:=by
 have e:((i.natAbs:Nat):Int)=i:=Int.natAbs_of_nonneg h0
 have:((i.natAbs:Nat):Int)<((2 ^ n:Nat):Int):=by rw [e];simpa using h
 exact_mod_cast this
theorem prime7 (j:Int):∃ q:Int,atI [V.int 2147483647,V.int 2147483629,V.int 2147483587,V.int 2147483579,V.int 2147483563,V.int 2147483549,V.int 2147483543] (j % 7)=some (.int q)/\0<q/\q≤2147483647:=by
 have h0:=Int.emod_nonneg j (show (7:Int)≠0 by decide)
 have h1:=Int.emod_lt_of_pos j (show (0:Int)<7 by decide)
 have:j % 7=0 \/ j % 7=1 \/ j % 7=2 \/ j % 7=3 \/ j % 7=4 \/ j % 7=5 \/ j % 7=6:=by omega
 rcases this with e|e|e|e|e|e|e <;> rw [e] <;> exact ⟨_,rfl,by decide,by decide⟩
end L2
namespace L2
open PySem PySem.Spec PyProof.Rows
section
variable {X:Cx}{Nc:List Str}{scope:Scope}{cs:List (Str × Addr)}{C:Addr}{s:Shared}{H:Hp}{fp:List Addr}{x:Str}{pos:Pos}
theorem Zib:(cxComp X Nc scope cs C s H fp).env.scope.names.lookup x=(scope.names.lookup x).map λ k=>if (k == NameKind.free && X.env.scope.kind == .function && X.env.kindOf x == some .cell) then .cell else k:=Zfv
theorem Zj0 (h:scope.names.lookup x=some .local):(cxComp X Nc scope cs C s H fp).env.scope.names.lookup x=some .local:=by rw [Zib,h];rfl
theorem Zsz (h:scope.names.lookup x=some .cell):(cxComp X Nc scope cs C s H fp).env.scope.names.lookup x=some .cell:=by rw [Zib,h];rfl
theorem Zcz (h:scope.names.lookup x=some .globalImplicit:=by rfl):Gl (cxComp X Nc scope cs C s H fp) x:=by
 show (cxComp X Nc scope cs C s H fp).env.scope.names.lookup x=_
 rw [Zib,h];rfl
theorem Zwh (h:scope.names.lookup x=some .free):Vis (cxComp X Nc scope cs C s H fp).env.scope x:=by
 unfold Vis
 rw [Zib,h]
 simp only [map_some]
 split
 ·exact .inr (.inl rfl)
 ·exact .inr (.inr rfl)
theorem pvl (i:Nat) (hN:Nc[i]? = some x:=by rfl) (hk:scope.names.lookup x=some .local:=by rfl) (hd:(x == ("__debug__" : Str))=false:=by decide) (hcd:(x == ("__classdict__" : Str))=false:=by decide):PE (cxComp X Nc scope cs C s H fp) (.Name x pos) (tVar i):=
 Zu1 (X:=cxComp X Nc scope cs C s H fp) hN (.inl (Zj0 hk)) hd hcd
theorem pvf (i:Nat) (hN:Nc[i]? = some x:=by rfl) (hk:scope.names.lookup x=some .free:=by rfl) (hd:(x == ("__debug__" : Str))=false:=by decide) (hcd:(x == ("__classdict__" : Str))=false:=by decide):PE (cxComp X Nc scope cs C s H fp) (.Name x pos) (tVar i):=
 Zu1 (X:=cxComp X Nc scope cs C s H fp) hN (Zwh hk) hd hcd
theorem pgl (i:Nat) (hN:Nc.Nodup) (hi:Nc[i]? = some x:=by rfl) (hk:scope.names.lookup x=some .local:=by rfl):PG (cxComp X Nc scope cs C s H fp) (.Name x pos) (gName i):=
 Zqe (X:=cxComp X Nc scope cs C s H fp) hN hi (.inl (Zj0 hk)) (.inr (Zj0 hk))
theorem pgc (i:Nat) (hN:Nc.Nodup) (hi:Nc[i]? = some x:=by rfl) (hk:scope.names.lookup x=some .cell:=by rfl):PG (cxComp X Nc scope cs C s H fp) (.Name x pos) (gName i):=
 Zqe (X:=cxComp X Nc scope cs C s H fp) hN hi (.inr (Zsz hk)) (.inl (by show (scope.names.lookup x == some .cell)=true;rw [hk];rfl))
end
end L2
namespace L2
open PySem PySem.Spec PyProof.Rows
@[irreducible] def IPE (X:Cx) (e:Expr) (t:TE):Prop:=PE X e t
theorem Zb4 {X:Cx}{e:Expr}{t:TE}:IPE X e t=PE X e t:=by unfold IPE;rfl
@[irreducible] def IPT (X:Cx) (e:Expr) (t:TT):Prop:=PT X e t
theorem Zb7 {X:Cx}{e:Expr}{t:TT}:IPT X e t=PT X e t:=by unfold IPT;rfl
@[irreducible] def IPW (X:Cx) (e:Expr) (t:TT):Prop:=PW X e t
theorem Zbf {X:Cx}{e:Expr}{t:TT}:IPW X e t=PW X e t:=by unfold IPW;rfl
@[irreducible] def IPA (X:Cx) (e:List Expr) (t:TA):Prop:=PA X e t
theorem Zba {X:Cx}{e:List Expr}{t:TA}:IPA X e t=PA X e t:=by unfold IPA;rfl
@[irreducible] def IPK (X:Cx) (e:List Keyword) (t:TA):Prop:=PK X e t
theorem Zbe {X:Cx}{e:List Keyword}{t:TA}:IPK X e t=PK X e t:=by unfold IPK;rfl
@[irreducible] def IPS (X:Cx) (e:Stmt) (t:TS):Prop:=PS X e t
theorem Zb8 {X:Cx}{e:Stmt}{t:TS}:IPS X e t=PS X e t:=by unfold IPS;rfl
@[irreducible] def IPSs (X:Cx) (e:List Stmt) (t:TS):Prop:=PSs X e t
theorem Zaw {X:Cx}{e:List Stmt}{t:TS}:IPSs X e t=PSs X e t:=by unfold IPSs;rfl
@[irreducible] def IPG (X:Cx) (e:Expr) (t:TG):Prop:=PG X e t
theorem Zbi {X:Cx}{e:Expr}{t:TG}:IPG X e t=PG X e t:=by unfold IPG;rfl
@[irreducible] def IPGs (X:Cx) (e:List Expr) (t:TGs):Prop:=PGs X e t
theorem Zax {X:Cx}{e:List Expr}{t:TGs}:IPGs X e t=PGs X e t:=by unfold IPGs;rfl
@[irreducible] def IPI (X:Cx) (tg e:Expr) (t:TI):Prop:=PI X tg e t
theorem Zbd {X:Cx}{tg e:Expr}{t:TI}:IPI X tg e t=PI X tg e t:=by unfold IPI;rfl
@[irreducible] def IPO (X:Cx) (e:Option Expr) (t:TO):Prop:=PO X e t
theorem Zbj {X:Cx}{e:Option Expr}{t:TO}:IPO X e t=PO X e t:=by unfold IPO;rfl
@[irreducible] def IPTs (X:Cx) (e:List Expr) (t:TT):Prop:=PTs X e t
theorem Zay {X:Cx}{e:List Expr}{t:TT}:IPTs X e t=PTs X e t:=by unfold IPTs;rfl
theorem IPSs.get {X:Cx}{e:List Stmt}{t:TS} (h:IPSs X e t):PSs X e t:=by rw [<- Zaw];exact h
theorem IPW.pt {X:Cx}{e:Expr}{t:TT} (h:IPW X e t):IPT X e t:=by rw [Zb7];rw [Zbf] at h;exact h.pt
theorem Za6 {X:Cx}{i j pos}:IPE X (.Constant (.int i) j pos) (tC (.int i)):=by
 simp only [Zb4,Zb7,Zbf,Zba,Zbe,Zb8,Zaw,Zbi,Zax,Zbd,Zbj,Zay] at *
 exact Zzb 
theorem Zd0 {X:Cx}{b j pos}:IPE X (.Constant (.bool b) j pos) (tC (.bl b)):=by
 simp only [Zb4,Zb7,Zbf,Zba,Zbe,Zb8,Zaw,Zbi,Zax,Zbd,Zbj,Zay] at *
 exact Yae 
theorem Zhj {X:Cx}{j pos}:IPE X (.Constant .none j pos) (tC .non):=by
 simp only [Zb4,Zb7,Zbf,Zba,Zbe,Zb8,Zaw,Zbi,Zax,Zbd,Zbj,Zay] at *
 exact Zzd 
theorem Zca {X:Cx}{x j pos}:IPE X (.Constant (.str x) j pos) (tC (.str x)):=by
 simp only [Zb4,Zb7,Zbf,Zba,Zbe,Zb8,Zaw,Zbi,Zax,Zbd,Zbj,Zay] at *
 exact Zzh 
theorem Zh5 {X:Cx}{op:UnaryOp}{r:V->Hp->VK->Prop} (ho:UnR X (unaryOp op) r) (ha:IPE X a ta):IPE X (.UnaryOp op a pos) (tUn r ta):=by
 simp only [Zb4,Zb7,Zbf,Zba,Zbe,Zb8,Zaw,Zbi,Zax,Zbd,Zbj,Zay] at *
 exact Yai (ho:=ho) (ha:=ha)
theorem Zv8 {X:Cx} (ha:IPE X a ta):IPE X (.UnaryOp .Not a pos) (tNotV ta):=by
 simp only [Zb4,Zb7,Zbf,Zba,Zbe,Zb8,Zaw,Zbi,Zax,Zbd,Zbj,Zay] at *
 exact Zze (ha:=ha)
theorem Zam {X:Cx}{op:Operator}{r:R2} (ho:OpR X (binaryOp op) r) (ha:IPE X a ta) (hb:IPE X b tb):IPE X (.BinOp a op b pos) (tOp r ta tb):=by
 simp only [Zb4,Zb7,Zbf,Zba,Zbe,Zb8,Zaw,Zbi,Zax,Zbd,Zbj,Zay] at *
 exact Yah (ho:=ho) (ha:=ha) (hb:=hb)
theorem Zdq {X:Cx}{op:CmpOp}{r:R2} (ho:OpR X (compareOp op) r) (ha:IPE X a ta) (hb:IPE X b tb) (hm:behindInMarks op b=false):IPE X (.Compare a [op] [b] pos) (tOp r ta tb):=by
 simp only [Zb4,Zb7,Zbf,Zba,Zbe,Zb8,Zaw,Zbi,Zax,Zbd,Zbj,Zay] at *
 exact Zxp (ho:=ho) (ha:=ha) (hb:=hb) (hm:=hm)
theorem Zfh {X:Cx}{rest:List Expr} (ha:IPE X a ta) (hb:IPE X (.BoolOp .And (b::rest) pos) tb):IPE X (.BoolOp .And (a::b::rest) pos) (tAndV ta tb):=by
 simp only [Zb4,Zb7,Zbf,Zba,Zbe,Zb8,Zaw,Zbi,Zax,Zbd,Zbj,Zay] at *
 exact Zz9 (ha:=ha) (hb:=hb)
theorem Zgf {X:Cx}{op}{t:TE} (h:IPE X a t):IPE X (.BoolOp op [a] pos) t:=by
 simp only [Zb4,Zb7,Zbf,Zba,Zbe,Zb8,Zaw,Zbi,Zax,Zbd,Zbj,Zay] at *
 exact Zzf (h:=h)
theorem Zj8 {X:Cx}{c:Expr} (hc:IPT X c tA) (ha:IPE X a ta) (hb:IPE X b tb):IPE X (.IfExp c a b pos) (tIf tA ta tb):=by
 simp only [Zb4,Zb7,Zbf,Zba,Zbe,Zb8,Zaw,Zbi,Zax,Zbd,Zbj,Zay] at *
 exact Zvp (hc:=hc) (ha:=ha) (hb:=hb)
theorem Zbs {X:Cx} (h:IPA X es t):IPE X (.List es pos) (tLst t):=by
 simp only [Zb4,Zb7,Zbf,Zba,Zbe,Zb8,Zaw,Zbi,Zax,Zbd,Zbj,Zay] at *
 exact Zzc (h:=h)
theorem Zaq {X:Cx}{x1} (h:IPA X es t):IPE X (.Tuple es x1 pos) (tTup t):=by
 simp only [Zb4,Zb7,Zbf,Zba,Zbe,Zb8,Zaw,Zbi,Zax,Zbd,Zbj,Zay] at *
 exact Zzi (h:=h)
theorem Zg1 {X:Cx}{lo:Option Expr}{hi:Option Expr}{th:TO}{tl:TO}{r:V->Option Int->Option Int->Hp->VK->Prop} (hr:SlR X r) (he:IPE X e te) (hl:IPO X lo tl) (hu:IPO X hi th):IPE X (.Subscript e (.Slice lo hi none p2) pos) (tSl r te tl th):=by
 simp only [Zb4,Zb7,Zbf,Zba,Zbe,Zb8,Zaw,Zbi,Zax,Zbd,Zbj,Zay] at *
 exact Zvq (hr:=hr) (he:=he) (hl:=hl) (hu:=hu)
theorem Zh6 {X:Cx}:IPO X none tNoPart:=by
 simp only [Zb4,Zb7,Zbf,Zba,Zbe,Zb8,Zaw,Zbi,Zax,Zbd,Zbj,Zay] at *
 exact Zxz 
theorem Zh7 {X:Cx} (h:IPE X e te):IPO X (some e) (tPart te):=by
 simp only [Zb4,Zb7,Zbf,Zba,Zbe,Zb8,Zaw,Zbi,Zax,Zbd,Zbj,Zay] at *
 exact Zy0 (h:=h)
theorem Zan {X:Cx}{r:R2} (hr:IxR X r) (ha:IPE X a ta) (hb:IPE X b tb) (hs:PlainIx b):IPE X (.Subscript a b pos) (tOp r ta tb):=by
 simp only [Zb4,Zb7,Zbf,Zba,Zbe,Zb8,Zaw,Zbi,Zax,Zbd,Zbj,Zay] at *
 exact Yag (hr:=hr) (ha:=ha) (hb:=hb) (hs:=hs)
theorem Zad {X:Cx}{id:String} (hc:CallR X (.builtin id) r) (hg:Gl X x) (hm:X.mg x=none) (hv:bootBuiltins x=some (.builtin id)) (ha:IPA X (e::es) t) (hn:x≠"__name__":=by decide) (hdb:(x == ("__debug__" : Str))=false:=by decide)
  (he:starEach (e::es) X.env=(false,eval e X.env)::starEach es X.env:=by rfl) (hpl:(backTo pos (starEach es X.env)).any (·.1)=false:=by rfl):IPE X (.Call (.Name x p) (e::es) [] pos) (tCB r t):=by
 simp only [Zb4,Zb7,Zbf,Zba,Zbe,Zb8,Zaw,Zbi,Zax,Zbd,Zbj,Zay] at *
 exact Zvl (hc:=hc) (hg:=hg) (hm:=hm) (hv:=hv) (ha:=ha) (hn:=hn) (hdb:=hdb) (he:=he) (hpl:=hpl)
theorem Zb9 {X:Cx}{T:String} (hc:CallR X (.type T) r) (hg:Gl X x) (hm:X.mg x=none) (hv:bootBuiltins x=some (.type T)) (ha:IPA X (e::es) t) (hn:x≠"__name__":=by decide) (hdb:(x == ("__debug__" : Str))=false:=by decide)
  (he:starEach (e::es) X.env=(false,eval e X.env)::starEach es X.env:=by rfl) (hpl:(backTo pos (starEach es X.env)).any (·.1)=false:=by rfl):IPE X (.Call (.Name x p) (e::es) [] pos) (tCB r t):=by
 simp only [Zb4,Zb7,Zbf,Zba,Zbe,Zb8,Zaw,Zbi,Zax,Zbd,Zbj,Zay] at *
 exact Zu0 (hc:=hc) (hg:=hg) (hm:=hm) (hv:=hv) (ha:=ha) (hn:=hn) (hdb:=hdb) (he:=he) (hpl:=hpl)
theorem Zac {X:Cx}{st:Stmt}{sp:Sp}{ps:List Str} (D:Dn X.prog X.w X.K X.mg X.base k x st ps sp) (hb:BindsAll x st ps) (hr:Room k X.A) (ha:IPA X (e::es) t) (hg:Gl X x:=by rfl) (hs:starEach (e::es) X.env=(false,eval e X.env)::starEach es X.env:=by rfl) (hpl:(backTo pos (starEach es X.env)).any (·.1)=false:=by rfl)
  (hdb:(x == ("__debug__" : Str))=false:=by decide):IPE X (.Call (.Name x p) (e::es) [] pos) (tCall sp [] E0 t):=by
 simp only [Zb4,Zb7,Zbf,Zba,Zbe,Zb8,Zaw,Zbi,Zax,Zbd,Zbj,Zay] at *
 exact Zza (D:=D) (hb:=hb) (hr:=hr) (ha:=ha) (hg:=hg) (hs:=hs) (hpl:=hpl) (hdb:=hdb)
theorem Zox {X:Cx}{st:Stmt}{sp:Sp}{kws:List Keyword}{tk:TA}{ps:List Str}{ks:List Str}{pick:List (Bool × Nat)}{na:Nat}{nk:Nat} (D:Dn X.prog X.w X.K X.mg X.base k x st ps sp) (hb:KBindsAll x st ps ks na nk pick) (hr:Room k X.A) (ha:IPA X (e::es) t) (hkw:IPK X kws tk) (hg:Gl X x:=by rfl) (hall:(backToKw pos (keywordEach kws X.env)).all (·.1.isSome)=true:=by rfl) (hks:(backToKw pos (keywordEach kws X.env)).filterMap (·.1)=ks:=by rfl)
  (hdb:(x == ("__debug__" : Str))=false:=by decide) (he:starEach (e::es) X.env=(false,eval e X.env)::starEach es X.env:=by rfl)
  (hpl:((backTo pos (starEach (e::es) X.env)).any (·.1) || (backToKw pos (keywordEach kws X.env)).any (·.1.isNone))=false:=by rfl):IPE X (.Call (.Name x p) (e::es) kws pos) (tCallK sp (gaP na nk pick) E0 t tk):=by
 simp only [Zb4,Zb7,Zbf,Zba,Zbe,Zb8,Zaw,Zbi,Zax,Zbd,Zbj,Zay] at *
 exact Zxr (D:=D) (hb:=hb) (hr:=hr) (ha:=ha) (hkw:=hkw) (hg:=hg) (hall:=hall) (hks:=hks) (hdb:=hdb) (he:=he) (hpl:=hpl)
theorem Zd7 {X:Cx}{id:String}{T:String}{name:Str}{to:TE} (pa:PlainAttrs T) (slot:Slot T name id) (hty:typeOf (.builtin id)=pure (.type "method_descriptor")) (hm:MtR X id r) (ho:IPE X o to) (ha:IPA X (e::es) t)
  (hbase:attributeBase o name X.env (eval o X.env)=eval o X.env:=by rfl)
  (hfew:((backTo cpos (starEach (e::es) X.env)).all (λ x=>!x.1) && (backToKw cpos (keywordEach [] X.env)).all (λ x=>x.1.isSome)
   && decide ((e::es).length+([]:List Keyword).length+(if ([]:List Keyword).isEmpty then 0 else 1)<30))=true:=by rfl)
  (hline:(apos.endLine == cpos.line)=true:=by rfl) (hs:starEach (e::es) X.env=(false,eval e X.env)::starEach es X.env:=by rfl) (hplain:(backTo cpos (starEach es X.env)).any (·.1)=false:=by rfl) :
  IPE X (.Call (.Attribute o name apos) (e::es) [] cpos) (tBM X.K T r to t):=by
 simp only [Zb4,Zb7,Zbf,Zba,Zbe,Zb8,Zaw,Zbi,Zax,Zbd,Zbj,Zay] at *
 exact Yaf (pa:=pa) (slot:=slot) (hty:=hty) (hm:=hm) (ho:=ho) (ha:=ha) (hbase:=hbase) (hfew:=hfew) (hline:=hline) (hs:=hs) (hplain:=hplain)
theorem Zem {X:Cx}{x:Str}{v:V}{u:Value}{pos:Pos} (hg:Gl X x) (hm:X.mg x=none) (hv:bootBuiltins x=some u) (r:RelV v u) (hn:x≠"__name__":=by decide) (hd:(x == ("__debug__" : Str))=false:=by decide):IPE X (.Name x pos) (tC v):=by
 simp only [Zb4,Zb7,Zbf,Zba,Zbe,Zb8,Zaw,Zbi,Zax,Zbd,Zbj,Zay] at *
 exact Zxn (hg:=hg) (hm:=hm) (hv:=hv) (r:=r) (hn:=hn) (hd:=hd)
theorem Zb2 {X:Cx}{elt tg iter:Expr}{ifs:List Expr}{scope:Scope}{pos:Pos}{Nc:List Str}{cap:List (Option Nat)}{wi:TI}{g:TG}{tt:TT}{te:TE}
  (hc:X.calm=true) (hi:IPI X tg iter wi) (ok:capOk X Nc cap scope=true) (hg:∀ cs C s H fp,IPG (cxComp X Nc scope cs C s H fp) tg g) (ht:∀ cs C s H fp,IPTs (cxComp X Nc scope cs C s H fp) ifs tt)
  (he:∀ cs C s H fp,IPE (cxComp X Nc scope cs C s H fp) elt te) (hk:scope.kind = .function:=by rfl) (hs:∀ x,foldedSetIterable iter X.env x=pure x:=by intro _;rfl) :
  IPE X (.ListComp elt [⟨tg,iter,ifs,0⟩] scope pos) (tComp wi cap g tt (tEmit te)):=by
 simp only [Zb4,Zb7,Zbf,Zba,Zbe,Zb8,Zaw,Zbi,Zax,Zbd,Zbj,Zay] at *
 exact Zxq (hc:=hc) (hi:=hi) (ok:=ok) (hg:=hg) (ht:=ht) (he:=he) (hk:=hk) (hs:=hs)
theorem Zmk {X:Cx}{elt tg iter tg2 iter2:Expr}{scope:Scope}{pos:Pos}{Nc:List Str}{cap:List (Option Nat)}{wi wi2:TI}{g g2:TG}{te:TE}
  (hc:X.calm=true) (hi:IPI X tg iter wi) (ok:capOk X Nc cap scope=true) (hg:∀ cs C s H fp,IPG (cxComp X Nc scope cs C s H fp) tg g)
  (hi2:∀ cs C s H fp,IPI (cxComp X Nc scope cs C s H fp) tg2 iter2 wi2) (hg2:∀ cs C s H fp,IPG (cxComp X Nc scope cs C s H fp) tg2 g2)
  (he:∀ cs C s H fp,IPE (cxComp X Nc scope cs C s H fp) elt te) (hk:scope.kind = .function:=by rfl) (hs:∀ x,foldedSetIterable iter X.env x=pure x:=by intro _;rfl)
  (hs2:∀ env x,foldedSetIterable iter2 env x=pure x:=by intro _ _;rfl) :
  IPE X (.ListComp elt [⟨tg,iter,[],0⟩,⟨tg2,iter2,[],0⟩] scope pos) (tComp wi cap g tYes (tLoop wi2 g2 tYes (tEmit te))):=by
 simp only [Zb4,Zb7,Zbf,Zba,Zbe,Zb8,Zaw,Zbi,Zax,Zbd,Zbj,Zay] at *
 exact Zvm (hc:=hc) (hi:=hi) (ok:=ok) (hg:=hg) (hi2:=hi2) (hg2:=hg2) (he:=he) (hk:=hk) (hs:=hs) (hs2:=hs2)
theorem Zfj {X:Cx}{i:Nat}{x:Str}{elt tg iter:Expr}{ifs:List Expr}{scope:Scope}{pos pos' spos:Pos}{Nc:List Str}{cap:List (Option Nat)}{wi:TI}{g:TG}{tt:TT}{te:TE}
  (hN:X.N.Nodup) (hx:X.N[i]? = some x) (hl:Loc X.env.scope x)
  (hc:X.calm=true) (hi:IPI X tg iter wi) (ok:capOk X Nc cap scope=true) (hg:∀ cs C s H fp,IPG (cxComp X Nc scope cs C s H fp) tg g) (ht:∀ cs C s H fp,IPTs (cxComp X Nc scope cs C s H fp) ifs tt)
  (he:∀ cs C s H fp,IPE (cxComp X Nc scope cs C s H fp) elt te) (hsw:swapsWith (.ListComp elt [⟨tg,iter,ifs,0⟩] scope pos) (some (.Name x pos')) spos.line X.env=pure true:=by rfl)
  (hk:scope.kind = .function:=by rfl) (hs:∀ x,foldedSetIterable iter X.env x=pure x:=by intro _;rfl)
  (hf:X.fn x=true \/ X.env.scope.names.lookup x=some .local:=by first|exact .inl rfl|exact .inr rfl|assumption) :
  IPS X (.Assign [.Name x pos'] (.ListComp elt [⟨tg,iter,ifs,0⟩] scope pos) spos) (tAsg (tComp wi cap g tt (tEmit te)) (gName i)):=by
 simp only [Zb4,Zb7,Zbf,Zba,Zbe,Zb8,Zaw,Zbi,Zax,Zbd,Zbj,Zay] at *
 exact Zsk (hN:=hN) (hx:=hx) (hl:=hl) (hc:=hc) (hi:=hi) (ok:=ok) (hg:=hg) (ht:=ht) (he:=he) (hsw:=hsw) (hk:=hk) (hs:=hs) (hf:=hf)
theorem Zal {X:Cx}{op:CmpOp}{r:R2} (ho:OpR X (compareOp op) r) (ha:IPE X a ta) (hb:IPE X b tb) (hm:behindInMarks op b=false):IPT X (.Compare a [op] [b] pos) (tTest (tOp r ta tb)):=by
 simp only [Zb4,Zb7,Zbf,Zba,Zbe,Zb8,Zaw,Zbi,Zax,Zbd,Zbj,Zay] at *
 exact Zy5 (ho:=ho) (ha:=ha) (hb:=hb) (hm:=hm)
theorem Zdo {X:Cx} (ha:IPT X a tA):IPT X (.UnaryOp .Not a pos) (tNot tA):=by
 simp only [Zb4,Zb7,Zbf,Zba,Zbe,Zb8,Zaw,Zbi,Zax,Zbd,Zbj,Zay] at *
 exact Zzu (ha:=ha)
theorem Ze6 {X:Cx}{rest:List Expr} (ha:IPT X a tA) (hb:IPW X (.BoolOp .And (b::rest) pos) tB'):IPW X (.BoolOp .And (a::b::rest) pos) (tAnd tA tB'):=by
 simp only [Zb4,Zb7,Zbf,Zba,Zbe,Zb8,Zaw,Zbi,Zax,Zbd,Zbj,Zay] at *
 exact Zzx (ha:=ha) (hb:=hb)
theorem Ze1 {X:Cx} (ha:IPT X a tA):IPW X (.BoolOp .And [a] pos) tA:=by
 simp only [Zb4,Zb7,Zbf,Zba,Zbe,Zb8,Zaw,Zbi,Zax,Zbd,Zbj,Zay] at *
 exact Zy8 (ha:=ha)
theorem Zgg {X:Cx}{rest:List Expr} (ha:IPT X a tA) (hb:IPW X (.BoolOp .Or (b::rest) pos) tB'):IPW X (.BoolOp .Or (a::b::rest) pos) (tOr tA tB'):=by
 simp only [Zb4,Zb7,Zbf,Zba,Zbe,Zb8,Zaw,Zbi,Zax,Zbd,Zbj,Zay] at *
 exact Yak (ha:=ha) (hb:=hb)
theorem Zfk {X:Cx} (ha:IPT X a tA):IPW X (.BoolOp .Or [a] pos) tA:=by
 simp only [Zb4,Zb7,Zbf,Zba,Zbe,Zb8,Zaw,Zbi,Zax,Zbd,Zbj,Zay] at *
 exact Zzy (ha:=ha)
theorem Zdt {X:Cx}{e:Expr}{t:TE} (h:IPE X e t) (he:∀ whole,isTrue e X.env whole=(do let v <- whole;standAt e.pos;holding [v] (truthy v)):=by intro _;rfl):IPT X e (tB t):=by
 simp only [Zb4,Zb7,Zbf,Zba,Zbe,Zb8,Zaw,Zbi,Zax,Zbd,Zbj,Zay] at *
 exact Zzv (h:=h) (he:=he)
theorem Za3 {X:Cx}:IPA X [] tNil:=by
 simp only [Zb4,Zb7,Zbf,Zba,Zbe,Zb8,Zaw,Zbi,Zax,Zbd,Zbj,Zay] at *
 exact Zz7 
theorem Za0 {X:Cx} (ha:IPE X e te) (hr:IPA X es t) (hs:starEach (e::es) X.env=(false,eval e X.env)::starEach es X.env:=by rfl):IPA X (e::es) (tCons te t):=by
 simp only [Zb4,Zb7,Zbf,Zba,Zbe,Zb8,Zaw,Zbi,Zax,Zbd,Zbj,Zay] at *
 exact Zxm (ha:=ha) (hr:=hr) (hs:=hs)
theorem Zfi {X:Cx}:IPK X [] tNil:=by
 simp only [Zb4,Zb7,Zbf,Zba,Zbe,Zb8,Zaw,Zbi,Zax,Zbd,Zbj,Zay] at *
 exact Zzn 
theorem Zen {X:Cx}{kws:List Keyword} (ha:IPE X e te) (hr:IPK X kws t):IPK X (⟨nm,e,kpos⟩::kws) (tCons te t):=by
 simp only [Zb4,Zb7,Zbf,Zba,Zbe,Zb8,Zaw,Zbi,Zax,Zbd,Zbj,Zay] at *
 exact Zxx (ha:=ha) (hr:=hr)
theorem Zbt {X:Cx}{a:Expr}{ta:TA}{p pos:Pos} (hg:Gl X "range") (hm:X.mg "range" = none) (ha:IPA X [a] ta) (hs:starEach [a] X.env=[(false,eval a X.env)]:=by rfl):IPI X tg (.Call (.Name "range" p) [a] [] pos) (iRng1 ta):=by
 simp only [Zb4,Zb7,Zbf,Zba,Zbe,Zb8,Zaw,Zbi,Zax,Zbd,Zbj,Zay] at *
 exact Zu2 (hg:=hg) (hm:=hm) (ha:=ha) (hs:=hs)
theorem Zd3 {X:Cx}{l:Expr}{tl:TE} (hl:IPE X l tl):IPI X tg l (iList X.K tl):=by
 simp only [Zb4,Zb7,Zbf,Zba,Zbe,Zb8,Zaw,Zbi,Zax,Zbd,Zbj,Zay] at *
 exact Zxw (hl:=hl)
theorem Zbu {X:Cx}{l:Expr}{tl:TE} (hl:IPE X l tl):IPI X tg l (iTup X.K tl):=by
 simp only [Zb4,Zb7,Zbf,Zba,Zbe,Zb8,Zaw,Zbi,Zax,Zbd,Zbj,Zay] at *
 exact Zzl (hl:=hl)
theorem Zka {X:Cx}{elts:List Expr}{kk:Nat}{tp:Pos}{a b:Expr}{ta:TA}{p pos:Pos} (t1 t2:Bool) (hg:Gl X "zip") (hm:X.mg "zip" = none) (ha:IPA X [a,b] ta) (hs:starEach [a,b] X.env=[(false,eval a X.env),(false,eval b X.env)]:=by rfl) (hs2:starEach [b] X.env=[(false,eval b X.env)]:=by rfl) :
  IPI X (.Tuple elts kk tp) (.Call (.Name "zip" p) [a,b] [] pos) (iZip X.K t1 t2 ta):=by
 simp only [Zb4,Zb7,Zbf,Zba,Zbe,Zb8,Zaw,Zbi,Zax,Zbd,Zbj,Zay] at *
 exact Zzm (t1:=t1) (t2:=t2) (hg:=hg) (hm:=hm) (ha:=ha) (hs:=hs) (hs2:=hs2)
theorem Zaf {X:Cx}{i:Nat}{x:Str} (hN:X.N.Nodup) (hi:X.N[i]? = some x) (hx:Loc X.env.scope x) (hf:X.fn x=true \/ X.env.scope.names.lookup x=some .local:=by first|exact .inl rfl|exact .inr rfl|assumption):IPG X (.Name x pos) (gName i):=by
 simp only [Zb4,Zb7,Zbf,Zba,Zbe,Zb8,Zaw,Zbi,Zax,Zbd,Zbj,Zay] at *
 exact Zqe (hN:=hN) (hi:=hi) (hx:=hx) (hf:=hf)
theorem Zc3 {X:Cx} (i:Nat) (hN:Nc.Nodup) (hi:Nc[i]? = some x:=by rfl) (hk:scope.names.lookup x=some .local:=by rfl):IPG (cxComp X Nc scope cs C s H fp) (.Name x pos) (gName i):=by
 simp only [Zb4,Zb7,Zbf,Zba,Zbe,Zb8,Zaw,Zbi,Zax,Zbd,Zbj,Zay] at *
 exact pgl (i:=i) (hN:=hN) (hi:=hi) (hk:=hk)
theorem Yad {X:Cx} (i:Nat) (hN:Nc.Nodup) (hi:Nc[i]? = some x:=by rfl) (hk:scope.names.lookup x=some .cell:=by rfl):IPG (cxComp X Nc scope cs C s H fp) (.Name x pos) (gName i):=by
 simp only [Zb4,Zb7,Zbf,Zba,Zbe,Zb8,Zaw,Zbi,Zax,Zbd,Zbj,Zay] at *
 exact pgc (i:=i) (hN:=hN) (hi:=hi) (hk:=hk)
theorem Zc7 {X:Cx} (i:Nat) (hN:Nc[i]? = some x:=by rfl) (hk:scope.names.lookup x=some .local:=by rfl) (hd:(x == ("__debug__" : Str))=false:=by decide) (hcd:(x == ("__classdict__" : Str))=false:=by decide):IPE (cxComp X Nc scope cs C s H fp) (.Name x pos) (tVar i):=by
 simp only [Zb4,Zb7,Zbf,Zba,Zbe,Zb8,Zaw,Zbi,Zax,Zbd,Zbj,Zay] at *
 exact pvl (i:=i) (hN:=hN) (hk:=hk) (hd:=hd) (hcd:=hcd)
theorem Ze0 {X:Cx} (i:Nat) (hN:Nc[i]? = some x:=by rfl) (hk:scope.names.lookup x=some .free:=by rfl) (hd:(x == ("__debug__" : Str))=false:=by decide) (hcd:(x == ("__classdict__" : Str))=false:=by decide):IPE (cxComp X Nc scope cs C s H fp) (.Name x pos) (tVar i):=by
 simp only [Zb4,Zb7,Zbf,Zba,Zbe,Zb8,Zaw,Zbi,Zax,Zbd,Zbj,Zay] at *
 exact pvf (i:=i) (hN:=hN) (hk:=hk) (hd:=hd) (hcd:=hcd)
theorem i_pv {X:Cx} (i:Nat) {x:Str}{pos:Pos} (hN:X.N[i]? = some x:=by rfl) (hv:Vis X.env.scope x:=by first|exact Or.inl rfl|exact Or.inr (Or.inl rfl)|exact Or.inr (Or.inr rfl)) (hd:(x == ("__debug__" : Str))=false:=by decide)
  (hcd:(x == ("__classdict__" : Str))=false:=by decide):IPE X (.Name x pos) (tVar i):=by
 simp only [Zb4,Zb7,Zbf,Zba,Zbe,Zb8,Zaw,Zbi,Zax,Zbd,Zbj,Zay] at *
 exact pv (i:=i) (hN:=hN) (hv:=hv) (hd:=hd) (hcd:=hcd)
theorem Zcj {X:Cx}{es:List Expr}{k:Nat}{t:TGs}{n:Nat} (hc:X.calm=true) (h:IPGs X es t)
  (hn:(assignEach es X.env).length=n:=by rfl) (hst:(assignEach es X.env).findIdx? (·.1)=none:=by rfl):IPG X (.Tuple es k pos) (gTup X.K n t):=by
 simp only [Zb4,Zb7,Zbf,Zba,Zbe,Zb8,Zaw,Zbi,Zax,Zbd,Zbj,Zay] at *
 exact Zzk (hc:=hc) (h:=h) (hn:=hn) (hst:=hst)
theorem Zau {X:Cx}:IPGs X [] gNil:=by
 simp only [Zb4,Zb7,Zbf,Zba,Zbe,Zb8,Zaw,Zbi,Zax,Zbd,Zbj,Zay] at *
 exact Zxu 
theorem Za8 {X:Cx}{e:Expr}{es:List Expr}{t:TG}{u:TGs} (h1:IPG X e t) (h2:IPGs X es u)
  (hs:(assignEach (e::es) X.env).map (·.2)=assign e X.env::(assignEach es X.env).map (·.2):=by rfl):IPGs X (e::es) (gCons t u):=by
 simp only [Zb4,Zb7,Zbf,Zba,Zbe,Zb8,Zaw,Zbi,Zax,Zbd,Zbj,Zay] at *
 exact Zvr (h1:=h1) (h2:=h2) (hs:=hs)
theorem Zr6 {X:Cx}{o i:Expr}{to ti:TE}{t:TSet} (ho:IPE X o to) (hi:IPE X i ti) (hs:PSet X t)
  (ha:∀ v,assign (.Subscript o i pos) X.env v=(do
   let ov <- holding [v] (eval o X.env)
   let iv <- holding [v,ov] (eval i X.env)
   standAt pos
   holding [v,ov,iv] (setItem ov iv v)
   release [v,ov,iv] []):=by intro _;rfl):IPG X (.Subscript o i pos) (gSub to ti t):=by
 simp only [Zb4,Zb7,Zbf,Zba,Zbe,Zb8,Zaw,Zbi,Zax,Zbd,Zbj,Zay] at *
 exact Zzj (ho:=ho) (hi:=hi) (hs:=hs) (ha:=ha)
theorem Zap {X:Cx}:IPSs X [] tNext:=by
 simp only [Zb4,Zb7,Zbf,Zba,Zbe,Zb8,Zaw,Zbi,Zax,Zbd,Zbj,Zay] at *
 exact Zy3 
theorem Za4 {X:Cx}{rest:List Stmt}{st:Stmt} (h1:IPS X st t) (h2:IPSs X rest u):IPSs X (st::rest) (tSeq t u):=by
 simp only [Zb4,Zb7,Zbf,Zba,Zbe,Zb8,Zaw,Zbi,Zax,Zbd,Zbj,Zay] at *
 exact Zvw (h1:=h1) (h2:=h2)
theorem Za9 {X:Cx}{st:Stmt} (h1:IPS X st t):IPSs X [st] t:=by
 simp only [Zb4,Zb7,Zbf,Zba,Zbe,Zb8,Zaw,Zbi,Zax,Zbd,Zbj,Zay] at *
 exact Zy4 (h1:=h1)
theorem Zag {X:Cx}{i:Nat}{x:Str}{e:Expr}{te:TE}{pos':Pos} (hN:X.N.Nodup) (hi:X.N[i]? = some x) (hx:Loc X.env.scope x) (he:IPE X e te) (hs:swapsWith e (some (.Name x pos')) pos.line X.env=pure false:=by rfl) (hf:X.fn x=true \/ X.env.scope.names.lookup x=some .local:=by first|exact .inl rfl|exact .inr rfl|assumption) :
  IPS X (.Assign [.Name x pos'] e pos) (tAsg te (gName i)):=by
 simp only [Zb4,Zb7,Zbf,Zba,Zbe,Zb8,Zaw,Zbi,Zax,Zbd,Zbj,Zay] at *
 exact Zzt (hN:=hN) (hi:=hi) (hx:=hx) (he:=he) (hs:=hs) (hf:=hf)
theorem Zd9 {X:Cx}{tg e:Expr}{te:TE}{g:TG} (he:IPE X e te) (hg:IPG X tg g) (hs:swapsWithSole [tg] e pos.line X.env=pure false:=by rfl) (hw:swappedStores [tg] e X.env=pure none:=by rfl)
  (h1:(assignEach [tg] X.env).map (·.2)=[assign tg X.env]:=by rfl):IPS X (.Assign [tg] e pos) (tAsg te g):=by
 simp only [Zb4,Zb7,Zbf,Zba,Zbe,Zb8,Zaw,Zbi,Zax,Zbd,Zbj,Zay] at *
 exact Zzo (he:=he) (hg:=hg) (hs:=hs) (hw:=hw) (h1:=h1)
theorem Zbg {X:Cx}{c:Expr}{a b:List Stmt}{tc:TT} (hc:IPT X c tc) (ha:IPSs X a t) (hb:IPSs X b u):IPS X (.If c a b pos) (tIfS tc t u):=by
 simp only [Zb4,Zb7,Zbf,Zba,Zbe,Zb8,Zaw,Zbi,Zax,Zbd,Zbj,Zay] at *
 exact Yaj (hc:=hc) (ha:=ha) (hb:=hb)
theorem Zaj {X:Cx} (he:IPE X e te):IPS X (.Return (some e) pos) (tRet te):=by
 simp only [Zb4,Zb7,Zbf,Zba,Zbe,Zb8,Zaw,Zbi,Zax,Zbd,Zbj,Zay] at *
 exact Zzs (he:=he)
theorem Zch {X:Cx} (he:IPE X e te) (hs:swapsWith e none pos.line X.env=pure false:=by rfl):IPS X (.Expr e pos) (tDrop te):=by
 simp only [Zb4,Zb7,Zbf,Zba,Zbe,Zb8,Zaw,Zbi,Zax,Zbd,Zbj,Zay] at *
 exact Zy2 (he:=he) (hs:=hs)
theorem Zc6 {X:Cx}{iter:Expr}{body:List Stmt}{wi:TI}{g:TG}{tb:TS}{pos:Pos} (hp:PassesOwn (model X.prog X.w) X.A X.env X.xe) (hc:X.calm=true) (hi:IPI X tg iter wi) (hg:IPG X tg g) (hb:IPSs X body tb)
  (hs:∀ x,foldedSetIterable iter X.env x=pure x:=by intro _;rfl):IPS X (.For tg iter body [] pos) (tFor wi g tb):=by
 simp only [Zb4,Zb7,Zbf,Zba,Zbe,Zb8,Zaw,Zbi,Zax,Zbd,Zbj,Zay] at *
 exact Zzq (hp:=hp) (hc:=hc) (hi:=hi) (hg:=hg) (hb:=hb) (hs:=hs)
theorem Zb1 {Y:Cx}:IPTs Y [] tYes:=by
 simp only [Zb4,Zb7,Zbf,Zba,Zbe,Zb8,Zaw,Zbi,Zax,Zbd,Zbj,Zay] at *
 exact Zqg 
theorem Zl1 {Y:Cx}{c:Expr}{t:TT} (h:IPT Y c t):IPTs Y [c] t:=by
 simp only [Zb4,Zb7,Zbf,Zba,Zbe,Zb8,Zaw,Zbi,Zax,Zbd,Zbj,Zay] at *
 exact Zy7 (h:=h)
end L2
namespace L2
open PySem PySem.Spec PyProof.Rows
open AutoSeq1 (wpAny_loadPart')
section
variable {prog:Program}{w:World}{A:Around}{E:Value->Shared->Prop}{s:Shared}
theorem Zs4 {t:Bool}{e it l:Addr}{i:Nat}{items:Array Value}{x old:Value}{Q:Option Value->Shared->Prop} (he:IsEnum s.heap e it i old) (hit:SIt t s.heap it l i) (hl:SAt t s.heap l items) (hx:items[i]? = some x) (hne:e≠it)
  (hQ:∀ h',IsEnumOut h' e it ((i:Int)+1) x s.heap.objs.size->SIt t h' it l (i+1)->h'.get? s.heap.objs.size=some { cls:=.type "tuple",data:=.seq #[.int i s.toks,x] } ->
   (∀ b o,b≠e->b≠it->s.heap.get? b=some o->h'.get? b=some o)->Q (some (.ref s.heap.objs.size)) { s with heap:=h',toks:=s.toks+1 }):wpAny (model prog w) A (pyNext (.ref e)) Q E s:=by
 obtain ⟨hp,g,d,tk,os⟩:=s
 have hT:Shared.TypeIs ⟨hp,g,d,tk,os⟩ (.ref e) "enumerate":=⟨_,he,rfl⟩
 have hel:e<hp.objs.size:=lt_size he
 unfold pyNext
 refine wpAny_bind (wpAny_attempt (wpAny_callSpecial?_slot (name:=Str.ofString "__next__") hT F.slot_enumerate_next (wpAny_call_entry F.slot_enumerate_next hT F.entry_enumerate_next ?_ (F.args_enumerate_next_1 _))))
 show wpAny _ _ (field (.ref e) 2 >>= _) _ _ _;refine wpAny_bind (wpAny_field he rfl (x:=.ref it) rfl (wpAny_bind (Zhl hit hl hx λ ha hita hsa=>?_)))
 have hsa':Heap.SameBut it hp ha:=hsa
 have hea:IsEnum ha e it i old:=(hsa'.2 e hne).trans he
 show wpAny _ _ (field (.ref e) 3 >>= _) _ _ ⟨ha,g,d,tk,os⟩;refine wpAny_bind (wpAny_field hea rfl (x:=rawInt i) rfl ?_)
 show wpAny _ _ (field (.ref e) 4 >>= _) _ _ ⟨ha,g,d,tk,os⟩;refine wpAny_bind (wpAny_field hea rfl (x:=.none) rfl ?_)
 show wpAny _ _ (mkInt i >>= _) _ _ ⟨ha,g,d,tk,os⟩;refine wpAny_bind (wpAny_mkInt ?_)
 show wpAny _ _ (setField (.ref e) 3 (rawInt ((i:Int)+1)) >>= _) _ _ ⟨ha,g,d,tk+1,os⟩
 refine wpAny_bind (wpAny_setField_rec hea (by simp) λ hb heb hsb=>?_)
 have hsb':Heap.SameBut e ha hb:=hsb
 have heb':IsEnum hb e it ((i:Int)+1) old:=heb
 show wpAny _ _ (setField (.ref e) 4 .none >>= _) _ _ ⟨hb,g,d,tk+1,os⟩
 refine wpAny_bind (wpAny_setField_rec heb' (by simp) λ hc hec hsc=>?_)
 have hsc':Heap.SameBut e hb hc:=hsc
 have hec':IsEnum hc e it ((i:Int)+1) old:=hec
 show wpAny _ _ (newTuple [.int i tk,x] >>= _) _ _ ⟨hc,g,d,tk+1,os⟩
 refine wpAny_bind (wpAny_newTuple ?_)
 have hsz:hc.objs.size=hp.objs.size:=by rw [hsc'.1,hsb'.1,hsa'.1]
 obtain ⟨hd,ehd⟩:∃ hd,hd=hc.push { cls:=.type "tuple",data:=.seq #[.int i tk,x] }:=⟨_,rfl⟩
 have hed:IsEnum hd e it ((i:Int)+1) old:=by rw [ehd];exact get?_push_of_some _ hec'
 have htd:hd.get? hp.objs.size=some { cls:=.type "tuple",data:=.seq #[.int i tk,x] }:=by rw [ehd,<- hsz];exact get?_push_size _ rfl
 have hkd:∀ b o,b≠e->b≠it->hp.get? b=some o->hd.get? b=some o:=λ b o n1 n2 q=>by rw [ehd];exact get?_push_of_some _ (hsc'.extBut b o n1 (hsb'.extBut b o n1 (hsa'.extBut b o n2 q)))
 have hitd:SIt t hd it l (i+1):=hita.at λ o q=>by rw [ehd];exact get?_push_of_some _ (hsc'.extBut _ _ (Ne.symm hne) (hsb'.extBut _ _ (Ne.symm hne) q))
 show wpAny _ _ (Builtin.SmallTypes.ownedTupleIsFree (.ref e) >>= _) _ _ ⟨hc.push { cls:=.type "tuple",data:=.seq #[.int i tk,x] },g,d,tk+1,os⟩
 rw [hsz,<- ehd]
 refine wpAny_bind ?_
 unfold Builtin.SmallTypes.ownedTupleIsFree
 refine wpAny_bind (wpAny_field hed rfl (x:=.none) rfl (wpAny_pure ?_))
 simp only [if_true]
 refine wpAny_bind (wpAny_rule (wpAny_bind (wpAny_field hed rfl (x:=old) rfl (wpAny_bind (wpAny_setField_rec hed (by simp) λ hf hef hsf=>?_)))))
 have hsf':Heap.SameBut e hd hf:=hsf
 have hef':IsEnum hf e it ((i:Int)+1) x:=hef
 show wpAny _ _ (Builtin.SmallTypes.ownedTupleHandOut (.ref e) (.ref hp.objs.size) >>= _) _ _ ⟨hf,g,d,tk+1,os⟩
 refine wpAny_bind ?_
 unfold Builtin.SmallTypes.ownedTupleHandOut
 refine wpAny_bind (wpAny_setField_rec hef' (by simp) λ hg heg hsg=>?_)
 have hsg':Heap.SameBut e hf hg:=hsg
 have heg':IsEnumOut hg e it ((i:Int)+1) x hp.objs.size:=heg
 refine wpAny_setField_rec heg' (by simp) λ hh heh hsh=>?_
 have hsh':Heap.SameBut e hg hh:=hsh
 have heh':IsEnumOut hh e it ((i:Int)+1) x hp.objs.size:=heh
 have up:∀ b o,b≠e->hd.get? b=some o->hh.get? b=some o:=λ b o n q=>hsh'.extBut b o n (hsg'.extBut b o n (hsf'.extBut b o n q))
 exact wpAny_bind (wpAny_letGo (wpAny_pure ⟨_,rfl,wpAny_pure (hQ hh heh' (hitd.at λ o q=>up _ o (Ne.symm hne) q) (up _ _ (ne_of_gt hel) htd) λ b o n1 n2 q=>up b o n1 (hkd b o n1 n2 q))⟩))
theorem Ztd {t:Bool}{e it l:Addr}{i:Nat}{items:Array Value}{old:Value}{Q:Option Value->Shared->Prop} (hh:A.handled=none) (he:IsEnum s.heap e it i old) (hit:SIt t s.heap it l i) (hl:SAt t s.heap l items) (hx:items[i]? = none)
  (hQ:∀ h',Heap.ExtBut it s.heap h'->Q none { s with heap:=h' }):wpAny (model prog w) A (pyNext (.ref e)) Q E s:=by
 have hT:s.TypeIs (.ref e) "enumerate":=⟨_,he,rfl⟩
 unfold pyNext
 refine wpAny_bind (wpAny_attempt (wpAny_callSpecial?_slot (name:=Str.ofString "__next__") hT F.slot_enumerate_next (wpAny_call_entry F.slot_enumerate_next hT F.entry_enumerate_next ?_ (F.args_enumerate_next_1 _))))
 show wpAny _ _ (field (.ref e) 2 >>= _) _ _ _;refine wpAny_bind (wpAny_field he rfl (x:=.ref it) rfl (wpAny_bind (Zlh hh hit hl hx λ h' x he' ⟨o,ho,hc⟩=>?_)))
 exact wpAny_bind (wpAny_isInstance (T:="StopIteration") (b:=true) ⟨o,ho,hc⟩ isSubtype_stop (wpAny_pure (hQ _ he')))
end
end L2
namespace L2
open PySem PySem.Spec PyProof.Rows
open AutoSeq1 (wpAny_loadPart')
abbrev enA (h:Heap) (t:Bool) (l:Addr):Heap:=h.push (sItO t l)
abbrev enB (h:Heap) (t:Bool) (l:Addr):Heap:=(enA h t l).push { cls:=.type "enumerate",data:=.fields #[.none,.bool false,.ref h.objs.size,rawInt 0,.none,.none] }
theorem Zq4 (t:Bool) (l:Addr) (items:Array Value) (n:Nat) (dct:Option Addr) (sl:Array (Option Value)) :
  Meets (Builtin.«enumerate.__new__» ⟨[.type "enumerate",.ref l],[]⟩) (λ _ R s=>s.heap.get? l=some { cls:=.type (if t then "tuple" else "list"),dict:=dct,data:=.seq items n,slots:=sl } /\
   R (.ok (.ret (.ref (enA s.heap t l).objs.size))) { s with heap:=enB s.heap t l }):=
 .of_wp λ prog w A R s h=>by
  obtain ⟨hp,g,d,tk,os⟩:=s;obtain ⟨hl,h⟩:=h
  have hsub:=sub_enumerate
  have hL:SAt t (Shared.heap ⟨hp,g,d,tk,os⟩) l items:=by cases t <;> exact ⟨_,hl,rfl,n,rfl⟩
  wp_walk using wpAny_loadPart' hl
  refine wpAny_stack_any λ st=>wpAny_pure ?_
  split
  ·rename_i c _ _ _ _ _
   cases (c == Value.type "enumerate")
   ·wp_walk using wpAny_loadPart' hl,iterS hL
    exact ⟨_,rfl,h⟩
   ·wp_walk using wpAny_loadPart' hl,iterS hL
    exact ⟨_,rfl,h⟩
  ·wp_walk using wpAny_loadPart' hl,iterS hL
   exact ⟨_,rfl,h⟩
section
variable {prog:Program}{w:World}{A:Around}{E:Value->Shared->Prop}{s:Shared}
theorem Zry {t:Bool}{l:Addr}{items:Array Value}{Q:Value->Shared->Prop} (hL:SAt t s.heap l items)
  (h:∀ h',IsEnum h' (s.heap.objs.size+1) s.heap.objs.size 0 .none->SIt t h' s.heap.objs.size l 0 ->
   (∀ b o,s.heap.get? b=some o->h'.get? b=some o)->Q (.ref (s.heap.objs.size+1)) { s with heap:=h' }) :
  wpAny (model prog w) A (call (.type "enumerate") [.ref l]) Q E s:=by
 obtain ⟨dct,n,sl,hl⟩:∃ dct n sl,s.heap.get? l=some { cls:=.type (if t then "tuple" else "list"),dict:=dct,data:=.seq items n,slots:=sl }:=by
  cases t <;> (obtain ⟨⟨c,dct,dt,sl⟩,hl,hc,n,hd⟩:=hL;simp only at hc hd;subst hc hd;exact ⟨dct,n,sl,hl⟩)
 refine callType_new F.called_enumerate (by decide) (F.typeCall_enumerate_1 _) (F.newCall_enumerate_1 _) (λ obj=>F.args_object_init_2 obj _) F.entry_enumerate_new
  (Zq4 t l items n dct sl) ⟨hl,?_⟩
 have hz:(enA s.heap t l).objs.size=s.heap.objs.size+1:=size_push ..
 have he:IsEnum (enB s.heap t l) (s.heap.objs.size+1) s.heap.objs.size 0 .none:=by
  have:=get?_push_size (enA s.heap t l) (o:={ cls:=.type "enumerate",data:=.fields #[.none,.bool false,.ref s.heap.objs.size,rawInt 0,.none,.none] }) rfl
  rw [hz] at this;exact this
 have g1:(enB s.heap t l).get? s.heap.objs.size=some (sItO t l):=get?_push_of_some _ (get?_push_size _ (by cases t <;> rfl))
 have mk:SIt t (enB s.heap t l) s.heap.objs.size l 0:=by cases t <;> exact ⟨_,g1,rfl,rfl⟩
 show _/\_
 rw [hz]
 exact ⟨⟨_,he,rfl⟩,h _ he mk λ b o x=>get?_push_of_some _ (get?_push_of_some _ x)⟩
end
def Ite (K:PySem.W.Frag) (t:Bool) (a:Addr):It:=
 ⟨λ i H=>∃ xs x,SqB K t H a xs/\xs[i]? = some x,
   λ i H v H'=>∃ p x,v = .ref p/\H p=none/\H' = upd H p (.tup [.int i,x])/\∀ xs,SqB K t H a xs->xs[i]? = some x,
   λ i H=>∃ xs,SqB K t H a xs/\xs.length≤i⟩
def ESt (t:Bool) (e it l:Addr) (i:Nat) (h:Heap):Prop:=e≠it/\(∃ old,IsEnum h e it i old)/\SIt t h it l i
theorem Zus {P:Program}{w:World}{K:PySem.W.Frag}{elts:List Expr}{kk:Nat}{pos:Pos} (t:Bool) (z i1 l1:Addr):Turn P w K (.Tuple elts kk pos) (Ite K t l1) [z,i1] z (ESt t z i1 l1) where
 mem:=by simp
 obj:=λ i h st b hb=>by
  obtain ⟨_,⟨old,hz⟩,h1⟩:=st
  simp only [mem_cons,not_mem_nil,or_false] at hb
  rcases hb with e|e
  ·subst e;exact ⟨_,hz,λ v q=>by cases q⟩
  ·subst e;exact h1.obj
 keep:=λ i h h' st k=>by
  obtain ⟨D,⟨old,hz⟩,h1⟩:=st
  exact ⟨D,⟨old,k z (by simp) _ hz⟩,h1.at λ o e=>k i1 (by simp) o e⟩
 item:=by
  intro X hP hw hK hc i pins s σ H E I hf st hg
  subst hP hw hK
  obtain ⟨xs,x,q1,gx⟩:=hg
  obtain ⟨D,⟨old,hz⟩,h1⟩:=st
  obtain ⟨us,ru,su,_⟩:=I.sq q1
  obtain ⟨u,hu,rx⟩:=ru.get gx
  refine Zs4 hz h1 su (x:=u) (by simpa using hu) D λ h' z1 z3 z5 z7=>⟨_,rfl,?_⟩
  have szn:s.heap.objs.size≠z:=ne_of_gt (lt_size hz)
  refine wpAny_letOwnedTupleGo_enum (s:={ s with heap:=h',toks:=s.toks+1 }) z1 λ h'' w1 w2=>?_
  have w2':Heap.SameBut z h' h'':=w2
  have hall:∀ c o,c≠z->c≠i1->s.heap.get? c=some o->h''.get? c=some o:=λ c o n1 n3 e=>w2'.extBut _ _ n1 (z7 c o n1 n3 e)
  have hn:H s.heap.objs.size=none:=I.hok.fresh (le_refl _)
  have f:=λ b hb=>hf b hb
  have ch:∀ b,b ∉ [z,i1]->b≠z/\b≠i1:=λ b hb=>by
   simp only [mem_cons,not_mem_nil,or_false,not_or] at hb
   exact hb
  have tr:∀ b o,H b=some o->b ∉ [z,i1]:=λ b o e hb=>by rw [(f b hb).1] at e;cases e
  have nsz:∀ b o,H b=some o->b≠s.heap.objs.size:=λ b o e q=>by rw [q,hn] at e;cases e
  have pair:h''.get? s.heap.objs.size=some { cls:=.type "tuple",data:=.seq #[.int i s.toks,u] }:=w2'.extBut _ _ szn z5
  refine ⟨.ref s.heap.objs.size,upd H s.heap.objs.size (.tup [.int i,x]),Inv.step (s:=s) (h':=h'') (g':=s.gens) (d':=s.drawn) (t':=s.toks+1) (ch:=[z,i1]) I (λ b hb=>?_) (λ b o _ _ hb e _=>?_) (λ b o _ _ hb e _=>⟨o.slots,?_⟩) (λ b o hb e n=>?_) (λ b o hb e=>⟨o,?_⟩) (λ b zs e=>?_) (λ b o zs e=>?_) (λ b ps e=>⟨#[],?_⟩) (λ m hm=>?_) (λ b o e=>?_) I.bare,rfl,⟨s.heap.objs.size,x,rfl,hn,rfl,λ xs' p1=>?_⟩,?_,λ b hb=>?_⟩
  ·obtain ⟨_,f1,f2,f3,f4,f5⟩:=f b hb
   exact ⟨f3,f1,f4,f5⟩
  ·obtain ⟨n1,n2⟩:=ch b hb;exact hall b o n1 n2 e
  ·obtain ⟨n1,n2⟩:=ch b hb;exact hall b o n1 n2 e
  ·rw [Zbk (ne_of_lt (lt_size e))];exact n
  ·obtain ⟨n1,n2⟩:=ch b hb;exact hall b o n1 n2 e
  ·rw [Zbk (nsz b _ e)];exact e
  ·rw [Zbk (nsz b _ e)];exact e
  ·rw [Zbk (nsz b _ e),e];simp
  ·obtain ⟨o,es,ep,ho,r⟩:=hm
   have nl:X.env.locals ∉ [z,i1]:=λ hb=>(f _ hb).2.1 rfl
   obtain ⟨n1,n2⟩:=ch _ nl
   exact ⟨o,es,ep,hall _ o n1 n2 ho,r⟩
  ·by_cases hb:b=s.heap.objs.size
   ·subst hb;rw [Zbw] at e;cases e
    exact ⟨L2.sz2,[.int i s.toks,u],.cons ⟨_,rfl⟩ (.cons rx .nil),_,pair,rfl,_,rfl,rfl⟩
   ·rw [Zbk hb] at e
    refine (I.hok b o e).stay (λ c o' hc q=>?_) (λ c q=>by rw [Zbk (nsz c _ q)];exact q) λ c zs q=>by rw [Zbk (nsz c _ q)];exact q
    have nc:c ∉ [z,i1]:=by
     rcases hc with hc|hc
     ·rw [hc];exact tr b o e
     ·exact tr c _ hc
    obtain ⟨n1,n2⟩:=ch c nc
    exact hall c o' n1 n2 q
  ·rw [I.sq_inj p1 q1];exact gx
  ·exact ⟨D,⟨u,by have:=w1;exact_mod_cast this⟩,z3.at λ o e=>w2'.extBut _ o (Ne.symm D) e⟩
  ·obtain ⟨o,e,_⟩:=(show ∃ o,s.heap.get? b=some o/\∀ v,o.data≠.cell v from by
    simp only [mem_cons,not_mem_nil,or_false] at hb
    rcases hb with q|q
    ·subst q;exact ⟨_,hz,λ v q=>by cases q⟩
    ·subst q;exact h1.obj)
   rw [Zbk (ne_of_lt (lt_size e))];exact (f b hb).1
 done:=by
  intro X hP hw hK hc i pins s σ H E I hf st hg
  subst hP hw hK
  obtain ⟨xs,q1,ge⟩:=hg
  obtain ⟨D,⟨old,hz⟩,h1⟩:=st
  obtain ⟨us,ru,su,_⟩:=I.sq q1
  have lu:=ru.length
  refine Ztd (I.ok.hd hc) hz h1 su (by simp;omega) λ h' hk=>⟨rfl,?_⟩
  have f:=λ b hb=>hf b hb
  have tr:∀ b o,H b=some o->b ∉ [i1]:=λ b o e hb=>by rw [(f b (by simp at hb;simp [hb])).1] at e;cases e
  have kk:∀ b o,b ∉ [i1]->s.heap.get? b=some o->h'.get? b=some o:=λ b o hb e=>hk b o (by simpa using hb) e
  refine I.step (g':=s.gens) (d':=s.drawn) (t':=s.toks) (ch:=[i1]) (λ b hb=>?_) (λ b o _ _ hb e _=>kk b o hb e) (λ b o _ _ hb e _=>⟨o.slots,kk b o hb e⟩) (λ b o hb e n=>n) (λ b o hb e=>⟨o,kk b o hb e⟩) (λ b zs e=>e) (λ b o zs e=>e) (λ b ps e=>⟨#[],by rw [e];simp⟩) (λ m hm=>?_) (λ b o e=>?_) I.bare
  ·obtain ⟨_,f1,f2,f3,f4,f5⟩:=f b (by simp at hb;simp [hb])
   exact ⟨f3,f1,f4,f5⟩
  ·obtain ⟨o,es,ep,ho,r⟩:=hm
   exact ⟨o,es,ep,kk _ o (λ hb=>(f _ (by simp at hb;simp [hb])).2.1 rfl) ho,r⟩
  ·refine (I.hok b o e).stay (λ c o' hc q=>kk c o' ?_ q) (λ c q=>q) λ c zs q=>q
   rcases hc with hc|hc
   ·rw [hc];exact tr b o e
   ·exact tr c _ hc
 self:=λ _ _ _ _ _ st h=>by
  obtain ⟨D,⟨old,hz⟩,h1⟩:=st
  exact wpAny_pyIter_enum hz h
section
variable {X:Cx}
def iEnum (K:PySem.W.Frag) (t:Bool) (ta:TA):TI:=λ σ H R=>ta σ H λ vs H1=>∃ a xs,vs=[.ref a]/\SqB K t H1 a xs/\R (Ite K t a) H1
theorem Zxv {elts:List Expr}{kk:Nat}{tp:Pos}{a:Expr}{ta:TA}{p pos:Pos} (t:Bool) (hg:Gl X "enumerate") (hm:X.mg "enumerate" = none) (ha:PA X [a] ta) (hs:starEach [a] X.env=[(false,eval a X.env)]:=by rfl) :
  PI X (.Tuple elts kk tp) (.Call (.Name "enumerate" p) [a] [] pos) (iEnum X.K t ta):=by
 intro pins s σ H R I h
 refine Call_ (Zmq I hg hm boot_enumerate (PyProof.Rows.callWith_type1 (thn (ha pos pins s σ H _ I h) λ us s1 ⟨vs,H1,I1,r1,q1⟩=>?_) (by rw [hs];rfl) rfl))
 obtain ⟨l1,xs,e,q1,q⟩:=q1
 subst e
 cases r1 with
 | cons r rr=>
  cases rr
  cases r
  obtain ⟨us,_,su,_⟩:=I1.sq q1
  refine Zry su λ h' z1 z4 z6=>?_
  have I2:Inv X pins σ H1 { s1 with heap:=h' }:=I1.kept (t':=s1.toks) z6
  refine wpAny_pyIter_enum z1 ⟨_,[s1.heap.objs.size+1,s1.heap.objs.size],_,_,H1,rfl,I2,Zus t _ _ l1,⟨Nat.succ_ne_self _,⟨_,z1⟩,z4⟩,λ b hb=>?_,q⟩
  have le:s1.heap.objs.size≤b:=by
   simp only [mem_cons,not_mem_nil,or_false] at hb
   rcases hb with e|e <;> rw [e] <;> first|exact le_refl _|exact le_add_right _ _
  exact I1.fpOk le (I1.hok.fresh le)
end
theorem Zth {X:Cx}{elts:List Expr}{kk:Nat}{tp:Pos}{a:Expr}{ta:TA}{p pos:Pos} (t:Bool) (hg:Gl X "enumerate") (hm:X.mg "enumerate" = none) (ha:IPA X [a] ta) (hs:starEach [a] X.env=[(false,eval a X.env)]:=by rfl) :
  IPI X (.Tuple elts kk tp) (.Call (.Name "enumerate" p) [a] [] pos) (iEnum X.K t ta):=by
 rw [Zbd];rw [Zba] at ha;exact Zxv t hg hm ha hs
end L2
namespace L2
open PySem PySem.Spec PyProof.Rows
section
variable {X:Cx}
theorem Zme (n:Nat):sliceRange ((n:Int)-1) (-1) (-1)=(List.range n).map λ k=>n-1-k:=by
 unfold sliceRange
 have h0:¬ ((-1:Int) > 0):=by decide
 simp only [h0,if_false]
 by_cases hn:(n:Int)-1 > -1
 ·rw [if_pos hn]
  have e:((n:Int)-1 - -1 - -1-1) / (- -1)=n:=by
   have e:(- -1:Int)=1:=by decide
   rw [e,Int.ediv_one];omega
  rw [e,Int.toNat_natCast]
  refine map_congr_left λ k hk=>?_
  have:=mem_range.mp hk
  omega
 ·rw [if_neg hn]
  have:n=0:=by omega
  subst this;rfl
theorem Znz (its:List Value):slicePick its.toArray none none (some (-1))=its.reverse.toArray:=by
 unfold slicePick
 have h1:(sliceBounds none none (some (-1)) its.toArray.size).1=(its.length:Int)-1:=by simp [sliceBounds]
 have h2:(sliceBounds none none (some (-1)) its.toArray.size).2.1 = -1:=by simp [sliceBounds]
 have h3:(sliceBounds none none (some (-1)) its.toArray.size).2.2 = -1:=by simp [sliceBounds]
 rw [h1,h2,h3,Zme]
 congr 1
 have:∀ k≤its.length,((List.range k).map λ j=>its.length-1-j).filterMap (its.toArray[·]?)=its.reverse.take k:=by
  intro k
  induction k with
  | zero=>intro _;simp
  | succ k ih=>
   intro hk
   rw [range_succ,map_append,List.filterMap_append,ih (by omega),take_add_one]
   congr 1
   have e:its.reverse[k]? = its[its.length-1-k]?:=by rw [List.getElem?_reverse (by omega)]
   rw [e]
   have hl:its.length-1-k<its.length:=by omega
   simp [gEq hl]
 rw [this _ (le_refl _),take_of_length_le (by simp)]
def tRev (K:PySem.W.Frag) (te ts:TE):TE:=λ σ H Q=>te σ H λ x H1=>ts σ H1 λ y H2=>y = .int (-1)/\∃ a xs,x = .ref a/\SqL K H2 a xs/\∀ p,H2 p=none->Q (.ref p) (upd H2 p (.lst xs.reverse))
theorem Zzg {e st:Expr}{te ts:TE}{p2 pos:Pos} (he:PE X e te) (hs:PE X st ts):PE X (.Subscript e (.Slice none none (some st) p2) pos) (tRev X.K te ts):=by
 intro pins s σ H Q I h
 refine Subscript_ (thn (he pins s σ H _ I h) λ v s1 ⟨x,H1,I1,r1,q1⟩=>?_)
 refine wpAny_Slice ?_
 rw [evalPart_none]
 refine wpAny_pure ?_
 refine wpAny_pure ?_
 rw [evalPart_some]
 refine thn (hs pins s1 σ H1 _ I1 q1) λ u s2 ⟨y,H2,I2,r2,q2⟩=>?_
 obtain ⟨rfl,a,xs,rfl,hx,q⟩:=q2
 obtain ⟨tk,rfl⟩:=r2
 cases r1
 have I4:Inv X pins σ H2 { s2 with heap:=s2.heap.push { cls:=.type "slice",data:=.fields #[.none,.none,.int (-1) tk] } }:=I2.kept (t':=s2.toks) λ b ob q=>get?_push_of_some _ q
 obtain ⟨its,r,ht,hz⟩:=I4.list hx
 have hlen:=r.length
 show wpAny (model X.prog X.w) X.A (subscriptTail e (.Slice none none (some st) p2) (.ref a) (.ref s2.heap.objs.size)) (EP X pins σ Q) X.xe { s2 with heap:=s2.heap.push { cls:=.type "slice",data:=.fields #[.none,.none,.int (-1) tk] } }
 refine tail_any (T:="list") (ops:=[.ref a,.ref s2.heap.objs.size]) ht.isList.typeIs slot_list_getitem.lookup ?_ (by with_unfolding_all rfl)
 refine wpAny_getItem_list_slice ht.isList (Heap.IsSliceOf.new ..) .none .none (.int (-1) tk) (by simp) ?_ (by rw [size_toArray] <;> omega)
 rw [Znz]
 refine ⟨.ref _,_,I4.laid (t':=s2.toks) (o:=.lst xs.reverse) (λ b ob q=>get?_push_of_some _ q) (le_refl _) ?_,rfl,q _ (I4.hok.fresh (le_refl _))⟩
 exact ⟨by rw [length_reverse];exact hz,_,0,r.reverse,get?_push_size _ rfl⟩
theorem Zv9 {e st:Expr}{te ts:TE}{p2 pos:Pos} (he:IPE X e te) (hs:IPE X st ts):IPE X (.Subscript e (.Slice none none (some st) p2) pos) (tRev X.K te ts):=by
 rw [Zb4] at *;exact Zzg he hs
def rInD (K:PySem.W.Frag) (neg:Bool):R2:=λ x y H Q=>∃ d ds p ys,DV K H d x/\y = .ref p/\(SqL K H p ys \/ SqT K H p ys)/\DVs K H ds ys/\d.canLay0=true/\PyData.canLayAll0 ds=true/\d.depth≤30/\Q (.bl (if neg then !ds.any (λ y=>PyData.eqv y d) else ds.any (λ y=>PyData.eqv y d))) H
theorem Zz5 (hu:X.A.units+64<cLine):OpR X (compareOp .In) (rInD X.K false):=by
 rintro pins s σ H x y v u Q I rx ry ⟨d,ds,p,ys,h1,rfl,hq,h2,c1,c2,dp,q⟩
 obtain ⟨bs,rb⟩:=I.reads h1 rx
 have hm:X.A.units+1+min (PyData.depthAll ds) d.depth<cLine:=by omega
 rcases hq with hq|hq
 ·obtain ⟨as,ra⟩:=I.reads (DV.list hq h2) ry
  exact SeqAt.in_list_reads ra rb c2 c1 hm ⟨.bl _,H,I,rfl,q⟩
 ·obtain ⟨as,ra⟩:=I.reads (DV.tup hq h2) ry
  exact SeqAt.in_tuple_reads ra rb c2 c1 hm ⟨.bl _,H,I,rfl,q⟩
theorem Zg4 (hu:X.A.units+64<cLine):OpR X (compareOp .NotIn) (rInD X.K true):=by
 rintro pins s σ H x y v u Q I rx ry ⟨d,ds,p,ys,h1,rfl,hq,h2,c1,c2,dp,q⟩
 obtain ⟨bs,rb⟩:=I.reads h1 rx
 have hm:X.A.units+1+min (PyData.depthAll ds) d.depth<cLine:=by omega
 rcases hq with hq|hq
 ·obtain ⟨as,ra⟩:=I.reads (DV.list hq h2) ry
  exact SeqAt.notIn_list_reads ra rb c2 c1 hm ⟨.bl _,H,I,rfl,q⟩
 ·obtain ⟨as,ra⟩:=I.reads (DV.tup hq h2) ry
  exact SeqAt.notIn_tuple_reads ra rb c2 c1 hm ⟨.bl _,H,I,rfl,q⟩
end
end L2
namespace L2
open PySem PySem.Spec PyProof.Rows
def tI (ns:List Int):PyData:=.tuple (ns.map .int)
def lT (rows:List (List Int)):PyData:=.list (rows.map tI)
theorem Zwa {d:PyData} (hc:d.canLay0=true) (hi:d.intsShort 101=true) (hw:d.weight≤100000):d.shown.length≤sizeLine:=by
 have h:=PyData.shown_le 101 (by decide) d (PyData.leavesShort_of_canLay0 101 d hc hi)
 have e:sizeLine=16777216:=by decide
 omega
theorem Zq3 {i:Int}{w:Nat} (hw:0<w) (h:i.natAbs<2 ^ w):i.natAbs.log2<w:=by
 by_cases h0:i.natAbs=0
 ·rw [h0];simpa using hw
 ·exact (Nat.log2_lt h0).mpr h
theorem Zuk {i:Int}{w:Nat} (hw:0<w) (hw2:w≤100) (h:i.natAbs<2 ^ w):(PyData.int i).intsShort 101=true:=by
 have e:=int_text_length_le (a:=i) (k:=w) hw (Zq3 hw h)
 simp only [PyData.intsShort,decide_eq_true_eq]
 show (Str.ofString (toString i)).length≤101
 rw [PySem.ofString_length]
 omega
theorem Zsq {i:Int}{w:Nat} (hw:0<w) (h:i.natAbs<2 ^ w):(PyData.int i).weight≤w:=by
 have:=Zq3 hw h
 simp only [PyData.weight]
 split <;> omega
theorem Zl2:∀ ns:List Int,PyData.canLayAll0 (ns.map .int)=true
 | []=>by simp [PyData.canLayAll0]
 | x::r=>by simp [PyData.canLayAll0,PyData.canLay0,Zl2 r]
theorem Zmn:∀ ns:List Int,PyData.depthAll (ns.map .int)=0
 | []=>by simp [PyData.depthAll]
 | x::r=>by simp [PyData.depthAll,PyData.depth,Zmn r]
theorem Zoz:∀ ns:List Int,PyData.hasDictAll (ns.map .int)=false
 | []=>by simp [PyData.hasDictAll]
 | x::r=>by simp [PyData.hasDictAll,PyData.hasDict,Zoz r]
theorem Ziw (ns:List Int):(tI ns).canLay0=true:=by simp [tI,PyData.canLay0,Zl2]
theorem Zfn (ns:List Int):(tI ns).depth=1:=by simp [tI,PyData.depth,Zmn]
theorem Zes (ns:List Int):SeqAt.shaped (tI ns)=true:=by
 have h:=Zfn ns
 simp [SeqAt.shaped,Ziw,h]
theorem Zdy (ns:List Int):(tI ns).hasDict=false:=by simp [tI,PyData.hasDict,Zoz]
theorem Zdr:∀ rows:List (List Int),PyData.canLayAll0 (rows.map tI)=true
 | []=>by simp [PyData.canLayAll0]
 | x::r=>by simp [PyData.canLayAll0,Ziw,Zdr r]
theorem Zeo:∀ rows:List (List Int),PyData.hasDictAll (rows.map tI)=false
 | []=>by simp [PyData.hasDictAll]
 | x::r=>by simp [PyData.hasDictAll,Zdy,Zeo r]
theorem DV.tI {K:PySem.W.Frag}{H:Hp}{a:Addr}{ns:List Int} (h:SqT K H a (ns.map V.int)):DV K H (tI ns) (.ref a):=DV.tup h (DVs.ints ns)
def LR (K:PySem.W.Frag) (H:Hp) (l:Addr) (rows:List (List Int)):Prop:=∃ xs,SqL K H l xs/\DVs K H (rows.map tI) xs
theorem LR.dv {K:PySem.W.Frag}{H:Hp}{l:Addr}{rows:List (List Int)} (h:LR K H l rows):DV K H (lT rows) (.ref l):=by
 obtain ⟨xs,h1,h2⟩:=h
 exact DV.list h1 h2
theorem LR.same {K:PySem.W.Frag}{H H':Hp}{l:Addr}{rows:List (List Int)} (h:LR K H l rows) (e:Same H H'):LR K H' l rows:=by
 obtain ⟨xs,h1,h2⟩:=h
 exact ⟨xs,e.seq h1,DVs.same e h2⟩
theorem DVs.snoc {K:PySem.W.Frag}{H:Hp}{ds:List PyData}{d:PyData}{xs:List V}{x:V} (h:DVs K H ds xs) (t:DV K H d x):DVs K H (ds++[d]) (xs++[x]):=DVs.append h (DVs.cons t DVs.nil)
theorem DVs.take {K:PySem.W.Frag}{H:Hp}:∀ {ds:List PyData}{xs:List V} (k:Nat),DVs K H ds xs->DVs K H (ds.take k) (xs.take k)
 | [],xs,k,h=>by unfold DVs at h;subst h;simp;exact DVs.nil
 | d::ds,xs,0,h=>by simp;exact DVs.nil
 | d::ds,xs,k+1,h=>by
  unfold DVs at h
  obtain ⟨x,r,rfl,h1,h2⟩:=h
  exact DVs.cons h1 (DVs.take k h2)
theorem DVs.reverse {K:PySem.W.Frag}{H:Hp}:∀ {ds:List PyData}{xs:List V},DVs K H ds xs->DVs K H ds.reverse xs.reverse
 | [],xs,h=>by unfold DVs at h;subst h;exact DVs.nil
 | d::ds,xs,h=>by
  unfold DVs at h
  obtain ⟨x,r,rfl,h1,h2⟩:=h
  rw [reverse_cons,reverse_cons]
  exact DVs.snoc (DVs.reverse h2) h1
theorem Zii:∀ ns:List Int,PyData.eqvAll (ns.map .int) (ns.map .int)=true
 | []=>by simp [PyData.eqvAll]
 | x::r=>by simp [PyData.eqvAll,PyData.eqv,Zii r]
theorem Zws (ns:List Int):PyData.eqv (tI ns) (tI ns)=true:=by
 unfold tI;rw [PyData.eqv];exact Zii ns
end L2
namespace L2
open PySem PySem.Spec PyProof.Rows
section
variable {X:Cx}{K:PySem.W.Frag}
theorem Zjc (h:X.K=K):IxR X (rIxT K):=h▸Zc0
theorem Zkb (h:X.K=K):IxR X (rIxL K):=h▸Zco
theorem Zwb (h:X.K=K):SlR X (rSlL K):=h▸Zyk
theorem Ztv (h:X.K=K) (hu:X.A.units+64<cLine):OpR X (compareOp .Eq) (rEqD K false):=h▸Zwy hu
theorem Zn2 (h:X.K=K):CallR X (.builtin "len") (λ xs H Q=>∃ p ys,xs=[.ref p]/\(SqL K H p ys \/ SqT K H p ys)/\Q (.int ys.length) H):=h▸Zaz
theorem Zm1 (h:X.K=K):CallR X (.type "tuple") (λ xs H Q=>∃ p ys,xs=[.ref p]/\((SqL K H p ys/\∀ l,H l=none->Q (.ref l) (upd H l (.tup ys))) \/ (SqT K H p ys/\Q (.ref p) H))):=h▸Zb5
theorem Zmg (h:X.K=K) (hc:X.calm=true):CallR X (.builtin "sum") (λ xs H Q=>∃ (a:Addr) (ns:List Int),xs=[.ref a]/\SqL K H a (ns.map V.int)/\Q (.int ns.sum) H):=h▸Zfz hc
theorem Zs6 {l tg:Expr}{tl:TE} (h:X.K=K) (hl:IPE X l tl):IPI X tg l (iList K tl):=h▸Zd3 hl
theorem Zkz {l tg:Expr}{tl:TE} (h:X.K=K) (hl:IPE X l tl):IPI X tg l (iTup K tl):=h▸Zbu hl
end
end L2
namespace L2
open PySem PySem.Spec PyProof.Rows
section
variable {X:Cx}
end
end L2
namespace L2
open PySem PySem.Spec PyProof.Rows
def lexLt:List Int->List Int->Bool
 | x::xs,y::ys=>decide (x<y) || (decide (x=y) && lexLt xs ys)
 | _,_=>false
def TpI (h:Heap) (v:Value) (ns:List Int):Prop:=∃ a o vs n,v = .ref a/\h.get? a=some o/\o.cls = .type "tuple"/\o.data = .seq (List.toArray vs) n/\IntsAre vs ns
theorem TpI.keep {h h':Heap}{v:Value}{ns:List Int} (x:TpI h v ns) (k:∀ b o,o.cls = .type "tuple"->h.get? b=some o->h'.get? b=some o):TpI h' v ns:=by
 obtain ⟨a,o,vs,n,e,h1,h2,h3,h4⟩:=x
 exact ⟨a,o,vs,n,e,k _ _ h2 h1,h2,h3,h4⟩
section
variable {prog:Program}{w:World}{A:Around}{E:Value->Shared->Prop}{s:Shared}
def AscV (h:Heap) (vs:List Value):Prop:=(∀ v∈vs,∃ ns,TpI h v ns/\1≤ns.length)/\∀ i x y,vs[i]? = some y->vs[i+1]? = some x->∃ ns ms,TpI h x ns/\TpI h y ms/\ns.length=ms.length/\lexLt ms ns=true
theorem AscV.keep {h h':Heap}{vs:List Value} (x:AscV h vs) (k:∀ b o,o.cls = .type "tuple"->h.get? b=some o->h'.get? b=some o):AscV h' vs:=by
 refine ⟨λ v hv=>?_,λ i a b e1 e2=>?_⟩
 ·obtain ⟨ns,h1,h2⟩:=x.1 v hv
  exact ⟨ns,h1.keep k,h2⟩
 ·obtain ⟨ns,ms,h1,h2,h3,h4⟩:=x.2 i a b e1 e2
  exact ⟨ns,ms,h1.keep k,h2.keep k,h3,h4⟩
end
section
variable {X:Cx}
end
end L2
namespace L2
open PySem PySem.Spec PyProof.Rows
section
variable {X:Cx}
theorem walkS {prog:Program}{w:World}{A:Around} (t:Bool) (hh:A.handled=none) (I ax:Addr) (hne:ax≠I) (items:Array Value) :
  Walks prog w A I [I,ax] [I] items.size (λ i v=>items[i]? = some v) (λ i h=>SIt t h I ax i/\SAt t h ax items):=by
 cases t
 ·exact Walks.list hh I ax hne items
 ·exact Walks.tuple hh I ax hne items
theorem Zrr {ns:List Int}{its:List Value} (rv:Vals (ns.map V.int) its) (i:Nat) (v:Value) (hv:its.toArray[i]? = some v):i<ns.length/\∃ t,v = .int (ns.getD i 0) t:=by
 have hv':its[i]? = some v:=by simpa using hv
 have l2:=rv.length
 rw [lmp] at l2
 have hl:i<ns.length:=by have:=(List.getElem?_eq_some_iff.mp hv').1;omega
 obtain ⟨u2,h1,t,h2⟩:=rv.get (i:=i) (x:=.int ns[i]) (by simp [hl])
 rw [hv'] at h1;cases h1
 refine ⟨hl,t,h2.trans ?_⟩
 rw [getD_eq_getElem?_getD,gEq hl];rfl
theorem Zfy (t:Bool) (hc:X.calm=true):CallR X (.builtin "max") (λ xs H Q=>∃ (a:Addr) (ns:List Int),xs=[.ref a]/\SqB X.K t H a (ns.map V.int)/\ns≠[]/\∀ m,m∈ns->(∀ x∈ns,x≤m)->Q (.int m) H):=by
 rintro pins s σ H xs us Q I r ⟨a,ns,rfl,h,hne,q⟩
 obtain ⟨u,rfl,rx⟩:=vals1 r
 cases (show u=Value.ref a from rx)
 obtain ⟨its,rv,p,hz⟩:=I.sq h
 have l2:=rv.length
 rw [lmp] at l2
 have hpos:0<ns.length:=length_pos_iff.mpr hne
 have hlt:=p.lt
 refine call_max_walk (iterS p ?_)
 refine ⟨s.heap.objs.size,_,_,_,_,_,_,rfl,walkS (A:=X.A.in1) t (I.ok.hd hc) s.heap.objs.size a (ne_of_lt hlt) its.toArray,⟨?_,p.at λ o e=>get?_push_of_some _ e⟩,λ b hb=>?_,by rw [size_toArray];omega,CmpOf.ints_gt (λ i=>ns.getD i 0) (λ i v hv=>(Zrr rv i v hv).2),λ v h' tk hP hk=>?_⟩
 ·cases t <;> exact ⟨_,get?_push_size _ rfl,rfl,rfl⟩
 ·show b<(s.heap.push _).objs.size
  rw [size_push]
  simp only [mem_cons,not_mem_nil,or_false] at hb
  rcases hb with e|e
  ·rw [e];exact lt_succ_self _
  ·rw [e];exact lt_succ_of_lt hlt
 ·obtain ⟨hl,t',e⟩:=Zrr rv _ v hP
  obtain ⟨g1,g2⟩:=argBest_gt (λ i=>ns.getD i 0) (its.toArray.size-1)
  refine ⟨.int (ns.getD (argBest (λ i j=>decide (ns.getD i 0 > ns.getD j 0)) (its.toArray.size-1)) 0),H,I.kept (λ b o e=>hk b o ?_ (get?_push_of_some _ e)),⟨t',e⟩,q _ ?_ λ x hx=>?_⟩
  ·intro hb
   have:b=s.heap.objs.size:=by simpa using hb
   exact absurd (lt_size e) (by rw [this];exact lt_irrefl _)
  ·rw [getD_eq_getElem?_getD,gEq hl];exact getElem_mem hl
  ·obtain ⟨j,hj,rfl⟩:=mem_iff_getElem.mp hx
   have:=g2 j (by rw [size_toArray];omega)
   rw [getD_eq_getElem?_getD,gEq hj] at this
   exact this
theorem Zko (t:Bool) (hc:X.calm=true):CallR X (.builtin "min") (λ xs H Q=>∃ (a:Addr) (ns:List Int),xs=[.ref a]/\SqB X.K t H a (ns.map V.int)/\ns≠[]/\∀ m,m∈ns->(∀ x∈ns,m≤x)->Q (.int m) H):=by
 rintro pins s σ H xs us Q I r ⟨a,ns,rfl,h,hne,q⟩
 obtain ⟨u,rfl,rx⟩:=vals1 r
 cases (show u=Value.ref a from rx)
 obtain ⟨its,rv,p,hz⟩:=I.sq h
 have l2:=rv.length
 rw [lmp] at l2
 have hpos:0<ns.length:=length_pos_iff.mpr hne
 have hlt:=p.lt
 refine call_min_walk (iterS p ?_)
 refine ⟨s.heap.objs.size,_,_,_,_,_,_,rfl,walkS (A:=X.A.in1) t (I.ok.hd hc) s.heap.objs.size a (ne_of_lt hlt) its.toArray,⟨?_,p.at λ o e=>get?_push_of_some _ e⟩,λ b hb=>?_,by rw [size_toArray];omega,CmpOf.ints_lt (λ i=>ns.getD i 0) (λ i v hv=>(Zrr rv i v hv).2),λ v h' tk hP hk=>?_⟩
 ·cases t <;> exact ⟨_,get?_push_size _ rfl,rfl,rfl⟩
 ·show b<(s.heap.push _).objs.size
  rw [size_push]
  simp only [mem_cons,not_mem_nil,or_false] at hb
  rcases hb with e|e
  ·rw [e];exact lt_succ_self _
  ·rw [e];exact lt_succ_of_lt hlt
 ·obtain ⟨hl,t',e⟩:=Zrr rv _ v hP
  obtain ⟨g1,g2⟩:=argBest_lt (λ i=>ns.getD i 0) (its.toArray.size-1)
  refine ⟨.int (ns.getD (argBest (λ i j=>decide (ns.getD i 0<ns.getD j 0)) (its.toArray.size-1)) 0),H,I.kept (λ b o e=>hk b o ?_ (get?_push_of_some _ e)),⟨t',e⟩,q _ ?_ λ x hx=>?_⟩
  ·intro hb
   have:b=s.heap.objs.size:=by simpa using hb
   exact absurd (lt_size e) (by rw [this];exact lt_irrefl _)
  ·rw [getD_eq_getElem?_getD,gEq hl];exact getElem_mem hl
  ·obtain ⟨j,hj,rfl⟩:=mem_iff_getElem.mp hx
   have:=g2 j (by rw [size_toArray];omega)
   rw [getD_eq_getElem?_getD (i:=j),gEq hj] at this
   exact this
theorem Zoh:CallR X (.builtin "sorted") (λ xs H Q=>∃ (a:Addr) (ns:List Int),xs=[.ref a]/\SqL X.K H a (ns.map V.int)/\ns.length<64/\∀ (p:Addr) (ns':List Int),H p=none->ns'.Perm ns->ns'.Pairwise (·≤·)->Q (.ref p) (upd H p (.lst (ns'.map V.int)))):=by
 rintro pins s σ H xs us Q I r ⟨a,ns,rfl,h,hl,q⟩
 obtain ⟨u,rfl,rx⟩:=vals1 r
 cases (show u=Value.ref a from rx)
 obtain ⟨its,rv,p,hz⟩:=I.list h
 have lv:=rv.length
 rw [lmp] at lv
 have hf:H (s.heap.objs.size+1)=none:=I.hok.fresh (le_succ _)
 refine sorted_ints p.isList (Zmm rv) (by omega) λ out ns' h1 h2 h3=>?_
 obtain ⟨e,he⟩:=sortedAll_at s.heap its out
 refine ⟨.ref (s.heap.objs.size+1),upd H (s.heap.objs.size+1) (.lst (ns'.map V.int)),I.laid (t':=s.toks) (λ b o hb=>sortedAll_old hb) (le_succ _) ?_,rfl,q _ _ hf h2 h3⟩
 refine ⟨by rw [lmp,h2.length_eq];exact le_trans (le_of_lt hl) (by decide),out.toList,e,Zlt h1,by simpa using he⟩
end
theorem Zl0 {X:Cx}{x y:Str}{a b:Expr}{ta:TA}{px py pt pos:Pos}{kt k2:Nat}{pt2:Pos} (i j:Nat) (hc:X.calm=true) (hN:X.N.Nodup) (ha:IPA X [a,b] ta) (hi:X.N[i]? = some x:=by rfl) (hj:X.N[j]? = some y:=by rfl) (hij:i≠j:=by decide)
  (hx:X.env.scope.names.lookup x=some .local:=by rfl) (hy:X.env.scope.names.lookup y=some .local:=by rfl)
  (hw:swappedStores [.Tuple [.Name x px,.Name y py] kt pt] (.Tuple [a,b] k2 pt2) X.env=pure (some [x,y]):=by rfl)
  (hs:swapsWithSole [.Tuple [.Name x px,.Name y py] kt pt] (.Tuple [a,b] k2 pt2) pos.line X.env=pure false:=by rfl) :
  IPS X (.Assign [.Tuple [.Name x px,.Name y py] kt pt] (.Tuple [a,b] k2 pt2) pos) (tPar i j ta):=by
 rw [Zb8]
 rw [Zba] at ha
 exact Zzr hc hN hi hj hij hx hy ha hw hs
end L2
namespace L2
open PySem PySem.Spec PyProof.Rows
def gaQ {α:Type} (d:α) (na nk:Nat) (pick:List (Nat × Nat)) (us ws:List α):List α:=if us.length=na/\ws.length=nk then pick.filterMap (λ p=>if p.1=0 then us[p.2]? else if p.1=1 then ws[p.2]? else some d) else []
theorem Ztf {na nk:Nat}{pick:List (Nat × Nat)}{α:Type}{d:α}{us ws:List α}{n:Nat} (h:(gaQ d na nk pick us ws).length=n+1):us.length=na/\ws.length=nk:=by
 unfold gaQ at h
 split at h
 ·assumption
 ·cases h
theorem Zxe {na nk:Nat}{pick:List (Nat × Nat)}{dv:V}{du:Value} (hd:RelV dv du) {vs:List V}{us:List Value}{zs:List V}{ws:List Value} (r:Vals vs us) (z:Vals zs ws):Vals (gaQ dv na nk pick vs zs) (gaQ du na nk pick us ws):=by
 unfold gaQ
 rw [r.length,z.length]
 split
 ·induction pick with
  | nil=>exact .nil
  | cons p t ih=>
   have look:∀ {as:List V}{bs:List Value},Vals as bs->∀ i:Nat,(∃ a b,as[i]? = some a/\bs[i]? = some b/\RelV a b) \/ (as[i]? = none/\bs[i]? = none):=λ {as bs} q i=>by
    cases e:as[i]? with
    | none=>exact .inr ⟨rfl,q.none_of e⟩
    | some a=>obtain ⟨b,h1,h2⟩:=q.get e;exact .inl ⟨a,b,rfl,h1,h2⟩
   rw [filterMap_cons,filterMap_cons]
   by_cases c0:p.1=0
   ·rcases look r p.2 with ⟨a,b,e1,e2,q⟩|⟨e1,e2⟩
    ·simp only [c0,if_true,e1,e2];exact .cons q ih
    ·simp only [c0,if_true,e1,e2];exact ih
   ·by_cases c1:p.1=1
    ·rcases look z p.2 with ⟨a,b,e1,e2,q⟩|⟨e1,e2⟩
     ·simp only [c0,c1,if_false,if_true,e1,e2];exact .cons q ih
     ·simp only [c0,c1,if_false,if_true,e1,e2];exact ih
    ·simp only [c0,c1,if_false];exact .cons hd ih
 ·exact .nil
def KBindsD (x:Str) (st:Stmt) (ps ks:List Str) (na nk:Nat) (pick:List (Nat × Nat)):Prop:=∀ (T e:Addr) (kV doc pm:Value) (an:Option Addr) (cdv ct:Value) (us ws:List Value),(gaQ (Value.ref e) na nk pick us ws).length=ps.length ->
 ∃ k:Option (Array Value)->Sem (List (Str × Value)),bindArgs (PySem.W.fnOf x x (defArgs st) (defBody st) (defScope st) (.ref T) kV doc pm an cdv ct) ⟨us,ks.zip ws⟩=seqItems? (.ref T) >>= k/\k (some #[.ref e])=pure (ps.zip (gaQ (Value.ref e) na nk pick us ws))
structure FunD (K:PySem.W.Frag) (x:Str) (st:Stmt) (f:Addr) (fd:FuncData) (e:Addr):Prop where
 ex:∃ (oc:Value) (od:Option Addr) (T:Addr) (kV doc pm:Value) (an:Option Addr) (cdv ct:Value) (osl:Array (Option Value)) (oT:Obj) (n:Nat),
  fd=PySem.W.fnOf x x (defArgs st) (defBody st) (defScope st) (.ref T) kV doc pm an cdv ct/\K.lookup f=some ⟨oc,od,.func fd,osl⟩/\PySem.W.codeIn K cdv x=true/\K.lookup T=some oT/\oT.data = .seq #[.ref e] n
 kp:PySem.W.keepIn K (.ref f)=true
def EmptyAt (K:PySem.W.Frag) (e:Addr):Prop:=∃ (o:Obj) (n:Nat),K.lookup e=some o/\o.cls = .type "tuple"/\o.data = .seq #[] n
theorem EmptyAt.tup {K:PySem.W.Frag}{e:Addr} (h:EmptyAt K e) (H:Hp):SqT K H e []:=by
 obtain ⟨o,n,h1,h2,h3⟩:=h
 exact .inr ⟨o,#[],n,h1,h2,h3,by decide,.nil⟩
theorem FunD.kbinds {K:PySem.W.Frag}{x:Str}{st:Stmt}{ps ks:List Str}{na nk:Nat}{pick:List (Nat × Nat)}{f e:Addr}{fd:FuncData} (F:FunD K x st f fd e) (h:KBindsD x st ps ks na nk pick):KBinds K fd ps ks (gaQ (Value.ref e) na nk pick) (gaQ (V.ref e) na nk pick):=by
 obtain ⟨oc,od,T,kV,doc,pm,an,cdv,ct,osl,oT,n,rfl,lk,hcd,hT,hd⟩:=F.ex
 refine ⟨λ s us ws kin hl=>?_,λ r z=>Zxe (show RelV (V.ref e) (Value.ref e) from rfl) r z⟩
 obtain ⟨k,h1,h2⟩:=h T e kV doc pm an cdv ct us ws hl
 exact BindsTo.of_defaults (T:=T) rfl (kin T oT hT) hd h1 h2
structure DnD (P:Program) (w:World) (K:PySem.W.Frag) (mg:Str->Option Value) (base:Heap) (k:Nat) (x:Str) (st:Stmt) (ps:List Str) (sp:Sp) (e:Addr):Prop where
 ex:∃ f fd,FnOk P w K mg base CX0 k f fd ps sp/\FunD K x st f fd e/\mg x=some (.ref f)
theorem DnD.of {P:Program}{w:World}{K:PySem.W.Frag}{mg:Str->Option Value}{base:Heap}{x:Str}{st:Stmt}{N ps:List Str}{k:Nat}{sp:Sp}{e:Addr} (U:∃ f fd,FunD K x st f fd e/\mg x=some (.ref f)) (S:FnScope N ps (defScope st)) (len:∀ vs H Q E,sp vs H Q E->vs.length=ps.length)
  (hbody:∀ (f:Addr) (cdv:Value) (A:Around) (outer:List Env) (s:Shared) (H:Hp) (vs:List V) (Q:VK) (E:XK),Room k (A.deeper (envOfC x (defScope st) s.heap.objs.size f cdv))->sp vs H Q E ->
   ∃ t,PSs (cxOf CX0 P w K mg base N x (defScope st) f cdv A outer s H E).nox (defBody st) t/\t { nx:=λ _ H'=>Q .non H',rt:=Q } (start N vs) H):DnD P w K mg base (k+1) x st ps sp e:=by
 obtain ⟨f,fd,F,m⟩:=U
 refine ⟨f,fd,?_,F,m⟩
 obtain ⟨oc,od,T,kV,doc,pm,an,cdv,ct,osl,oT,n,rfl,lk,hcd,hT,hd⟩:=F.ex
 refine Zyu lk hcd S len λ A outer s H vs Q E hr hsp=>?_
 obtain ⟨t,h,q⟩:=hbody f cdv A outer s H vs Q E hr hsp
 exact ⟨t,h.nox,q⟩
section
variable {X:Cx}{k:Nat}{x:Str}{st:Stmt}{ps ks:List Str}{sp:Sp}{p pos:Pos}{e:Expr}{es:List Expr}{kws:List Keyword}{t tk:TA}{na nk:Nat}{pick:List (Nat × Nat)}{d:Addr}
theorem Zf3 (D:DnD X.prog X.w X.K X.mg X.base k x st ps sp d) (hb:KBindsD x st ps ks na nk pick) (hr:Room k X.A) (ha:IPA X (e::es) t) (hkw:IPK X kws tk) (hg:Gl X x:=by rfl) (hall:(backToKw pos (keywordEach kws X.env)).all (·.1.isSome)=true:=by rfl) (hks:(backToKw pos (keywordEach kws X.env)).filterMap (·.1)=ks:=by rfl)
  (hdb:(x == ("__debug__" : Str))=false:=by decide) (he:starEach (e::es) X.env=(false,eval e X.env)::starEach es X.env:=by rfl)
  (hpl:((backTo pos (starEach (e::es) X.env)).any (·.1) || (backToKw pos (keywordEach kws X.env)).any (·.1.isNone))=false:=by rfl):IPE X (.Call (.Name x p) (e::es) kws pos) (tCallK sp (gaQ (V.ref d) na nk pick) E0 t tk):=by
 rw [Zb4];rw [Zbe] at hkw;rw [Zba] at ha
 obtain ⟨f,fd,F,U,m⟩:=D.ex
 exact Zrh F hr hg m U.kp (U.kbinds hb) pass0 ha hkw hall hks hdb he hpl
end
end L2
namespace L2
open PySem PySem.Spec PyProof.Rows
section
variable {prog:Program}{w:World}{A:Around}{E:Value->Shared->Prop}{s:Shared}
open HT in
theorem Zi1 {t sl:Addr}{items:Array Value}{vl vu:Value}{lo hi:Option Int}{Q:Value->Shared->Prop} (ht:IsTup s.heap t items) (hs:s.heap.IsSliceOf sl vl vu .none) (pl:IsPart vl lo) (pu:IsPart vu hi)
  (hw:sIx items.size 0 lo=0/\sIx items.size items.size hi=items.size) (h:Q (.ref t) s):wpAny (model prog w) A (getItem (.ref t) (.ref sl)) Q E s:=by
 obtain ⟨os,hos,hcs,hds⟩:=id hs
 have hTs:s.TypeIs (.ref sl) "slice":=⟨os,hos,hcs⟩
 unfold getItem
 try with_reducible refine wpAny_holding ?_
 first|refine wpAny_bind (wpAny_pure ?_)|skip
 refine wpAny_bind (wpAny_sequenceKey ht.typeIs (by decide) ?_)
 refine wpAny_bind (wpAny_callSpecial?_slot (name:=Str.ofString "__getitem__") ht.typeIs PyProof.Rows.slot_tuple_getitem
  (wpAny_call_entry PyProof.Rows.slot_tuple_getitem ht.typeIs entry_tuple_getitem ?_ (args_tuple_getitem _ _)))
 show wpAny _ _ (Builtin.Tuple.tupleItemsOf (.ref t) >>= _) _ _ s
 refine wpAny_bind (tupleItemsOf_ ht ?_)
 refine wpAny_bind (wpAny_typeOf hTs ?_)
 rw [if_pos (by decide)]
 refine wpAny_bind (Zgp hs pl pu ?_)
 show wpAny _ _ (if (((sIx items.size 0 lo:Nat):Int) == 0 && (1:Int) == 1 && (sIx items.size items.size hi-sIx items.size 0 lo) == items.size)=true then _ else _) _ _ s
 rw [if_pos (by rw [hw.1,hw.2];simp)]
 refine wpAny_bind ?_
 unfold Builtin.Tuple.tupleIsExact
 refine wpAny_bind (wpAny_typeOf ht.typeIs (wpAny_pure ?_))
 rw [if_pos (by decide)]
 exact wpAny_bind (wpAny_rule (wpAny_pure ⟨_,rfl,wpAny_pure h⟩))
end
section
variable {X:Cx}
end
end L2
namespace L2
open PySem PySem.Spec PyProof.Rows
section
variable {κ:Type} [DecidableEq κ]
def valV (kvs:List (κ × V)) (k:κ):Option V:=(kvs.find? λ kv=>decide (kv.1=k)).map (·.2)
def putK (kvs:List (κ × V)) (k:κ) (v:V):List (κ × V):=
 if (kvs.any λ kv=>decide (kv.1=k))=true then kvs.map (λ kv=>if kv.1=k then (kv.1,v) else kv) else kvs++[(k,v)]
theorem Zki {p:κ × V}{r:List (κ × V)}{k:κ} (e:p.1=k):valV (p::r) k=some p.2:=by simp [valV,List.find?_cons,e]
theorem Zkh {p:κ × V}{r:List (κ × V)}{k:κ} (e:¬ p.1=k):valV (p::r) k=valV r k:=by simp [valV,List.find?_cons,e]
theorem Zrq (k:κ):∀ kvs:List (κ × V),(kvs.any λ kv=>decide (kv.1=k))=(valV kvs k).isSome
 | []=>rfl
 | p::r=>by
  rw [any_cons]
  by_cases e:p.1=k
  ·simp only [Zki e,decide_eq_true e,Bool.true_or,isSome_some]
  ·rw [Zkh e,decide_eq_false e,Bool.false_or];exact Zrq k r
theorem Zgi (kvs:List (κ × V)) (k:κ) (v:V):(putK kvs k v).length≤kvs.length+1:=by
 unfold putK
 split
 ·rw [lmp];omega
 ·rw [length_append,length_cons,length_nil];omega
theorem RelO.isSome_eq {o:Option V}{u:Option Value} (r:RelO o u):o.isSome=u.isSome:=by
 cases o with
 | none=>cases u with
  | none=>rfl
  | some _=>exact (show False from r).elim
 | some _=>cases u with
  | none=>exact (show False from r).elim
  | some _=>rfl
theorem RelO.getD {o:Option V}{u:Option Value}{d:V}{d':Value} (r:RelO o u) (rd:RelV d d'):RelV (o.getD d) (u.getD d'):=by
 cases o with
 | none=>cases u with
  | none=>exact rd
  | some _=>exact (show False from r).elim
 | some _=>cases u with
  | none=>exact (show False from r).elim
  | some _=>exact r
theorem KV.val {kvs:List (κ × V)}{vs:List (κ × Value)} (r:KV kvs vs) (k:κ):RelO (valV kvs k) (valueAt vs k):=by
 unfold KV at r
 induction r with
 | nil=>exact True.intro
 | @cons p q ps qs h t ih=>
  obtain ⟨h1,h2⟩:=h
  by_cases e:p.1=k
  ·have e':q.1=k:=h1.symm.trans e
   have b:valueAt (q::qs) k=some q.2:=by simp [valueAt,List.find?_cons,e']
   rw [Zki e,b];exact h2
  ·have e':¬ q.1=k:=λ z=>e (h1.trans z)
   have b:valueAt (q::qs) k=valueAt qs k:=by simp [valueAt,List.find?_cons,e']
   rw [Zkh e,b];exact ih
theorem KV.any {kvs:List (κ × V)}{vs:List (κ × Value)} (r:KV kvs vs) (k:κ):(kvs.any λ kv=>decide (kv.1=k))=vs.any λ kv=>decide (kv.1=k):=by
 unfold KV at r
 induction r with
 | nil=>rfl
 | cons h t ih=>rw [any_cons,any_cons,ih,h.1]
theorem KV.repl {kvs:List (κ × V)}{vs:List (κ × Value)} (r:KV kvs vs) (k:κ) {y:V}{u:Value} (ry:RelV y u) :
  KV (kvs.map λ kv=>if kv.1=k then (kv.1,y) else kv) (vs.map λ kv=>if kv.1=k then (kv.1,u) else kv):=by
 unfold KV at r |-
 induction r with
 | nil=>exact .nil
 | @cons p q ps qs h t ih=>
  rw [map_cons,map_cons]
  refine .cons ?_ ih
  obtain ⟨h1,h2⟩:=h
  by_cases e:p.1=k
  ·rw [if_pos e,if_pos (h1.symm.trans e)];exact ⟨h1,ry⟩
  ·rw [if_neg e,if_neg (λ z=>e (h1.trans z))];exact ⟨h1,h2⟩
theorem KV.put {kvs:List (κ × V)}{vs:List (κ × Value)} (r:KV kvs vs) (k:κ) {y:V}{u:Value} (ry:RelV y u):KV (putK kvs k y) (stored vs k u):=by
 unfold putK stored
 rw [r.any k]
 by_cases e:(vs.any λ kv=>decide (kv.1=k))=true
 ·rw [if_pos e,if_pos e];exact r.repl k ry
 ·rw [if_neg e,if_neg e];exact Paired.snoc r ⟨rfl,ry⟩
theorem KV.keys {kvs:List (κ × V)}{vs:List (κ × Value)} (r:KV kvs vs):kvs.map (·.1)=vs.map (·.1):=by
 unfold KV at r
 induction r with
 | nil=>rfl
 | cons h t ih=>rw [map_cons,map_cons,ih,h.1]
theorem KV.length {kvs:List (κ × V)}{vs:List (κ × Value)} (r:KV kvs vs):kvs.length=vs.length:=Paired.length r
end
theorem Zsb {P:Program}{w:World}{k:Key}{u:Value} (r:RelV (kV k) u):(mixKind P w).is k u=true:=by
 cases k with
 | inl i=>obtain ⟨t,e⟩:=(show ∃ t,u=Value.int i t from r);subst e;exact Zq6 P w i t
 | inr x=>obtain ⟨t,e⟩:=(show ∃ t,u=Value.str x t from r);subst e;exact Zq7 P w x t
theorem Zp1 {P:Program}{w:World}:∀ {ks:List Key}{us:List Value},Vals (ks.map kV) us->ItemsAre (mixKind P w) ks us
 | [],_,r=>by rw [map_nil] at r;cases r;exact .nil
 | k::ks,_,r=>by
  rw [map_cons] at r
  cases r with
  | cons h t=>exact .cons (Zsb h) (Zp1 t)
abbrev KT (H:Hp):List (List Key × V)->List (List Key × Addr × Value)->Prop:=Paired λ p q=>p.1=q.1/\H q.2.1=some (.tup (p.1.map kV))/\RelV p.2 q.2.2
theorem KT.val {H:Hp}{kvs:List (List Key × V)}{xs:List (List Key × Addr × Value)} (r:KT H kvs xs) (k:List Key):RelO (valV kvs k) ((atKey xs k).map (·.2)):=by
 induction r with
 | nil=>exact True.intro
 | @cons p q ps qs h t ih=>
  obtain ⟨h1,_,h2⟩:=h
  by_cases e:p.1=k
  ·have e':q.1=k:=h1.symm.trans e
   have b:atKey (q::qs) k=some q.2:=by simp [atKey,List.find?_cons,e']
   rw [Zki e,b];exact h2
  ·have e':¬ q.1=k:=λ z=>e (h1.trans z)
   have b:atKey (q::qs) k=atKey qs k:=by simp [atKey,List.find?_cons,e']
   rw [Zkh e,b];exact ih
theorem KT.repl {H:Hp}{kvs:List (List Key × V)}{xs:List (List Key × Addr × Value)} (r:KT H kvs xs) (k:List Key) {y:V}{u:Value} (ry:RelV y u) :
  KT H (kvs.map λ kv=>if kv.1=k then (kv.1,y) else kv) (xs.map (putAt k u)):=by
 induction r with
 | nil=>exact .nil
 | @cons p q ps qs h t ih=>
  rw [map_cons,map_cons]
  refine .cons ?_ ih
  obtain ⟨h1,h2,h3⟩:=h
  unfold putAt
  by_cases e:p.1=k
  ·rw [if_pos e,if_pos (h1.symm.trans e)];exact ⟨h1,h2,ry⟩
  ·rw [if_neg e,if_neg (λ z=>e (h1.trans z))];exact ⟨h1,h2,h3⟩
theorem KT.put {H:Hp}{kvs:List (List Key × V)}{xs:List (List Key × Addr × Value)} (r:KT H kvs xs) (k:List Key) {b:Addr}{y:V}{u:Value} (hb:H b=some (.tup (k.map kV))) (ry:RelV y u) :
  KT H (putK kvs k y) (storedH xs k b u):=by
 have e:(kvs.any λ kv=>decide (kv.1=k))=(atKey xs k).isSome:=by
  rw [Zrq,(r.val k).isSome_eq,isSome_map]
 unfold putK storedH
 rw [e]
 by_cases q:(atKey xs k).isSome=true
 ·rw [if_pos q,if_pos q];exact r.repl k ry
 ·rw [if_neg q,if_neg q];exact Paired.snoc r ⟨rfl,hb,ry⟩
theorem KT.keeps {H H':Hp}{kvs:List (List Key × V)}{xs:List (List Key × Addr × Value)} (r:KT H kvs xs) (ht:∀ b ys,H b=some (.tup ys)->H' b=some (.tup ys)):KT H' kvs xs:=
 Paired.mapP r λ _ _ z=>⟨z.1,ht _ _ z.2.1,z.2.2⟩
section
variable {P:Program}{w:World}{H:Hp}{h:Heap}{a:Addr}
theorem Zzz {u:HO} (ok:HOk P w H h) (e:Rd H a u):ObjOk P w H h a u:=e.ok ok
theorem Zt7 {kvs:List (Key × V)} (ok:HOk P w H h) (e:Rd H a (.dK kvs)):kvs.length≤sizeLine/\(a == sysModules)=false/\∃ vs,KV kvs vs/\h.DictOf (mixKind P w) a vs:=
 show ObjOk P w H h a (.dK kvs) from Zzz ok e
theorem Zys {kvs:List (Key × V)} (ok:HOk P w H h) (e:H a=some (.dK kvs)):kvs.length≤sizeLine/\(a == sysModules)=false/\∃ vs,KV kvs vs/\h.DictOf (mixKind P w) a vs:=Zt7 ok (.inl e)
theorem Zmp {ks:List Key} (ok:HOk P w H h) (e:H a=some (.tup (ks.map kV))):(tupleKind (mixKind P w)).is h ks a:=by
 obtain ⟨_,its,r,o,h1,h2,n,h3,_⟩:=(show ObjOk P w H h a (.tup (ks.map kV)) from ok a _ e)
 exact ⟨o,its.toArray,n,h1,h2,h3,by simpa using Zp1 r⟩
theorem Zta {kvs:List (List Key × V)} (ok:HOk P w H h) (e:Rd H a (.dT kvs)):kvs.length≤sizeLine/\(a == sysModules)=false /\
  ∃ xs,KT H kvs xs/\h.DictOfH (tupleKind (mixKind P w)) a xs:=by
 obtain ⟨z,y,xs,r,o,es,ep,h1,h2,h3,h4,h5⟩:=(show ObjOk P w H h a (.dT kvs) from Zzz ok e)
 refine ⟨z,y,xs,r,o,es,ep,h1,h2,h3,h4,λ x hx=>?_,h5⟩
 have all:∀ {l:List (List Key × V)}{m:List (List Key × Addr × Value)},KT H l m->∀ x∈m,(tupleKind (mixKind P w)).is h x.1 x.2.1:=by
  intro l m q
  induction q with
  | nil=>intro x hx;exact nomatch hx
  | @cons p q ps qs hq t ih=>
   intro x hx
   rcases mem_cons.mp hx with e|hx
   ·subst e
    exact Zmp ok (by rw [<- hq.1];exact hq.2.1)
   ·exact ih x hx
 exact all r x hx
theorem Zxa {kvs:List (List Key × V)} (ok:HOk P w H h) (e:H a=some (.dT kvs)):kvs.length≤sizeLine/\(a == sysModules)=false /\
  ∃ xs,KT H kvs xs/\h.DictOfH (tupleKind (mixKind P w)) a xs:=Zta ok (.inl e)
end
def DGet (H:Hp) (a:Addr) (y:V) (r:Option V):Prop:=
 (∃ kvs k,Rd H a (.dK kvs)/\y=kV k/\r=valV kvs k) \/ ∃ kvs k b,Rd H a (.dT kvs)/\y = .ref b/\H b=some (.tup (k.map kV))/\r=valV kvs k
def DPut (H:Hp) (a:Addr) (y v:V) (H':Hp):Prop:=
 (∃ kvs k,H a=some (.dK kvs)/\y=kV k/\kvs.length<sizeLine/\H' = upd H a (.dK (putK kvs k v))) \/
 ∃ kvs k b,H a=some (.dT kvs)/\y = .ref b/\H b=some (.tup (k.map kV))/\kvs.length<sizeLine/\H' = upd H a (.dT (putK kvs k v))
theorem DGet.k {H:Hp}{a:Addr}{kvs:List (Key × V)}{k:Key} (e:H a=some (.dK kvs)):DGet H a (kV k) (valV kvs k):=.inl ⟨kvs,k,.inl e,rfl,rfl⟩
theorem DGet.t {H:Hp}{a b:Addr}{kvs:List (List Key × V)}{k:List Key} (e:H a=some (.dT kvs)) (eb:H b=some (.tup (k.map kV))):DGet H a (.ref b) (valV kvs k):=.inr ⟨kvs,k,b,.inl e,rfl,eb,rfl⟩
theorem DPut.k {H:Hp}{a:Addr}{kvs:List (Key × V)}{k:Key}{v:V} (e:H a=some (.dK kvs)) (hl:kvs.length<sizeLine):DPut H a (kV k) v (upd H a (.dK (putK kvs k v))):=.inl ⟨kvs,k,e,rfl,hl,rfl⟩
theorem DPut.t {H:Hp}{a b:Addr}{kvs:List (List Key × V)}{k:List Key}{v:V} (e:H a=some (.dT kvs)) (eb:H b=some (.tup (k.map kV))) (hl:kvs.length<sizeLine) :
  DPut H a (.ref b) v (upd H a (.dT (putK kvs k v))):=.inr ⟨kvs,k,b,e,rfl,eb,hl,rfl⟩
section
variable {X:Cx}{pins:List (Addr × Obj)}{σ:St}{H:Hp}{s:Shared}{a:Addr}{y v:V}{u r:Value}{o:Option V}{A:Around}{E:Value->Shared->Prop}
theorem Inv.big (I:Inv X pins σ H s):sysModules<s.heap.objs.size:=by
 have h:mainGlobals<s.heap.objs.size:=(I.mod.glob.keeps I.bk).lt
 exact Nat.lt_trans (by decide) h
theorem Zt2 {Q:Value->Shared->Prop} (hu:A.units+1<cLine) (I:Inv X pins σ H s) (g:DGet H a y (some v)) (ry:RelV y u) (h:∀ w' s',Inv X pins σ H s'->RelV v w'->Q w' s') :
  wpAny (model X.prog X.w) A (getItem (.ref a) u) Q E s:=by
 rcases g with ⟨kvs,k,e,ey,l⟩|⟨kvs,k,b,e,ey,eb,l⟩
 ·subst ey
  obtain ⟨z,hd,vs,rel,dd⟩:=Zt7 I.hok e
  obtain ⟨w',hw,rw'⟩:=RelO.some_of (v:=v) (o:=valueAt vs k) (by rw [l];exact rel.val k)
  exact wpAny_getItem_of (Zsb ry) dd.mapOf hw (h w' _ (I.tok _) rw')
 ·subst ey
  cases (show u=Value.ref b from ry)
  obtain ⟨z,hd,xs,rel,dd⟩:=Zta I.hok e
  obtain ⟨w',hw,rw'⟩:=RelO.some_of (v:=v) (o:=(atKey xs k).map (·.2)) (by rw [l];exact rel.val k)
  obtain ⟨p,hp,hp2⟩:=map_eq_some_iff.mp hw
  refine wpAny_getItem_heap (tupleKind_room_in1 hu) (Zmp I.hok eb) dd hp ?_
  rw [hp2]
  exact h w' _ (I.tok _) rw'
theorem d_in {Q:Value->Shared->Prop} (hu:A.units+1<cLine) (I:Inv X pins σ H s) (g:DGet H a y o) (ry:RelV y u) (h:∀ s',Inv X pins σ H s'->Q (.bool o.isSome) s') :
  wpAny (model X.prog X.w) A (compareOp .In u (.ref a)) Q E s:=by
 rcases g with ⟨kvs,k,e,ey,l⟩|⟨kvs,k,b,e,ey,eb,l⟩
 ·subst ey
  obtain ⟨z,hd,vs,rel,dd⟩:=Zt7 I.hok e
  refine wpAny_in_of (Zsb ry) hd dd.mapOf ?_
  rw [<- (rel.val k).isSome_eq,<- l]
  exact h _ (I.tok _)
 ·subst ey
  cases (show u=Value.ref b from ry)
  obtain ⟨z,hd,xs,rel,dd⟩:=Zta I.hok e
  refine wpAny_in_heap (tupleKind_room_in1 hu) (Zmp I.hok eb) hd dd ?_
  have q:=(rel.val k).isSome_eq
  rw [isSome_map] at q
  rw [<- q,<- l]
  exact h _ (I.tok _)
theorem Zx5 {Q:Value->Shared->Prop} (hu:A.units+1<cLine) (I:Inv X pins σ H s) (g:DGet H a y o) (ry:RelV y u) (h:∀ s',Inv X pins σ H s'->Q (.bool (!o.isSome)) s') :
  wpAny (model X.prog X.w) A (compareOp .NotIn u (.ref a)) Q E s:=by
 rcases g with ⟨kvs,k,e,ey,l⟩|⟨kvs,k,b,e,ey,eb,l⟩
 ·subst ey
  obtain ⟨z,hd,vs,rel,dd⟩:=Zt7 I.hok e
  refine wpAny_notIn_of (Zsb ry) hd dd.mapOf ?_
  rw [<- (rel.val k).isSome_eq,<- l]
  exact h _ (I.tok _)
 ·subst ey
  cases (show u=Value.ref b from ry)
  obtain ⟨z,hd,xs,rel,dd⟩:=Zta I.hok e
  refine wpAny_notIn_heap (tupleKind_room_in1 hu) (Zmp I.hok eb) hd dd ?_
  have q:=(rel.val k).isSome_eq
  rw [isSome_map] at q
  rw [<- q,<- l]
  exact h _ (I.tok _)
theorem Zn5 {h':Heap}{t':Nat}{ob:HO} (I:Inv X pins σ H s) (mu:Mut (H a)) (hs:Heap.SameBut a s.heap h') (he:∃ q,h'.get? a=some q) (new:ObjOk X.prog X.w (upd H a ob) h' a ob) :
  Inv X pins σ (upd H a ob) { s with heap:=h',toks:=t' }:=
 I.write (x:=a) (e:=a) mu (.inl rfl) (λ b q hb z=>(hs.2 b hb).trans z) he new
theorem Zwr {P:Program}{w:World}{H':Hp}{h':Heap}{kvs:List (Key × V)}{vs:List (Key × Value)} (z:kvs.length≤sizeLine) (hd:(a == sysModules)=false) (rel:KV kvs vs) (dd:h'.DictOf (mixKind P w) a vs) :
  ObjOk P w H' h' a (.dK kvs):=⟨z,hd,vs,rel,dd⟩
theorem Zt3 {H':Hp}{Q:Unit->Shared->Prop} (hu:A.units+1<cLine) (I:Inv X pins σ H s) (g:DPut H a y v H') (ry:RelV y u) (rv:RelV v r) (h:∀ s',Inv X pins σ H' s'->Q () s') :
  wpAny (model X.prog X.w) A (setItem (.ref a) u r) Q E s:=by
 rcases g with ⟨kvs,k,e,ey,l,eH⟩|⟨kvs,k,b,e,ey,eb,l,eH⟩
 ·subst ey eH
  obtain ⟨z,hd,vs,rel,dd⟩:=Zys I.hok e
  have hz:vs.length≤sizeLine:=by rw [<- rel.length];exact z
  have hl:(putK kvs k v).length≤sizeLine:=by have:=Zgi kvs k v;omega
  refine wpAny_setItem_pairs (hsz:=hz) (Zsb ry) dd λ h' dd' hs=>h _ ?_
  have he:∃ q,h'.get? a=some q:=let ⟨q,_,_,hq,_⟩:=dd';⟨q,hq⟩
  exact Zn5 I (by rw [e];exact True.intro) hs he (Zwr hl hd (rel.put k rv) dd')
 ·subst ey eH
  cases (show u=Value.ref b from ry)
  obtain ⟨z,hd,xs,rel,dd⟩:=Zxa I.hok e
  have hz:xs.length≤sizeLine:=by rw [<- Paired.length rel];exact z
  have hl:(putK kvs k v).length≤sizeLine:=by have:=Zgi kvs k v;omega
  refine wpAny_setItem_heap (hsz:=hz) (tupleKind_room_in1 hu) (Zmp I.hok eb) dd λ h' dd' hs=>h _ ?_
  obtain ⟨q,es,ep,hq,h2,h3,h4,_,h5⟩:=dd'
  refine Zn5 I (by rw [e];exact True.intro) hs ⟨q,hq⟩ ⟨hl,hd,_,(rel.put k eb rv).keeps λ c ys ec=>?_,q,es,ep,hq,h2,h3,h4,h5⟩
  rw [Zbk (Zz3 ec e (λ z=>nomatch z))]
  exact ec
end
section
variable {X:Cx}{pins:List (Addr × Obj)}{σ:St}{H:Hp}{s:Shared}{a:Addr}{kvs:List (Key × V)}{k:Key}{u:Value}{A:Around}{E:Value->Shared->Prop}
end
def NoSl (i:Expr):Prop:=∀ ov iv,subscripted i false ov iv=operate [ov,iv] (getItem ov iv)
theorem Zym {prog:Program}{w:World}{A:Around}{E:Value->Shared->Prop}{s:Shared}{env:Env}{value slice:Expr}{pos:Pos}{T id:String}{Q:Value->Shared->Prop}
  (hl:typeLookup (.type T) "__getitem__" = pure (some (.builtin id))) (hs:NoSl slice)
  (h:wpAny (model prog w) A (eval value env) (λ o s₁=>wpAny (model prog w) A (eval slice env) (λ i s₂=>s₂.TypeIs o T/\wpAny (model prog w) A (getItem o i) Q E s₂) E s₁) E s) :
  wpAny (model prog w) A (eval (.Subscript value slice pos) env) Q E s:=by
 refine Subscript_ (wpAny_mono h (λ o s₁ h₁=>wpAny_mono h₁ (λ i s₂ h₂=>?_) λ _ _ x=>x) λ _ _ x=>x)
 obtain ⟨hT,h₂⟩:=h₂
 unfold subscriptTail
 refine wpAny_bind ?_
 rw [getitemInPython_of_ne hT.not_modules]
 refine wpAny_bind (wpAny_specialOf hT hl ?_)
 have fin:wpAny (model prog w) A (subscripted slice false o i) (λ r s₃=>wpAny (model prog w) A (letTemporaryGo value o r >>= λ _=>pure r) Q E s₃) E s₂:=by
  rw [hs o i]
  exact wpAny_operating (wpAny_mono h₂ (λ r s₃ h₃=>wpAny_bind (wpAny_letTemporaryGo (wpAny_pure h₃))) λ _ _ x=>x)
 first
  | exact wpAny_pure (wpAny_bind fin)
  | exact wpAny_bind (wpAny_pure (wpAny_bind fin))
  | exact wpAny_bind fin
theorem Zpo {X:Cx}{pins:List (Addr × Obj)}{σ:St}{H:Hp}{s:Shared}{a:Addr}{y:V}{o:Option V} (I:Inv X pins σ H s) (g:DGet H a y o):s.TypeIs (.ref a) "dict":=by
 rcases g with ⟨kvs,k,e,_,_⟩|⟨kvs,k,b,e,_,_,_⟩
 ·obtain ⟨_,_,vs,_,dd⟩:=Zt7 I.hok e
  exact dd.typeIs
 ·obtain ⟨_,_,xs,_,dd⟩:=Zta I.hok e
  exact dd.typeIs
def tDGet (td ty:TE):TE:=λ σ H Q=>td σ H λ x H1=>ty σ H1 λ y H2=>∃ a v,x = .ref a/\DGet H2 a y (some v)/\Q v H2
def tDIn (ty td:TE):TE:=λ σ H Q=>ty σ H λ y H1=>td σ H1 λ x H2=>∃ a o,x = .ref a/\DGet H2 a y o/\Q (.bl o.isSome) H2
def tDNotIn (ty td:TE):TE:=λ σ H Q=>ty σ H λ y H1=>td σ H1 λ x H2=>∃ a o,x = .ref a/\DGet H2 a y o/\Q (.bl (!o.isSome)) H2
def sDPut (td ty tv:TE):TS:=λ D σ H=>tv σ H λ v H1=>td σ H1 λ x H2=>ty σ H2 λ y H3=>∃ a H4,x = .ref a/\DPut H3 a y v H4/\D.nx σ H4
section
variable {X:Cx}{o i e value:Expr}{pos pos' tpos:Pos}{td ty tv:TE}
theorem Zxs (hu:X.A.units+1<cLine) (ho:PE X o td) (hi:PE X i ty) (hs:NoSl i):PE X (.Subscript o i pos) (tDGet td ty):=by
 intro pins s σ H Q I h
 refine Zym PySem.F.slot_dict_getitem.lookup hs (thn (ho pins s σ H _ I h) λ u s1 ⟨x,H1,I1,rx,q1⟩=>thn (hi pins s1 σ H1 _ I1 q1) λ iv s2 ⟨y,H2,I2,ry,a,v,ex,g,q2⟩=>?_)
 subst ex
 obtain rfl:u=Value.ref a:=rx
 exact ⟨Zpo I2 g,Zt2 hu I2 g ry λ w' s3 I3 rw'=>⟨v,H2,I3,rw',q2⟩⟩
theorem Zz8 (hu:X.A.units+1<cLine) (hi:PE X i ty) (ho:PE X o td):PC X .In i o (tDIn ty td):=by
 intro pins s σ H Q I h
 refine thn (hi pins s σ H _ I h) λ iv s1 ⟨y,H1,I1,ry,q1⟩=>thn (ho pins s1 σ H1 _ I1 q1) λ u s2 ⟨x,H2,I2,rx,a,ov,ex,g,q2⟩=>?_
 subst ex
 obtain rfl:u=Value.ref a:=rx
 exact d_in hu I2 g ry λ s3 I3=>⟨.bl ov.isSome,H2,I3,rfl,q2⟩
theorem Ztz (hu:X.A.units+1<cLine) (hi:PE X i ty) (ho:PE X o td):PC X .NotIn i o (tDNotIn ty td):=by
 intro pins s σ H Q I h
 refine thn (hi pins s σ H _ I h) λ iv s1 ⟨y,H1,I1,ry,q1⟩=>thn (ho pins s1 σ H1 _ I1 q1) λ u s2 ⟨x,H2,I2,rx,a,ov,ex,g,q2⟩=>?_
 subst ex
 obtain rfl:u=Value.ref a:=rx
 exact Zx5 hu I2 g ry λ s3 I3=>⟨.bl (!ov.isSome),H2,I3,rfl,q2⟩
theorem Zy1 (hu:X.A.units+1<cLine) (ho:PE X o td) (hi:PE X i ty) (hv:PE X value tv) (hs:swapsWith value (some (.Subscript o i pos')) pos.line X.env=pure false) :
  PS X (.Assign [.Subscript o i pos'] value pos) (sDPut td ty tv):=by
 intro pins s σ H D I h
 refine wpAny_Assign_Subscript (thn (hv pins s σ H _ I h) λ r s1 ⟨v,H1,I1,rv,q1⟩=>thn (ho pins s1 σ H1 _ I1 q1) λ u s2 ⟨x,H2,I2,rx,q2⟩=>thn (hi pins s2 σ H2 _ I2 q2) λ iv s3 ⟨y,H3,I3,ry,a,H4,ex,g,q3⟩=>?_) hs
 subst ex
 obtain rfl:u=Value.ref a:=rx
 exact Zt3 hu I3 g ry rv λ s4 I4=>⟨σ,H4,I4,q3⟩
end
theorem Zqz {P:Program}{w:World}{H:Hp} (h:Heap) (hb:sysModules<h.objs.size):ObjOk P w H (h.push { cls:=.type "dict",data:=.dict #[] }) h.objs.size (.dT []):=
 ⟨zero_le _,beq_eq_false_iff_ne.mpr (Ne.symm (ne_of_lt hb)),[],.nil,_,#[],0,get?_push_size _ rfl,⟨rfl,rfl,rfl⟩,rfl,rfl,List.nodup_nil⟩
def tDNewT:TE:=λ _ H Q=>∀ p,H p=none->Q (.ref p) (upd H p (.dT []))
section
variable {X:Cx}{pos:Pos}
theorem Zvo:PE X (.Dict [] [] pos) tDNewT:=λ pins s σ H Q I h=>
 wpAny_Dict_empty ⟨.ref s.heap.objs.size,_,I.laid (a:=s.heap.objs.size) (o:=.dT []) (t':=s.toks) (λ _ _ q=>get?_push_of_some _ q) (le_refl _) (Zqz s.heap I.big),rfl,h _ (I.hok.fresh (le_refl _))⟩
end
section
variable {X:Cx}{pins:List (Addr × Obj)}{σ:St}{H:Hp}{s:Shared}{a:Addr}{y d:V}{u r:Value}{o:Option V}{A:Around}{E:Value->Shared->Prop}
end
section
variable {X:Cx}{o e f:Expr}{apos cpos:Pos}{td ty tx:TE}
end
section
variable {X:Cx}{pins:List (Addr × Obj)}{σ:St}{H:Hp}{s:Shared}{a:Addr}{kvs:List (Key × V)}{A:Around}{E:Value->Shared->Prop}
end
section
variable {X:Cx}{pins:List (Addr × Obj)}{σ:St}{H:Hp}{s:Shared}{a:Addr}{y:V}{u:Value}{A:Around}{E:Value->Shared->Prop}
end
end L2
namespace L2
open PySem PySem.Spec PyProof.Rows
section
variable {κ:Type} [DecidableEq κ]
end
end L2
namespace L2
open PySem PySem.Spec PyProof.Rows
mutual
def DW (K:PySem.W.Frag) (G:Hp):PyData->V->Prop
 | .none,v=>v = .non
 | .bool b,v=>v = .bl b
 | .int i,v=>v = .int i
 | .str x,v=>v = .str x
 | .list ds,v=>∃ a xs,v = .ref a/\G a=some (.lst xs)/\DWs K G ds xs
 | .tuple ds,v=>∃ a xs,v = .ref a/\(G a=some (.tup xs) \/ (ds=[]/\SqT K G a xs))/\DWs K G ds xs
 | .dict kvs,v=>∃ a ks,v = .ref a/\G a=some (.dT ks)/\DWk K G kvs ks
def DWs (K:PySem.W.Frag) (G:Hp):List PyData->List V->Prop
 | [],xs=>xs=[]
 | d::ds,xs=>∃ x r,xs=x::r/\DW K G d x/\DWs K G ds r
def DWk (K:PySem.W.Frag) (G:Hp):List (PyData × PyData)->List (List Key × V)->Prop
 | [],ks=>ks=[]
 | (k,d)::r,ks=>∃ (ns:List Int) (x:V) (t:List (List Key × V)),ks=(ns.map Sum.inl,x)::t/\k=tI ns/\DW K G d x/\DWk K G r t
end
section
variable {K:PySem.W.Frag}{G G' H H':Hp}
mutual
theorem DW.same (e:Same G G'):∀ {d:PyData}{v:V},DW K G d v->DW K G' d v
 | .none,_,h=>by unfold DW at h |-;exact h
 | .bool _,_,h=>by unfold DW at h |-;exact h
 | .int _,_,h=>by unfold DW at h |-;exact h
 | .str _,_,h=>by unfold DW at h |-;exact h
 | .list ds,_,h=>by
  unfold DW at h |-
  obtain ⟨a,xs,q1,q2,q3⟩:=h
  exact ⟨a,xs,q1,e _ _ q2,DWs.same e q3⟩
 | .tuple ds,_,h=>by
  unfold DW at h |-
  obtain ⟨a,xs,q1,q2,q3⟩:=h
  exact ⟨a,xs,q1,q2.imp (e _ _) (λ z=>⟨z.1,e.tup z.2⟩),DWs.same e q3⟩
 | .dict kvs,_,h=>by
  unfold DW at h |-
  obtain ⟨a,ks,q1,q2,q3⟩:=h
  exact ⟨a,ks,q1,e _ _ q2,DWk.same e q3⟩
theorem DWs.same (e:Same G G'):∀ {ds:List PyData}{xs:List V},DWs K G ds xs->DWs K G' ds xs
 | [],_,h=>by unfold DWs at h |-;exact h
 | d::ds,_,h=>by
  unfold DWs at h |-
  obtain ⟨x,r,q1,q2,q3⟩:=h
  exact ⟨x,r,q1,DW.same e q2,DWs.same e q3⟩
theorem DWk.same (e:Same G G'):∀ {kvs:List (PyData × PyData)}{ks:List (List Key × V)},DWk K G kvs ks->DWk K G' kvs ks
 | [],_,h=>by unfold DWk at h |-;exact h
 | (k,d)::r,_,h=>by
  unfold DWk at h |-
  obtain ⟨ns,x,t,q0,q1,q2,q3⟩:=h
  exact ⟨ns,x,t,q0,q1,DW.same e q2,DWk.same e q3⟩
end
mutual
theorem DW.dv (e:Same G H):∀ {d:PyData}{v:V},d.hasDict=false->DW K G d v->DV K H d v
 | .none,_,_,h=>by unfold DW at h;unfold DV;exact h
 | .bool _,_,_,h=>by unfold DW at h;unfold DV;exact h
 | .int _,_,_,h=>by unfold DW at h;unfold DV;exact h
 | .str _,_,_,h=>by unfold DW at h;unfold DV;exact h
 | .list ds,_,n,h=>by
  unfold DW at h;unfold DV
  obtain ⟨a,xs,q1,q2,q3⟩:=h
  exact ⟨a,xs,q1,SqL.of (e _ _ q2),DWs.dv e (by simpa [PyData.hasDict] using n) q3⟩
 | .tuple ds,_,n,h=>by
  unfold DW at h;unfold DV
  obtain ⟨a,xs,q1,q2,q3⟩:=h
  refine ⟨a,xs,q1,?_,DWs.dv e (by simpa [PyData.hasDict] using n) q3⟩
  rcases q2 with q2|⟨_,q2⟩
  ·exact SqT.of (e _ _ q2)
  ·exact e.tup q2
 | .dict kvs,_,n,h=>by simp [PyData.hasDict] at n
theorem DWs.dv (e:Same G H):∀ {ds:List PyData}{xs:List V},PyData.hasDictAll ds=false->DWs K G ds xs->DVs K H ds xs
 | [],_,_,h=>by unfold DWs at h;unfold DVs;exact h
 | d::ds,_,n,h=>by
  unfold DWs at h;unfold DVs
  obtain ⟨x,r,q1,q2,q3⟩:=h
  simp only [PyData.hasDictAll,or_eq_false_iff] at n
  exact ⟨x,r,q1,DW.dv e n.1 q2,DWs.dv e n.2 q3⟩
end
theorem DWs.nil:DWs K G [] []:=by unfold DWs;rfl
theorem DWs.cons {d:PyData}{ds:List PyData}{x:V}{xs:List V} (h:DW K G d x) (t:DWs K G ds xs):DWs K G (d::ds) (x::xs):=by unfold DWs;exact ⟨x,xs,rfl,h,t⟩
theorem DWs.append:∀ {ds es:List PyData}{xs ys:List V},DWs K G ds xs->DWs K G es ys->DWs K G (ds++es) (xs++ys)
 | [],_,_,_,h,t=>by unfold DWs at h;subst h;exact t
 | d::ds,es,_,ys,h,t=>by
  unfold DWs at h
  obtain ⟨x,r,q1,q2,q3⟩:=h
  subst q1
  exact DWs.cons q2 (DWs.append q3 t)
theorem DWs.snoc {ds:List PyData}{d:PyData}{xs:List V}{x:V} (h:DWs K G ds xs) (t:DW K G d x):DWs K G (ds++[d]) (xs++[x]):=DWs.append h (DWs.cons t DWs.nil)
theorem DWs.length:∀ {ds:List PyData}{xs:List V},DWs K G ds xs->ds.length=xs.length
 | [],_,h=>by unfold DWs at h;subst h;rfl
 | d::ds,_,h=>by
  unfold DWs at h
  obtain ⟨x,r,q1,q2,q3⟩:=h
  subst q1
  rw [length_cons,length_cons,DWs.length q3]
theorem DWs.get:∀ {ds:List PyData}{xs:List V}{i:Nat}{x:V},DWs K G ds xs->xs[i]? = some x->∃ d,ds[i]? = some d/\DW K G d x
 | [],_,i,x,h,e=>by unfold DWs at h;subst h;simp at e
 | d::ds,_,0,x,h,e=>by
  unfold DWs at h
  obtain ⟨y,r,q1,q2,q3⟩:=h
  subst q1
  simp at e;subst e
  exact ⟨d,rfl,q2⟩
 | d::ds,_,i+1,x,h,e=>by
  unfold DWs at h
  obtain ⟨y,r,q1,q2,q3⟩:=h
  subst q1
  obtain ⟨d',h1,h2⟩:=DWs.get (i:=i) (x:=x) q3 (by simpa using e)
  exact ⟨d',by simpa using h1,h2⟩
theorem DWs.get':∀ {ds:List PyData}{xs:List V}{i:Nat}{d:PyData},DWs K G ds xs->ds[i]? = some d->∃ x,xs[i]? = some x/\DW K G d x:=by
 intro ds xs i d h e
 have hi:i<xs.length:=by rw [<- h.length];exact (List.getElem?_eq_some_iff.mp e).1
 obtain ⟨d',e1,e2⟩:=h.get (gEq hi)
 rw [e] at e1;cases e1
 exact ⟨_,gEq hi,e2⟩
theorem DWs.take:∀ {ds:List PyData}{xs:List V} (k:Nat),DWs K G ds xs->DWs K G (ds.take k) (xs.take k)
 | [],xs,k,h=>by unfold DWs at h;subst h;simp;exact DWs.nil
 | d::ds,xs,0,h=>by simp;exact DWs.nil
 | d::ds,xs,k+1,h=>by
  unfold DWs at h
  obtain ⟨x,r,rfl,h1,h2⟩:=h
  exact DWs.cons h1 (DWs.take k h2)
theorem DWs.drop:∀ {ds:List PyData}{xs:List V} (k:Nat),DWs K G ds xs->DWs K G (ds.drop k) (xs.drop k)
 | [],xs,k,h=>by unfold DWs at h;subst h;simp;exact DWs.nil
 | d::ds,xs,0,h=>h
 | d::ds,xs,k+1,h=>by
  unfold DWs at h
  obtain ⟨x,r,rfl,h1,h2⟩:=h
  exact DWs.drop k h2
theorem DWs.reverse:∀ {ds:List PyData}{xs:List V},DWs K G ds xs->DWs K G ds.reverse xs.reverse
 | [],xs,h=>by unfold DWs at h;subst h;exact DWs.nil
 | d::ds,xs,h=>by
  unfold DWs at h
  obtain ⟨x,r,rfl,h1,h2⟩:=h
  rw [reverse_cons,reverse_cons]
  exact DWs.snoc (DWs.reverse h2) h1
theorem DWs.ints:∀ ns:List Int,DWs K G (ns.map .int) (ns.map .int)
 | []=>by unfold DWs;rfl
 | n::r=>by unfold DWs;exact ⟨_,_,rfl,by unfold DW;rfl,DWs.ints r⟩
theorem DWs.ints_inv:∀ {ns:List Int}{xs:List V},DWs K G (ns.map .int) xs->xs=ns.map V.int
 | [],xs,h=>by unfold DWs at h;exact h
 | n::r,xs,h=>by
  rw [map_cons] at h
  unfold DWs at h
  obtain ⟨x,t,rfl,h1,h2⟩:=h
  unfold DW at h1
  rw [h1,DWs.ints_inv h2];rfl
theorem DWs.bools_inv:∀ {ns:List Bool}{xs:List V},DWs K G (ns.map .bool) xs->xs=ns.map V.bl
 | [],xs,h=>by unfold DWs at h;exact h
 | n::r,xs,h=>by
  rw [map_cons] at h
  unfold DWs at h
  obtain ⟨x,t,rfl,h1,h2⟩:=h
  unfold DW at h1
  rw [h1,DWs.bools_inv h2];rfl
theorem DW.list {a:Addr}{xs:List V}{ds:List PyData} (h:G a=some (.lst xs)) (t:DWs K G ds xs):DW K G (.list ds) (.ref a):=by unfold DW;exact ⟨a,xs,rfl,h,t⟩
theorem DW.tup {a:Addr}{xs:List V}{ds:List PyData} (h:G a=some (.tup xs)) (t:DWs K G ds xs):DW K G (.tuple ds) (.ref a):=by unfold DW;exact ⟨a,xs,rfl,.inl h,t⟩
theorem DW.tup_inv {v:V}{ds:List PyData} (h:DW K G (.tuple ds) v):∃ a xs,v = .ref a/\SqT K G a xs/\DWs K G ds xs:=by
 unfold DW at h
 obtain ⟨a,xs,q1,q2,q3⟩:=h
 refine ⟨a,xs,q1,?_,q3⟩
 rcases q2 with q2|⟨_,q2⟩
 ·exact SqT.of q2
 ·exact q2
theorem DW.list_inv {v:V}{ds:List PyData} (h:DW K G (.list ds) v):∃ a xs,v = .ref a/\G a=some (.lst xs)/\DWs K G ds xs:=by
 unfold DW at h;exact h
theorem DW.int {i:Int}:DW K G (.int i) (.int i):=by unfold DW;rfl
theorem DW.bool {i:Bool}:DW K G (.bool i) (.bl i):=by unfold DW;rfl
theorem DW.str {i:Str}:DW K G (.str i) (.str i):=by unfold DW;rfl
theorem DW.none:DW K G .none .non:=by unfold DW;rfl
theorem DW.int_inv {i:Int}{v:V} (h:DW K G (.int i) v):v = .int i:=by unfold DW at h;exact h
theorem DW.bool_inv {i:Bool}{v:V} (h:DW K G (.bool i) v):v = .bl i:=by unfold DW at h;exact h
theorem DW.str_inv {i:Str}{v:V} (h:DW K G (.str i) v):v = .str i:=by unfold DW at h;exact h
theorem DW.none_inv {v:V} (h:DW K G .none v):v = .non:=by unfold DW at h;exact h
end
inductive Val where
 | d (x:PyData)|own (a:Addr)|raw (v:V)|scr (ns:List Int)
inductive Own where
 | lst (ds:List PyData)|urn (m:Nat)|dct (kvs:List (List Int × PyData))
abbrev OW:=Addr->Option Own
def OW.put (w:OW) (a:Addr) (o:Own):OW:=λ b=>if b=a then some o else w b
theorem OW.put_same {w:OW}{a:Addr}{o:Own}:w.put a o a=some o:=by simp [OW.put]
theorem OW.put_ne {w:OW}{a b:Addr}{o:Own} (h:b≠a):w.put a o b=w b:=by simp [OW.put,h]
theorem OW.put_put {w:OW}{a:Addr}{o u:Own}:(w.put a o).put a u=w.put a u:=by
 funext b;unfold OW.put;split <;> rfl
structure DS where
 e:List (Option Val)
 w:OW
def DS.put (s:DS) (a:Addr) (o:Own):DS:=⟨s.e,s.w.put a o⟩
def DS.set (s:DS) (i:Nat) (v:Val):DS:=⟨s.e.set i (some v),s.w⟩
def VR (K:PySem.W.Frag) (G:Hp):Val->V->Prop
 | .d x,v=>DW K G x v
 | .own a,v=>v = .ref a
 | .raw u,v=>v=u
 | .scr ns,v=>∃ a,v = .ref a/\SqL K G a (ns.map V.int)
def kvK (kvs:List (List Int × PyData)):List (PyData × PyData):=kvs.map λ p=>(tI p.1,p.2)
def OwnAt (K:PySem.W.Frag) (G H:Hp) (a:Addr):Own->Prop
 | .lst ds=>∃ xs,H a=some (.lst xs)/\DWs K G ds xs
 | .urn m=>Urn H a m
 | .dct kvs=>∃ ks,H a=some (.dT ks)/\DWk K G (kvK kvs) ks
def OwnOk (K:PySem.W.Frag) (G:Hp) (w:OW) (H:Hp):Prop:=∀ a o,w a=some o->G a=none/\OwnAt K G H a o
def SL (K:PySem.W.Frag) (G:Hp) (e:List (Option Val)) (σ:St):Prop:=e.length=σ.length/\∀ (i:Nat) (v:Val),e[i]? = some (some v)->∃ x,σ[i]? = some (some x)/\VR K G v x
structure Rel (K:PySem.W.Frag) (G:Hp) (s:DS) (σ:St) (H:Hp):Prop where
 sub:Same G H
 own:OwnOk K G s.w H
 sl:SL K G s.e σ
section
variable {K:PySem.W.Frag}{G G' H H':Hp}{s:DS}{σ:St}
theorem VR.same (e:Same G G'):∀ {v:Val}{x:V},VR K G v x->VR K G' v x
 | .d _,_,h=>DW.same e h
 | .own _,_,h=>h
 | .raw _,_,h=>h
 | .scr _,_,⟨a,h1,h2⟩=>⟨a,h1,e.seq h2⟩
theorem SL.same {e:List (Option Val)} (q:Same G G') (h:SL K G e σ):SL K G' e σ:=⟨h.1,λ i v z=>by
 obtain ⟨x,h1,h2⟩:=h.2 i v z
 exact ⟨x,h1,h2.same q⟩⟩
theorem SL.set {e:List (Option Val)}{v:Val}{x:V} (h:SL K G e σ) (r:VR K G v x) (i:Nat):SL K G (e.set i (some v)) (σ.set i (some x)):=by
 refine ⟨by simp [h.1],λ j u z=>?_⟩
 by_cases hj:i=j
 ·subst hj
  have hl:i<e.length:=by
   have:=(List.getElem?_eq_some_iff.mp z).1
   simpa using this
  rw [getElem?_set_self hl] at z
  cases z
  exact ⟨x,by rw [getElem?_set_self (by rw [<- h.1];exact hl)],r⟩
 ·rw [getElem?_set_ne hj] at z |-
  exact h.2 j u z
theorem OwnAt.there {a:Addr}:∀ {o:Own},OwnAt K G H a o->∃ u,H a=some u
 | .lst _,⟨xs,h,_⟩=>⟨_,h⟩
 | .urn _,⟨_,_,_,h,_⟩=>⟨_,h⟩
 | .dct _,⟨ks,h,_⟩=>⟨_,h⟩
theorem OwnAt.mono {a:Addr} (e:Same G G') (q:H' a=H a):∀ {o:Own},OwnAt K G H a o->OwnAt K G' H' a o
 | .lst _,⟨xs,h,d⟩=>⟨xs,q▸h,d.same e⟩
 | .urn _,⟨g,c,n,h,r⟩=>⟨g,c,n,q▸h,r⟩
 | .dct _,⟨ks,h,d⟩=>⟨ks,q▸h,DWk.same e d⟩
theorem Rel.free (r:Rel K G s σ H) {p:Addr} (h:H p=none):s.w p=none:=by
 cases e:s.w p with
 | none=>rfl
 | some o=>
  obtain ⟨u,hu⟩:=(r.own p o e).2.there
  rw [h] at hu;cases hu
theorem OwnOk.mono {w:OW} (h:OwnOk K G w H) (e:Same G G') (k:∀ a o,w a=some o->G' a=none/\H' a=H a):OwnOk K G' w H':=λ a o q=>⟨(k a o q).1,(h a o q).2.mono e (k a o q).2⟩
theorem Rel.new (r:Rel K G s σ H) {p:Addr} (h:H p=none) (o:HO):Rel K (upd G p o) s σ (upd H p o):=by
 have hg:G p=none:=r.sub.free h
 refine ⟨λ b u q=>?_,r.own.mono (Zdb hg o) λ a u q=>?_,r.sl.same (Zdb hg o)⟩
 ·by_cases z:b=p
  ·subst z;rw [Zbw] at q |-;exact q
  ·rw [Zbk z] at q |-;exact r.sub _ _ q
 ·have na:a≠p:=λ z=>by
   obtain ⟨v,hv⟩:=(r.own a u q).2.there
   rw [z,h] at hv;cases hv
  exact ⟨by rw [Zbk na];exact (r.own a u q).1,Zbk na⟩
theorem Rel.newOwn (r:Rel K G s σ H) {p:Addr} (h:H p=none) {o:HO}{u:Own} (at':OwnAt K G (upd H p o) p u):Rel K G (s.put p u) σ (upd H p o):=by
 refine ⟨λ b v q=>?_,λ a v q=>?_,r.sl⟩
 ·have nb:b≠p:=λ z=>by rw [z] at q;rw [r.sub.free h] at q;cases q
  rw [Zbk nb];exact r.sub _ _ q
 ·by_cases z:a=p
  ·subst z
   have q':s.w.put a u a=some v:=q
   rw [OW.put_same] at q';cases q'
   exact ⟨r.sub.free h,at'⟩
  ·have q':s.w.put p u a=some v:=q
   rw [OW.put_ne z] at q'
   exact ⟨(r.own a v q').1,(r.own a v q').2.mono (Same.refl G) (Zbk z)⟩
theorem Rel.chg (r:Rel K G s σ H) {p:Addr}{o0:Own} (h:s.w p=some o0) {o:HO}{u:Own} (at':OwnAt K G (upd H p o) p u):Rel K G (s.put p u) σ (upd H p o):=by
 refine ⟨λ b v q=>?_,λ a v q=>?_,r.sl⟩
 ·have nb:b≠p:=λ z=>by rw [z] at q;rw [(r.own p o0 h).1] at q;cases q
  rw [Zbk nb];exact r.sub _ _ q
 ·by_cases z:a=p
  ·subst z
   have q':s.w.put a u a=some v:=q
   rw [OW.put_same] at q';cases q'
   exact ⟨(r.own a o0 h).1,at'⟩
  ·have q':s.w.put p u a=some v:=q
   rw [OW.put_ne z] at q'
   exact ⟨(r.own a v q').1,(r.own a v q').2.mono (Same.refl G) (Zbk z)⟩
theorem Rel.set (r:Rel K G s σ H) {v:Val}{x:V} (q:VR K G v x) (i:Nat):Rel K G (s.set i v) (σ.set i (some x)) H:=⟨r.sub,r.own,r.sl.set q i⟩
theorem Rel.env (r:Rel K G s σ H) {e:List (Option Val)}{σ':St} (q:SL K G e σ'):Rel K G ⟨e,s.w⟩ σ' H:=⟨r.sub,r.own,q⟩
theorem SL.capt {e:List (Option Val)} (h:SL K G e σ) (cap:List (Option Nat)):SL K G (cap.map λ o=>o.bind λ j=>(e[j]?).join) (capt cap σ):=by
 refine ⟨by simp [L2.capt],λ i v z=>?_⟩
 rw [getElem?_map] at z
 cases q:cap[i]? with
 | none=>rw [q] at z;cases z
 | some o=>
  rw [q] at z
  simp only [map_some,Option.some.injEq] at z
  cases o with
  | none=>cases z
  | some j=>
   simp only [bind_some] at z
   have z':e[j]? = some (some v):=by
    cases q2:e[j]? with
    | none=>rw [q2] at z;cases z
    | some u=>rw [q2] at z;simp at z;rw [z]
   obtain ⟨x,h1,h2⟩:=h.2 j v z'
   refine ⟨x,?_,h2⟩
   unfold L2.capt
   rw [getElem?_map,q]
   simp [h1]
end
def captD (cap:List (Option Nat)) (e:List (Option Val)):List (Option Val):=cap.map λ o=>o.bind λ j=>(e[j]?).join
abbrev DK:=Val->DS->Prop
abbrev DTE:=DS->DK->Prop
abbrev DTT:=DS->(Bool->DS->Prop)->Prop
abbrev DTA:=DS->(List Val->DS->Prop)->Prop
abbrev DTI:=DS->(List PyData × (OW->Prop)->DS->Prop)->Prop
abbrev DTG:=Val->DS->(DS->Prop)->Prop
abbrev DTL:=List PyData->DS->(List PyData->DS->Prop)->Prop
def Po (K:PySem.W.Frag) (G:Hp) (σ:St) (Q:VK):DK:=λ v s=>∀ G' H' x,Same G G'->Rel K G' s σ H'->VR K G' v x->Q x H'
def PoT (K:PySem.W.Frag) (G:Hp) (σ:St) (Q:Bool->Hp->Prop):Bool->DS->Prop:=λ b s=>∀ G' H',Same G G'->Rel K G' s σ H'->Q b H'
inductive VRs (K:PySem.W.Frag) (G:Hp):List Val->List V->Prop
 | nil:VRs K G [] []
 | cons {v x vs xs}:VR K G v x->VRs K G vs xs->VRs K G (v::vs) (x::xs)
theorem VRs.same {K:PySem.W.Frag}{G G':Hp} (e:Same G G'):∀ {vs:List Val}{xs:List V},VRs K G vs xs->VRs K G' vs xs
 | _,_,.nil=>.nil
 | _,_,.cons h t=>.cons (h.same e) (VRs.same e t)
theorem VRs.length {K:PySem.W.Frag}{G:Hp}:∀ {vs:List Val}{xs:List V},VRs K G vs xs->vs.length=xs.length
 | _,_,.nil=>rfl
 | _,_,.cons h t=>by rw [length_cons,length_cons,VRs.length t]
def PoA (K:PySem.W.Frag) (G:Hp) (σ:St) (Q:List V->Hp->Prop):List Val->DS->Prop:=λ vs s=>∀ G' H' xs,Same G G'->Rel K G' s σ H'->VRs K G' vs xs->Q xs H'
def Mo {α:Type} (d:DS->(α->DS->Prop)->Prop):Prop:=∀ s Q Q',(∀ v s',Q v s'->Q' v s')->d s Q->d s Q'
structure RE (K:PySem.W.Frag) (t:TE) (d:DTE):Prop where
 mo:Mo d
 ok:∀ G s σ H Q,Rel K G s σ H->d s (Po K G σ Q)->t σ H Q
structure RT (K:PySem.W.Frag) (t:TT) (d:DTT):Prop where
 mo:Mo d
 ok:∀ G s σ H Q,Rel K G s σ H->d s (PoT K G σ Q)->t σ H Q
structure RA (K:PySem.W.Frag) (t:TA) (d:DTA):Prop where
 mo:Mo d
 ok:∀ G s σ H Q,Rel K G s σ H->d s (PoA K G σ Q)->t σ H Q
structure DEnds where
 nx:DS->Prop
 rt:DK
 bk:DS->Prop:=λ _=>False
 ct:DS->Prop:=λ _=>False
abbrev DTS:=DEnds->DS->Prop
structure PoS (K:PySem.W.Frag) (G:Hp) (D:Ends) (E:DEnds):Prop where
 nx:∀ s' G' σ' H',Same G G'->Rel K G' s' σ' H'->E.nx s'->D.nx σ' H'
 rt:∀ v s' G' σ' H' x,Same G G'->Rel K G' s' σ' H'->VR K G' v x->E.rt v s'->D.rt x H'
 bk:∀ s' G' σ' H',Same G G'->Rel K G' s' σ' H'->E.bk s'->D.bk σ' H'
 ct:∀ s' G' σ' H',Same G G'->Rel K G' s' σ' H'->E.ct s'->D.ct σ' H'
theorem PoS.same {K:PySem.W.Frag}{G G':Hp}{D:Ends}{E:DEnds} (h:PoS K G D E) (e:Same G G'):PoS K G' D E:=
 ⟨λ s' G2 σ' H' q=>h.nx s' G2 σ' H' (e.trans q),λ v s' G2 σ' H' x q=>h.rt v s' G2 σ' H' x (e.trans q),λ s' G2 σ' H' q=>h.bk s' G2 σ' H' (e.trans q),λ s' G2 σ' H' q=>h.ct s' G2 σ' H' (e.trans q)⟩
def RS (K:PySem.W.Frag) (t:TS) (d:DTS):Prop:=∀ G s σ H D E,Rel K G s σ H->PoS K G D E->d E s->t D σ H
structure RG (K:PySem.W.Frag) (g:TG) (d:DTG):Prop where
 mo:∀ v s (Q Q':DS->Prop),(∀ s',Q s'->Q' s')->d v s Q->d v s Q'
 ok:∀ G s σ H v x Q,Rel K G s σ H->VR K G v x->d v s (λ s'=>∀ G' σ' H',Same G G'->Rel K G' s' σ' H'->Q σ' H')->g x σ H Q
def JOk (K:PySem.W.Frag) (J:It) (G0:Hp) (P:OW->Prop) (ds:List PyData):Prop:=∀ G s σ H i,Same G0 G->P s.w->Rel K G s σ H ->
 (∀ d,ds[i]? = some d->J.go i H/\∀ x H',J.yld i H x H'->∃ G',Same G G'/\Rel K G' s σ H'/\DW K G' d x)/\(ds.length≤i->J.stop i H)
structure RI (K:PySem.W.Frag) (t:TI) (d:DTI):Prop where
 mo:Mo d
 ok:∀ G s σ H (R:It->Hp->Prop),Rel K G s σ H->d s (λ ds s'=>∀ G' H' J,Same G G'->Rel K G' s' σ H'->JOk K J G' ds.2 ds.1->R J H')->t σ H R
structure RL (K:PySem.W.Frag) (t:TL) (d:DTL):Prop where
 mo:∀ acc s (Q Q':List PyData->DS->Prop),(∀ v s',Q v s'->Q' v s')->d acc s Q->d acc s Q'
 ok:∀ G s σ H acc ys (Q:LK),Rel K G s σ H->DWs K G acc ys->acc.length<sizeLine->d acc s (λ acc' s'=>∀ G' σ' H' ys',Same G G'->Rel K G' s' σ' H'->DWs K G' acc' ys'->Q ys' σ' H')->t ys σ H Q
end L2
namespace L2
open PySem PySem.Spec PyProof.Rows
section
variable {K:PySem.W.Frag}{G G' H H':Hp}{s:DS}{σ:St}
theorem Po.same {Q:VK}{v:Val} (h:Po K G σ Q v s) (e:Same G G'):Po K G' σ Q v s:=λ G2 H2 x e2=>h G2 H2 x (e.trans e2)
theorem PoT.same {Q:Bool->Hp->Prop}{v:Bool} (h:PoT K G σ Q v s) (e:Same G G'):PoT K G' σ Q v s:=λ G2 H2 e2=>h G2 H2 (e.trans e2)
theorem PoA.same {Q:List V->Hp->Prop}{v:List Val} (h:PoA K G σ Q v s) (e:Same G G'):PoA K G' σ Q v s:=λ G2 H2 x e2=>h G2 H2 x (e.trans e2)
theorem Po.here {Q:VK}{v:Val}{x:V} (h:Po K G σ Q v s) (r:Rel K G s σ H) (q:VR K G v x):Q x H:=h G H x (Same.refl G) r q
theorem Zfb {i:Int}:VR K G (.d (.int i)) (.int i):=by unfold VR;exact DW.int
theorem Zhf {i:Bool}:VR K G (.d (.bool i)) (.bl i):=by unfold VR;exact DW.bool
theorem Zx3 {i:Str}:VR K G (.d (.str i)) (.str i):=by unfold VR;exact DW.str
theorem Zpk:VR K G (.d .none) .non:=by unfold VR;exact DW.none
theorem Zdg {i:Int}{x:V} (h:VR K G (.d (.int i)) x):x = .int i:=by unfold VR at h;exact DW.int_inv h
theorem Zo4 {i:Bool}{x:V} (h:VR K G (.d (.bool i)) x):x = .bl i:=by unfold VR at h;exact DW.bool_inv h
theorem Zmx {i:Str}{x:V} (h:VR K G (.d (.str i)) x):x = .str i:=by unfold VR at h;exact DW.str_inv h
theorem Zmw {ds:List PyData}{v:V} (h:VR K G (.d (.list ds)) v):∃ a xs,v = .ref a/\G a=some (.lst xs)/\DWs K G ds xs:=by unfold VR at h;exact DW.list_inv h
theorem Zmy {ds:List PyData}{v:V} (h:VR K G (.d (.tuple ds)) v):∃ a xs,v = .ref a/\SqT K G a xs/\DWs K G ds xs:=by unfold VR at h;exact DW.tup_inv h
def dVar (i:Nat):DTE:=λ s k=>match s.e[i]? with|some (some v)=>k v s|_=>False
theorem Za2 (i:Nat):RE K (tVar i) (dVar i):=by
 refine ⟨λ s Q Q' h q=>?_,λ G s σ H Q r h=>?_⟩
 ·unfold dVar at q |-
  split at q
  ·exact h _ _ q
  ·exact q.elim
 ·unfold dVar at h
  split at h
  ·next v e=>
   obtain ⟨x,h1,h2⟩:=r.sl.2 i v e
   exact ⟨x,h1,h.here r h2⟩
  ·exact h.elim
def dC (v:Val):DTE:=λ s k=>k v s
theorem re_c {v:Val}{x:V} (h:∀ G,VR K G v x):RE K (tC x) (dC v):=⟨λ s Q Q' h q=>h _ _ q,λ G s σ H Q r q=>Po.here q r (h G)⟩
theorem Zae {i:Int}:RE K (tC (.int i)) (dC (.d (.int i))):=re_c λ _=>Zfb
theorem Zfd {i:Bool}:RE K (tC (.bl i)) (dC (.d (.bool i))):=re_c λ _=>Zhf
theorem Zdm {i:Str}:RE K (tC (.str i)) (dC (.d (.str i))):=re_c λ _=>Zx3
theorem Zmt:RE K (tC .non) (dC (.d .none)):=re_c λ _=>Zpk
theorem Zpd {n:String}:RE K (tC (.ty n)) (dC (.raw (.ty n))):=re_c λ _=>rfl
structure RO (K:PySem.W.Frag) (r:R2) (f:Val->Val->DTE):Prop where
 mo:∀ v w,Mo (f v w)
 ok:∀ G s σ H x y v w Q,Rel K G s σ H->VR K G v x->VR K G w y->f v w s (Po K G σ Q)->r x y H Q
def dOp (f:Val->Val->DTE) (da db:DTE):DTE:=λ s k=>da s λ v s1=>db s1 λ w s2=>f v w s2 k
theorem Zah {r:R2}{f:Val->Val->DTE}{ta tb:TE}{da db:DTE} (ho:RO K r f) (ha:RE K ta da) (hb:RE K tb db):RE K (tOp r ta tb) (dOp f da db):=by
 refine ⟨λ s Q Q' h q=>ha.mo _ _ _ (λ v s1 q1=>hb.mo _ _ _ (λ w s2 q2=>ho.mo v w _ _ _ h q2) q1) q,λ G s σ H Q r h=>?_⟩
 refine ha.ok G s σ H _ r (ha.mo _ _ _ (λ v s1 q G1 H1 x e1 r1 v1=>?_) h)
 refine hb.ok G1 s1 σ H1 _ r1 (hb.mo _ _ _ (λ w s2 q2 G2 H2 y e2 r2 v2=>?_) q)
 exact ho.ok G2 s2 σ H2 x y v w Q r2 (v1.same e2) v2 (ho.mo v w _ _ _ (λ u s3 q3=>q3.same (e1.trans e2)) q2)
structure RU (K:PySem.W.Frag) (r:V->Hp->VK->Prop) (f:Val->DTE):Prop where
 mo:∀ v,Mo (f v)
 ok:∀ G s σ H x v Q,Rel K G s σ H->VR K G v x->f v s (Po K G σ Q)->r x H Q
def dUn (f:Val->DTE) (da:DTE):DTE:=λ s k=>da s λ v s1=>f v s1 k
theorem Ya4 {r:V->Hp->VK->Prop}{f:Val->DTE}{ta:TE}{da:DTE} (ho:RU K r f) (ha:RE K ta da):RE K (tUn r ta) (dUn f da):=by
 refine ⟨λ s Q Q' h q=>ha.mo _ _ _ (λ v s1 q1=>ho.mo v _ _ _ h q1) q,λ G s σ H Q r h=>?_⟩
 refine ha.ok G s σ H _ r (ha.mo _ _ _ (λ v s1 q G1 H1 x e1 r1 v1=>?_) h)
 exact ho.ok G1 s1 σ H1 x v Q r1 v1 (ho.mo v _ _ _ (λ u s3 q3=>q3.same e1) q)
def fU (g:Int->Int):Val->DTE:=λ v s k=>match v with | .d (.int i)=>k (.d (.int (g i))) s|_=>False
theorem ru_I {g:Int->Int}:RU K (rU λ i=>.int (g i)) (fU g):=by
 refine ⟨λ v s Q Q' h q=>?_,λ G s σ H x v Q r v1 h=>?_⟩
 ·unfold fU at q |-;split at q
  ·exact h _ _ q
  ·exact q.elim
 ·unfold fU at h;split at h
  ·next i=>exact ⟨i,Zdg v1,h.here r Zfb⟩
  ·exact h.elim
def fI (C:Int->Int->Prop) (g:Int->Int->Int):Val->Val->DTE:=λ v w s k=>match v,w with | .d (.int i),.d (.int j)=>C i j/\k (.d (.int (g i j))) s|_,_=>False
def fI0 (g:Int->Int->Int):Val->Val->DTE:=λ v w s k=>match v,w with | .d (.int i),.d (.int j)=>k (.d (.int (g i j))) s|_,_=>False
def fB0 (g:Int->Int->Bool):Val->Val->DTE:=λ v w s k=>match v,w with | .d (.int i),.d (.int j)=>k (.d (.bool (g i j))) s|_,_=>False
theorem ro_I {C:Int->Int->Prop}{g:Int->Int->Int}:RO K (rI C λ i j=>.int (g i j)) (fI C g):=by
 refine ⟨λ v w s Q Q' h q=>?_,λ G s σ H x y v w Q r v1 v2 h=>?_⟩
 ·unfold fI at q |-;split at q
  ·exact ⟨q.1,h _ _ q.2⟩
  ·exact q.elim
 ·unfold fI at h;split at h
  ·next i j=>exact ⟨i,j,Zdg v1,Zdg v2,h.1,h.2.here r Zfb⟩
  ·exact h.elim
theorem Zdx {g:Int->Int->Int}:RO K (rI0 λ i j=>.int (g i j)) (fI0 g):=by
 refine ⟨λ v w s Q Q' h q=>?_,λ G s σ H x y v w Q r v1 v2 h=>?_⟩
 ·unfold fI0 at q |-;split at q
  ·exact h _ _ q
  ·exact q.elim
 ·unfold fI0 at h;split at h
  ·next i j=>exact ⟨i,j,Zdg v1,Zdg v2,h.here r Zfb⟩
  ·exact h.elim
theorem Zha {g:Int->Int->Bool}:RO K (rI0 λ i j=>.bl (g i j)) (fB0 g):=by
 refine ⟨λ v w s Q Q' h q=>?_,λ G s σ H x y v w Q r v1 v2 h=>?_⟩
 ·unfold fB0 at q |-;split at q
  ·exact h _ _ q
  ·exact q.elim
 ·unfold fB0 at h;split at h
  ·next i j=>exact ⟨i,j,Zdg v1,Zdg v2,h.here r Zhf⟩
  ·exact h.elim
def fEq (neg:Bool):Val->Val->DTE:=λ v w s k=>match v,w with
 | .d (.int i),.d (.int j)=>k (.d (.bool (if neg then !decide (i=j) else decide (i=j)))) s
 | .d (.str i),.d (.str j)=>k (.d (.bool (if neg then !decide (i=j) else decide (i=j)))) s
 | _,_=>False
theorem Zwt (neg:Bool) (v w:Val):Mo (fEq neg v w):=by
 intro s Q Q' h q
 unfold fEq at q |-;split at q
 ·exact h _ _ q
 ·exact h _ _ q
 ·exact q.elim
theorem Zqx {i j:Int}:decide (V.int i=V.int j)=decide (i=j):=by simp
theorem Zqy {i j:Str}:decide (V.str i=V.str j)=decide (i=j):=by simp
theorem Zeb:RO K rEq (fEq false):=by
 refine ⟨Zwt false,λ G s σ H x y v w Q r v1 v2 h=>?_⟩
 unfold fEq at h;split at h
 ·next i j=>
  rw [Zdg v1,Zdg v2]
  exact ⟨rfl,by rw [Zqx];exact h.here r Zhf⟩
 ·next i j=>
  rw [Zmx v1,Zmx v2]
  exact ⟨rfl,by rw [Zqy];exact h.here r Zhf⟩
 ·exact h.elim
theorem Zpe:RO K rNe (fEq true):=by
 refine ⟨Zwt true,λ G s σ H x y v w Q r v1 v2 h=>?_⟩
 unfold fEq at h;split at h
 ·next i j=>
  rw [Zdg v1,Zdg v2]
  exact ⟨rfl,by rw [Zqx];exact h.here r Zhf⟩
 ·next i j=>
  rw [Zmx v1,Zmx v2]
  exact ⟨rfl,by rw [Zqy];exact h.here r Zhf⟩
 ·exact h.elim
def rdL (w:OW):Val->Option (List PyData)
 | .d (.list ds)=>some ds
 | .own a=>match w a with|some (.lst ds)=>some ds|_=>none
 | .scr ns=>some (ns.map .int)
 | _=>none
def rdT:Val->Option (List PyData)
 | .d (.tuple ds)=>some ds
 | _=>none
def rdA (w:OW) (v:Val):Option (List PyData):=match rdT v with|some ds=>some ds|none=>rdL w v
theorem Rel.rdL (r:Rel K G s σ H) {v:Val}{x:V}{ds:List PyData} (q:VR K G v x) (h:L2.rdL s.w v=some ds):∃ a xs,x = .ref a/\SqL K H a xs/\DWs K G ds xs:=by
 unfold L2.rdL at h
 split at h
 ·cases h
  obtain ⟨a,xs,rfl,h1,h2⟩:=Zmw q
  exact ⟨a,xs,rfl,SqL.of (r.sub _ _ h1),h2⟩
 ·next a=>
  cases (show x = .ref a from q)
  split at h
  ·next z=>
   cases h
   obtain ⟨_,xs,h1,h2⟩:=r.own a _ z
   exact ⟨a,xs,rfl,SqL.of h1,h2⟩
  ·cases h
 ·next ns=>
  cases h
  obtain ⟨a,e,h1⟩:=q
  exact ⟨a,_,e,r.sub.seq h1,DWs.ints ns⟩
 ·cases h
theorem Rel.rdT (r:Rel K G s σ H) {v:Val}{x:V}{ds:List PyData} (q:VR K G v x) (h:L2.rdT v=some ds):∃ a xs,x = .ref a/\SqT K H a xs/\DWs K G ds xs:=by
 unfold L2.rdT at h
 split at h
 ·cases h
  obtain ⟨a,xs,rfl,h1,h2⟩:=Zmy q
  exact ⟨a,xs,rfl,r.sub.tup h1,h2⟩
 ·cases h
theorem Rel.rdA (r:Rel K G s σ H) {v:Val}{x:V}{ds:List PyData} (q:VR K G v x) (h:L2.rdA s.w v=some ds):∃ a xs,x = .ref a/\(SqL K H a xs \/ SqT K H a xs)/\DWs K G ds xs:=by
 unfold L2.rdA at h
 split at h
 ·next z=>
  cases h
  obtain ⟨a,xs,e,h1,h2⟩:=r.rdT q z
  exact ⟨a,xs,e,.inr h1,h2⟩
 ·obtain ⟨a,xs,e,h1,h2⟩:=r.rdL q h
  exact ⟨a,xs,e,.inl h1,h2⟩
def rdD (w:OW) (v:Val):Option PyData:=match v with | .d x=>some x | .own a=>(match w a with|some (.lst ds)=>some (.list ds)|_=>none)|_=>none
theorem Rel.rdD (r:Rel K G s σ H) {v:Val}{x:V}{d:PyData} (q:VR K G v x) (h:L2.rdD s.w v=some d) (n:d.hasDict=false):DV K H d x:=by
 unfold L2.rdD at h
 split at h
 ·cases h;exact DW.dv r.sub n q
 ·next a=>
  split at h
  ·next z=>
   cases h
   cases (show x = .ref a from q)
   obtain ⟨_,xs,h1,h2⟩:=r.own a _ z
   exact DV.list (SqL.of h1) (DWs.dv r.sub (by simpa [PyData.hasDict] using n) h2)
  ·cases h
 ·cases h
def fEqD (neg:Bool):Val->Val->DTE:=λ v w s k=>match rdD s.w v,rdD s.w w with
 | some x,some y=>(x.hasDict=false/\y.hasDict=false/\SeqAt.shaped x=true/\SeqAt.shaped y=true)/\k (.d (.bool (if neg then !PyData.eqv x y else PyData.eqv x y))) s
 | _,_=>False
theorem Zmu {neg:Bool}:RO K (rEqD K neg) (fEqD neg):=by
 refine ⟨λ v w s Q Q' h q=>?_,λ G s σ H x y v w Q r v1 v2 h=>?_⟩
 ·unfold fEqD at q |-;split at q
  ·exact ⟨q.1,h _ _ q.2⟩
  ·exact q.elim
 ·unfold fEqD at h;split at h
  ·next a b e1 e2=>
   obtain ⟨⟨n1,n2,s1,s2⟩,h⟩:=h
   exact ⟨a,b,r.rdD v1 e1 n1,r.rdD v2 e2 n2,s1,s2,h.here r Zhf⟩
  ·exact h.elim
def fInD (neg:Bool):Val->Val->DTE:=λ v w s k=>match rdD s.w v,rdA s.w w with
 | some x,some ds=>(x.hasDict=false/\PyData.hasDictAll ds=false/\x.canLay0=true/\PyData.canLayAll0 ds=true/\x.depth≤30)/\k (.d (.bool (if neg then !ds.any (λ y=>PyData.eqv y x) else ds.any (λ y=>PyData.eqv y x)))) s
 | _,_=>False
theorem Zll {neg:Bool}:RO K (rInD K neg) (fInD neg):=by
 refine ⟨λ v w s Q Q' h q=>?_,λ G s σ H x y v w Q r v1 v2 h=>?_⟩
 ·unfold fInD at q |-;split at q
  ·exact ⟨q.1,h _ _ q.2⟩
  ·exact q.elim
 ·unfold fInD at h;split at h
  ·next a ds e1 e2=>
   obtain ⟨⟨n1,n2,s1,s2,s3⟩,h⟩:=h
   obtain ⟨p,ys,rfl,h1,h2⟩:=r.rdA v2 e2
   exact ⟨a,ds,p,ys,r.rdD v1 e1 n1,rfl,h1,DWs.dv r.sub n2 h2,s1,s2,s3,h.here r Zhf⟩
  ·exact h.elim
theorem DWs.atI {ds:List PyData}{xs:List V}{i:Int}{d:PyData} (h:DWs K G ds xs) (e:L2.atI ds i=some d):∃ x,L2.atI xs i=some x/\DW K G d x:=by
 unfold L2.atI at e |-
 rw [h.length] at e
 cases q:ixN xs.length i with
 | none=>rw [q] at e;cases e
 | some j=>
  rw [q] at e
  obtain ⟨x,h1,h2⟩:=h.get' (i:=j) (d:=d) e
  exact ⟨x,h1,h2⟩
def fIxL:Val->Val->DTE:=λ v w s k=>match rdL s.w v,w with
 | some ds,.d (.int i)=>∃ d,atI ds i=some d/\k (.d d) s
 | _,_=>False
def fIxT:Val->Val->DTE:=λ v w s k=>match rdT v,w with
 | some ds,.d (.int i)=>∃ d,atI ds i=some d/\k (.d d) s
 | _,_=>False
theorem Zdw:RO K (rIxL K) fIxL:=by
 refine ⟨λ v w s Q Q' h q=>?_,λ G s σ H x y v w Q r v1 v2 h=>?_⟩
 ·unfold fIxL at q |-;split at q
  ·obtain ⟨d,e,q⟩:=q;exact ⟨d,e,h _ _ q⟩
  ·exact q.elim
 ·unfold fIxL at h;split at h
  ·next ds i e1=>
   obtain ⟨d,e,h⟩:=h
   obtain ⟨p,ys,rfl,h1,h2⟩:=r.rdL v1 e1
   obtain ⟨z,h3,h4⟩:=h2.atI e
   exact ⟨p,ys,i,z,rfl,Zdg v2,h1,h3,h.here r h4⟩
  ·exact h.elim
theorem Zby:RO K (rIxT K) fIxT:=by
 refine ⟨λ v w s Q Q' h q=>?_,λ G s σ H x y v w Q r v1 v2 h=>?_⟩
 ·unfold fIxT at q |-;split at q
  ·obtain ⟨d,e,q⟩:=q;exact ⟨d,e,h _ _ q⟩
  ·exact q.elim
 ·unfold fIxT at h;split at h
  ·next ds i e1=>
   obtain ⟨d,e,h⟩:=h
   obtain ⟨p,ys,rfl,h1,h2⟩:=r.rdT v1 e1
   obtain ⟨z,h3,h4⟩:=h2.atI e
   exact ⟨p,ys,i,z,rfl,Zdg v2,h1,h3,h.here r h4⟩
  ·exact h.elim
def nl (o:Bool) (ds:List PyData) (s:DS) (k:DK):Prop:=match o with
 | true=>∀ p,s.w p=none->k (.own p) (s.put p (.lst ds))
 | false=>k (.d (.list ds)) s
theorem Znq {o:Bool}{ds:List PyData}{s:DS}{k k':DK} (h:∀ v s',k v s'->k' v s') (q:nl o ds s k):nl o ds s k':=by
 cases o
 ·exact h _ _ q
 ·exact λ p hp=>h _ _ (q p hp)
theorem Rel.nl (r:Rel K G s σ H) {o:Bool}{ds:List PyData}{xs:List V}{Q:VK} (D:DWs K G ds xs) (h:L2.nl o ds s (Po K G σ Q)):∀ p,H p=none->Q (.ref p) (upd H p (.lst xs)):=by
 intro p hp
 have hg:G p=none:=r.sub.free hp
 have S:=Zdb hg (.lst xs)
 cases o
 ·exact h (upd G p (.lst xs)) (upd H p (.lst xs)) (.ref p) S (r.new hp _) (DW.list Zbw (D.same S))
 ·exact h p (r.free hp) G (upd H p (.lst xs)) (.ref p) (Same.refl G) (r.newOwn hp ⟨xs,Zbw,D⟩) rfl
theorem Rel.nt (r:Rel K G s σ H) {ds:List PyData}{xs:List V}{Q:VK} (D:DWs K G ds xs) (h:Po K G σ Q (.d (.tuple ds)) s):∀ p,H p=none->Q (.ref p) (upd H p (.tup xs)):=by
 intro p hp
 have hg:G p=none:=r.sub.free hp
 have S:=Zdb hg (.tup xs)
 exact h (upd G p (.tup xs)) (upd H p (.tup xs)) (.ref p) S (r.new hp _) (DW.tup Zbw (D.same S))
def rdM (w:OW):Val->Option (List PyData)
 | .d (.list ds)=>some ds
 | .own a=>match w a with|some (.lst ds)=>some ds|_=>none
 | _=>none
theorem Rel.rdM (r:Rel K G s σ H) {v:Val}{x:V}{ds:List PyData} (q:VR K G v x) (h:L2.rdM s.w v=some ds):∃ a xs,x = .ref a/\H a=some (.lst xs)/\DWs K G ds xs:=by
 unfold L2.rdM at h
 split at h
 ·cases h
  obtain ⟨a,xs,rfl,h1,h2⟩:=Zmw q
  exact ⟨a,xs,rfl,r.sub _ _ h1,h2⟩
 ·next a=>
  cases (show x = .ref a from q)
  split at h
  ·next z=>
   cases h
   obtain ⟨_,xs,h1,h2⟩:=r.own a _ z
   exact ⟨a,xs,rfl,h1,h2⟩
  ·cases h
 ·cases h
def fCat (o:Bool):Val->Val->DTE:=λ v w s k=>match rdM s.w v,rdM s.w w with
 | some ds,some es=>ds.length+es.length≤sizeLine/\nl o (ds++es) s k
 | _,_=>False
theorem Zud (o:Bool):RO K rCat (fCat o):=by
 refine ⟨λ v w s Q Q' h q=>?_,λ G s σ H x y v w Q r v1 v2 h=>?_⟩
 ·unfold fCat at q |-;split at q
  ·exact ⟨q.1,Znq h q.2⟩
  ·exact q.elim
 ·unfold fCat at h;split at h
  ·next ds es e1 e2=>
   obtain ⟨a,xs,rfl,h1,h2⟩:=r.rdM v1 e1
   obtain ⟨b,ys,rfl,h3,h4⟩:=r.rdM v2 e2
   exact ⟨a,b,xs,ys,rfl,rfl,h1,h3,by rw [<- h2.length,<- h4.length];exact h.1,r.nl (h2.append h4) h.2⟩
  ·exact h.elim
def repD (k:Nat) (ds:List PyData):List PyData:=(List.replicate k ds).flatten
theorem DWs.rep {ds:List PyData}{xs:List V} (h:DWs K G ds xs):∀ k:Nat,DWs K G (repD k ds) (List.replicate k xs).flatten
 | 0=>DWs.nil
 | k+1=>by unfold repD;rw [replicate_succ,replicate_succ,flatten_cons,flatten_cons];exact DWs.append h (DWs.rep h k)
def fRep (o:Bool):Val->Val->DTE:=λ v w s k=>match rdM s.w v,w with
 | some ds,.d (.int i)=>(-(2 ^ 63)≤i/\i<2 ^ 63/\ds.length*i.toNat≤sizeLine)/\nl o (repD i.toNat ds) s k
 | _,_=>False
def rCatW (K:PySem.W.Frag):R2:=λ x y H Q=>∃ a b xs ys,x = .ref a/\y = .ref b/\SqT K H a xs/\SqT K H b ys/\xs.length+ys.length≤sizeLine/\(xs=[]->Q (.ref b) H)/\(ys=[]->Q (.ref a) H)/\∀ p,H p=none->Q (.ref p) (upd H p (.tup (xs++ys)))
theorem Zjj {X:Cx}:OpR X (binaryOp .Add) (rCatW X.K):=by
 rintro pins s σ H x y v u Q I rx ry ⟨a,b,xs,ys,rfl,rfl,h1,h2,hz,q1,q2,q3⟩
 cases (show v=Value.ref a from rx)
 cases (show u=Value.ref b from ry)
 obtain ⟨us,ru,hu,_⟩:=I.tuple h1
 obtain ⟨ws,rw',hw,_⟩:=I.tuple h2
 have lu:=ru.length
 have lw:=rw'.length
 by_cases e:us=[]
 ·subst e
  have ex:xs=[]:=by cases xs with|nil=>rfl|cons a r=>cases ru
  obtain ⟨⟨cls,dd,data,sl⟩,ho,hc,n,hd⟩:=id hu
  obtain ⟨⟨cls2,dd2,data2,sl2⟩,ho2,hc2,n2,hd2⟩:=id hw
  simp only at hc hd hc2 hd2
  subst hc hd hc2 hd2
  exact concat_meets ⟨_,ho,rfl⟩ ⟨_,ho2,rfl⟩ noFill_tuple_add seq_tuple_add slot_tuple_add entry_tuple_add (args_tuple_add_2 _ _) (Zwe a b _ ws.toArray n n2 dd dd2 sl sl2 rfl) ⟨ho,ho2,⟨.ref b,H,I,rfl,q1 ex⟩⟩
 ·refine HT.cat_tup hu hw e (λ ew=>⟨.ref a,H,I,rfl,q2 ?_⟩) (λ ew=>?_) (by omega)
  ·cases ys with|nil=>rfl|cons a r=>subst ew;cases rw'
  ·exact ⟨.ref s.heap.objs.size,upd H s.heap.objs.size (.tup (xs++ys)),I.laid (t':=s.toks) (λ b o e=>get?_push_of_some _ e) (le_refl _) (show ObjOk X.prog X.w _ _ _ (.tup _) from ⟨by rw [length_append];exact hz,_,ru.append rw',IsTu.new _ _⟩),rfl,q3 _ I.fresh⟩
theorem Zrg {X:Cx} (h:X.K=K):OpR X (binaryOp .Add) (rCatW K):=h▸Zjj
def fCatT:Val->Val->DTE:=λ v w s k=>match rdT v,rdT w with
 | some ds,some es=>ds.length+es.length≤sizeLine/\k (.d (.tuple (ds++es))) s
 | _,_=>False
theorem Zpb {v:Val}{ds:List PyData} (h:rdT v=some ds):v = .d (.tuple ds):=by
 unfold rdT at h;split at h <;> cases h;rfl
theorem DWs.nil_of {ds:List PyData}{xs:List V} (h:DWs K G ds xs) (e:xs=[]):ds=[]:=by
 have:=h.length
 rw [e] at this
 exact length_eq_zero_iff.mp this
theorem Zi4:RO K (rCatW K) fCatT:=by
 refine ⟨λ v w s Q Q' h q=>?_,λ G s σ H x y v w Q r v1 v2 h=>?_⟩
 ·unfold fCatT at q |-;split at q
  ·exact ⟨q.1,h _ _ q.2⟩
  ·exact q.elim
 ·unfold fCatT at h;split at h
  ·next ds es e1 e2=>
   obtain ⟨a,xs,rfl,h1,h2⟩:=r.rdT v1 e1
   obtain ⟨b,ys,rfl,h3,h4⟩:=r.rdT v2 e2
   refine ⟨a,b,xs,ys,rfl,rfl,h1,h3,by rw [<- h2.length,<- h4.length];exact h.1,λ e=>h.2.here r ?_,λ e=>h.2.here r ?_,r.nt (h2.append h4) h.2⟩
   ·rw [h2.nil_of e,nil_append,<- Zpb e2];exact v2
   ·rw [h4.nil_of e,append_nil,<- Zpb e1];exact v1
  ·exact h.elim
def rSlTW (K:PySem.W.Frag):V->Option Int->Option Int->Hp->VK->Prop:=λ x lo hi H Q=>∃ a xs,x = .ref a/\SqT K H a xs/\(cutV xs lo hi=xs->Q (.ref a) H)/\∀ p,H p=none->Q (.ref p) (upd H p (.tup (cutV xs lo hi)))
theorem Znx {X:Cx}:SlR X (rSlTW X.K):=by
 intro pins s σ H x v vl vu lo hi sl Q I rx hs pl pu h
 obtain ⟨a,xs,rfl,hx,q1,q2⟩:=h
 by_cases hw:HT.sIx xs.length 0 lo=0/\HT.sIx xs.length xs.length hi=xs.length
 ·cases rx
  obtain ⟨its,r,ht,hz⟩:=I.tuple hx
  have hlen:its.toArray.size=xs.length:=by rw [size_toArray];exact r.length.symm
  refine ⟨"tuple",_,PyProof.Rows.slot_tuple_getitem.lookup,ht.typeIs,?_⟩
  refine Zi1 ht hs pl pu (by rw [hlen];exact hw) ⟨.ref a,H,I,rfl,q1 ?_⟩
  unfold cutV;rw [hw.1,hw.2,drop_zero,sub_zero,take_length]
 ·exact Ya9 pins s σ H _ v vl vu lo hi sl Q I rx hs pl pu ⟨a,xs,rfl,hx,hw,q2⟩
def cutD (xs:List PyData) (lo hi:Option Int):List PyData:=(xs.drop (HT.sIx xs.length 0 lo)).take (HT.sIx xs.length xs.length hi-HT.sIx xs.length 0 lo)
theorem DWs.cut {ds:List PyData}{xs:List V} (h:DWs K G ds xs) (lo hi:Option Int):DWs K G (cutD ds lo hi) (cutV xs lo hi):=by
 unfold cutD cutV;rw [h.length];exact (h.drop _).take _
structure RX (K:PySem.W.Frag) (t:TO) (d:DS->(Option Int->DS->Prop)->Prop):Prop where
 mo:Mo d
 ok:∀ G s σ H (Q:Option Int->Hp->Prop),Rel K G s σ H->d s (λ o s'=>∀ G' H',Same G G'->Rel K G' s' σ H'->Q o H')->t σ H Q
def dNoP:DS->(Option Int->DS->Prop)->Prop:=λ s k=>k none s
def dP (d:DTE):DS->(Option Int->DS->Prop)->Prop:=λ s k=>d s λ v s'=>match v with | .d (.int i)=>k (some i) s' | _=>False
theorem Zlm:RX K tNoPart dNoP:=⟨λ s Q Q' h q=>h _ _ q,λ G s σ H Q r h=>h G H (Same.refl G) r⟩
theorem Zln {t:TE}{d:DTE} (h:RE K t d):RX K (tPart t) (dP d):=by
 refine ⟨λ s Q Q' z q=>h.mo _ _ _ (λ v s' q=>?_) q,λ G s σ H Q r q=>h.ok G s σ H _ r (h.mo _ _ _ (λ v s' q G' H' x e r' v'=>?_) q)⟩
 ·split at q
  ·exact z _ _ q
  ·exact q.elim
 ·split at q
  ·next i=>exact ⟨i,Zdg v',q G' H' e r'⟩
  ·exact q.elim
structure RSl (K:PySem.W.Frag) (r:V->Option Int->Option Int->Hp->VK->Prop) (f:Val->Option Int->Option Int->DTE):Prop where
 mo:∀ v lo hi,Mo (f v lo hi)
 ok:∀ G s σ H x v lo hi Q,Rel K G s σ H->VR K G v x->f v lo hi s (Po K G σ Q)->r x lo hi H Q
def fSlT:Val->Option Int->Option Int->DTE:=λ v lo hi s k=>match rdT v with|some ds=>k (.d (.tuple (cutD ds lo hi))) s|none=>False
def fSlL (o:Bool):Val->Option Int->Option Int->DTE:=λ v lo hi s k=>match rdL s.w v with|some ds=>nl o (cutD ds lo hi) s k|none=>False
theorem Zw6:RSl K (rSlTW K) fSlT:=by
 refine ⟨λ v lo hi s Q Q' h q=>?_,λ G s σ H x v lo hi Q r v1 h=>?_⟩
 ·unfold fSlT at q |-;split at q
  ·exact h _ _ q
  ·exact q.elim
 ·unfold fSlT at h;split at h
  ·next ds e=>
   obtain ⟨a,xs,rfl,h1,h2⟩:=r.rdT v1 e
   refine ⟨a,xs,rfl,h1,λ z=>?_,r.nt (h2.cut lo hi) h⟩
   have v1':VR K G (.d (.tuple ds)) (.ref a):=by rw [<- Zpb e];exact v1
   have e2:cutD ds lo hi=ds:=by
    have hc:=h2.cut lo hi
    rw [z] at hc
    have hl:(cutD ds lo hi).length=ds.length:=by rw [hc.length,h2.length]
    unfold cutD at hl |-
    rw [length_take,length_drop] at hl
    by_cases h0:HT.sIx ds.length 0 lo=0
    ·rw [h0,sub_zero] at hl |-
     rw [drop_zero]
     exact take_of_length_le (by omega)
    ·have:ds.length=0:=by omega
     rw [length_eq_zero_iff.mp this];simp
   exact h.here r (by rw [e2];exact v1')
  ·exact h.elim
theorem Yal (o:Bool):RSl K (rSlL K) (fSlL o):=by
 refine ⟨λ v lo hi s Q Q' h q=>?_,λ G s σ H x v lo hi Q r v1 h=>?_⟩
 ·unfold fSlL at q |-;split at q
  ·exact Znq h q
  ·exact q.elim
 ·unfold fSlL at h;split at h
  ·next ds e=>
   obtain ⟨a,xs,rfl,h1,h2⟩:=r.rdL v1 e
   exact ⟨a,xs,rfl,h1,r.nl (h2.cut lo hi) h⟩
  ·exact h.elim
def dSl (f:Val->Option Int->Option Int->DTE) (de:DTE) (dl dh:DS->(Option Int->DS->Prop)->Prop):DTE:=λ s k=>de s λ v s1=>dl s1 λ l s2=>dh s2 λ u s3=>f v l u s3 k
theorem Zu9 {r:V->Option Int->Option Int->Hp->VK->Prop}{f:Val->Option Int->Option Int->DTE}{te:TE}{tl th:TO}{de:DTE}{dl dh:DS->(Option Int->DS->Prop)->Prop} (hr:RSl K r f) (he:RE K te de) (hl:RX K tl dl) (hh:RX K th dh):RE K (tSl r te tl th) (dSl f de dl dh):=by
 refine ⟨λ s Q Q' h q=>he.mo _ _ _ (λ v s1 q1=>hl.mo _ _ _ (λ l s2 q2=>hh.mo _ _ _ (λ u s3 q3=>hr.mo v l u _ _ _ h q3) q2) q1) q,λ G s σ H Q r h=>?_⟩
 refine he.ok G s σ H _ r (he.mo _ _ _ (λ v s1 q G1 H1 x e1 r1 v1=>?_) h)
 refine hl.ok G1 s1 σ H1 _ r1 (hl.mo _ _ _ (λ l s2 q2 G2 H2 e2 r2=>?_) q)
 refine hh.ok G2 s2 σ H2 _ r2 (hh.mo _ _ _ (λ u s3 q3 G3 H3 e3 r3=>?_) q2)
 exact hr.ok G3 s3 σ H3 x v l u Q r3 (v1.same (e2.trans e3)) (hr.mo v l u _ _ _ (λ z s4 q4=>q4.same ((e1.trans e2).trans e3)) q3)
def dRev (o:Bool) (de:DTE):DTE:=λ s k=>de s λ v s1=>match rdL s1.w v with|some ds=>nl o ds.reverse s1 k|none=>False
theorem Ya3 (o:Bool) {te:TE}{de:DTE} (he:RE K te de):RE K (tRev K te (tUn (rU λ i=>.int (-i)) (tC (.int 1)))) (dRev o de):=by
 refine ⟨λ s Q Q' h q=>he.mo _ _ _ (λ v s1 q1=>?_) q,λ G s σ H Q r h=>?_⟩
 ·split at q1
  ·exact Znq h q1
  ·exact q1.elim
 refine he.ok G s σ H _ r (he.mo _ _ _ (λ v s1 q G1 H1 x e1 r1 v1=>?_) h)
 split at q
 ·next ds e=>
  obtain ⟨a,xs,rfl,h1,h2⟩:=r1.rdL v1 e
  exact ⟨1,rfl,rfl,a,xs,rfl,h1,r1.nl h2.reverse (Znq (λ v s' z=>z.same e1) q)⟩
 ·exact q.elim
def dNil:DTA:=λ s k=>k [] s
def dCons (de:DTE) (da:DTA):DTA:=λ s k=>de s λ v s1=>da s1 λ vs s2=>k (v::vs) s2
theorem Za5:RA K tNil dNil:=⟨λ s Q Q' h q=>h _ _ q,λ G s σ H Q r h=>h G H [] (Same.refl G) r .nil⟩
theorem Za1 {te:TE}{t:TA}{de:DTE}{da:DTA} (he:RE K te de) (ha:RA K t da):RA K (tCons te t) (dCons de da):=by
 refine ⟨λ s Q Q' h q=>he.mo _ _ _ (λ v s1 q1=>ha.mo _ _ _ (λ vs s2 q2=>h _ _ q2) q1) q,λ G s σ H Q r h=>?_⟩
 refine he.ok G s σ H _ r (he.mo _ _ _ (λ v s1 q G1 H1 x e1 r1 v1=>?_) h)
 exact ha.ok G1 s1 σ H1 _ r1 (ha.mo _ _ _ (λ vs s2 q2 G2 H2 xs e2 r2 v2=>q2 G2 H2 _ (e1.trans e2) r2 (.cons (v1.same e2) v2)) q)
def unD:List Val->Option (List PyData)
 | []=>some []
 | .d x::r=>(unD r).map (x::·)
 | _::_=>none
theorem Zuv:∀ {vs:List Val}{ds:List PyData}{xs:List V},unD vs=some ds->VRs K G vs xs->DWs K G ds xs
 | [],_,_,e,.nil=>by cases e;exact DWs.nil
 | .d x::r,ds,_,e,.cons h t=>by
  simp only [unD] at e
  cases q:unD r with
  | none=>rw [q] at e;cases e
  | some es=>rw [q] at e;cases e;exact DWs.cons h (Zuv q t)
 | .own _::_,_,_,e,_=>by simp [unD] at e
 | .raw _::_,_,_,e,_=>by simp [unD] at e
 | .scr _::_,_,_,e,_=>by simp [unD] at e
def dLst (o:Bool) (da:DTA):DTE:=λ s k=>da s λ vs s1=>match unD vs with|some ds=>ds.length≤sizeLine/\nl o ds s1 k|none=>False
def dTup (da:DTA):DTE:=λ s k=>da s λ vs s1=>match unD vs with|some ds=>ds.length≤sizeLine/\k (.d (.tuple ds)) s1|none=>False
theorem Zcx (o:Bool) {t:TA}{da:DTA} (ha:RA K t da):RE K (tLst t) (dLst o da):=by
 refine ⟨λ s Q Q' h q=>ha.mo _ _ _ (λ v s1 q1=>?_) q,λ G s σ H Q r h=>ha.ok G s σ H _ r (ha.mo _ _ _ (λ vs s1 q G1 H1 xs e1 r1 v1=>?_) h)⟩
 ·split at q1
  ·exact ⟨q1.1,Znq h q1.2⟩
  ·exact q1.elim
 ·split at q
  ·next ds e=>
   have D:=Zuv e v1
   exact ⟨by rw [<- D.length];exact q.1,r1.nl D (Znq (λ v s' z=>z.same e1) q.2)⟩
  ·exact q.elim
theorem Zbq {t:TA}{da:DTA} (ha:RA K t da):RE K (tTup t) (dTup da):=by
 refine ⟨λ s Q Q' h q=>ha.mo _ _ _ (λ v s1 q1=>?_) q,λ G s σ H Q r h=>ha.ok G s σ H _ r (ha.mo _ _ _ (λ vs s1 q G1 H1 xs e1 r1 v1=>?_) h)⟩
 ·split at q1
  ·exact ⟨q1.1,h _ _ q1.2⟩
  ·exact q1.elim
 ·split at q
  ·next ds e=>
   have D:=Zuv e v1
   exact ⟨by rw [<- D.length];exact q.1,r1.nt D (q.2.same e1)⟩
  ·exact q.elim
structure RC (K:PySem.W.Frag) (r:List V->Hp->VK->Prop) (f:List Val->DTE):Prop where
 mo:∀ vs,Mo (f vs)
 ok:∀ G s σ H xs vs Q,Rel K G s σ H->VRs K G vs xs->f vs s (Po K G σ Q)->r xs H Q
def dCB (f:List Val->DTE) (da:DTA):DTE:=λ s k=>da s λ vs s1=>f vs s1 k
theorem Zbo {r:List V->Hp->VK->Prop}{f:List Val->DTE}{t:TA}{da:DTA} (hc:RC K r f) (ha:RA K t da):RE K (tCB r t) (dCB f da):=
 ⟨λ s Q Q' h q=>ha.mo _ _ _ (λ vs s1 q1=>hc.mo vs _ _ _ h q1) q,λ G s σ H Q r h=>ha.ok G s σ H _ r (ha.mo _ _ _ (λ vs s1 q G1 H1 xs e1 r1 v1=>hc.ok G1 s1 σ H1 xs vs Q r1 v1 (hc.mo vs _ _ _ (λ v s' z=>z.same e1) q)) h)⟩
theorem VRs.one {v:Val}{xs:List V} (h:VRs K G [v] xs):∃ x,xs=[x]/\VR K G v x:=by
 cases h with|cons a t=>cases t;exact ⟨_,rfl,a⟩
theorem VRs.two {v u:Val}{xs:List V} (h:VRs K G [v,u] xs):∃ x y,xs=[x,y]/\VR K G v x/\VR K G u y:=by
 cases h with|cons a t=>cases t with|cons b t=>cases t;exact ⟨_,_,rfl,a,b⟩
def f1 (g:Val->DTE):List Val->DTE:=λ vs s k=>match vs with | [v]=>g v s k|_=>False
def f2 (g:Val->Val->DTE):List Val->DTE:=λ vs s k=>match vs with | [v,w]=>g v w s k|_=>False
theorem rc1 {r:List V->Hp->VK->Prop}{g:Val->DTE} (mo:∀ v,Mo (g v)) (ok:∀ G s σ H x v Q,Rel K G s σ H->VR K G v x->g v s (Po K G σ Q)->r [x] H Q):RC K r (f1 g):=by
 refine ⟨λ vs s Q Q' h q=>?_,λ G s σ H xs vs Q r v1 h=>?_⟩
 ·unfold f1 at q |-;split at q
  ·exact mo _ _ _ _ h q
  ·exact q.elim
 ·unfold f1 at h;split at h
  ·obtain ⟨x,rfl,v2⟩:=v1.one
   exact ok G s σ H x _ Q r v2 h
  ·exact h.elim
theorem rc2 {r:List V->Hp->VK->Prop}{g:Val->Val->DTE} (mo:∀ v w,Mo (g v w)) (ok:∀ G s σ H x y v w Q,Rel K G s σ H->VR K G v x->VR K G w y->g v w s (Po K G σ Q)->r [x,y] H Q):RC K r (f2 g):=by
 refine ⟨λ vs s Q Q' h q=>?_,λ G s σ H xs vs Q r v1 h=>?_⟩
 ·unfold f2 at q |-;split at q
  ·exact mo _ _ _ _ _ h q
  ·exact q.elim
 ·unfold f2 at h;split at h
  ·obtain ⟨x,y,rfl,v2,v3⟩:=v1.two
   exact ok G s σ H x y _ _ Q r v2 v3 h
  ·exact h.elim
def gLen:Val->DTE:=λ v s k=>match rdA s.w v with|some ds=>k (.d (.int ds.length)) s|none=>False
theorem Zdd:RC K (λ xs H Q=>∃ p ys,xs=[.ref p]/\(SqL K H p ys \/ SqT K H p ys)/\Q (.int ys.length) H) (f1 gLen):=by
 refine rc1 (λ v s Q Q' h q=>?_) (λ G s σ H x v Q r v1 h=>?_)
 ·unfold gLen at q |-;split at q
  ·exact h _ _ q
  ·exact q.elim
 ·unfold gLen at h;split at h
  ·next ds e=>
   obtain ⟨a,xs,rfl,h1,h2⟩:=r.rdA v1 e
   exact ⟨a,xs,rfl,h1,by rw [<- h2.length];exact h.here r Zfb⟩
  ·exact h.elim
def gTupOf:Val->DTE:=λ v s k=>match rdA s.w v with|some ds=>k (.d (.tuple ds)) s|none=>False
theorem Zcm:RC K (λ xs H Q=>∃ p ys,xs=[.ref p]/\((SqL K H p ys/\∀ l,H l=none->Q (.ref l) (upd H l (.tup ys))) \/ (SqT K H p ys/\Q (.ref p) H))) (f1 gTupOf):=by
 refine rc1 (λ v s Q Q' h q=>?_) (λ G s σ H x v Q r v1 h=>?_)
 ·unfold gTupOf at q |-;split at q
  ·exact h _ _ q
  ·exact q.elim
 ·unfold gTupOf rdA at h
  split at h
  ·next ds e=>
   split at e
   ·next es z=>
    cases e
    obtain ⟨a,xs,rfl,h1,h2⟩:=r.rdT v1 z
    exact ⟨a,xs,rfl,.inr ⟨h1,h.here r (by rw [<- Zpb z];exact v1)⟩⟩
   ·obtain ⟨a,xs,rfl,h1,h2⟩:=r.rdL v1 e
    exact ⟨a,xs,rfl,.inl ⟨h1,r.nt h2 h⟩⟩
  ·exact h.elim
def gListOf (o:Bool):Val->DTE:=λ v s k=>match rdA s.w v with|some ds=>nl o ds s k|none=>False
def uIs:List PyData->Option (List Int)
 | []=>some []
 | .int i::r=>(uIs r).map (i::·)
 | _::_=>none
theorem Zls:∀ {ds:List PyData}{ns:List Int},uIs ds=some ns->ds=ns.map .int
 | [],_,e=>by cases e;rfl
 | .int i::r,ns,e=>by
  simp only [uIs] at e
  cases q:uIs r with
  | none=>rw [q] at e;cases e
  | some ms=>rw [q] at e;cases e;rw [Zls q];rfl
 | .none::_,_,e=>by simp [uIs] at e
 | .bool _::_,_,e=>by simp [uIs] at e
 | .str _::_,_,e=>by simp [uIs] at e
 | .list _::_,_,e=>by simp [uIs] at e
 | .tuple _::_,_,e=>by simp [uIs] at e
 | .dict _::_,_,e=>by simp [uIs] at e
@[simp] theorem uIs_map (ns:List Int):uIs (ns.map .int)=some ns:=by
 induction ns with
 | nil=>rfl
 | cons n r ih=>simp [uIs,ih]
def uBs:List PyData->Option (List Bool)
 | []=>some []
 | .bool i::r=>(uBs r).map (i::·)
 | _::_=>none
theorem Zx1:∀ {ds:List PyData}{ns:List Bool},uBs ds=some ns->ds=ns.map .bool
 | [],_,e=>by cases e;rfl
 | .bool i::r,ns,e=>by
  simp only [uBs] at e
  cases q:uBs r with
  | none=>rw [q] at e;cases e
  | some ms=>rw [q] at e;cases e;rw [Zx1 q];rfl
 | .none::_,_,e=>by simp [uBs] at e
 | .int _::_,_,e=>by simp [uBs] at e
 | .str _::_,_,e=>by simp [uBs] at e
 | .list _::_,_,e=>by simp [uBs] at e
 | .tuple _::_,_,e=>by simp [uBs] at e
 | .dict _::_,_,e=>by simp [uBs] at e
@[simp] theorem uBs_map (ns:List Bool):uBs (ns.map .bool)=some ns:=by
 induction ns with
 | nil=>rfl
 | cons n r ih=>simp [uBs,ih]
def gSum:Val->DTE:=λ v s k=>match rdL s.w v with|some ds=>(match uIs ds with|some ns=>k (.d (.int ns.sum)) s|none=>False)|none=>False
theorem Zlj:RC K (λ xs H Q=>∃ (a:Addr) (ns:List Int),xs=[.ref a]/\SqL K H a (ns.map V.int)/\Q (.int ns.sum) H) (f1 gSum):=by
 refine rc1 (λ v s Q Q' h q=>?_) (λ G s σ H x v Q r v1 h=>?_)
 ·unfold gSum at q |-;split at q
  ·split at q
   ·exact h _ _ q
   ·exact q.elim
  ·exact q.elim
 ·unfold gSum at h;split at h
  ·next ds e=>
   split at h
   ·next ns z=>
    obtain ⟨a,xs,rfl,h1,h2⟩:=r.rdL v1 e
    rw [Zls z] at h2
    rw [h2.ints_inv] at h1
    exact ⟨a,ns,rfl,h1,h.here r Zfb⟩
   ·exact h.elim
  ·exact h.elim
def gAll:Val->DTE:=λ v s k=>match rdL s.w v with|some ds=>(match uBs ds with|some ns=>k (.d (.bool (ns.all id))) s|none=>False)|none=>False
theorem Zrj:RC K (λ xs H Q=>∃ (a:Addr) (bs:List Bool),xs=[.ref a]/\SqL K H a (bs.map V.bl)/\Q (.bl (bs.all id)) H) (f1 gAll):=by
 refine rc1 (λ v s Q Q' h q=>?_) (λ G s σ H x v Q r v1 h=>?_)
 ·unfold gAll at q |-;split at q
  ·split at q
   ·exact h _ _ q
   ·exact q.elim
  ·exact q.elim
 ·unfold gAll at h;split at h
  ·next ds e=>
   split at h
   ·next ns z=>
    obtain ⟨a,xs,rfl,h1,h2⟩:=r.rdL v1 e
    rw [Zx1 z] at h2
    rw [h2.bools_inv] at h1
    exact ⟨a,ns,rfl,h1,h.here r Zhf⟩
   ·exact h.elim
  ·exact h.elim
def okR (d:PyData):Prop:=d.showable=true/\d.hasDict=false/\d.depth≤40/\d.shown.length≤sizeLine
def isR:PyData->Bool
 | .list _=>true
 | .tuple _=>true
 | _=>false
def gRepr:Val->DTE:=λ v s k=>match rdD s.w v with|some d=>isR d=true/\okR d/\k (.d (.str d.shown)) s|none=>False
theorem Zu6:RC K (λ xs H Q=>∃ a d,xs=[.ref a]/\DV K H d (.ref a)/\d.showable=true/\d.hasDict=false/\d.depth≤40/\d.shown.length≤sizeLine/\Q (.str d.shown) H) (f1 gRepr):=by
 refine rc1 (λ v s Q Q' h q=>?_) (λ G s σ H x v Q r v1 h=>?_)
 ·unfold gRepr at q |-;split at q
  ·exact ⟨q.1,q.2.1,h _ _ q.2.2⟩
  ·exact q.elim
 ·unfold gRepr at h;split at h
  ·next d e=>
   obtain ⟨h0,⟨h1,h2,h3,h4⟩,h⟩:=h
   have D:=r.rdD v1 e h2
   obtain ⟨a,rfl⟩:∃ a,x = .ref a:=by
    cases d <;> simp only [isR] at h0 <;> try cases h0
    ·unfold DV at D;obtain ⟨a,_,e,_⟩:=D;exact ⟨a,e⟩
    ·unfold DV at D;obtain ⟨a,_,e,_⟩:=D;exact ⟨a,e⟩
   exact ⟨a,d,rfl,D,h1,h2,h3,h4,h.here r Zx3⟩
  ·exact h.elim
def fMax2:Val->Val->DTE:=λ v w s k=>match v,w with | .d (.int i),.d (.int j)=>k (.d (.int (max i j))) s|_,_=>False
def fMin2:Val->Val->DTE:=λ v w s k=>match v,w with | .d (.int i),.d (.int j)=>k (.d (.int (min i j))) s|_,_=>False
theorem Zu5:RC K (λ xs H Q=>∃ i j,xs=[.int i,.int j]/\Q (.int (if j > i then j else i)) H) (f2 fMax2):=by
 refine rc2 (λ v w s Q Q' h q=>?_) (λ G s σ H x y v w Q r v1 v2 h=>?_)
 ·unfold fMax2 at q |-;split at q
  ·exact h _ _ q
  ·exact q.elim
 ·unfold fMax2 at h;split at h
  ·next i j=>
   refine ⟨i,j,by rw [Zdg v1,Zdg v2],?_⟩
   have e:(if j > i then j else i)=max i j:=by split <;> omega
   rw [e];exact h.here r Zfb
  ·exact h.elim
theorem Zya:RC K (λ xs H Q=>∃ i j,xs=[.int i,.int j]/\Q (.int (if j<i then j else i)) H) (f2 fMin2):=by
 refine rc2 (λ v w s Q Q' h q=>?_) (λ G s σ H x y v w Q r v1 v2 h=>?_)
 ·unfold fMin2 at q |-;split at q
  ·exact h _ _ q
  ·exact q.elim
 ·unfold fMin2 at h;split at h
  ·next i j=>
   refine ⟨i,j,by rw [Zdg v1,Zdg v2],?_⟩
   have e:(if j<i then j else i)=min i j:=by split <;> omega
   rw [e];exact h.here r Zfb
  ·exact h.elim
def tyN:PyData->String
 | .none=>"NoneType" | .bool _=>"bool" | .int _=>"int" | .str _=>"str" | .list _=>"list" | .tuple _=>"tuple" | .dict _=>"dict"
def fIsi:Val->Val->DTE:=λ v w s k=>match rdD s.w v,w with
 | some d,.raw (.ty c)=>∃ b,(∀ K,PySem.W.kitOne K (.type (tyN d)) (.type c)=some b)/\k (.d (.bool b)) s
 | _,_=>False
end
end L2
namespace L2
open PySem PySem.Spec PyProof.Rows
section
variable {K:PySem.W.Frag}{G G' H H':Hp}{s:DS}{σ:St}
def dTest (d:DTE):DTT:=λ s k=>d s λ v s1=>match v with | .d (.bool b)=>k b s1|_=>False
theorem Zb3 {t:TE}{d:DTE} (h:RE K t d):RT K (tTest t) (dTest d):=by
 refine ⟨λ s Q Q' z q=>h.mo _ _ _ (λ v s1 q=>?_) q,λ G s σ H Q r q=>h.ok G s σ H _ r (h.mo _ _ _ (λ v s1 q G1 H1 x e1 r1 v1=>?_) q)⟩
 ·split at q
  ·exact z _ _ q
  ·exact q.elim
 ·split at q
  ·next b=>exact ⟨b,Zo4 v1,q G1 H1 e1 r1⟩
  ·exact q.elim
theorem rt_b {t:TE}{d:DTE} (h:RE K t d):RT K (tB t) (dTest d):=Zb3 h
def truD (w:OW) (v:Val):Option Bool:=match v with
 | .d .none=>some false
 | .d (.bool b)=>some b
 | .d (.int i)=>some (i != 0)
 | _=>(rdA w v).map λ ds=>!ds.isEmpty
def dTru (d:DTE):DTT:=λ s k=>d s λ v s1=>match truD s1.w v with|some b=>k b s1|none=>False
theorem DWs.empty {ds:List PyData}{xs:List V} (h:DWs K G ds xs):xs.isEmpty=ds.isEmpty:=by
 cases ds with
 | nil=>unfold DWs at h;rw [h];rfl
 | cons d ds=>unfold DWs at h;obtain ⟨x,r,rfl,_⟩:=h;rfl
theorem Ya6 {t:TE}{d:DTE} (h:RE K t d):RT K (λ σ H Q=>t σ H λ x H'=>∃ k,TruV K x H' k/\Q k H') (dTru d):=by
 refine ⟨λ s Q Q' z q=>h.mo _ _ _ (λ v s1 q=>?_) q,λ G s σ H Q r q=>h.ok G s σ H _ r (h.mo _ _ _ (λ v s1 q G1 H1 x e1 r1 v1=>?_) q)⟩
 ·split at q
  ·exact z _ _ q
  ·exact q.elim
 ·split at q
  ·next b e=>
   refine ⟨b,?_,q G1 H1 e1 r1⟩
   unfold truD at e
   split at e
   ·cases e;rw [show x = .non from by unfold VR at v1;exact DW.none_inv v1];rfl
   ·cases e;rw [Zo4 v1];rfl
   ·cases e;rw [Zdg v1];rfl
   ·cases z:rdA s1.w v with
    | none=>rw [z] at e;cases e
    | some ds=>
     rw [z] at e
     cases e
     obtain ⟨a,xs,rfl,h1,h2⟩:=r1.rdA v1 z
     show TruV K (V.ref a) H1 (!ds.isEmpty)
     rw [<- h2.empty]
     rcases h1 with h1|h1
     ·exact .inl ⟨xs,h1,rfl⟩
     ·exact .inr (.inl ⟨xs,h1,rfl⟩)
  ·exact q.elim
def dAnd (t u:DTT):DTT:=λ s k=>t s λ c s1=>if c=true then u s1 k else k false s1
def dOr (t u:DTT):DTT:=λ s k=>t s λ c s1=>if c=true then k true s1 else u s1 k
def dNot (t:DTT):DTT:=λ s k=>t s λ c s1=>k (!c) s1
theorem Zhb {t u:TT}{d e:DTT} (h:RT K t d) (q:RT K u e):RT K (tAnd t u) (dAnd d e):=by
 refine ⟨λ s Q Q' z y=>h.mo _ _ _ (λ c s1 y=>?_) y,λ G s σ H Q r y=>h.ok G s σ H _ r (h.mo _ _ _ (λ c s1 y G1 H1 e1 r1=>?_) y)⟩
 ·cases c
  ·exact z _ _ y
  ·exact q.mo _ _ _ z y
 ·cases c
  ·exact y G1 H1 e1 r1
  ·exact q.ok G1 s1 σ H1 _ r1 (q.mo _ _ _ (λ c s2 z=>z.same e1) y)
theorem Znv {t u:TT}{d e:DTT} (h:RT K t d) (q:RT K u e):RT K (tOr t u) (dOr d e):=by
 refine ⟨λ s Q Q' z y=>h.mo _ _ _ (λ c s1 y=>?_) y,λ G s σ H Q r y=>h.ok G s σ H _ r (h.mo _ _ _ (λ c s1 y G1 H1 e1 r1=>?_) y)⟩
 ·cases c
  ·exact q.mo _ _ _ z y
  ·exact z _ _ y
 ·cases c
  ·exact q.ok G1 s1 σ H1 _ r1 (q.mo _ _ _ (λ c s2 z=>z.same e1) y)
  ·exact y G1 H1 e1 r1
theorem Zfm {t:TT}{d:DTT} (h:RT K t d):RT K (tNot t) (dNot d):=
 ⟨λ s Q Q' z y=>h.mo _ _ _ (λ c s1 y=>z _ _ y) y,λ G s σ H Q r y=>h.ok G s σ H _ r (h.mo _ _ _ (λ c s1 y G1 H1 e1 r1=>y G1 H1 e1 r1) y)⟩
def dYes:DTT:=λ s k=>k true s
theorem Zcc:RT K tYes dYes:=⟨λ s Q Q' z y=>z _ _ y,λ G s σ H Q r y=>y G H (Same.refl G) r⟩
def dIfE (t:DTT) (a b:DTE):DTE:=λ s k=>t s λ c s1=>if c=true then a s1 k else b s1 k
theorem Zyb {t:TT}{ta tb:TE}{d:DTT}{da db:DTE} (h:RT K t d) (ha:RE K ta da) (hb:RE K tb db):RE K (tIf t ta tb) (dIfE d da db):=by
 refine ⟨λ s Q Q' z y=>h.mo _ _ _ (λ c s1 y=>?_) y,λ G s σ H Q r y=>h.ok G s σ H _ r (h.mo _ _ _ (λ c s1 y G1 H1 e1 r1=>?_) y)⟩
 ·cases c
  ·exact hb.mo _ _ _ z y
  ·exact ha.mo _ _ _ z y
 ·cases c
  ·exact hb.ok G1 s1 σ H1 _ r1 (hb.mo _ _ _ (λ c s2 z=>z.same e1) y)
  ·exact ha.ok G1 s1 σ H1 _ r1 (ha.mo _ _ _ (λ c s2 z=>z.same e1) y)
def dAndV (a b:DTE):DTE:=λ s k=>a s λ v s1=>match v with | .d (.bool c)=>(if c=true then b s1 k else k (.d (.bool false)) s1)|_=>False
def dOrV (a b:DTE):DTE:=λ s k=>a s λ v s1=>match v with | .d (.bool c)=>(if c=true then k (.d (.bool true)) s1 else b s1 k)|_=>False
def dNotV (a:DTE):DTE:=λ s k=>a s λ v s1=>match v with | .d (.bool c)=>k (.d (.bool (!c))) s1|_=>False
theorem Zh9 {ta tb:TE}{da db:DTE} (ha:RE K ta da) (hb:RE K tb db):RE K (tAndV ta tb) (dAndV da db):=by
 refine ⟨λ s Q Q' z y=>ha.mo _ _ _ (λ v s1 y=>?_) y,λ G s σ H Q r y=>ha.ok G s σ H _ r (ha.mo _ _ _ (λ v s1 y G1 H1 x e1 r1 v1=>?_) y)⟩
 ·split at y
  ·next c=>cases c;exact z _ _ y;exact hb.mo _ _ _ z y
  ·exact y.elim
 ·split at y
  ·next c=>
   refine ⟨c,Zo4 v1,?_⟩
   cases c
   ·exact y G1 H1 _ e1 r1 Zhf
   ·exact hb.ok G1 s1 σ H1 _ r1 (hb.mo _ _ _ (λ c s2 z=>z.same e1) y)
  ·exact y.elim
theorem Zyc {ta:TE}{da:DTE} (ha:RE K ta da):RE K (tNotV ta) (dNotV da):=by
 refine ⟨λ s Q Q' z y=>ha.mo _ _ _ (λ v s1 y=>?_) y,λ G s σ H Q r y=>ha.ok G s σ H _ r (ha.mo _ _ _ (λ v s1 y G1 H1 x e1 r1 v1=>?_) y)⟩
 ·split at y
  ·exact z _ _ y
  ·exact y.elim
 ·split at y
  ·next c=>exact ⟨c,Zo4 v1,y G1 H1 _ e1 r1 Zhf⟩
  ·exact y.elim
theorem JOk.list {a:Addr}{xs:List V}{ds:List PyData} (h:G a=some (.lst xs)) (D:DWs K G ds xs):JOk K (Itl K a) G (λ _=>True) ds:=by
 intro G1 s σ H i e _ r
 have hs:SqL K H a xs:=SqL.of (r.sub _ _ (e _ _ h))
 refine ⟨λ d hd=>?_,λ hl=>⟨xs,hs,by rw [<- D.length];exact hl⟩⟩
 obtain ⟨x,h1,h2⟩:=D.get' hd
 refine ⟨⟨xs,x,hs,h1⟩,λ y H' hy=>?_⟩
 obtain ⟨rfl,hy⟩:=hy
 have:=hy xs hs
 rw [h1] at this;cases this
 exact ⟨G1,Same.refl _,r,h2.same e⟩
theorem JOk.tup {a:Addr}{xs:List V}{ds:List PyData} (h:SqT K G a xs) (D:DWs K G ds xs):JOk K (Itt K a) G (λ _=>True) ds:=by
 intro G1 s σ H i e _ r
 have hs:SqT K H a xs:=r.sub.tup (e.tup h)
 refine ⟨λ d hd=>?_,λ hl=>⟨xs,hs,by rw [<- D.length];exact hl⟩⟩
 obtain ⟨x,h1,h2⟩:=D.get' hd
 refine ⟨⟨xs,x,hs,h1⟩,λ y H' hy=>?_⟩
 obtain ⟨rfl,hy⟩:=hy
 have:=hy xs hs
 rw [h1] at this;cases this
 exact ⟨G1,Same.refl _,r,h2.same e⟩
def rngD (lo:Int) (n:Nat):List PyData:=(List.range n).map λ i=>.int (lo+(i:Nat))
theorem JOk.rng {lo:Int}{n:Nat}:JOk K (Itr lo n) G (λ _=>True) (rngD lo n):=by
 intro G1 s σ H i e _ r
 refine ⟨λ d hd=>?_,λ hl=>by show n≤i;simpa [rngD] using hl⟩
 have hi:i<n:=by
  have:=(List.getElem?_eq_some_iff.mp hd).1
  simpa [rngD] using this
 refine ⟨hi,λ y H' hy=>?_⟩
 obtain ⟨rfl,rfl⟩:=hy
 refine ⟨G1,Same.refl _,r,?_⟩
 have hd':d = .int (lo+(i:Nat)):=by
  unfold rngD at hd
  rw [getElem?_map,List.getElem?_range hi] at hd
  exact (Option.some.inj hd).symm
 rw [hd'];exact DW.int
def SqD (K:PySem.W.Frag) (t:Bool) (G:Hp) (a:Addr) (xs:List V):Prop:=match t with|true=>SqT K G a xs|false=>G a=some (.lst xs)
theorem SqD.sq {t:Bool}{a:Addr}{xs:List V} (h:SqD K t G a xs) (e:Same G G'):SqB K t G' a xs:=by
 cases t
 ·exact SqL.of (e _ _ h)
 ·exact e.tup h
def zipD (ds es:List PyData):List PyData:=(ds.zip es).map λ p=>.tuple [p.1,p.2]
theorem JOk.zip {t1 t2:Bool}{a b:Addr}{xs ys:List V}{ds es:List PyData} (h:SqD K t1 G a xs) (h':SqD K t2 G b ys) (D:DWs K G ds xs) (D':DWs K G es ys):JOk K (Itz K t1 t2 a b) G (λ _=>True) (zipD ds es):=by
 intro G1 s σ H i e _ r
 have hs:=h.sq (e.trans r.sub)
 have hs':=h'.sq (e.trans r.sub)
 refine ⟨λ d hd=>?_,λ hl=>⟨xs,ys,hs,hs',?_⟩⟩
 ·unfold zipD at hd
  rw [getElem?_map] at hd
  cases q:(ds.zip es)[i]? with
  | none=>rw [q] at hd;cases hd
  | some p=>
   rw [q] at hd
   cases hd
   obtain ⟨q1,q2⟩:=getElem?_zip_eq_some.mp q
   obtain ⟨x,h1,h2⟩:=D.get' q1
   obtain ⟨y,h3,h4⟩:=D'.get' q2
   refine ⟨⟨xs,ys,x,y,hs,hs',h1,h3⟩,λ v H' hy=>?_⟩
   obtain ⟨p',x',y',rfl,hp,rfl,hxy⟩:=hy
   obtain ⟨z1,z2⟩:=hxy xs ys hs hs'
   rw [h1] at z1;cases z1
   rw [h3] at z2;cases z2
   have hg:=r.sub.free hp
   have S:=Zdb hg (.tup [x,y])
   exact ⟨_,S,r.new hp _,DW.tup Zbw (DWs.cons (h2.same (e.trans S)) (DWs.cons (h4.same (e.trans S)) DWs.nil))⟩
 ·unfold zipD at hl
  rw [lmp,length_zip,D.length,D'.length] at hl
  omega
def enumD (ds:List PyData):List PyData:=ds.mapIdx λ i d=>.tuple [.int (i:Nat),d]
theorem JOk.enum {t:Bool}{a:Addr}{xs:List V}{ds:List PyData} (h:SqD K t G a xs) (D:DWs K G ds xs):JOk K (Ite K t a) G (λ _=>True) (enumD ds):=by
 intro G1 s σ H i e _ r
 have hs:=h.sq (e.trans r.sub)
 refine ⟨λ d hd=>?_,λ hl=>⟨xs,hs,by rw [<- D.length];simpa [enumD] using hl⟩⟩
 unfold enumD at hd
 rw [List.getElem?_mapIdx] at hd
 cases q:ds[i]? with
 | none=>rw [q] at hd;cases hd
 | some d'=>
  rw [q] at hd
  cases hd
  obtain ⟨x,h1,h2⟩:=D.get' q
  refine ⟨⟨xs,x,hs,h1⟩,λ v H' hy=>?_⟩
  obtain ⟨p',x',rfl,hp,rfl,hxy⟩:=hy
  have z1:=hxy xs hs
  rw [h1] at z1;cases z1
  have hg:=r.sub.free hp
  have S:=Zdb hg (.tup [.int (i:Nat),x])
  exact ⟨_,S,r.new hp _,DW.tup Zbw (DWs.cons DW.int (DWs.cons (h2.same (e.trans S)) DWs.nil))⟩
def noP:OW->Prop:=λ _=>True
def dItL (d:DTE):DTI:=λ s k=>d s λ v s1=>match v with | .d (.list ds)=>k (ds,noP) s1 | .own a=>∃ ds,s1.w a=some (.lst ds)/\k (ds,λ w=>w a=some (.lst ds)) s1|_=>False
def dItT (d:DTE):DTI:=λ s k=>d s λ v s1=>match v with | .d (.tuple ds)=>k (ds,noP) s1|_=>False
theorem JOk.own {a:Addr}{ds:List PyData}:JOk K (Itl K a) G (λ w=>w a=some (.lst ds)) ds:=by
 intro G1 s σ H i e p r
 obtain ⟨_,xs,h1,D⟩:=r.own a _ p
 have hs:SqL K H a xs:=SqL.of h1
 refine ⟨λ d hd=>?_,λ hl=>⟨xs,hs,by rw [<- D.length];exact hl⟩⟩
 obtain ⟨x,h4,h2⟩:=D.get' hd
 refine ⟨⟨xs,x,hs,h4⟩,λ y H' hy=>?_⟩
 obtain ⟨rfl,hy⟩:=hy
 have:=hy xs hs
 rw [h4] at this;cases this
 exact ⟨G1,Same.refl _,r,h2⟩
theorem Ze8 {t:TE}{d:DTE} (h:RE K t d):RI K (iList K t) (dItL d):=by
 refine ⟨λ s Q Q' z y=>h.mo _ _ _ (λ v s1 y=>?_) y,λ G s σ H R r y=>h.ok G s σ H _ r (h.mo _ _ _ (λ v s1 y G1 H1 x e1 r1 v1=>?_) y)⟩
 ·split at y
  ·exact z _ _ y
  ·obtain ⟨ds,h1,y⟩:=y;exact ⟨ds,h1,z _ _ y⟩
  ·exact y.elim
 ·split at y
  ·obtain ⟨a,xs,rfl,h1,h2⟩:=Zmw v1
   exact ⟨a,rfl,⟨xs,SqL.of (r1.sub _ _ h1)⟩,y G1 H1 _ e1 r1 (JOk.list h1 h2)⟩
  ·next a=>
   obtain ⟨ds,h1,y⟩:=y
   cases (show x = .ref a from v1)
   obtain ⟨_,xs,h2,_⟩:=r1.own a _ h1
   exact ⟨a,rfl,⟨xs,SqL.of h2⟩,y G1 H1 _ e1 r1 JOk.own⟩
  ·exact y.elim
theorem Zcq {t:TE}{d:DTE} (h:RE K t d):RI K (iTup K t) (dItT d):=by
 refine ⟨λ s Q Q' z y=>h.mo _ _ _ (λ v s1 y=>?_) y,λ G s σ H R r y=>h.ok G s σ H _ r (h.mo _ _ _ (λ v s1 y G1 H1 x e1 r1 v1=>?_) y)⟩
 ·split at y
  ·exact z _ _ y
  ·exact y.elim
 ·split at y
  ·obtain ⟨a,xs,rfl,h1,h2⟩:=Zmy v1
   exact ⟨a,rfl,⟨xs,r1.sub.tup h1⟩,y G1 H1 _ e1 r1 (JOk.tup h1 h2)⟩
  ·exact y.elim
def dRng1 (d:DTA):DTI:=λ s k=>d s λ vs s1=>match vs with | [.d (.int j)]=>(-(2 ^ 62)≤j/\j<2 ^ 62)/\k (rngD 0 j.toNat,noP) s1|_=>False
def dRng2 (d:DTA):DTI:=λ s k=>d s λ vs s1=>match vs with | [.d (.int i),.d (.int j)]=>(-(2 ^ 62)≤i/\i<2 ^ 62/\-(2 ^ 62)≤j/\j<2 ^ 62)/\k (rngD i (j-i).toNat,noP) s1|_=>False
theorem Zdk {t:TA}{d:DTA} (h:RA K t d):RI K (iRng1 t) (dRng1 d):=by
 refine ⟨λ s Q Q' z y=>h.mo _ _ _ (λ v s1 y=>?_) y,λ G s σ H R r y=>h.ok G s σ H _ r (h.mo _ _ _ (λ v s1 y G1 H1 x e1 r1 v1=>?_) y)⟩
 ·split at y
  ·exact ⟨y.1,z _ _ y.2⟩
  ·exact y.elim
 ·split at y
  ·next j=>
   obtain ⟨u,rfl,v2⟩:=v1.one
   exact ⟨j,by rw [Zdg v2],y.1.1,y.1.2,y.2 G1 H1 _ e1 r1 JOk.rng⟩
  ·exact y.elim
def seqD (t:Bool):Val->Option (List PyData)
 | .d (.list ds)=>if t then none else some ds
 | .d (.tuple ds)=>if t then some ds else none
 | _=>none
theorem Zqo {t:Bool}{v:Val}{x:V}{ds:List PyData} (h:VR K G v x) (e:seqD t v=some ds):∃ a xs,x = .ref a/\SqD K t G a xs/\DWs K G ds xs:=by
 unfold seqD at e
 split at e
 ·cases t
  ·cases e
   obtain ⟨a,xs,rfl,h1,h2⟩:=Zmw h
   exact ⟨a,xs,rfl,h1,h2⟩
  ·cases e
 ·cases t
  ·cases e
  ·cases e
   obtain ⟨a,xs,rfl,h1,h2⟩:=Zmy h
   exact ⟨a,xs,rfl,h1,h2⟩
 ·cases e
def dZip (t1 t2:Bool) (d:DTA):DTI:=λ s k=>d s λ vs s1=>match vs with | [v,w]=>(match seqD t1 v,seqD t2 w with|some ds,some es=>k (zipD ds es,noP) s1|_,_=>False)|_=>False
def dEnum (t:Bool) (d:DTA):DTI:=λ s k=>d s λ vs s1=>match vs with | [v]=>(match seqD t v with|some ds=>k (enumD ds,noP) s1|_=>False)|_=>False
theorem Zrm {t1 t2:Bool}{t:TA}{d:DTA} (h:RA K t d):RI K (iZip K t1 t2 t) (dZip t1 t2 d):=by
 refine ⟨λ s Q Q' z y=>h.mo _ _ _ (λ v s1 y=>?_) y,λ G s σ H R r y=>h.ok G s σ H _ r (h.mo _ _ _ (λ v s1 y G1 H1 x e1 r1 v1=>?_) y)⟩
 ·split at y
  ·split at y
   ·exact z _ _ y
   ·exact y.elim
  ·exact y.elim
 ·split at y
  ·split at y
   ·next ds es q1 q2=>
    obtain ⟨u,w,rfl,v2,v3⟩:=v1.two
    obtain ⟨a,xs,rfl,h1,h2⟩:=Zqo v2 q1
    obtain ⟨b,ys,rfl,h3,h4⟩:=Zqo v3 q2
    exact ⟨a,b,xs,ys,rfl,h1.sq r1.sub,h3.sq r1.sub,y G1 H1 _ e1 r1 (JOk.zip h1 h3 h2 h4)⟩
   ·exact y.elim
  ·exact y.elim
theorem Zyd {t1:Bool}{t:TA}{d:DTA} (h:RA K t d):RI K (iEnum K t1 t) (dEnum t1 d):=by
 refine ⟨λ s Q Q' z y=>h.mo _ _ _ (λ v s1 y=>?_) y,λ G s σ H R r y=>h.ok G s σ H _ r (h.mo _ _ _ (λ v s1 y G1 H1 x e1 r1 v1=>?_) y)⟩
 ·split at y
  ·split at y
   ·exact z _ _ y
   ·exact y.elim
  ·exact y.elim
 ·split at y
  ·split at y
   ·next ds q1=>
    obtain ⟨u,rfl,v2⟩:=v1.one
    obtain ⟨a,xs,rfl,h1,h2⟩:=Zqo v2 q1
    exact ⟨a,xs,rfl,h1.sq r1.sub,y G1 H1 _ e1 r1 (JOk.enum h1 h2)⟩
   ·exact y.elim
  ·exact y.elim
def tgN (i:Nat):DTG:=λ v s k=>k (s.set i v)
theorem Za7 (i:Nat):RG K (gName i) (tgN i):=⟨λ v s Q Q' h q=>h _ q,λ G s σ H v x Q r q h=>h G _ H (Same.refl G) (r.set q i)⟩
abbrev DTGs:=List PyData->DS->(DS->Prop)->Prop
structure RGs (K:PySem.W.Frag) (g:TGs) (d:DTGs):Prop where
 mo:∀ v s (Q Q':DS->Prop),(∀ s',Q s'->Q' s')->d v s Q->d v s Q'
 ok:∀ G s σ H ds xs Q,Rel K G s σ H->DWs K G ds xs->d ds s (λ s'=>∀ G' σ' H',Same G G'->Rel K G' s' σ' H'->Q σ' H')->g xs σ H Q
def tgNil:DTGs:=λ ds s k=>match ds with | []=>k s|_=>False
def tgCons (g:DTG) (r:DTGs):DTGs:=λ ds s k=>match ds with|d::t=>g (.d d) s (λ s1=>r t s1 k) | []=>False
theorem Zbp:RGs K gNil tgNil:=by
 refine ⟨λ v s Q Q' h q=>?_,λ G s σ H ds xs Q r D h=>?_⟩
 ·unfold tgNil at q |-;split at q
  ·exact h _ q
  ·exact q.elim
 ·unfold tgNil at h;split at h
  ·unfold DWs at D;exact ⟨D,h G σ H (Same.refl G) r⟩
  ·exact h.elim
theorem Zaa {t:TG}{u:TGs}{g:DTG}{r:DTGs} (h1:RG K t g) (h2:RGs K u r):RGs K (gCons t u) (tgCons g r):=by
 refine ⟨λ v s Q Q' h q=>?_,λ G s σ H ds xs Q rl D h=>?_⟩
 ·unfold tgCons at q |-;split at q
  ·exact h1.mo _ _ _ _ (λ s1 q=>h2.mo _ _ _ _ h q) q
  ·exact q.elim
 ·unfold tgCons at h;split at h
  ·unfold DWs at D
   obtain ⟨x,t',rfl,D1,D2⟩:=D
   refine ⟨x,t',rfl,h1.ok G s σ H (.d _) x _ rl D1 (h1.mo _ _ _ _ (λ s1 q G1 σ1 H1 e1 r1=>?_) h)⟩
   exact h2.ok G1 s1 σ1 H1 _ t' _ r1 (D2.same e1) (h2.mo _ _ _ _ (λ s2 q G2 σ2 H2 e2 r2=>q G2 σ2 H2 (e1.trans e2) r2) q)
  ·exact h.elim
def tgTup (n:Nat) (g:DTGs):DTG:=λ v s k=>match v with | .d (.tuple ds)=>ds.length=n/\g ds s k|_=>False
theorem Zcb {n:Nat}{t:TGs}{g:DTGs} (h:RGs K t g):RG K (gTup K n t) (tgTup n g):=by
 refine ⟨λ v s Q Q' z q=>?_,λ G s σ H v x Q r q z=>?_⟩
 ·unfold tgTup at q |-;split at q
  ·exact ⟨q.1,h.mo _ _ _ _ z q.2⟩
  ·exact q.elim
 ·unfold tgTup at z;split at z
  ·obtain ⟨a,xs,rfl,h1,h2⟩:=Zmy q
   exact ⟨a,xs,rfl,r.sub.tup h1,by rw [<- h2.length];exact z.1,h.ok G s σ H _ xs Q r h2 z.2⟩
  ·exact z.elim
def dEmit (de:DTE):DTL:=λ acc s k=>de s λ v s1=>match v with | .d x=>k (acc++[x]) s1|_=>False
theorem Zbm {te:TE}{de:DTE} (h:RE K te de):RL K (tEmit te) (dEmit de):=by
 refine ⟨λ acc s Q Q' z q=>h.mo _ _ _ (λ v s1 q=>?_) q,λ G s σ H acc ys Q r D hl q=>⟨by rw [<- D.length];exact hl,h.ok G s σ H _ r (h.mo _ _ _ (λ v s1 q G1 H1 x e1 r1 v1=>?_) q)⟩⟩
 ·split at q
  ·exact z _ _ q
  ·exact q.elim
 ·split at q
  ·exact q G1 σ H1 _ e1 r1 ((D.same e1).snoc v1)
  ·exact q.elim
def ext:List (Option Val)->List (Option Val)->Prop
 | [],[]=>True
 | none::r,_::t=>ext r t
 | some v::r,some u::t=>v=u/\ext r t
 | _,_=>False
theorem Zpw:∀ {e e':List (Option Val)}{i:Nat}{v:Val},ext e e'->e[i]? = some (some v)->e'[i]? = some (some v)
 | [],_,i,v,_,h=>by simp at h
 | none::r,[],i,v,h,_=>by simp [ext] at h
 | none::r,_::t,0,v,_,h=>by simp at h
 | none::r,_::t,i+1,v,h,q=>by
  simp only [getElem?_cons_succ] at q |-
  exact Zpw (e:=r) h q
 | some u::r,[],i,v,h,_=>by simp [ext] at h
 | some u::r,none::t,i,v,h,_=>by simp [ext] at h
 | some u::r,some u'::t,0,v,h,q=>by
  simp only [getElem?_cons_zero] at q |-
  rw [<- h.1];exact q
 | some u::r,some u'::t,i+1,v,h,q=>by
  simp only [getElem?_cons_succ] at q |-
  exact Zpw (e:=r) h.2 q
theorem Zpx:∀ {e e':List (Option Val)},ext e e'->e.length=e'.length
 | [],[],_=>rfl
 | [],_::_,h=>by simp [ext] at h
 | none::r,[],h=>by simp [ext] at h
 | none::r,_::t,h=>by rw [length_cons,length_cons,Zpx (e:=r) h]
 | some _::r,[],h=>by simp [ext] at h
 | some _::r,none::t,h=>by simp [ext] at h
 | some _::r,some _::t,h=>by rw [length_cons,length_cons,Zpx (e:=r) h.2]
theorem Rel.ext {e:List (Option Val)} (r:Rel K G s σ H) (h:L2.ext e s.e):Rel K G ⟨e,s.w⟩ σ H:=
 ⟨r.sub,r.own,by rw [Zpx h];exact r.sl.1,λ i v q=>r.sl.2 i v (Zpw h q)⟩
def LIt (src:List PyData × (OW->Prop)) (e0:List (Option Val)) (dg:DTG) (dt:DTT) (dl:DTL) (k:List PyData->DS->Prop) (I:Nat->List PyData->OW->Prop):Prop:=
 (∀ i acc w,I i acc w->src.2 w/\(i<src.1.length->acc.length<sizeLine)) /\
 (∀ (i:Nat) d acc w,src.1[i]? = some d->I i acc w->dg (.d d) ⟨e0,w⟩ λ s2=>dt s2 λ b s3=>if b=true then dl acc s3 (λ acc' s'=>L2.ext e0 s'.e/\I (i+1) acc' s'.w) else L2.ext e0 s3.e/\I (i+1) acc s3.w) /\
 ∀ acc w,I src.1.length acc w->k acc ⟨e0,w⟩
theorem Zra {J:It}{g:TG}{tt:TT}{tb:TL}{dg:DTG}{dt:DTT}{dl:DTL}{ds:List PyData}{P:OW->Prop}{e0:List (Option Val)}{Q:LK}{k:List PyData->DS->Prop}{I:Nat->List PyData->OW->Prop}{G1:Hp} (hg:RG K g dg) (ht:RT K tt dt) (hl:RL K tb dl) (hJ:JOk K J G1 P ds)
  (hI:LIt (ds,P) e0 dg dt dl k I) (hQ:∀ G s σ H acc ys,Same G1 G->Rel K G s σ H->DWs K G acc ys->k acc s->Q ys σ H) {w:OW}{σ:St}{H:Hp}{acc:List PyData}{ys:List V} (r:Rel K G1 ⟨e0,w⟩ σ H) (D:DWs K G1 acc ys) (h0:I 0 acc w) :
  ∃ W:Nat->List V->Nat->St->Hp->Prop,(∃ m,W 0 ys m σ H)/\LTurn J g tt tb Q W:=by
 obtain ⟨hI1,hI2,hI3⟩:=hI
 dsimp only at hI1 hI2 hI3
 refine ⟨λ i ys m σ H=>i+m=ds.length/\∃ G w acc,Same G1 G/\Rel K G ⟨e0,w⟩ σ H/\DWs K G acc ys/\I i acc w,⟨ds.length,zero_add _,G1,w,acc,Same.refl _,r,D,h0⟩,?_⟩
 rintro i ys m σ H ⟨hm,G,w,acc,e,r,D,hi⟩
 obtain ⟨hp,hz⟩:=hI1 i acc w hi
 cases m with
 | zero=>
  have:i=ds.length:=by omega
  subst this
  exact .inl ⟨(hJ G _ σ H _ e hp r).2 (le_refl _),hQ G _ σ H acc ys e r D (hI3 acc w hi)⟩
 | succ m=>
  have hlt:i<ds.length:=by omega
  have hd:=gEq hlt
  obtain ⟨go,yl⟩:=(hJ G _ σ H i e hp r).1 _ hd
  refine .inr ⟨go,λ ys' σ' H'=>∃ G' w' acc',Same G1 G'/\Rel K G' ⟨e0,w'⟩ σ' H'/\DWs K G' acc' ys'/\I (i+1) acc' w',λ ys' σ' H' ⟨G',s',acc',q⟩=>⟨m,lt_succ_self m,by omega,G',s',acc',q⟩,λ x H' hy=>?_⟩
  obtain ⟨G',e',r',dx⟩:=yl x H' hy
  have hs:=hI2 i _ acc w hd hi
  refine hg.ok G' _ σ H' (.d _) x _ r' dx (hg.mo _ _ _ _ (λ s2 q G2 σ2 H2 e2 r2=>?_) hs)
  refine ht.ok G2 s2 σ2 H2 _ r2 (ht.mo _ _ _ (λ b s3 q G3 H3 e3 r3=>?_) q)
  have D3:=D.same ((e'.trans e2).trans e3)
  have E3:=((e.trans e').trans e2).trans e3
  cases b
  ·exact ⟨G3,s3.w,acc,E3,r3.ext q.1,D3,q.2⟩
  ·exact hl.ok G3 s3 σ2 H3 acc ys _ r3 D3 (hz hlt) (hl.mo _ _ _ _ (λ acc' s4 q G4 σ4 H4 ys4 e4 r4 D4=>⟨G4,s4.w,acc',E3.trans e4,r4.ext q.1,D4,q.2⟩) q)
def dLoop (di:DTI) (dg:DTG) (dt:DTT) (dl:DTL):DTL:=λ acc s k=>di s λ src s1=>∃ I,I 0 acc s1.w/\LIt src s1.e dg dt dl k I
theorem Zuc {wi:TI}{g:TG}{tt:TT}{tb:TL}{di:DTI}{dg:DTG}{dt:DTT}{dl:DTL} (hi:RI K wi di) (hg:RG K g dg) (ht:RT K tt dt) (hl:RL K tb dl):RL K (tLoop wi g tt tb) (dLoop di dg dt dl):=by
 refine ⟨λ acc s Q Q' z q=>hi.mo _ _ _ (λ ds s1 q=>?_) q,λ G s σ H acc ys Q r D hz q=>hi.ok G s σ H _ r (hi.mo _ _ _ (λ ds s1 q G1 H1 J e1 r1 hJ=>?_) q)⟩
 ·obtain ⟨I,h0,h3,h1,h2⟩:=q
  exact ⟨I,h0,h3,h1,λ acc s h=>z _ _ (h2 acc s h)⟩
 ·obtain ⟨I,h0,hI⟩:=q
  exact Zra (w:=s1.w) hg ht hl hJ hI (λ G2 s2 σ2 H2 acc2 ys2 e2 r2 D2 k2=>k2 G2 σ2 H2 ys2 (e1.trans e2) r2 D2) r1 (D.same e1) h0
def dComp (o:Bool) (di:DTI) (cap:List (Option Nat)) (dg:DTG) (dt:DTT) (dl:DTL):DTE:=λ s k=>di s λ src s1=>∃ I,I 0 [] s1.w/\LIt src (captD cap s1.e) dg dt dl (λ acc s'=>nl o acc ⟨s1.e,s'.w⟩ k) I
theorem Zbl (o:Bool) {wi:TI}{cap:List (Option Nat)}{g:TG}{tt:TT}{tb:TL}{di:DTI}{dg:DTG}{dt:DTT}{dl:DTL} (hi:RI K wi di) (hg:RG K g dg) (ht:RT K tt dt) (hl:RL K tb dl):RE K (tComp wi cap g tt tb) (dComp o di cap dg dt dl):=by
 refine ⟨λ s Q Q' z q=>hi.mo _ _ _ (λ ds s1 q=>?_) q,λ G s σ H Q r q=>hi.ok G s σ H _ r (hi.mo _ _ _ (λ ds s1 q G1 H1 J e1 r1 hJ=>?_) q)⟩
 ·obtain ⟨I,h0,h3,h1,h2⟩:=q
  exact ⟨I,h0,h3,h1,λ acc s h=>Znq z (h2 acc s h)⟩
 ·obtain ⟨I,h0,hI⟩:=q
  refine Zra (w:=s1.w) hg ht hl hJ hI (λ G2 s2 σ2 H2 acc2 ys2 e2 r2 D2 k2=>?_) (r1.env (r1.sl.capt cap)) DWs.nil h0
  exact (r2.env (r1.sl.same e2):Rel K G2 ⟨s1.e,s2.w⟩ σ H2).nl D2 (Znq (λ v s' z=>z.same (e1.trans e2)) k2)
theorem Znj {src:List PyData × (OW->Prop)}{e0:List (Option Val)}{dg:DTG}{dt:DTT}{dl:DTL}{k:List PyData->DS->Prop}{w:OW}{α:Type} (xs:List α) (enc:α->PyData) (g:α->List PyData) (acc0:List PyData) (hsrc:src.1=xs.map enc) (hp:src.2 w)
  (hl:acc0.length+(xs.flatMap g).length<sizeLine)
  (hs:∀ x∈xs,∀ acc:List PyData,acc.length+(g x).length<sizeLine->∀ Q:List PyData->OW->Prop,Q (acc++g x) w->dg (.d (enc x)) ⟨e0,w⟩ λ s2=>dt s2 λ b s3=>if b=true then dl acc s3 (λ acc' s'=>L2.ext e0 s'.e/\Q acc' s'.w) else L2.ext e0 s3.e/\Q acc s3.w)
  (hk:k (acc0++xs.flatMap g) ⟨e0,w⟩):∃ I:Nat->List PyData->OW->Prop,I 0 acc0 w/\LIt src e0 dg dt dl k I:=by
 refine ⟨λ i acc w'=>acc=acc0++(xs.take i).flatMap g/\w' = w,⟨by simp,rfl⟩,?_,?_,?_⟩
 ·rintro i acc w' ⟨rfl,rfl⟩
  refine ⟨hp,λ hi=>?_⟩
  have hle:((xs.take i).flatMap g).length≤(xs.flatMap g).length:=by
   have:xs.flatMap g=(xs.take i).flatMap g++(xs.drop i).flatMap g:=by rw [<- flatMap_append,List.take_append_drop]
   rw [this,length_append];omega
  rw [length_append];omega
 ·rintro i d acc w' hd ⟨rfl,rfl⟩
  rw [hsrc,getElem?_map] at hd
  cases q:xs[i]? with
  | none=>rw [q] at hd;cases hd
  | some x=>
   rw [q] at hd;cases hd
   obtain ⟨hi,hx⟩:=List.getElem?_eq_some_iff.mp q
   have ht:xs.take (i+1)=xs.take i++[x]:=by rw [take_add_one,q];rfl
   refine hs x (by rw [<- hx];exact getElem_mem hi) _ ?_ (λ acc' w''=>acc' = acc0++(xs.take (i+1)).flatMap g/\w'' = w') ⟨?_,rfl⟩
   ·have hle:((xs.take (i+1)).flatMap g).length≤(xs.flatMap g).length:=by
     have:xs.flatMap g=(xs.take (i+1)).flatMap g++(xs.drop (i+1)).flatMap g:=by rw [<- flatMap_append,List.take_append_drop]
     rw [this,length_append];omega
    rw [ht,flatMap_append,length_append] at hle
    simp only [flatMap_cons,List.flatMap_nil,append_nil] at hle
    rw [length_append];omega
   ·rw [ht,flatMap_append,append_assoc];simp
 ·rintro acc w' ⟨rfl,rfl⟩
  rw [hsrc,lmp,take_length]
  exact hk
def dNext:DTS:=λ E s=>E.nx s
def dSeq (t u:DTS):DTS:=λ E s=>t { E with nx:=u E } s
theorem Zbc:RS K tNext dNext:=λ G s σ H D E r p q=>p.nx s G σ H (Same.refl G) r q
theorem Zab {t u:TS}{d e:DTS} (h:RS K t d) (q:RS K u e):RS K (tSeq t u) (dSeq d e):=by
 intro G s σ H D E r p z
 refine h G s σ H _ { E with nx:=e E } r ⟨λ s' G' σ' H' e1 r1 z1=>?_,p.rt,p.bk,p.ct⟩ z
 exact q G' s' σ' H' D E r1 (p.same e1) z1
def dBreak:DTS:=λ E s=>E.bk s
def dCont:DTS:=λ E s=>E.ct s
theorem Zw4:RS K tBreak dBreak:=λ G s σ H D E r p q=>p.bk s G σ H (Same.refl G) r q
def dDrop (d:DTE):DTS:=λ E s=>d s λ _ s1=>E.nx s1
theorem Zdl {t:TE}{d:DTE} (h:RE K t d):RS K (tDrop t) (dDrop d):=λ G s σ H D E r p q=>
 h.ok G s σ H _ r (h.mo _ _ _ (λ v s1 q G1 H1 x e1 r1 v1=>p.nx s1 G1 σ H1 e1 r1 q) q)
def dRet (d:DTE):DTS:=λ E s=>d s E.rt
theorem Zb6 {t:TE}{d:DTE} (h:RE K t d):RS K (tRet t) (dRet d):=λ G s σ H D E r p q=>
 h.ok G s σ H _ r (h.mo _ _ _ (λ v s1 q G1 H1 x e1 r1 v1=>p.rt v s1 G1 σ H1 x e1 r1 v1 q) q)
def dRetN:DTS:=λ E s=>E.rt (.d .none) s
def dIfS (c:DTT) (t u:DTS):DTS:=λ E s=>c s λ b s1=>if b=true then t E s1 else u E s1
theorem Zd4 {c:TT}{t u:TS}{dc:DTT}{d e:DTS} (hc:RT K c dc) (h:RS K t d) (q:RS K u e):RS K (tIfS c t u) (dIfS dc d e):=by
 intro G s σ H D E r p z
 refine hc.ok G s σ H _ r (hc.mo _ _ _ (λ b s1 z G1 H1 e1 r1=>?_) z)
 cases b
 ·exact q G1 s1 σ H1 D E r1 (p.same e1) z
 ·exact h G1 s1 σ H1 D E r1 (p.same e1) z
def dAsg (d:DTE) (g:DTG):DTS:=λ E s=>d s λ v s1=>g v s1 E.nx
theorem Zas {t:TE}{g:TG}{d:DTE}{dg:DTG} (h:RE K t d) (hg:RG K g dg):RS K (tAsg t g) (dAsg d dg):=λ G s σ H D E r p q=>
 h.ok G s σ H _ r (h.mo _ _ _ (λ v s1 q G1 H1 x e1 r1 v1=>hg.ok G1 s1 σ H1 v x _ r1 v1 (hg.mo _ _ _ _ (λ s2 q G2 σ2 H2 e2 r2=>p.nx s2 G2 σ2 H2 (e1.trans e2) r2 q) q)) q)
def dPar (i j:Nat) (d:DTA):DTS:=λ E s=>d s λ vs s1=>match vs with | [v,w]=>E.nx ((s1.set i v).set j w)|_=>False
theorem Zuf {i j:Nat}{t:TA}{d:DTA} (h:RA K t d):RS K (tPar i j t) (dPar i j d):=λ G s σ H D E r p q=>
 h.ok G s σ H _ r (h.mo _ _ _ (λ vs s1 q G1 H1 xs e1 r1 v1=>by
  split at q
  ·obtain ⟨x,y,rfl,v2,v3⟩:=v1.two
   exact ⟨x,y,rfl,p.nx _ G1 _ H1 e1 ((r1.set v2 i).set v3 j) q⟩
  ·exact q.elim) q)
theorem lenE0 {α:Type _}{l:List α} (h:l.length=0):l=[]:=List.eq_nil_of_length_eq_zero h
theorem lenE1 {α:Type _}{l:List α} (h:l.length=1):∃ a0,l=[a0]:=by
 cases l with
 | nil=>cases h
 | cons a t=>have:=lenE0 (Nat.succ.inj h);exact ⟨a,by rw [this]⟩
theorem lenE2 {α:Type _}{l:List α} (h:l.length=2):∃ a0 a1,l=[a0,a1]:=by
 cases l with
 | nil=>cases h
 | cons a t=>obtain ⟨b0,rfl⟩:=lenE1 (Nat.succ.inj h);exact ⟨a,b0,rfl⟩
theorem lenE3 {α:Type _}{l:List α} (h:l.length=3):∃ a0 a1 a2,l=[a0,a1,a2]:=by
 cases l with
 | nil=>cases h
 | cons a t=>obtain ⟨b0,b1,rfl⟩:=lenE2 (Nat.succ.inj h);exact ⟨a,b0,b1,rfl⟩
theorem lenE4 {α:Type _}{l:List α} (h:l.length=4):∃ a0 a1 a2 a3,l=[a0,a1,a2,a3]:=by
 cases l with
 | nil=>cases h
 | cons a t=>obtain ⟨b0,b1,b2,rfl⟩:=lenE3 (Nat.succ.inj h);exact ⟨a,b0,b1,b2,rfl⟩
theorem lenE5 {α:Type _}{l:List α} (h:l.length=5):∃ a0 a1 a2 a3 a4,l=[a0,a1,a2,a3,a4]:=by
 cases l with
 | nil=>cases h
 | cons a t=>obtain ⟨b0,b1,b2,b3,rfl⟩:=lenE4 (Nat.succ.inj h);exact ⟨a,b0,b1,b2,b3,rfl⟩
def laterS (u:DTS) (E:DEnds) (s:DS):Prop:=u E s
theorem Ztn {u:DTS}{E:DEnds}{s:DS} (h:u E s):laterS u E s:=h
theorem Zwo (c:DTT) (t u:DTS) (E:DEnds) (s:DS):dIfS c t u E s=c s λ b s1=>if b=true then laterS t E s1 else laterS u E s1:=rfl
theorem Zwp (t u:DTS) (E:DEnds) (s:DS):dSeq t u E s=t { E with nx:=laterS u E } s:=rfl
def later (f:DS->Prop) (s:DS):Prop:=f s
theorem Zr8 (f:DS->Prop) (e:List (Option Val)) (w:OW):later f ⟨e,w⟩=f ⟨e,w⟩:=rfl
def goB (dg:DTG) (v:Val) (db:DTS) (E:DEnds) (s:DS):Prop:=dg v s (db E)
theorem Zwv (dg:DTG) (v:Val) (db:DTS) (E:DEnds) (e:List (Option Val)) (w:OW):goB dg v db E ⟨e,w⟩=dg v ⟨e,w⟩ (db E):=rfl
def goW (c:DTT) (db:DTS) (E F:DEnds) (s:DS):Prop:=c s λ b s1=>if b=true then db F s1 else E.nx s1
theorem Zww (c:DTT) (db:DTS) (E F:DEnds) (e:List (Option Val)) (w:OW):goW c db E F ⟨e,w⟩=c ⟨e,w⟩ λ b s1=>if b=true then db F s1 else E.nx s1:=rfl
theorem iteTT {α:Sort _} (a b:α):(if true=true then a else b)=a:=rfl
theorem iteFF {α:Sort _} (a b:α):(if false=true then a else b)=b:=rfl
def dFor (di:DTI) (dg:DTG) (db:DTS):DTS:=λ E s=>di s λ src s1=>∃ I:Nat->DS->Prop,I 0 s1/\(∀ i s,I i s->src.2 s.w) /\
 (∀ (i:Nat) d s,src.1[i]? = some d->I i s->goB dg (.d d) db { E with nx:=I (i+1),ct:=I (i+1),bk:=E.nx } s)/\∀ s,I src.1.length s->later E.nx s
theorem Zde {wi:TI}{g:TG}{tb:TS}{di:DTI}{dg:DTG}{db:DTS} (hi:RI K wi di) (hg:RG K g dg) (hb:RS K tb db):RS K (tFor wi g tb) (dFor di dg db):=by
 intro G s σ H D E r p z
 refine hi.ok G s σ H _ r (hi.mo _ _ _ (λ src s1 z G1 H1 J e1 r1 hJ=>?_) z)
 obtain ⟨ds,P⟩:=src
 obtain ⟨I,h0,h3,h1,h2⟩:=z
 dsimp only at hJ h3 h1 h2
 refine ⟨λ i m σ H=>i+m=ds.length/\∃ G s,Same G1 G/\Rel K G s σ H/\I i s,⟨ds.length,zero_add _,G1,s1,Same.refl _,r1,h0⟩,?_⟩
 rintro i m σ H ⟨hm,G,s,e,r,hI⟩
 cases m with
 | zero=>
  have:i=ds.length:=by omega
  subst this
  exact .inl ⟨(hJ G s σ H _ e (h3 _ _ hI) r).2 (le_refl _),p.nx s G σ H (e1.trans e) r (h2 s hI)⟩
 | succ m=>
  have hlt:i<ds.length:=by omega
  have hd:=gEq hlt
  obtain ⟨go,yl⟩:=(hJ G s σ H i e (h3 _ _ hI) r).1 _ hd
  refine .inr ⟨go,λ σ' H'=>∃ G' s',Same G1 G'/\Rel K G' s' σ' H'/\I (i+1) s',λ σ' H' ⟨G',s',q⟩=>⟨m,lt_succ_self m,by omega,G',s',q⟩,λ x H' hy=>?_⟩
  obtain ⟨G',e',r',dx⟩:=yl x H' hy
  refine hg.ok G' s σ H' (.d _) x _ r' dx (hg.mo _ _ _ _ (λ s2 q G2 σ2 H2 e2 r2=>?_) (h1 i _ s hd hI))
  have E2:=(e.trans e').trans e2
  exact hb G2 s2 σ2 H2 _ { E with nx:=I (i+1),ct:=I (i+1),bk:=E.nx } r2 ⟨λ s' G3 σ3 H3 e3 r3 z=>⟨G3,s',E2.trans e3,r3,z⟩,λ v s' G3 σ3 H3 x e3=>p.rt v s' G3 σ3 H3 x ((e1.trans E2).trans e3),λ s' G3 σ3 H3 e3=>p.nx s' G3 σ3 H3 ((e1.trans E2).trans e3),λ s' G3 σ3 H3 e3 r3 z=>⟨G3,s',E2.trans e3,r3,z⟩⟩ q
def dWhile (c:DTT) (db:DTS):DTS:=λ E s=>∃ I:Nat->DS->Prop,(∃ m,I m s)/\∀ m s,I m s->goW c db E { E with nx:=λ s'=>∃ m',m' < m/\I m' s',ct:=λ s'=>∃ m',m' < m/\I m' s',bk:=E.nx } s
theorem Zw5 {c:TT}{tb:TS}{dc:DTT}{db:DTS} (hc:RT K c dc) (hb:RS K tb db):RS K (tWhile c tb) (dWhile dc db):=by
 intro G s σ H D E r p z
 obtain ⟨I,⟨m,h0⟩,h1⟩:=z
 refine ⟨λ m σ H=>∃ G' s',Same G G'/\Rel K G' s' σ H/\I m s',⟨m,G,s,Same.refl G,r,h0⟩,?_⟩
 rintro m σ H ⟨G1,s1,e1,r1,hI⟩
 refine hc.ok G1 s1 σ H _ r1 (hc.mo _ _ _ (λ b s2 z G2 H2 e2 r2=>?_) (h1 m s1 hI))
 cases b
 ·exact p.nx s2 G2 σ H2 (e1.trans e2) r2 z
 ·refine ⟨λ σ' H'=>∃ m',m' < m/\∃ G' s',Same G G'/\Rel K G' s' σ' H'/\I m' s',λ σ' H' q=>q,?_⟩
  have E2:=e1.trans e2
  exact hb G2 s2 σ H2 _ { E with nx:=λ s'=>∃ m',m' < m/\I m' s',ct:=λ s'=>∃ m',m' < m/\I m' s',bk:=E.nx } r2 ⟨λ s' G3 σ3 H3 e3 r3 ⟨m',hm,z⟩=>⟨m',hm,G3,s',E2.trans e3,r3,z⟩,λ v s' G3 σ3 H3 x e3=>p.rt v s' G3 σ3 H3 x (E2.trans e3),λ s' G3 σ3 H3 e3=>p.nx s' G3 σ3 H3 (E2.trans e3),λ s' G3 σ3 H3 e3 r3 ⟨m',hm,z⟩=>⟨m',hm,G3,s',E2.trans e3,r3,z⟩⟩ z
abbrev DSp:=List Val->OW->(Val->OW->Prop)->Prop
def spD (K:PySem.W.Frag) (f:DSp):Sp:=λ vs H Q _=>∃ (G:Hp) (w:OW) (as:List Val),Same G H/\OwnOk K G w H/\VRs K G as vs/\f as w (λ v w'=>∀ G' H' x,Same G G'->Same G' H'->OwnOk K G' w' H'->VR K G' v x->Q x H')
def dCall (f:DSp) (da:DTA):DTE:=λ s k=>da s λ vs s1=>f vs s1.w (λ v w'=>k v ⟨s1.e,w'⟩)
def MoS (f:DSp):Prop:=∀ vs w (k k':Val->OW->Prop),(∀ v w',k v w'->k' v w')->f vs w k->f vs w k'
theorem Zak {f:DSp}{t:TA}{da:DTA} (hm:MoS f) (ha:RA K t da):RE K (tCall (spD K f) [] E0 t) (dCall f da):=by
 refine ⟨λ s Q Q' z q=>ha.mo _ _ _ (λ vs s1 q=>hm vs s1.w _ _ (λ v w' q=>z _ _ q) q) q,λ G s σ H Q r q=>ha.ok G s σ H _ r (ha.mo _ _ _ (λ vs s1 q G1 H1 xs e1 r1 v1=>?_) q)⟩
 refine ⟨G1,s1.w,vs,r1.sub,r1.own,by rw [append_nil];exact v1,hm vs s1.w _ _ (λ v w' q G2 H2 x e2 s2 o2 x2=>?_) q⟩
 exact q G2 H2 x (e1.trans e2) ⟨s2,o2,r1.sl.same e2⟩ x2
theorem VRs.get {vs:List Val}{xs:List V} (h:VRs K G vs xs) (i:Nat):(∃ v x,vs[i]? = some v/\xs[i]? = some x/\VR K G v x) \/ (vs[i]? = none/\xs[i]? = none):=by
 induction h generalizing i with
 | nil=>exact .inr ⟨rfl,rfl⟩
 | cons a t ih=>
  cases i with
  | zero=>exact .inl ⟨_,_,rfl,rfl,a⟩
  | succ i=>simpa using ih i
theorem VRs.pick {na nk:Nat}{pick:List (Bool × Nat)}{vs us:List Val}{xs ys:List V} (h:VRs K G vs xs) (q:VRs K G us ys):VRs K G (gaP na nk pick vs us) (gaP na nk pick xs ys):=by
 unfold gaP
 rw [h.length,q.length]
 split
 ·induction pick with
  | nil=>exact .nil
  | cons p t ih=>
   rw [filterMap_cons,filterMap_cons]
   cases p.1 with
   | true=>
    rcases h.get p.2 with ⟨a,b,e1,e2,z⟩|⟨e1,e2⟩
    ·simp only [if_true,e1,e2];exact .cons z ih
    ·simp only [if_true,e1,e2];exact ih
   | false=>
    rcases q.get p.2 with ⟨a,b,e1,e2,z⟩|⟨e1,e2⟩
    ·simp only [false_eq_true,if_false,e1,e2];exact .cons z ih
    ·simp only [false_eq_true,if_false,e1,e2];exact ih
 ·exact .nil
def dCallK (f:DSp) (na nk:Nat) (pick:List (Bool × Nat)) (da dk:DTA):DTE:=λ s k=>da s λ vs s1=>dk s1 λ us s2=>f (gaP na nk pick vs us) s2.w (λ v w'=>k v ⟨s2.e,w'⟩)
theorem Zrk {f:DSp}{na nk:Nat}{pick:List (Bool × Nat)}{t tk:TA}{da dk:DTA} (hm:MoS f) (ha:RA K t da) (hk:RA K tk dk):RE K (tCallK (spD K f) (gaP na nk pick) E0 t tk) (dCallK f na nk pick da dk):=by
 refine ⟨λ s Q Q' z q=>ha.mo _ _ _ (λ vs s1 q=>hk.mo _ _ _ (λ us s2 q=>hm _ s2.w _ _ (λ v w' q=>z _ _ q) q) q) q,λ G s σ H Q r q=>ha.ok G s σ H _ r (ha.mo _ _ _ (λ vs s1 q G1 H1 xs e1 r1 v1=>?_) q)⟩
 refine hk.ok G1 s1 σ H1 _ r1 (hk.mo _ _ _ (λ us s2 q G2 H2 ys e2 r2 v2=>?_) q)
 refine ⟨G2,s2.w,_,r2.sub,r2.own,(v1.same e2).pick v2,hm _ s2.w _ _ (λ v w' q G3 H3 x e3 s3 o3 x3=>?_) q⟩
 exact q G3 H3 x ((e1.trans e2).trans e3) ⟨s3,o3,r2.sl.same e3⟩ x3
def startD (N:List Str) (as:List Val):List (Option Val):=as.map some++List.replicate (N.length-as.length) none
theorem Znw {N:List Str}{as:List Val}{vs:List V} (h:VRs K G as vs):SL K G (startD N as) (start N vs):=by
 refine ⟨by simp [startD,start,h.length],λ i v e=>?_⟩
 unfold startD at e
 have hl:i<as.length:=by
  refine Decidable.byContradiction λ hn=>?_
  rw [List.getElem?_append_right (by simpa using Nat.le_of_not_lt hn)] at e
  obtain ⟨_,e2⟩:=List.getElem?_eq_some_iff.mp e
  rw [List.getElem_replicate] at e2
  cases e2
 rw [getElem?_append_left (by simpa using hl),getElem?_map] at e
 rcases h.get i with ⟨a,x,e1,e2,r⟩|⟨e1,e2⟩
 ·rw [e1] at e
  cases e
  refine ⟨x,?_,r⟩
  unfold start
  rw [getElem?_append_left (by rw [lmp,<- h.length];exact hl),getElem?_map,e2];rfl
 ·rw [e1] at e;cases e
def Own.up:Own->Own->Prop
 | .urn m',.urn m=>m'≤m
 | o',o=>o' = o
theorem Own.up.refl (o:Own):Own.up o o:=by cases o <;> simp [Own.up]
theorem Own.up.trans {a b c:Own} (h:Own.up a b) (q:Own.up b c):Own.up a c:=by
 cases a <;> cases b <;> cases c <;> simp_all [Own.up]
 omega
def OW.le (w w':OW):Prop:=∀ a o,w a=some o->∃ o',w' a=some o'/\Own.up o' o
theorem OW.le.refl (w:OW):w.le w:=λ _ o h=>⟨o,h,Own.up.refl o⟩
theorem OW.le.trans {a b c:OW} (h:a.le b) (q:b.le c):a.le c:=λ x o e=>by
 obtain ⟨o1,e1,u1⟩:=h x o e
 obtain ⟨o2,e2,u2⟩:=q x o1 e1
 exact ⟨o2,e2,u2.trans u1⟩
theorem OW.le.free {w w':OW} (h:w.le w') {p:Addr} (q:w' p=none):w p=none:=by
 cases e:w p with
 | none=>rfl
 | some o=>obtain ⟨o',e1,_⟩:=h p o e;rw [e1] at q;cases q
theorem OW.le.put {w w':OW} (h:w.le w') {p:Addr} (q:w p=none) (o:Own):w.le (w'.put p o):=λ a u e=>by
 have n:a≠p:=λ z=>by rw [z,q] at e;cases e
 rw [OW.put_ne n];exact h a u e
theorem OW.le.new {w w':OW} (h:w.le w') {p:Addr} (q:w' p=none) (o:Own):w.le (w'.put p o):=h.put (h.free q) o
theorem OW.le.urn {w w':OW}{u:Addr}{m m':Nat} (h:(w.put u (.urn m)).le w') (le:m≤m'):(w.put u (.urn m')).le w':=λ a o e=>by
 by_cases z:a=u
 ·subst z
  rw [OW.put_same] at e;cases e
  obtain ⟨o1,e1,u1⟩:=h a _ OW.put_same
  refine ⟨o1,e1,?_⟩
  cases o1 <;> simp [Own.up] at u1 |-
  omega
 ·rw [OW.put_ne z] at e
  exact h a o (by rw [OW.put_ne z];exact e)
theorem OW.le.urn' {w w':OW}{u:Addr}{m m':Nat} (h:w.le w') (le:m≤m'):(w.put u (.urn m')).le (w'.put u (.urn m)):=λ a o e=>by
 by_cases z:a=u
 ·subst z
  rw [OW.put_same] at e;cases e
  exact ⟨_,OW.put_same,le⟩
 ·rw [OW.put_ne z] at e |-
  exact h a o e
def OW.del (w:OW) (a:Addr):OW:=λ b=>if b=a then none else w b
theorem OW.del_ne {w:OW}{a b:Addr} (h:b≠a):w.del a b=w b:=by simp [OW.del,h]
theorem OW.le.del {w w':OW} (h:w.le w') {p:Addr} (q:w p=none):w.le (w'.del p):=λ a u e=>by
 have n:a≠p:=λ z=>by rw [z,q] at e;cases e
 rw [OW.del_ne n];exact h a u e
theorem OwnAt.up {a:Addr}{o o':Own} (h:OwnAt K G H a o') (u:Own.up o' o):OwnAt K G H a o:=by
 cases o' <;> cases o <;> simp only [Own.up] at u <;> first|exact Urn.mono h u|(cases u;exact h)|cases u
theorem OwnOk.le {w w':OW} (h:OwnOk K G w' H) (q:w.le w'):OwnOk K G w H:=λ a o e=>by
 obtain ⟨o',e1,u⟩:=q a o e
 exact ⟨(h a o' e1).1,(h a o' e1).2.up u⟩
theorem Dn.data {P:Program}{w:World}{mg:Str->Option Value}{base:Heap}{x:Str}{st:Stmt}{N ps:List Str}{k:Nat}{f:DSp} (U:∃ a fd,Fun K x x st a fd/\mg x=some (.ref a)) (S:FnScope N ps (defScope st)) (len:∀ vs w k,f vs w k->vs.length=ps.length)
  (hbody:∀ (a:Addr) (cdv:Value) (A:Around) (outer:List Env) (s:Shared) (H:Hp) (E:XK),Room k (A.deeper (envOfC x (defScope st) s.heap.objs.size a cdv)) ->
   ∃ t d,PSs (cxOf CX0 P w K mg base N x (defScope st) a cdv A outer s H E).nox (defBody st) t/\RS K t d/\∀ (as:List Val) (o:OW) (q:Val->OW->Prop),f as o q->d { nx:=λ s=>∃ w',OW.le w' s.w/\q (.d .none) w',rt:=λ v s=>∃ w',OW.le w' s.w/\q v w' } ⟨startD N as,o⟩):Dn P w K mg base (k+1) x st ps (spD K f):=by
 refine Dn.of U S (λ vs H Q E h=>?_) (λ a cdv A outer s H vs Q E hr h=>?_)
 ·obtain ⟨G,o,as,_,_,h1,h2⟩:=h
  rw [<- h1.length];exact len _ _ _ h2
 ·obtain ⟨G,o,as,h1,h2,h3,h4⟩:=h
  obtain ⟨t,d,q1,q2,q3⟩:=hbody a cdv A outer s H E hr
  refine ⟨t,q1,q2 G ⟨startD N as,o⟩ (start N vs) H _ { nx:=λ s=>∃ w',OW.le w' s.w/\_,rt:=λ v s=>∃ w',OW.le w' s.w/\_ } ⟨h1,h2,Znw h3⟩ ⟨λ s' G' σ' H' e r z=>?_,λ v s' G' σ' H' x e r v1 z=>?_,λ _ _ _ _ _ _ z=>False.elim z,λ _ _ _ _ _ _ z=>False.elim z⟩ (q3 as o _ h4)⟩
  ·obtain ⟨w',l,z⟩:=z
   exact z G' H' .non e r.sub (r.own.le l) Zpk
  ·obtain ⟨w',l,z⟩:=z
   exact z G' H' x e r.sub (r.own.le l) v1
end
end L2
namespace L2
open PySem PySem.Spec PyProof.Rows
section
variable {X:Cx}{K:PySem.W.Frag}{G G' H H':Hp}{s:DS}{σ:St}
def TyW (K:PySem.W.Frag) (H:Hp) (x:V) (t:Value):Prop:=TyOf K H x t \/ ∃ a ys,x = .ref a/\SqT K H a ys/\t = .type "tuple"
theorem Zff:CallR X (.builtin "isinstance") (λ xs H Q=>∃ x t c b,xs=[x,.ty c]/\TyW X.K H x t/\PySem.W.kitOne X.K t (.type c)=some b/\Q (.bl b) H):=by
 rintro pins s σ H xs us Q I r ⟨x,t,c,b,rfl,ty,e,q⟩
 rcases ty with ty|⟨a,ys,rfl,hs,rfl⟩
 ·exact Zv2 pins s σ H _ us Q I r ⟨x,t,c,b,rfl,ty,e,q⟩
 ·obtain ⟨u,w,rfl,rx,rc⟩:=vals2 r
  cases (show w=Value.type c from rc)
  cases (show u=Value.ref a from rx)
  obtain ⟨its,_,⟨o,h1,h2,_⟩,_⟩:=I.tuple hs
  exact kia_one PySem.W.kitx_tuple I.kIn ⟨o,h1,h2⟩ e (λ z=>nomatch z) λ tk=>⟨.bl b,H,I.tok _,rfl,q⟩
theorem Zsv (h:X.K=K):CallR X (.builtin "isinstance") (λ xs H Q=>∃ x t c b,xs=[x,.ty c]/\TyW K H x t/\PySem.W.kitOne K t (.type c)=some b/\Q (.bl b) H):=h▸Zff
theorem Yac (r:Rel K G s σ H) {v:Val}{x:V}{d:PyData} (q:VR K G v x) (e:rdD s.w v=some d):TyW K H x (.type (tyN d)):=by
 unfold rdD at e
 split at e
 ·cases e
  cases d with
  | none=>rw [show x = .non from by unfold VR at q;exact DW.none_inv q];exact .inl .non
  | bool b=>rw [Zo4 q];exact .inl (.bl b)
  | int i=>rw [Zdg q];exact .inl (.int i)
  | str x=>rw [Zmx q];exact .inl (.str x)
  | list ds=>obtain ⟨a,xs,rfl,h1,_⟩:=Zmw q;exact .inl (.lst (r.sub _ _ h1))
  | tuple ds=>obtain ⟨a,xs,rfl,h1,_⟩:=Zmy q;exact .inr ⟨a,xs,rfl,r.sub.tup h1,rfl⟩
  | dict kvs=>
   unfold VR DW at q
   obtain ⟨a,ks,rfl,h1,_⟩:=q
   exact .inl (.dT (r.sub _ _ h1))
 ·next a=>
  split at e
  ·next z=>
   cases e
   cases (show x = .ref a from q)
   obtain ⟨_,xs,h1,_⟩:=r.own a _ z
   exact .inl (.lst h1)
  ·cases e
 ·cases e
theorem Zju:RC K (λ xs H Q=>∃ x t c b,xs=[x,.ty c]/\TyW K H x t/\PySem.W.kitOne K t (.type c)=some b/\Q (.bl b) H) (f2 fIsi):=by
 refine rc2 (λ v w s Q Q' h q=>?_) (λ G s σ H x y v w Q r v1 v2 h=>?_)
 ·unfold fIsi at q |-;split at q
  ·obtain ⟨b,h1,h2⟩:=q;exact ⟨b,h1,h _ _ h2⟩
  ·exact q.elim
 ·unfold fIsi at h;split at h
  ·next d c e=>
   obtain ⟨b,h1,h2⟩:=h
   cases (show y = .ty c from v2)
   exact ⟨x,_,c,b,rfl,Yac r v1 e,h1 K,h2.here r Zhf⟩
  ·exact h.elim
theorem Zuu (r:Rel K G s σ H) {a:Addr}{ds:List PyData} (h:s.w a=some (.lst ds)):tyV K "list" (.ref a) H:=by
 obtain ⟨_,xs,h1,_⟩:=r.own a _ h
 exact .inl ⟨rfl,xs,SqL.of h1⟩
def dApp (d:DTE) (da:DTA):DTE:=λ s k=>d s λ v s1=>match v with
 | .own a=>(∃ ds,s1.w a=some (.lst ds))/\da s1 λ vs s2=>match vs with
  | [.d y]=>∃ ds,s2.w a=some (.lst ds)/\ds.length<sizeLine/\k (.d .none) (s2.put a (.lst (ds++[y])))
  | _=>False
 | _=>False
theorem Zec {to:TE}{t:TA}{d:DTE}{da:DTA} (h:RE K to d) (ha:RA K t da):RE K (tBM K "list" rAppend to t) (dApp d da):=by
 refine ⟨λ s Q Q' z q=>h.mo _ _ _ (λ v s1 q=>?_) q,λ G s σ H Q r q=>h.ok G s σ H _ r (h.mo _ _ _ (λ v s1 q G1 H1 x e1 r1 v1=>?_) q)⟩
 ·split at q
  ·refine ⟨q.1,ha.mo _ _ _ (λ vs s2 q=>?_) q.2⟩
   split at q
   ·obtain ⟨ds,h1,h2,h3⟩:=q;exact ⟨ds,h1,h2,z _ _ h3⟩
   ·exact q.elim
  ·exact q.elim
 ·split at q
  ·next a=>
   cases (show x = .ref a from v1)
   obtain ⟨⟨ds0,h0⟩,q⟩:=q
   refine ⟨Zuu r1 h0,ha.ok G1 s1 σ H1 _ r1 (ha.mo _ _ _ (λ vs s2 q G2 H2 xs e2 r2 v2=>?_) q)⟩
   split at q
   ·next y=>
    obtain ⟨u,rfl,vy⟩:=v2.one
    obtain ⟨ds,h1,h2,h3⟩:=q
    obtain ⟨_,ys,h4,h5⟩:=r2.own a _ h1
    refine ⟨a,ys,u,rfl,rfl,h4,by rw [<- h5.length];exact h2,h3 G2 _ .non (e1.trans e2) (r2.chg h1 ?_) Zpk⟩
    exact ⟨ys++[u],Zbw,h5.snoc vy⟩
   ·exact q.elim
  ·exact q.elim
def dExt (d:DTE) (da:DTA):DTE:=λ s k=>d s λ v s1=>match v with
 | .own a=>(∃ ds,s1.w a=some (.lst ds))/\da s1 λ vs s2=>match vs with
  | [u]=>∃ ds es,s2.w a=some (.lst ds)/\rdM s2.w u=some es/\ds.length+es.length≤sizeLine/\k (.d .none) (s2.put a (.lst (ds++es)))
  | _=>False
 | _=>False
theorem Ya2 {to:TE}{t:TA}{d:DTE}{da:DTA} (h:RE K to d) (ha:RA K t da):RE K (tBM K "list" rExtend to t) (dExt d da):=by
 refine ⟨λ s Q Q' z q=>h.mo _ _ _ (λ v s1 q=>?_) q,λ G s σ H Q r q=>h.ok G s σ H _ r (h.mo _ _ _ (λ v s1 q G1 H1 x e1 r1 v1=>?_) q)⟩
 ·split at q
  ·refine ⟨q.1,ha.mo _ _ _ (λ vs s2 q=>?_) q.2⟩
   split at q
   ·obtain ⟨ds,es,h1,h2,h3,h4⟩:=q;exact ⟨ds,es,h1,h2,h3,z _ _ h4⟩
   ·exact q.elim
  ·exact q.elim
 ·split at q
  ·next a=>
   cases (show x = .ref a from v1)
   obtain ⟨⟨ds0,h0⟩,q⟩:=q
   refine ⟨Zuu r1 h0,ha.ok G1 s1 σ H1 _ r1 (ha.mo _ _ _ (λ vs s2 q G2 H2 xs e2 r2 v2=>?_) q)⟩
   split at q
   ·next y=>
    obtain ⟨u,rfl,vy⟩:=v2.one
    obtain ⟨ds,es,h1,h2,h3,h6⟩:=q
    obtain ⟨_,ys,h4,h5⟩:=r2.own a _ h1
    obtain ⟨b,zs,rfl,h7,h8⟩:=r2.rdM vy h2
    refine ⟨a,b,ys,zs,rfl,rfl,h4,h7,by rw [<- h5.length,<- h8.length];exact h3,h6 G2 _ .non (e1.trans e2) (r2.chg h1 ?_) Zpk⟩
    exact ⟨ys++zs,Zbw,h5.append h8⟩
   ·exact q.elim
  ·exact q.elim
theorem Zv6:fillsInplaceSlot (.type "list") "add" (Operator.Add == .Add)=pure false:=by
 unfold fillsInplaceSlot
 show (typeLookup (.type "list") (dunderI "add") >>= λ fi=>pure (fi.isSome && !isSeqSlot fi))=pure false
 rw [slot_list_iadd.lookup]
 rw [pure_bind]
 have e:((some (Value.builtin "list.__iadd__")).isSome && !isSeqSlot (some (Value.builtin "list.__iadd__")))=false:=by decide +kernel
 rw [e]
theorem Zlv {M:Model}{A:Around}{E:Value->Shared->Prop}{s:Shared}{a b:Value}{Q:Value->Shared->Prop} (ha:s.TypeIs a "list") (hb:s.TypeIs b "list") (hc:wpAny M A (call (.builtin "list.__iadd__") [a,b]) Q E s):wpAny M A (inplaceOp .Add a b) Q E s:=by
 unfold inplaceOp
 refine wpAny_holding ?_
 refine wpAny_bind (wpAny_typeOf ha (wpAny_bind (wpAny_of_eq Zv6 ?_)))
 show wpAny M A (if false=true then _ else _) Q E s
 rw [if_neg Bool.false_ne_true]
 refine wpAny_bind (wpAny_binaryOp1_none (nm:="add") ha hb noFill_list_add ?_)
 refine wpAny_bind (wpAny_of_eq (PySem.seqSlot_of slot_list_iadd.lookup (by decide +kernel)) ?_)
 exact wpAny_bind (wpAny_rule hc)
def ipL:TIp:=λ x y H Q=>∃ l b xs zs,x = .ref l/\y = .ref b/\H l=some (.lst xs)/\H b=some (.lst zs)/\xs.length+zs.length≤sizeLine/\Q (.ref l) (upd H l (.lst (xs++zs)))
theorem Zxi:PIp X .Add ipL:=by
 intro pins s σ H x y v u Q I rx ry h
 obtain ⟨l,b,xs,zs,rfl,rfl,hH,hB,hz,q⟩:=h
 cases (show v=Value.ref l from rx)
 cases (show u=Value.ref b from ry)
 obtain ⟨z,its,n,r,hl,e⟩:=I.lstM hH
 obtain ⟨z2,its2,n2,r2,hl2,e2⟩:=I.lstM hB
 have hsz:its.toArray.size+its2.toArray.size≤sizeLine:=by rw [size_toArray,size_toArray];omega
 have hlong:¬ (!its.toArray.isEmpty && Builtin.List.listTooLong (its.toArray.size+its2.toArray.size))=true:=by
  rw [notLongL hsz,Bool.and_false]
  exact Bool.false_ne_true
 refine Zlv ⟨_,e,rfl⟩ ⟨_,e2,rfl⟩ ?_
 refine call_meets slot_list_iadd ⟨_,e,rfl⟩ PySem.F.entry_list_iadd (PySem.F.args_list_iadd_2 _ _)
  (AutoSeq1.list___iadd___list_list_0 l its.toArray n b its2.toArray n2 hlong (by rw [size_toArray];omega) (by omega)) ⟨e,e2,?_⟩
 refine ⟨.ref l,_,I.lset (its':=its++its2) hH e (by simp) (r.append r2) ?_,rfl,q⟩
 rw [length_append]
 omega
def dAugL (i:Nat) (d:DTE):DTS:=λ E s=>match s.e[i]? with
 | some (some (.own a))=>d s λ v s1=>∃ ds es,s1.w a=some (.lst ds)/\rdM s1.w v=some es/\ds.length+es.length≤sizeLine/\E.nx ((s1.put a (.lst (ds++es))).set i (.own a))
 | _=>False
theorem Zyg {i:Nat}{te:TE}{d:DTE} (h:RE K te d):RS K (tAug i te ipL) (dAugL i d):=by
 intro G s σ H D E r p q
 unfold dAugL at q
 split at q
 ·next a z=>
  obtain ⟨x,hx,vx⟩:=r.sl.2 i _ z
  cases (show x = .ref a from vx)
  refine ⟨_,hx,h.ok G s σ H _ r (h.mo _ _ _ (λ v s1 q G1 H1 y e1 r1 v1=>?_) q)⟩
  obtain ⟨ds,es,h1,h2,h3,h6⟩:=q
  obtain ⟨_,ys,h4,h5⟩:=r1.own a _ h1
  obtain ⟨b,zs,rfl,h7,h8⟩:=r1.rdM v1 h2
  refine ⟨a,b,ys,zs,rfl,rfl,h4,h7,by rw [<- h5.length,<- h8.length];exact h3,p.nx _ G1 _ _ e1 ((r1.chg h1 (u:=.lst (ds++es)) ?_).set (v:=.own a) rfl i) h6⟩
  exact ⟨ys++zs,Zbw,h5.append h8⟩
 ·exact q.elim
def dAugI (f:Int->Int->Int) (i:Nat) (d:DTE):DTS:=λ E s=>match s.e[i]? with
 | some (some (.d (.int a)))=>d s λ v s1=>match v with | .d (.int b)=>E.nx (s1.set i (.d (.int (f a b))))|_=>False
 | _=>False
def dFrz (i:Nat):DTE:=λ s k=>match s.e[i]? with
 | some (some (.own a))=>∃ ds,s.w a=some (.lst ds)/\k (.d (.list ds)) ⟨s.e.set i (some (.d (.list ds))),s.w.del a⟩
 | _=>False
theorem Zin {α:Type}{l:List α}{i:Nat}{x:α} (h:l[i]? = some x):l.set i x=l:=by
 obtain ⟨hi,e⟩:=List.getElem?_eq_some_iff.mp h
 rw [<- e];exact List.set_getElem_self hi
theorem Zpc (i:Nat):RE K (tVar i) (dFrz i):=by
 refine ⟨λ s Q Q' h q=>?_,λ G s σ H Q r h=>?_⟩
 ·unfold dFrz at q |-;split at q
  ·obtain ⟨ds,h1,h2⟩:=q;exact ⟨ds,h1,h _ _ h2⟩
  ·exact q.elim
 ·unfold dFrz at h;split at h
  ·next a z=>
   obtain ⟨ds,h1,h2⟩:=h
   obtain ⟨x,hx,vx⟩:=r.sl.2 i _ z
   cases (show x = .ref a from vx)
   obtain ⟨g0,xs,h3,h4⟩:=r.own a _ h1
   have S:=Zdb g0 (.lst xs)
   have D:DW K (upd G a (.lst xs)) (.list ds) (.ref a):=DW.list Zbw (h4.same S)
   refine ⟨_,hx,h2 (upd G a (.lst xs)) H (.ref a) S ⟨λ b o q=>?_,λ b o q=>?_,?_⟩ D⟩
   ·by_cases e:b=a
    ·subst e;rw [Zbw] at q;cases q;exact h3
    ·rw [Zbk e] at q;exact r.sub _ _ q
   ·have nb:b≠a:=λ e=>by
     have q':(if b=a then none else s.w b)=some o:=q
     rw [if_pos e] at q';cases q'
    have q':s.w b=some o:=by
     have q':(if b=a then none else s.w b)=some o:=q
     rwa [if_neg nb] at q'
    exact ⟨by rw [Zbk nb];exact (r.own b o q').1,(r.own b o q').2.mono S rfl⟩
   ·have:=(r.sl.same S).set (v:=.d (.list ds)) (x:=.ref a) D i
    rwa [Zin hx] at this
  ·exact h.elim
theorem Zs8 {c:Expr}{body:List Stmt}{tc:TT}{tb:TS}{pos:Pos} (hp:PassesOwn (model X.prog X.w) X.A X.env X.xe) (hc:IPT X c tc) (hb:IPSs X body tb):IPS X (.While c body [] pos) (tWhile tc tb):=by
 simp only [Zb7,Zb8,Zaw] at *
 exact Zvv hp hc hb
theorem Zs7 {pos:Pos}:IPS X (.Break pos) tBreak:=by rw [Zb8];exact Zvu
theorem Zva {i:Nat}{x:Str}{e:Expr}{te:TE}{op:Operator}{ti:TIp}{pos pos':Pos} (hN:X.N.Nodup) (hi:X.N[i]? = some x) (hx:Loc X.env.scope x) (he:IPE X e te) (ho:PIp X op ti) (hf:X.fn x=true \/ X.env.scope.names.lookup x=some .local:=by first|exact .inl rfl|exact .inr rfl|assumption) :
  IPS X (.AugAssign (.Name x pos') op e pos) (tAug i te ti):=by
 rw [Zb8];rw [Zb4] at he
 exact Zzp hN hi hx he ho hf
theorem Zs9 {a:Expr}{ta:TE} (ha:IPE X a ta) (he:∀ whole,isTrue a X.env whole=(do let v <- whole;standAt a.pos;holding [v] (truthy v)):=by intro _;rfl) :
  IPT X a (λ σ H Q=>ta σ H λ x H'=>∃ k,TruV X.K x H' k/\Q k H'):=by
 rw [Zb7];rw [Zb4] at ha
 exact Zvy ha he
theorem Zc4 {es:List Expr}{k:Nat}{t:TGs}{n:Nat}{pos:Pos} (h:X.K=K) (hc:X.calm=true) (hh:IPGs X es t) (hn:(assignEach es X.env).length=n:=by rfl) (hst:(assignEach es X.env).findIdx? (·.1)=none:=by rfl):IPG X (.Tuple es k pos) (gTup K n t):=h▸Zcj hc hh hn hst
theorem Zrz (h:X.K=K) (t:Bool) (hc:X.calm=true):CallR X (.builtin "max") (λ xs H Q=>∃ (a:Addr) (ns:List Int),xs=[.ref a]/\SqB K t H a (ns.map V.int)/\ns≠[]/\∀ m,m∈ns->(∀ x∈ns,x≤m)->Q (.int m) H):=h▸Zfy t hc
def gMax (t:Bool):Val->DTE:=λ v s k=>match (if t then rdT v else rdL s.w v) with|some ds=>(match uIs ds with|some ns=>ns≠[]/\∀ m,m∈ns->(∀ x∈ns,x≤m)->k (.d (.int m)) s|none=>False)|none=>False
def gMin (t:Bool):Val->DTE:=λ v s k=>match (if t then rdT v else rdL s.w v) with|some ds=>(match uIs ds with|some ns=>ns≠[]/\∀ m,m∈ns->(∀ x∈ns,m≤x)->k (.d (.int m)) s|none=>False)|none=>False
theorem Ya0 (r:Rel K G s σ H) {t:Bool}{v:Val}{x:V}{ds:List PyData} (q:VR K G v x) (h:(if t then rdT v else rdL s.w v)=some ds):∃ a xs,x = .ref a/\SqB K t H a xs/\DWs K G ds xs:=by
 cases t
 ·exact r.rdL q h
 ·exact r.rdT q h
theorem Zjk (t:Bool):RC K (λ xs H Q=>∃ (a:Addr) (ns:List Int),xs=[.ref a]/\SqB K t H a (ns.map V.int)/\ns≠[]/\∀ m,m∈ns->(∀ x∈ns,x≤m)->Q (.int m) H) (f1 (gMax t)):=by
 refine rc1 (λ v s Q Q' h q=>?_) (λ G s σ H x v Q r v1 h=>?_)
 ·unfold gMax at q |-;split at q
  ·split at q
   ·exact ⟨q.1,λ m a b=>h _ _ (q.2 m a b)⟩
   ·exact q.elim
  ·exact q.elim
 ·unfold gMax at h;split at h
  ·next ds e=>
   split at h
   ·next ns z=>
    obtain ⟨a,xs,rfl,h1,h2⟩:=Ya0 r v1 e
    rw [Zls z] at h2
    rw [h2.ints_inv] at h1
    exact ⟨a,ns,rfl,h1,h.1,λ m a b=>(h.2 m a b).here r Zfb⟩
   ·exact h.elim
  ·exact h.elim
theorem Zqi (t:Bool):RC K (λ xs H Q=>∃ (a:Addr) (ns:List Int),xs=[.ref a]/\SqB K t H a (ns.map V.int)/\ns≠[]/\∀ m,m∈ns->(∀ x∈ns,m≤x)->Q (.int m) H) (f1 (gMin t)):=by
 refine rc1 (λ v s Q Q' h q=>?_) (λ G s σ H x v Q r v1 h=>?_)
 ·unfold gMin at q |-;split at q
  ·split at q
   ·exact ⟨q.1,λ m a b=>h _ _ (q.2 m a b)⟩
   ·exact q.elim
  ·exact q.elim
 ·unfold gMin at h;split at h
  ·next ds e=>
   split at h
   ·next ns z=>
    obtain ⟨a,xs,rfl,h1,h2⟩:=Ya0 r v1 e
    rw [Zls z] at h2
    rw [h2.ints_inv] at h1
    exact ⟨a,ns,rfl,h1,h.1,λ m a b=>(h.2 m a b).here r Zfb⟩
   ·exact h.elim
  ·exact h.elim
def gInt1:Val->DTE:=λ v s k=>match v with | .d (.int i)=>k (.d (.int i)) s | .d (.bool b)=>k (.d (.int (if b then 1 else 0))) s|_=>False
theorem Zqh:RC K (λ xs H Q=>(∃ i,xs=[.int i]/\Q (.int i) H) \/ ∃ k,xs=[.bl k]/\Q (.int (if k then 1 else 0)) H) (f1 gInt1):=by
 refine rc1 (λ v s Q Q' h q=>?_) (λ G s σ H x v Q r v1 h=>?_)
 ·unfold gInt1 at q |-;split at q
  ·exact h _ _ q
  ·exact h _ _ q
  ·exact q.elim
 ·unfold gInt1 at h;split at h
  ·next i=>exact .inl ⟨i,by rw [Zdg v1],h.here r Zfb⟩
  ·next b=>exact .inr ⟨b,by rw [Zo4 v1],h.here r Zfb⟩
  ·exact h.elim
def pureS (P:List Val->PyData->Prop):DSp:=λ vs w k=>∃ r,P vs r/\k (.d r) w
theorem Zcd {P:List Val->PyData->Prop}:MoS (pureS P):=λ vs w k k' h ⟨r,p,q⟩=>⟨r,p,h _ _ q⟩
def urnS (c:Nat) (P:List Val->Prop) (R:List Val->PyData->Prop):DSp:=λ vs w k=>match vs with
 | .own u::as=>∃ m,w u=some (.urn m)/\(m+c≤1000000/\P as)/\∀ r,R as r->k (.d r) (w.put u (.urn (m+c)))
 | _=>False
theorem Ze2 {c:Nat}{P:List Val->Prop}{R:List Val->PyData->Prop}:MoS (urnS c P R):=λ vs w k k' h q=>by
 unfold urnS at q |-;split at q
 ·obtain ⟨m,h1,h2,h3⟩:=q;exact ⟨m,h1,h2,λ r hr=>h _ _ (h3 r hr)⟩
 ·exact q.elim
theorem Zce {P:List Val->PyData->Prop}{n:Nat} (h:∀ vs r,P vs r->vs.length=n):∀ vs w k,pureS P vs w k->vs.length=n:=λ vs w k ⟨r,p,_⟩=>h vs r p
theorem Zex {c:Nat}{P:List Val->Prop}{R:List Val->PyData->Prop}{n:Nat} (h:∀ vs,P vs->vs.length=n):∀ vs w k,urnS c P R vs w k->vs.length=n+1:=λ vs w k q=>by
 unfold urnS at q;split at q
 ·obtain ⟨m,_,⟨_,p⟩,_⟩:=q;simp [h _ p]
 ·exact q.elim
def spLaw (K:PySem.W.Frag):Sp:=λ vs H Q _=>∃ (a:Addr) (ns:List Int),vs=[.ref a]/\SqL K H a (ns.map V.int)/\ns.length≤63/\∀ H',Q (.bl true) H'
theorem Zve {P:Program}{w:World}{mg:Str->Option Value}{base:Heap}{st:Stmt}{N:List Str}{fa:Addr}{fd:FuncData} (F:Fun K "law" "law" st fa fd) (S:FnScope N ["_law_script"] (defScope st))
  (hbody:∀ (cdv:Value) (A:Around) (outer:List Env) (s:Shared) (H:Hp) (E:XK),Room 39 (A.deeper (envOfC "law" (defScope st) s.heap.objs.size fa cdv)) ->
   ∃ t d,PSs (cxOf CX0 P w K mg base N "law" (defScope st) fa cdv A outer s H E).nox (defBody st) t/\RS K t d/\∀ ns:List Int,ns.length≤63->d { nx:=λ _=>False,rt:=λ v _=>v = .d (.bool true) } ⟨startD N [.scr ns],λ _=>none⟩):FnOk P w K mg base CX0 40 fa fd ["_law_script"] (spLaw K):=by
 refine F.ok (k:=39) S (λ vs H Q E h=>?_) (λ cdv A outer s H vs Q E hr h=>?_)
 ·obtain ⟨a,ns,rfl,_⟩:=h;rfl
 ·obtain ⟨a,ns,rfl,hS,h63,q⟩:=h
  obtain ⟨t,d,q1,q2,q3⟩:=hbody cdv A outer s H E hr
  refine ⟨t,q1,q2 H ⟨startD N [.scr ns],λ _=>none⟩ (start N [.ref a]) H _ { nx:=λ _=>False,rt:=λ v _=>v = .d (.bool true) } ⟨Same.refl H,(λ _ _ z=>nomatch z),Znw (VRs.cons (v:=.scr ns) (show VR K H (.scr ns) (.ref a) from ⟨a,rfl,hS⟩) .nil)⟩ ⟨λ _ _ _ _ _ _ z=>False.elim z,λ v s' G' σ' H' x e r v1 z=>?_,λ _ _ _ _ _ _ z=>False.elim z,λ _ _ _ _ _ _ z=>False.elim z⟩ (q3 ns h63)⟩
  have z':v = .d (.bool true):=z
  subst z'
  rw [Zo4 v1]
  exact q H'
def dsUrn:DSp:=λ vs w k=>match vs with
 | [.scr ns,.d (.int i)]=>(0≤i/\i≤100)/\∀ r,w r=none->k (.own r) (w.put r (.urn 0))
 | _=>False
def dsDraw:DSp:=λ vs w k=>match vs with
 | [.own u,.d (.int wd)]=>∃ m,w u=some (.urn m)/\(m≤1000000/\0<wd/\wd<1073741824)/\∀ d:Int,0≤d->d<wd->k (.d (.int d)) (w.put u (.urn (m+1)))
 | _=>False
theorem Zxk:MoS dsUrn:=λ vs w k k' h q=>by
 unfold dsUrn at q |-;split at q
 ·exact ⟨q.1,λ r hr=>h _ _ (q.2 r hr)⟩
 ·exact q.elim
theorem Zvj:MoS dsDraw:=λ vs w k k' h q=>by
 unfold dsDraw at q |-;split at q
 ·obtain ⟨m,h1,h2,h3⟩:=q;exact ⟨m,h1,h2,λ d a b=>h _ _ (h3 d a b)⟩
 ·exact q.elim
theorem Zyo {vs:List V}{Q:VK}{E:XK} (h:spD K dsUrn vs H Q E):spUrn K vs H Q E:=by
 obtain ⟨G,w,as,h1,h2,h3,h4⟩:=h
 unfold dsUrn at h4
 split at h4
 ·next ns i=>
  obtain ⟨x,y,rfl,v1,v2⟩:=h3.two
  obtain ⟨a,rfl,hs⟩:=v1
  refine ⟨a,ns,i,by rw [Zdg v2],h1.seq hs,h4.1.1,h4.1.2,λ r H' s' hr U=>?_⟩
  have r0:Rel K G ⟨[],w⟩ [] H:=⟨h1,h2,⟨rfl,λ i v e=>by simp at e⟩⟩
  have wr:w r=none:=r0.free hr
  refine h4.2 r wr G H' (.ref r) (Same.refl G) (h1.trans s') (λ b o q=>?_) rfl
  by_cases e:b=r
  ·subst e
   rw [OW.put_same] at q;cases q
   exact ⟨h1.free hr,U⟩
  ·rw [OW.put_ne e] at q
   obtain ⟨u,hu⟩:=(h2 b o q).2.there
   exact ⟨(h2 b o q).1,(h2 b o q).2.mono (Same.refl G) (by rw [s' _ _ hu,hu])⟩
 ·exact h4.elim
theorem Zv3 {vs:List V}{Q:VK}{E:XK} (h:spD K dsDraw vs H Q E):spDraw vs H Q E:=by
 obtain ⟨G,w,as,h1,h2,h3,h4⟩:=h
 unfold dsDraw at h4
 split at h4
 ·next u wd=>
  obtain ⟨x,y,rfl,v1,v2⟩:=h3.two
  cases (show x = .ref u from v1)
  obtain ⟨m,hm,⟨m1,m2,m3⟩,q⟩:=h4
  obtain ⟨gu,U⟩:=h2 u _ hm
  refine ⟨u,wd,m,by rw [Zdg v2],U,m1,m2,m3,λ d H' d0 d1 sb U'=>?_⟩
  refine q d d0 d1 G H' (.int d) (Same.refl G) (λ b o z=>?_) (λ b o z=>?_) Zfb
  ·exact sb b o (λ e=>by rw [e,gu] at z;cases z) (h1 _ _ z)
  ·by_cases e:b=u
   ·subst e
    rw [OW.put_same] at z;cases z
    exact ⟨gu,U'⟩
   ·rw [OW.put_ne e] at z
    obtain ⟨v,hv⟩:=(h2 b o z).2.there
    exact ⟨(h2 b o z).1,(h2 b o z).2.mono (Same.refl G) (by rw [sb b v e hv,hv])⟩
 ·exact h4.elim
theorem Dn.imp {P:Program}{w:World}{mg:Str->Option Value}{base:Heap}{k:Nat}{x:Str}{st:Stmt}{ps:List Str}{sp sp':Sp} (D:Dn P w K mg base k x st ps sp) (h:∀ vs H Q E,sp' vs H Q E->sp vs H Q E):Dn P w K mg base k x st ps sp':=by
 obtain ⟨f,fd,F,U,m⟩:=D.ex
 exact ⟨f,fd,F.imp h,U,m⟩
end
end L2
namespace L2
open PySem PySem.Spec PyProof.Rows
section
variable {Y:Cx}
theorem Zt1 {X:Cx}{pins:List (Addr × Obj)}{σ:St}{H H':Hp}{s:Shared}{a:Addr}{y v:V}{u r:Value}{A:Around}{E:Value->Shared->Prop}{Q:Unit->Shared->Prop} (hu:A.units+1<cLine) (I:Inv X pins σ H s) (g:DPut H a y v H') (ry:RelV y u) (rv:RelV v r) (h:∀ s',Inv X pins σ H' s'->Q () s') :
  wpAny (model X.prog X.w) A (dictSet a u r) Q E s:=by
 rcases g with ⟨kvs,k,e,ey,l,eH⟩|⟨kvs,k,b,e,ey,eb,l,eH⟩
 ·subst ey eH
  obtain ⟨z,hd,vs,rel,dd⟩:=Zys I.hok e
  have hz:vs.length≤sizeLine:=by rw [<- rel.length];exact z
  have hl:(putK kvs k v).length≤sizeLine:=by have:=Zgi kvs k v;omega
  refine wpAny_dictSet_pairs (hsz:=hz) (Zsb ry) dd λ h' dd' hs=>h _ ?_
  have he:∃ q,h'.get? a=some q:=let ⟨q,_,_,hq,_⟩:=dd';⟨q,hq⟩
  exact Zn5 I (by rw [e];exact True.intro) hs he (Zwr hl hd (rel.put k rv) dd')
 ·subst ey eH
  cases (show u=Value.ref b from ry)
  obtain ⟨z,hd,xs,rel,dd⟩:=Zxa I.hok e
  have hz:xs.length≤sizeLine:=by rw [<- Paired.length rel];exact z
  have hl:(putK kvs k v).length≤sizeLine:=by have:=Zgi kvs k v;omega
  refine wpAny_dictSet_heap (hsz:=hz) (Nat.lt_of_succ_lt hu) (Zmp I.hok eb) dd λ h' dd' hs=>h _ ?_
  obtain ⟨q,es,ep,hq,h2,h3,h4,_,h5⟩:=dd'
  refine Zn5 I (by rw [e];exact True.intro) hs ⟨q,hq⟩ ⟨hl,hd,_,(rel.put k eb rv).keeps λ c ys ec=>?_,q,es,ep,hq,h2,h3,h4,h5⟩
  rw [Zbk (Zz3 ec e (λ z=>nomatch z))]
  exact ec
end
section
variable {X:Cx}
end
end L2
namespace L2
open PySem PySem.Spec PyProof.Rows
def dget (kvs:List (List Int × PyData)) (k:List Int):Option PyData:=(kvs.find? λ p=>decide (p.1=k)).map (·.2)
def dput (kvs:List (List Int × PyData)) (k:List Int) (v:PyData):List (List Int × PyData):=
 if (kvs.any λ p=>decide (p.1=k))=true then kvs.map (λ p=>if p.1=k then (p.1,v) else p) else kvs++[(k,v)]
section
variable {K:PySem.W.Frag}{G G' H H':Hp}{s:DS}{σ:St}
theorem Zq0 {a b:List Int}:a.map (Sum.inl:Int->Key)=b.map Sum.inl ↔ a=b:=
 ⟨λ h=>List.map_inj_right (λ _ _ e=>Sum.inl.inj e) |>.mp h,λ h=>by rw [h]⟩
theorem Zfu:∀ {kvs:List (List Int × PyData)}{ks:List (List Key × V)},DWk K G (kvK kvs) ks ->
  (kvs=[]/\ks=[]) \/ ∃ k d r x t,kvs=(k,d)::r/\ks=(k.map Sum.inl,x)::t/\DW K G d x/\DWk K G (kvK r) t
 | [],ks,h=>by
  unfold kvK at h
  rw [map_nil] at h
  unfold DWk at h
  exact .inl ⟨rfl,h⟩
 | (k,d)::r,ks,h=>by
  unfold kvK at h
  rw [map_cons] at h
  unfold DWk at h
  obtain ⟨ns,x,t,e1,e2,h1,h2⟩:=h
  have e:k=ns:=by
   unfold tI at e2
   have:=PyData.tuple.inj e2
   exact (List.map_inj_right (λ _ _ e=>PyData.int.inj e)).mp this
  subst e
  exact .inr ⟨k,d,r,x,t,rfl,e1,h1,h2⟩
theorem DWk.cons' {k:List Int}{d:PyData}{r:List (List Int × PyData)}{x:V}{t:List (List Key × V)} (h1:DW K G d x) (h2:DWk K G (kvK r) t):DWk K G (kvK ((k,d)::r)) ((k.map Sum.inl,x)::t):=by
 show DWk K G ((tI k,d)::kvK r) _
 unfold DWk
 exact ⟨k,x,t,rfl,rfl,h1,h2⟩
theorem DWk.nil':DWk K G (kvK []) []:=by
 show DWk K G [] []
 unfold DWk;rfl
theorem DWk.get:∀ {kvs:List (List Int × PyData)}{ks:List (List Key × V)}{k:List Int},DWk K G (kvK kvs) ks ->
  (dget kvs k=none/\valV ks (k.map Sum.inl)=none) \/ ∃ d x,dget kvs k=some d/\valV ks (k.map Sum.inl)=some x/\DW K G d x
 | [],ks,k,h=>by
  rcases Zfu h with ⟨_,rfl⟩|⟨_,_,_,_,_,e,_⟩
  ·exact .inl ⟨rfl,rfl⟩
  ·cases e
 | (k0,d)::r,ks,k,h=>by
  rcases Zfu h with ⟨e,_⟩|⟨k1,d1,r1,x,t,e,rfl,h1,h2⟩
  ·cases e
  ·cases e
   by_cases c:k0=k
   ·subst c
    exact .inr ⟨d,x,by simp [dget],Zki rfl,h1⟩
   ·have c':¬ (k0.map (Sum.inl:Int->Key))=k.map Sum.inl:=λ z=>c (Zq0.mp z)
    rw [Zkh (p:=(k0.map Sum.inl,x)) c']
    have e:dget ((k0,d)::r) k=dget r k:=by simp [dget,c]
    rw [e]
    exact DWk.get h2
theorem DWk.any:∀ {kvs:List (List Int × PyData)}{ks:List (List Key × V)} (k:List Int),DWk K G (kvK kvs) ks->(kvs.any λ p=>decide (p.1=k))=ks.any λ p=>decide (p.1=k.map Sum.inl)
 | [],ks,k,h=>by
  rcases Zfu h with ⟨_,rfl⟩|⟨_,_,_,_,_,e,_⟩
  ·rfl
  ·cases e
 | (k0,d)::r,ks,k,h=>by
  rcases Zfu h with ⟨e,_⟩|⟨k1,d1,r1,x,t,e,rfl,h1,h2⟩
  ·cases e
  ·cases e
   rw [any_cons,any_cons,DWk.any k h2]
   have:decide (k0=k)=decide ((k0.map (Sum.inl:Int->Key))=k.map Sum.inl):=by
    by_cases c:k0=k
    ·subst c;simp
    ·rw [decide_eq_false c,decide_eq_false λ z=>c (Zq0.mp z)]
   rw [this]
theorem DWk.repl {k:List Int}{d:PyData}{x:V} (hd:DW K G d x):∀ {kvs:List (List Int × PyData)}{ks:List (List Key × V)},DWk K G (kvK kvs) ks ->
  DWk K G (kvK (kvs.map λ p=>if p.1=k then (p.1,d) else p)) (ks.map λ p=>if p.1=k.map Sum.inl then (p.1,x) else p)
 | [],ks,h=>by
  rcases Zfu h with ⟨_,rfl⟩|⟨_,_,_,_,_,e,_⟩
  ·exact DWk.nil'
  ·cases e
 | (k0,d0)::r,ks,h=>by
  rcases Zfu h with ⟨e,_⟩|⟨k1,d1,r1,y,t,e,rfl,h1,h2⟩
  ·cases e
  ·cases e
   rw [map_cons,map_cons]
   by_cases c:k0=k
   ·subst c
    rw [if_pos rfl,if_pos rfl]
    exact DWk.cons' hd (DWk.repl hd h2)
   ·rw [if_neg c,if_neg λ z=>c (Zq0.mp z)]
    exact DWk.cons' h1 (DWk.repl hd h2)
theorem DWk.snoc {k:List Int}{d:PyData}{x:V} (hd:DW K G d x):∀ {kvs:List (List Int × PyData)}{ks:List (List Key × V)},DWk K G (kvK kvs) ks->DWk K G (kvK (kvs++[(k,d)])) (ks++[(k.map Sum.inl,x)])
 | [],ks,h=>by
  rcases Zfu h with ⟨_,rfl⟩|⟨_,_,_,_,_,e,_⟩
  ·exact DWk.cons' hd DWk.nil'
  ·cases e
 | (k0,d0)::r,ks,h=>by
  rcases Zfu h with ⟨e,_⟩|⟨k1,d1,r1,y,t,e,rfl,h1,h2⟩
  ·cases e
  ·cases e
   exact DWk.cons' h1 (DWk.snoc hd h2)
theorem DWk.put {kvs:List (List Int × PyData)}{ks:List (List Key × V)}{k:List Int}{d:PyData}{x:V} (h:DWk K G (kvK kvs) ks) (hd:DW K G d x):DWk K G (kvK (dput kvs k d)) (putK ks (k.map Sum.inl) x):=by
 unfold dput putK
 rw [h.any k]
 split
 ·exact h.repl hd
 ·exact h.snoc hd
theorem DWk.len:∀ {kvs:List (List Int × PyData)}{ks:List (List Key × V)},DWk K G (kvK kvs) ks->kvs.length=ks.length
 | [],ks,h=>by
  rcases Zfu h with ⟨_,rfl⟩|⟨_,_,_,_,_,e,_⟩
  ·rfl
  ·cases e
 | (k0,d)::r,ks,h=>by
  rcases Zfu h with ⟨e,_⟩|⟨k1,d1,r1,x,t,e,rfl,h1,h2⟩
  ·cases e
  ·cases e
   rw [length_cons,length_cons,DWk.len h2]
theorem Zp2 (r:Same G H) {ns:List Int}{y:V} (h:VR K G (.d (tI ns)) y) (n:ns≠[]):∃ b,y = .ref b/\H b=some (.tup ((ns.map (Sum.inl:Int->Key)).map kV)):=by
 unfold VR tI DW at h
 obtain ⟨a,xs,e,q,D⟩:=h
 have ex:=DWs.ints_inv D
 rcases q with q|⟨z,_⟩
 ·refine ⟨a,e,?_⟩
  rw [r _ _ q,ex,map_map];rfl
 ·cases ns with
  | nil=>exact absurd rfl n
  | cons=>simp at z
def unK:List (PyData × PyData)->Option (List (List Int × PyData))
 | []=>some []
 | (.tuple ks,d)::r=>match uIs ks,unK r with|some ns,some t=>some ((ns,d)::t)|_,_=>none
 | _::_=>none
@[simp] theorem unK_kvK (kvs:List (List Int × PyData)):unK (kvK kvs)=some kvs:=by
 induction kvs with
 | nil=>rfl
 | cons p r ih=>
  show unK ((tI p.1,p.2)::kvK r)=_
  simp [unK,tI,ih]
theorem Zx2:∀ {l:List (PyData × PyData)}{kvs:List (List Int × PyData)},unK l=some kvs->l=kvK kvs
 | [],kvs,h=>by cases h;rfl
 | (.tuple ks,d)::r,kvs,h=>by
  simp only [unK] at h
  split at h
  ·next ns t e1 e2=>
   cases h
   rw [Zx2 e2,Zls e1];rfl
  ·cases h
 | (.none,_)::_,_,h=>by simp [unK] at h
 | (.bool _,_)::_,_,h=>by simp [unK] at h
 | (.int _,_)::_,_,h=>by simp [unK] at h
 | (.str _,_)::_,_,h=>by simp [unK] at h
 | (.list _,_)::_,_,h=>by simp [unK] at h
 | (.dict _,_)::_,_,h=>by simp [unK] at h
def rdK (w:OW):Val->Option (List (List Int × PyData))
 | .d (.dict l)=>unK l
 | .own a=>match w a with|some (.dct kvs)=>some kvs|_=>none
 | _=>none
theorem Rel.rdK (r:Rel K G s σ H) {v:Val}{x:V}{kvs:List (List Int × PyData)} (q:VR K G v x) (h:L2.rdK s.w v=some kvs):∃ a ks,x = .ref a/\H a=some (.dT ks)/\DWk K G (kvK kvs) ks:=by
 unfold L2.rdK at h
 split at h
 ·rw [Zx2 h] at q
  unfold VR DW at q
  obtain ⟨a,ks,e,h1,h2⟩:=q
  exact ⟨a,ks,e,r.sub _ _ h1,h2⟩
 ·next a=>
  cases (show x = .ref a from q)
  split at h
  ·next z=>
   cases h
   obtain ⟨_,ks,h1,h2⟩:=r.own a _ z
   exact ⟨a,ks,rfl,h1,h2⟩
  ·cases h
 ·cases h
def keyD:Val->Option (List Int)
 | .d (.tuple (x::r))=>uIs (x::r)
 | _=>none
theorem Zl4 {v:Val}{ns:List Int} (h:keyD v=some ns):v = .d (tI ns)/\ns≠[]:=by
 unfold keyD at h
 split at h
 ·next x r=>
  have e:=Zls h
  refine ⟨by rw [e];rfl,λ z=>?_⟩
  rw [z] at e;cases e
 ·cases h
@[simp] theorem keyD_tI (x:Int) (r:List Int):keyD (.d (tI (x::r)))=some (x::r):=by
 show uIs ((x::r).map .int)=_
 exact uIs_map _
theorem Zci {ns:List Int} (h:ns≠[]):keyD (.d (tI ns))=some ns:=by
 cases ns with
 | nil=>exact absurd rfl h
 | cons x r=>exact keyD_tI x r
def dDGet (da db:DTE):DTE:=λ s k=>da s λ v s1=>db s1 λ u s2=>∃ kvs ns x,rdK s2.w v=some kvs/\keyD u=some ns/\dget kvs ns=some x/\k (.d x) s2
theorem Zfw {ta tb:TE}{da db:DTE} (ha:RE K ta da) (hb:RE K tb db):RE K (tDGet ta tb) (dDGet da db):=by
 refine ⟨λ s Q Q' h q=>ha.mo _ _ _ (λ v s1 q1=>hb.mo _ _ _ (λ w s2 ⟨kvs,ns,x,h1,h2,h3,h4⟩=>⟨kvs,ns,x,h1,h2,h3,h _ _ h4⟩) q1) q,λ G s σ H Q r h=>?_⟩
 refine ha.ok G s σ H _ r (ha.mo _ _ _ (λ v s1 q G1 H1 x e1 r1 v1=>?_) h)
 refine hb.ok G1 s1 σ H1 _ r1 (hb.mo _ _ _ (λ w s2 q2 G2 H2 y e2 r2 v2=>?_) q)
 obtain ⟨kvs,ns,d,h1,h2,h3,h4⟩:=q2
 obtain ⟨a,ks,rfl,h5,h6⟩:=r2.rdK (v1.same e2) h1
 obtain ⟨e,n⟩:=Zl4 h2
 subst e
 obtain ⟨b,rfl,hb'⟩:=Zp2 r2.sub v2 n
 rcases h6.get (k:=ns) with ⟨z,_⟩|⟨d',z,g1,g2,g3⟩
 ·rw [h3] at z;cases z
 ·rw [h3] at g1;cases g1
  exact ⟨a,z,rfl,by rw [<- g2];exact DGet.t h5 hb',h4 G2 H2 z (e1.trans e2) r2 g3⟩
def dDIn (neg:Bool) (db da:DTE):DTE:=λ s k=>db s λ u s1=>da s1 λ v s2=>∃ kvs ns,rdK s2.w v=some kvs/\keyD u=some ns/\k (.d (.bool (if neg then !(dget kvs ns).isSome else (dget kvs ns).isSome))) s2
theorem Ya1 {ta tb:TE}{da db:DTE} (hb:RE K tb db) (ha:RE K ta da):RE K (tDIn tb ta) (dDIn false db da):=by
 refine ⟨λ s Q Q' h q=>hb.mo _ _ _ (λ v s1 q1=>ha.mo _ _ _ (λ w s2 ⟨kvs,ns,h1,h2,h4⟩=>⟨kvs,ns,h1,h2,h _ _ h4⟩) q1) q,λ G s σ H Q r h=>?_⟩
 refine hb.ok G s σ H _ r (hb.mo _ _ _ (λ u s1 q G1 H1 y e1 r1 v1=>?_) h)
 refine ha.ok G1 s1 σ H1 _ r1 (ha.mo _ _ _ (λ v s2 q2 G2 H2 x e2 r2 v2=>?_) q)
 obtain ⟨kvs,ns,h1,h2,h4⟩:=q2
 obtain ⟨a,ks,rfl,h5,h6⟩:=r2.rdK v2 h1
 obtain ⟨e,n⟩:=Zl4 h2
 subst e
 obtain ⟨b,rfl,hb'⟩:=Zp2 r2.sub (v1.same e2) n
 refine ⟨a,_,rfl,DGet.t h5 hb',?_⟩
 have ee:(valV ks (ns.map Sum.inl)).isSome=(dget kvs ns).isSome:=by
  rcases h6.get (k:=ns) with ⟨z1,z2⟩|⟨d',z,g1,g2,g3⟩
  ·rw [z1,z2];rfl
  ·rw [g1,g2];rfl
 rw [ee]
 exact h4 G2 H2 _ (e1.trans e2) r2 Zhf
theorem Zu8 {ta tb:TE}{da db:DTE} (hb:RE K tb db) (ha:RE K ta da):RE K (tDNotIn tb ta) (dDIn true db da):=by
 refine ⟨λ s Q Q' h q=>hb.mo _ _ _ (λ v s1 q1=>ha.mo _ _ _ (λ w s2 ⟨kvs,ns,h1,h2,h4⟩=>⟨kvs,ns,h1,h2,h _ _ h4⟩) q1) q,λ G s σ H Q r h=>?_⟩
 refine hb.ok G s σ H _ r (hb.mo _ _ _ (λ u s1 q G1 H1 y e1 r1 v1=>?_) h)
 refine ha.ok G1 s1 σ H1 _ r1 (ha.mo _ _ _ (λ v s2 q2 G2 H2 x e2 r2 v2=>?_) q)
 obtain ⟨kvs,ns,h1,h2,h4⟩:=q2
 obtain ⟨a,ks,rfl,h5,h6⟩:=r2.rdK v2 h1
 obtain ⟨e,n⟩:=Zl4 h2
 subst e
 obtain ⟨b,rfl,hb'⟩:=Zp2 r2.sub (v1.same e2) n
 refine ⟨a,_,rfl,DGet.t h5 hb',?_⟩
 have ee:(valV ks (ns.map Sum.inl)).isSome=(dget kvs ns).isSome:=by
  rcases h6.get (k:=ns) with ⟨z1,z2⟩|⟨d',z,g1,g2,g3⟩
  ·rw [z1,z2];rfl
  ·rw [g1,g2];rfl
 rw [ee]
 exact h4 G2 H2 _ (e1.trans e2) r2 Zhf
def dDNew (o:Bool):DTE:=λ s k=>match o with
 | true=>∀ p,s.w p=none->k (.own p) (s.put p (.dct []))
 | false=>k (.d (.dict [])) s
theorem Zu7 (o:Bool):RE K tDNewT (dDNew o):=by
 refine ⟨λ s Q Q' h q=>?_,λ G s σ H Q r h p hp=>?_⟩
 ·cases o
  ·exact h _ _ q
  ·exact λ p hp=>h _ _ (q p hp)
 ·have hg:G p=none:=r.sub.free hp
  cases o
  ·exact h (upd G p (.dT [])) (upd H p (.dT [])) (.ref p) (Zdb hg _) (r.new hp _) (by unfold VR DW;exact ⟨p,[],rfl,Zbw,by unfold DWk;rfl⟩)
  ·exact h p (r.free hp) G (upd H p (.dT [])) (.ref p) (Same.refl G) (r.newOwn hp ⟨[],Zbw,DWk.nil'⟩) rfl
def dDPut (da dk dv:DTE):DTS:=λ E s=>dv s λ v s1=>da s1 λ u s2=>dk s2 λ kk s3=>match u,v with
 | .own a,.d x=>∃ kvs ns,s3.w a=some (.dct kvs)/\keyD kk=some ns/\kvs.length<sizeLine/\E.nx (s3.put a (.dct (dput kvs ns x)))
 | _,_=>False
theorem Znu {td ty tv:TE}{da dk dv:DTE} (ha:RE K td da) (hk:RE K ty dk) (hv:RE K tv dv):RS K (sDPut td ty tv) (dDPut da dk dv):=by
 intro G s σ H D E r p q
 refine hv.ok G s σ H _ r (hv.mo _ _ _ (λ v s1 q G1 H1 x e1 r1 v1=>?_) q)
 refine ha.ok G1 s1 σ H1 _ r1 (ha.mo _ _ _ (λ u s2 q G2 H2 y e2 r2 v2=>?_) q)
 refine hk.ok G2 s2 σ H2 _ r2 (hk.mo _ _ _ (λ kk s3 q G3 H3 z e3 r3 v3=>?_) q)
 cases u with
 | own a=>cases v with
  | d x'=>
    cases (show y = .ref a from v2)
    obtain ⟨kvs,ns,h1,h2,h3,h4⟩:=q
    obtain ⟨_,ks,h5,h6⟩:=r3.own a _ h1
    obtain ⟨e,n⟩:=Zl4 h2
    subst e
    obtain ⟨b,rfl,hb⟩:=Zp2 r3.sub v3 n
    refine ⟨a,_,rfl,DPut.t h5 hb (by rw [<- h6.len];exact h3),p.nx _ G3 σ _ ((e1.trans e2).trans e3) (r3.chg h1 ?_) h4⟩
    exact ⟨_,Zbw,h6.put (v1.same (e2.trans e3))⟩
  | _=>exact False.elim q
 | _=>exact False.elim q
def dDComp (o:Bool) (di:DTI) (cap:List (Option Nat)) (dg:DTG) (dt:DTT) (dk dv:DTE):DTE:=λ s k=>di s λ src s1=>∀ p,s1.w p=none->∃ I:Nat->OW->Prop,I 0 (s1.w.put p (.dct []))/\(∀ i w,I i w->src.2 w) /\
 (∀ (i:Nat) d w,src.1[i]? = some d->I i w->dg (.d d) ⟨captD cap s1.e,w⟩ λ s2=>dt s2 λ b s3=>if b=true then dk s3 (λ kk s4=>dv s4 λ vv s5=>match vv with
  | .d x=>∃ kvs ns,s5.w p=some (.dct kvs)/\keyD kk=some ns/\kvs.length<sizeLine/\L2.ext (captD cap s1.e) s5.e/\I (i+1) (s5.w.put p (.dct (dput kvs ns x)))
  | _=>False) else L2.ext (captD cap s1.e) s3.e/\I (i+1) s3.w) /\
 ∀ w,I src.1.length w->∃ kvs,w p=some (.dct kvs)/\(match o with|true=>k (.own p) ⟨s1.e,w⟩|false=>k (.d (.dict (kvK kvs))) ⟨s1.e,w.del p⟩)
theorem Rel.frzD (r:Rel K G s σ H) {a:Addr}{kvs:List (List Int × PyData)} (h1:s.w a=some (.dct kvs)):∃ ks,Same G (upd G a (.dT ks))/\Rel K (upd G a (.dT ks)) ⟨s.e,s.w.del a⟩ σ H/\VR K (upd G a (.dT ks)) (.d (.dict (kvK kvs))) (.ref a):=by
 obtain ⟨g0,ks,h3,h4⟩:=r.own a _ h1
 have S:=Zdb g0 (.dT ks)
 refine ⟨ks,S,⟨λ b o q=>?_,λ b o q=>?_,r.sl.same S⟩,?_⟩
 ·by_cases e:b=a
  ·subst e;rw [Zbw] at q;cases q;exact h3
  ·rw [Zbk e] at q;exact r.sub _ _ q
 ·have nb:b≠a:=λ e=>by
   have q':(if b=a then none else s.w b)=some o:=q
   rw [if_pos e] at q';cases q'
  have q':s.w b=some o:=by
   have q':(if b=a then none else s.w b)=some o:=q
   rwa [if_neg nb] at q'
  exact ⟨by rw [Zbk nb];exact (r.own b o q').1,(r.own b o q').2.mono S rfl⟩
 ·unfold VR DW;exact ⟨a,ks,rfl,Zbw,DWk.same S h4⟩
end
section
variable {X:Cx}{K:PySem.W.Frag}
theorem Zdn {o i:Expr}{td ty:TE}{pos:Pos} (hu:X.A.units+1<cLine) (ho:IPE X o td) (hi:IPE X i ty) (hs:NoSl i):IPE X (.Subscript o i pos) (tDGet td ty):=by
 simp only [Zb4] at *;exact Zxs hu ho hi hs
theorem Zml {pos:Pos}:IPE X (.Dict [] [] pos) tDNewT:=by rw [Zb4];exact Zvo
theorem Zij {o i value:Expr}{td ty tv:TE}{pos pos':Pos} (hu:X.A.units+1<cLine) (ho:IPE X o td) (hi:IPE X i ty) (hv:IPE X value tv) (hs:swapsWith value (some (.Subscript o i pos')) pos.line X.env=pure false:=by rfl):IPS X (.Assign [.Subscript o i pos'] value pos) (sDPut td ty tv):=by
 simp only [Zb4,Zb8] at *;exact Zy1 hu ho hi hv hs
theorem Zvb {o i:Expr}{td ty:TE}{pos:Pos} (hu:X.A.units+1<cLine) (hi:IPE X i ty) (ho:IPE X o td) (h1:behindInMarks .In o=false:=by first|exact nobehind _ (by decide) (by decide)|rfl):IPT X (.Compare i [.In] [o] pos) (tB (tDIn ty td)):=by
 simp only [Zb4,Zb7] at *;exact Zwz (Zz8 hu hi ho) h1
theorem Zpz {o i:Expr}{td ty:TE}{pos:Pos} (hu:X.A.units+1<cLine) (hi:IPE X i ty) (ho:IPE X o td) (h1:behindInMarks .NotIn o=false:=by first|exact nobehind _ (by decide) (by decide)|rfl):IPT X (.Compare i [.NotIn] [o] pos) (tB (tDNotIn ty td)):=by
 simp only [Zb4,Zb7] at *;exact Zwz (Ztz hu hi ho) h1
end
end L2
namespace L2
open PySem PySem.Spec PyProof.Rows
section
variable {X:Cx}{K:PySem.W.Frag}{G G' H H':Hp}{s:DS}{σ:St}
def isNoneD (w:OW):Val->Option Bool
 | .d .none=>some true
 | .d _=>some false
 | .own _=>some false
 | _=>none
def fIsN (neg:Bool):Val->Val->DTE:=λ v u s k=>match isNoneD s.w v,u with
 | some b,.d .none=>k (.d (.bool (if neg then !b else b))) s
 | _,_=>False
theorem Zp0 {v:Val}{x:V}{b:Bool} (h:VR K G v x) (e:isNoneD s.w v=some b):decide (x = .non)=b:=by
 unfold isNoneD at e
 split at e
 ·cases e
  rw [show x = .non from by unfold VR at h;exact DW.none_inv h];rfl
 ·next d hd=>
  cases e
  cases d with
  | none=>exact absurd rfl hd
  | bool b=>rw [Zo4 h];rfl
  | int i=>rw [Zdg h];rfl
  | str i=>rw [Zmx h];rfl
  | list ds=>obtain ⟨a,_,rfl,_⟩:=Zmw h;rfl
  | tuple ds=>obtain ⟨a,_,rfl,_⟩:=Zmy h;rfl
  | dict l=>unfold VR DW at h;obtain ⟨a,_,rfl,_⟩:=h;rfl
 ·cases e
  rw [show x = .ref _ from h];rfl
 ·cases e
theorem Ya5:RO K (λ x y H Q=>y = .non/\Q (.bl (decide (x = .non))) H) (fIsN false):=by
 refine ⟨λ v w s Q Q' h q=>?_,λ G s σ H x y v w Q r v1 v2 h=>?_⟩
 ·unfold fIsN at q |-;split at q
  ·exact h _ _ q
  ·exact q.elim
 ·unfold fIsN at h;split at h
  ·next b e=>
   refine ⟨by unfold VR at v2;exact DW.none_inv v2,?_⟩
   rw [Zp0 v1 e];exact h.here r Zhf
  ·exact h.elim
theorem Zue:RO K (λ x y H Q=>y = .non/\Q (.bl (!decide (x = .non))) H) (fIsN true):=by
 refine ⟨λ v w s Q Q' h q=>?_,λ G s σ H x y v w Q r v1 v2 h=>?_⟩
 ·unfold fIsN at q |-;split at q
  ·exact h _ _ q
  ·exact q.elim
 ·unfold fIsN at h;split at h
  ·next b e=>
   refine ⟨by unfold VR at v2;exact DW.none_inv v2,?_⟩
   rw [Zp0 v1 e];exact h.here r Zhf
  ·exact h.elim
def rRepW (K:PySem.W.Frag):R2:=λ x y H Q=>∃ l k xs,x = .ref l/\y = .int k/\SqT K H l xs/\xs≠[]/\1≤k/\k<2 ^ 63/\xs.length*k.toNat≤sizeLine /\
 (k=1->Q (.ref l) H)/\∀ p,H p=none->Q (.ref p) (upd H p (.tup (List.replicate k.toNat xs).flatten))
theorem Zqd:OpR X (binaryOp .Mult) (rRepW X.K):=by
 rintro pins s σ H x y v u Q I rx ry ⟨l,k,xs,rfl,rfl,hq,hne,h1,h2,hz,q1,q2⟩
 cases (show v=Value.ref l from rx)
 obtain ⟨t,rfl⟩:=(show ∃ t,u=Value.int k t from ry)
 obtain ⟨its,rv,ht,hzz⟩:=I.tuple hq
 obtain ⟨⟨cls,dd,data,sl⟩,ho,hc,n,hd⟩:=id ht
 simp only at hc hd
 subst hc hd
 have hl:=rv.length
 refine wpAny_binaryOp_repeat_ref (T:="tuple") (U:="int") (by decide) ⟨_,ho,rfl⟩ (λ s'=>typeIs_int s' k t) Zji PySem.F.fills_int_mul PySem.F.slot_int_rmul Znt PySem.F.slot_int_index.lookup
  (call_meets PySem.F.slot_int_rmul (typeIs_int s k t) PySem.F.entry_int_rmul (PySem.F.args_int_rmul_2 _ _) (Zoy k t l its.toArray n dd sl) ⟨ho,rfl,⟨_,ho,rfl⟩,?_⟩)
 by_cases e1:k=1
 ·subst e1
  exact call_meets slot_tuple_mul ⟨_,ho,rfl⟩ PySem.F.entry_tuple_mul (PySem.F.args_tuple_mul_2 _ _) (Zpj l its.toArray n dd sl t) ⟨ho,⟨.ref l,H,I,rfl,q1 rfl⟩⟩
 ·refine call_meets slot_tuple_mul ⟨_,ho,rfl⟩ PySem.F.entry_tuple_mul (PySem.F.args_tuple_mul_2 _ _) (Zqq l its.toArray n dd sl t k (by omega) h2 (by
    cases its with
    | nil=>cases rv;exact absurd rfl hne
    | cons a r=>rfl) (by rw [size_toArray,<- hl];exact hz)) ⟨ho,?_⟩
  have e:List.foldl (λ x1 x2=>x1++x2) #[] (List.replicate k.toNat its.toArray)=(List.replicate k.toNat its).flatten.toArray:=by
   have:=Zow its k.toNat []
   rw [nil_append] at this
   exact this
  rw [e]
  exact ⟨.ref s.heap.objs.size,upd H s.heap.objs.size (.tup (List.replicate k.toNat xs).flatten),I.laid (t':=s.toks) (λ b o e=>get?_push_of_some _ e) (le_refl _) (show ObjOk X.prog X.w _ _ _ (.tup _) from ⟨by rw [Zxj,Nat.mul_comm];exact hz,_,rv.rep k.toNat,IsTu.new _ _⟩),rfl,q2 _ I.fresh⟩
def fRepT:Val->Val->DTE:=λ v w s k=>match rdT v,w with
 | some ds,.d (.int i)=>(ds≠[]/\1≤i/\i<2 ^ 63/\ds.length*i.toNat≤sizeLine)/\k (.d (.tuple (repD i.toNat ds))) s
 | _,_=>False
theorem Zqk:RO K (rRepW K) fRepT:=by
 refine ⟨λ v w s Q Q' h q=>?_,λ G s σ H x y v w Q r v1 v2 h=>?_⟩
 ·unfold fRepT at q |-;split at q
  ·exact ⟨q.1,h _ _ q.2⟩
  ·exact q.elim
 ·unfold fRepT at h;split at h
  ·next ds i e=>
   obtain ⟨⟨h1,h2,h3,h4⟩,h⟩:=h
   obtain ⟨a,xs,rfl,h5,h6⟩:=r.rdT v1 e
   refine ⟨a,i,xs,rfl,Zdg v2,h5,λ z=>h1 (h6.nil_of z),h2,h3,by rw [<- h6.length];exact h4,λ z=>?_,r.nt (h6.rep _) h⟩
   subst z
   have e1:repD (1:Int).toNat ds=ds:=by show (List.replicate 1 ds).flatten=ds;simp
   rw [e1] at h
   exact h.here r (by rw [<- Zpb e];exact v1)
  ·exact h.elim
def gSortI (o:Bool):Val->DTE:=λ v s k=>match rdL s.w v with
 | some ds=>(match uIs ds with|some ns=>ns.length<64/\∀ ns':List Int,ns'.Perm ns->ns'.Pairwise (·≤·)->nl o (ns'.map .int) s k|none=>False)
 | none=>False
theorem Zw0 (o:Bool):RC K (λ xs H Q=>∃ (a:Addr) (ns:List Int),xs=[.ref a]/\SqL K H a (ns.map V.int)/\ns.length<64/\∀ (p:Addr) (ns':List Int),H p=none->ns'.Perm ns->ns'.Pairwise (·≤·)->Q (.ref p) (upd H p (.lst (ns'.map V.int)))) (f1 (gSortI o)):=by
 refine rc1 (λ v s Q Q' h q=>?_) (λ G s σ H x v Q r v1 h=>?_)
 ·unfold gSortI at q |-;split at q
  ·split at q
   ·exact ⟨q.1,λ ns' a b=>Znq h (q.2 ns' a b)⟩
   ·exact q.elim
  ·exact q.elim
 ·unfold gSortI at h;split at h
  ·next ds e=>
   split at h
   ·next ns z=>
    obtain ⟨a,xs,rfl,h1,h2⟩:=r.rdL v1 e
    rw [Zls z] at h2
    rw [h2.ints_inv] at h1
    exact ⟨a,ns,rfl,h1,h.1,λ p ns' hp a b=>r.nl (DWs.ints ns') (h.2 ns' a b) p hp⟩
   ·exact h.elim
  ·exact h.elim
def tDisp1 (tk tv:TE):TE:=λ σ H Q=>∀ p,H p=none->tk σ (upd H p (.dT [])) λ y H1=>tv σ H1 λ v H2=>∃ H3,DPut H2 p y v H3/\Q (.ref p) H3
theorem Zvn {k v:Expr}{tk tv:TE}{pos:Pos} (hu:X.A.units+1<cLine) (hk:PE X k tk) (hv:PE X v tv):PE X (.Dict [some k] [v] pos) (tDisp1 tk tv):=by
 intro pins s σ H Q I q
 have hn:=I.hok.fresh (le_refl s.heap.objs.size)
 have I1:=I.laid (a:=s.heap.objs.size) (o:=.dT []) (h':=s.heap.push { cls:=.type "dict",data:=.dict #[] }) (t':=s.toks) (λ _ _ q=>get?_push_of_some _ q) (le_refl _) (Zqz s.heap I.big)
 refine wpAny_Dict_any rfl rfl (by simp) (by show 1≤15;decide) ?_
 refine pairTrees_cons_walk (thn (hk pins _ σ _ _ I1 (q _ hn)) λ kv s1 ⟨y,H1,I2,r1,q1⟩=>thn (hv pins s1 σ H1 _ I2 q1) λ vv s2 ⟨z,H2,I3,r2,H3,hp,q3⟩=>pairTrees_nil_walk ?_)
 unfold storeAll
 rw [forIn_cons]
 simp only [bind_assoc]
 refine wpAny_bind (Zt1 hu I3 hp r1 r2 λ s3 I4=>?_)
 simp only [pure_bind]
 rw [forIn_nil]
 exact wpAny_pure ⟨.ref s.heap.objs.size,H3,I4,rfl,q3⟩
theorem Zs5 {k v:Expr}{tk tv:TE}{pos:Pos} (hu:X.A.units+1<cLine) (hk:IPE X k tk) (hv:IPE X v tv):IPE X (.Dict [some k] [v] pos) (tDisp1 tk tv):=by
 simp only [Zb4] at *;exact Zvn hu hk hv
def dDisp1 (o:Bool) (dk dv:DTE):DTE:=λ s k=>∀ p,s.w p=none->dk (s.put p (.dct [])) λ kk s1=>dv s1 λ vv s2=>match vv with
 | .d x=>∃ ns,keyD kk=some ns/\s2.w p=some (.dct [])/\(match o with|true=>k (.own p) (s2.put p (.dct [(ns,x)]))|false=>k (.d (.dict (kvK [(ns,x)]))) ⟨s2.e,s2.w.del p⟩)
 | _=>False
theorem Zw1 (o:Bool) {tk tv:TE}{dk dv:DTE} (hk:RE K tk dk) (hv:RE K tv dv):RE K (tDisp1 tk tv) (dDisp1 o dk dv):=by
 refine ⟨λ s Q Q' z q p hp=>hk.mo _ _ _ (λ kk s1 q=>hv.mo _ _ _ (λ vv s2 q=>?_) q) (q p hp),λ G s σ H Q r q p hp=>?_⟩
 ·split at q
  ·obtain ⟨ns,h1,h2,h3⟩:=q
   refine ⟨ns,h1,h2,?_⟩
   cases o
   ·exact z _ _ h3
   ·exact z _ _ h3
  ·exact q.elim
 ·have r0:Rel K G (s.put p (.dct [])) σ (upd H p (.dT [])):=r.newOwn hp (u:=.dct []) ⟨[],Zbw,DWk.nil'⟩
  refine hk.ok G _ σ _ _ r0 (hk.mo _ _ _ (λ kk s1 q G1 H1 y e1 r1 v1=>?_) (q p (r.free hp)))
  refine hv.ok G1 s1 σ H1 _ r1 (hv.mo _ _ _ (λ vv s2 q G2 H2 z e2 r2 v2=>?_) q)
  split at q
  ·next x=>
   obtain ⟨ns,h1,h2,h3⟩:=q
   obtain ⟨e,n⟩:=Zl4 h1
   subst e
   obtain ⟨_,ks,h4,h5⟩:=r2.own p _ h2
   obtain ⟨b,rfl,hb⟩:=Zp2 r2.sub (v1.same e2) n
   have hk0:ks=[]:=by
    have:=h5.len
    exact length_eq_zero_iff.mp this.symm
   subst hk0
   have r3:Rel K G2 (s2.put p (.dct [(ns,x)])) σ (upd H2 p (.dT (putK [] (ns.map Sum.inl) z))):=r2.chg h2 (u:=.dct [(ns,x)]) ⟨_,Zbw,h5.put v2⟩
   refine ⟨_,DPut.t h4 hb (by decide),?_⟩
   cases o
   ·obtain ⟨ks',S,r5,v5⟩:=r3.frzD (a:=p) OW.put_same
    have e3:(s2.put p (.dct [(ns,x)])).w.del p=s2.w.del p:=by
     funext b
     show (if b=p then none else (s2.w.put p (.dct [(ns,x)])) b)=if b=p then none else s2.w b
     split
     ·rfl
     ·next hb=>exact OW.put_ne hb
    rw [e3] at r5
    exact h3 _ _ (.ref p) ((e1.trans e2).trans S) r5 v5
   ·exact h3 G2 _ (.ref p) (e1.trans e2) r3 rfl
  ·exact q.elim
def rIndex (K:PySem.W.Frag):V->List V->Hp->VK->Prop:=λ x vs H Q=>∃ l xs ds y d j,x = .ref l/\vs=[y]/\SqL K H l xs/\DVs K H ds xs/\DV K H d y/\d.canLay0=true/\PyData.canLayAll0 ds=true/\d.depth≤30 /\
 ds.findIdx? (λ z=>PyData.eqv z d)=some j/\Q (.int (j:Nat)) H
theorem Zrc (hu:X.A.units+64<cLine):MtR X "list.index" (rIndex X.K):=by
 intro pins s σ H x vs v us Q I rx rv h
 obtain ⟨l,xs,ds,y,d,j,rfl,rfl,hs,hD,hd,c1,c2,dp,hj,q⟩:=h
 obtain ⟨u,rfl,ru⟩:=rv.one
 cases (show v=Value.ref l from rx)
 obtain ⟨its,rvs,pl,hz⟩:=I.list hs
 have lv:=rvs.length
 obtain ⟨as,ra⟩:=I.readsAll hD rvs
 obtain ⟨bs,rb⟩:=I.reads hd ru
 obtain ⟨⟨cls,dd,data,sl⟩,n,ho,hc,hdd,hdt⟩:=pl
 simp only at hc hdd hdt
 subst hc hdd hdt
 have em:its.toArray.toList.map (PySem.SeqAt.readOf s.heap)=ds:=PySem.SeqAt.readsAll_map ds _ _ c2 (by simpa using ra)
 have hm:X.A.units+1+min (PyData.depthAll ds) d.depth<cLine:=by omega
 obtain ⟨hjl,hjt,hjn⟩:=List.findIdx?_eq_some_iff_getElem.mp hj
 have hlen:ds.length=its.length:=by rw [<- em];simp
 have get:∀ m (hm:m<its.toArray.size),PyData.eqv (PySem.SeqAt.readOf s.heap its.toArray[m]) d=PyData.eqv (ds[m]'(by rw [hlen];simpa using hm)) d:=by
  intro m hm'
  have:(its.toArray.toList.map (PySem.SeqAt.readOf s.heap))[m]'(by simpa using hm')=ds[m]'(by rw [hlen];simpa using hm'):=by simp only [em]
  rw [<- this];simp
 refine call_meets slot_list_index ⟨_,ho,rfl⟩ PySem.F.entry_list_index (PySem.F.args_list_index_2 _ _)
  (PySem.SeqAt.list_indexAt l its.toArray n none sl u (λ z=>PyData.eqv (PySem.SeqAt.readOf s.heap z) d) j (by simp;omega) ?_ ?_ ?_) ⟨ho,PySem.SeqAt.items_eqAt (by simpa using ra) rb c2 c1 hm,?_⟩
 ·have:its.length≤sizeLine:=by omega
  have e:sizeLine=16777216:=sizeLine_eq
  omega
 ·rw [get];exact hjt
 ·intro m hm' hlt
  rw [get]
  have:=hjn m hlt
  simpa using this
 ·exact ⟨.int j,H,I.tok _,⟨_,rfl⟩,q⟩
def dIdx (d:DTE) (da:DTA):DTE:=λ s k=>d s λ v s1=>(rdL s1.w v).isSome=true/\da s1 λ vs s2=>match vs with
 | [u]=>(match rdL s2.w v,rdD s2.w u with
  | some ds,some x=>(x.hasDict=false/\PyData.hasDictAll ds=false/\x.canLay0=true/\PyData.canLayAll0 ds=true/\x.depth≤30)/\∃ j,ds.findIdx? (λ z=>PyData.eqv z x)=some j/\k (.d (.int (j:Nat))) s2
  | _,_=>False)
 | _=>False
theorem Zwg (r:Rel K G s σ H) {v:Val}{x:V} (q:VR K G v x) (h:(rdL s.w v).isSome=true):tyV K "list" x H:=by
 cases e:rdL s.w v with
 | none=>rw [e] at h;cases h
 | some ds=>
  obtain ⟨a,xs,rfl,h1,_⟩:=r.rdL q e
  exact .inl ⟨rfl,xs,h1⟩
theorem Zx0 {to:TE}{t:TA}{d:DTE}{da:DTA} (h:RE K to d) (ha:RA K t da):RE K (tBM K "list" (rIndex K) to t) (dIdx d da):=by
 refine ⟨λ s Q Q' z q=>h.mo _ _ _ (λ v s1 q=>⟨q.1,ha.mo _ _ _ (λ vs s2 q=>?_) q.2⟩) q,λ G s σ H Q r q=>h.ok G s σ H _ r (h.mo _ _ _ (λ v s1 q G1 H1 x e1 r1 v1=>⟨Zwg r1 v1 q.1,ha.ok G1 s1 σ H1 _ r1 (ha.mo _ _ _ (λ vs s2 q G2 H2 xs e2 r2 v2=>?_) q.2)⟩) q)⟩
 ·split at q
  ·split at q
   ·obtain ⟨c,j,hj,q⟩:=q;exact ⟨c,j,hj,z _ _ q⟩
   ·exact q.elim
  ·exact q.elim
 ·split at q
  ·split at q
   ·next ds y q1 q2=>
    obtain ⟨⟨c1,c2,c3,c4,c5⟩,j,hj,q⟩:=q
    obtain ⟨u,rfl,v3⟩:=v2.one
    obtain ⟨a,ys,rfl,h1,h2⟩:=r2.rdL (v1.same e2) q1
    exact ⟨a,ys,ds,u,y,j,rfl,rfl,h1,DWs.dv r2.sub c2 h2,r2.rdD v3 q2 c1,c3,c4,c5,hj,q G2 H2 _ (e1.trans e2) r2 Zfb⟩
   ·exact q.elim
  ·exact q.elim
theorem Zvt (its:List Value):((List.range its.length).filterMap λ (k:Nat)=>its.toArray[(((its.length:Int)-1)+(k:Int)*(-1)).toNat]?)=its.reverse:=by
 have:∀ k≤its.length,((List.range k).filterMap λ (k:Nat)=>its.toArray[(((its.length:Int)-1)+(k:Int)*(-1)).toNat]?)=its.reverse.take k:=by
  intro k
  induction k with
  | zero=>intro _;simp
  | succ k ih=>
   intro hk
   rw [range_succ,List.filterMap_append,ih (by omega),take_add_one]
   congr 1
   have e:its.reverse[k]? = its[its.length-1-k]?:=by rw [List.getElem?_reverse (by omega)]
   have e2:(((its.length:Int)-1)+(k:Int)*(-1)).toNat=its.length-1-k:=by omega
   have hl:its.length-1-k<its.length:=by omega
   rw [e]
   simp only [filterMap_cons,List.filterMap_nil,e2]
   simp [gEq hl]
 rw [this _ (le_refl _),take_of_length_le (by simp)]
theorem Zj7 {prog:Program}{w:World}{A:Around}{E:Value->Shared->Prop}{s:Shared}{t sl:Addr}{its:List Value}{tk:Tok}{Q:Value->Shared->Prop} (ht:IsTup s.heap t its.toArray) (hs:s.heap.IsSliceOf sl .none .none (.int (-1) tk))
  (h:Q (.ref s.heap.objs.size) { s with heap:=s.heap.push { cls:=.type "tuple",data:=.seq its.reverse.toArray } }) (hsz:its.length≤sizeLine):wpAny (model prog w) A (getItem (.ref t) (.ref sl)) Q E s:=by
 have htake:sizeOk (.seq its.reverse.toArray):=by show its.reverse.toArray.size≤sizeLine;simpa using hsz
 obtain ⟨os,hos,hcs,hds⟩:=id hs
 have hTs:s.TypeIs (.ref sl) "slice":=⟨os,hos,hcs⟩
 unfold getItem
 try with_reducible refine wpAny_holding ?_
 first|refine wpAny_bind (wpAny_pure ?_)|skip
 refine wpAny_bind (wpAny_sequenceKey ht.typeIs (by decide) ?_)
 refine wpAny_bind (wpAny_callSpecial?_slot (name:=Str.ofString "__getitem__") ht.typeIs PyProof.Rows.slot_tuple_getitem
  (wpAny_call_entry PyProof.Rows.slot_tuple_getitem ht.typeIs entry_tuple_getitem ?_ (args_tuple_getitem _ _)))
 show wpAny _ _ (Builtin.Tuple.tupleItemsOf (.ref t) >>= _) _ _ s
 refine wpAny_bind (tupleItemsOf_ ht ?_)
 refine wpAny_bind (wpAny_typeOf hTs ?_)
 rw [if_pos (by decide)]
 have app:∀ {Q:Int × Int × Nat->Shared->Prop}{E:Value->Shared->Prop},Q ((its.toArray.size:Int)-1,-1,its.toArray.size) s->wpAny (model prog w) A.in1 (Builtin.Slice.sliceApplied (.ref sl) (pure (its.toArray.size:Int))) Q E s:=by
  intro Q E h
  unfold Builtin.Slice.sliceApplied Builtin.Slice.sliceFields
  refine wpAny_bind (wpAny_bind (wpAny_field hos hds (x:=.none) rfl (wpAny_bind (wpAny_field hos hds (x:=.none) rfl (wpAny_bind (wpAny_field hos hds (x:=.int (-1) tk) rfl (wpAny_pure ?_)))))))
  refine wpAny_bind (HT.slicePart_ (.int (-1) tk) ?_)
  show wpAny _ _ (if ((-1:Int) == 0)=true then _ else _) _ _ s
  rw [if_neg (by decide)]
  refine wpAny_bind (HT.slicePart_ .none (wpAny_bind (HT.slicePart_ .none (wpAny_bind (wpAny_pure ?_)))))
  have e1:Builtin.Slice.sliceAdjust none none (-1) (its.toArray.size:Int)=((its.toArray.size:Int)-1,-1):=by
   unfold Builtin.Slice.sliceAdjust
   simp
  show wpAny _ _ (match Builtin.Slice.sliceAdjust none none (-1) (its.toArray.size:Int) with|(lo,hi)=>pure (lo,(-1:Int),Builtin.Slice.slicePlaces lo hi (-1))) _ _ s
  rw [e1]
  have e2:Builtin.Slice.slicePlaces ((its.toArray.size:Int)-1) (-1) (-1)=its.toArray.size:=by
   unfold Builtin.Slice.slicePlaces
   simp only [show ¬ ((-1:Int) > 0) by decide,if_false,show-(-1:Int)=1 by decide,Int.ediv_one]
   split <;> omega
  show wpAny _ _ (pure ((its.toArray.size:Int)-1,(-1:Int),Builtin.Slice.slicePlaces ((its.toArray.size:Int)-1) (-1) (-1))) _ _ s
  rw [e2]
  exact wpAny_pure h
 refine wpAny_bind (app ?_)
 show wpAny _ _ (if ((((its.toArray.size:Int)-1) == 0 && (-1:Int) == 1 && its.toArray.size == its.toArray.size)=true) then _ else _) _ _ s
 rw [if_neg (by simp)]
 have ep:((List.range its.toArray.size).filterMap λ (k:Nat)=>its.toArray[(((its.toArray.size:Int)-1)+(k:Int)*(-1)).toNat]?).toArray=its.reverse.toArray:=by
  congr 1
  rw [size_toArray]
  exact Zvt its
 show wpAny _ _ (Builtin.Tuple.tupleExact ((List.range its.toArray.size).filterMap λ (k:Nat)=>its.toArray[(((its.toArray.size:Int)-1)+(k:Int)*(-1)).toNat]?).toArray >>= _) _ _ s
 rw [ep]
 first
  | exact wpAny_bind (m:=Builtin.Tuple.tupleExact _) (wpAny_newObj_type (wpAny_pure ⟨_,rfl,wpAny_pure h⟩) htake)
  | exact wpAny_bind (m:=Builtin.Tuple.tupleExact _) (wpAny_newObj_type (wpAny_bind (wpAny_pure (wpAny_pure ⟨_,rfl,wpAny_pure h⟩))) htake)
  | exact wpAny_bind (wpAny_bind (m:=Builtin.Tuple.tupleExact _) (wpAny_newObj_type (wpAny_pure (wpAny_pure ⟨_,rfl,wpAny_pure h⟩)) htake))
def tRevT (K:PySem.W.Frag) (te ts:TE):TE:=λ σ H Q=>te σ H λ x H1=>ts σ H1 λ y H2=>y = .int (-1)/\∃ a xs,x = .ref a/\SqT K H2 a xs/\∀ p,H2 p=none->Q (.ref p) (upd H2 p (.tup xs.reverse))
theorem Zxt {e st:Expr}{te ts:TE}{p2 pos:Pos} (he:PE X e te) (hs:PE X st ts):PE X (.Subscript e (.Slice none none (some st) p2) pos) (tRevT X.K te ts):=by
 intro pins s σ H Q I h
 refine Subscript_ (thn (he pins s σ H _ I h) λ v s1 ⟨x,H1,I1,r1,q1⟩=>?_)
 refine wpAny_Slice ?_
 rw [evalPart_none]
 refine wpAny_pure ?_
 refine wpAny_pure ?_
 rw [evalPart_some]
 refine thn (hs pins s1 σ H1 _ I1 q1) λ u s2 ⟨y,H2,I2,r2,q2⟩=>?_
 obtain ⟨rfl,a,xs,rfl,hx,q⟩:=q2
 obtain ⟨tk,rfl⟩:=r2
 cases r1
 have I4:Inv X pins σ H2 { s2 with heap:=s2.heap.push { cls:=.type "slice",data:=.fields #[.none,.none,.int (-1) tk] } }:=I2.kept (t':=s2.toks) λ b ob q=>get?_push_of_some _ q
 obtain ⟨its,r,ht,hz⟩:=I4.tuple hx
 have hlen:=r.length
 show wpAny (model X.prog X.w) X.A (subscriptTail e (.Slice none none (some st) p2) (.ref a) (.ref s2.heap.objs.size)) (EP X pins σ Q) X.xe { s2 with heap:=s2.heap.push { cls:=.type "slice",data:=.fields #[.none,.none,.int (-1) tk] } }
 refine tail_any (T:="tuple") (ops:=[.ref a,.ref s2.heap.objs.size]) ht.typeIs PyProof.Rows.slot_tuple_getitem.lookup ?_ (by with_unfolding_all rfl)
 refine Zj7 ht (Heap.IsSliceOf.new ..) ?_ (by omega)
 refine ⟨.ref _,_,I4.laid (t':=s2.toks) (o:=.tup xs.reverse) (λ b ob q=>get?_push_of_some _ q) (le_refl _) ?_,rfl,q _ (I4.hok.fresh (le_refl _))⟩
 exact ⟨by rw [length_reverse];exact hz,_,r.reverse,IsTu.new _ _⟩
theorem Zky {e st:Expr}{te ts:TE}{p2 pos:Pos} (he:IPE X e te) (hs:IPE X st ts):IPE X (.Subscript e (.Slice none none (some st) p2) pos) (tRevT X.K te ts):=by
 rw [Zb4] at *;exact Zxt he hs
theorem Zj9 {e st:Expr}{te ts:TE}{p2 pos:Pos} (h:X.K=K) (he:IPE X e te) (hs:IPE X st ts):IPE X (.Subscript e (.Slice none none (some st) p2) pos) (tRevT K te ts):=h▸Zky he hs
def dRevT (de:DTE):DTE:=λ s k=>de s λ v s1=>match rdT v with|some ds=>k (.d (.tuple ds.reverse)) s1|none=>False
theorem Zlk {te:TE}{de:DTE} (he:RE K te de):RE K (tRevT K te (tUn (rU λ i=>.int (-i)) (tC (.int 1)))) (dRevT de):=by
 refine ⟨λ s Q Q' h q=>he.mo _ _ _ (λ v s1 q1=>?_) q,λ G s σ H Q r h=>?_⟩
 ·split at q1
  ·exact h _ _ q1
  ·exact q1.elim
 refine he.ok G s σ H _ r (he.mo _ _ _ (λ v s1 q G1 H1 x e1 r1 v1=>?_) h)
 split at q
 ·next ds e=>
  obtain ⟨a,xs,rfl,h1,h2⟩:=r1.rdT v1 e
  exact ⟨1,rfl,rfl,a,xs,rfl,h1,r1.nt h2.reverse (q.same e1)⟩
 ·exact q.elim
def dFrzD (i:Nat):DTE:=λ s k=>match s.e[i]? with
 | some (some (.own a))=>∃ kvs,s.w a=some (.dct kvs)/\k (.d (.dict (kvK kvs))) ⟨s.e.set i (some (.d (.dict (kvK kvs)))),s.w.del a⟩
 | _=>False
theorem Zqj (i:Nat):RE K (tVar i) (dFrzD i):=by
 refine ⟨λ s Q Q' h q=>?_,λ G s σ H Q r h=>?_⟩
 ·unfold dFrzD at q |-;split at q
  ·obtain ⟨ds,h1,h2⟩:=q;exact ⟨ds,h1,h _ _ h2⟩
  ·exact q.elim
 ·unfold dFrzD at h;split at h
  ·next a z=>
   obtain ⟨kvs,h1,h2⟩:=h
   obtain ⟨x,hx,vx⟩:=r.sl.2 i _ z
   cases (show x = .ref a from vx)
   obtain ⟨ks,S,r5,v5⟩:=r.frzD h1
   refine ⟨_,hx,h2 _ H (.ref a) S ⟨r5.sub,r5.own,?_⟩ v5⟩
   have:=r5.sl.set (v:=.d (.dict (kvK kvs))) (x:=.ref a) v5 i
   rwa [Zin hx] at this
  ·exact h.elim
theorem VRs.pickQ {dv:Val}{x:V} (hd:VR K G dv x) {na nk:Nat}{pick:List (Nat × Nat)}{vs us:List Val}{xs ys:List V} (h:VRs K G vs xs) (q:VRs K G us ys):VRs K G (gaQ dv na nk pick vs us) (gaQ x na nk pick xs ys):=by
 unfold gaQ
 rw [h.length,q.length]
 split
 ·induction pick with
  | nil=>exact .nil
  | cons p t ih=>
   rw [filterMap_cons,filterMap_cons]
   by_cases h0:p.1=0
   ·rcases h.get p.2 with ⟨a,b,e1,e2,z⟩|⟨e1,e2⟩
    ·simp only [h0,if_true,e1,e2];exact .cons z ih
    ·simp only [h0,if_true,e1,e2];exact ih
   ·by_cases h1:p.1=1
    ·rcases q.get p.2 with ⟨a,b,e1,e2,z⟩|⟨e1,e2⟩
     ·simp only [h0,h1,if_true,if_false,e1,e2];simp only [show ¬ (1:Nat)=0 by decide,if_false,e1,e2];exact .cons z ih
     ·simp only [h0,h1,if_true,if_false,e1,e2];simp only [show ¬ (1:Nat)=0 by decide,if_false,e1,e2];exact ih
    ·simp only [h0,h1,if_false];exact .cons hd ih
 ·exact .nil
theorem Zwi {e:Addr} (h:EmptyAt K e) (G:Hp):VR K G (.d (.tuple [])) (.ref e):=by
 unfold VR DW;exact ⟨e,[],rfl,.inr ⟨rfl,h.tup G⟩,DWs.nil⟩
def dCallD (f:DSp) (na nk:Nat) (pick:List (Nat × Nat)) (da dk:DTA):DTE:=λ s k=>da s λ vs s1=>dk s1 λ us s2=>f (gaQ (.d (.tuple [])) na nk pick vs us) s2.w (λ v w'=>k v ⟨s2.e,w'⟩)
theorem Zhm {f:DSp}{e:Addr}{na nk:Nat}{pick:List (Nat × Nat)}{t tk:TA}{da dk:DTA} (hm:MoS f) (he:EmptyAt K e) (ha:RA K t da) (hk:RA K tk dk):RE K (tCallK (spD K f) (gaQ (V.ref e) na nk pick) E0 t tk) (dCallD f na nk pick da dk):=by
 refine ⟨λ s Q Q' z q=>ha.mo _ _ _ (λ vs s1 q=>hk.mo _ _ _ (λ us s2 q=>hm _ s2.w _ _ (λ v w' q=>z _ _ q) q) q) q,λ G s σ H Q r q=>ha.ok G s σ H _ r (ha.mo _ _ _ (λ vs s1 q G1 H1 xs e1 r1 v1=>?_) q)⟩
 refine hk.ok G1 s1 σ H1 _ r1 (hk.mo _ _ _ (λ us s2 q G2 H2 ys e2 r2 v2=>?_) q)
 refine ⟨G2,s2.w,_,r2.sub,r2.own,(v1.same e2).pickQ (Zwi he G2) v2,hm _ s2.w _ _ (λ v w' q G3 H3 x e3 s3 o3 x3=>?_) q⟩
 exact q G3 H3 x ((e1.trans e2).trans e3) ⟨s3,o3,r2.sl.same e3⟩ x3
theorem DnD.data {P:Program}{w:World}{mg:Str->Option Value}{base:Heap}{x:Str}{st:Stmt}{N ps:List Str}{k:Nat}{f:DSp}{em:Addr} (U:∃ a fd,FunD K x st a fd em/\mg x=some (.ref a)) (S:FnScope N ps (defScope st)) (len:∀ vs w k,f vs w k->vs.length=ps.length)
  (hbody:∀ (a:Addr) (cdv:Value) (A:Around) (outer:List Env) (s:Shared) (H:Hp) (E:XK),Room k (A.deeper (envOfC x (defScope st) s.heap.objs.size a cdv)) ->
   ∃ t d,PSs (cxOf CX0 P w K mg base N x (defScope st) a cdv A outer s H E).nox (defBody st) t/\RS K t d/\∀ (as:List Val) (o:OW) (q:Val->OW->Prop),f as o q->d { nx:=λ s=>∃ w',OW.le w' s.w/\q (.d .none) w',rt:=λ v s=>∃ w',OW.le w' s.w/\q v w' } ⟨startD N as,o⟩):DnD P w K mg base (k+1) x st ps (spD K f) em:=by
 refine DnD.of U S (λ vs H Q E h=>?_) (λ a cdv A outer s H vs Q E hr h=>?_)
 ·obtain ⟨G,o,as,_,_,h1,h2⟩:=h
  rw [<- h1.length];exact len _ _ _ h2
 ·obtain ⟨G,o,as,h1,h2,h3,h4⟩:=h
  obtain ⟨t,d,q1,q2,q3⟩:=hbody a cdv A outer s H E hr
  refine ⟨t,q1,q2 G ⟨startD N as,o⟩ (start N vs) H _ { nx:=λ s=>∃ w',OW.le w' s.w/\_,rt:=λ v s=>∃ w',OW.le w' s.w/\_ } ⟨h1,h2,Znw h3⟩ ⟨λ s' G' σ' H' e r z=>?_,λ v s' G' σ' H' x e r v1 z=>?_,λ _ _ _ _ _ _ z=>False.elim z,λ _ _ _ _ _ _ z=>False.elim z⟩ (q3 as o _ h4)⟩
  ·obtain ⟨w',l,z⟩:=z
   exact z G' H' .non e r.sub (r.own.le l) Zpk
  ·obtain ⟨w',l,z⟩:=z
   exact z G' H' x e r.sub (r.own.le l) v1
end
end L2
namespace L2
open PySem PySem.Spec PyProof.Rows
section
variable {src:List PyData × (OW->Prop)}{e0:List (Option Val)}{dg:DTG}{dt:DTT}{de:DTE}{k:List PyData->DS->Prop}{w:OW}{α:Type}
theorem Zc5 (xs:List α) (enc f:α->PyData) (acc0:List PyData) (hsrc:src.1=xs.map enc) (hp:src.2 w) (hl:acc0.length+xs.length<sizeLine)
  (hs:∀ x∈xs,∀ Q:PyData->OW->Prop,Q (f x) w->dg (.d (enc x)) ⟨e0,w⟩ λ s2=>de s2 λ v s1=>match v with | .d y=>ext e0 s1.e/\Q y s1.w|_=>False)
  (hk:k (acc0++xs.map f) ⟨e0,w⟩):∃ I:Nat->List PyData->OW->Prop,I 0 acc0 w/\LIt src e0 dg dYes (dEmit de) k I:=by
 refine Znj xs enc (λ x=>[f x]) acc0 hsrc hp (by rw [<- List.map_eq_flatMap,lmp];exact hl) (λ x hx acc _ Q hQ=>?_) (by rw [<- List.map_eq_flatMap];exact hk)
 exact hs x hx (λ y w=>Q (acc++[y]) w) hQ
theorem Zmr (xs:List α) (enc f:α->PyData) (c:α->Bool) (acc0:List PyData) (hsrc:src.1=xs.map enc) (hp:src.2 w) (hl:acc0.length+xs.length<sizeLine)
  (hs:∀ x∈xs,∀ Q:Option PyData->OW->Prop,Q (if c x=true then some (f x) else none) w->dg (.d (enc x)) ⟨e0,w⟩ λ s2=>dt s2 λ b s3=>if b=true then de s3 (λ v s1=>match v with | .d y=>ext e0 s1.e/\Q (some y) s1.w|_=>False) else ext e0 s3.e/\Q none s3.w)
  (hk:k (acc0++(xs.filter c).map f) ⟨e0,w⟩):∃ I:Nat->List PyData->OW->Prop,I 0 acc0 w/\LIt src e0 dg dt (dEmit de) k I:=by
 have e:∀ l:List α,(l.flatMap λ x=>if c x=true then [f x] else [])=(l.filter c).map f:=by
  intro l
  induction l with
  | nil=>rfl
  | cons x r ih=>
   rw [flatMap_cons,ih]
   cases h:c x
   ·simp [List.filter_cons,h]
   ·simp [List.filter_cons,h]
 refine Znj xs enc (λ x=>if c x=true then [f x] else []) acc0 hsrc hp ?_ (λ x hx acc _ Q hQ=>?_) (by rw [e];exact hk)
 ·rw [e,lmp]
  have:=List.length_filter_le c xs
  omega
 ·refine hs x hx (λ y w=>Q (match y with|some z=>acc++[z]|none=>acc) w) ?_
  cases h:c x
  ·simp only [h] at hQ
   simpa using hQ
  ·simp only [h] at hQ
   simpa using hQ
end
theorem Zzw {w:OW}{a:Addr}{o:Own} (h:w a=some o):w.put a o=w:=by
 funext b;unfold OW.put;split
 ·next z=>rw [z,h]
 ·rfl
theorem Zc1 {o:OW}{u:Addr}{m:Nat}{wd:Int}{k:Val->OW->Prop} (h1:m≤1000000) (h2:0<wd) (h3:wd<1073741824) (h:∀ d:Int,0≤d->d<wd->k (.d (.int d)) (o.put u (.urn (m+1)))):dsDraw [.own u,.d (.int wd)] (o.put u (.urn m)) k:=
 ⟨m,OW.put_same,⟨h1,h2,h3⟩,λ d a b=>by rw [OW.put_put];exact h d a b⟩
theorem Zdz {c:Nat}{P:List Val->Prop}{R:List Val->PyData->Prop}{o:OW}{u:Addr}{m:Nat}{as:List Val}{k:Val->OW->Prop} (h1:m+c≤1000000) (h2:P as) (h:∀ r,R as r->k (.d r) (o.put u (.urn (m+c)))):urnS c P R (.own u::as) (o.put u (.urn m)) k:=
 ⟨m,OW.put_same,⟨h1,h2⟩,λ r hr=>by rw [OW.put_put];exact h r hr⟩
theorem Zgj {src:List PyData × (OW->Prop)}{e0:List (Option Val)}{dg:DTG}{de:DTE}{k:List PyData->DS->Prop}{o:OW}{u:Addr}{m0:Nat}{α β:Type} (xs:List α) (enc:α->PyData) (f:β->PyData) (P:α->β->Prop) (c:Nat) (hsrc:src.1=xs.map enc) (hp:∀ w,src.2 w) (hl:xs.length<sizeLine)
  (hs:∀ x∈xs,∀ m,m+c≤m0+xs.length*c->∀ Q:PyData->OW->Prop,(∀ y m',P x y->m'≤m+c->Q (f y) (o.put u (.urn m')))->dg (.d (enc x)) ⟨e0,o.put u (.urn m)⟩ λ s2=>de s2 λ v s1=>match v with | .d y=>ext e0 s1.e/\Q y s1.w|_=>False)
  (hk:∀ (ys:List β) (m':Nat),ys.length=xs.length->(∀ p∈xs.zip ys,P p.1 p.2)->m'≤m0+xs.length*c->k (ys.map f) ⟨e0,o.put u (.urn m')⟩) :
  ∃ I:Nat->List PyData->OW->Prop,I 0 [] (o.put u (.urn m0))/\LIt src e0 dg dYes (dEmit de) k I:=by
 refine ⟨λ i acc w=>∃ (ys:List β) (m':Nat),acc=ys.map f/\ys.length=i/\i≤xs.length/\(∀ p∈xs.zip ys,P p.1 p.2)/\m'≤m0+i*c/\w=o.put u (.urn m'),⟨[],m0,rfl,rfl,zero_le _,by simp,by simp,rfl⟩,?_,?_,?_⟩
 ·rintro i acc w ⟨ys,m',rfl,hi,hle,_,_,rfl⟩
  exact ⟨hp _,λ _=>by rw [lmp,hi];exact lt_of_le_of_lt hle hl⟩
 ·rintro i d acc w hd ⟨ys,m',rfl,hi,hle,hP,hm,rfl⟩
  rw [hsrc,getElem?_map] at hd
  cases q:xs[i]? with
  | none=>rw [q] at hd;cases hd
  | some x=>
   rw [q] at hd;cases hd
   obtain ⟨hlt,hx⟩:=List.getElem?_eq_some_iff.mp q
   have hmul:(i+1)*c≤xs.length*c:=mul_le_mul_right _ hlt
   have hmul':(i+1)*c=i*c+c:=by rw [add_mul,one_mul]
   refine hs x (by rw [<- hx];exact getElem_mem hlt) m' (by omega) (λ y w=>∃ (zs:List β) (m2:Nat),ys.map f++[y]=zs.map f/\zs.length=i+1/\i+1≤xs.length/\(∀ p∈xs.zip zs,P p.1 p.2)/\m2≤m0+(i+1)*c/\w=o.put u (.urn m2)) λ y m2 hy hm2=>⟨ys++[y],m2,by rw [map_append];rfl,by rw [length_append,hi];rfl,hlt,λ p hp=>?_,by omega,rfl⟩
   have ez:xs.zip (ys++[y])=xs.zip ys++[(x,y)]:=by
    have e1:xs=xs.take i++x::xs.drop (i+1):=by rw [<- hx];simp
    have hti:(xs.take i).length=ys.length:=by rw [length_take,hi];omega
    conv=>lhs;rw [e1]
    rw [zip_append hti]
    have e2:xs.zip ys=(xs.take i).zip ys:=by
     conv=>lhs;rw [e1,<- append_nil ys]
     rw [zip_append hti];simp
    rw [e2];simp
   rw [ez] at hp
   rcases mem_append.mp hp with z|z
   ·exact hP p z
   ·have:p=(x,y):=by simpa using z
    rw [this];exact hy
 ·rintro acc w ⟨ys,m',rfl,hi,_,hP,hm,rfl⟩
  rw [hsrc,lmp] at hi hm
  exact hk ys m' hi hP hm
theorem Zkk {α β:Type} (xs:List α) (ys:List β) (f:α->PyData) (g:β->PyData):zipD (xs.map f) (ys.map g)=(xs.zip ys).map λ p=>.tuple [f p.1,g p.2]:=by
 unfold zipD
 rw [List.zip_map,map_map];rfl
theorem Ztc {α:Type} (xs:List α) (f:α->PyData):enumD (xs.map f)=(xs.zipIdx).map λ p=>.tuple [.int (p.2:Nat),f p.1]:=by
 unfold enumD
 rw [List.mapIdx_eq_zipIdx_map,List.zipIdx_map,map_map];rfl
theorem Zhn {α:Type} (xs:List α) (f:α->Int):uIs (xs.map λ x=>.int (f x))=some (xs.map f):=by
 have:=uIs_map (xs.map f)
 rw [map_map] at this
 exact this
theorem Zkg {α:Type} (xs:List α) (f:α->Bool):uBs (xs.map λ x=>.bool (f x))=some (xs.map f):=by
 have:=uBs_map (xs.map f)
 rw [map_map] at this
 exact this
theorem Zfe {n:Nat} (h:n≤100000):n≤sizeLine:=le_trans h (by decide)
theorem Zat {n:Nat} (h:n≤100000):n<sizeLine:=lt_of_le_of_lt h (by decide)
end L2
namespace L2
open PySem PySem.Spec PyProof.Rows
def Rp (D W:Nat) (d:PyData):Prop:=d.canLay0=true/\d.hasDict=false/\d.intsShort 101=true/\d.showable=true/\d.depth≤D/\d.weight≤W
def Rps (D W:Nat) (ds:List PyData):Prop:=PyData.canLayAll0 ds=true/\PyData.hasDictAll ds=false/\PyData.intsShortAll 101 ds=true/\PyData.showableAll ds=true/\PyData.depthAll ds≤D/\PyData.weightAll ds≤W
theorem Rps.nil {D W:Nat}:Rps D W []:=by simp [Rps,PyData.canLayAll0,PyData.depthAll,PyData.hasDictAll,PyData.intsShortAll,PyData.showableAll,PyData.weightAll]
theorem Rps.cons {D a b W:Nat}{d:PyData}{ds:List PyData} (h:Rp D a d) (q:Rps D b ds) (hW:a+1+b≤W):Rps D W (d::ds):=by
 obtain ⟨h1,h2,h3,h4,h5,h6⟩:=h
 obtain ⟨q1,q2,q3,q4,q5,q6⟩:=q
 refine ⟨by rw [PyData.canLayAll0,h1,q1];rfl,by rw [PyData.hasDictAll,h2,q2];rfl,by rw [PyData.intsShortAll,h3,q3];rfl,by rw [PyData.showableAll,h4,q4];rfl,by rw [PyData.depthAll];omega,by rw [PyData.weightAll];omega⟩
theorem Rps.map {D W:Nat}{α:Type}{f:α->PyData}:∀ l:List α,(∀ x∈l,Rp D W (f x))->Rps D ((W+1)*l.length) (l.map f)
 | [],_=>Rps.nil
 | x::l,h=>by
  refine Rps.cons (h x (mem_cons_self ..)) (Rps.map l λ y hy=>h y (mem_cons_of_mem _ hy)) ?_
  rw [length_cons,Nat.mul_add,mul_one];omega
theorem Rp.mono {D W D' W':Nat}{d:PyData} (h:Rp D W d) (hD:D≤D') (hW:W≤W'):Rp D' W' d:=by
 obtain ⟨q1,q2,q3,q4,q5,q6⟩:=h
 exact ⟨q1,q2,q3,q4,by omega,by omega⟩
theorem Rp.tup {D W:Nat}{ds:List PyData} (h:Rps D W ds):Rp (D+1) W (.tuple ds):=by
 obtain ⟨q1,q2,q3,q4,q5,q6⟩:=h
 exact ⟨by rw [PyData.canLay0];exact q1,by rw [PyData.hasDict];exact q2,by rw [PyData.intsShort];exact q3,by rw [PyData.showable];exact q4,by rw [PyData.depth];omega,by rw [PyData.weight];exact q6⟩
theorem Rp.lst {D W:Nat}{ds:List PyData} (h:Rps D W ds):Rp (D+1) W (.list ds):=by
 obtain ⟨q1,q2,q3,q4,q5,q6⟩:=h
 exact ⟨by rw [PyData.canLay0];exact q1,by rw [PyData.hasDict];exact q2,by rw [PyData.intsShort];exact q3,by rw [PyData.showable];exact q4,by rw [PyData.depth];omega,by rw [PyData.weight];exact q6⟩
theorem Rp.int {n:Int} (h:n.natAbs<2 ^ 100):Rp 0 100 (.int n):=by
 have h1:=Zq3 (w:=100) (by decide) h
 exact ⟨by rw [PyData.canLay0],by rw [PyData.hasDict],Zuk (w:=100) (by decide) (by decide) h,by rw [PyData.showable];simp;omega,by rw [PyData.depth];omega,Zsq (by decide) h⟩
theorem Rp.str {s:Str} (h:PyData.strOk s=true):Rp 0 s.cps.size (.str s):=⟨by rw [PyData.canLay0];exact h,by rw [PyData.hasDict],by rw [PyData.intsShort],by rw [PyData.showable],by rw [PyData.depth];omega,by rw [PyData.weight];exact le_refl _⟩
theorem Rp.tI {ns:List Int} (h:∀ x∈ns,x.natAbs<2 ^ 100):Rp 1 (101*ns.length) (tI ns):=Rp.tup (Rps.map ns λ x hx=>Rp.int (h x hx))
theorem Rp.ok {D W:Nat}{d:PyData} (h:Rp D W d) (hD:D≤40) (hW:W≤100000):okR d:=by
 obtain ⟨q1,q2,q3,q4,q5,q6⟩:=h
 exact ⟨q4,q2,by omega,Zwa q1 q3 (by omega)⟩
end L2
namespace L2
open PySem PySem.Spec PyProof.Rows
section
variable {X:Cx}{a b c:Expr}{pos:Pos}{ta tb tc:TE}
theorem Zja {op op':CmpOp}{r r':R2} (ho:OpR X (compareOp op) r) (ho':OpR X (compareOp op') r') (ha:IPE X a ta) (hb:IPE X b tb) (hc:IPE X c tc)
  (hm:lastMarks [op,op'] [b,c]=false:=by with_unfolding_all rfl):IPT X (.Compare a [op,op'] [b,c] pos) (tTest (tChain r r' ta tb tc)):=by
 simp only [Zb4,Zb7] at *
 exact Zvx ho ho' ha hb hc hm
end
section
variable {K:PySem.W.Frag}
def dChain (f g:Val->Val->DTE) (da db dc:DTE):DTE:=λ s k=>da s λ v s1=>db s1 λ w s2=>f v w s2 λ u s3=>match u with
 | .d (.bool c)=>if c=true then dc s3 λ w' s4=>g w w' s4 k else k (.d (.bool false)) s3
 | _=>False
theorem Zns {r r':R2}{f g:Val->Val->DTE}{ta tb tc:TE}{da db dc:DTE} (hf:RO K r f) (hg:RO K r' g) (ha:RE K ta da) (hb:RE K tb db) (hc:RE K tc dc):RE K (tChain r r' ta tb tc) (dChain f g da db dc):=by
 refine ⟨λ s Q Q' h q=>ha.mo _ _ _ (λ v s1 q1=>hb.mo _ _ _ (λ w s2 q2=>hf.mo v w _ _ _ (λ u s3 q3=>?_) q2) q1) q,λ G s σ H Q r h=>?_⟩
 ·split at q3
  ·split at q3
   ·next c=>exact (if_pos c).symm▸hc.mo _ _ _ (λ w' s4 q4=>hg.mo _ _ _ _ _ h q4) q3
   ·next c=>exact (if_neg c).symm▸h _ _ q3
  ·exact q3.elim
 refine ha.ok G s σ H _ r (ha.mo _ _ _ (λ v s1 q G1 H1 x e1 r1 v1=>?_) h)
 refine hb.ok G1 s1 σ H1 _ r1 (hb.mo _ _ _ (λ w s2 q2 G2 H2 y e2 r2 v2=>?_) q)
 refine hf.ok G2 s2 σ H2 x y v w _ r2 (v1.same e2) v2 (hf.mo v w _ _ _ (λ u s3 q3 G3 H3 z e3 r3 v3=>?_) q2)
 split at q3
 ·next k=>
  refine ⟨k,Zo4 v3,?_⟩
  split at q3
  ·next c=>
   rw [if_pos c]
   exact hc.ok G3 s3 σ H3 _ r3 (hc.mo _ _ _ (λ w' s4 q4 G4 H4 y' e4 r4 v4=>hg.ok G4 s4 σ H4 y y' w w' Q r4 ((v2.same e3).same e4) v4 (hg.mo _ _ _ _ _ (λ u s5 q5=>q5.same (((e1.trans e2).trans e3).trans e4)) q4)) q3)
  ·next c=>
   rw [if_neg c]
   exact q3 G3 H3 (.bl false) ((e1.trans e2).trans e3) r3 Zhf
 ·exact q3.elim
end
section
variable {prog:Program}{w:World}{κ:Type} [DecidableEq κ] {knd:HeapKind prog w κ}{A:Around}{E:Value->Shared->Prop}{s:Shared}
theorem Zq5 (d:Addr) (hd:(d == sysModules)=false) :
  MeetsIn prog w (Builtin.«dict.__len__» ⟨[.ref d],[]⟩) (λ _ R s=>∃ xs:List (κ × Addr × Value),s.heap.DictOfH knd d xs/\R (.ok (.ret (.int xs.length s.toks))) { s with toks:=s.toks+1 }):=
 .of_wp λ A R s ⟨xs,hm,h⟩=>by
  obtain ⟨o,es,ep,ho,hc,hdat,he,_⟩:=hm
  show wpAny _ _ (dictSize d >>= _) _ _ s
  unfold dictSize
  refine wpAny_bind (wpAny_bind (wpAny_dictEntries ho hdat (wpAny_pure ?_)))
  show wpAny _ _ (Builtin.Dict.pendingCount d >>= _) _ _ s
  refine wpAny_bind (wpAny_pendingCount_other hd ?_)
  refine wpAny_ret_mkInt ?_
  rw [Nat.add_zero,size_of_entries he];exact h
theorem Ztq {d:Addr}{xs:List (κ × Addr × Value)}{Q:Value->Shared->Prop} (hd:(d == sysModules)=false) (hm:s.heap.DictOfH knd d xs) (hfit:(xs.length:Int)<2 ^ 63)
  (h:Q (.int xs.length (s.toks+1)) { s with toks:=s.toks+1+1 }):wpAny (model prog w) A (call (.builtin "len") [.ref d]) Q E s:=by
 refine Calls.call_function_entry kind_len plain_len entry_len (args_len1 _) ?_
 unfold Builtin.«len»
 refine wpAny_bind (m:=oneArg "len" _) (wpAny_pure ?_)
 refine wpAny_bind (m:=callSpecial? (.ref d) (Str.ofString "__len__")) (wpAny_callSpecial?_slot (name:=Str.ofString "__len__") hm.typeIs F.slot_dict_len
  (call_meetsIn F.slot_dict_len hm.typeIs F.entry_dict_len (F.args_dict_len_1 _) (Zq5 (knd:=knd) d hd) ⟨xs,hm,?_⟩))
 show wpAny _ _ _ _ _ { s with toks:=s.toks+1 }
 refine wpAny_bind (wpAny_holding (wpAny_pure ?_))
 refine wpAny_bind (wpAny_letGo ?_)
 show wpAny _ _ (if ((xs.length:Nat):Int)<0 then _ else _) _ _ _
 rw [if_neg (by omega)]
 show wpAny _ _ (if ((xs.length:Nat):Int) ≥ 2 ^ 63 then _ else _) _ _ _
 rw [if_neg (by omega)]
 exact wpAny_bind (wpAny_mkInt (wpAny_pure ⟨_,rfl,h⟩))
end
theorem Zpn {X:Cx}:CallR X (.builtin "len") (λ xs H Q=>∃ p kvs,xs=[.ref p]/\H p=some (.dT kvs)/\Q (.int kvs.length) H):=by
 intro pins s σ H xs us Q I r h
 obtain ⟨p,kvs,rfl,hp,q⟩:=h
 obtain ⟨u,rfl,rx⟩:=vals1 r
 cases rx
 have hn:=line63
 obtain ⟨hz,hs,ys,hk,hm⟩:=Zxa I.hok hp
 have hlen:kvs.length=ys.length:=Paired.length hk
 exact Ztq hs hm (by omega) ⟨.int kvs.length,H,I.tok _,⟨s.toks+1,by rw [hlen]⟩,q⟩
section
variable {K:PySem.W.Frag}
def gLenD:Val->DTE:=λ v s k=>match rdK s.w v with|some kvs=>k (.d (.int kvs.length)) s|none=>False
theorem Zy9:RC K (λ xs H Q=>∃ p kvs,xs=[.ref p]/\H p=some (.dT kvs)/\Q (.int kvs.length) H) (f1 gLenD):=by
 refine rc1 (λ v s Q Q' h q=>?_) (λ G s σ H x v Q r v1 h=>?_)
 ·unfold gLenD at q |-;split at q
  ·exact h _ _ q
  ·exact q.elim
 ·unfold gLenD at h;split at h
  ·next kvs e=>
   obtain ⟨a,ks,rfl,h1,h2⟩:=r.rdK v1 e
   have hl:kvs.length=ks.length:=h2.len
   exact ⟨a,ks,rfl,h1,by rw [<- hl];exact h.here r Zfb⟩
  ·exact h.elim
end
end L2
namespace L2
open PySem PySem.Spec PyProof.Rows
variable {K:PySem.W.Frag}
theorem Zyh {i j:Nat}{t:TA}{d:DTA} (h:RA K t d):RS K (tAsg (tTup t) (gTup K 2 (gCons (gName i) (gCons (gName j) gNil)))) (dPar i j d):=λ G s σ H D E r p q=>
 h.ok G s σ H _ r (h.mo _ _ _ (λ vs s1 q G1 H1 xs e1 r1 v1=>by
  split at q
  ·obtain ⟨x,y,rfl,v2,v3⟩:=v1.two
   refine ⟨show 2≤sizeLine by decide,λ pp hpp=>?_⟩
   have r2:=r1.new hpp (.tup [x,y])
   have e2:Same G1 (upd G1 pp (.tup [x,y])):=Zdb (r1.sub.free hpp) _
   exact ⟨pp,[x,y],rfl,SqT.of Zbw,rfl,x,[y],rfl,y,[],rfl,rfl,p.nx _ _ _ _ (e1.trans e2) ((r2.set (v2.same e2) i).set (v3.same e2) j) q⟩
  ·exact q.elim) q)
end L2
namespace L2
open PySem PySem.Spec PyProof.Rows
section
variable {K:PySem.W.Frag}
end
section
variable {X:Cx}{o e f:Expr}{apos cpos:Pos}{td ty tx:TE}
end
end L2
namespace L2
open PySem PySem.W PySem.W.ZRun PySem.W.X PySem.Spec PyProof.Rows
end L2
namespace L2
open PySem PySem.Spec PyProof.Rows
open AutoSeq1 (wpAny_loadPart')
section
variable {prog:Program}{w:World}{A:Around}{E:Value->Shared->Prop}{s:Shared}
end
section
variable {X:Cx}{tg:Expr}
end
section
variable {K:PySem.W.Frag}{G G' H H':Hp}{s:DS}{σ:St}
def dItRv (d:DTA):DTI:=λ s k=>d s λ vs s1=>match vs with | [.d (.tuple ds)]=>k (ds.reverse,noP) s1|_=>False
end
end L2
namespace L2
open PySem PySem.Spec PyProof.Rows
open AutoSeq1 (wpAny_loadPart')
section
variable {prog:Program}{w:World}{A:Around}{E:Value->Shared->Prop}{s:Shared}
end
section
variable {X:Cx}
end
section
variable {K:PySem.W.Frag}
def dTupRev (d:DTA):DTE:=λ s k=>d s λ vs s1=>match vs with | [v]=>(match rdL s1.w v with|some ds=>k (.d (.tuple ds.reverse)) s1|none=>False)|_=>False
end
end L2
namespace L2
open PySem PySem.Spec PyProof.Rows
open AutoSeq1 (wpAny_loadPart')
section
variable {prog:Program}{w:World}{A:Around}{E:Value->Shared->Prop}{s:Shared}
end
end L2
namespace L2
open PySem PySem.Spec PyProof.Rows
open AutoSeq1 (wpAny_loadPart')
section
variable {prog:Program}{w:World}{A:Around}{E:Value->Shared->Prop}{s:Shared}
end
def Iez (K:PySem.W.Frag) (t1 t2:Bool) (a b:Addr):It:=
 ⟨λ i H=>∃ xs ys x y,SqB K t1 H a xs/\SqB K t2 H b ys/\xs[i]? = some x/\ys[i]? = some y,
   λ i H v H'=>∃ p q x y,v = .ref q/\H p=none/\H q=none/\q≠p/\H' = upd (upd H p (.tup [x,y])) q (.tup [.int i,.ref p])/\∀ xs ys,SqB K t1 H a xs->SqB K t2 H b ys->xs[i]? = some x/\ys[i]? = some y,
   λ i H=>∃ xs ys,SqB K t1 H a xs/\SqB K t2 H b ys/\(xs.length≤i \/ ys.length≤i)⟩
section
variable {X:Cx}
end
section
variable {K:PySem.W.Frag}{G G' H H':Hp}{s:DS}{σ:St}
def ezD (ds es:List PyData):List PyData:=enumD (zipD ds es)
theorem JOk.ez {t1 t2:Bool}{a b:Addr}{xs ys:List V}{ds es:List PyData} (h:SqD K t1 G a xs) (h':SqD K t2 G b ys) (D:DWs K G ds xs) (D':DWs K G es ys):JOk K (Iez K t1 t2 a b) G (λ _=>True) (ezD ds es):=by
 intro G1 s σ H i e _ r
 have hs:=h.sq (e.trans r.sub)
 have hs':=h'.sq (e.trans r.sub)
 refine ⟨λ d hd=>?_,λ hl=>⟨xs,ys,hs,hs',?_⟩⟩
 ·unfold ezD enumD zipD at hd
  rw [List.getElem?_mapIdx,getElem?_map] at hd
  cases q:(ds.zip es)[i]? with
  | none=>rw [q] at hd;cases hd
  | some p=>
   rw [q] at hd
   cases hd
   obtain ⟨q1,q2⟩:=getElem?_zip_eq_some.mp q
   obtain ⟨x,h1,h2⟩:=D.get' q1
   obtain ⟨y,h3,h4⟩:=D'.get' q2
   refine ⟨⟨xs,ys,x,y,hs,hs',h1,h3⟩,λ v H' hy=>?_⟩
   obtain ⟨p',q',x',y',rfl,hp,hq,hne,rfl,hxy⟩:=hy
   obtain ⟨z1,z2⟩:=hxy xs ys hs hs'
   rw [h1] at z1;cases z1
   rw [h3] at z2;cases z2
   have hg:=r.sub.free hp
   have S:=Zdb hg (.tup [x,y])
   have r1:=r.new hp (.tup [x,y])
   have hq1:upd H p' (.tup [x,y]) q' = none:=by rw [Zbk hne];exact hq
   have hg2:=r1.sub.free hq1
   have S2:=Zdb hg2 (.tup [.int (i:Nat),.ref p'])
   refine ⟨_,S.trans S2,r1.new hq1 _,DW.tup Zbw (DWs.cons DW.int (DWs.cons ?_ DWs.nil))⟩
   exact (DW.tup Zbw (DWs.cons (h2.same (e.trans S)) (DWs.cons (h4.same (e.trans S)) DWs.nil))).same S2
 ·unfold ezD enumD zipD at hl
  rw [List.length_mapIdx,lmp,length_zip,D.length,D'.length] at hl
  omega
def dEz (t1 t2:Bool) (d:DTA):DTI:=λ s k=>d s λ vs s1=>match vs with | [v,w]=>(match seqD t1 v,seqD t2 w with|some ds,some es=>k (ezD ds es,noP) s1|_,_=>False)|_=>False
end
end L2
namespace L2
open PySem PySem.Spec PyProof.Rows
section
variable {X:Cx}
end
section
variable {K:PySem.W.Frag}{G:Hp}
def dLstRng (o:Bool) (d:DTA):DTE:=λ s k=>d s λ vs s1=>match vs with | [.d (.int j)]=>(-(2 ^ 62)≤j/\j≤100000)/\nl o (rngD 0 j.toNat) s1 k|_=>False
end
end L2
namespace L2
open PySem PySem.Spec PyProof.Rows
open AutoSeq1 (wpAny_loadPart')
section
variable {prog:Program}{w:World}{A:Around}{E:Value->Shared->Prop}{s:Shared}
end
end L2
namespace L2
open PySem PySem.Spec PyProof.Rows
open AutoSeq1 (wpAny_loadPart')
section
variable {prog:Program}{w:World}{A:Around}{E:Value->Shared->Prop}{s:Shared}
end
end L2
namespace L2
open PySem PySem.Spec PyProof.Rows
open AutoSeq1 (wpAny_loadPart')
section
variable {prog:Program}{w:World}{A:Around}{E:Value->Shared->Prop}{s:Shared}
end
end L2
namespace L2
open PySem PySem.Spec PyProof.Rows
section
variable {X:Cx}
end
section
variable {K:PySem.W.Frag}
def lyD (l:List (List Int × PyData)):List (List Int × PyData):=l.foldl (λ d q=>dput d q.1 q.2) []
def dDictOf (di:DTI):DTE:=λ s k=>di s λ src s1=>∃ l:List (List Int × PyData),(∀ w,src.2 w)/\src.1=l.map (λ q=>.tuple [tI q.1,q.2])/\(∀ q∈l,q.1≠[])/\l.length<sizeLine/\k (.d (.dict (kvK (lyD l)))) s1
end
end L2
namespace L2
open PySem PySem.Spec PyProof.Rows
theorem Dn.dataI {K:W.Frag}{P:Program}{w:World}{mg:Str->Option Value}{base:Heap}{x:Str}{st:Stmt}{N ps:List Str}{k:Nat}{f:DSp} (U:∃ a fd,Fun K x x st a fd/\mg x=some (.ref a)) (S:FnScope N ps (defScope st)) (len:∀ vs w k,f vs w k->vs.length=ps.length)
  (hbody:∀ (a:Addr) (cdv:Value) (A:Around) (outer:List Env) (s:Shared) (H:Hp) (E:XK),Room k (A.deeper (envOfC x (defScope st) s.heap.objs.size a cdv)) ->
   ∃ t d,IPSs (cxOf CX0 P w K mg base N x (defScope st) a cdv A outer s H E).nox (defBody st) t/\RS K t d/\∀ (as:List Val) (o:OW) (q:Val->OW->Prop),f as o q->d { nx:=λ s=>∃ w',OW.le w' s.w/\q (.d .none) w',rt:=λ v s=>∃ w',OW.le w' s.w/\q v w' } ⟨startD N as,o⟩):Dn P w K mg base (k+1) x st ps (spD K f):=
 Dn.data U S len λ a cdv A outer s H E hr=>(hbody a cdv A outer s H E hr).elim λ t h=>h.elim λ d h=>⟨t,d,IPSs.get h.1,h.2⟩
section
variable {X:Cx}{K:W.Frag}{G:Hp}
end
end L2
namespace Tim
open PySem PySem.W PyProof.Rows
variable {lt:Nat->Nat->Bool}{N:Nat}{α β α' β':Type}
end Tim
namespace L2
open PySem PySem.Spec PyProof.Rows
abbrev Pr:=Int × List Int
def TpP (h:Heap) (v:Value) (x:Pr):Prop:=∃ a o t y k,v = .ref a/\h.get? a=some o/\o.cls = .type "tuple"/\o.data = .seq (List.toArray [.int x.1 t,y]) k/\TpI h y x.2
theorem TpP.keep {h h':Heap}{v:Value}{x:Pr} (q:TpP h v x) (k:∀ b o,o.cls = .type "tuple"->h.get? b=some o->h'.get? b=some o):TpP h' v x:=by
 obtain ⟨a,o,t,y,n,e,h1,h2,h3,h4⟩:=q
 exact ⟨a,o,t,y,n,e,k _ _ h2 h1,h2,h3,h4.keep k⟩
section
variable {prog:Program}{w:World}{A:Around}{E:Value->Shared->Prop}{s:Shared}
def PrsV (h:Heap) (vs:List Value) (prs:List Pr):Prop:=vs.length=prs.length/\∀ (i:Nat) v,vs[i]? = some v->∃ x,prs[i]? = some x/\TpP h v x
theorem PrsV.keep {h h':Heap}{vs:List Value}{prs:List Pr} (q:PrsV h vs prs) (k:∀ b o,o.cls = .type "tuple"->h.get? b=some o->h'.get? b=some o):PrsV h' vs prs:=
 ⟨q.1,λ i v e=>by obtain ⟨x,h1,h2⟩:=q.2 i v e;exact ⟨x,h1,h2.keep k⟩⟩
end
section
variable {X:Cx}{K:W.Frag}{G:Hp}
end
end L2
namespace L2
open PySem PySem.Spec PyProof.Rows
section
variable {X:Cx}{K:W.Frag}{G:Hp}
end
end L2
namespace L2
open PySem PySem.Spec PyProof.Rows
section
variable {X:Cx}{tg:Expr}
end
section
variable {K:PySem.W.Frag}{G G' H H':Hp}{s:DS}{σ:St}
end
end L2
namespace L2
open PySem PySem.Spec PyProof.Rows
section
variable {prog:Program}{w:World}{A:Around}{E:Value->Shared->Prop}{s:Shared}
end
section
variable {X:Cx}{K:W.Frag}{G:Hp}
end
end L2
namespace L2
open PySem PySem.Spec PyProof.Rows
open AutoSeq1 (wpAny_loadPart')
section
variable {prog:Program}{w:World}{A:Around}{E:Value->Shared->Prop}{s:Shared}
end
end L2
namespace L2
open PySem PySem.Spec PyProof.Rows
section
variable {prog:Program}{w:World}{A:Around}{E:Value->Shared->Prop}{s:Shared}
end
section
variable {X:Cx}
end
section
variable {K:PySem.W.Frag}
end
end L2
local macro_rules
 | `(tactic| simp!) => `(tactic| simp! only [])
 | `(tactic| simp! only [$xs:simpLemma,*]) => `(tactic| ((try dsimp only [L2.dAsg, L2.dLst, L2.dCons, L2.dNil, L2.dTup, L2.unD, L2.nl, L2.startD, L2.tgN, L2.tgTup, L2.tgCons, L2.tgNil, L2.DS.put, L2.DS.set, L2.dVar, L2.dC, L2.dRet, L2.dRetN, L2.dIfE, L2.dTru, L2.truD, L2.rdA, L2.rdT, L2.rdL, L2.rdM, L2.rdD, L2.dUn, L2.fU, L2.dOp, L2.fI0, L2.fB0, L2.fI, L2.fEq, L2.fEqD, L2.fInD, L2.fCatT, L2.fCat, L2.fRep, L2.fIxL, L2.fIxT, L2.dYes, L2.dNext, L2.dTest, L2.dAnd, L2.dOr, L2.dNot, L2.dAndV, L2.dOrV, L2.dNotV, L2.dCB, L2.f1, L2.f2, L2.gLen, L2.gTupOf, L2.gListOf, L2.gSum, L2.gAll, L2.gRepr, L2.fMax2, L2.fMin2, L2.fIsi, L2.gInt1, L2.dDrop, L2.dItL, L2.dItT, L2.dRng1, L2.dRng2, L2.dZip, L2.dEnum, L2.seqD, L2.dPar, L2.dSl, L2.dNoP, L2.dP, L2.fSlT, L2.fSlL, L2.dRev, L2.dEmit, L2.dCall, L2.dCallK, L2.noP, L2.captD, L2.ext, map_cons, map_nil, cons_append, nil_append, length_cons, length_nil, replicate_succ, List.replicate_zero, List.set_cons_zero, List.set_cons_succ, getElem?_cons_zero, getElem?_cons_succ, List.getElem?_nil, map_some, bind_some, Option.bind_none, Option.join_some, Option.join_none, Nat.reduceSub, Nat.reduceAdd, Nat.reduceLeDiff, false_eq_true, if_true, if_false, reduceIte, ite_true, ite_false, true_and, and_true, Bool.not_true, Bool.not_false, L2.OW.put_same, L2.OW.put_put, L2.dComp, L2.dApp, L2.dFrz, L2.gMax, L2.gMin, L2.dCallD, L2.gaQ, L2.dChain, L2.isNoneD, L2.fIsN, L2.tyN, L2.rdK, L2.dDGet, L2.dLoop, L2.dFrzD, L2.dDNew, L2.dBreak, L2.gSortI, L2.gLenD, L2.fRepT, L2.dIdx, L2.dExt, L2.dDisp1, L2.dDPut, L2.dItRv, L2.dTupRev, L2.dLstRng, L2.dDictOf, L2.dEz, L2.dDComp, L2.dCont, L2.dAugI, L2.dFor, L2.dWhile, L2.Zr8, L2.Zwv, L2.Zww, L2.iteTT, L2.iteFF, L2.Zwp, L2.Zwo, L2.unK_kvK, decide_true, $xs,*]); (try simp only [L2.dAsg, L2.dLst, L2.dCons, L2.dNil, L2.dTup, L2.unD, L2.nl, L2.startD, L2.tgN, L2.tgTup, L2.tgCons, L2.tgNil, L2.DS.put, L2.DS.set, L2.dVar, L2.dC, L2.dRet, L2.dRetN, L2.dIfE, L2.dTru, L2.truD, L2.rdA, L2.rdT, L2.rdL, L2.rdM, L2.rdD, L2.dUn, L2.fU, L2.dOp, L2.fI0, L2.fB0, L2.fI, L2.fEq, L2.fEqD, L2.fInD, L2.fCatT, L2.fCat, L2.fRep, L2.fIxL, L2.fIxT, L2.dYes, L2.dNext, L2.dTest, L2.dAnd, L2.dOr, L2.dNot, L2.dAndV, L2.dOrV, L2.dNotV, L2.dCB, L2.f1, L2.f2, L2.gLen, L2.gTupOf, L2.gListOf, L2.gSum, L2.gAll, L2.gRepr, L2.fMax2, L2.fMin2, L2.fIsi, L2.gInt1, L2.dDrop, L2.dItL, L2.dItT, L2.dRng1, L2.dRng2, L2.dZip, L2.dEnum, L2.seqD, L2.dPar, L2.dSl, L2.dNoP, L2.dP, L2.fSlT, L2.fSlL, L2.dRev, L2.dEmit, L2.dCall, L2.dCallK, L2.noP, L2.captD, L2.ext, map_cons, map_nil, cons_append, nil_append, length_cons, length_nil, replicate_succ, List.replicate_zero, List.set_cons_zero, List.set_cons_succ, getElem?_cons_zero, getElem?_cons_succ, List.getElem?_nil, map_some, bind_some, Option.bind_none, Option.join_some, Option.join_none, Nat.reduceSub, Nat.reduceAdd, Nat.reduceLeDiff, false_eq_true, if_true, if_false, reduceIte, ite_true, ite_false, true_and, and_true, Bool.not_true, Bool.not_false, L2.OW.put_same, L2.OW.put_put, L2.dComp, L2.dApp, L2.dFrz, L2.gMax, L2.gMin, L2.dCallD, L2.gaQ, L2.dChain, L2.isNoneD, L2.fIsN, L2.tyN, L2.rdK, L2.dDGet, L2.dLoop, L2.dFrzD, L2.dDNew, L2.dBreak, L2.gSortI, L2.gLenD, L2.fRepT, L2.dIdx, L2.dExt, L2.dDisp1, L2.dDPut, L2.dItRv, L2.dTupRev, L2.dLstRng, L2.dDictOf, L2.dEz, L2.dDComp, L2.dCont, L2.dAugI, L2.dFor, L2.dWhile, L2.Zr8, L2.Zwv, L2.Zww, L2.iteTT, L2.iteFF, L2.Zwp, L2.Zwo, L2.unK_kvK, decide_true, $xs,*]); (try ((with_reducible refine L2.Ztn ?_); (try simp! only [$xs,*])))))
namespace Mine
open PySem PySem.Spec PyProof.Rows L2
def top (i:Nat):Stmt:=PySem.Challenge.pw_bundleclocks_k12_whole_parts_and_turns_o.main.body.getD i (.Pass ⟨0,0,0,0⟩)
abbrev sCost:Stmt:=top 1
abbrev sTogether:Stmt:=top 2
abbrev sToldBundles:Stmt:=top 4
abbrev sWeight:Stmt:=top 5
abbrev sEnds:Stmt:=top 6
abbrev sStepsOf:Stmt:=top 7
abbrev sArcsOf:Stmt:=top 8
abbrev sShorten:Stmt:=top 9
abbrev sShortestWays:Stmt:=top 10
abbrev sRingBehind:Stmt:=top 11
abbrev sWorths:Stmt:=top 12
abbrev sLawUrn:Stmt:=top 14
abbrev sLawDraw:Stmt:=top 15
abbrev sLawWhole:Stmt:=top 16
abbrev sLawAmounts:Stmt:=top 17
abbrev sLawBundle:Stmt:=top 18
abbrev sLawPrices:Stmt:=top 19
abbrev sLawCost:Stmt:=top 20
abbrev sLawAllWithin:Stmt:=top 21
abbrev sLawTaste:Stmt:=top 22
abbrev sLawLiked:Stmt:=top 23
abbrev sLawWanted:Stmt:=top 24
abbrev sLawEdges:Stmt:=top 25
abbrev sLawHeights:Stmt:=top 26
abbrev sLawSmall:Stmt:=top 27
abbrev sLawTold:Stmt:=top 28
abbrev sLawIsRing:Stmt:=top 29
abbrev sLawHistory:Stmt:=top 30
abbrev sLawMeant:Stmt:=top 31
abbrev sLawAnyRows:Stmt:=top 32
abbrev sLawAreWorths:Stmt:=top 33
abbrev sLawAreAny:Stmt:=top 34
abbrev sLawIsShown:Stmt:=top 35
abbrev sLawOften:Stmt:=top 36
abbrev sLawPart:Stmt:=top 37
abbrev sLawTimes:Stmt:=top 38
abbrev sLawTurned:Stmt:=top 39
abbrev sLawSameWord:Stmt:=top 40
abbrev sLawMovedRing:Stmt:=top 41
abbrev sLawPartsRight:Stmt:=top 42
abbrev sLaw:Stmt:=top 43
structure Txt (K:PySem.W.Frag) (mg:Str->Option Value):Prop where
 f_cost:∃ f fd,Fun K "cost" "cost" sCost f fd/\mg "cost" = some (.ref f)
 f_together:∃ f fd,Fun K "together" "together" sTogether f fd/\mg "together" = some (.ref f)
 f_told_bundles:∃ e,EmptyAt K e/\∃ f fd,FunD K "told_bundles" sToldBundles f fd e/\mg "told_bundles" = some (.ref f)
 f_weight:∃ f fd,Fun K "weight" "weight" sWeight f fd/\mg "weight" = some (.ref f)
 f_ends:∃ f fd,Fun K "ends" "ends" sEnds f fd/\mg "ends" = some (.ref f)
 f_steps_of:∃ f fd,Fun K "steps_of" "steps_of" sStepsOf f fd/\mg "steps_of" = some (.ref f)
 f_arcs_of:∃ f fd,Fun K "arcs_of" "arcs_of" sArcsOf f fd/\mg "arcs_of" = some (.ref f)
 f_shorten:∃ f fd,Fun K "shorten" "shorten" sShorten f fd/\mg "shorten" = some (.ref f)
 f_shortest_ways:∃ f fd,Fun K "shortest_ways" "shortest_ways" sShortestWays f fd/\mg "shortest_ways" = some (.ref f)
 f_ring_behind:∃ f fd,Fun K "ring_behind" "ring_behind" sRingBehind f fd/\mg "ring_behind" = some (.ref f)
 f_worths:∃ e,EmptyAt K e/\∃ f fd,FunD K "worths" sWorths f fd e/\mg "worths" = some (.ref f)
 f_law_urn:∃ f fd,Fun K "_law_urn" "_law_urn" sLawUrn f fd/\mg "_law_urn" = some (.ref f)
 f_law_draw:∃ f fd,Fun K "_law_draw" "_law_draw" sLawDraw f fd/\mg "_law_draw" = some (.ref f)
 f_law_whole:∃ f fd,Fun K "_law_whole" "_law_whole" sLawWhole f fd/\mg "_law_whole" = some (.ref f)
 f_law_amounts:∃ f fd,Fun K "_law_amounts" "_law_amounts" sLawAmounts f fd/\mg "_law_amounts" = some (.ref f)
 f_law_bundle:∃ f fd,Fun K "_law_bundle" "_law_bundle" sLawBundle f fd/\mg "_law_bundle" = some (.ref f)
 f_law_prices:∃ f fd,Fun K "_law_prices" "_law_prices" sLawPrices f fd/\mg "_law_prices" = some (.ref f)
 f_law_cost:∃ f fd,Fun K "_law_cost" "_law_cost" sLawCost f fd/\mg "_law_cost" = some (.ref f)
 f_law_all_within:∃ f fd,Fun K "_law_all_within" "_law_all_within" sLawAllWithin f fd/\mg "_law_all_within" = some (.ref f)
 f_law_taste:∃ f fd,Fun K "_law_taste" "_law_taste" sLawTaste f fd/\mg "_law_taste" = some (.ref f)
 f_law_liked:∃ f fd,Fun K "_law_liked" "_law_liked" sLawLiked f fd/\mg "_law_liked" = some (.ref f)
 f_law_wanted:∃ f fd,Fun K "_law_wanted" "_law_wanted" sLawWanted f fd/\mg "_law_wanted" = some (.ref f)
 f_law_edges:∃ f fd,Fun K "_law_edges" "_law_edges" sLawEdges f fd/\mg "_law_edges" = some (.ref f)
 f_law_heights:∃ f fd,Fun K "_law_heights" "_law_heights" sLawHeights f fd/\mg "_law_heights" = some (.ref f)
 f_law_small:∃ f fd,Fun K "_law_small" "_law_small" sLawSmall f fd/\mg "_law_small" = some (.ref f)
 f_law_told:∃ f fd,Fun K "_law_told" "_law_told" sLawTold f fd/\mg "_law_told" = some (.ref f)
 f_law_is_ring:∃ f fd,Fun K "_law_is_ring" "_law_is_ring" sLawIsRing f fd/\mg "_law_is_ring" = some (.ref f)
 f_law_history:∃ f fd,Fun K "_law_history" "_law_history" sLawHistory f fd/\mg "_law_history" = some (.ref f)
 f_law_meant:∃ f fd,Fun K "_law_meant" "_law_meant" sLawMeant f fd/\mg "_law_meant" = some (.ref f)
 f_law_any_rows:∃ f fd,Fun K "_law_any_rows" "_law_any_rows" sLawAnyRows f fd/\mg "_law_any_rows" = some (.ref f)
 f_law_are_worths:∃ f fd,Fun K "_law_are_worths" "_law_are_worths" sLawAreWorths f fd/\mg "_law_are_worths" = some (.ref f)
 f_law_are_any:∃ f fd,Fun K "_law_are_any" "_law_are_any" sLawAreAny f fd/\mg "_law_are_any" = some (.ref f)
 f_law_is_shown:∃ f fd,Fun K "_law_is_shown" "_law_is_shown" sLawIsShown f fd/\mg "_law_is_shown" = some (.ref f)
 f_law_often:∃ f fd,Fun K "_law_often" "_law_often" sLawOften f fd/\mg "_law_often" = some (.ref f)
 f_law_part:∃ f fd,Fun K "_law_part" "_law_part" sLawPart f fd/\mg "_law_part" = some (.ref f)
 f_law_times:∃ f fd,Fun K "_law_times" "_law_times" sLawTimes f fd/\mg "_law_times" = some (.ref f)
 f_law_turned:∃ f fd,Fun K "_law_turned" "_law_turned" sLawTurned f fd/\mg "_law_turned" = some (.ref f)
 f_law_same_word:∃ f fd,Fun K "_law_same_word" "_law_same_word" sLawSameWord f fd/\mg "_law_same_word" = some (.ref f)
 f_law_moved_ring:∃ f fd,Fun K "_law_moved_ring" "_law_moved_ring" sLawMovedRing f fd/\mg "_law_moved_ring" = some (.ref f)
 f_law_parts_right:∃ f fd,Fun K "_law_parts_right" "_law_parts_right" sLawPartsRight f fd/\mg "_law_parts_right" = some (.ref f)
 f_law:∃ f fd,Fun K "law" "law" sLaw f fd/\mg "law" = some (.ref f)
 z_abs:mg "abs" = none
 z_all:mg "all" = none
 z_bool:mg "bool" = none
 z_enumerate:mg "enumerate" = none
 z_int:mg "int" = none
 z_isinstance:mg "isinstance" = none
 z_len:mg "len" = none
 z_max:mg "max" = none
 z_min:mg "min" = none
 z_range:mg "range" = none
 z_repr:mg "repr" = none
 z_sorted:mg "sorted" = none
 z_str:mg "str" = none
 z_sum:mg "sum" = none
 z_tuple:mg "tuple" = none
 z_zip:mg "zip" = none
theorem Zyj:FnScope ["prices", "bundle"] ["prices", "bundle"] (defScope sCost):=⟨rfl,rfl,rfl,by decide +kernel,rfl,by decide +kernel,by decide +kernel⟩
theorem Zst:BindsAll "cost" sCost ["prices", "bundle"]:=λ _ _ _ _ _ _ us hl=>by
 obtain ⟨_,_,rfl⟩:=L2.lenE2 hl
 rfl
theorem Zqn:FnScope ["some", "kinds"] ["some", "kinds"] (defScope sTogether):=⟨rfl,rfl,rfl,by decide +kernel,rfl,by decide +kernel,by decide +kernel⟩
theorem Ze9:FnScope ["rounds", "sealed", "kinds", "bundles", "told", "bundle"] ["rounds", "sealed", "kinds"] (defScope sToldBundles):=⟨rfl,rfl,rfl,by decide +kernel,rfl,by decide +kernel,by decide +kernel⟩
theorem Zg6:FnScope ["step", "rounds", "sealed", "word", "place", "bundle", "prices", "best"] ["step", "rounds", "sealed"] (defScope sWeight):=⟨rfl,rfl,rfl,by decide +kernel,rfl,by decide +kernel,by decide +kernel⟩
theorem Zsu:BindsAll "weight" sWeight ["step", "rounds", "sealed"]:=λ _ _ _ _ _ _ us hl=>by
 obtain ⟨_,_,_,rfl⟩:=L2.lenE3 hl
 rfl
theorem Zlo:FnScope ["step", "rounds", "word", "place", "bundle", "nothing"] ["step", "rounds"] (defScope sEnds):=⟨rfl,rfl,rfl,by decide +kernel,rfl,by decide +kernel,by decide +kernel⟩
theorem Zx4:BindsAll "ends" sEnds ["step", "rounds"]:=λ _ _ _ _ _ _ us hl=>by
 obtain ⟨_,_,rfl⟩:=L2.lenE2 hl
 rfl
theorem Zi5:FnScope ["told", "rounds", "sealed", "steps"] ["told", "rounds", "sealed"] (defScope sStepsOf):=⟨rfl,rfl,rfl,by decide +kernel,rfl,by decide +kernel,by decide +kernel⟩
theorem Zpm:BindsAll "steps_of" sStepsOf ["told", "rounds", "sealed"]:=λ _ _ _ _ _ _ us hl=>by
 obtain ⟨_,_,_,rfl⟩:=L2.lenE3 hl
 rfl
theorem Zsl:FnScope ["told", "rounds", "sealed"] ["told", "rounds", "sealed"] (defScope sArcsOf):=⟨rfl,rfl,rfl,by decide +kernel,rfl,by decide +kernel,by decide +kernel⟩
theorem Zrv:BindsAll "arcs_of" sArcsOf ["told", "rounds", "sealed"]:=λ _ _ _ _ _ _ us hl=>by
 obtain ⟨_,_,_,rfl⟩:=L2.lenE3 hl
 rfl
theorem Ze4:FnScope ["arcs", "ways", "lasts", "found", "arc", "start", "end", "by", "step"] ["arcs", "ways", "lasts"] (defScope sShorten):=⟨rfl,rfl,rfl,by decide +kernel,rfl,by decide +kernel,by decide +kernel⟩
theorem Zrx:BindsAll "shorten" sShorten ["arcs", "ways", "lasts"]:=λ _ _ _ _ _ _ us hl=>by
 obtain ⟨_,_,_,rfl⟩:=L2.lenE3 hl
 rfl
theorem Zd1:FnScope ["told", "arcs", "ways", "lasts", "found", "turn"] ["told", "arcs"] (defScope sShortestWays):=⟨rfl,rfl,rfl,by decide +kernel,rfl,by decide +kernel,by decide +kernel⟩
theorem Zk1:BindsAll "shortest_ways" sShortestWays ["told", "arcs"]:=λ _ _ _ _ _ _ us hl=>by
 obtain ⟨_,_,rfl⟩:=L2.lenE2 hl
 rfl
theorem Zd8:FnScope ["bundle", "lasts", "at", "turn", "first", "ring"] ["bundle", "lasts"] (defScope sRingBehind):=⟨rfl,rfl,rfl,by decide +kernel,rfl,by decide +kernel,by decide +kernel⟩
theorem Zm0:BindsAll "ring_behind" sRingBehind ["bundle", "lasts"]:=λ _ _ _ _ _ _ us hl=>by
 obtain ⟨_,_,rfl⟩:=L2.lenE2 hl
 rfl
theorem Zg7:FnScope ["rounds", "sealed", "kinds", "told", "turned", "ways", "lasts", "found"] ["rounds", "sealed", "kinds"] (defScope sWorths):=⟨rfl,rfl,rfl,by decide +kernel,rfl,by decide +kernel,by decide +kernel⟩
theorem Zg5:FnScope ["_law_script", "_law_spot", "_law_cell", "_law_great"] ["_law_script", "_law_spot"] (defScope sLawUrn):=⟨rfl,rfl,rfl,by decide +kernel,rfl,by decide +kernel,by decide +kernel⟩
theorem Zrw:BindsAll "_law_urn" sLawUrn ["_law_script", "_law_spot"]:=λ _ _ _ _ _ _ us hl=>by
 obtain ⟨_,_,rfl⟩:=L2.lenE2 hl
 rfl
theorem Zei:FnScope ["_law_urn_here", "_law_wide", "_law_digit", "_law_primes", "_law_step", "_law_base", "_law_mixed"] ["_law_urn_here", "_law_wide"] (defScope sLawDraw):=⟨rfl,rfl,rfl,by decide +kernel,rfl,by decide +kernel,by decide +kernel⟩
theorem Zar:BindsAll "_law_draw" sLawDraw ["_law_urn_here", "_law_wide"]:=λ _ _ _ _ _ _ us hl=>by
 obtain ⟨_,_,rfl⟩:=L2.lenE2 hl
 rfl
theorem Zpf:FnScope ["_law_thing"] ["_law_thing"] (defScope sLawWhole):=⟨rfl,rfl,rfl,by decide +kernel,rfl,by decide +kernel,by decide +kernel⟩
theorem Zgr:BindsAll "_law_whole" sLawWhole ["_law_thing"]:=λ _ _ _ _ _ _ us hl=>by
 obtain ⟨_,rfl⟩:=L2.lenE1 hl
 rfl
theorem Zmd:FnScope ["_law_urn_here"] ["_law_urn_here"] (defScope sLawAmounts):=⟨rfl,rfl,rfl,by decide +kernel,rfl,by decide +kernel,by decide +kernel⟩
theorem Zlw:BindsAll "_law_amounts" sLawAmounts ["_law_urn_here"]:=λ _ _ _ _ _ _ us hl=>by
 obtain ⟨_,rfl⟩:=L2.lenE1 hl
 rfl
theorem Zf2:FnScope ["_law_urn_here", "_law_amounts_here", "_law_kind", "_law_spot", "_law_found"] ["_law_urn_here", "_law_amounts_here"] (defScope sLawBundle):=⟨rfl,rfl,rfl,by decide +kernel,rfl,by decide +kernel,by decide +kernel⟩
theorem Zi6:BindsAll "_law_bundle" sLawBundle ["_law_urn_here", "_law_amounts_here"]:=λ _ _ _ _ _ _ us hl=>by
 obtain ⟨_,_,rfl⟩:=L2.lenE2 hl
 rfl
theorem Zit:FnScope ["_law_urn_here", "_law_several", "_law_wide"] ["_law_urn_here", "_law_several"] (defScope sLawPrices):=⟨rfl,rfl,rfl,by decide +kernel,rfl,by decide +kernel,by decide +kernel⟩
theorem Zi8:BindsAll "_law_prices" sLawPrices ["_law_urn_here", "_law_several"]:=λ _ _ _ _ _ _ us hl=>by
 obtain ⟨_,_,rfl⟩:=L2.lenE2 hl
 rfl
theorem Zql:FnScope ["_law_prices_here", "_law_bundle_here"] ["_law_prices_here", "_law_bundle_here"] (defScope sLawCost):=⟨rfl,rfl,rfl,by decide +kernel,rfl,by decide +kernel,by decide +kernel⟩
theorem Zdp:BindsAll "_law_cost" sLawCost ["_law_prices_here", "_law_bundle_here"]:=λ _ _ _ _ _ _ us hl=>by
 obtain ⟨_,_,rfl⟩:=L2.lenE2 hl
 rfl
theorem Zcv:FnScope ["_law_amounts_here", "_law_found", "_law_many", "_law_longer", "_law_row"] ["_law_amounts_here"] (defScope sLawAllWithin):=⟨rfl,rfl,rfl,by decide +kernel,rfl,by decide +kernel,by decide +kernel⟩
theorem Zix:BindsAll "_law_all_within" sLawAllWithin ["_law_amounts_here"]:=λ _ _ _ _ _ _ us hl=>by
 obtain ⟨_,rfl⟩:=L2.lenE1 hl
 rfl
theorem Zeq:FnScope ["_law_urn_here", "_law_amounts_here", "_law_wide", "_law_rows", "_law_many", "_law_row"] ["_law_urn_here", "_law_amounts_here"] (defScope sLawTaste):=⟨rfl,rfl,rfl,by decide +kernel,rfl,by decide +kernel,by decide +kernel⟩
theorem Zoa:BindsAll "_law_taste" sLawTaste ["_law_urn_here", "_law_amounts_here"]:=λ _ _ _ _ _ _ us hl=>by
 obtain ⟨_,_,rfl⟩:=L2.lenE2 hl
 rfl
theorem Zep:FnScope ["_law_taste_here", "_law_bundle_here", "_law_rows", "_law_more", "_law_found"] ["_law_taste_here", "_law_bundle_here"] (defScope sLawLiked):=⟨rfl,rfl,rfl,by decide +kernel,rfl,by decide +kernel,by decide +kernel⟩
theorem Zjn:BindsAll "_law_liked" sLawLiked ["_law_taste_here", "_law_bundle_here"]:=λ _ _ _ _ _ _ us hl=>by
 obtain ⟨_,_,rfl⟩:=L2.lenE2 hl
 rfl
theorem Zdv:FnScope ["_law_urn_here", "_law_taste_here", "_law_amounts_here", "_law_prices_here", "_law_some", "_law_gains", "_law_bundle_here", "_law_most", "_law_best_ones"] ["_law_urn_here", "_law_taste_here", "_law_amounts_here", "_law_prices_here"] (defScope sLawWanted):=⟨rfl,rfl,rfl,by decide +kernel,rfl,by decide +kernel,by decide +kernel⟩
theorem Zn1:BindsAll "_law_wanted" sLawWanted ["_law_urn_here", "_law_taste_here", "_law_amounts_here", "_law_prices_here"]:=λ _ _ _ _ _ _ us hl=>by
 obtain ⟨_,_,_,_,rfl⟩:=L2.lenE4 hl
 rfl
theorem Zd5:FnScope ["_law_rows", "_law_seals", "_law_nodes", "_law_found", "_law_nothing", "_law_prices_here", "_law_bundle_here", "_law_other", "_law_coins"] ["_law_rows", "_law_seals", "_law_nodes"] (defScope sLawEdges):=⟨rfl,rfl,rfl,by decide +kernel,rfl,by decide +kernel,by decide +kernel⟩
theorem Zo7:BindsAll "_law_edges" sLawEdges ["_law_rows", "_law_seals", "_law_nodes"]:=λ _ _ _ _ _ _ us hl=>by
 obtain ⟨_,_,_,rfl⟩:=L2.lenE3 hl
 rfl
theorem Zcn:FnScope ["_law_nodes", "_law_edges_here", "_law_found", "_law_bundle_here", "_law_turn", "_law_moved", "_law_one", "_law_other", "_law_rise"] ["_law_nodes", "_law_edges_here"] (defScope sLawHeights):=⟨rfl,rfl,rfl,by decide +kernel,rfl,by decide +kernel,by decide +kernel⟩
theorem Zly:BindsAll "_law_heights" sLawHeights ["_law_nodes", "_law_edges_here"]:=λ _ _ _ _ _ _ us hl=>by
 obtain ⟨_,_,rfl⟩:=L2.lenE2 hl
 rfl
theorem Zjv:FnScope ["_law_urn_here", "_law_several", "_law_wide"] ["_law_urn_here", "_law_several"] (defScope sLawSmall):=⟨rfl,rfl,rfl,by decide +kernel,rfl,by decide +kernel,by decide +kernel⟩
theorem Zjo:BindsAll "_law_small" sLawSmall ["_law_urn_here", "_law_several"]:=λ _ _ _ _ _ _ us hl=>by
 obtain ⟨_,_,rfl⟩:=L2.lenE2 hl
 rfl
theorem Zek:FnScope ["_law_rows", "_law_seals", "_law_several", "_law_found", "_law_prices_here", "_law_bundle_here", "_law_coins"] ["_law_rows", "_law_seals", "_law_several"] (defScope sLawTold):=⟨rfl,rfl,rfl,by decide +kernel,rfl,by decide +kernel,by decide +kernel⟩
theorem Zg8:BindsAll "_law_told" sLawTold ["_law_rows", "_law_seals", "_law_several"]:=λ _ _ _ _ _ _ us hl=>by
 obtain ⟨_,_,_,rfl⟩:=L2.lenE3 hl
 rfl
theorem Zc8:FnScope ["_law_ring", "_law_rows", "_law_seals", "_law_nodes", "_law_found", "_law_ends", "_law_step", "_law_word", "_law_k", "_law_bundle_here", "_law_prices_here", "_law_begin"] ["_law_ring", "_law_rows", "_law_seals", "_law_nodes"] (defScope sLawIsRing):=⟨rfl,rfl,rfl,by decide +kernel,rfl,by decide +kernel,by decide +kernel⟩
theorem Zho:BindsAll "_law_is_ring" sLawIsRing ["_law_ring", "_law_rows", "_law_seals", "_law_nodes"]:=λ _ _ _ _ _ _ us hl=>by
 obtain ⟨_,_,_,_,rfl⟩:=L2.lenE4 hl
 rfl
theorem Zcu:FnScope ["_law_urn_here", "_law_several", "_law_most", "_law_some", "_law_rows", "_law_seals", "_law_k", "_law_bundle_here", "_law_coins"] ["_law_urn_here", "_law_several", "_law_most"] (defScope sLawHistory):=⟨rfl,rfl,rfl,by decide +kernel,rfl,by decide +kernel,by decide +kernel⟩
theorem Zlz:BindsAll "_law_history" sLawHistory ["_law_urn_here", "_law_several", "_law_most"]:=λ _ _ _ _ _ _ us hl=>by
 obtain ⟨_,_,_,rfl⟩:=L2.lenE3 hl
 rfl
theorem Zds:FnScope ["_law_urn_here", "_law_amounts_here", "_law_most", "_law_taste_here", "_law_rows", "_law_seals", "_law_k", "_law_prices_here", "_law_bundle_here"] ["_law_urn_here", "_law_amounts_here", "_law_most"] (defScope sLawMeant):=⟨rfl,rfl,rfl,by decide +kernel,rfl,by decide +kernel,by decide +kernel⟩
theorem Zo8:BindsAll "_law_meant" sLawMeant ["_law_urn_here", "_law_amounts_here", "_law_most"]:=λ _ _ _ _ _ _ us hl=>by
 obtain ⟨_,_,_,rfl⟩:=L2.lenE3 hl
 rfl
theorem Zbh:FnScope ["_law_urn_here", "_law_most", "_law_amounts_here", "_law_way", "_law_rows", "_law_seals", "_law_taste_here", "_law_spot", "_law_other", "_law_coins"] ["_law_urn_here", "_law_most"] (defScope sLawAnyRows):=⟨rfl,rfl,rfl,by decide +kernel,rfl,by decide +kernel,by decide +kernel⟩
theorem Zkl:BindsAll "_law_any_rows" sLawAnyRows ["_law_urn_here", "_law_most"]:=λ _ _ _ _ _ _ us hl=>by
 obtain ⟨_,_,rfl⟩:=L2.lenE2 hl
 rfl
theorem Zcl:FnScope ["_law_row", "_law_rows", "_law_seals", "_law_several", "_law_nodes", "_law_bundle_here", "_law_coins", "_law_prices_here", "_law_gain"] ["_law_row", "_law_rows", "_law_seals", "_law_several"] (defScope sLawAreWorths):=⟨rfl,rfl,rfl,by decide +kernel,rfl,by decide +kernel,by decide +kernel⟩
theorem Ziy:BindsAll "_law_are_worths" sLawAreWorths ["_law_row", "_law_rows", "_law_seals", "_law_several"]:=λ _ _ _ _ _ _ us hl=>by
 obtain ⟨_,_,_,_,rfl⟩:=L2.lenE4 hl
 rfl
theorem Zht:FnScope ["_law_rows", "_law_seals", "_law_several", "_law_nodes"] ["_law_rows", "_law_seals", "_law_several"] (defScope sLawAreAny):=⟨rfl,rfl,rfl,by decide +kernel,rfl,by decide +kernel,by decide +kernel⟩
theorem Zlx:BindsAll "_law_are_any" sLawAreAny ["_law_rows", "_law_seals", "_law_several"]:=λ _ _ _ _ _ _ us hl=>by
 obtain ⟨_,_,_,rfl⟩:=L2.lenE3 hl
 rfl
theorem Zlp:FnScope ["_law_told_here", "_law_rows", "_law_seals", "_law_several"] ["_law_told_here", "_law_rows", "_law_seals", "_law_several"] (defScope sLawIsShown):=⟨rfl,rfl,rfl,by decide +kernel,rfl,by decide +kernel,by decide +kernel⟩
theorem Zgq:BindsAll "_law_is_shown" sLawIsShown ["_law_told_here", "_law_rows", "_law_seals", "_law_several"]:=λ _ _ _ _ _ _ us hl=>by
 obtain ⟨_,_,_,_,rfl⟩:=L2.lenE4 hl
 rfl
theorem Zhc:FnScope ["_law_urn_here", "_law_rows", "_law_often_here", "_law_most"] ["_law_urn_here", "_law_rows"] (defScope sLawOften):=⟨rfl,rfl,rfl,by decide +kernel,rfl,by decide +kernel,by decide +kernel⟩
theorem Zo9:BindsAll "_law_often" sLawOften ["_law_urn_here", "_law_rows"]:=λ _ _ _ _ _ _ us hl=>by
 obtain ⟨_,_,rfl⟩:=L2.lenE2 hl
 rfl
theorem Zqm:FnScope ["_law_urn_here", "_law_row"] ["_law_urn_here", "_law_row"] (defScope sLawPart):=⟨rfl,rfl,rfl,by decide +kernel,rfl,by decide +kernel,by decide +kernel⟩
theorem Zkm:BindsAll "_law_part" sLawPart ["_law_urn_here", "_law_row"]:=λ _ _ _ _ _ _ us hl=>by
 obtain ⟨_,_,rfl⟩:=L2.lenE2 hl
 rfl
theorem Zjw:FnScope ["_law_rows", "_law_seals", "_law_often_here"] ["_law_rows", "_law_seals", "_law_often_here"] (defScope sLawTimes):=⟨rfl,rfl,rfl,by decide +kernel,rfl,by decide +kernel,by decide +kernel⟩
theorem Zob:BindsAll "_law_times" sLawTimes ["_law_rows", "_law_seals", "_law_often_here"]:=λ _ _ _ _ _ _ us hl=>by
 obtain ⟨_,_,_,rfl⟩:=L2.lenE3 hl
 rfl
theorem Ziu:FnScope ["_law_rows", "_law_seals"] ["_law_rows", "_law_seals"] (defScope sLawTurned):=⟨rfl,rfl,rfl,by decide +kernel,rfl,by decide +kernel,by decide +kernel⟩
theorem Zn0:BindsAll "_law_turned" sLawTurned ["_law_rows", "_law_seals"]:=λ _ _ _ _ _ _ us hl=>by
 obtain ⟨_,_,rfl⟩:=L2.lenE2 hl
 rfl
theorem Zgo:FnScope ["_law_rows", "_law_seals", "_law_several", "_law_word", "_law_told_here"] ["_law_rows", "_law_seals", "_law_several", "_law_word"] (defScope sLawSameWord):=⟨rfl,rfl,rfl,by decide +kernel,rfl,by decide +kernel,by decide +kernel⟩
theorem Zk0:BindsAll "_law_same_word" sLawSameWord ["_law_rows", "_law_seals", "_law_several", "_law_word"]:=λ _ _ _ _ _ _ us hl=>by
 obtain ⟨_,_,_,_,rfl⟩:=L2.lenE4 hl
 rfl
theorem Zej:FnScope ["_law_ring", "_law_rows", "_law_part_here", "_law_places", "_law_one"] ["_law_ring", "_law_rows", "_law_part_here"] (defScope sLawMovedRing):=⟨rfl,rfl,rfl,by decide +kernel,rfl,by decide +kernel,by decide +kernel⟩
theorem Ziz:BindsAll "_law_moved_ring" sLawMovedRing ["_law_ring", "_law_rows", "_law_part_here"]:=λ _ _ _ _ _ _ us hl=>by
 obtain ⟨_,_,_,rfl⟩:=L2.lenE3 hl
 rfl
theorem Zd6:FnScope ["_law_urn_here", "_law_rows", "_law_seals", "_law_several", "_law_word", "_law_fewer", "_law_less", "_law_told_here", "_law_ring"] ["_law_urn_here", "_law_rows", "_law_seals", "_law_several", "_law_word"] (defScope sLawPartsRight):=⟨rfl,rfl,rfl,by decide +kernel,rfl,by decide +kernel,by decide +kernel⟩
theorem Zi7:BindsAll "_law_parts_right" sLawPartsRight ["_law_urn_here", "_law_rows", "_law_seals", "_law_several", "_law_word"]:=λ _ _ _ _ _ _ us hl=>by
 obtain ⟨_,_,_,_,_,rfl⟩:=L2.lenE5 hl
 rfl
theorem Zf0:FnScope ["_law_script", "_law_spot", "_law_urn_here", "_law_rows", "_law_seals", "_law_several", "_law_word", "_law_often_here", "_law_far", "_law_dear", "_law_more", "_law_others", "_law_back", "_law_backs", "_law_some", "_law_told_here"] ["_law_script"] (defScope sLaw):=⟨rfl,rfl,rfl,by decide +kernel,rfl,by decide +kernel,by decide +kernel⟩
theorem Zf8:KBindsAll "together" sTogether ["some", "kinds"] ["kinds"] 1 1 [(true,0),(false,0)]:=λ _ _ _ _ _ _ us ws hl=>by
 obtain ⟨h1,h2⟩:=Zxc hl
 obtain ⟨_,rfl⟩:=L2.lenE1 h1
 obtain ⟨_,rfl⟩:=L2.lenE1 h2
 rfl
theorem Zgh:KBindsD "told_bundles" sToldBundles ["rounds", "sealed", "kinds"] ["kinds"] 2 1 [(0,0),(0,1),(1,0)]:=λ _ _ _ _ _ _ _ _ us ws hl=>by
 obtain ⟨h1,h2⟩:=Ztf hl
 obtain ⟨_,_,rfl⟩:=L2.lenE2 h1
 obtain ⟨_,rfl⟩:=L2.lenE1 h2
 exact ⟨_,rfl,rfl⟩
theorem Zda:KBindsD "worths" sWorths ["rounds", "sealed", "kinds"] ["kinds"] 2 1 [(0,0),(0,1),(1,0)]:=λ _ _ _ _ _ _ _ _ us ws hl=>by
 obtain ⟨h1,h2⟩:=Ztf hl
 obtain ⟨_,_,rfl⟩:=L2.lenE2 h1
 obtain ⟨_,rfl⟩:=L2.lenE1 h2
 exact ⟨_,rfl,rfl⟩
section
variable {P:Program}{w:World}{K:PySem.W.Frag}{mg:Str->Option Value}{base:Heap}
theorem mk0 {i j:Int} (hi0:0≤i) (hi:i<2 ^ 200) (hj0:0≤j) (hj:j<2 ^ 200):IntMulOk i j:=Zrd (n:=200) (by decide) (Zlg hi0 hi) (Zlg hj0 hj)
theorem Zyt (T:Txt K mg):Dn P w K mg base 1 "_law_urn" sLawUrn ["_law_script", "_law_spot"] (spUrn K):=by
 refine Dn.of T.f_law_urn Zg5 (λ vs H Q E h=>?_) (λ f cdv A outer s H vs Q E hr h=>?_)
 ·obtain ⟨a,ns,k,rfl,_⟩:=h;rfl
 obtain ⟨a,ns,k,rfl,hS,h0,h1,q⟩:=h
 refine ⟨_,IPSs.get (Za4 (Zag (i:=2) Zg5.nd rfl (Or.inl rfl) Za6)
  (Za4 (Zbg (Zal Znr (i_pv 1) (Zad Zaz rfl T.z_len boot_len (Za0 (i_pv 0) Za3)) (nomark _)) (Za9 (Zag (i:=2) Zg5.nd rfl (Or.inl rfl) (Zan Zco (i_pv 0) (i_pv 1) (λ _ _=>rfl)))) Zap)
  (Za4 (Zag (i:=3) Zg5.nd rfl (Or.inl rfl) (Zad Zv1 rfl T.z_abs boot_abs (Za0 (i_pv 2) Za3)))
  (Za4 (Zbg (Zal Znr (i_pv 3) (Zam Zqc Za6 Za6) (nomark _)) (Za9 (Zag (i:=3) Zg5.nd rfl (Or.inl rfl) Za6)) Zap)
  (Za9 (Zaj (Zbs (Za0 (i_pv 3) (Za0 (Zam Zct (Zam Zct (Zam Zct (Zam Zli (i_pv 2) Za6) (Zam Ze7 (Zam Ze7 Za6 (i_pv 1)) (i_pv 1))) (Zam Ze7 Za6 (i_pv 1))) Za6) (Za0 Za6 Za3)))))))))),?_⟩
 have fin:∀ (g c:Int) (p:Addr),0≤g->H p=none->Q (.ref p) (upd H p (.lst [.int g,.int (c % 1000000000000000003+97*k*k+31*k+1),.int 0])):=λ g c p hg hp=>by
  refine q p _ (Zdb hp _) hp ⟨_,_,_,Zbw,hg,?_,?_,by decide,by decide⟩
  ·have e1:=Int.emod_nonneg c (show (1000000000000000003:Int)≠0 by decide)
   have e2:0≤97*k*k:=Int.mul_nonneg (by omega) h0
   omega
  ·have e1:=Int.emod_lt_of_pos c (show (0:Int)<1000000000000000003 by decide)
   have e2:97*k*k≤97*100*100:=Int.mul_le_mul (by omega) h1 h0 (by decide)
   omega
 have k2:97*k<2 ^ 200:=by omega
 have m1:IntMulOk 97 k:=mk0 (by decide) (by decide) h0 (by omega)
 have m2:IntMulOk (97*k) k:=mk0 (by omega) k2 h0 (by omega)
 have m3:IntMulOk 31 k:=mk0 (by decide) (by decide) h0 (by omega)
 refine ⟨_,rfl,_,rfl,a,_,rfl,.inl hS,_,_,rfl,rfl,_,rfl,?_⟩
 refine ite2 (λ c=>?_) (λ c=>?_)
 ·have c':k<(((ns.map V.int).length:Nat):Int):=of_decide_eq_true c
  rw [lmp] at c'
  have hk:k.toNat<ns.length:=by omega
  have hv:atI (ns.map V.int) k=some (.int ns[k.toNat]):=by
   have z:=Zcy (xs:=ns.map V.int) (j:=k.toNat) (v:=.int ns[k.toNat]) (by rw [getElem?_map,gEq hk];rfl)
   rwa [show ((k.toNat:Nat):Int)=k by omega] at z
  refine ⟨_,rfl,_,rfl,a,_,_,_,rfl,rfl,hS,hv,?_⟩
  refine ⟨_,rfl,_,rfl,?_⟩
  refine ⟨_,rfl,_,_,rfl,rfl,⟨by decide,by decide +kernel⟩,_,_,rfl,rfl,_,rfl,?_⟩
  refine ite2 (λ c2=>?_) (λ c2=>?_)
  ·refine ⟨_,rfl,_,rfl,_,_,rfl,rfl,(by show (0:Int)<1000000000000000003;decide),_,rfl,_,_,rfl,rfl,m1,_,rfl,_,_,rfl,rfl,m2,_,_,rfl,rfl,_,rfl,_,_,rfl,rfl,m3,_,_,rfl,rfl,_,_,rfl,rfl,(L2.sz3),λ p hp=>?_⟩
   exact fin 0 _ p (by decide) hp
  ·refine ⟨_,rfl,_,rfl,_,_,rfl,rfl,(by show (0:Int)<1000000000000000003;decide),_,rfl,_,_,rfl,rfl,m1,_,rfl,_,_,rfl,rfl,m2,_,_,rfl,rfl,_,rfl,_,_,rfl,rfl,m3,_,_,rfl,rfl,_,_,rfl,rfl,(L2.sz3),λ p hp=>?_⟩
   exact fin _ _ p (by split <;> omega) hp
 ·refine ⟨_,rfl,_,rfl,?_⟩
  refine ⟨_,rfl,_,_,rfl,rfl,⟨by decide,by decide +kernel⟩,_,_,rfl,rfl,_,rfl,?_⟩
  refine ite2 (λ c2=>?_) (λ c2=>?_)
  ·refine ⟨_,rfl,_,rfl,_,_,rfl,rfl,(by show (0:Int)<1000000000000000003;decide),_,rfl,_,_,rfl,rfl,m1,_,rfl,_,_,rfl,rfl,m2,_,_,rfl,rfl,_,rfl,_,_,rfl,rfl,m3,_,_,rfl,rfl,_,_,rfl,rfl,(L2.sz3),λ p hp=>?_⟩
   exact fin 0 _ p (by decide) hp
  ·refine ⟨_,rfl,_,rfl,_,_,rfl,rfl,(by show (0:Int)<1000000000000000003;decide),_,rfl,_,_,rfl,rfl,m1,_,rfl,_,_,rfl,rfl,m2,_,_,rfl,rfl,_,rfl,_,_,rfl,rfl,m3,_,_,rfl,rfl,_,_,rfl,rfl,(L2.sz3),λ p hp=>?_⟩
   exact fin _ _ p (by split <;> omega) hp
theorem Zx7 (T:Txt K mg):Dn P w K mg base 1 "_law_draw" sLawDraw ["_law_urn_here", "_law_wide"] spDraw:=by
 refine Dn.of T.f_law_draw Zei (λ vs H Q E h=>?_) (λ f cdv A outer s H vs Q E hr h=>?_)
 ·obtain ⟨u,wd,m,rfl,_⟩:=h;rfl
 obtain ⟨u,wd,m,rfl,hU,hm,w0,w1,q⟩:=h
 obtain ⟨g,c,n,hu,g0,c0,c1,n0,n1⟩:=hU
 refine ⟨_,IPSs.get (Za4 (Zbg (Zal Zsi (Zan Zco (i_pv 0) Za6 (λ _ _=>rfl)) Za6 (nomark _)) (Za4 (Zag (i:=2) Zei.nd rfl (Or.inl rfl) (Zam Zli (Zan Zco (i_pv 0) Za6 (λ _ _=>rfl)) (i_pv 1)))
  (Za4 (Zd9 (Zam Zqb (Zan Zco (i_pv 0) Za6 (λ _ _=>rfl)) (i_pv 1)) (Zr6 (i_pv 0) Za6 Zro))
  (Za9 (Zaj (i_pv 2))))) Zap)
  (Za4 (Zag (i:=3) Zei.nd rfl (Or.inl rfl) (Zaq (Za0 Za6 (Za0 Za6 (Za0 Za6 (Za0 Za6 (Za0 Za6 (Za0 Za6 (Za0 Za6 Za3)))))))))
  (Za4 (Zd9 (Zam Zct (Zan Zco (i_pv 0) Za6 (λ _ _=>rfl)) Za6) (Zr6 (i_pv 0) Za6 Zro))
  (Za4 (Zag (i:=4) Zei.nd rfl (Or.inl rfl) (Zan Zco (i_pv 0) Za6 (λ _ _=>rfl)))
  (Za4 (Zag (i:=5) Zei.nd rfl (Or.inl rfl) (Zam Zct (Zam Zct (Zam Ze7 (Zan Zco (i_pv 0) Za6 (λ _ _=>rfl)) (Zam Zct (Zam Ze7 Za6 (i_pv 4)) Za6)) (Zam Ze7 (Zam Ze7 Za6 (i_pv 4)) (i_pv 4))) Za6))
  (Za4 (Zag (i:=6) Zei.nd rfl (Or.inl rfl) (Zam Zli (Zam Zqc (i_pv 5) Za6) (Zan Zc0 (i_pv 3) (Zam Zli (i_pv 4) Za6) (λ _ _=>rfl))))
  (Za9 (Zaj (Zam Zli (Zam Zqb (Zam Zli (Zam Ze7 (i_pv 6) (Zam Zct (Zam Zqb (i_pv 6) Za6) (i_pv 4))) (Zan Zc0 (i_pv 3) (Zam Zli (Zam Zct (i_pv 4) Za6) Za6) (λ _ _=>rfl))) Za6) (i_pv 1)))))))))),?_⟩
 refine ⟨_,rfl,u,_,_,_,rfl,rfl,SqL.of hu,rfl,_,_,rfl,rfl,_,rfl,?_⟩
 refine ite2 (λ cg=>?_) (λ cg=>?_)
 ·refine ⟨_,rfl,u,_,_,_,rfl,rfl,SqL.of hu,rfl,_,rfl,_,_,rfl,rfl,w0,?_⟩
  refine ⟨_,rfl,u,_,_,_,rfl,rfl,SqL.of hu,rfl,_,rfl,_,_,rfl,rfl,⟨w0,w1⟩,_,rfl,u,_,_,_,rfl,rfl,hu,rfl,?_⟩
  refine ⟨_,rfl,?_⟩
  exact q _ _ (Int.emod_nonneg _ (by omega)) (Int.emod_lt_of_pos _ w0) (SB.upd u H _) ⟨_,_,_,Zbw,Int.ediv_nonneg g0 (by omega),c0,c1,n0,by omega⟩
 ·refine ⟨(by show 7≤sizeLine;decide),λ p hp=>?_⟩
  have pu:u≠p:=λ z=>by rw [z,hp] at hu;cases hu
  have hu1:upd H p (.tup [V.int 2147483647,V.int 2147483629,V.int 2147483587,V.int 2147483579,V.int 2147483563,V.int 2147483549,V.int 2147483543]) u=some (.lst [.int g,.int c,.int n]):=by rw [Zbk pu];exact hu
  refine ⟨_,rfl,u,_,_,_,rfl,rfl,SqL.of hu1,rfl,_,_,rfl,rfl,_,rfl,u,_,_,_,rfl,rfl,hu1,rfl,?_⟩
  obtain ⟨q1,e1,p1,p2⟩:=prime7 (n+1)
  obtain ⟨q2,e2,p3,p4⟩:=prime7 (n+1+3)
  generalize hH2:upd (upd H p (.tup [V.int 2147483647,V.int 2147483629,V.int 2147483587,V.int 2147483579,V.int 2147483563,V.int 2147483549,V.int 2147483543])) u (.lst ([V.int g,V.int c,V.int n].set (Int.toNat 2) ((λ i j=>V.int (i+j)) n 1)))=H2
  have hu2:H2 u=some (.lst [.int g,.int c,.int (n+1)]):=by rw [<- hH2];exact Zbw
  have hp2:H2 p=some (.tup [V.int 2147483647,V.int 2147483629,V.int 2147483587,V.int 2147483579,V.int 2147483563,V.int 2147483549,V.int 2147483543]):=by rw [<- hH2,Zbk (Ne.symm pu)];exact Zbw
  have hSB:SB u H H2:=λ b o nb e=>by rw [<- hH2,Zbk nb,Zbk (Zeh e hp)];exact e
  have n9:n+1≤1000001:=by omega
  have b1:2*(n+1)+1≤2000003:=by omega
  have b2:c*(2*(n+1)+1)≤4000000000000000000*2000003:=Int.mul_le_mul c1 b1 (by omega) (by decide)
  have b2':0≤c*(2*(n+1)+1):=Int.mul_nonneg c0 (by omega)
  have b3:6007*(n+1)*(n+1)≤6007*1000001*1000001:=Int.mul_le_mul (by omega) n9 (by omega) (by decide)
  have b3':0≤6007*(n+1)*(n+1):=Int.mul_nonneg (by omega) (by omega)
  refine ⟨_,rfl,u,_,_,_,rfl,rfl,SqL.of hu2,rfl,?_⟩
  refine ⟨_,rfl,u,_,_,_,rfl,rfl,SqL.of hu2,rfl,_,rfl,_,_,rfl,rfl,mk0 (by decide) (by decide) (by omega) (by omega),_,_,rfl,rfl,_,_,rfl,rfl,mk0 c0 (by omega) (by omega) (by omega),_,rfl,_,_,rfl,rfl,mk0 (by decide) (by decide) (by omega) (by omega),_,rfl,_,_,rfl,rfl,mk0 (by omega) (by omega) (by omega) (by omega),_,_,rfl,rfl,_,_,rfl,rfl,?_⟩
  have bs0:0≤c*(2*(n+1)+1)+6007*(n+1)*(n+1)+53:=by omega
  have bs1:c*(2*(n+1)+1)+6007*(n+1)*(n+1)+53<2 ^ 200:=by omega
  have pw:CPowB (c*(2*(n+1)+1)+6007*(n+1)*(n+1)+53) 3:=by
   refine ⟨by decide,?_⟩
   have:=L2.Zjb (Zlg bs0 bs1)
   omega
  refine ⟨_,rfl,_,_,rfl,rfl,pw,_,rfl,_,rfl,_,_,rfl,rfl,(by show (0:Int)<7;decide),p,_,_,_,rfl,rfl,SqT.of hp2,e1,_,_,rfl,rfl,p1,?_⟩
  obtain ⟨mx,hmx⟩:∃ mx,mx=(c*(2*(n+1)+1)+6007*(n+1)*(n+1)+53) ^ (3:Int).toNat % q1:=⟨_,rfl⟩
  have mx0:0≤mx:=by rw [hmx];exact Int.emod_nonneg _ (by omega)
  have mx1:mx<q1:=by rw [hmx];exact Int.emod_lt_of_pos _ p1
  have d1:mx / 8191≤mx:=Int.ediv_le_self _ mx0
  have d0:0≤mx / 8191:=Int.ediv_nonneg mx0 (by decide)
  refine ⟨_,rfl,_,rfl,_,_,rfl,rfl,⟨by decide,by decide⟩,_,rfl,_,_,rfl,rfl,_,_,rfl,rfl,(show IntMulOk ((c*(2*(n+1)+1)+6007*(n+1)*(n+1)+53) ^ (3:Int).toNat % q1) ((c*(2*(n+1)+1)+6007*(n+1)*(n+1)+53) ^ (3:Int).toNat % q1 / 8191+(n+1)) by rw [<- hmx];exact mk0 mx0 (by omega) (by omega) (by omega)),_,rfl,_,rfl,_,_,rfl,rfl,_,_,rfl,rfl,(by show (0:Int)<7;decide),p,_,_,_,rfl,rfl,SqT.of hp2,e2,_,_,rfl,rfl,p3,_,_,rfl,rfl,⟨by decide,by decide⟩,_,rfl,_,_,rfl,rfl,w0,?_⟩
  exact q _ _ (Int.emod_nonneg _ (by omega)) (Int.emod_lt_of_pos _ w0) hSB ⟨_,_,_,hu2,g0,c0,c1,by omega,by omega⟩
abbrev Zmh:=dsUrn
abbrev Zkv:=dsDraw
theorem Zq9:MoS Zmh:=Zxk
theorem Zao:MoS Zkv:=Zvj
theorem Zs2 (T:Txt K mg):Dn P w K mg base 1 "_law_urn" sLawUrn ["_law_script", "_law_spot"] (spD K Zmh):=(Zyt T).imp λ _ _ _ _ h=>Zyo h
theorem Zcw (T:Txt K mg):Dn P w K mg base 1 "_law_draw" sLawDraw ["_law_urn_here", "_law_wide"] (spD K Zkv):=(Zx7 T).imp λ _ _ _ _ h=>Zv3 h
end
end Mine
namespace Mine
open PySem PySem.Spec PyProof.Rows L2
section
variable {P:Program}{w:World}{K:PySem.W.Frag}{mg:Str->Option Value}{base:Heap}
theorem mulS {x y:Int} (h1:x.natAbs<2 ^ 100) (h2:y.natAbs<2 ^ 100):IntMulOk x y:=Zrd (n:=100) (by decide) h1 h2
def Sm (ns:List Int):Prop:=∀ x∈ns,x.natAbs<2 ^ 100
def dot (ns ms:List Int):Int:=((ns.zip ms).map λ p=>p.1*p.2).sum
abbrev Rnd:=List Int × List Int
abbrev Sea:=List Int × Int
abbrev Stp:=Nat × Nat × List Int
def rowD (r:Rnd):PyData:=.tuple [tI r.1,tI r.2]
def Zc9 (r:Sea):PyData:=.tuple [tI r.1,.int r.2]
def Zbx (rs:List Rnd):PyData:=.tuple (rs.map rowD)
def Zbb (ss:List Sea):PyData:=.tuple (ss.map Zc9)
structure Hist (k:Nat) (rs:List Rnd) (ss:List Sea):Prop where
 k1:1≤k
 k3:k≤3
 row:∀ r∈rs,r.1.length=k/\r.2.length=k/\Sm r.1/\Sm r.2
 sea:∀ r∈ss,r.1.length=k/\Sm r.1
 rl:rs.length≤13
 sl:ss.length≤13
theorem Zxb (a b:Int):PyData.eqv (.int a) (.int b)=decide (a=b):=by rw [PyData.eqv];rfl
theorem Zkx:∀ a b:List Int,PyData.eqvAll (a.map .int) (b.map .int)=decide (a=b)
 | [],[]=>by simp [PyData.eqvAll]
 | [],_::_=>by simp [PyData.eqvAll]
 | _::_,[]=>by simp [PyData.eqvAll]
 | x::a,y::b=>by
  rw [map_cons,map_cons,PyData.eqvAll,Zxb,Zkx a b]
  by_cases h1:x=y <;> by_cases h2:a=b <;> simp [h1,h2]
theorem Zi0 (a b:List Int):PyData.eqv (tI a) (tI b)=decide (a=b):=by
 unfold tI;rw [PyData.eqv];exact Zkx a b
theorem Zqs (bs:List (List Int)) (b:List Int):((bs.map tI).any λ y=>PyData.eqv y (tI b))=decide (b∈bs):=by
 rw [List.any_map]
 simp only [Function.comp_def,Zi0]
 rw [Bool.eq_iff_iff,any_eq_true]
 simp
def addB (bs:List (List Int)) (b:List Int):List (List Int):=if b∈bs then bs else bs++[b]
def Zav (k:Nat) (rs:List Rnd) (ss:List Sea):List (List Int):=(rs.map Prod.snd++ss.map Prod.fst).foldl addB [List.replicate k 0]
theorem Zux (bs:List (List Int)) (b:List Int):(addB bs b).length≤bs.length+1:=by unfold addB;split <;> simp
theorem Zg0:∀ (l bs:List (List Int)),(l.foldl addB bs).length≤bs.length+l.length
 | [],bs=>by simp
 | b::l,bs=>by
  have:=Zg0 l (addB bs b)
  have h:=Zux bs b
  rw [foldl_cons,length_cons];omega
theorem Zuy {bs:List (List Int)}{b x:List Int}:x∈addB bs b ↔ x∈bs \/ x=b:=by
 unfold addB;split
 ·next h=>exact ⟨.inl,λ z=>z.elim id λ e=>e▸h⟩
 ·simp
theorem Zot:∀ (l bs:List (List Int)) (x:List Int),x∈l.foldl addB bs ↔ x∈bs \/ x∈l
 | [],bs,x=>by simp
 | b::l,bs,x=>by
  rw [foldl_cons,Zot l _ x,Zuy,mem_cons]
  exact ⟨λ h=>h.elim (λ h=>h.elim .inl λ e=>.inr (.inl e)) λ h=>.inr (.inr h),λ h=>h.elim (λ h=>.inl (.inl h)) λ h=>h.elim (λ e=>.inl (.inr e)) .inr⟩
theorem Zbz {k:Nat}{rs:List Rnd}{ss:List Sea}{x:List Int}:x∈Zav k rs ss ↔ x=List.replicate k 0 \/ (∃ r∈rs,r.2=x) \/ ∃ r∈ss,r.1=x:=by
 unfold Zav
 rw [Zot,mem_append,mem_map,mem_map,mem_singleton]
theorem Zo2 {k:Nat}{rs:List Rnd}{ss:List Sea}:(Zav k rs ss).length≤1+rs.length+ss.length:=by
 have:=Zg0 (rs.map Prod.snd++ss.map Prod.fst) [List.replicate k 0]
 rw [length_append,lmp,lmp,length_singleton] at this
 unfold Zav;omega
theorem Zyl (k:Nat):Sm (List.replicate k 0):=λ x hx=>by rw [(mem_replicate.mp hx).2];decide
theorem Hist.told {k:Nat}{rs:List Rnd}{ss:List Sea} (h:Hist k rs ss):∀ b∈Zav k rs ss,b.length=k/\Sm b:=λ b hb=>by
 rcases Zbz.mp hb with rfl|⟨r,hr,rfl⟩|⟨r,hr,rfl⟩
 ·exact ⟨by simp,Zyl k⟩
 ·exact ⟨(h.row r hr).2.1,(h.row r hr).2.2.2⟩
 ·exact h.sea r hr
def Zb0 (k:Nat):List Int:=List.replicate k 0
def wordOf:Nat->Str
 | 0=>"round" | 1=>"bid" | 2=>"due" | _=>"free"
def Zcp (e:Stp):PyData:=.tuple [.str (wordOf e.1),.int (e.2.1:Nat),tI e.2.2]
def Valid (k:Nat) (rs:List Rnd) (ss:List Sea) (e:Stp):Prop:=e.2.2.length=k/\Sm e.2.2/\(e.1=0->e.2.1<rs.length)/\(e.1=1 \/ e.1=2->e.2.1<ss.length)/\e.1≤3
def Zai (rs:List Rnd) (ss:List Sea) (e:Stp):Int:=match e.1 with
 | 0=>match rs[e.2.1]? with|some r=>dot r.1 e.2.2-dot r.1 r.2|none=>0
 | 1=>match ss[e.2.1]? with|some r=>r.2|none=>0
 | 2=>match ss[e.2.1]? with|some r=>-r.2|none=>0
 | _=>0
def Zc2 (k:Nat) (rs:List Rnd) (e:Stp):List Int × List Int:=match e.1 with
 | 0=>match rs[e.2.1]? with|some r=>(r.2,e.2.2)|none=>(Zb0 k,e.2.2)
 | 1=>(Zb0 k,e.2.2)
 | _=>(e.2.2,Zb0 k)
def sB (ss:List Sea) (i:Nat):List Int:=((ss[i]?).map (·.1)).getD []
theorem Zrn {ss:List Sea}{i:Nat} (h:i<ss.length):sB ss i=ss[i].1:=by simp [sB,gEq h]
def Zdf (told:List (List Int)) (rs:List Rnd) (ss:List Sea):List Stp:=
 told.map (λ b=>(3,0,b))++((List.range ss.length).flatMap λ i=>[(1,i,sB ss i),(2,i,sB ss i)])++(List.range rs.length).flatMap λ i=>told.map λ b=>(0,i,b)
abbrev ArcT:=List Int × List Int × Int × Stp
def arcF (k:Nat) (rs:List Rnd) (ss:List Sea) (e:Stp):ArcT:=((Zc2 k rs e).1,(Zc2 k rs e).2,Zai rs ss e,e)
def arcD (a:ArcT):PyData:=.tuple [tI a.1,tI a.2.1,.int a.2.2.1,Zcp a.2.2.2]
def arcsF (k:Nat) (told:List (List Int)) (rs:List Rnd) (ss:List Sea):List ArcT:=(Zdf told rs ss).map (arcF k rs ss)
theorem Zr0 (l:List Nat) (ss:List Sea):(l.flatMap λ i=>[((1:Nat),i,sB ss i),(2,i,sB ss i)]).length=2*l.length:=by
 induction l with
 | nil=>rfl
 | cons i l ih=>rw [flatMap_cons,length_append,ih];simp;omega
theorem Zpy (l:List Nat) (told:List (List Int)):(l.flatMap λ i=>told.map λ b=>((0:Nat),i,b)).length=l.length*told.length:=by
 induction l with
 | nil=>simp
 | cons i l ih=>rw [flatMap_cons,length_append,ih,lmp,length_cons,add_mul,one_mul];omega
theorem Zjm {told:List (List Int)}{rs:List Rnd}{ss:List Sea}:(Zdf told rs ss).length=told.length+2*ss.length+rs.length*told.length:=by
 unfold Zdf
 rw [length_append,length_append,lmp,Zr0,Zpy,length_range,length_range]
theorem Zjx {k:Nat}{told:List (List Int)}{rs:List Rnd}{ss:List Sea} (ht:∀ b∈told,b.length=k/\Sm b) (hs:∀ r∈ss,r.1.length=k/\Sm r.1):∀ e∈Zdf told rs ss,Valid k rs ss e:=by
 intro e he
 unfold Zdf at he
 rcases mem_append.mp he with he|he
 ·rcases mem_append.mp he with he|he
  ·obtain ⟨b,hb,rfl⟩:=mem_map.mp he
   exact ⟨(ht b hb).1,(ht b hb).2,by simp,by simp,by simp⟩
  ·obtain ⟨i,hi,he⟩:=mem_flatMap.mp he
   have hi':=mem_range.mp hi
   rw [Zrn hi'] at he
   have hr:=hs _ (getElem_mem hi')
   simp only [mem_cons,not_mem_nil,or_false] at he
   rcases he with rfl|rfl
   ·exact ⟨hr.1,hr.2,by simp,λ _=>hi',by simp⟩
   ·exact ⟨hr.1,hr.2,by simp,λ _=>hi',by simp⟩
 ·obtain ⟨i,hi,he⟩:=mem_flatMap.mp he
  obtain ⟨b,hb,rfl⟩:=mem_map.mp he
  exact ⟨(ht b hb).1,(ht b hb).2,λ _=>mem_range.mp hi,by simp,by simp⟩
def Zpt:DSp:=pureS λ vs r=>∃ ns ms,vs=[.d (tI ns),.d (tI ms)]/\Sm ns/\Sm ms/\ns.length≤1000/\r = .int (dot ns ms)
theorem Zrb:MoS Zpt:=Zcd
theorem Zvf:∀ vs w k,Zpt vs w k->vs.length=2:=Zce (by rintro vs r ⟨ns,ms,rfl,_⟩;rfl)
theorem Zx6 (T:Txt K mg):Dn P w K mg base 1 "cost" sCost ["prices", "bundle"] (spD K Zpt):=by
 refine Dn.data (k:=0) T.f_cost Zyj Zvf (λ a cdv A outer s H E hr=>⟨_,_,IPSs.get (Za4 (Zaj (Zad (Zfz rfl) rfl T.z_sum boot_sum (Za0 (by refine' Zb2 (Nc:=["price", "many"]) (cap:=[none,none]) rfl ?i ?k ?g ?t ?e;(case k=>kernel_rfl);(case i=>exact (Zka true true rfl T.z_zip (Za0 (i_pv 0) (Za0 (i_pv 1) Za3))));(case g=>exact (λ _ _ _ _ _=>(Zc4 (K:=K) rfl (n:=2) rfl (Za8 (Zc3 0 (by show List.Nodup (["price", "many"]:List Str);decide +kernel)) (Za8 (Zc3 1 (by show List.Nodup (["price", "many"]:List Str);decide +kernel)) Zau)))));(case t=>exact (λ _ _ _ _ _=>Zb1));(case e=>exact (λ _ _ _ _ _=>(Zam Ze7 (Zc7 0) (Zc7 1))))) Za3))) Zap),(Zab (Zb6 (Zbo Zlj (Za1 (Zbl false (Zrm (Za1 (Za2 0) (Za1 (Za2 1) Za5))) (Zcb (Zaa (Za7 0) (Zaa (Za7 1) Zbp))) Zcc (Zbm (Zah ro_I (Za2 0) (Za2 1)))) Za5))) Zbc),λ as o q h=>?_⟩)
 obtain ⟨r,⟨ns,ms,rfl,h1,h2,hl,rfl⟩,hq⟩:=h
 simp! only [dComp,tI,Zkk]
 refine Zc5 (ns.zip ms) (λ p=>.tuple [.int p.1,.int p.2]) (λ p=>.int (p.1*p.2)) [] rfl trivial (Zat (by simp;omega)) ?_ ?_
 ·rintro ⟨x,y⟩ hx Q hQ
  simp!
  obtain ⟨hx1,hx2⟩:=of_mem_zip hx
  exact ⟨mulS (h1 x hx1) (h2 y hx2),hQ⟩
 ·simp! only [Zhn]
  exact ⟨_,OW.le.refl _,hq⟩
def Zhy:DSp:=pureS λ vs r=>∃ k:Nat,vs=[.d (.list []),.d (.int (k:Int))]/\k≤3/\r=tI (Zb0 k)
theorem Zjt:MoS Zhy:=Zcd
theorem Zp7:∀ vs w k,Zhy vs w k->vs.length=2:=Zce (by rintro vs r ⟨k,rfl,_⟩;rfl)
theorem Zks (T:Txt K mg):Dn P w K mg base 1 "together" sTogether ["some", "kinds"] (spD K Zhy):=by
 refine Dn.data (k:=0) T.f_together Zqn Zp7 (λ a cdv A outer s H E hr=>⟨_,_,IPSs.get (Za4 (Zaj (Zb9 Zb5 rfl T.z_tuple (by decide +kernel) (Za0 (by refine' Zb2 (Nc:=["kind", "some"]) (cap:=[none,some 0]) rfl ?i ?k ?g ?t ?e;(case k=>kernel_rfl);(case i=>exact (Zbt rfl T.z_range (Za0 (i_pv 1) Za3)));(case g=>exact (λ _ _ _ _ _=>(Yad 0 (by show List.Nodup (["kind", "some"]:List Str);decide +kernel))));(case t=>exact (λ _ _ _ _ _=>Zb1));(case e=>exact (λ _ _ _ _ _=>(Zad (Zmg (K:=K) rfl rfl) Zcz T.z_sum boot_sum (Za0 (by refine' Zb2 (Nc:=["bundle", "kind"]) (cap:=[none,some 0]) rfl ?i ?k ?g ?t ?e;(case k=>kernel_rfl);(case i=>exact (Zs6 (K:=K) rfl (Ze0 1)));(case g=>exact (λ _ _ _ _ _=>(Zc3 0 (by show List.Nodup (["bundle", "kind"]:List Str);decide +kernel))));(case t=>exact (λ _ _ _ _ _=>Zb1));(case e=>exact (λ _ _ _ _ _=>(Zan (Zjc (K:=K) rfl) (Zc7 0) (Ze0 1) (λ _ _=>rfl))))) Za3))))) Za3))) Zap),(Zab (Zb6 (Zbo Zcm (Za1 (Zbl false (Zdk (Za1 (Za2 1) Za5)) (Za7 0) Zcc (Zbm (Zbo Zlj (Za1 (Zbl false (Ze8 (Za2 1)) (Za7 0) Zcc (Zbm (Zah Zby (Za2 0) (Za2 1)))) Za5)))) Za5))) Zbc),λ as o q h=>?_⟩)
 obtain ⟨r,⟨n,rfl,hn,rfl⟩,hq⟩:=h
 simp! only [dComp]
 refine ⟨⟨by omega,by omega⟩,?_⟩
 unfold rngD
 refine Zc5 (List.range (n:Int).toNat) (λ (i:Nat)=>.int (0+(i:Int))) (λ _=>.int 0) [] rfl trivial (Zat (by simp;omega)) ?_ ?_
 ·intro i hi Q hQ
  simp!
  refine Zc5 ([]:List Int) (λ _=>.int 0) (λ _=>.int 0) [] rfl trivial (by decide) (λ x hx=>by cases hx) ?_
  simp! only [uIs]
  exact hQ
 ·simp!
  refine ⟨_,OW.le.refl _,?_⟩
  have e:(List.range (n:Int).toNat).map (λ _=>PyData.int 0)=(Zb0 n).map .int:=by
   unfold Zb0
   rw [map_replicate,List.eq_replicate_iff]
   exact ⟨by simp,λ b hb=>by obtain ⟨i,_,rfl⟩:=mem_map.mp hb;rfl⟩
  rw [e];exact hq
end
end Mine
namespace Mine
open PySem PySem.Spec PyProof.Rows L2
section
variable {P:Program}{w:World}{K:PySem.W.Frag}{mg:Str->Option Value}{base:Heap}
theorem Zdi {α β:Type}{f:α->β}{l:List α}{i:Nat}{d:β} (h:(l.map f)[i]? = some d):∃ r,l[i]? = some r/\f r=d:=by
 rw [getElem?_map] at h
 cases e:l[i]? with
 | none=>rw [e] at h;cases h
 | some r=>rw [e] at h;exact ⟨r,rfl,Option.some.inj h⟩
def Zf7:DSp:=pureS λ vs r=>∃ k rs ss,vs=[.d (Zbx rs),.d (Zbb ss),.d (.int (k:Nat))]/\Hist k rs ss/\r = .tuple ((Zav k rs ss).map tI)
theorem Zk8:MoS Zf7:=Zcd
theorem Zk6:∀ vs w k,Zf7 vs w k->vs.length=3:=Zce (by rintro vs r ⟨k,rs,ss,rfl,_⟩;rfl)
theorem Zkt (T:Txt K mg):∃ e,EmptyAt K e/\DnD P w K mg base 2 "told_bundles" sToldBundles ["rounds", "sealed", "kinds"] (spD K Zf7) e:=by
 have D_together:=Zks (P:=P) (w:=w) (base:=base) T
 obtain ⟨e_here,em_here,U_here⟩:=T.f_told_bundles
 refine ⟨e_here,em_here,DnD.data (k:=1) U_here Ze9 Zk6 (λ a cdv A outer s H E hr=>⟨_,_,IPSs.get (Za4 (Zag (i:=3) Ze9.nd rfl (Or.inl rfl) (Zam Ztu (by refine' Zb2 (Nc:=["prices", "bundle"]) (cap:=[none,none]) rfl ?i ?k ?g ?t ?e;(case k=>kernel_rfl);(case i=>exact (Zbu (i_pv 0)));(case g=>exact (λ _ _ _ _ _=>(Zc4 (K:=K) rfl (n:=2) rfl (Za8 (Zc3 0 (by show List.Nodup (["prices", "bundle"]:List Str);decide +kernel)) (Za8 (Zc3 1 (by show List.Nodup (["prices", "bundle"]:List Str);decide +kernel)) Zau)))));(case t=>exact (λ _ _ _ _ _=>Zb1));(case e=>exact (λ _ _ _ _ _=>(Zc7 1)))) (by refine' Zb2 (Nc:=["bundle", "money"]) (cap:=[none,none]) rfl ?i ?k ?g ?t ?e;(case k=>kernel_rfl);(case i=>exact (Zbu (i_pv 1)));(case g=>exact (λ _ _ _ _ _=>(Zc4 (K:=K) rfl (n:=2) rfl (Za8 (Zc3 0 (by show List.Nodup (["bundle", "money"]:List Str);decide +kernel)) (Za8 (Zc3 1 (by show List.Nodup (["bundle", "money"]:List Str);decide +kernel)) Zau)))));(case t=>exact (λ _ _ _ _ _=>Zb1));(case e=>exact (λ _ _ _ _ _=>(Zc7 0))))))
  (Za4 (Zag (i:=4) Ze9.nd rfl (Or.inl rfl) (Zbs (Za0 (Zox D_together (Zf8) (hr.mono (by decide)) (Za0 (Zbs Za3) Za3) (Zen (i_pv 2) Zfi)) Za3)))
  (Za4 (Zc6 PassesOwn.never rfl (Zd3 (i_pv 3)) (Zaf (i:=5) Ze9.nd rfl (Or.inl rfl)) (Za9 (Zbg (Zal (Zg4 hr.units) (i_pv 5) (i_pv 4) rfl) (Za9 (Zch (Zd7 plainAttrs_list PySem.F.slot_list_append PySem.F.type_list_append Zck (i_pv 4) (Za0 (i_pv 5) Za3)))) Zap)))
  (Za9 (Zaj (Zb9 Zb5 rfl T.z_tuple (by decide +kernel) (Za0 (i_pv 4) Za3))))))),(Zab (Zas (Zah (Zud false) (Zbl false (Zcq (Za2 0)) (Zcb (Zaa (Za7 0) (Zaa (Za7 1) Zbp))) Zcc (Zbm (Za2 1))) (Zbl false (Zcq (Za2 1)) (Zcb (Zaa (Za7 0) (Zaa (Za7 1) Zbp))) Zcc (Zbm (Za2 0)))) (Za7 3))
  (Zab (Zas (Zcx true (Za1 (Zrk Zjt (Za1 (Zcx false Za5) Za5) (Za1 (Za2 2) Za5)) Za5)) (Za7 4))
  (Zab (Zde (Ze8 (Za2 3)) (Za7 5) (Zd4 (Zb3 (Zah Zll (Za2 5) (Za2 4))) (Zdl (Zec (Za2 4) (Za1 (Za2 5) Za5))) Zbc))
  (Zb6 (Zbo Zcm (Za1 (Za2 4) Za5)))))),λ as o q h=>?_⟩)⟩
 obtain ⟨r,⟨n,rs,ss,rfl,hH,rfl⟩,hq⟩:=h
 simp! only [dComp,Zbx,Zbb]
 refine Zc5 rs rowD (λ r=>tI r.2) [] rfl trivial (Zat (by have:=hH.rl;simp;omega)) ?_ ?_
 ·intro r hr Q hQ
  simp! only [rowD]
  exact hQ
 simp!
 refine Zc5 ss Zc9 (λ r=>tI r.1) [] rfl trivial (Zat (by have:=hH.sl;simp;omega)) ?_ ?_
 ·intro r hr Q hQ
  simp! only [Zc9]
  exact hQ
 simp!
 have hrl:=hH.rl
 have hsl:=hH.sl
 refine ⟨Zfe (by simp;omega),?_⟩
 refine ⟨by decide,?_⟩
 refine ⟨_,⟨n,rfl,hH.k3,rfl⟩,?_⟩
 refine ⟨L2.sz1,λ p hp=>?_⟩
 have eb:rs.map (λ r=>tI r.2)++ss.map (λ r=>tI r.1)=(rs.map Prod.snd++ss.map Prod.fst).map tI:=by rw [map_append,map_map,map_map];rfl
 rw [eb]
 generalize hbs:rs.map Prod.snd++ss.map Prod.fst=bs
 have hbl:bs.length≤26:=by rw [<- hbs];simp;omega
 have eT:Zav n rs ss=bs.foldl addB [Zb0 n]:=by rw [<- hbs];rfl
 simp!
 refine ⟨λ i s=>∃ o5,s=⟨[some (.d (.tuple (rs.map rowD))),some (.d (.tuple (ss.map Zc9))),some (.d (.int (n:Nat))),some (.d (.list (bs.map tI))),some (.own p),o5],o.put p (.lst (((bs.take i).foldl addB [Zb0 n]).map tI))⟩,⟨none,rfl⟩,λ _ _ _=>trivial,?_,?_⟩
 ·rintro i d s hd ⟨o5,rfl⟩
  obtain ⟨b,hb,rfl⟩:=Zdi hd
  have hlen:=Zg0 (bs.take i) [Zb0 n]
  have hti:(bs.take i).length≤26:=by rw [length_take];omega
  simp only [length_singleton] at hlen
  have et:(bs.take (i+1)).foldl addB [Zb0 n]=addB ((bs.take i).foldl addB [Zb0 n]) b:=by rw [take_add_one,hb,foldl_append];rfl
  simp!
  refine ⟨⟨Zdy b,Zeo _,Ziw b,Zdr _,by rw [Zfn];decide⟩,?_⟩
  rw [Zqs]
  refine ite2 (λ c=>?_) (λ c=>?_)
  all_goals simp!
  ·simp! only [dApp]
   refine ⟨⟨_,rfl⟩,_,rfl,Zat (by rw [lmp];omega),?_⟩
   refine ⟨some (.d (tI b)),?_⟩
   rw [et]
   have hn:b ∉ (bs.take i).foldl addB [Zb0 n]:=by simpa using c
   unfold addB at hn |-
   rw [if_neg hn,map_append];rfl
  ·refine ⟨some (.d (tI b)),?_⟩
   rw [et]
   have hn:b∈(bs.take i).foldl addB [Zb0 n]:=by simpa using c
   unfold addB at hn |-
   rw [if_pos hn]
 ·rintro s ⟨o5,rfl⟩
  simp!
  refine ⟨o,OW.le.new (OW.le.refl o) hp _,?_⟩
  rw [lmp,take_length,<- eT]
  exact hq
def Zkw:DSp:=pureS λ vs r=>∃ k rs ss e,vs=[.d (Zcp e),.d (Zbx rs),.d (Zbb ss)]/\Hist k rs ss/\Valid k rs ss e/\r = .int (Zai rs ss e)
theorem Zsg:MoS Zkw:=Zcd
theorem Zsc:∀ vs w k,Zkw vs w k->vs.length=3:=Zce (by rintro vs r ⟨k,rs,ss,e,rfl,_⟩;rfl)
theorem Zt8 (T:Txt K mg):Dn P w K mg base 2 "weight" sWeight ["step", "rounds", "sealed"] (spD K Zkw):=by
 have D_cost:=Zx6 (P:=P) (w:=w) (base:=base) T
 refine Dn.data (k:=1) T.f_weight Zg6 Zsc (λ a cdv A outer s H E hr=>⟨_,_,IPSs.get (Za4 (Zd9 (i_pv 0) (Zcj (n:=3) rfl (Za8 (Zaf (i:=3) Zg6.nd rfl (Or.inl rfl)) (Za8 (Zaf (i:=4) Zg6.nd rfl (Or.inl rfl)) (Za8 (Zaf (i:=5) Zg6.nd rfl (Or.inl rfl)) Zau)))))
  (Za4 (Zbg (Zal Zea (i_pv 3) Zca (nomark _)) (Za4 (Zd9 (Zan Zc0 (i_pv 1) (i_pv 4) (λ _ _=>rfl)) (Zcj (n:=2) rfl (Za8 (Zaf (i:=6) Zg6.nd rfl (Or.inl rfl)) (Za8 (Zaf (i:=7) Zg6.nd rfl (Or.inl rfl)) Zau))))
  (Za9 (Zaj (Zam Zhs (Zac D_cost Zst (hr.mono (by decide)) (Za0 (i_pv 6) (Za0 (i_pv 5) Za3))) (Zac D_cost Zst (hr.mono (by decide)) (Za0 (i_pv 6) (Za0 (i_pv 7) Za3))))))) Zap)
  (Za4 (Zbg (Zal Zea (i_pv 3) Zca (nomark _)) (Za9 (Zaj (Zan Zc0 (Zan Zc0 (i_pv 2) (i_pv 4) (λ _ _=>rfl)) Za6 (λ _ _=>rfl)))) Zap)
  (Za4 (Zbg (Zal Zea (i_pv 3) Zca (nomark _)) (Za9 (Zaj (Zh5 Zjz (Zan Zc0 (Zan Zc0 (i_pv 2) (i_pv 4) (λ _ _=>rfl)) Za6 (λ _ _=>rfl))))) Zap)
  (Za9 (Zaj Za6)))))),(Zab (Zas (Za2 0) (Zcb (Zaa (Za7 3) (Zaa (Za7 4) (Zaa (Za7 5) Zbp)))))
  (Zab (Zd4 (Zb3 (Zah Zeb (Za2 3) Zdm)) (Zab (Zas (Zah Zby (Za2 1) (Za2 4)) (Zcb (Zaa (Za7 6) (Zaa (Za7 7) Zbp))))
  (Zb6 (Zah Zdx (Zak Zrb (Za1 (Za2 6) (Za1 (Za2 5) Za5))) (Zak Zrb (Za1 (Za2 6) (Za1 (Za2 7) Za5)))))) Zbc)
  (Zab (Zd4 (Zb3 (Zah Zeb (Za2 3) Zdm)) (Zb6 (Zah Zby (Zah Zby (Za2 2) (Za2 4)) Zae)) Zbc)
  (Zab (Zd4 (Zb3 (Zah Zeb (Za2 3) Zdm)) (Zb6 (Ya4 ru_I (Zah Zby (Zah Zby (Za2 2) (Za2 4)) Zae))) Zbc)
  (Zb6 Zae))))),λ as o q h=>?_⟩)
 obtain ⟨r,⟨n,rs,ss,⟨e,i,b⟩,rfl,hH,⟨v1,v2,v3,v4,v5⟩,rfl⟩,hq⟩:=h
 simp only at v1 v2 v3 v4 v5
 simp! only [Zbx,Zbb,Zcp]
 match e,v3,v4,v5 with
 | 0,v3,v4,v5=>
  have hi:=v3 rfl
  have hr:=hH.row _ (getElem_mem hi)
  simp only [wordOf,decide_true,if_true]
  refine ⟨rowD rs[i],?_,?_⟩
  ·exact Zcy (by rw [getElem?_map,gEq hi];rfl)
  simp! only [rowD]
  refine ⟨_,⟨_,_,rfl,hr.2.2.1,v2,by rw [hr.1];have:=hH.k3;omega,rfl⟩,_,⟨_,_,rfl,hr.2.2.1,hr.2.2.2,by rw [hr.1];have:=hH.k3;omega,rfl⟩,?_⟩
  refine ⟨_,OW.le.refl _,?_⟩
  have e:Zai rs ss (0,i,b)=dot rs[i].1 b-dot rs[i].1 rs[i].2:=by simp [Zai,gEq hi]
  rw [e] at hq;exact hq
 | 1,v3,v4,v5=>
  have hi:=v4 (.inl rfl)
  have d1:decide ((wordOf 1)=("round" : Str))=false:=by decide
  have d2:decide ((wordOf 1)=("bid" : Str))=true:=by decide
  simp only [d1,d2,false_eq_true,if_false,if_true]
  refine ⟨Zc9 ss[i],Zcy (by rw [getElem?_map,gEq hi];rfl),?_⟩
  simp! only [Zc9]
  refine ⟨.int ss[i].2,rfl,_,OW.le.refl _,?_⟩
  have e:Zai rs ss (1,i,b)=ss[i].2:=by simp [Zai,gEq hi]
  rw [e] at hq;exact hq
 | 2,v3,v4,v5=>
  have hi:=v4 (.inr rfl)
  have d1:decide ((wordOf 2)=("round" : Str))=false:=by decide
  have d2:decide ((wordOf 2)=("bid" : Str))=false:=by decide
  have d3:decide ((wordOf 2)=("due" : Str))=true:=by decide
  simp only [d1,d2,d3,false_eq_true,if_false,if_true]
  refine ⟨Zc9 ss[i],Zcy (by rw [getElem?_map,gEq hi];rfl),?_⟩
  simp! only [Zc9]
  refine ⟨.int ss[i].2,rfl,_,OW.le.refl _,?_⟩
  have e:Zai rs ss (2,i,b) = -ss[i].2:=by simp [Zai,gEq hi]
  rw [e] at hq;exact hq
 | 3,v3,v4,v5=>
  have d1:decide ((wordOf 3)=("round" : Str))=false:=by decide
  have d2:decide ((wordOf 3)=("bid" : Str))=false:=by decide
  have d3:decide ((wordOf 3)=("due" : Str))=false:=by decide
  simp only [d1,d2,d3,false_eq_true,if_false]
  exact ⟨_,OW.le.refl _,hq⟩
def Zpu:DSp:=pureS λ vs r=>∃ k rs ss e,vs=[.d (Zcp e),.d (Zbx rs)]/\Hist k rs ss/\Valid k rs ss e/\r = .tuple [tI (Zc2 k rs e).1,tI (Zc2 k rs e).2]
theorem Zvk:MoS Zpu:=Zcd
theorem Zvg:∀ vs w k,Zpu vs w k->vs.length=2:=Zce (by rintro vs r ⟨k,rs,ss,e,rfl,_⟩;rfl)
theorem Zx8 (T:Txt K mg):Dn P w K mg base 2 "ends" sEnds ["step", "rounds"] (spD K Zpu):=by
 have D_together:=Zks (P:=P) (w:=w) (base:=base) T
 refine Dn.data (k:=1) T.f_ends Zlo Zvg (λ a cdv A outer s H E hr=>⟨_,_,IPSs.get (Za4 (Zd9 (i_pv 0) (Zcj (n:=3) rfl (Za8 (Zaf (i:=2) Zlo.nd rfl (Or.inl rfl)) (Za8 (Zaf (i:=3) Zlo.nd rfl (Or.inl rfl)) (Za8 (Zaf (i:=4) Zlo.nd rfl (Or.inl rfl)) Zau)))))
  (Za4 (Zag (i:=5) Zlo.nd rfl (Or.inl rfl) (Zox D_together (Zf8) (hr.mono (by decide)) (Za0 (Zbs Za3) Za3) (Zen (Zad Zaz rfl T.z_len boot_len (Za0 (i_pv 4) Za3)) Zfi)))
  (Za4 (Zbg (Zal Zea (i_pv 2) Zca (nomark _)) (Za9 (Zaj (Zaq (Za0 (Zan Zc0 (Zan Zc0 (i_pv 1) (i_pv 3) (λ _ _=>rfl)) Za6 (λ _ _=>rfl)) (Za0 (i_pv 4) Za3))))) Zap)
  (Za4 (Zbg (Zal Zea (i_pv 2) Zca (nomark _)) (Za9 (Zaj (Zaq (Za0 (i_pv 5) (Za0 (i_pv 4) Za3))))) Zap)
  (Za9 (Zaj (Zaq (Za0 (i_pv 4) (Za0 (i_pv 5) Za3))))))))),(Zab (Zas (Za2 0) (Zcb (Zaa (Za7 2) (Zaa (Za7 3) (Zaa (Za7 4) Zbp)))))
  (Zab (Zas (Zrk Zjt (Za1 (Zcx false Za5) Za5) (Za1 (Zbo Zdd (Za1 (Za2 4) Za5)) Za5)) (Za7 5))
  (Zab (Zd4 (Zb3 (Zah Zeb (Za2 2) Zdm)) (Zb6 (Zbq (Za1 (Zah Zby (Zah Zby (Za2 1) (Za2 3)) Zae) (Za1 (Za2 4) Za5)))) Zbc)
  (Zab (Zd4 (Zb3 (Zah Zeb (Za2 2) Zdm)) (Zb6 (Zbq (Za1 (Za2 5) (Za1 (Za2 4) Za5)))) Zbc)
  (Zb6 (Zbq (Za1 (Za2 4) (Za1 (Za2 5) Za5)))))))),λ as o q h=>?_⟩)
 obtain ⟨r,⟨n,rs,ss,⟨e,i,b⟩,rfl,hH,⟨v1,v2,v3,v4,v5⟩,rfl⟩,hq⟩:=h
 simp only at v1 v2 v3 v4 v5
 simp! only [Zbx,Zcp,tI,lmp]
 refine ⟨by decide,_,⟨n,by rw [v1];rfl,hH.k3,rfl⟩,?_⟩
 match e,v3,v4,v5 with
 | 0,v3,v4,v5=>
  have hi:=v3 rfl
  simp only [wordOf,decide_true,if_true]
  refine ⟨rowD rs[i],Zcy (by rw [getElem?_map,gEq hi];rfl),?_⟩
  simp! only [rowD]
  refine ⟨tI rs[i].2,rfl,L2.sz2,_,OW.le.refl _,?_⟩
  have e:Zc2 n rs (0,i,b)=(rs[i].2,b):=by simp [Zc2,gEq hi]
  rw [e] at hq;exact hq
 | 1,v3,v4,v5=>
  have d1:decide ((wordOf 1)=("round" : Str))=false:=by decide
  have d2:decide ((wordOf 1)=("bid" : Str))=true:=by decide
  simp only [d1,d2,false_eq_true,if_false,if_true]
  exact ⟨L2.sz2,_,OW.le.refl _,hq⟩
 | 2,v3,v4,v5=>
  have d1:decide ((wordOf 2)=("round" : Str))=false:=by decide
  have d2:decide ((wordOf 2)=("bid" : Str))=false:=by decide
  simp only [d1,d2,false_eq_true,if_false]
  exact ⟨L2.sz2,_,OW.le.refl _,hq⟩
 | 3,v3,v4,v5=>
  have d1:decide ((wordOf 3)=("round" : Str))=false:=by decide
  have d2:decide ((wordOf 3)=("bid" : Str))=false:=by decide
  simp only [d1,d2,false_eq_true,if_false]
  exact ⟨L2.sz2,_,OW.le.refl _,hq⟩
end
end Mine
namespace Mine
open PySem PySem.Spec PyProof.Rows L2
section
variable {P:Program}{w:World}{K:PySem.W.Frag}{mg:Str->Option Value}{base:Heap}
def tT (bs:List (List Int)):PyData:=.tuple (bs.map tI)
def Zhx:DSp:=pureS λ vs r=>∃ k rs ss told,vs=[.d (tT told),.d (Zbx rs),.d (Zbb ss)]/\Hist k rs ss/\told.length≤30/\r = .list ((Zdf told rs ss).map Zcp)
theorem Zp8:MoS Zhx:=Zcd
theorem Zp6:∀ vs w k,Zhx vs w k->vs.length=3:=Zce (by rintro vs r ⟨k,rs,ss,e,rfl,_⟩;rfl)
theorem Zpq (T:Txt K mg):Dn P w K mg base 1 "steps_of" sStepsOf ["told", "rounds", "sealed"] (spD K Zhx):=by
 refine Dn.data (k:=0) T.f_steps_of Zi5 Zp6 (λ a cdv A outer s H E hr=>⟨_,_,IPSs.get (Za4 (by refine' Zfj (i:=3) Zi5.nd rfl (Or.inl rfl) (Nc:=["bundle"]) (cap:=[none]) rfl ?i ?k ?g ?t ?e;(case k=>kernel_rfl);(case i=>exact (Zbu (i_pv 0)));(case g=>exact (λ _ _ _ _ _=>(Zc3 0 (by show List.Nodup (["bundle"]:List Str);decide +kernel))));(case t=>exact (λ _ _ _ _ _=>Zb1));(case e=>exact (λ _ _ _ _ _=>(Zaq (Za0 Zca (Za0 Za6 (Za0 (Zc7 0) Za3)))))))
  (Za4 (Zva (i:=3) Zi5.nd rfl (Or.inl rfl) (by refine' Zmk (Nc:=["place", "word", "sealed"]) (cap:=[none,none,some 2]) rfl ?i ?k ?g ?j ?h ?e;(case k=>kernel_rfl);(case i=>exact (Zbt rfl T.z_range (Za0 (Zad Zaz rfl T.z_len boot_len (Za0 (i_pv 2) Za3)) Za3)));(case g=>exact (λ _ _ _ _ _=>(Zc3 0 (by show List.Nodup (["place", "word", "sealed"]:List Str);decide +kernel))));(case j=>exact (λ _ _ _ _ _=>(Zkz (K:=K) rfl (Zaq (Za0 Zca (Za0 Zca Za3))))));(case h=>exact (λ _ _ _ _ _=>(Zc3 1 (by show List.Nodup (["place", "word", "sealed"]:List Str);decide +kernel))));(case e=>exact (λ _ _ _ _ _=>(Zaq (Za0 (Zc7 1) (Za0 (Zc7 0) (Za0 (Zan (Zjc (K:=K) rfl) (Zan (Zjc (K:=K) rfl) (Ze0 2) (Zc7 0) (λ _ _=>rfl)) Za6 (λ _ _=>rfl)) Za3))))))) Zxi)
  (Za9 (Zaj (Zam Ztu (i_pv 3) (by refine' Zmk (Nc:=["place", "bundle", "told"]) (cap:=[none,none,some 0]) rfl ?i ?k ?g ?j ?h ?e;(case k=>kernel_rfl);(case i=>exact (Zbt rfl T.z_range (Za0 (Zad Zaz rfl T.z_len boot_len (Za0 (i_pv 1) Za3)) Za3)));(case g=>exact (λ _ _ _ _ _=>(Zc3 0 (by show List.Nodup (["place", "bundle", "told"]:List Str);decide +kernel))));(case j=>exact (λ _ _ _ _ _=>(Zkz (K:=K) rfl (Ze0 2))));(case h=>exact (λ _ _ _ _ _=>(Zc3 1 (by show List.Nodup (["place", "bundle", "told"]:List Str);decide +kernel))));(case e=>exact (λ _ _ _ _ _=>(Zaq (Za0 Zca (Za0 (Zc7 0) (Za0 (Zc7 1) Za3)))))))))))),(Zab (Zas (Zbl true (Zcq (Za2 0)) (Za7 0) Zcc (Zbm (Zbq (Za1 Zdm (Za1 Zae (Za1 (Za2 0) Za5)))))) (Za7 3))
  (Zab (Zyg (Zbl false (Zdk (Za1 (Zbo Zdd (Za1 (Za2 2) Za5)) Za5)) (Za7 0) Zcc (Zuc (Zcq (Zbq (Za1 Zdm (Za1 Zdm Za5)))) (Za7 1) Zcc (Zbm (Zbq (Za1 (Za2 1) (Za1 (Za2 0) (Za1 (Zah Zby (Zah Zby (Za2 2) (Za2 0)) Zae) Za5))))))))
  (Zb6 (Zah (Zud false) (Za2 3) (Zbl false (Zdk (Za1 (Zbo Zdd (Za1 (Za2 1) Za5)) Za5)) (Za7 0) Zcc (Zuc (Zcq (Za2 2)) (Za7 1) Zcc (Zbm (Zbq (Za1 Zdm (Za1 (Za2 0) (Za1 (Za2 1) Za5))))))))))),λ as o q h=>?_⟩)
 obtain ⟨r,⟨n,rs,ss,told,rfl,hH,htl,rfl⟩,hq⟩:=h
 have hrl:=hH.rl
 have hsl:=hH.sl
 simp! only [dComp,Zbx,Zbb,tT]
 refine Zc5 told tI (λ b=>Zcp (3,0,b)) [] rfl trivial (Zat (by simp;omega)) ?_ ?_
 ·intro b hb Q hQ
  simp!
  exact ⟨L2.sz3,hQ⟩
 simp!
 intro p hp
 unfold dAugL
 simp! only [dComp,lmp]
 refine ⟨⟨by omega,by omega⟩,?_⟩
 unfold rngD
 have e1:(List.range ((ss.length:Nat):Int).toNat)=List.range ss.length:=rfl
 refine Znj (List.range ss.length) (λ (i:Nat)=>.int (0+(i:Int))) (λ i=>[Zcp (1,i,sB ss i),Zcp (2,i,sB ss i)]) [] rfl trivial ?_ ?_ ?_
 ·have e:((List.range ss.length).flatMap λ i=>[Zcp (1,i,sB ss i),Zcp (2,i,sB ss i)]).length=2*ss.length:=by
   have:=Zr0 (List.range ss.length) ss
   rw [length_range] at this
   rw [<- this,<- length_map (f:=Zcp),map_flatMap];rfl
  rw [e];exact Zat (by simp;omega)
 ·intro i hi acc hacc Q hQ
  have hi':=mem_range.mp hi
  rw [Zrn hi'] at hQ
  simp! only [dLoop]
  refine ⟨L2.sz2,?_⟩
  refine Zc5 [((1:Nat),("bid" : Str)),(2, "due")] (λ p=>.str p.2) (λ p=>Zcp (p.1,i,ss[i].1)) acc rfl trivial hacc ?_ ?_
  ·rintro ⟨m,u⟩ hm Q hQ
   simp!
   refine ⟨Zc9 ss[i],?_,?_⟩
   ·rw [Int.zero_add];exact Zcy (by rw [getElem?_map,gEq hi'];rfl)
   simp! only [Zc9]
   refine ⟨_,rfl,L2.sz3,?_⟩
   have em:wordOf m=u:=by
    simp only [mem_cons,not_mem_nil,or_false] at hm
    rcases hm with z|z <;> cases z <;> rfl
   simpa [Zcp,em] using hQ
  ·exact ⟨by simp [ext],hQ⟩
 have eC:((List.range ss.length).flatMap λ i=>[Zcp (1,i,sB ss i),Zcp (2,i,sB ss i)])=((List.range ss.length).flatMap λ i=>[((1:Nat),i,sB ss i),(2,i,sB ss i)]).map Zcp:=by rw [map_flatMap];rfl
 rw [eC]
 simp!
 refine ⟨_,_,rfl,rfl,?_,?_⟩
 ·rw [lmp,lmp,Zr0,length_range];exact Zfe (by omega)
 simp! only [lmp]
 refine ⟨⟨by omega,by omega⟩,?_⟩
 refine Znj (List.range rs.length) (λ (i:Nat)=>.int (0+(i:Int))) (λ i=>told.map λ b=>Zcp (0,i,b)) [] rfl trivial ?_ ?_ ?_
 ·have e:((List.range rs.length).flatMap λ i=>told.map λ b=>Zcp (0,i,b)).length=rs.length*told.length:=by
   have:=Zpy (List.range rs.length) told
   rw [length_range] at this
   rw [<- this,<- length_map (f:=Zcp),map_flatMap]
   simp only [map_map];rfl
  rw [e]
  have:=mul_le_mul hrl htl
  exact Zat (by simp;omega)
 ·intro i hi acc hacc Q hQ
  simp! only [dLoop]
  refine Zc5 told tI (λ b=>Zcp (0,i,b)) acc rfl trivial (by simpa using hacc) ?_ ?_
  ·intro b hb Q hQ
   simp!
   refine ⟨L2.sz3,?_⟩
   simpa [Zcp,wordOf] using hQ
  ·exact ⟨by simp [ext],hQ⟩
 have eR:((List.range rs.length).flatMap λ i=>told.map λ b=>Zcp (0,i,b))=((List.range rs.length).flatMap λ i=>told.map λ b=>((0:Nat),i,b)).map Zcp:=by
  rw [map_flatMap];simp only [map_map];rfl
 rw [eR]
 simp!
 have eA:told.map (λ b=>Zcp (3,0,b))=(told.map λ b=>((3:Nat),(0:Nat),b)).map Zcp:=by rw [map_map];rfl
 rw [eA,<- map_append,<- map_append]
 refine ⟨?_,_,OW.le.new (OW.le.refl o) hp _,hq⟩
 have:=Zjm (told:=told) (rs:=rs) (ss:=ss)
 unfold Zdf at this
 simp only [lmp,length_append,Zr0,Zpy,length_range]
 have:=mul_le_mul hrl htl
 exact Zfe (by omega)
def Zj5:DSp:=pureS λ vs r=>∃ k rs ss told,vs=[.d (tT told),.d (Zbx rs),.d (Zbb ss)]/\Hist k rs ss/\(told.length≤30/\∀ b∈told,b.length=k/\Sm b)/\r = .list ((arcsF k told rs ss).map arcD)
theorem Zq8:MoS Zj5:=Zcd
theorem Zq1:∀ vs w k,Zj5 vs w k->vs.length=3:=Zce (by rintro vs r ⟨k,rs,ss,e,rfl,_⟩;rfl)
theorem Zs1 (T:Txt K mg):Dn P w K mg base 3 "arcs_of" sArcsOf ["told", "rounds", "sealed"] (spD K Zj5):=by
 have D_ends:=Zx8 (P:=P) (w:=w) (base:=base) T
 have D_steps_of:=Zpq (P:=P) (w:=w) (base:=base) T
 have D_weight:=Zt8 (P:=P) (w:=w) (base:=base) T
 refine Dn.data (k:=2) T.f_arcs_of Zsl Zq1 (λ a cdv A outer s H E hr=>⟨_,_,IPSs.get (Za4 (Zaj (by refine' Zb2 (Nc:=["step", "rounds", "sealed"]) (cap:=[none,some 1,some 2]) rfl ?i ?k ?g ?t ?e;(case k=>kernel_rfl);(case i=>exact (Zd3 (Zac D_steps_of Zpm (hr.mono (by decide)) (Za0 (i_pv 0) (Za0 (i_pv 1) (Za0 (i_pv 2) Za3))))));(case g=>exact (λ _ _ _ _ _=>(Zc3 0 (by show List.Nodup (["step", "rounds", "sealed"]:List Str);decide +kernel))));(case t=>exact (λ _ _ _ _ _=>Zb1));(case e=>exact (λ _ _ _ _ _=>(Zam (Zrg (K:=K) rfl) (Zac D_ends Zx4 (hr.mono (by decide)) (Za0 (Zc7 0) (Za0 (Ze0 1) Za3)) (hg:=Zcz)) (Zaq (Za0 (Zac D_weight Zsu (hr.mono (by decide)) (Za0 (Zc7 0) (Za0 (Ze0 1) (Za0 (Ze0 2) Za3))) (hg:=Zcz)) (Za0 (Zc7 0) Za3)))))))) Zap),(Zab (Zb6 (Zbl false (Ze8 (Zak Zp8 (Za1 (Za2 0) (Za1 (Za2 1) (Za1 (Za2 2) Za5))))) (Za7 0) Zcc (Zbm (Zah Zi4 (Zak Zvk (Za1 (Za2 0) (Za1 (Za2 1) Za5))) (Zbq (Za1 (Zak Zsg (Za1 (Za2 0) (Za1 (Za2 1) (Za1 (Za2 2) Za5)))) (Za1 (Za2 0) Za5))))))) Zbc),λ as o q h=>?_⟩)
 obtain ⟨r,⟨n,rs,ss,told,rfl,hH,⟨htl,ht⟩,rfl⟩,hq⟩:=h
 have hrl:=hH.rl
 have hsl:=hH.sl
 simp! only [dComp]
 refine ⟨_,⟨n,rs,ss,told,rfl,hH,htl,rfl⟩,?_⟩
 have hv:=Zjx (rs:=rs) ht hH.sea
 refine Zc5 (Zdf told rs ss) Zcp (λ e=>arcD (arcF n rs ss e)) [] rfl trivial ?_ ?_ ?_
 ·have:=mul_le_mul hrl htl
  rw [Zjm];exact Zat (by simp;omega)
 ·intro e he Q hQ
  simp!
  refine ⟨_,⟨n,rs,ss,e,rfl,hH,hv e he,rfl⟩,?_⟩
  refine ⟨_,⟨n,rs,ss,e,rfl,hH,hv e he,rfl⟩,?_⟩
  simp!
  exact ⟨L2.sz2,L2.sz4,hQ⟩
 ·simp!
  refine ⟨_,OW.le.refl _,?_⟩
  have e:(arcsF n told rs ss).map arcD=(Zdf told rs ss).map λ e=>arcD (arcF n rs ss e):=by unfold arcsF;rw [map_map];rfl
  rw [e] at hq;exact hq
end
end Mine
namespace Mine
open PySem PySem.Spec PyProof.Rows L2
section
variable {P:Program}{w:World}{K:PySem.W.Frag}{mg:Str->Option Value}{base:Heap}
def lk {β:Type} (kvs:List (List Int × β)) (k:List Int):Option β:=(kvs.find? λ p=>decide (p.1=k)).map (·.2)
def pt {β:Type} (kvs:List (List Int × β)) (k:List Int) (v:β):List (List Int × β):=
 if (kvs.any λ p=>decide (p.1=k))=true then kvs.map (λ p=>if p.1=k then (p.1,v) else p) else kvs++[(k,v)]
def enc {β:Type} (f:β->PyData) (kvs:List (List Int × β)):List (List Int × PyData):=kvs.map λ p=>(p.1,f p.2)
theorem Zd2 {β:Type} (f:β->PyData) (kvs:List (List Int × β)) (k:List Int):dget (enc f kvs) k=(lk kvs k).map f:=by
 unfold dget enc lk
 induction kvs with
 | nil=>rfl
 | cons p r ih=>
  rw [map_cons,List.find?_cons,List.find?_cons]
  by_cases c:p.1=k
  ·simp [c]
  ·simp only [c,decide_false]
   exact ih
theorem Zhh {β:Type} (f:β->PyData) (kvs:List (List Int × β)) (k:List Int) (v:β):dput (enc f kvs) k (f v)=enc f (pt kvs k v):=by
 unfold dput enc pt
 rw [List.any_map]
 simp only [Function.comp_def]
 split
 ·rw [map_map,map_map]
  refine map_congr_left λ p _=>?_
  simp only [Function.comp_def]
  split <;> rfl
 ·rw [map_append];rfl
theorem Zr9 {β:Type} (k:List Int):∀ kvs:List (List Int × β),(kvs.any λ p=>decide (p.1=k))=(lk kvs k).isSome
 | []=>rfl
 | p::r=>by
  rw [any_cons,Zr9 k r]
  unfold lk
  rw [List.find?_cons]
  by_cases c:p.1=k <;> simp [c]
theorem Ze3 {β:Type} (p:List Int × β) (r:List (List Int × β)) (k:List Int):lk (p::r) k=if p.1=k then some p.2 else lk r k:=by
 unfold lk
 rw [List.find?_cons]
 by_cases c:p.1=k <;> simp [c]
theorem Zvi {β:Type} (kvs:List (List Int × β)) (k:List Int) (v:β) (j:List Int):lk (pt kvs k v) j=if j=k then some v else lk kvs j:=by
 unfold pt
 rw [Zr9]
 split
 ·next h=>
  induction kvs with
  | nil=>simp [lk] at h
  | cons p r ih=>
   rw [map_cons,Ze3,Ze3]
   rw [Ze3] at h
   by_cases c:p.1=k
   ·rw [if_pos c]
    by_cases cj:p.1=j
    ·rw [if_pos (by exact cj),if_pos (by rw [<- cj,c])]
    ·rw [if_neg (by exact cj),if_neg (by rw [<- c];exact λ z=>cj z.symm),if_neg cj]
     -- the rest has no such change that matters at j
     have:∀ l:List (List Int × β),lk (l.map λ p=>if p.1=k then (p.1,v) else p) j=lk l j:=by
      intro l
      induction l with
      | nil=>rfl
      | cons q l ih2=>
       rw [map_cons,Ze3,Ze3,ih2]
       by_cases cq:q.1=k
       ·rw [if_pos cq]
        have:¬ q.1=j:=by rw [cq,<- c];exact cj
        rw [if_neg this,if_neg this]
       ·rw [if_neg cq]
     exact this r
   ·rw [if_neg c] at h |-
    by_cases cj:p.1=j
    ·rw [if_pos cj,if_neg (λ z=>c (cj.trans z)),if_pos cj]
    ·rw [if_neg cj,if_neg cj,ih h]
 ·next h=>
  have hn:lk kvs k=none:=by simpa using h
  induction kvs with
  | nil=>
   show lk [(k,v)] j=_
   rw [Ze3]
   by_cases c:k=j
   ·rw [if_pos c,if_pos c.symm]
   ·rw [if_neg c,if_neg (λ z=>c z.symm)]
  | cons p r ih=>
   rw [Ze3] at hn h
   by_cases c:p.1=k
   ·rw [if_pos c] at hn;cases hn
   ·rw [if_neg c] at hn h
    rw [cons_append,Ze3,Ze3,ih h hn]
    by_cases cj:p.1=j
    ·rw [if_pos cj,if_neg (λ z=>c (cj.trans z)),if_pos cj]
    ·rw [if_neg cj,if_neg cj]
theorem Zu4 {β:Type} (kvs:List (List Int × β)) (k:List Int) (v:β):(pt kvs k v).length≤kvs.length+1:=by
 unfold pt;split <;> simp
theorem Zhz {β:Type} (f:β->PyData) (kvs:List (List Int × β)):(enc f kvs).length=kvs.length:=by simp [enc]
abbrev WL:=List (List Int × Int)
abbrev LL3:=List (List Int × ArcT)
abbrev S3:=WL × LL3 × Option (List Int)
def stepS (s:S3) (a:ArcT):S3:=match lk s.1 a.1 with
 | none=>s
 | some d=>match lk s.1 a.2.1 with
  | none=>(pt s.1 a.2.1 (d+a.2.2.1),pt s.2.1 a.2.1 a,some a.2.1)
  | some e=>if d+a.2.2.1<e then (pt s.1 a.2.1 (d+a.2.2.1),pt s.2.1 a.2.1 a,some a.2.1) else s
def Zcg (arcs:List ArcT) (W:WL) (L:LL3):S3:=arcs.foldl stepS (W,L,none)
def foundD:Option (List Int)->PyData
 | none=>.none
 | some b=>tI b
theorem Zum (s:S3) (a:ArcT):(stepS s a).1.length≤s.1.length+1/\(stepS s a).2.1.length≤s.2.1.length+1:=by
 have h1:=λ v=>Zu4 s.1 a.2.1 v
 have h2:=Zu4 s.2.1 a.2.1 a
 unfold stepS
 split
 ·omega
 ·split
  ·exact ⟨h1 _,h2⟩
  ·split
   ·exact ⟨h1 _,h2⟩
   ·omega
theorem Zh3:∀ (l:List ArcT) (s:S3),(l.foldl stepS s).1.length≤s.1.length+l.length/\(l.foldl stepS s).2.1.length≤s.2.1.length+l.length
 | [],s=>by simp
 | a::l,s=>by
  have h1:=Zum s a
  have h2:=Zh3 l (stepS s a)
  rw [foldl_cons,length_cons]
  omega
def Zj6:DSp:=λ vs w k=>∃ (arcs:List ArcT) (W:WL) (L:LL3) (p1 p2:Addr),vs=[.d (.list (arcs.map arcD)),.own p1,.own p2]/\p1≠p2/\w p1=some (.dct (enc .int W))/\w p2=some (.dct (enc arcD L)) /\
 (∀ a∈arcs,a.1≠[]/\a.2.1≠[])/\(arcs.length≤1000/\W.length≤80000/\L.length≤80000) /\
 k (.d (foundD (Zcg arcs W L).2.2)) ((w.put p1 (.dct (enc .int (Zcg arcs W L).1))).put p2 (.dct (enc arcD (Zcg arcs W L).2.1)))
theorem Zqa:MoS Zj6:=λ vs w k k' h ⟨a,b,c,d,e,h1,h2,h3,h4,h5,h6,q⟩=>⟨a,b,c,d,e,h1,h2,h3,h4,h5,h6,h _ _ q⟩
theorem Zq2:∀ vs w k,Zj6 vs w k->vs.length=3:=by
 rintro vs w k ⟨a,b,c,d,e,rfl,_⟩;rfl
theorem Zs3 (T:Txt K mg):Dn P w K mg base 1 "shorten" sShorten ["arcs", "ways", "lasts"] (spD K Zj6):=by
 refine Dn.data (k:=0) T.f_shorten Ze4 Zq2 (λ a cdv A outer s H E hr=>⟨_,_,IPSs.get (Za4 (Zag (i:=3) Ze4.nd rfl (Or.inl rfl) Zhj)
  (Za4 (Zc6 PassesOwn.never rfl (Zd3 (i_pv 0)) (Zaf (i:=4) Ze4.nd rfl (Or.inl rfl)) (Za4 (Zd9 (i_pv 4) (Zcj (n:=4) rfl (Za8 (Zaf (i:=5) Ze4.nd rfl (Or.inl rfl)) (Za8 (Zaf (i:=6) Ze4.nd rfl (Or.inl rfl)) (Za8 (Zaf (i:=7) Ze4.nd rfl (Or.inl rfl)) (Za8 (Zaf (i:=8) Ze4.nd rfl (Or.inl rfl)) Zau))))))
  (Za9 (Zbg (IPW.pt (Ze6 (Zvb (Zh4 hr) (i_pv 5) (i_pv 1)) (Ze1 (IPW.pt (Zgg (Zpz (Zh4 hr) (i_pv 6) (i_pv 1)) (Zfk (Zal Znr (Zam Zct (Zdn (Zh4 hr) (i_pv 1) (i_pv 5) (λ _ _=>rfl)) (i_pv 7)) (Zdn (Zh4 hr) (i_pv 1) (i_pv 6) (λ _ _=>rfl)) (nomark _)))))))) (Za4 (Zij (Zh4 hr) (i_pv 1) (i_pv 6) (Zam Zct (Zdn (Zh4 hr) (i_pv 1) (i_pv 5) (λ _ _=>rfl)) (i_pv 7)))
  (Za4 (Zij (Zh4 hr) (i_pv 2) (i_pv 6) (i_pv 4))
  (Za9 (Zag (i:=3) Ze4.nd rfl (Or.inl rfl) (i_pv 6))))) Zap))))
  (Za9 (Zaj (i_pv 3))))),(Zab (Zas Zmt (Za7 3))
  (Zab (Zde (Ze8 (Za2 0)) (Za7 4) (Zab (Zas (Za2 4) (Zcb (Zaa (Za7 5) (Zaa (Za7 6) (Zaa (Za7 7) (Zaa (Za7 8) Zbp))))))
  (Zd4 (Zhb (rt_b (Ya1 (Za2 5) (Za2 1))) (Znv (rt_b (Zu8 (Za2 6) (Za2 1))) (Zb3 (Zah Zha (Zah Zdx (Zfw (Za2 1) (Za2 5)) (Za2 7)) (Zfw (Za2 1) (Za2 6)))))) (Zab (Znu (Za2 1) (Za2 6) (Zah Zdx (Zfw (Za2 1) (Za2 5)) (Za2 7)))
  (Zab (Znu (Za2 2) (Za2 6) (Za2 4))
  (Zas (Za2 6) (Za7 3)))) Zbc)))
  (Zb6 (Za2 3)))),λ as o q h=>?_⟩)
 obtain ⟨arcs,W,L,p1,p2,rfl,hne,hw1,hw2,hk,⟨hb1,hb2,hb3⟩,hq⟩:=h
 simp!
 simp!
 have b1:∀ (w:OW) (x y:Own),((w.put p1 x).put p2 y) p1=some x:=λ w x y=>by rw [OW.put_ne hne,OW.put_same]
 refine ⟨λ i s=>∃ o4 o5 o6 o7 o8,s=⟨[some (.d (.list (arcs.map arcD))),some (.own p1),some (.own p2),some (.d (foundD ((arcs.take i).foldl stepS (W,L,none)).2.2)),o4,o5,o6,o7,o8],(o.put p1 (.dct (enc .int ((arcs.take i).foldl stepS (W,L,none)).1))).put p2 (.dct (enc arcD ((arcs.take i).foldl stepS (W,L,none)).2.1))⟩,?_,λ _ _ _=>trivial,?_,?_⟩
 ·refine ⟨none,none,none,none,none,?_⟩
  have e1:o.put p1 (.dct (enc .int W))=o:=by
   funext b;unfold OW.put;split
   ·next z=>rw [z,hw1]
   ·rfl
  have e2:o.put p2 (.dct (enc arcD L))=o:=by
   funext b;unfold OW.put;split
   ·next z=>rw [z,hw2]
   ·rfl
  show _=DS.mk _ ((o.put p1 (.dct (enc .int W))).put p2 (.dct (enc arcD L)))
  rw [e1,e2];rfl
 ·rintro i d s hd ⟨o4,o5,o6,o7,o8,rfl⟩
  obtain ⟨a,ha,rfl⟩:=Zdi hd
  obtain ⟨n1,n2⟩:=hk a (mem_of_getElem? ha)
  have et:(arcs.take (i+1)).foldl stepS (W,L,none)=stepS ((arcs.take i).foldl stepS (W,L,none)) a:=by rw [take_add_one,ha,foldl_append];rfl
  have hl:=Zh3 (arcs.take i) (W,L,none)
  have hti:(arcs.take i).length≤1000:=by rw [length_take];omega
  generalize hS:(arcs.take i).foldl stepS (W,L,none)=S at *
  obtain ⟨W1,L1,fo⟩:=S
  simp only at hl
  have b2:∀ (w:OW) (x y z:Own),((w.put p1 x).put p2 y).put p1 z=(w.put p1 z).put p2 y:=λ w x y z=>by
   funext b
   unfold OW.put
   by_cases h1:b=p1
   ·have:¬ b=p2:=by rw [h1];exact hne
    simp [h1,hne]
   ·by_cases h2:b=p2
    ·simp [h2,Ne.symm hne]
    ·simp [h1,h2]
  cases hd1:lk W1 a.1 with
  | none=>
   have es:stepS (W1,L1,fo) a=(W1,L1,fo):=by unfold stepS;simp only [hd1]
   simp! only [et,es,dDIn,dDGet,dDPut,rdK,arcD,b1,Zci n1,Zci n2,Zd2,hd1,Option.some.injEq,exists_eq_left',exists_and_left,Option.map_none,isSome_none]
   exact ⟨_,_,_,_,_,rfl⟩
  | some d=>
   cases he:lk W1 a.2.1 with
   | none=>
    have es:stepS (W1,L1,fo) a=(pt W1 a.2.1 (d+a.2.2.1),pt L1 a.2.1 a,some a.2.1):=by unfold stepS;simp only [hd1,he]
    simp! only [et,es,dDIn,dDGet,dDPut,rdK,arcD,b1,b2,Zci n1,Zci n2,Zd2,hd1,he,Option.some.injEq,exists_eq_left',exists_and_left,Option.map_none,isSome_none,isSome_some]
    refine ⟨_,rfl,Zat (by rw [Zhz];omega),?_⟩
    simp! only [et,es,dDIn,dDGet,dDPut,rdK,arcD,b1,b2,Zci n1,Zci n2,Zd2,hd1,he,Option.some.injEq,exists_eq_left',exists_and_left,Option.map_none,isSome_none,isSome_some]
    refine ⟨_,rfl,Zat (by rw [Zhz];omega),?_⟩
    simp! only [et,es,dDIn,dDGet,dDPut,rdK,arcD,b1,b2,Zci n1,Zci n2,Zd2,hd1,he,Option.some.injEq,exists_eq_left',exists_and_left,Option.map_none,isSome_none,isSome_some]
    have e2:dput (enc arcD L1) a.2.1 (PyData.tuple [tI a.1,tI a.2.1,PyData.int a.2.2.1,Zcp a.2.2.2])=enc arcD (pt L1 a.2.1 a):=Zhh arcD L1 a.2.1 a
    rw [Zhh PyData.int,e2];exact ⟨_,_,_,_,_,rfl⟩
   | some e=>
    by_cases c:d+a.2.2.1<e
    ·have es:stepS (W1,L1,fo) a=(pt W1 a.2.1 (d+a.2.2.1),pt L1 a.2.1 a,some a.2.1):=by unfold stepS;simp only [hd1,he,c,if_true]
     simp! only [et,es,dDIn,dDGet,dDPut,rdK,arcD,b1,b2,Zci n1,Zci n2,Zd2,hd1,he,c,decide_true,Option.some.injEq,exists_eq_left',exists_and_left,Option.map_none,isSome_none,isSome_some]
     refine ⟨_,rfl,Zat (by rw [Zhz];omega),?_⟩
     simp! only [et,es,dDIn,dDGet,dDPut,rdK,arcD,b1,b2,Zci n1,Zci n2,Zd2,hd1,he,c,decide_true,Option.some.injEq,exists_eq_left',exists_and_left,Option.map_none,isSome_none,isSome_some]
     refine ⟨_,rfl,Zat (by rw [Zhz];omega),?_⟩
     simp! only [et,es,dDIn,dDGet,dDPut,rdK,arcD,b1,b2,Zci n1,Zci n2,Zd2,hd1,he,c,decide_true,Option.some.injEq,exists_eq_left',exists_and_left,Option.map_none,isSome_none,isSome_some]
     have e2:dput (enc arcD L1) a.2.1 (PyData.tuple [tI a.1,tI a.2.1,PyData.int a.2.2.1,Zcp a.2.2.2])=enc arcD (pt L1 a.2.1 a):=Zhh arcD L1 a.2.1 a
     rw [Zhh PyData.int,e2];exact ⟨_,_,_,_,_,rfl⟩
    ·have es:stepS (W1,L1,fo) a=(W1,L1,fo):=by unfold stepS;simp only [hd1,he,c,if_false]
     simp! only [et,es,dDIn,dDGet,dDPut,rdK,arcD,b1,b2,Zci n1,Zci n2,Zd2,hd1,he,c,decide_false,Option.some.injEq,exists_eq_left',exists_and_left,Option.map_none,isSome_none,isSome_some]
     exact ⟨_,_,_,_,_,rfl⟩
 ·rintro s ⟨o4,o5,o6,o7,o8,rfl⟩
  simp! only [lmp,take_length]
  exact ⟨_,OW.le.refl _,hq⟩
end
end Mine
namespace Mine
open PySem PySem.Spec PyProof.Rows L2
section
variable {P:Program}{w:World}{K:PySem.W.Frag}{mg:Str->Option Value}{base:Heap}
def runS (arcs:List ArcT):Nat->S3->S3
 | 0,s=>s
 | n+1,s=>match Zcg arcs s.1 s.2.1 with
  | (W,L,none)=>(W,L,none)
  | (W,L,some b)=>runS arcs n (W,L,some b)
def Zew:DSp:=pureS λ vs r=>∃ (told:List (List Int)) (z:List Int) (arcs:List ArcT),vs=[.d (tT (z::told)),.d (.list (arcs.map arcD))]/\z≠[]/\(told.length≤30/\arcs.length≤1000)/\(∀ a∈arcs,a.1≠[]/\a.2.1≠[]) /\
 r = .tuple [.dict (kvK (enc .int (runS arcs (told.length+1) ([(z,0)],[],none)).1)),.dict (kvK (enc arcD (runS arcs (told.length+1) ([(z,0)],[],none)).2.1)),foundD (runS arcs (told.length+1) ([(z,0)],[],none)).2.2]
theorem Zjh:MoS Zew:=Zcd
theorem Zje:∀ vs w k,Zew vs w k->vs.length=2:=Zce (by rintro vs r ⟨a,b,c,rfl,_⟩;rfl)
theorem Zk3 (T:Txt K mg):Dn P w K mg base 2 "shortest_ways" sShortestWays ["told", "arcs"] (spD K Zew):=by
 have D_shorten:=Zs3 (P:=P) (w:=w) (base:=base) T
 refine Dn.data (k:=1) T.f_shortest_ways Zd1 Zje (λ a cdv A outer s H E hr=>⟨_,_,IPSs.get (Za4 (Zag (i:=2) Zd1.nd rfl (Or.inl rfl) (Zs5 (Zh4 hr) (Zan Zc0 (i_pv 0) Za6 (λ _ _=>rfl)) Za6))
  (Za4 (Zag (i:=3) Zd1.nd rfl (Or.inl rfl) Zml)
  (Za4 (Zag (i:=4) Zd1.nd rfl (Or.inl rfl) Zhj)
  (Za4 (Zc6 PassesOwn.never rfl (Zbt rfl T.z_range (Za0 (Zad Zaz rfl T.z_len boot_len (Za0 (i_pv 0) Za3)) Za3)) (Zaf (i:=5) Zd1.nd rfl (Or.inl rfl)) (Za4 (Zag (i:=4) Zd1.nd rfl (Or.inl rfl) (Zac D_shorten Zrx (hr.mono (by decide)) (Za0 (i_pv 1) (Za0 (i_pv 2) (Za0 (i_pv 3) Za3)))))
  (Za9 (Zbg (Zal Zz6 (i_pv 4) Zhj (nomark _)) (Za9 Zs7) Zap))))
  (Za9 (Zaj (Zaq (Za0 (i_pv 2) (Za0 (i_pv 3) (Za0 (i_pv 4) Za3)))))))))),(Zab (Zas (Zw1 true (Zah Zby (Za2 0) Zae) Zae) (Za7 2))
  (Zab (Zas (Zu7 true) (Za7 3))
  (Zab (Zas Zmt (Za7 4))
  (Zab (Zde (Zdk (Za1 (Zbo Zdd (Za1 (Za2 0) Za5)) Za5)) (Za7 5) (Zab (Zas (Zak Zqa (Za1 (Za2 1) (Za1 (Za2 2) (Za1 (Za2 3) Za5)))) (Za7 4))
  (Zd4 (Zb3 (Zah Ya5 (Za2 4) Zmt)) Zw4 Zbc)))
  (Zb6 (Zbq (Za1 (Zqj 2) (Za1 (Zqj 3) (Za1 (Za2 4) Za5))))))))),λ as o q h=>?_⟩)
 obtain ⟨r,⟨told,z,arcs,rfl,hz,⟨hb1,hb2⟩,hk,rfl⟩,hq⟩:=h
 simp! only [dDisp1,tT]
 intro p1 hp1
 refine ⟨tI z,show atI (tI z::told.map tI) ((0:Nat):Int)=some (tI z) from Zcy rfl,?_⟩
 refine ⟨z,Zci hz,?_⟩
 simp! only [dDNew]
 intro p2 hp2
 have hne:p1≠p2:=λ e=>by rw [<- e,OW.put_same] at hp2;cases hp2
 have hp2':o p2=none:=by rw [OW.put_ne (Ne.symm hne)] at hp2;exact hp2
 simp! only [lmp]
 refine ⟨⟨by omega,by omega⟩,?_⟩
 have bb:∀ (w:OW) (x y:Own),((w.put p1 x).put p2 y) p1=some x:=λ w x y=>by rw [OW.put_ne hne,OW.put_same]
 have b2:∀ (w:OW) (x y z:Own),((w.put p1 x).put p2 y).put p1 z=(w.put p1 z).put p2 y:=λ w x y z=>by
  funext b
  unfold OW.put
  by_cases h1:b=p1
  ·simp [h1,hne]
  ·by_cases h2:b=p2
   ·simp [h2,Ne.symm hne]
   ·simp [h1,h2]
 have eN:(((told.length+1:Nat):Int)).toNat=told.length+1:=rfl
 -- what is to come of so many turns more
 have fin:∀ (S:S3) (o5:Option Val),S=runS arcs (told.length+1) ([(z,0)],[],none)->dRet (dTup (dCons (dFrzD 2) (dCons (dFrzD 3) (dCons (dVar 4) dNil)))) { nx:=λ s=>∃ w',w'.le s.w/\q (Val.d PyData.none) w',rt:=λ v s=>∃ w',w'.le s.w/\q v w' }
   ⟨[some (.d (.tuple (tI z::told.map tI))),some (.d (.list (arcs.map arcD))),some (.own p1),some (.own p2),some (.d (foundD S.2.2)),o5],(o.put p1 (.dct (enc .int S.1))).put p2 (.dct (enc arcD S.2.1))⟩:=by
  rintro S o5 rfl
  simp! only [dFrzD,bb]
  refine ⟨_,rfl,?_⟩
  have e3:∀ (w:OW) (x y:Own),(((w.put p1 x).put p2 y).del p1) p2=some y:=λ w x y=>by rw [OW.del_ne (Ne.symm hne),OW.put_same]
  refine ⟨_,e3 _ _ _,?_⟩
  refine ⟨L2.sz3,o,?_,hq⟩
  intro b u hb
  have n1:b≠p1:=λ e=>by rw [e,hp1] at hb;cases hb
  have n2:b≠p2:=λ e=>by rw [e,hp2'] at hb;cases hb
  exact ⟨u,by rw [OW.del_ne n2,OW.del_ne n1,OW.put_ne n2,OW.put_ne n1];exact hb,Own.up.refl u⟩
 have hbnd:∀ i,i≤told.length+1->∀ S:S3,True:=λ _ _ _=>trivial
 refine ⟨λ i s=>∃ (S:S3) (o5:Option Val),runS arcs (told.length+1-i) S=runS arcs (told.length+1) ([(z,0)],[],none)/\S.1.length≤1+i*1000/\S.2.1.length≤i*1000/\s=⟨[some (.d (.tuple (tI z::told.map tI))),some (.d (.list (arcs.map arcD))),some (.own p1),some (.own p2),some (.d (foundD S.2.2)),o5],(o.put p1 (.dct (enc .int S.1))).put p2 (.dct (enc arcD S.2.1))⟩,?_,λ _ _ _=>trivial,?_,?_⟩
 ·refine ⟨([(z,0)],[],none),none,rfl,by simp,by simp,rfl⟩
 ·rintro i d s hd ⟨⟨W1,L1,fo⟩,o5,hrun,l1,l2,rfl⟩
  have hi:i<told.length+1:=by
   have:=(List.getElem?_eq_some_iff.mp hd).1
   simpa [rngD] using this
  simp only at l1 l2
  simp!
  have hlen:=Zh3 arcs (W1,L1,none)
  simp only at hlen
  have hi1000:i*1000≤31*1000:=mul_le_mul_right _ (by omega)
  refine ⟨arcs,W1,L1,p1,p2,rfl,hne,bb _ _ _,OW.put_same,hk,⟨hb2,by omega,by omega⟩,?_⟩
  have er:runS arcs (told.length+1-i) (W1,L1,fo)=match Zcg arcs W1 L1 with
    | (W,L,none)=>(W,L,none)
    | (W,L,some b)=>runS arcs (told.length+1-(i+1)) (W,L,some b):=by
   obtain ⟨m,hm⟩:∃ m,told.length+1-i=m+1:=⟨told.length-i,by omega⟩
   have hm2:told.length+1-(i+1)=m:=by omega
   rw [hm,hm2];rfl
  have hlen':(Zcg arcs W1 L1).1.length≤W1.length+arcs.length/\(Zcg arcs W1 L1).2.1.length≤L1.length+arcs.length:=hlen
  cases hS:Zcg arcs W1 L1 with
  | mk W2 R=>
   obtain ⟨Lb,f2⟩:=R
   rw [hS] at er hlen'
   simp only at hlen'
   cases f2 with
   | none=>
    simp! only [fIsN,isNoneD,foundD,b2,dBreak]
    exact fin (W2,Lb,none) none (by rw [<- hrun,er])
   | some b=>
    simp! only [fIsN,isNoneD,foundD,tI,b2,dBreak]
    refine ⟨(W2,Lb,some b),_,?_,?_,?_,rfl⟩
    ·rw [<- hrun,er]
    ·simp only;omega
    ·simp only;omega
 ·rintro s ⟨S,o5,hrun,_,_,rfl⟩
  refine fin S o5 ?_
  have e0:told.length+1-(rngD 0 ((told.length+1:Nat):Int).toNat).length=0:=by simp [rngD]
  rw [<- hrun]
  show S=runS arcs (told.length+1-(rngD 0 _).length) S
  rw [e0];rfl
end
end Mine
namespace Mine
open PySem PySem.Spec PyProof.Rows L2
section
variable {P:Program}{w:World}{K:PySem.W.Frag}{mg:Str->Option Value}{base:Heap}
theorem Zou:∀ (l bs:List (List Int)),∃ r,l.foldl addB bs=bs++r
 | [],bs=>⟨[],by simp⟩
 | b::l,bs=>by
  obtain ⟨r,hr⟩:=Zou l (addB bs b)
  rw [foldl_cons,hr]
  unfold addB
  split
  ·exact ⟨r,rfl⟩
  ·exact ⟨b::r,by simp⟩
theorem Zet (k:Nat) (rs:List Rnd) (ss:List Sea):Zav k rs ss=Zb0 k::(Zav k rs ss).tail:=by
 obtain ⟨r,hr⟩:=Zou (rs.map Prod.snd++ss.map Prod.fst) [List.replicate k 0]
 unfold Zav
 rw [hr];rfl
def turnA (a:ArcT):ArcT:=(a.2.1,a.1,a.2.2.1,a.2.2.2)
def Zbv (k:Nat) (rs:List Rnd) (ss:List Sea):List ArcT:=(arcsF k (Zav k rs ss) rs ss).map turnA
def Zbr (k:Nat) (rs:List Rnd) (ss:List Sea):S3:=runS (Zbv k rs ss) (Zav k rs ss).length ([(Zb0 k,0)],[],none)
def Zcf (k:Nat) (rs:List Rnd) (ss:List Sea) (b:List Int):Int:=-((lk (Zbr k rs ss).1 b).getD 0)
def Zkj (k:Nat) (rs:List Rnd) (ss:List Sea):PyData:=.tuple ((Zav k rs ss).map λ b=>.tuple [tI b,.int (Zcf k rs ss b)])
def atL (L:LL3) (v:List Int):Nat->List Int
 | 0=>v
 | k+1=>match lk L (atL L v k) with|some a=>a.1|none=>atL L v k
theorem Zmz (L:LL3) (v:List Int) (k:Nat):∀ n,atL L (atL L v k) n=atL L v (k+n)
 | 0=>rfl
 | n+1=>by
  show (match lk L (atL L (atL L v k) n) with|some a=>a.1|none=>atL L (atL L v k) n)=(match lk L (atL L v (k+n)) with|some a=>a.1|none=>atL L v (k+n))
  rw [Zmz L v k n]
def ringL (L:LL3) (f:List Int) (d:Nat):List Stp:=(List.range d).map λ k=>match lk L (atL L f k) with|some a=>a.2.2.2|none=>(3,0,[])
structure RingAt (L:LL3) (b:List Int) (d:Nat):Prop where
 ever:∀ k,∃ a,lk L (atL L b k)=some a
 key:∀ k,atL L b k≠[]
 len:L.length≤1000
 d1:1≤d
 dl:d≤L.length
 back:atL L (atL L b L.length) d=atL L b L.length
 first:∀ k,1≤k->k<d->atL L (atL L b L.length) k≠atL L b L.length
def ringD (L:LL3) (b:List Int) (d:Nat):PyData:=.tuple ((ringL L (atL L b L.length) d).map Zcp)
def Zft:DSp:=pureS λ vs r=>∃ L b d,vs=[.d (tI b),.d (.dict (kvK (enc arcD L)))]/\RingAt L b d/\r=ringD L b d
theorem Zlf:MoS Zft:=Zcd
theorem Zla:∀ vs w k,Zft vs w k->vs.length=2:=Zce (by rintro vs r ⟨a,b,c,rfl,_⟩;rfl)
theorem Zm6 (T:Txt K mg):Dn P w K mg base 1 "ring_behind" sRingBehind ["bundle", "lasts"] (spD K Zft):=by
 refine Dn.data (k:=0) T.f_ring_behind Zd8 Zla (λ a cdv A outer s H E hr=>⟨_,_,IPSs.get (Za4 (Zag (i:=2) Zd8.nd rfl (Or.inl rfl) (i_pv 0))
  (Za4 (Zc6 PassesOwn.never rfl (Zbt rfl T.z_range (Za0 (Zad Zpn rfl T.z_len boot_len (Za0 (i_pv 1) Za3)) Za3)) (Zaf (i:=3) Zd8.nd rfl (Or.inl rfl)) (Za9 (Zag (i:=2) Zd8.nd rfl (Or.inl rfl) (Zan Zc0 (Zdn (Zh4 hr) (i_pv 1) (i_pv 2) (λ _ _=>rfl)) Za6 (λ _ _=>rfl)))))
  (Za4 (Zag (i:=4) Zd8.nd rfl (Or.inl rfl) (i_pv 2))
  (Za4 (Zag (i:=5) Zd8.nd rfl (Or.inl rfl) (Zbs Za3))
  (Za4 (Zs8 PassesOwn.never (IPW.pt (Zgg (Zdo (Zs9 (i_pv 5))) (Zfk (Zal (Ztx hr.units) (i_pv 2) (i_pv 4) (nomark _))))) (Za4 (Zch (Zd7 plainAttrs_list PySem.F.slot_list_append PySem.F.type_list_append Zck (i_pv 5) (Za0 (Zan Zc0 (Zdn (Zh4 hr) (i_pv 1) (i_pv 2) (λ _ _=>rfl)) Za6 (λ _ _=>rfl)) Za3)))
  (Za9 (Zag (i:=2) Zd8.nd rfl (Or.inl rfl) (Zan Zc0 (Zdn (Zh4 hr) (i_pv 1) (i_pv 2) (λ _ _=>rfl)) Za6 (λ _ _=>rfl))))))
  (Za9 (Zaj (Zb9 Zb5 rfl T.z_tuple (by decide +kernel) (Za0 (i_pv 5) Za3))))))))),(Zab (Zas (Za2 0) (Za7 2))
  (Zab (Zde (Zdk (Za1 (Zbo Zy9 (Za1 (Za2 1) Za5)) Za5)) (Za7 3) (Zas (Zah Zby (Zfw (Za2 1) (Za2 2)) Zae) (Za7 2)))
  (Zab (Zas (Za2 2) (Za7 4))
  (Zab (Zas (Zcx true Za5) (Za7 5))
  (Zab (Zw5 (Znv (Zfm (Ya6 (Za2 5))) (Zb3 (Zah Zmu (Za2 2) (Za2 4)))) (Zab (Zdl (Zec (Za2 5) (Za1 (Zah Zby (Zfw (Za2 1) (Za2 2)) Zae) Za5)))
  (Zas (Zah Zby (Zfw (Za2 1) (Za2 2)) Zae) (Za7 2))))
  (Zb6 (Zbo Zcm (Za1 (Za2 5) Za5)))))))),λ as o q h=>?_⟩)
 obtain ⟨r,⟨L,b,d,rfl,R,rfl⟩,hq⟩:=h
 have hlen:=R.len
 have hd1:=R.d1
 have hdl:=R.dl
 simp! only [gLenD,rdK,unK_kvK,Zhz,dDGet]
 refine ⟨⟨by omega,by omega⟩,?_⟩
 refine ⟨λ i s=>∃ (o3:Option Val),s=⟨[some (.d (tI b)),some (.d (.dict (kvK (enc arcD L)))),some (.d (tI (atL L b i))),o3,none,none],o⟩,⟨none,rfl⟩,λ _ _ _=>trivial,?_,?_⟩
 ·rintro i dd s hd ⟨o3,rfl⟩
  obtain ⟨a,ha⟩:=R.ever i
  simp! only [rdK,unK_kvK]
  refine ⟨_,_,arcD a,rfl,Zci (R.key i),by rw [Zd2,ha];rfl,?_⟩
  simp! only [arcD]
  refine ⟨_,rfl,?_⟩
  have e:atL L b (i+1)=a.1:=by show (match lk L (atL L b i) with|some a=>a.1|none=>atL L b i)=a.1;rw [ha]
  rw [e]
  exact ⟨_,rfl⟩
 rintro s ⟨o3,rfl⟩
 have eN:(rngD 0 ((L.length:Nat):Int).toNat).length=L.length:=by simp [rngD]
 rw [eN]
 generalize hf:atL L b L.length=f at *
 have ever:∀ k,∃ a,lk L (atL L f k)=some a:=λ k=>by rw [<- hf,Zmz];exact R.ever _
 have hkey:∀ k,atL L f k≠[]:=λ k=>by rw [<- hf,Zmz];exact R.key _
 have hback:atL L f d=f:=by have:=R.back;rw [hf] at this;exact this
 have hfirst:∀ k,1≤k->k<d->atL L f k≠f:=λ k h1 h2=>by have:=R.first k h1 h2;rw [hf] at this;exact this
 simp! only [dWhile,dApp,rdK,unK_kvK]
 refine ⟨by decide,λ p hp=>?_⟩
 refine ⟨λ m s=>∃ j,j+m=d/\s=⟨[some (.d (tI b)),some (.d (.dict (kvK (enc arcD L)))),some (.d (tI (atL L f j))),o3,some (.d (tI f)),some (.own p)],o.put p (.lst ((ringL L f j).map Zcp))⟩,⟨d,0,by omega,rfl⟩,?_⟩
 rintro m s ⟨j,hj,rfl⟩
 have he:((ringL L f j).map Zcp).isEmpty=decide (j=0):=by
  cases j with
  | zero=>rfl
  | succ j=>simp [ringL]
 simp! only [dDGet,rdK,unK_kvK,he]
 refine ite2 (λ c=>?_) (λ c=>?_)
 all_goals simp!
 ·have hj00:j=0:=by simpa using c
  have hj0:j<d:=by omega
  obtain ⟨a,ha⟩:=ever j
  refine ⟨⟨_,rfl⟩,_,_,arcD a,rfl,Zci (hkey j),by rw [Zd2,ha];rfl,?_⟩
  simp! only [arcD]
  refine ⟨Zcp a.2.2.2,rfl,_,rfl,Zat (by simp [ringL];omega),?_⟩
  simp!
  refine ⟨_,_,arcD a,rfl,Zci (hkey j),by rw [Zd2,ha];rfl,?_⟩
  simp! only [arcD]
  refine ⟨_,rfl,m-1,by omega,j+1,by omega,?_⟩
  have e1:atL L f (j+1)=a.1:=by show (match lk L (atL L f j) with|some a=>a.1|none=>atL L f j)=a.1;rw [ha]
  have e2:ringL L f (j+1)=ringL L f j++[a.2.2.2]:=by unfold ringL;rw [range_succ,map_append];simp [ha]
  rw [e1,e2,map_append];rfl
 have hj1:j≠0:=by simpa using c
 refine ⟨⟨Zdy _,Zdy _,Zes _,Zes _⟩,?_⟩
 rw [Zi0]
 refine ite2 (λ c=>?_) (λ c=>?_)
 all_goals simp!
 ·have hj0:j<d:=by
   have h1:atL L f j≠f:=by simpa using c
   have h2:j≠d:=λ e=>h1 (by rw [e];exact hback)
   omega
  obtain ⟨a,ha⟩:=ever j
  refine ⟨⟨_,rfl⟩,_,_,arcD a,rfl,Zci (hkey j),by rw [Zd2,ha];rfl,?_⟩
  simp! only [arcD]
  refine ⟨Zcp a.2.2.2,rfl,_,rfl,Zat (by simp [ringL];omega),?_⟩
  simp!
  refine ⟨_,_,arcD a,rfl,Zci (hkey j),by rw [Zd2,ha];rfl,?_⟩
  simp! only [arcD]
  refine ⟨_,rfl,m-1,by omega,j+1,by omega,?_⟩
  have e1:atL L f (j+1)=a.1:=by show (match lk L (atL L f j) with|some a=>a.1|none=>atL L f j)=a.1;rw [ha]
  have e2:ringL L f (j+1)=ringL L f j++[a.2.2.2]:=by unfold ringL;rw [range_succ,map_append];simp [ha]
  rw [e1,e2,map_append];rfl
 ·have h1:atL L f j=f:=by simpa using c
  have h2:j=d:=by
   refine Decidable.byContradiction λ h=>?_
   exact hfirst j (by omega) (by omega) h1
  subst h2
  refine ⟨o,OW.le.new (OW.le.refl o) hp _,?_⟩
  unfold ringD at hq
  rw [hf] at hq
  exact hq
def Zif:DSp:=pureS λ vs r=>∃ k rs ss,vs=[.d (Zbx rs),.d (Zbb ss),.d (.int (k:Nat))]/\Hist k rs ss /\
 (((Zbr k rs ss).2.2=none/\(∀ b∈Zav k rs ss,∃ d,lk (Zbr k rs ss).1 b=some d)/\r = .tuple [.str "worths",Zkj k rs ss]) \/
  ∃ b d,(Zbr k rs ss).2.2=some b/\RingAt (Zbr k rs ss).2.1 b d/\r = .tuple [.str "ring",ringD (Zbr k rs ss).2.1 b d])
theorem Zg2:MoS Zif:=Zcd
theorem Zsd:∀ vs w k,Zif vs w k->vs.length=3:=Zce (by rintro vs r ⟨a,b,c,rfl,_⟩;rfl)
theorem Zv4 {k:Nat}{rs:List Rnd}{ss:List Sea} (hH:Hist k rs ss) {e:Stp} (hv:Valid k rs ss e):(Zc2 k rs e).1.length=k/\(Zc2 k rs e).2.length=k:=by
 obtain ⟨e,i,b⟩:=e
 obtain ⟨v1,v2,v3,v4,v5⟩:=hv
 simp only at v1 v2 v3 v4 v5
 match e,v3,v4,v5 with
 | 0,v3,v4,v5=>
  have hi:=v3 rfl
  have hr:=hH.row _ (getElem_mem hi)
  simp only [Zc2,gEq hi]
  exact ⟨hr.2.1,v1⟩
 | 1,v3,v4,v5=>exact ⟨by simp [Zc2,Zb0],v1⟩
 | 2,v3,v4,v5=>exact ⟨v1,by simp [Zc2,Zb0]⟩
 | 3,v3,v4,v5=>exact ⟨v1,by simp [Zc2,Zb0]⟩
theorem Zg3 {k:Nat} (h:1≤k) {b:List Int} (hb:b.length=k):b≠[]:=λ e=>by rw [e] at hb;simp at hb;omega
theorem Zku (T:Txt K mg):∃ e,EmptyAt K e/\DnD P w K mg base 4 "worths" sWorths ["rounds", "sealed", "kinds"] (spD K Zif) e:=by
 have D_arcs_of:=Zs1 (P:=P) (w:=w) (base:=base) T
 have D_ring_behind:=Zm6 (P:=P) (w:=w) (base:=base) T
 have D_shortest_ways:=Zk3 (P:=P) (w:=w) (base:=base) T
 obtain ⟨e_told_bundles,em_told_bundles,D_told_bundles⟩:=Zkt (P:=P) (w:=w) (base:=base) T
 obtain ⟨e_here,em_here,U_here⟩:=T.f_worths
 refine ⟨e_here,em_here,DnD.data (k:=3) U_here Zg7 Zsd (λ a cdv A outer s H E hr=>⟨_,_,IPSs.get (Za4 (Zag (i:=3) Zg7.nd rfl (Or.inl rfl) (Zf3 D_told_bundles (Zgh) (hr.mono (by decide)) (Za0 (i_pv 0) (Za0 (i_pv 1) Za3)) (Zen (i_pv 2) Zfi)))
  (Za4 (by refine' Zfj (i:=4) Zg7.nd rfl (Or.inl rfl) (Nc:=["start", "end", "by", "step"]) (cap:=[none,none,none,none]) rfl ?i ?k ?g ?t ?e;(case k=>kernel_rfl);(case i=>exact (Zd3 (Zac D_arcs_of Zrv (hr.mono (by decide)) (Za0 (i_pv 3) (Za0 (i_pv 0) (Za0 (i_pv 1) Za3))))));(case g=>exact (λ _ _ _ _ _=>(Zc4 (K:=K) rfl (n:=4) rfl (Za8 (Zc3 0 (by show List.Nodup (["start", "end", "by", "step"]:List Str);decide +kernel)) (Za8 (Zc3 1 (by show List.Nodup (["start", "end", "by", "step"]:List Str);decide +kernel)) (Za8 (Zc3 2 (by show List.Nodup (["start", "end", "by", "step"]:List Str);decide +kernel)) (Za8 (Zc3 3 (by show List.Nodup (["start", "end", "by", "step"]:List Str);decide +kernel)) Zau)))))));(case t=>exact (λ _ _ _ _ _=>Zb1));(case e=>exact (λ _ _ _ _ _=>(Zaq (Za0 (Zc7 1) (Za0 (Zc7 0) (Za0 (Zc7 2) (Za0 (Zc7 3) Za3))))))))
  (Za4 (Zd9 (Zac D_shortest_ways Zk1 (hr.mono (by decide)) (Za0 (i_pv 3) (Za0 (i_pv 4) Za3))) (Zcj (n:=3) rfl (Za8 (Zaf (i:=5) Zg7.nd rfl (Or.inr rfl)) (Za8 (Zaf (i:=6) Zg7.nd rfl (Or.inl rfl)) (Za8 (Zaf (i:=7) Zg7.nd rfl (Or.inl rfl)) Zau)))))
  (Za4 (Zbg (Zal Zty (i_pv 7) Zhj (nomark _)) (Za9 (Zaj (Zaq (Za0 Zca (Za0 (Zac D_ring_behind Zm0 (hr.mono (by decide)) (Za0 (i_pv 7) (Za0 (i_pv 6) Za3))) Za3))))) Zap)
  (Za9 (Zaj (Zaq (Za0 Zca (Za0 (Zb9 Zb5 rfl T.z_tuple (by decide +kernel) (Za0 (by refine' Zb2 (Nc:=["bundle", "ways"]) (cap:=[none,some 5]) rfl ?i ?k ?g ?t ?e;(case k=>kernel_rfl);(case i=>exact (Zbu (i_pv 3)));(case g=>exact (λ _ _ _ _ _=>(Zc3 0 (by show List.Nodup (["bundle", "ways"]:List Str);decide +kernel))));(case t=>exact (λ _ _ _ _ _=>Zb1));(case e=>exact (λ _ _ _ _ _=>(Zaq (Za0 (Zc7 0) (Za0 (Zh5 Zjz (Zdn (Zh4 hr) (Ze0 1) (Zc7 0) (λ _ _=>rfl))) Za3)))))) Za3)) Za3))))))))),(Zab (Zas (Zhm Zk8 em_told_bundles (Za1 (Za2 0) (Za1 (Za2 1) Za5)) (Za1 (Za2 2) Za5)) (Za7 3))
  (Zab (Zas (Zbl false (Ze8 (Zak Zq8 (Za1 (Za2 3) (Za1 (Za2 0) (Za1 (Za2 1) Za5))))) (Zcb (Zaa (Za7 0) (Zaa (Za7 1) (Zaa (Za7 2) (Zaa (Za7 3) Zbp))))) Zcc (Zbm (Zbq (Za1 (Za2 1) (Za1 (Za2 0) (Za1 (Za2 2) (Za1 (Za2 3) Za5))))))) (Za7 4))
  (Zab (Zas (Zak Zjh (Za1 (Za2 3) (Za1 (Za2 4) Za5))) (Zcb (Zaa (Za7 5) (Zaa (Za7 6) (Zaa (Za7 7) Zbp)))))
  (Zab (Zd4 (Zb3 (Zah Zue (Za2 7) Zmt)) (Zb6 (Zbq (Za1 Zdm (Za1 (Zak Zlf (Za1 (Za2 7) (Za1 (Za2 6) Za5))) Za5)))) Zbc)
  (Zb6 (Zbq (Za1 Zdm (Za1 (Zbo Zcm (Za1 (Zbl false (Zcq (Za2 3)) (Za7 0) Zcc (Zbm (Zbq (Za1 (Za2 0) (Za1 (Ya4 ru_I (Zfw (Za2 1) (Za2 0))) Za5))))) Za5)) Za5)))))))),λ as o q h=>?_⟩)⟩
 obtain ⟨r,⟨n,rs,ss,rfl,hH,hor⟩,hq⟩:=h
 have hrl:=hH.rl
 have hsl:=hH.sl
 have htl:=Zo2 (k:=n) (rs:=rs) (ss:=ss)
 have hv:=Zjx (rs:=rs) hH.told hH.sea
 have hsz:(Zbv n rs ss).length≤1000:=by
  unfold Zbv arcsF
  rw [lmp,lmp,Zjm]
  have:=mul_le_mul hrl (show (Zav n rs ss).length≤27 by omega)
  omega
 simp! only [dCallD,gaQ]
 refine ⟨_,⟨n,rs,ss,rfl,hH,rfl⟩,?_⟩
 simp! only [dComp]
 refine ⟨_,⟨n,rs,ss,Zav n rs ss,rfl,hH,⟨by omega,hH.told⟩,rfl⟩,?_⟩
 have eal:(arcsF n (Zav n rs ss) rs ss).length=(Zbv n rs ss).length:=by unfold Zbv;rw [lmp]
 refine Zc5 (arcsF n (Zav n rs ss) rs ss) arcD (λ a=>arcD (turnA a)) [] rfl trivial (Zat (by simp only [length_nil,zero_add];omega)) ?_ ?_
 ·intro x hx Q hQ
  simp! only [arcD]
  exact ⟨L2.sz4,hQ⟩
 have eT:(arcsF n (Zav n rs ss) rs ss).map (λ a=>arcD (turnA a))=(Zbv n rs ss).map arcD:=by unfold Zbv;rw [map_map];rfl
 rw [eT]
 have hcons:=Zet n rs ss
 have hkk:∀ a∈Zbv n rs ss,a.1≠[]/\a.2.1≠[]:=by
  intro a ha
  unfold Zbv arcsF at ha
  obtain ⟨b,hb,rfl⟩:=mem_map.mp ha
  obtain ⟨e,he,rfl⟩:=mem_map.mp hb
  obtain ⟨l1,l2⟩:=Zv4 hH (hv e he)
  exact ⟨Zg3 hH.k1 l2,Zg3 hH.k1 l1⟩
 have hlt:(Zav n rs ss).tail.length+1=(Zav n rs ss).length:=by rw [hcons];simp
 simp!
 refine ⟨_,⟨(Zav n rs ss).tail,Zb0 n,Zbv n rs ss,by show [Val.d (PyData.tuple ((Zav n rs ss).map tI)),_]=[Val.d (PyData.tuple ((Zb0 n::(Zav n rs ss).tail).map tI)),_];rw [<- hcons],Zg3 hH.k1 (by simp [Zb0]),⟨by omega,hsz⟩,hkk,rfl⟩,?_⟩
 rw [hlt]
 have eF:runS (Zbv n rs ss) (Zav n rs ss).length ([(Zb0 n,0)],[],none)=Zbr n rs ss:=rfl
 rw [eF]
 rcases hor with ⟨hnone,hall,rfl⟩|⟨b,d,hsome,R,rfl⟩
 rotate_left
 ·rw [hsome]
  simp! only [fIsN,isNoneD,foundD,tI]
  refine ⟨_,⟨_,b,d,rfl,R,rfl⟩,L2.sz2,_,OW.le.refl _,hq⟩
 rw [hnone]
 simp! only [fIsN,isNoneD,foundD]
 refine Zc5 (Zav n rs ss) tI (λ b=>.tuple [tI b,.int (Zcf n rs ss b)]) [] rfl trivial (Zat (by simp;omega)) ?_ ?_
 ·intro b hb Q hQ
  obtain ⟨d,hd⟩:=hall b hb
  simp! only [dDGet,rdK,unK_kvK]
  refine ⟨_,b,.int d,rfl,Zci (Zg3 hH.k1 (hH.told b hb).1),by rw [Zd2,hd];rfl,?_⟩
  simp!
  refine ⟨L2.sz2,?_⟩
  have e:Zcf n rs ss b = -d:=by unfold Zcf;rw [hd];rfl
  rw [e] at hQ;exact hQ
 ·simp!
  exact ⟨L2.sz2,_,OW.le.refl _,hq⟩
end
end Mine
namespace Ways
variable {α:Type} [DecidableEq α]
abbrev Arc (α:Type):=α × α × Int
inductive Walk (arcs:List (Arc α)) (s:α):α->Int->Nat->Prop
 | nil:Walk arcs s s 0 0
 | snoc {u v:α}{W b:Int}{n:Nat} (h:Walk arcs s u W n) (ha:(u,v,b)∈arcs):Walk arcs s v (W+b) (n+1)
abbrev St (α:Type):=α->Option Int
def put (w:St α) (v:α) (d:Int):St α:=λ x=>if x=v then some d else w x
theorem put_same (w:St α) (v:α) (d:Int):put w v d v=some d:=by simp [put]
theorem put_ne (w:St α) {v x:α} (d:Int) (h:x≠v):put w v d x=w x:=by simp [put,h]
def better (w:St α) (a:Arc α):Option Int:=match w a.1 with
 | none=>none
 | some d=>match w a.2.1 with
  | none=>some (d+a.2.2)
  | some e=>if d+a.2.2<e then some (d+a.2.2) else none
def relax (w:St α) (a:Arc α):St α:=match better w a with
 | none=>w
 | some d=>put w a.2.1 d
def pass (arcs:List (Arc α)) (w:St α):St α:=arcs.foldl relax w
def Sound (arcs:List (Arc α)) (s:α) (w:St α):Prop:=∀ v d,w v=some d->∃ n,Walk arcs s v d n
theorem better_some {w:St α}{a:Arc α}{d:Int} (h:better w a=some d):∃ e,w a.1=some e/\d=e+a.2.2/\∀ f,w a.2.1=some f->d<f:=by
 unfold better at h
 cases h1:w a.1 with
 | none=>rw [h1] at h;cases h
 | some e=>
  rw [h1] at h
  dsimp only at h
  cases h2:w a.2.1 with
  | none=>rw [h2] at h;cases h;exact ⟨e,rfl,rfl,λ f hf=>(nomatch hf)⟩
  | some f=>
   rw [h2] at h
   dsimp only at h
   split at h
   ·cases h;rename_i hlt;exact ⟨e,rfl,rfl,λ g hg=>by cases hg;exact hlt⟩
   ·cases h
theorem better_none {w:St α}{a:Arc α} (h:better w a=none) {d:Int} (hd:w a.1=some d):∃ e,w a.2.1=some e/\e≤d+a.2.2:=by
 unfold better at h
 rw [hd] at h
 dsimp only at h
 cases h2:w a.2.1 with
 | none=>rw [h2] at h;cases h
 | some f=>
  rw [h2] at h
  dsimp only at h
  split at h
  ·cases h
  ·exact ⟨f,rfl,by omega⟩
theorem Sound.relax {arcs:List (Arc α)}{s:α}{w:St α}{a:Arc α} (h:Sound arcs s w) (ha:a∈arcs):Sound arcs s (relax w a):=by
 unfold Ways.relax
 cases hb:better w a with
 | none=>exact h
 | some d=>
  obtain ⟨e,h1,h2,_⟩:=better_some hb
  intro v x hx
  by_cases hv:v=a.2.1
  ·subst hv
   dsimp only at hx
   rw [put_same] at hx
   cases hx
   obtain ⟨n,hn⟩:=h _ _ h1
   refine ⟨n+1,?_⟩
   rw [h2]
   exact Walk.snoc (b:=a.2.2) hn (by obtain ⟨p,q,r⟩:=a;exact ha)
  ·dsimp only at hx
   rw [put_ne _ _ hv] at hx
   exact h v x hx
theorem Zrl {w:St α} (a:Arc α) {v:α}{d:Int} (h:w v=some d):∃ e,relax w a v=some e/\e≤d:=by
 unfold relax
 cases hb:better w a with
 | none=>exact ⟨d,h,Int.le_refl _⟩
 | some x=>
  dsimp only
  obtain ⟨e,h1,h2,h3⟩:=better_some hb
  by_cases hv:v=a.2.1
  ·subst hv
   exact ⟨x,put_same ..,by have:=h3 d h;omega⟩
  ·exact ⟨d,by rw [put_ne _ _ hv];exact h,Int.le_refl _⟩
theorem Zua {w:St α} (a:Arc α) {d:Int} (h:w a.1=some d):∃ e,relax w a a.2.1=some e/\e≤d+a.2.2:=by
 unfold relax
 cases hb:better w a with
 | none=>exact better_none hb h
 | some x=>
  obtain ⟨e,h1,h2,h3⟩:=better_some hb
  rw [h] at h1;cases h1
  exact ⟨x,put_same ..,by omega⟩
theorem fold_le:∀ (l:List (Arc α)) {w:St α}{v:α}{d:Int},w v=some d->∃ e,l.foldl relax w v=some e/\e≤d
 | [],w,v,d,h=>⟨d,h,Int.le_refl _⟩
 | a::l,w,v,d,h=>by
  obtain ⟨e,h1,h2⟩:=Zrl a h
  obtain ⟨f,h3,h4⟩:=fold_le l h1
  exact ⟨f,h3,by omega⟩
theorem Zr1:∀ (l:List (Arc α)) {w:St α}{a:Arc α}{d:Int},a∈l->w a.1=some d->∃ e,l.foldl relax w a.2.1=some e/\e≤d+a.2.2
 | [],w,a,d,ha,h=>by cases ha
 | b::l,w,a,d,ha,h=>by
  rcases mem_cons.mp ha with e|e
  ·subst e
   obtain ⟨x,h1,h2⟩:=Zua a h
   obtain ⟨f,h3,h4⟩:=fold_le l h1
   exact ⟨f,h3,by omega⟩
  ·obtain ⟨x,h1,h2⟩:=Zrl b h
   obtain ⟨f,h3,h4⟩:=Zr1 l e h1
   exact ⟨f,h3,by omega⟩
theorem Sound.fold {arcs:List (Arc α)}{s:α}:∀ (l:List (Arc α)) {w:St α},(∀ a∈l,a∈arcs)->Sound arcs s w->Sound arcs s (l.foldl Ways.relax w)
 | [],w,_,h=>h
 | a::l,w,hl,h=>Sound.fold l (λ x hx=>hl x (mem_cons_of_mem _ hx)) (h.relax (hl a (mem_cons_self ..)))
def Beats (arcs:List (Arc α)) (s:α) (w:St α) (i:Nat):Prop:=∀ v W n,n≤i->Walk arcs s v W n->∃ d,w v=some d/\d≤W
theorem Beats.pass {arcs:List (Arc α)}{s:α}{w:St α}{i:Nat} (h:Beats arcs s w i):Beats arcs s (pass arcs w) (i+1):=by
 intro v W n hn hw
 cases hw with
 | nil=>
  obtain ⟨d,h1,h2⟩:=h s 0 0 (zero_le _) .nil
  obtain ⟨e,h3,h4⟩:=fold_le arcs h1
  exact ⟨e,h3,by omega⟩
 | snoc h' ha=>
  rename_i u W' b m
  obtain ⟨d,h1,h2⟩:=h u W' m (by omega) h'
  obtain ⟨e,h3,h4⟩:=Zr1 arcs (a:=(u,v,b)) ha h1
  exact ⟨e,h3,by dsimp only at h4;omega⟩
def Calm (arcs:List (Arc α)):Prop:=∀ v W n,Walk arcs v v W n->0≤W
inductive Way (arcs:List (Arc α)) (s:α):α->Int->List α->Prop
 | nil:Way arcs s s 0 [s]
 | snoc {u v:α}{W b:Int}{l:List α} (h:Way arcs s u W l) (ha:(u,v,b)∈arcs):Way arcs s v (W+b) (l++[v])
theorem Walk.way {arcs:List (Arc α)}{s v:α}{W:Int}{n:Nat} (h:Walk arcs s v W n):∃ l,Way arcs s v W l/\l.length=n+1:=by
 induction h with
 | nil=>exact ⟨[s],.nil,rfl⟩
 | snoc h ha ih=>
  obtain ⟨l,h1,h2⟩:=ih
  exact ⟨_,.snoc h1 ha,by rw [length_append,h2];rfl⟩
theorem Way.walk {arcs:List (Arc α)}{s v:α}{W:Int}{l:List α} (h:Way arcs s v W l):∃ n,Walk arcs s v W n/\l.length=n+1:=by
 induction h with
 | nil=>exact ⟨0,.nil,rfl⟩
 | snoc h ha ih=>
  obtain ⟨n,h1,h2⟩:=ih
  exact ⟨n+1,.snoc h1 ha,by rw [length_append,h2];rfl⟩
theorem Way.cut {arcs:List (Arc α)}{s v:α}{W:Int}{l:List α} (h:Way arcs s v W l):∀ x∈l,∃ W1 W2 n1 n2,Walk arcs s x W1 n1/\Walk arcs x v W2 n2/\W1+W2=W/\n1+n2+1=l.length:=by
 induction h with
 | nil=>intro x hx;rw [mem_singleton.mp hx];exact ⟨0,0,0,0,.nil,.nil,rfl,rfl⟩
 | snoc h ha ih=>
  intro x hx
  rcases mem_append.mp hx with z|z
  ·obtain ⟨W1,W2,n1,n2,h1,h2,h3,h4⟩:=ih x z
   exact ⟨W1,W2+_,n1,n2+1,h1,.snoc h2 ha,by omega,by rw [length_append];simp;omega⟩
  ·rw [mem_singleton.mp z]
   obtain ⟨n,h1,h2⟩:=h.walk
   exact ⟨_,0,n+1,0,.snoc h1 ha,.nil,by omega,by rw [length_append];simp;omega⟩
theorem Way.shorter {arcs:List (Arc α)} (calm:Calm arcs) {s v:α}{W:Int}{l:List α} (h:Way arcs s v W l):¬ l.Nodup->∃ W' n,W'≤W/\n+1<l.length/\Walk arcs s v W' n:=by
 induction h with
 | nil=>intro hn;exact absurd (nodup_cons.mpr ⟨by simp,List.nodup_nil⟩) hn
 | snoc h ha ih=>
  rename_i u v W b l
  intro hn
  by_cases hl:l.Nodup
  ·have hv:v∈l:=by
    by_cases hv:v∈l
    ·exact hv
    ·exfalso;apply hn
     rw [List.nodup_append]
     exact ⟨hl,by simp,λ a ha' b hb'=>by rw [mem_singleton.mp hb'];intro e;rw [e] at ha';exact hv ha'⟩
   obtain ⟨W1,W2,n1,n2,h1,h2,h3,h4⟩:=h.cut v hv
   have ring:=calm v (W2+b) (n2+1) (.snoc h2 ha)
   exact ⟨W1,n1,by omega,by rw [length_append];simp;omega,h1⟩
  ·obtain ⟨W',n,h1,h2,h3⟩:=ih hl
   exact ⟨W' + b,n+1,by omega,by rw [length_append];simp;omega,.snoc h3 ha⟩
theorem Way.mem {arcs:List (Arc α)}{vs:List α} (hv:∀ a∈arcs,a.2.1∈vs) {s v:α}{W:Int}{l:List α} (h:Way arcs s v W l) (hs:s∈vs):∀ x∈l,x∈vs:=by
 induction h with
 | nil=>intro x hx;rw [mem_singleton.mp hx];exact hs
 | snoc h ha ih=>
  intro x hx
  rcases mem_append.mp hx with z|z
  ·exact ih x z
  ·rw [mem_singleton.mp z];exact hv _ ha
theorem nodup_len:∀ (l vs:List α),l.Nodup->(∀ x∈l,x∈vs)->l.length≤vs.length
 | [],vs,_,_=>zero_le _
 | x::l,vs,hn,h=>by
  have hx:=h x (mem_cons_self ..)
  obtain ⟨h1,h2⟩:=nodup_cons.mp hn
  have:=nodup_len l (vs.erase x) h2 λ y hy=>by
   have hy':=h y (mem_cons_of_mem _ hy)
   exact (List.mem_erase_of_ne (λ e=>h1 (by rw [<- e];exact hy))).mpr hy'
  rw [List.length_erase_of_mem hx] at this
  have hp:0<vs.length:=List.length_pos_of_mem hx
  rw [length_cons]
  omega
theorem reduce {arcs:List (Arc α)}{vs:List α} (calm:Calm arcs) (hv:∀ a∈arcs,a.2.1∈vs) {s:α} (hs:s∈vs):∀ (n:Nat) {v:α}{W:Int},Walk arcs s v W n->∃ W' m,W'≤W/\m<vs.length/\Walk arcs s v W' m:=by
 intro n
 induction n using Nat.strongRecOn with
 | ind n ih=>
  intro v W h
  by_cases hn:n<vs.length
  ·exact ⟨W,n,Int.le_refl _,hn,h⟩
  ·obtain ⟨l,h1,h2⟩:=h.way
   have nd:¬ l.Nodup:=λ hd=>by have:=nodup_len l vs hd (h1.mem hv hs);omega
   obtain ⟨W',m,h3,h4,h5⟩:=h1.shorter calm nd
   obtain ⟨W2,m2,h6,h7,h8⟩:=ih m (by omega) h5
   exact ⟨W2,m2,by omega,h7,h8⟩
theorem settled {arcs:List (Arc α)}{vs:List α} (calm:Calm arcs) (hv:∀ a∈arcs,a.2.1∈vs) {s:α} (hs:s∈vs) {w:St α} (hS:Sound arcs s w) {i:Nat} (hB:Beats arcs s w i) (hi:vs.length≤i+1):∀ a∈arcs,better w a=none:=by
 intro a ha
 cases hb:better w a with
 | none=>rfl
 | some d=>
  exfalso
  obtain ⟨e,h1,h2,h3⟩:=better_some hb
  obtain ⟨n,hn⟩:=hS _ _ h1
  have step:Walk arcs s a.2.1 (e+a.2.2) (n+1):=Walk.snoc (b:=a.2.2) hn (by obtain ⟨p,q,r⟩:=a;exact ha)
  obtain ⟨W',m,g1,g2,g3⟩:=reduce calm hv hs _ step
  obtain ⟨f,f1,f2⟩:=hB _ _ m (by omega) g3
  have:=h3 f f1
  omega
theorem right_of {arcs:List (Arc α)}{w:St α} (h:∀ a∈arcs,better w a=none) {a:Arc α} (ha:a∈arcs) {d:Int} (hd:w a.1=some d):∃ e,w a.2.1=some e/\e≤d+a.2.2:=better_none (h a ha) hd
theorem walk_right {arcs:List (Arc α)}{w:St α} (h:∀ a∈arcs,better w a=none) {u v:α}{W:Int}{n:Nat} (hw:Walk arcs u v W n):∀ {d:Int},w u=some d->∃ e,w v=some e/\e≤d+W:=by
 induction hw with
 | nil=>intro d hd;exact ⟨d,hd,by omega⟩
 | snoc h' ha ih=>
  intro d hd
  obtain ⟨e,h1,h2⟩:=ih hd
  obtain ⟨f,h3,h4⟩:=right_of h ha h1
  exact ⟨f,h3,by dsimp only at h4;omega⟩
theorem calm_of {arcs:List (Arc α)} (p:α->Int) (h:∀ a∈arcs,p a.2.1≤p a.1+a.2.2):Calm arcs:=by
 have:∀ {u v:α}{W:Int}{n:Nat},Walk arcs u v W n->p v≤p u+W:=by
  intro u v W n hw
  induction hw with
  | nil=>omega
  | snoc h' ha ih=>have:=h _ ha;dsimp only at this;omega
 intro v W n hw
 have:=this hw
 omega
end Ways
namespace Mine
open PySem PySem.Spec PyProof.Rows L2
open Ways (Walk better relax pass Sound Beats Calm)
def arc3 (a:ArcT):Ways.Arc (List Int):=(a.1,a.2.1,a.2.2.1)
theorem Zwx (W:WL) (k:List Int) (v:Int):lk (pt W k v)=Ways.put (lk W) k v:=by
 funext j
 rw [Zvi];rfl
theorem Zer (s:S3) (a:ArcT):(better (lk s.1) (arc3 a)=none/\stepS s a=s) \/ ∃ d,better (lk s.1) (arc3 a)=some d/\stepS s a=(pt s.1 a.2.1 d,pt s.2.1 a.2.1 a,some a.2.1):=by
 unfold stepS better arc3
 cases h1:lk s.1 a.1 with
 | none=>exact .inl ⟨rfl,rfl⟩
 | some d=>
  cases h2:lk s.1 a.2.1 with
  | none=>exact .inr ⟨_,rfl,rfl⟩
  | some e=>
   by_cases c:d+a.2.2.1<e
   ·exact .inr ⟨d+a.2.2.1,by simp [c],by simp [c]⟩
   ·exact .inl ⟨by simp [c],by simp [c]⟩
theorem Zwc (s:S3) (a:ArcT):lk (stepS s a).1=relax (lk s.1) (arc3 a):=by
 unfold relax
 rcases Zer s a with ⟨h1,h2⟩|⟨d,h1,h2⟩
 ·rw [h1,h2]
 ·rw [h1,h2,Zwx];rfl
theorem Zhi:∀ (l:List ArcT) (s:S3),lk (l.foldl stepS s).1=(l.map arc3).foldl relax (lk s.1)
 | [],s=>rfl
 | a::l,s=>by rw [foldl_cons,Zhi l,Zwc,map_cons,foldl_cons]
theorem Zmj:∀ (l:List ArcT) (s:S3),s.2.2≠none->(l.foldl stepS s).2.2≠none
 | [],s,h=>h
 | a::l,s,h=>by
  rw [foldl_cons]
  refine Zmj l _ ?_
  rcases Zer s a with ⟨_,h2⟩|⟨d,_,h2⟩
  ·rw [h2];exact h
  ·rw [h2];simp
theorem Zmi:∀ (l:List ArcT) (s:S3),(l.foldl stepS s).2.2=none->(l.foldl stepS s)=s/\∀ a∈l,better (lk s.1) (arc3 a)=none
 | [],s,h=>⟨rfl,λ a ha=>by cases ha⟩
 | a::l,s,h=>by
  rw [foldl_cons] at h |-
  rcases Zer s a with ⟨h1,h2⟩|⟨d,h1,h2⟩
  ·rw [h2] at h |-
   obtain ⟨e,hb⟩:=Zmi l s h
   refine ⟨e,λ b hb'=>?_⟩
   rcases mem_cons.mp hb' with rfl|z
   ·exact h1
   ·exact hb b z
  ·exact absurd h (Zmj l _ (by rw [h2];simp))
theorem Zgm {arcs:List ArcT}{W:WL}{L:LL3} (h:(Zcg arcs W L).2.2=none):(Zcg arcs W L)=(W,L,none)/\∀ a∈arcs,better (lk W) (arc3 a)=none:=Zmi arcs (W,L,none) h
theorem Zlq {arcs:List ArcT}{W:WL}{L:LL3} (h:∀ a∈arcs,better (lk W) (arc3 a)=none):Zcg arcs W L=(W,L,none):=by
 have:∀ (l:List ArcT),(∀ a∈l,a∈arcs)->l.foldl stepS (W,L,none)=(W,L,none):=by
  intro l
  induction l with
  | nil=>intro _;rfl
  | cons a l ih=>
   intro hl
   rw [foldl_cons]
   rcases Zer (W,L,none) a with ⟨_,h2⟩|⟨d,h1,_⟩
   ·rw [h2];exact ih λ b hb=>hl b (mem_cons_of_mem _ hb)
   ·have:=h a (hl a (mem_cons_self ..))
    rw [h1] at this;cases this
 exact this arcs λ a ha=>ha
theorem Zw7 {arcs:List ArcT}{vs:List (List Int)}{z:List Int} (calm:Calm (arcs.map arc3)) (hv:∀ a∈arcs,a.2.1∈vs) (hz:z∈vs):∀ (m i:Nat) (S:S3),i+m=vs.length->1≤m ->
  Sound (arcs.map arc3) z (lk S.1)->Beats (arcs.map arc3) z (lk S.1) i->lk S.1 z≠none ->
  (runS arcs m S).2.2=none/\(∀ a∈arcs,better (lk (runS arcs m S).1) (arc3 a)=none)/\Sound (arcs.map arc3) z (lk (runS arcs m S).1)/\lk (runS arcs m S).1 z≠none:=by
 intro m
 induction m with
 | zero=>intro i S _ h;omega
 | succ m ih=>
  intro i S him _ hs hb hzz
  have hv':∀ a∈arcs.map arc3,a.2.1∈vs:=λ a ha=>by obtain ⟨b,hb,rfl⟩:=mem_map.mp ha;exact hv b hb
  unfold runS
  cases hf:(Zcg arcs S.1 S.2.1).2.2 with
  | none=>
   obtain ⟨e,hn⟩:=Zgm hf
   rw [e]
   exact ⟨rfl,hn,hs,hzz⟩
  | some b=>
   have hlk:lk (Zcg arcs S.1 S.2.1).1=pass (arcs.map arc3) (lk S.1):=Zhi arcs (S.1,S.2.1,none)
   have hm:1≤m:=by
    refine Decidable.byContradiction λ hn=>?_
    have hset:=Ways.settled calm hv' hz hs hb (by omega)
    have:=Zlq (arcs:=arcs) (W:=S.1) (L:=S.2.1) λ a ha=>hset _ (mem_map_of_mem ha)
    rw [this] at hf;cases hf
   have key:=ih (i+1) (Zcg arcs S.1 S.2.1) (by omega) hm (by rw [hlk];exact Sound.fold _ (λ a ha=>ha) hs) (by rw [hlk];exact hb.pass) (by
    rw [hlk]
    cases hq:lk S.1 z with
    | none=>exact absurd hq hzz
    | some d=>
     obtain ⟨e,he,_⟩:=Ways.fold_le (arcs.map arc3) hq
     show (arcs.map arc3).foldl relax (lk S.1) z≠none
     rw [he];simp)
   cases hS:Zcg arcs S.1 S.2.1 with
   | mk W2 R=>
    obtain ⟨Lb,f2⟩:=R
    rw [hS] at hf key
    simp only at hf
    subst hf
    exact key
theorem Zlr (arcs:List (Ways.Arc (List Int))) (z:List Int):Sound arcs z (lk [(z,(0:Int))]):=by
 intro v d h
 rw [Ze3] at h
 split at h
 ·next e=>
  cases h
  subst e
  exact ⟨0,.nil⟩
 ·simp [lk] at h
theorem Zqp (arcs:List (Ways.Arc (List Int))) (z:List Int):Beats arcs z (lk [(z,(0:Int))]) 0:=by
 intro v W n hn hw
 have:n=0:=by omega
 subst this
 cases hw
 exact ⟨0,by rw [Ze3,if_pos rfl],Int.le_refl 0⟩
structure Tasteful (k:Nat) (rs:List Rnd) (ss:List Sea) (p:List Int->Int):Prop where
 zero:p (Zb0 k)=0
 nn:∀ b∈Zav k rs ss,0≤p b
 sea:∀ r∈ss,p r.1=r.2
 row:∀ r∈rs,∀ b∈Zav k rs ss,p b-dot r.1 b≤p r.2-dot r.1 r.2
structure Right (k:Nat) (rs:List Rnd) (ss:List Sea):Prop where
 none:(Zbr k rs ss).2.2=none
 all:∀ b∈Zav k rs ss,∃ d,lk (Zbr k rs ss).1 b=some d
 zero:Zcf k rs ss (Zb0 k)=0
 nn:∀ b∈Zav k rs ss,0≤Zcf k rs ss b
 sea:∀ r∈ss,Zcf k rs ss r.1=r.2
 row:∀ r∈rs,∀ b∈Zav k rs ss,Zcf k rs ss b-dot r.1 b≤Zcf k rs ss r.2-dot r.1 r.2
 up:∀ p,Tasteful k rs ss p->∀ b∈Zav k rs ss,Zcf k rs ss b≤p b
 sm:∀ M:Nat,(∀ e∈Zdf (Zav k rs ss) rs ss,(Zai rs ss e).natAbs≤M)->∀ b∈Zav k rs ss,(Zcf k rs ss b).natAbs≤(Zav k rs ss).length*M
theorem Zbn {told:List (List Int)}{rs:List Rnd}{ss:List Sea}{e:Stp}:e∈Zdf told rs ss ↔ (∃ b∈told,e=(3,0,b)) \/ (∃ i,∃ h:i<ss.length,e=(1,i,ss[i].1) \/ e=(2,i,ss[i].1)) \/ ∃ i,i<rs.length/\∃ b∈told,e=(0,i,b):=by
 unfold Zdf
 simp only [mem_append,mem_map,mem_flatMap,mem_range,mem_cons,not_mem_nil,or_false]
 constructor
 ·rintro ((⟨b,hb,rfl⟩|⟨i,hi,h⟩)|⟨i,hi,b,hb,rfl⟩)
  ·exact .inl ⟨b,hb,rfl⟩
  ·rw [Zrn hi] at h;exact .inr (.inl ⟨i,hi,h⟩)
  ·exact .inr (.inr ⟨i,hi,b,hb,rfl⟩)
 ·rintro (⟨b,hb,rfl⟩|⟨i,hi,h⟩|⟨i,hi,b,hb,rfl⟩)
  ·exact .inl (.inl ⟨b,hb,rfl⟩)
  ·exact .inl (.inr ⟨i,hi,by rw [Zrn hi];exact h⟩)
  ·exact .inr ⟨i,hi,b,hb,rfl⟩
theorem Zmv {k:Nat}{rs:List Rnd}{ss:List Sea}{e:Stp} (he:e∈Zdf (Zav k rs ss) rs ss):turnA (arcF k rs ss e)∈Zbv k rs ss:=by
 unfold Zbv arcsF
 exact mem_map_of_mem (mem_map_of_mem he)
theorem Zeu (k:Nat) (rs:List Rnd) (ss:List Sea):Zb0 k∈Zav k rs ss:=Zbz.mpr (.inl rfl)
theorem Zig {k:Nat}{rs:List Rnd}{ss:List Sea}{e:Stp} (he:e∈Zdf (Zav k rs ss) rs ss):(Zc2 k rs e).1∈Zav k rs ss/\(Zc2 k rs e).2∈Zav k rs ss:=by
 have hz:=Zeu k rs ss
 rcases Zbn.mp he with ⟨b,hb,rfl⟩|⟨i,hi,h⟩|⟨i,hi,b,hb,rfl⟩
 ·exact ⟨hb,hz⟩
 ·have hs:ss[i].1∈Zav k rs ss:=Zbz.mpr (.inr (.inr ⟨ss[i],getElem_mem hi,rfl⟩))
  rcases h with rfl|rfl
  ·exact ⟨hz,hs⟩
  ·exact ⟨hs,hz⟩
 ·simp only [Zc2,gEq hi]
  exact ⟨Zbz.mpr (.inr (.inl ⟨rs[i],getElem_mem hi,rfl⟩)),hb⟩
theorem Zwk {arcs:List (Ways.Arc (List Int))} (p:List Int->Int) (h:∀ a∈arcs,p a.2.1≤p a.1+a.2.2) {u v:List Int}{W:Int}{n:Nat} (hw:Walk arcs u v W n):p v≤p u+W:=by
 induction hw with
 | nil=>omega
 | snoc h' ha ih=>have:=h _ ha;dsimp only at this;omega
theorem Zwj {arcs:List (Ways.Arc (List Int))}{M:Nat} (h:∀ a∈arcs,a.2.2.natAbs≤M) {u v:List Int}{W:Int}{n:Nat} (hw:Walk arcs u v W n):W.natAbs≤n*M:=by
 induction hw with
 | nil=>simp
 | snoc h' ha ih=>have:=h _ ha;dsimp only at this;rw [add_mul,one_mul];omega
theorem Zfx {k:Nat}{rs:List Rnd}{ss:List Sea} (hH:Hist k rs ss) {p:List Int->Int} (hp:Tasteful k rs ss p):Right k rs ss:=by
 have arc_of:∀ a∈Zbv k rs ss,∃ e∈Zdf (Zav k rs ss) rs ss,a=((Zc2 k rs e).2,(Zc2 k rs e).1,Zai rs ss e,e):=by
  intro a ha
  unfold Zbv arcsF at ha
  obtain ⟨b,hb,rfl⟩:=mem_map.mp ha
  obtain ⟨e,he,rfl⟩:=mem_map.mp hb
  exact ⟨e,he,rfl⟩
 have pot:∀ p,Tasteful k rs ss p->∀ a∈(Zbv k rs ss).map arc3,-p a.2.1≤-p a.1+a.2.2:=by
  intro p hp a ha
  obtain ⟨c,hc,rfl⟩:=mem_map.mp ha
  obtain ⟨e,he,rfl⟩:=arc_of c hc
  rcases Zbn.mp he with ⟨b,hb,rfl⟩|⟨i,hi,h⟩|⟨i,hi,b,hb,rfl⟩
  ·show -p b≤-p (Zb0 k)+0
   have:=hp.nn b hb
   rw [hp.zero];omega
  ·have h1:=hp.sea ss[i] (getElem_mem hi)
   rcases h with rfl|rfl
   ·show -p (Zb0 k)≤-p ss[i].1+Zai rs ss (1,i,ss[i].1)
    have:Zai rs ss (1,i,ss[i].1)=ss[i].2:=by simp [Zai,gEq hi]
    rw [this,hp.zero];omega
   ·show -p ss[i].1≤-p (Zb0 k)+Zai rs ss (2,i,ss[i].1)
    have:Zai rs ss (2,i,ss[i].1) = -ss[i].2:=by simp [Zai,gEq hi]
    rw [this,hp.zero];omega
  ·have h1:=hp.row rs[i] (getElem_mem hi) b hb
   have e1:(Zc2 k rs (0,i,b))=(rs[i].2,b):=by simp [Zc2,gEq hi]
   have e2:Zai rs ss (0,i,b)=dot rs[i].1 b-dot rs[i].1 rs[i].2:=by simp [Zai,gEq hi]
   show -p (Zc2 k rs (0,i,b)).1≤-p (Zc2 k rs (0,i,b)).2+Zai rs ss (0,i,b)
   rw [e1,e2]
   show -p rs[i].2≤-p b+(dot rs[i].1 b-dot rs[i].1 rs[i].2)
   omega
 have calm:Calm ((Zbv k rs ss).map arc3):=Ways.calm_of (λ b=>-p b) (pot p hp)
 have hpos:1≤(Zav k rs ss).length:=by rw [Zet];simp
 obtain ⟨r1,r2,r3,r4⟩:=Zw7 (vs:=Zav k rs ss) (z:=Zb0 k) calm (λ a ha=>by
   obtain ⟨e,he,rfl⟩:=arc_of a ha
   exact (Zig he).1) (Zeu k rs ss) (Zav k rs ss).length 0 ([(Zb0 k,0)],[],none) (by omega) hpos (Zlr _ _) (Zqp _ _) (by rw [Ze3,if_pos rfl];simp)
 have eF:runS (Zbv k rs ss) (Zav k rs ss).length ([(Zb0 k,0)],[],none)=Zbr k rs ss:=rfl
 rw [eF] at r1 r2 r3 r4
 have r2':∀ a∈(Zbv k rs ss).map arc3,better (lk (Zbr k rs ss).1) a=none:=λ a ha=>by obtain ⟨b,hb,rfl⟩:=mem_map.mp ha;exact r2 b hb
 have hz0:lk (Zbr k rs ss).1 (Zb0 k)=some 0:=by
  cases hq:lk (Zbr k rs ss).1 (Zb0 k) with
  | none=>exact absurd hq r4
  | some d=>
   -- the free step of nothing itself
   obtain ⟨n,hw⟩:=r3 _ _ hq
   have h1:=calm _ _ _ hw
   obtain ⟨e,he,hle⟩:=Ways.walk_right r2' hw (d:=d) hq
   rw [hq] at he;cases he
   have hd0:0≤d:=h1
   -- no greater than 0: it began there
   have:d≤0:=by
    have:∀ (m:Nat) (S:S3),(∃ e,lk S.1 (Zb0 k)=some e/\e≤0)->∃ e,lk (runS (Zbv k rs ss) m S).1 (Zb0 k)=some e/\e≤0:=by
     intro m
     induction m with
     | zero=>intro S h;exact h
     | succ m ih=>
      intro S ⟨e,he,hle⟩
      have hlk:lk (Zcg (Zbv k rs ss) S.1 S.2.1).1=pass ((Zbv k rs ss).map arc3) (lk S.1):=Zhi _ (S.1,S.2.1,none)
      obtain ⟨e2,he2,hle2⟩:=Ways.fold_le ((Zbv k rs ss).map arc3) he
      have hh:∃ e,lk (Zcg (Zbv k rs ss) S.1 S.2.1).1 (Zb0 k)=some e/\e≤0:=⟨e2,by rw [hlk];exact he2,by omega⟩
      unfold runS
      cases hS:Zcg (Zbv k rs ss) S.1 S.2.1 with
      | mk W2 R=>
       obtain ⟨Lb,f2⟩:=R
       rw [hS] at hh
       cases f2 with
       | none=>exact hh
       | some b=>exact ih _ hh
    obtain ⟨e,he,hle⟩:=this (Zav k rs ss).length ([(Zb0 k,0)],[],none) ⟨0,by rw [Ze3,if_pos rfl],Int.le_refl 0⟩
    rw [eF,hq] at he;cases he
    exact hle
   have:d=0:=by omega
   rw [this]
 have right:∀ e∈Zdf (Zav k rs ss) rs ss,∀ d,lk (Zbr k rs ss).1 (Zc2 k rs e).2=some d->∃ c,lk (Zbr k rs ss).1 (Zc2 k rs e).1=some c/\c≤d+Zai rs ss e:=by
  intro e he d hd
  exact Ways.right_of r2' (a:=arc3 (turnA (arcF k rs ss e))) (mem_map_of_mem (Zmv he)) hd
 have all:∀ b∈Zav k rs ss,∃ d,lk (Zbr k rs ss).1 b=some d/\d≤0:=λ b hb=>by
  obtain ⟨c,hc,hle⟩:=right (3,0,b) (Zbn.mpr (.inl ⟨b,hb,rfl⟩)) 0 hz0
  exact ⟨c,hc,by simpa [Zai] using hle⟩
 have om:∀ b d,lk (Zbr k rs ss).1 b=some d->Zcf k rs ss b = -d:=λ b d h=>by unfold Zcf;rw [h];rfl
 refine ⟨r1,λ b hb=>let ⟨d,h,_⟩:=all b hb;⟨d,h⟩,by rw [om _ _ hz0];rfl,λ b hb=>?_,λ r hr=>?_,λ r hr b hb=>?_,λ p' hp' b hb=>?_,λ M hM b hb=>?_⟩
 ·obtain ⟨d,h,hle⟩:=all b hb
  rw [om _ _ h];omega
 ·obtain ⟨i,hi,rfl⟩:=getElem_of_mem hr
  obtain ⟨d,h,_⟩:=all ss[i].1 (Zbz.mpr (.inr (.inr ⟨ss[i],hr,rfl⟩)))
  have q1:Zc2 k rs (1,i,ss[i].1)=(Zb0 k,ss[i].1):=by simp [Zc2]
  obtain ⟨c1,h1,l1⟩:=right (1,i,ss[i].1) (Zbn.mpr (.inr (.inl ⟨i,hi,.inl rfl⟩))) d (by rw [q1];exact h)
  obtain ⟨c2,h2,l2⟩:=right (2,i,ss[i].1) (Zbn.mpr (.inr (.inl ⟨i,hi,.inr rfl⟩))) 0 hz0
  have e1:Zai rs ss (1,i,ss[i].1)=ss[i].2:=by simp [Zai,gEq hi]
  have e2:Zai rs ss (2,i,ss[i].1) = -ss[i].2:=by simp [Zai,gEq hi]
  rw [e1] at l1
  rw [e2] at l2
  have h1':lk (Zbr k rs ss).1 (Zb0 k)=some c1:=by rw [q1] at h1;exact h1
  rw [hz0] at h1';cases h1'
  have h2':lk (Zbr k rs ss).1 ss[i].1=some c2:=h2
  rw [h] at h2';cases h2'
  rw [om _ _ h];omega
 ·obtain ⟨i,hi,rfl⟩:=getElem_of_mem hr
  obtain ⟨d,h,_⟩:=all b hb
  have e1:(Zc2 k rs (0,i,b))=(rs[i].2,b):=by simp [Zc2,gEq hi]
  have e2:Zai rs ss (0,i,b)=dot rs[i].1 b-dot rs[i].1 rs[i].2:=by simp [Zai,gEq hi]
  obtain ⟨c,hc,hle⟩:=right (0,i,b) (Zbn.mpr (.inr (.inr ⟨i,hi,b,hb,rfl⟩))) d (by rw [e1];exact h)
  rw [e1] at hc
  rw [e2] at hle
  rw [om _ _ h,om _ _ hc];omega
 ·obtain ⟨d,h,_⟩:=all b hb
  obtain ⟨n,hw⟩:=r3 _ _ h
  have:=Zwk (λ b=>-p' b) (pot p' hp') hw
  have h0:=hp'.zero
  rw [om _ _ h]
  omega
 ·obtain ⟨d,h,_⟩:=all b hb
  obtain ⟨n,hw⟩:=r3 _ _ h
  obtain ⟨W',m,g1,g2,g3⟩:=Ways.reduce calm (vs:=Zav k rs ss) (λ a ha=>by
   obtain ⟨c,hc,rfl⟩:=mem_map.mp ha
   obtain ⟨e,he,rfl⟩:=arc_of c hc
   exact (Zig he).1) (Zeu k rs ss) n hw
  obtain ⟨e,he,hle⟩:=Ways.walk_right r2' g3 hz0
  rw [h] at he;cases he
  have h1:=Zwj (M:=M) (λ a ha=>by
   obtain ⟨c,hc,rfl⟩:=mem_map.mp ha
   obtain ⟨e,he,rfl⟩:=arc_of c hc
   exact hM e he) g3
  have h2:m*M≤(Zav k rs ss).length*M:=mul_le_mul_right _ (by omega)
  rw [om _ _ h]
  omega
end Mine
namespace Ways
variable {α:Type} [DecidableEq α]
structure G (α:Type) where
 w:St α
 last:α->Option (Arc α)
 t:α->Nat
 r:α->Nat
 clock:Nat
def G.relax (p:Nat) (g:G α) (a:Arc α):G α:=match better g.w a with
 | none=>g
 | some d=>⟨put g.w a.2.1 d,λ x=>if x=a.2.1 then some a else g.last x,λ x=>if x=a.2.1 then g.clock+1 else g.t x,λ x=>if x=a.2.1 then p else g.r x,g.clock+1⟩
structure Ok (arcs:List (Arc α)) (p:Nat) (g:G α):Prop where
 tm:∀ v,g.t v≤g.clock
 rp:∀ v,g.r v≤p
 has:∀ v,g.last v=none->g.r v=0
 arc:∀ v a,g.last v=some a->a.2.1=v/\a∈arcs/\g.r v≤g.r a.1+1/\∃ du dv,g.w a.1=some du/\g.w v=some dv/\du+a.2.2≤dv/\(g.t v≤g.t a.1->du+a.2.2<dv)
theorem Ok.relax {arcs:List (Arc α)}{p:Nat}{g:G α} (h:Ok arcs p g) {a:Arc α} (ha:a∈arcs) (hr:better g.w a≠none->p≤g.r a.1+1):Ok arcs p (g.relax p a):=by
 unfold G.relax
 cases hb:better g.w a with
 | none=>exact h
 | some d=>
  obtain ⟨du,h1,h2,h3⟩:=better_some hb
  have hr':=hr (by rw [hb];simp)
  refine ⟨λ v=>?_,λ v=>?_,λ v hv=>?_,λ v b hv=>?_⟩
  ·dsimp only;split
   ·exact le_refl _
   ·exact Nat.le_succ_of_le (h.tm v)
  ·dsimp only;split
   ·exact le_refl _
   ·exact h.rp v
  ·dsimp only at hv |-
   split at hv
   ·cases hv
   ·rename_i hne;rw [if_neg hne];exact h.has v hv
  ·dsimp only at hv |-
   split at hv
   ·rename_i heq
    cases hv
    subst heq
    refine ⟨rfl,ha,?_,?_⟩
    ·rw [if_pos rfl]
     split
     ·exact le_succ _
     ·exact hr'
    ·by_cases hu:a.1=a.2.1
     ·have e:=h3 du (by rw [<- hu];exact h1)
      refine ⟨d,d,by rw [hu];exact put_same ..,put_same ..,by omega,λ _=>by omega⟩
     ·refine ⟨du,d,by rw [put_ne _ _ hu];exact h1,put_same ..,by omega,λ ht=>?_⟩
      rw [if_pos rfl,if_neg hu] at ht
      have:=h.tm a.1
      omega
   ·rename_i hne
    obtain ⟨g1,g2,g3,du',dv',g4,g5,g6,g7⟩:=h.arc v b hv
    refine ⟨g1,g2,?_,?_⟩
    ·rw [if_neg hne]
     split
     ·have:=h.rp v;omega
     ·exact g3
    ·by_cases hy:b.1=a.2.1
     ·have e:=h3 du' (by rw [<- hy];exact g4)
      exact ⟨d,dv',by rw [hy];exact put_same ..,by rw [put_ne _ _ hne];exact g5,by omega,λ _=>by omega⟩
     ·refine ⟨du',dv',by rw [put_ne _ _ hy];exact g4,by rw [put_ne _ _ hne];exact g5,g6,λ ht=>g7 ?_⟩
      rwa [if_neg hne,if_neg hy] at ht
structure Mid (arcs:List (Arc α)) (p:Nat) (done todo:List (Arc α)) (g:G α):Prop where
 ok:Ok arcs p g
 dn:∀ a∈done,better g.w a=none \/ p≤g.r a.1
 td:∀ a∈todo,better g.w a=none \/ p≤g.r a.1+1
theorem Zgs {w:St α}{a b:Arc α}{d:Int} (hb:better w a=some d) (h:better w b=none) (hs:b.1≠a.2.1):better (put w a.2.1 d) b=none:=by
 obtain ⟨du,h1,h2,h3⟩:=better_some hb
 cases hw:w b.1 with
 | none=>unfold better;rw [put_ne _ _ hs,hw]
 | some x=>
  obtain ⟨e,e1,e2⟩:=better_none h hw
  unfold better
  rw [put_ne _ _ hs,hw]
  dsimp only
  by_cases hy:b.2.1=a.2.1
  ·rw [hy,put_same]
   dsimp only
   rw [if_neg]
   have:=h3 e (by rw [<- hy];exact e1)
   omega
  ·rw [put_ne _ _ hy,e1]
   dsimp only
   rw [if_neg]
   omega
theorem Mid.step {arcs done todo:List (Arc α)}{p:Nat}{g:G α}{a:Arc α} (h:Mid arcs p done (a::todo) g) (ha:a∈arcs):Mid arcs p (done++[a]) todo (g.relax p a):=by
 have hr:better g.w a≠none->p≤g.r a.1+1:=λ hn=>by
  rcases h.td a (mem_cons_self ..) with z|z
  ·exact absurd z hn
  ·exact z
 refine ⟨h.ok.relax ha hr,?_,?_⟩
 ·intro b hb
  unfold G.relax
  cases hc:better g.w a with
  | none=>
   rcases mem_append.mp hb with z|z
   ·exact h.dn b z
   ·rw [mem_singleton.mp z];exact .inl hc
  | some d=>
   dsimp only
   by_cases hs:b.1=a.2.1
   ·exact .inr (by rw [if_pos hs];exact le_refl _)
   ·rw [if_neg hs]
    rcases mem_append.mp hb with z|z
    ·rcases h.dn b z with y|y
     ·exact .inl (Zgs hc y hs)
     ·exact .inr y
    ·rw [mem_singleton.mp z] at hs |-
     obtain ⟨du,h1,h2,h3⟩:=better_some hc
     refine .inl ?_
     unfold better
     rw [put_ne _ _ hs,h1]
     dsimp only
     rw [put_same]
     dsimp only
     rw [if_neg]
     omega
 ·intro b hb
  have hb':=h.td b (mem_cons_of_mem _ hb)
  unfold G.relax
  cases hc:better g.w a with
  | none=>exact hb'
  | some d=>
   dsimp only
   by_cases hs:b.1=a.2.1
   ·exact .inr (by rw [if_pos hs];exact le_succ _)
   ·rw [if_neg hs]
    rcases hb' with y|y
    ·exact .inl (Zgs hc y hs)
    ·exact .inr y
theorem Mid.next {arcs done:List (Arc α)}{p:Nat}{g:G α} (h:Mid arcs p done [] g) (hall:∀ a∈arcs,a∈done):Mid arcs (p+1) [] arcs g:=
 ⟨⟨h.ok.tm,λ v=>Nat.le_succ_of_le (h.ok.rp v),h.ok.has,h.ok.arc⟩,λ a ha=>(nomatch ha),λ a ha=>by
  rcases h.dn a (hall a ha) with z|z
  ·exact .inl z
  ·exact .inr (Nat.succ_le_succ z)⟩
theorem Mid.zero {arcs:List (Arc α)}{s:α}:Mid arcs 1 [] arcs (⟨put (λ _=>none) s 0,λ _=>none,λ _=>0,λ _=>0,0⟩:G α):=
 ⟨⟨λ v=>le_refl _,λ v=>zero_le _,λ v _=>rfl,λ v a h=>(nomatch h)⟩,λ a ha=>(nomatch ha),λ a _=>.inr (le_refl _)⟩
inductive Back (g:G α) (v:α):α->Int->Nat->Prop
 | nil:Back g v v 0 0
 | snoc {u:α}{B:Int}{n:Nat}{a:Arc α} (h:Back g v u B n) (ha:g.last u=some a):Back g v a.1 (B+a.2.2) (n+1)
theorem Back.weight {arcs:List (Arc α)}{p:Nat}{g:G α} (ok:Ok arcs p g) {v u:α}{B:Int}{n:Nat} (h:Back g v u B n) {dv:Int} (hd:g.w v=some dv):∃ du,g.w u=some du/\(du+B<dv \/ (du+B≤dv/\g.t u+n≤g.t v)):=by
 induction h with
 | nil=>exact ⟨dv,hd,.inr ⟨by omega,le_refl _⟩⟩
 | snoc h ha ih=>
  obtain ⟨du,h1,h2⟩:=ih
  obtain ⟨g1,g2,g3,d1,d2,g4,g5,g6,g7⟩:=ok.arc _ _ ha
  rw [h1] at g5;cases g5
  refine ⟨d1,g4,?_⟩
  rcases h2 with z|⟨z1,z2⟩
  ·exact .inl (by omega)
  ·rename_i u' B' n' a'
   by_cases ht:g.t u'≤g.t a'.1
   ·exact .inl (by have:=g7 ht;omega)
   ·exact .inr ⟨by omega,by omega⟩
theorem Back.ring {arcs:List (Arc α)}{p:Nat}{g:G α} (ok:Ok arcs p g) {v:α}{B:Int}{n:Nat} (h:Back g v v B n) (hn:0<n):B<0:=by
 have hv:∃ dv,g.w v=some dv:=by
  cases h with
  | nil=>omega
  | snoc h ha=>
   obtain ⟨_,_,_,d1,d2,g4,_⟩:=ok.arc _ _ ha
   exact ⟨d1,g4⟩
 obtain ⟨dv,hd⟩:=hv
 obtain ⟨du,h1,h2⟩:=h.weight ok hd
 rw [hd] at h1;cases h1
 rcases h2 with z|⟨_,z⟩ <;> omega
theorem Back.turn {arcs:List (Arc α)}{p:Nat}{g:G α} (ok:Ok arcs p g) {v u:α}{B:Int}{n:Nat} (h:Back g v u B n):g.r v≤g.r u+n:=by
 induction h with
 | nil=>exact le_refl _
 | snoc h ha ih=>
  have:=(ok.arc _ _ ha).2.2.1
  omega
end Ways
namespace Ways
variable {α:Type} [DecidableEq α]
def G.nx (g:G α) (v:α):α:=match g.last v with
 | some a=>a.1
 | none=>v
def G.at (g:G α) (v:α):Nat->α
 | 0=>v
 | k+1=>g.nx (g.at v k)
theorem Zqt (g:G α) (v:α) (k:Nat):∀ n,g.at (g.at v k) n=g.at v (k+n)
 | 0=>rfl
 | n+1=>by show g.nx (g.at (g.at v k) n)=g.nx (g.at v (k+n));rw [Zqt g v k n]
theorem Zo6 {g:G α}{v:α}{i j:Nat} (h:g.at v i=g.at v j) (n:Nat):g.at v (i+n)=g.at v (j+n):=by rw [<- Zqt,<- Zqt,h]
theorem repeats (y:Nat->α) {n:Nat}{vs:List α} (hv:∀ k<n,y k∈vs) (hn:vs.length<n):∃ i j,i<j/\j<n/\y i=y j:=by
 by_cases h:∃ i j,i<j/\j<n/\y i=y j
 ·exact h
 ·exfalso
  have nd:((List.range n).map y).Nodup:=by
   unfold List.Nodup
   rw [List.pairwise_map]
   refine List.Pairwise.imp_of_mem ?_ List.pairwise_lt_range
   intro i j hi hj hij e
   exact h ⟨i,j,hij,mem_range.mp hj,e⟩
  have:=nodup_len _ vs nd λ x hx=>by obtain ⟨k,hk,rfl⟩:=mem_map.mp hx;exact hv k (mem_range.mp hk)
  rw [lmp,length_range] at this
  omega
theorem back_ever {arcs:List (Arc α)}{p:Nat}{g:G α} (ok:Ok arcs p g) {vs:List α} (hs:∀ a∈arcs,a.1∈vs) {v:α} (hv:v∈vs) (hr:vs.length≤g.r v):∀ k,g.last (g.at v k)≠none:=by
 have early:∀ k,k≤vs.length->vs.length≤g.r (g.at v k)+k/\g.at v k∈vs:=by
  intro k
  induction k with
  | zero=>intro _;exact ⟨hr,hv⟩
  | succ k ih=>
   intro hk
   obtain ⟨h1,h2⟩:=ih (by omega)
   cases hl:g.last (g.at v k) with
   | none=>have:=ok.has _ hl;omega
   | some a=>
    obtain ⟨g1,g2,g3,_⟩:=ok.arc _ _ hl
    have e:g.at v (k+1)=a.1:=by show g.nx (g.at v k)=a.1;unfold G.nx;rw [hl]
    rw [e]
    exact ⟨by omega,hs a g2⟩
 obtain ⟨i,j,hij,hj,e⟩:=repeats (g.at v) (n:=vs.length+1) (vs:=vs) (λ k hk=>(early k (by omega)).2) (by omega)
 intro k
 induction k using Nat.strongRecOn with
 | ind k ih=>
  by_cases hk:k<vs.length
  ·intro hl
   have h1:=(early k (by omega)).1
   have:=ok.has _ hl
   omega
  ·have e2:=Zo6 e (k-j)
   have e3:g.at v k=g.at v (i+(k-j)):=by rw [e2];congr 1;omega
   rw [e3]
   exact ih _ (by omega)
theorem in_ring {g:G α}{v:α} (ever:∀ k,g.last (g.at v k)≠none) {keys:List α} (hk:∀ x,g.last x≠none->x∈keys):∃ c,1≤c/\c≤keys.length/\g.at (g.at v keys.length) c=g.at v keys.length:=by
 obtain ⟨i,j,hij,hj,e⟩:=repeats (g.at v) (n:=keys.length+1) (vs:=keys) (λ k _=>hk _ (ever k)) (by omega)
 refine ⟨j-i,by omega,by omega,?_⟩
 rw [Zqt]
 have:=Zo6 e (keys.length-i)
 have h1:i+(keys.length-i)=keys.length:=by omega
 have h2:j+(keys.length-i)=keys.length+(j-i):=by omega
 rw [h1,h2] at this
 exact this.symm
theorem first_return {g:G α}{v:α}{c:Nat} (hc:1≤c) (h:g.at v c=v):∃ d,1≤d/\d≤c/\g.at v d=v/\∀ k,1≤k->k<d->g.at v k≠v:=by
 induction c using Nat.strongRecOn with
 | ind c ih=>
  by_cases hx:∃ k,1≤k/\k<c/\g.at v k=v
  ·obtain ⟨k,h1,h2,h3⟩:=hx
   obtain ⟨d,d1,d2,d3,d4⟩:=ih k h2 h1 h3
   exact ⟨d,d1,by omega,d3,d4⟩
  ·exact ⟨c,hc,le_refl _,h,λ k h1 h2 h3=>hx ⟨k,h1,h2,h3⟩⟩
end Ways
namespace Mine
open PySem PySem.Spec PyProof.Rows L2
open Ways (Walk better relax pass Sound Beats Calm)
def SimG (S:S3) (g:Ways.G (List Int)):Prop:=g.w=lk S.1/\g.last=λ x=>(lk S.2.1 x).map arc3
theorem Zy6 (L:LL3) (k:List Int) (v:ArcT) (h:(L.map (·.1)).Nodup):((pt L k v).map (·.1)).Nodup:=by
 unfold pt
 split
 ·rw [map_map]
  have e:((λ p:List Int × ArcT=>p.1) ∘ λ p=>if p.1=k then (p.1,v) else p)=λ p=>p.1:=by
   funext p
   simp only [Function.comp_def]
   split <;> rfl
  rw [e];exact h
 ·next hn=>
  rw [map_append]
  refine List.nodup_append.mpr ⟨h,by simp,λ x hx y hy e=>?_⟩
  obtain ⟨p,hp,rfl⟩:=mem_map.mp hx
  have:y=k:=by simpa using hy
  subst this
  exact hn (any_eq_true.mpr ⟨p,hp,by simpa using e⟩)
structure InvP (arcs:List ArcT) (p:Nat) (done todo:List ArcT) (S:S3) (g:Ways.G (List Int)):Prop where
 sim:SimG S g
 mid:Ways.Mid (arcs.map arc3) p (done.map arc3) (todo.map arc3) g
 mem:∀ x a,lk S.2.1 x=some a->a∈arcs
 nd:(S.2.1.map (·.1)).Nodup
 fo:∀ b,S.2.2=some b->g.r b=p
theorem InvP.step {arcs done todo:List ArcT}{p:Nat}{S:S3}{g:Ways.G (List Int)}{a:ArcT} (h:InvP arcs p done (a::todo) S g) (ha:a∈arcs):∃ g',InvP arcs p (done++[a]) todo (stepS S a) g':=by
 have hm:=Ways.Mid.step (a:=arc3 a) (todo:=todo.map arc3) (by simpa using h.mid) (mem_map_of_mem ha)
 have em:done.map arc3++[arc3 a]=(done++[a]).map arc3:=by rw [map_append];rfl
 rw [em] at hm
 refine ⟨g.relax p (arc3 a),?_⟩
 rcases Zer S a with ⟨h1,h2⟩|⟨d,h1,h2⟩
 ·have e:g.relax p (arc3 a)=g:=by unfold Ways.G.relax;rw [h.sim.1,h1]
  rw [e] at hm |-
  rw [h2]
  exact ⟨h.sim,hm,h.mem,h.nd,h.fo⟩
 ·have e:g.relax p (arc3 a)=⟨Ways.put g.w a.2.1 d,λ x=>if x=a.2.1 then some (arc3 a) else g.last x,λ x=>if x=a.2.1 then g.clock+1 else g.t x,λ x=>if x=a.2.1 then p else g.r x,g.clock+1⟩:=by unfold Ways.G.relax;rw [h.sim.1,h1];rfl
  refine ⟨?_,hm,?_,?_,?_⟩
  ·rw [e,h2]
   refine ⟨?_,?_⟩
   ·rw [h.sim.1,Zwx]
   ·funext x
    show (if x=a.2.1 then some (arc3 a) else g.last x)=(lk (pt S.2.1 a.2.1 a) x).map arc3
    rw [Zvi,h.sim.2]
    split <;> rfl
  ·rw [h2]
   intro x b hb
   have hb':lk (pt S.2.1 a.2.1 a) x=some b:=hb
   rw [Zvi] at hb'
   split at hb'
   ·cases hb';exact ha
   ·exact h.mem x b hb'
  ·rw [h2];exact Zy6 _ _ _ h.nd
  ·rw [h2,e]
   intro b hb
   have:a.2.1=b:=Option.some.inj hb
   subst this
   show (if a.2.1=a.2.1 then p else _)=p
   rw [if_pos rfl]
theorem InvP.fold {arcs:List ArcT}{p:Nat}:∀ (todo done:List ArcT) (S:S3) (g:Ways.G (List Int)),(∀ a∈todo,a∈arcs)->InvP arcs p done todo S g->∃ g',InvP arcs p (done++todo) [] (todo.foldl stepS S) g'
 | [],done,S,g,_,h=>⟨g,by simpa using h⟩
 | a::todo,done,S,g,ha,h=>by
  obtain ⟨g1,h1⟩:=h.step (ha a (mem_cons_self ..))
  obtain ⟨g2,h2⟩:=InvP.fold todo (done++[a]) (stepS S a) g1 (λ b hb=>ha b (mem_cons_of_mem _ hb)) h1
  exact ⟨g2,by simpa using h2⟩
structure Goal3 (arcs:List ArcT) (p:Nat) (b:List Int) (S:S3) (g:Ways.G (List Int)):Prop where
 sim:SimG S g
 ok:Ways.Ok (arcs.map arc3) p g
 mem:∀ x a,lk S.2.1 x=some a->a∈arcs
 nd:(S.2.1.map (·.1)).Nodup
 r:g.r b=p
theorem Zw8 {arcs:List ArcT}{b:List Int}:∀ (m p:Nat) (S:S3) (g:Ways.G (List Int)),InvP arcs p [] arcs (S.1,S.2.1,none) g->(runS arcs (m+1) S).2.2=some b->∃ g',Goal3 arcs (p+m) b (runS arcs (m+1) S) g':=by
 intro m
 induction m with
 | zero=>
  intro p S g h hb
  obtain ⟨g1,h1⟩:=InvP.fold arcs [] _ g (λ a ha=>ha) h
  have e0:arcs.foldl stepS (S.1,S.2.1,none)=Zcg arcs S.1 S.2.1:=rfl
  rw [e0] at h1
  unfold runS at hb |-
  cases hS:Zcg arcs S.1 S.2.1 with
  | mk W R=>
   obtain ⟨L,f⟩:=R
   rw [hS] at h1 hb
   cases f with
   | none=>cases hb
   | some c=>
    have:c=b:=Option.some.inj hb
    subst this
    exact ⟨g1,h1.sim,h1.mid.ok,h1.mem,h1.nd,h1.fo c rfl⟩
 | succ m ih=>
  intro p S g h hb
  obtain ⟨g1,h1⟩:=InvP.fold arcs [] _ g (λ a ha=>ha) h
  have e0:arcs.foldl stepS (S.1,S.2.1,none)=Zcg arcs S.1 S.2.1:=rfl
  rw [e0] at h1
  have er:runS arcs (m+1+1) S=match Zcg arcs S.1 S.2.1 with
   | (W,L,none)=>(W,L,none)
   | (W,L,some b)=>runS arcs (m+1) (W,L,some b):=by rw [runS] <;> rfl
  rw [er] at hb |-
  cases hS:Zcg arcs S.1 S.2.1 with
  | mk W R=>
   obtain ⟨L,f⟩:=R
   rw [hS] at h1 hb
   cases f with
   | none=>cases hb
   | some c=>
    have hn:InvP arcs (p+1) [] arcs (W,L,none) g1:=⟨h1.sim,by
     have:=Ways.Mid.next (done:=arcs.map arc3) (by simpa using h1.mid) (λ a ha=>ha)
     simpa using this,h1.mem,h1.nd,λ _ hh=>by cases hh⟩
    obtain ⟨g2,h2⟩:=ih (p+1) (W,L,some c) g1 hn hb
    have e:p+1+m=p+(m+1):=by omega
    rw [e] at h2
    exact ⟨g2,h2⟩
theorem Zul (arcs:List ArcT) (z:List Int):InvP arcs 1 [] arcs ([(z,(0:Int))],[],none) ⟨Ways.put (λ _=>none) z 0,λ _=>none,λ _=>0,λ _=>0,0⟩:=by
 refine ⟨⟨?_,?_⟩,Ways.Mid.zero,?_,by simp,λ _ h=>by cases h⟩
 ·funext x
  rw [Ze3]
  show (if x=z then some 0 else none)=if z=x then some 0 else lk [] x
  by_cases c:x=z
  ·rw [if_pos c,if_pos c.symm]
  ·rw [if_neg c,if_neg (λ e=>c e.symm)];rfl
 ·funext x;rfl
 ·intro x a h;simp [lk] at h
structure IsRing (k:Nat) (rs:List Rnd) (ss:List Sea) (es:List Stp):Prop where
 n1:1≤es.length
 n27:es.length≤27
 mem:∀ e∈es,e∈Zdf (Zav k rs ss) rs ss
 ch:∃ pts:Nat->List Int,pts es.length=pts 0/\∀ i (h:i<es.length),Zc2 k rs es[i]=(pts i,pts (i+1))
 neg:(es.map (Zai rs ss)).sum<0
theorem Zye {k:Nat}{rs:List Rnd}{ss:List Sea} (hH:Hist k rs ss) {b:List Int} (h:(Zbr k rs ss).2.2=some b):∃ d,RingAt (Zbr k rs ss).2.1 b d/\IsRing k rs ss (ringL (Zbr k rs ss).2.1 (atL (Zbr k rs ss).2.1 b (Zbr k rs ss).2.1.length) d):=by
 have hcons:=Zet k rs ss
 have hpos:1≤(Zav k rs ss).length:=by rw [hcons];simp
 obtain ⟨n,hn⟩:∃ n,(Zav k rs ss).length=n+1:=⟨(Zav k rs ss).length-1,by omega⟩
 have h27:n+1≤27:=by
  have:=Zo2 (k:=k) (rs:=rs) (ss:=ss)
  have:=hH.rl
  have:=hH.sl
  omega
 have eF:Zbr k rs ss=runS (Zbv k rs ss) (n+1) ([(Zb0 k,0)],[],none):=by unfold Zbr;rw [hn]
 rw [eF] at h |-
 obtain ⟨g,G⟩:=Zw8 n 1 ([(Zb0 k,0)],[],none) _ (Zul _ _) h
 generalize runS (Zbv k rs ss) (n+1) ([(Zb0 k,0)],[],none)=S at *
 obtain ⟨W,L,fo⟩:=S
 have hlast:∀ x,g.last x=(lk L x).map arc3:=λ x=>by rw [G.sim.2]
 have arc_of:∀ a∈Zbv k rs ss,∃ e∈Zdf (Zav k rs ss) rs ss,a=((Zc2 k rs e).2,(Zc2 k rs e).1,Zai rs ss e,e):=by
  intro a ha
  unfold Zbv arcsF at ha
  obtain ⟨b,hb,rfl⟩:=mem_map.mp ha
  obtain ⟨e,he,rfl⟩:=mem_map.mp hb
  exact ⟨e,he,rfl⟩
 have hs:∀ a∈(Zbv k rs ss).map arc3,a.1∈Zav k rs ss:=λ a ha=>by
  obtain ⟨c,hc,rfl⟩:=mem_map.mp ha
  obtain ⟨e,he,rfl⟩:=arc_of c hc
  exact (Zig he).2
 have he:∀ a∈Zbv k rs ss,a.2.1∈Zav k rs ss:=λ a ha=>by
  obtain ⟨e,he,rfl⟩:=arc_of a ha
  exact (Zig he).1
 -- the arc behind a place ends there
 have hend:∀ x a,lk L x=some a->a.2.1=x/\a∈Zbv k rs ss:=λ x a hx=>by
  have h1:=(G.ok.arc x (arc3 a) (by rw [hlast,hx];rfl)).1
  exact ⟨h1,G.mem x a hx⟩
 have hbt:b∈Zav k rs ss:=by
  cases hl:lk L b with
  | none=>
   have:=G.ok.has b (by rw [hlast,hl];rfl)
   have:=G.r
   omega
  | some a=>
   obtain ⟨h1,h2⟩:=hend b a hl
   rw [<- h1];exact he a h2
 have hat:∀ v j,g.at v j=atL L v j:=by
  intro v j
  induction j with
  | zero=>rfl
  | succ j ih=>
   show g.nx (g.at v j)=match lk L (atL L v j) with|some a=>a.1|none=>atL L v j
   unfold Ways.G.nx
   rw [ih,hlast]
   cases lk L (atL L v j) <;> rfl
 have ever0:=Ways.back_ever G.ok hs hbt (by rw [G.r];omega)
 have ever:∀ j,∃ a,lk L (atL L b j)=some a:=λ j=>by
  have:=ever0 j
  rw [hat,hlast] at this
  cases hl:lk L (atL L b j) with
  | none=>rw [hl] at this;exact absurd rfl this
  | some a=>exact ⟨a,rfl⟩
 have hkeyt:∀ x∈L.map (·.1),x∈Zav k rs ss:=λ x hx=>by
  obtain ⟨p,hp,rfl⟩:=mem_map.mp hx
  have:(lk L p.1).isSome=true:=by rw [<- Zr9];exact any_eq_true.mpr ⟨p,hp,by simp⟩
  obtain ⟨a,ha⟩:=isSome_iff_exists.mp this
  obtain ⟨h1,h2⟩:=hend _ a ha
  rw [<- h1];exact he a h2
 have hLl:L.length≤n+1:=by
  have:=Ways.nodup_len (L.map (·.1)) (Zav k rs ss) G.nd hkeyt
  rw [lmp] at this
  omega
 have hk:∀ x,g.last x≠none->x∈L.map (·.1):=λ x hx=>by
  rw [hlast] at hx
  cases hl:lk L x with
  | none=>rw [hl] at hx;exact absurd rfl hx
  | some a=>
   have h1:(L.any λ p=>decide (p.1=x))=true:=by rw [Zr9,hl];rfl
   obtain ⟨p,hp,hpx⟩:=any_eq_true.mp h1
   exact mem_map.mpr ⟨p,hp,by simpa using hpx⟩
 obtain ⟨c,c1,c2,c3⟩:=Ways.in_ring ever0 hk
 obtain ⟨d,d1,d2,d3,d4⟩:=Ways.first_return c1 c3
 rw [lmp] at c2 d3 d4
 rw [hat b L.length,hat] at d3
 have R:RingAt L b d:=⟨ever,λ j=>by
   obtain ⟨a,ha⟩:=ever j
   obtain ⟨h1,h2⟩:=hend _ a ha
   have:=(hH.told _ (he a h2)).1
   rw [h1] at this
   exact Zg3 hH.k1 this,by omega,d1,by omega,d3,λ j h1 h2=>by
   have:=d4 j h1 h2
   rw [hat b L.length,hat] at this
   exact this⟩
 refine ⟨d,R,?_⟩
 show IsRing k rs ss (ringL L (atL L b L.length) d)
 generalize hf:atL L b L.length=f at *
 have everf:∀ j,∃ a,lk L (atL L f j)=some a:=λ j=>by rw [<- hf,Zmz];exact ever _
 have hback:atL L f d=f:=by have:=R.back;rw [hf] at this;exact this
 have hl:(ringL L f d).length=d:=by simp [ringL]
 have hget:∀ j (hj:j<(ringL L f d).length),∃ e∈Zdf (Zav k rs ss) rs ss,(ringL L f d)[j]=e/\lk L (atL L f j)=some ((Zc2 k rs e).2,(Zc2 k rs e).1,Zai rs ss e,e)/\Zc2 k rs e=(atL L f j,atL L f (j+1)):=by
  intro j hj
  obtain ⟨a,ha⟩:=everf j
  obtain ⟨h1,h2⟩:=hend _ a ha
  obtain ⟨e,he,rfl⟩:=arc_of a h2
  refine ⟨e,he,?_,ha,?_⟩
  ·simp [ringL,ha]
  ·have e1:atL L f (j+1)=(Zc2 k rs e).2:=by show (match lk L (atL L f j) with|some a=>a.1|none=>atL L f j)=_;rw [ha]
   rw [e1]
   exact Prod.ext h1 rfl
 refine ⟨by omega,by omega,λ e hm=>?_,⟨atL L f,by rw [hl];exact hback,λ i hi=>?_⟩,?_⟩
 ·obtain ⟨j,hj,rfl⟩:=getElem_of_mem hm
  obtain ⟨e,he,h1,_⟩:=hget j hj
  rw [h1];exact he
 ·obtain ⟨e,he,h1,h2,h3⟩:=hget i hi
  rw [h1,h3]
 ·have back:∀ m,m≤d->Ways.Back g f (atL L f m) (((ringL L f d).take m).map (Zai rs ss)).sum m:=by
   intro m
   induction m with
   | zero=>intro _;exact .nil
   | succ m ih=>
    intro hm
    have hm':m<(ringL L f d).length:=by omega
    obtain ⟨e,he,h1,h2,h3⟩:=hget m hm'
    have q:=Ways.Back.snoc (ih (by omega)) (a:=arc3 ((Zc2 k rs e).2,(Zc2 k rs e).1,Zai rs ss e,e)) (by rw [hlast,h2];rfl)
    have e1:atL L f (m+1)=(Zc2 k rs e).2:=by rw [h3]
    rw [e1]
    have e2:(((ringL L f d).take (m+1)).map (Zai rs ss)).sum=(((ringL L f d).take m).map (Zai rs ss)).sum+Zai rs ss e:=by
     rw [take_add_one,gEq hm',h1,map_append,sum_append];simp
    rw [e2]
    exact q
  have q:=back d (le_refl d)
  rw [hback] at q
  have e3:(ringL L f d).take d=ringL L f d:=take_of_length_le (by omega)
  rw [e3] at q
  exact Ways.Back.ring G.ok q (by omega)
end Mine
namespace Mine
open PySem PySem.Spec PyProof.Rows L2
open Ways (Walk better relax pass Sound Beats Calm)
def Zfg (told:List (List Int)) (z:List Int) (rs:List Rnd) (ss:List Sea):List ArcT:=
 (rs.flatMap λ r=>told.map λ b=>(r.2,b,dot r.1 b-dot r.1 r.2,(3,0,[])))++(ss.flatMap λ s=>[(z,s.1,s.2,(3,0,[])),(s.1,z,0-s.2,(3,0,[]))])++told.map λ b=>(b,z,0,(3,0,[]))
def edgeD (a:ArcT):PyData:=.tuple [tI a.1,tI a.2.1,.int a.2.2.1]
def runH (arcs:List ArcT):Nat->WL->Option WL
 | 0,_=>none
 | m+1,W=>match (Zcg arcs W []).2.2 with
  | none=>some W
  | some _=>runH arcs m (Zcg arcs W []).1
theorem Znk {W:WL}{L:LL3} (arcs:List ArcT):lk (Zcg arcs W L).1=pass (arcs.map arc3) (lk W):=Zhi arcs (W,L,none)
theorem Zuh {arcs:List ArcT}{T:List (List Int)}:∀ (m:Nat) (W W':WL),runH arcs m W=some W'->(∀ b∈T,∃ d,lk W b=some d)->(∀ a∈arcs,better (lk W') (arc3 a)=none)/\∀ b∈T,∃ d,lk W' b=some d:=by
 intro m
 induction m with
 | zero=>intro W W' h;cases h
 | succ m ih=>
  intro W W' h hT
  unfold runH at h
  cases hf:(Zcg arcs W []).2.2 with
  | none=>
   rw [hf] at h
   cases h
   exact ⟨(Zgm hf).2,hT⟩
  | some c=>
   rw [hf] at h
   refine ih _ _ h λ b hb=>?_
   obtain ⟨d,hd⟩:=hT b hb
   obtain ⟨e,he,_⟩:=Ways.fold_le (arcs.map arc3) hd
   rw [Znk]
   exact ⟨e,he⟩
def Sound0 (arcs:List (Ways.Arc (List Int))) (T:List (List Int)) (w:Ways.St (List Int)):Prop:=∀ v d,w v=some d->∃ u∈T,∃ n,Walk arcs u v d n
theorem Sound0.relax {arcs:List (Ways.Arc (List Int))}{T:List (List Int)}{w:Ways.St (List Int)}{a:Ways.Arc (List Int)} (h:Sound0 arcs T w) (ha:a∈arcs):Sound0 arcs T (Ways.relax w a):=by
 intro v d hv
 unfold Ways.relax at hv
 cases hb:better w a with
 | none=>rw [hb] at hv;exact h v d hv
 | some d'=>
  rw [hb] at hv
  simp only [Ways.put] at hv
  split at hv
  ·next e=>
   cases hv
   obtain ⟨x,h1,h2,_⟩:=Ways.better_some hb
   obtain ⟨u,hu,n,hw⟩:=h _ _ h1
   subst e
   rw [h2]
   exact ⟨u,hu,_,.snoc hw ha⟩
  ·exact h v d hv
theorem Sound0.fold {arcs:List (Ways.Arc (List Int))}{T:List (List Int)}:∀ (l:List (Ways.Arc (List Int))) {w:Ways.St (List Int)},(∀ a∈l,a∈arcs)->Sound0 arcs T w->Sound0 arcs T (l.foldl Ways.relax w)
 | [],w,_,h=>h
 | a::l,w,hl,h=>Sound0.fold l (λ b hb=>hl b (mem_cons_of_mem _ hb)) (h.relax (hl a (mem_cons_self ..)))
theorem settled0 {arcs:List (Ways.Arc (List Int))}{T:List (List Int)} (calm:Calm arcs) (hv:∀ a∈arcs,a.2.1∈T) {w:Ways.St (List Int)} (hS:Sound0 arcs T w) {i:Nat} (hB:∀ u∈T,Beats arcs u w i) (hi:T.length≤i+1):∀ a∈arcs,better w a=none:=by
 intro a ha
 cases hb:better w a with
 | none=>rfl
 | some d=>
  exfalso
  obtain ⟨x,h1,h2,h3⟩:=Ways.better_some hb
  obtain ⟨u,hu,n,hw⟩:=hS _ _ h1
  have step:=Walk.snoc hw (v:=a.2.1) (b:=a.2.2) ha
  obtain ⟨W',m,g1,g2,g3⟩:=Ways.reduce calm hv hu _ step
  obtain ⟨f,f1,f2⟩:=hB u hu _ _ m (by omega) g3
  have:=h3 f f1
  omega
theorem Zug {arcs:List ArcT}{T:List (List Int)} (calm:Calm (arcs.map arc3)) (hv:∀ a∈arcs.map arc3,a.2.1∈T):∀ (m i:Nat) (W:WL),T.length≤i+m->1≤m->Sound0 (arcs.map arc3) T (lk W)->(∀ u∈T,Beats (arcs.map arc3) u (lk W) i)->runH arcs m W≠none:=by
 intro m
 induction m with
 | zero=>intro i W _ h;omega
 | succ m ih=>
  intro i W him _ hs hb
  unfold runH
  cases hf:(Zcg arcs W []).2.2 with
  | none=>simp
  | some c=>
   simp only
   have hm:1≤m:=by
    refine Decidable.byContradiction λ hn=>?_
    have hset:=settled0 calm hv hs hb (by omega)
    have:=Zlq (arcs:=arcs) (W:=W) (L:=[]) λ a ha=>hset _ (mem_map_of_mem ha)
    rw [this] at hf;cases hf
   refine ih (i+1) _ (by omega) hm ?_ ?_
   ·rw [Znk];exact Sound0.fold _ (λ a ha=>ha) hs
   ·intro u hu;rw [Znk];exact (hb u hu).pass
def Zfa (T:List (List Int)):WL:=T.foldl (λ d b=>pt d b 0) []
theorem Zhd:∀ (T:List (List Int)) (W:WL) (b:List Int),lk (T.foldl (λ d b=>pt d b 0) W) b=if b∈T then some 0 else lk W b
 | [],W,b=>by simp
 | t::T,W,b=>by
  rw [foldl_cons,Zhd T _ b,Zvi]
  by_cases c:b∈T
  ·rw [if_pos c,if_pos (mem_cons_of_mem _ c)]
  ·rw [if_neg c]
   by_cases e:b=t
   ·rw [if_pos e,if_pos (by rw [e];exact mem_cons_self ..)]
   ·rw [if_neg e,if_neg (by simp [e,c])]
theorem Zf9 {told:List (List Int)}{z:List Int}{rs:List Rnd}{ss:List Sea}{a:ArcT}:a∈Zfg told z rs ss ↔ (∃ r∈rs,∃ b∈told,a=(r.2,b,dot r.1 b-dot r.1 r.2,(3,0,[]))) \/ (∃ s∈ss,a=(z,s.1,s.2,(3,0,[])) \/ a=(s.1,z,0-s.2,(3,0,[]))) \/ ∃ b∈told,a=(b,z,0,(3,0,[])):=by
 unfold Zfg
 simp only [mem_append,mem_map,mem_flatMap,mem_cons,not_mem_nil,or_false]
 constructor
 ·rintro ((⟨r,hr,b,hb,rfl⟩|⟨s,hs,h⟩)|⟨b,hb,rfl⟩)
  ·exact .inl ⟨r,hr,b,hb,rfl⟩
  ·exact .inr (.inl ⟨s,hs,h⟩)
  ·exact .inr (.inr ⟨b,hb,rfl⟩)
 ·rintro (⟨r,hr,b,hb,rfl⟩|⟨s,hs,h⟩|⟨b,hb,rfl⟩)
  ·exact .inl (.inl ⟨r,hr,b,hb,rfl⟩)
  ·exact .inl (.inr ⟨s,hs,h⟩)
  ·exact .inr ⟨b,hb,rfl⟩
theorem Zw9 {arcs:List ArcT}{z:List Int}:∀ (m:Nat) (S:S3),1≤m->(runS arcs m S).2.2=none->lk S.1 z≠none->(∀ a∈arcs,better (lk (runS arcs m S).1) (arc3 a)=none)/\lk (runS arcs m S).1 z≠none:=by
 intro m
 induction m with
 | zero=>intro S h;omega
 | succ m ih=>
  intro S _ hn hz
  have er:runS arcs (m+1) S=match Zcg arcs S.1 S.2.1 with
   | (W,L,none)=>(W,L,none)
   | (W,L,some b)=>runS arcs m (W,L,some b):=by rw [runS] <;> rfl
  rw [er] at hn |-
  cases hS:Zcg arcs S.1 S.2.1 with
  | mk W R=>
   obtain ⟨L,f⟩:=R
   rw [hS] at hn
   cases f with
   | none=>
    obtain ⟨e,h2⟩:=Zgm (arcs:=arcs) (W:=S.1) (L:=S.2.1) (by rw [hS])
    rw [hS] at e
    have eW:W=S.1:=congrArg Prod.fst e
    show (∀ a∈arcs,better (lk W) (arc3 a)=none)/\lk W z≠none
    rw [eW]
    exact ⟨h2,hz⟩
   | some c=>
    have hz':lk W z≠none:=by
     have hlk:lk (Zcg arcs S.1 S.2.1).1=pass (arcs.map arc3) (lk S.1):=Zhi _ (S.1,S.2.1,none)
     rw [hS] at hlk
     cases hq:lk S.1 z with
     | none=>exact absurd hq hz
     | some d=>
      obtain ⟨e,he,_⟩:=Ways.fold_le (arcs.map arc3) hq
      have:lk W z=some e:=by rw [show lk W=pass (arcs.map arc3) (lk S.1) from hlk];exact he
      rw [this];simp
    cases m with
    | zero=>cases hn
    | succ m=>exact ih (W,L,some c) (by omega) hn hz'
theorem dichotomy {k:Nat}{rs:List Rnd}{ss:List Sea} (hH:Hist k rs ss) :
  (∃ W,runH (Zfg (Zav k rs ss) (Zb0 k) rs ss) ((Zav k rs ss).length+1) (Zfa (Zav k rs ss))=some W/\Right k rs ss) \/
  (runH (Zfg (Zav k rs ss) (Zb0 k) rs ss) ((Zav k rs ss).length+1) (Zfa (Zav k rs ss))=none/\∃ b d,(Zbr k rs ss).2.2=some b/\RingAt (Zbr k rs ss).2.1 b d/\IsRing k rs ss (ringL (Zbr k rs ss).2.1 (atL (Zbr k rs ss).2.1 b (Zbr k rs ss).2.1.length) d)):=by
 have hst:∀ b∈Zav k rs ss,∃ d,lk (Zfa (Zav k rs ss)) b=some d:=λ b hb=>⟨0,by unfold Zfa;rw [Zhd,if_pos hb]⟩
 have hz:=Zeu k rs ss
 have hseal:∀ s∈ss,s.1∈Zav k rs ss:=λ s hs=>Zbz.mpr (.inr (.inr ⟨s,hs,rfl⟩))
 have hrow:∀ r∈rs,r.2∈Zav k rs ss:=λ r hr=>Zbz.mpr (.inr (.inl ⟨r,hr,rfl⟩))
 cases hh:runH (Zfg (Zav k rs ss) (Zb0 k) rs ss) ((Zav k rs ss).length+1) (Zfa (Zav k rs ss)) with
 | some W=>
  left
  refine ⟨W,rfl,?_⟩
  obtain ⟨h1,h2⟩:=Zuh _ _ _ hh hst
  have key:∀ a∈Zfg (Zav k rs ss) (Zb0 k) rs ss,∀ d e,lk W a.1=some d->lk W a.2.1=some e->e≤d+a.2.2.1:=λ a ha d e hd he=>by
   obtain ⟨f,f1,f2⟩:=Ways.better_none (h1 a ha) hd
   have:some f=some e:=by rw [<- f1,<- he];rfl
   cases this
   exact f2
  have pd:∀ b d,lk W b=some d->(lk W b).getD 0=d:=λ b d h=>by rw [h];rfl
  obtain ⟨z0,hz0⟩:=h2 _ hz
  refine Zfx hH (p:=λ b=>(lk W b).getD 0-(lk W (Zb0 k)).getD 0) ⟨by simp,λ b hb=>?_,λ s hs=>?_,λ r hr b hb=>?_⟩
  ·obtain ⟨d,hd⟩:=h2 b hb
   have:=key _ (Zf9.mpr (.inr (.inr ⟨b,hb,rfl⟩))) d z0 hd hz0
   simp only [pd _ _ hd,pd _ _ hz0] at this |-
   omega
  ·obtain ⟨d,hd⟩:=h2 s.1 (hseal s hs)
   have q1:=key _ (Zf9.mpr (.inr (.inl ⟨s,hs,.inl rfl⟩))) z0 d hz0 hd
   have q2:=key _ (Zf9.mpr (.inr (.inl ⟨s,hs,.inr rfl⟩))) d z0 hd hz0
   simp only [pd _ _ hd,pd _ _ hz0] at q1 q2 |-
   omega
  ·obtain ⟨d,hd⟩:=h2 b hb
   obtain ⟨e,he⟩:=h2 r.2 (hrow r hr)
   have q1:=key _ (Zf9.mpr (.inl ⟨r,hr,b,hb,rfl⟩)) e d he hd
   simp only [pd _ _ hd,pd _ _ he] at q1 |-
   omega
 | none=>
  right
  refine ⟨rfl,?_⟩
  cases hf:(Zbr k rs ss).2.2 with
  | some b=>
   obtain ⟨d,h1,h2⟩:=Zye hH hf
   exact ⟨b,d,rfl,h1,h2⟩
  | none=>
   exfalso
   have hpos:1≤(Zav k rs ss).length:=by rw [Zet];simp
   obtain ⟨h1,h2⟩:=Zw9 (z:=Zb0 k) (Zav k rs ss).length ([(Zb0 k,0)],[],none) hpos hf (by rw [Ze3,if_pos rfl];simp)
   have eF:runS (Zbv k rs ss) (Zav k rs ss).length ([(Zb0 k,0)],[],none)=Zbr k rs ss:=rfl
   rw [eF] at h1 h2
   cases hz0:lk (Zbr k rs ss).1 (Zb0 k) with
   | none=>exact h2 hz0
   | some z0=>
   have right:∀ e∈Zdf (Zav k rs ss) rs ss,∀ d,lk (Zbr k rs ss).1 (Zc2 k rs e).2=some d->∃ c,lk (Zbr k rs ss).1 (Zc2 k rs e).1=some c/\c≤d+Zai rs ss e:=λ e he d hd=>
    Ways.right_of (arcs:=(Zbv k rs ss).map arc3) (λ a ha=>by obtain ⟨b,hb,rfl⟩:=mem_map.mp ha;exact h1 b hb) (a:=arc3 (turnA (arcF k rs ss e))) (mem_map_of_mem (Zmv he)) hd
   have all:∀ b∈Zav k rs ss,∃ d,lk (Zbr k rs ss).1 b=some d:=λ b hb=>by
    obtain ⟨c,hc,_⟩:=right (3,0,b) (Zbn.mpr (.inl ⟨b,hb,rfl⟩)) z0 hz0
    exact ⟨c,hc⟩
   have pd:∀ b d,lk (Zbr k rs ss).1 b=some d->(lk (Zbr k rs ss).1 b).getD 0=d:=λ b d h=>by rw [h];rfl
   have calm:Calm ((Zfg (Zav k rs ss) (Zb0 k) rs ss).map arc3):=by
    refine Ways.calm_of (λ b=>-((lk (Zbr k rs ss).1 b).getD 0)) λ a ha=>?_
    obtain ⟨c,hc,rfl⟩:=mem_map.mp ha
    rcases Zf9.mp hc with ⟨r,hr,b,hb,rfl⟩|⟨s,hs,h⟩|⟨b,hb,rfl⟩
    ·obtain ⟨i,hi,rfl⟩:=getElem_of_mem hr
     obtain ⟨d,hd⟩:=all b hb
     have e1:(Zc2 k rs (0,i,b))=(rs[i].2,b):=by simp [Zc2,gEq hi]
     have e2:Zai rs ss (0,i,b)=dot rs[i].1 b-dot rs[i].1 rs[i].2:=by simp [Zai,gEq hi]
     obtain ⟨c,hc,hle⟩:=right (0,i,b) (Zbn.mpr (.inr (.inr ⟨i,hi,b,hb,rfl⟩))) d (by rw [e1];exact hd)
     rw [e1] at hc
     rw [e2] at hle
     show -((lk (Zbr k rs ss).1 b).getD 0)≤-((lk (Zbr k rs ss).1 rs[i].2).getD 0)+(dot rs[i].1 b-dot rs[i].1 rs[i].2)
     rw [pd _ _ hd,pd _ _ hc]
     omega
    ·obtain ⟨i,hi,rfl⟩:=getElem_of_mem hs
     obtain ⟨d,hd⟩:=all _ (hseal _ hs)
     have q1:Zc2 k rs (1,i,ss[i].1)=(Zb0 k,ss[i].1):=by simp [Zc2]
     have q2:Zc2 k rs (2,i,ss[i].1)=(ss[i].1,Zb0 k):=by simp [Zc2]
     have e1:Zai rs ss (1,i,ss[i].1)=ss[i].2:=by simp [Zai,gEq hi]
     have e2:Zai rs ss (2,i,ss[i].1) = -ss[i].2:=by simp [Zai,gEq hi]
     rcases h with rfl|rfl
     ·obtain ⟨c,hc,hle⟩:=right (1,i,ss[i].1) (Zbn.mpr (.inr (.inl ⟨i,hi,.inl rfl⟩))) d (by rw [q1];exact hd)
      rw [q1] at hc
      rw [e1] at hle
      show -((lk (Zbr k rs ss).1 ss[i].1).getD 0)≤-((lk (Zbr k rs ss).1 (Zb0 k)).getD 0)+ss[i].2
      rw [pd _ _ hd,pd _ _ hc]
      omega
     ·obtain ⟨c,hc,hle⟩:=right (2,i,ss[i].1) (Zbn.mpr (.inr (.inl ⟨i,hi,.inr rfl⟩))) z0 (by rw [q2];exact hz0)
      rw [q2] at hc
      rw [e2] at hle
      show -((lk (Zbr k rs ss).1 (Zb0 k)).getD 0)≤-((lk (Zbr k rs ss).1 ss[i].1).getD 0)+(0-ss[i].2)
      rw [pd _ _ hz0,pd _ _ hc]
      omega
    ·obtain ⟨c,hc,hle⟩:=right (3,0,b) (Zbn.mpr (.inl ⟨b,hb,rfl⟩)) z0 hz0
     have hc':lk (Zbr k rs ss).1 b=some c:=hc
     have hle':c≤z0+0:=by simpa [Zai] using hle
     show -((lk (Zbr k rs ss).1 (Zb0 k)).getD 0)≤-((lk (Zbr k rs ss).1 b).getD 0)+0
     rw [pd _ _ hz0,pd _ _ hc']
     omega
   have hv:∀ a∈(Zfg (Zav k rs ss) (Zb0 k) rs ss).map arc3,a.2.1∈Zav k rs ss:=λ a ha=>by
    obtain ⟨c,hc,rfl⟩:=mem_map.mp ha
    rcases Zf9.mp hc with ⟨r,hr,b,hb,rfl⟩|⟨s,hs,rfl|rfl⟩|⟨b,hb,rfl⟩
    ·exact hb
    ·exact hseal s hs
    ·exact hz
    ·exact hz
   refine Zug calm hv ((Zav k rs ss).length+1) 0 _ (by omega) (by omega) ?_ ?_ hh
   ·intro v d h
    unfold Zfa at h
    rw [Zhd] at h
    split at h
    ·next hv=>cases h;exact ⟨v,hv,0,.nil⟩
    ·simp [lk] at h
   ·intro u hu v W n hn hw
    have:n=0:=by omega
    subst this
    cases hw
    exact ⟨0,by unfold Zfa;rw [Zhd,if_pos hu],Int.le_refl 0⟩
end Mine
namespace Mine
open PySem PySem.Spec PyProof.Rows L2
section
variable {P:Program}{w:World}{K:PySem.W.Frag}{mg:Str->Option Value}{base:Heap}
theorem Zfc {α β:Type}{xs:List α}{ys:List β} (hl:ys.length=xs.length) {P:α->β->Prop} (h:∀ p∈xs.zip ys,P p.1 p.2):∀ y∈ys,∃ x∈xs,P x y:=λ y hy=>by
 obtain ⟨j,hj,rfl⟩:=getElem_of_mem hy
 exact ⟨xs[j]'(by omega),getElem_mem _,h (xs[j]'(by omega),ys[j]) (mem_iff_getElem.mpr ⟨j,by rw [length_zip];omega,by simp⟩)⟩
def Amt (A:List Int):Prop:=1≤A.length/\A.length≤3/\∀ x∈A,1≤x/\x≤4
def Win (A b:List Int):Prop:=b.length=A.length/\∀ p∈A.zip b,0≤p.2/\p.2≤p.1
theorem Win.nil:Win [] []:=⟨rfl,by simp⟩
theorem Win.cons {a x:Int}{A b:List Int}:Win (a::A) (x::b) ↔ (0≤x/\x≤a)/\Win A b:=by
 unfold Win
 simp only [length_cons,zip_cons_cons,mem_cons]
 constructor
 ·rintro ⟨h1,h2⟩
  exact ⟨h2 (a,x) (.inl rfl),by omega,λ p hp=>h2 p (.inr hp)⟩
 ·rintro ⟨h1,h2,h3⟩
  refine ⟨by omega,?_⟩
  rintro p (rfl|hp)
  ·exact h1
  ·exact h3 p hp
theorem Zsr {A b:List Int} (hl:b.length=A.length) {x:Int} (hx:x∈b):∃ a,(a,x)∈A.zip b:=by
 obtain ⟨i,hi,rfl⟩:=getElem_of_mem hx
 refine ⟨A[i]'(by omega),?_⟩
 rw [mem_iff_getElem]
 exact ⟨i,by rw [length_zip];omega,by simp⟩
theorem Win.mem {A b:List Int} (h:Win A b) (hA:Amt A):∀ x∈b,0≤x/\x≤4:=λ x hx=>by
 obtain ⟨a,ha⟩:=Zsr h.1 hx
 have h1:=h.2 _ ha
 have h2:=hA.2.2 a (of_mem_zip ha).1
 simp only at h1
 omega
theorem Win.sm {A b:List Int} (h:Win A b) (hA:Amt A):Sm b:=λ x hx=>by
 have:=h.mem hA x hx
 have h2:x.natAbs≤4:=by omega
 exact lt_of_le_of_lt h2 (by decide)
theorem Zo5 {A:List Int} (hA:Amt A):Win A (Zb0 A.length):=by
 refine ⟨by simp [Zb0],λ p hp=>?_⟩
 obtain ⟨h1,h2⟩:=of_mem_zip hp
 have h3:=hA.2.2 _ h1
 have h4:=(mem_replicate.mp h2).2
 omega
theorem Zwl {A:List Int} (hA:Amt A):Win A A:=by
 refine ⟨rfl,λ p hp=>?_⟩
 obtain ⟨i,hi,e⟩:=getElem_of_mem hp
 rw [List.getElem_zip] at e
 subst e
 have h3:=hA.2.2 _ (getElem_mem (l:=A) (by rw [length_zip] at hi;omega:i<A.length))
 simp only
 omega
def Zh2:DSp:=pureS λ vs r=>∃ n,vs=[.d (.int n)]/\r = .bool true
theorem Zgl:MoS Zh2:=Zcd
theorem Znh:∀ vs w k,Zh2 vs w k->vs.length=1:=Zce (by rintro vs r ⟨n,rfl,_⟩;rfl)
theorem Zjr (T:Txt K mg):Dn P w K mg base 1 "_law_whole" sLawWhole ["_law_thing"] (spD K Zh2):=by
 refine Dn.data (k:=0) T.f_law_whole Zpf Znh (λ a cdv A outer s H E hr=>⟨_,_,IPSs.get (Za4 (Zaj (Zfh (Zad Zff rfl T.z_isinstance boot_isinstance (Za0 (i_pv 0) (Za0 (Zem (v:=.ty "int") rfl T.z_int (by decide +kernel) rfl) Za3))) (Zgf (Zv8 (Zad Zff rfl T.z_isinstance boot_isinstance (Za0 (i_pv 0) (Za0 (Zem (v:=.ty "bool") rfl T.z_bool (by decide +kernel) rfl) Za3))))))) Zap),(Zab (Zb6 (Zh9 (Zbo Zju (Za1 (Za2 0) (Za1 Zpd Za5))) (Zyc (Zbo Zju (Za1 (Za2 0) (Za1 Zpd Za5)))))) Zbc),λ as o q h=>?_⟩)
 obtain ⟨r,⟨n,rfl,rfl⟩,hq⟩:=h
 simp! only [tyN]
 exact ⟨true,λ _=>rfl,⟨false,λ _=>rfl,_,OW.le.refl _,hq⟩⟩
def Zfo:DSp:=urnS 5 (λ as=>as=[]) (λ _ r=>∃ A,r=tI A/\Amt A)
theorem Zlb:MoS Zfo:=Ze2
theorem Zl5:∀ vs w k,Zfo vs w k->vs.length=1:=Zex (n:=0) (by rintro vs rfl;rfl)
theorem Zey {c:Nat}{P:List Val->Prop}{R:List Val->PyData->Prop}{vs:List Val}{w:OW}{k:Val->OW->Prop} (h:urnS c P R vs w k):∃ u as m,vs = .own u::as/\w=w.put u (.urn m)/\m+c≤1000000/\P as/\∀ r m',R as r->m'≤m+c->∃ w',w'.le (w.put u (.urn m'))/\k (.d r) w':=by
 unfold urnS at h
 split at h
 ·next u as=>
  obtain ⟨m,hm,⟨h1,h2⟩,h3⟩:=h
  exact ⟨u,as,m,rfl,(Zzw hm).symm,h1,h2,λ r m' hr hm'=>⟨_,OW.le.urn' (OW.le.refl w) hm',h3 r hr⟩⟩
 ·exact h.elim
theorem Zm2 (T:Txt K mg):Dn P w K mg base 2 "_law_amounts" sLawAmounts ["_law_urn_here"] (spD K Zfo):=by
 have D_law_draw:=Zcw (P:=P) (w:=w) (base:=base) T
 refine Dn.data (k:=1) T.f_law_amounts Zmd Zl5 (λ a cdv A outer s H E hr=>⟨_,_,IPSs.get (Za4 (Zaj (Zb9 Zb5 rfl T.z_tuple (by decide +kernel) (Za0 (by refine' Zb2 (Nc:=["_law_k", "_law_urn_here"]) (cap:=[none,some 0]) rfl ?i ?k ?g ?t ?e;(case k=>kernel_rfl);(case i=>exact (Zbt rfl T.z_range (Za0 (Zam Zct Za6 (Zac D_law_draw Zar (hr.mono (by decide)) (Za0 (i_pv 0) (Za0 Za6 Za3)))) Za3)));(case g=>exact (λ _ _ _ _ _=>(Zc3 0 (by show List.Nodup (["_law_k", "_law_urn_here"]:List Str);decide +kernel))));(case t=>exact (λ _ _ _ _ _=>Zb1));(case e=>exact (λ _ _ _ _ _=>(Zam Zct Za6 (Zac D_law_draw Zar (hr.mono (by decide)) (Za0 (Ze0 1) (Za0 Za6 Za3)) (hg:=Zcz)))))) Za3))) Zap),(Zab (Zb6 (Zbo Zcm (Za1 (Zbl false (Zdk (Za1 (Zah Zdx Zae (Zak Zao (Za1 (Za2 0) (Za1 Zae Za5)))) Za5)) (Za7 0) Zcc (Zbm (Zah Zdx Zae (Zak Zao (Za1 (Za2 1) (Za1 Zae Za5)))))) Za5))) Zbc),λ as o q h=>?_⟩)
 obtain ⟨u,as,m,rfl,hw,hm,rfl,hq⟩:=Zey h
 rw [hw]
 simp! only [dComp]
 refine Zc1 (by omega) (by decide) (by decide) λ d h0 h3=>?_
 simp!
 simp!
 refine ⟨⟨by omega,by omega⟩,?_⟩
 unfold rngD
 have hn:(1+d).toNat≤3/\1≤(1+d).toNat:=by omega
 refine Zgj (List.range (1+d).toNat) (λ (i:Nat)=>.int (0+(i:Int))) (λ x:Int=>.int (1+x)) (λ _ x=>0≤x/\x<4) 1 rfl (λ _=>trivial) (Zat (by rw [length_range];omega)) ?_ ?_
 ·intro i hi m1 hm1 Q hQ
  simp!
  rw [length_range] at hm1
  refine Zc1 (by omega) (by decide) (by decide) λ x hx0 hx4=>?_
  simp!
  exact hQ x _ ⟨hx0,hx4⟩ (le_refl _)
 ·intro ys m1 hl hP hm1
  simp!
  have hl0:=hl
  rw [length_range] at hl hm1
  refine hq (.tuple _) m1 ⟨ys.map λ x=>1+x,by unfold tI;rw [map_map];rfl,by rw [lmp];omega,by rw [lmp];omega,?_⟩ (by omega)
  intro x hx
  obtain ⟨y,hy,rfl⟩:=mem_map.mp hx
  obtain ⟨_,_,this⟩:=Zfc (P:=λ _ x=>0≤x/\x<4) hl0 hP y hy
  omega
def Pri (k:Nat) (P:List Int):Prop:=P.length=k/\(∀ x∈P,x.natAbs≤2 ^ 20)/\∀ x∈P,0≤x
theorem Pri.sm {k:Nat}{P:List Int} (h:Pri k P):Sm P:=λ x hx=>lt_of_le_of_lt (h.2.1 x hx) (by decide)
def Zgc:DSp:=urnS 4 (λ as=>∃ k:Nat,as=[.d (.int (k:Nat))]/\k≤3) (λ as r=>∃ k:Nat,as=[.d (.int (k:Nat))]/\∃ ps,r=tI ps/\Pri k ps)
theorem Zhr:MoS Zgc:=Ze2
theorem Zm8:∀ vs w k,Zgc vs w k->vs.length=2:=Zex (n:=1) (by rintro vs ⟨k,rfl,_⟩;rfl)
theorem Zie (T:Txt K mg):Dn P w K mg base 2 "_law_prices" sLawPrices ["_law_urn_here", "_law_several"] (spD K Zgc):=by
 have D_law_draw:=Zcw (P:=P) (w:=w) (base:=base) T
 refine Dn.data (k:=1) T.f_law_prices Zit Zm8 (λ a cdv A outer s H E hr=>⟨_,_,IPSs.get (Za4 (Zag (i:=2) Zit.nd rfl (Or.inr rfl) (Zan Zco (Zbs (Za0 Za6 (Za0 Za6 (Za0 Za6 (Za0 Za6 Za3))))) (Zac D_law_draw Zar (hr.mono (by decide)) (Za0 (i_pv 0) (Za0 Za6 Za3))) (λ _ _=>rfl)))
  (Za9 (Zaj (Zb9 Zb5 rfl T.z_tuple (by decide +kernel) (Za0 (by refine' Zb2 (Nc:=["_law_k", "_law_urn_here", "_law_wide"]) (cap:=[none,some 0,some 2]) rfl ?i ?k ?g ?t ?e;(case k=>kernel_rfl);(case i=>exact (Zbt rfl T.z_range (Za0 (i_pv 1) Za3)));(case g=>exact (λ _ _ _ _ _=>(Zc3 0 (by show List.Nodup (["_law_k", "_law_urn_here", "_law_wide"]:List Str);decide +kernel))));(case t=>exact (λ _ _ _ _ _=>Zb1));(case e=>exact (λ _ _ _ _ _=>(Zac D_law_draw Zar (hr.mono (by decide)) (Za0 (Ze0 1) (Za0 (Ze0 2) Za3)) (hg:=Zcz))))) Za3))))),(Zab (Zas (Zah Zdw (Zcx false (Za1 Zae (Za1 Zae (Za1 Zae (Za1 Zae Za5))))) (Zak Zao (Za1 (Za2 0) (Za1 Zae Za5)))) (Za7 2))
  (Zb6 (Zbo Zcm (Za1 (Zbl false (Zdk (Za1 (Za2 1) Za5)) (Za7 0) Zcc (Zbm (Zak Zao (Za1 (Za2 1) (Za1 (Za2 2) Za5))))) Za5)))),λ as o q h=>?_⟩)
 obtain ⟨u,as,m,rfl,hw,hm,⟨n,rfl,hn⟩,hq⟩:=Zey h
 rw [hw]
 simp! only [dComp]
 refine ⟨by decide,?_⟩
 refine Zc1 (by omega) (by decide) (by decide) λ d h0 h3=>?_
 simp!
 have key:∃ wd:Int,atI [PyData.int 3,PyData.int 12,PyData.int 100,PyData.int 1000001] d=some (.int wd)/\0<wd/\wd≤1000001:=by
  have:d=0 \/ d=1 \/ d=2 \/ d=3:=by omega
  rcases this with rfl|rfl|rfl|rfl
  ·exact ⟨3,rfl,by decide,by decide⟩
  ·exact ⟨12,rfl,by decide,by decide⟩
  ·exact ⟨100,rfl,by decide,by decide⟩
  ·exact ⟨1000001,rfl,by decide,by decide⟩
 obtain ⟨wd,ewd,wd0,wd1⟩:=key
 refine ⟨_,ewd,?_⟩
 refine ⟨⟨by omega,by omega⟩,?_⟩
 unfold rngD
 refine Zgj (List.range (n:Int).toNat) (λ (i:Nat)=>.int (0+(i:Int))) (λ x:Int=>.int x) (λ _ x=>0≤x/\x<wd) 1 rfl (λ _=>trivial) (Zat (by rw [length_range];omega)) ?_ ?_
 ·intro i hi m1 hm1 Q hQ
  simp!
  rw [length_range] at hm1
  refine Zc1 (by omega) wd0 (by omega) λ x hx0 hx4=>?_
  simp!
  exact hQ x _ ⟨hx0,hx4⟩ (le_refl _)
 ·intro ys m1 hl hP hm1
  simp!
  have hl0:=hl
  rw [length_range] at hl hm1
  refine hq (.tuple _) m1 ⟨n,rfl,ys,rfl,by omega,λ x hx=>?_,λ x hx=>?_⟩ (by omega)
  all_goals
   obtain ⟨_,_,this⟩:=Zfc (P:=λ _ x=>0≤x/\x<wd) hl0 hP x hx
   omega
def Zhu:DSp:=pureS λ vs r=>∃ ns ms,vs=[.d (tI ns),.d (tI ms)]/\Sm ns/\Sm ms/\ns.length≤1000/\r = .int (dot ns ms)
theorem Zdc:MoS Zhu:=Zcd
theorem Zp3:∀ vs w k,Zhu vs w k->vs.length=2:=Zce (by rintro vs r ⟨ns,ms,rfl,_⟩;rfl)
theorem Zf4 (T:Txt K mg):Dn P w K mg base 1 "_law_cost" sLawCost ["_law_prices_here", "_law_bundle_here"] (spD K Zhu):=by
 refine Dn.data (k:=0) T.f_law_cost Zql Zp3 (λ a cdv A outer s H E hr=>⟨_,_,IPSs.get (Za4 (Zaj (Zad (Zfz rfl) rfl T.z_sum boot_sum (Za0 (by refine' Zb2 (Nc:=["_law_price", "_law_pieces"]) (cap:=[none,none]) rfl ?i ?k ?g ?t ?e;(case k=>kernel_rfl);(case i=>exact (Zka true true rfl T.z_zip (Za0 (i_pv 0) (Za0 (i_pv 1) Za3))));(case g=>exact (λ _ _ _ _ _=>(Zc4 (K:=K) rfl (n:=2) rfl (Za8 (Zc3 0 (by show List.Nodup (["_law_price", "_law_pieces"]:List Str);decide +kernel)) (Za8 (Zc3 1 (by show List.Nodup (["_law_price", "_law_pieces"]:List Str);decide +kernel)) Zau)))));(case t=>exact (λ _ _ _ _ _=>Zb1));(case e=>exact (λ _ _ _ _ _=>(Zam Ze7 (Zc7 0) (Zc7 1))))) Za3))) Zap),(Zab (Zb6 (Zbo Zlj (Za1 (Zbl false (Zrm (Za1 (Za2 0) (Za1 (Za2 1) Za5))) (Zcb (Zaa (Za7 0) (Zaa (Za7 1) Zbp))) Zcc (Zbm (Zah ro_I (Za2 0) (Za2 1)))) Za5))) Zbc),λ as o q h=>?_⟩)
 obtain ⟨r,⟨ns,ms,rfl,h1,h2,hl,rfl⟩,hq⟩:=h
 simp! only [dComp,tI,Zkk]
 refine Zc5 (ns.zip ms) (λ p=>.tuple [.int p.1,.int p.2]) (λ p=>.int (p.1*p.2)) [] rfl trivial (Zat (by simp;omega)) ?_ ?_
 ·rintro ⟨x,y⟩ hx Q hQ
  simp!
  obtain ⟨hx1,hx2⟩:=of_mem_zip hx
  exact ⟨mulS (h1 x hx1) (h2 y hx2),hQ⟩
 ·simp! only [Zhn]
  exact ⟨_,OW.le.refl _,hq⟩
def Zgb:DSp:=urnS 5 (λ as=>∃ A,as=[.d (tI A)]/\Amt A) (λ as r=>∃ A,as=[.d (tI A)]/\∃ b,r=tI b/\Win A b)
theorem Zhq:MoS Zgb:=Ze2
theorem Zm7:∀ vs w k,Zgb vs w k->vs.length=2:=Zex (n:=1) (by rintro vs ⟨k,rfl,_⟩;rfl)
theorem Zic (T:Txt K mg):Dn P w K mg base 2 "_law_bundle" sLawBundle ["_law_urn_here", "_law_amounts_here"] (spD K Zgb):=by
 have D_law_draw:=Zcw (P:=P) (w:=w) (base:=base) T
 refine Dn.data (k:=1) T.f_law_bundle Zf2 Zm7 (λ a cdv A outer s H E hr=>⟨_,_,IPSs.get (Za4 (Zag (i:=2) Zf2.nd rfl (Or.inl rfl) (Zac D_law_draw Zar (hr.mono (by decide)) (Za0 (i_pv 0) (Za0 Za6 Za3))))
  (Za4 (Zag (i:=3) Zf2.nd rfl (Or.inr rfl) (Zac D_law_draw Zar (hr.mono (by decide)) (Za0 (i_pv 0) (Za0 (Zad Zaz rfl T.z_len boot_len (Za0 (i_pv 1) Za3)) Za3))))
  (Za4 (Zbg (Zal Zea (i_pv 2) Za6 (nomark _)) (Za9 (Zaj (Zb9 Zb5 rfl T.z_tuple (by decide +kernel) (Za0 (by refine' Zb2 (Nc:=["_law_one"]) (cap:=[none]) rfl ?i ?k ?g ?t ?e;(case k=>kernel_rfl);(case i=>exact (Zbu (i_pv 1)));(case g=>exact (λ _ _ _ _ _=>(Zc3 0 (by show List.Nodup (["_law_one"]:List Str);decide +kernel))));(case t=>exact (λ _ _ _ _ _=>Zb1));(case e=>exact (λ _ _ _ _ _=>Za6))) Za3)))) Zap)
  (Za4 (Zbg (Zal Zea (i_pv 2) Za6 (nomark _)) (Za9 (Zaj (i_pv 1))) Zap)
  (Za4 (Zag (i:=4) Zf2.nd rfl (Or.inr rfl) (by refine' Zb2 (Nc:=["_law_one", "_law_urn_here"]) (cap:=[none,some 0]) rfl ?i ?k ?g ?t ?e;(case k=>kernel_rfl);(case i=>exact (Zbu (i_pv 1)));(case g=>exact (λ _ _ _ _ _=>(Zc3 0 (by show List.Nodup (["_law_one", "_law_urn_here"]:List Str);decide +kernel))));(case t=>exact (λ _ _ _ _ _=>Zb1));(case e=>exact (λ _ _ _ _ _=>(Zac D_law_draw Zar (hr.mono (by decide)) (Za0 (Ze0 1) (Za0 (Zam Zct (Zc7 0) Za6) Za3)) (hg:=Zcz))))))
  (Za4 (Zbg (Zal Zea (i_pv 2) Za6 (nomark _)) (Za9 (Zaj (Zb9 Zb5 rfl T.z_tuple (by decide +kernel) (Za0 (by refine' Zb2 (Nc:=["_law_k", "_law_found", "_law_spot"]) (cap:=[none,some 4,some 3]) rfl ?i ?k ?g ?t ?e;(case k=>kernel_rfl);(case i=>exact (Zbt rfl T.z_range (Za0 (Zad Zaz rfl T.z_len boot_len (Za0 (i_pv 1) Za3)) Za3)));(case g=>exact (λ _ _ _ _ _=>(Zc3 0 (by show List.Nodup (["_law_k", "_law_found", "_law_spot"]:List Str);decide +kernel))));(case t=>exact (λ _ _ _ _ _=>Zb1));(case e=>exact (λ _ _ _ _ _=>(Zam Ze7 (Zan (Zkb (K:=K) rfl) (Ze0 1) (Zc7 0) (λ _ _=>rfl)) (Zb9 Zkn Zcz T.z_int (by decide +kernel) (Za0 (Zdq Zea (Zc7 0) (Ze0 2) (nomark _)) Za3)))))) Za3)))) Zap)
  (Za9 (Zaj (Zb9 Zb5 rfl T.z_tuple (by decide +kernel) (Za0 (i_pv 4) Za3)))))))))),(Zab (Zas (Zak Zao (Za1 (Za2 0) (Za1 Zae Za5))) (Za7 2))
  (Zab (Zas (Zak Zao (Za1 (Za2 0) (Za1 (Zbo Zdd (Za1 (Za2 1) Za5)) Za5))) (Za7 3))
  (Zab (Zd4 (Zb3 (Zah Zeb (Za2 2) Zae)) (Zb6 (Zbo Zcm (Za1 (Zbl false (Zcq (Za2 1)) (Za7 0) Zcc (Zbm Zae)) Za5))) Zbc)
  (Zab (Zd4 (Zb3 (Zah Zeb (Za2 2) Zae)) (Zb6 (Za2 1)) Zbc)
  (Zab (Zas (Zbl false (Zcq (Za2 1)) (Za7 0) Zcc (Zbm (Zak Zao (Za1 (Za2 1) (Za1 (Zah Zdx (Za2 0) Zae) Za5))))) (Za7 4))
  (Zab (Zd4 (Zb3 (Zah Zeb (Za2 2) Zae)) (Zb6 (Zbo Zcm (Za1 (Zbl false (Zdk (Za1 (Zbo Zdd (Za1 (Za2 1) Za5)) Za5)) (Za7 0) Zcc (Zbm (Zah ro_I (Zah Zdw (Za2 1) (Za2 0)) (Zbo Zqh (Za1 (Zah Zeb (Za2 0) (Za2 2)) Za5))))) Za5))) Zbc)
  (Zb6 (Zbo Zcm (Za1 (Za2 4) Za5))))))))),λ as o q h=>?_⟩)
 obtain ⟨u,as,m,rfl,hw,hm,⟨A,rfl,hA⟩,hq⟩:=Zey h
 have hA1:=hA.1
 have hA2:=hA.2.1
 rw [hw]
 simp! only [dComp]
 refine Zc1 (by omega) (by decide) (by decide) λ d h0 h3=>?_
 simp!
 simp! only [tI,lmp]
 refine Zc1 (by omega) (by omega) (by omega) λ sp hsp0 hsp1=>?_
 simp!
 refine ite2 (λ c=>?_) (λ c=>?_)
 all_goals simp!
 ·refine Zc5 A .int (λ _=>.int 0) [] rfl trivial (Zat (by simp;omega)) ?_ ?_
  ·intro x hx Q hQ
   simp!
   exact hQ
  ·simp!
   refine hq _ _ ⟨A,rfl,Zb0 A.length,?_,Zo5 hA⟩ (by omega)
   unfold tI Zb0
   rw [List.map_const',map_replicate]
 refine ite2 (λ c=>?_) (λ c=>?_)
 all_goals simp!
 ·exact hq _ _ ⟨A,rfl,A,rfl,Zwl hA⟩ (by omega)
 refine Zgj A .int .int (λ a x=>0≤x/\x<a+1) 1 rfl (λ _=>trivial) (Zat (by omega)) ?_ ?_
 ·intro a ha m1 hm1 Q hQ
  have h4:=hA.2.2 a ha
  simp!
  refine Zc1 (by omega) (by omega) (by omega) λ x hx0 hx4=>?_
  simp!
  exact hQ x _ ⟨hx0,hx4⟩ (le_refl _)
 intro ys m1 hl hP hm1
 simp! only [lmp]
 refine ite2 (λ c=>?_) (λ c=>?_)
 all_goals simp!
 ·simp! only [tI,lmp]
  refine ⟨⟨by omega,by omega⟩,?_⟩
  unfold rngD
  refine Zc5 (List.range (A.length:Int).toNat) (λ (i:Nat)=>.int (0+(i:Int))) (λ (i:Nat)=>.int (ys.getD i 0*(if decide ((0:Int)+(i:Int)=sp)=true then 1 else 0))) [] rfl trivial (Zat (by simp;omega)) ?_ ?_
  ·intro i hi Q hQ
   have hi':=mem_range.mp hi
   have hi2:i<ys.length:=by omega
   simp!
   refine ⟨.int ys[i],?_,?_⟩
   ·rw [Int.zero_add]
    exact Zcy (by rw [getElem?_map,gEq hi2];rfl)
   simp! only [gInt1]
   have e:ys.getD i 0=ys[i]:=by simp [List.getD,gEq hi2]
   rw [e] at hQ
   refine ⟨?_,hQ⟩
   have hs:=Zfc (P:=λ a x=>0≤x/\x<a+1) hl hP ys[i] (getElem_mem hi2)
   obtain ⟨a,ha,hs⟩:=hs
   have h4:=hA.2.2 a ha
   refine mulS (lt_of_le_of_lt (show (ys[i]).natAbs≤5 by omega) (by decide)) ?_
   split <;> decide
  ·simp!
   refine hq _ _ ⟨A,rfl,(List.range (A.length:Int).toNat).map λ (i:Nat)=>ys.getD i 0*(if decide ((0:Int)+(i:Int)=sp)=true then 1 else 0),by unfold tI;rw [map_map];rfl,by simp,λ p hp=>?_⟩ (by omega)
   obtain ⟨j,hj,rfl⟩:=getElem_of_mem hp
   rw [length_zip] at hj
   have hjA:j<A.length:=by omega
   have hjy:j<ys.length:=by omega
   have hw:=hP (A[j],ys[j]) (mem_iff_getElem.mpr ⟨j,by rw [length_zip];omega,by simp⟩)
   have h4:=hA.2.2 A[j] (getElem_mem hjA)
   simp only at hw
   rw [List.getElem_zip]
   simp only [getElem_map,List.getElem_range]
   have e:ys.getD j 0=ys[j]:=by simp [List.getD,gEq hjy]
   rw [e]
   split <;> omega
 ·refine hq _ _ ⟨A,rfl,ys,rfl,hl,λ p hp=>?_⟩ (by omega)
  have:=hP p hp
  omega
end
end Mine
namespace Mine
open PySem PySem.Spec PyProof.Rows L2
section
variable {P:Program}{w:World}{K:PySem.W.Frag}{mg:Str->Option Value}{base:Heap}
theorem Zj1 {w:OW}{p:Addr}{x:Own} (h:w p=none):(w.put p x).del p=w:=by
 funext b;unfold OW.put OW.del
 by_cases e:b=p
 ·simp [e,h]
 ·simp [e]
def growW (found:List (List Int)) (a:Int):List (List Int):=found.flatMap λ r=>(List.range (a+1).toNat).map λ (i:Nat)=>r++[(i:Int)]
def allW (A:List Int):List (List Int):=A.foldl growW [[]]
theorem Zn9:∀ (A:List Int) (F:List (List Int)) (b:List Int),(∀ a∈A,0≤a)->(b∈A.foldl growW F ↔ ∃ p∈F,∃ q,Win A q/\b=p++q)
 | [],F,b,_=>by
  constructor
  ·intro h;exact ⟨b,h,[],Win.nil,by simp⟩
  ·rintro ⟨p,hp,q,hq,rfl⟩
   have:q=[]:=length_eq_zero_iff.mp hq.1
   subst this
   simpa using hp
 | a::A,F,b,hA=>by
  rw [foldl_cons,Zn9 A _ b λ x hx=>hA x (mem_cons_of_mem _ hx)]
  have ha:=hA a (mem_cons_self ..)
  constructor
  ·rintro ⟨p,hp,q,hq,rfl⟩
   unfold growW at hp
   obtain ⟨r,hr,hp⟩:=mem_flatMap.mp hp
   obtain ⟨i,hi,rfl⟩:=mem_map.mp hp
   have hi':=mem_range.mp hi
   exact ⟨r,hr,(i:Int)::q,Win.cons.mpr ⟨⟨by omega,by omega⟩,hq⟩,by simp⟩
  ·rintro ⟨p,hp,q,hq,rfl⟩
   cases q with
   | nil=>simp [Win] at hq
   | cons x q=>
    obtain ⟨⟨h1,h2⟩,h3⟩:=Win.cons.mp hq
    refine ⟨p++[x],?_,q,h3,by simp⟩
    unfold growW
    refine mem_flatMap.mpr ⟨p,hp,mem_map.mpr ⟨x.toNat,mem_range.mpr (by omega),?_⟩⟩
    have:((x.toNat:Nat):Int)=x:=by omega
    rw [this]
theorem Zke {A b:List Int} (hA:Amt A):b∈allW A ↔ Win A b:=by
 unfold allW
 rw [Zn9 A _ b λ a ha=>by have:=hA.2.2 a ha;omega]
 constructor
 ·rintro ⟨p,hp,q,hq,rfl⟩
  rw [mem_singleton.mp hp];exact hq
 ·intro h
  exact ⟨[],by simp,b,h,rfl⟩
theorem Zr5 {F:List (List Int)}{a:Int} (h0:0≤a) (h4:a≤4):(growW F a).length≤5*F.length:=by
 unfold growW
 induction F with
 | nil=>simp
 | cons r F ih=>
  rw [flatMap_cons,length_append,lmp,length_range,length_cons]
  omega
theorem Zov:∀ (A:List Int) (F:List (List Int)),(∀ a∈A,0≤a/\a≤4)->(A.foldl growW F).length≤5 ^ A.length*F.length
 | [],F,_=>by simp
 | a::A,F,h=>by
  have h1:=Zov A (growW F a) λ x hx=>h x (mem_cons_of_mem _ hx)
  have h2:=h a (mem_cons_self ..)
  have h3:=Zr5 (F:=F) h2.1 h2.2
  rw [foldl_cons,length_cons,Nat.pow_succ]
  have h4:=Nat.mul_le_mul_left (5 ^ A.length) h3
  rw [Nat.mul_assoc]
  omega
theorem Zpi {A:List Int} (hA:Amt A) (i:Nat):((A.take i).foldl growW [[]]).length≤125:=by
 have h1:=Zov (A.take i) [[]] λ a ha=>by have:=hA.2.2 a (mem_of_mem_take ha);omega
 have h2:(A.take i).length≤3:=by rw [length_take];have:=hA.2.1;omega
 have h3:=Nat.pow_le_pow_right (show 5 > 0 by decide) h2
 simp only [length_singleton,mul_one] at h1
 omega
theorem Zuz {A:List Int} (hA:Amt A):(allW A).length≤125:=by
 have:=Zpi hA A.length
 rw [take_length] at this
 exact this
def Zed:DSp:=pureS λ vs r=>∃ A,vs=[.d (tI A)]/\Amt A/\r = .list ((allW A).map tI)
theorem Zio:MoS Zed:=Zcd
theorem Zik:∀ vs w k,Zed vs w k->vs.length=1:=Zce (by rintro vs r ⟨A,rfl,_⟩;rfl)
theorem Zj2 (T:Txt K mg):Dn P w K mg base 1 "_law_all_within" sLawAllWithin ["_law_amounts_here"] (spD K Zed):=by
 refine Dn.data (k:=0) T.f_law_all_within Zcv Zik (λ a cdv A outer s H E hr=>⟨_,_,IPSs.get (Za4 (Zag (i:=1) Zcv.nd rfl (Or.inl rfl) (Zbs (Za0 (Zaq Za3) Za3)))
  (Za4 (Zc6 PassesOwn.never rfl (Zbu (i_pv 0)) (Zaf (i:=2) Zcv.nd rfl (Or.inl rfl)) (Za4 (Zag (i:=3) Zcv.nd rfl (Or.inl rfl) (Zbs Za3))
  (Za4 (Zc6 PassesOwn.never rfl (Zd3 (i_pv 1)) (Zaf (i:=4) Zcv.nd rfl (Or.inr rfl)) (Za9 (Zch (Zd7 plainAttrs_list PySem.F.slot_list_extend PySem.F.type_list_extend Zts (i_pv 3) (Za0 (by refine' Zb2 (Nc:=["_law_pieces", "_law_row"]) (cap:=[none,some 4]) rfl ?i ?k ?g ?t ?e;(case k=>kernel_rfl);(case i=>exact (Zbt rfl T.z_range (Za0 (Zam Zct (i_pv 2) Za6) Za3)));(case g=>exact (λ _ _ _ _ _=>(Zc3 0 (by show List.Nodup (["_law_pieces", "_law_row"]:List Str);decide +kernel))));(case t=>exact (λ _ _ _ _ _=>Zb1));(case e=>exact (λ _ _ _ _ _=>(Zam (Zrg (K:=K) rfl) (Ze0 1) (Zaq (Za0 (Zc7 0) Za3)))))) Za3)))))
  (Za9 (Zag (i:=1) Zcv.nd rfl (Or.inl rfl) (i_pv 3))))))
  (Za9 (Zaj (i_pv 1))))),(Zab (Zas (Zcx false (Za1 (Zbq Za5) Za5)) (Za7 1))
  (Zab (Zde (Zcq (Za2 0)) (Za7 2) (Zab (Zas (Zcx true Za5) (Za7 3))
  (Zab (Zde (Ze8 (Za2 1)) (Za7 4) (Zdl (Ya2 (Za2 3) (Za1 (Zbl false (Zdk (Za1 (Zah Zdx (Za2 2) Zae) Za5)) (Za7 0) Zcc (Zbm (Zah Zi4 (Za2 1) (Zbq (Za1 (Za2 0) Za5))))) Za5))))
  (Zas (Zpc 3) (Za7 1)))))
  (Zb6 (Za2 1)))),λ as o q h=>?_⟩)
 obtain ⟨r,⟨A,rfl,hA,rfl⟩,hq⟩:=h
 simp! only [tI]
 refine ⟨by show 0≤sizeLine;decide,L2.sz1,?_⟩
 simp! only [dComp,dExt,dFrz]
 refine ⟨λ i s=>∃ o2 o3 o4,s=⟨[some (.d (tI A)),some (.d (.list (((A.take i).foldl growW [[]]).map tI))),o2,o3,o4],o⟩,⟨none,none,none,rfl⟩,λ _ _ _=>trivial,?_,?_⟩
 ·rintro i d s hd ⟨o2,o3,o4,rfl⟩
  obtain ⟨a,ha,rfl⟩:=Zdi hd
  have haA:=hA.2.2 a (mem_of_getElem? ha)
  have et:(A.take (i+1)).foldl growW [[]]=growW ((A.take i).foldl growW [[]]) a:=by rw [take_add_one,ha,foldl_append];rfl
  have hFl:=Zpi hA i
  have hFb:∀ b∈(A.take i).foldl growW [[]],b.length≤3:=λ b hb=>by
   obtain ⟨p,hp,q,hq,rfl⟩:=(Zn9 (A.take i) [[]] b λ a ha=>by have:=hA.2.2 a (mem_of_mem_take ha);omega).mp hb
   have h1:=hq.1
   rw [mem_singleton.mp hp]
   rw [length_take] at h1
   have:=hA.2.1
   simp only [nil_append];omega
  generalize (A.take i).foldl growW [[]]=F at *
  simp!
  refine ⟨by decide,λ p hp=>?_⟩
  refine ⟨λ j s=>∃ o4,s=⟨[some (.d (tI A)),some (.d (.list (F.map tI))),some (.d (.int a)),some (.own p),o4],o.put p (.lst ((growW (F.take j) a).map tI))⟩,⟨_,rfl⟩,λ _ _ _=>trivial,?_,?_⟩
  ·rintro j d s hd ⟨o4,rfl⟩
   obtain ⟨b,hb,rfl⟩:=Zdi hd
   have eg:growW (F.take (j+1)) a=growW (F.take j) a++(List.range (a+1).toNat).map λ (i:Nat)=>b++[(i:Int)]:=by
    unfold growW;rw [take_add_one,hb,flatMap_append];simp
   have hgl:=Zr5 (F:=F.take j) (a:=a) (by omega) (by omega)
   have htl:(F.take j).length≤125:=by rw [length_take];omega
   simp!
   refine ⟨⟨_,rfl⟩,⟨by omega,by omega⟩,?_⟩
   unfold rngD
   refine Zc5 (List.range (a+1).toNat) (λ (i:Nat)=>.int (0+(i:Int))) (λ (i:Nat)=>tI (b++[(i:Int)])) [] rfl trivial (Zat (by simp;omega)) ?_ ?_
   ·intro x hx Q hQ
    simp! only [tI]
    refine ⟨L2.sz1,Zfe (by have:=hFb b (mem_of_getElem? hb);rw [lmp];omega),?_⟩
    have e:tI (b++[(x:Int)])=PyData.tuple (List.map PyData.int b++[PyData.int (0+(x:Int))]):=by
     unfold tI;rw [map_append,Int.zero_add];rfl
    rw [e] at hQ
    exact hQ
   ·simp!
    refine ⟨_,_,rfl,rfl,Zfe (by simp only [lmp,length_range];omega),some (.d (tI b)),?_⟩
    rw [eg,map_append,map_map];rfl
  ·rintro s ⟨o4,rfl⟩
   simp!
   refine ⟨_,rfl,some (.d (.int a)),some (.d (.list ((growW F a).map tI))),o4,?_⟩
   rw [Zj1 hp,et,lmp,take_length]
 ·rintro s ⟨o2,o3,o4,rfl⟩
  simp!
  rw [lmp,take_length]
  exact ⟨_,OW.le.refl _,hq⟩
abbrev Tst:=List (List Int) × Int
def tstD (t:Tst):PyData:=.tuple [.list (t.1.map λ r=>.list (r.map .int)),.int t.2]
def IsT (A:List Int) (t:Tst):Prop:=t.1.length=A.length/\(∀ r∈t.1,r.length≤4/\∀ x∈r,0≤x/\x≤3000)/\0≤t.2/\t.2≤3000
def Zh0:DSp:=urnS 20 (λ as=>∃ A,as=[.d (tI A)]/\Amt A) (λ as r=>∃ A,as=[.d (tI A)]/\∃ t,r=tstD t/\IsT A t)
theorem Zno:MoS Zh0:=Ze2
theorem Znf:∀ vs w k,Zh0 vs w k->vs.length=2:=Zex (n:=1) (by rintro vs ⟨k,rfl,_⟩;rfl)
theorem Zdu {w:OW}{p u:Addr}{x y:Own} (h:p≠u):(w.put u x).put p y=(w.put p y).put u x:=by
 funext b;unfold OW.put
 by_cases e1:b=p
 ·have:¬ b=u:=by rw [e1];exact h
  simp [e1,h]
 ·simp [e1]
theorem Zoq (T:Txt K mg):Dn P w K mg base 2 "_law_taste" sLawTaste ["_law_urn_here", "_law_amounts_here"] (spD K Zh0):=by
 have D_law_draw:=Zcw (P:=P) (w:=w) (base:=base) T
 refine Dn.data (k:=1) T.f_law_taste Zeq Znf (λ a cdv A outer s H E hr=>⟨_,_,IPSs.get (Za4 (Zag (i:=2) Zeq.nd rfl (Or.inr rfl) (Zan Zco (Zbs (Za0 Za6 (Za0 Za6 (Za0 Za6 (Za0 Za6 Za3))))) (Zac D_law_draw Zar (hr.mono (by decide)) (Za0 (i_pv 0) (Za0 Za6 Za3))) (λ _ _=>rfl)))
  (Za4 (Zag (i:=3) Zeq.nd rfl (Or.inl rfl) (Zbs Za3))
  (Za4 (Zc6 PassesOwn.never rfl (Zbu (i_pv 1)) (Zaf (i:=4) Zeq.nd rfl (Or.inl rfl)) (Za4 (Zag (i:=5) Zeq.nd rfl (Or.inl rfl) (Zad Zoh rfl T.z_sorted boot_sorted (Za0 (by refine' Zb2 (Nc:=["_law_k", "_law_urn_here", "_law_wide"]) (cap:=[none,some 0,some 2]) rfl ?i ?k ?g ?t ?e;(case k=>kernel_rfl);(case i=>exact (Zbt rfl T.z_range (Za0 (i_pv 4) Za3)));(case g=>exact (λ _ _ _ _ _=>(Zc3 0 (by show List.Nodup (["_law_k", "_law_urn_here", "_law_wide"]:List Str);decide +kernel))));(case t=>exact (λ _ _ _ _ _=>Zb1));(case e=>exact (λ _ _ _ _ _=>(Zac D_law_draw Zar (hr.mono (by decide)) (Za0 (Ze0 1) (Za0 (Ze0 2) Za3)) (hg:=Zcz))))) Za3)))
  (Za9 (Zch (Zd7 plainAttrs_list PySem.F.slot_list_append PySem.F.type_list_append Zck (i_pv 3) (Za0 (Zv9 (i_pv 5) (Zh5 Zjz Za6)) Za3))))))
  (Za9 (Zaj (Zaq (Za0 (i_pv 3) (Za0 (Zac D_law_draw Zar (hr.mono (by decide)) (Za0 (i_pv 0) (Za0 (Zan Zco (Zbs (Za0 Za6 (Za0 (i_pv 2) Za3))) (Zac D_law_draw Zar (hr.mono (by decide)) (Za0 (i_pv 0) (Za0 Za6 Za3))) (λ _ _=>rfl)) Za3))) Za3)))))))),(Zab (Zas (Zah Zdw (Zcx false (Za1 Zae (Za1 Zae (Za1 Zae (Za1 Zae Za5))))) (Zak Zao (Za1 (Za2 0) (Za1 Zae Za5)))) (Za7 2))
  (Zab (Zas (Zcx true Za5) (Za7 3))
  (Zab (Zde (Zcq (Za2 1)) (Za7 4) (Zab (Zas (Zbo (Zw0 false) (Za1 (Zbl false (Zdk (Za1 (Za2 4) Za5)) (Za7 0) Zcc (Zbm (Zak Zao (Za1 (Za2 1) (Za1 (Za2 2) Za5))))) Za5)) (Za7 5))
  (Zdl (Zec (Za2 3) (Za1 (Ya3 false (Za2 5)) Za5)))))
  (Zb6 (Zbq (Za1 (Zpc 3) (Za1 (Zak Zao (Za1 (Za2 0) (Za1 (Zah Zdw (Zcx false (Za1 Zae (Za1 (Za2 2) Za5))) (Zak Zao (Za1 (Za2 0) (Za1 Zae Za5)))) Za5))) Za5))))))),λ as o q h=>?_⟩)
 obtain ⟨u,as,m,rfl,hw,hm,⟨A,rfl,hA⟩,hq⟩:=Zey h
 have hA1:=hA.1
 have hA2:=hA.2.1
 rw [hw]
 simp! only [tI]
 refine ⟨L2.sz4,?_⟩
 refine Zc1 (by omega) (by decide) (by decide) λ d h0 h3=>?_
 simp!
 have key:∃ wd:Int,atI [PyData.int 4,PyData.int 20,PyData.int 200,PyData.int 3000] d=some (.int wd)/\0<wd/\wd≤3000:=by
  have:d=0 \/ d=1 \/ d=2 \/ d=3:=by omega
  rcases this with rfl|rfl|rfl|rfl
  ·exact ⟨4,rfl,by decide,by decide⟩
  ·exact ⟨20,rfl,by decide,by decide⟩
  ·exact ⟨200,rfl,by decide,by decide⟩
  ·exact ⟨3000,rfl,by decide,by decide⟩
 obtain ⟨wd,ewd,wd0,wd1⟩:=key
 refine ⟨_,ewd,?_⟩
 simp!
 refine ⟨by decide,λ p hp=>?_⟩
 have hpu:p≠u:=λ e=>by rw [e,OW.put_same] at hp;cases hp
 have hpo:o p=none:=by rw [OW.put_ne hpu] at hp;exact hp
 simp! only [dComp,dApp,dFrz,gSortI]
 refine ⟨λ i s=>∃ (o4 o5:Option Val) (R:List (List Int)) (m':Nat),s=⟨[some (.own u),some (.d (tI A)),some (.d (.int wd)),some (.own p),o4,o5],(o.put p (.lst (R.map λ r=>.list (r.map .int)))).put u (.urn m')⟩/\R.length=i/\i≤A.length/\(∀ r∈R,r.length≤4/\∀ x∈r,0≤x/\x≤3000)/\m'≤m+1+4*i,?_,λ _ _ _=>trivial,?_,?_⟩
 ·refine ⟨none,none,[],m+1,?_,rfl,by omega,by simp,by omega⟩
  rw [Zdu hpu];rfl
 ·rintro i d s hd ⟨o4,o5,R,m',rfl,hR,hi,hRx,hm'⟩
  obtain ⟨a,ha,rfl⟩:=Zdi hd
  have haA:=hA.2.2 a (mem_of_getElem? ha)
  obtain ⟨hiA,_⟩:=List.getElem?_eq_some_iff.mp ha
  simp!
  refine ⟨⟨by omega,by omega⟩,?_⟩
  unfold rngD
  refine Zgj (List.range a.toNat) (λ (i:Nat)=>.int (0+(i:Int))) .int (λ _ x=>0≤x/\x<wd) 1 rfl (λ _=>trivial) (Zat (by rw [length_range];omega)) ?_ ?_
  ·intro j hj m1 hm1 Q hQ
   rw [length_range] at hm1
   simp!
   refine Zc1 (by omega) wd0 (by omega) λ x hx0 hx4=>?_
   simp!
   exact hQ x _ ⟨hx0,hx4⟩ (le_refl _)
  ·intro ys m1 hl hP hm1
   have hl0:=hl
   rw [length_range] at hl hm1
   rw [uIs_map]
   refine ⟨by omega,λ ns' hp1 _=>?_⟩
   simp!
   have hg:((o.put p (.lst (R.map λ r=>.list (r.map .int)))).put u (.urn m1)) p=some (.lst (R.map λ r=>.list (r.map .int))):=by rw [OW.put_ne hpu,OW.put_same]
   refine ⟨⟨_,hg⟩,_,hg,Zat (by rw [lmp];omega),some (.d (.int a)),some (.d (.list (ns'.map .int))),R++[ns'.reverse],m1,?_,by simp [hR],hiA,?_,by omega⟩
   ·rw [Zdu hpu,OW.put_put,map_append,map_cons,map_nil,map_reverse]
   ·intro r hr
    rcases mem_append.mp hr with hr|hr
    ·exact hRx r hr
    ·rw [mem_singleton.mp hr]
     refine ⟨by rw [length_reverse,hp1.length_eq];omega,λ x hx=>?_⟩
     obtain ⟨_,_,h5⟩:=Zfc (P:=λ _ x=>0≤x/\x<wd) hl0 hP x (hp1.mem_iff.mp (mem_reverse.mp hx))
     omega
 ·rintro s ⟨o4,o5,R,m',rfl,hR,hi,hRx,hm'⟩
  rw [lmp] at hR hm'
  simp!
  have hg:((o.put p (.lst (R.map λ r=>.list (r.map .int)))).put u (.urn m')) p=some (.lst (R.map λ r=>.list (r.map .int))):=by rw [OW.put_ne hpu,OW.put_same]
  have hd:((o.put p (.lst (R.map λ r=>.list (r.map .int)))).put u (.urn m')).del p=o.put u (.urn m'):=by rw [<- Zdu hpu,Zj1 (by rw [OW.put_ne hpu];exact hpo)]
  refine ⟨_,hg,L2.sz2,?_⟩
  rw [hd]
  refine Zc1 (by omega) (by decide) (by decide) λ c hc0 hc2=>?_
  simp!
  have key:∃ w2:Int,atI [PyData.int 1,PyData.int wd] c=some (.int w2)/\0<w2/\w2≤3000:=by
   have:c=0 \/ c=1:=by omega
   rcases this with rfl|rfl
   ·exact ⟨1,rfl,by decide,by decide⟩
   ·exact ⟨wd,rfl,wd0,wd1⟩
  obtain ⟨w2,ew2,w20,w21⟩:=key
  refine ⟨_,ew2,?_⟩
  refine Zc1 (by omega) w20 (by omega) λ mo hmo0 hmo1=>?_
  simp!
  refine ⟨L2.sz2,?_⟩
  exact hq _ _ ⟨A,rfl,(R,mo),rfl,hR,hRx,hmo0,by show mo≤3000;omega⟩ (by omega)
def minP (b:List Int):Bool:=b.all λ x=>decide (0<x)
def likedF (t:Tst) (b:List Int):Int:=((t.1.zip b).map λ p=>(p.1.take p.2.toNat).sum).sum+if minP b=true then t.2 else 0
def Zgw:DSp:=pureS λ vs r=>∃ A t b,vs=[.d (tstD t),.d (tI b)]/\Amt A/\IsT A t/\Win A b/\r = .int (likedF t b)
theorem Ziq:MoS Zgw:=Zcd
theorem Znb:∀ vs w k,Zgw vs w k->vs.length=2:=Zce (by rintro vs r ⟨A,t,b,rfl,_⟩;rfl)
theorem Zok {xs:List PyData}{j:Int} (h:0≤j):cutD xs none (some j)=xs.take j.toNat:=by
 obtain ⟨n,rfl⟩:=Int.eq_ofNat_of_zero_le h
 unfold L2.cutD
 rw [HT.sIx_none,HT.sIx_nat]
 simp only [drop_zero,sub_zero,Int.toNat_natCast]
 rw [<- List.take_eq_take_min]
theorem Zjq (T:Txt K mg):Dn P w K mg base 1 "_law_liked" sLawLiked ["_law_taste_here", "_law_bundle_here"] (spD K Zgw):=by
 refine Dn.data (k:=0) T.f_law_liked Zep Znb (λ a cdv A outer s H E hr=>⟨_,_,IPSs.get (Za4 (Zd9 (i_pv 0) (Zcj (n:=2) rfl (Za8 (Zaf (i:=2) Zep.nd rfl (Or.inl rfl)) (Za8 (Zaf (i:=3) Zep.nd rfl (Or.inl rfl)) Zau))))
  (Za4 (Zag (i:=4) Zep.nd rfl (Or.inl rfl) (Zad (Zfz rfl) rfl T.z_sum boot_sum (Za0 (by refine' Zb2 (Nc:=["_law_row", "_law_pieces"]) (cap:=[none,none]) rfl ?i ?k ?g ?t ?e;(case k=>kernel_rfl);(case i=>exact (Zka false true rfl T.z_zip (Za0 (i_pv 2) (Za0 (i_pv 1) Za3))));(case g=>exact (λ _ _ _ _ _=>(Zc4 (K:=K) rfl (n:=2) rfl (Za8 (Zc3 0 (by show List.Nodup (["_law_row", "_law_pieces"]:List Str);decide +kernel)) (Za8 (Zc3 1 (by show List.Nodup (["_law_row", "_law_pieces"]:List Str);decide +kernel)) Zau)))));(case t=>exact (λ _ _ _ _ _=>Zb1));(case e=>exact (λ _ _ _ _ _=>(Zad (Zmg (K:=K) rfl rfl) Zcz T.z_sum boot_sum (Za0 (Zg1 (Zwb (K:=K) rfl) (Zc7 0) Zh6 (Zh7 (Zc7 1))) Za3))))) Za3)))
  (Za4 (Zbg (Zal Zsi (Zad (Zko true rfl) rfl T.z_min boot_min (Za0 (i_pv 1) Za3)) Za6 (nomark _)) (Za9 (Zag (i:=4) Zep.nd rfl (Or.inl rfl) (Zam Zct (i_pv 4) (i_pv 3)))) Zap)
  (Za9 (Zaj (i_pv 4)))))),(Zab (Zas (Za2 0) (Zcb (Zaa (Za7 2) (Zaa (Za7 3) Zbp))))
  (Zab (Zas (Zbo Zlj (Za1 (Zbl false (Zrm (Za1 (Za2 2) (Za1 (Za2 1) Za5))) (Zcb (Zaa (Za7 0) (Zaa (Za7 1) Zbp))) Zcc (Zbm (Zbo Zlj (Za1 (Zu9 (Yal false) (Za2 0) Zlm (Zln (Za2 1))) Za5)))) Za5)) (Za7 4))
  (Zab (Zd4 (Zb3 (Zah Zha (Zbo (Zqi true) (Za1 (Za2 1) Za5)) Zae)) (Zas (Zah Zdx (Za2 4) (Za2 3)) (Za7 4)) Zbc)
  (Zb6 (Za2 4))))),λ as o q h=>?_⟩)
 obtain ⟨r,⟨A,⟨R,mo⟩,b,rfl,hA,hT,hW,rfl⟩,hq⟩:=h
 have hA1:=hA.1
 have hA2:=hA.2.1
 have hTl:=hT.1
 have hWl:=hW.1
 simp only at hTl
 simp! only [dComp,tstD,tI,Zkk]
 refine Zc5 (R.zip b) (λ p=>.tuple [.list (p.1.map .int),.int p.2]) (λ p=>.int (p.1.take p.2.toNat).sum) [] rfl trivial (Zat (by simp;omega)) ?_ ?_
 ·rintro ⟨x,y⟩ hx Q hQ
  have hy:=hW.mem hA y (of_mem_zip hx).2
  simp! only [Zok hy.1,<- map_take,uIs_map]
  exact hQ
 ·simp! only [Zhn,gMin,uIs_map]
  have hb:b≠[]:=λ e=>by rw [e] at hWl;simp at hWl;omega
  refine ⟨hb,λ mn hmn hle=>?_⟩
  unfold likedF minP at hq
  refine ite2 (λ c=>?_) (λ c=>?_)
  all_goals simp!
  ·have c':0<mn:=by simpa using c
   have e:(b.all λ x=>decide (0<x))=true:=all_eq_true.mpr λ x hx=>by have:=hle x hx;simp;omega
   rw [e] at hq
   exact ⟨_,OW.le.refl _,hq⟩
  ·have c':¬ 0<mn:=by simpa using c
   have e:(b.all λ x=>decide (0<x))=false:=Bool.eq_false_iff.mpr λ z=>c' (by simpa using all_eq_true.mp z mn hmn)
   rw [e] at hq
   simp only [false_eq_true,if_false,Int.add_zero] at hq
   exact ⟨_,OW.le.refl _,hq⟩
def gainF (t:Tst) (P b:List Int):Int:=likedF t b-dot P b
def Zge:DSp:=urnS 1 (λ as=>∃ A t P,as=[.d (tstD t),.d (tI A),.d (tI P)]/\Amt A/\IsT A t/\Pri A.length P) (λ as r=>∃ A t P,as=[.d (tstD t),.d (tI A),.d (tI P)]/\Amt A/\∃ b,r=tI b/\Win A b/\∀ c,Win A c->gainF t P c≤gainF t P b)
theorem Zmc:MoS Zge:=Ze2
theorem Zma:∀ vs w k,Zge vs w k->vs.length=4:=Zex (n:=3) (by rintro vs ⟨A,t,P,rfl,_⟩;rfl)
theorem Zwn {α:Type} (l:List α):l.zip l=l.map λ x=>(x,x):=by
 induction l with
 | nil=>rfl
 | cons x l ih=>simp [ih]
theorem Zn7 (T:Txt K mg):Dn P w K mg base 2 "_law_wanted" sLawWanted ["_law_urn_here", "_law_taste_here", "_law_amounts_here", "_law_prices_here"] (spD K Zge):=by
 have D_law_all_within:=Zj2 (P:=P) (w:=w) (base:=base) T
 have D_law_cost:=Zf4 (P:=P) (w:=w) (base:=base) T
 have D_law_draw:=Zcw (P:=P) (w:=w) (base:=base) T
 have D_law_liked:=Zjq (P:=P) (w:=w) (base:=base) T
 refine Dn.data (k:=1) T.f_law_wanted Zdv Zma (λ a cdv A outer s H E hr=>⟨_,_,IPSs.get (Za4 (Zag (i:=4) Zdv.nd rfl (Or.inl rfl) (Zac D_law_all_within Zix (hr.mono (by decide)) (Za0 (i_pv 2) Za3)))
  (Za4 (Zag (i:=5) Zdv.nd rfl (Or.inl rfl) (Zbs Za3))
  (Za4 (Zc6 PassesOwn.never rfl (Zd3 (i_pv 4)) (Zaf (i:=6) Zdv.nd rfl (Or.inl rfl)) (Za9 (Zch (Zd7 plainAttrs_list PySem.F.slot_list_append PySem.F.type_list_append Zck (i_pv 5) (Za0 (Zam Zhs (Zac D_law_liked Zjn (hr.mono (by decide)) (Za0 (i_pv 1) (Za0 (i_pv 6) Za3))) (Zac D_law_cost Zdp (hr.mono (by decide)) (Za0 (i_pv 3) (Za0 (i_pv 6) Za3)))) Za3)))))
  (Za4 (Zag (i:=7) Zdv.nd rfl (Or.inr rfl) (Zad (Zfy false rfl) rfl T.z_max boot_max (Za0 (i_pv 5) Za3)))
  (Za4 (by refine' Zfj (i:=8) Zdv.nd rfl (Or.inl rfl) (Nc:=["_law_bundle_here", "_law_gain", "_law_most"]) (cap:=[none,none,some 7]) rfl ?i ?k ?g ?t ?e;(case k=>kernel_rfl);(case i=>exact (Zka false false rfl T.z_zip (Za0 (i_pv 4) (Za0 (i_pv 5) Za3))));(case g=>exact (λ _ _ _ _ _=>(Zc4 (K:=K) rfl (n:=2) rfl (Za8 (Zc3 0 (by show List.Nodup (["_law_bundle_here", "_law_gain", "_law_most"]:List Str);decide +kernel)) (Za8 (Zc3 1 (by show List.Nodup (["_law_bundle_here", "_law_gain", "_law_most"]:List Str);decide +kernel)) Zau)))));(case t=>exact (λ _ _ _ _ _=>(Zl1 (Zal Zea (Zc7 1) (Ze0 2) (nomark _)))));(case e=>exact (λ _ _ _ _ _=>(Zc7 0))))
  (Za9 (Zaj (Zan Zco (i_pv 8) (Zac D_law_draw Zar (hr.mono (by decide)) (Za0 (i_pv 0) (Za0 (Zad Zaz rfl T.z_len boot_len (Za0 (i_pv 8) Za3)) Za3))) (λ _ _=>rfl))))))))),(Zab (Zas (Zak Zio (Za1 (Za2 2) Za5)) (Za7 4))
  (Zab (Zas (Zcx true Za5) (Za7 5))
  (Zab (Zde (Ze8 (Za2 4)) (Za7 6) (Zdl (Zec (Za2 5) (Za1 (Zah Zdx (Zak Ziq (Za1 (Za2 1) (Za1 (Za2 6) Za5))) (Zak Zdc (Za1 (Za2 3) (Za1 (Za2 6) Za5)))) Za5))))
  (Zab (Zas (Zbo (Zjk false) (Za1 (Za2 5) Za5)) (Za7 7))
  (Zab (Zas (Zbl false (Zrm (Za1 (Za2 4) (Za1 (Zpc 5) Za5))) (Zcb (Zaa (Za7 0) (Zaa (Za7 1) Zbp))) (Zb3 (Zah Zeb (Za2 1) (Za2 2))) (Zbm (Za2 0))) (Za7 8))
  (Zb6 (Zah Zdw (Za2 8) (Zak Zao (Za1 (Za2 0) (Za1 (Zbo Zdd (Za1 (Za2 8) Za5)) Za5)))))))))),λ as o q h=>?_⟩)
 obtain ⟨u,as,m,rfl,hw,hm,⟨A,t,P,rfl,hA,hT,hP⟩,hq⟩:=Zey h
 have hA1:=hA.1
 have hA2:=hA.2.1
 have hWl:=Zuz hA
 rw [hw]
 simp!
 refine ⟨_,⟨A,rfl,hA,rfl⟩,?_⟩
 simp!
 refine ⟨by decide,λ p hp=>?_⟩
 have hpu:p≠u:=λ e=>by rw [e,OW.put_same] at hp;cases hp
 have hpo:o p=none:=by rw [OW.put_ne hpu] at hp;exact hp
 simp! only [dComp,dApp,dFrz,gMax]
 refine ⟨λ i s=>∃ (o6 o7 o8 o9:Option Val),s=⟨[some (.own u),some (.d (tstD t)),some (.d (tI A)),some (.d (tI P)),some (.d (.list ((allW A).map tI))),some (.own p),o6,o7,o8],(o.put u (.urn m)).put p (.lst (((allW A).take i).map λ b=>.int (gainF t P b)))⟩,?_,λ _ _ _=>trivial,?_,?_⟩
 ·exact ⟨none,none,none,none,rfl⟩
 ·rintro i d s hd ⟨o6,o7,o8,o9,rfl⟩
  obtain ⟨b,hb,rfl⟩:=Zdi hd
  have hbW:=(Zke hA).mp (mem_of_getElem? hb)
  simp!
  refine ⟨⟨_,rfl⟩,_,⟨A,t,b,rfl,hA,hT,hbW,rfl⟩,_,⟨P,b,rfl,hP.sm,hbW.sm hA,by rw [hP.1];omega,rfl⟩,?_⟩
  simp!
  refine ⟨_,rfl,Zat (by rw [lmp,length_take];omega),some (.d (tI b)),o7,o8,none,?_⟩
  rw [take_add_one,hb,map_append];rfl
 ·rintro s ⟨o6,o7,o8,o9,rfl⟩
  rw [lmp,take_length]
  simp!
  rw [Zhn]
  have hz:Zb0 A.length∈allW A:=(Zke hA).mpr (Zo5 hA)
  refine ⟨λ e=>?_,λ mx hmx hle=>?_⟩
  ·have:gainF t P (Zb0 A.length)∈(allW A).map (gainF t P):=mem_map_of_mem hz
   rw [e] at this;cases this
  simp!
  refine ⟨_,rfl,?_⟩
  simp!
  rw [Zj1 hp,Zkk,Zwn]
  refine Zmr (allW A) (λ b=>.tuple [tI b,.int (gainF t P b)]) tI (λ b=>decide (gainF t P b=mx)) [] (by rw [map_map];rfl) trivial (Zat (by simp;omega)) ?_ ?_
  ·intro b hb Q hQ
   simp!
   refine ite2 (λ c=>?_) (λ c=>?_)
   all_goals simp!
   ·rw [if_pos c] at hQ;exact hQ
   ·rw [if_neg c] at hQ;exact hQ
  ·simp!
   have hbs:∀ b∈(allW A).filter λ b=>decide (gainF t P b=mx),Win A b/\∀ c,Win A c->gainF t P c≤gainF t P b:=λ b hb=>by
    obtain ⟨h1,h2⟩:=mem_filter.mp hb
    refine ⟨(Zke hA).mp h1,λ c hc=>?_⟩
    have h3:gainF t P b=mx:=by simpa using h2
    rw [h3]
    exact hle _ (mem_map_of_mem ((Zke hA).mpr hc))
   have hne:0<((allW A).filter λ b=>decide (gainF t P b=mx)).length:=by
    obtain ⟨b,hb,e⟩:=mem_map.mp hmx
    exact List.length_pos_of_mem (mem_filter.mpr ⟨hb,by simpa using e⟩)
   have hfl:=List.length_filter_le (λ b=>decide (gainF t P b=mx)) (allW A)
   generalize ((allW A).filter λ b=>decide (gainF t P b=mx))=B at *
   rw [lmp]
   refine Zc1 (by omega) (by omega) (by omega) λ d hd0 hd1=>?_
   simp!
   obtain ⟨j,rfl⟩:=Int.eq_ofNat_of_zero_le hd0
   have hj:j<B.length:=by omega
   simp!
   refine ⟨tI B[j],Zcy (by rw [getElem?_map,gEq hj];rfl),?_⟩
   exact hq _ _ ⟨A,t,P,rfl,hA,B[j],rfl,hbs _ (getElem_mem hj)⟩ (by omega)
end
end Mine
namespace Mine
open PySem PySem.Spec PyProof.Rows L2
section
variable {P:Program}{w:World}{K:PySem.W.Frag}{mg:Str->Option Value}{base:Heap}
def Zhw:DSp:=pureS λ vs r=>∃ k rs ss,vs=[.d (Zbx rs),.d (Zbb ss),.d (.int (k:Nat))]/\Hist k rs ss/\r = .list ((Zav k rs ss).map tI)
theorem Zfl:MoS Zhw:=Zcd
theorem Zp5:∀ vs w k,Zhw vs w k->vs.length=3:=Zce (by rintro vs r ⟨k,rs,ss,rfl,_⟩;rfl)
theorem Zw2 (k:Nat):repD (k:Int).toNat [PyData.int 0]=(Zb0 k).map .int:=by
 unfold repD Zb0
 rw [Int.toNat_natCast,map_replicate]
 induction k with
 | zero=>rfl
 | succ k ih=>rw [replicate_succ,flatten_cons,ih,replicate_succ];rfl
theorem Zga (T:Txt K mg):Dn P w K mg base 1 "_law_told" sLawTold ["_law_rows", "_law_seals", "_law_several"] (spD K Zhw):=by
 refine Dn.data (k:=0) T.f_law_told Zek Zp5 (λ a cdv A outer s H E hr=>⟨_,_,IPSs.get (Za4 (Zag (i:=3) Zek.nd rfl (Or.inl rfl) (Zbs (Za0 (Zam Zqd (Zaq (Za0 Za6 Za3)) (i_pv 2)) Za3)))
  (Za4 (Zc6 PassesOwn.never rfl (Zbu (i_pv 0)) (Zcj (n:=2) rfl (Za8 (Zaf (i:=4) Zek.nd rfl (Or.inl rfl)) (Za8 (Zaf (i:=5) Zek.nd rfl (Or.inl rfl)) Zau))) (Za9 (Zbg (Zal (Zg4 hr.units) (i_pv 5) (i_pv 3) rfl) (Za9 (Zch (Zd7 plainAttrs_list PySem.F.slot_list_append PySem.F.type_list_append Zck (i_pv 3) (Za0 (i_pv 5) Za3)))) Zap)))
  (Za4 (Zc6 PassesOwn.never rfl (Zbu (i_pv 1)) (Zcj (n:=2) rfl (Za8 (Zaf (i:=5) Zek.nd rfl (Or.inl rfl)) (Za8 (Zaf (i:=6) Zek.nd rfl (Or.inl rfl)) Zau))) (Za9 (Zbg (Zal (Zg4 hr.units) (i_pv 5) (i_pv 3) rfl) (Za9 (Zch (Zd7 plainAttrs_list PySem.F.slot_list_append PySem.F.type_list_append Zck (i_pv 3) (Za0 (i_pv 5) Za3)))) Zap)))
  (Za9 (Zaj (i_pv 3)))))),(Zab (Zas (Zcx true (Za1 (Zah Zqk (Zbq (Za1 Zae Za5)) (Za2 2)) Za5)) (Za7 3))
  (Zab (Zde (Zcq (Za2 0)) (Zcb (Zaa (Za7 4) (Zaa (Za7 5) Zbp))) (Zd4 (Zb3 (Zah Zll (Za2 5) (Za2 3))) (Zdl (Zec (Za2 3) (Za1 (Za2 5) Za5))) Zbc))
  (Zab (Zde (Zcq (Za2 1)) (Zcb (Zaa (Za7 5) (Zaa (Za7 6) Zbp))) (Zd4 (Zb3 (Zah Zll (Za2 5) (Za2 3))) (Zdl (Zec (Za2 3) (Za1 (Za2 5) Za5))) Zbc))
  (Zb6 (Zpc 3))))),λ as o q h=>?_⟩)
 obtain ⟨r,⟨n,rs,ss,rfl,hH,rfl⟩,hq⟩:=h
 have hrl:=hH.rl
 have hsl:=hH.sl
 have hk1:=hH.k1
 have hk3:=hH.k3
 simp! only [Zbx,Zbb,fRepT]
 refine ⟨L2.sz1,⟨by simp,by omega,by omega,Zfe (by simp;omega)⟩,L2.sz1,λ p hp=>?_⟩
 rw [Zw2]
 simp! only [dApp,dFrz]
 refine ⟨λ i s=>∃ o4 o5 o6,s=⟨[some (.d (.tuple (rs.map rowD))),some (.d (.tuple (ss.map Zc9))),some (.d (.int (n:Nat))),some (.own p),o4,o5,o6],o.put p (.lst ((((rs.take i).map Prod.snd).foldl addB [Zb0 n]).map tI))⟩,⟨none,none,none,rfl⟩,λ _ _ _=>trivial,?_,?_⟩
 ·rintro i d s hd ⟨o4,o5,o6,rfl⟩
  obtain ⟨r,hr,rfl⟩:=Zdi hd
  have hlen:=Zg0 ((rs.take i).map Prod.snd) [Zb0 n]
  have hti:((rs.take i).map Prod.snd).length≤26:=by rw [lmp,length_take];omega
  simp only [length_singleton] at hlen
  have et:((rs.take (i+1)).map Prod.snd).foldl addB [Zb0 n]=addB (((rs.take i).map Prod.snd).foldl addB [Zb0 n]) r.2:=by rw [take_add_one,hr,map_append,foldl_append];rfl
  simp! only [rowD]
  refine ⟨⟨Zdy _,Zeo _,Ziw _,Zdr _,by rw [Zfn];decide⟩,?_⟩
  rw [Zqs]
  refine ite2 (λ c=>?_) (λ c=>?_)
  all_goals simp!
  ·refine ⟨⟨_,rfl⟩,_,rfl,Zat (by rw [lmp];omega),some (.d (tI r.1)),some (.d (tI r.2)),o6,?_⟩
   have hn:r.2 ∉ ((rs.take i).map Prod.snd).foldl addB [Zb0 n]:=by simpa using c
   rw [et]
   unfold addB at hn |-
   rw [if_neg hn,map_append];rfl
  ·refine ⟨some (.d (tI r.1)),some (.d (tI r.2)),o6,?_⟩
   have hn:r.2∈((rs.take i).map Prod.snd).foldl addB [Zb0 n]:=by simpa using c
   rw [et]
   unfold addB at hn |-
   rw [if_pos hn]
 rintro s ⟨o4,o5,o6,rfl⟩
 rw [lmp,take_length]
 have hl1:=Zg0 (rs.map Prod.snd) [Zb0 n]
 rw [lmp,length_singleton] at hl1
 generalize hF:(rs.map Prod.snd).foldl addB [Zb0 n]=F at *
 simp!
 refine ⟨λ i s=>∃ o4 o5 o6,s=⟨[some (.d (.tuple (rs.map rowD))),some (.d (.tuple (ss.map Zc9))),some (.d (.int (n:Nat))),some (.own p),o4,o5,o6],o.put p (.lst ((((ss.take i).map Prod.fst).foldl addB F).map tI))⟩,⟨o4,o5,o6,rfl⟩,λ _ _ _=>trivial,?_,?_⟩
 ·rintro i d s hd ⟨o4,o5,o6,rfl⟩
  obtain ⟨r,hr,rfl⟩:=Zdi hd
  have hlen:=Zg0 ((ss.take i).map Prod.fst) F
  have hti:((ss.take i).map Prod.fst).length≤26:=by rw [lmp,length_take];omega
  have et:((ss.take (i+1)).map Prod.fst).foldl addB F=addB (((ss.take i).map Prod.fst).foldl addB F) r.1:=by rw [take_add_one,hr,map_append,foldl_append];rfl
  simp! only [Zc9]
  refine ⟨⟨Zdy _,Zeo _,Ziw _,Zdr _,by rw [Zfn];decide⟩,?_⟩
  rw [Zqs]
  refine ite2 (λ c=>?_) (λ c=>?_)
  all_goals simp!
  ·refine ⟨⟨_,rfl⟩,_,rfl,Zat (by rw [lmp];omega),o4,some (.d (tI r.1)),some (.d (.int r.2)),?_⟩
   have hn:r.1 ∉ ((ss.take i).map Prod.fst).foldl addB F:=by simpa using c
   rw [et]
   unfold addB at hn |-
   rw [if_neg hn,map_append];rfl
  ·refine ⟨o4,some (.d (tI r.1)),some (.d (.int r.2)),?_⟩
   have hn:r.1∈((ss.take i).map Prod.fst).foldl addB F:=by simpa using c
   rw [et]
   unfold addB at hn |-
   rw [if_pos hn]
 ·rintro s ⟨o4,o5,o6,rfl⟩
  rw [lmp,take_length]
  simp!
  refine ⟨_,rfl,?_⟩
  rw [Zj1 hp]
  have eT:Zav n rs ss=(ss.map Prod.fst).foldl addB F:=by unfold Zav;rw [foldl_append];show _=_;rw [<- hF];rfl
  rw [eT] at hq
  exact ⟨_,OW.le.refl _,hq⟩
end
end Mine
namespace Mine
open PySem PySem.Spec PyProof.Rows L2
section
variable {P:Program}{w:World}{K:PySem.W.Frag}{mg:Str->Option Value}{base:Heap}
theorem Zjy {a b:List Int} (h:tI a=tI b):a=b:=by
 unfold tI at h
 exact (List.map_inj_right λ x y e=>by cases e;rfl).mp (PyData.tuple.inj h)
theorem Zwd {t t':Tst} (h:tstD t=tstD t'):t=t':=by
 obtain ⟨R,m⟩:=t
 obtain ⟨R',m'⟩:=t'
 unfold tstD at h
 have h1:=PyData.tuple.inj h
 simp only [List.cons.injEq,PyData.list.injEq,PyData.int.injEq,and_true] at h1
 obtain ⟨h2,h3⟩:=h1
 have h4:R=R':=(List.map_inj_right λ x y e=>(List.map_inj_right λ x y e=>by cases e;rfl).mp (PyData.list.inj e)).mp h2
 rw [h3,h4]
structure Meant (A:List Int) (t:Tst) (rs:List Rnd) (ss:List Sea):Prop where
 row:∀ r∈rs,Pri A.length r.1/\Win A r.2/\∀ c,Win A c->gainF t r.1 c≤gainF t r.1 r.2
 sea:∀ r∈ss,Win A r.1/\r.2=likedF t r.1
def Zgx:DSp:=urnS 200 (λ as=>∃ A M,as=[.d (tI A),.d (.int M)]/\Amt A/\0≤M/\M≤12) (λ as r=>∃ A M,as=[.d (tI A),.d (.int M)]/\∃ rs ss t,r = .tuple [Zbx rs,Zbb ss,tstD t]/\IsT A t/\Meant A t rs ss/\rs.length≤12/\ss.length≤12)
theorem Znm:MoS Zgx:=Ze2
theorem Znc:∀ vs w k,Zgx vs w k->vs.length=3:=Zex (n:=2) (by rintro vs ⟨A,M,rfl,_⟩;rfl)
theorem Zon (T:Txt K mg):Dn P w K mg base 3 "_law_meant" sLawMeant ["_law_urn_here", "_law_amounts_here", "_law_most"] (spD K Zgx):=by
 have D_law_bundle:=Zic (P:=P) (w:=w) (base:=base) T
 have D_law_draw:=Zcw (P:=P) (w:=w) (base:=base) T
 have D_law_liked:=Zjq (P:=P) (w:=w) (base:=base) T
 have D_law_prices:=Zie (P:=P) (w:=w) (base:=base) T
 have D_law_taste:=Zoq (P:=P) (w:=w) (base:=base) T
 have D_law_wanted:=Zn7 (P:=P) (w:=w) (base:=base) T
 refine Dn.data (k:=2) T.f_law_meant Zds Znc (λ a cdv A outer s H E hr=>⟨_,_,IPSs.get (Za4 (Zag (i:=3) Zds.nd rfl (Or.inl rfl) (Zac D_law_taste Zoa (hr.mono (by decide)) (Za0 (i_pv 0) (Za0 (i_pv 1) Za3))))
  (Za4 (Zl0 4 5 rfl Zds.nd (Za0 (Zbs Za3) (Za0 (Zbs Za3) Za3)))
  (Za4 (Zc6 PassesOwn.never rfl (Zbt rfl T.z_range (Za0 (Zac D_law_draw Zar (hr.mono (by decide)) (Za0 (i_pv 0) (Za0 (Zan Zco (Zbs (Za0 Za6 (Za0 Za6 (Za0 Za6 (Za0 (Zam Zct (i_pv 2) Za6) Za3))))) (Zac D_law_draw Zar (hr.mono (by decide)) (Za0 (i_pv 0) (Za0 Za6 Za3))) (λ _ _=>rfl)) Za3))) Za3)) (Zaf (i:=6) Zds.nd rfl (Or.inl rfl)) (Za4 (Zag (i:=7) Zds.nd rfl (Or.inl rfl) (Zac D_law_prices Zi8 (hr.mono (by decide)) (Za0 (i_pv 0) (Za0 (Zad Zaz rfl T.z_len boot_len (Za0 (i_pv 1) Za3)) Za3))))
  (Za9 (Zch (Zd7 plainAttrs_list PySem.F.slot_list_append PySem.F.type_list_append Zck (i_pv 4) (Za0 (Zaq (Za0 (i_pv 7) (Za0 (Zac D_law_wanted Zn1 (hr.mono (by decide)) (Za0 (i_pv 0) (Za0 (i_pv 3) (Za0 (i_pv 1) (Za0 (i_pv 7) Za3))))) Za3))) Za3))))))
  (Za4 (Zc6 PassesOwn.never rfl (Zbt rfl T.z_range (Za0 (Zac D_law_draw Zar (hr.mono (by decide)) (Za0 (i_pv 0) (Za0 (Zan Zco (Zbs (Za0 Za6 (Za0 Za6 (Za0 Za6 (Za0 (Zam Zct (i_pv 2) Za6) Za3))))) (Zac D_law_draw Zar (hr.mono (by decide)) (Za0 (i_pv 0) (Za0 Za6 Za3))) (λ _ _=>rfl)) Za3))) Za3)) (Zaf (i:=6) Zds.nd rfl (Or.inl rfl)) (Za4 (Zag (i:=8) Zds.nd rfl (Or.inl rfl) (Zac D_law_bundle Zi6 (hr.mono (by decide)) (Za0 (i_pv 0) (Za0 (i_pv 1) Za3))))
  (Za9 (Zbg (IPW.pt (Ze6 (Zal Zsi (Zad (Zfy true rfl) rfl T.z_max boot_max (Za0 (i_pv 8) Za3)) Za6 (nomark _)) (Ze1 (Zal (Zg4 hr.units) (i_pv 8) (by refine' Zb2 (Nc:=["_law_one", "_law_paid"]) (cap:=[none,none]) rfl ?i ?k ?g ?t ?e;(case k=>kernel_rfl);(case i=>exact (Zd3 (i_pv 5)));(case g=>exact (λ _ _ _ _ _=>(Zc4 (K:=K) rfl (n:=2) rfl (Za8 (Zc3 0 (by show List.Nodup (["_law_one", "_law_paid"]:List Str);decide +kernel)) (Za8 (Zc3 1 (by show List.Nodup (["_law_one", "_law_paid"]:List Str);decide +kernel)) Zau)))));(case t=>exact (λ _ _ _ _ _=>Zb1));(case e=>exact (λ _ _ _ _ _=>(Zc7 0)))) rfl)))) (Za9 (Zch (Zd7 plainAttrs_list PySem.F.slot_list_append PySem.F.type_list_append Zck (i_pv 5) (Za0 (Zaq (Za0 (i_pv 8) (Za0 (Zac D_law_liked Zjn (hr.mono (by decide)) (Za0 (i_pv 3) (Za0 (i_pv 8) Za3))) Za3))) Za3)))) Zap))))
  (Za9 (Zaj (Zaq (Za0 (Zb9 Zb5 rfl T.z_tuple (by decide +kernel) (Za0 (i_pv 4) Za3)) (Za0 (Zb9 Zb5 rfl T.z_tuple (by decide +kernel) (Za0 (i_pv 5) Za3)) (Za0 (i_pv 3) Za3)))))))))),(Zab (Zas (Zak Zno (Za1 (Za2 0) (Za1 (Za2 1) Za5))) (Za7 3))
  (Zab (Zuf (Za1 (Zcx true Za5) (Za1 (Zcx true Za5) Za5)))
  (Zab (Zde (Zdk (Za1 (Zak Zao (Za1 (Za2 0) (Za1 (Zah Zdw (Zcx false (Za1 Zae (Za1 Zae (Za1 Zae (Za1 (Zah Zdx (Za2 2) Zae) Za5))))) (Zak Zao (Za1 (Za2 0) (Za1 Zae Za5)))) Za5))) Za5)) (Za7 6) (Zab (Zas (Zak Zhr (Za1 (Za2 0) (Za1 (Zbo Zdd (Za1 (Za2 1) Za5)) Za5))) (Za7 7))
  (Zdl (Zec (Za2 4) (Za1 (Zbq (Za1 (Za2 7) (Za1 (Zak Zmc (Za1 (Za2 0) (Za1 (Za2 3) (Za1 (Za2 1) (Za1 (Za2 7) Za5))))) Za5))) Za5)))))
  (Zab (Zde (Zdk (Za1 (Zak Zao (Za1 (Za2 0) (Za1 (Zah Zdw (Zcx false (Za1 Zae (Za1 Zae (Za1 Zae (Za1 (Zah Zdx (Za2 2) Zae) Za5))))) (Zak Zao (Za1 (Za2 0) (Za1 Zae Za5)))) Za5))) Za5)) (Za7 6) (Zab (Zas (Zak Zhq (Za1 (Za2 0) (Za1 (Za2 1) Za5))) (Za7 8))
  (Zd4 (Zhb (Zb3 (Zah Zha (Zbo (Zjk true) (Za1 (Za2 8) Za5)) Zae)) (Zb3 (Zah Zll (Za2 8) (Zbl false (Ze8 (Za2 5)) (Zcb (Zaa (Za7 0) (Zaa (Za7 1) Zbp))) Zcc (Zbm (Za2 0)))))) (Zdl (Zec (Za2 5) (Za1 (Zbq (Za1 (Za2 8) (Za1 (Zak Ziq (Za1 (Za2 3) (Za1 (Za2 8) Za5))) Za5))) Za5))) Zbc)))
  (Zb6 (Zbq (Za1 (Zbo Zcm (Za1 (Za2 4) Za5)) (Za1 (Zbo Zcm (Za1 (Za2 5) Za5)) (Za1 (Za2 3) Za5))))))))),λ as o q h=>?_⟩)
 obtain ⟨u,as,m,rfl,hw,hm,⟨A,M,rfl,hA,hM0,hM12⟩,hq⟩:=Zey h
 have hA1:=hA.1
 have hA2:=hA.2.1
 rw [hw]
 simp!
 refine Zdz (by omega) ⟨A,rfl,hA⟩ ?_
 rintro r ⟨A',e',t,rfl,hT⟩
 simp!
 have eA:A=A':=Zjy (by simpa using e')
 subst eA
 refine ⟨by decide,λ p1 hp1=>⟨by decide,λ p2 hp2=>?_⟩⟩
 have n1:p1≠u:=λ e=>by rw [e,OW.put_same] at hp1;cases hp1
 have n21:p2≠p1:=λ e=>by rw [e,OW.put_same] at hp2;cases hp2
 have hp2':=hp2
 rw [OW.put_ne n21] at hp2'
 have n2:p2≠u:=λ e=>by rw [e,OW.put_same] at hp2';cases hp2'
 have eW:∀ (X Y:Own) (j:Nat),((o.put u (.urn j)).put p1 X).put p2 Y=((o.put p1 X).put p2 Y).put u (.urn j):=λ X Y j=>by rw [Zdu n1,Zdu n2]
 have g1:∀ (X Y:Own) (j:Nat),(((o.put p1 X).put p2 Y).put u (.urn j)) p1=some X:=λ X Y j=>by rw [OW.put_ne n1,OW.put_ne (Ne.symm n21),OW.put_same]
 have g2:∀ (X Y:Own) (j:Nat),(((o.put p1 X).put p2 Y).put u (.urn j)) p2=some Y:=λ X Y j=>by rw [OW.put_ne n2,OW.put_same]
 have s1:∀ (X Y Z:Own) (j:Nat),(((o.put p1 X).put p2 Y).put u (.urn j)).put p1 Z=((o.put p1 Z).put p2 Y).put u (.urn j):=λ X Y Z j=>by rw [Zdu n1,Zdu (Ne.symm n21),OW.put_put]
 have s2:∀ (X Y Z:Own) (j:Nat),(((o.put p1 X).put p2 Y).put u (.urn j)).put p2 Z=((o.put p1 X).put p2 Z).put u (.urn j):=λ X Y Z j=>by rw [Zdu n2,OW.put_put]
 rw [eW]
 simp! only [dComp,dApp,gMax]
 refine ⟨L2.sz4,Zc1 (by omega) (by decide) (by decide) λ d h0 h3=>?_⟩
 simp!
 have key:∃ wd:Int,atI [PyData.int 3,PyData.int 5,PyData.int 7,PyData.int (M+1)] d=some (.int wd)/\0<wd/\wd≤13:=by
  have:d=0 \/ d=1 \/ d=2 \/ d=3:=by omega
  rcases this with rfl|rfl|rfl|rfl
  ·exact ⟨3,rfl,by decide,by decide⟩
  ·exact ⟨5,rfl,by decide,by decide⟩
  ·exact ⟨7,rfl,by decide,by decide⟩
  ·exact ⟨M+1,rfl,by omega,by omega⟩
 obtain ⟨wd,ewd,wd0,wd1⟩:=key
 refine ⟨_,ewd,Zc1 (by omega) wd0 (by omega) λ n hn0 hn1=>?_⟩
 simp!
 refine ⟨⟨by omega,by omega⟩,?_⟩
 refine ⟨λ i s=>∃ (o6 o7:Option Val) (rs:List Rnd) (m':Nat),s=⟨[some (.own u),some (.d (tI A)),some (.d (.int M)),some (.d (tstD t)),some (.own p1),some (.own p2),o6,o7,none],((o.put p1 (.lst (rs.map rowD))).put p2 (.lst [])).put u (.urn m')⟩/\rs.length=i/\Meant A t rs []/\m'≤m+22+5*i,⟨none,none,[],m+22,rfl,rfl,⟨by simp,by simp⟩,by omega⟩,λ _ _ _=>trivial,?_,?_⟩
 ·rintro i d s hd ⟨o6,o7,rs,m',rfl,hrs,hM,hm'⟩
  have hin:i<n.toNat:=by
   obtain ⟨hi,_⟩:=List.getElem?_eq_some_iff.mp hd
   simpa [rngD] using hi
  simp! only [tI,lmp]
  refine Zdz (by omega) ⟨A.length,rfl,hA2⟩ ?_
  rintro r ⟨k',e',P,rfl,hP⟩
  simp!
  have ek:A.length=k':=by
   have:(A.length:Int)=(k':Int):=by simpa using e'
   omega
  subst ek
  simp!
  refine ⟨⟨_,g1 _ _ _⟩,?_⟩
  refine Zdz (by omega) ⟨A,t,P,rfl,hA,hT,hP⟩ ?_
  rintro r ⟨A',t',P',e',_,b,rfl,hb1,hb2⟩
  simp!
  simp only [List.cons.injEq,Val.d.injEq,and_true] at e'
  obtain ⟨e1,e2,e3⟩:=e'
  have e1:=Zwd e1
  have e2:=Zjy e2
  have e3:=Zjy e3
  subst e1 e2 e3
  simp!
  refine ⟨L2.sz2,_,g1 _ _ _,Zat (by rw [lmp];omega),some (.d d),some (.d (tI P)),rs++[(P,b)],m' + 5,?_,by simp [hrs],⟨λ r hr=>?_,by simp⟩,by omega⟩
  ·rw [s1,map_append];rfl
  ·rcases mem_append.mp hr with hr|hr
   ·exact hM.row r hr
   ·rw [mem_singleton.mp hr];exact ⟨hP,hb1,hb2⟩
 ·rintro s ⟨o6,o7,rs,m',rfl,hrs,hM,hm'⟩
  have hrs12:rs.length≤12:=by rw [hrs];simp [rngD];omega
  have hm2:m'≤m+82:=by rw [<- hrs] at hm';omega
  simp!
  refine ⟨L2.sz4,Zc1 (by omega) (by decide) (by decide) λ d h0 h3=>?_⟩
  simp!
  have key:∃ wd:Int,atI [PyData.int 1,PyData.int 3,PyData.int 5,PyData.int (M+1)] d=some (.int wd)/\0<wd/\wd≤13:=by
   have:d=0 \/ d=1 \/ d=2 \/ d=3:=by omega
   rcases this with rfl|rfl|rfl|rfl
   ·exact ⟨1,rfl,by decide,by decide⟩
   ·exact ⟨3,rfl,by decide,by decide⟩
   ·exact ⟨5,rfl,by decide,by decide⟩
   ·exact ⟨M+1,rfl,by omega,by omega⟩
  obtain ⟨wd,ewd,wd0,wd1⟩:=key
  refine ⟨_,ewd,Zc1 (by omega) wd0 (by omega) λ n hn0 hn1=>?_⟩
  simp!
  refine ⟨⟨by omega,by omega⟩,?_⟩
  refine ⟨λ i s=>∃ (o6 o8:Option Val) (ss:List Sea) (m2:Nat),s=⟨[some (.own u),some (.d (tI A)),some (.d (.int M)),some (.d (tstD t)),some (.own p1),some (.own p2),o6,o7,o8],((o.put p1 (.lst (rs.map rowD))).put p2 (.lst (ss.map Zc9))).put u (.urn m2)⟩/\ss.length≤i/\Meant A t rs ss/\m2≤m+84+5*i,⟨o6,none,[],_,rfl,by simp,hM,by omega⟩,λ _ _ _=>trivial,?_,?_⟩
  ·rintro i d s hd ⟨o6,o8,ss,m2,rfl,hss,hM2,hm2⟩
   have hin:i<n.toNat:=by
    obtain ⟨hi,_⟩:=List.getElem?_eq_some_iff.mp hd
    simpa [rngD] using hi
   simp!
   refine Zdz (by omega) ⟨A,rfl,hA⟩ ?_
   rintro r ⟨A',e',b,rfl,hb⟩
   simp!
   have eA:A=A':=Zjy (by simpa using e')
   subst eA
   have hbl:=hb.1
   simp! only [tI,uIs_map]
   refine ⟨λ e=>by rw [e] at hbl;simp at hbl;omega,λ mx hmx hle=>?_⟩
   refine ite2 (λ c=>?_) (λ c=>?_)
   all_goals simp!
   ·refine ⟨_,g2 _ _ _,?_⟩
    refine Zc5 ss Zc9 (λ r=>tI r.1) [] rfl (g2 _ _ _) (Zat (by simp;omega)) ?_ ?_
    ·intro r hr Q hQ
     simp! only [Zc9]
     exact hQ
    ·simp!
     have ed:(ss.map λ r=>tI r.1)=(ss.map Prod.fst).map tI:=by rw [map_map];rfl
     rw [ed]
     refine ⟨⟨Zdy b,Zeo _,Ziw b,Zdr _,by have:=Zfn b;unfold tI at this;rw [this];decide⟩,?_⟩
     refine ite2 (λ c=>?_) (λ c=>?_)
     all_goals simp!
     ·refine ⟨⟨_,g2 _ _ _⟩,_,⟨A,t,b,rfl,hA,hT,hb,rfl⟩,?_⟩
      simp!
      refine ⟨L2.sz2,_,g2 _ _ _,Zat (by rw [lmp];omega),some (.d d),some (.d (tI b)),ss++[(b,likedF t b)],m2+5,?_,by simp;omega,⟨hM2.row,λ r hr=>?_⟩,by omega⟩
      ·rw [s2,map_append];rfl
      ·rcases mem_append.mp hr with hr|hr
       ·exact hM2.sea r hr
       ·rw [mem_singleton.mp hr];exact ⟨hb,rfl⟩
     ·exact ⟨some (.d d),some (.d (tI b)),ss,m2+5,rfl,by omega,hM2,by omega⟩
   ·exact ⟨some (.d d),some (.d (tI b)),ss,m2+5,rfl,by omega,hM2,by omega⟩
  ·rintro s ⟨o6,o8,ss,m2,rfl,hss,hM2,hm2⟩
   have hn12:(rngD 0 n.toNat).length≤12:=by simp [rngD];omega
   simp!
   rw [g1,g2]
   refine ⟨L2.sz3,?_⟩
   obtain ⟨w',hle,hw'⟩:=hq (.tuple [Zbx rs,Zbb ss,tstD t]) m2 ⟨A,M,rfl,rs,ss,t,rfl,hT,hM2,hrs12,by omega⟩ (by omega)
   refine ⟨w',?_,hw'⟩
   rw [<- eW]
   have q1:(o.put u (.urn m2)) p1=none:=by rw [OW.put_ne n1] at hp1 |-;exact hp1
   have q2:((o.put u (.urn m2)).put p1 (.lst (rs.map rowD))) p2=none:=by rw [OW.put_ne n21,OW.put_ne n2];rw [OW.put_ne n2] at hp2';exact hp2'
   exact OW.le.new (OW.le.new hle q1 _) q2 _
end
end Mine
namespace Mine
open PySem PySem.Spec PyProof.Rows L2
section
variable {P:Program}{w:World}{K:PySem.W.Frag}{mg:Str->Option Value}{base:Heap}
theorem Zup:∀ l:List Int,(∀ x∈l,0≤x)->0≤l.sum
 | [],_=>by simp
 | x::l,h=>by
  rw [sum_cons]
  have:=h x (mem_cons_self ..)
  have:=Zup l λ y hy=>h y (mem_cons_of_mem _ hy)
  omega
theorem Zuo {c:Int}:∀ l:List Int,(∀ x∈l,x≤c)->l.sum≤c*l.length
 | [],_=>by simp
 | x::l,h=>by
  rw [sum_cons,length_cons]
  have h1:=h x (mem_cons_self ..)
  have h2:=Zuo l λ y hy=>h y (mem_cons_of_mem _ hy)
  have:c*((l.length+1:Nat):Int)=c*l.length+c:=by rw [Int.natCast_add,Int.mul_add];simp
  omega
theorem Zkc {A:List Int}{t:Tst} (hT:IsT A t) (b:List Int):0≤likedF t b:=by
 unfold likedF
 have h1:0≤((t.1.zip b).map λ p=>(p.1.take p.2.toNat).sum).sum:=Zup _ λ x hx=>by
  obtain ⟨p,hp,rfl⟩:=mem_map.mp hx
  exact Zup _ λ y hy=>((hT.2.1 p.1 (of_mem_zip hp).1).2 y (mem_of_mem_take hy)).1
 have h2:=hT.2.2.1
 split <;> omega
theorem Zni {A:List Int}{t:Tst} (hA:Amt A) (hT:IsT A t) (b:List Int):likedF t b≤39000:=by
 unfold likedF
 have h1:=Zuo (c:=12000) ((t.1.zip b).map λ p=>(p.1.take p.2.toNat).sum) λ x hx=>by
  obtain ⟨p,hp,rfl⟩:=mem_map.mp hx
  have h3:=hT.2.1 p.1 (of_mem_zip hp).1
  have h4:=Zuo (c:=3000) (p.1.take p.2.toNat) λ y hy=>(h3.2 y (mem_of_mem_take hy)).2
  have h5:(p.1.take p.2.toNat).length≤4:=by rw [length_take];omega
  omega
 have h2:=hT.2.2.2
 have h3:=hT.1
 have h4:=hA.2.1
 rw [lmp,length_zip] at h1
 split <;> omega
theorem Meant.told {A:List Int}{t:Tst}{rs:List Rnd}{ss:List Sea} (hA:Amt A) (h:Meant A t rs ss):∀ b∈Zav A.length rs ss,Win A b:=λ b hb=>by
 rcases Zbz.mp hb with rfl|⟨r,hr,rfl⟩|⟨r,hr,rfl⟩
 ·exact Zo5 hA
 ·exact (h.row r hr).2.1
 ·exact (h.sea r hr).1
theorem Meant.sub {A:List Int}{t:Tst}{rs rs':List Rnd}{ss ss':List Sea} (h:Meant A t rs ss) (h1:∀ r∈rs',r∈rs) (h2:∀ r∈ss',r∈ss):Meant A t rs' ss':=⟨λ r hr=>h.row r (h1 r hr),λ r hr=>h.sea r (h2 r hr)⟩
structure Fine (k:Nat) (rs:List Rnd) (ss:List Sea):Prop where
 h:Hist k rs ss
 r:Right k rs ss
 up:∀ b∈Zav k rs ss,Zcf k rs ss b≤2 ^ 90
def pairD (f:List Int->Int) (b:List Int):PyData:=.tuple [tI b,.int (f b)]
theorem Zqr (k:Nat) (rs:List Rnd) (ss:List Sea):Zkj k rs ss = .tuple ((Zav k rs ss).map (pairD (Zcf k rs ss))):=rfl
theorem Zsn {b:List Int} (h:Sm b) (hl:b.length≤3):Rp 1 303 (tI b):=(Rp.tI h).mono (le_refl _) (by omega)
theorem told27 {k:Nat}{rs:List Rnd}{ss:List Sea} (h:Hist k rs ss):(Zav k rs ss).length≤27:=by
 have:=Zo2 (k:=k) (rs:=rs) (ss:=ss)
 have:=h.rl
 have:=h.sl
 omega
theorem Zyn {k:Nat}{rs:List Rnd}{ss:List Sea} (h:Hist k rs ss):okR (.list ((Zav k rs ss).map tI)):=
 (Rp.lst (Rps.map (Zav k rs ss) λ b hb=>Zsn (h.told b hb).2 (by have:=h.k3;have:=(h.told b hb).1;omega))).ok (by decide) (by have:=told27 h;omega)
theorem Zte (l:List (List Int)) {b:List Int} (h:b∈l):∃ j,(l.map tI).findIdx? (λ z=>PyData.eqv z (tI b))=some j/\∃ hj:j<l.length,l[j]=b:=by
 cases e:(l.map tI).findIdx? (λ z=>PyData.eqv z (tI b)) with
 | none=>
  have:=List.findIdx?_eq_none_iff.mp e (tI b) (mem_map_of_mem h)
  rw [Zi0 b b] at this
  simp at this
 | some j=>
  obtain ⟨hj,h1,_⟩:=List.findIdx?_eq_some_iff_getElem.mp e
  refine ⟨j,rfl,by rw [lmp] at hj;exact hj,?_⟩
  rw [getElem_map,Zi0] at h1
  simpa using h1
def Zee:DSp:=pureS λ vs r=>∃ k rs ss,vs=[.d (Zkj k rs ss),.d (Zbx rs),.d (Zbb ss),.d (.int (k:Nat))]/\Fine k rs ss/\r = .bool true
theorem Zip:MoS Zee:=Zcd
theorem Zil:∀ vs w k,Zee vs w k->vs.length=4:=Zce (by rintro vs r ⟨k,rs,ss,rfl,_⟩;rfl)
theorem Zj3 (T:Txt K mg):Dn P w K mg base 2 "_law_are_worths" sLawAreWorths ["_law_row", "_law_rows", "_law_seals", "_law_several"] (spD K Zee):=by
 have D_law_cost:=Zf4 (P:=P) (w:=w) (base:=base) T
 have D_law_told:=Zga (P:=P) (w:=w) (base:=base) T
 have D_law_whole:=Zjr (P:=P) (w:=w) (base:=base) T
 refine Dn.data (k:=1) T.f_law_are_worths Zcl Zil (λ a cdv A outer s H E hr=>⟨_,_,IPSs.get (Za4 (Zag (i:=4) Zcl.nd rfl (Or.inl rfl) (Zac D_law_told Zg8 (hr.mono (by decide)) (Za0 (i_pv 1) (Za0 (i_pv 2) (Za0 (i_pv 3) Za3)))))
  (Za4 (Zbg (IPW.pt (Zgg (Zdo (Zdt (Zad Zff rfl T.z_isinstance boot_isinstance (Za0 (i_pv 0) (Za0 (Zem (v:=.ty "tuple") rfl T.z_tuple (by decide +kernel) rfl) Za3))))) (Zfk (Zal Zpa (Zad Zaz rfl T.z_len boot_len (Za0 (i_pv 0) Za3)) (Zad Zaz rfl T.z_len boot_len (Za0 (i_pv 4) Za3)) (nomark _))))) (Za9 (Zaj (Zd0))) Zap)
  (Za4 (Zbg (Zdo (Zdt (Zad (Zi9 rfl) rfl T.z_all boot_all (Za0 (by refine' Zb2 (Nc:=["_law_one"]) (cap:=[none]) rfl ?i ?k ?g ?t ?e;(case k=>kernel_rfl);(case i=>exact (Zbu (i_pv 0)));(case g=>exact (λ _ _ _ _ _=>(Zc3 0 (by show List.Nodup (["_law_one"]:List Str);decide +kernel))));(case t=>exact (λ _ _ _ _ _=>Zb1));(case e=>exact (λ _ _ _ _ _=>(Zfh (Zad (Zsv (K:=K) rfl) Zcz T.z_isinstance boot_isinstance (Za0 (Zc7 0) (Za0 (Zem (v:=.ty "tuple") Zcz T.z_tuple (by decide +kernel) rfl) Za3))) (Zfh (Zdq Zea (Zad (Zn2 (K:=K) rfl) Zcz T.z_len boot_len (Za0 (Zc7 0) Za3)) Za6 (nomark _)) (Zgf (Zac D_law_whole Zgr (hr.mono (by decide)) (Za0 (Zan (Zjc (K:=K) rfl) (Zc7 0) Za6 (λ _ _=>rfl)) Za3) (hg:=Zcz)))))))) Za3)))) (Za9 (Zaj (Zd0))) Zap)
  (Za4 (Zbg (IPW.pt (Zgg (Zal Zpa (Zad (Zmf hr.gd hr.units) rfl T.z_repr boot_repr (Za0 (by refine' Zb2 (Nc:=["_law_one", "_law_worth"]) (cap:=[none,none]) rfl ?i ?k ?g ?t ?e;(case k=>kernel_rfl);(case i=>exact (Zbu (i_pv 0)));(case g=>exact (λ _ _ _ _ _=>(Zc4 (K:=K) rfl (n:=2) rfl (Za8 (Zc3 0 (by show List.Nodup (["_law_one", "_law_worth"]:List Str);decide +kernel)) (Za8 (Zc3 1 (by show List.Nodup (["_law_one", "_law_worth"]:List Str);decide +kernel)) Zau)))));(case t=>exact (λ _ _ _ _ _=>Zb1));(case e=>exact (λ _ _ _ _ _=>(Zc7 0)))) Za3)) (Zad (Zmf hr.gd hr.units) rfl T.z_repr boot_repr (Za0 (i_pv 4) Za3)) (nomark _)) (Zfk (Zal Zpa (Zan Zc0 (Zan Zc0 (i_pv 0) Za6 (λ _ _=>rfl)) Za6 (λ _ _=>rfl)) Za6 (nomark _))))) (Za9 (Zaj (Zd0))) Zap)
  (Za4 (Zbg (Zal Znr (Zad (Zko false rfl) rfl T.z_min boot_min (Za0 (by refine' Zb2 (Nc:=["_law_one", "_law_worth"]) (cap:=[none,none]) rfl ?i ?k ?g ?t ?e;(case k=>kernel_rfl);(case i=>exact (Zbu (i_pv 0)));(case g=>exact (λ _ _ _ _ _=>(Zc4 (K:=K) rfl (n:=2) rfl (Za8 (Zc3 0 (by show List.Nodup (["_law_one", "_law_worth"]:List Str);decide +kernel)) (Za8 (Zc3 1 (by show List.Nodup (["_law_one", "_law_worth"]:List Str);decide +kernel)) Zau)))));(case t=>exact (λ _ _ _ _ _=>Zb1));(case e=>exact (λ _ _ _ _ _=>(Zc7 1)))) Za3)) Za6 (nomark _)) (Za9 (Zaj (Zd0))) Zap)
  (Za4 (Zc6 PassesOwn.never rfl (Zbu (i_pv 2)) (Zcj (n:=2) rfl (Za8 (Zaf (i:=5) Zcl.nd rfl (Or.inl rfl)) (Za8 (Zaf (i:=6) Zcl.nd rfl (Or.inl rfl)) Zau))) (Za9 (Zbg (Zal Zpa (Zan Zc0 (Zan Zc0 (i_pv 0) (Zd7 plainAttrs_list slot_list_index PySem.F.type_list_index (Zrc hr.units) (i_pv 4) (Za0 (i_pv 5) Za3)) (λ _ _=>rfl)) Za6 (λ _ _=>rfl)) (i_pv 6) (nomark _)) (Za9 (Zaj (Zd0))) Zap)))
  (Za4 (Zc6 PassesOwn.never rfl (Zbu (i_pv 1)) (Zcj (n:=2) rfl (Za8 (Zaf (i:=7) Zcl.nd rfl (Or.inr rfl)) (Za8 (Zaf (i:=5) Zcl.nd rfl (Or.inl rfl)) Zau))) (Za4 (Zag (i:=8) Zcl.nd rfl (Or.inl rfl) (Zam Zhs (Zan Zc0 (Zan Zc0 (i_pv 0) (Zd7 plainAttrs_list slot_list_index PySem.F.type_list_index (Zrc hr.units) (i_pv 4) (Za0 (i_pv 5) Za3)) (λ _ _=>rfl)) Za6 (λ _ _=>rfl)) (Zac D_law_cost Zdp (hr.mono (by decide)) (Za0 (i_pv 7) (Za0 (i_pv 5) Za3)))))
  (Za9 (Zbg (Zal Zsi (Zad (Zfy false rfl) rfl T.z_max boot_max (Za0 (by refine' Zb2 (Nc:=["_law_one", "_law_worth", "_law_prices_here"]) (cap:=[none,none,some 7]) rfl ?i ?k ?g ?t ?e;(case k=>kernel_rfl);(case i=>exact (Zbu (i_pv 0)));(case g=>exact (λ _ _ _ _ _=>(Zc4 (K:=K) rfl (n:=2) rfl (Za8 (Zc3 0 (by show List.Nodup (["_law_one", "_law_worth", "_law_prices_here"]:List Str);decide +kernel)) (Za8 (Zc3 1 (by show List.Nodup (["_law_one", "_law_worth", "_law_prices_here"]:List Str);decide +kernel)) Zau)))));(case t=>exact (λ _ _ _ _ _=>Zb1));(case e=>exact (λ _ _ _ _ _=>(Zam Zhs (Zc7 1) (Zac D_law_cost Zdp (hr.mono (by decide)) (Za0 (Ze0 2) (Za0 (Zc7 0) Za3)) (hg:=Zcz)))))) Za3)) (i_pv 8) (nomark _)) (Za9 (Zaj (Zd0))) Zap))))
  (Za9 (Zaj (Zd0)))))))))),(Zab (Zas (Zak Zfl (Za1 (Za2 1) (Za1 (Za2 2) (Za1 (Za2 3) Za5)))) (Za7 4))
  (Zab (Zd4 (Znv (Zfm (rt_b (Zbo Zju (Za1 (Za2 0) (Za1 Zpd Za5))))) (Zb3 (Zah Zpe (Zbo Zdd (Za1 (Za2 0) Za5)) (Zbo Zdd (Za1 (Za2 4) Za5))))) (Zb6 Zfd) Zbc)
  (Zab (Zd4 (Zfm (rt_b (Zbo Zrj (Za1 (Zbl false (Zcq (Za2 0)) (Za7 0) Zcc (Zbm (Zh9 (Zbo Zju (Za1 (Za2 0) (Za1 Zpd Za5))) (Zh9 (Zah Zeb (Zbo Zdd (Za1 (Za2 0) Za5)) Zae) (Zak Zgl (Za1 (Zah Zby (Za2 0) Zae) Za5)))))) Za5)))) (Zb6 Zfd) Zbc)
  (Zab (Zd4 (Znv (Zb3 (Zah Zpe (Zbo Zu6 (Za1 (Zbl false (Zcq (Za2 0)) (Zcb (Zaa (Za7 0) (Zaa (Za7 1) Zbp))) Zcc (Zbm (Za2 0))) Za5)) (Zbo Zu6 (Za1 (Za2 4) Za5)))) (Zb3 (Zah Zpe (Zah Zby (Zah Zby (Za2 0) Zae) Zae) Zae))) (Zb6 Zfd) Zbc)
  (Zab (Zd4 (Zb3 (Zah Zha (Zbo (Zqi false) (Za1 (Zbl false (Zcq (Za2 0)) (Zcb (Zaa (Za7 0) (Zaa (Za7 1) Zbp))) Zcc (Zbm (Za2 1))) Za5)) Zae)) (Zb6 Zfd) Zbc)
  (Zab (Zde (Zcq (Za2 2)) (Zcb (Zaa (Za7 5) (Zaa (Za7 6) Zbp))) (Zd4 (Zb3 (Zah Zpe (Zah Zby (Zah Zby (Za2 0) (Zx0 (Za2 4) (Za1 (Za2 5) Za5))) Zae) (Za2 6))) (Zb6 Zfd) Zbc))
  (Zab (Zde (Zcq (Za2 1)) (Zcb (Zaa (Za7 7) (Zaa (Za7 5) Zbp))) (Zab (Zas (Zah Zdx (Zah Zby (Zah Zby (Za2 0) (Zx0 (Za2 4) (Za1 (Za2 5) Za5))) Zae) (Zak Zdc (Za1 (Za2 7) (Za1 (Za2 5) Za5)))) (Za7 8))
  (Zd4 (Zb3 (Zah Zha (Zbo (Zjk false) (Za1 (Zbl false (Zcq (Za2 0)) (Zcb (Zaa (Za7 0) (Zaa (Za7 1) Zbp))) Zcc (Zbm (Zah Zdx (Za2 1) (Zak Zdc (Za1 (Za2 2) (Za1 (Za2 0) Za5)))))) Za5)) (Za2 8))) (Zb6 Zfd) Zbc)))
  (Zb6 Zfd)))))))),λ as o q h=>?_⟩)
 obtain ⟨r,⟨n,rs,ss,rfl,F,rfl⟩,hq⟩:=h
 have h27:=told27 F.h
 have hne:Zav n rs ss≠[]:=by rw [Zet];simp
 generalize hl:Zav n rs ss=l at *
 rw [Zqr,hl]
 simp! only [tyN]
 refine ⟨_,⟨n,rs,ss,rfl,F.h,rfl⟩,?_⟩
 rw [hl]
 simp!
 refine ⟨true,λ _=>rfl,?_⟩
 simp! only [lmp,decide_true,dComp]
 refine Zc5 l (pairD (Zcf n rs ss)) (λ _=>.bool true) [] rfl trivial (Zat (by simp only [length_nil];omega)) ?_ ?_
 ·intro b hb Q hQ
  simp! only [pairD,tyN]
  refine ⟨true,λ _=>rfl,?_⟩
  simp! only [decide_true]
  exact ⟨_,rfl,_,⟨_,rfl,rfl⟩,hQ⟩
 rw [nil_append,Zkg l (λ _=>true)]
 have eall:(l.map λ _=>true).all id=true:=by simp
 simp! only [eall]
 refine Zc5 l (pairD (Zcf n rs ss)) tI [] rfl trivial (Zat (by simp only [length_nil];omega)) ?_ ?_
 ·intro b hb Q hQ
  simp! only [pairD]
  exact hQ
 simp! only [decide_true]
 have hrp:=Zyn F.h
 rw [hl] at hrp
 refine ⟨rfl,hrp,rfl,hrp,?_⟩
 have hc:l=Zb0 n::l.tail:=by rw [<- hl];exact Zet n rs ss
 refine ⟨pairD (Zcf n rs ss) (Zb0 n),?_,?_⟩
 ·rw [hc];exact Zcy (j:=0) rfl
 simp! only [pairD]
 refine ⟨_,rfl,?_⟩
 rw [F.r.zero]
 simp! only [decide_true]
 refine Zc5 l (pairD (Zcf n rs ss)) (λ b=>.int (Zcf n rs ss b)) [] rfl trivial (Zat (by simp only [length_nil];omega)) ?_ ?_
 ·intro b hb Q hQ
  simp! only [pairD]
  exact hQ
 simp! only [gMin]
 rw [Zhn]
 refine ⟨by simpa using hne,λ mn hmn _=>?_⟩
 obtain ⟨b0,hb0,rfl⟩:=mem_map.mp hmn
 have hnn:=F.r.nn b0 (by rw [hl];exact hb0)
 refine ite2 (λ c=>?_) (λ _=>?_)
 ·have:Zcf n rs ss b0<0:=by simpa using c
  omega
 simp! only [dIdx,Zbb]
 have hix:∀ b∈l,∃ j,(l.map tI).findIdx? (λ z=>PyData.eqv z (tI b))=some j/\atI (l.map (pairD (Zcf n rs ss))) (j:Int)=some (pairD (Zcf n rs ss) b):=λ b hb=>by
  obtain ⟨j,h1,hj,h2⟩:=Zte l hb
  exact ⟨j,h1,Zcy (by rw [getElem?_map,gEq hj,h2];rfl)⟩
 have hlay:∀ b:List Int,(tI b).hasDict=false/\PyData.hasDictAll (l.map tI)=false/\(tI b).canLay0=true/\PyData.canLayAll0 (l.map tI)=true/\(tI b).depth≤30:=λ b=>⟨Zdy _,Zeo _,Ziw _,Zdr _,by rw [Zfn];decide⟩
 refine ⟨λ i s=>∃ (o5 o6:Option Val),s=⟨[some (.d (.tuple (l.map (pairD (Zcf n rs ss))))),some (.d (Zbx rs)),some (.d (.tuple (ss.map Zc9))),some (.d (.int (n:Nat))),some (.d (.list (l.map tI))),o5,o6,none,none],o⟩,⟨none,none,rfl⟩,λ _ _ _=>trivial,?_,?_⟩
 ·rintro i d s hd ⟨o5,o6,rfl⟩
  obtain ⟨r,hr,rfl⟩:=Zdi hd
  have hrm:=mem_of_getElem? hr
  obtain ⟨j,hj1,hj2⟩:=hix r.1 (by rw [<- hl];exact Zbz.mpr (.inr (.inr ⟨r,hrm,rfl⟩)))
  simp! only [Zc9,isSome_some]
  refine ⟨hlay _,j,hj1,_,hj2,?_⟩
  simp! only [pairD]
  refine ⟨_,rfl,?_⟩
  rw [F.r.sea r hrm]
  simp! only [decide_true]
  exact ⟨some (.d (tI r.1)),some (.d (.int r.2)),rfl⟩
 rintro s ⟨o5,o6,rfl⟩
 simp! only [Zbx]
 refine ⟨λ i s=>∃ (o5 o6 o7 o8:Option Val),s=⟨[some (.d (.tuple (l.map (pairD (Zcf n rs ss))))),some (.d (.tuple (rs.map rowD))),some (.d (.tuple (ss.map Zc9))),some (.d (.int (n:Nat))),some (.d (.list (l.map tI))),o5,o6,o7,o8],o⟩,⟨o5,o6,none,none,rfl⟩,λ _ _ _=>trivial,?_,?_⟩
 ·rintro i d s hd ⟨o5,o6,o7,o8,rfl⟩
  obtain ⟨r,hr,rfl⟩:=Zdi hd
  have hrm:=mem_of_getElem? hr
  obtain ⟨j,hj1,hj2⟩:=hix r.2 (by rw [<- hl];exact Zbz.mpr (.inr (.inl ⟨r,hrm,rfl⟩)))
  obtain ⟨g1,g2,g3,g4⟩:=F.h.row r hrm
  have hk3:=F.h.k3
  simp! only [rowD,isSome_some]
  refine ⟨hlay _,j,hj1,_,hj2,?_⟩
  simp! only [pairD]
  refine ⟨_,rfl,_,⟨r.1,r.2,rfl,g3,g4,by omega,rfl⟩,?_⟩
  simp!
  refine Zc5 l (pairD (Zcf n rs ss)) (λ b=>.int (Zcf n rs ss b-dot r.1 b)) [] rfl trivial (Zat (by simp only [length_nil];omega)) ?_ ?_
  ·intro b hb Q hQ
   simp! only [pairD]
   refine ⟨_,⟨r.1,b,rfl,g3,(F.h.told b (by rw [hl];exact hb)).2,by omega,rfl⟩,?_⟩
   exact hQ
  simp! only [gMax]
  rw [Zhn]
  refine ⟨by simpa using hne,λ mx hmx _=>?_⟩
  obtain ⟨b1,hb1,rfl⟩:=mem_map.mp hmx
  have hrow:=F.r.row r hrm b1 (by rw [hl];exact hb1)
  refine ite2 (λ c=>?_) (λ _=>?_)
  ·have:Zcf n rs ss r.2-dot r.1 r.2<Zcf n rs ss b1-dot r.1 b1:=by simpa using c
   omega
  ·exact ⟨some (.d (tI r.2)),o6,some (.d (tI r.1)),some (.d (.int (Zcf n rs ss r.2-dot r.1 r.2))),rfl⟩
 ·rintro s ⟨o5,o6,o7,o8,rfl⟩
  exact ⟨_,OW.le.refl _,hq⟩
end
end Mine
namespace Mine
open PySem PySem.Spec PyProof.Rows L2
section
variable {P:Program}{w:World}{K:PySem.W.Frag}{mg:Str->Option Value}{base:Heap}
theorem Ztb {told:List (List Int)}{z:List Int}{rs:List Rnd}{ss:List Sea}:(Zfg told z rs ss).length=rs.length*told.length+2*ss.length+told.length:=by
 unfold Zfg
 rw [length_append,length_append,lmp]
 have h1:∀ l:List Rnd,(l.flatMap λ r=>told.map λ b=>((r.2,b,dot r.1 b-dot r.1 r.2,(3,0,[])):ArcT)).length=l.length*told.length:=by
  intro l
  induction l with
  | nil=>simp
  | cons x l ih=>rw [flatMap_cons,length_append,ih,lmp,length_cons,add_mul,one_mul];omega
 have h2:∀ l:List Sea,(l.flatMap λ s=>([(z,s.1,s.2,(3,0,[])),(s.1,z,0-s.2,(3,0,[]))]:List ArcT)).length=2*l.length:=by
  intro l
  induction l with
  | nil=>simp
  | cons x l ih=>rw [flatMap_cons,length_append,ih];simp;omega
 rw [h1,h2]
def e1 (l:List (List Int)) (r:Rnd):List ArcT:=l.map λ b=>(r.2,b,dot r.1 b-dot r.1 r.2,(3,0,[]))
def E1 (l:List (List Int)) (rs:List Rnd):List ArcT:=rs.flatMap λ r=>l.map λ b=>(r.2,b,dot r.1 b-dot r.1 r.2,(3,0,[]))
def E2 (z:List Int) (ss:List Sea):List ArcT:=ss.flatMap λ s=>[(z,s.1,s.2,(3,0,[])),(s.1,z,0-s.2,(3,0,[]))]
theorem Zyq (l:List (List Int)) (rs:List Rnd):(E1 l rs).length=rs.length*l.length:=by
 unfold E1
 induction rs with
 | nil=>simp
 | cons x r ih=>rw [flatMap_cons,length_append,ih,lmp,length_cons,add_mul,one_mul];omega
theorem Zyr (z:List Int) (ss:List Sea):(E2 z ss).length=2*ss.length:=by
 unfold E2
 induction ss with
 | nil=>simp
 | cons x l ih=>rw [flatMap_cons,length_append,ih];simp;omega
theorem Zkd (A:List ArcT) (y:ArcT):(A++[y]).map edgeD=A.map edgeD++[edgeD y]:=by simp
def Zgv:DSp:=pureS λ vs r=>∃ k rs ss,vs=[.d (Zbx rs),.d (Zbb ss),.d (.list ((Zav k rs ss).map tI))]/\Hist k rs ss/\r = .list ((Zfg (Zav k rs ss) (Zb0 k) rs ss).map edgeD)
theorem Znl:MoS Zgv:=Zcd
theorem Zna:∀ vs w k,Zgv vs w k->vs.length=3:=Zce (by rintro vs r ⟨k,rs,ss,rfl,_⟩;rfl)
theorem Zom (T:Txt K mg):Dn P w K mg base 2 "_law_edges" sLawEdges ["_law_rows", "_law_seals", "_law_nodes"] (spD K Zgv):=by
 have D_law_cost:=Zf4 (P:=P) (w:=w) (base:=base) T
 refine Dn.data (k:=1) T.f_law_edges Zd5 Zna (λ a cdv A outer s H E hr=>⟨_,_,IPSs.get (Za4 (Zag (i:=3) Zd5.nd rfl (Or.inl rfl) (Zbs Za3))
  (Za4 (Zag (i:=4) Zd5.nd rfl (Or.inl rfl) (Zan Zco (i_pv 2) Za6 (λ _ _=>rfl)))
  (Za4 (Zc6 PassesOwn.never rfl (Zbu (i_pv 0)) (Zcj (n:=2) rfl (Za8 (Zaf (i:=5) Zd5.nd rfl (Or.inl rfl)) (Za8 (Zaf (i:=6) Zd5.nd rfl (Or.inl rfl)) Zau))) (Za9 (Zc6 PassesOwn.never rfl (Zd3 (i_pv 2)) (Zaf (i:=7) Zd5.nd rfl (Or.inl rfl)) (Za9 (Zch (Zd7 plainAttrs_list PySem.F.slot_list_append PySem.F.type_list_append Zck (i_pv 3) (Za0 (Zaq (Za0 (i_pv 6) (Za0 (i_pv 7) (Za0 (Zam Zhs (Zac D_law_cost Zdp (hr.mono (by decide)) (Za0 (i_pv 5) (Za0 (i_pv 7) Za3))) (Zac D_law_cost Zdp (hr.mono (by decide)) (Za0 (i_pv 5) (Za0 (i_pv 6) Za3)))) Za3)))) Za3)))))))
  (Za4 (Zc6 PassesOwn.never rfl (Zbu (i_pv 1)) (Zcj (n:=2) rfl (Za8 (Zaf (i:=6) Zd5.nd rfl (Or.inl rfl)) (Za8 (Zaf (i:=8) Zd5.nd rfl (Or.inl rfl)) Zau))) (Za4 (Zch (Zd7 plainAttrs_list PySem.F.slot_list_append PySem.F.type_list_append Zck (i_pv 3) (Za0 (Zaq (Za0 (i_pv 4) (Za0 (i_pv 6) (Za0 (i_pv 8) Za3)))) Za3)))
  (Za9 (Zch (Zd7 plainAttrs_list PySem.F.slot_list_append PySem.F.type_list_append Zck (i_pv 3) (Za0 (Zaq (Za0 (i_pv 6) (Za0 (i_pv 4) (Za0 (Zam Zhs Za6 (i_pv 8)) Za3)))) Za3))))))
  (Za4 (Zc6 PassesOwn.never rfl (Zd3 (i_pv 2)) (Zaf (i:=6) Zd5.nd rfl (Or.inl rfl)) (Za9 (Zch (Zd7 plainAttrs_list PySem.F.slot_list_append PySem.F.type_list_append Zck (i_pv 3) (Za0 (Zaq (Za0 (i_pv 6) (Za0 (i_pv 4) (Za0 Za6 Za3)))) Za3)))))
  (Za9 (Zaj (i_pv 3)))))))),(Zab (Zas (Zcx true Za5) (Za7 3))
  (Zab (Zas (Zah Zdw (Za2 2) Zae) (Za7 4))
  (Zab (Zde (Zcq (Za2 0)) (Zcb (Zaa (Za7 5) (Zaa (Za7 6) Zbp))) (Zde (Ze8 (Za2 2)) (Za7 7) (Zdl (Zec (Za2 3) (Za1 (Zbq (Za1 (Za2 6) (Za1 (Za2 7) (Za1 (Zah Zdx (Zak Zdc (Za1 (Za2 5) (Za1 (Za2 7) Za5))) (Zak Zdc (Za1 (Za2 5) (Za1 (Za2 6) Za5)))) Za5)))) Za5)))))
  (Zab (Zde (Zcq (Za2 1)) (Zcb (Zaa (Za7 6) (Zaa (Za7 8) Zbp))) (Zab (Zdl (Zec (Za2 3) (Za1 (Zbq (Za1 (Za2 4) (Za1 (Za2 6) (Za1 (Za2 8) Za5)))) Za5)))
  (Zdl (Zec (Za2 3) (Za1 (Zbq (Za1 (Za2 6) (Za1 (Za2 4) (Za1 (Zah Zdx Zae (Za2 8)) Za5)))) Za5)))))
  (Zab (Zde (Ze8 (Za2 2)) (Za7 6) (Zdl (Zec (Za2 3) (Za1 (Zbq (Za1 (Za2 6) (Za1 (Za2 4) (Za1 Zae Za5)))) Za5))))
  (Zb6 (Zpc 3))))))),λ as o q h=>?_⟩)
 obtain ⟨r,⟨n,rs,ss,rfl,hH,rfl⟩,hq⟩:=h
 have hrl:=hH.rl
 have hsl:=hH.sl
 have hk3:=hH.k3
 have h27:=told27 hH
 have htold:=hH.told
 have hc:=Zet n rs ss
 generalize hl:Zav n rs ss=l at *
 simp! only [Zbx,Zbb]
 refine ⟨by decide,λ p hp=>?_⟩
 refine ⟨tI (Zb0 n),by rw [hc];exact Zcy (j:=0) rfl,?_⟩
 simp! only [dApp,dFrz]
 have hE1:∀ i,(E1 l (rs.take i)).length≤400:=λ i=>by
  rw [Zyq]
  have h1:(rs.take i).length≤13:=by rw [length_take];omega
  have:=mul_le_mul h1 h27
  omega
 refine ⟨λ i s=>∃ (o5 o6 o7 o8:Option Val),s=⟨[some (.d (.tuple (rs.map rowD))),some (.d (.tuple (ss.map Zc9))),some (.d (.list (l.map tI))),some (.own p),some (.d (tI (Zb0 n))),o5,o6,o7,o8],o.put p (.lst ((E1 l (rs.take i)).map edgeD))⟩,⟨none,none,none,none,rfl⟩,λ _ _ _=>trivial,?_,?_⟩
 ·rintro i d s hd ⟨o5,o6,o7,o8,rfl⟩
  obtain ⟨r,hr,rfl⟩:=Zdi hd
  obtain ⟨g1,g2,g3,g4⟩:=hH.row r (mem_of_getElem? hr)
  have eE:E1 l (rs.take (i+1))=E1 l (rs.take i)++e1 l r:=by unfold E1;rw [take_add_one,hr,flatMap_append];simp [e1]
  have hEi:=hE1 i
  simp! only [rowD]
  refine ⟨λ j s=>∃ (o7:Option Val),s=⟨[some (.d (.tuple (rs.map rowD))),some (.d (.tuple (ss.map Zc9))),some (.d (.list (l.map tI))),some (.own p),some (.d (tI (Zb0 n))),some (.d (tI r.1)),some (.d (tI r.2)),o7,o8],o.put p (.lst ((E1 l (rs.take i)++e1 (l.take j) r).map edgeD))⟩,⟨o7,by simp [e1]⟩,λ _ _ _=>trivial,?_,?_⟩
  ·rintro j d s hd ⟨o7,rfl⟩
   obtain ⟨b,hb,rfl⟩:=Zdi hd
   have hbm:=htold b (mem_of_getElem? hb)
   simp!
   refine ⟨⟨_,rfl⟩,_,⟨r.1,b,rfl,g3,hbm.2,by omega,rfl⟩,_,⟨r.1,r.2,rfl,g3,g4,by omega,rfl⟩,?_⟩
   simp!
   refine ⟨L2.sz3,_,rfl,Zat (by simp only [lmp,length_append,e1,length_take];omega),some (.d (tI b)),?_⟩
   have ee:e1 (l.take (j+1)) r=e1 (l.take j) r++[(r.2,b,dot r.1 b-dot r.1 r.2,(3,0,[]))]:=by unfold e1;rw [take_add_one,hb,map_append];rfl
   rw [ee,<- append_assoc,Zkd];rfl
  ·rintro s ⟨o7,rfl⟩
   rw [lmp,take_length,eE]
   exact ⟨_,_,_,_,rfl⟩
 rintro s ⟨o5,o6,o7,o8,rfl⟩
 have hEr:=hE1 rs.length
 rw [lmp]
 rw [take_length] at hEr |-
 simp!
 have hE2:∀ i,(E2 (Zb0 n) (ss.take i)).length≤26:=λ i=>by rw [Zyr,length_take];omega
 refine ⟨λ i s=>∃ (o6 o8:Option Val),s=⟨[some (.d (.tuple (rs.map rowD))),some (.d (.tuple (ss.map Zc9))),some (.d (.list (l.map tI))),some (.own p),some (.d (tI (Zb0 n))),o5,o6,o7,o8],o.put p (.lst ((E1 l rs++E2 (Zb0 n) (ss.take i)).map edgeD))⟩,⟨o6,o8,by simp [E2]⟩,λ _ _ _=>trivial,?_,?_⟩
 ·rintro i d s hd ⟨o6,o8,rfl⟩
  obtain ⟨r,hr,rfl⟩:=Zdi hd
  have hEi:=hE2 i
  have eE:E2 (Zb0 n) (ss.take (i+1))=E2 (Zb0 n) (ss.take i)++[(Zb0 n,r.1,r.2,(3,0,[]))]++[(r.1,Zb0 n,0-r.2,(3,0,[]))]:=by unfold E2;rw [take_add_one,hr,flatMap_append];simp
  simp! only [Zc9]
  refine ⟨⟨_,rfl⟩,L2.sz3,_,rfl,Zat (by simp only [lmp,length_append];omega),?_⟩
  simp!
  refine ⟨⟨_,rfl⟩,L2.sz3,_,rfl,Zat (by simp only [lmp,length_append,length_cons,length_nil];omega),some (.d (tI r.1)),some (.d (.int r.2)),?_⟩
  rw [eE,<- append_assoc,<- append_assoc,Zkd,Zkd];rfl
 rintro s ⟨o6,o8,rfl⟩
 have hEs:=hE2 ss.length
 rw [lmp]
 rw [take_length] at hEs |-
 simp!
 refine ⟨λ i s=>∃ (o6:Option Val),s=⟨[some (.d (.tuple (rs.map rowD))),some (.d (.tuple (ss.map Zc9))),some (.d (.list (l.map tI))),some (.own p),some (.d (tI (Zb0 n))),o5,o6,o7,o8],o.put p (.lst ((E1 l rs++E2 (Zb0 n) ss++(l.take i).map λ b=>(b,Zb0 n,0,(3,0,[]))).map edgeD))⟩,⟨o6,by simp⟩,λ _ _ _=>trivial,?_,?_⟩
 ·rintro i d s hd ⟨o6,rfl⟩
  obtain ⟨b,hb,rfl⟩:=Zdi hd
  have ef:(l.take (i+1)).map (λ b=>((b,Zb0 n,0,(3,0,[])):ArcT))=(l.take i).map (λ b=>((b,Zb0 n,0,(3,0,[])):ArcT))++[(b,Zb0 n,0,(3,0,[]))]:=by rw [take_add_one,hb,map_append];rfl
  simp!
  refine ⟨⟨_,rfl⟩,L2.sz3,_,rfl,Zat (by simp only [lmp,length_append,length_take];omega),some (.d (tI b)),?_⟩
  rw [ef,<- append_assoc,Zkd];rfl
 ·rintro s ⟨o6,rfl⟩
  rw [lmp,take_length]
  simp!
  refine ⟨_,rfl,?_⟩
  rw [Zj1 hp]
  exact ⟨_,OW.le.refl _,hq⟩
def Zfq:DSp:=pureS λ vs r=>∃ T arcs,vs=[.d (.list (T.map tI)),.d (.list (arcs.map edgeD))]/\(∀ b∈T,b≠[])/\(∀ a∈arcs,a.1∈T/\a.2.1∈T)/\T.length≤27/\arcs.length≤1000/\r=(match runH arcs (T.length+1) (Zfa T) with|some W=>.dict (kvK (enc .int W))|none=>.none)
theorem Zld:MoS Zfq:=Zcd
theorem Zl7:∀ vs w k,Zfq vs w k->vs.length=2:=Zce (by rintro vs r ⟨k,rs,rfl,_⟩;rfl)
theorem Zjl:∀ (T:List (List Int)) (W:WL),(T.foldl (λ d b=>pt d b 0) W).length≤W.length+T.length
 | [],W=>by simp
 | t::T,W=>by
  have h1:=Zjl T (pt W t 0)
  have h2:=Zu4 W t (0:Int)
  rw [foldl_cons,length_cons]
  omega
theorem Zm4 (T:Txt K mg):Dn P w K mg base 1 "_law_heights" sLawHeights ["_law_nodes", "_law_edges_here"] (spD K Zfq):=by
 refine Dn.data (k:=0) T.f_law_heights Zcn Zl7 (λ a cdv A outer s H E hr=>⟨_,_,IPSs.get (Za4 (Zag (i:=2) Zcn.nd rfl (Or.inl rfl) Zml)
  (Za4 (Zc6 PassesOwn.never rfl (Zd3 (i_pv 0)) (Zaf (i:=3) Zcn.nd rfl (Or.inl rfl)) (Za9 (Zij (Zh4 hr) (i_pv 2) (i_pv 3) Za6)))
  (Za4 (Zc6 PassesOwn.never rfl (Zbt rfl T.z_range (Za0 (Zam Zct (Zad Zaz rfl T.z_len boot_len (Za0 (i_pv 0) Za3)) Za6) Za3)) (Zaf (i:=4) Zcn.nd rfl (Or.inl rfl)) (Za4 (Zag (i:=5) Zcn.nd rfl (Or.inl rfl) (Zd0))
  (Za4 (Zc6 PassesOwn.never rfl (Zd3 (i_pv 1)) (Zcj (n:=3) rfl (Za8 (Zaf (i:=6) Zcn.nd rfl (Or.inl rfl)) (Za8 (Zaf (i:=7) Zcn.nd rfl (Or.inl rfl)) (Za8 (Zaf (i:=8) Zcn.nd rfl (Or.inl rfl)) Zau)))) (Za9 (Zbg (Zal Znr (Zam Zct (Zdn (Zh4 hr) (i_pv 2) (i_pv 6) (λ _ _=>rfl)) (i_pv 8)) (Zdn (Zh4 hr) (i_pv 2) (i_pv 7) (λ _ _=>rfl)) (nomark _)) (Za4 (Zij (Zh4 hr) (i_pv 2) (i_pv 7) (Zam Zct (Zdn (Zh4 hr) (i_pv 2) (i_pv 6) (λ _ _=>rfl)) (i_pv 8)))
  (Za9 (Zag (i:=5) Zcn.nd rfl (Or.inl rfl) (Zd0)))) Zap)))
  (Za9 (Zbg (Zdo (Zdt (i_pv 5))) (Za9 (Zaj (i_pv 2))) Zap)))))
  (Za9 (Zaj Zhj))))),(Zab (Zas (Zu7 true) (Za7 2))
  (Zab (Zde (Ze8 (Za2 0)) (Za7 3) (Znu (Za2 2) (Za2 3) Zae))
  (Zab (Zde (Zdk (Za1 (Zah Zdx (Zbo Zdd (Za1 (Za2 0) Za5)) Zae) Za5)) (Za7 4) (Zab (Zas Zfd (Za7 5))
  (Zab (Zde (Ze8 (Za2 1)) (Zcb (Zaa (Za7 6) (Zaa (Za7 7) (Zaa (Za7 8) Zbp)))) (Zd4 (Zb3 (Zah Zha (Zah Zdx (Zfw (Za2 2) (Za2 6)) (Za2 8)) (Zfw (Za2 2) (Za2 7)))) (Zab (Znu (Za2 2) (Za2 7) (Zah Zdx (Zfw (Za2 2) (Za2 6)) (Za2 8)))
  (Zas Zfd (Za7 5))) Zbc))
  (Zd4 (Zfm (rt_b (Za2 5))) (Zb6 (Zqj 2)) Zbc))))
  (Zb6 Zmt)))),λ as o q h=>?_⟩)
 obtain ⟨r,⟨T',arcs,rfl,hne,hend,hT,hA,rfl⟩,hq⟩:=h
 simp! only [dDNew]
 intro p hp
 simp! only [dDPut,dDGet,rdK,dFrzD]
 refine ⟨λ i s=>∃ (o3:Option Val),s=⟨[some (.d (.list (T'.map tI))),some (.d (.list (arcs.map edgeD))),some (.own p),o3,none,none,none,none,none],o.put p (.dct (enc .int ((T'.take i).foldl (λ d b=>pt d b 0) [])))⟩,⟨none,rfl⟩,λ _ _ _=>trivial,?_,?_⟩
 ·rintro i d s hd ⟨o3,rfl⟩
  obtain ⟨b,hb,rfl⟩:=Zdi hd
  have hl:=Zjl (T'.take i) []
  have hti:(T'.take i).length≤27:=by rw [length_take];omega
  simp!
  refine ⟨_,_,rfl,Zci (hne b (mem_of_getElem? hb)),Zat (by rw [Zhz];simp at hl;omega),some (.d (tI b)),?_⟩
  rw [Zhh PyData.int,take_add_one,hb,foldl_append];rfl
 rintro s ⟨o3,rfl⟩
 rw [lmp,take_length]
 have hsl:=Zjl T' []
 have hst:∀ b∈T',∃ d,lk (Zfa T') b=some d:=λ b hb=>⟨0,by unfold Zfa;rw [Zhd,if_pos hb]⟩
 have eS:T'.foldl (λ d b=>pt d b 0) []=Zfa T':=rfl
 rw [eS] at hsl |-
 simp! only [lmp]
 refine ⟨⟨by omega,by omega⟩,?_⟩
 refine ⟨λ i s=>∃ (o4 o5 o6 o7 o8:Option Val) (W:WL),s=⟨[some (.d (.list (T'.map tI))),some (.d (.list (arcs.map edgeD))),some (.own p),o3,o4,o5,o6,o7,o8],o.put p (.dct (enc .int W))⟩/\i≤T'.length+1/\runH arcs (T'.length+1) (Zfa T')=runH arcs (T'.length+1-i) W/\(∀ b∈T',∃ d,lk W b=some d)/\W.length≤27+1000*i,⟨none,none,none,none,none,Zfa T',rfl,by omega,rfl,hst,by simp at hsl;omega⟩,λ _ _ _=>trivial,?_,?_⟩
 ·rintro i d s hd ⟨o4,o5,o6,o7,o8,W,rfl,hi,hrun,hall,hWl⟩
  have hin:i<T'.length+1:=by
   obtain ⟨h1,_⟩:=List.getElem?_eq_some_iff.mp hd
   simp [rngD] at h1;omega
  simp!
  have hallj:∀ j,∀ b∈T',∃ d,lk ((arcs.take j).foldl stepS (W,[],none)).1 b=some d:=λ j b hb=>by
   obtain ⟨d,hd⟩:=hall b hb
   obtain ⟨e,he,_⟩:=Ways.fold_le ((arcs.take j).map arc3) hd
   rw [Zhi]
   exact ⟨e,he⟩
  refine ⟨λ j s=>∃ (o6 o7 o8:Option Val),s=⟨[some (.d (.list (T'.map tI))),some (.d (.list (arcs.map edgeD))),some (.own p),o3,some (.d d),some (.d (.bool ((arcs.take j).foldl stepS (W,[],none)).2.2.isSome)),o6,o7,o8],o.put p (.dct (enc .int ((arcs.take j).foldl stepS (W,[],none)).1))⟩,⟨o6,o7,o8,rfl⟩,λ _ _ _=>trivial,?_,?_⟩
  ·rintro j d2 s hd2 ⟨o6,o7,o8,rfl⟩
   obtain ⟨a,ha,rfl⟩:=Zdi hd2
   obtain ⟨m1,m2⟩:=hend a (mem_of_getElem? ha)
   obtain ⟨d1,hd1⟩:=hallj j a.1 m1
   obtain ⟨e1,he1⟩:=hallj j a.2.1 m2
   have et:(arcs.take (j+1)).foldl stepS (W,[],none)=stepS ((arcs.take j).foldl stepS (W,[],none)) a:=by rw [take_add_one,ha,foldl_append];rfl
   have hl:=Zh3 (arcs.take j) (W,[],none)
   have hti:(arcs.take j).length≤1000:=by rw [length_take];omega
   generalize (arcs.take j).foldl stepS (W,[],none)=S at *
   obtain ⟨W1,L1,fo⟩:=S
   simp only at hl hd1 he1
   simp! only [et,edgeD]
   refine ⟨_,_,.int d1,rfl,Zci (hne _ m1),by rw [Zd2,hd1];rfl,?_⟩
   simp!
   refine ⟨_,_,.int e1,rfl,Zci (hne _ m2),by rw [Zd2,he1];rfl,?_⟩
   simp!
   refine ite2 (λ c=>?_) (λ c=>?_)
   all_goals simp!
   ·have c':d1+a.2.2.1<e1:=by simpa using c
    have es:stepS (W1,L1,fo) a=(pt W1 a.2.1 (d1+a.2.2.1),pt L1 a.2.1 a,some a.2.1):=by unfold stepS;simp only [hd1,he1,c',if_true]
    rw [es]
    refine ⟨_,_,.int d1,rfl,Zci (hne _ m1),by rw [Zd2,hd1];rfl,?_⟩
    simp!
    refine ⟨_,_,rfl,Zci (hne _ m2),Zat (by rw [Zhz];omega),some (.d (tI a.1)),some (.d (tI a.2.1)),some (.d (.int a.2.2.1)),?_⟩
    rw [Zhh PyData.int];rfl
   ·have c':¬ d1+a.2.2.1<e1:=by simpa using c
    have es:stepS (W1,L1,fo) a=(W1,L1,fo):=by unfold stepS;simp only [hd1,he1,c',if_false]
    rw [es]
    exact ⟨some (.d (tI a.1)),some (.d (tI a.2.1)),some (.d (.int a.2.2.1)),rfl⟩
  ·rintro s ⟨o6,o7,o8,rfl⟩
   have eA:(arcs.take (arcs.map edgeD).length).foldl stepS (W,[],none)=Zcg arcs W []:=by rw [lmp,take_length];rfl
   rw [eA]
   have hl:=Zh3 arcs (W,[],none)
   have hl':(Zcg arcs W []).1.length≤W.length+arcs.length:=hl.1
   have hallS:∀ b∈T',∃ d,lk (Zcg arcs W []).1 b=some d:=λ b hb=>by have:=hallj (arcs.map edgeD).length b hb;rw [eA] at this;exact this
   obtain ⟨mm,hmm⟩:∃ mm,T'.length+1-i=mm+1:=⟨T'.length-i,by omega⟩
   have hr2:runH arcs (mm+1) W=match (Zcg arcs W []).2.2 with|none=>some W|some _=>runH arcs mm (Zcg arcs W []).1:=rfl
   rw [hmm,hr2] at hrun
   simp!
   cases hf:(Zcg arcs W []).2.2 with
   | none=>
    obtain ⟨e,_⟩:=Zgm hf
    rw [hf] at hrun
    rw [hrun] at hq
    simp! only [isSome_none]
    refine ⟨_,rfl,?_⟩
    rw [Zj1 hp,e]
    exact ⟨_,OW.le.refl _,hq⟩
   | some c=>
    rw [hf] at hrun
    simp! only [isSome_some]
    refine ⟨some (.d d),some (.d (.bool true)),o6,o7,o8,(Zcg arcs W []).1,rfl,by omega,?_,hallS,by omega⟩
    have:T'.length+1-(i+1)=mm:=by omega
    rw [this];exact hrun
 ·rintro s ⟨o4,o5,o6,o7,o8,W,rfl,hi,hrun,hall,hWl⟩
  simp!
  have eN:(rngD 0 (((T'.length:Nat):Int)+1).toNat).length=T'.length+1:=by simp [rngD]
  rw [eN] at hrun
  rw [Nat.sub_self] at hrun
  rw [hrun] at hq
  exact ⟨_,OW.le.new (OW.le.refl o) hp _,hq⟩
def anyB (k:Nat) (rs:List Rnd) (ss:List Sea):Bool:=(runH (Zfg (Zav k rs ss) (Zb0 k) rs ss) ((Zav k rs ss).length+1) (Zfa (Zav k rs ss))).isSome
def Zfp:DSp:=pureS λ vs r=>∃ k rs ss,vs=[.d (Zbx rs),.d (Zbb ss),.d (.int (k:Nat))]/\Hist k rs ss/\r = .bool (anyB k rs ss)
theorem Zlc:MoS Zfp:=Zcd
theorem Zl6:∀ vs w k,Zfp vs w k->vs.length=3:=Zce (by rintro vs r ⟨k,rs,ss,rfl,_⟩;rfl)
theorem Zm3 (T:Txt K mg):Dn P w K mg base 3 "_law_are_any" sLawAreAny ["_law_rows", "_law_seals", "_law_several"] (spD K Zfp):=by
 have D_law_edges:=Zom (P:=P) (w:=w) (base:=base) T
 have D_law_heights:=Zm4 (P:=P) (w:=w) (base:=base) T
 have D_law_told:=Zga (P:=P) (w:=w) (base:=base) T
 refine Dn.data (k:=2) T.f_law_are_any Zht Zl6 (λ a cdv A outer s H E hr=>⟨_,_,IPSs.get (Za4 (Zag (i:=3) Zht.nd rfl (Or.inl rfl) (Zac D_law_told Zg8 (hr.mono (by decide)) (Za0 (i_pv 0) (Za0 (i_pv 1) (Za0 (i_pv 2) Za3)))))
  (Za9 (Zaj (Zdq Zty (Zac D_law_heights Zly (hr.mono (by decide)) (Za0 (i_pv 3) (Za0 (Zac D_law_edges Zo7 (hr.mono (by decide)) (Za0 (i_pv 0) (Za0 (i_pv 1) (Za0 (i_pv 3) Za3)))) Za3))) Zhj (nomark _))))),(Zab (Zas (Zak Zfl (Za1 (Za2 0) (Za1 (Za2 1) (Za1 (Za2 2) Za5)))) (Za7 3))
  (Zb6 (Zah Zue (Zak Zld (Za1 (Za2 3) (Za1 (Zak Znl (Za1 (Za2 0) (Za1 (Za2 1) (Za1 (Za2 3) Za5)))) Za5))) Zmt))),λ as o q h=>?_⟩)
 obtain ⟨r,⟨n,rs,ss,rfl,hH,rfl⟩,hq⟩:=h
 have h27:=told27 hH
 simp!
 refine ⟨_,⟨n,rs,ss,rfl,hH,rfl⟩,?_⟩
 simp!
 refine ⟨_,⟨n,rs,ss,rfl,hH,rfl⟩,?_⟩
 simp!
 refine ⟨_,⟨Zav n rs ss,Zfg (Zav n rs ss) (Zb0 n) rs ss,rfl,λ b hb=>Zg3 hH.k1 (hH.told b hb).1,λ a ha=>?_,h27,?_,rfl⟩,?_⟩
 ·rcases Zf9.mp ha with ⟨r,hr,b,hb,rfl⟩|⟨s,hs,rfl|rfl⟩|⟨b,hb,rfl⟩
  ·exact ⟨Zbz.mpr (.inr (.inl ⟨r,hr,rfl⟩)),hb⟩
  ·exact ⟨Zeu _ _ _,Zbz.mpr (.inr (.inr ⟨s,hs,rfl⟩))⟩
  ·exact ⟨Zbz.mpr (.inr (.inr ⟨s,hs,rfl⟩)),Zeu _ _ _⟩
  ·exact ⟨hb,Zeu _ _ _⟩
 ·rw [Ztb]
  have:=hH.rl
  have:=hH.sl
  have:=mul_le_mul hH.rl h27
  omega
 ·unfold anyB at hq
  cases hr:runH (Zfg (Zav n rs ss) (Zb0 n) rs ss) ((Zav n rs ss).length+1) (Zfa (Zav n rs ss)) with
  | none=>
   rw [hr] at hq
   simp! only [fIsN,isNoneD]
   exact ⟨_,OW.le.refl _,hq⟩
  | some W=>
   rw [hr] at hq
   simp! only [fIsN,isNoneD]
   exact ⟨_,OW.le.refl _,hq⟩
end
end Mine
namespace Mine
open PySem PySem.Spec PyProof.Rows L2
section
variable {P:Program}{w:World}{K:PySem.W.Frag}{mg:Str->Option Value}{base:Heap}
theorem Zpv (a b:Str):PyData.eqv (.str a) (.str b)=decide (a=b):=by rw [PyData.eqv];rfl
theorem wlay:∀ w<4,(PyData.str (wordOf w)).hasDict=false/\PyData.hasDictAll [PyData.str "bid",PyData.str "due"]=false/\(PyData.str (wordOf w)).canLay0=true/\PyData.canLayAll0 [PyData.str "bid",PyData.str "due"]=true/\(PyData.str (wordOf w)).depth≤30:=by decide +kernel
def endD (k:Nat) (rs:List Rnd) (e:Stp):PyData:=.tuple [tI (Zc2 k rs e).1,tI (Zc2 k rs e).2]
def Zfs:DSp:=pureS λ vs r=>∃ k rs ss es,vs=[.d (.tuple (es.map Zcp)),.d (Zbx rs),.d (Zbb ss),.d (.list ((Zav k rs ss).map tI))]/\Hist k rs ss/\IsRing k rs ss es/\r = .bool true
theorem Zh8:MoS Zfs:=Zcd
theorem Zl9:∀ vs w k,Zfs vs w k->vs.length=4:=Zce (by rintro vs r ⟨k,rs,ss,es,rfl,_⟩;rfl)
theorem Zhp (T:Txt K mg):Dn P w K mg base 2 "_law_is_ring" sLawIsRing ["_law_ring", "_law_rows", "_law_seals", "_law_nodes"] (spD K Zfs):=by
 have D_law_cost:=Zf4 (P:=P) (w:=w) (base:=base) T
 have D_law_whole:=Zjr (P:=P) (w:=w) (base:=base) T
 refine Dn.data (k:=1) T.f_law_is_ring Zc8 Zl9 (λ a cdv A outer s H E hr=>⟨_,_,IPSs.get (Za4 (Zbg (IPW.pt (Zgg (Zdo (Zdt (Zad Zff rfl T.z_isinstance boot_isinstance (Za0 (i_pv 0) (Za0 (Zem (v:=.ty "tuple") rfl T.z_tuple (by decide +kernel) rfl) Za3))))) (Zfk (Zdo (Zja Ztw Ztw Za6 (Zad Zaz rfl T.z_len boot_len (Za0 (i_pv 0) Za3)) Za6))))) (Za9 (Zaj (Zd0))) Zap)
  (Za4 (Zd9 (Zaq (Za0 Za6 (Za0 (Zbs Za3) Za3))) (Zcj (n:=2) rfl (Za8 (Zaf (i:=4) Zc8.nd rfl (Or.inl rfl)) (Za8 (Zaf (i:=5) Zc8.nd rfl (Or.inr rfl)) Zau))))
  (Za4 (Zc6 PassesOwn.never rfl (Zbu (i_pv 0)) (Zaf (i:=6) Zc8.nd rfl (Or.inl rfl)) (Za4 (Zbg (IPW.pt (Zgg (Zdo (Zdt (Zad Zff rfl T.z_isinstance boot_isinstance (Za0 (i_pv 6) (Za0 (Zem (v:=.ty "tuple") rfl T.z_tuple (by decide +kernel) rfl) Za3))))) (Zfk (Zal Zpa (Zad Zaz rfl T.z_len boot_len (Za0 (i_pv 6) Za3)) Za6 (nomark _))))) (Za9 (Zaj (Zd0))) Zap)
  (Za4 (Zbg (IPW.pt (Zgg (Zdo (Zdt (Zac D_law_whole Zgr (hr.mono (by decide)) (Za0 (Zan Zc0 (i_pv 6) Za6 (λ _ _=>rfl)) Za3)))) (Zfk (Zal (Zg4 hr.units) (Zan Zc0 (i_pv 6) Za6 (λ _ _=>rfl)) (i_pv 3) rfl)))) (Za9 (Zaj (Zd0))) Zap)
  (Za4 (Zd9 (i_pv 6) (Zcj (n:=3) rfl (Za8 (Zaf (i:=7) Zc8.nd rfl (Or.inl rfl)) (Za8 (Zaf (i:=8) Zc8.nd rfl (Or.inl rfl)) (Za8 (Zaf (i:=9) Zc8.nd rfl (Or.inl rfl)) Zau)))))
  (Za4 (Zbg (Zdo (Zdt (Zad (Zi9 rfl) rfl T.z_all boot_all (Za0 (by refine' Zb2 (Nc:=["_law_pieces"]) (cap:=[none]) rfl ?i ?k ?g ?t ?e;(case k=>kernel_rfl);(case i=>exact (Zbu (i_pv 9)));(case g=>exact (λ _ _ _ _ _=>(Zc3 0 (by show List.Nodup (["_law_pieces"]:List Str);decide +kernel))));(case t=>exact (λ _ _ _ _ _=>Zb1));(case e=>exact (λ _ _ _ _ _=>(Zac D_law_whole Zgr (hr.mono (by decide)) (Za0 (Zc7 0) Za3) (hg:=Zcz))))) Za3)))) (Za9 (Zaj (Zd0))) Zap)
  (Za9 (Zbg (IPW.pt (Ze6 (Zal Zea (i_pv 7) Zca (nomark _)) (Ze1 (Zja Ztw Znr Za6 (i_pv 8) (Zad Zaz rfl T.z_len boot_len (Za0 (i_pv 1) Za3)))))) (Za4 (Zd9 (Zan Zc0 (i_pv 1) (i_pv 8) (λ _ _=>rfl)) (Zcj (n:=2) rfl (Za8 (Zaf (i:=10) Zc8.nd rfl (Or.inl rfl)) (Za8 (Zaf (i:=11) Zc8.nd rfl (Or.inl rfl)) Zau))))
  (Za4 (Zch (Zd7 plainAttrs_list PySem.F.slot_list_append PySem.F.type_list_append Zck (i_pv 5) (Za0 (Zaq (Za0 (i_pv 11) (Za0 (i_pv 9) Za3))) Za3)))
  (Za9 (Zag (i:=4) Zc8.nd rfl (Or.inl rfl) (Zam Zhs (Zam Zct (i_pv 4) (Zac D_law_cost Zdp (hr.mono (by decide)) (Za0 (i_pv 10) (Za0 (i_pv 9) Za3)))) (Zac D_law_cost Zdp (hr.mono (by decide)) (Za0 (i_pv 10) (Za0 (i_pv 11) Za3)))))))) (Za9 (Zbg (IPW.pt (Ze6 (Zal (Zz5 hr.units) (i_pv 7) (Zbs (Za0 Zca (Za0 Zca Za3))) rfl) (Ze6 (Zja Ztw Znr Za6 (i_pv 8) (Zad Zaz rfl T.z_len boot_len (Za0 (i_pv 2) Za3))) (Ze1 (Zal (Zwy hr.units) (Zan Zc0 (Zan Zc0 (i_pv 2) (i_pv 8) (λ _ _=>rfl)) Za6 (λ _ _=>rfl)) (i_pv 9) (nomark _)))))) (Za4 (Zch (Zd7 plainAttrs_list PySem.F.slot_list_append PySem.F.type_list_append Zck (i_pv 5) (Za0 (Zan Zco (Zbs (Za0 (Zaq (Za0 (Zan Zco (i_pv 3) Za6 (λ _ _=>rfl)) (Za0 (i_pv 9) Za3))) (Za0 (Zaq (Za0 (i_pv 9) (Za0 (Zan Zco (i_pv 3) Za6 (λ _ _=>rfl)) Za3))) Za3))) (Zb9 Zkn rfl T.z_int (by decide +kernel) (Za0 (Zdq Zea (i_pv 7) Zca (nomark _)) Za3)) (λ _ _=>rfl)) Za3)))
  (Za9 (Zag (i:=4) Zc8.nd rfl (Or.inl rfl) (Zam Zct (i_pv 4) (Zan Zco (Zbs (Za0 (Zan Zc0 (Zan Zc0 (i_pv 2) (i_pv 8) (λ _ _=>rfl)) Za6 (λ _ _=>rfl)) (Za0 (Zam Zhs Za6 (Zan Zc0 (Zan Zc0 (i_pv 2) (i_pv 8) (λ _ _=>rfl)) Za6 (λ _ _=>rfl))) Za3))) (Zb9 Zkn rfl T.z_int (by decide +kernel) (Za0 (Zdq Zea (i_pv 7) Zca (nomark _)) Za3)) (λ _ _=>rfl)))))) (Za9 (Zbg (IPW.pt (Ze6 (Zal Zea (i_pv 7) Zca (nomark _)) (Ze1 (Zal Zea (i_pv 8) Za6 (nomark _))))) (Za9 (Zch (Zd7 plainAttrs_list PySem.F.slot_list_append PySem.F.type_list_append Zck (i_pv 5) (Za0 (Zaq (Za0 (i_pv 9) (Za0 (Zan Zco (i_pv 3) Za6 (λ _ _=>rfl)) Za3))) Za3)))) (Za9 (Zaj (Zd0))))))))))))))
  (Za9 (Zaj (Zfh (Zdq Znr (i_pv 4) Za6 (nomark _)) (Zgf (Zad (Zi9 rfl) rfl T.z_all boot_all (Za0 (by refine' Zb2 (Nc:=["_law_k", "_law_ends"]) (cap:=[none,some 5]) rfl ?i ?k ?g ?t ?e;(case k=>kernel_rfl);(case i=>exact (Zbt rfl T.z_range (Za0 (Zad Zaz rfl T.z_len boot_len (Za0 (i_pv 5) Za3)) Za3)));(case g=>exact (λ _ _ _ _ _=>(Zc3 0 (by show List.Nodup (["_law_k", "_law_ends"]:List Str);decide +kernel))));(case t=>exact (λ _ _ _ _ _=>Zb1));(case e=>exact (λ _ _ _ _ _=>(Zdq (Ztv (K:=K) rfl hr.units) (Zan (Zjc (K:=K) rfl) (Zan (Zkb (K:=K) rfl) (Ze0 1) (Zam Zhs (Zc7 0) Za6) (λ _ _=>rfl)) Za6 (λ _ _=>rfl)) (Zan (Zjc (K:=K) rfl) (Zan (Zkb (K:=K) rfl) (Ze0 1) (Zc7 0) (λ _ _=>rfl)) Za6 (λ _ _=>rfl)) (nomark _))))) Za3))))))))),(Zab (Zd4 (Znv (Zfm (rt_b (Zbo Zju (Za1 (Za2 0) (Za1 Zpd Za5))))) (Zfm (Zb3 (Zns Zha Zha Zae (Zbo Zdd (Za1 (Za2 0) Za5)) Zae)))) (Zb6 Zfd) Zbc)
  (Zab (Zyh (Za1 Zae (Za1 (Zcx true Za5) Za5)))
  (Zab (Zde (Zcq (Za2 0)) (Za7 6) (Zab (Zd4 (Znv (Zfm (rt_b (Zbo Zju (Za1 (Za2 6) (Za1 Zpd Za5))))) (Zb3 (Zah Zpe (Zbo Zdd (Za1 (Za2 6) Za5)) Zae))) (Zb6 Zfd) Zbc)
  (Zab (Zd4 (Znv (Zfm (rt_b (Zak Zgl (Za1 (Zah Zby (Za2 6) Zae) Za5)))) (Zb3 (Zah Zll (Zah Zby (Za2 6) Zae) (Za2 3)))) (Zb6 Zfd) Zbc)
  (Zab (Zas (Za2 6) (Zcb (Zaa (Za7 7) (Zaa (Za7 8) (Zaa (Za7 9) Zbp)))))
  (Zab (Zd4 (Zfm (rt_b (Zbo Zrj (Za1 (Zbl false (Zcq (Za2 9)) (Za7 0) Zcc (Zbm (Zak Zgl (Za1 (Za2 0) Za5)))) Za5)))) (Zb6 Zfd) Zbc)
  (Zd4 (Zhb (Zb3 (Zah Zeb (Za2 7) Zdm)) (Zb3 (Zns Zha Zha Zae (Za2 8) (Zbo Zdd (Za1 (Za2 1) Za5))))) (Zab (Zas (Zah Zby (Za2 1) (Za2 8)) (Zcb (Zaa (Za7 10) (Zaa (Za7 11) Zbp))))
  (Zab (Zdl (Zec (Za2 5) (Za1 (Zbq (Za1 (Za2 11) (Za1 (Za2 9) Za5))) Za5)))
  (Zas (Zah Zdx (Zah Zdx (Za2 4) (Zak Zdc (Za1 (Za2 10) (Za1 (Za2 9) Za5)))) (Zak Zdc (Za1 (Za2 10) (Za1 (Za2 11) Za5)))) (Za7 4)))) (Zd4 (Zhb (Zb3 (Zah Zll (Za2 7) (Zcx false (Za1 Zdm (Za1 Zdm Za5))))) (Zhb (Zb3 (Zns Zha Zha Zae (Za2 8) (Zbo Zdd (Za1 (Za2 2) Za5)))) (Zb3 (Zah Zmu (Zah Zby (Zah Zby (Za2 2) (Za2 8)) Zae) (Za2 9))))) (Zab (Zdl (Zec (Za2 5) (Za1 (Zah Zdw (Zcx false (Za1 (Zbq (Za1 (Zah Zdw (Za2 3) Zae) (Za1 (Za2 9) Za5))) (Za1 (Zbq (Za1 (Za2 9) (Za1 (Zah Zdw (Za2 3) Zae) Za5))) Za5))) (Zbo Zqh (Za1 (Zah Zeb (Za2 7) Zdm) Za5))) Za5)))
  (Zas (Zah Zdx (Za2 4) (Zah Zdw (Zcx false (Za1 (Zah Zby (Zah Zby (Za2 2) (Za2 8)) Zae) (Za1 (Zah Zdx Zae (Zah Zby (Zah Zby (Za2 2) (Za2 8)) Zae)) Za5))) (Zbo Zqh (Za1 (Zah Zeb (Za2 7) Zdm) Za5)))) (Za7 4))) (Zd4 (Zhb (Zb3 (Zah Zeb (Za2 7) Zdm)) (Zb3 (Zah Zeb (Za2 8) Zae))) (Zdl (Zec (Za2 5) (Za1 (Zbq (Za1 (Za2 9) (Za1 (Zah Zdw (Za2 3) Zae) Za5))) Za5))) (Zb6 Zfd)))))))))
  (Zb6 (Zh9 (Zah Zha (Za2 4) Zae) (Zbo Zrj (Za1 (Zbl false (Zdk (Za1 (Zbo Zdd (Za1 (Za2 5) Za5)) Za5)) (Za7 0) Zcc (Zbm (Zah Zmu (Zah Zby (Zah Zdw (Za2 1) (Zah Zdx (Za2 0) Zae)) Zae) (Zah Zby (Zah Zdw (Za2 1) (Za2 0)) Zae)))) Za5))))))),λ as o q h=>?_⟩)
 obtain ⟨r,⟨n,rs,ss,es,rfl,hH,R,rfl⟩,hq⟩:=h
 have h1:=R.n1
 have h27:=R.n27
 have hk3:=hH.k3
 have htold:=hH.told
 have hc:=Zet n rs ss
 simp! only [tyN,Zbx,Zbb]
 refine ⟨true,λ _=>rfl,?_⟩
 simp! only [dChain,lmp]
 have b1:decide (1≤((es.length:Nat):Int))=true:=by simp;omega
 have b2:decide (((es.length:Nat):Int)≤40)=true:=by simp;omega
 simp! only [b1,b2]
 refine ⟨by decide,λ p hp=>?_⟩
 simp! only [dApp,dComp,dChain,lmp]
 refine ⟨λ i s=>∃ (o6 o7 o8 o9 o10 o11:Option Val),s=⟨[some (.d (.tuple (es.map Zcp))),some (.d (.tuple (rs.map rowD))),some (.d (.tuple (ss.map Zc9))),some (.d (.list ((Zav n rs ss).map tI))),some (.d (.int ((es.take i).map (Zai rs ss)).sum)),some (.own p),o6,o7,o8,o9,o10,o11],o.put p (.lst ((es.take i).map (endD n rs)))⟩,⟨none,none,none,none,none,none,rfl⟩,λ _ _ _=>trivial,?_,?_⟩
 ·rintro i d s hd ⟨o6,o7,o8,o9,o10,o11,rfl⟩
  obtain ⟨e,he,rfl⟩:=Zdi hd
  have hem:=R.mem e (mem_of_getElem? he)
  have ht:(es.take i).length≤27:=by rw [length_take];omega
  have e1:((es.take (i+1)).map (Zai rs ss)).sum=((es.take i).map (Zai rs ss)).sum+Zai rs ss e:=by rw [take_add_one,he,map_append,sum_append];simp
  have e2:(es.take (i+1)).map (endD n rs)=(es.take i).map (endD n rs)++[endD n rs e]:=by rw [take_add_one,he,map_append];rfl
  obtain ⟨w,j,b⟩:=e
  have hbt:b∈Zav n rs ss:=by
   rcases Zbn.mp hem with ⟨b',hb,e⟩|⟨i',hi,e|e⟩|⟨i',hi,b',hb,e⟩
   ·cases e;exact hb
   ·cases e;exact Zbz.mpr (.inr (.inr ⟨_,getElem_mem hi,rfl⟩))
   ·cases e;exact Zbz.mpr (.inr (.inr ⟨_,getElem_mem hi,rfl⟩))
   ·cases e;exact hb
  have hbl:=htold b hbt
  have e3:decide (((3:Nat):Int)=3)=true:=rfl
  simp! only [Zcp,tyN]
  refine ⟨true,λ _=>rfl,?_⟩
  simp! only [e3]
  refine ⟨_,rfl,_,⟨_,rfl,rfl⟩,?_⟩
  simp!
  refine ⟨_,rfl,?_⟩
  refine ⟨⟨Zdy _,Zeo _,Ziw _,Zdr _,by rw [Zfn];decide⟩,?_⟩
  rw [Zqs]
  have bt:decide (b∈Zav n rs ss)=true:=by simpa using hbt
  simp! only [bt,tI]
  refine Zc5 b .int (λ _=>.bool true) [] rfl trivial (Zat (by simp;omega)) ?_ ?_
  ·intro x hx Q hQ
   simp!
   exact ⟨_,⟨x,rfl,rfl⟩,hQ⟩
  rw [nil_append,Zkg b (λ _=>true)]
  have eall:(b.map λ _=>true).all id=true:=by simp
  simp! only [eall]
  have z0:decide ((0:Int)≤((j:Nat):Int))=true:=by simp
  have hn0:atI ((Zav n rs ss).map tI) 0=some (tI (Zb0 n)):=by rw [hc];exact Zcy (j:=0) rfl
  have hbig:((es.take i).map (endD n rs)).length<sizeLine:=Zat (by rw [lmp];omega)
  rcases Zbn.mp hem with ⟨b',hb,e⟩|⟨i',hi,e|e⟩|⟨i',hi,b',hb,e⟩
  ·cases e
   have d1:decide (wordOf 3=("round" : Str))=false:=by decide
   have d2:([PyData.str ("bid" : Str),PyData.str ("due" : Str)].any λ y=>y.eqv (PyData.str (wordOf 3)))=false:=by simp only [any_cons,any_nil,Zpv];decide
   have d3:decide (wordOf 3=("free" : Str))=true:=by decide
   simp! only [d1,d2,d3]
   refine ⟨L2.sz2,wlay 3 (by decide),?_⟩
   have d4:decide (((0:Nat):Int)=0)=true:=rfl
   simp! only [d1,d2,d3,d4]
   refine ⟨⟨_,rfl⟩,_,hn0,L2.sz2,_,rfl,hbig,some (.d (Zcp (3,0,b))),some (.d (.str (wordOf 3))),some (.d (.int ((0:Nat):Int))),some (.d (tI b)),o10,o11,?_⟩
   have w1:Zai rs ss (3,0,b)=0:=rfl
   have w2:endD n rs (3,0,b) = .tuple [tI b,tI (Zb0 n)]:=rfl
   rw [e1,e2,w1,w2,Int.add_zero];rfl
  ·cases e
   have d1:decide (wordOf 1=("round" : Str))=false:=by decide
   have d2:([PyData.str ("bid" : Str),PyData.str ("due" : Str)].any λ y=>y.eqv (PyData.str (wordOf 1)))=true:=by simp only [any_cons,any_nil,Zpv];decide
   have d3:decide (wordOf 1=("due" : Str))=false:=by decide
   have zl:decide (((j:Nat):Int)<((ss.map Zc9).length:Nat))=true:=by simp;omega
   have hat:atI (ss.map Zc9) ((j:Nat):Int)=some (Zc9 ss[j]):=Zcy (by rw [getElem?_map,gEq hi];rfl)
   have heq:PyData.eqv (tI ss[j].1) (PyData.tuple (List.map PyData.int ss[j].1))=true:=Zws ss[j].1
   simp! only [d1,d2,d3,z0,zl]
   refine ⟨L2.sz2,wlay 1 (by decide),_,hat,?_⟩
   simp! only [Zc9]
   refine ⟨_,rfl,⟨Zdy _,Zdy _,Zes _,Zes _⟩,?_⟩
   simp! only [heq,gInt1,d3]
   refine ⟨⟨_,rfl⟩,_,hn0,L2.sz2,_,hn0,L2.sz2,L2.sz2,?_⟩
   refine ⟨_,rfl,_,rfl,hbig,_,hat,?_⟩
   simp! only [Zc9]
   refine ⟨_,rfl,_,hat,?_⟩
   simp! only [Zc9]
   refine ⟨_,rfl,?_⟩
   simp!
   refine ⟨L2.sz2,_,rfl,?_⟩
   simp!
   refine ⟨some (.d (Zcp (1,j,ss[j].1))),some (.d (.str (wordOf 1))),some (.d (.int (j:Nat))),some (.d (tI ss[j].1)),o10,o11,?_⟩
   have w1:Zai rs ss (1,j,ss[j].1)=ss[j].2:=by simp [Zai,gEq hi]
   have w2:endD n rs (1,j,ss[j].1) = .tuple [tI (Zb0 n),tI ss[j].1]:=by simp [endD,Zc2]
   rw [e1,e2,w1,w2];rfl
  ·cases e
   have d1:decide (wordOf 2=("round" : Str))=false:=by decide
   have d2:([PyData.str ("bid" : Str),PyData.str ("due" : Str)].any λ y=>y.eqv (PyData.str (wordOf 2)))=true:=by simp only [any_cons,any_nil,Zpv];decide
   have d3:decide (wordOf 2=("due" : Str))=true:=by decide
   have zl:decide (((j:Nat):Int)<((ss.map Zc9).length:Nat))=true:=by simp;omega
   have hat:atI (ss.map Zc9) ((j:Nat):Int)=some (Zc9 ss[j]):=Zcy (by rw [getElem?_map,gEq hi];rfl)
   have heq:PyData.eqv (tI ss[j].1) (PyData.tuple (List.map PyData.int ss[j].1))=true:=Zws ss[j].1
   simp! only [d1,d2,d3,z0,zl]
   refine ⟨L2.sz2,wlay 2 (by decide),_,hat,?_⟩
   simp! only [Zc9]
   refine ⟨_,rfl,⟨Zdy _,Zdy _,Zes _,Zes _⟩,?_⟩
   simp! only [heq,gInt1,d3]
   refine ⟨⟨_,rfl⟩,_,hn0,L2.sz2,_,hn0,L2.sz2,L2.sz2,?_⟩
   refine ⟨_,rfl,_,rfl,hbig,_,hat,?_⟩
   simp! only [Zc9]
   refine ⟨_,rfl,_,hat,?_⟩
   simp! only [Zc9]
   refine ⟨_,rfl,?_⟩
   simp!
   refine ⟨L2.sz2,_,rfl,?_⟩
   simp!
   refine ⟨some (.d (Zcp (2,j,ss[j].1))),some (.d (.str (wordOf 2))),some (.d (.int (j:Nat))),some (.d (tI ss[j].1)),o10,o11,?_⟩
   have w1:Zai rs ss (2,j,ss[j].1)=0-ss[j].2:=by simp [Zai,gEq hi]
   have w2:endD n rs (2,j,ss[j].1) = .tuple [tI ss[j].1,tI (Zb0 n)]:=by simp [endD,Zc2]
   rw [e1,e2,w1,w2];rfl
  ·cases e
   have d1:decide (wordOf 0=("round" : Str))=true:=by decide
   have zl:decide (((j:Nat):Int)<((rs.map rowD).length:Nat))=true:=by simp;omega
   have hr:=hH.row _ (getElem_mem hi)
   simp! only [d1,z0,zl]
   refine ⟨rowD rs[j],Zcy (by rw [getElem?_map,gEq hi];rfl),?_⟩
   simp! only [rowD]
   refine ⟨⟨_,rfl⟩,L2.sz2,_,rfl,hbig,_,⟨rs[j].1,b,rfl,hr.2.2.1,hbl.2,by omega,rfl⟩,?_⟩
   simp!
   refine ⟨_,⟨rs[j].1,rs[j].2,rfl,hr.2.2.1,hr.2.2.2,by omega,rfl⟩,?_⟩
   simp!
   refine ⟨some (.d (Zcp (0,j,b))),some (.d (.str (wordOf 0))),some (.d (.int (j:Nat))),some (.d (tI b)),some (.d (tI rs[j].1)),some (.d (tI rs[j].2)),?_⟩
   have w1:Zai rs ss (0,j,b)=dot rs[j].1 b-dot rs[j].1 rs[j].2:=by simp [Zai,gEq hi]
   have w2:endD n rs (0,j,b) = .tuple [tI rs[j].2,tI b]:=by simp [endD,Zc2,gEq hi]
   rw [e1,e2,w1,w2,<- Int.add_sub_assoc];rfl
 ·rintro s ⟨o6,o7,o8,o9,o10,o11,rfl⟩
  simp!
  rw [take_length]
  obtain ⟨pts,hp0,hpts⟩:=R.ch
  refine ite2 (λ _=>?_) (λ c=>absurd R.neg (by simpa using c))
  rw [lmp]
  refine ⟨⟨by omega,by omega⟩,?_⟩
  unfold rngD
  have hend:∀ j (hj:j<es.length),atI (es.map (endD n rs)) (j:Int)=some (.tuple [tI (pts j),tI (pts (j+1))]):=λ j hj=>
   Zcy (by rw [getElem?_map,gEq hj];show some (endD n rs es[j])=_;unfold endD;rw [hpts j hj])
  have hlast:atI (es.map (endD n rs)) (-1)=some (.tuple [tI (pts (es.length-1)),tI (pts es.length)]):=by
   have e:es=es.dropLast++[es[es.length-1]]:=by
    rw [<- List.getLast_eq_getElem (List.ne_nil_of_length_pos (by omega)),List.dropLast_concat_getLast]
   have h3:atI (es.map (endD n rs)) (-1)=some (endD n rs es[es.length-1]):=by
    conv=>lhs;rw [e,map_append]
    exact Zv0 _ _
   rw [h3]
   unfold endD
   rw [hpts (es.length-1) (by omega)]
   have:es.length-1+1=es.length:=by omega
   rw [this]
  refine Zc5 (List.range (es.length:Int).toNat) (λ (i:Nat)=>.int (0+(i:Int))) (λ _=>.bool true) [] rfl trivial (Zat (by simp;omega)) ?_ ?_
  ·intro j hj Q hQ
   have hj':j<es.length:=by have:=mem_range.mp hj;omega
   simp!
   have hprev:∃ a:List Int,atI (es.map (endD n rs)) (0+(j:Int)-1)=some (.tuple [tI a,tI (pts j)]):=by
    cases j with
    | zero=>exact ⟨_,by rw [<- hp0];exact hlast⟩
    | succ j=>
     have e9:(0:Int)+((j+1:Nat):Int)-1=(j:Int):=by omega
     exact ⟨_,by rw [e9];exact hend j (by omega)⟩
   obtain ⟨a,ha⟩:=hprev
   refine ⟨_,ha,?_⟩
   simp!
   refine ⟨_,rfl,_,(by rw [Int.zero_add];exact hend j hj'),?_⟩
   simp!
   refine ⟨_,rfl,⟨Zdy _,Zdy _,Zes _,Zes _⟩,?_⟩
   rw [Zi0]
   simp! only [decide_true]
   exact hQ
  ·rw [nil_append,Zkg _ (λ _=>true)]
   have eall:((List.range (es.length:Int).toNat).map λ _=>true).all id=true:=by simp
   simp! only [eall]
   exact ⟨_,OW.le.new (OW.le.refl o) hp _,hq⟩
def Shown (k:Nat) (rs:List Rnd) (ss:List Sea) (r:PyData):Prop:=
 (anyB k rs ss=true/\Fine k rs ss/\r = .tuple [.str "worths",Zkj k rs ss]) \/ (anyB k rs ss=false/\∃ es,IsRing k rs ss es/\r = .tuple [.str "ring",.tuple (es.map Zcp)])
def Zf6:DSp:=pureS λ vs r=>∃ k rs ss t,vs=[.d t,.d (Zbx rs),.d (Zbb ss),.d (.int (k:Nat))]/\Hist k rs ss/\Shown k rs ss t/\r = .bool true
theorem Zgn:MoS Zf6:=Zcd
theorem Zk5:∀ vs w k,Zf6 vs w k->vs.length=4:=Zce (by rintro vs r ⟨k,rs,ss,t,rfl,_⟩;rfl)
theorem Zgu (T:Txt K mg):Dn P w K mg base 4 "_law_is_shown" sLawIsShown ["_law_told_here", "_law_rows", "_law_seals", "_law_several"] (spD K Zf6):=by
 have D_law_are_any:=Zm3 (P:=P) (w:=w) (base:=base) T
 have D_law_are_worths:=Zj3 (P:=P) (w:=w) (base:=base) T
 have D_law_is_ring:=Zhp (P:=P) (w:=w) (base:=base) T
 have D_law_told:=Zga (P:=P) (w:=w) (base:=base) T
 refine Dn.data (k:=3) T.f_law_is_shown Zlp Zk5 (λ a cdv A outer s H E hr=>⟨_,_,IPSs.get (Za4 (Zbg (IPW.pt (Zgg (Zdo (Zdt (Zad Zff rfl T.z_isinstance boot_isinstance (Za0 (i_pv 0) (Za0 (Zem (v:=.ty "tuple") rfl T.z_tuple (by decide +kernel) rfl) Za3))))) (Zgg (Zal Zpa (Zad Zaz rfl T.z_len boot_len (Za0 (i_pv 0) Za3)) Za6 (nomark _)) (Zfk (Zdo (Zdt (Zad Zff rfl T.z_isinstance boot_isinstance (Za0 (Zan Zc0 (i_pv 0) Za6 (λ _ _=>rfl)) (Za0 (Zem (v:=.ty "str") rfl T.z_str (by decide +kernel) rfl) Za3))))))))) (Za9 (Zaj (Zd0))) Zap)
  (Za4 (Zbg (Zdt (Zac D_law_are_any Zlx (hr.mono (by decide)) (Za0 (i_pv 1) (Za0 (i_pv 2) (Za0 (i_pv 3) Za3))))) (Za9 (Zaj (Zfh (Zdq Zea (Zan Zc0 (i_pv 0) Za6 (λ _ _=>rfl)) Zca (nomark _)) (Zgf (Zac D_law_are_worths Ziy (hr.mono (by decide)) (Za0 (Zan Zc0 (i_pv 0) Za6 (λ _ _=>rfl)) (Za0 (i_pv 1) (Za0 (i_pv 2) (Za0 (i_pv 3) Za3))))))))) Zap)
  (Za9 (Zaj (Zfh (Zdq Zea (Zan Zc0 (i_pv 0) Za6 (λ _ _=>rfl)) Zca (nomark _)) (Zgf (Zac D_law_is_ring Zho (hr.mono (by decide)) (Za0 (Zan Zc0 (i_pv 0) Za6 (λ _ _=>rfl)) (Za0 (i_pv 1) (Za0 (i_pv 2) (Za0 (Zac D_law_told Zg8 (hr.mono (by decide)) (Za0 (i_pv 1) (Za0 (i_pv 2) (Za0 (i_pv 3) Za3)))) Za3))))))))))),(Zab (Zd4 (Znv (Zfm (rt_b (Zbo Zju (Za1 (Za2 0) (Za1 Zpd Za5))))) (Znv (Zb3 (Zah Zpe (Zbo Zdd (Za1 (Za2 0) Za5)) Zae)) (Zfm (rt_b (Zbo Zju (Za1 (Zah Zby (Za2 0) Zae) (Za1 Zpd Za5))))))) (Zb6 Zfd) Zbc)
  (Zab (Zd4 (rt_b (Zak Zlc (Za1 (Za2 1) (Za1 (Za2 2) (Za1 (Za2 3) Za5))))) (Zb6 (Zh9 (Zah Zeb (Zah Zby (Za2 0) Zae) Zdm) (Zak Zip (Za1 (Zah Zby (Za2 0) Zae) (Za1 (Za2 1) (Za1 (Za2 2) (Za1 (Za2 3) Za5))))))) Zbc)
  (Zb6 (Zh9 (Zah Zeb (Zah Zby (Za2 0) Zae) Zdm) (Zak Zh8 (Za1 (Zah Zby (Za2 0) Zae) (Za1 (Za2 1) (Za1 (Za2 2) (Za1 (Zak Zfl (Za1 (Za2 1) (Za1 (Za2 2) (Za1 (Za2 3) Za5)))) Za5))))))))),λ as o q h=>?_⟩)
 obtain ⟨r,⟨n,rs,ss,t,rfl,hH,hS,rfl⟩,hq⟩:=h
 have e2:decide (((2:Nat):Int)=2)=true:=rfl
 rcases hS with ⟨ha,F,rfl⟩|⟨ha,es,R,rfl⟩
 ·simp! only [tyN]
  refine ⟨true,λ _=>rfl,?_⟩
  simp! only [e2]
  refine ⟨_,rfl,?_⟩
  simp! only [tyN]
  refine ⟨true,λ _=>rfl,?_⟩
  simp!
  refine ⟨_,⟨n,rs,ss,rfl,hH,rfl⟩,?_⟩
  simp! only [ha]
  refine ⟨_,rfl,?_⟩
  simp! only [decide_true]
  refine ⟨_,rfl,_,⟨n,rs,ss,rfl,F,rfl⟩,?_⟩
  exact ⟨_,OW.le.refl _,hq⟩
 ·simp! only [tyN]
  refine ⟨true,λ _=>rfl,?_⟩
  simp! only [e2]
  refine ⟨_,rfl,?_⟩
  simp! only [tyN]
  refine ⟨true,λ _=>rfl,?_⟩
  simp!
  refine ⟨_,⟨n,rs,ss,rfl,hH,rfl⟩,?_⟩
  simp! only [ha]
  refine ⟨_,rfl,?_⟩
  simp! only [decide_true]
  refine ⟨_,rfl,_,⟨n,rs,ss,rfl,hH,rfl⟩,_,⟨n,rs,ss,es,rfl,hH,R,rfl⟩,?_⟩
  exact ⟨_,OW.le.refl _,hq⟩
end
end Mine
namespace Mine
open PySem PySem.Spec PyProof.Rows L2
section
variable {P:Program}{w:World}{K:PySem.W.Frag}{mg:Str->Option Value}{base:Heap}
structure Mild (k:Nat) (rs:List Rnd) (ss:List Sea):Prop where
 k1:1≤k
 k3:k≤3
 row:∀ r∈rs,r.1.length=k/\r.2.length=k/\(∀ x∈r.1,x.natAbs≤2 ^ 20)/\∀ x∈r.2,x.natAbs≤2 ^ 20
 sea:∀ s∈ss,s.1.length=k/\(∀ x∈s.1,x.natAbs≤2 ^ 20)/\s.2.natAbs≤2 ^ 40
 rl:rs.length≤12
 sl:ss.length≤12
 nr:∀ r∈rs,(∀ x∈r.1,0≤x)/\∀ x∈r.2,0≤x
 ns:∀ s∈ss,(∀ x∈s.1,0≤x)/\0≤s.2
theorem sm20 {l:List Int} (h:∀ x∈l,x.natAbs≤2 ^ 20):Sm l:=λ x hx=>lt_of_le_of_lt (h x hx) (by decide)
theorem Mild.hist {k:Nat}{rs:List Rnd}{ss:List Sea} (M:Mild k rs ss):Hist k rs ss:=
 ⟨M.k1,M.k3,λ r hr=>let ⟨a,b,c,d⟩:=M.row r hr;⟨a,b,sm20 c,sm20 d⟩,λ s hs=>let ⟨a,b,_⟩:=M.sea s hs;⟨a,sm20 b⟩,le_trans M.rl (by decide),le_trans M.sl (by decide)⟩
theorem Zun {c:Nat}:∀ l:List Int,(∀ x∈l,x.natAbs≤c)->l.sum.natAbs≤c*l.length
 | [],_=>by simp
 | x::l,h=>by
  rw [sum_cons,length_cons,Nat.mul_add,mul_one]
  have h1:=h x (mem_cons_self ..)
  have h2:=Zun l λ y hy=>h y (mem_cons_of_mem _ hy)
  omega
theorem Zt9 {ns ms:List Int} (h1:∀ x∈ns,x.natAbs≤2 ^ 20) (h2:∀ x∈ms,x.natAbs≤2 ^ 20) (hl:ns.length≤3):(dot ns ms).natAbs≤2 ^ 42:=by
 unfold dot
 have h:=Zun (c:=2 ^ 40) ((ns.zip ms).map λ p=>p.1*p.2) λ x hx=>by
  obtain ⟨p,hp,rfl⟩:=mem_map.mp hx
  obtain ⟨a,b⟩:=of_mem_zip hp
  rw [Int.natAbs_mul]
  exact le_trans (mul_le_mul (h1 _ a) (h2 _ b)) (by decide)
 rw [lmp,length_zip] at h
 omega
theorem Mild.told {k:Nat}{rs:List Rnd}{ss:List Sea} (M:Mild k rs ss):∀ b∈Zav k rs ss,∀ x∈b,x.natAbs≤2 ^ 20:=λ b hb=>by
 rcases Zbz.mp hb with rfl|⟨r,hr,rfl⟩|⟨r,hr,rfl⟩
 ·intro x hx;rw [(mem_replicate.mp hx).2];decide
 ·exact (M.row r hr).2.2.2
 ·exact (M.sea r hr).2.1
theorem Mild.weight {k:Nat}{rs:List Rnd}{ss:List Sea} (M:Mild k rs ss):∀ e∈Zdf (Zav k rs ss) rs ss,(Zai rs ss e).natAbs≤2 ^ 60:=λ e he=>by
 have hk:=M.k3
 rcases Zbn.mp he with ⟨b,hb,rfl⟩|⟨i,hi,h⟩|⟨i,hi,b,hb,rfl⟩
 ·show (0:Int).natAbs≤_;decide
 ·have h1:=(M.sea _ (getElem_mem hi)).2.2
  rcases h with rfl|rfl
  ·have e1:Zai rs ss (1,i,ss[i].1)=ss[i].2:=by simp [Zai,gEq hi]
   rw [e1];omega
  ·have e1:Zai rs ss (2,i,ss[i].1) = -ss[i].2:=by simp [Zai,gEq hi]
   rw [e1];omega
 ·obtain ⟨g1,g2,g3,g4⟩:=M.row _ (getElem_mem hi)
  have e2:Zai rs ss (0,i,b)=dot rs[i].1 b-dot rs[i].1 rs[i].2:=by simp [Zai,gEq hi]
  have d1:=Zt9 g3 (M.told b hb) (by omega)
  have d2:=Zt9 g3 g4 (by omega)
  rw [e2];omega
def Sml (k:Nat) (b:List Int):Prop:=b.length=k/\∀ x∈b,0≤x/\x<1000
def Zgz:DSp:=urnS 4 (λ as=>∃ k:Nat,as=[.d (.int (k:Nat))]/\k≤3) (λ as r=>∃ k:Nat,as=[.d (.int (k:Nat))]/\∃ b,r=tI b/\Sml k b)
theorem Zis:MoS Zgz:=Ze2
theorem Zne:∀ vs w k,Zgz vs w k->vs.length=2:=Zex (n:=1) (by rintro vs ⟨k,rfl,_⟩;rfl)
theorem Zop (T:Txt K mg):Dn P w K mg base 2 "_law_small" sLawSmall ["_law_urn_here", "_law_several"] (spD K Zgz):=by
 have D_law_draw:=Zcw (P:=P) (w:=w) (base:=base) T
 refine Dn.data (k:=1) T.f_law_small Zjv Zne (λ a cdv A outer s H E hr=>⟨_,_,IPSs.get (Za4 (Zag (i:=2) Zjv.nd rfl (Or.inr rfl) (Zan Zco (Zbs (Za0 Za6 (Za0 Za6 (Za0 Za6 (Za0 Za6 Za3))))) (Zac D_law_draw Zar (hr.mono (by decide)) (Za0 (i_pv 0) (Za0 Za6 Za3))) (λ _ _=>rfl)))
  (Za9 (Zaj (Zb9 Zb5 rfl T.z_tuple (by decide +kernel) (Za0 (by refine' Zb2 (Nc:=["_law_k", "_law_urn_here", "_law_wide"]) (cap:=[none,some 0,some 2]) rfl ?i ?k ?g ?t ?e;(case k=>kernel_rfl);(case i=>exact (Zbt rfl T.z_range (Za0 (i_pv 1) Za3)));(case g=>exact (λ _ _ _ _ _=>(Zc3 0 (by show List.Nodup (["_law_k", "_law_urn_here", "_law_wide"]:List Str);decide +kernel))));(case t=>exact (λ _ _ _ _ _=>Zb1));(case e=>exact (λ _ _ _ _ _=>(Zac D_law_draw Zar (hr.mono (by decide)) (Za0 (Ze0 1) (Za0 (Ze0 2) Za3)) (hg:=Zcz))))) Za3))))),(Zab (Zas (Zah Zdw (Zcx false (Za1 Zae (Za1 Zae (Za1 Zae (Za1 Zae Za5))))) (Zak Zao (Za1 (Za2 0) (Za1 Zae Za5)))) (Za7 2))
  (Zb6 (Zbo Zcm (Za1 (Zbl false (Zdk (Za1 (Za2 1) Za5)) (Za7 0) Zcc (Zbm (Zak Zao (Za1 (Za2 1) (Za1 (Za2 2) Za5))))) Za5)))),λ as o q h=>?_⟩)
 obtain ⟨u,as,m,rfl,hw,hm,⟨n,rfl,hn⟩,hq⟩:=Zey h
 rw [hw]
 simp! only [dComp]
 refine ⟨by decide,?_⟩
 refine Zc1 (by omega) (by decide) (by decide) λ d h0 h3=>?_
 simp!
 have key:∃ wd:Int,atI [PyData.int 2,PyData.int 3,PyData.int 5,PyData.int 1000] d=some (.int wd)/\0<wd/\wd≤1000:=by
  have:d=0 \/ d=1 \/ d=2 \/ d=3:=by omega
  rcases this with rfl|rfl|rfl|rfl
  ·exact ⟨2,rfl,by decide,by decide⟩
  ·exact ⟨3,rfl,by decide,by decide⟩
  ·exact ⟨5,rfl,by decide,by decide⟩
  ·exact ⟨1000,rfl,by decide,by decide⟩
 obtain ⟨wd,ewd,wd0,wd1⟩:=key
 refine ⟨_,ewd,?_⟩
 simp!
 refine ⟨⟨by omega,by omega⟩,?_⟩
 unfold rngD
 refine Zgj (List.range (n:Int).toNat) (λ (i:Nat)=>.int (0+(i:Int))) (λ x:Int=>.int x) (λ _ x=>0≤x/\x<wd) 1 rfl (λ _=>trivial) (Zat (by rw [length_range];omega)) ?_ ?_
 ·intro i hi m1 hm1 Q hQ
  simp!
  rw [length_range] at hm1
  refine Zc1 (by omega) wd0 (by omega) λ x hx0 hx4=>?_
  simp!
  exact hQ x _ ⟨hx0,hx4⟩ (le_refl _)
 ·intro ys m1 hl hP hm1
  simp!
  have hl0:=hl
  rw [length_range] at hl hm1
  refine hq (.tuple _) m1 ⟨n,rfl,ys,rfl,by omega,λ x hx=>?_⟩ (by omega)
  obtain ⟨_,_,this⟩:=Zfc (P:=λ _ x=>0≤x/\x<wd) hl0 hP x hx
  omega
end
end Mine
namespace Mine
open PySem PySem.Spec PyProof.Rows L2
section
variable {P:Program}{w:World}{K:PySem.W.Frag}{mg:Str->Option Value}{base:Heap}
theorem powC:CPowB 10 6:=⟨by decide,by decide +kernel⟩
def RowOk (k:Nat) (r:Rnd):Prop:=r.1.length=k/\r.2.length=k/\(∀ x∈r.1,x.natAbs≤2 ^ 20)/\(∀ x∈r.2,x.natAbs≤2 ^ 20)/\(∀ x∈r.1,0≤x)/\∀ x∈r.2,0≤x
def SeaOk (k:Nat) (s:Sea):Prop:=s.1.length=k/\(∀ x∈s.1,x.natAbs≤2 ^ 20)/\s.2.natAbs≤2 ^ 21/\(∀ x∈s.1,0≤x)/\0≤s.2
theorem Sml.b20 {k:Nat}{b:List Int} (h:Sml k b):∀ x∈b,x.natAbs≤2 ^ 20:=λ x hx=>by have:=h.2 x hx;omega
theorem Zvc {c:Prop} [Decidable c] {X:Prop}{R:List Int->Nat->Prop}{b:List Int}{m N:Nat}{Q:List Int->Prop} (hK:∀ b n,Q b->n≤N->R b n) (hQ:Q b) (hm:m≤N) (hX:(∀ b n,Q b->n≤N->R b n)->X):if c then X else R b m:=by
 split
 ·exact hX hK
 ·exact hK b m hQ hm
def Zfr:DSp:=urnS 200 (λ as=>∃ (k:Nat) (M:Int),as=[.d (.int (k:Nat)),.d (.int M)]/\1≤k/\k≤3/\0≤M/\M≤12) (λ as r=>∃ (k:Nat) (M:Int),as=[.d (.int (k:Nat)),.d (.int M)]/\∃ rs ss,r = .tuple [Zbx rs,Zbb ss]/\Mild k rs ss/\∀ s∈ss,s.2.natAbs≤2 ^ 21)
theorem Zle:MoS Zfr:=Ze2
theorem Zl8:∀ vs w k,Zfr vs w k->vs.length=3:=Zex (n:=2) (by rintro vs ⟨A,M,rfl,_⟩;rfl)
theorem Zm5 (T:Txt K mg):Dn P w K mg base 3 "_law_history" sLawHistory ["_law_urn_here", "_law_several", "_law_most"] (spD K Zfr):=by
 have D_law_draw:=Zcw (P:=P) (w:=w) (base:=base) T
 have D_law_prices:=Zie (P:=P) (w:=w) (base:=base) T
 have D_law_small:=Zop (P:=P) (w:=w) (base:=base) T
 refine Dn.data (k:=2) T.f_law_history Zcu Zl8 (λ a cdv A outer s H E hr=>⟨_,_,IPSs.get (Za4 (by refine' Zfj (i:=3) Zcu.nd rfl (Or.inl rfl) (Nc:=["_law_k", "_law_urn_here", "_law_several"]) (cap:=[none,some 0,some 1]) rfl ?i ?k ?g ?t ?e;(case k=>kernel_rfl);(case i=>exact (Zbt rfl T.z_range (Za0 (Zam Zct Za6 (Zac D_law_draw Zar (hr.mono (by decide)) (Za0 (i_pv 0) (Za0 Za6 Za3)))) Za3)));(case g=>exact (λ _ _ _ _ _=>(Zc3 0 (by show List.Nodup (["_law_k", "_law_urn_here", "_law_several"]:List Str);decide +kernel))));(case t=>exact (λ _ _ _ _ _=>Zb1));(case e=>exact (λ _ _ _ _ _=>(Zac D_law_small Zjo (hr.mono (by decide)) (Za0 (Ze0 1) (Za0 (Ze0 2) Za3)) (hg:=Zcz)))))
  (Za4 (Zl0 4 5 rfl Zcu.nd (Za0 (Zbs Za3) (Za0 (Zbs Za3) Za3)))
  (Za4 (Zc6 PassesOwn.never rfl (Zbt rfl T.z_range (Za0 (Zac D_law_draw Zar (hr.mono (by decide)) (Za0 (i_pv 0) (Za0 (Zan Zco (Zbs (Za0 Za6 (Za0 Za6 (Za0 Za6 (Za0 (Zam Zct (i_pv 2) Za6) Za3))))) (Zac D_law_draw Zar (hr.mono (by decide)) (Za0 (i_pv 0) (Za0 Za6 Za3))) (λ _ _=>rfl)) Za3))) Za3)) (Zaf (i:=6) Zcu.nd rfl (Or.inl rfl)) (Za9 (Zch (Zd7 plainAttrs_list PySem.F.slot_list_append PySem.F.type_list_append Zck (i_pv 4) (Za0 (Zaq (Za0 (Zac D_law_prices Zi8 (hr.mono (by decide)) (Za0 (i_pv 0) (Za0 (i_pv 1) Za3))) (Za0 (Zan Zco (i_pv 3) (Zac D_law_draw Zar (hr.mono (by decide)) (Za0 (i_pv 0) (Za0 (Zad Zaz rfl T.z_len boot_len (Za0 (i_pv 3) Za3)) Za3))) (λ _ _=>rfl)) Za3))) Za3)))))
  (Za4 (Zc6 PassesOwn.never rfl (Zbt rfl T.z_range (Za0 (Zac D_law_draw Zar (hr.mono (by decide)) (Za0 (i_pv 0) (Za0 (Zan Zco (Zbs (Za0 Za6 (Za0 Za6 (Za0 Za6 (Za0 (Zam Zct (i_pv 2) Za6) Za3))))) (Zac D_law_draw Zar (hr.mono (by decide)) (Za0 (i_pv 0) (Za0 Za6 Za3))) (λ _ _=>rfl)) Za3))) Za3)) (Zaf (i:=6) Zcu.nd rfl (Or.inl rfl)) (Za4 (Zag (i:=7) Zcu.nd rfl (Or.inl rfl) (Zan Zco (i_pv 3) (Zac D_law_draw Zar (hr.mono (by decide)) (Za0 (i_pv 0) (Za0 (Zad Zaz rfl T.z_len boot_len (Za0 (i_pv 3) Za3)) Za3))) (λ _ _=>rfl)))
  (Za4 (Zbg (Zal Zea (Zac D_law_draw Zar (hr.mono (by decide)) (Za0 (i_pv 0) (Za0 Za6 Za3))) Za6 (nomark _)) (Za9 (Zag (i:=7) Zcu.nd rfl (Or.inl rfl) (Zac D_law_small Zjo (hr.mono (by decide)) (Za0 (i_pv 0) (Za0 (i_pv 1) Za3))))) Zap)
  (Za4 (Zag (i:=8) Zcu.nd rfl (Or.inl rfl) (Zac D_law_draw Zar (hr.mono (by decide)) (Za0 (i_pv 0) (Za0 (Zan Zco (Zbs (Za0 Za6 (Za0 Za6 (Za0 Za6 (Za0 (Zam Zqc Za6 Za6) Za3))))) (Zac D_law_draw Zar (hr.mono (by decide)) (Za0 (i_pv 0) (Za0 Za6 Za3))) (λ _ _=>rfl)) Za3))))
  (Za9 (Zbg (IPW.pt (Ze6 (Zal Zsi (Zad (Zfy true rfl) rfl T.z_max boot_max (Za0 (i_pv 7) Za3)) Za6 (nomark _)) (Ze1 (Zal (Zg4 hr.units) (i_pv 7) (by refine' Zb2 (Nc:=["_law_one", "_law_paid"]) (cap:=[none,none]) rfl ?i ?k ?g ?t ?e;(case k=>kernel_rfl);(case i=>exact (Zd3 (i_pv 5)));(case g=>exact (λ _ _ _ _ _=>(Zc4 (K:=K) rfl (n:=2) rfl (Za8 (Zc3 0 (by show List.Nodup (["_law_one", "_law_paid"]:List Str);decide +kernel)) (Za8 (Zc3 1 (by show List.Nodup (["_law_one", "_law_paid"]:List Str);decide +kernel)) Zau)))));(case t=>exact (λ _ _ _ _ _=>Zb1));(case e=>exact (λ _ _ _ _ _=>(Zc7 0)))) rfl)))) (Za9 (Zch (Zd7 plainAttrs_list PySem.F.slot_list_append PySem.F.type_list_append Zck (i_pv 5) (Za0 (Zaq (Za0 (i_pv 7) (Za0 (i_pv 8) Za3))) Za3)))) Zap))))))
  (Za9 (Zaj (Zaq (Za0 (Zb9 Zb5 rfl T.z_tuple (by decide +kernel) (Za0 (i_pv 4) Za3)) (Za0 (Zb9 Zb5 rfl T.z_tuple (by decide +kernel) (Za0 (i_pv 5) Za3)) Za3))))))))),(Zab (Zas (Zbl false (Zdk (Za1 (Zah Zdx Zae (Zak Zao (Za1 (Za2 0) (Za1 Zae Za5)))) Za5)) (Za7 0) Zcc (Zbm (Zak Zis (Za1 (Za2 1) (Za1 (Za2 2) Za5))))) (Za7 3))
  (Zab (Zuf (Za1 (Zcx true Za5) (Za1 (Zcx true Za5) Za5)))
  (Zab (Zde (Zdk (Za1 (Zak Zao (Za1 (Za2 0) (Za1 (Zah Zdw (Zcx false (Za1 Zae (Za1 Zae (Za1 Zae (Za1 (Zah Zdx (Za2 2) Zae) Za5))))) (Zak Zao (Za1 (Za2 0) (Za1 Zae Za5)))) Za5))) Za5)) (Za7 6) (Zdl (Zec (Za2 4) (Za1 (Zbq (Za1 (Zak Zhr (Za1 (Za2 0) (Za1 (Za2 1) Za5))) (Za1 (Zah Zdw (Za2 3) (Zak Zao (Za1 (Za2 0) (Za1 (Zbo Zdd (Za1 (Za2 3) Za5)) Za5)))) Za5))) Za5))))
  (Zab (Zde (Zdk (Za1 (Zak Zao (Za1 (Za2 0) (Za1 (Zah Zdw (Zcx false (Za1 Zae (Za1 Zae (Za1 Zae (Za1 (Zah Zdx (Za2 2) Zae) Za5))))) (Zak Zao (Za1 (Za2 0) (Za1 Zae Za5)))) Za5))) Za5)) (Za7 6) (Zab (Zas (Zah Zdw (Za2 3) (Zak Zao (Za1 (Za2 0) (Za1 (Zbo Zdd (Za1 (Za2 3) Za5)) Za5)))) (Za7 7))
  (Zab (Zd4 (Zb3 (Zah Zeb (Zak Zao (Za1 (Za2 0) (Za1 Zae Za5))) Zae)) (Zas (Zak Zis (Za1 (Za2 0) (Za1 (Za2 1) Za5))) (Za7 7)) Zbc)
  (Zab (Zas (Zak Zao (Za1 (Za2 0) (Za1 (Zah Zdw (Zcx false (Za1 Zae (Za1 Zae (Za1 Zae (Za1 (Zah ro_I Zae Zae) Za5))))) (Zak Zao (Za1 (Za2 0) (Za1 Zae Za5)))) Za5))) (Za7 8))
  (Zd4 (Zhb (Zb3 (Zah Zha (Zbo (Zjk true) (Za1 (Za2 7) Za5)) Zae)) (Zb3 (Zah Zll (Za2 7) (Zbl false (Ze8 (Za2 5)) (Zcb (Zaa (Za7 0) (Zaa (Za7 1) Zbp))) Zcc (Zbm (Za2 0)))))) (Zdl (Zec (Za2 5) (Za1 (Zbq (Za1 (Za2 7) (Za1 (Za2 8) Za5))) Za5))) Zbc)))))
  (Zb6 (Zbq (Za1 (Zbo Zcm (Za1 (Za2 4) Za5)) (Za1 (Zbo Zcm (Za1 (Za2 5) Za5)) Za5)))))))),λ as o q h=>?_⟩)
 obtain ⟨u,as,m,rfl,hw,hm,⟨k,M,rfl,hk1,hk3,hM0,hM12⟩,hq⟩:=Zey h
 rw [hw]
 simp! only [dComp]
 refine Zc1 (by omega) (by decide) (by decide) λ c hc0 hc6=>?_
 simp!
 simp!
 refine ⟨⟨by omega,by omega⟩,?_⟩
 unfold rngD
 refine Zgj (List.range (1+c).toNat) (λ (i:Nat)=>.int (0+(i:Int))) tI (λ _ b=>Sml k b) 4 rfl (λ _=>trivial) (Zat (by rw [length_range];omega)) ?_ ?_
 ·intro i hi m1 hm1 Q hQ
  simp!
  rw [length_range] at hm1
  refine Zdz (by omega) ⟨k,rfl,hk3⟩ ?_
  rintro r ⟨k',e',b,rfl,hb⟩
  simp!
  have ek:k=k':=by
   have:(k:Int)=(k':Int):=by simpa using e'
   omega
  subst ek
  exact hQ b _ hb (le_refl _)
 intro B m0 hBl hBP hm0
 have hBl0:=hBl
 rw [length_range] at hBl hm0
 have hB:∀ b∈B,Sml k b:=λ b hb=>by obtain ⟨_,_,h5⟩:=Zfc (P:=λ _ b=>Sml k b) hBl0 hBP b hb;exact h5
 have hBB:B.length≤6/\1≤B.length:=by omega
 have hmm:m0≤m+25:=by omega
 simp!
 refine ⟨by decide,λ p1 hp1=>⟨by decide,λ p2 hp2=>?_⟩⟩
 have n1:p1≠u:=λ e=>by rw [e,OW.put_same] at hp1;cases hp1
 have n21:p2≠p1:=λ e=>by rw [e,OW.put_same] at hp2;cases hp2
 have hp2':=hp2
 rw [OW.put_ne n21] at hp2'
 have n2:p2≠u:=λ e=>by rw [e,OW.put_same] at hp2';cases hp2'
 have eW:∀ (X Y:Own) (j:Nat),((o.put u (.urn j)).put p1 X).put p2 Y=((o.put p1 X).put p2 Y).put u (.urn j):=λ X Y j=>by rw [Zdu n1,Zdu n2]
 have g1:∀ (X Y:Own) (j:Nat),(((o.put p1 X).put p2 Y).put u (.urn j)) p1=some X:=λ X Y j=>by rw [OW.put_ne n1,OW.put_ne (Ne.symm n21),OW.put_same]
 have g2:∀ (X Y:Own) (j:Nat),(((o.put p1 X).put p2 Y).put u (.urn j)) p2=some Y:=λ X Y j=>by rw [OW.put_ne n2,OW.put_same]
 have s1:∀ (X Y Z:Own) (j:Nat),(((o.put p1 X).put p2 Y).put u (.urn j)).put p1 Z=((o.put p1 Z).put p2 Y).put u (.urn j):=λ X Y Z j=>by rw [Zdu n1,Zdu (Ne.symm n21),OW.put_put]
 have s2:∀ (X Y Z:Own) (j:Nat),(((o.put p1 X).put p2 Y).put u (.urn j)).put p2 Z=((o.put p1 X).put p2 Z).put u (.urn j):=λ X Y Z j=>by rw [Zdu n2,OW.put_put]
 rw [eW]
 simp! only [dApp,gMax]
 refine ⟨L2.sz4,Zc1 (by omega) (by decide) (by decide) λ d h0 h3=>?_⟩
 simp!
 have key:∃ wd:Int,atI [PyData.int 3,PyData.int 5,PyData.int 7,PyData.int (M+1)] d=some (.int wd)/\0<wd/\wd≤13:=by
  have:d=0 \/ d=1 \/ d=2 \/ d=3:=by omega
  rcases this with rfl|rfl|rfl|rfl
  ·exact ⟨3,rfl,by decide,by decide⟩
  ·exact ⟨5,rfl,by decide,by decide⟩
  ·exact ⟨7,rfl,by decide,by decide⟩
  ·exact ⟨M+1,rfl,by omega,by omega⟩
 obtain ⟨wd,ewd,wd0,wd1⟩:=key
 refine ⟨_,ewd,Zc1 (by omega) wd0 (by omega) λ n hn0 hn1=>?_⟩
 simp!
 refine ⟨⟨by omega,by omega⟩,?_⟩
 have hat:∀ j:Nat,j<B.length->∃ b,atI (B.map tI) (j:Int)=some (tI b)/\Sml k b:=λ j hj=>⟨B[j],Zcy (by rw [getElem?_map,gEq hj];rfl),hB _ (getElem_mem hj)⟩
 refine ⟨λ i s=>∃ (o6:Option Val) (rs:List Rnd) (m':Nat),s=⟨[some (.own u),some (.d (.int (k:Nat))),some (.d (.int M)),some (.d (.list (B.map tI))),some (.own p1),some (.own p2),o6,none,none],((o.put p1 (.lst (rs.map rowD))).put p2 (.lst [])).put u (.urn m')⟩/\rs.length=i/\(∀ r∈rs,RowOk k r)/\m'≤m+27+5*i,⟨none,[],_,rfl,rfl,by simp,by omega⟩,λ _ _ _=>trivial,?_,?_⟩
 ·rintro i d s hd ⟨o6,rs,m',rfl,hrs,hR,hm'⟩
  have hin:i<n.toNat:=by
   obtain ⟨hi,_⟩:=List.getElem?_eq_some_iff.mp hd
   simpa [rngD] using hi
  simp! only [lmp]
  refine ⟨⟨_,g1 _ _ _⟩,?_⟩
  refine Zdz (by omega) ⟨k,rfl,hk3⟩ ?_
  rintro r ⟨k',e',P,rfl,hP⟩
  simp!
  have ek:k=k':=by
   have:(k:Int)=(k':Int):=by simpa using e'
   omega
  subst ek
  refine Zc1 (by omega) (by omega) (by omega) λ j hj0 hj1=>?_
  simp!
  obtain ⟨j,rfl⟩:=Int.eq_ofNat_of_zero_le hj0
  obtain ⟨b,hb1,hb2⟩:=hat j (by omega)
  refine ⟨_,hb1,?_⟩
  simp!
  simp!
  refine ⟨L2.sz2,_,g1 _ _ _,Zat (by rw [lmp];omega),some (.d d),rs++[(P,b)],m' + 4+1,?_,by simp [hrs],λ r hr=>?_,by omega⟩
  ·rw [s1,map_append];rfl
  ·rcases mem_append.mp hr with hr|hr
   ·exact hR r hr
   ·rw [mem_singleton.mp hr];exact ⟨hP.1,hb2.1,hP.2.1,hb2.b20,hP.2.2,λ x hx=>(hb2.2 x hx).1⟩
 ·rintro s ⟨o6,rs,m',rfl,hrs,hR,hm'⟩
  have hrs12:rs.length≤12:=by rw [hrs];simp [rngD];omega
  have hm2:m'≤m+87:=by rw [<- hrs] at hm';omega
  simp!
  refine ⟨L2.sz4,Zc1 (by omega) (by decide) (by decide) λ d h0 h3=>?_⟩
  simp!
  have key:∃ wd:Int,atI [PyData.int 1,PyData.int 3,PyData.int 5,PyData.int (M+1)] d=some (.int wd)/\0<wd/\wd≤13:=by
   have:d=0 \/ d=1 \/ d=2 \/ d=3:=by omega
   rcases this with rfl|rfl|rfl|rfl
   ·exact ⟨1,rfl,by decide,by decide⟩
   ·exact ⟨3,rfl,by decide,by decide⟩
   ·exact ⟨5,rfl,by decide,by decide⟩
   ·exact ⟨M+1,rfl,by omega,by omega⟩
  obtain ⟨wd,ewd,wd0,wd1⟩:=key
  refine ⟨_,ewd,Zc1 (by omega) wd0 (by omega) λ n hn0 hn1=>?_⟩
  simp!
  refine ⟨⟨by omega,by omega⟩,?_⟩
  refine ⟨λ i s=>∃ (o6 o7 o8:Option Val) (ss:List Sea) (m2:Nat),s=⟨[some (.own u),some (.d (.int (k:Nat))),some (.d (.int M)),some (.d (.list (B.map tI))),some (.own p1),some (.own p2),o6,o7,o8],((o.put p1 (.lst (rs.map rowD))).put p2 (.lst (ss.map Zc9))).put u (.urn m2)⟩/\ss.length≤i/\(∀ r∈ss,SeaOk k r)/\m2≤m+89+8*i,⟨o6,none,none,[],_,rfl,by simp,by simp,by omega⟩,λ _ _ _=>trivial,?_,?_⟩
  ·rintro i d s hd ⟨o6,o7,o8,ss,m2,rfl,hss,hS,hm2⟩
   have hin:i<n.toNat:=by
    obtain ⟨hi,_⟩:=List.getElem?_eq_some_iff.mp hd
    simpa [rngD] using hi
   simp! only [lmp]
   refine Zc1 (by omega) (by omega) (by omega) λ j hj0 hj1=>?_
   simp!
   obtain ⟨j,rfl⟩:=Int.eq_ofNat_of_zero_le hj0
   obtain ⟨b,hb1,hb2⟩:=hat j (by omega)
   refine ⟨_,hb1,?_⟩
   simp!
   refine Zc1 (by omega) (by decide) (by decide) λ z hz0 hz3=>?_
   simp!
   refine Zvc (Q:=Sml k) (N:=m2+6) (R:=λ b n=>laterS _ _ ⟨[_,_,_,_,_,_,_,some (.d (tI b)),_],OW.put _ u (.urn n)⟩) (λ b n9 hb2 hn9=>?_) hb2 (by omega) (λ K=>?_)
   rotate_left
   ·simp!
    refine Zdz (by omega) ⟨k,rfl,hk3⟩ ?_
    rintro r ⟨k',e',b,rfl,hb2⟩
    have ek:k=k':=by
     have:(k:Int)=(k':Int):=by simpa using e'
     omega
    subst ek
    exact K _ _ hb2 (by omega)
   simp!
   refine ⟨powC,L2.sz4,?_⟩
   refine Zc1 (by omega) (by decide) (by decide) λ y hy0 hy4=>?_
   simp!
   have key:∃ wc:Int,atI [PyData.int 3,PyData.int 30,PyData.int 1000,PyData.int (10 ^ Int.toNat 6)] y=some (.int wc)/\0<wc/\wc≤1000000:=by
    have:y=0 \/ y=1 \/ y=2 \/ y=3:=by omega
    rcases this with rfl|rfl|rfl|rfl
    ·exact ⟨3,rfl,by decide,by decide⟩
    ·exact ⟨30,rfl,by decide,by decide⟩
    ·exact ⟨1000,rfl,by decide,by decide⟩
    ·exact ⟨10 ^ Int.toNat 6,rfl,by decide,by decide⟩
   obtain ⟨wc,ewc,wc0,wc1⟩:=key
   refine ⟨_,ewc,Zc1 (by omega) wc0 (by omega) λ co hco0 hco1=>?_⟩
   simp!
   have hbl:=hb2.1
   simp! only [tI,uIs_map,dComp]
   refine ⟨λ e=>by rw [e] at hbl;simp at hbl;omega,λ mx hmx hle=>?_⟩
   refine ite2 (λ c=>?_) (λ c=>?_)
   all_goals simp!
   ·refine ⟨_,g2 _ _ _,?_⟩
    refine Zc5 ss Zc9 (λ r=>tI r.1) [] rfl (g2 _ _ _) (Zat (by simp;omega)) ?_ ?_
    ·intro r hr Q hQ
     simp! only [Zc9]
     exact hQ
    ·simp!
     have ed:(ss.map λ r=>tI r.1)=(ss.map Prod.fst).map tI:=by rw [map_map];rfl
     rw [ed]
     refine ⟨⟨Zdy b,Zeo _,Ziw b,Zdr _,by have:=Zfn b;unfold tI at this;rw [this];decide⟩,?_⟩
     refine ite2 (λ c=>?_) (λ c=>?_)
     all_goals simp!
     ·refine ⟨⟨_,g2 _ _ _⟩,L2.sz2,_,g2 _ _ _,Zat (by rw [lmp];omega),some (.d d),some (.d (tI b)),some (.d (.int co)),ss++[(b,co)],n9+1+1,?_,by simp;omega,λ r hr=>?_,by omega⟩
      ·rw [s2,map_append];rfl
      ·rcases mem_append.mp hr with hr|hr
       ·exact hS r hr
       ·rw [mem_singleton.mp hr];exact ⟨hb2.1,hb2.b20,by show co.natAbs≤2 ^ 21;omega,λ x hx=>(hb2.2 x hx).1,hco0⟩
     ·exact ⟨some (.d d),some (.d (tI b)),some (.d (.int co)),ss,n9+1+1,rfl,by omega,hS,by omega⟩
   ·exact ⟨some (.d d),some (.d (tI b)),some (.d (.int co)),ss,n9+1+1,rfl,by omega,hS,by omega⟩
  ·rintro s ⟨o6,o7,o8,ss,m2,rfl,hss,hS,hm2⟩
   have hn12:(rngD 0 n.toNat).length≤12:=by simp [rngD];omega
   simp!
   rw [g1,g2]
   refine ⟨L2.sz2,?_⟩
   obtain ⟨w',hle,hw'⟩:=hq (.tuple [Zbx rs,Zbb ss]) m2 ⟨k,M,rfl,rs,ss,rfl,⟨hk1,hk3,λ r hr=>let ⟨a,b,c,d,_⟩:=hR r hr;⟨a,b,c,d⟩,λ s hs=>let ⟨a,b,c,_⟩:=hS s hs;⟨a,b,by omega⟩,hrs12,by omega,λ r hr=>let ⟨_,_,_,_,a,b⟩:=hR r hr;⟨a,b⟩,λ s hs=>let ⟨_,_,_,a,b⟩:=hS s hs;⟨a,b⟩⟩,λ s hs=>(hS s hs).2.2.1⟩ (by omega)
   refine ⟨w',?_,hw'⟩
   rw [<- eW]
   have q1:(o.put u (.urn m2)) p1=none:=by rw [OW.put_ne n1] at hp1 |-;exact hp1
   have q2:((o.put u (.urn m2)).put p1 (.lst (rs.map rowD))) p2=none:=by rw [OW.put_ne n21,OW.put_ne n2];rw [OW.put_ne n2] at hp2';exact hp2'
   exact OW.le.new (OW.le.new hle q1 _) q2 _
end
end Mine
namespace Mine
open PySem PySem.Spec PyProof.Rows L2
section
variable {P:Program}{w:World}{K:PySem.W.Frag}{mg:Str->Option Value}{base:Heap}
theorem Win.b20 {A b:List Int} (h:Win A b) (hA:Amt A):∀ x∈b,x.natAbs≤2 ^ 20:=λ x hx=>by have:=h.mem hA x hx;omega
theorem Meant.mild {A:List Int}{t:Tst}{rs:List Rnd}{ss:List Sea} (hA:Amt A) (hT:IsT A t) (h:Meant A t rs ss) (h1:rs.length≤12) (h2:ss.length≤12):Mild A.length rs ss:=
 ⟨hA.1,hA.2.1,λ r hr=>let ⟨a,b,_⟩:=h.row r hr;⟨a.1,b.1,a.2.1,b.b20 hA⟩,λ s hs=>let ⟨a,e⟩:=h.sea s hs;⟨a.1,a.b20 hA,by
  have q1:=Zkc hT s.1
  have q2:=Zni hA hT s.1
  rw [e];omega⟩,h1,h2,λ r hr=>let ⟨a,b,_⟩:=h.row r hr;⟨a.2.2,λ x hx=>(b.mem hA x hx).1⟩,λ s hs=>let ⟨a,e⟩:=h.sea s hs;⟨λ x hx=>(a.mem hA x hx).1,by rw [e];exact Zkc hT s.1⟩⟩
theorem Zt0 {α:Type} (f:α->PyData) (xs:List α) (j:Nat):L2.cutD (xs.map f) none (some (j:Int))=(xs.take j).map f:=by
 rw [Zok (by omega),Int.toNat_natCast,map_take]
theorem Zqw {α:Type} (f:α->PyData) (xs:List α) (j:Nat):L2.cutD (xs.map f) (some (j:Int)) none=(xs.drop j).map f:=by
 unfold L2.cutD
 rw [HT.sIx_none,HT.sIx_nat,lmp,<- List.map_drop,<- map_take]
 congr 1
 by_cases h:j≤xs.length
 ·rw [Nat.min_eq_left h]
  exact take_of_length_le (by rw [length_drop];omega)
 ·rw [List.drop_eq_nil_of_le (by omega),List.drop_eq_nil_of_le (by omega)];simp
theorem Rp.shaped {D W:Nat}{d:PyData} (h:Rp D W d) (hD:D≤10):SeqAt.shaped d=true:=by
 obtain ⟨q1,q2,q3,q4,q5,q6⟩:=h
 simp only [SeqAt.shaped,q1,Bool.true_and,decide_eq_true_eq];omega
theorem Mild.rows_rp {k:Nat}{rs:List Rnd}{ss:List Sea} (M:Mild k rs ss):Rp 3 100000 (Zbx rs):=by
 have hk:=M.k3
 have hl:=M.rl
 have h1:∀ r∈rs,Rp 2 700 (rowD r):=λ r hr=>by
  obtain ⟨a,b,c,d⟩:=M.row r hr
  exact Rp.tup (Rps.cons (a:=303) (b:=304) (Zsn (sm20 c) (by omega)) (Rps.cons (b:=0) (Zsn (sm20 d) (by omega)) Rps.nil (by decide)) (by decide))
 exact (Rp.tup (Rps.map rs h1)).mono (by decide) (by omega)
theorem Mild.seals_rp {k:Nat}{rs:List Rnd}{ss:List Sea} (M:Mild k rs ss):Rp 3 100000 (Zbb ss):=by
 have hk:=M.k3
 have hl:=M.sl
 have h1:∀ r∈ss,Rp 2 700 (Zc9 r):=λ r hr=>by
  obtain ⟨a,b,c⟩:=M.sea r hr
  exact Rp.tup (Rps.cons (a:=303) (b:=304) (Zsn (sm20 b) (by omega)) (Rps.cons (b:=0) ((Rp.int (lt_of_le_of_lt c (by decide))).mono (by decide) (le_refl _)) Rps.nil (by decide)) (by decide))
 exact (Rp.tup (Rps.map ss h1)).mono (by decide) (by omega)
theorem Zih (xs:List PyData):PyData.eqv (.tuple xs) (.tuple [])=xs.isEmpty:=by
 rw [PyData.eqv]
 cases xs <;> simp [PyData.eqvAll]
theorem Zms:SeqAt.shaped (PyData.tuple [])=true:=Rp.shaped (D:=1) (W:=0) (Rp.tup Rps.nil) (by decide)
theorem Zre:(PyData.tuple []).hasDict=false:=by simp [PyData.hasDict,PyData.hasDictAll]
theorem Mild.chgR {k:Nat}{rs:List Rnd}{ss:List Sea} (M:Mild k rs ss) {j:Nat} (hj:j<rs.length) {b:List Int} (h1:b.length=k) (h2:∀ x∈b,x.natAbs≤2 ^ 20) (h3:∀ x∈b,0≤x):Mild k (rs.take j++[(rs[j].1,b)]++rs.drop (j+1)) ss:=by
 have hl:=M.rl
 refine ⟨M.k1,M.k3,λ r hr=>?_,M.sea,by simp;omega,M.sl,λ r hr=>?_,M.ns⟩
 rotate_left
 ·rcases mem_append.mp hr with hr|hr
  ·rcases mem_append.mp hr with hr|hr
   ·exact M.nr r (mem_of_mem_take hr)
   ·rw [mem_singleton.mp hr]
    exact ⟨(M.nr _ (getElem_mem hj)).1,h3⟩
  ·exact M.nr r (mem_of_mem_drop hr)
 rcases mem_append.mp hr with hr|hr
 ·rcases mem_append.mp hr with hr|hr
  ·exact M.row r (mem_of_mem_take hr)
  ·rw [mem_singleton.mp hr]
   obtain ⟨a,_,c,_⟩:=M.row _ (getElem_mem hj)
   exact ⟨a,h1,c,h2⟩
 ·exact M.row r (mem_of_mem_drop hr)
theorem Mild.chgS {k:Nat}{rs:List Rnd}{ss:List Sea} (M:Mild k rs ss) {j:Nat} (hj:j<ss.length) {c:Int} (h:c.natAbs≤2 ^ 40) (h0:0≤c):Mild k rs (ss.take j++[(ss[j].1,c)]++ss.drop (j+1)):=by
 have hl:=M.sl
 refine ⟨M.k1,M.k3,M.row,λ r hr=>?_,M.rl,by simp;omega,M.nr,λ r hr=>?_⟩
 rotate_left
 ·rcases mem_append.mp hr with hr|hr
  ·rcases mem_append.mp hr with hr|hr
   ·exact M.ns r (mem_of_mem_take hr)
   ·rw [mem_singleton.mp hr]
    exact ⟨(M.ns _ (getElem_mem hj)).1,h0⟩
  ·exact M.ns r (mem_of_mem_drop hr)
 rcases mem_append.mp hr with hr|hr
 ·rcases mem_append.mp hr with hr|hr
  ·exact M.sea r (mem_of_mem_take hr)
  ·rw [mem_singleton.mp hr]
   obtain ⟨a,b,_⟩:=M.sea _ (getElem_mem hj)
   exact ⟨a,b,h⟩
 ·exact M.sea r (mem_of_mem_drop hr)
def Zf5:DSp:=urnS 300 (λ as=>∃ M:Int,as=[.d (.int M)]/\0≤M/\M≤12) (λ as r=>∃ k rs ss,r = .tuple [Zbx rs,Zbb ss,.int (k:Nat)]/\Mild k rs ss/\∀ s∈ss,s.2.natAbs≤2 ^ 21)
theorem Zk7:MoS Zf5:=Ze2
theorem Zk4:∀ vs w k,Zf5 vs w k->vs.length=2:=Zex (n:=1) (by rintro vs ⟨M,rfl,_⟩;rfl)
theorem Zkr (T:Txt K mg):Dn P w K mg base 4 "_law_any_rows" sLawAnyRows ["_law_urn_here", "_law_most"] (spD K Zf5):=by
 have D_law_amounts:=Zm2 (P:=P) (w:=w) (base:=base) T
 have D_law_bundle:=Zic (P:=P) (w:=w) (base:=base) T
 have D_law_draw:=Zcw (P:=P) (w:=w) (base:=base) T
 have D_law_history:=Zm5 (P:=P) (w:=w) (base:=base) T
 have D_law_meant:=Zon (P:=P) (w:=w) (base:=base) T
 refine Dn.data (k:=3) T.f_law_any_rows Zbh Zk4 (λ a cdv A outer s H E hr=>⟨_,_,IPSs.get (Za4 (Zag (i:=2) Zbh.nd rfl (Or.inl rfl) (Zac D_law_amounts Zlw (hr.mono (by decide)) (Za0 (i_pv 0) Za3)))
  (Za4 (Zag (i:=3) Zbh.nd rfl (Or.inl rfl) (Zac D_law_draw Zar (hr.mono (by decide)) (Za0 (i_pv 0) (Za0 Za6 Za3))))
  (Za4 (Zbg (Zal Zea (i_pv 3) Za6 (nomark _)) (Za4 (Zd9 (Zac D_law_history Zlz (hr.mono (by decide)) (Za0 (i_pv 0) (Za0 (Zad Zaz rfl T.z_len boot_len (Za0 (i_pv 2) Za3)) (Za0 (i_pv 1) Za3)))) (Zcj (n:=2) rfl (Za8 (Zaf (i:=4) Zbh.nd rfl (Or.inl rfl)) (Za8 (Zaf (i:=5) Zbh.nd rfl (Or.inl rfl)) Zau))))
  (Za9 (Zaj (Zaq (Za0 (i_pv 4) (Za0 (i_pv 5) (Za0 (Zad Zaz rfl T.z_len boot_len (Za0 (i_pv 2) Za3)) Za3))))))) Zap)
  (Za4 (Zd9 (Zac D_law_meant Zo8 (hr.mono (by decide)) (Za0 (i_pv 0) (Za0 (i_pv 2) (Za0 (i_pv 1) Za3)))) (Zcj (n:=3) rfl (Za8 (Zaf (i:=4) Zbh.nd rfl (Or.inl rfl)) (Za8 (Zaf (i:=5) Zbh.nd rfl (Or.inl rfl)) (Za8 (Zaf (i:=6) Zbh.nd rfl (Or.inl rfl)) Zau)))))
  (Za4 (Zbg (IPW.pt (Ze6 (Zal Zea (i_pv 3) Za6 (nomark _)) (Ze1 (Zal (Ztx hr.units) (i_pv 4) (Zaq Za3) (nomark _))))) (Za4 (Zag (i:=7) Zbh.nd rfl (Or.inl rfl) (Zac D_law_draw Zar (hr.mono (by decide)) (Za0 (i_pv 0) (Za0 (Zad Zaz rfl T.z_len boot_len (Za0 (i_pv 4) Za3)) Za3))))
  (Za4 (Zag (i:=8) Zbh.nd rfl (Or.inl rfl) (Zaq (Za0 (Zan Zc0 (Zan Zc0 (i_pv 4) (i_pv 7) (λ _ _=>rfl)) Za6 (λ _ _=>rfl)) (Za0 (Zac D_law_bundle Zi6 (hr.mono (by decide)) (Za0 (i_pv 0) (Za0 (i_pv 2) Za3))) Za3))))
  (Za9 (Zag (i:=4) Zbh.nd rfl (Or.inl rfl) (Zam Zjj (Zam Zjj (Zg1 Znx (i_pv 4) Zh6 (Zh7 (i_pv 7))) (Zaq (Za0 (i_pv 8) Za3))) (Zg1 Znx (i_pv 4) (Zh7 (Zam Zct (i_pv 7) Za6)) Zh6)))))) Zap)
  (Za4 (Zbg (IPW.pt (Ze6 (Zal Zea (i_pv 3) Za6 (nomark _)) (Ze1 (Zal (Ztx hr.units) (i_pv 5) (Zaq Za3) (nomark _))))) (Za4 (Zag (i:=7) Zbh.nd rfl (Or.inl rfl) (Zac D_law_draw Zar (hr.mono (by decide)) (Za0 (i_pv 0) (Za0 (Zad Zaz rfl T.z_len boot_len (Za0 (i_pv 5) Za3)) Za3))))
  (Za4 (Zag (i:=9) Zbh.nd rfl (Or.inl rfl) (Zad (Zog rfl) rfl T.z_max boot_max (Za0 Za6 (Za0 (Zam Zhs (Zam Zct (Zan Zc0 (Zan Zc0 (i_pv 5) (i_pv 7) (λ _ _=>rfl)) Za6 (λ _ _=>rfl)) (Zac D_law_draw Zar (hr.mono (by decide)) (Za0 (i_pv 0) (Za0 Za6 Za3)))) Za6) Za3))))
  (Za4 (Zag (i:=8) Zbh.nd rfl (Or.inl rfl) (Zaq (Za0 (Zan Zc0 (Zan Zc0 (i_pv 5) (i_pv 7) (λ _ _=>rfl)) Za6 (λ _ _=>rfl)) (Za0 (i_pv 9) Za3))))
  (Za9 (Zag (i:=5) Zbh.nd rfl (Or.inl rfl) (Zam Zjj (Zam Zjj (Zg1 Znx (i_pv 5) Zh6 (Zh7 (i_pv 7))) (Zaq (Za0 (i_pv 8) Za3))) (Zg1 Znx (i_pv 5) (Zh7 (Zam Zct (i_pv 7) Za6)) Zh6))))))) Zap)
  (Za9 (Zaj (Zaq (Za0 (i_pv 4) (Za0 (i_pv 5) (Za0 (Zad Zaz rfl T.z_len boot_len (Za0 (i_pv 2) Za3)) Za3)))))))))))),(Zab (Zas (Zak Zlb (Za1 (Za2 0) Za5)) (Za7 2))
  (Zab (Zas (Zak Zao (Za1 (Za2 0) (Za1 Zae Za5))) (Za7 3))
  (Zab (Zd4 (Zb3 (Zah Zeb (Za2 3) Zae)) (Zab (Zas (Zak Zle (Za1 (Za2 0) (Za1 (Zbo Zdd (Za1 (Za2 2) Za5)) (Za1 (Za2 1) Za5)))) (Zcb (Zaa (Za7 4) (Zaa (Za7 5) Zbp))))
  (Zb6 (Zbq (Za1 (Za2 4) (Za1 (Za2 5) (Za1 (Zbo Zdd (Za1 (Za2 2) Za5)) Za5)))))) Zbc)
  (Zab (Zas (Zak Znm (Za1 (Za2 0) (Za1 (Za2 2) (Za1 (Za2 1) Za5)))) (Zcb (Zaa (Za7 4) (Zaa (Za7 5) (Zaa (Za7 6) Zbp)))))
  (Zab (Zd4 (Zhb (Zb3 (Zah Zeb (Za2 3) Zae)) (Zb3 (Zah Zmu (Za2 4) (Zbq Za5)))) (Zab (Zas (Zak Zao (Za1 (Za2 0) (Za1 (Zbo Zdd (Za1 (Za2 4) Za5)) Za5))) (Za7 7))
  (Zab (Zas (Zbq (Za1 (Zah Zby (Zah Zby (Za2 4) (Za2 7)) Zae) (Za1 (Zak Zhq (Za1 (Za2 0) (Za1 (Za2 2) Za5))) Za5))) (Za7 8))
  (Zas (Zah Zi4 (Zah Zi4 (Zu9 Zw6 (Za2 4) Zlm (Zln (Za2 7))) (Zbq (Za1 (Za2 8) Za5))) (Zu9 Zw6 (Za2 4) (Zln (Zah Zdx (Za2 7) Zae)) Zlm)) (Za7 4)))) Zbc)
  (Zab (Zd4 (Zhb (Zb3 (Zah Zeb (Za2 3) Zae)) (Zb3 (Zah Zmu (Za2 5) (Zbq Za5)))) (Zab (Zas (Zak Zao (Za1 (Za2 0) (Za1 (Zbo Zdd (Za1 (Za2 5) Za5)) Za5))) (Za7 7))
  (Zab (Zas (Zbo Zu5 (Za1 Zae (Za1 (Zah Zdx (Zah Zdx (Zah Zby (Zah Zby (Za2 5) (Za2 7)) Zae) (Zak Zao (Za1 (Za2 0) (Za1 Zae Za5)))) Zae) Za5))) (Za7 9))
  (Zab (Zas (Zbq (Za1 (Zah Zby (Zah Zby (Za2 5) (Za2 7)) Zae) (Za1 (Za2 9) Za5))) (Za7 8))
  (Zas (Zah Zi4 (Zah Zi4 (Zu9 Zw6 (Za2 5) Zlm (Zln (Za2 7))) (Zbq (Za1 (Za2 8) Za5))) (Zu9 Zw6 (Za2 5) (Zln (Zah Zdx (Za2 7) Zae)) Zlm)) (Za7 5))))) Zbc)
  (Zb6 (Zbq (Za1 (Za2 4) (Za1 (Za2 5) (Za1 (Zbo Zdd (Za1 (Za2 2) Za5)) Za5))))))))))),λ as o q h=>?_⟩)
 obtain ⟨u,as,m,rfl,hw,hm,⟨M,rfl,hM0,hM12⟩,hq⟩:=Zey h
 rw [hw]
 simp!
 refine Zdz (by omega) rfl ?_
 rintro r ⟨A,rfl,hA⟩
 simp!
 have hA1:=hA.1
 have hA2:=hA.2.1
 refine Zc1 (by omega) (by decide) (by decide) λ way hw0 hw4=>?_
 simp!
 refine ite2 (λ c=>?_) (λ c=>?_)
 all_goals simp!
 ·simp! only [tI,lmp]
  refine Zdz (by omega) ⟨A.length,M,rfl,hA1,hA2,hM0,hM12⟩ ?_
  rintro r ⟨k',M',e',rs,ss,rfl,hMi,hC⟩
  simp!
  have ek:A.length=k':=by
   have:(A.length:Int)=(k':Int):=by
    simp only [List.cons.injEq,Val.d.injEq,PyData.int.injEq,and_true] at e'
    exact e'.1
   omega
  subst ek
  simp! only [Zbx,Zbb,tI,lmp]
  refine ⟨L2.sz3,?_⟩
  exact hq _ _ ⟨A.length,rs,ss,rfl,hMi,hC⟩ (by omega)
 ·refine Zdz (by omega) ⟨A,M,rfl,hA,hM0,hM12⟩ ?_
  rintro r ⟨A',M',e',rs,ss,t,rfl,hT,hMe,hr12,hs12⟩
  simp!
  have eA:A=A':=by
   simp only [List.cons.injEq,Val.d.injEq,and_true] at e'
   exact Zjy e'.1
  subst eA
  have hMi:=hMe.mild hA hT hr12 hs12
  have hC:∀ s∈ss,s.2.natAbs≤2 ^ 21:=λ s hs=>by
   have q0:=(hMe.sea s hs).2
   have q1:=Zkc hT s.1
   have q2:=Zni hA hT s.1
   omega
  simp!
  have fin:∀ m',m'≤m+300->∃ w',w'.le (o.put u (Own.urn m'))/\q (Val.d (PyData.tuple [PyData.tuple (rs.map rowD),PyData.tuple (ss.map Zc9),PyData.int ((A.length:Nat):Int)])) w':=λ m' h=>hq _ _ ⟨A.length,rs,ss,rfl,hMi,hC⟩ h
  have hrp:=hMi.rows_rp
  have hsp:=hMi.seals_rp
  have ways:way=1 \/ way=2 \/ way=3:=by
   have:way≠0:=by simpa using c
   omega
  have d12:decide ((1:Int)=2)=false:=rfl
  have d21:decide ((2:Int)=1)=false:=rfl
  have d31:decide ((3:Int)=1)=false:=rfl
  have d32:decide ((3:Int)=2)=false:=rfl
  rcases ways with rfl|rfl|rfl
  ·simp! only [decide_true,d12]
   refine ⟨by decide,⟨hrp.2.1,Zre,Rp.shaped hrp (by decide),Zms⟩,?_⟩
   simp! only [Zbx,Zbb,Zih,isEmpty_map,lmp,tI]
   refine ite2 (λ c=>?_) (λ c=>?_)
   all_goals simp! only [Zbx,Zbb,Zih,isEmpty_map,lmp,tI,d12,d21,d31,d32]
   ·have hpos:0<rs.length:=length_pos_iff.mpr (by simpa using c)
    refine Zc1 (by omega) (by omega) (by omega) λ j hj0 hj1=>?_
    simp! only [Zbx,Zbb,lmp,tI,d12,d21,d31,d32]
    obtain ⟨j,rfl⟩:=Int.eq_ofNat_of_zero_le hj0
    have hj:j<rs.length:=by omega
    refine ⟨rowD rs[j],Zcy (by rw [getElem?_map,gEq hj];rfl),?_⟩
    simp! only [rowD,Zbx,Zbb,lmp,tI]
    refine ⟨_,rfl,?_⟩
    refine Zdz (by omega) ⟨A,rfl,hA⟩ ?_
    rintro r ⟨A',e',b,rfl,hb⟩
    simp! only [Zbx,Zbb,lmp,tI,d12,d21,d31,d32]
    have eA:A=A':=by
     simp only [List.cons.injEq,Val.d.injEq,and_true] at e'
     exact Zjy e'
    subst eA
    simp! only [Zbx,Zbb,lmp,tI,d12,d21,d31,d32]
    have ej:((j:Nat):Int)+1=((j+1:Nat):Int):=by omega
    refine ⟨L2.sz2,?_⟩
    simp! only [Zbx,Zbb,lmp,tI,d12,d21,d31,d32]
    rw [ej,Zt0,Zqw]
    refine ⟨L2.sz1,Zfe (by rw [lmp,length_take];omega),Zfe (by simp only [length_append,lmp,length_take,length_drop,length_cons,length_nil];omega),?_⟩
    simp! only [Zbx,Zbb,lmp,tI,d12,d21,d31,d32]
    refine ⟨L2.sz3,?_⟩
    refine hq _ _ ⟨A.length,rs.take j++[(rs[j].1,b)]++rs.drop (j+1),ss,?_,hMi.chgR hj hb.1 (hb.b20 hA) (λ x hx=>(hb.mem hA x hx).1),hC⟩ (by omega)
    unfold Zbx Zbb
    rw [map_append,map_append];rfl
   ·refine ⟨L2.sz3,?_⟩
    exact fin _ (by omega)
  ·simp! only [decide_true,d21]
   refine ⟨by decide,⟨hsp.2.1,Zre,Rp.shaped hsp (by decide),Zms⟩,?_⟩
   simp! only [Zbx,Zbb,Zih,isEmpty_map,lmp,tI]
   refine ite2 (λ c=>?_) (λ c=>?_)
   all_goals simp! only [Zbx,Zbb,Zih,isEmpty_map,lmp,tI,d12,d21,d31,d32]
   ·have hpos:0<ss.length:=length_pos_iff.mpr (by simpa using c)
    refine Zc1 (by omega) (by omega) (by omega) λ j hj0 hj1=>?_
    simp! only [Zbx,Zbb,lmp,tI,d12,d21,d31,d32]
    obtain ⟨j,rfl⟩:=Int.eq_ofNat_of_zero_le hj0
    have hj:j<ss.length:=by omega
    have hat:atI (ss.map Zc9) ((j:Nat):Int)=some (Zc9 ss[j]):=Zcy (by rw [getElem?_map,gEq hj];rfl)
    have hco:ss[j].2.natAbs≤39000:=by
     have q0:=(hMe.sea _ (getElem_mem hj)).2
     have q1:=Zkc hT ss[j].1
     have q2:=Zni hA hT ss[j].1
     omega
    refine ⟨_,hat,?_⟩
    simp! only [Zbx,Zbb,lmp,tI,d12,d21,d31,d32]
    simp! only [Zc9,Zbx,Zbb,lmp,tI]
    refine ⟨_,rfl,?_⟩
    refine Zc1 (by omega) (by decide) (by decide) λ y hy0 hy1=>?_
    simp! only [Zbx,Zbb,lmp,tI,d12,d21,d31,d32]
    refine ⟨_,hat,?_⟩
    simp! only [Zbx,Zbb,lmp,tI,d12,d21,d31,d32]
    simp! only [Zc9,Zbx,Zbb,lmp,tI]
    refine ⟨_,rfl,?_⟩
    simp! only [Zbx,Zbb,lmp,tI,d12,d21,d31,d32]
    refine ⟨L2.sz2,?_⟩
    simp! only [Zbx,Zbb,lmp,tI,d12,d21,d31,d32]
    refine ⟨L2.sz1,?_⟩
    simp! only [Zbx,Zbb,lmp,tI,d12,d21,d31,d32]
    have ej:((j:Nat):Int)+1=((j+1:Nat):Int):=by omega
    have hcut:L2.cutD (ss.map Zc9) none (some ((j:Nat):Int))=(ss.take j).map Zc9:=Zt0 _ _ _
    have hcut2:L2.cutD (ss.map Zc9) (some (((j:Nat):Int)+1)) none=(ss.drop (j+1)).map Zc9:=by rw [ej];exact Zqw _ _ _
    rw [hcut,hcut2]
    refine ⟨Zfe (by rw [lmp,length_take];omega),Zfe (by simp only [length_append,lmp,length_take,length_drop,length_cons,length_nil];omega),?_⟩
    simp! only [Zbx,Zbb,lmp,tI,d12,d21,d31,d32]
    refine ⟨L2.sz3,?_⟩
    refine hq _ _ ⟨A.length,rs,ss.take j++[(ss[j].1,max 0 (ss[j].2+y-10))]++ss.drop (j+1),?_,hMi.chgS hj (by omega) (by omega),λ s hs=>?_⟩ (by omega)
    ·unfold Zbx Zbb
     rw [map_append,map_append];rfl
    ·rcases mem_append.mp hs with hs|hs
     ·rcases mem_append.mp hs with hs|hs
      ·exact hC s (mem_of_mem_take hs)
      ·rw [mem_singleton.mp hs]
       show (max 0 (ss[j].2+y-10)).natAbs≤2 ^ 21
       omega
     ·exact hC s (mem_of_mem_drop hs)
   ·refine ⟨L2.sz3,?_⟩
    exact fin _ (by omega)
  ·simp! only [d31,d32,Zbx,Zbb,tI,lmp]
   refine ⟨L2.sz3,?_⟩
   exact fin _ (by omega)
end
end Mine
namespace Mine
open PySem PySem.Spec PyProof.Rows L2
open Ways (Walk Way better relax pass Sound Beats Calm)
variable {k:Nat}{rs rs':List Rnd}{ss ss':List Sea}{p:List Int->Int}{b:List Int}
def HasW (k:Nat) (rs:List Rnd) (ss:List Sea):Prop:=∃ p,Tasteful k rs ss p
def wordF (k:Nat) (rs:List Rnd) (ss:List Sea):Str:=if (Zbr k rs ss).2.2=none then "worths" else "ring"
theorem Right.taste (R:Right k rs ss):Tasteful k rs ss (Zcf k rs ss):=⟨R.zero,R.nn,R.sea,R.row⟩
theorem none_iff (hH:Hist k rs ss):(Zbr k rs ss).2.2=none ↔ HasW k rs ss:=by
 constructor
 ·intro h
  rcases dichotomy hH with ⟨W,_,R⟩|⟨_,b,d,h2,_⟩
  ·exact ⟨_,R.taste⟩
  ·rw [h] at h2;cases h2
 ·rintro ⟨p,hp⟩
  exact (Zfx hH hp).none
theorem Zlu (hH:Hist k rs ss) (hH':Hist k rs' ss') (h:HasW k rs ss ↔ HasW k rs' ss'):wordF k rs ss=wordF k rs' ss':=by
 unfold wordF
 by_cases c:(Zbr k rs ss).2.2=none
 ·rw [if_pos c,if_pos ((none_iff hH').mpr (h.mp ((none_iff hH).mp c)))]
 ·rw [if_neg c,if_neg λ c'=>c ((none_iff hH).mpr (h.mpr ((none_iff hH').mp c')))]
theorem Zel (hH:Hist k rs ss):wordF k rs ss = "worths" ↔ HasW k rs ss:=by
 rw [<- none_iff hH]
 unfold wordF
 by_cases c:(Zbr k rs ss).2.2=none
 ·rw [if_pos c];exact ⟨λ _=>c,λ _=>rfl⟩
 ·rw [if_neg c];exact ⟨λ h=>absurd h (by decide),λ h=>absurd h c⟩
theorem Zpl (hH:Hist k rs ss) (h:¬ HasW k rs ss):wordF k rs ss = "ring":=by
 unfold wordF;rw [if_neg λ c=>h ((none_iff hH).mp c)]
theorem Zkf (h1:∀ r∈rs',r∈rs) (h2:∀ s∈ss',s∈ss) {x:List Int} (h:x∈Zav k rs' ss'):x∈Zav k rs ss:=by
 rcases Zbz.mp h with h|⟨r,hr,h⟩|⟨s,hs,h⟩
 ·exact Zbz.mpr (.inl h)
 ·exact Zbz.mpr (.inr (.inl ⟨r,h1 r hr,h⟩))
 ·exact Zbz.mpr (.inr (.inr ⟨s,h2 s hs,h⟩))
theorem HasW.sub (h:HasW k rs ss) (h1:∀ r∈rs',r∈rs) (h2:∀ s∈ss',s∈ss):HasW k rs' ss':=by
 obtain ⟨p,hp⟩:=h
 exact ⟨p,hp.zero,λ b hb=>hp.nn b (Zkf h1 h2 hb),λ s hs=>hp.sea s (h2 s hs),λ r hr b hb=>hp.row r (h1 r hr) b (Zkf h1 h2 hb)⟩
theorem Hist.sub (h:Hist k rs ss) (h1:∀ r∈rs',r∈rs) (h2:∀ s∈ss',s∈ss) (l1:rs'.length≤13) (l2:ss'.length≤13):Hist k rs' ss':=by
 obtain ⟨a,b,c,d,_,_⟩:=h
 exact ⟨a,b,λ r hr=>c r (h1 r hr),λ s hs=>d s (h2 s hs),l1,l2⟩
theorem Mild.sub (h:Mild k rs ss) (h1:∀ r∈rs',r∈rs) (h2:∀ s∈ss',s∈ss) (l1:rs'.length≤12) (l2:ss'.length≤12):Mild k rs' ss':=
 ⟨h.k1,h.k3,λ r hr=>h.row r (h1 r hr),λ s hs=>h.sea s (h2 s hs),l1,l2,λ r hr=>h.nr r (h1 r hr),λ s hs=>h.ns s (h2 s hs)⟩
theorem Zri (hp:Tasteful k rs ss p) {e:Stp} (he:e∈Zdf (Zav k rs ss) rs ss):p (Zc2 k rs e).2≤p (Zc2 k rs e).1+Zai rs ss e:=by
 rcases Zbn.mp he with ⟨b,hb,rfl⟩|⟨i,hi,h⟩|⟨i,hi,b,hb,rfl⟩
 ·show p (Zb0 k)≤p b+0
  have:=hp.nn b hb
  rw [hp.zero];omega
 ·have h1:=hp.sea ss[i] (getElem_mem hi)
  rcases h with rfl|rfl
  ·show p ss[i].1≤p (Zb0 k)+Zai rs ss (1,i,ss[i].1)
   have:Zai rs ss (1,i,ss[i].1)=ss[i].2:=by simp [Zai,gEq hi]
   rw [this,hp.zero];omega
  ·show p (Zb0 k)≤p ss[i].1+Zai rs ss (2,i,ss[i].1)
   have:Zai rs ss (2,i,ss[i].1) = -ss[i].2:=by simp [Zai,gEq hi]
   rw [this,hp.zero];omega
 ·have h1:=hp.row rs[i] (getElem_mem hi) b hb
  have e1:(Zc2 k rs (0,i,b))=(rs[i].2,b):=by simp [Zc2,gEq hi]
  have e2:Zai rs ss (0,i,b)=dot rs[i].1 b-dot rs[i].1 rs[i].2:=by simp [Zai,gEq hi]
  rw [e1,e2]
  show p b≤p rs[i].2+(dot rs[i].1 b-dot rs[i].1 rs[i].2)
  omega
theorem IsRing.no {es:List Stp} (R:IsRing k rs ss es):¬ HasW k rs ss:=by
 rintro ⟨p,hp⟩
 obtain ⟨pts,h0,hpts⟩:=R.ch
 have key:∀ m,m≤es.length->p (pts m)≤p (pts 0)+((es.take m).map (Zai rs ss)).sum:=by
  intro m
  induction m with
  | zero=>intro _;simp
  | succ m ih=>
   intro hm
   have h1:=ih (by omega)
   have h2:=Zri hp (R.mem _ (getElem_mem (show m<es.length by omega)))
   rw [hpts m (by omega)] at h2
   simp only at h2
   rw [take_add_one,gEq (by omega),map_append,sum_append]
   simp only [Option.toList_some,map_cons,map_nil,sum_cons,sum_nil]
   omega
 have:=key es.length (le_refl _)
 rw [take_length,h0] at this
 have:=R.neg
 omega
theorem Zyf (hH:Hist k rs ss) (h:¬ HasW k rs ss):∃ es,IsRing k rs ss es:=by
 rcases dichotomy hH with ⟨W,_,R⟩|⟨_,b,d,_,_,h4⟩
 ·exact absurd ⟨_,R.taste⟩ h
 ·exact ⟨_,h4⟩
def mvS (f:Nat->Nat) (e:Stp):Stp:=if e.1=0 then (0,f e.2.1,e.2.2) else e
theorem IsRing.move {es:List Stp} (R:IsRing k rs ss es) {f:Nat->Nat} (hf:∀ i (h:i<rs.length),∃ h':f i<rs'.length,rs'[f i]=rs[i]):IsRing k rs' ss (es.map (mvS f)):=by
 have hsub:∀ r∈rs,r∈rs':=λ r hr=>by
  obtain ⟨i,hi,rfl⟩:=getElem_of_mem hr
  obtain ⟨h',e⟩:=hf i hi
  rw [<- e];exact getElem_mem h'
 have key:∀ e∈es,mvS f e∈Zdf (Zav k rs' ss) rs' ss/\Zc2 k rs' (mvS f e)=Zc2 k rs e/\Zai rs' ss (mvS f e)=Zai rs ss e:=λ e he=>by
  rcases Zbn.mp (R.mem e he) with ⟨b,hb,rfl⟩|⟨i,hi,h⟩|⟨i,hi,b,hb,rfl⟩
  ·exact ⟨Zbn.mpr (.inl ⟨b,Zkf hsub (λ s h=>h) hb,rfl⟩),rfl,rfl⟩
  ·rcases h with rfl|rfl
   ·exact ⟨Zbn.mpr (.inr (.inl ⟨i,hi,.inl rfl⟩)),rfl,rfl⟩
   ·exact ⟨Zbn.mpr (.inr (.inl ⟨i,hi,.inr rfl⟩)),rfl,rfl⟩
  ·obtain ⟨h',e⟩:=hf i hi
   have em:mvS f (0,i,b)=(0,f i,b):=rfl
   rw [em]
   refine ⟨Zbn.mpr (.inr (.inr ⟨f i,h',b,Zkf hsub (λ s h=>h) hb,rfl⟩)),?_,?_⟩
   ·simp [Zc2,gEq hi,gEq h',e]
   ·simp [Zai,gEq hi,gEq h',e]
 obtain ⟨pts,h0,hpts⟩:=R.ch
 refine ⟨by rw [lmp];exact R.n1,by rw [lmp];exact R.n27,λ e he=>?_,⟨pts,by rw [lmp];exact h0,λ i hi=>?_⟩,?_⟩
 ·obtain ⟨x,hx,rfl⟩:=mem_map.mp he
  exact (key x hx).1
 ·rw [lmp] at hi
  rw [getElem_map,(key _ (getElem_mem hi)).2.1,hpts i hi]
 ·rw [map_map,map_congr_left (f:=Zai rs' ss ∘ mvS f) (g:=Zai rs ss) λ e he=>(key e he).2.2]
  exact R.neg
def mulR (m:Int) (r:Rnd):Rnd:=(r.1.map λ x=>x*m,r.2)
def mulC (m:Int) (s:Sea):Sea:=(s.1,s.2*m)
theorem Zn8 (m:Int):∀ P b:List Int,dot (P.map λ x=>x*m) b=dot P b*m
 | [],b=>by unfold dot;simp
 | x::P,[]=>by unfold dot;simp
 | x::P,y::b=>by
  have ih:=Zn8 m P b
  unfold dot at *
  rw [map_cons,zip_cons_cons,map_cons,sum_cons,ih,zip_cons_cons,map_cons,sum_cons,Int.add_mul]
  show x*m*y+_=x*y*m+_
  rw [Int.mul_assoc,Int.mul_comm m y,<- Int.mul_assoc]
theorem Zo3 (m:Int):Zav k (rs.map (mulR m)) (ss.map (mulC m))=Zav k rs ss:=by
 unfold Zav;rw [map_map,map_map];rfl
theorem HasW.mul {m:Int} (hm:1≤m) (hH:Hist k rs ss) (hH':Hist k (rs.map (mulR m)) (ss.map (mulC m))):HasW k rs ss ↔ HasW k (rs.map (mulR m)) (ss.map (mulC m)):=by
 constructor
 ·rintro ⟨p,hp⟩
  refine ⟨λ x=>p x*m,by rw [hp.zero];simp,λ x hx=>?_,λ s hs=>?_,λ r hr x hx=>?_⟩
  ·rw [Zo3] at hx
   exact Int.mul_nonneg (hp.nn x hx) (by omega)
  ·obtain ⟨q,hq,rfl⟩:=mem_map.mp hs
   show p q.1*m=q.2*m
   rw [hp.sea q hq]
  ·obtain ⟨q,hq,rfl⟩:=mem_map.mp hr
   rw [Zo3] at hx
   show p x*m-dot (q.1.map λ x=>x*m) x≤p q.2*m-dot (q.1.map λ x=>x*m) q.2
   rw [Zn8,Zn8,<- Int.sub_mul,<- Int.sub_mul]
   exact Int.mul_le_mul_of_nonneg_right (hp.row q hq x hx) (by omega)
 ·intro h
  refine Classical.byContradiction λ c=>?_
  obtain ⟨es,R⟩:=Zyf hH c
  refine IsRing.no (es:=es) ⟨R.n1,R.n27,λ e he=>?_,?_,?_⟩ h
  ·rw [Zo3]
   rcases Zbn.mp (R.mem e he) with ⟨b,hb,rfl⟩|⟨i,hi,h⟩|⟨i,hi,b,hb,rfl⟩
   ·exact Zbn.mpr (.inl ⟨b,hb,rfl⟩)
   ·refine Zbn.mpr (.inr (.inl ⟨i,by rw [lmp];exact hi,?_⟩))
    rw [getElem_map];exact h
   ·exact Zbn.mpr (.inr (.inr ⟨i,by rw [lmp];exact hi,b,hb,rfl⟩))
  ·obtain ⟨pts,h0,hpts⟩:=R.ch
   refine ⟨pts,h0,λ i hi=>?_⟩
   rw [<- hpts i hi]
   rcases Zbn.mp (R.mem _ (getElem_mem hi)) with ⟨b,hb,e⟩|⟨j,hj,e|e⟩|⟨j,hj,b,hb,e⟩
   ·rw [e];rfl
   ·rw [e];rfl
   ·rw [e];rfl
   ·rw [e];simp [Zc2,getElem?_map,gEq hj,mulR]
  ·have e:∀ l:List Stp,(∀ e∈l,e∈Zdf (Zav k rs ss) rs ss)->(l.map (Zai (rs.map (mulR m)) (ss.map (mulC m)))).sum=(l.map (Zai rs ss)).sum*m:=by
    intro l
    induction l with
    | nil=>intro _;simp
    | cons x l ih=>
     intro hl
     rw [map_cons,map_cons,sum_cons,sum_cons,ih λ e he=>hl e (mem_cons_of_mem _ he),Int.add_mul]
     congr 1
     rcases Zbn.mp (hl x (mem_cons_self ..)) with ⟨b,hb,rfl⟩|⟨i,hi,rfl|rfl⟩|⟨i,hi,b,hb,rfl⟩
     ·show (0:Int)=0*m;simp
     ·simp [Zai,getElem?_map,gEq hi,mulC]
     ·simp [Zai,getElem?_map,gEq hi,mulC,Int.neg_mul]
     ·simp [Zai,getElem?_map,gEq hi,mulR,Zn8,Int.sub_mul]
   rw [e es R.mem]
   have h1:=R.neg
   have:(es.map (Zai rs ss)).sum*m≤-1*m:=Int.mul_le_mul_of_nonneg_right (by omega) (by omega)
   omega
end Mine
namespace Mine
open PySem PySem.Spec PyProof.Rows L2
open Ways (Walk Way better relax pass Sound Beats Calm)
variable {k:Nat}{rs rs':List Rnd}{ss ss':List Sea}{p:List Int->Int}{b:List Int}
def revR (r:Rnd):Rnd:=(r.1.reverse,r.2.reverse)
def revC (s:Sea):Sea:=(s.1.reverse,s.2)
theorem Zx9:∀ (a b c d:List Int),a.length=b.length->dot (a++c) (b++d)=dot a b+dot c d:=λ a b c d h=>by
 unfold dot
 rw [zip_append h,map_append,sum_append]
theorem Zps:∀ (a b:List Int),a.length=b.length->dot a.reverse b.reverse=dot a b
 | [],[],_=>rfl
 | x::a,y::b,h=>by
  have h':a.length=b.length:=by simpa using h
  rw [reverse_cons,reverse_cons,Zx9 _ _ _ _ (by rw [length_reverse,length_reverse];exact h'),Zps a b h']
  unfold dot
  rw [zip_cons_cons,map_cons,sum_cons]
  simp only [zip_cons_cons,List.zip_nil_right,map_cons,map_nil,sum_cons,sum_nil]
  omega
theorem Zrs (k:Nat):(Zb0 k).reverse=Zb0 k:=by unfold Zb0;exact List.reverse_replicate ..
theorem Zrp {x:List Int} (h:x∈Zav k (rs.map revR) (ss.map revC)):x.reverse∈Zav k rs ss:=by
 rcases Zbz.mp h with h|⟨r,hr,h⟩|⟨s,hs,h⟩
 ·rw [h];show (Zb0 k).reverse∈_;rw [Zrs];exact Zeu k rs ss
 ·obtain ⟨q,hq,rfl⟩:=mem_map.mp hr
  exact Zbz.mpr (.inr (.inl ⟨q,hq,by rw [<- h];exact (reverse_reverse _).symm⟩))
 ·obtain ⟨q,hq,rfl⟩:=mem_map.mp hs
  exact Zbz.mpr (.inr (.inr ⟨q,hq,by rw [<- h];exact (reverse_reverse _).symm⟩))
theorem Hist.rev (h:Hist k rs ss):Hist k (rs.map revR) (ss.map revC):=by
 obtain ⟨a,b,c,d,e,f⟩:=h
 have sm:∀ {l:List Int},Sm l->Sm l.reverse:=λ h x hx=>h x (mem_reverse.mp hx)
 refine ⟨a,b,λ r hr=>?_,λ r hr=>?_,by rw [lmp];exact e,by rw [lmp];exact f⟩
 ·obtain ⟨q,hq,rfl⟩:=mem_map.mp hr
  obtain ⟨c1,c2,c3,c4⟩:=c q hq
  exact ⟨by unfold revR;rw [length_reverse];exact c1,by unfold revR;rw [length_reverse];exact c2,sm c3,sm c4⟩
 ·obtain ⟨q,hq,rfl⟩:=mem_map.mp hr
  obtain ⟨c1,c2⟩:=d q hq
  exact ⟨by unfold revC;rw [length_reverse];exact c1,sm c2⟩
theorem HasW.rev1 (hH:Hist k rs ss) (h:HasW k rs ss):HasW k (rs.map revR) (ss.map revC):=by
 obtain ⟨p,hp⟩:=h
 refine ⟨λ x=>p x.reverse,by rw [Zrs];exact hp.zero,λ x hx=>hp.nn _ (Zrp hx),λ s hs=>?_,λ r hr x hx=>?_⟩
 ·obtain ⟨q,hq,rfl⟩:=mem_map.mp hs
  show p q.1.reverse.reverse=q.2
  rw [reverse_reverse];exact hp.sea q hq
 ·obtain ⟨q,hq,rfl⟩:=mem_map.mp hr
  have hx':=Zrp hx
  have:=hp.row q hq _ hx'
  have l1:=(hH.row q hq).1
  have l2:=(hH.row q hq).2.1
  have l3:=(hH.told _ hx').1
  have e1:dot q.1.reverse x=dot q.1 x.reverse:=by rw [<- Zps q.1 x.reverse (by rw [l1,l3]),reverse_reverse]
  have e2:dot q.1.reverse q.2.reverse=dot q.1 q.2:=Zps _ _ (by rw [l1,l2])
  show p x.reverse-dot q.1.reverse x≤p q.2.reverse.reverse-dot q.1.reverse q.2.reverse
  rw [e1,e2,reverse_reverse]
  exact this
theorem HasW.rev (hH:Hist k rs ss):HasW k rs ss ↔ HasW k (rs.map revR) (ss.map revC):=by
 refine ⟨HasW.rev1 hH,λ h=>?_⟩
 have e1:(rs.map revR).map revR=rs:=by
  rw [map_map]
  conv=>rhs;rw [<- List.map_id rs]
  exact map_congr_left λ r _=>by simp [revR]
 have e2:(ss.map revC).map revC=ss:=by
  rw [map_map]
  conv=>rhs;rw [<- List.map_id ss]
  exact map_congr_left λ r _=>by simp [revC]
 have:=HasW.rev1 hH.rev h
 rwa [e1,e2] at this
theorem Zsm {arcs:List (Ways.Arc (List Int))} (calm:Calm arcs) {s v:List Int}:∀ (n:Nat) {W:Int},Walk arcs s v W n->∃ W' l,W'≤W/\Way arcs s v W' l/\l.Nodup:=by
 intro n
 induction n using Nat.strongRecOn with
 | ind n ih=>
  intro W hw
  obtain ⟨l,h1,h2⟩:=hw.way
  by_cases c:l.Nodup
  ·exact ⟨W,l,Int.le_refl _,h1,c⟩
  ·obtain ⟨W2,m,h3,h4,h5⟩:=h1.shorter calm c
   obtain ⟨W3,l3,h6,h7,h8⟩:=ih m (by omega) h5
   exact ⟨W3,l3,by omega,h7,h8⟩
theorem Zyp {arcs:List (Ways.Arc (List Int))}{G:List Int->Int} (hG:∀ y,0≤G y) (h:∀ a∈arcs,-a.2.2≤G a.2.1) {s v:List Int}{W:Int}{l:List (List Int)} (hw:Way arcs s v W l) : -W≤(l.map G).sum:=by
 induction hw with
 | nil=>have:=hG s;simp;exact this
 | snoc h' ha ih=>
  have:=h _ ha
  simp only at this
  rw [map_append,sum_append]
  simp only [map_cons,map_nil,sum_cons,sum_nil]
  omega
theorem Zo0 (a:List Int) {c:Int} (hc:0≤c):∀ l:List (List Int),l.Nodup->(l.map λ y=>if a=y then c else 0).sum≤c/\(a ∉ l->(l.map λ y=>if a=y then c else 0).sum=0)
 | [],_=>⟨by simpa using hc,λ _=>rfl⟩
 | y::l,h=>by
  obtain ⟨h1,h2⟩:=nodup_cons.mp h
  obtain ⟨i1,i2⟩:=Zo0 a hc l h2
  rw [map_cons,sum_cons]
  by_cases e:a=y
  ·rw [if_pos e,i2 (by rw [e];exact h1)]
   exact ⟨by omega,λ h=>absurd (by rw [e];exact mem_cons_self ..) h⟩
  ·rw [if_neg e]
   exact ⟨by omega,λ h=>by rw [i2 λ m=>h (mem_cons_of_mem _ m)];rfl⟩
theorem Zo1 {α:Type} (f:α->List Int->Int) (c:α->Int) (l:List (List Int)):∀ rs:List α,(∀ r∈rs,(l.map (f r)).sum≤c r)->(l.map λ y=>(rs.map λ r=>f r y).sum).sum≤(rs.map c).sum
 | [],_=>by
  simp only [map_nil,sum_nil]
  induction l with
  | nil=>simp
  | cons y l ih=>simpa using ih
 | r::rs,h=>by
  have ih:=Zo1 f c l rs λ x hx=>h x (mem_cons_of_mem _ hx)
  have h1:=h r (mem_cons_self ..)
  have e:(l.map λ y=>((r::rs).map λ r=>f r y).sum).sum=(l.map (f r)).sum+(l.map λ y=>(rs.map λ r=>f r y).sum).sum:=by
   clear ih h1 h
   induction l with
   | nil=>simp
   | cons y l ih=>
    simp only [map_cons,sum_cons] at ih |-
    omega
  rw [e,map_cons,sum_cons]
  omega
def rowG (y:List Int) (r:Rnd):Int:=if r.2=y then dot r.1 r.2 else 0
def seaG (y:List Int) (s:Sea):Int:=if s.1=y then s.2 else 0
def farF (rs:List Rnd) (ss:List Sea):Int:=(ss.map λ s=>s.2).sum+(rs.map λ r=>dot r.1 r.2).sum
theorem Zjf {α:Type} (f:α->Int):∀ (l:List α),(∀ x∈l,0≤f x)->0≤(l.map f).sum/\∀ x∈l,f x≤(l.map f).sum
 | [],_=>⟨by simp,λ x hx=>absurd hx not_mem_nil⟩
 | y::l,h=>by
  obtain ⟨i1,i2⟩:=Zjf f l λ x hx=>h x (mem_cons_of_mem _ hx)
  have h1:=h y (mem_cons_self ..)
  rw [map_cons,sum_cons]
  refine ⟨by omega,λ x hx=>?_⟩
  rcases mem_cons.mp hx with rfl|hx
  ·omega
  ·have:=i2 x hx;omega
theorem Zos:∀ (P b:List Int),(∀ x∈P,0≤x)->(∀ x∈b,0≤x)->0≤dot P b
 | [],b,_,_=>by unfold dot;simp
 | p::P,[],_,_=>by unfold dot;simp
 | p::P,x::b,h1,h2=>by
  have ih:=Zos P b (λ y hy=>h1 y (mem_cons_of_mem _ hy)) λ y hy=>h2 y (mem_cons_of_mem _ hy)
  have h:=Int.mul_nonneg (h1 p (mem_cons_self ..)) (h2 x (mem_cons_self ..))
  unfold dot at *
  rw [zip_cons_cons,map_cons,sum_cons]
  show 0≤p*x+_
  omega
theorem Mild.told_nn (M:Mild k rs ss):∀ b∈Zav k rs ss,∀ x∈b,0≤x:=λ b hb=>by
 rcases Zbz.mp hb with rfl|⟨r,hr,rfl⟩|⟨r,hr,rfl⟩
 ·intro x hx;rw [(mem_replicate.mp hx).2];decide
 ·exact (M.nr r hr).2
 ·exact (M.ns r hr).1
theorem Zui {arcs:List ArcT}{z:List Int}:∀ (m:Nat) (S:S3),Sound (arcs.map arc3) z (lk S.1)->Sound (arcs.map arc3) z (lk (runS arcs m S).1):=by
 intro m
 induction m with
 | zero=>intro S h;exact h
 | succ m ih=>
  intro S h
  have h2:Sound (arcs.map arc3) z (lk (Zcg arcs S.1 S.2.1).1):=by rw [Znk];exact Sound.fold _ (λ a ha=>ha) h
  unfold runS
  cases hS:Zcg arcs S.1 S.2.1 with
  | mk W2 R=>
   obtain ⟨Lb,f2⟩:=R
   rw [hS] at h2
   cases f2 with
   | none=>exact h2
   | some b=>exact ih _ h2
theorem Mild.low (M:Mild k rs ss) (R:Right k rs ss):∀ b∈Zav k rs ss,Zcf k rs ss b≤farF rs ss:=λ b hb=>by
 obtain ⟨d,hd⟩:=R.all b hb
 have hS:Sound ((Zbv k rs ss).map arc3) (Zb0 k) (lk (Zbr k rs ss).1):=Zui _ _ (Zlr _ _)
 obtain ⟨n,hw⟩:=hS _ _ hd
 have arc_of:∀ a∈(Zbv k rs ss).map arc3,∃ e∈Zdf (Zav k rs ss) rs ss,a=((Zc2 k rs e).2,(Zc2 k rs e).1,Zai rs ss e):=by
  intro a ha
  obtain ⟨c,hc,rfl⟩:=mem_map.mp ha
  unfold Zbv arcsF at hc
  obtain ⟨b,hb,rfl⟩:=mem_map.mp hc
  obtain ⟨e,he,rfl⟩:=mem_map.mp hb
  exact ⟨e,he,rfl⟩
 have calm:Calm ((Zbv k rs ss).map arc3):=Ways.calm_of (λ b=>-Zcf k rs ss b) λ a ha=>by
  obtain ⟨e,he,rfl⟩:=arc_of a ha
  have:=Zri R.taste he
  show -Zcf k rs ss (Zc2 k rs e).1≤-Zcf k rs ss (Zc2 k rs e).2+Zai rs ss e
  omega
 obtain ⟨W,l,h1,h2,h3⟩:=Zsm calm n hw
 have g1:∀ y,∀ r∈rs,0≤rowG y r:=λ y r hr=>by
  unfold rowG
  split
  ·exact Zos _ _ (M.nr r hr).1 (M.nr r hr).2
  ·exact Int.le_refl 0
 have g2:∀ y,∀ s∈ss,0≤seaG y s:=λ y s hs=>by
  unfold seaG
  split
  ·exact (M.ns s hs).2
  ·exact Int.le_refl 0
 have s1:=λ y=>Zjf (rowG y) rs (g1 y)
 have s2:=λ y=>Zjf (seaG y) ss (g2 y)
 have h4:=Zyp (G:=λ y=>(ss.map (seaG y)).sum+(rs.map (rowG y)).sum) (λ y=>by have:=(s1 y).1;have:=(s2 y).1;omega) (λ a ha=>by
  obtain ⟨e,he,rfl⟩:=arc_of a ha
  show -Zai rs ss e≤(ss.map (seaG (Zc2 k rs e).1)).sum+(rs.map (rowG (Zc2 k rs e).1)).sum
  have q1:=(s1 (Zc2 k rs e).1).1
  have q2:=(s2 (Zc2 k rs e).1).1
  rcases Zbn.mp he with ⟨b,hb,rfl⟩|⟨i,hi,rfl|rfl⟩|⟨i,hi,b,hb,rfl⟩
  ·have:Zai rs ss (3,0,b)=0:=rfl
   omega
  ·have:Zai rs ss (1,i,ss[i].1)=ss[i].2:=by simp [Zai,gEq hi]
   have:=(M.ns _ (getElem_mem hi)).2
   omega
  ·have e1:Zai rs ss (2,i,ss[i].1) = -ss[i].2:=by simp [Zai,gEq hi]
   have q3:=(s2 ss[i].1).2 _ (getElem_mem hi)
   unfold seaG at q3
   rw [if_pos rfl] at q3
   have e2:(Zc2 k rs (2,i,ss[i].1)).1=ss[i].1:=rfl
   rw [e2] at q1 |-
   unfold seaG
   omega
  ·have e1:Zai rs ss (0,i,b)=dot rs[i].1 b-dot rs[i].1 rs[i].2:=by simp [Zai,gEq hi]
   have e2:(Zc2 k rs (0,i,b)).1=rs[i].2:=by simp [Zc2,gEq hi]
   have q3:=(s1 rs[i].2).2 _ (getElem_mem hi)
   unfold rowG at q3
   rw [if_pos rfl] at q3
   have q4:=Zos rs[i].1 b (M.nr _ (getElem_mem hi)).1 (M.told_nn b hb)
   rw [e2] at q2 |-
   unfold rowG
   omega) h2
 have h5:(l.map λ y=>(ss.map (seaG y)).sum+(rs.map (rowG y)).sum).sum=(l.map λ y=>(ss.map (seaG y)).sum).sum+(l.map λ y=>(rs.map (rowG y)).sum).sum:=by
  clear h2 h3 h4
  induction l with
  | nil=>rfl
  | cons y l ih=>simp only [map_cons,sum_cons] at ih |-;omega
 have h6:(l.map λ y=>(ss.map (seaG y)).sum).sum≤_:=Zo1 (λ s y=>seaG y s) (λ s=>s.2) l ss λ s hs=>(Zo0 s.1 (M.ns s hs).2 l h3).1
 have h7:(l.map λ y=>(rs.map (rowG y)).sum).sum≤_:=Zo1 (λ r y=>rowG y r) (λ r=>dot r.1 r.2) l rs λ r hr=>(Zo0 r.2 (Zos _ _ (M.nr r hr).1 (M.nr r hr).2) l h3).1
 have eO:Zcf k rs ss b = -d:=by unfold Zcf;rw [hd];rfl
 unfold farF
 rw [eO]
 omega
theorem Zpr (c:Int):∀ b:List Int,dot (List.replicate b.length c) b=c*b.sum
 | []=>by unfold dot;simp
 | x::b=>by
  have ih:=Zpr c b
  unfold dot at *
  rw [length_cons,replicate_succ,zip_cons_cons,map_cons,sum_cons,ih,sum_cons,Int.mul_add]
theorem Zuq:∀ b:List Int,(∀ x∈b,0≤x)->b≠Zb0 b.length->1≤b.sum
 | [],_,h=>absurd rfl h
 | x::b,h,hn=>by
  have hx:=h x (mem_cons_self ..)
  have hb:=λ y hy=>h y (mem_cons_of_mem x hy)
  have h0:=(Zjf (λ y:Int=>y) b hb).1
  rw [List.map_id'] at h0
  rw [sum_cons]
  by_cases c:x=0
  ·have:b≠Zb0 b.length:=λ e=>hn (by rw [c,length_cons];unfold Zb0 at *;rw [replicate_succ,<- e])
   have:=Zuq b hb this
   omega
  ·omega
def dearR (k:Nat) (c:Int):Rnd:=(List.replicate k c,Zb0 k)
theorem Zol {c:Int}{x:List Int} (h:x∈Zav k (rs++[dearR k c]) ss):x∈Zav k rs ss:=by
 rcases Zbz.mp h with h|⟨r,hr,h⟩|⟨s,hs,h⟩
 ·exact Zbz.mpr (.inl h)
 ·rcases mem_append.mp hr with hr|hr
  ·exact Zbz.mpr (.inr (.inl ⟨r,hr,h⟩))
  ·rw [mem_singleton.mp hr] at h
   exact Zbz.mpr (.inl h.symm)
 ·exact Zbz.mpr (.inr (.inr ⟨s,hs,h⟩))
theorem Mild.far_nn (M:Mild k rs ss):0≤farF rs ss:=by
 have a1:=(Zjf (λ s:Sea=>s.2) ss λ s hs=>(M.ns s hs).2).1
 have a2:=(Zjf (λ r:Rnd=>dot r.1 r.2) rs λ r hr=>Zos _ _ (M.nr r hr).1 (M.nr r hr).2).1
 unfold farF;omega
theorem Mild.dear (M:Mild k rs ss) (h:HasW k rs ss):HasW k (rs++[dearR k (farF rs ss+1)]) ss:=by
 obtain ⟨p,hp⟩:=h
 have R:=Zfx M.hist hp
 refine ⟨Zcf k rs ss,R.zero,λ b hb=>R.nn b (Zol hb),R.sea,λ r hr b hb=>?_⟩
 have hb:=Zol hb
 rcases mem_append.mp hr with hr|hr
 ·exact R.row r hr b hb
 ·rw [mem_singleton.mp hr]
  have hl:=(M.hist.told b hb).1
  have f0:=M.far_nn
  have e1:dot (List.replicate k (farF rs ss+1)) b=(farF rs ss+1)*b.sum:=by rw [<- hl];exact Zpr _ b
  have e2:dot (List.replicate k (farF rs ss+1)) (Zb0 k)=0:=by
   have:=Zpr (farF rs ss+1) (Zb0 k)
   have l0:(Zb0 k).length=k:=by simp [Zb0]
   rw [l0] at this
   rw [this]
   have:(Zb0 k).sum=0:=by unfold Zb0;simp
   rw [this];simp
  show Zcf k rs ss b-dot (List.replicate k (farF rs ss+1)) b≤Zcf k rs ss (Zb0 k)-dot (List.replicate k (farF rs ss+1)) (Zb0 k)
  rw [e1,e2,R.zero]
  by_cases c:b=Zb0 k
  ·have:b.sum=0:=by rw [c];unfold Zb0;simp
   rw [this,c,R.zero];simp
  ·have h1:=M.low R b hb
   have h2:=Zuq b (M.told_nn b hb) (by rw [hl];exact c)
   have h3:(farF rs ss+1)*1≤(farF rs ss+1)*b.sum:=Int.mul_le_mul_of_nonneg_left h2 (by omega)
   omega
end Mine
namespace Mine
open PySem PySem.Spec PyProof.Rows L2
section
variable {P:Program}{w:World}{K:PySem.W.Frag}{mg:Str->Option Value}{base:Heap}
theorem Zvh {src:List PyData × (OW->Prop)}{e0:List (Option Val)}{dg:DTG}{dt:DTT}{de:DTE}{k:List PyData->DS->Prop}{o:OW}{u:Addr}{m0:Nat} (xs:List PyData) (hsrc:src.1=xs) (hp:∀ w,src.2 w) (hl:xs.length<sizeLine)
  (hs:∀ x∈xs,∀ m,m+1≤m0+xs.length->∀ Q:Option PyData->OW->Prop,Q (some x) (o.put u (.urn (m+1)))->Q none (o.put u (.urn (m+1)))->dg (.d x) ⟨e0,o.put u (.urn m)⟩ λ s2=>dt s2 λ b s3=>if b=true then de s3 (λ v s1=>match v with | .d y=>ext e0 s1.e/\Q (some y) s1.w|_=>False) else ext e0 s3.e/\Q none s3.w)
  (hk:∀ ys:List PyData,ys.Sublist xs->k ys ⟨e0,o.put u (.urn (m0+xs.length))⟩):∃ I:Nat->List PyData->OW->Prop,I 0 [] (o.put u (.urn m0))/\LIt src e0 dg dt (dEmit de) k I:=by
 refine ⟨λ i acc w=>i≤xs.length/\acc.Sublist (xs.take i)/\w=o.put u (.urn (m0+i)),⟨zero_le _,by simp,rfl⟩,?_,?_,?_⟩
 ·rintro i acc w ⟨hi,hS,rfl⟩
  have:=hS.length_le
  rw [length_take] at this
  exact ⟨hp _,λ _=>by omega⟩
 ·rintro i d acc w hd ⟨hi,hS,rfl⟩
  rw [hsrc] at hd
  obtain ⟨hlt,hx⟩:=List.getElem?_eq_some_iff.mp hd
  have ht:xs.take (i+1)=xs.take i++[d]:=by rw [take_add_one,hd];rfl
  refine hs d (mem_of_getElem? hd) (m0+i) (by omega) (λ y w=>i+1≤xs.length/\(match y with|some y=>acc++[y]|none=>acc).Sublist (xs.take (i+1))/\w=o.put u (.urn (m0+(i+1)))) ?_ ?_
  ·exact ⟨hlt,by rw [ht];exact hS.append (List.Sublist.refl _),rfl⟩
  ·exact ⟨hlt,by rw [ht];exact hS.trans (List.sublist_append_left ..),rfl⟩
 ·rintro acc w ⟨hi,hS,rfl⟩
  rw [hsrc] at hS |-
  rw [take_length] at hS
  exact hk acc hS
def Zhv:DSp:=urnS 12 (λ as=>∃ ds:List PyData,as=[.d (.tuple ds)]/\ds.length≤12) (λ as r=>∃ ds ds':List PyData,as=[.d (.tuple ds)]/\r = .tuple ds'/\ds'.Sublist ds)
theorem Zjs:MoS Zhv:=Ze2
theorem Zp4:∀ vs w k,Zhv vs w k->vs.length=2:=Zex (n:=1) (by rintro vs ⟨ds,rfl,_⟩;rfl)
theorem Zpp (T:Txt K mg):Dn P w K mg base 2 "_law_part" sLawPart ["_law_urn_here", "_law_row"] (spD K Zhv):=by
 have D_law_draw:=Zcw (P:=P) (w:=w) (base:=base) T
 refine Dn.dataI (k:=1) T.f_law_part Zqm Zp4 (λ a cdv A outer s H E hr=>⟨_,_,  (Za4 (Zaj (Zb9 Zb5 rfl T.z_tuple (by decide +kernel) (Za0 (by refine' Zb2 (Nc:=["_law_one", "_law_urn_here"]) (cap:=[none,some 0]) rfl ?i ?k ?g ?t ?e;(case k=>kernel_rfl);(case i=>exact (Zbu (i_pv 1)));(case g=>exact (λ _ _ _ _ _=>(Zc3 0 (by show List.Nodup (["_law_one", "_law_urn_here"]:List Str);decide +kernel))));(case t=>exact (λ _ _ _ _ _=>(Zl1 (Zal Zsi (Zac D_law_draw Zar (hr.mono (by decide)) (Za0 (Ze0 1) (Za0 Za6 Za3)) (hg:=Zcz)) Za6 (nomark _)))));(case e=>exact (λ _ _ _ _ _=>(Zc7 0)))) Za3))) Zap),(Zab (Zb6 (Zbo Zcm (Za1 (Zbl false (Zcq (Za2 1)) (Za7 0) (Zb3 (Zah Zha (Zak Zao (Za1 (Za2 1) (Za1 Zae Za5))) Zae)) (Zbm (Za2 0))) Za5))) Zbc),λ as o q h=>?_⟩)
 obtain ⟨u,as,m,rfl,hw,hm,⟨ds,rfl,hl⟩,hq⟩:=Zey h
 rw [hw]
 simp! only [dComp]
 refine Zvh ds rfl (λ _=>trivial) (Zat (by omega)) ?_ ?_
 ·intro x hx m1 hm1 Q h1 h2
  simp!
  refine Zc1 (by omega) (by decide) (by decide) λ d h0 h3=>?_
  simp!
  exact ite2 (λ _=>h1) (λ _=>h2)
 intro ys hS
 simp!
 obtain ⟨w',h3,h4⟩:=hq (.tuple ys) (m+ds.length) ⟨ds,ys,rfl,rfl,hS⟩ (by omega)
 rw [hw,OW.put_put] at h3
 exact ⟨w',h3,h4⟩
theorem Zrt {α β:Type}:∀ {l:List α}{r:List β},r.length=l.length->∀ {x:α},x∈l->∃ y,(x,y)∈l.zip r
 | [],_,_,_,h=>absurd h not_mem_nil
 | a::l,[],h,_,_=>by simp at h
 | a::l,b::r,h,x,hx=>by
  rcases mem_cons.mp hx with rfl|hx
  ·exact ⟨b,mem_cons_self ..⟩
  ·obtain ⟨y,hy⟩:=Zrt (l:=l) (r:=r) (by simpa using h) hx
   exact ⟨y,mem_cons_of_mem _ hy⟩
def Zgy:DSp:=urnS 1 (λ as=>∃ rs:List Rnd,as=[.d (Zbx rs)]/\rs.length≤100/\∀ r∈rs,r.1≠[]/\Sm r.1) (λ as r=>∃ (rs:List Rnd) (m:Int),as=[.d (Zbx rs)]/\r = .int m/\1≤m/\m≤10/\(m=1 \/ ∀ r∈rs,∀ x∈r.1,x*m≤1000000))
theorem Znn:MoS Zgy:=Ze2
theorem Znd:∀ vs w k,Zgy vs w k->vs.length=2:=Zex (n:=1) (by rintro vs ⟨k,rfl,_⟩;rfl)
theorem Zoo (T:Txt K mg):Dn P w K mg base 2 "_law_often" sLawOften ["_law_urn_here", "_law_rows"] (spD K Zgy):=by
 have D_law_draw:=Zcw (P:=P) (w:=w) (base:=base) T
 refine Dn.dataI (k:=1) T.f_law_often Zhc Znd (λ a cdv A outer s H E hr=>⟨_,_,  (Za4 (Zag (i:=2) Zhc.nd rfl (Or.inl rfl) (Zam Zct Za6 (Zac D_law_draw Zar (hr.mono (by decide)) (Za0 (i_pv 0) (Za0 Za6 Za3)))))
  (Za4 (Zag (i:=3) Zhc.nd rfl (Or.inl rfl) (Zad (Zfy false rfl) rfl T.z_max boot_max (Za0 (Zam Ztu (Zbs (Za0 Za6 Za3)) (by refine' Zb2 (Nc:=["_law_prices_here", "_law_one"]) (cap:=[none,none]) rfl ?i ?k ?g ?t ?e;(case k=>kernel_rfl);(case i=>exact (Zbu (i_pv 1)));(case g=>exact (λ _ _ _ _ _=>(Zc4 (K:=K) rfl (n:=2) rfl (Za8 (Zc3 0 (by show List.Nodup (["_law_prices_here", "_law_one"]:List Str);decide +kernel)) (Za8 (Zc3 1 (by show List.Nodup (["_law_prices_here", "_law_one"]:List Str);decide +kernel)) Zau)))));(case t=>exact (λ _ _ _ _ _=>Zb1));(case e=>exact (λ _ _ _ _ _=>(Zad (Zrz (K:=K) rfl true rfl) Zcz T.z_max boot_max (Za0 (Zc7 0) Za3)))))) Za3)))
  (Za9 (Zaj (Zj8 (Zal Ztw (Zam Ze7 (i_pv 3) (i_pv 2)) Za6 (nomark _)) (i_pv 2) Za6))))),(Zab (Zas (Zah Zdx Zae (Zak Zao (Za1 (Za2 0) (Za1 Zae Za5)))) (Za7 2))
  (Zab (Zas (Zbo (Zjk false) (Za1 (Zah (Zud false) (Zcx false (Za1 Zae Za5)) (Zbl false (Zcq (Za2 1)) (Zcb (Zaa (Za7 0) (Zaa (Za7 1) Zbp))) Zcc (Zbm (Zbo (Zjk true) (Za1 (Za2 0) Za5))))) Za5)) (Za7 3))
  (Zb6 (Zyb (Zb3 (Zah Zha (Zah ro_I (Za2 3) (Za2 2)) Zae)) (Za2 2) Zae)))),λ as o q h=>?_⟩)
 obtain ⟨u,as,m,rfl,hw,hm,⟨rs,rfl,hrl,hne⟩,hq⟩:=Zey h
 rw [hw]
 simp!
 refine Zc1 (by omega) (by decide) (by decide) λ d h0 h3=>?_
 simp! only [dComp,Zbx]
 refine ⟨L2.sz1,?_⟩
 refine Zgj rs rowD (λ x:Int=>.int x) (λ r x=>x.natAbs<2 ^ 100/\∀ y∈r.1,y≤x) 0 rfl (λ _=>trivial) (Zat (by omega)) ?_ ?_
 ·intro r hr m1 hm1 Q hQ
  obtain ⟨n1,n2⟩:=hne r hr
  simp! only [rowD,tI,uIs_map,gMax]
  exact ⟨n1,λ mx hmx hle=>hQ mx m1 ⟨n2 mx hmx,hle⟩ (le_refl _)⟩
 ·intro ys m1 hl hP hm1
  simp! only [lmp,gMax]
  refine ⟨Zfe (by omega),?_⟩
  rw [show PyData.int 0::ys.map (λ x=>PyData.int x)=(0::ys).map PyData.int from rfl,uIs_map]
  simp!
  refine ⟨by simp,λ mx hmx hle=>?_⟩
  have hb:mx.natAbs<2 ^ 100:=by
   rcases mem_cons.mp hmx with rfl|hx
   ·decide
   ·obtain ⟨_,_,h⟩:=Zfc (P:=λ (r:Rnd) (x:Int)=>x.natAbs<2 ^ 100/\∀ y∈r.1,y≤x) hl hP mx hx
    exact h.1
  have hall:∀ r∈rs,∀ x∈r.1,x≤mx:=λ r hr x hx=>by
   obtain ⟨y,hy⟩:=Zrt hl hr
   have h1:=(hP _ hy).2 x hx
   have h2:=hle y (mem_cons_of_mem _ (of_mem_zip hy).2)
   simp only at h1
   omega
  simp!
  refine ⟨mulS hb (lt_of_le_of_lt (show (2+d).natAbs≤10 by omega) (by decide)),?_⟩
  have fin:∀ x:Int,1≤x->x≤10->(x=1 \/ ∀ r∈rs,∀ y∈r.1,y*x≤1000000)->∃ w',w'.le (o.put u (Own.urn m1))/\q (Val.d (PyData.int x)) w':=λ x h1 h2 h5=>by
   obtain ⟨w',h3,h4⟩:=hq (.int x) m1 ⟨rs,x,rfl,rfl,h1,h2,h5⟩ (by omega)
   rw [hw,OW.put_put] at h3
   exact ⟨w',h3,h4⟩
  refine ite2 (λ c=>fin _ (by omega) (by omega) (.inr λ r hr y hy=>?_)) (λ _=>fin _ (by omega) (by omega) (.inl rfl))
  have h1:=hall r hr y hy
  have h2:y*(2+d)≤mx*(2+d):=Int.mul_le_mul_of_nonneg_right h1 (by omega)
  have h3:=of_decide_eq_true c
  omega
def Zh1:DSp:=pureS λ vs r=>∃ (rs:List Rnd) (ss:List Sea) (m:Int),vs=[.d (Zbx rs),.d (Zbb ss),.d (.int m)]/\rs.length≤100/\ss.length≤100/\(∀ r∈rs,r.1.length≤100)/\1≤m/\m≤10/\r = .tuple [Zbx (rs.map (mulR m)),Zbb (ss.map (mulC m))]
theorem Znp:MoS Zh1:=Zcd
theorem Zng:∀ vs w k,Zh1 vs w k->vs.length=3:=Zce (by rintro vs r ⟨n,l,h,rfl,_⟩;rfl)
theorem Zor (T:Txt K mg):Dn P w K mg base 1 "_law_times" sLawTimes ["_law_rows", "_law_seals", "_law_often_here"] (spD K Zh1):=by
 refine Dn.dataI (k:=0) T.f_law_times Zjw Zng (λ a cdv A outer s H E hr=>⟨_,_,  (Za4 (Zag (i:=0) Zjw.nd rfl (Or.inl rfl) (Zb9 Zb5 rfl T.z_tuple (by decide +kernel) (Za0 (by refine' Zb2 (Nc:=["_law_prices_here", "_law_one", "_law_often_here"]) (cap:=[none,none,some 2]) rfl ?i ?k ?g ?t ?e;(case k=>kernel_rfl);(case i=>exact (Zbu (i_pv 0)));(case g=>exact (λ _ _ _ _ _=>(Zc4 (K:=K) rfl (n:=2) rfl (Za8 (Zc3 0 (by show List.Nodup (["_law_prices_here", "_law_one", "_law_often_here"]:List Str);decide +kernel)) (Za8 (Zc3 1 (by show List.Nodup (["_law_prices_here", "_law_one", "_law_often_here"]:List Str);decide +kernel)) Zau)))));(case t=>exact (λ _ _ _ _ _=>Zb1));(case e=>exact (λ _ _ _ _ _=>(Zaq (Za0 (Zb9 (Zm1 (K:=K) rfl) Zcz T.z_tuple (by decide +kernel) (Za0 (by refine' Zb2 (Nc:=["_law_price", "_law_often_here"]) (cap:=[none,some 2]) rfl ?i ?k ?g ?t ?e;(case k=>kernel_rfl);(case i=>exact (Zkz (K:=K) rfl (Zc7 0)));(case g=>exact (λ _ _ _ _ _=>(Zc3 0 (by show List.Nodup (["_law_price", "_law_often_here"]:List Str);decide +kernel))));(case t=>exact (λ _ _ _ _ _=>Zb1));(case e=>exact (λ _ _ _ _ _=>(Zam Ze7 (Zc7 0) (Ze0 1))))) Za3)) (Za0 (Zc7 1) Za3)))))) Za3)))
  (Za9 (Zaj (Zaq (Za0 (i_pv 0) (Za0 (Zb9 Zb5 rfl T.z_tuple (by decide +kernel) (Za0 (by refine' Zb2 (Nc:=["_law_one", "_law_coins", "_law_often_here"]) (cap:=[none,none,some 2]) rfl ?i ?k ?g ?t ?e;(case k=>kernel_rfl);(case i=>exact (Zbu (i_pv 1)));(case g=>exact (λ _ _ _ _ _=>(Zc4 (K:=K) rfl (n:=2) rfl (Za8 (Zc3 0 (by show List.Nodup (["_law_one", "_law_coins", "_law_often_here"]:List Str);decide +kernel)) (Za8 (Zc3 1 (by show List.Nodup (["_law_one", "_law_coins", "_law_often_here"]:List Str);decide +kernel)) Zau)))));(case t=>exact (λ _ _ _ _ _=>Zb1));(case e=>exact (λ _ _ _ _ _=>(Zaq (Za0 (Zc7 0) (Za0 (Zam Ze7 (Zc7 1) (Ze0 2)) Za3)))))) Za3)) Za3)))))),(Zab (Zas (Zbo Zcm (Za1 (Zbl false (Zcq (Za2 0)) (Zcb (Zaa (Za7 0) (Zaa (Za7 1) Zbp))) Zcc (Zbm (Zbq (Za1 (Zbo Zcm (Za1 (Zbl false (Zcq (Za2 0)) (Za7 0) Zcc (Zbm (Zah ro_I (Za2 0) (Za2 1)))) Za5)) (Za1 (Za2 1) Za5))))) Za5)) (Za7 0))
  (Zb6 (Zbq (Za1 (Za2 0) (Za1 (Zbo Zcm (Za1 (Zbl false (Zcq (Za2 1)) (Zcb (Zaa (Za7 0) (Zaa (Za7 1) Zbp))) Zcc (Zbm (Zbq (Za1 (Za2 0) (Za1 (Zah ro_I (Za2 1) (Za2 2)) Za5))))) Za5)) Za5))))),λ as o q h=>?_⟩)
 obtain ⟨r,⟨rs,ss,m,rfl,h1,h2,h3,b1,b2,rfl⟩,hq⟩:=h
 have hm:∀ x,IntMulOk x m:=λ x=>IntMulOk.of_right (by
  have:m=1 \/ m=2 \/ m=3 \/ m=4 \/ m=5 \/ m=6 \/ m=7 \/ m=8 \/ m=9 \/ m=10:=by omega
  rcases this with rfl|rfl|rfl|rfl|rfl|rfl|rfl|rfl|rfl|rfl <;> decide)
 simp! only [dComp,Zbx,Zbb]
 refine Zc5 rs rowD (λ r=>rowD (mulR m r)) [] rfl trivial (Zat (by simp only [length_nil];omega)) ?_ ?_
 ·intro r hr Q hQ
  have hl:=h3 r hr
  simp! only [rowD,tI,dComp]
  refine Zc5 r.1 .int (λ x=>.int (x*m)) [] rfl trivial (Zat (by simp only [length_nil];omega)) ?_ ?_
  ·intro x hx Q hQ
   simp!
   exact ⟨hm x,hQ⟩
  simp! only [nil_append]
  refine ⟨L2.sz2,?_⟩
  have e:PyData.tuple [.tuple (r.1.map λ x=>.int (x*m)),.tuple (r.2.map .int)]=rowD (mulR m r):=by unfold rowD mulR tI;rw [map_map];rfl
  rw [e]
  exact hQ
 simp! only [dComp,nil_append]
 refine Zc5 ss Zc9 (λ s=>Zc9 (mulC m s)) [] rfl trivial (Zat (by simp only [length_nil];omega)) ?_ ?_
 ·intro s hs Q hQ
  simp! only [Zc9]
  exact ⟨hm _,L2.sz2,hQ⟩
 simp! only [nil_append]
 refine ⟨L2.sz2,?_⟩
 have e:PyData.tuple [.tuple (rs.map λ r=>rowD (mulR m r)),.tuple (ss.map λ s=>Zc9 (mulC m s))] = .tuple [Zbx (rs.map (mulR m)),Zbb (ss.map (mulC m))]:=by unfold Zbx Zbb;rw [map_map,map_map];rfl
 rw [e]
 exact ⟨_,OW.le.refl _,hq⟩
def Zgd:DSp:=pureS λ vs r=>∃ (rs:List Rnd) (ss:List Sea),vs=[.d (Zbx rs),.d (Zbb ss)]/\rs.length≤100/\ss.length≤100/\r = .tuple [Zbx (rs.map revR),Zbb (ss.map revC)]
theorem Zmb:MoS Zgd:=Zcd
theorem Zm9:∀ vs w k,Zgd vs w k->vs.length=2:=Zce (by rintro vs r ⟨n,l,rfl,_⟩;rfl)
theorem Zn6 (T:Txt K mg):Dn P w K mg base 1 "_law_turned" sLawTurned ["_law_rows", "_law_seals"] (spD K Zgd):=by
 refine Dn.dataI (k:=0) T.f_law_turned Ziu Zm9 (λ a cdv A outer s H E hr=>⟨_,_,  (Za4 (Zag (i:=0) Ziu.nd rfl (Or.inl rfl) (Zb9 Zb5 rfl T.z_tuple (by decide +kernel) (Za0 (by refine' Zb2 (Nc:=["_law_prices_here", "_law_one"]) (cap:=[none,none]) rfl ?i ?k ?g ?t ?e;(case k=>kernel_rfl);(case i=>exact (Zbu (i_pv 0)));(case g=>exact (λ _ _ _ _ _=>(Zc4 (K:=K) rfl (n:=2) rfl (Za8 (Zc3 0 (by show List.Nodup (["_law_prices_here", "_law_one"]:List Str);decide +kernel)) (Za8 (Zc3 1 (by show List.Nodup (["_law_prices_here", "_law_one"]:List Str);decide +kernel)) Zau)))));(case t=>exact (λ _ _ _ _ _=>Zb1));(case e=>exact (λ _ _ _ _ _=>(Zaq (Za0 (Zj9 (K:=K) rfl (Zc7 0) (Zh5 Zjz Za6)) (Za0 (Zj9 (K:=K) rfl (Zc7 1) (Zh5 Zjz Za6)) Za3)))))) Za3)))
  (Za9 (Zaj (Zaq (Za0 (i_pv 0) (Za0 (Zb9 Zb5 rfl T.z_tuple (by decide +kernel) (Za0 (by refine' Zb2 (Nc:=["_law_one", "_law_coins"]) (cap:=[none,none]) rfl ?i ?k ?g ?t ?e;(case k=>kernel_rfl);(case i=>exact (Zbu (i_pv 1)));(case g=>exact (λ _ _ _ _ _=>(Zc4 (K:=K) rfl (n:=2) rfl (Za8 (Zc3 0 (by show List.Nodup (["_law_one", "_law_coins"]:List Str);decide +kernel)) (Za8 (Zc3 1 (by show List.Nodup (["_law_one", "_law_coins"]:List Str);decide +kernel)) Zau)))));(case t=>exact (λ _ _ _ _ _=>Zb1));(case e=>exact (λ _ _ _ _ _=>(Zaq (Za0 (Zj9 (K:=K) rfl (Zc7 0) (Zh5 Zjz Za6)) (Za0 (Zc7 1) Za3)))))) Za3)) Za3)))))),(Zab (Zas (Zbo Zcm (Za1 (Zbl false (Zcq (Za2 0)) (Zcb (Zaa (Za7 0) (Zaa (Za7 1) Zbp))) Zcc (Zbm (Zbq (Za1 (Zlk (Za2 0)) (Za1 (Zlk (Za2 1)) Za5))))) Za5)) (Za7 0))
  (Zb6 (Zbq (Za1 (Za2 0) (Za1 (Zbo Zcm (Za1 (Zbl false (Zcq (Za2 1)) (Zcb (Zaa (Za7 0) (Zaa (Za7 1) Zbp))) Zcc (Zbm (Zbq (Za1 (Zlk (Za2 0)) (Za1 (Za2 1) Za5))))) Za5)) Za5))))),λ as o q h=>?_⟩)
 obtain ⟨r,⟨rs,ss,rfl,h1,h2,rfl⟩,hq⟩:=h
 simp! only [dComp,Zbx,Zbb]
 refine Zc5 rs rowD (λ r=>rowD (revR r)) [] rfl trivial (Zat (by simp only [length_nil];omega)) ?_ ?_
 ·intro r hr Q hQ
  simp! only [rowD,tI]
  refine ⟨L2.sz2,?_⟩
  have e:PyData.tuple [.tuple (r.1.map .int).reverse,.tuple (r.2.map .int).reverse]=rowD (revR r):=by unfold rowD revR tI;rw [<- map_reverse,<- map_reverse]
  rw [e]
  simp!
  exact hQ
 simp! only [dComp,nil_append]
 refine Zc5 ss Zc9 (λ s=>Zc9 (revC s)) [] rfl trivial (Zat (by simp only [length_nil];omega)) ?_ ?_
 ·intro s hs Q hQ
  simp! only [Zc9,tI]
  refine ⟨L2.sz2,?_⟩
  have e:PyData.tuple [.tuple (s.1.map .int).reverse,.int s.2]=Zc9 (revC s):=by unfold Zc9 revC tI;rw [<- map_reverse]
  rw [e]
  simp!
  exact hQ
 simp! only [nil_append]
 refine ⟨L2.sz2,?_⟩
 have e:PyData.tuple [.tuple (rs.map λ r=>rowD (revR r)),.tuple (ss.map λ s=>Zc9 (revC s))] = .tuple [Zbx (rs.map revR),Zbb (ss.map revC)]:=by unfold Zbx Zbb;rw [map_map,map_map];rfl
 rw [e]
 exact ⟨_,OW.le.refl _,hq⟩
theorem Zhe {k:Nat}{rs:List Rnd}{ss:List Sea} (hH:Hist k rs ss):∃ x,(∀ (w:OW) (q:Val->OW->Prop),q (.d (.tuple [.str (wordF k rs ss),x])) w->Zif [.d (Zbx rs),.d (Zbb ss),.d (.int (k:Nat))] w q)/\(HasW k rs ss \/ ∃ es,IsRing k rs ss es/\x = .tuple (es.map Zcp))/\(Mild k rs ss->Shown k rs ss (.tuple [.str (wordF k rs ss),x])):=by
 rcases dichotomy hH with ⟨W,h1,R⟩|⟨h1,b,d,h2,h3,h4⟩
 ·have e:wordF k rs ss = "worths":=(Zel hH).mpr ⟨_,R.taste⟩
  rw [e]
  refine ⟨_,λ w q hq=>⟨_,⟨k,rs,ss,rfl,hH,.inl ⟨R.none,R.all,rfl⟩⟩,hq⟩,.inl ⟨_,R.taste⟩,λ M=>.inl ⟨by unfold anyB;rw [h1];rfl,⟨M.hist,R,λ b hb=>by
   have q:=R.sm (2 ^ 60) M.weight b hb
   have:=told27 M.hist
   have h3:(Zav k rs ss).length*2 ^ 60≤27*2 ^ 60:=mul_le_mul_right _ this
   omega⟩,rfl⟩⟩
 ·have e:wordF k rs ss = "ring":=Zpl hH h4.no
  rw [e]
  exact ⟨_,λ w q hq=>⟨_,⟨k,rs,ss,rfl,hH,.inr ⟨b,d,h2,h3,rfl⟩⟩,hq⟩,.inr ⟨_,h4,rfl⟩,λ M=>.inr ⟨by unfold anyB;rw [h1];rfl,_,h4,rfl⟩⟩
def Zev:DSp:=pureS λ vs r=>∃ k rs ss,vs=[.d (Zbx rs),.d (Zbb ss),.d (.int (k:Nat)),.d (.str (wordF k rs ss))]/\Mild k rs ss/\r = .bool true
theorem Zjg:MoS Zev:=Zcd
theorem Zjd:∀ vs w k,Zev vs w k->vs.length=4:=Zce (by rintro vs r ⟨n,l,h,rfl,_⟩;rfl)
theorem Zk2 (T:Txt K mg):Dn P w K mg base 5 "_law_same_word" sLawSameWord ["_law_rows", "_law_seals", "_law_several", "_law_word"] (spD K Zev):=by
 have D_law_is_shown:=Zgu (P:=P) (w:=w) (base:=base) T
 obtain ⟨e_worths,em_worths,D_worths⟩:=Zku (P:=P) (w:=w) (base:=base) T
 refine Dn.dataI (k:=4) T.f_law_same_word Zgo Zjd (λ a cdv A outer s H E hr=>⟨_,_,  (Za4 (Zag (i:=4) Zgo.nd rfl (Or.inl rfl) (Zf3 D_worths (Zda) (hr.mono (by decide)) (Za0 (i_pv 0) (Za0 (i_pv 1) Za3)) (Zen (i_pv 2) Zfi)))
  (Za9 (Zaj (Zfh (Zdq Zea (Zan Zc0 (i_pv 4) Za6 (λ _ _=>rfl)) (i_pv 3) (nomark _)) (Zgf (Zac D_law_is_shown Zgq (hr.mono (by decide)) (Za0 (i_pv 4) (Za0 (i_pv 0) (Za0 (i_pv 1) (Za0 (i_pv 2) Za3)))))))))),(Zab (Zas (Zhm Zg2 em_worths (Za1 (Za2 0) (Za1 (Za2 1) Za5)) (Za1 (Za2 2) Za5)) (Za7 4))
  (Zb6 (Zh9 (Zah Zeb (Zah Zby (Za2 4) Zae) (Za2 3)) (Zak Zgn (Za1 (Za2 4) (Za1 (Za2 0) (Za1 (Za2 1) (Za1 (Za2 2) Za5)))))))),λ as o q h=>?_⟩)
 obtain ⟨r,⟨k,rs,ss,rfl,M,rfl⟩,hq⟩:=h
 obtain ⟨x,hw,_,hS⟩:=Zhe M.hist
 simp! only [dCallD,gaQ]
 refine hw _ _ ?_
 simp!
 refine ⟨_,rfl,?_⟩
 simp! only [decide_true]
 refine ⟨_,⟨k,rs,ss,_,rfl,M.hist,hS M,rfl⟩,?_⟩
 exact ⟨_,OW.le.refl _,hq⟩
end
end Mine
namespace Mine
open PySem PySem.Spec PyProof.Rows L2
section
variable {P:Program}{w:World}{K:PySem.W.Frag}{mg:Str->Option Value}{base:Heap}
theorem Zv5 (a b:Rnd):PyData.eqv (rowD a) (rowD b)=decide (a=b):=by
 obtain ⟨a1,a2⟩:=a
 obtain ⟨b1,b2⟩:=b
 unfold rowD
 rw [PyData.eqv,PyData.eqvAll,PyData.eqvAll,PyData.eqvAll,Zi0,Zi0,Bool.and_true,<- Bool.decide_and]
 exact decide_eq_decide.mpr (by simp)
theorem Mild.row_rp {k:Nat}{rs:List Rnd}{ss:List Sea} (M:Mild k rs ss) {r:Rnd} (hr:r∈rs):Rp 2 700 (rowD r):=by
 have hk:=M.k3
 obtain ⟨a,b,c,d⟩:=M.row r hr
 exact Rp.tup (Rps.cons (a:=303) (b:=304) (Zsn (sm20 c) (by omega)) (Rps.cons (b:=0) (Zsn (sm20 d) (by omega)) Rps.nil (by decide)) (by decide))
def Same2 (rs rs':List Rnd) (f:Nat->Nat):Prop:=∀ i (h:i<rs'.length),∃ h':f i<rs.length,rs[f i]=rs'[i]
def Zef:DSp:=λ vs w q=>∃ (k:Nat) (rs rs':List Rnd) (ss:List Sea) (es:List Stp),vs=[.d (.tuple (es.map Zcp)),.d (Zbx rs),.d (Zbx rs')]/\Mild k rs ss/\(∀ r∈rs',r∈rs)/\rs'.length≤12/\(∀ e∈es,e∈Zdf (Zav k rs' ss) rs' ss)/\es.length≤27/\∀ f,Same2 rs rs' f->q (.d (.tuple ((es.map (mvS f)).map Zcp))) w
theorem Zir:MoS Zef:=λ vs w k k2 h ⟨n,rs,rs',ss,es,a,b,c,d,e,f,q⟩=>⟨n,rs,rs',ss,es,a,b,c,d,e,f,λ p hp=>h _ _ (q p hp)⟩
theorem Zim:∀ vs w k,Zef vs w k->vs.length=3:=by
 rintro vs w k ⟨n,rs,rs',ss,es,rfl,_⟩;rfl
theorem Zj4 (T:Txt K mg):Dn P w K mg base 1 "_law_moved_ring" sLawMovedRing ["_law_ring", "_law_rows", "_law_part_here"] (spD K Zef):=by
 refine Dn.dataI (k:=0) T.f_law_moved_ring Zej Zim (λ a cdv A outer s H E hr=>⟨_,_,  (Za4 (Zag (i:=3) Zej.nd rfl (Or.inr rfl) (Zbs Za3))
  (Za4 (Zc6 PassesOwn.never rfl (Zbu (i_pv 2)) (Zaf (i:=4) Zej.nd rfl (Or.inr rfl)) (Za9 (Zch (Zd7 plainAttrs_list PySem.F.slot_list_append PySem.F.type_list_append Zck (i_pv 3) (Za0 (Zad (Zko false rfl) rfl T.z_min boot_min (Za0 (by refine' Zb2 (Nc:=["_law_k", "_law_row", "_law_one"]) (cap:=[none,none,some 4]) rfl ?i ?k ?g ?t ?e;(case k=>kernel_rfl);(case i=>exact (Zth true rfl T.z_enumerate (Za0 (i_pv 1) Za3)));(case g=>exact (λ _ _ _ _ _=>(Zc4 (K:=K) rfl (n:=2) rfl (Za8 (Zc3 0 (by show List.Nodup (["_law_k", "_law_row", "_law_one"]:List Str);decide +kernel)) (Za8 (Zc3 1 (by show List.Nodup (["_law_k", "_law_row", "_law_one"]:List Str);decide +kernel)) Zau)))));(case t=>exact (λ _ _ _ _ _=>(Zl1 (Zal (Ztv (K:=K) rfl hr.units) (Zc7 1) (Ze0 2) (nomark _)))));(case e=>exact (λ _ _ _ _ _=>(Zc7 0)))) Za3)) Za3)))))
  (Za9 (Zaj (Zb9 Zb5 rfl T.z_tuple (by decide +kernel) (Za0 (by refine' Zb2 (Nc:=["_law_word", "_law_k", "_law_one", "_law_places"]) (cap:=[none,none,none,some 3]) rfl ?i ?k ?g ?t ?e;(case k=>kernel_rfl);(case i=>exact (Zbu (i_pv 0)));(case g=>exact (λ _ _ _ _ _=>(Zc4 (K:=K) rfl (n:=3) rfl (Za8 (Zc3 0 (by show List.Nodup (["_law_word", "_law_k", "_law_one", "_law_places"]:List Str);decide +kernel)) (Za8 (Zc3 1 (by show List.Nodup (["_law_word", "_law_k", "_law_one", "_law_places"]:List Str);decide +kernel)) (Za8 (Zc3 2 (by show List.Nodup (["_law_word", "_law_k", "_law_one", "_law_places"]:List Str);decide +kernel)) Zau))))));(case t=>exact (λ _ _ _ _ _=>Zb1));(case e=>exact (λ _ _ _ _ _=>(Zaq (Za0 (Zc7 0) (Za0 (Zj8 (Zal Zea (Zc7 0) Zca (nomark _)) (Zan (Zkb (K:=K) rfl) (Ze0 3) (Zc7 1) (λ _ _=>rfl)) (Zc7 1)) (Za0 (Zc7 2) Za3))))))) Za3)))))),(Zab (Zas (Zcx true Za5) (Za7 3))
  (Zab (Zde (Zcq (Za2 2)) (Za7 4) (Zdl (Zec (Za2 3) (Za1 (Zbo (Zqi false) (Za1 (Zbl false (Zyd (Za1 (Za2 1) Za5)) (Zcb (Zaa (Za7 0) (Zaa (Za7 1) Zbp))) (Zb3 (Zah Zmu (Za2 1) (Za2 2))) (Zbm (Za2 0))) Za5)) Za5))))
  (Zb6 (Zbo Zcm (Za1 (Zbl false (Zcq (Za2 0)) (Zcb (Zaa (Za7 0) (Zaa (Za7 1) (Zaa (Za7 2) Zbp)))) Zcc (Zbm (Zbq (Za1 (Za2 0) (Za1 (Zyb (Zb3 (Zah Zeb (Za2 0) Zdm)) (Zah Zdw (Za2 3) (Za2 1)) (Za2 1)) (Za1 (Za2 2) Za5)))))) Za5))))),λ as o q h=>?_⟩)
 obtain ⟨k,rs,rs',ss,es,rfl,M,hsub,h12,hes,h27,hq⟩:=h
 have hr12:=M.rl
 simp! only [dComp,dApp,Zbx]
 refine ⟨zero_le _,λ p hp=>?_⟩
 simp! only [dComp,dApp,Zbx]
 refine ⟨λ i s=>∃ (o4:Option Val) (ps:List Nat),s=⟨[some (Val.d (PyData.tuple (List.map Zcp es))),some (Val.d (PyData.tuple (List.map rowD rs))),some (Val.d (PyData.tuple (List.map rowD rs'))),some (Val.own p),o4],o.put p (Own.lst (ps.map λ n=>.int (n:Nat)))⟩/\ps.length=i/\∀ j (h:j<ps.length) (h2:j<rs'.length),∃ h':ps[j] < rs.length,rs[ps[j]]=rs'[j],⟨none,[],rfl,rfl,λ j h=>absurd h (by simp)⟩,λ _ _ _=>trivial,?_,?_⟩
 ·rintro i d s hd ⟨o4,ps,rfl,hpl,hps⟩
  obtain ⟨r,hr,rfl⟩:=Zdi hd
  obtain ⟨hi,hri⟩:=List.getElem?_eq_some_iff.mp hr
  have hrm:r∈rs':=mem_of_getElem? hr
  have hR:=M.row_rp (hsub r hrm)
  simp! only [dComp,dApp,Ztc]
  refine ⟨⟨_,rfl⟩,?_⟩
  refine Zmr rs.zipIdx (λ p=>PyData.tuple [PyData.int (p.2:Nat),rowD p.1]) (λ p=>PyData.int (p.2:Nat)) (λ p=>decide (p.1=r)) [] rfl trivial (Zat (by simp only [length_nil,List.length_zipIdx];omega)) ?_ ?_
  ·rintro ⟨r2,n⟩ hp Q hQ
   have hr2:r2∈rs:=by
    obtain ⟨h1,h2,h3⟩:=List.mem_zipIdx hp
    rw [h3];exact getElem_mem _
   have hR2:=M.row_rp hr2
   simp!
   refine ⟨⟨hR2.2.1,hR.2.1,Rp.shaped hR2 (by decide),Rp.shaped hR (by decide)⟩,?_⟩
   rw [Zv5]
   by_cases c:r2=r
   ·rw [decide_eq_true c]
    rw [if_pos (by simpa using c)] at hQ
    exact hQ
   ·rw [decide_eq_false c]
    rw [if_neg (by simpa using c)] at hQ
    exact hQ
  rw [nil_append,show (List.map (λ p:Rnd × Nat=>PyData.int (p.2:Nat)) (rs.zipIdx.filter λ p=>decide (p.1=r)))=((rs.zipIdx.filter λ p=>decide (p.1=r)).map λ p=>((p.2:Nat):Int)).map PyData.int by rw [map_map];rfl,uIs_map]
  simp!
  refine ⟨λ e=>?_,λ mn hmn _=>?_⟩
  ·obtain ⟨n,hn,e2⟩:=getElem_of_mem (hsub r hrm)
   have:(r,n)∈rs.zipIdx.filter λ p=>decide (p.1=r):=mem_filter.mpr ⟨List.mem_zipIdx_iff_getElem?.mpr (by rw [gEq hn,e2]),by simp⟩
   rw [List.map_eq_nil_iff] at e
   rw [e] at this
   exact absurd this not_mem_nil
  ·obtain ⟨⟨r2,n⟩,h1,rfl⟩:=mem_map.mp hmn
   obtain ⟨h2,h3⟩:=mem_filter.mp h1
   have h4:r2=r:=of_decide_eq_true h3
   subst h4
   have h5:=List.mem_zipIdx_iff_getElem?.mp h2
   obtain ⟨h6,h7⟩:=List.getElem?_eq_some_iff.mp h5
   refine ⟨_,rfl,Zat (by rw [lmp];omega),some (.d (rowD r2)),ps++[n],?_,by rw [length_append,hpl];rfl,λ j h h2=>?_⟩
   ·rw [map_append];rfl
   ·by_cases c:j<ps.length
    ·rw [List.getElem_append_left c];exact hps j c h2
    ·have:j=ps.length:=by rw [length_append] at h;simp at h;omega
     subst this
     rw [List.getElem_append_right (le_refl _)]
     simp only [Nat.sub_self,List.getElem_cons_zero]
     refine ⟨h6,?_⟩
     have:rs'[ps.length]=r2:=by
      have:rs'[ps.length]? = some r2:=by rw [hpl];exact hr
      exact (List.getElem?_eq_some_iff.mp this).2
     rw [this];exact h7
 ·rintro s ⟨o4,ps,rfl,hpl,hps⟩
  rw [lmp] at hpl
  have hf:Same2 rs rs' (λ i=>(ps[i]?).getD 0):=λ i hi=>by
   have h1:i<ps.length:=by omega
   simp only [gEq h1,Option.getD_some]
   exact hps i h1 hi
  simp! only [dComp,later]
  refine Zc5 es Zcp (λ e=>Zcp (mvS (λ i=>(ps[i]?).getD 0) e)) [] rfl trivial (Zat (by simp only [length_nil];omega)) ?_ ?_
  ·intro e he Q hQ
   simp! only [Zcp]
   obtain ⟨w,n,b⟩:=e
   have w0:∀ w<4,w≠0->decide (wordOf w=("round" : Str))=false:=by decide
   rcases Zbn.mp (hes _ he) with ⟨b',hb,e⟩|⟨i',hi,e|e⟩|⟨i',hi,b',hb,e⟩
   ·cases e
    rw [w0 3 (by decide) (by decide)]
    exact ⟨L2.sz3,hQ⟩
   ·cases e
    rw [w0 1 (by decide) (by decide)]
    exact ⟨L2.sz3,hQ⟩
   ·cases e
    rw [w0 2 (by decide) (by decide)]
    exact ⟨L2.sz3,hQ⟩
   ·cases e
    have h1:n<ps.length:=by omega
    rw [show decide (wordOf 0=("round" : Str))=true by decide]
    refine ⟨.int (ps[n]:Nat),Zcy (by rw [getElem?_map,gEq h1];rfl),L2.sz3,?_⟩
    have e:Zcp (mvS (λ i=>(ps[i]?).getD 0) (0,n,b)) = .tuple [.str (wordOf 0),.int (ps[n]:Nat),tI b]:=by
     show PyData.tuple [.str (wordOf 0),.int (((ps[n]?).getD 0:Nat)),tI b]=_
     rw [gEq h1];rfl
    rw [e] at hQ
    exact hQ
  simp! only [nil_append]
  have e:(es.map λ e=>Zcp (mvS (λ i=>(ps[i]?).getD 0) e))=(es.map (mvS λ i=>(ps[i]?).getD 0)).map Zcp:=by rw [map_map];rfl
  rw [e]
  exact ⟨_,OW.le.new (OW.le.refl o) hp _,hq _ hf⟩
theorem Zr7 {c:Prop} [Decidable c] {X R:Prop} (hR:R) (hX:c->R->X):if c then X else R:=by
 split
 ·next h=>exact hX h hR
 ·exact hR
def Ze5:DSp:=urnS 24 (λ as=>∃ k rs ss,as=[.d (Zbx rs),.d (Zbb ss),.d (.int (k:Nat)),.d (.str (wordF k rs ss))]/\Mild k rs ss) (λ _ r=>r = .bool true)
theorem Zi3:MoS Ze5:=Ze2
theorem Zi2:∀ vs w k,Ze5 vs w k->vs.length=5:=Zex (n:=4) (by rintro vs ⟨k,rs,ss,rfl,_⟩;rfl)
theorem Zid (T:Txt K mg):Dn P w K mg base 5 "_law_parts_right" sLawPartsRight ["_law_urn_here", "_law_rows", "_law_seals", "_law_several", "_law_word"] (spD K Ze5):=by
 have D_law_is_ring:=Zhp (P:=P) (w:=w) (base:=base) T
 have D_law_is_shown:=Zgu (P:=P) (w:=w) (base:=base) T
 have D_law_moved_ring:=Zj4 (P:=P) (w:=w) (base:=base) T
 have D_law_part:=Zpp (P:=P) (w:=w) (base:=base) T
 have D_law_told:=Zga (P:=P) (w:=w) (base:=base) T
 obtain ⟨e_worths,em_worths,D_worths⟩:=Zku (P:=P) (w:=w) (base:=base) T
 refine Dn.dataI (k:=4) T.f_law_parts_right Zd6 Zi2 (λ a cdv A outer s H E hr=>⟨_,_,  (Za4 (Zl0 5 6 rfl Zd6.nd (Za0 (Zac D_law_part Zkm (hr.mono (by decide)) (Za0 (i_pv 0) (Za0 (i_pv 1) Za3))) (Za0 (Zac D_law_part Zkm (hr.mono (by decide)) (Za0 (i_pv 0) (Za0 (i_pv 2) Za3))) Za3)))
  (Za4 (Zag (i:=7) Zd6.nd rfl (Or.inl rfl) (Zf3 D_worths (Zda) (hr.mono (by decide)) (Za0 (i_pv 5) (Za0 (i_pv 6) Za3)) (Zen (i_pv 3) Zfi)))
  (Za4 (Zbg (Zdo (Zdt (Zac D_law_is_shown Zgq (hr.mono (by decide)) (Za0 (i_pv 7) (Za0 (i_pv 5) (Za0 (i_pv 6) (Za0 (i_pv 3) Za3))))))) (Za9 (Zaj (Zd0))) Zap)
  (Za4 (Zbg (IPW.pt (Ze6 (Zal Zea (i_pv 4) Zca (nomark _)) (Ze1 (Zal Zpa (Zan Zc0 (i_pv 7) Za6 (λ _ _=>rfl)) Zca (nomark _))))) (Za9 (Zaj (Zd0))) Zap)
  (Za4 (Zag (i:=7) Zd6.nd rfl (Or.inl rfl) (Zf3 D_worths (Zda) (hr.mono (by decide)) (Za0 (i_pv 5) (Za0 (i_pv 2) Za3)) (Zen (i_pv 3) Zfi)))
  (Za4 (Zbg (Zal Zea (Zan Zc0 (i_pv 7) Za6 (λ _ _=>rfl)) Zca (nomark _)) (Za9 (Zaj (Zd0))) Zap)
  (Za4 (Zag (i:=8) Zd6.nd rfl (Or.inl rfl) (Zac D_law_moved_ring Ziz (hr.mono (by decide)) (Za0 (Zan Zc0 (i_pv 7) Za6 (λ _ _=>rfl)) (Za0 (i_pv 1) (Za0 (i_pv 5) Za3)))))
  (Za9 (Zaj (Zfh (Zdq Zea (i_pv 4) Zca (nomark _)) (Zgf (Zac D_law_is_ring Zho (hr.mono (by decide)) (Za0 (i_pv 8) (Za0 (i_pv 1) (Za0 (i_pv 2) (Za0 (Zac D_law_told Zg8 (hr.mono (by decide)) (Za0 (i_pv 1) (Za0 (i_pv 2) (Za0 (i_pv 3) Za3)))) Za3)))))))))))))))),(Zab (Zuf (Za1 (Zak Zjs (Za1 (Za2 0) (Za1 (Za2 1) Za5))) (Za1 (Zak Zjs (Za1 (Za2 0) (Za1 (Za2 2) Za5))) Za5)))
  (Zab (Zas (Zhm Zg2 em_worths (Za1 (Za2 5) (Za1 (Za2 6) Za5)) (Za1 (Za2 3) Za5)) (Za7 7))
  (Zab (Zd4 (Zfm (rt_b (Zak Zgn (Za1 (Za2 7) (Za1 (Za2 5) (Za1 (Za2 6) (Za1 (Za2 3) Za5))))))) (Zb6 Zfd) Zbc)
  (Zab (Zd4 (Zhb (Zb3 (Zah Zeb (Za2 4) Zdm)) (Zb3 (Zah Zpe (Zah Zby (Za2 7) Zae) Zdm))) (Zb6 Zfd) Zbc)
  (Zab (Zas (Zhm Zg2 em_worths (Za1 (Za2 5) (Za1 (Za2 2) Za5)) (Za1 (Za2 3) Za5)) (Za7 7))
  (Zab (Zd4 (Zb3 (Zah Zeb (Zah Zby (Za2 7) Zae) Zdm)) (Zb6 Zfd) Zbc)
  (Zab (Zas (Zak Zir (Za1 (Zah Zby (Za2 7) Zae) (Za1 (Za2 1) (Za1 (Za2 5) Za5)))) (Za7 8))
  (Zb6 (Zh9 (Zah Zeb (Za2 4) Zdm) (Zak Zh8 (Za1 (Za2 8) (Za1 (Za2 1) (Za1 (Za2 2) (Za1 (Zak Zfl (Za1 (Za2 1) (Za1 (Za2 2) (Za1 (Za2 3) Za5)))) Za5)))))))))))))),λ as o q h=>?_⟩)
 obtain ⟨u,as,m,rfl,hw,hm,⟨k,rs,ss,rfl,M⟩,hq⟩:=Zey h
 have hr12:=M.rl
 have hs12:=M.sl
 have hH:=M.hist
 rw [hw]
 simp!
 refine Zdz (by omega) ⟨_,rfl,by rw [lmp];omega⟩ ?_
 rintro r ⟨ds,ds',e',rfl,hS⟩
 obtain rfl:rs.map rowD=ds:=PyData.tuple.inj (Val.d.inj (List.cons.inj e').1)
 obtain ⟨rs',hS1,rfl⟩:=List.sublist_map_iff.mp hS
 simp!
 refine Zdz (by omega) ⟨_,rfl,by rw [lmp];omega⟩ ?_
 rintro r ⟨ds,ds',e',rfl,hS⟩
 obtain rfl:ss.map Zc9=ds:=PyData.tuple.inj (Val.d.inj (List.cons.inj e').1)
 obtain ⟨ss',hS2,rfl⟩:=List.sublist_map_iff.mp hS
 have fin:∃ w',w'.le (o.put u (Own.urn (m+12+12)))/\q (Val.d (PyData.bool true)) w':=by
  obtain ⟨w',h3,h4⟩:=hq (.bool true) (m+12+12) rfl (by omega)
  rw [hw,OW.put_put] at h3
  exact ⟨w',h3,h4⟩
 have sub1:∀ r∈rs',r∈rs:=λ r h=>hS1.mem h
 have sub2:∀ s∈ss',s∈ss:=λ r h=>hS2.mem h
 have l1:rs'.length≤12:=le_trans hS1.length_le hr12
 have l2:ss'.length≤12:=le_trans hS2.length_le hs12
 have M1:=M.sub sub1 sub2 l1 l2
 have M2:=M.sub (ss':=ss) sub1 (λ s h=>h) l1 hs12
 obtain ⟨x1,hw1,_,hS1⟩:=Zhe M1.hist
 obtain ⟨x2,hw2,hx2,_⟩:=Zhe M2.hist
 have ew1:wordF k rs ss = "worths"->wordF k rs' ss' = "worths":=λ h=>(Zel M1.hist).mpr (((Zel hH).mp h).sub sub1 sub2)
 simp! only [dCallD,gaQ]
 refine hw1 _ _ ?_
 simp!
 refine ⟨_,⟨k,rs',ss',_,rfl,M1.hist,hS1 M1,rfl⟩,?_⟩
 simp!
 refine Zr7 ?_ (λ c K=>?_)
 rotate_left
 ·have c2:=ew1 (of_decide_eq_true c)
  refine ⟨_,rfl,?_⟩
  rw [c2]
  rw [c2] at K
  exact K
 simp! only [dCallD,gaQ]
 refine hw2 _ _ ?_
 simp!
 refine ⟨_,rfl,?_⟩
 simp!
 refine ite2 (λ c=>?_) (λ c=>?_)
 ·simp!
  exact fin
 ·have hn:¬ HasW k rs' ss:=λ h=>c (decide_eq_true ((Zel M2.hist).mpr h))
  obtain ⟨es,hI,rfl⟩:=hx2.resolve_left hn
  have er:wordF k rs ss = "ring":=Zpl hH λ h=>hn (h.sub sub1 λ s h=>h)
  simp!
  refine ⟨_,rfl,?_⟩
  refine ⟨k,rs,rs',ss,es,rfl,M,sub1,l1,hI.mem,hI.n27,λ f hf=>?_⟩
  simp! only [er,decide_true]
  refine ⟨_,⟨k,rs,ss,rfl,hH,rfl⟩,_,⟨k,rs,ss,_,rfl,hH,hI.move hf,rfl⟩,?_⟩
  exact fin
end
end Mine
namespace L2
open PySem PySem.W PySem.W.X PySem.Spec PyProof.Rows
def topT (p:Program) (w:World) (n:Nat) (an:Option Value):Nat->SharedT->Thread->Option SharedT
 | 0,_,_=>none
 | N+1,s,t=>match through t with
  | true=>some s
  | false=>match stepOk n an t with
   | false=>none
   | true=>match stepT (denote treeTable) p w s t with
    | some (s',t')=>topT p w n an N s' t'
    | none=>none
theorem Zur {p:Program}{w:World}{n:Nat}{an:Option Value}:∀ {N:Nat}{s s':SharedT}{t:Thread},topT p w n an N s t=some s'->topRun treeTable p w n an N s.abs t=some s'.abs
 | 0,_,_,_,h=>by cases h
 | N+1,s,s',t,h=>by
  unfold topT at h
  unfold topRun
  cases he:through t with
  | true=>rw [he] at h;cases h;rfl
  | false=>
   rw [he] at h
   cases hk:stepOk n an t with
   | false=>rw [hk] at h;cases h
   | true=>
    rw [hk] at h
    cases hs:stepT (denote treeTable) p w s t with
    | none=>rw [hs] at h;cases h
    | some r=>obtain ⟨s₂,t₂⟩:=r;rw [hs] at h;rw [stepT_spec hs];exact Zur h
def treeOf:List Obj->Nat->BT->BT
 | [],_,t=>t
 | o::l,i,t=>treeOf l (i+1) (t.ins i o)
noncomputable def bootT (P:Params):BT:=treeOf (boot_heap P).objs.toList 0 .nil
def bootL:Life:={ debug:=0,thresholds:=[2000,10,10] }
def looksT (p q:Program) (loose:List Str) (H:Heap) (s:Shared):=
 (staticsOk (importedModules p.main.body) H s.heap && namesBound p s.heap && gensDone s && laidKept H s.heap,openSeen q loose (importedModules p.main.body) (λ _=>true) true s)
noncomputable def onceT (p q:Program) (loose:List Str) (N:Nat) (w:World) (os:OsState):=(topT p w 11 (some (.ref 6)) N ⟨bootT w.params,11,bootL,Array.mk [],boot_drawn,boot_toks,os⟩ (topStub p)).map λ s=>looksT p q loose (boot_heap w.params) s.abs
def goodT (q:Program) (loose:List Str):=some (true,openGood q loose)
theorem Zyx (P:Params):absHeap (bootT P) 11 bootL=boot_heap P:=by kernel_rfl
theorem Zxg (P:Params):((boot_heap P).isNs mainGlobals,(boot_heap P).objs.size,(boot_heap P).nsMap mainGlobals "__annotations__")=(true,11,some (.ref 6)):=by kernel_rfl
theorem Ztp {p q:Program}{loose:List Str}{N:Nat} (e:opening p=plainProg p.main.scope.names) (hN:Nat.ble 600 N=true) (f:∀ s,fenceModules? p s=some s)
  (run:∀ w os,onceT p q loose N w os=goodT q loose):LeftO p q loose (λ _=>true) (λ _=>()) (λ _=>()) N:=λ w=>by
 obtain ⟨⟨h,gs,d,k,os⟩,e1,e2⟩:=map_eq_some_iff.mp (boot_open e hN f w)
 obtain ⟨rfl,rfl,rfl,rfl⟩:h=boot_heap w.params/\gs=Array.mk []/\d=boot_drawn/\k=boot_toks:=by simpa using e2
 obtain ⟨z1,z2,z3⟩:_/\_/\_:=by simpa only [Prod.mk.injEq] using Zxg w.params
 obtain ⟨s,r1,r2⟩:=map_eq_some_iff.mp (run w os)
 obtain ⟨l1,l2⟩:=Prod.mk.inj r2
 have r:=Zur r1
 have eb:SharedT.abs ⟨bootT w.params,11,bootL,Array.mk [],boot_drawn,boot_toks,os⟩=⟨boot_heap w.params,Array.mk [],boot_drawn,boot_toks,os⟩:=by
  show Shared.mk (absHeap _ _ _) _ _ _ _=_
  rw [Zyx]
 rw [eb] at r
 have t:topFrom treeTable p w N ⟨boot_heap w.params,Array.mk [],boot_drawn,boot_toks,os⟩=some s.abs:=by
  unfold topFrom
  dsimp only
  rw [z1,z2,z3,r]
  show (match staticsOk (importedModules p.main.body) (boot_heap w.params) s.abs.heap && namesBound p s.abs.heap && gensDone s.abs && laidKept (boot_heap w.params) s.abs.heap with|true=>_|false=>_)=_
  rw [l1]
 unfold openEnds
 rw [e1]
 show (topFrom treeTable p w N _).map _=_
 rw [t]
 exact congrArg some (Prod.ext l2 rfl)
def frg (h:Heap):Frag:=(List.range h.objs.size).filterMap λ a=>(h.get? a).map λ o=>(a,o)
theorem Zr3 {h:Heap}{a:Addr}:∀ l:List Nat,((l.filterMap λ a=>(h.get? a).map λ o=>(a,o)):List (Addr × Obj)).lookup a=if a∈l then h.get? a else none
 | []=>rfl
 | b::l=>by
  rw [filterMap_cons]
  by_cases e:a=b
  ·subst e
   cases q:h.get? a with
   | none=>
    simp only [q,Option.map_none,mem_cons,true_or,if_true]
    rw [Zr3 l,q]
    split <;> rfl
   | some o=>simp [List.lookup]
  ·have hb:(a == b)=false:=beq_eq_false_iff_ne.mpr e
   cases q:h.get? b with
   | none=>simp only [Option.map_none];rw [Zr3 l];simp [e]
   | some o=>simp only [map_some,List.lookup,hb];rw [Zr3 l];simp [e]
theorem Zeg {h:Heap}{a:Addr}:(frg h).lookup a=h.get? a:=by
 unfold frg
 rw [Zr3]
 simp only [mem_range]
 split
 ·rfl
 ·rename_i n
  cases q:h.get? a with
  | none=>rfl
  | some o=>exact absurd (lt_size q) n
theorem Zyv (h:Heap):(frg h).In h:=λ a o e=>by rwa [Zeg] at e
theorem Zr2 {h:Heap}{cd:Value}{x:Str} (c:h.CodeRec cd x):codeIn (frg h) cd x=true:=by
 obtain ⟨c,o,vs,t,rfl,hc,hd,hv⟩:=c
 obtain ⟨oc,od,dd,os⟩:=o
 cases hd
 unfold codeIn
 simp only [Zeg,hc]
 obtain ⟨l⟩:=vs
 match l,hv with
 | a::b::l,hv=>
  have:b = .str x t:=by simpa using hv
  subst this
  simp
theorem Zr4 {h:Heap}{a:Addr}{oc:Value}{od:Option Addr}{fd:FuncData}{sl:Array (Option Value)} (e:h.get? a=some ⟨oc,od,.func fd,sl⟩):keepIn (frg h) (.ref a)=true:=by
 unfold keepIn
 simp only [Zeg,e]
def defPos (s:Stmt):Pos:=match s with
 | .FunctionDef _ _ _ _ _ _ _ _ _ p=>p
 | _=>⟨0,0,0,0⟩
def recD (x:Str) (s:Stmt):DefRec:=⟨x,defArgs s,defBody s,defScope s,defPos s⟩
section
variable {q:Program}{loose:List Str}{XP:(Str->Option Value)->Heap->Prop}{w:World}{s₀:Shared}{mg mb:Str->Option Value}{h:Heap}
theorem Zdh (G:Ground q loose [] XP w s₀ mg mb h) {L:List DefRec} (hL:recsOf q=L) (i:Nat) {x:Str}{st:Stmt} (hi:L[i]? = some (recD x st)):∃ f fd,Fun (frg h) x x st f fd/\mg x=some (.ref f):=by
 subst hL
 obtain ⟨a,⟨oc,od,dd,sl⟩,pm,cd,doc,h1,h2,h3,h4⟩:=G.T.fn _ (mem_of_getElem? hi)
 cases h3
 exact ⟨a,_,Zyw (st:=st) (kV:=.none) (doc:=doc) (pm:=pm) (cdv:=cd) (by rw [Zeg];exact h2) (Zr2 h4) (Zr4 h2),h1⟩
theorem Zez (G:Ground q loose [] XP w s₀ mg mb h) {B:List Str} (hB:B.all (λ x=>!(startupNames.contains x || (looseW q loose).contains x || ((recsOf q).map (·.name)).contains x || ((litsOf q).map (·.1)).contains x || ((clssOf q (looseW q loose)).map (·.name)).contains x))=true)
  (i:Nat) {x:Str} (hi:B[i]? = some x):mg x=none:=by
 have e:=all_eq_true.mp hB x (mem_of_getElem? hi)
 simp only [Bool.not_eq_true',or_eq_false_iff] at e
 obtain ⟨⟨⟨⟨e1,e2⟩,e3⟩,e4⟩,e5⟩:=e
 have no:∀ {l:List Str},l.contains x=false->x ∉ l:=λ e m=>by rw [List.contains_iff_mem.mpr m] at e;cases e
 exact G.T.free x (no e1) (no e2) (no e3) (no e4) (no e5)
theorem Zwu (G:Ground q loose [] XP w s₀ mg mb h) {L:List (DefRec × List (Str × Expr))} (hL:wdefsOf q=L) (i:Nat) {x:Str}{st:Stmt}{p:Pos}{n:Nat} (hi:L[i]? = some (recD x st,[])) (hd:(defArgs st).defaults=[.Tuple [] n p]) :
  ∃ e,EmptyAt (frg h) e/\∃ f fd,FunD (frg h) x st f fd e/\mg x=some (.ref f):=by
 subst hL
 obtain ⟨fa,⟨oc,od,dd,sl⟩,pm,cd,doc,dV,kV,h1,h2,h3,h4,h5⟩:=G.W.defs _ (mem_of_getElem? hi)
 cases h3
 have hp:=h5.pos
 rw [show (recD x st,([]:List (Str × Expr))).1.params.defaults=[.Tuple [] n p] from hd] at hp
 rcases hp with ⟨c,_⟩|⟨_,T,oT,vs,m,rfl,hT,_,hs,hA⟩
 ·cases c
 obtain ⟨vs⟩:=vs
 have hA:DfltsAre mg h [.Tuple [] n p] vs:=hA
 cases hA with
 | cons a b=>
  cases b
  rename_i v
  rcases a with ⟨d,hd,r⟩|⟨c,p',he,_⟩
  ·cases hd
   cases r with
   | tuple ho hc hd' rs=>
    have hv:∀ {u:Array Value}{as':List Addr},ReadsAllW [] (λ _=>none) h u.toList [] as'->u = #[]:=by
     rintro ⟨l⟩ as' r
     cases r with
     | nil=>rfl
    cases hv rs
    exact ⟨_,⟨_,_,by rw [Zeg];exact ho,hc,hd'⟩,fa,_,⟨⟨oc,od,T,_,doc,pm,none,cd,_,sl,oT,m,rfl,by rw [Zeg];exact h2,Zr2 h4,by rw [Zeg];exact hT,hs⟩,Zr4 h2⟩,h1⟩
  ·cases he
end
theorem walkG {l:OpenLaw}{n k:Nat}{q:Program}{loose:List Str}{XP:(Str->Option Value)->Heap->Prop}{α:Type}{Yf:Shared->α}{Ya:World->α}{d:DefRec}{CX:CXT}{sp:Frag->Sp}{x:Str}
  (hn:l.most=some n) (hn2:n≤sizeLine) (hdf:d.params.defaults=[]) (hr:Room k callerA)
  (F:∀ (w:World) (s₀:Shared) (mg mb:Str->Option Value) (fa:Addr) (h:Heap),Ground q loose [] XP w s₀ mg mb h->mg d.name=some (.ref fa) ->
   ∃ fd:FuncData,(∀ (s:Shared) (u:Value),BindsTo s fd ⟨[u],[]⟩ [(x,u)])/\∀ base:Heap,FnOk l.prog w (frg h) mg base CX k fa fd [x] (sp (frg h)))
  (hsp:∀ (K:Frag) (H:Hp) (a:Addr) (ns:List Int),ns.length≤n->Only H->SqL K H a (ns.map V.int)->sp K [.ref a] H (λ v _=>v = .bl true) λ _ _ _=>False)
  (hCX:∀ (H:Hp) (s:Shared) (e:Value) (s':Shared),CX [] H s (λ _ _ _=>False) e s'->False) :
  WalkX q loose XP Yf Ya l.row.toRowW d [] (λ f vs=>PySem.call f vs):=by
 have W:WalkO q loose XP (λ _ _=>True) l.row.toRowW d [] (λ f vs=>PySem.call f vs):=by
  refine Att.attach_call hn hdf λ w s₀ s₁ mg mb fa o pm cd doc a vs ns G Y ho hd hcd hmg hobj hints hlen hg=>?_
  obtain ⟨fd,hb,hF⟩:=F w s₀ mg mb fa _ G hmg
  exact Zvd (Zyv _) G.T.g G.T.b G.T.builtins G.T.nolimit hg hobj hints (le_trans hlen hn2) hr (λ base _ _=>hF base) hb (λ H hO hS=>hsp _ H a ns hlen hO hS) λ H e s'=>hCX H s₁ e s'
 intro w s₀ s₁ mg mb G y a o pm cd doc dV kV ho hd hcd hD hmg hg args vals as' L hpre hlay hrd hwl hlo
 exact W w s₀ s₁ mg mb G trivial a o pm cd doc dV kV ho hd hcd hD hmg hg args vals as' hpre hlay hrd hwl hlo
end L2
namespace Mine
open PySem PySem.Spec PyProof.Rows L2
section
variable {P:Program}{w:World}{K:PySem.W.Frag}{mg:Str->Option Value}{base:Heap}
theorem Mild.mul {k:Nat}{rs:List Rnd}{ss:List Sea} (M:Mild k rs ss) {m:Int} (h0:1≤m) (h1:m≤10) (hC:∀ s∈ss,s.2.natAbs≤2 ^ 21) (hm:m=1 \/ ∀ r∈rs,∀ x∈r.1,x*m≤1000000):Mild k (rs.map (mulR m)) (ss.map (mulC m)):=by
 refine ⟨M.k1,M.k3,λ r hr=>?_,λ s hs=>?_,by rw [lmp];exact M.rl,by rw [lmp];exact M.sl,λ r hr=>?_,λ s hs=>?_⟩
 ·obtain ⟨q,hq,rfl⟩:=mem_map.mp hr
  obtain ⟨a,b,c,d⟩:=M.row q hq
  refine ⟨by unfold mulR;rw [lmp];exact a,b,λ x hx=>?_,d⟩
  obtain ⟨y,hy,rfl⟩:=mem_map.mp hx
  have y0:=(M.nr q hq).1 y hy
  rcases hm with rfl|hm
  ·rw [Int.mul_one];exact c y hy
  ·have:=hm q hq y hy
   have:=Int.mul_nonneg y0 (show 0≤m by omega)
   omega
 ·obtain ⟨q,hq,rfl⟩:=mem_map.mp hs
  obtain ⟨a,b,_⟩:=M.sea q hq
  refine ⟨a,b,?_⟩
  show (q.2*m).natAbs≤2 ^ 40
  rw [Int.natAbs_mul]
  exact le_trans (mul_le_mul (hC q hq) (show m.natAbs≤10 by omega)) (by decide)
 ·obtain ⟨q,hq,rfl⟩:=mem_map.mp hr
  refine ⟨λ x hx=>?_,(M.nr q hq).2⟩
  obtain ⟨y,hy,rfl⟩:=mem_map.mp hx
  exact Int.mul_nonneg ((M.nr q hq).1 y hy) (by omega)
 ·obtain ⟨q,hq,rfl⟩:=mem_map.mp hs
  exact ⟨(M.ns q hq).1,Int.mul_nonneg (M.ns q hq).2 (by omega)⟩
theorem Mild.rev {k:Nat}{rs:List Rnd}{ss:List Sea} (M:Mild k rs ss):Mild k (rs.map revR) (ss.map revC):=by
 refine ⟨M.k1,M.k3,λ r hr=>?_,λ s hs=>?_,by rw [lmp];exact M.rl,by rw [lmp];exact M.sl,λ r hr=>?_,λ s hs=>?_⟩
 ·obtain ⟨q,hq,rfl⟩:=mem_map.mp hr
  obtain ⟨a,b,c,d⟩:=M.row q hq
  exact ⟨by unfold revR;rw [length_reverse];exact a,by unfold revR;rw [length_reverse];exact b,λ x hx=>c x (mem_reverse.mp hx),λ x hx=>d x (mem_reverse.mp hx)⟩
 ·obtain ⟨q,hq,rfl⟩:=mem_map.mp hs
  obtain ⟨a,b,c⟩:=M.sea q hq
  exact ⟨by unfold revC;rw [length_reverse];exact a,λ x hx=>b x (mem_reverse.mp hx),c⟩
 ·obtain ⟨q,hq,rfl⟩:=mem_map.mp hr
  exact ⟨λ x hx=>(M.nr q hq).1 x (mem_reverse.mp hx),λ x hx=>(M.nr q hq).2 x (mem_reverse.mp hx)⟩
 ·obtain ⟨q,hq,rfl⟩:=mem_map.mp hs
  exact ⟨λ x hx=>(M.ns q hq).1 x (mem_reverse.mp hx),(M.ns q hq).2⟩
theorem Zw3 {a b:List Rnd} (h:a.map rowD=b.map rowD):a=b:=(List.map_inj_right λ x y e=>by
 unfold rowD at e
 simp only [PyData.tuple.injEq,List.cons.injEq,and_true] at e
 exact Prod.ext (Zjy e.1) (Zjy e.2)).mp h
theorem Zub (c:Int) (k:Nat):repD (k:Int).toNat [PyData.int c]=(List.replicate k c).map .int:=by
 unfold repD
 rw [Int.toNat_natCast,map_replicate]
 induction k with
 | zero=>rfl
 | succ k ih=>rw [replicate_succ,flatten_cons,ih,replicate_succ];rfl
theorem Zyy {c:Prop} [Decidable c] {X:Prop}{R:Str->List PyData->Prop}{G:Str->Prop}{wd:Str}{A:Prop} (hR:∀ wd l,G wd->R wd l) (hA:A) (h0:G wd) (hX:c->(∀ wd l,G wd->R wd l)->X):if c then X else A/\R wd []:=by
 split
 ·next h=>exact hX h hR
 ·exact ⟨hA,hR wd [] h0⟩
theorem Mild.dearH {k:Nat}{rs:List Rnd}{ss:List Sea} (M:Mild k rs ss) {c:Int} (h:c.natAbs<2 ^ 100):Hist k (rs++[dearR k c]) ss:=by
 obtain ⟨a1,a2,a3,a4,a5,a6⟩:=M.hist
 have hl:=M.rl
 refine ⟨a1,a2,λ r hr=>?_,a4,by rw [length_append];simp;omega,a6⟩
 rcases mem_append.mp hr with hr|hr
 ·exact a3 r hr
 ·rw [mem_singleton.mp hr]
  exact ⟨by simp [dearR],by simp [dearR,Zb0],λ x hx=>by rw [(mem_replicate.mp hx).2];exact h,λ x hx=>by rw [(mem_replicate.mp hx).2];decide⟩
abbrev Ask:=List Rnd × List Sea
def askD (a:Ask):PyData:=.tuple [Zbx a.1,Zbb a.2]
theorem Zz4 (T:Txt K mg) {fa:Addr}{fd:FuncData} (F:Fun K "law" "law" sLaw fa fd):FnOk P w K mg base CX0 40 fa fd ["_law_script"] (spLaw K):=by
 have D_law_any_rows:=Zkr (P:=P) (w:=w) (base:=base) T
 have D_law_cost:=Zf4 (P:=P) (w:=w) (base:=base) T
 have D_law_often:=Zoo (P:=P) (w:=w) (base:=base) T
 have D_law_parts_right:=Zid (P:=P) (w:=w) (base:=base) T
 have D_law_same_word:=Zk2 (P:=P) (w:=w) (base:=base) T
 have D_law_times:=Zor (P:=P) (w:=w) (base:=base) T
 have D_law_turned:=Zn6 (P:=P) (w:=w) (base:=base) T
 have D_law_urn:=Zs2 (P:=P) (w:=w) (base:=base) T
 obtain ⟨e_worths,em_worths,D_worths⟩:=Zku (P:=P) (w:=w) (base:=base) T
 refine Zve F Zf0 (λ cdv A outer s H E hr=>⟨_,_,IPSs.get (Za4 (Zc6 PassesOwn.never rfl (Zbt rfl T.z_range (Za0 (Zad (Zog rfl) rfl T.z_max boot_max (Za0 Za6 (Za0 (Zad (Zsw rfl) rfl T.z_min boot_min (Za0 Za6 (Za0 (Zad Zaz rfl T.z_len boot_len (Za0 (i_pv 0) Za3)) Za3))) Za3))) Za3)) (Zaf (i:=1) Zf0.nd rfl (Or.inl rfl)) (Za4 (Zag (i:=2) Zf0.nd rfl (Or.inl rfl) (Zac D_law_urn Zrw (hr.mono (by decide)) (Za0 (i_pv 0) (Za0 (i_pv 1) Za3))))
  (Za4 (Zd9 (Zac D_law_any_rows Zkl (hr.mono (by decide)) (Za0 (i_pv 2) (Za0 Za6 Za3))) (Zcj (n:=3) rfl (Za8 (Zaf (i:=3) Zf0.nd rfl (Or.inl rfl)) (Za8 (Zaf (i:=4) Zf0.nd rfl (Or.inl rfl)) (Za8 (Zaf (i:=5) Zf0.nd rfl (Or.inr rfl)) Zau)))))
  (Za4 (Zag (i:=6) Zf0.nd rfl (Or.inr rfl) (Zan Zc0 (Zf3 D_worths (Zda) (hr.mono (by decide)) (Za0 (i_pv 3) (Za0 (i_pv 4) Za3)) (Zen (i_pv 5) Zfi)) Za6 (λ _ _=>rfl)))
  (Za4 (Zag (i:=7) Zf0.nd rfl (Or.inl rfl) (Zac D_law_often Zo9 (hr.mono (by decide)) (Za0 (i_pv 2) (Za0 (i_pv 3) Za3))))
  (Za4 (Zag (i:=8) Zf0.nd rfl (Or.inl rfl) (Zam Zct (Zad (Zfz rfl) rfl T.z_sum boot_sum (Za0 (by refine' Zb2 (Nc:=["_law_one", "_law_coins"]) (cap:=[none,none]) rfl ?i ?k ?g ?t ?e;(case k=>kernel_rfl);(case i=>exact (Zbu (i_pv 4)));(case g=>exact (λ _ _ _ _ _=>(Zc4 (K:=K) rfl (n:=2) rfl (Za8 (Zc3 0 (by show List.Nodup (["_law_one", "_law_coins"]:List Str);decide +kernel)) (Za8 (Zc3 1 (by show List.Nodup (["_law_one", "_law_coins"]:List Str);decide +kernel)) Zau)))));(case t=>exact (λ _ _ _ _ _=>Zb1));(case e=>exact (λ _ _ _ _ _=>(Zc7 1)))) Za3)) (Zad (Zfz rfl) rfl T.z_sum boot_sum (Za0 (by refine' Zb2 (Nc:=["_law_prices_here", "_law_one"]) (cap:=[none,none]) rfl ?i ?k ?g ?t ?e;(case k=>kernel_rfl);(case i=>exact (Zbu (i_pv 3)));(case g=>exact (λ _ _ _ _ _=>(Zc4 (K:=K) rfl (n:=2) rfl (Za8 (Zc3 0 (by show List.Nodup (["_law_prices_here", "_law_one"]:List Str);decide +kernel)) (Za8 (Zc3 1 (by show List.Nodup (["_law_prices_here", "_law_one"]:List Str);decide +kernel)) Zau)))));(case t=>exact (λ _ _ _ _ _=>Zb1));(case e=>exact (λ _ _ _ _ _=>(Zac D_law_cost Zdp (hr.mono (by decide)) (Za0 (Zc7 0) (Za0 (Zc7 1) Za3)) (hg:=Zcz))))) Za3))))
  (Za4 (Zag (i:=9) Zf0.nd rfl (Or.inl rfl) (Zaq (Za0 (Zam Zqd (Zaq (Za0 (Zam Zct (i_pv 8) Za6) Za3)) (i_pv 5)) (Za0 (Zam Zqd (Zaq (Za0 Za6 Za3)) (i_pv 5)) Za3))))
  (Za4 (Zd9 (Zac D_law_times Zob (hr.mono (by decide)) (Za0 (i_pv 3) (Za0 (i_pv 4) (Za0 (i_pv 7) Za3)))) (Zcj (n:=2) rfl (Za8 (Zaf (i:=10) Zf0.nd rfl (Or.inl rfl)) (Za8 (Zaf (i:=11) Zf0.nd rfl (Or.inl rfl)) Zau))))
  (Za4 (Zd9 (Zac D_law_turned Zn0 (hr.mono (by decide)) (Za0 (i_pv 3) (Za0 (i_pv 4) Za3))) (Zcj (n:=2) rfl (Za8 (Zaf (i:=12) Zf0.nd rfl (Or.inl rfl)) (Za8 (Zaf (i:=13) Zf0.nd rfl (Or.inl rfl)) Zau))))
  (Za4 (Zag (i:=14) Zf0.nd rfl (Or.inl rfl) (Zbs (Za0 (Zaq (Za0 (i_pv 3) (Za0 (i_pv 4) Za3))) (Za0 (Zaq (Za0 (Zky (i_pv 3) (Zh5 Zjz Za6)) (Za0 (Zky (i_pv 4) (Zh5 Zjz Za6)) Za3))) (Za0 (Zaq (Za0 (i_pv 10) (Za0 (i_pv 11) Za3))) (Za0 (Zaq (Za0 (i_pv 12) (Za0 (i_pv 13) Za3))) Za3))))))
  (Za4 (Zbg (Zdo (Zdt (Zad (Zi9 rfl) rfl T.z_all boot_all (Za0 (by refine' Zb2 (Nc:=["_law_one", "_law_other", "_law_several", "_law_word"]) (cap:=[none,none,some 5,some 6]) rfl ?i ?k ?g ?t ?e;(case k=>kernel_rfl);(case i=>exact (Zd3 (i_pv 14)));(case g=>exact (λ _ _ _ _ _=>(Zc4 (K:=K) rfl (n:=2) rfl (Za8 (Zc3 0 (by show List.Nodup (["_law_one", "_law_other", "_law_several", "_law_word"]:List Str);decide +kernel)) (Za8 (Zc3 1 (by show List.Nodup (["_law_one", "_law_other", "_law_several", "_law_word"]:List Str);decide +kernel)) Zau)))));(case t=>exact (λ _ _ _ _ _=>Zb1));(case e=>exact (λ _ _ _ _ _=>(Zac D_law_same_word Zk0 (hr.mono (by decide)) (Za0 (Zc7 0) (Za0 (Zc7 1) (Za0 (Ze0 2) (Za0 (Ze0 3) Za3)))) (hg:=Zcz))))) Za3)))) (Za9 (Zaj (Zd0))) Zap)
  (Za4 (Zag (i:=15) Zf0.nd rfl (Or.inl rfl) (Zj8 (Zal Znr (i_pv 8) Za6 (nomark _)) (Zf3 D_worths (Zda) (hr.mono (by decide)) (Za0 (Zam Zjj (i_pv 3) (Zaq (Za0 (i_pv 9) Za3))) (Za0 (i_pv 4) Za3)) (Zen (i_pv 5) Zfi)) (Zaq (Za0 (i_pv 6) Za3))))
  (Za4 (Zbg (IPW.pt (Ze6 (Zal Zea (i_pv 6) Zca (nomark _)) (Ze1 (Zal Zpa (Zan Zc0 (i_pv 15) Za6 (λ _ _=>rfl)) (i_pv 6) (nomark _))))) (Za9 (Zaj (Zd0))) Zap)
  (Za9 (Zbg (Zdo (Zdt (Zac D_law_parts_right Zi7 (hr.mono (by decide)) (Za0 (i_pv 2) (Za0 (i_pv 3) (Za0 (i_pv 4) (Za0 (i_pv 5) (Za0 (i_pv 6) Za3)))))))) (Za9 (Zaj (Zd0))) Zap)))))))))))))))
  (Za9 (Zaj (Zd0)))),(Zab (Zde (Zdk (Za1 (Zbo Zu5 (Za1 Zae (Za1 (Zbo Zya (Za1 Zae (Za1 (Zbo Zdd (Za1 (Za2 0) Za5)) Za5))) Za5))) Za5)) (Za7 1) (Zab (Zas (Zak Zq9 (Za1 (Za2 0) (Za1 (Za2 1) Za5))) (Za7 2))
  (Zab (Zas (Zak Zk7 (Za1 (Za2 2) (Za1 Zae Za5))) (Zcb (Zaa (Za7 3) (Zaa (Za7 4) (Zaa (Za7 5) Zbp)))))
  (Zab (Zas (Zah Zby (Zhm Zg2 em_worths (Za1 (Za2 3) (Za1 (Za2 4) Za5)) (Za1 (Za2 5) Za5)) Zae) (Za7 6))
  (Zab (Zas (Zak Znn (Za1 (Za2 2) (Za1 (Za2 3) Za5))) (Za7 7))
  (Zab (Zas (Zah Zdx (Zbo Zlj (Za1 (Zbl false (Zcq (Za2 4)) (Zcb (Zaa (Za7 0) (Zaa (Za7 1) Zbp))) Zcc (Zbm (Za2 1))) Za5)) (Zbo Zlj (Za1 (Zbl false (Zcq (Za2 3)) (Zcb (Zaa (Za7 0) (Zaa (Za7 1) Zbp))) Zcc (Zbm (Zak Zdc (Za1 (Za2 0) (Za1 (Za2 1) Za5))))) Za5))) (Za7 8))
  (Zab (Zas (Zbq (Za1 (Zah Zqk (Zbq (Za1 (Zah Zdx (Za2 8) Zae) Za5)) (Za2 5)) (Za1 (Zah Zqk (Zbq (Za1 Zae Za5)) (Za2 5)) Za5))) (Za7 9))
  (Zab (Zas (Zak Znp (Za1 (Za2 3) (Za1 (Za2 4) (Za1 (Za2 7) Za5)))) (Zcb (Zaa (Za7 10) (Zaa (Za7 11) Zbp))))
  (Zab (Zas (Zak Zmb (Za1 (Za2 3) (Za1 (Za2 4) Za5))) (Zcb (Zaa (Za7 12) (Zaa (Za7 13) Zbp))))
  (Zab (Zas (Zcx false (Za1 (Zbq (Za1 (Za2 3) (Za1 (Za2 4) Za5))) (Za1 (Zbq (Za1 (Zlk (Za2 3)) (Za1 (Zlk (Za2 4)) Za5))) (Za1 (Zbq (Za1 (Za2 10) (Za1 (Za2 11) Za5))) (Za1 (Zbq (Za1 (Za2 12) (Za1 (Za2 13) Za5))) Za5))))) (Za7 14))
  (Zab (Zd4 (Zfm (rt_b (Zbo Zrj (Za1 (Zbl false (Ze8 (Za2 14)) (Zcb (Zaa (Za7 0) (Zaa (Za7 1) Zbp))) Zcc (Zbm (Zak Zjg (Za1 (Za2 0) (Za1 (Za2 1) (Za1 (Za2 2) (Za1 (Za2 3) Za5))))))) Za5)))) (Zb6 Zfd) Zbc)
  (Zab (Zas (Zyb (Zb3 (Zah Zha (Za2 8) Zae)) (Zhm Zg2 em_worths (Za1 (Zah Zi4 (Za2 3) (Zbq (Za1 (Za2 9) Za5))) (Za1 (Za2 4) Za5)) (Za1 (Za2 5) Za5)) (Zbq (Za1 (Za2 6) Za5))) (Za7 15))
  (Zab (Zd4 (Zhb (Zb3 (Zah Zeb (Za2 6) Zdm)) (Zb3 (Zah Zpe (Zah Zby (Za2 15) Zae) (Za2 6)))) (Zb6 Zfd) Zbc)
  (Zd4 (Zfm (rt_b (Zak Zi3 (Za1 (Za2 2) (Za1 (Za2 3) (Za1 (Za2 4) (Za1 (Za2 5) (Za1 (Za2 6) Za5)))))))) (Zb6 Zfd) Zbc))))))))))))))
  (Zb6 Zfd)),λ ns h63=>?_⟩)
 simp! only [lmp]
 refine ⟨⟨by omega,by omega⟩,?_⟩
 refine ⟨λ i s=>∃ (o1 o2 o3 o4 o5 o6 o7 o8 o9 o10 o11 o12 o13 o14 o15:Option Val) (w:OW),s=⟨[some (.scr ns),o1,o2,o3,o4,o5,o6,o7,o8,o9,o10,o11,o12,o13,o14,o15],w⟩,⟨none,none,none,none,none,none,none,none,none,none,none,none,none,none,none,_,rfl⟩,λ _ _ _=>trivial,?_,?_⟩
 ·rintro i d s hd ⟨o1,o2,o3,o4,o5,o6,o7,o8,o9,o10,o11,o12,o13,o14,o15,o,rfl⟩
  have hi3:i<4/\d = .int (0+(i:Int)):=by
   unfold rngD at hd
   obtain ⟨r,hr,rfl⟩:=Zdi hd
   obtain ⟨h1,h2⟩:=List.getElem?_eq_some_iff.mp hr
   rw [length_range] at h1
   rw [List.getElem_range] at h2
   subst h2
   exact ⟨by omega,rfl⟩
  obtain ⟨hi3,rfl⟩:=hi3
  simp!
  refine ⟨⟨by omega,by omega⟩,λ u hu=>?_⟩
  simp!
  refine Zdz (by omega) ⟨8,rfl,by decide,by decide⟩ ?_
  rintro r ⟨k,rs,ss,rfl,M,hC⟩
  have hr12:=M.rl
  have hs12:=M.sl
  have hk1:=M.k1
  have hk3:=M.k3
  have hH:=M.hist
  obtain ⟨x0,hw0,_,_⟩:=Zhe hH
  simp! only [dCallD,gaQ]
  refine hw0 _ _ ?_
  simp!
  refine ⟨_,rfl,?_⟩
  simp!
  refine Zdz (by omega) ⟨rs,rfl,by omega,λ r hr=>⟨λ e=>?_,sm20 (M.row r hr).2.2.1⟩⟩ ?_
  ·have:=(M.row r hr).1
   rw [e] at this
   simp at this
   omega
  rintro r ⟨rs2,m,e',rfl,hm0,hm10,hmm⟩
  have eR:rs2=rs:=by
   have:=PyData.tuple.inj (Val.d.inj (List.cons.inj e').1)
   exact (Zw3 this).symm
  subst eR
  clear e'
  simp! only [dComp,Zbx,Zbb]
  refine Zc5 ss Zc9 (λ s=>.int s.2) [] rfl trivial (Zat (by simp only [length_nil];omega)) ?_ ?_
  ·intro s hs Q hQ
   simp! only [Zc9]
   exact hQ
  rw [nil_append,show (ss.map λ s=>PyData.int s.2)=(ss.map λ s=>s.2).map PyData.int by rw [map_map];rfl,uIs_map]
  simp! only [dComp]
  refine Zc5 rs2 rowD (λ r=>.int (dot r.1 r.2)) [] rfl trivial (Zat (by simp only [length_nil];omega)) ?_ ?_
  ·intro r hr Q hQ
   obtain ⟨a,b,c,d⟩:=M.row r hr
   simp! only [rowD]
   exact ⟨_,⟨r.1,r.2,rfl,sm20 c,sm20 d,by omega,rfl⟩,hQ⟩
  rw [nil_append,show (rs2.map λ r=>PyData.int (dot r.1 r.2))=(rs2.map λ r=>dot r.1 r.2).map PyData.int by rw [map_map];rfl,uIs_map]
  simp! only [fRepT]
  have hF:(ss.map λ s=>s.2).sum+(rs2.map λ r=>dot r.1 r.2).sum=farF rs2 ss:=rfl
  rw [hF]
  refine ⟨L2.sz1,⟨by simp,by omega,by omega,Zfe (by simp;omega)⟩,L2.sz1,⟨by simp,by omega,by omega,Zfe (by simp;omega)⟩,L2.sz2,?_⟩
  simp!
  refine ⟨_,⟨rs2,ss,m,rfl,by omega,by omega,λ r hr=>by have:=(M.row r hr).1;omega,hm0,hm10,rfl⟩,?_⟩
  simp!
  refine ⟨_,⟨rs2,ss,rfl,by omega,by omega,rfl⟩,?_⟩
  simp! only [dRevT]
  have eX:[PyData.tuple [PyData.tuple (rs2.map rowD),PyData.tuple (ss.map Zc9)],PyData.tuple [PyData.tuple (rs2.map rowD).reverse,PyData.tuple (ss.map Zc9).reverse],PyData.tuple [Zbx (rs2.map (mulR m)),Zbb (ss.map (mulC m))],PyData.tuple [Zbx (rs2.map revR),Zbb (ss.map revC)]]=([(rs2,ss),(rs2.reverse,ss.reverse),(rs2.map (mulR m),ss.map (mulC m)),(rs2.map revR,ss.map revC)]:List Ask).map askD:=by
   rw [<- map_reverse,<- map_reverse];rfl
  rw [eX,Zub,Zub]
  have MM:=M.mul hm0 hm10 hC hmm
  have MR:=M.rev
  have MV:=M.sub (rs':=rs2.reverse) (ss':=ss.reverse) (λ r h=>mem_reverse.mp h) (λ r h=>mem_reverse.mp h) (by rw [length_reverse];exact hr12) (by rw [length_reverse];exact hs12)
  have hL:∀ a∈([(rs2,ss),(rs2.reverse,ss.reverse),(rs2.map (mulR m),ss.map (mulC m)),(rs2.map revR,ss.map revC)]:List Ask),Mild k a.1 a.2/\wordF k a.1 a.2=wordF k rs2 ss:=by
   intro a ha
   simp only [mem_cons,not_mem_nil,or_false] at ha
   rcases ha with rfl|rfl|rfl|rfl
   ·exact ⟨M,rfl⟩
   ·exact ⟨MV,(Zlu hH MV.hist ⟨λ h=>h.sub (λ r h=>mem_reverse.mp h) (λ r h=>mem_reverse.mp h),λ h=>h.sub (λ r h=>mem_reverse.mpr h) (λ r h=>mem_reverse.mpr h)⟩).symm⟩
   ·exact ⟨MM,(Zlu hH MM.hist (HasW.mul hm0 hH MM.hist)).symm⟩
   ·exact ⟨MR,(Zlu hH MR.hist (HasW.rev hH)).symm⟩
  have hL4:([(rs2,ss),(rs2.reverse,ss.reverse),(rs2.map (mulR m),ss.map (mulC m)),(rs2.map revR,ss.map revC)]:List Ask).length=4:=rfl
  generalize ([(rs2,ss),(rs2.reverse,ss.reverse),(rs2.map (mulR m),ss.map (mulC m)),(rs2.map revR,ss.map revC)]:List Ask)=L at *
  refine ⟨L2.sz2,L2.sz2,L2.sz2,L2.sz2,L2.sz4,?_⟩
  simp! only [dComp]
  refine Zc5 L askD (λ _=>.bool true) [] rfl trivial (Zat (by simp only [length_nil];omega)) ?_ ?_
  ·intro a ha Q hQ
   obtain ⟨m1,m2⟩:=hL a ha
   simp! only [askD]
   exact ⟨_,⟨k,a.1,a.2,by rw [m2],m1,rfl⟩,hQ⟩
  have hall:((L.map λ _=>true).all id)=true:=by simp
  rw [nil_append]
  simp! only [Zkg L (λ _=>true),hall]
  refine Zyy (G:=λ wd=>wordF k rs2 ss = "worths"->wd=wordF k rs2 ss) (R:=λ wd l=>laterS _ _ ⟨[_,_,_,_,_,_,_,_,_,_,_,_,_,_,_,some (.d (.tuple (.str wd::l)))],_⟩) (λ wd l hwd=>?_) (L2.sz1) (λ _=>rfl) (λ c K=>?_)
  rotate_left
  ·have c':=of_decide_eq_true c
   have f0:0≤farF rs2 ss:=M.far_nn
   have hHd:=M.dearH (c:=farF rs2 ss+1) (lt_of_le_of_lt (show (farF rs2 ss+1).natAbs≤1000001 by omega) (by decide))
   obtain ⟨x2,hw2,_,_⟩:=Zhe hHd
   have eD:List.map rowD rs2++[PyData.tuple [PyData.tuple (List.map PyData.int (List.replicate k (farF rs2 ss+1))),PyData.tuple (List.map PyData.int (List.replicate k 0))]]=(rs2++[dearR k (farF rs2 ss+1)]).map rowD:=by rw [map_append];rfl
   refine ⟨L2.sz1,Zfe (by rw [lmp];omega),?_⟩
   rw [eD]
   refine hw2 _ _ ?_
   exact K _ _ λ hw=>((Zel hHd).mpr (M.dear ((Zel hH).mp hw))).trans hw.symm
  simp!
  refine Zr7 ?_ (λ c K=>?_)
  rotate_left
  ·have c2:=hwd (of_decide_eq_true c)
   refine ⟨.str wd,Zcy (j:=0) rfl,?_⟩
   subst c2
   show if (!decide (wordF k rs2 ss=wordF k rs2 ss))=true then _ else _
   rw [decide_eq_true (rfl:wordF k rs2 ss=wordF k rs2 ss)]
   exact K
  simp!
  refine Zdz (by omega) ⟨k,rs2,ss,rfl,M⟩ ?_
  rintro r rfl
  simp!
  exact ⟨_,_,_,_,_,_,_,_,_,_,_,_,_,_,_,_,rfl⟩
 ·rintro s ⟨o1,o2,o3,o4,o5,o6,o7,o8,o9,o10,o11,o12,o13,o14,o15,o,rfl⟩
  simp! only [later]
end
noncomputable def onceL (w:World) (os:OsState):=onceT PySem.Challenge.pw_bundleclocks_k12_whole_parts_and_turns_o PySem.Challenge.pw_bundleclocks_k12_whole_parts_and_turns_o [] 20000 w os
def goodL:=goodT PySem.Challenge.pw_bundleclocks_k12_whole_parts_and_turns_o []
theorem onceE:onceL=onceL:=rfl
theorem goodE:goodL=goodL:=rfl
name_quick onceQ for onceL by onceE
name_quick goodQ for goodL by goodE
theorem runs (w:World) (os:OsState):onceT PySem.Challenge.pw_bundleclocks_k12_whole_parts_and_turns_o PySem.Challenge.pw_bundleclocks_k12_whole_parts_and_turns_o [] 20000 w os=goodT PySem.Challenge.pw_bundleclocks_k12_whole_parts_and_turns_o []:=(congrFun (congrFun PySem.W.Fast.onceQ_eq w) os).trans ((by kernel_rfl:PySem.W.Fast.onceQ w os=PySem.W.Fast.goodQ).trans PySem.W.Fast.goodQ_eq.symm)
def recsL:List DefRec:=[recD "cost" sCost,recD "together" sTogether,recD "weight" sWeight,recD "ends" sEnds,recD "steps_of" sStepsOf,recD "arcs_of" sArcsOf,recD "shorten" sShorten,recD "shortest_ways" sShortestWays,recD "ring_behind" sRingBehind,recD "_law_urn" sLawUrn,recD "_law_draw" sLawDraw,recD "_law_whole" sLawWhole,recD "_law_amounts" sLawAmounts,recD "_law_bundle" sLawBundle,recD "_law_prices" sLawPrices,recD "_law_cost" sLawCost,recD "_law_all_within" sLawAllWithin,recD "_law_taste" sLawTaste,recD "_law_liked" sLawLiked,recD "_law_wanted" sLawWanted,recD "_law_edges" sLawEdges,recD "_law_heights" sLawHeights,recD "_law_small" sLawSmall,recD "_law_told" sLawTold,recD "_law_is_ring" sLawIsRing,recD "_law_history" sLawHistory,recD "_law_meant" sLawMeant,recD "_law_any_rows" sLawAnyRows,recD "_law_are_worths" sLawAreWorths,recD "_law_are_any" sLawAreAny,recD "_law_is_shown" sLawIsShown,recD "_law_often" sLawOften,recD "_law_part" sLawPart,recD "_law_times" sLawTimes,recD "_law_turned" sLawTurned,recD "_law_same_word" sLawSameWord,recD "_law_moved_ring" sLawMovedRing,recD "_law_parts_right" sLawPartsRight,recD "law" sLaw]
theorem recsE:recsOf PySem.Challenge.pw_bundleclocks_k12_whole_parts_and_turns_o=recsL:=by kernel_rfl
def wdefsL:List (DefRec × List (Str × Expr)):=[(recD "told_bundles" sToldBundles,[]),(recD "worths" sWorths,[])]
theorem wdefsE:PySem.W.wdefsOf PySem.Challenge.pw_bundleclocks_k12_whole_parts_and_turns_o=wdefsL:=by kernel_rfl
def bltsL:List Str:=["abs", "all", "bool", "enumerate", "int", "isinstance", "len", "max", "min", "range", "repr", "sorted", "str", "sum", "tuple", "zip"]
theorem bltsE:bltsL.all (λ x=>!(startupNames.contains x || (PySem.W.looseW PySem.Challenge.pw_bundleclocks_k12_whole_parts_and_turns_o []).contains x || ((recsOf PySem.Challenge.pw_bundleclocks_k12_whole_parts_and_turns_o).map (·.name)).contains x || ((litsOf PySem.Challenge.pw_bundleclocks_k12_whole_parts_and_turns_o).map (·.1)).contains x || ((clssOf PySem.Challenge.pw_bundleclocks_k12_whole_parts_and_turns_o (PySem.W.looseW PySem.Challenge.pw_bundleclocks_k12_whole_parts_and_turns_o [])).map (·.name)).contains x))=true:=by decide +kernel
theorem walk:PySem.W.WalkX PySem.Challenge.pw_bundleclocks_k12_whole_parts_and_turns_o [] (λ _ _=>True) (λ _=>()) (λ _=>()) (PySem.Challenge.rw_bundleclocks_k12_whole_parts_and_turns_o).row.toRowW (recD "law" sLaw) [] (λ f vs=>PySem.call f vs):=by
 refine walkG (l:=PySem.Challenge.rw_bundleclocks_k12_whole_parts_and_turns_o) (n:=63) (k:=40) (x:="_law_script") (CX:=CX0) (sp:=λ K=>spLaw K) rfl (by decide) rfl ⟨rfl,by decide,by decide,rfl⟩ (λ w s₀ mg mb fa h G hmg=>?_) (λ _ _ a ns hl _ hS=>⟨a,ns,rfl,hS,hl,λ _=>rfl⟩) λ _ _ _ _ z=>z
 have T:Txt (frg h) mg:=⟨Zdh G recsE 0 rfl,Zdh G recsE 1 rfl,Zwu G wdefsE 0 rfl rfl,Zdh G recsE 2 rfl,Zdh G recsE 3 rfl,Zdh G recsE 4 rfl,Zdh G recsE 5 rfl,Zdh G recsE 6 rfl,Zdh G recsE 7 rfl,Zdh G recsE 8 rfl,Zwu G wdefsE 1 rfl rfl,Zdh G recsE 9 rfl,Zdh G recsE 10 rfl,Zdh G recsE 11 rfl,Zdh G recsE 12 rfl,Zdh G recsE 13 rfl,Zdh G recsE 14 rfl,Zdh G recsE 15 rfl,Zdh G recsE 16 rfl,Zdh G recsE 17 rfl,Zdh G recsE 18 rfl,Zdh G recsE 19 rfl,Zdh G recsE 20 rfl,Zdh G recsE 21 rfl,Zdh G recsE 22 rfl,Zdh G recsE 23 rfl,Zdh G recsE 24 rfl,Zdh G recsE 25 rfl,Zdh G recsE 26 rfl,Zdh G recsE 27 rfl,Zdh G recsE 28 rfl,Zdh G recsE 29 rfl,Zdh G recsE 30 rfl,Zdh G recsE 31 rfl,Zdh G recsE 32 rfl,Zdh G recsE 33 rfl,Zdh G recsE 34 rfl,Zdh G recsE 35 rfl,Zdh G recsE 36 rfl,Zdh G recsE 37 rfl,Zdh G recsE 38 rfl,Zez G bltsE 0 rfl,Zez G bltsE 1 rfl,Zez G bltsE 2 rfl,Zez G bltsE 3 rfl,Zez G bltsE 4 rfl,Zez G bltsE 5 rfl,Zez G bltsE 6 rfl,Zez G bltsE 7 rfl,Zez G bltsE 8 rfl,Zez G bltsE 9 rfl,Zez G bltsE 10 rfl,Zez G bltsE 11 rfl,Zez G bltsE 12 rfl,Zez G bltsE 13 rfl,Zez G bltsE 14 rfl,Zez G bltsE 15 rfl⟩
 obtain ⟨f,fd,F,m⟩:=T.f_law
 cases hmg.symm.trans m
 have F2:=F
 obtain ⟨oc,od,kV,doc,pm,an,cdv,ct,osl,rfl,_,_⟩:=F.ex
 exact ⟨_,λ s u=>.of_eq rfl,λ base=>Zz4 T F2⟩
end Mine
open PySem PySem.W PyProof.Rows
set_option maxRecDepth 100000 in
set_option maxHeartbeats 0 in
theorem PySem.Challenge.cw_bundleclocks_k12_whole_parts_and_turns_o_holds : PySem.Challenge.rw_bundleclocks_k12_whole_parts_and_turns_o.Holds := by
 w_on;o_law
 refine PySem.W.holds_openX (q:=PySem.Challenge.pw_bundleclocks_k12_whole_parts_and_turns_o) (loose:=[]) (Xt:=λ _=>true) (XP:=λ _ _=>True) (Yf:=λ _=>()) (Ya:=λ _=>()) (d:=L2.recD "law" Mine.sLaw) (kwd:=[]) (N:=20000) (L2.Ztp (by kernel_rfl) (by decide) (λ s=>by kernel_rfl) Mine.runs) (λ _ _=>trivial) (λ _ _ _ _ _=>trivial) (by kernel_rfl) (by kernel_rfl) (by kernel_rfl) (λ _ _=>recFacts_nil rfl) (by rfl) (by assumption) (by decide +kernel) ⟨rfl,rfl,rfl,rfl,rfl,by decide +kernel⟩ ?hw Mine.walk
 w_witness2
