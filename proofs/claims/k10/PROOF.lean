import PyProof.Rows.All
import Wide.All
import OpenK.AllK
import PySem.Challenge.RW_bundleclocks_k10_rings_of_rounds_alone
open List (all_eq_true any_cons any_eq_true any_nil append_assoc append_nil cons_append drop_zero filterMap_cons flatMap_append flatMap_cons flatten_cons foldl_append foldl_cons forIn_cons forIn_nil getD_eq_getElem?_getD getElem?_append_left getElem?_cons_succ getElem?_cons_zero getElem?_map getElem?_set_ne getElem?_set_self getElem?_zip_eq_some getElem_mem getElem_of_mem getElem_range length_append length_cons length_drop length_eq_zero_iff length_map length_nil length_pos_iff length_range length_singleton length_take length_zip lookup_cons map_append map_cons map_flatMap map_map map_nil mem_append mem_append_left mem_append_right mem_cons mem_cons_of_mem mem_cons_self mem_flatMap mem_iff_getElem mem_map mem_map_of_mem mem_of_getElem? mem_range mem_replicate mem_singleton nil_append nodup_append nodup_cons not_mem_nil of_mem_zip replicate_succ reverse_cons size_toArray sum_append take_add_one take_length take_of_length_le)
open Nat (add_mul le_add_right le_of_lt le_refl le_succ le_trans lt_irrefl lt_of_le_of_lt lt_of_lt_of_le lt_succ_of_lt lt_succ_self mul_le_mul mul_le_mul_right ne_of_gt ne_of_lt one_mul sub_zero zero_add zero_le)
open PySem.Heap (get?_push_of_some get?_push_size get?_update_self lt_size size_push)
open Option (bind_some isSome_iff_exists isSome_map isSome_none isSome_some map_eq_some_iff map_some)
open Bool (and_eq_true false_eq_true or_eq_false_iff)
open PySem.F (args_tuple_add_2 entry_max_loop entry_tuple_add plainAttrs_list plain_max_loop slot_list_iadd slot_list_index slot_tuple_add slot_tuple_mul)
open PySem.W (Frag cellsFrom_some kia_one)
abbrev zF:=@decide_eq_false
abbrev zG:=@beq_eq_false_iff_ne
abbrev zH:=@PySem.Paired.length
abbrev zI:=@if_pos
abbrev zJ:=@if_neg
abbrev zK:=@Option.some.inj
abbrev zL:=@PySem.Heap.get?_push_size
abbrev zM:=@PySem.Heap.lt_size
abbrev zN:=@Nat.lt_of_lt_of_le
abbrev zO:=@Nat.lt_irrefl
abbrev zP:=@Nat.ne_of_lt
abbrev zQ:=@List.mem_range
abbrev zR:=@Nat.le_trans
abbrev zS:=@List.filterMap_cons
abbrev zT:=@List.mem_cons_self
abbrev zU:=@List.mem_cons_of_mem
abbrev zV:=@List.mem_cons
abbrev zW:=@Ne.symm
abbrev zX:=@List.mem_append
abbrev zY:=@List.mem_append_left
abbrev zZ:=@List.getElem?_eq_some_iff
abbrev wA:=@List.getElem?_set_self
abbrev wB:=@List.getElem?_set_ne
abbrev wC:=@PySem.wpAny_mono
abbrev wD:=@PySem.wpAny_truthy_bool
abbrev wE:=@Array.length_toList
abbrev wF:=@congrArg
abbrev wG:=@PySem.wpAny_execs_nil
abbrev wH:=@PySem.wpAny_bind
abbrev wI:=@PySem.wpAny_holding
abbrev wJ:=@PySem.wpAny_standAt
abbrev wK:=@PySem.wpAny_passesOwn
abbrev wL:=@Bool.false_ne_true
abbrev wM:=@Nat.ne_of_gt
abbrev wN:=@PySem.wpAny_pure
abbrev wO:=@PySem.wpAny_pyNext_list_item
abbrev wP:=@PySem.wpAny_pyIter_list
abbrev wQ:=@PySem.Heap.get?_push_of_some
abbrev wR:=@Nat.le_refl
abbrev wS:=@PyProof.Rows.callWith_type1
abbrev wT:=@List.mem_append_right
abbrev wU:=@Bool.eq_iff_iff
abbrev wV:=@List.size_toArray
abbrev wW:=@PySem.W.kia_one
abbrev wX:=@True.intro
abbrev wY:=@List.append_nil
abbrev wZ:=@PySem.codeAny_mono
abbrev vA:=@PySem.wpAny_Call_Name_kw
abbrev vB:=@List.nodup_cons
abbrev vC:=@List.of_mem_zip
abbrev vD:=@Option.isSome_iff_exists
abbrev vE:=@List.length_take
abbrev vF:=@PySem.mem_of_lookup
abbrev vG:=@List.getElem?_append_left
abbrev vH:=@List.getElem?_map
abbrev vI:=@List.mem_of_getElem?
abbrev vJ:=@List.length_append
abbrev vK:=@PySem.wpAny_loadPart'
abbrev vL:=@PySem.noFill_tuple_add
abbrev vM:=@PySem.F.entry_tuple_add
abbrev vN:=@PySem.F.args_tuple_add_2
abbrev vO:=@Int.toNat_natCast
abbrev vP:=@if_false
abbrev vQ:=@if_true
abbrev vR:=@PySem.wpAny_field
abbrev vS:=@List.length_drop
abbrev vT:=@PySem.wpAny_sequenceKey
abbrev vU:=@PySem.wpAny_callSpecial?_slot
abbrev vV:=@PyProof.Rows.slot_tuple_getitem
abbrev vW:=@PySem.wpAny_call_entry
abbrev vX:=@PySem.wpAny_typeOf
abbrev vY:=@Bool.and_eq_true
abbrev vZ:=@PySem.wpAny_newObj_type
abbrev uA:=@List.map_nil
abbrev uB:=@List.map_cons
abbrev uC:=@PySem.Heap.get?_update_self
abbrev uD:=@List.reverse_cons
abbrev uE:=@List.replicate_succ
abbrev uF:=@List.flatten_cons
abbrev uG:=@List.append_assoc
abbrev uH:=@List.foldl_cons
abbrev uI:=@PySem.call_meets
abbrev uJ:=@List.length_singleton
abbrev uK:=@List.Pairwise.nil
abbrev uL:=@Nat.lt_of_le_of_lt
abbrev uM:=@Or.inl
abbrev uN:=@Or.inr
abbrev uO:=@List.forIn_cons
abbrev uP:=@Bool.false_eq_true
abbrev uQ:=@List.lookup_cons
abbrev uR:=@List.cons_append
abbrev uS:=@Option.map_some
abbrev uT:=@Option.isSome_some
abbrev uU:=@PySem.Heap.size_push
abbrev uV:=@List.all_eq_true
abbrev uW:=@List.getElem?_zip_eq_some
abbrev uX:=@PySem.pushCells_keeps
abbrev uY:=@Nat.le_succ
abbrev uZ:=@Nat.lt_succ_of_lt
abbrev yA:=@Nat.le_add_right
abbrev yB:=@PySem.wpAny_rule
abbrev yC:=@PySem.wpAny_of_eq
abbrev yD:=@Nat.lt_succ_self
abbrev yE:=@Nat.zero_le
abbrev yF:=@PySem.F.slot_tuple_iterator_next
abbrev yG:=@PySem.wpAny_seqItems
abbrev yH:=@PySem.Heap.SameBut.update
abbrev yI:=@PySem.F.slot_zip_next
abbrev yJ:=@PySem.wpAny_setField_rec
abbrev yK:=@PySem.wpAny_onRaise
abbrev yL:=@PySem.wpAny_updateSeq_pair
abbrev yM:=@PySem.wpAny_letGo
abbrev yN:=@List.not_mem_nil
abbrev yO:=@or_false
abbrev yP:=@List.length_cons
abbrev yQ:=@List.getD_eq_getElem?_getD
abbrev yR:=@List.take_length
abbrev yS:=@List.mem_iff_getElem
abbrev yT:=@List.getElem_mem
abbrev yU:=@PySem.F.slot_tuple_mul
abbrev yV:=@PySem.seqSlot_of
abbrev yW:=@PySem.AutoSeq1.idx_int
abbrev yX:=@PySem.AutoSeq1.sub_tuple_tuple
abbrev yY:=@Bool.or_eq_false_iff
abbrev yZ:=@PySem.wpAny_ite_false
abbrev xA:=@Int.emod_nonneg
abbrev xB:=@Int.emod_lt_of_pos
abbrev xC:=@List.length_pos_iff
abbrev xD:=@List.mem_singleton
abbrev xE:=@List.map_append
abbrev xF:=@List.mem_map
abbrev xG:=@List.find?_cons
abbrev xH:=@List.any_cons
abbrev xI:=@List.length_nil
abbrev xJ:=@Option.map_eq_some_iff
abbrev xK:=@PySem.tupleKind_room_in1
abbrev xL:=@Option.some.injEq
abbrev xM:=@List.length_eq_zero_iff
abbrev xN:=@List.nil_append
abbrev xO:=@List.take_of_length_le
abbrev xP:=@List.length_zip
abbrev xQ:=@List.getElem?_cons_succ
abbrev xR:=@List.getElem?_cons_zero
abbrev xS:=@List.flatMap_append
abbrev xT:=@List.take_add_one
abbrev xU:=@List.flatMap_cons
abbrev xV:=@Nat.succ.inj
abbrev xW:=@Decidable.byContradiction
abbrev xX:=@List.map_map
abbrev xY:=@PySem.F.slot_list_index
abbrev xZ:=@Nat.mul_le_mul_right
abbrev tD:=@Option.map_none
abbrev tE:=@PySem.codeAny_builtin
abbrev tF:=@PySem.Around.under_plainId
abbrev tG:=@PySem.F.plain_max_loop
abbrev tH:=@PySem.wpAny_tryCatch
abbrev tJ:=@PySem.wpAny_updateSeq
abbrev tK:=@decide_true
abbrev tL:=@PySem.plainId_quiet
abbrev tM:=@PySem.boot_len
abbrev tN:=@Int.mul_nonneg
abbrev tO:=@Int.mul_le_mul
abbrev tP:=@Function.comp_def
abbrev tQ:=@List.any_eq_true
abbrev tR:=@List.mem_replicate
abbrev tS:=@List.length_range
abbrev tU:=@List.mem_flatMap
abbrev tV:=@PySem.PassesOwn.never
abbrev tW:=@PySem.F.plainAttrs_list
abbrev tX:=@PySem.F.slot_list_append
abbrev tY:=@PySem.F.type_list_append
abbrev tZ:=@List.foldl_append
abbrev sA:=@List.map_flatMap
abbrev sC:=@Nat.mul_le_mul
abbrev sD:=@exists_eq_left'
abbrev sE:=@exists_and_left
abbrev sF:=@Option.isSome_none
abbrev sG:=@Int.le_refl
abbrev sH:=@List.mem_map_of_mem
abbrev sI:=@List.getElem_of_mem
abbrev sJ:=@PyProof.Rows.boot_isinstance
abbrev sK:=@Int.eq_ofNat_of_zero_le
theorem L2.sz1:1≤PySem.sizeLine:=by decide
theorem L2.sz2:2≤PySem.sizeLine:=by decide
theorem L2.sz3:3≤PySem.sizeLine:=by decide
theorem L2.sz4:4≤PySem.sizeLine:=by decide
theorem L2.sz5:5≤PySem.sizeLine:=by decide
theorem L2.sz6:6≤PySem.sizeLine:=by decide
theorem lmp{α β:Type _}{as:List α}(f:α->β):(as.map f).length=as.length:=length_map f
theorem gEq{α:Type _}{l:List α}{i:Nat}(h:i<l.length):l[i]? = some l[i]:=List.getElem?_eq_getElem h
set_option bootstrap.genMatcherCode false
set_option compiler.extract_closed false
set_option hygiene false
local macro_rules
 | `(tactic| omega) => `(tactic| first | lia | omega (config := {}))
set_option Elab.async false
set_option linter.all false
set_option maxRecDepth 100000
namespace L2
open PySem PySem.Spec PyProof.Rows
abbrev Key:=Sum Int Str
def keyIs:Key->Value->Bool
 | .inl k,v=>Value.isInt k v
 | .inr x,v=>Value.isStrOf x v
def keyH(w:World):Key->Int
 | .inl k=>hashInt k
 | .inr x=>hashStr w x
theorem Zck:∀{k:Key}{v:Value},keyIs k v=true->(∃i t,k=Sum.inl i/\v=Value.int i t)\/(∃x t,k=Sum.inr x/\v=Value.str x t)
 | .inl i,v,h=>by
  obtain⟨t,e⟩:=Value.isInt_shape (k:=i) (v:=v) h
  exact .inl ⟨i,t,rfl,e⟩
 | .inr x,v,h=>by
  obtain⟨t,e⟩:=Value.isStrOf_shape (x:=x) (v:=v) h
  exact .inr ⟨x,t,rfl,e⟩
theorem Zpg(i:Int)(t:Tok):keyIs (.inl i) (.int i t)=true:=by simp[keyIs,Value.isInt]
theorem Zph(x:Str)(t:Tok):keyIs (.inr x) (.str x t)=true:=by simp[keyIs,Value.isStrOf]
theorem Zuw(a b:Int):decide ((Sum.inl a:Key)=Sum.inl b)=(a == b):=by
 by_cases e:a=b
 ·subst e;simp
 ·have h:¬(Sum.inl a:Key)=Sum.inl b:=λq=>e (Sum.inl.inj q)
  rw[zF h]
  exact(zG.mpr e).symm
theorem Zuz(a b:Str):decide ((Sum.inr a:Key)=Sum.inr b)=decide (a=b):=by
 by_cases e:a=b
 ·subst e;simp
 ·have h:¬(Sum.inr a:Key)=Sum.inr b:=λq=>e (Sum.inr.inj q)
  rw[zF h,zF e]
theorem Zux(a:Int)(b:Str):decide ((Sum.inl a:Key)=Sum.inr b)=false:=zF (λq=>nomatch q)
theorem Zuy(a:Str)(b:Int):decide ((Sum.inr a:Key)=Sum.inl b)=false:=zF (λq=>nomatch q)
def mixKind(prog:Program)(w:World):PySem.KeyKind prog w Key where
 is:=keyIs
 hash:=keyH w
 inj:=λv a b ha hb=>by
  rcases Zck ha with ⟨i,t,rfl,rfl⟩|⟨x,t,rfl,rfl⟩
  ·rcases Zck hb with ⟨j,u,rfl,e⟩|⟨y,u,rfl,e⟩
   ·injection e with e1 _;rw[e1]
   ·exact nomatch e
  ·rcases Zck hb with ⟨j,u,rfl,e⟩|⟨y,u,rfl,e⟩
   ·exact nomatch e
   ·injection e with e1 _;rw[e1]
 byValue:=λk v h=>by
  rcases Zck h with ⟨i,t,rfl,rfl⟩|⟨x,t,rfl,rfl⟩<;>rfl
 pyHash:=λhv h=>by
  rcases Zck hv with ⟨i,t,rfl,rfl⟩|⟨x,t,rfl,rfl⟩
  ·exact wpAny_pyHash_int h
  ·exact wpAny_pyHash_str h
 eqBool:=λhu hv h=>by
  rcases Zck hu with ⟨i,t,rfl,rfl⟩|⟨x,t,rfl,rfl⟩
  ·rcases Zck hv with ⟨j,u,rfl,rfl⟩|⟨y,u,rfl,rfl⟩
   ·rw[Zuw]at h;exact wpAny_eqBool_int h
   ·rw[Zux]at h;exact SeqAt.EqAt.int_str i t y u _ _ _ _ h
  ·rcases Zck hv with ⟨j,u,rfl,rfl⟩|⟨y,u,rfl,rfl⟩
   ·rw[Zuy]at h;exact SeqAt.EqAt.str_int x t j u _ _ _ _ h
   ·rw[Zuz]at h;exact wpAny_eqBool_str h
 «strs»:=λk x t v h=>by
  rcases Zck h with ⟨i,u,rfl,e⟩|⟨y,u,rfl,e⟩
  ·exact nomatch e
  ·injection e with e1 _
   subst e1
   cases v<;>rfl
theorem Zm7(prog:Program)(w:World)(i:Int)(t:Tok):(mixKind prog w).is (.inl i) (.int i t)=true:=Zpg i t
theorem Zm8(prog:Program)(w:World)(x:Str)(t:Tok):(mixKind prog w).is (.inr x) (.str x t)=true:=Zph x t
inductive V where
 | non|bl (b:Bool)|int (i:Int)|str (x:Str)|byt (b:Array UInt8)|flt (b:UInt64)|ref (a:Addr)|ty (n:String)
 deriving DecidableEq
def RelV:V->Value->Prop
 | .non,u=>u=Value.none
 | .bl b,u=>u=Value.bool b
 | .int i,u=>∃t,u=Value.int i t
 | .str x,u=>∃t,u=Value.str x t
 | .byt b,u=>∃t,u=Value.bytes b t
 | .flt b,u=>∃t,u=Value.float b t
 | .ref a,u=>u=Value.ref a
 | .ty n,u=>u=Value.type n
abbrev Vals:List V->List Value->Prop:=Paired RelV
theorem Vals.length{xs:List V}{us:List Value}(r:Vals xs us):xs.length=us.length:=zH r
theorem Vals.get:∀{xs:List V}{us:List Value}{i:Nat}{x:V},Vals xs us->xs[i]? = some x->∃u,us[i]? = some u/\RelV x u
 | _,_,_,_,.nil,e=>by simp at e
 | _,_,0,_,.cons r _,e=>by simp at e;subst e;exact⟨_,rfl,r⟩
 | _,_,i+1,x,.cons _ t,e=>by
  obtain⟨u,h1,h2⟩:=Vals.get (i:=i) (x:=x) t (by simpa using e)
  exact⟨u,by simpa using h1,h2⟩
theorem Vals.set{x:V}{u:Value}(r:RelV x u):∀{xs:List V}{us:List Value} (i:Nat),Vals xs us->Vals (xs.set i x) (us.set i u)
 | _,_,_,.nil=>.nil
 | _,_,0,.cons _ t=>.cons r t
 | _,_,i+1,.cons q t=>.cons q (Vals.set r i t)
theorem Vals.append:∀{xs ys:List V}{us ws:List Value},Vals xs us->Vals ys ws->Vals (xs++ys) (us++ws)
 | _,_,_,_,.nil,s=>s
 | _,_,_,_,.cons r t,s=>.cons r (Vals.append t s)
theorem Vals.take:∀{xs:List V}{us:List Value} (n:Nat),Vals xs us->Vals (xs.take n) (us.take n)
 | _,_,0,_=>.nil
 | _,_,_+1,.nil=>.nil
 | _,_,n+1,.cons r t=>.cons r (Vals.take n t)
theorem Vals.drop:∀{xs:List V}{us:List Value} (n:Nat),Vals xs us->Vals (xs.drop n) (us.drop n)
 | _,_,0,r=>r
 | _,_,_+1,.nil=>.nil
 | _,_,n+1,.cons _ t=>Vals.drop n t
theorem Vals.none_of:∀{xs:List V}{us:List Value}{i:Nat},Vals xs us->xs[i]? = none->us[i]? = none:=λ{xs us i} r e=>by
 have h1:=r.length
 have h2:xs.length≤i:=List.getElem?_eq_none_iff.mp e
 exact List.getElem?_eq_none_iff.mpr (by omega)
def RelO:Option V->Option Value->Prop
 | some v,some u=>RelV v u
 | none,none=>True
 | _,_=>False
def KV{κ:Type}:List (κ×V)->List (κ×Value)->Prop:=Paired λ(p:κ×V) (q:κ×Value)=>p.1=q.1/\RelV p.2 q.2
def kV:Key->V
 | .inl i=>.int i
 | .inr x=>.str x
inductive HO where
 /-- a list -/
 | lst (xs:List V)
 /-- a tuple (never changes) -/
 | tup (xs:List V)
 /-- a dict whose keys are ints and texts;one whose keys are tuples of ints and texts (the empty one is both) -/
 | dK (kvs:List (Key×V))|dT (kvs:List (List Key×V))
 /-- a set of ints: its members,its size -/
 | set (S:Int->Bool) (n:Nat)
 /-- an instance of the class at C,its dict at dx,its attributes -/
 | ins (C dx:Addr) (fs:List (Str×V))
 /-- the dict of the instance at x -/
 | own (x:Addr)
 /-- the dict of an exception -/
 | xd (fs:List (Str×V))
 /-- a bound method,f of x -/
 | met (f x:Addr)
 /-- a range object lo,lo+1,.. below hi -/
 | rng (lo hi:Int)
 /-- a thing that is known to the object (the script;a dict while a loop walks it): read,never written while it is so -/
 | frz (o:Obj) (u:HO)
 /-- a code object's table -/
 | tbl (ps:Array Value)
 /-- any other thing,by what is true of its one object (a def of one's own: SetO a S n:=HO.ext λh=>..) -/
 | ext (φ:Heap->Prop)
abbrev Hp:=Addr->Option HO
def upd(H:Hp)(a:Addr)(o:HO):Hp:=λb=>if b=a then some o else H b
theorem Zb2{H:Hp}{a:Addr}{o:HO}:upd H a o a=some o:=by unfold upd;rw[zI rfl]
theorem Zb3{H:Hp}{a b:Addr}{o:HO}(h:b≠a):upd H a o b=H b:=by unfold upd;rw[zJ h]
theorem Zv0{H:Hp}{a b:Addr}{o u:HO}(h:H a=some o)(h':H b=some u)(d:o≠u):a≠b:=by
 intro e;subst e;rw[h]at h';exact d (zK h')
theorem Zdl{H:Hp}{a b:Addr}{o:HO}(h:H a=some o)(h':H b=none):a≠b:=by
 intro e;subst e;rw[h]at h';cases h'
def IsTu(h:Heap)(a:Addr)(its:Array Value):Prop:=∃o,h.get? a=some o/\o.cls=.type "tuple"/\∃n,o.data=.seq its n/\o.dict=none
theorem IsTu.tup{h:Heap}{a:Addr}{its:Array Value}(x:IsTu h a its):IsTup h a its:=by obtain⟨o,e,c,n,d,_⟩:=x;exact⟨o,e,c,n,d⟩
theorem IsTu.new(h:Heap)(its:Array Value):IsTu (h.push { cls:=.type "tuple",data:=.seq its }) h.objs.size its:=⟨_,zL _ rfl,rfl,0,rfl,rfl⟩
section
variable (P:Program) (w:World)
def ObjOk(H:Hp)(h:Heap)(a:Addr):HO->Prop
 | .lst xs=>xs.length≤sizeLine/\∃(its:List Value) (n:Nat),Vals xs its/\h.get? a=some { cls:=.type "list",data:=.seq its.toArray n }
 | .tup xs=>xs.length≤sizeLine/\∃its:List Value,Vals xs its/\IsTu h a its.toArray
 | .dK kvs=>kvs.length≤sizeLine/\(a == sysModules)=false/\∃vs,KV kvs vs/\h.DictOf (mixKind P w) a vs
 | .dT kvs=>kvs.length≤sizeLine/\(a == sysModules)=false/\∃xs:List (List Key×Addr×Value),
   Paired (λ(p:List Key×V) (q:List Key×Addr×Value)=>p.1=q.1/\H q.2.1=some (.tup (p.1.map kV))/\RelV p.2 q.2.2) kvs xs /\
   ∃o es ep,h.get? a=some o/\o.ExactDict/\o.data=.dict es ep/\es.toList=xs.map (entryOfKey (tupleKind (mixKind P w)))/\(xs.map (·.1)).Nodup/\ep=xs.length
 | .set S n=>h.SetOf (intKind P w) a S n
 | .ins C dx fs=>H dx=some (.own a)/\fs.length≤1000/\dx≠a/\h.get? a=some (PySem.W.instObj C dx) /\
   ∃mA,h.Ns1 dx mA/\(∀f,RelO (fs.lookup f) (mA f))/\PySem.Within mA (fs.map (·.1))
 | .own _=>∃o,h.get? a=some o
 | .xd fs=>∃mA,h.Ns1 a mA/\∀f,RelO (fs.lookup f) (mA f)
 | .rng lo hi=>∃t u v,h.get? a=some { cls:=.type "range",data:=.fields #[.int lo t,.int hi u,.int 1 v] }
 | .frz o u=>h.get? a=some o/\ObjOk H h a u
 | .tbl ps=>h.get? a=some { cls:=.none,data:=.fields ps }
 | .met f x=>h.get? a=some (PySem.W.methodObj (.ref f) (.ref x))
 | .ext φ=>φ h/\(∃o,h.get? a=some o)/\∀h1 h2:Heap,φ h1->(∀o,h1.get? a=some o->h2.get? a=some o)->φ h2
def HOk(H:Hp)(h:Heap):Prop:=∀a o,H a=some o->ObjOk P w H h a o
end
section
variable {P:Program}{w:World}{H H':Hp}{h h':Heap}{a:Addr}{o:HO}
theorem ObjOk.lt(x:ObjOk P w H h a o):a<h.objs.size:=by
 cases o with
 | lst xs=>obtain⟨_,_,_,_,e⟩:=x;exact zM e
 | tup xs=>obtain⟨_,_,_,p⟩:=x;exact p.tup.lt
 | dK kvs=>obtain⟨_,_,_,_,o,_,_,e,_⟩:=x;exact zM e
 | dT kvs=>obtain⟨_,_,_,_,o,_,_,e,_⟩:=x;exact zM e
 | set S n=>obtain⟨o,_,_,_,e,_⟩:=x;exact zM e
 | ins C dx fs=>obtain⟨_,_,_,e,_⟩:=x;exact zM e
 | own y=>obtain⟨_,e⟩:=x;exact zM e
 | xd fs=>obtain⟨_,⟨_,_,_,e,_⟩,_⟩:=x;exact zM e
 | rng lo hi=>obtain⟨_,_,_,e⟩:=x;exact zM e
 | frz ob u=>obtain⟨e,_⟩:=x;exact zM e
 | tbl ps=>exact zM (show h.get? a=some _ from x)
 | met f y=>exact zM (show h.get? a=some _ from x)
 | ext φ=>obtain⟨_,⟨_,e⟩,_⟩:=x;exact zM e
theorem Paired.mapP{α β:Type}{F G:α->β->Prop}:∀{l₁:List α}{l₂:List β},Paired F l₁ l₂->(∀a b,F a b->G a b)->Paired G l₁ l₂
 | _,_,.nil,_=>.nil
 | _,_,.cons r t,f=>.cons (f _ _ r) (Paired.mapP t f)
theorem ObjOk.stay(x:ObjOk P w H h a o)(k:∀b u,(b=a\/H b=some (.own a))->h.get? b=some u->h'.get? b=some u) 
  (ho:∀b,H b=some (.own a)->H' b=some (.own a)) (ht:∀b xs,H b=some (.tup xs)->H' b=some (.tup xs)):ObjOk P w H' h' a o:=by
 induction o with
 | lst xs=>obtain⟨z,its,n,r,e⟩:=x;exact⟨z,its,n,r,k _ _ (.inl rfl) e⟩
 | tup xs=>obtain⟨z,its,r,ob,e,c⟩:=x;exact⟨z,its,r,ob,k _ _ (.inl rfl) e,c⟩
 | dK kvs=>obtain⟨z,y,vs,r,ob,es,ep,e,c⟩:=x;exact⟨z,y,vs,r,ob,es,ep,k _ _ (.inl rfl) e,c⟩
 | dT kvs=>
  obtain⟨z,y,xs,r,ob,es,ep,e,c⟩:=x
  exact⟨z,y,xs,Paired.mapP r λp q z=>⟨z.1,ht _ _ z.2.1,z.2.2⟩,ob,es,ep,k _ _ (.inl rfl) e,c⟩
 | set S n=>obtain⟨ob,es,ep,t,e,c⟩:=x;exact⟨ob,es,ep,t,k _ _ (.inl rfl) e,c⟩
 | ins C dx fs=>
  obtain⟨d,z,ne,e,mA,⟨od,es,ep,e2,c⟩,r⟩:=x
  exact⟨ho _ d,z,ne,k _ _ (.inl rfl) e,mA,⟨od,es,ep,k _ _ (.inr d) e2,c⟩,r⟩
 | own y=>obtain⟨ob,e⟩:=x;exact⟨ob,k _ _ (.inl rfl) e⟩
 | xd fs=>obtain⟨mA,⟨od,es,ep,e,c⟩,r⟩:=x;exact⟨mA,⟨od,es,ep,k _ _ (.inl rfl) e,c⟩,r⟩
 | rng lo hi=>obtain⟨t,u,v,e⟩:=x;exact⟨t,u,v,k _ _ (.inl rfl) e⟩
 | frz ob u ih=>obtain⟨e,q⟩:=x;exact⟨k _ _ (.inl rfl) e,ih q⟩
 | tbl ps=>
  have e:h.get? a=some { cls:=.none,data:=.fields ps }:=x
  show h'.get? a=some { cls:=.none,data:=.fields ps }
  exact k a _ (.inl rfl) e
 | met f y=>
  have e:h.get? a=some (PySem.W.methodObj (.ref f) (.ref y)):=x
  show h'.get? a=some (PySem.W.methodObj (.ref f) (.ref y))
  exact k a _ (.inl rfl) e
 | ext φ=>obtain⟨p,⟨o,e⟩,st⟩:=x;exact⟨st _ _ p λo q=>k _ _ (.inl rfl) q,⟨o,k _ _ (.inl rfl) e⟩,st⟩
theorem HOk.lt(x:HOk P w H h)(e:H a=some o):a<h.objs.size:=(x a o e).lt
theorem HOk.fresh(x:HOk P w H h)(e:h.objs.size≤a):H a=none:=by
 cases q:H a with
 | none=>rfl
 | some u=>exact absurd (zN (x.lt q) e) (zO _)
theorem HOk.kept(x:HOk P w H h)(k:∀b u,h.get? b=some u->h'.get? b=some u):HOk P w H h':=λa o e=>
 (x a o e).stay (λb u _ q=>k b u q) (λ_ q=>q) λ_ _ q=>q
theorem HOk.laid(x:HOk P w H h)(k:∀b u,h.get? b=some u->h'.get? b=some u)(hp:h.objs.size≤a)(new:ObjOk P w (upd H a o) h' a o):HOk P w (upd H a o) h':=λb u e=>by
 have hn:=x.fresh hp
 by_cases hb:b=a
 ·subst hb;rw[Zb2]at e;cases e;exact new
 ·rw[Zb3 hb]at e
  exact(x b u e).stay (λc v _ q=>k c v q) (λc q=>by rw[Zb3 (Zdl q hn)];exact q) λc xs q=>by rw[Zb3 (Zdl q hn)];exact q
end
def Rd(H:Hp)(a:Addr)(u:HO):Prop:=H a=some u\/∃o,H a=some (.frz o u)
theorem Rd.of{H:Hp}{a:Addr}{u:HO}(h:H a=some u):Rd H a u:=.inl h
theorem Rd.ok{P:Program}{w:World}{H:Hp}{h:Heap}{a:Addr}{u:HO}(r:Rd H a u)(x:HOk P w H h):ObjOk P w H h a u:=by
 rcases r with r|⟨o,r⟩
 ·exact x a u r
 ·obtain⟨_,q⟩:=x a _ r
  exact q
def Mut:Option HO->Prop
 | some (.lst _)=>True
 | some (.dK _)=>True
 | some (.dT _)=>True
 | some (.set _ _)=>True
 | some (.ins _ _ _)=>True
 | some (.ext _)=>True
 | _=>False
section
variable {P:Program}{w:World}{H:Hp}{h h':Heap}{x e:Addr}{o':HO}
theorem HOk.write(ok:HOk P w H h)(mu:Mut (H x))(he:e=x\/H e=some (.own x))(k:∀b u,b≠e->h.get? b=some u->h'.get? b=some u)(heo:∃u,h'.get? e=some u) 
  (new:ObjOk P w (upd H x o') h' x o'):HOk P w (upd H x o') h':=λb u q=>by
 have nown:∀c y,H c=some (.own y)->c≠x:=λc y r z=>by subst z;rw[r]at mu;exact mu
 have ntup:∀c xs,H c=some (.tup xs)->c≠x:=λc xs r z=>by subst z;rw[r]at mu;exact mu
 by_cases hb:b=x
 ·subst hb;rw[Zb2]at q;cases q;exact new
 ·rw[Zb3 hb]at q
  by_cases hbe:b=e
  ·have q':H b=some (.own x):=by
    rcases he with z|z
    ·exact absurd (hbe.trans z) hb
    ·rw[hbe];exact z
   rw[q]at q';cases q'
   obtain⟨v,hv⟩:=heo
   exact⟨v,by rw[hbe];exact hv⟩
  ·refine(ok b u q).stay (λc v hc r=>k c v ?_ r) (λc r=>by rw[Zb3 (nown c b r)];exact r) λc xs r=>by rw[Zb3 (ntup c xs r)];exact r
   rcases hc with rfl|hc
   ·exact hbe
   ·rintro rfl
    rcases he with z|z
    ·exact nown c b hc z
    ·rw[hc]at z;cases z;exact hb rfl
end
structure Un(fs ex:List Addr)(H H':Hp)(h h':Heap):Prop where
 keep:∀b o,h.get? b=some o->H b=none->b ∉ fs->b ∉ ex->h'.get? b=some o
 slot:∀b o,h.get? b=some o->H b=none->b∈fs->b ∉ ex->∃sl,h'.get? b=some { o with slots:=sl }
 free:∀b o,h.get? b=some o->H b=none->b ∉ ex->H' b=none
 there:∀b o,h.get? b=some o->b ∉ ex->∃o',h'.get? b=some o'
 tups:∀b xs,H b=some (.tup xs)->H' b=some (.tup xs)
 frzs:∀b o u,H b=some (.frz o u)->H' b=some (.frz o u)
 tbls:∀b ps,H b=some (.tbl ps)->∃more,H' b=some (.tbl (ps++more))
section
variable {fs fs' ex ex':List Addr}{H H1 H2:Hp}{h h1 h2 h':Heap}{a x e:Addr}{o:HO}
theorem Un.any(u:Un fs ex H H1 h h1){b:Addr}{ob:Obj}(q:h.get? b=some ob)(n:H b=none)(hx:b ∉ ex):∃sl,h1.get? b=some { ob with slots:=sl }:=by
 by_cases hb:b∈fs
 ·exact u.slot b ob q n hb hx
 ·exact⟨ob.slots,u.keep b ob q n hb hx⟩
theorem Un.trans(a:Un fs ex H H1 h h1)(b:Un fs ex H1 H2 h1 h2):Un fs ex H H2 h h2 where
 keep:=λc ob q n hc hx=>b.keep c ob (a.keep c ob q n hc hx) (a.free c ob q n hx) hc hx
 slot:=λc ob q n hc hx=>by
  obtain⟨sl,e1⟩:=a.slot c ob q n hc hx
  obtain⟨sl',e2⟩:=b.slot c _ e1 (a.free c ob q n hx) hc hx
  exact⟨sl',e2⟩
 free:=λc ob q n hx=>by
  obtain⟨o',e1⟩:=a.there c ob q hx
  exact b.free c o' e1 (a.free c ob q n hx) hx
 there:=λc ob q hx=>by
  obtain⟨o',e1⟩:=a.there c ob q hx
  exact b.there c o' e1 hx
 tups:=λc xs q=>b.tups c xs (a.tups c xs q)
 frzs:=λc ob xs q=>b.frzs c ob xs (a.frzs c ob xs q)
 tbls:=λc ps q=>by
  obtain⟨m1,e1⟩:=a.tbls c ps q
  obtain⟨m2,e2⟩:=b.tbls c _ e1
  exact⟨m1++m2,by rw[e2,Array.append_assoc]⟩
theorem Un.kept(k:∀b u,h.get? b=some u->h'.get? b=some u):Un fs ex H H h h':=
 ⟨λb ob q _ _ _=>k b ob q,λb ob q _ _ _=>⟨ob.slots,k b ob q⟩,λ_ _ _ n _=>n,λb ob q _=>⟨ob,k b ob q⟩,λ_ _ q=>q,λ_ _ _ q=>q,λ_ ps q=>⟨#[],by rw[q];simp⟩⟩
theorem Un.refl:Un fs ex H H h h:=Un.kept λ_ _ q=>q
theorem Un.laid(k:∀b u,h.get? b=some u->h'.get? b=some u)(hp:h.objs.size≤a)(hn:H a=none):Un fs ex H (upd H a o) h h' where
 keep:=λb u q _ _ _=>k b u q
 slot:=λb u q _ _ _=>⟨u.slots,k b u q⟩
 free:=λb u q n _=>by rw[Zb3 (zP (zN (zM q) hp))];exact n
 there:=λb u q _=>⟨u,k b u q⟩
 tups:=λb xs q=>by rw[Zb3 (Zdl q hn)];exact q
 frzs:=λb u xs q=>by rw[Zb3 (Zdl q hn)];exact q
 tbls:=λb ps q=>⟨#[],by rw[Zb3 (Zdl q hn),q];simp⟩
theorem Un.write(mu:Mut (H x))(he:e=x\/H e=some (.own x))(k:∀b u,b≠e->h.get? b=some u->h'.get? b=some u)(heo:∃u,h'.get? e=some u):Un fs ex H (upd H x o) h h':=by
 have hx:∀b,H b=none->b≠x:=λb n z=>by subst z;rw[n]at mu;exact mu
 have hb:∀b,H b=none->b≠e:=λb n z=>by
  subst z
  rcases he with r|r
  ·exact hx b n r
  ·rw[n]at r;cases r
 have hm:∀b u,H b=some u->¬Mut (some u)->b≠x:=λb u q nm z=>by subst z;rw[q]at mu;exact nm mu
 refine⟨λb u q n _ _=>k b u (hb b n) q,λb u q n _ _=>⟨u.slots,k b u (hb b n) q⟩,λb u q n _=>by rw[Zb3 (hx b n)];exact n,λb u q _=>?_,
  λb xs q=>by rw[Zb3 (hm b _ q λz=>z)];exact q,λb u xs q=>by rw[Zb3 (hm b _ q λz=>z)];exact q,λb ps q=>⟨#[],by rw[Zb3 (hm b _ q λz=>z),q];simp⟩⟩
 by_cases hbe:b=e
 ·subst hbe;exact heo
 ·exact⟨u,k b u hbe q⟩
end
def trk(h:Heap)(H:Hp):List Addr:=(List.range h.objs.size).filter λa=>(H a).isSome
def hidT(h:Heap)(H:Hp):Heap:=PySem.W.hideAll h (trk h H)
theorem Zpa(h:Heap)(H:Hp):(hidT h H).objs.size=h.objs.size:=PySem.W.hideAll_size _ _
theorem Zr1{h:Heap}{H:Hp}{b:Addr}{o:Obj}(e:h.get? b=some o)(n:H b=none):(hidT h H).get? b=some o:=
 PySem.W.hideAll_get _ e λhm=>by
  have q:(H b).isSome=true:=(List.mem_filter.mp hm).2
  rw[n]at q;simp at q
theorem Zth{h:Heap}{H:Hp}{b:Addr}{o:Obj}(e:(hidT h H).get? b=some o):h.get? b=some o/\H b=none:=by
 have e':h.get? b=some o:=PySem.W.of_hideAll (trk h H) e
 refine⟨e',?_⟩
 cases q:H b with
 | none=>rfl
 | some x=>
  have hm:b∈trk h H:=List.mem_filter.mpr ⟨zQ.mpr (zM e'),by simp[q]⟩
  have z:(hidT h H).get? b=none:=PySem.W.hideAll_none (trk h H) hm
  rw[z]at e;cases e
def allNews(g h:Heap)(L:Addr):List (Addr×Obj):=(List.range h.objs.size).filterMap λa=>if a=L\/(g.get? a).isSome=true then none else(h.get? a).map λo=>(a,o)
def rest(g h:Heap)(L d:Addr):List (Addr×Obj):=(allNews g h L).filter λp=>decide (p.1≠d)
structure Mod(K:Frag)(mg:Str->Option Value)(base:Heap):Prop where
 kin:K.In base
 glob:base.Ns mainGlobals mg
 blt:∃mb,base.Ns builtinsNs mb/\∀x:Str,x≠"__name__"->mb x=bootBuiltins x
 nolimit:base.NoLimit
structure Cx where
 prog:Program
 w:World
 K:Frag
 mg:Str->Option Value
 base:Heap
 A:Around
 N:List Str
 s₀:Shared
 H₀:Hp
 env:Env
 outer:List Env
 stack:List Env
 ex:List Addr
 fn:Str->Bool
 calm:Bool
 pn:List (Addr×Obj)
 xe:Value->Shared->Prop
def frs(l:List Env):List Addr:=l.filterMap (·.frame)
abbrev Cx.fs(X:Cx):List Addr:=frs X.outer
def Vis(sc:Scope)(x:Str):Prop:=sc.names.lookup x=some .local \/ sc.names.lookup x=some .cell\/sc.names.lookup x=some .free
def Loc(sc:Scope)(x:Str):Prop:=sc.names.lookup x=some .local \/ sc.names.lookup x=some .cell
def Look(env:Env)(h:Heap)(m:Str->Option Value)(x:Str)(u:Value):Prop:=
 (env.kindOf x=some .local/\m x=some u)\/((env.kindOf x=some .cell\/env.kindOf x=some .free)/\∃c,env.cells.lookup x=some c/\h.IsCell c (some u))
structure Cx.Ok(X:Cx):Prop where
 mod:Mod X.K X.mg X.base
 kind:X.env.scope.kind=.function
 glob:X.env.globals=mainGlobals
 blt:X.env.builtins=builtinsNs
 above:X.s₀.heap.objs.size≤X.env.locals
 inj:∀x y c,X.env.cells.lookup x=some c->X.env.cells.lookup y=some c->x=y
 has:∀x,(X.env.kindOf x=some .cell\/X.env.kindOf x=some .free)->∃c,X.env.cells.lookup x=some c
 cab:∀x c,X.fn x=true->X.env.cells.lookup x=some c->X.s₀.heap.objs.size≤c
 hd:X.calm=true->X.A.handled=none
 frames:X.A.frames=some X.stack
 stk:X.stack=X.outer\/(X.stack=X.env::X.outer/\X.env.frame=some X.env.locals)
 exf:∀b∈X.ex,b≠X.env.locals/\∀x c,X.env.cells.lookup x=some c->c≠b
 bs:∀b o,X.base.get? b=some o->X.s₀.heap.get? b=some o/\X.H₀ b=none
 bsz:X.base.objs.size≤X.s₀.heap.objs.size
 noex:∀b o,X.base.get? b=some o->b ∉ X.ex
 exfs:∀b∈X.ex,b ∉ X.fs
 funs:X.s₀.heap.FunFrames X.base X.outer
 frf:∀b∈X.fs,X.H₀ b=none
structure Inv(X:Cx)(pins:List (Addr×Obj))(σ:List (Option V))(H:Hp)(s:Shared):Prop where
 ok:X.Ok
 os:s.os=X.s₀.os
 bare:AllBare s.gens
 base:Un X.fs X.ex X.H₀ H X.s₀.heap s.heap
 loc:∃m,s.heap.Ns X.env.locals m/\∀(i:Nat) (x:Str) (v:V),X.N[i]? = some x->σ[i]? = some (some v)->Vis X.env.scope x->∃u,RelV v u/\Look X.env s.heap m x u
 cell:∀x c,X.env.cells.lookup x=some c->∃v,s.heap.IsCell c v
 free:H X.env.locals=none
 freeC:∀x c,X.env.cells.lookup x=some c->H c=none
 pin:∀p∈X.pn++pins,s.heap.get? p.1=some p.2/\H p.1=none/\p.1≠X.env.locals/\p.1 ∉ X.fs/\∀v,p.2.data≠.cell v
 hok:HOk X.prog X.w H s.heap
 len:σ.length=X.N.length
section
variable {X:Cx}{pins:List (Addr×Obj)}{σ:List (Option V)}{H H':Hp}{s:Shared}{h':Heap}
theorem Cx.Ok.nofr(ok:X.Ok){b:Addr}{o:Obj}(e:X.base.get? b=some o):b ∉ X.fs:=λhb=>by
 have:=(ok.funs.mem hb).1
 rw[e]at this;cases this
theorem Inv.bs(I:Inv X pins σ H s):∀b o,X.base.get? b=some o->s.heap.get? b=some o/\H b=none:=λb o e=>
 ⟨I.base.keep b o (I.ok.bs b o e).1 (I.ok.bs b o e).2 (I.ok.nofr e) (I.ok.noex b o e),I.base.free b o (I.ok.bs b o e).1 (I.ok.bs b o e).2 (I.ok.noex b o e)⟩
theorem Inv.bk(I:Inv X pins σ H s):∀b o,X.base.get? b=some o->s.heap.get? b=some o:=λb o e=>(I.bs b o e).1
theorem Inv.mod(I:Inv X pins σ H s):Mod X.K X.mg X.base:=I.ok.mod
theorem Inv.kIn(I:Inv X pins σ H s):X.K.In s.heap:=I.ok.mod.kin.keeps I.bk
theorem Inv.nolimit(I:Inv X pins σ H s):s.heap.NoLimit:=I.ok.mod.nolimit.keeps I.bk
theorem Inv.lt(I:Inv X pins σ H s):X.env.locals<s.heap.objs.size:=let ⟨_,hn,_⟩:=I.loc;hn.lt
theorem Inv.sz(I:Inv X pins σ H s):X.s₀.heap.objs.size≤s.heap.objs.size:=zR I.ok.above (le_of_lt I.lt)
theorem Inv.nofs(I:Inv X pins σ H s){a:Addr}(h:s.heap.objs.size≤a):a ∉ X.fs:=λhb=>by
 obtain⟨_,o,ho,_⟩:=I.ok.funs.mem hb
 exact absurd (zN (zM ho) (zR I.sz h)) (zO _)
theorem Inv.cne(I:Inv X pins σ H s):∀x c,X.env.cells.lookup x=some c->c≠X.env.locals:=λx c e z=>by
 obtain⟨v,o,ho,hd⟩:=I.cell x c e
 obtain⟨m,⟨o',es,ep,ho',hd',_⟩,_⟩:=I.loc
 rw[z,ho']at ho;cases ho;rw[hd']at hd;cases hd
theorem Inv.funs(I:Inv X pins σ H s):s.heap.FunFrames X.base X.outer:=by
 have all:∀(l:List Env),(∀b∈frs l,b∈X.fs)->X.s₀.heap.FunFrames X.base l->s.heap.FunFrames X.base l:=by
  intro l
  induction l with
  | nil=>intro _ _;trivial
  | cons env r ih=>
   intro hs hl
   obtain⟨hk,⟨L,o,hf,hn,ho,hd⟩,hr⟩:=hl
   have hL:L∈X.fs:=hs L (by unfold frs;rw[zS,hf];exact zT)
   obtain⟨sl,e⟩:=I.base.slot L o ho (I.ok.frf L hL) hL λz=>I.ok.exfs L z hL
   exact⟨hk,⟨L,_,hf,hn,e,hd⟩,ih (λb hb=>hs b (by unfold frs;rw[zS,hf];exact zU _ hb)) hr⟩
 exact all X.outer (λ_ hb=>hb) I.ok.funs
theorem Inv.stack(I:Inv X pins σ H s):s.heap.FunFrames X.base X.stack:=by
 rcases I.ok.stk with e|⟨e,hf⟩
 ·rw[e];exact I.funs
 ·rw[e]
  obtain⟨m,hn,_⟩:=I.loc
  refine .cons (by rw[I.ok.kind];decide) hf hn ?_ I.funs
  exact Heap.get?_none_of_le (zR I.ok.bsz I.ok.above)
theorem Inv.stkSub(I:Inv X pins σ H s):∀b∈frs X.stack,b∈X.env.locals::X.fs:=λb hb=>by
 rcases I.ok.stk with e|⟨e,hf⟩
 ·rw[e]at hb;exact zU _ hb
 ·rw[e]at hb
  unfold frs at hb
  rw[zS,hf]at hb
  exact hb
theorem Inv.stkFree(I:Inv X pins σ H s):∀b∈frs X.stack,H b=none:=λb hb=>by
 rcases zV.mp (I.stkSub b hb) with e|hb
 ·rw[e];exact I.free
 ·obtain⟨_,o,ho,_⟩:=I.ok.funs.mem hb
  exact I.base.free b o ho (I.ok.frf b hb) λz=>I.ok.exfs b z hb
theorem Inv.step{g':Array GenState}{t':Nat}{d':Drawn}{ch:List Addr}(I:Inv X pins σ H s) 
  (hch:∀b∈ch,(b∈X.ex\/X.s₀.heap.objs.size≤b)/\b≠X.env.locals/\(∀x c,X.env.cells.lookup x=some c->c≠b)/\∀p∈X.pn++pins,p.1≠b)
  (keep:∀b o,b≠X.env.locals->b ∉ X.fs->b ∉ ch->s.heap.get? b=some o->H b=none->h'.get? b=some o)
  (slot:∀b o,b≠X.env.locals->b∈X.fs->b ∉ ch->s.heap.get? b=some o->H b=none->∃sl,h'.get? b=some { o with slots:=sl }) (free:∀b o,b ∉ ch->s.heap.get? b=some o->H b=none->H' b=none)
  (there:∀b o,b ∉ ch->s.heap.get? b=some o->∃o',h'.get? b=some o')
  (tups:∀b xs,H b=some (.tup xs)->H' b=some (.tup xs)) (frzs:∀b o u,H b=some (.frz o u)->H' b=some (.frz o u)) (tbls:∀b ps,H b=some (.tbl ps)->∃more,H' b=some (.tbl (ps++more)))
  (ns:∀m,s.heap.Ns X.env.locals m->h'.Ns X.env.locals m) (hok:HOk X.prog X.w H' h') (hg:AllBare g') :
  Inv X pins σ H' { s with heap:=h',gens:=g',drawn:=d',toks:=t' }:=by
 have neL:∀b o,X.s₀.heap.get? b=some o->b≠X.env.locals:=λb o e=>zP (zN (zM e) I.ok.above)
 have neC:∀b o,X.s₀.heap.get? b=some o->b ∉ X.ex->b ∉ ch:=λb o e hx hb=>by
  rcases(hch b hb).1 with z|z
  ·exact hx z
  ·exact absurd (zN (zM e) z) (zO _)
 have cellK:∀x c,X.env.cells.lookup x=some c->∀v,s.heap.IsCell c v->h'.IsCell c v:=λx c e v ⟨o,ho,hd⟩=>by
  have nch:c ∉ ch:=λz=>(hch c z).2.2.1 x c e rfl
  by_cases hc:c∈X.fs
  ·obtain⟨sl,q⟩:=slot c o (I.cne x c e) hc nch ho (I.freeC x c e)
   exact⟨_,q,hd⟩
  ·exact⟨o,keep c o (I.cne x c e) hc nch ho (I.freeC x c e),hd⟩
 refine⟨I.ok,I.os,hg,⟨λb o e n hb hx=>?_,λb o e n hb hx=>?_,λb o e n hx=>?_,λb o e hx=>?_,λb xs e=>tups b xs (I.base.tups b xs e),λb o xs e=>frzs b o xs (I.base.frzs b o xs e),λb ps e=>?_⟩,?_,λx c e=>?_,?_,λx c e=>?_,λp hp=>?_,hok,I.len⟩
 ·exact keep b o (neL b o e) hb (neC b o e hx) (I.base.keep b o e n hb hx) (I.base.free b o e n hx)
 ·obtain⟨sl,e1⟩:=I.base.slot b o e n hb hx
  obtain⟨sl',e2⟩:=slot b _ (neL b o e) hb (neC b o e hx) e1 (I.base.free b o e n hx)
  exact⟨sl',e2⟩
 ·obtain⟨o',e1⟩:=I.base.there b o e hx
  exact free b o' (neC b o e hx) e1 (I.base.free b o e n hx)
 ·obtain⟨o',e1⟩:=I.base.there b o e hx
  exact there b o' (neC b o e hx) e1
 ·obtain⟨m1,e1⟩:=I.base.tbls b ps e
  obtain⟨m2,e2⟩:=tbls b _ e1
  exact⟨m1++m2,by rw[e2,Array.append_assoc]⟩
 ·obtain⟨m,hn,hl⟩:=I.loc
  refine⟨m,ns m hn,λi x v e1 e2 e3=>?_⟩
  obtain⟨u,r,l⟩:=hl i x v e1 e2 e3
  refine⟨u,r,?_⟩
  rcases l with l|⟨k,c,e,z⟩
  ·exact .inl l
  ·exact .inr ⟨k,c,e,cellK x c e _ z⟩
 ·obtain⟨v,z⟩:=I.cell x c e
  exact⟨v,cellK x c e v z⟩
 ·obtain⟨m,⟨o,_,_,ho,_⟩,_⟩:=I.loc
  exact free _ o (λz=>(hch _ z).2.1 rfl) ho I.free
 ·obtain⟨v,o,ho,hd⟩:=I.cell x c e
  exact free c o (λz=>(hch c z).2.2.1 x c e rfl) ho (I.freeC x c e)
 ·obtain⟨e,n,ne,nf,d⟩:=I.pin p hp
  have nch:p.1 ∉ ch:=λz=>(hch p.1 z).2.2.2 p hp rfl
  exact⟨keep p.1 p.2 ne nf nch e n,free p.1 p.2 nch e n,ne,nf,d⟩
theorem Inv.un{t':Nat}(I:Inv X pins σ H s)(u:Un X.fs [] H H' s.heap h')(hok:HOk X.prog X.w H' h'):Inv X pins σ H' { s with heap:=h',toks:=t' }:=by
 obtain⟨m,⟨o,es,ep,ho,r⟩,_⟩:=id I.loc
 obtain⟨sl,hL⟩:=u.any ho I.free (by simp)
 exact I.step (g':=s.gens) (d':=s.drawn) (ch:=[]) (λ_ z=>nomatch z) (λb o _ hb _ e n=>u.keep b o e n hb (by simp)) (λb o _ hb _ e n=>u.slot b o e n hb (by simp)) (λb o _ e n=>u.free b o e n (by simp)) (λb o _ e=>u.there b o e (by simp)) u.tups u.frzs u.tbls (λm' hm=>by
  obtain⟨o',es',ep',ho',r'⟩:=hm
  rw[ho]at ho';cases ho'
  exact⟨_,es',ep',hL,r'⟩) hok I.bare
theorem Inv.call{g':Array GenState}{t':Nat}{d':Drawn}{ch:List Addr}(I:Inv X pins σ H s)(u:Un (frs X.stack) ch H H' s.heap h')(hok:HOk X.prog X.w H' h')(hg:AllBare g') 
  (hch:∀b∈ch,(b∈X.ex\/X.s₀.heap.objs.size≤b)/\b≠X.env.locals/\(∀x c,X.env.cells.lookup x=some c->c≠b)/\∀p∈X.pn++pins,p.1≠b) :
  Inv X pins σ H' { s with heap:=h',gens:=g',drawn:=d',toks:=t' }:=by
 obtain⟨m,⟨o,es,ep,ho,r⟩,_⟩:=id I.loc
 obtain⟨sl,hL⟩:=u.any ho I.free λz=>(hch _ z).2.1 rfl
 exact I.step (ch:=ch) hch (λb o hL hb hc e n=>u.keep b o e n (λz=>(zV.mp (I.stkSub b z)).elim hL hb) hc) (λb o _ _ hc e n=>u.any e n hc) (λb o hc e n=>u.free b o e n hc) (λb o hc e=>u.there b o e hc) u.tups u.frzs u.tbls (λm' hm=>by
  obtain⟨o',es',ep',ho',r'⟩:=hm
  rw[ho]at ho';cases ho'
  exact⟨_,es',ep',hL,r'⟩) hok hg
theorem Inv.turned{t':Nat}{it:Addr}(I:Inv X pins σ H s)(k:∀b o,b≠it->s.heap.get? b=some o->h'.get? b=some o)(hn:H it=none)(hL:it≠X.env.locals) 
  (h1:it∈X.ex\/X.s₀.heap.objs.size≤it) (h2:∀x c,X.env.cells.lookup x=some c->c≠it) (h3:∀p∈X.pn++pins,p.1≠it):Inv X pins σ H { s with heap:=h',toks:=t' }:=by
 have nit:∀b u,H b=some u->b≠it:=λb u e z=>by rw[z,hn]at e;cases e
 refine I.step (g':=s.gens) (d':=s.drawn) (ch:=[it]) (λb hb=>?_) (λb o _ _ hc e _=>k b o (λz=>hc (by simp[z])) e) (λb o _ _ hc e _=>⟨o.slots,k b o (λz=>hc (by simp[z])) e⟩) (λ_ _ _ _ n=>n)
  (λb o hc e=>⟨o,k b o (λz=>hc (by simp[z])) e⟩) (λ_ _ e=>e) (λ_ _ _ e=>e) (λb ps e=>⟨#[],by rw[e];simp⟩) (λm hm=>?_) (λb u e=>?_) I.bare
 ·have e:b=it:=by simpa using hb
  subst e
  exact⟨h1,hL,h2,h3⟩
 ·obtain⟨o,es,ep,ho,r⟩:=hm
  exact⟨o,es,ep,k _ o (zW hL) ho,r⟩
 ·refine(I.hok b u e).stay (λc v hc q=>k c v ?_ q) (λ_ q=>q) λ_ _ q=>q
  rcases hc with z|z
  ·rw[z];exact nit b u e
  ·exact nit c _ z
theorem Inv.tok(I:Inv X pins σ H s)(t:Nat):Inv X pins σ H { s with toks:=t }:=I.un (h':=s.heap) (t':=t) Un.refl I.hok
theorem Inv.kept{t':Nat}(I:Inv X pins σ H s)(k:∀b u,s.heap.get? b=some u->h'.get? b=some u):Inv X pins σ H { s with heap:=h',toks:=t' }:=I.un (Un.kept k) (I.hok.kept k)
theorem Inv.laid{a:Addr}{o:HO}{t':Nat}(I:Inv X pins σ H s)(k:∀b u,s.heap.get? b=some u->h'.get? b=some u)(hp:s.heap.objs.size≤a)(new:ObjOk X.prog X.w (upd H a o) h' a o):
  Inv X pins σ (upd H a o) { s with heap:=h',toks:=t' }:=I.un (Un.laid k hp (I.hok.fresh hp)) (I.hok.laid k hp new)
theorem Inv.write{x e:Addr}{o:HO}{t':Nat}(I:Inv X pins σ H s)(mu:Mut (H x))(he:e=x\/H e=some (.own x))(k:∀b u,b≠e->s.heap.get? b=some u->h'.get? b=some u)(heo:∃u,h'.get? e=some u) 
  (new:ObjOk X.prog X.w (upd H x o) h' x o):Inv X pins σ (upd H x o) { s with heap:=h',toks:=t' }:=I.un (Un.write mu he k heo) (I.hok.write mu he k heo new)
theorem Inv.pins_of{pins':List (Addr×Obj)}(I:Inv X pins σ H s)(h:∀p∈pins',s.heap.get? p.1=some p.2/\H p.1=none/\p.1≠X.env.locals/\p.1 ∉ X.fs/\∀v,p.2.data≠.cell v):Inv X pins' σ H s:=
 ⟨I.ok,I.os,I.bare,I.base,I.loc,I.cell,I.free,I.freeC,λp hp=>(zX.mp hp).elim (λz=>I.pin p (zY _ z)) (h p),I.hok,I.len⟩
theorem Zn9{N:List Str}(hN:N.Nodup){i j:Nat}{x:Str}(a:N[i]? = some x)(b:N[j]? = some x):i=j:=by
 obtain⟨h1,e1⟩:=zZ.mp a
 obtain⟨h2,e2⟩:=zZ.mp b
 exact(List.getElem_inj hN).mp (e1.trans e2.symm)
theorem Zli{M:Model}{A:Around}{E:Value->Shared->Prop}{i:Nat}{x:Str}{v:V}{u:Value}{Q:Unit->Shared->Prop}(I:Inv X pins σ H s)(hN:X.N.Nodup)(hi:X.N[i]? = some x)(hx:Loc X.env.scope x)(r:RelV v u) 
  (h:∀s',Inv X pins (σ.set i (some v)) H s'->(∃a,Heap.SameBut a s.heap s'.heap/\(a=X.env.locals\/X.env.cells.lookup x=some a))->Q () s') (hf:X.fn x=true\/X.env.scope.names.lookup x=some .local:=by first|exact .inl rfl|exact .inr rfl|assumption):wpAny M A (storeName X.env x u) Q E s:=by
 obtain⟨m,hn,hl⟩:=id I.loc
 have hcls:(X.env.scope.kind == .class||(X.env.scope.kind == .module&&X.env.locals != X.env.globals))=false:=by rw[I.ok.kind];rfl
 have hiσ:i<σ.length:=by rw[I.len];exact(zZ.mp hi).1
 have cne:=I.cne
 have tracked:∀{a:Addr}{h':Heap},(∃o,s.heap.get? a=some o/\H a=none)->Heap.SameBut a s.heap h'->HOk X.prog X.w H h':=λ{a h'} ha hs b ob e=>by
  obtain⟨_,_,hfree⟩:=ha
  refine(I.hok b ob e).stay (λc w' hc q=>(hs.2 c ?_).trans q) (λ_ q=>q) λ_ _ q=>q
  rintro rfl
  rcases hc with rfl|hc
  ·rw[hfree]at e;cases e
  ·rw[hfree]at hc;cases hc
 rcases hx with hk|hk
 ·refine wpAny_storeName_local hk hn (λh' hn' hs=>?_) hcls
  obtain⟨oL,_,_,hoL,_⟩:=id hn
  refine h _ ⟨I.ok,I.os,I.bare,⟨λb o e n hb hx=>?_,λb o e n hb hx=>?_,I.base.free,λb o e hx=>?_,I.base.tups,I.base.frzs,I.base.tbls⟩,⟨_,hn',λj y v' e1 e2 e3=>?_⟩,λy c e=>?_,I.free,I.freeC,λp hp=>?_,tracked ⟨oL,hoL,I.free⟩ hs,by simpa using I.len⟩ ⟨_,hs,.inl rfl⟩
  ·exact(hs.2 b (zP (zN (zM e) I.ok.above))).trans (I.base.keep b o e n hb hx)
  ·obtain⟨sl,e1⟩:=I.base.slot b o e n hb hx
   exact⟨sl,(hs.2 b (zP (zN (zM e) I.ok.above))).trans e1⟩
  ·obtain⟨o',e1⟩:=I.base.there b o e hx
   exact⟨o',(hs.2 b (zP (zN (zM e) I.ok.above))).trans e1⟩
  ·by_cases hj:j=i
   ·subst hj
    rw[hi]at e1;cases e1
    rw[wA hiσ]at e2
    cases e2
    exact⟨u,r,.inl ⟨hk,by simp⟩⟩
   ·rw[wB (zW hj)]at e2
    obtain⟨u',r',q⟩:=hl j y v' e1 e2 e3
    refine⟨u',r',?_⟩
    rcases q with ⟨k,e⟩|⟨k,c,e,z⟩
    ·refine .inl ⟨k,?_⟩
     have:y≠x:=λe=>hj (Zn9 hN e1 (e▸hi))
     simp[this,e]
    ·exact .inr ⟨k,c,e,z.sameBut hs (cne y c e)⟩
  ·obtain⟨w',z⟩:=I.cell y c e
   exact⟨w',z.sameBut hs (cne y c e)⟩
  ·obtain⟨e,n,ne,nf,d⟩:=I.pin p hp
   exact⟨(hs.2 p.1 ne).trans e,n,ne,nf,d⟩
 ·have hfn:X.fn x=true:=by
   rcases hf with z|z
   ·exact z
   ·rw[z]at hk;cases hk
  obtain⟨c,hc⟩:=I.ok.has x (.inl hk)
  obtain⟨w',z⟩:=I.cell x c hc
  refine wpAny_storeName_cell I.ok.kind hk hc z (λh' hc' hs=>?_)
  obtain⟨oc,hoc,hocd⟩:=id z
  refine h { s with heap:=h' } ⟨I.ok,I.os,I.bare,⟨λb o e n hb hx=>?_,λb o e n hb hx=>?_,I.base.free,λb o e hx=>?_,I.base.tups,I.base.frzs,I.base.tbls⟩,⟨m,hn.sameBut hs (zW (cne x c hc)),λj y v' e1 e2 e3=>?_⟩,λy c' e=>?_,I.free,I.freeC,λp hp=>?_,tracked ⟨oc,hoc,I.freeC x c hc⟩ hs,by simpa using I.len⟩ ⟨c,hs,.inr hc⟩
  ·exact(hs.2 b (zP (zN (zM e) (I.ok.cab x c hfn hc)))).trans (I.base.keep b o e n hb hx)
  ·obtain⟨sl,e1⟩:=I.base.slot b o e n hb hx
   exact⟨sl,(hs.2 b (zP (zN (zM e) (I.ok.cab x c hfn hc)))).trans e1⟩
  ·obtain⟨o',e1⟩:=I.base.there b o e hx
   exact⟨o',(hs.2 b (zP (zN (zM e) (I.ok.cab x c hfn hc)))).trans e1⟩
  ·by_cases hj:j=i
   ·subst hj
    rw[hi]at e1;cases e1
    rw[wA hiσ]at e2
    cases e2
    exact⟨u,r,.inr ⟨.inl hk,c,hc,hc'⟩⟩
   ·rw[wB (zW hj)]at e2
    obtain⟨u',r',q⟩:=hl j y v' e1 e2 e3
    refine⟨u',r',?_⟩
    rcases q with q|⟨k,c',e,z'⟩
    ·exact .inl q
    ·refine .inr ⟨k,c',e,z'.sameBut hs ?_⟩
     rintro rfl
     exact hj (Zn9 hN e1 (I.ok.inj _ _ _ e hc▸hi))
  ·by_cases hcc:c'=c
   ·subst hcc;exact⟨_,hc'⟩
   ·obtain⟨w2,z2⟩:=I.cell y c' e
    exact⟨w2,z2.sameBut hs hcc⟩
  ·obtain⟨e,n,ne,nf,d⟩:=I.pin p hp
   refine⟨(hs.2 p.1 ?_).trans e,n,ne,nf,d⟩
   intro q
   rw[q,hoc]at e
   have q':oc=p.2:=zK e
   exact d w' (by rw[<- q'];exact hocd)
theorem Zkd{M:Model}{A:Around}{E:Value->Shared->Prop}{i:Nat}{x:Str}{v:V}{u:Value}{Q:Unit->Shared->Prop}(I:Inv X pins σ H s)(hN:X.N.Nodup)(hi:X.N[i]? = some x)(hx:Loc X.env.scope x)(r:RelV v u) 
  (h:∀s',Inv X pins (σ.set i (some v)) H s'->Q () s') (hf:X.fn x=true\/X.env.scope.names.lookup x=some .local:=by first|exact .inl rfl|exact .inr rfl|assumption):wpAny M A (storeName X.env x u) Q E s:=
 Zli I hN hi hx r (λs' I' _=>h s' I') hf
theorem Inv.call'{s':Shared}{ch:List Addr}(I:Inv X pins σ H s)(ho:s'.os=s.os)(u:Un (frs X.stack) ch H H' s.heap s'.heap)(hok:HOk X.prog X.w H' s'.heap)(hg:AllBare s'.gens) 
  (hch:∀b∈ch,(b∈X.ex\/X.s₀.heap.objs.size≤b)/\b≠X.env.locals/\(∀x c,X.env.cells.lookup x=some c->c≠b)/\∀p∈X.pn++pins,p.1≠b):Inv X pins σ H' s':=by
 obtain⟨h',g',d',t',o'⟩:=s'
 have e:o'=s.os:=ho
 subst e
 exact I.call (g':=g') (t':=t') (d':=d') u hok hg hch
end
abbrev XK:=Value->Option Addr->Hp->Prop
abbrev St:=List (Option V)
abbrev VK:=V->Hp->Prop
abbrev TE:=St->Hp->VK->Prop
abbrev TT:=St->Hp->(Bool->Hp->Prop)->Prop
abbrev TA:=St->Hp->(List V->Hp->Prop)->Prop
structure Ends where
 nx:St->Hp->Prop
 rt:VK
 bk:St->Hp->Prop:=λ_ _=>False
 ct:St->Hp->Prop:=λ_ _=>False
abbrev TS:=Ends->St->Hp->Prop
def EP(X:Cx)(pins:List (Addr×Obj))(σ:St)(Q:VK)(u:Value)(s':Shared):Prop:=∃v H',Inv X pins σ H' s'/\RelV v u/\Q v H'
def TP(X:Cx)(pins:List (Addr×Obj))(σ:St)(Q:Bool->Hp->Prop)(b:Bool)(s':Shared):Prop:=∃H',Inv X pins σ H' s'/\Q b H'
def AP(X:Cx)(pins:List (Addr×Obj))(σ:St)(Q:List V->Hp->Prop)(us:List Value)(s':Shared):Prop:=∃vs H',Inv X pins σ H' s'/\Vals vs us/\Q vs H'
def SP(X:Cx)(pins:List (Addr×Obj))(D:Ends)(f:Flow)(s':Shared):Prop:=
 match f with
 | .next=>∃σ' H',Inv X pins σ' H' s'/\D.nx σ' H'
 | .brk=>∃σ' H',Inv X pins σ' H' s'/\D.bk σ' H'
 | .cont=>∃σ' H',Inv X pins σ' H' s'/\D.ct σ' H'
 | .ret u=>∃v σ' H',Inv X pins σ' H' s'/\RelV v u/\D.rt v H'
def PE(X:Cx)(e:Expr)(t:TE):Prop:=
 ∀(pins:List (Addr×Obj)) (s:Shared) (σ:St) (H:Hp) (Q:VK),Inv X pins σ H s->t σ H Q->wpAny (model X.prog X.w) X.A (eval e X.env) (EP X pins σ Q) X.xe s
def PT(X:Cx)(e:Expr)(t:TT):Prop:=
 ∀(pins:List (Addr×Obj)) (s:Shared) (σ:St) (H:Hp) (Q:Bool->Hp->Prop),Inv X pins σ H s->t σ H Q->wpAny (model X.prog X.w) X.A (isTrue e X.env (eval e X.env)) (TP X pins σ Q) X.xe s
def PW(X:Cx)(e:Expr)(t:TT):Prop:=
 ∀(whole:Sem Value) (pins:List (Addr×Obj)) (s:Shared) (σ:St) (H:Hp) (Q:Bool->Hp->Prop),Inv X pins σ H s->t σ H Q->wpAny (model X.prog X.w) X.A (isTrue e X.env whole) (TP X pins σ Q) X.xe s
theorem PW.pt{X:Cx}{e:Expr}{t:TT}(h:PW X e t):PT X e t:=h _
def PA(X:Cx)(es:List Expr)(t:TA):Prop:=
 ∀(pos:Pos) (pins:List (Addr×Obj)) (s:Shared) (σ:St) (H:Hp) (Q:List V->Hp->Prop),Inv X pins σ H s->t σ H Q->wpAny (model X.prog X.w) X.A (spliced (backTo pos (starEach es X.env))) (AP X pins σ Q) X.xe s
def PS(X:Cx)(st:Stmt)(t:TS):Prop:=
 ∀(pins:List (Addr×Obj)) (s:Shared) (σ:St) (H:Hp) (D:Ends),Inv X pins σ H s->t D σ H->wpAny (model X.prog X.w) X.A (exec st X.env) (SP X pins D) X.xe s
def PSs(X:Cx)(st:List Stmt)(t:TS):Prop:=
 ∀(pins:List (Addr×Obj)) (s:Shared) (σ:St) (H:Hp) (D:Ends),Inv X pins σ H s->t D σ H->wpAny (model X.prog X.w) X.A (execs st X.env) (SP X pins D) X.xe s
theorem thn{α:Type}{t:Sem α}{Q Q':α->Shared->Prop}{M:Model}{A:Around}{E:Value->Shared->Prop}{s:Shared}(h:wpAny M A t Q E s)(hQ:∀a s,Q a s->Q' a s):wpAny M A t Q' E s:=wC h hQ λ_ _ x=>x
section
variable {X:Cx}
def tVar(i:Nat):TE:=λσ H Q=>∃v,σ[i]? = some (some v)/\Q v H
def tC(v:V):TE:=λ_ H Q=>Q v H
theorem Zpy{i:Nat}{x:Str}{pos:Pos}(hN:X.N[i]? = some x)(hv:Vis X.env.scope x)(hd:(x == ("__debug__" : Str))=false:=by decide)(hcd:(x == ("__classdict__" : Str))=false:=by decide):PE X (.Name x pos) (tVar i):=by
 intro pins s σ H Q I h
 obtain⟨v,e,h⟩:=h
 obtain⟨m,hn,hl⟩:=I.loc
 obtain⟨u,r,l⟩:=hl i x v hN e hv
 have fin:EP X pins σ Q u s:=⟨v,H,I,r,h⟩
 rcases l with ⟨hk,hm⟩|⟨hk,c,hc,hcell⟩
 ·exact wpAny_Name (wpAny_loadName_local I.ok.kind hk hn hm fin) hd
 ·rcases hk with hk|hk
  ·exact wpAny_Name (wpAny_loadName_cell I.ok.kind hk hc hcell fin) hd
  ·exact wpAny_Name (wpAny_loadName_free I.ok.kind hk hc hcell fin hcd) hd
theorem Zv8{i j pos}:PE X (.Constant (.int i) j pos) (tC (.int i)):=λ_ _ _ H _ I h=>wpAny_Constant_int ⟨.int i,H,I.tok _,⟨_,rfl⟩,h⟩
theorem Zw9{b j pos}:PE X (.Constant (.bool b) j pos) (tC (.bl b)):=λ_ _ _ H _ I h=>Constant_bool ⟨.bl b,H,I,rfl,h⟩
theorem Zva{j pos}:PE X (.Constant .none j pos) (tC .non):=λ_ _ _ H _ I h=>Constant_none ⟨.non,H,I,rfl,h⟩
theorem Zvd{x j pos}:PE X (.Constant (.str x) j pos) (tC (.str x)):=λ_ _ _ H _ I h=>Calls.Constant_str ⟨.str x,H,I.tok _,⟨_,rfl⟩,h⟩
def Gl(X:Cx)(x:Str):Prop:=X.env.kindOf x=some .globalImplicit
theorem Zpl{E:Value->Shared->Prop}{pins:List (Addr×Obj)}{s:Shared}{σ:St}{H:Hp}{x:Str}{u:Value}{pos:Pos}{Q:Value->Shared->Prop}(I:Inv X pins σ H s)(hg:Gl X x)(hm:X.mg x=some u)(h:Q u s) 
  (hd:(x == ("__debug__" : Str))=false:=by decide):wpAny (model X.prog X.w) X.A (eval (.Name x pos) X.env) Q E s:=
 Calls.Name_function_global I.ok.kind hg (Calls.loadGlobal_global (by rw[I.ok.glob];exact I.mod.glob.keeps I.bk) hm h) hd
theorem Zjj{E:Value->Shared->Prop}{pins:List (Addr×Obj)}{s:Shared}{σ:St}{H:Hp}{x:Str}{u:Value}{pos:Pos}{Q:Value->Shared->Prop}(I:Inv X pins σ H s)(hg:Gl X x)(hm:X.mg x=none)(hv:bootBuiltins x=some u)(h:Q u s) 
  (hn:x≠"__name__":=by decide) (hd:(x == ("__debug__" : Str))=false:=by decide):wpAny (model X.prog X.w) X.A (eval (.Name x pos) X.env) Q E s:=by
 obtain⟨mb,h1,h2⟩:=I.mod.blt
 exact Calls.Name_function_global I.ok.kind hg (Calls.loadGlobal_builtin (by rw[I.ok.glob];exact I.mod.glob.keeps I.bk) hm (by rw[I.ok.blt];exact h1.keeps I.bk) ((h2 x hn).trans hv) h) hd
theorem Ztk{x:Str}{v:V}{u:Value}{pos:Pos}(hg:Gl X x)(hm:X.mg x=none)(hv:bootBuiltins x=some u)(r:RelV v u)(hn:x≠"__name__":=by decide)(hd:(x == ("__debug__" : Str))=false:=by decide):PE X (.Name x pos) (tC v):=
 λ_ _ _ H _ I h=>Zjj I hg hm hv ⟨v,H,I,r,h⟩ hn hd
variable {a b:Expr}{ta tb:TE}{pos:Pos}
def PC(X:Cx)(op:CmpOp)(a b:Expr)(t:TE):Prop:=
 ∀(pins:List (Addr×Obj)) (s:Shared) (σ:St) (H:Hp) (Q:VK),Inv X pins σ H s->t σ H Q ->
  wpAny (model X.prog X.w) X.A (eval a X.env) (λv s₁=>wpAny (model X.prog X.w) X.A (eval b X.env) (λu s₂=>wpAny (model X.prog X.w) X.A (compareOp op v u) (EP X pins σ Q) X.xe s₂) X.xe s₁) X.xe s
theorem nobehind(b:Expr){op:CmpOp}(h:op≠.In)(h2:op≠.NotIn):behindInMarks op b=false:=by
 have e1:(op == CmpOp.In)=false:=by cases op<;>first|rfl|exact absurd rfl h
 have e2:(op == CmpOp.NotIn)=false:=by cases op<;>first|rfl|exact absurd rfl h2
 cases b<;>simp[behindInMarks,e1,e2]
def tB(t:TE):TT:=λσ H Q=>t σ H λx H1=>∃c,x=.bl c/\Q c H1
theorem Zsq{op:CmpOp}{t:TE}(h:PC X op a b t)(h1:behindInMarks op b=false:=by first|exact nobehind _ (by decide) (by decide)|rfl):PT X (.Compare a [op] [b] pos) (tB t):=by
 intro pins s σ H Q I hw
 refine wpAny_isTrue_Compare1 (thn (h pins s σ H _ I hw) λv s1 h1=>thn h1 λu s2 h2=>thn h2 λc s3 ⟨x,H1,I1,r1,q1⟩=>?_) h1
 obtain⟨d,rfl,q⟩:=q1
 cases r1
 exact wD ⟨H1,I1,q⟩
theorem Zvq{e:Expr}{t:TE}(h:PE X e t)(he:∀whole,isTrue e X.env whole=(do let v <- whole;standAt e.pos;holding [v] (truthy v)):=by intro _;rfl):PT X e (tB t):=by
 intro pins s σ H Q I hw
 refine isTrue_plain (thn (h pins s σ H _ I hw) λv s1 ⟨x,H1,I1,r1,q1⟩=>?_) (he _)
 obtain⟨d,rfl,q⟩:=q1
 cases r1
 exact wD ⟨H1,I1,q⟩
variable {tA tB':TT}{rest:List Expr}
def tAnd(t u:TT):TT:=λσ H Q=>t σ H λc H1=>if c=true then u σ H1 Q else Q false H1
def tOr(t u:TT):TT:=λσ H Q=>t σ H λc H1=>if c=true then Q true H1 else u σ H1 Q
def tNot(t:TT):TT:=λσ H Q=>t σ H λc H1=>Q (!c) H1
theorem Zu3(ha:PT X a tA):PW X (.BoolOp .And [a] pos) tA:=by
 intro wh pins s σ H Q I h
 refine isTrue_and (thn (ha pins s σ H Q I h) λc s1 e=>?_)
 cases c with
 | true=>exact isTrue_and_nil e
 | false=>exact e
theorem Zvs(ha:PT X a tA):PW X (.BoolOp .Or [a] pos) tA:=by
 intro wh pins s σ H Q I h
 refine isTrue_or (thn (ha pins s σ H Q I h) λc s1 e=>?_)
 cases c with
 | false=>exact isTrue_or_nil e
 | true=>exact e
theorem Zvr(ha:PT X a tA)(hb:PW X (.BoolOp .And (b::rest) pos) tB'):PW X (.BoolOp .And (a::b::rest) pos) (tAnd tA tB'):=by
 intro wh pins s σ H Q I h
 refine isTrue_and (thn (ha pins s σ H _ I h) λc s1 ⟨H1,I1,q1⟩=>?_)
 cases c with
 | true=>exact hb wh pins s1 σ H1 Q I1 q1
 | false=>exact⟨H1,I1,q1⟩
theorem Zwf(ha:PT X a tA)(hb:PW X (.BoolOp .Or (b::rest) pos) tB'):PW X (.BoolOp .Or (a::b::rest) pos) (tOr tA tB'):=by
 intro wh pins s σ H Q I h
 refine isTrue_or (thn (ha pins s σ H _ I h) λc s1 ⟨H1,I1,q1⟩=>?_)
 cases c with
 | true=>exact⟨H1,I1,q1⟩
 | false=>exact hb wh pins s1 σ H1 Q I1 q1
theorem Zvp(ha:PT X a tA):PT X (.UnaryOp .Not a pos) (tNot tA):=by
 intro pins s σ H Q I h
 exact isTrue_not (ha pins s σ H (λc H1=>Q (!c) H1) I h)
def tAndV(ta tb:TE):TE:=λσ H Q=>ta σ H λx H1=>∃c,x=.bl c/\if c=true then tb σ H1 Q else Q (.bl false) H1
def tNotV(ta:TE):TE:=λσ H Q=>ta σ H λx H1=>∃c,x=.bl c/\Q (.bl (!c)) H1
theorem Zvc{op}{t:TE}(h:PE X a t):PE X (.BoolOp op [a] pos) t:=λpins s σ H Q I hw=>BoolOp_one (h pins s σ H Q I hw)
theorem Zv6(ha:PE X a ta)(hb:PE X (.BoolOp .And (b::rest) pos) tb):PE X (.BoolOp .And (a::b::rest) pos) (tAndV ta tb):=by
 intro pins s σ H Q I h
 refine BoolOp_and (thn (ha pins s σ H _ I h) λv s1 ⟨x,H1,I1,r1,q1⟩=>?_)
 obtain⟨c,rfl,q1⟩:=q1
 cases r1
 refine wD ?_
 cases c with
 | true=>exact hb pins s1 σ H1 Q I1 q1
 | false=>exact⟨.bl false,H1,I1,rfl,q1⟩
theorem Zvb(ha:PE X a ta):PE X (.UnaryOp .Not a pos) (tNotV ta):=by
 intro pins s σ H Q I h
 refine UnaryOp_ (thn (ha pins s σ H _ I h) λv s1 ⟨x,H1,I1,r1,q1⟩=>?_)
 obtain⟨c,rfl,q1⟩:=q1
 cases r1
 exact not_of (wD ⟨.bl (!c),H1,I1,rfl,q1⟩)
end
def SqL(K:Frag)(H:Hp)(a:Addr)(xs:List V):Prop:=
 Rd H a (.lst xs) \/
  ∃(o:Obj) (its:Array Value) (n:Nat),K.lookup a=some o/\o.cls=.type "list"/\o.dict=none/\o.data=.seq its n/\its.size≤sizeLine/\Vals xs its.toList
def SqT(K:Frag)(H:Hp)(a:Addr)(xs:List V):Prop:=
 Rd H a (.tup xs) \/
  ∃(o:Obj) (its:Array Value) (n:Nat),K.lookup a=some o/\o.cls=.type "tuple"/\o.data=.seq its n/\its.size≤sizeLine/\Vals xs its.toList
def absV:Value->Option V
 | .none=>some .non
 | .bool b=>some (.bl b)
 | .int i _=>some (.int i)
 | .str x _=>some (.str x)
 | .bytes b _=>some (.byt b)
 | .float b _=>some (.flt b)
 | .ref a=>some (.ref a)
 | .type n=>some (.ty n)
 | _=>none
theorem RelV.abs{x:V}{u:Value}(r:RelV x u):absV u=some x:=by
 cases x with
 | non=>cases r;rfl
 | bl _=>cases r;rfl
 | int _=>obtain⟨t,rfl⟩:=r;rfl
 | str _=>obtain⟨t,rfl⟩:=r;rfl
 | byt _=>obtain⟨t,rfl⟩:=r;rfl
 | flt _=>obtain⟨t,rfl⟩:=r;rfl
 | ref _=>cases r;rfl
 | ty _=>cases r;rfl
theorem RelV.inj{x y:V}{u:Value}(r:RelV x u)(q:RelV y u):x=y:=zK (r.abs.symm.trans q.abs)
theorem Vals.inj:∀{xs ys:List V}{us:List Value},Vals xs us->Vals ys us->xs=ys
 | _,_,_,.nil,.nil=>rfl
 | _,_,_,.cons r t,.cons r' t'=>by rw[r.inj r',Vals.inj t t']
section
variable {X:Cx}{pins:List (Addr×Obj)}{σ:St}{H:Hp}{s:Shared}{a:Addr}{xs ys:List V}
theorem SqL.of{K:Frag}(h:H a=some (.lst xs)):SqL K H a xs:=.inl (.inl h)
theorem SqT.of{K:Frag}(h:H a=some (.tup xs)):SqT K H a xs:=.inl (.inl h)
theorem Inv.list(I:Inv X pins σ H s)(h:SqL X.K H a xs):∃its:List Value,Vals xs its/\PlainL s.heap a its.toArray/\xs.length≤sizeLine:=by
 rcases h with h|⟨o,its,n,hk,hc,hd,hs,hz,r⟩
 ·obtain⟨z,its,n,r,e⟩:=h.ok I.hok
  exact⟨its,r,⟨_,n,e,rfl,rfl,rfl⟩,z⟩
 ·refine⟨its.toList,r,⟨o,n,I.kIn a o hk,hc,hd,by simpa using hs⟩,?_⟩
  have e:=r.length
  simp only[wE]at e
  omega
theorem Inv.tuple(I:Inv X pins σ H s)(h:SqT X.K H a xs):∃its:List Value,Vals xs its/\IsTup s.heap a its.toArray/\xs.length≤sizeLine:=by
 rcases h with h|⟨o,its,n,hk,hc,hs,hz,r⟩
 ·obtain⟨z,its,r,p⟩:=h.ok I.hok
  exact⟨its,r,p.tup,z⟩
 ·refine⟨its.toList,r,⟨o,I.kIn a o hk,hc,n,by simpa using hs⟩,?_⟩
  have e:=r.length
  simp only[wE]at e
  omega
theorem Inv.list_inj(I:Inv X pins σ H s)(h:SqL X.K H a xs)(h':SqL X.K H a ys):xs=ys:=by
 obtain⟨its,r,⟨o,n,e,_,_,d⟩,_⟩:=I.list h
 obtain⟨its',r',⟨o',n',e',_,_,d'⟩,_⟩:=I.list h'
 rw[e]at e';cases e'
 rw[d]at d'
 injection d' with d1 _
 have:its=its':=by simpa using wF Array.toList d1
 subst this
 exact r.inj r'
theorem Inv.tuple_inj(I:Inv X pins σ H s)(h:SqT X.K H a xs)(h':SqT X.K H a ys):xs=ys:=by
 obtain⟨its,r,⟨o,e,_,n,d⟩,_⟩:=I.tuple h
 obtain⟨its',r',⟨o',e',_,n',d'⟩,_⟩:=I.tuple h'
 rw[e]at e';cases e'
 rw[d]at d'
 injection d' with d1 _
 have:its=its':=by simpa using wF Array.toList d1
 subst this
 exact r.inj r'
end
abbrev Cx.wish(X:Cx)(E:Value->Shared->Prop):Cx:={ X with xe:=E }
abbrev Cx.nox(X:Cx):Cx:=X.wish λ_ _=>False
theorem Cx.Ok.wish{X:Cx}(ok:X.Ok)(E:Value->Shared->Prop):(X.wish E).Ok:=
 ⟨ok.mod,ok.kind,ok.glob,ok.blt,ok.above,ok.inj,ok.has,ok.cab,ok.hd,ok.frames,ok.stk,ok.exf,ok.bs,ok.bsz,ok.noex,ok.exfs,ok.funs,ok.frf⟩
theorem Cx.Ok.unwish{X:Cx}{E:Value->Shared->Prop}(ok:(X.wish E).Ok):X.Ok:=
 ⟨ok.mod,ok.kind,ok.glob,ok.blt,ok.above,ok.inj,ok.has,ok.cab,ok.hd,ok.frames,ok.stk,ok.exf,ok.bs,ok.bsz,ok.noex,ok.exfs,ok.funs,ok.frf⟩
section
variable {X:Cx}{pins:List (Addr×Obj)}{σ:St}{H:Hp}{s:Shared}{E:Value->Shared->Prop}
theorem Inv.wish(I:Inv X pins σ H s)(E:Value->Shared->Prop):Inv (X.wish E) pins σ H s:=⟨I.ok.wish E,I.os,I.bare,I.base,I.loc,I.cell,I.free,I.freeC,I.pin,I.hok,I.len⟩
theorem Inv.unwish(I:Inv (X.wish E) pins σ H s):Inv X pins σ H s:=⟨I.ok.unwish,I.os,I.bare,I.base,I.loc,I.cell,I.free,I.freeC,I.pin,I.hok,I.len⟩
theorem SP.unwish{D:Ends}{f:Flow}{s':Shared}(h:SP (X.wish E) pins D f s'):SP X pins D f s':=by
 cases f with
 | next=>obtain⟨σ',H',I,q⟩:=h;exact⟨σ',H',I.unwish,q⟩
 | brk=>obtain⟨σ',H',I,q⟩:=h;exact⟨σ',H',I.unwish,q⟩
 | cont=>obtain⟨σ',H',I,q⟩:=h;exact⟨σ',H',I.unwish,q⟩
 | ret u=>obtain⟨v,σ',H',I,r,q⟩:=h;exact⟨v,σ',H',I.unwish,r,q⟩
theorem PSs.nox{st:List Stmt}{t:TS}(h:PSs X.nox st t):PSs X st t:=λpins s σ H D I hw=>
 wC (h pins s σ H D (I.wish _) hw) (λ_ _ q=>q.unwish) λ_ _ z=>False.elim z
end
section
variable {X:Cx}{st:Stmt}{rest:List Stmt}{t u:TS}{e:Expr}{te:TE}{pos:Pos}
def tNext:TS:=λD σ H=>D.nx σ H
def tSeq(t u:TS):TS:=λD σ H=>t { D with nx:=u D } σ H
theorem Ztz:PSs X [] tNext:=λ_ _ σ H _ I h=>wG ⟨σ,H,I,h⟩
theorem Zrn(h1:PS X st t)(h2:PSs X rest u):PSs X (st::rest) (tSeq t u):=by
 intro pins s σ H D I h
 refine wpAny_execs_cons (thn (h1 pins s σ H { D with nx:=u D } I h) λf s1 q=>?_)
 cases f with
 | next=>
  obtain⟨σ',H',I',q⟩:=q
  exact h2 pins s1 σ' H' D I' q
 | ret v=>exact q
 | brk=>exact q
 | cont=>exact q
theorem Zu0(h1:PS X st t):PSs X [st] t:=by
 intro pins s σ H D I h
 refine wpAny_execs_cons (thn (h1 pins s σ H D I h) λf s1 q=>?_)
 cases f with
 | next=>exact wG q
 | ret v=>exact q
 | brk=>exact q
 | cont=>exact q
def tBreak:TS:=λD σ H=>D.bk σ H
theorem Zrl:PS X (.Break pos) tBreak:=λ_ _ σ H _ I h=>wpAny_Break ⟨σ,H,I,h⟩
theorem Inv.quiet{pins:List (Addr×Obj)}{σ:St}{H:Hp}{s:Shared}(I:Inv X pins σ H s):interactive X.env=false:=by simp[interactive,I.ok.kind]
def tDrop(te:TE):TS:=λD σ H=>te σ H λ_ H1=>D.nx σ H1
theorem Zty(he:PE X e te)(hs:swapsWith e none pos.line X.env=pure false:=by rfl):PS X (.Expr e pos) (tDrop te):=by
 intro pins s σ H D I h
 exact wpAny_Expr_any (thn (he pins s σ H _ I h) λv s1 ⟨x,H1,I1,r1,q1⟩=>⟨σ,H1,I1,q1⟩) I.quiet hs
def tRet(te:TE):TS:=λD σ H=>te σ H D.rt
theorem Zvn(he:PE X e te):PS X (.Return (some e) pos) (tRet te):=by
 intro pins s σ H D I h
 exact wpAny_Return_some (thn (he pins s σ H _ I h) λv s1 ⟨x,H1,I1,r1,q1⟩=>⟨x,σ,H1,I1,r1,q1⟩)
def tIfS(c:TT)(t u:TS):TS:=λD σ H=>c σ H λb H1=>if b=true then t D σ H1 else u D σ H1
theorem Zwe{c:Expr}{a b:List Stmt}{tc:TT}(hc:PT X c tc)(ha:PSs X a t)(hb:PSs X b u):PS X (.If c a b pos) (tIfS tc t u):=by
 intro pins s σ H D I h
 refine wpAny_If (thn (hc pins s σ H _ I h) λd s1 ⟨H1,I1,q1⟩=>?_)
 cases d with
 | true=>exact ha pins s1 σ H1 D I1 q1
 | false=>exact hb pins s1 σ H1 D I1 q1
end
abbrev TG:=V->St->Hp->(St->Hp->Prop)->Prop
abbrev TGs:=List V->St->Hp->(St->Hp->Prop)->Prop
def PG(X:Cx)(target:Expr)(t:TG):Prop:=
 ∀(pins:List (Addr×Obj)) (s:Shared) (σ:St) (H:Hp) (v:V) (u:Value) (Q:St->Hp->Prop),Inv X pins σ H s->RelV v u->t v σ H Q ->
  wpAny (model X.prog X.w) X.A (assign target X.env u) (λ_ s'=>∃σ' H',Inv X pins σ' H' s'/\Q σ' H') X.xe s
def PGs(X:Cx)(ts:List Expr)(t:TGs):Prop:=
 ∀(pins:List (Addr×Obj)) (s:Shared) (σ:St) (H:Hp) (vs:List V) (us:List Value) (Q:St->Hp->Prop),Inv X pins σ H s->Vals vs us->t vs σ H Q ->
  wpAny (model X.prog X.w) X.A (assignInOrder ((assignEach ts X.env).map (·.2)) us) (λ_ s'=>∃σ' H',Inv X pins σ' H' s'/\Q σ' H') X.xe s
abbrev TSet:=V->V->V->Hp->(Hp->Prop)->Prop
def PSet(X:Cx)(t:TSet):Prop:=
 ∀(pins:List (Addr×Obj)) (s:Shared) (σ:St) (H:Hp) (o i v:V) (ov iv u:Value) (Q:Hp->Prop),Inv X pins σ H s->RelV o ov->RelV i iv->RelV v u->t o i v H Q ->
  wpAny (model X.prog X.w) X.A (setItem ov iv u) (λ_ s'=>∃H',Inv X pins σ H' s'/\Q H') X.xe s
abbrev TIp:=V->V->Hp->VK->Prop
def PIp(X:Cx)(op:Operator)(t:TIp):Prop:=
 ∀(pins:List (Addr×Obj)) (s:Shared) (σ:St) (H:Hp) (x y:V) (v u:Value) (Q:VK),Inv X pins σ H s->RelV x v->RelV y u->t x y H Q ->
  wpAny (model X.prog X.w) X.A (inplaceOp op v u) (EP X pins σ Q) X.xe s
section
variable {X:Cx}{pos:Pos}
def gName(i:Nat):TG:=λv σ H Q=>Q (σ.set i (some v)) H
theorem Zme{i:Nat}{x:Str}(hN:X.N.Nodup)(hi:X.N[i]? = some x)(hx:Loc X.env.scope x)(hf:X.fn x=true\/X.env.scope.names.lookup x=some .local:=by first|exact .inl rfl|exact .inr rfl|assumption):PG X (.Name x pos) (gName i):=by
 intro pins s σ H v u Q I r h
 exact wpAny_assign_Name (Zkd I hN hi hx r (λs' I'=>⟨_,H,I',h⟩) hf)
def gNil:TGs:=λvs σ H Q=>vs=[]/\Q σ H
def gCons(t:TG)(u:TGs):TGs:=λvs σ H Q=>∃v r,vs=v::r/\t v σ H λσ' H'=>u r σ' H' Q
theorem Ztr:PGs X [] gNil:=by
 intro pins s σ H vs us Q I r h
 obtain⟨e,h⟩:=h
 subst e
 cases r
 exact assignInOrder_nil ⟨σ,H,I,h⟩
theorem Zrj{e:Expr}{es:List Expr}{t:TG}{u:TGs}(h1:PG X e t)(h2:PGs X es u) 
  (hs:(assignEach (e::es) X.env).map (·.2)=assign e X.env::(assignEach es X.env).map (·.2):=by rfl):PGs X (e::es) (gCons t u):=by
 intro pins s σ H vs us Q I r h
 obtain⟨v,vr,e1,h⟩:=h
 subst e1
 cases r with
 | cons r rr=>
  rw[hs]
  refine assignInOrder_cons (thn (h1 pins s σ H _ _ _ I r h) λ_ s1 ⟨σ1,H1,I1,q1⟩=>?_)
  exact h2 pins s1 σ1 H1 _ _ Q I1 rr q1
def gTup(K:Frag)(n:Nat)(t:TGs):TG:=λv σ H Q=>∃a xs,v=.ref a/\SqT K H a xs/\xs.length=n/\t xs σ H Q
theorem Zvg{es:List Expr}{k:Nat}{t:TGs}{n:Nat}(hc:X.calm=true)(h:PGs X es t) 
  (hn:(assignEach es X.env).length=n:=by rfl) (hst:(assignEach es X.env).findIdx? (·.1)=none:=by rfl):PG X (.Tuple es k pos) (gTup X.K n t):=by
 intro pins s σ H v u Q I r hw
 obtain⟨a,xs,e1,hq,hl,hw⟩:=hw
 subst e1
 cases r
 obtain⟨its,rv,ht,hz⟩:=I.tuple hq
 refine assign_Tuple_tuple (I.ok.hd hc) ht (by simp[hn,<- hl,rv.length]) hst λh' hx=>?_
 have I1:Inv X pins σ H { s with heap:=h' }:=I.kept (t':=s.toks) λb o e=>hx b o (zP (zM e)) e
 exact h pins _ σ H xs _ Q I1 (by simpa using rv) hw
def gSub(to ti:TE)(t:TSet):TG:=λv σ H Q=>to σ H λo H1=>ti σ H1 λi H2=>t o i v H2 λH3=>Q σ H3
theorem Zvf{o i:Expr}{to ti:TE}{t:TSet}(ho:PE X o to)(hi:PE X i ti)(hs:PSet X t) 
  (ha:∀v,assign (.Subscript o i pos) X.env v=(do
   let ov <- holding [v] (eval o X.env)
   let iv <- holding [v,ov] (eval i X.env)
   standAt pos
   holding [v,ov,iv] (setItem ov iv v)
   release [v,ov,iv] []):=by intro _;rfl):PG X (.Subscript o i pos) (gSub to ti t):=by
 intro pins s σ H v u Q I r h
 rw[ha]
 refine wH (wI (thn (ho pins s σ H _ I h) λov s1 ⟨x,H1,I1,r1,q1⟩=>?_))
 refine wH (wI (thn (hi pins s1 σ H1 _ I1 q1) λiv s2 ⟨y,H2,I2,r2,q2⟩=>?_))
 refine wH (wJ (wH (wI (thn (hs pins s2 σ H2 x y v ov iv u _ I2 r1 r2 r q2) λ_ s3 ⟨H3,I3,q3⟩=>?_))))
 exact wpAny_release ⟨σ,H3,I3,q3⟩
def tAsg(te:TE)(g:TG):TS:=λD σ H=>te σ H λx H1=>g x σ H1 D.nx
theorem Zvk{tg e:Expr}{te:TE}{g:TG}(he:PE X e te)(hg:PG X tg g)(hs:swapsWithSole [tg] e pos.line X.env=pure false:=by rfl)(hw:swappedStores [tg] e X.env=pure none:=by rfl) 
  (h1:(assignEach [tg] X.env).map (·.2)=[assign tg X.env]:=by rfl):PS X (.Assign [tg] e pos) (tAsg te g):=by
 intro pins s σ H D I h
 refine wpAny_Assign_stores (thn (he pins s σ H _ I h) λv s1 ⟨x,H1,I1,r1,q1⟩=>?_) hs hw
 rw[h1]
 exact thn (hg pins s1 σ H1 x v _ I1 r1 q1) λ_ s2 q=>q
theorem Zvo{i:Nat}{x:Str}{e:Expr}{te:TE}{pos':Pos}(hN:X.N.Nodup)(hi:X.N[i]? = some x)(hx:Loc X.env.scope x)(he:PE X e te)(hs:swapsWith e (some (.Name x pos')) pos.line X.env=pure false:=by rfl)(hf:X.fn x=true\/X.env.scope.names.lookup x=some .local:=by first|exact .inl rfl|exact .inr rfl|assumption):
  PS X (.Assign [.Name x pos'] e pos) (tAsg te (gName i)):=by
 intro pins s σ H D I h
 refine wpAny_Assign_Name (thn (he pins s σ H _ I h) λv s1 ⟨y,H1,I1,r1,q1⟩=>?_) hs
 exact Zkd I1 hN hi hx r1 (λs2 I2=>⟨_,H1,I2,q1⟩) hf
def tAug(i:Nat)(te:TE)(ti:TIp):TS:=λD σ H=>∃x,σ[i]? = some (some x)/\te σ H λy H1=>ti x y H1 λz H2=>D.nx (σ.set i (some z)) H2
theorem Zvl{i:Nat}{x:Str}{e:Expr}{te:TE}{op:Operator}{ti:TIp}{pos':Pos}(hN:X.N.Nodup)(hi:X.N[i]? = some x)(hx:Loc X.env.scope x)(he:PE X e te)(ho:PIp X op ti)(hf:X.fn x=true\/X.env.scope.names.lookup x=some .local:=by first|exact .inl rfl|exact .inr rfl|assumption):
  PS X (.AugAssign (.Name x pos') op e pos) (tAug i te ti):=by
 intro pins s σ H D I h
 obtain⟨v,e1,h⟩:=h
 obtain⟨m,hn,hl⟩:=I.loc
 have vis:Vis X.env.scope x:=by rcases hx with k|k;exact .inl k;exact .inr (.inl k)
 obtain⟨u,r,l⟩:=hl i x v hi e1 vis
 refine wpAny_AugAssign_Name ?_
 have go:wpAny (model X.prog X.w) X.A (eval e X.env) (λw s₂=>wpAny (model X.prog X.w) X.A (inplaceOp op u w) (λr s₃=>wpAny (model X.prog X.w) X.A (storeName X.env x r) (λ_=>SP X pins D .next) X.xe s₃) X.xe s₂) X.xe s:=by
  refine thn (he pins s σ H _ I h) λw s1 ⟨y,H1,I1,r1,q1⟩=>?_
  refine thn (ho pins s1 σ H1 v y u w _ I1 r r1 q1) λz s2 ⟨zv,H2,I2,r2,q2⟩=>?_
  exact Zkd I2 hN hi hx r2 (λs3 I3=>⟨_,H2,I3,q2⟩) hf
 rcases l with ⟨hk,hm⟩|⟨hk,c,hc,hcell⟩
 ·exact wpAny_loadName_local I.ok.kind hk hn hm go
 ·rcases hk with hk|hk
  ·exact wpAny_loadName_cell I.ok.kind hk hc hcell go
  ·rcases hx with k|k
   ·have:X.env.scope.names.lookup x=some .free:=hk
    rw[k]at this;cases this
   ·have:X.env.scope.names.lookup x=some .free:=hk
    rw[k]at this;cases this
end
section
variable {X:Cx}{pos:Pos}
def tWhile(c:TT)(tb:TS):TS:=λD σ H=>∃W:Nat->St->Hp->Prop,(∃m,W m σ H)/\∀m σ H,W m σ H ->
 c σ H λb H1=>if b=true then ∃N:St->Hp->Prop,(∀σ' H',N σ' H'->∃m',m' < m/\W m' σ' H')/\tb { D with nx:=N,ct:=N,bk:=D.nx } σ H1 else D.nx σ H1
theorem Zrm{c:Expr}{body:List Stmt}{tc:TT}{tb:TS}(hp:PassesOwn (model X.prog X.w) X.A X.env X.xe)(hc:PT X c tc)(hb:PSs X body tb):PS X (.While c body [] pos) (tWhile tc tb):=by
 intro pins s σ H D I h
 obtain⟨W,⟨m0,w0⟩,turn⟩:=h
 refine wpAny_While (codeAny_whileLoop (λn s'=>∃σ' H',Inv X pins σ' H' s'/\W n σ' H') ?_ m0 ⟨σ,H,I,w0⟩)
 rintro n s1 ⟨σ1,H1,I1,w1⟩
 refine wK hp (thn (hc pins s1 σ1 H1 _ I1 (turn n σ1 H1 w1)) λb s2 ⟨H2,I2,q2⟩=>?_)
 cases b with
 | true=>
  obtain⟨N,hN,q2⟩:=q2
  rw[zI rfl]
  refine wK hp (thn (hb pins s2 σ1 H2 _ I2 q2) λf s3 q3=>?_)
  cases f with
  | next=>
   obtain⟨σ3,H3,I3,n3⟩:=q3
   obtain⟨m',hm,w3⟩:=hN σ3 H3 n3
   exact⟨m',hm,σ3,H3,I3,w3⟩
  | cont=>
   obtain⟨σ3,H3,I3,n3⟩:=q3
   obtain⟨m',hm,w3⟩:=hN σ3 H3 n3
   exact⟨m',hm,σ3,H3,I3,w3⟩
  | brk=>exact q3
  | ret v=>exact q3
 | false=>
  rw[zJ wL]
  exact wG ⟨σ1,H2,I2,q2⟩
end
structure It where
 go:Nat->Hp->Prop
 yld:Nat->Hp->V->Hp->Prop
 stop:Nat->Hp->Prop
def FpOk(X:Cx)(pins:List (Addr×Obj))(H:Hp)(b:Addr):Prop:=
 H b=none/\b≠X.env.locals/\b ∉ X.fs/\(b∈X.ex\/X.s₀.heap.objs.size≤b)/\(∀x c,X.env.cells.lookup x=some c->c≠b)/\∀p∈X.pn++pins,p.1≠b
theorem Inv.fpOk{X:Cx}{pins:List (Addr×Obj)}{σ:St}{H H':Hp}{s:Shared}{b:Addr}(I:Inv X pins σ H s)(hb:s.heap.objs.size≤b)(hn:H' b=none):FpOk X pins H' b:=by
 refine⟨hn,wM (zN I.lt hb),I.nofs hb,.inr (zR I.sz hb),λx c e z=>?_,λp hp z=>?_⟩
 ·obtain⟨v,q⟩:=I.cell x c e
  exact absurd (zN q.lt (by rw[z];exact hb)) (zO _)
 ·exact absurd (zN (zM (I.pin p hp).1) (by rw[z];exact hb)) (zO _)
structure Turn(P:Program)(w:World)(K:Frag)(tg:Expr)(J:It)(fp:List Addr)(it:Addr)(tn:Nat->Heap->Prop):Prop where
 mem:it∈fp
 obj:∀i h,tn i h->∀b∈fp,∃o,h.get? b=some o/\∀v,o.data≠.cell v
 keep:∀i h h',tn i h->(∀b∈fp,∀o,h.get? b=some o->h'.get? b=some o)->tn i h'
 item:∀(X:Cx),X.prog=P->X.w=w->X.K=K->X.calm=true->∀(i:Nat) (pins:List (Addr×Obj)) (s:Shared) (σ:St) (H:Hp) (E:Value->Shared->Prop),Inv X pins σ H s->(∀b∈fp,FpOk X pins H b)->tn i s.heap->J.go i H ->
  wpAny (model P w) X.A (pyNext (.ref it)) (λr s1=>∃u,r=some u /\
   wpAny (model P w) X.A (letOwnedTupleGo tg (.ref it) u) (λ_ s2=>∃x H',Inv X pins σ H' s2/\RelV x u/\J.yld i H x H'/\tn (i+1) s2.heap/\∀b∈fp,H' b=none) E s1) E s
 done:∀(X:Cx),X.prog=P->X.w=w->X.K=K->X.calm=true->∀(i:Nat) (pins:List (Addr×Obj)) (s:Shared) (σ:St) (H:Hp) (E:Value->Shared->Prop),Inv X pins σ H s->(∀b∈fp,FpOk X pins H b)->tn i s.heap->J.stop i H ->
  wpAny (model P w) X.A (pyNext (.ref it)) (λr s1=>r=none/\Inv X pins σ H s1) E s
 self:∀(A:Around) (i:Nat) (s:Shared) (Q:Value->Shared->Prop) (E:Value->Shared->Prop),tn i s.heap->Q (.ref it) s->wpAny (model P w) A (pyIter (.ref it)) Q E s
abbrev TI:=St->Hp->(It->Hp->Prop)->Prop
def PIE(X:Cx)(pins:List (Addr×Obj))(σ:St)(tg:Expr)(R:It->Hp->Prop)(itv:Value)(s2:Shared):Prop:=
 ∃(it:Addr) (fp:List Addr) (tn:Nat->Heap->Prop) (J:It) (H':Hp),itv=.ref it/\Inv X pins σ H' s2/\Turn X.prog X.w X.K tg J fp it tn/\tn 0 s2.heap/\(∀b∈fp,FpOk X pins H' b)/\R J H'
def PI(X:Cx)(tg iter:Expr)(wi:TI):Prop:=
 ∀(pins:List (Addr×Obj)) (s:Shared) (σ:St) (H:Hp) (R:It->Hp->Prop),Inv X pins σ H s->wi σ H R ->
  wpAny (model X.prog X.w) X.A (eval iter X.env) (λv s1=>wpAny (model X.prog X.w) X.A (pyIter v) (PIE X pins σ tg R) X.xe s1) X.xe s
theorem Zta{M:Model}{A:Around}{E:Value->Shared->Prop}{s:Shared}{tg:Expr}{it:Addr}{u:Value}{o:Obj}{n:String}{vs:Array Value}{Q:Unit->Shared->Prop}(ho:s.heap.get? it=some o)(hc:o.cls=.type n)(hd:o.data=.fields vs) 
  (hn:["enumerate","zip","dict_itemiterator","dict_reverseitemiterator","odict_iterator","itertools.zip_longest","itertools.pairwise"].contains n=false) (hQ:Q () s):wpAny M A (letOwnedTupleGo tg (.ref it) u) Q E s:=by
 unfold letOwnedTupleGo
 cases tg<;>first
  | exact wN hQ
  | (cases u<;>first
    | exact wN hQ
    | (refine wH (wpAny_load ho ?_)
       rw[hc,hd]
       show wpAny M A (if(["enumerate","zip","dict_itemiterator","dict_reverseitemiterator","odict_iterator","itertools.zip_longest","itertools.pairwise"].contains n&&vs[0]? == some (rawInt _))=true then _ else _) Q E s
       rw[zJ (by intro h;rw[hn,Bool.false_and]at h;cases h)]
       exact wN hQ))
def Itl(K:Frag)(a:Addr):It:=
 ⟨λi H=>∃xs x,SqL K H a xs/\xs[i]? = some x,λi H x H'=>H'=H/\∀xs,SqL K H a xs->xs[i]? = some x,λi H=>∃xs,SqL K H a xs/\xs.length≤i⟩
def Itt(K:Frag)(a:Addr):It:=
 ⟨λi H=>∃xs x,SqT K H a xs/\xs[i]? = some x,λi H x H'=>H'=H/\∀xs,SqT K H a xs->xs[i]? = some x,λi H=>∃xs,SqT K H a xs/\xs.length≤i⟩
def Itr(lo:Int)(n:Nat):It:=⟨λi _=>i<n,λi H x H'=>H'=H/\x=.int (lo+i),λi _=>n≤i⟩
theorem Zql{P:Program}{w:World}{K:Frag}{tg:Expr}(a it:Addr):Turn P w K tg (Itl K a) [it] it (λi h=>h.IsListIter it a i) where
 mem:=by simp
 obj:=λi h st b hb=>by
  have e:b=it:=by simpa using hb
  subst e
  obtain⟨o,e,c,d⟩:=st
  exact⟨o,e,λv z=>by rw[d]at z;cases z⟩
 keep:=λi h h' st k=>st.at λo e=>k it (by simp) o e
 item:=by
  intro X hP hw hK hc i pins s σ H E I hf st hg
  subst hP hw hK
  obtain⟨xs,x,hq,hx⟩:=hg
  obtain⟨its,rv,p,hz⟩:=I.list hq
  obtain⟨u,hu,ru⟩:=rv.get hx
  obtain⟨f0,f1,f2,f3,f4,f5⟩:=hf it (by simp)
  refine wO st p.isList (x:=u) (by simpa using hu) λh' st' sb=>?_
  have I1:Inv X pins σ H { s with heap:=h' }:=I.turned (t':=s.toks) (λb o hb e=>(sb.2 b hb).trans e) f0 f1 f3 f4 f5
  obtain⟨o,e,c,d⟩:=id st'
  exact⟨u,rfl,Zta (s:={ s with heap:=h' }) e c d (by decide) ⟨x,H,I1,ru,⟨rfl,λys hy=>by rw[I.list_inj hy hq];exact hx⟩,st',λb hb=>(hf b hb).1⟩⟩
 done:=by
  intro X hP hw hK hc i pins s σ H E I hf st hg
  subst hP hw hK
  obtain⟨xs,hq,hx⟩:=hg
  obtain⟨its,rv,p,hz⟩:=I.list hq
  obtain⟨f0,f1,f2,f3,f4,f5⟩:=hf it (by simp)
  have hl:=rv.length
  exact wpAny_pyNext_list_end (I.ok.hd hc) st p.isList (by simp;omega) λh' eb=>⟨rfl,I.turned (t':=s.toks) (λb o hb e=>eb b o hb e) f0 f1 f3 f4 f5⟩
 self:=λ_ _ _ _ _ st h=>wpAny_pyIter_listiter st h
theorem Zoa{P:Program}{w:World}{K:Frag}{tg:Expr}(a it:Addr):Turn P w K tg (Itt K a) [it] it (λi h=>h.IsTupleIter it a i) where
 mem:=by simp
 obj:=λi h st b hb=>by
  have e:b=it:=by simpa using hb
  subst e
  obtain⟨o,e,c,d⟩:=st
  exact⟨o,e,λv z=>by rw[d]at z;cases z⟩
 keep:=λi h h' st k=>st.at λo e=>k it (by simp) o e
 item:=by
  intro X hP hw hK hc i pins s σ H E I hf st hg
  subst hP hw hK
  obtain⟨xs,x,hq,hx⟩:=hg
  obtain⟨its,rv,p,hz⟩:=I.tuple hq
  obtain⟨u,hu,ru⟩:=rv.get hx
  obtain⟨f0,f1,f2,f3,f4,f5⟩:=hf it (by simp)
  refine wpAny_pyNext_tuple_item st (show s.heap.IsTuple a its.toArray from p) (x:=u) (by simpa using hu) λh' st' sb=>?_
  have I1:Inv X pins σ H { s with heap:=h' }:=I.turned (t':=s.toks) (λb o hb e=>(sb.2 b hb).trans e) f0 f1 f3 f4 f5
  obtain⟨o,e,c,d⟩:=id st'
  exact⟨u,rfl,Zta (s:={ s with heap:=h' }) e c d (by decide) ⟨x,H,I1,ru,⟨rfl,λys hy=>by rw[I.tuple_inj hy hq];exact hx⟩,st',λb hb=>(hf b hb).1⟩⟩
 done:=by
  intro X hP hw hK hc i pins s σ H E I hf st hg
  subst hP hw hK
  obtain⟨xs,hq,hx⟩:=hg
  obtain⟨its,rv,p,hz⟩:=I.tuple hq
  obtain⟨f0,f1,f2,f3,f4,f5⟩:=hf it (by simp)
  have hl:=rv.length
  exact wpAny_pyNext_tuple_end (I.ok.hd hc) st (show s.heap.IsTuple a its.toArray from p) (by simp;omega) λh' eb=>⟨rfl,I.turned (t':=s.toks) (λb o hb e=>eb b o hb e) f0 f1 f3 f4 f5⟩
 self:=λ_ _ _ _ _ st h=>wpAny_pyIter_tupleiter st h
theorem Zo9{P:Program}{w:World}{K:Frag}{tg:Expr}(it:Addr)(lo:Int)(n:Nat):Turn P w K tg (Itr lo n) [it] it (λi h=>IsRangeIter h it (lo+(i:Nat)*1) ((n:Int)-(i:Nat)) 1) where
 mem:=by simp
 obj:=λi h st b hb=>by
  have e:b=it:=by simpa using hb
  subst e
  exact⟨_,st,λv z=>by
   have z':Data.fields _=Data.cell v:=z
   cases z'⟩
 keep:=λi h h' st k=>k it (by simp) _ st
 item:=by
  intro X hP hw hK hc i pins s σ H E I hf st hg
  subst hP hw hK
  obtain⟨f0,f1,f2,f3,f4,f5⟩:=hf it (by simp)
  have W:=Walks.range (prog:=X.prog) (w:=X.w) (I.ok.hd hc) it lo 1 n
  refine W.item i s _ _ hg st λv h' tk hv st' kk=>?_
  obtain⟨t,rfl⟩:=hv
  have I1:Inv X pins σ H { s with heap:=h',toks:=tk }:=I.turned (λb o hb e=>kk b o (by simpa using hb) e) f0 f1 f3 f4 f5
  refine⟨_,rfl,Zta (s:={ s with heap:=h',toks:=tk }) (n:="range_iterator") st' rfl rfl (by decide) ⟨.int (lo+i),H,I1,⟨t,?_⟩,⟨rfl,rfl⟩,st',λb hb=>(hf b hb).1⟩⟩
  rw[Int.mul_one]
 done:=by
  intro X hP hw hK hc i pins s σ H E I hf st hg
  subst hP hw hK
  obtain⟨f0,f1,f2,f3,f4,f5⟩:=hf it (by simp)
  exact wpAny_pyNext_range_end (I.ok.hd hc) st (by have:n≤i:=hg;omega) λh' eb=>⟨rfl,I.turned (t':=s.toks) (λb o hb e=>eb b o hb e) f0 f1 f3 f4 f5⟩
 self:=λ_ _ _ _ _ st h=>wpAny_pyIter_rangeiter st h
section
variable {X:Cx}{tg:Expr}
def iList(K:Frag)(tl:TE):TI:=λσ H R=>tl σ H λx H1=>∃a,x=.ref a/\(∃xs,SqL K H1 a xs)/\R (Itl K a) H1
def iTup(K:Frag)(tl:TE):TI:=λσ H R=>tl σ H λx H1=>∃a,x=.ref a/\(∃xs,SqT K H1 a xs)/\R (Itt K a) H1
theorem Zts{l:Expr}{tl:TE}(hl:PE X l tl):PI X tg l (iList X.K tl):=by
 intro pins s σ H R I h
 refine thn (hl pins s σ H _ I h) λv s1 ⟨x,H1,I1,r1,q1⟩=>?_
 obtain⟨a,e,⟨xs,hq⟩,q⟩:=q1
 subst e
 cases r1
 obtain⟨its,rv,p,hz⟩:=I1.list hq
 refine wP p.isList ?_
 refine⟨s1.heap.objs.size,[s1.heap.objs.size],_,_,H1,rfl,I1.kept (t':=s1.toks) λb o e=>wQ _ e,Zql a _,⟨_,zL _ rfl,rfl,rfl⟩,λb hb=>?_,q⟩
 have e:b=s1.heap.objs.size:=by simpa using hb
 subst e
 exact I1.fpOk (wR _) (I1.hok.fresh (wR _))
theorem Zvh{l:Expr}{tl:TE}(hl:PE X l tl):PI X tg l (iTup X.K tl):=by
 intro pins s σ H R I h
 refine thn (hl pins s σ H _ I h) λv s1 ⟨x,H1,I1,r1,q1⟩=>?_
 obtain⟨a,e,⟨xs,hq⟩,q⟩:=q1
 subst e
 cases r1
 obtain⟨its,rv,p,hz⟩:=I1.tuple hq
 refine wpAny_pyIter_tuple (show s1.heap.IsTuple a its.toArray from p) ?_
 refine⟨s1.heap.objs.size,[s1.heap.objs.size],_,_,H1,rfl,I1.kept (t':=s1.toks) λb o e=>wQ _ e,Zoa a _,⟨_,zL _ rfl,rfl,rfl⟩,λb hb=>?_,q⟩
 have e:b=s1.heap.objs.size:=by simpa using hb
 subst e
 exact I1.fpOk (wR _) (I1.hok.fresh (wR _))
theorem Zrq{pins:List (Addr×Obj)}{σ:St}{H:Hp}{s:Shared}{R:It->Hp->Prop}{E:Value->Shared->Prop}{lo hi:Int}{t u v:Tok}{tk:Nat}(I:Inv X pins σ H s)(h1:-(2 ^ 62)≤lo)(h2:lo<2 ^ 62)(h3:-(2 ^ 62)≤hi)(h4:hi<2 ^ 62) 
  (q:R (Itr lo (hi-lo).toNat) H):wpAny (model X.prog X.w) X.A (pyIter (.ref s.heap.objs.size)) (PIE X pins σ tg R) E { s with heap:=s.heap.push { cls:=.type "range",data:=.fields #[.int lo t,.int hi u,.int 1 v] },toks:=tk }:=by
 refine wpAny_pyIter_range (IsRange.new ..) (small_one h1 h2 h3 h4) ?_
 have I1:Inv X pins σ H { s with heap:=s.heap.push { cls:=.type "range",data:=.fields #[.int lo t,.int hi u,.int 1 v] },toks:=tk }:=I.kept λb o e=>wQ _ e
 refine⟨(s.heap.push { cls:=.type "range",data:=.fields #[.int lo t,.int hi u,.int 1 v] }).objs.size,[(s.heap.push { cls:=.type "range",data:=.fields #[.int lo t,.int hi u,.int 1 v] }).objs.size],_,_,H,rfl,
  I1.kept (t':=tk) λb o e=>wQ _ e,Zo9 _ lo (hi-lo).toNat,?_,λb hb=>?_,q⟩
 ·have e1:lo+((0:Nat):Int)*1=lo:=by simp
  have e2:(((hi-lo).toNat:Nat):Int)-((0:Nat):Int)=Builtin.Range.rangeSize lo hi 1:=by rw[rangeSize_one];split<;>omega
  show IsRangeIter _ _ (lo+((0:Nat):Int)*1) ((((hi-lo).toNat:Nat):Int)-((0:Nat):Int)) 1
  rw[e1,e2]
  exact zL _ rfl
 ·have e:b=(s.heap.push { cls:=.type "range",data:=.fields #[.int lo t,.int hi u,.int 1 v] }).objs.size:=by simpa using hb
  subst e
  exact I1.fpOk (wR _) (I1.hok.fresh (wR _))
def iRng1(ta:TA):TI:=λσ H R=>ta σ H λvs H1=>∃j:Int,vs=[.int j]/\-(2 ^ 62)≤j/\j<2 ^ 62/\R (Itr 0 j.toNat) H1
theorem Zpz{a:Expr}{ta:TA}{p pos:Pos}(hg:Gl X "range")(hm:X.mg "range" = none)(ha:PA X [a] ta)(hs:starEach [a] X.env=[(false,eval a X.env)]:=by rfl):PI X tg (.Call (.Name "range" p) [a] [] pos) (iRng1 ta):=by
 intro pins s σ H R I h
 refine Call_ (Zjj I hg hm boot_range (wS (thn (ha pos pins s σ H _ I h) λus s1 ⟨vs,H1,I1,r1,q1⟩=>?_) hs rfl))
 obtain⟨j,e,q1,q2,q⟩:=q1
 subst e
 cases r1 with
 | cons r rr=>
  cases rr
  obtain⟨t,rfl⟩:=r
  exact call_range_1 (Zrq I1 (by omega) (by omega) q1 q2 (by simpa using q))
def tFor(wi:TI)(g:TG)(tb:TS):TS:=λD σ H=>wi σ H λJ H1=>∃W:Nat->Nat->St->Hp->Prop,(∃m,W 0 m σ H1)/\∀i m σ H,W i m σ H ->
 (J.stop i H/\D.nx σ H)\/(J.go i H/\∃N:St->Hp->Prop,(∀σ' H',N σ' H'->∃m',m' < m/\W (i+1) m' σ' H')/\∀x H',J.yld i H x H'->g x σ H' λσ2 H2=>tb { D with nx:=N,ct:=N,bk:=D.nx } σ2 H2)
def pinsAt(fp:List Addr)(h:Heap):List (Addr×Obj):=fp.filterMap λb=>(h.get? b).map λo=>(b,o)
theorem Zg1{fp:List Addr}{h:Heap}{b:Addr}{o:Obj}(hb:b∈fp)(e:h.get? b=some o):(b,o)∈pinsAt fp h:=List.mem_filterMap.mpr ⟨b,hb,by rw[e];rfl⟩
theorem Zlb{fp:List Addr}{h:Heap}{p:Addr×Obj}(hp:p∈pinsAt fp h):p.1∈fp/\h.get? p.1=some p.2:=by
 obtain⟨b,hb,e⟩:=List.mem_filterMap.mp hp
 cases q:h.get? b with
 | none=>rw[q]at e;cases e
 | some o=>
  rw[q]at e
  have e':(b,o)=p:=zK e
  subst e'
  exact⟨hb,q⟩
theorem Inv.pinned{pins:List (Addr×Obj)}{σ:St}{H:Hp}{s:Shared}{fp:List Addr}(I:Inv X pins σ H s)(hf:∀b∈fp,FpOk X pins H b)(ho:∀b∈fp,∃o,s.heap.get? b=some o/\∀v,o.data≠.cell v):Inv X (pins++pinsAt fp s.heap) σ H s:=
 I.pins_of λp hp=>(zX.mp hp).elim (λz=>I.pin p (wT _ z)) λz=>by
  obtain⟨hb,e⟩:=Zlb z
  obtain⟨f0,f1,f2,_⟩:=hf p.1 hb
  obtain⟨o,e',d⟩:=ho p.1 hb
  rw[e]at e';cases e'
  exact⟨e,f0,f1,f2,d⟩
theorem Inv.unpinned{pins pl:List (Addr×Obj)}{σ:St}{H:Hp}{s:Shared}(I:Inv X (pins++pl) σ H s):Inv X pins σ H s:=I.pins_of λp hp=>I.pin p (wT _ (zY _ hp))
theorem Zvm{iter:Expr}{body:List Stmt}{wi:TI}{g:TG}{tb:TS}{pos:Pos}(hp:PassesOwn (model X.prog X.w) X.A X.env X.xe)(hc:X.calm=true)(hi:PI X tg iter wi)(hg:PG X tg g)(hb:PSs X body tb) 
  (hs:∀x,foldedSetIterable iter X.env x=pure x:=by intro _;rfl):PS X (.For tg iter body [] pos) (tFor wi g tb):=by
 intro pins s σ H D I h
 refine wpAny_For (thn (hi pins s σ H _ I h) λv s1 h1=>thn h1 λitv s2 h2=>?_) hs
 obtain⟨it,fp,tn,J,H2,e,I2,T,st2,f2,W,⟨m0,w0⟩,turn⟩:=h2
 subst e
 -- what stays true of the iterator's objects through the loop
 have stat:∀{H':Hp},(∀b∈fp,H' b=none)->∀b∈fp,FpOk X pins H' b:=λhn b hb=>⟨hn b hb,(f2 b hb).2⟩
 refine codeAny_forLoop_any (λn s'=>∃i σ' H',Inv X pins σ' H' s'/\tn i s'.heap/\(∀b∈fp,H' b=none)/\W i n σ' H') ?_ m0 ⟨0,σ,H2,I2,st2,λb hb=>(f2 b hb).1,w0⟩
 rintro n s3 ⟨i,σ3,H3,I3,st3,fr3,w3⟩
 rcases turn i n σ3 H3 w3 with ⟨stop,qn⟩|⟨go,N,hN,step⟩
 ·refine wK hp (thn (T.done X rfl rfl rfl hc i pins s3 σ3 H3 X.xe I3 (stat fr3) st3 stop) λr s4 ⟨hr,I4⟩=>?_)
  subst hr
  exact wG ⟨σ3,H3,I4,qn⟩
 ·refine wK hp (thn (T.item X rfl rfl rfl hc i pins s3 σ3 H3 X.xe I3 (stat fr3) st3 go) λr s4 ⟨u,hr,h4⟩=>?_)
  subst hr
  refine wK hp (thn h4 λ_ s5 ⟨x,H5,I5,r5,y5,st5,fr5⟩=>?_)
  have I5':=I5.pinned (stat fr5) (T.obj _ _ st5)
  refine wK hp (thn (hg _ s5 σ3 H5 x u _ I5' r5 (step x H5 y5)) λ_ s6 ⟨σ6,H6,I6,q6⟩=>?_)
  refine wK hp (thn (hb _ s6 σ6 H6 _ I6 q6) λf s7 q7=>?_)
  have again:∀{σ7:St}{H7:Hp},Inv X (pins++pinsAt fp s5.heap) σ7 H7 s7->N σ7 H7->∃m,m<n/\∃i σ' H',Inv X pins σ' H' s7/\tn i s7.heap/\(∀b∈fp,H' b=none)/\W i m σ' H':=λ{σ7 H7} I7 n7=>by
   obtain⟨m',hm,w7⟩:=hN σ7 H7 n7
   refine⟨m',hm,i+1,σ7,H7,I7.unpinned,T.keep _ _ _ st5 λb hb o e=>(I7.pin (b,o) (wT _ (wT _ (Zg1 hb e)))).1,λb hb=>?_,w7⟩
   obtain⟨o,e,d⟩:=T.obj _ _ st5 b hb
   exact(I7.pin (b,o) (wT _ (wT _ (Zg1 hb e)))).2.1
  cases f with
  | next=>obtain⟨σ7,H7,I7,n7⟩:=q7;exact again I7 n7
  | cont=>obtain⟨σ7,H7,I7,n7⟩:=q7;exact again I7 n7
  | brk=>obtain⟨σ7,H7,I7,q7⟩:=q7;exact⟨σ7,H7,I7.unpinned,q7⟩
  | ret v=>obtain⟨x7,σ7,H7,I7,r7,q7⟩:=q7;exact⟨x7,σ7,H7,I7.unpinned,r7,q7⟩
end
abbrev R2:=V->V->Hp->VK->Prop
def OpR(X:Cx)(f:Value->Value->Sem Value)(r:R2):Prop:=
 ∀(pins:List (Addr×Obj)) (s:Shared) (σ:St) (H:Hp) (x y:V) (v u:Value) (Q:VK),Inv X pins σ H s->RelV x v->RelV y u->r x y H Q ->
  wpAny (model X.prog X.w) X.A (f v u) (EP X pins σ Q) X.xe s
def UnR(X:Cx)(f:Value->Sem Value)(r:V->Hp->VK->Prop):Prop:=
 ∀(pins:List (Addr×Obj)) (s:Shared) (σ:St) (H:Hp) (x:V) (v:Value) (Q:VK),Inv X pins σ H s->RelV x v->r x H Q ->
  wpAny (model X.prog X.w) X.A (f v) (EP X pins σ Q) X.xe s
def CallR(X:Cx)(f:Value)(r:List V->Hp->VK->Prop):Prop:=
 ∀(pins:List (Addr×Obj)) (s:Shared) (σ:St) (H:Hp) (xs:List V) (us:List Value) (Q:VK),Inv X pins σ H s->Vals xs us->r xs H Q ->
  wpAny (model X.prog X.w) X.A (call f us) (EP X pins σ Q) X.xe s
def TruR(X:Cx)(r:V->Hp->(Bool->Hp->Prop)->Prop):Prop:=
 ∀(pins:List (Addr×Obj)) (s:Shared) (σ:St) (H:Hp) (x:V) (v:Value) (Q:Bool->Hp->Prop),Inv X pins σ H s->RelV x v->r x H Q ->
  wpAny (model X.prog X.w) X.A (truthy v) (TP X pins σ Q) X.xe s
def tOp(r:R2)(ta tb:TE):TE:=λσ H Q=>ta σ H λx H1=>tb σ H1 λy H2=>r x y H2 Q
def tUn(r:V->Hp->VK->Prop)(ta:TE):TE:=λσ H Q=>ta σ H λx H1=>r x H1 Q
def rI(C:Int->Int->Prop)(g:Int->Int->V):R2:=λx y H Q=>∃i j,x=.int i/\y=.int j/\C i j/\Q (g i j) H
def rI0(g:Int->Int->V):R2:=λx y H Q=>∃i j,x=.int i/\y=.int j/\Q (g i j) H
def rU(g:Int->V):V->Hp->VK->Prop:=λx H Q=>∃i,x=.int i/\Q (g i) H
section
variable {X:Cx}{a b c:Expr}{ta tb tc:TE}{pos:Pos}
theorem binT(ha:PE X a ta)(hb:PE X b tb){pins:List (Addr×Obj)}{s:Shared}{σ:St}{H:Hp}{R:V->V->Hp->Prop}(I:Inv X pins σ H s) 
  (h:ta σ H λx H1=>tb σ H1 λy H2=>R x y H2) {Q:Value->Shared->Prop}{f:Value->Value->Sem Value}
  (hf:∀v u s2 x y H2,Inv X pins σ H2 s2->RelV x v->RelV y u->R x y H2->wpAny (model X.prog X.w) X.A (f v u) Q X.xe s2) :
  wpAny (model X.prog X.w) X.A (eval a X.env) (λv s₁=>wpAny (model X.prog X.w) X.A (eval b X.env) (λu s₂=>wpAny (model X.prog X.w) X.A (f v u) Q X.xe s₂) X.xe s₁) X.xe s:=by
 refine thn (ha pins s σ H _ I h) λv s1 ⟨x,H1,I1,r1,q1⟩=>?_
 refine thn (hb pins s1 σ H1 _ I1 q1) λu s2 ⟨y,H2,I2,r2,q2⟩=>?_
 exact hf v u s2 x y H2 I2 r1 r2 q2
theorem Zwc{op:Operator}{r:R2}(ho:OpR X (binaryOp op) r)(ha:PE X a ta)(hb:PE X b tb):PE X (.BinOp a op b pos) (tOp r ta tb):=by
 intro pins s σ H Q I h
 exact wpAny_BinOp (binT ha hb I h λv u s2 x y H2 I2 rx ry q=>ho pins s2 σ H2 x y v u Q I2 rx ry q)
theorem Zwd{op:UnaryOp}{r:V->Hp->VK->Prop}(ho:UnR X (unaryOp op) r)(ha:PE X a ta):PE X (.UnaryOp op a pos) (tUn r ta):=by
 intro pins s σ H Q I h
 exact UnaryOp_ (thn (ha pins s σ H _ I h) λv s1 ⟨x,H1,I1,r1,q1⟩=>ho pins s1 σ H1 x v Q I1 r1 q1)
theorem opI{f:Value->Value->Sem Value}{C:Int->Int->Prop}{g:Int->Int->Int} 
  (rule:∀(i j:Int) (t u:Tok) (s:Shared) (Q:Value->Shared->Prop) (E:Value->Shared->Prop),C i j->Q (.int (g i j) s.toks) { s with toks:=s.toks+1 }->wpAny (model X.prog X.w) X.A (f (.int i t) (.int j u)) Q E s) :
  OpR X f (rI C λi j=>.int (g i j)):=by
 intro pins s σ H x y v u Q I rx ry h
 obtain⟨i,j,rfl,rfl,hc,q⟩:=h
 obtain⟨t,rfl⟩:=rx
 obtain⟨t',rfl⟩:=ry
 exact rule i j t t' s _ _ hc ⟨.int (g i j),H,I.tok _,⟨_,rfl⟩,q⟩
theorem opI0{f:Value->Value->Sem Value}{g:Int->Int->Int} 
  (rule:∀(i j:Int) (t u:Tok) (s:Shared) (Q:Value->Shared->Prop) (E:Value->Shared->Prop),Q (.int (g i j) s.toks) { s with toks:=s.toks+1 }->wpAny (model X.prog X.w) X.A (f (.int i t) (.int j u)) Q E s) :
  OpR X f (rI0 λi j=>.int (g i j)):=by
 intro pins s σ H x y v u Q I rx ry h
 obtain⟨i,j,rfl,rfl,q⟩:=h
 obtain⟨t,rfl⟩:=rx
 obtain⟨t',rfl⟩:=ry
 exact rule i j t t' s _ _ ⟨.int (g i j),H,I.tok _,⟨_,rfl⟩,q⟩
theorem opB0{f:Value->Value->Sem Value}{g:Int->Int->Bool} 
  (rule:∀(i j:Int) (t u:Tok) (s:Shared) (Q:Value->Shared->Prop) (E:Value->Shared->Prop),Q (.bool (g i j)) s->wpAny (model X.prog X.w) X.A (f (.int i t) (.int j u)) Q E s) :
  OpR X f (rI0 λi j=>.bl (g i j)):=by
 intro pins s σ H x y v u Q I rx ry h
 obtain⟨i,j,rfl,rfl,q⟩:=h
 obtain⟨t,rfl⟩:=rx
 obtain⟨t',rfl⟩:=ry
 exact rule i j t t' s _ _ ⟨.bl (g i j),H,I,rfl,q⟩
def CDiv(i j:Int):Prop:=0<j/\j<1073741824
def CMul(i j:Int):Prop:=(-(2 ^ 64)<i/\i<2 ^ 64)\/(-(2 ^ 64)<j/\j<2 ^ 64)
theorem CMul.ok{i j:Int}(h:CMul i j):IntMulOk i j:=by
 rcases h with ⟨h1,h2⟩|⟨h1,h2⟩
 ·exact .of_left (intBits_le_64 h1 h2)
 ·exact .of_right (intBits_le_64 h1 h2)
theorem Zd5:OpR X (binaryOp .Add) (rI0 λi j=>.int (i+j)):=opI0 λ_ _ _ _ _ _ _ q=>add_int q
theorem Zhk:OpR X (binaryOp .Sub) (rI0 λi j=>.int (i-j)):=opI0 λ_ _ _ _ _ _ _ q=>sub_int q
theorem Zmc:OpR X (binaryOp .FloorDiv) (rI CDiv λi j=>.int (i / j)):=opI λi j _ _ _ _ _ hc q=>by
 have h1:(0:Int)<j:=hc.1
 have h2:j<1073741824:=hc.2
 exact floordiv_int (by omega) (by rw[Int.fdiv_eq_ediv_of_nonneg i (by omega)];exact q) (.inl (PyProof.noPylong_small (by omega)))
theorem Zhj:OpR X (binaryOp .Mod) (rI (λ_ j=>0<j) λi j=>.int (i % j)):=opI λi j _ _ _ _ _ hc q=>by
 have h1:(0:Int)<j:=hc
 exact mod_int' (by omega) (by rw[Int.fmod_eq_emod_of_nonneg i (by omega)];exact q)
theorem unI{f:Value->Sem Value}{g:Int->Int} 
  (rule:∀(i:Int) (t:Tok) (s:Shared) (Q:Value->Shared->Prop) (E:Value->Shared->Prop),Q (.int (g i) s.toks) { s with toks:=s.toks+1 }->wpAny (model X.prog X.w) X.A (f (.int i t)) Q E s) :
  UnR X f (rU λi=>.int (g i)):=by
 intro pins s σ H x v Q I rx h
 obtain⟨i,rfl,q⟩:=h
 obtain⟨t,rfl⟩:=rx
 exact rule i t s _ _ ⟨.int (g i),H,I.tok _,⟨_,rfl⟩,q⟩
theorem Zsx:UnR X (unaryOp .USub) (rU λi=>.int (-i)):=unI λ_ _ _ _ _ q=>neg_int q
end
def scal:V->V->Bool
 | .non,.non=>true | .non,.int _=>true | .int _,.non=>true | .non,.bl _=>true | .bl _,.non=>true | .non,.str _=>true | .str _,.non=>true
 | .int _,.int _=>true | .bl _,.bl _=>true | .str _,.str _=>true | .byt _,.byt _=>true
 | .int _,.str _=>true | .str _,.int _=>true | .bl _,.str _=>true | .str _,.bl _=>true
 | _,_=>false
def rEq:R2:=λx y H Q=>scal x y=true/\Q (.bl (decide (x=y))) H
def rNe:R2:=λx y H Q=>scal x y=true/\Q (.bl (!decide (x=y))) H
theorem Zov{i j:Int}:decide (V.int i=V.int j)=(i == j):=by
 rw[wU]
 simp
theorem Zse{i j:Bool}:decide (V.bl i=V.bl j)=(i == j):=by
 rw[wU]
 simp
theorem Zow{i j:Str}:decide (V.str i=V.str j)=(i == j):=by
 rw[wU]
 simp
theorem Zou{i j:Array UInt8}:decide (V.byt i=V.byt j)=(i.toList == j.toList):=by
 rw[wU]
 cases i
 cases j
 simp
section
variable {X:Cx}{a b c:Expr}{ta tb tc:TE}{pos:Pos}
theorem Zby{pins:List (Addr×Obj)}{σ:St}{H:Hp}{s:Shared}{Q:VK}{k k':Bool}(I:Inv X pins σ H s)(q:Q (.bl k) H)(e:k=k'):EP X pins σ Q (.bool k') s:=by
 subst e
 exact⟨.bl k,H,I,rfl,q⟩
theorem Zha:OpR X (compareOp .Eq) rEq:=by
 intro pins s σ H x y v u Q I rx ry h
 obtain⟨hs,q⟩:=h
 cases x with
 | non=>
  cases rx
  cases y with
  | non=>cases ry;exact PySem.EqNone.eq_none_none (Zby I q (by simp))
  | bl j=>cases ry;exact PySem.EqNone.eq_none_bool (Zby I q (by simp))
  | int j=>obtain⟨t',rfl⟩:=ry;exact PySem.EqNone.eq_none_int (Zby I q (by simp))
  | str j=>obtain⟨t',rfl⟩:=ry;exact PySem.EqNone.eq_none_str (Zby I q (by simp))
  | _=>exact absurd (show false=true from hs) wL
 | bl i=>
  cases rx
  cases y with
  | non=>cases ry;exact PySem.EqNone.eq_bool_none (Zby I q (by simp))
  | bl j=>cases ry;exact eq_bool (Zby I q Zse)
  | str j=>obtain⟨t',rfl⟩:=ry;exact PySem.EqMixed.eq_bool_str (Zby I q (by simp))
  | _=>exact absurd (show false=true from hs) wL
 | int i=>
  obtain⟨t,rfl⟩:=rx
  cases y with
  | non=>cases ry;exact PySem.EqNone.eq_int_none (Zby I q (by simp))
  | int j=>obtain⟨t',rfl⟩:=ry;exact eq_int (Zby I q Zov)
  | str j=>obtain⟨t',rfl⟩:=ry;exact PySem.EqMixed.eq_int_str (Zby I q (by simp))
  | _=>exact absurd (show false=true from hs) wL
 | str i=>
  obtain⟨t,rfl⟩:=rx
  cases y with
  | non=>cases ry;exact PySem.EqNone.eq_str_none (Zby I q (by simp))
  | bl j=>cases ry;exact PySem.EqMixed.eq_str_bool (Zby I q (by simp))
  | int j=>obtain⟨t',rfl⟩:=ry;exact PySem.EqMixed.eq_str_int (Zby I q (by simp))
  | str j=>obtain⟨t',rfl⟩:=ry;exact eq_str (Zby I q Zow)
  | _=>exact absurd (show false=true from hs) wL
 | byt i=>
  obtain⟨t,rfl⟩:=rx
  cases y with
  | byt j=>obtain⟨t',rfl⟩:=ry;exact PySem.W.eq_bytes (Zby I q Zou)
  | _=>exact absurd (show false=true from hs) wL
 | _=>cases y<;>exact absurd (show false=true from hs) wL
theorem Zmd:OpR X (compareOp .NotEq) rNe:=by
 intro pins s σ H x y v u Q I rx ry h
 obtain⟨hs,q⟩:=h
 cases x with
 | non=>
  cases rx
  cases y with
  | non=>cases ry;exact PySem.EqNone.ne_none_none (Zby I q (by simp))
  | bl j=>cases ry;exact PySem.EqNone.ne_none_bool (Zby I q (by simp))
  | int j=>obtain⟨t',rfl⟩:=ry;exact PySem.EqNone.ne_none_int (Zby I q (by simp))
  | str j=>obtain⟨t',rfl⟩:=ry;exact PySem.EqNone.ne_none_str (Zby I q (by simp))
  | _=>exact absurd (show false=true from hs) wL
 | bl i=>
  cases rx
  cases y with
  | non=>cases ry;exact PySem.EqNone.ne_bool_none (Zby I q (by simp))
  | bl j=>cases ry;exact ne_bool (Zby I q (wF not Zse))
  | str j=>obtain⟨t',rfl⟩:=ry;exact PySem.EqMixed.ne_bool_str (Zby I q (by simp))
  | _=>exact absurd (show false=true from hs) wL
 | int i=>
  obtain⟨t,rfl⟩:=rx
  cases y with
  | non=>cases ry;exact PySem.EqNone.ne_int_none (Zby I q (by simp))
  | int j=>obtain⟨t',rfl⟩:=ry;exact ne_int (Zby I q (wF not Zov))
  | str j=>obtain⟨t',rfl⟩:=ry;exact PySem.EqMixed.ne_int_str (Zby I q (by simp))
  | _=>exact absurd (show false=true from hs) wL
 | str i=>
  obtain⟨t,rfl⟩:=rx
  cases y with
  | non=>cases ry;exact PySem.EqNone.ne_str_none (Zby I q (by simp))
  | bl j=>cases ry;exact PySem.EqMixed.ne_str_bool (Zby I q (by simp))
  | int j=>obtain⟨t',rfl⟩:=ry;exact PySem.EqMixed.ne_str_int (Zby I q (by simp))
  | str j=>obtain⟨t',rfl⟩:=ry;exact ne_str (Zby I q (wF not Zow))
  | _=>exact absurd (show false=true from hs) wL
 | byt i=>
  obtain⟨t,rfl⟩:=rx
  cases y with
  | byt j=>obtain⟨t',rfl⟩:=ry;exact PySem.W.ne_bytes (Zby I q (wF not Zou))
  | _=>exact absurd (show false=true from hs) wL
 | _=>cases y<;>exact absurd (show false=true from hs) wL
theorem Zlc:OpR X (compareOp .Lt) (rI0 λi j=>.bl (decide (i<j))):=opB0 λ_ _ _ _ _ _ _ q=>lt_int q
theorem Zrd:OpR X (compareOp .LtE) (rI0 λi j=>.bl (decide (i≤j))):=opB0 λ_ _ _ _ _ _ _ q=>le_int q
theorem Ztj:OpR X (compareOp .Gt) (rI0 λi j=>.bl (decide (j<i))):=opB0 λ_ _ _ _ _ _ _ q=>gt_int q
theorem Zv3:OpR X (compareOp .Is) (λx y H Q=>y=.non/\Q (.bl (decide (x=.non))) H):=by
 intro pins s σ H x y v u Q I rx ry h
 obtain⟨rfl,q⟩:=h
 cases ry
 refine is_none_gen (Zby I q ?_)
 cases x<;>first
  | (cases rx;rfl)
  | (obtain⟨t,rfl⟩:=rx;rfl)
theorem Zps:OpR X (compareOp .IsNot) (λx y H Q=>y=.non/\Q (.bl (!decide (x=.non))) H):=by
 intro pins s σ H x y v u Q I rx ry h
 obtain⟨rfl,q⟩:=h
 cases ry
 refine isnot_none_gen (Zby I q ?_)
 cases x<;>first
  | (cases rx;rfl)
  | (obtain⟨t,rfl⟩:=rx;rfl)
theorem OpR.or{f:Value->Value->Sem Value}{r r':R2}(h:OpR X f r)(h':OpR X f r'):OpR X f (λx y H Q=>r x y H Q\/r' x y H Q):=by
 intro pins s σ H x y v u Q I rx ry q
 rcases q with q|q
 ·exact h pins s σ H x y v u Q I rx ry q
 ·exact h' pins s σ H x y v u Q I rx ry q
theorem nomark(b:Expr){op:CmpOp}(h:op≠.In:=by decide)(h2:op≠.NotIn:=by decide):behindInMarks op b=false:=by
 have e1:(op == CmpOp.In)=false:=by cases op<;>first|rfl|exact absurd rfl h
 have e2:(op == CmpOp.NotIn)=false:=by cases op<;>first|rfl|exact absurd rfl h2
 cases b<;>simp[behindInMarks,e1,e2]
theorem Ztm{op:CmpOp}{r:R2}(ho:OpR X (compareOp op) r)(ha:PE X a ta)(hb:PE X b tb)(hm:behindInMarks op b=false):PE X (.Compare a [op] [b] pos) (tOp r ta tb):=by
 intro pins s σ H Q I h
 exact wpAny_Compare1 (binT ha hb I h λv u s2 x y H2 I2 rx ry q=>ho pins s2 σ H2 x y v u Q I2 rx ry q) hm
def tTest(t:TE):TT:=λσ H Q=>t σ H λx H'=>∃k,x=.bl k/\Q k H'
theorem Zu1{op:CmpOp}{r:R2}(ho:OpR X (compareOp op) r)(ha:PE X a ta)(hb:PE X b tb)(hm:behindInMarks op b=false):PT X (.Compare a [op] [b] pos) (tTest (tOp r ta tb)):=by
 intro pins s σ H Q I h
 refine wpAny_isTrue_Compare1 (thn (ha pins s σ H _ I h) λv s1 ⟨x,H1,I1,r1,q1⟩=>thn (hb pins s1 σ H1 _ I1 q1) λu s2 ⟨y,H2,I2,r2,q2⟩=>
  thn (ho pins s2 σ H2 x y v u _ I2 r1 r2 q2) λc s3 ⟨z,H3,I3,r3,k,e,q3⟩=>?_) hm
 subst e
 cases r3
 exact wD ⟨H3,I3,q3⟩
def tChain(r r':R2)(ta tb tc:TE):TE:=λσ H Q=>ta σ H λx H1=>tb σ H1 λy H2=>r x y H2 λz H3=>∃k,z=.bl k /\
 (if k=true then tc σ H3 λw' H4=>r' y w' H4 Q else Q (.bl false) H3)
theorem Zro{op op':CmpOp}{r r':R2}(ho:OpR X (compareOp op) r)(ho':OpR X (compareOp op') r')(ha:PE X a ta)(hb:PE X b tb)(hc:PE X c tc) 
  (hm:lastMarks [op,op'] [b,c]=false:=by with_unfolding_all rfl):PT X (.Compare a [op,op'] [b,c] pos) (tTest (tChain r r' ta tb tc)):=by
 intro pins s σ H Q I h
 refine isTrue_chain (thn (ha pins s σ H _ I h) λv s1 ⟨x,H1,I1,r1,q1⟩=>test_link (thn (hb pins s1 σ H1 _ I1 q1) λu s2 ⟨y,H2,I2,r2,q2⟩=>
  thn (ho pins s2 σ H2 x y v u _ I2 r1 r2 q2) λd s3 ⟨z,H3,I3,r3,k,e,q3⟩=>?_)) hm
 subst e
 cases r3
 refine wD ?_
 cases k with
 | false=>
  obtain⟨k',e',q'⟩:=q3
  cases e'
  exact ite_ff ⟨H3,I3,q'⟩
 | true=>
  refine ite_tt (test_last (thn (hc pins s3 σ H3 _ I3 q3) λw' s4 ⟨z',H4,I4,r4,q4⟩=>thn (ho' pins s4 σ H4 y z' u w' _ I4 r2 r4 q4) λd' s5 ⟨z2,H5,I5,r5,k2,e2,q5⟩=>?_))
  subst e2
  cases r5
  exact wD ⟨H5,I5,q5⟩
def TruV(K:Frag)(x:V)(H:Hp)(k:Bool):Prop:=
 match x with
 | .non=>k=false
 | .bl b=>k=b
 | .int i=>k=(i != 0)
 | .str y=>y.length≤sizeLine/\k=((y.length:Int) != 0)
 | .byt y=>y.size≤sizeLine/\k=((y.size:Int) != 0)
 | .ref p=>(∃xs,SqL K H p xs/\k = !xs.isEmpty)\/(∃xs,SqT K H p xs/\k = !xs.isEmpty)\/∃kvs,H p=some (.dK kvs)/\k = !kvs.isEmpty
 | _=>False
theorem Zny{κ:Type}{kvs:List (κ×V)}{vs:List (κ×Value)}(r:KV kvs vs):(!vs.isEmpty) = !kvs.isEmpty:=by
 cases r<;>rfl
theorem Zjh{xs:List V}{its:List Value}(r:Vals xs its):(!its.toArray.isEmpty) = !xs.isEmpty:=by
 cases r<;>simp
theorem line63:(sizeLine:Nat)<2 ^ 63:=by rw[sizeLine_eq];decide
theorem Zw3:TruR X (λx H Q=>∃k,TruV X.K x H k/\Q k H):=by
 intro pins s σ H x v Q I rx h
 obtain⟨k,e,q⟩:=h
 have hl:=line63
 have hs:sizeLine=16777216:=sizeLine_eq
 cases x with
 | non=>
  cases rx
  have e':k=false:=e
  subst e'
  exact truthy_none ⟨H,I,q⟩
 | bl b=>
  cases rx
  have e':k=b:=e
  subst e'
  exact wD ⟨H,I,q⟩
 | int i=>
  obtain⟨t,rfl⟩:=rx
  have e':k=(i != 0):=e
  subst e'
  exact PySem.P.truthy_int ⟨H,I,q⟩
 | str y=>
  obtain⟨t,rfl⟩:=rx
  obtain⟨hy,e'⟩:y.length≤sizeLine/\k=((y.length:Int) != 0):=e
  subst e'
  exact PySem.P.truthy_str (by omega) ⟨H,I.tok _,q⟩
 | byt y=>
  obtain⟨t,rfl⟩:=rx
  obtain⟨hy,e'⟩:y.size≤sizeLine/\k=((y.size:Int) != 0):=e
  subst e'
  exact PySem.W.truthy_bytes (by omega) ⟨H,I.tok _,q⟩
 | ref p=>
  cases rx
  have e':(∃xs,SqL X.K H p xs/\k = !xs.isEmpty)\/(∃xs,SqT X.K H p xs/\k = !xs.isEmpty)\/∃kvs,H p=some (.dK kvs)/\k = !kvs.isEmpty:=e
  rcases e' with ⟨xs,hx,e'⟩|⟨xs,hx,e'⟩|⟨kvs,hx,e'⟩
  ·subst e'
   obtain⟨its,r,pl,hz⟩:=I.list hx
   have hlen:=r.length
   exact wpAny_truthy_list pl.isList (by simp only[wV];omega) ⟨H,I.tok _,by rw[Zjh r];exact q⟩
  ·subst e'
   obtain⟨its,r,pl,hz⟩:=I.tuple hx
   have hlen:=r.length
   exact truthy_tuple pl (by simp only[wV];omega) ⟨H,I.tok _,by rw[Zjh r];exact q⟩
  ·subst e'
   obtain⟨hz,hS,vs,r,m⟩:kvs.length≤sizeLine/\(p == sysModules)=false/\∃vs,KV kvs vs/\s.heap.DictOf (mixKind X.prog X.w) p vs:=I.hok p _ hx
   have hlen:kvs.length=vs.length:=zH r
   exact wpAny_truthy_dict hS m (by omega) ⟨H,I.tok _,by rw[Zny r];exact q⟩
 | _=>exact(show False from e).elim
theorem Zrp(ha:PE X a ta)(he:∀whole,isTrue a X.env whole=(do let v <- whole;standAt a.pos;holding [v] (truthy v))):
  PT X a (λσ H Q=>ta σ H λx H'=>∃k,TruV X.K x H' k/\Q k H'):=by
 intro pins s σ H Q I h
 exact isTrue_plain (thn (ha pins s σ H _ I h) λv s1 ⟨x,H1,I1,r1,q1⟩=>Zw3 pins s1 σ H1 x v Q I1 r1 q1) (he _)
theorem vals1{x:V}{us:List Value}(r:Vals [x] us):∃u,us=[u]/\RelV x u:=by
 cases r with
 | cons r1 r2=>cases r2;exact⟨_,rfl,r1⟩
theorem vals2{x y:V}{us:List Value}(r:Vals [x,y] us):∃u w',us=[u,w']/\RelV x u/\RelV y w':=by
 cases r with
 | cons r1 r2=>
  cases r2 with
  | cons r3 r4=>cases r4;exact⟨_,_,rfl,r1,r3⟩
theorem Zqu:CallR X (.builtin "abs") (λxs H Q=>∃i,xs=[.int i]/\Q (.int (if i<0 then -i else i)) H):=by
 intro pins s σ H xs us Q I r h
 obtain⟨i,rfl,q⟩:=h
 obtain⟨u,rfl,t,rfl⟩:=vals1 r
 exact call_abs_int λu tk=>⟨.int (if i<0 then -i else i),H,I.tok _,⟨_,rfl⟩,q⟩
theorem Zoi(hc:X.calm=true):CallR X (.builtin "max") (λxs H Q=>∃i j,xs=[.int i,.int j]/\Q (.int (if j > i then j else i)) H):=by
 intro pins s σ H xs us Q I r h
 obtain⟨i,j,rfl,q⟩:=h
 obtain⟨u,w',rfl,⟨t,rfl⟩,⟨t',rfl⟩⟩:=vals2 r
 refine max_two_ints (I.ok.hd hc) λh' tk k=>⟨_,H,I.kept k,?_,q⟩
 by_cases hj:j > i
 ·rw[zI hj,zI hj];exact⟨_,rfl⟩
 ·rw[zJ hj,zJ hj];exact⟨_,rfl⟩
theorem Zok(hc:X.calm=true):CallR X (.builtin "min") (λxs H Q=>∃i j,xs=[.int i,.int j]/\Q (.int (if j<i then j else i)) H):=by
 intro pins s σ H xs us Q I r h
 obtain⟨i,j,rfl,q⟩:=h
 obtain⟨u,w',rfl,⟨t,rfl⟩,⟨t',rfl⟩⟩:=vals2 r
 refine min_two_ints (I.ok.hd hc) λh' tk k=>⟨_,H,I.kept k,?_,q⟩
 by_cases hj:j<i
 ·rw[zI hj,zI hj];exact⟨_,rfl⟩
 ·rw[zJ hj,zJ hj];exact⟨_,rfl⟩
theorem Zko:CallR X (.type "int") (λxs H Q=>(∃i,xs=[.int i]/\Q (.int i) H)\/∃k,xs=[.bl k]/\Q (.int (if k then 1 else 0)) H):=by
 intro pins s σ H xs us Q I r h
 rcases h with ⟨i,rfl,q⟩|⟨k,rfl,q⟩
 ·obtain⟨u,rfl,t,rfl⟩:=vals1 r
  exact call_int_int ⟨.int i,H,I,⟨_,rfl⟩,q⟩
 ·obtain⟨u,rfl,r1⟩:=vals1 r
  cases r1
  exact call_int_bool ⟨.int (if k then 1 else 0),H,I.tok _,⟨_,rfl⟩,q⟩
end
structure ObjM(h:Heap)(x dx C:Addr)(mA:Str->Option Value):Prop where
 obj:h.get? x=some (PySem.W.instObj C dx)
 ns:h.Ns1 dx mA
 ne:dx≠x
theorem Zpo{h:Heap}{dx:Addr}{mA:Str->Option Value}(n:h.Ns1 dx mA):∃od,h.get? dx=some od/\∀name,PySem.W.lookIn name od=some (mA name):=by
 obtain⟨o,es,ep,ho,hd,hk,_,hm⟩:=n
 refine⟨o,ho,λname=>?_⟩
 have e:=hm name
 unfold nsFind findBy at e
 rw[<- Array.find?_toList]at e
 unfold PySem.W.lookIn
 rw[hd]
 dsimp only
 split
 ·rename_i y q
  rw[q]at e
  exact wF some e
 ·rename_i q
  rw[q]at e
  have a:es.toList.any (·.refKey)=false:=by
   rw[List.any_eq_false]
   intro y hy
   obtain⟨z,t,hkey⟩:=hk y (Array.mem_toList_iff.mp hy)
   simp[DictEntry.refKey,hkey]
  have a':¬es.toList.any (·.refKey)=true:=by rw[a];exact wL
  rw[zJ a']
  exact wF some e
theorem ObjM.look{h:Heap}{x dx C:Addr}{mA:Str->Option Value}(I:ObjM h x dx C mA):∃od,PySem.W.InstAt h x (PySem.W.instObj C dx) C (some od)/\∀name,PySem.W.lookIn name od=some (mA name):=
 let ⟨od,ho,hl⟩:=Zpo I.ns
 ⟨od,⟨I.obj,rfl,rfl,ho⟩,hl⟩
section
variable {prog:Program}{w:World}{A:Around}{E:Value->Shared->Prop}{s:Shared}{K:Frag}{x dx C f:Addr}{mA:Str->Option Value}{name:Str}{v:Value}
end
theorem RelO.some_of{v:V}{o:Option Value}(r:RelO (some v) o):∃u,o=some u/\RelV v u:=by
 cases o with
 | none=>exact(show False from r).elim
 | some u=>exact⟨u,rfl,r⟩
section
variable {P:Program}{w:World}{H H':Hp}{h h':Heap}{a C dx:Addr}{fs fs':List (Str×V)}
theorem Ztc(hok:HOk P w H h)(e:H a=some (.ins C dx fs)):∃mA,ObjM h a dx C mA/\(∀f,RelO (fs.lookup f) (mA f))/\PySem.Within mA (fs.map (·.1))/\fs.length≤1000/\H dx=some (.own a):=by
 obtain⟨d,z,ne,ob,mA,n,r,q⟩:=(show ObjOk P w H h a (.ins C dx fs) from hok a _ e)
 exact⟨mA,⟨ob,n,ne⟩,r,q,z,d⟩
end
structure Cls(K:Frag)(C:Addr):Prop where
 pg:PySem.W.plainGet K C Str.empty=true
 hd:PySem.W.hasDictIn K C=true
 po:PySem.W.plainOver K C=true
 sa:PySem.W.findIn K (.ref C) "__setattr__" = some (some (.builtin "object.__setattr__"))
theorem Cls.get{K:Frag}{C:Addr}(c:Cls K C)(f:Str):PySem.W.plainGet K C f=true:=c.pg
section
variable {X:Cx}{pins:List (Addr×Obj)}{σ:St}{H:Hp}{s:Shared}{a C dx:Addr}{fs:List (Str×V)}{f:Str}{v:V}{A:Around}{E:Value->Shared->Prop}
end
section
variable {X:Cx}{o e value:Expr}{f:Str}{pos pos' tpos:Pos}{ta tv:TE}
end
section
variable {X:Cx}{pins:List (Addr×Obj)}{σ:St}{H:Hp}{s:Shared}{A:Around}{E:Value->Shared->Prop}{Q:Value->Shared->Prop}{c:Value}{b:Bool}
inductive TyOf(K:Frag)(H:Hp):V->Value->Prop where
 | non:TyOf K H .non (.type "NoneType")
 | bl (x:Bool):TyOf K H (.bl x) (.type "bool")
 | int (i:Int):TyOf K H (.int i) (.type "int")
 | str (x:Str):TyOf K H (.str x) (.type "str")
 | flt (x:UInt64):TyOf K H (.flt x) (.type "float")
 | lst {a:Addr}{xs:List V} (e:H a=some (.lst xs)):TyOf K H (.ref a) (.type "list")
 | frz {a:Addr}{o:Obj}{xs:List V} (e:H a=some (.frz o (.lst xs))):TyOf K H (.ref a) (.type "list")
 | tup {a:Addr}{xs:List V} (e:H a=some (.tup xs)):TyOf K H (.ref a) (.type "tuple")
 | dK {a:Addr}{kvs:List (Key×V)} (e:H a=some (.dK kvs)):TyOf K H (.ref a) (.type "dict")
 | dT {a:Addr}{kvs:List (List Key×V)} (e:H a=some (.dT kvs)):TyOf K H (.ref a) (.type "dict")
 | ins {a C dx:Addr}{fs:List (Str×V)} (e:H a=some (.ins C dx fs)) (cl:Cls K C) (ha:PySem.W.findIn K (.ref C) "__class__" = some (some (.builtin "object.__class__")))
   (hn:PySem.W.specialIn K (.builtin "object.__class__") "__get__" = some (some (.builtin "getset_descriptor.__get__"))) (htk:PySem.W.takesIn K (.builtin "object.__class__")=some true)
   (hm:PySem.W.mroIn K C (.type "object")=some true):TyOf K H (.ref a) (.ref C)
theorem Zpe{x:V}{u t:Value}(I:Inv X pins σ H s)(rx:RelV x u)(ty:TyOf X.K H x t)(e:PySem.W.kitOne X.K t c=some b)(h:∀tk,Q (.bool b) { s with toks:=tk }):
  wpAny (model X.prog X.w) A (call (.builtin "isinstance") [u,c]) Q E s:=by
 cases ty with
 | non=>cases (show u=Value.none from rx);exact wW PySem.W.kitx_none I.kIn wX e (λz=>nomatch z) h
 | bl y=>cases (show u=Value.bool y from rx);exact wW PySem.W.kitx_bool I.kIn wX e (λz=>nomatch z) h
 | int i=>obtain⟨t,q⟩:=(show ∃t,u=Value.int i t from rx);cases q;exact wW PySem.W.kitx_int I.kIn wX e (λz=>nomatch z) h
 | str y=>obtain⟨t,q⟩:=(show ∃t,u=Value.str y t from rx);cases q;exact wW PySem.W.kitx_str I.kIn wX e (λz=>nomatch z) h
 | flt y=>obtain⟨t,q⟩:=(show ∃t,u=Value.float y t from rx);cases q;exact wW PySem.W.kitx_float I.kIn wX e (λz=>nomatch z) h
 | @lst a xs ea=>
  cases (show u=Value.ref a from rx)
  obtain⟨_,_,n,_,h1⟩:=(show ObjOk X.prog X.w H s.heap a (.lst xs) from I.hok a _ ea)
  exact wW PySem.W.kitx_list I.kIn ⟨_,h1,rfl⟩ e (λz=>nomatch z) h
 | @frz a ob xs ea=>
  cases (show u=Value.ref a from rx)
  obtain⟨_,_,_,n,_,h1⟩:=(show ObjOk X.prog X.w H s.heap a (.frz ob (.lst xs)) from I.hok a _ ea)
  exact wW PySem.W.kitx_list I.kIn ⟨_,h1,rfl⟩ e (λz=>nomatch z) h
 | @tup a xs ea=>
  cases (show u=Value.ref a from rx)
  obtain⟨_,_,_,p⟩:=(show ObjOk X.prog X.w H s.heap a (.tup xs) from I.hok a _ ea)
  obtain⟨o,h1,h2,_⟩:=p
  exact wW PySem.W.kitx_tuple I.kIn ⟨o,h1,h2⟩ e (λz=>nomatch z) h
 | @dK a kvs ea=>
  cases (show u=Value.ref a from rx)
  obtain⟨_,_,vs,_,p⟩:=(show ObjOk X.prog X.w H s.heap a (.dK kvs) from I.hok a _ ea)
  obtain⟨o,es,ep,h1,h2,_⟩:=p
  exact wW PySem.W.kitx_dict I.kIn ⟨o,h1,h2.1⟩ e (λz=>nomatch z) h
 | @dT a kvs ea=>
  cases (show u=Value.ref a from rx)
  obtain⟨_,_,xs,_,o,es,ep,h1,h2,_⟩:=(show ObjOk X.prog X.w H s.heap a (.dT kvs) from I.hok a _ ea)
  exact wW PySem.W.kitx_dict I.kIn ⟨o,h1,h2.1⟩ e (λz=>nomatch z) h
 | @ins a C dx fs ea cl ha hn htk hm=>
  cases (show u=Value.ref a from rx)
  obtain⟨mA,O,_⟩:=Ztc I.hok ea
  obtain⟨od,J,_⟩:=O.look
  exact wW (PySem.W.kitx_own (cl.get _) cl.hd ha hn htk hm) I.kIn J e (λz=>nomatch z) h
end
structure Room(k:Nat)(A:Around):Prop where
 hd:A.handled=none
 dp:A.depth+3*k+5<recursionLimit
 un:A.units+16*k+200<cLine
 gd:A.guards=some []
theorem Room.mono{j k:Nat}{A:Around}(r:Room k A)(h:j≤k):Room j A:=⟨r.hd,by have:=r.dp;omega,by have:=r.un;omega,r.gd⟩
theorem Room.deeper{k:Nat}{A:Around}(r:Room (k+1) A)(env:Env):Room k (A.deeper env):=
 ⟨r.hd,by have:=r.dp;show A.depth+1+3*k+5<_;omega,by have:=r.un;show A.units+3+16*k+200<_;omega,r.gd⟩
theorem Room.in1{k:Nat}{A:Around}(r:Room (k+1) A):Room k A.in1:=
 ⟨r.hd,by have:=r.dp;show A.depth+3*k+5<_;omega,by have:=r.un;show A.units+1+16*k+200<_;omega,r.gd⟩
theorem Room.depth{k:Nat}{A:Around}(r:Room k A):A.depth<recursionLimit:=by have:=r.dp;omega
theorem Room.units{k:Nat}{A:Around}(r:Room k A):A.units+64<cLine:=by have:=r.un;omega
def tNil:TA:=λ_ H Q=>Q [] H
def tCons(ta:TE)(tr:TA):TA:=λσ H Q=>ta σ H λx H1=>tr σ H1 λxs H2=>Q (x::xs) H2
section
variable {X:Cx}{e:Expr}{es:List Expr}{te:TE}{t:TA}{pos:Pos}
theorem Zsp:PA X [] tNil:=λ_ _ _ _ H Q I h=>Calls.spliced_nil ⟨[],H,I,.nil,h⟩
theorem Zpv(ha:PE X e te)(hr:PA X es t)(hs:starEach (e::es) X.env=(false,eval e X.env)::starEach es X.env:=by rfl):PA X (e::es) (tCons te t):=by
 intro pos pins s σ H Q I h
 rw[hs]
 show wpAny _ _ (spliced ((false,eval e X.env)::backTo pos (starEach es X.env))) _ _ s
 refine Calls.spliced_cons (thn (ha pins s σ H _ I h) λu s1 ⟨x,H1,I1,r1,q1⟩=>?_)
 exact thn (hr pos pins s1 σ H1 _ I1 q1) λus s2 ⟨xs,H2,I2,r2,q2⟩=>⟨x::xs,H2,I2,.cons r1 r2,q2⟩
def tTup(t:TA):TE:=λσ H Q=>t σ H λxs H1=>xs.length≤sizeLine/\∀p,H1 p=none->Q (.ref p) (upd H1 p (.tup xs))
def tLst(t:TA):TE:=λσ H Q=>t σ H λxs H1=>xs.length≤sizeLine/\∀p,H1 p=none->Q (.ref p) (upd H1 p (.lst xs))
theorem Zve{x1}(h:PA X es t):PE X (.Tuple es x1 pos) (tTup t):=by
 intro pins s σ H Q I hq
 refine wpAny_Tuple_spliced (thn (h pos pins s σ H _ I hq) λus s1 ⟨xs,H1,I1,r,z,q⟩=>⟨by rw[<- r.length];exact z,?_⟩)
 have hf:H1 s1.heap.objs.size=none:=I1.hok.fresh (wR _)
 refine⟨.ref s1.heap.objs.size,upd H1 s1.heap.objs.size (.tup xs),I1.laid (t':=s1.toks) (λb u e=>wQ _ e) (wR _) ?_,rfl,q _ hf⟩
 exact⟨z,us,r,⟨_,zL _ rfl,rfl,_,rfl,rfl⟩⟩
theorem Zv9(h:PA X es t):PE X (.List es pos) (tLst t):=by
 intro pins s σ H Q I hq
 refine wpAny_List_spliced (thn (h pos pins s σ H _ I hq) λus s1 ⟨xs,H1,I1,r,z,q⟩=>⟨by rw[<- r.length];exact z,?_⟩)
 have hf:H1 s1.heap.objs.size=none:=I1.hok.fresh (wR _)
 refine⟨.ref s1.heap.objs.size,upd H1 s1.heap.objs.size (.lst xs),I1.laid (t':=s1.toks) (λb u e=>wQ _ e) (wR _) ?_,rfl,q _ hf⟩
 exact⟨z,us,0,r,zL _ rfl⟩
end
abbrev Sp:=List V->Hp->VK->XK->Prop
abbrev CXT:=List Env->Hp->Shared->XK->Value->Shared->Prop
structure Env0(P:Program)(w:World)(K:Frag)(mg:Str->Option Value)(base:Heap)(A:Around)(outer:List Env)(s:Shared)(H:Hp):Prop where
 frames:A.frames=some outer
 mod:Mod K mg base
 bs:∀b o,base.get? b=some o->s.heap.get? b=some o/\H b=none
 bsz:base.objs.size≤s.heap.objs.size
 funs:s.heap.FunFrames base outer
 frf:∀b∈frs outer,H b=none
 hok:HOk P w H s.heap
 bare:AllBare s.gens
def CE(outer:List Env)(P:Program)(w:World)(H:Hp)(s:Shared)(Q:VK)(u:Value)(s':Shared):Prop:=
 ∃v H',s'.os=s.os/\AllBare s'.gens/\Un (frs outer) [] H H' s.heap s'.heap/\HOk P w H' s'.heap/\RelV v u/\Q v H'
def CR(CX:CXT)(outer:List Env)(P:Program)(w:World)(H:Hp)(s:Shared)(Q:VK)(E:XK)(r:Result)(s':Shared):Prop:=
 match r with
 | .ok (.ret u)=>CE outer P w H s Q u s'
 | .ok _=>False
 | .error e=>CX outer H s E e s'
structure FnOk(P:Program)(w:World)(K:Frag)(mg:Str->Option Value)(base:Heap)(CX:CXT)(k:Nat)(f:Addr)(fd:FuncData)(ps:List Str)(sp:Sp):Prop where
 len:∀vs H Q E,sp vs H Q E->vs.length=ps.length
 run:∀(A:Around) (outer:List Env) (s:Shared) (H:Hp) (args:Args) (us:List Value) (vs:List V) (Q:VK) (E:XK),Room k A->Env0 P w K mg base A outer s H->BindsTo s fd args (ps.zip us)->Vals vs us->sp vs H Q E ->
  codeAny (model P w) A (.call (.ref f) args) (CR CX outer P w H s Q E) s
theorem FnOk.imp{P:Program}{w:World}{K:Frag}{mg:Str->Option Value}{base:Heap}{CX:CXT}{k:Nat}{f:Addr}{fd:FuncData}{ps:List Str}{sp sp':Sp}(F:FnOk P w K mg base CX k f fd ps sp) 
  (h:∀vs H Q E,sp' vs H Q E->sp vs H Q E):FnOk P w K mg base CX k f fd ps sp':=
 ⟨λvs H Q E q=>F.len vs H Q E (h _ _ _ _ q),λA outer s H args us vs Q E hr he hb hv hs=>F.run A outer s H args us vs Q E hr he hb hv (h _ _ _ _ hs)⟩
section
variable {X:Cx}{pins:List (Addr×Obj)}{σ:St}{H:Hp}{s s':Shared}
theorem Inv.env0(I:Inv X pins σ H s):Env0 X.prog X.w X.K X.mg X.base X.A X.stack s H:=
 ⟨I.ok.frames,I.ok.mod,I.bs,zR I.ok.bsz I.sz,I.stack,I.stkFree,I.hok,I.bare⟩
theorem Inv.after{Q:VK}{u:Value}(I:Inv X pins σ H s)(h:CE X.stack X.prog X.w H s Q u s'):EP X pins σ Q u s':=by
 obtain⟨v,H',os,bare,un,hok,r,q⟩:=h
 obtain⟨hh,g,d,t,os'⟩:=s'
 obtain rfl:os'=s.os:=os
 exact⟨v,H',I.call (h':=hh) (g':=g) (d':=d) (t':=t) (ch:=[]) un hok bare (λb z=>absurd z (by simp)),r,q⟩
end
def tCall(sp:Sp)(dvs:List V)(E:XK)(t:TA):TE:=λσ H Q=>t σ H λvs H1=>sp (vs++dvs) H1 Q E
def Binds(K:Frag)(fd:FuncData)(ps:List Str)(ds:List Value):Prop:=
 ∀(s:Shared) (us:List Value),K.In s.heap->(us++ds).length=ps.length->BindsTo s fd ⟨us,[]⟩ (ps.zip (us++ds))
theorem Binds.all{K:Frag}{fd:FuncData}{ps:List Str}(h:∀us:List Value,us.length=ps.length->bindArgs fd ⟨us,[]⟩=pure (ps.zip us)):Binds K fd ps []:=λs us _ hl=>by
 rw[wY]at hl |-
 exact .of_eq (h us hl)
def Passes(CX:CXT)(X:Cx)(E:XK):Prop:=∀(pins:List (Addr×Obj)) (σ:St) (H:Hp) (s:Shared) (e:Value) (s':Shared),Inv X pins σ H s->CX X.stack H s E e s'->X.xe e s'
section
variable {X:Cx}{CX:CXT}{k:Nat}{f C:Addr}{fd:FuncData}{ps:List Str}{sp:Sp}{dvs:List V}{ds:List Value}{E:XK}{x m:Str}{p pos apos:Pos}{e o:Expr}{es:List Expr}{ta:TE}{t:TA}
theorem Zw0{pins:List (Addr×Obj)}{σ:St}{H:Hp}{s:Shared}{Q:VK}{us:List Value}{vs:List V}(F:FnOk X.prog X.w X.K X.mg X.base CX k f fd ps sp)(hr:Room k X.A)(hb:Binds X.K fd ps ds)(hd:Vals dvs ds)(hx:Passes CX X E) 
  (I:Inv X pins σ H s) (r:Vals vs us) (h:sp (vs++dvs) H Q E):wpAny (model X.prog X.w) X.A (call (.ref f) us) (EP X pins σ Q) X.xe s:=by
 have r2:Vals (vs++dvs) (us++ds):=r.append hd
 have hl:(us++ds).length=ps.length:=by rw[<- r2.length];exact F.len _ _ _ _ h
 refine wpAny_call (wZ (F.run X.A X.stack s H ⟨us,[]⟩ (us++ds) (vs++dvs) Q E hr I.env0 (hb s us I.kIn hl) r2 h) λr s' hq=>?_)
 cases r with
 | error e=>exact hx pins σ H s e s' I hq
 | ok fl=>
  cases fl with
  | ret u=>exact I.after hq
  | next=>exact False.elim hq
  | brk=>exact False.elim hq
  | cont=>exact False.elim hq
theorem Ztl(F:FnOk X.prog X.w X.K X.mg X.base CX k f fd ps sp)(hr:Room k X.A)(hg:Gl X x)(hm:X.mg x=some (.ref f))(hk:PySem.W.keepIn X.K (.ref f)=true)(hb:Binds X.K fd ps ds)(hd:Vals dvs ds)(hx:Passes CX X E) 
  (ha:PA X (e::es) t) (hdb:(x == ("__debug__" : Str))=false:=by decide) (he:starEach (e::es) X.env=(false,eval e X.env)::starEach es X.env:=by rfl) (hpl:(backTo pos (starEach es X.env)).any (·.1)=false:=by rfl) :
  PE X (.Call (.Name x p) (e::es) [] pos) (tCall sp dvs E t):=by
 intro pins s σ H Q I h
 refine vA (Zpl I hg hm ?_ hdb)
 refine PySem.W.callWith_K (h₀:=X.base) I.ok.mod.kin hk (thn (ha pos pins s σ H _ I h) λus s1 ⟨vs,H1,I1,r,q⟩=>⟨I1.kIn,?_⟩) he hpl
 exact Zw0 F hr hb hd hx I1 r q
end
def PK(X:Cx)(kws:List Keyword)(t:TA):Prop:=
 ∀(pos:Pos) (pins:List (Addr×Obj)) (s:Shared) (σ:St) (H:Hp) (Q:List V->Hp->Prop),Inv X pins σ H s->t σ H Q->wpAny (model X.prog X.w) X.A (evalAll ((backToKw pos (keywordEach kws X.env)).map (·.2))) (AP X pins σ Q) X.xe s
section
variable {X:Cx}{CX:CXT}{k:Nat}{f C:Addr}{fd:FuncData}{ps ks:List Str}{sp:Sp}{E:XK}{x m:Str}{p pos apos kpos:Pos}{e o:Expr}{es:List Expr}{kws:List Keyword}{te ta:TE}{t tk:TA}{nm:Option Str}
theorem Zvj:PK X [] tNil:=λ_ _ _ _ H Q I h=>wpAny_evalAll_nil ⟨[],H,I,.nil,h⟩
theorem Ztt(ha:PE X e te)(hr:PK X kws t):PK X (⟨nm,e,kpos⟩::kws) (tCons te t):=by
 intro pos pins s σ H Q I h
 show wpAny _ _ (evalAll ((do let v <- eval e X.env;standAt pos;pure v)::(backToKw pos (keywordEach kws X.env)).map (·.2))) _ _ s
 refine wpAny_evalAll_cons (wH (thn (ha pins s σ H _ I h) λu s1 ⟨x,H1,I1,r1,q1⟩=>wH (wJ (wN ?_))))
 exact thn (hr pos pins s1 σ H1 _ I1 q1) λus s2 ⟨xs,H2,I2,r2,q2⟩=>⟨x::xs,H2,I2,.cons r1 r2,q2⟩
structure KBinds(K:Frag)(fd:FuncData)(ps ks:List Str)(g:List Value->List Value->List Value)(gV:List V->List V->List V):Prop where
 to:∀(s:Shared) (us ws:List Value),K.In s.heap->(g us ws).length=ps.length->BindsTo s fd ⟨us,ks.zip ws⟩ (ps.zip (g us ws))
 rel:∀{vs:List V}{us:List Value}{zs:List V}{ws:List Value},Vals vs us->Vals zs ws->Vals (gV vs zs) (g us ws)
def tCallK(sp:Sp)(gV:List V->List V->List V)(E:XK)(t tk:TA):TE:=λσ H Q=>t σ H λvs H1=>tk σ H1 λzs H2=>sp (gV vs zs) H2 Q E
variable {g:List Value->List Value->List Value}{gV:List V->List V->List V}
theorem Zuf{pins:List (Addr×Obj)}{σ:St}{H:Hp}{s:Shared}{Q:VK}{us ws:List Value}{vs zs:List V}(F:FnOk X.prog X.w X.K X.mg X.base CX k f fd ps sp)(hr:Room k X.A)(hb:KBinds X.K fd ps ks g gV)(hx:Passes CX X E) 
  (I:Inv X pins σ H s) (r:Vals vs us) (rz:Vals zs ws) (h:sp (gV vs zs) H Q E):wpAny (model X.prog X.w) X.A (call (.ref f) us (ks.zip ws)) (EP X pins σ Q) X.xe s:=by
 have r2:=hb.rel r rz
 have hl:(g us ws).length=ps.length:=by rw[<- r2.length];exact F.len _ _ _ _ h
 refine wpAny_call (wZ (F.run X.A X.stack s H ⟨us,ks.zip ws⟩ (g us ws) (gV vs zs) Q E hr I.env0 (hb.to s us ws I.kIn hl) r2 h) λr s' hq=>?_)
 cases r with
 | error e=>exact hx pins σ H s e s' I hq
 | ok fl=>
  cases fl with
  | ret u=>exact I.after hq
  | next=>exact False.elim hq
  | brk=>exact False.elim hq
  | cont=>exact False.elim hq
theorem Zna(F:FnOk X.prog X.w X.K X.mg X.base CX k f fd ps sp)(hr:Room k X.A)(hg:Gl X x)(hm:X.mg x=some (.ref f))(hk:PySem.W.keepIn X.K (.ref f)=true)(hb:KBinds X.K fd ps ks g gV)(hx:Passes CX X E) 
  (ha:PA X (e::es) t) (hkw:PK X kws tk) (hall:(backToKw pos (keywordEach kws X.env)).all (·.1.isSome)=true:=by rfl) (hks:(backToKw pos (keywordEach kws X.env)).filterMap (·.1)=ks:=by rfl)
  (hdb:(x == ("__debug__" : Str))=false:=by decide) (he:starEach (e::es) X.env=(false,eval e X.env)::starEach es X.env:=by rfl)
  (hpl:((backTo pos (starEach (e::es) X.env)).any (·.1)||(backToKw pos (keywordEach kws X.env)).any (·.1.isNone))=false:=by rfl) :
  PE X (.Call (.Name x p) (e::es) kws pos) (tCallK sp gV E t tk):=by
 intro pins s σ H Q I h
 refine vA (Zpl I hg hm ?_ hdb)
 refine PySem.W.callWith_KW (h₀:=X.base) I.ok.mod.kin hk hall (thn (ha pos pins s σ H _ I h) λus s1 ⟨vs,H1,I1,r,q⟩=>?_) hpl he
 refine thn (hkw pos pins s1 σ H1 _ I1 q) λws s2 ⟨zs,H2,I2,rz,q2⟩=>⟨I2.kIn,?_⟩
 rw[hks]
 exact Zuf F hr hb hx I2 r rz q2
end
structure FnScope(N P:List Str)(sc:Scope):Prop where
 kind:sc.kind=.function
 co:sc.isCoroutine=false
 gen:sc.isGenerator=false
 nd:N.Nodup
 pre:N.take P.length=P
 par:∀x∈P,sc.names.lookup x=some .local \/ sc.names.lookup x=some .cell
 nofree:∀y∈sc.names,y.2≠.free
theorem Zkn{kindOf:Str->Option NameKind}{x:Str}:∀{binds:List (Str×Value)}{m:Str->Option Value},(∀v,(x,v) ∉ binds)->bindL kindOf binds m x=m x
 | [],_,_=>rfl
 | (n,v)::r,m,h=>by
  unfold bindL
  rw[Zkn λw hw=>h w (zU _ hw)]
  split
  ·have:x≠n:=by rintro rfl;exact h v zT
   simp[this]
  ·rfl
theorem Zkl{kindOf:Str->Option NameKind}{x:Str}:∀{binds:List (Str×Value)}{m:Str->Option Value},(∀v,(x,v) ∉ binds)->bindC kindOf binds m x=m x
 | [],_,_=>rfl
 | (n,v)::r,m,h=>by
  unfold bindC
  rw[Zkl λw hw=>h w (zU _ hw)]
  split
  ·rfl
  ·have:x≠n:=by rintro rfl;exact h v zT
   simp[this]
theorem Zkm{kindOf:Str->Option NameKind}{x:Str}{v:Value}:∀{P:List Str}{vs:List Value}{i:Nat}{m:Str->Option Value},P.Nodup->P[i]? = some x->vs[i]? = some v->kindOf x=some .local ->
  bindL kindOf (P.zip vs) m x=some v
 | [],_,_,_,_,h,_,_=>by simp at h
 | _::_,[],_,_,_,_,h,_=>by simp at h
 | p::P,w::vs,0,m,nd,h1,h2,hk=>by
  simp at h1 h2;subst h1;subst h2
  show bindL kindOf ((p,w)::P.zip vs) m p=_
  unfold bindL
  rw[Zkn λv hv=>(vB.mp nd).1 (vC hv).1,zI hk]
  simp
 | p::P,w::vs,i+1,m,nd,h1,h2,hk=>by
  show bindL kindOf ((p,w)::P.zip vs) m x=_
  unfold bindL
  exact Zkm (i:=i) (vB.mp nd).2 (by simpa using h1) (by simpa using h2) hk
theorem Zkk{kindOf:Str->Option NameKind}{x:Str}{v:Value}:∀{P:List Str}{vs:List Value}{i:Nat}{m:Str->Option Value},P.Nodup->P[i]? = some x->vs[i]? = some v->kindOf x≠some .local ->
  bindC kindOf (P.zip vs) m x=some v
 | [],_,_,_,_,h,_,_=>by simp at h
 | _::_,[],_,_,_,_,h,_=>by simp at h
 | p::P,w::vs,0,m,nd,h1,h2,hk=>by
  simp at h1 h2;subst h1;subst h2
  show bindC kindOf ((p,w)::P.zip vs) m p=_
  unfold bindC
  rw[Zkl λv hv=>(vB.mp nd).1 (vC hv).1,zJ hk]
  simp
 | p::P,w::vs,i+1,m,nd,h1,h2,hk=>by
  show bindC kindOf ((p,w)::P.zip vs) m x=_
  unfold bindC
  exact Zkk (i:=i) (vB.mp nd).2 (by simpa using h1) (by simpa using h2) hk
def start(N:List Str)(vs:List V):St:=vs.map some++List.replicate (N.length-vs.length) none
def cxOf(CX:CXT)(P:Program)(w:World)(K:Frag)(mg:Str->Option Value)(base:Heap)(N:List Str)(qual:Str)(scope:Scope)(f:Addr)(cd:Value)(A:Around)(outer:List Env)(s:Shared)(H:Hp)(E:XK):Cx where
 prog:=P
 w:=w
 K:=K
 mg:=mg
 base:=base
 A:=A.deeper (envOfC qual scope s.heap.objs.size f cd)
 N:=N
 s₀:=s
 H₀:=H
 env:=envOfC qual scope s.heap.objs.size f cd
 outer:=outer
 stack:=envOfC qual scope s.heap.objs.size f cd::outer
 ex:=[]
 calm:=true
 fn:=λ_=>true
 pn:=[]
 xe:=λe s'=>wpAny (model P w) (A.deeper (envOfC qual scope s.heap.objs.size f cd)) (leaving (envOfC qual scope s.heap.objs.size f cd) e) (λ_ s''=>CX outer H s E e s'') (λe' s''=>CX outer H s E e' s'') s'
theorem Zmq{sc:Scope}{n:Nat}{x:Str}(h:sc.names.lookup x=some .cell):∃c,(cellsFrom n sc.names []).lookup x=some c:=by
 have q:=cellsFrom_some sc.names n [] (.inl h)
 exact vD.mp q
theorem Zpd{CX:CXT}{P:Program}{w:World}{K:Frag}{mg:Str->Option Value}{base:Heap}{N ps:List Str}{qual:Str}{scope:Scope}{f:Addr}{cd:Value}{A:Around}{outer:List Env}{s s1:Shared}{H:Hp}{E:XK}{us:List Value}{vs:List V} 
  (S:FnScope N ps scope) (hd:A.handled=none) (e0:Env0 P w K mg base A outer s H) (hl:vs.length=ps.length) (r:Vals vs us)
  (x:InCallC s s.heap.objs.size (bindL (envOfC qual scope s.heap.objs.size f cd).kindOf (ps.zip us) λ_=>none) (cellsFrom (s.heap.objs.size+1) scope.names []) (bindC (envOfC qual scope s.heap.objs.size f cd).kindOf (ps.zip us) λ_=>none) s1) :
  Inv (cxOf CX P w K mg base N qual scope f cd A outer s H E) [] (start N vs) H s1:=by
 have hpl:ps.length≤N.length:=by have:=wF List.length S.pre;rw[vE]at this;omega
 obtain⟨h1,tk,rfl,hk⟩:=x.done
 have noA:∀b:Addr,b ∉ (cxOf CX P w K mg base N qual scope f cd A outer s H E).ex:=λb z=>absurd (show b∈([]:List Addr) from z) (by simp)
 refine⟨⟨e0.mod,S.kind,rfl,rfl,wR _,λy z c h1 h2=>?_,λy hy=>?_,λy c _ h=>?_,λ_=>hd,Around.frames_deeper e0.frames,.inr ⟨rfl,rfl⟩,λb z=>absurd z (noA b),e0.bs,e0.bsz,λb _ _=>noA b,λb z=>absurd z (noA b),e0.funs,e0.frf⟩,
  rfl,e0.bare,Un.kept hk,⟨_,x.toInCall.ns,λi y v h1 h2 h3=>?_⟩,λy c h=>⟨_,x.cell y c h⟩,e0.hok.fresh (wR _),λy c h=>?_,λp hp=>absurd (show p∈([]:List (Addr×Obj)) from hp) (by simp),e0.hok.kept hk,?_⟩
 ·exact name_of_addr x.apart (vF h1) (vF h2)
 ·have hy:scope.names.lookup y=some .cell\/scope.names.lookup y=some .free:=hy
  rcases hy with hy|hy
  ·exact Zmq hy
  ·exact absurd rfl (S.nofree _ (vF hy))
 ·exact le_of_lt (x.above y c (vF h))
 ·have hi:i<vs.length:=by
   unfold start at h2
   by_cases hi:i<vs.length
   ·exact hi
   ·rw[List.getElem?_append_right (by simpa using hi)]at h2
    rw[List.getElem?_replicate]at h2
    split at h2<;>cases h2
  have ha:vs[i]? = some v:=by
   unfold start at h2
   rw[vG (by simpa using hi),vH]at h2
   cases e:vs[i]? with
   | none=>rw[e]at h2;cases h2
   | some a=>rw[e]at h2;cases h2;rfl
  obtain⟨u,hu,rv⟩:=r.get ha
  have hp:ps[i]? = some y:=by
   rw[<- S.pre,List.getElem?_take_of_lt (by omega)];exact h1
  have ndP:ps.Nodup:=by rw[<- S.pre];exact S.nd.sublist (List.take_sublist _ _)
  refine⟨u,rv,?_⟩
  rcases S.par y (vI hp) with k|k
  ·exact .inl ⟨k,Zkm ndP hp hu k⟩
  ·obtain⟨c,e⟩:=Zmq (n:=s.heap.objs.size+1) k
   refine .inr ⟨.inl k,c,e,?_⟩
   have q:=x.cell y c e
   rw[Zkk ndP hp hu (by show scope.names.lookup y≠_;rw[k];decide)]at q
   exact q
 ·exact e0.hok.fresh (le_of_lt (x.above y c (vF h)))
 ·unfold start
  show _=N.length
  rw[vJ,lmp,List.length_replicate]
  omega
theorem Zt6{CX:CXT}{P:Program}{w:World}{K:Frag}{mg:Str->Option Value}{base:Heap}{k:Nat}{f:Addr}{name qual:Str}{params:Arguments}{body:List Stmt}{scope:Scope}{dV kV doc pm cdv ct oc:Value}{an od:Option Addr} 
  {osl:Array (Option Value)}{N ps:List Str}{sp:Sp} (lk:K.lookup f=some ⟨oc,od,.func (PySem.W.fnOf name qual params body scope dV kV doc pm an cdv ct),osl⟩) (hcd:PySem.W.codeIn K cdv qual=true) (S:FnScope N ps scope)
  (len:∀vs H Q E,sp vs H Q E->vs.length=ps.length)
  (hbody:∀(A:Around) (outer:List Env) (s:Shared) (H:Hp) (vs:List V) (Q:VK) (E:XK),Room k (A.deeper (envOfC qual scope s.heap.objs.size f cdv))->sp vs H Q E ->
   ∃t,PSs (cxOf CX P w K mg base N qual scope f cdv A outer s H E) body t/\t { nx:=λ_ H'=>Q .non H',rt:=Q } (start N vs) H) :
  FnOk P w K mg base CX (k+1) f (PySem.W.fnOf name qual params body scope dV kV doc pm an cdv ct) ps sp:=by
 refine⟨len,λA outer s H args us vs Q E hr e0 hb r hsp=>?_⟩
 have hl:=len _ _ _ _ hsp
 have KX:K.In s.heap:=e0.mod.kin.keeps λb o e=>(e0.bs b o e).1
 have lim:s.heap.NoLimit:=e0.mod.nolimit.keeps λb o e=>(e0.bs b o e).1
 have hkind:∀y∈ps.zip us,scope.names.lookup y.1=some .local \/ (scope.names.lookup y.1=some .cell/\((cellsFrom (s.heap.objs.size+1) scope.names []).lookup y.1).isSome=true):=λ⟨n,v⟩ hy=>by
  rcases S.par n (vC hy).1 with q|q
  ·exact .inl q
  ·exact .inr ⟨q,cellsFrom_some _ _ _ (.inl q)⟩
 refine codeAny_call_function hr.depth (KX _ _ lk) rfl S.co S.gen rfl (PySem.W.codeRec_of KX hcd) (hb _ _ _ _ ?_)
 refine wpAny_newFunctionEnv_cells S.kind hkind λenv he s1 x=>?_
 subst he
 refine⟨lim.keeps x.toInCall.keep,codeAny_func ?_⟩
 obtain⟨t,ht,hq⟩:=hbody A outer s H vs Q E (hr.deeper _) hsp
 have I:Inv (cxOf CX P w K mg base N qual scope f cdv A outer s H E) [] (start N vs) H s1:=Zpd S hr.hd e0 hl r x
 refine wC (ht [] s1 (start N vs) H _ I hq) (λfl s' hs=>?_) λe s' hs=>hs
 have fin:∀{σ':St}{H':Hp}{v:V}{u:Value},Inv (cxOf CX P w K mg base N qual scope f cdv A outer s H E) [] σ' H' s'->RelV v u->Q v H'->CE outer P w H s Q u s':=
  λ{σ' H' v u} J rv q=>⟨v,H',J.os,J.bare,J.base,J.hok,rv,q⟩
 cases fl with
 | ret u=>
  obtain⟨v,σ',H',J,rv,q⟩:=hs
  exact fin J rv q
 | next=>
  obtain⟨σ',H',J,q⟩:=hs
  exact fin (v:=V.non) (u:=Value.none) J rfl q
 | brk=>
  obtain⟨_,_,_,q⟩:=hs
  exact False.elim q
 | cont=>
  obtain⟨_,_,_,q⟩:=hs
  exact False.elim q
section
variable {X:Cx}{x:Str}{p pos:Pos}{e:Expr}{es:List Expr}{t:TA}{id T:String}{r:List V->Hp->VK->Prop}
def tCB(r:List V->Hp->VK->Prop)(t:TA):TE:=λσ H Q=>t σ H λvs H1=>r vs H1 Q
theorem Zre(hc:CallR X (.builtin id) r)(hg:Gl X x)(hm:X.mg x=none)(hv:bootBuiltins x=some (.builtin id))(ha:PA X (e::es) t)(hn:x≠"__name__":=by decide)(hdb:(x == ("__debug__" : Str))=false:=by decide) 
  (he:starEach (e::es) X.env=(false,eval e X.env)::starEach es X.env:=by rfl) (hpl:(backTo pos (starEach es X.env)).any (·.1)=false:=by rfl):PE X (.Call (.Name x p) (e::es) [] pos) (tCB r t):=by
 intro pins s σ H Q I h
 refine vA (Zjj I hg hm hv ?_ hn hdb)
 exact PyProof.Rows.callWith_builtin1 (thn (ha pos pins s σ H _ I h) λus s1 ⟨vs,H1,I1,r1,q1⟩=>hc pins s1 σ H1 vs us Q I1 r1 q1) he hpl
theorem Zpx(hc:CallR X (.type T) r)(hg:Gl X x)(hm:X.mg x=none)(hv:bootBuiltins x=some (.type T))(ha:PA X (e::es) t)(hn:x≠"__name__":=by decide)(hdb:(x == ("__debug__" : Str))=false:=by decide) 
  (he:starEach (e::es) X.env=(false,eval e X.env)::starEach es X.env:=by rfl) (hpl:(backTo pos (starEach es X.env)).any (·.1)=false:=by rfl):PE X (.Call (.Name x p) (e::es) [] pos) (tCB r t):=by
 intro pins s σ H Q I h
 refine vA (Zjj I hg hm hv ?_ hn hdb)
 exact wS (thn (ha pos pins s σ H _ I h) λus s1 ⟨vs,H1,I1,r1,q1⟩=>hc pins s1 σ H1 vs us Q I1 r1 q1) he hpl
end
end L2
namespace HT
open PySem PyProof.Rows
def lexLt:List Int->List Int->Bool
 | [],[]=>false
 | [],_::_=>true
 | _::_,[]=>false
 | x::xs,y::ys=>if x=y then lexLt xs ys else decide (x<y)
section
open PySem.SeqAt
open PySem.AutoSeq1 (wpAny_loadPart')
open PySem.MeetsSeq PySem.MeetsSeq2 PySem.MeetsSeq3
end
section
variable {prog:Program}{w:World}{A:Around}{E:Value->Shared->Prop}{s:Shared}
theorem cat_tup{t b:Addr}{vs ws:List Value}{Q:Value->Shared->Prop}(ht:IsTup s.heap t vs.toArray)(hb:IsTup s.heap b ws.toArray)(hv:vs≠[]) 
  (h1:ws=[]->Q (.ref t) s) (h2:ws≠[]->Q (.ref s.heap.objs.size) { s with heap:=s.heap.push { cls:=.type "tuple",data:=.seq (vs++ws).toArray } })
  (hsz:vs.length+ws.length≤sizeLine):wpAny (model prog w) A (binaryOp .Add (.ref t) (.ref b)) Q E s:=by
 obtain⟨⟨cls,dd,data,sl⟩,ho,hc,n,hd⟩:=id ht
 obtain⟨⟨cls2,dd2,data2,sl2⟩,ho2,hc2,n2,hd2⟩:=id hb
 simp only at hc hd hc2 hd2
 subst hc hd hc2 hd2
 have e:vs.toArray++ws.toArray=(vs++ws).toArray:=by simp
 by_cases hw:ws=[]
 ·exact concat_meets ⟨_,ho,rfl⟩ ⟨_,ho2,rfl⟩ vL seq_tuple_add slot_tuple_add vM (vN _ _)
   (tuple_addW1 t b vs.toArray ws.toArray n n2 dd dd2 sl sl2 (by simpa using hv) (by simp[hw])) ⟨ho,ho2,h1 hw⟩
 ·refine concat_meets ⟨_,ho,rfl⟩ ⟨_,ho2,rfl⟩ vL seq_tuple_add slot_tuple_add vM (vN _ _)
   (tuple_addW2 t b vs.toArray ws.toArray n n2 dd dd2 sl sl2 (by simpa using hv) (by simpa using hw) (by rw[wV,wV];exact hsz)) ⟨ho,ho2,?_⟩
  rw[e]
  exact h2 hw
def sIx(n d:Nat):Option Int->Nat
 | none=>d
 | some v=>if v<0 then(v+(n:Int)).toNat else min v.toNat n
theorem sIx_none(n d:Nat):sIx n d none=d:=rfl
theorem sIx_nat(n d k:Nat):sIx n d (some (k:Int))=min k n:=by
 show(if(k:Int)<0 then((k:Int)+(n:Int)).toNat else min (k:Int).toNat n)=min k n
 rw[zJ (by omega),vO]
theorem Zw1(n d:Nat)(hd:d≤n)(o:Option Int):sIx n d o≤n:=by
 cases o with
 | none=>exact hd
 | some v=>
  show(if v<0 then(v+(n:Int)).toNat else min v.toNat n)≤n
  by_cases hv:v<0
  ·rw[zI hv];omega
  ·rw[zJ hv];exact Nat.min_le_right _ _
theorem Zon(v:Int)(n d:Nat):(if v<0 then max (v+(n:Int)) 0 else min v (n:Int))=((sIx n d (some v):Nat):Int):=by
 show(if v<0 then max (v+(n:Int)) 0 else min v (n:Int))=(((if v<0 then(v+(n:Int)).toNat else min v.toNat n):Nat):Int)
 by_cases hv:v<0
 ·simp only[zI hv];omega
 ·simp only[zJ hv];omega
theorem Znj(lo hi:Option Int)(n:Nat):Builtin.Slice.sliceAdjust lo hi 1 (n:Int)=(((sIx n 0 lo:Nat):Int),((sIx n n hi:Nat):Int)):=by
 have h1:¬((1:Int)<0):=by omega
 unfold Builtin.Slice.sliceAdjust
 simp only[h1,vP]
 refine Prod.ext ?_ ?_
 ·cases lo with
  | none=>rfl
  | some v=>exact Zon v n 0
 ·cases hi with
  | none=>rfl
  | some v=>exact Zon v n n
theorem Zo6(i j:Nat):Builtin.Slice.slicePlaces (i:Int) (j:Int) 1=j-i:=by
 unfold Builtin.Slice.slicePlaces
 have h1:(1:Int) > 0:=by omega
 simp only[h1,vQ,Int.ediv_one]
 split<;>omega
theorem Zjl{v:Value}{o:Option Int}{Q:Option Int->Shared->Prop}(p:IsPart v o)(h:Q o s):wpAny (model prog w) A (Builtin.Slice.slicePartIndex v) Q E s:=by
 cases p with
 | none=>exact slicePart_none h
 | int i t=>exact slicePart_int h
theorem Zfd{sl:Addr}{vl vu:Value}{lo hi:Option Int}{n:Nat}{Q:Int×Int×Nat->Shared->Prop}(hs:s.heap.IsSliceOf sl vl vu .none)(pl:IsPart vl lo)(pu:IsPart vu hi) 
  (h:Q (((sIx n 0 lo:Nat):Int),1,sIx n n hi-sIx n 0 lo) s):wpAny (model prog w) A (Builtin.Slice.sliceApplied (.ref sl) (pure (n:Int))) Q E s:=by
 obtain⟨os,hos,hcs,hds⟩:=id hs
 unfold Builtin.Slice.sliceApplied Builtin.Slice.sliceFields
 refine wH (wH (vR hos hds (x:=vl) rfl (wH (vR hos hds (x:=vu) rfl (wH (vR hos hds (x:=.none) rfl (wN ?_)))))))
 refine wH (slicePart_none ?_)
 show wpAny _ _ (if((1:Int) == 0)=true then _ else _) _ _ s
 rw[zJ (by decide)]
 refine wH (Zjl pl (wH (Zjl pu (wH (wN ?_)))))
 show wpAny _ _ (match Builtin.Slice.sliceAdjust lo hi 1 (n:Int) with|(lo,hi)=>pure (lo,(1:Int),Builtin.Slice.slicePlaces lo hi 1)) _ _ s
 rw[Znj lo hi n]
 show wpAny _ _ (pure (((sIx n 0 lo:Nat):Int),(1:Int),Builtin.Slice.slicePlaces ((sIx n 0 lo:Nat):Int) ((sIx n n hi:Nat):Int) 1)) _ _ s
 rw[Zo6]
 exact wN h
theorem Zrk(xs:Array Value)(i k:Nat):((List.range k).filterMap λ(m:Nat)=>xs[((i:Int)+(m:Int)*1).toNat]?).toArray=((xs.toList.drop i).take k).toArray:=by
 have e:(λ(m:Nat)=>xs[((i:Int)+(m:Int)*1).toNat]?)=λm=>xs[i+m]?:=by
  funext m
  have:((i:Int)+(m:Int)*1).toNat=i+m:=by omega
  rw[this]
 rw[e]
 have:=pick_run xs i k
 rw[List.filterMap_map]at this
 have e2:((λx=>xs[x]?) ∘ λx=>i+x)=λm=>xs[i+m]?:=rfl
 rw[e2]at this
 rw[this]
theorem getItem_tuple_cut{t sl:Addr}{items:Array Value}{vl vu:Value}{lo hi:Option Int}{Q:Value->Shared->Prop}(ht:IsTup s.heap t items)(hs:s.heap.IsSliceOf sl vl vu .none)(pl:IsPart vl lo)(pu:IsPart vu hi) 
  (hw:¬(sIx items.size 0 lo=0/\sIx items.size items.size hi=items.size))
  (h:Q (.ref s.heap.objs.size) { s with heap:=s.heap.push { cls:=.type "tuple",data:=.seq ((items.toList.drop (sIx items.size 0 lo)).take (sIx items.size items.size hi-sIx items.size 0 lo)).toArray } })
  (hsz:items.size≤sizeLine):wpAny (model prog w) A (getItem (.ref t) (.ref sl)) Q E s:=by
 have htake:sizeOk (.seq ((items.toList.drop (sIx items.size 0 lo)).take (sIx items.size items.size hi-sIx items.size 0 lo)).toArray):=by
  show((items.toList.drop (sIx items.size 0 lo)).take (sIx items.size items.size hi-sIx items.size 0 lo)).toArray.size≤sizeLine
  rw[wV,vE,vS,wE]
  omega
 have hj:sIx items.size items.size hi≤items.size:=Zw1 _ _ (wR _) hi
 obtain⟨os,hos,hcs,hds⟩:=id hs
 have hTs:s.TypeIs (.ref sl) "slice":=⟨os,hos,hcs⟩
 unfold getItem
 try with_reducible refine wI ?_
 first|refine wH (wN ?_)|skip
 refine wH (vT ht.typeIs (by decide) ?_)
 refine wH (vU (name:=Str.ofString "__getitem__") ht.typeIs vV
  (vW vV ht.typeIs entry_tuple_getitem ?_ (args_tuple_getitem _ _)))
 show wpAny _ _ (Builtin.Tuple.tupleItemsOf (.ref t)>>=_) _ _ s
 refine wH (tupleItemsOf_ ht ?_)
 refine wH (vX hTs ?_)
 rw[zI (by decide)]
 refine wH (Zfd hs pl pu ?_)
 have hno:¬((((sIx items.size 0 lo:Nat):Int) == 0&&(1:Int) == 1&&(sIx items.size items.size hi-sIx items.size 0 lo) == items.size)=true):=by
  intro q
  rw[vY,vY]at q
  have q1:((sIx items.size 0 lo:Nat):Int)=0:=eq_of_beq q.1.1
  have q2:sIx items.size items.size hi-sIx items.size 0 lo=items.size:=eq_of_beq q.2
  exact hw ⟨by omega,by omega⟩
 show wpAny _ _ (if(((sIx items.size 0 lo:Nat):Int) == 0&&(1:Int) == 1&&(sIx items.size items.size hi-sIx items.size 0 lo) == items.size)=true then _ else _) _ _ s
 rw[zJ hno,Zrk]
 first
  | exact wH (m:=Builtin.Tuple.tupleExact _) (vZ (wN ⟨_,rfl,wN h⟩) htake)
  | exact wH (m:=Builtin.Tuple.tupleExact _) (vZ (wH (wN (wN ⟨_,rfl,wN h⟩))) htake)
  | exact wH (wH (m:=Builtin.Tuple.tupleExact _) (vZ (wN (wN ⟨_,rfl,wN h⟩)) htake))
  | exact wH (wH (m:=Builtin.Tuple.tupleExact _) (vZ (wN ⟨_,rfl,wN h⟩) htake))
end
end HT
namespace L2
open PySem PySem.Spec PyProof.Rows
abbrev TO:=St->Hp->(Option Int->Hp->Prop)->Prop
def PO(X:Cx)(e:Option Expr)(t:TO):Prop:=
 ∀(pins:List (Addr×Obj)) (s:Shared) (σ:St) (H:Hp) (Q:Option Int->Hp->Prop),Inv X pins σ H s->t σ H Q ->
  wpAny (model X.prog X.w) X.A (evalPart e X.env) (λu s'=>∃o H',Inv X pins σ H' s'/\IsPart u o/\Q o H') X.xe s
def tNoPart:TO:=λ_ H Q=>Q none H
def tPart(t:TE):TO:=λσ H Q=>t σ H λx H1=>∃i,x=.int i/\Q (some i) H1
theorem Znx{ns:List Int}:∀{us:List Value},Vals (ns.map V.int) us->IntsAre us ns:=by
 induction ns with
 | nil=>intro us r;rw[uA]at r;cases r;exact .nil
 | cons n ns ih=>
  intro us r
  rw[uB]at r
  cases r with
  | cons r1 r2=>
   obtain⟨t,e⟩:=r1
   subst e
   exact .cons n t (ih r2)
section
variable {X:Cx}{e:Expr}{te:TE}{lo hi:Option Expr}{tl th:TO}{pos p2:Pos}
theorem Ztv:PO X none tNoPart:=by
 intro pins s σ H Q I h
 rw[evalPart_none]
 exact wN ⟨none,H,I,.none,h⟩
theorem Ztw(h:PE X e te):PO X (some e) (tPart te):=by
 intro pins s σ H Q I hw
 rw[evalPart_some]
 refine thn (h pins s σ H _ I hw) λu s1 ⟨x,H1,I1,r1,q1⟩=>?_
 obtain⟨i,rfl,q⟩:=q1
 obtain⟨t,rfl⟩:=r1
 exact⟨some i,H1,I1,.int i t,q⟩
def SlR(X:Cx)(r:V->Option Int->Option Int->Hp->VK->Prop):Prop:=
 ∀(pins:List (Addr×Obj)) (s:Shared) (σ:St) (H:Hp) (x:V) (v vl vu:Value) (lo hi:Option Int) (sl:Addr) (Q:VK),Inv X pins σ H s->RelV x v->s.heap.IsSliceOf sl vl vu .none->IsPart vl lo->IsPart vu hi->r x lo hi H Q ->
  ∃T id,typeLookup (.type T) "__getitem__" = pure (some (.builtin id))/\s.TypeIs v T/\wpAny (model X.prog X.w) X.A (getItem v (.ref sl)) (EP X pins σ Q) X.xe s
theorem SlR.or{r r':V->Option Int->Option Int->Hp->VK->Prop}(h:SlR X r)(h':SlR X r'):SlR X (λx lo hi H Q=>r x lo hi H Q\/r' x lo hi H Q):=by
 intro pins s σ H x v vl vu lo hi sl Q I rx hs pl pu q
 rcases q with q|q
 ·exact h pins s σ H x v vl vu lo hi sl Q I rx hs pl pu q
 ·exact h' pins s σ H x v vl vu lo hi sl Q I rx hs pl pu q
def tSl(r:V->Option Int->Option Int->Hp->VK->Prop)(te:TE)(tl th:TO):TE:=λσ H Q=>te σ H λx H1=>tl σ H1 λl H2=>th σ H2 λu H3=>r x l u H3 Q
theorem Zri{r:V->Option Int->Option Int->Hp->VK->Prop}(hr:SlR X r)(he:PE X e te)(hl:PO X lo tl)(hu:PO X hi th):PE X (.Subscript e (.Slice lo hi none p2) pos) (tSl r te tl th):=by
 intro pins s σ H Q I h
 refine Subscript_ (thn (he pins s σ H _ I h) λv s1 ⟨x,H1,I1,r1,q1⟩=>?_)
 refine wpAny_Slice (thn (hl pins s1 σ H1 _ I1 q1) λvl s2 ⟨l,H2,I2,pl,q2⟩=>thn (hu pins s2 σ H2 _ I2 q2) λvu s3 ⟨u,H3,I3,pu,q3⟩=>?_)
 rw[evalPart_none]
 refine wN ?_
 have I4:Inv X pins σ H3 { s3 with heap:=s3.heap.push { cls:=.type "slice",data:=.fields #[vl,vu,.none] } }:=I3.kept (t':=s3.toks) λb ob q=>wQ _ q
 obtain⟨T,id,hT,ht,hg⟩:=hr pins { s3 with heap:=s3.heap.push { cls:=.type "slice",data:=.fields #[vl,vu,.none] } } σ H3 x v vl vu l u s3.heap.objs.size Q I4 r1 (Heap.IsSliceOf.new ..) pl pu q3
 show wpAny (model X.prog X.w) X.A (subscriptTail e (.Slice lo hi none p2) v (.ref s3.heap.objs.size)) (EP X pins σ Q) X.xe { s3 with heap:=s3.heap.push { cls:=.type "slice",data:=.fields #[vl,vu,.none] } }
 exact tail_any (ops:=[.ref s3.heap.objs.size,v]) ht hT hg (by with_unfolding_all rfl)
def cutV(xs:List V)(lo hi:Option Int):List V:=(xs.drop (HT.sIx xs.length 0 lo)).take (HT.sIx xs.length xs.length hi-HT.sIx xs.length 0 lo)
theorem Zlp(xs:List V)(lo hi:Option Int):(cutV xs lo hi).length≤xs.length:=by
 unfold cutV
 rw[vE,vS]
 omega
def rSlT(K:Frag):V->Option Int->Option Int->Hp->VK->Prop:=λx lo hi H Q=>∃a xs,x=.ref a/\SqT K H a xs /\
 ¬(HT.sIx xs.length 0 lo=0/\HT.sIx xs.length xs.length hi=xs.length)/\∀p,H p=none->Q (.ref p) (upd H p (.tup (cutV xs lo hi)))
theorem Zw2:SlR X (rSlT X.K):=by
 intro pins s σ H x v vl vu lo hi sl Q I rx hs pl pu h
 obtain⟨a,xs,rfl,hx,hw,q⟩:=h
 cases rx
 obtain⟨its,r,ht,hz⟩:=I.tuple hx
 have hlen:its.toArray.size=xs.length:=by rw[wV];exact r.length.symm
 refine⟨"tuple",_,vV.lookup,ht.typeIs,?_⟩
 refine HT.getItem_tuple_cut ht hs pl pu (by rw[hlen];exact hw) ?_ (by rw[hlen];exact hz)
 rw[hlen]
 refine⟨.ref s.heap.objs.size,_,I.laid (t':=s.toks) (o:=.tup (cutV xs lo hi)) (λb ob q=>wQ _ q) (wR _) ?_,rfl,q _ (I.hok.fresh (wR _))⟩
 exact⟨zR (Zlp xs lo hi) hz,_,(r.drop (HT.sIx xs.length 0 lo)).take (HT.sIx xs.length xs.length hi-HT.sIx xs.length 0 lo),IsTu.new _ _⟩
end
def ixN(n:Nat)(i:Int):Option Nat:=if 0≤i then(if i<n then some i.toNat else none) else if -(n:Int)≤i then some (i+n).toNat else none
def atI{α:Type}(xs:List α)(i:Int):Option α:=(ixN xs.length i).bind λj=>xs[j]?
theorem Zpf{n:Nat}{i:Int}{j:Nat}(h:ixN n i=some j):seqIndex? i n=some j/\j<n/\-(n:Int)≤i/\i<n:=by
 unfold ixN at h
 by_cases h0:0≤i
 ·rw[zI h0]at h
  by_cases h1:i<n
  ·rw[zI h1]at h
   have e:i.toNat=j:=zK h
   exact⟨by rw[seqIndex_of h0 h1,e],by omega,by omega,h1⟩
  ·rw[zJ h1]at h;cases h
 ·rw[zJ h0]at h
  by_cases h1:-(n:Int)≤i
  ·rw[zI h1]at h
   have e:(i+n).toNat=j:=zK h
   exact⟨by rw[seqIndex_neg (by omega) h1,e],by omega,h1,by omega⟩
  ·rw[zJ h1]at h;cases h
theorem Zoe{α:Type}{xs:List α}{i:Int}{v:α}(h:atI xs i=some v):∃j,seqIndex? i xs.length=some j/\xs[j]? = some v/\j<xs.length/\-(xs.length:Int)≤i/\i<xs.length:=by
 unfold atI at h
 cases e:ixN xs.length i with
 | none=>rw[e]at h;cases h
 | some j=>
  rw[e]at h
  obtain⟨h1,h2,h3,h4⟩:=Zpf e
  exact⟨j,h1,h,h2,h3,h4⟩
theorem Zcs{α:Type}{xs:List α}{j:Nat}{v:α}(h:xs[j]? = some v):atI xs (j:Int)=some v:=by
 have hj:j<xs.length:=(zZ.mp h).1
 have e:ixN xs.length (j:Int)=some j:=by
  unfold ixN
  rw[zI (by omega),zI (by omega)];simp
 unfold atI;rw[e];exact h
theorem Zqt{α:Type}(xs:List α)(v:α):atI (xs++[v]) (-1)=some v:=by
 have hl:(xs++[v]).length=xs.length+1:=by simp
 have e:ixN (xs++[v]).length (-1)=some xs.length:=by
  unfold ixN
  rw[hl,zJ (by decide),zI (by omega)]
  congr 1
  omega
 unfold atI
 rw[e]
 show(xs++[v])[xs.length]? = some v
 simp
def PlainIx(b:Expr):Prop:=∀o i,subscripted b false o i=operate [o,i] (getItem o i)
def IxR(X:Cx)(r:R2):Prop:=
 ∀(value slice:Expr) (pins:List (Addr×Obj)) (s:Shared) (σ:St) (H:Hp) (x y:V) (v u:Value) (Q:VK),Inv X pins σ H s->RelV x v->RelV y u->r x y H Q ->
  subscripted slice false v u=operate [v,u] (getItem v u)->wpAny (model X.prog X.w) X.A (subscriptTail value slice v u) (EP X pins σ Q) X.xe s
def MtR(X:Cx)(id:String)(r:V->List V->Hp->VK->Prop):Prop:=
 ∀(pins:List (Addr×Obj)) (s:Shared) (σ:St) (H:Hp) (x:V) (xs:List V) (v:Value) (us:List Value) (Q:VK),Inv X pins σ H s->RelV x v->Vals xs us->r x xs H Q ->
  wpAny (model X.prog X.w) X.A (call (.builtin id) (v::us)) (EP X pins σ Q) X.xe s
section
variable {X:Cx}{a b:Expr}{ta tb:TE}{pos:Pos}
theorem IxR.or{r r':R2}(h:IxR X r)(h':IxR X r'):IxR X (λx y H Q=>r x y H Q\/r' x y H Q):=by
 intro value slice pins s σ H x y v u Q I rx ry q hs
 rcases q with q|q
 ·exact h value slice pins s σ H x y v u Q I rx ry q hs
 ·exact h' value slice pins s σ H x y v u Q I rx ry q hs
theorem MtR.or{id:String}{r r':V->List V->Hp->VK->Prop}(h:MtR X id r)(h':MtR X id r'):MtR X id (λx xs H Q=>r x xs H Q\/r' x xs H Q):=by
 intro pins s σ H x xs v us Q I rx rs q
 rcases q with q|q
 ·exact h pins s σ H x xs v us Q I rx rs q
 ·exact h' pins s σ H x xs v us Q I rx rs q
theorem Zwb{r:R2}(hr:IxR X r)(ha:PE X a ta)(hb:PE X b tb)(hs:PlainIx b):PE X (.Subscript a b pos) (tOp r ta tb):=by
 intro pins s σ H Q I h
 exact Subscript_ (binT ha hb I h λv u s2 x y H2 I2 rx ry q=>hr a b pins s2 σ H2 x y v u Q I2 rx ry q (hs _ _))
def rIxL(K:Frag):R2:=λx y H Q=>∃p xs i v,x=.ref p/\y=.int i/\SqL K H p xs/\atI xs i=some v/\Q v H
def rIxT(K:Frag):R2:=λx y H Q=>∃p xs i v,x=.ref p/\y=.int i/\SqT K H p xs/\atI xs i=some v/\Q v H
theorem Zcu:IxR X (rIxL X.K):=by
 intro value slice pins s σ H x y v u Q I rx ry h hs
 obtain⟨p,xs,i,z,rfl,rfl,hq,he,q⟩:=h
 cases rx
 obtain⟨t,rfl⟩:=ry
 obtain⟨its,r,pl,hz⟩:=I.list hq
 obtain⟨j,h1,h2,h3,h4,h5⟩:=Zoe he
 obtain⟨w,ew,rw'⟩:=r.get h2
 have hl:=r.length
 have hn:=line63
 have fin:EP X pins σ Q w s:=⟨z,H,I,rw',q⟩
 by_cases h0:0≤i
 ·have hj:i.toNat=j:=by
   rw[seqIndex_of h0 h5]at h1
   exact zK h1
  exact item_listR pl.isList h0 (by omega) (by rw[hj];simpa using ew) fin hs
 ·have hj:(i+(its.toArray.size:Int)).toNat=j:=by
   rw[seqIndex_neg (by omega) h4]at h1
   rw[wV,<- hl]
   exact zK h1
  exact subscriptTail_builtinR (x:=w) pl.isList.typeIs slot_list_getitem.lookup
   (wpAny_getItem_list_neg (Q:=λr s'=>r=w/\EP X pins σ Q r s') pl.isList (by omega) (by rw[wV]<;>omega) (by omega) (by rw[hj];simpa using ew) ⟨rfl,fin⟩) hs
theorem Zbn:IxR X (rIxT X.K):=by
 intro value slice pins s σ H x y v u Q I rx ry h hs
 obtain⟨p,xs,i,z,rfl,rfl,hq,he,q⟩:=h
 cases rx
 obtain⟨t,rfl⟩:=ry
 obtain⟨its,r,pl,hz⟩:=I.tuple hq
 obtain⟨j,h1,h2,h3,h4,h5⟩:=Zoe he
 obtain⟨w,ew,rw'⟩:=r.get h2
 have hl:=r.length
 have hn:=line63
 have fin:EP X pins σ Q w s:=⟨z,H,I,rw',q⟩
 exact subscriptTail_builtinR (x:=w) pl.typeIs slot_tuple_getitem.lookup
  (getItem_tuple (j:=j) (Q:=λr s'=>r=w/\EP X pins σ Q r s') pl (by omega) (by omega) (by rw[wV,<- hl];exact h1) (by simpa using ew) ⟨rfl,fin⟩) hs
theorem Zo2(its:List Value)(n j:Nat)(u:Value):Obj.mapSeq (·.setIfInBounds j u) { cls:=.type "list",data:=.seq its.toArray n } = { cls:=.type "list",data:=.seq (its.set j u).toArray n }:=by
 simp[Obj.mapSeq]
theorem Inv.lst{pins:List (Addr×Obj)}{σ:St}{H:Hp}{s:Shared}{p:Addr}{xs:List V}(I:Inv X pins σ H s)(h:H p=some (.lst xs)):
  ∃(its:List Value) (n:Nat),Vals xs its/\s.heap.get? p=some { cls:=.type "list",data:=.seq its.toArray n }/\xs.length≤sizeLine:=by
 obtain⟨z,its,n,r,e⟩:=I.hok p _ h
 exact⟨its,n,r,e,z⟩
theorem Inv.lstUpd{pins:List (Addr×Obj)}{σ:St}{H:Hp}{s:Shared}{p:Addr}{xs ys:List V}{its its':List Value}{n n':Nat}{f:Obj->Obj}(I:Inv X pins σ H s)(h:H p=some (.lst xs)) 
  (ho:s.heap.get? p=some { cls:=.type "list",data:=.seq its.toArray n }) (hf:f { cls:=.type "list",data:=.seq its.toArray n } = { cls:=.type "list",data:=.seq its'.toArray n' }) (r:Vals ys its') (hz:ys.length≤sizeLine) (t:Nat) :
  Inv X pins σ (upd H p (.lst ys)) { s with heap:=s.heap.update p f,toks:=t }:=by
 have e:(s.heap.update p f).get? p=some { cls:=.type "list",data:=.seq its'.toArray n' }:=by
  rw[uC f ho (by rw[hf]<;>rfl),hf]
 refine I.write (x:=p) (e:=p) (by rw[h];trivial) (.inl rfl) (λb u hb q=>(Heap.get?_update_other _ _ (zW hb)).trans q) ⟨_,e⟩ ?_
 exact⟨hz,its',n',r,e⟩
def rSetL:V->V->V->Hp->(Hp->Prop)->Prop:=λo i v H Q=>∃p xs k j,o=.ref p/\i=.int k/\H p=some (.lst xs)/\ixN xs.length k=some j/\Q (upd H p (.lst (xs.set j v)))
theorem Znf:PSet X rSetL:=by
 intro pins s σ H o i v ov iv u Q I ro ri rv h
 obtain⟨p,xs,k,j,rfl,rfl,hp,hj,q⟩:=h
 cases ro
 obtain⟨t,rfl⟩:=ri
 obtain⟨its,n,r,ho,hz⟩:=I.lst hp
 obtain⟨h1,h2,h3,h4⟩:=Zpf hj
 have hl:=r.length
 have hn:=line63
 have I':Inv X pins σ (upd H p (.lst (xs.set j v))) { s with heap:=s.heap.update p (Obj.mapSeq (·.setIfInBounds j u)) }:=
  I.lstUpd hp ho (Zo2 its n j u) (r.set rv j) (by rw[List.length_set];exact hz) s.toks
 by_cases h0:0≤k
 ·have hk:k.toNat=j:=by
   rw[seqIndex_of h0 h4]at h1
   exact zK h1
  exact PySem.W.ki_setAt ho h0 (by omega) (by rw[wV,<- hl];exact h4) (by rw[hk];exact⟨_,I',q⟩)
 ·have hk:(k+(its.toArray.size:Int)).toNat=j:=by
   rw[seqIndex_neg (by omega) h3]at h1
   rw[wV,<- hl]
   exact zK h1
  exact PySem.W.ki_setBack ho (by omega) (by rw[wV,<- hl];exact h3) (by omega) (by rw[hk];exact⟨_,I',q⟩)
theorem Zb5:CallR X (.builtin "len") (λxs H Q=>∃p ys,xs=[.ref p]/\(SqL X.K H p ys\/SqT X.K H p ys)/\Q (.int ys.length) H):=by
 intro pins s σ H xs us Q I r h
 obtain⟨p,ys,rfl,hq,q⟩:=h
 obtain⟨u,rfl,rx⟩:=vals1 r
 cases rx
 have hn:=line63
 rcases hq with hq|hq
 ·obtain⟨its,r',pl,hz⟩:=I.list hq
  have hlen:=r'.length
  exact Calls.call_len_list pl.isList (by simp only[wV]<;>omega) ⟨.int ys.length,H,I.tok _,⟨s.toks+1,by rw[wV,hlen]⟩,q⟩
 ·obtain⟨its,r',pl,hz⟩:=I.tuple hq
  have hlen:=r'.length
  exact len_tuple pl (by simp only[wV]<;>omega) ⟨.int ys.length,H,I.tok _,⟨s.toks+1,by rw[wV,hlen]⟩,q⟩
theorem CallR.or{f:Value}{r r':List V->Hp->VK->Prop}(h:CallR X f r)(h':CallR X f r'):CallR X f (λxs H Q=>r xs H Q\/r' xs H Q):=by
 intro pins s σ H xs us Q I rs q
 rcases q with q|q
 ·exact h pins s σ H xs us Q I rs q
 ·exact h' pins s σ H xs us Q I rs q
theorem Zci:CallR X (.type "tuple") (λxs H Q=>∃p ys,xs=[.ref p]/\((SqL X.K H p ys/\∀l,H l=none->Q (.ref l) (upd H l (.tup ys)))\/(SqT X.K H p ys/\Q (.ref p) H))):=by
 intro pins s σ H xs us Q I r h
 obtain⟨p,ys,rfl,h⟩:=h
 obtain⟨u,rfl,rx⟩:=vals1 r
 cases rx
 rcases h with ⟨hq,q⟩|⟨hq,q⟩
 ·obtain⟨its,r',pl,hz⟩:=I.list hq
  have hlen:=r'.length
  refine call_tuple_list pl.isList (λh' kp=>?_) (by simp only[wV]<;>omega)
  have I1:Inv X pins σ H { s with heap:=h' }:=I.kept (t':=s.toks) kp
  have I2:Inv X pins σ (upd H h'.objs.size (.tup ys)) { s with heap:=h'.push { cls:=.type "tuple",data:=.seq its.toArray } }:=
   I1.laid (t':=s.toks) (λb o e=>wQ _ e) (wR _) (show ObjOk X.prog X.w _ _ _ (.tup ys) from⟨hz,its,r',IsTu.new _ _⟩)
  exact⟨.ref h'.objs.size,_,I2,rfl,q _ (I1.hok.fresh (wR _))⟩
 ·obtain⟨its,r',pl,hz⟩:=I.tuple hq
  exact call_tuple_same pl ⟨.ref p,H,I,rfl,q⟩
def tyV(K:Frag)(T:String)(x:V)(H:Hp):Prop:=match x with
 | .str _=>T = "str"
 | .int _=>T = "int"
 | .ref p=>(T = "list"/\∃xs,SqL K H p xs)\/(T = "tuple"/\∃o,K.lookup p=some o/\o.cls=.type "tuple"/\o.dict=none) \/
   (T = "dict"/\((∃kvs,H p=some (.dK kvs))\/∃kvs,H p=some (.dT kvs)))\/(T = "set"/\∃S n,H p=some (.set S n))
 | _=>False
theorem Zw4{pins:List (Addr×Obj)}{σ:St}{H:Hp}{s:Shared}{T:String}{x:V}{v:Value}(I:Inv X pins σ H s)(r:RelV x v)(ty:tyV X.K T x H):
  s.TypeIs v T/\∀a,v=.ref a->∃ob,s.heap.get? a=some ob/\ob.dict=none:=by
 cases x with
 | str z=>
  obtain⟨t,rfl⟩:=r
  cases (show T = "str" from ty)
  exact⟨typeIs_str s z t,λ_ e=>nomatch e⟩
 | int i=>
  obtain⟨t,rfl⟩:=r
  cases (show T = "int" from ty)
  exact⟨typeIs_int s i t,λ_ e=>nomatch e⟩
 | ref p=>
  cases r
  rcases ty with ⟨rfl,xs,hq⟩|⟨rfl,o,hk,hc,hd⟩|⟨rfl,hk⟩|⟨rfl,S,n,hk⟩
  ·obtain⟨its,_,pl,_⟩:=I.list hq
   refine⟨pl.isList.typeIs,λa e=>?_⟩
   cases e
   obtain⟨o,n,e,c,hd,_⟩:=pl
   exact⟨o,e,hd⟩
  ·refine⟨⟨o,I.kIn p o hk,hc⟩,λa e=>?_⟩
   cases e
   exact⟨o,I.kIn _ o hk,hd⟩
  ·have z:∃o,s.heap.get? p=some o/\o.ExactDict:=by
    rcases hk with ⟨kvs,hk⟩|⟨kvs,hk⟩
    ·obtain⟨_,_,_,_,o,_,_,e,ex,_⟩:=I.hok p _ hk
     exact⟨o,e,ex⟩
    ·obtain⟨_,_,_,_,o,_,_,e,ex,_⟩:=I.hok p _ hk
     exact⟨o,e,ex⟩
   obtain⟨o,e,ex⟩:=z
   refine⟨⟨o,e,ex.1⟩,λa e2=>?_⟩
   cases e2
   exact⟨o,e,ex.2.1⟩
  ·obtain⟨o,_,_,_,e,ex,_⟩:=I.hok p _ hk
   refine⟨⟨o,e,ex.1⟩,λa e2=>?_⟩
   cases e2
   exact⟨o,e,ex.2.1⟩
 | _=>exact False.elim ty
def tBM(K:Frag)(T:String)(r:V->List V->Hp->VK->Prop)(to:TE)(t:TA):TE:=λσ H Q=>to σ H λx H1=>tyV K T x H1/\t σ H1 λxs H2=>r x xs H2 Q
variable {o e:Expr}{es:List Expr}{to:TE}{t:TA}{name:Str}{apos cpos:Pos}{T id:String}{r:V->List V->Hp->VK->Prop}
theorem Zwa(pa:PlainAttrs T)(slot:Slot T name id)(hty:typeOf (.builtin id)=pure (.type "method_descriptor"))(hm:MtR X id r)(ho:PE X o to)(ha:PA X (e::es) t) 
  (hbase:attributeBase o name X.env (eval o X.env)=eval o X.env:=by rfl)
  (hfew:((backTo cpos (starEach (e::es) X.env)).all (λx=>!x.1)&&(backToKw cpos (keywordEach [] X.env)).all (λx=>x.1.isSome)
  &&decide ((e::es).length+([]:List Keyword).length+(if([]:List Keyword).isEmpty then 0 else 1)<30))=true:=by rfl)
  (hline:(apos.endLine == cpos.line)=true:=by rfl) (hs:starEach (e::es) X.env=(false,eval e X.env)::starEach es X.env:=by rfl) (hplain:(backTo cpos (starEach es X.env)).any (·.1)=false:=by rfl) :
  PE X (.Call (.Attribute o name apos) (e::es) [] cpos) (tBM X.K T r to t):=by
 intro pins s σ H Q I h
 refine wpAny_Call_method_late hbase hfew hline rfl (thn (ho pins s σ H _ I h) λv s1 ⟨x,H1,I1,r1,ty,q1⟩=>?_)
 obtain⟨h1,h2⟩:=Zw4 I1 r1 ty
 refine⟨T,id,pa,slot,hty,h1,h2,?_⟩
 have hA:=ha cpos pins s1 σ H1 _ I1 q1
 rw[hs]at hA |-
 refine Calls.callWith_builtin (by show(false||(backTo cpos (starEach es X.env)).any (·.1))=false;rw[hplain]<;>rfl) (Calls.evalArgs_plain ?_)
 exact thn hA λus s2 ⟨vs,H2,I2,r2,q2⟩=>hm pins s2 σ H2 x vs v us Q I2 r1 r2 q2
end
def MtM(X:Cx)(id:String)(r:V->List V->Hp->VK->Prop):Prop:=
 ∀(pins:List (Addr×Obj)) (s:Shared) (σ:St) (H:Hp) (x:V) (xs:List V) (v:Value) (us:List Value) (Q:VK),Inv X pins σ H s->RelV x v->Vals xs us->r x xs H Q ->
  wpAny (model X.prog X.w) X.A (call (.builtin id) (v::us)) (EP X pins σ Q) X.xe s
theorem Vals.one:∀{x:V}{us:List Value},Vals [x] us->∃u,us=[u]/\RelV x u
 | _,_,.cons r .nil=>⟨_,rfl,r⟩
theorem Vals.zero:∀{us:List Value},Vals [] us->us=[]
 | _,.nil=>rfl
theorem Vals.reverse{xs:List V}{us:List Value}(h:Vals xs us):Vals xs.reverse us.reverse:=by
 induction h with
 | nil=>exact .nil
 | cons r t ih=>rw[uD,uD];exact Vals.append ih (.cons r .nil)
theorem Vals.rep{xs:List V}{us:List Value}(h:Vals xs us):∀k:Nat,Vals (List.replicate k xs).flatten (List.replicate k us).flatten
 | 0=>.nil
 | k+1=>by
  rw[uE,uE,uF,uF]
  exact Vals.append h (Vals.rep h k)
theorem Zkv(its:List Value):∀(k:Nat) (acc:List Value),
  List.foldl (λx1 x2=>x1++x2) acc.toArray (List.replicate k its.toArray)=(acc++(List.replicate k its).flatten).toArray
 | 0,acc=>by simp
 | k+1,acc=>by
  have e:acc.toArray++its.toArray=(acc++its).toArray:=by simp
  have e2:(acc++its)++(List.replicate k its).flatten=acc++(List.replicate (k+1) its).flatten:=by
   rw[uE,uF,uG]
  rw[<- e2,<- Zkv its k (acc++its),<- e,uE,uH]
section
variable {X:Cx}{pins:List (Addr×Obj)}{σ:St}{H:Hp}{s:Shared}{l b:Addr}{xs ys zs:List V}
theorem Inv.lset{its its':List Value}{n:Nat}{f:Array Value->Array Value}{t':Nat}(I:Inv X pins σ H s)(hH:H l=some (.lst xs)) 
  (e:s.heap.get? l=some { cls:=.type "list",data:=.seq its.toArray n }) (hf:f its.toArray=its'.toArray) (hv:Vals ys its') (hz:ys.length≤sizeLine) :
  Inv X pins σ (upd H l (.lst ys)) { s with heap:=s.heap.update l (Obj.mapSeq f),toks:=t' }:=by
 have q:=PySem.IsL.update e f
 rw[hf]at q
 refine I.write (x:=l) (e:=l) (by rw[hH];exact trivial) (.inl rfl) (λb' u hb hu=>(Heap.get?_update_other s.heap (Obj.mapSeq f) (zW hb)).trans hu) ⟨_,q⟩ ?_
 exact⟨hz,its',_,hv,q⟩
theorem Inv.lnew{its:List Value}{t':Nat}(I:Inv X pins σ H s)(hv:Vals ys its)(hz:ys.length≤sizeLine):
  Inv X pins σ (upd H s.heap.objs.size (.lst ys)) { s with heap:=s.heap.push { cls:=.type "list",data:=.seq its.toArray },toks:=t' }:=
 I.laid (λ_ _ q=>wQ _ q) (wR _) ⟨hz,its,0,hv,zL _ rfl⟩
theorem Inv.fresh(I:Inv X pins σ H s):H s.heap.objs.size=none:=I.hok.fresh (wR _)
theorem Inv.lstM(I:Inv X pins σ H s)(hH:H l=some (.lst xs)):xs.length≤sizeLine/\∃(its:List Value) (n:Nat),Vals xs its/\xs.length=its.length/\s.heap.get? l=some { cls:=.type "list",data:=.seq its.toArray n }:=by
 obtain⟨z,its,n,r,e⟩:=I.hok l _ hH
 exact⟨z,its,n,r,r.length,e⟩
theorem notLongL{n:Nat}(h:n≤sizeLine):Builtin.List.listTooLong n=false:=by
 unfold Builtin.List.listTooLong
 exact zF (by omega)
end
section
variable {X:Cx}
def rAppend:V->List V->Hp->VK->Prop:=λx vs H Q=>∃l xs y,x=.ref l/\vs=[y]/\H l=some (.lst xs)/\xs.length<sizeLine/\Q .non (upd H l (.lst (xs++[y])))
theorem Zcn:MtM X "list.append" rAppend:=by
 intro pins s σ H x vs v us Q I rx rv h
 obtain⟨l,xs,y,rfl,rfl,hH,hz,q⟩:=h
 cases rx
 obtain⟨u,rfl,ru⟩:=rv.one
 obtain⟨z,its,n,r,hl,e⟩:=I.lstM hH
 refine uI F.slot_list_append ⟨_,e,rfl⟩ F.entry_list_append (F.args_list_append_2 _ _) (PySem.list_append l its.toArray n u (by rw[wV];omega)) ⟨e,?_⟩
 refine⟨.non,_,I.lset (its':=its++[u]) hH e (by simp) (r.append (.cons ru .nil)) ?_,rfl,q⟩
 rw[vJ,uJ]
 omega
def rCat:R2:=λx y H Q=>∃l b xs zs,x=.ref l/\y=.ref b/\H l=some (.lst xs)/\H b=some (.lst zs)/\xs.length+zs.length≤sizeLine/\∀p,H p=none->Q (.ref p) (upd H p (.lst (xs++zs)))
theorem Zsn:OpR X (binaryOp .Add) rCat:=by
 intro pins s σ H x y v u Q I rx ry h
 obtain⟨l,b,xs,zs,rfl,rfl,hH,hB,hz,q⟩:=h
 cases rx
 cases ry
 obtain⟨z,its,n,r,hl,e⟩:=I.lstM hH
 obtain⟨z2,its2,n2,r2,hl2,e2⟩:=I.lstM hB
 refine PySem.P.add_list e e2 ?_ (by rw[wV,wV];omega)
 have ea:its.toArray++its2.toArray=(its++its2).toArray:=by simp
 rw[ea]
 exact⟨.ref _,_,I.lnew (t':=s.toks) (r.append r2) (by rw[vJ];omega),rfl,q _ I.fresh⟩
theorem Ztf{α:Type}(xs:List α)(k:Nat):(List.replicate k xs).flatten.length=k*xs.length:=by
 induction k with
 | zero=>simp
 | succ k ih=>rw[uE,uF,vJ,ih,Nat.succ_mul,Nat.add_comm]
end
section
variable {prog:Program}{w:World}{A:Around}{E:Value->Shared->Prop}{s:Shared}
set_option maxRecDepth 100000 in
end
section
variable {X:Cx}
end
end L2
namespace Att
open PySem PySem.W PySem.Calls PyProof.Rows
theorem Zid{P:Params}{h:Heap}:∀(ns:List Int) (vs:List Value),WellAll P h vs (ns.map WData.int)->IntsAre vs ns:=by
 intro ns
 induction ns with
 | nil=>
  intro vs w
  rw[uA]at w
  cases w
  exact .nil
 | cons n ns ih=>
  intro vs w
  rw[uB]at w
  cases w with
  | cons a b=>
   cases a
   exact .cons _ _ (ih _ b)
theorem Zqe{l:OpenLaw}{n:Nat}(hn:l.most=some n){P:Params}{h:Heap}{args:List WData}{vals:List Value} 
  (hpre:l.row.toRowW.claim.pre args=true) (hwl:WellAll P h vals args) :
  ∃a vs ns,vals=[Value.ref a]/\args=[WData.list (ns.map WData.int)]/\h.get? a=some { cls:=.type "list",data:=.seq vs.toArray }/\IntsAre vs ns/\ns.length≤n:=by
 have hsh:WShape.hasAll [] args [.list .int]=true:=(pre_splitW hpre).1
 have hc:l.pre.holds [] { args:=args }=true:=(pre_splitW hpre).2
 obtain⟨d,r,rfl,h1,h2⟩:=hasAllW_cons hsh
 obtain rfl:=hasAllW_nil h2
 obtain⟨xs,rfl,h3⟩:=hasW_list h1
 obtain⟨ns,rfl⟩:=items_int h3
 have hlen:ns.length≤n:=by
  unfold OpenLaw.pre at hc
  have h4:(WTm.not (.lt (.lit (.int (n:Int))) (.len (.arg 0)))).holds [] { args:=[.list (ns.map .int)] }=true:=by
   have h4:=(holds_andW hc).1
   rw[hn]at h4
   exact h4
  have h5:=condW_of h4 (w_not (w_lt w_lit (w_len_list (w_arg rfl))))
  rw[lmp]at h5
  refine Nat.le_of_not_lt λq=>?_
  have q':(n:Int)<((ns.length:Nat):Int):=by omega
  first
   | (rw[decide_eq_true q']at h5;exact absurd h5 (by decide))
   | (simp at h5;omega)
 cases hwl with
 | cons w1 w2=>
  cases w2
  cases w1 with
  | list ho hall=>exact⟨_,_,ns,rfl,rfl,ho,Zid ns _ hall,hlen⟩
theorem Zq0(l:OpenLaw)(args:List WData):l.row.toRowW.claim.post args (.bool true) args=true:=
 postW_of (r:=l.row.toRowW) (X:=(true == true))
  (show WShape.has [] (.bool true) .bool=true by first|rfl|decide|simp[WShape.has,WShape.arms,WShape.armsAll])
  (show(WTm.eq .res (.lit (.bool true))).value [] { args:=args,res:=some (.bool true),after:=args }=some (.bool (true == true)) from w_eq_bool (w_res rfl) w_lit) rfl
theorem attach_call{l:OpenLaw}{n:Nat}{q:Program}{loose:List Str}{XP:(Str->Option Value)->Heap->Prop}{YP:World->Heap->Prop}{d:DefRec} 
  (hn:l.most=some n) (hdf:d.params.defaults=[])
  (call:∀(w:World) (s₀ s₁:Shared) (mg mb:Str->Option Value) (fa:Addr) (o:Obj) (pm cd doc:Value) (a:Addr) (vs:List Value) (ns:List Int),
   Ground q loose [] XP w s₀ mg mb s₁.heap->YP w s₁.heap ->
   s₁.heap.get? fa=some o->o.data=.func (docDef d.name d.params d.body d.scope pm cd doc)->s₁.heap.CodeRec cd d.name->mg d.name=some (.ref fa) ->
   s₁.heap.get? a=some { cls:=.type "list",data:=.seq vs.toArray }->IntsAre vs ns->ns.length≤n->s₁.gens = #[] ->
   codeAny (model l.prog w) callerA (.call (.ref fa) ⟨[.ref a],[]⟩) (λr s'=>r=.ok (.ret (.bool true))/\OldK s₁.heap s'.heap/\s'.os=s₁.os/\AllBare s'.gens) s₁) :
  WalkO q loose XP YP l.row.toRowW d [] (λf vs=>PySem.call f vs):=by
 intro w s₀ s₁ mg mb G Y fa o pm cd doc dV kV ho hd hcd hD hmg hg args vals as hpre hlay hrd hwl hlo
 obtain rfl:dV=.none:=Dflts.none hD hdf
 obtain rfl:kV=.none:=Dflts.noKw hD
 obtain⟨a,vs,ns,rfl,rfl,hobj,hints,hlen⟩:=Zqe hn hpre hwl
 refine enter_call (wZ (call w s₀ s₁ mg mb fa o pm cd doc a vs ns G Y ho (fd_plain hd) hcd hmg hobj hints hlen hg) λr s' hq=>?_)
 obtain⟨rfl,h2,h3,h4⟩:=hq
 exact⟨.inl ⟨.bool true,.bool true,[],rfl,λ_=>rfl,.bool true,Zq0 l _,λ_=>⟨uK,λ_ hm=>(nomatch hm)⟩⟩,h2,h3,h4⟩
section
variable {prog:Program}{w:World}{A:Around}{E:Value->Shared->Prop}{s:Shared}{K:Frag}
end
end Att
namespace L2
open PySem PySem.Spec PyProof.Rows
theorem Zlk:∀{vs:List Value}{ns:List Int},IntsAre vs ns->Vals (ns.map V.int) vs
 | _,_,.nil=>.nil
 | _,_,.cons n t h=>.cons ⟨t,rfl⟩ (Zlk h)
def defArgs(s:Stmt):Arguments:=match s with
 | .FunctionDef _ a _ _ _ _ _ _ _ _=>a
 | _=>{ posonlyargs:=[],args:=[],vararg:=none,kwonlyargs:=[],kw_defaults:=[],kwarg:=none,defaults:=[] }
def defBody(s:Stmt):List Stmt:=match s with
 | .FunctionDef _ _ b _ _ _ _ _ _ _=>b
 | _=>[]
def defScope(s:Stmt):Scope:=match s with
 | .FunctionDef _ _ _ _ _ _ sc _ _ _=>sc
 | _=>{ kind:=.function,names:=[],isGenerator:=false,isCoroutine:=false }
abbrev CX0:CXT:=λ_ _ _ _ _ _=>False
abbrev E0:XK:=λ_ _ _=>False
theorem pass0{X:Cx}:Passes CX0 X E0:=λ_ _ _ _ _ _ _ h=>h.elim
structure Fun(K:Frag)(x qual:Str)(st:Stmt)(f:Addr)(fd:FuncData):Prop where
 ex:∃(oc:Value) (od:Option Addr) (kV doc pm:Value) (an:Option Addr) (cdv ct:Value) (osl:Array (Option Value)),
  fd=PySem.W.fnOf x qual (defArgs st) (defBody st) (defScope st) .none kV doc pm an cdv ct/\K.lookup f=some ⟨oc,od,.func fd,osl⟩/\PySem.W.codeIn K cdv qual=true
 kp:PySem.W.keepIn K (.ref f)=true
section
variable {P:Program}{w:World}{K:Frag}{mg:Str->Option Value}{base:Heap}
theorem Fun.ok{x qual:Str}{st:Stmt}{f:Addr}{fd:FuncData}{N ps:List Str}{k:Nat}{sp:Sp}(F:Fun K x qual st f fd)(S:FnScope N ps (defScope st))(len:∀vs H Q E,sp vs H Q E->vs.length=ps.length) 
  (hbody:∀(cdv:Value) (A:Around) (outer:List Env) (s:Shared) (H:Hp) (vs:List V) (Q:VK) (E:XK),Room k (A.deeper (envOfC qual (defScope st) s.heap.objs.size f cdv))->sp vs H Q E ->
   ∃t,PSs (cxOf CX0 P w K mg base N qual (defScope st) f cdv A outer s H E).nox (defBody st) t/\t { nx:=λ_ H'=>Q .non H',rt:=Q } (start N vs) H):FnOk P w K mg base CX0 (k+1) f fd ps sp:=by
 obtain⟨oc,od,kV,doc,pm,an,cdv,ct,osl,rfl,lk,hcd⟩:=F.ex
 refine Zt6 lk hcd S len λA outer s H vs Q E hr hsp=>?_
 obtain⟨t,h,q⟩:=hbody cdv A outer s H vs Q E hr hsp
 exact⟨t,h.nox,q⟩
theorem Fun.binds{x qual:Str}{st:Stmt}{f:Addr}{fd:FuncData}{ps:List Str}(F:Fun K x qual st f fd) 
  (h:∀(kV doc pm:Value) (an:Option Addr) (cdv ct:Value) (us:List Value),us.length=ps.length->bindArgs (PySem.W.fnOf x qual (defArgs st) (defBody st) (defScope st) .none kV doc pm an cdv ct) ⟨us,[]⟩=pure (ps.zip us)):Binds K fd ps []:=by
 obtain⟨oc,od,kV,doc,pm,an,cdv,ct,osl,rfl,lk,hcd⟩:=F.ex
 exact .all (h kV doc pm an cdv ct)
theorem Zut{x qual:Str}{st:Stmt}{f:Addr}{oc:Value}{od an:Option Addr}{osl:Array (Option Value)}{kV doc pm cdv ct:Value}(l:K.lookup f=some ⟨oc,od,.func (PySem.W.fnOf x qual (defArgs st) (defBody st) (defScope st) .none kV doc pm an cdv ct),osl⟩) 
  (c:PySem.W.codeIn K cdv qual=true) (k:PySem.W.keepIn K (.ref f)=true):Fun K x qual st f (PySem.W.fnOf x qual (defArgs st) (defBody st) (defScope st) .none kV doc pm an cdv ct):=⟨⟨oc,od,kV,doc,pm,an,cdv,ct,osl,rfl,l,c⟩,k⟩
end
theorem Zfm{A:Around}{k:Nat}(hr:Room k A):A.units+1<cLine:=uL (Nat.add_le_add_left (by decide:1≤64) _) hr.units
section
variable {X:Cx}
theorem pv(i:Nat){x:Str}{pos:Pos}(hN:X.N[i]? = some x:=by rfl)(hv:Vis X.env.scope x:=by first|exact uM rfl|exact uN (uM rfl)|exact uN (uN rfl))(hd:(x == ("__debug__" : Str))=false:=by decide) 
  (hcd:(x == ("__classdict__" : Str))=false:=by decide):PE X (.Name x pos) (tVar i):=Zpy hN hv hd hcd
end
theorem ite2{c A B:Prop}[Decidable c](h1:c->A)(h2:¬c->B):if c then A else B:=by
 by_cases h:c
 ·rw[zI h]
  exact h1 h
 ·rw[zJ h]
  exact h2 h
def Same(H H':Hp):Prop:=∀b o,H b=some o->H' b=some o
theorem Same.refl(H:Hp):Same H H:=λ_ _ h=>h
theorem Same.trans{H H1 H2:Hp}(a:Same H H1)(b:Same H1 H2):Same H H2:=λc o h=>b c o (a c o h)
theorem Same.free{H H':Hp}(e:Same H H'){l:Addr}(h:H' l=Option.none):H l=Option.none:=by
 cases q:H l with
 | none=>rfl
 | some o=>
  rw[e l o q]at h
  cases h
theorem Same.seq{K:Frag}{H H':Hp}{a:Addr}{xs:List V}(e:Same H H')(h:SqL K H a xs):SqL K H' a xs:=by
 rcases h with (h|⟨o,h⟩)|h
 ·exact .inl (.inl (e _ _ h))
 ·exact .inl (.inr ⟨o,e _ _ h⟩)
 ·exact .inr h
end L2
set_option maxHeartbeats 4000000
namespace L2
open PySem PySem.Spec PyProof.Rows
abbrev lstO(us:List Value):Obj:={ cls:=.type "list",data:=.seq us.toArray us.length }
def cxComp(X:Cx)(Nc:List Str)(scope:Scope)(cs:List (Str×Addr))(C:Addr)(s:Shared)(H:Hp)(fp:List Addr):Cx where
 prog:=X.prog
 w:=X.w
 K:=X.K
 mg:=X.mg
 base:=X.base
 A:=X.A
 N:=Nc
 s₀:=s
 H₀:=H
 env:=compEnvC scope cs C X.env
 outer:=X.stack
 stack:=X.stack
 ex:=fp
 fn:=λx=>scope.names.lookup x == some .cell
 calm:=X.calm
 pn:=[]
 xe:=λ_ _=>False
def clOf(cells:List (Str×Addr)):List (Str×NameKind)->List (Str×Addr)->List (Str×Addr)
 | [],acc=>acc
 | (n,k)::r,acc=>if k == .free then clOf cells r ((n,(cells.lookup n).getD 0)::acc) else clOf cells r acc
theorem Zfv(cells:List (Str×Addr)):∀(names:List (Str×NameKind)) (acc:List (Str×Addr)),clOf cells names acc=clOf cells names []++acc
 | [],acc=>rfl
 | (n,k)::r,acc=>by
  unfold clOf
  split
  ·rw[Zfv cells r (_::acc),Zfv cells r [_],uG];rfl
  ·exact Zfv cells r acc
theorem Zfg{env:Env}:∀(names:List (Str×NameKind)) (acc:List (Str×Addr)),(∀p∈names,p.2=.free->∃c,env.cells.lookup p.1=some c) ->
  (forIn names acc λ(p:Str×NameKind) (cs:List (Str×Addr))=>(if p.2 == .free then(do let c <- cellOf env p.1;pure (ForInStep.yield ((p.1,c)::cs))) else pure (ForInStep.yield cs):Sem _))=pure (clOf env.cells names acc)
 | [],acc,_=>rfl
 | (n,k)::r,acc,h=>by
  rw[uO]
  have hr:∀p∈r,p.2=.free->∃c,env.cells.lookup p.1=some c:=λp hp=>h p (zU _ hp)
  unfold clOf
  by_cases hk:k=.free
  ·subst hk
   obtain⟨c,hc⟩:=h (n,.free) zT rfl
   have hc':env.cells.lookup n=some c:=hc
   simp only[beq_self_eq_true,vQ,cellOf,hc',pure_bind,Option.getD_some]
   exact Zfg r _ hr
  ·have hb:(k == NameKind.free)=false:=by simpa using hk
   simp only[hb,uP,vP,pure_bind]
   exact Zfg r _ hr
theorem Zjt{scope:Scope}{env:Env}(h:∀p∈scope.names,p.2=.free->∃c,env.cells.lookup p.1=some c):closureFor scope env=pure (clOf env.cells scope.names []):=by
 have e:closureFor scope env=(forIn scope.names [] λ(p:Str×NameKind) (cs:List (Str×Addr))=>(if p.2 == .free then(do let c <- cellOf env p.1;pure (ForInStep.yield ((p.1,c)::cs))) else pure (ForInStep.yield cs):Sem _)):=by
  simp only[closureFor]
  rw[bind_pure]
 rw[e];exact Zfg _ _ h
theorem Zgg{cells:List (Str×Addr)}:∀{names:List (Str×NameKind)}{x:Str}{c:Addr},(∀p∈names,p.2=.free->∃c,cells.lookup p.1=some c)->(x,c)∈clOf cells names []->(x,.free)∈names/\cells.lookup x=some c
 | [],_,_,_,h=>nomatch h
 | (n,k)::r,x,c,hf,h=>by
  have hr:∀p∈r,p.2=.free->∃c,cells.lookup p.1=some c:=λp hp=>hf p (zU _ hp)
  unfold clOf at h
  by_cases hk:k=.free
  ·subst hk
   obtain⟨c0,hc⟩:=hf (n,.free) zT rfl
   have hc':cells.lookup n=some c0:=hc
   rw[zI (by simp),Zfv,hc']at h
   rcases zX.mp h with h|h
   ·obtain⟨a,b⟩:=Zgg hr h
    exact⟨zU _ a,b⟩
   ·have e:(x,c)=(n,c0):=by simpa using h
    cases e
    exact⟨zT,hc'⟩
  ·rw[zJ (by simpa using hk)]at h
   obtain⟨a,b⟩:=Zgg hr h
   exact⟨zU _ a,b⟩
theorem Zmr{cells:List (Str×Addr)}:∀{names:List (Str×NameKind)}{x:Str},(x,.free)∈names->∃c,(x,c)∈clOf cells names []
 | [],_,h=>nomatch h
 | (n,k)::r,x,h=>by
  unfold clOf
  rcases zV.mp h with e|h
  ·cases e
   rw[zI (by simp),Zfv]
   exact⟨_,wT _ zT⟩
  ·obtain⟨c,hc⟩:=Zmr (cells:=cells) h
   split
   ·rw[Zfv];exact⟨c,zY _ hc⟩
   ·exact⟨c,hc⟩
theorem Zf7{α:Type}:∀{l:List (Str×α)}{x:Str}{c:α},(x,c)∈l->∃c',l.lookup x=some c'
 | [],_,_,h=>nomatch h
 | (k,v)::r,x,c,h=>by
  rw[uQ]
  cases hb:x == k with
  | true=>exact⟨v,rfl⟩
  | false=>
   rcases zV.mp h with e|h
   ·cases e;simp at hb
   ·exact Zf7 h
theorem Ze2{α:Type}:∀{l r:List (Str×α)}{x:Str}{c:α},(l++r).lookup x=some c->l.lookup x=some c\/(l.lookup x=none/\r.lookup x=some c)
 | [],r,x,c,h=>.inr ⟨rfl,h⟩
 | (k,v)::l,r,x,c,h=>by
  rw[uR,uQ]at h
  rw[uQ]
  cases hb:x == k with
  | true=>rw[hb]at h;exact .inl h
  | false=>rw[hb]at h;exact Ze2 h
theorem Zbs:∀(names:List (Str×NameKind)) (n:Nat) (acc:List (Str×Addr)),cellsFrom n names acc=cellsFrom n names []++acc
 | [],_,_=>rfl
 | (x,k)::r,n,acc=>by
  unfold cellsFrom
  split
  ·rw[Zbs r (n+1) (_::acc),Zbs r (n+1) [_],uG];rfl
  ·exact Zbs r n acc
theorem Zez:∀{names:List (Str×NameKind)}{n:Nat}{x:Str}{c:Addr},(x,c)∈cellsFrom n names []->(x,.cell)∈names
 | [],_,_,_,h=>nomatch h
 | (y,k)::r,n,x,c,h=>by
  unfold cellsFrom at h
  by_cases hk:k=.cell
  ·subst hk
   rw[zI (by simp),Zbs]at h
   rcases zX.mp h with h|h
   ·exact zU _ (Zez h)
   ·have e:(x,c)=(y,n):=by simpa using h
    cases e
    exact zT
  ·rw[zJ (by simpa using hk)]at h
   exact zU _ (Zez h)
theorem Zem{env:Env}:∀{names:List (Str×NameKind)}{x:Str},
  (names.map λ(p:Str×NameKind)=>if(p.2 == NameKind.free&&env.scope.kind == .function&&env.kindOf p.1 == some .cell) then(p.1,NameKind.cell) else(p.1,p.2)).lookup x =
   (names.lookup x).map λk=>if(k == NameKind.free&&env.scope.kind == .function&&env.kindOf x == some .cell) then .cell else k
 | [],_=>rfl
 | (n,k)::r,x=>by
  have ih:=@Zem env r x
  rw[uB]
  by_cases hc:(k == NameKind.free&&env.scope.kind == .function&&env.kindOf n == some .cell)=true
  ·rw[zI hc]
   cases hx:x == n with
   | true=>
    have e:x=n:=by simpa using hx
    subst e
    rw[uQ,uQ,hx]
    simp only[uS,zI hc]
   | false=>rw[uQ,uQ,hx];exact ih
  ·rw[zJ hc]
   cases hx:x == n with
   | true=>
    have e:x=n:=by simpa using hx
    subst e
    rw[uQ,uQ,hx]
    simp only[uS,zJ hc]
   | false=>rw[uQ,uQ,hx];exact ih
theorem Zht{M:Model}{A:Around}{E:Value->Shared->Prop}{s:Shared}{scope:Scope}{cl:List (Str×Addr)}{env:Env}{Q:Env->Shared->Prop} 
  (hQ:Q (newEnv scope s.heap.objs.size env.globals (cellsFrom (s.heap.objs.size+1) scope.names cl) env.qual none .none (some env) builtinsNs) { s with heap:=pushCells (s.heap.push { cls:=.type "dict",data:=.dict #[] }) scope.names }) :
  wpAny M A (newFunctionEnv scope env.globals cl [] env.qual none .none (some env)) Q E s:=by
 simp only[newFunctionEnv,uT,vQ]
 refine wH (wpAny_alloc ?_)
 refine wH (wpAny_layCells _ (λname kind cells=>by cases hkc:kind == NameKind.cell<;>simp[hkc]) _ _ _ _ ?_)
 rw[show({ s with heap:=s.heap.push { cls:=.type "dict",data:=.dict #[] } }:Shared).heap.objs.size=s.heap.objs.size+1 from uU ..]
 refine wH ?_
 rw[forIn_nil]
 exact wN (wN hQ)
def capOk(X:Cx)(Nc:List Str)(cap:List (Option Nat))(scope:Scope):Bool:=
 (scope.names.all λp=>(p.2 != .free||(X.env.scope.names.lookup p.1 == some .cell||X.env.scope.names.lookup p.1 == some .free))&&(scope.names.lookup p.1 == some p.2)) &&
 (Nc.length == cap.length) &&
 ((Nc.zip cap).all λp=>match p.2 with|none=>true|some j=>(X.N[j]? == some p.1)&&(scope.names.lookup p.1 == some .free))
def capt(cap:List (Option Nat))(σ:St):St:=cap.map λo=>o.bind λj=>(σ[j]?).join
structure CapOk(X:Cx)(Nc:List Str)(cap:List (Option Nat))(scope:Scope):Prop where
 free:∀p∈scope.names,p.2=.free->X.env.kindOf p.1=some .cell\/X.env.kindOf p.1=some .free
 look:∀p∈scope.names,scope.names.lookup p.1=some p.2
 len:Nc.length=cap.length
 take:∀(i:Nat) (x:Str) (j:Nat),Nc[i]? = some x->cap[i]? = some (some j)->X.N[j]? = some x/\scope.names.lookup x=some .free
theorem CapOk.of{X:Cx}{Nc:List Str}{cap:List (Option Nat)}{scope:Scope}(h:capOk X Nc cap scope=true):CapOk X Nc cap scope:=by
 unfold capOk at h
 simp only[vY]at h
 obtain⟨⟨h1,h2⟩,h3⟩:=h
 rw[uV]at h1 h3
 refine⟨λp hp hf=>?_,λp hp=>?_,by simpa using h2,λi x j e1 e2=>?_⟩
 ·have q:=h1 p hp
  simp only[vY,Bool.or_eq_true]at q
  rcases q.1 with q|q|q
  ·rw[hf]at q;simp at q
  ·exact .inl (beq_iff_eq.mp q)
  ·exact .inr (beq_iff_eq.mp q)
 ·have q:=h1 p hp
  simp only[vY]at q
  simpa using q.2
 ·have q:=h3 (x,some j) (by
   refine vI (i:=i) ?_
   rw[uW]
   exact⟨e1,e2⟩)
  simp only[vY]at q
  exact⟨by simpa using q.1,by simpa using q.2⟩
theorem Inv.track{X:Cx}{pins:List (Addr×Obj)}{σ:St}{H:Hp}{s:Shared}{D:Addr}{o:HO}(I:Inv X pins σ H s)(f:FpOk X pins H D)(new:ObjOk X.prog X.w (upd H D o) s.heap D o):Inv X pins σ (upd H D o) s:=by
 obtain⟨f0,f1,f2,f3,f4,f5⟩:=f
 have ne:∀b u,H b=some u->b≠D:=λb u e z=>by rw[z,f0]at e;cases e
 exact I.step (g':=s.gens) (d':=s.drawn) (t':=s.toks) (h':=s.heap) (ch:=[D]) (λb hb=>by
   have e:b=D:=by simpa using hb
   subst e
   exact⟨f3,f1,f4,f5⟩) (λb o _ _ _ e _=>e) (λb o _ _ _ e _=>⟨o.slots,e⟩) (λb o hc _ n=>by rw[Zb3 (λz=>hc (by simp[z]))];exact n) (λb o _ e=>⟨o,e⟩)
  (λb xs e=>by rw[Zb3 (ne b _ e)];exact e) (λb o u e=>by rw[Zb3 (ne b _ e)];exact e) (λb ps e=>⟨#[],by rw[Zb3 (ne b _ e),e];simp⟩) (λm hm=>hm)
  (λb u e=>by
   by_cases hb:b=D
   ·subst hb;rw[Zb2]at e;cases e;exact new
   ·rw[Zb3 hb]at e
    exact(I.hok b u e).stay (λc v _ q=>q) (λc q=>by rw[Zb3 (ne c _ q)];exact q) λc xs q=>by rw[Zb3 (ne c _ q)];exact q) I.bare
theorem Zno{X:Cx}{pins:List (Addr×Obj)}{σ:St}{H:Hp}{s:Shared}{fp:List Addr}{Nc:List Str}{cap:List (Option Nat)}{scope:Scope}(I:Inv X pins σ H s)(hf:∀b∈fp,FpOk X pins H b)(hlt:∀b∈fp,b<s.heap.objs.size) 
  (ok:CapOk X Nc cap scope) (hk:scope.kind=.function) :
  Inv (cxComp X Nc scope (cellsFrom (s.heap.objs.size+2) scope.names (clOf X.env.cells scope.names [])) (s.heap.objs.size+1) s H fp) [] (capt cap σ) H
   { s with heap:=pushCells ((s.heap.push (lstO [])).push { cls:=.type "dict",data:=.dict #[] }) scope.names } /\
  (pushCells ((s.heap.push (lstO [])).push { cls:=.type "dict",data:=.dict #[] }) scope.names).get? s.heap.objs.size=some (lstO []):=by
 generalize hh1:(s.heap.push (lstO []))=h1
 have z1:h1.objs.size=s.heap.objs.size+1:=by rw[<- hh1,uU]
 generalize hh2:(h1.push { cls:=.type "dict",data:=.dict #[] })=h2
 have z2:h2.objs.size=s.heap.objs.size+2:=by rw[<- hh2,uU,z1]
 have up:∀b o,s.heap.get? b=some o->(pushCells h2 scope.names).get? b=some o:=λb o e=>uX _ _ b o (by rw[<- hh2,<- hh1];exact wQ _ (wQ _ e))
 have hD:(pushCells h2 scope.names).get? s.heap.objs.size=some (lstO []):=uX _ _ _ _ (by rw[<- hh2,<- hh1];exact wQ _ (zL _ rfl))
 refine⟨?_,hD⟩
 have hns:(pushCells h2 scope.names).Ns (s.heap.objs.size+1) (λ_=>none):=by
  have q:=Heap.Ns.new h1 (.type "dict")
  rw[hh2,z1]at q
  exact q.keeps λb o e=>uX _ _ b o e
 have okc:=cellsFrom_ok scope.names h2 (s.heap.objs.size+2) [] ⟨λ_ _ hm=>(nomatch hm),uK⟩ (by rw[z2];exact wR _)
 rw[z2]at okc
 have hcl:∀p∈scope.names,p.2=.free->∃c,X.env.cells.lookup p.1=some c:=λp hp e=>I.ok.has p.1 (ok.free p hp e)
 -- a name of the block's cells: its own,or one that is taken
 have cse:∀x c,(cellsFrom (s.heap.objs.size+2) scope.names (clOf X.env.cells scope.names [])).lookup x=some c ->
   ((x,c)∈cellsFrom (s.heap.objs.size+2) scope.names []/\scope.names.lookup x=some .cell/\s.heap.objs.size+2≤c)\/(scope.names.lookup x=some .free/\X.env.cells.lookup x=some c/\c<s.heap.objs.size):=λx c e=>by
  rw[Zbs]at e
  rcases Ze2 e with e|⟨_,e⟩
  ·have m:=vF e
   exact .inl ⟨m,ok.look _ (Zez m),(okc.empty x c m).2⟩
  ·obtain⟨a,b⟩:=Zgg hcl (vF e)
   obtain⟨v,q⟩:=I.cell x c b
   exact .inr ⟨ok.look _ a,b,q.lt⟩
 have kn:∀x,(compEnvC scope (cellsFrom (s.heap.objs.size+2) scope.names (clOf X.env.cells scope.names [])) (s.heap.objs.size+1) X.env).kindOf x=(scope.names.lookup x).map λk=>if(k == NameKind.free&&X.env.scope.kind == .function&&X.env.kindOf x == some .cell) then .cell else k:=λx=>Zem
 have has:∀x,scope.names.lookup x=some .cell\/scope.names.lookup x=some .free->∃c,(cellsFrom (s.heap.objs.size+2) scope.names (clOf X.env.cells scope.names [])).lookup x=some c:=λx h=>by
  rw[Zbs]
  rcases h with h|h
  ·obtain⟨c,hc⟩:=vD.mp (cellsFrom_some scope.names (s.heap.objs.size+2) [] (.inl h))
   exact Zf7 (zY _ (vF hc))
  ·obtain⟨c,hc⟩:=Zmr (cells:=X.env.cells) (vF h)
   exact Zf7 (wT _ hc)
 have kfree:∀x,scope.names.lookup x=some .free->(compEnvC scope (cellsFrom (s.heap.objs.size+2) scope.names (clOf X.env.cells scope.names [])) (s.heap.objs.size+1) X.env).kindOf x=some .cell\/(compEnvC scope (cellsFrom (s.heap.objs.size+2) scope.names (clOf X.env.cells scope.names [])) (s.heap.objs.size+1) X.env).kindOf x=some .free:=λx h=>by
  rw[kn x,h]
  simp only[uS]
  split
  ·exact .inl rfl
  ·exact .inr rfl
 refine⟨⟨I.ok.mod,hk,I.ok.glob,I.ok.blt,uY _,λx y c h1 h2=>?_,λx h=>?_,λx c h1 h2=>?_,I.ok.hd,I.ok.frames,.inl rfl,λb hb=>⟨zP (uZ (hlt b hb)),λx c e=>?_⟩,I.bs,zR I.ok.bsz I.sz,λb o e hb=>?_,λb hb hm=>?_,I.stack,I.stkFree⟩,
  rfl,I.bare,Un.kept up,⟨λ_=>none,hns,λi x v e1 e2 e3=>?_⟩,λx c e=>?_,I.hok.fresh (uY _),λx c e=>?_,λp hp=>absurd (show p∈([]:List (Addr×Obj)) from hp) (by simp),I.hok.kept up,?_⟩
 ·rcases cse x c h1 with ⟨m1,_,l1⟩|⟨_,b1,l1⟩<;>rcases cse y c h2 with ⟨m2,_,l2⟩|⟨_,b2,l2⟩
  ·exact name_of_addr okc.apart m1 m2
  ·exact absurd (zN l2 (zR (yA _ 2) l1)) (zO _)
  ·exact absurd (zN l1 (zR (yA _ 2) l2)) (zO _)
  ·exact I.ok.inj x y c b1 b2
 ·refine has x ?_
  have h':(compEnvC scope (cellsFrom (s.heap.objs.size+2) scope.names (clOf X.env.cells scope.names [])) (s.heap.objs.size+1) X.env).kindOf x=some .cell\/(compEnvC scope (cellsFrom (s.heap.objs.size+2) scope.names (clOf X.env.cells scope.names [])) (s.heap.objs.size+1) X.env).kindOf x=some .free:=h
  rw[kn x]at h'
  cases q:scope.names.lookup x with
  | none=>rw[q]at h';rcases h' with h' | h'<;>cases h'
  | some k=>
   rw[q]at h'
   simp only[uS]at h'
   cases k<;>simp_all
 ·have h1':(scope.names.lookup x == some NameKind.cell)=true:=h1
  rcases cse x c h2 with ⟨_,_,l⟩|⟨q,_,_⟩
  ·exact zR (yA _ 2) l
  ·rw[q]at h1';cases h1'
 ·rcases cse x c e with ⟨_,_,l⟩|⟨_,q,_⟩
  ·have h3:=hlt b hb
   exact λz=>absurd (zN h3 (zR (yA _ 2) (z▸l))) (zO _)
  ·exact(hf b hb).2.2.2.2.1 x c q
 ·rcases(hf b hb).2.2.2.1 with z|z
  ·exact I.ok.noex b o e z
  ·exact absurd (zN (zN (zM e) I.ok.bsz) z) (zO _)
 ·rcases zV.mp (I.stkSub b hm) with z|z
  ·exact(hf b hb).2.1 z
  ·exact(hf b hb).2.2.1 z
 ·-- the names that are taken
  have e2':(cap[i]?).map (λo=>o.bind λj=>(σ[j]?).join)=some (some v):=by
   have:(capt cap σ)[i]? = some (some v):=e2
   unfold capt at this
   rwa [vH]at this
  cases q:cap[i]? with
  | none=>rw[q]at e2';cases e2'
  | some o=>
   rw[q]at e2'
   cases o with
   | none=>cases e2'
   | some j=>
    obtain⟨n1,n2⟩:=ok.take i x j e1 q
    have hj:σ[j]? = some (some v):=by
     have w:(σ[j]?).join=some v:=zK e2'
     cases r:σ[j]? with
     | none=>rw[r]at w;cases w
     | some o=>rw[r]at w;rw[show o=some v from w]
    have vis:Vis X.env.scope x:=by
     rcases ok.free _ (vF n2) rfl with z|z
     ·exact .inr (.inl z)
     ·exact .inr (.inr z)
    obtain⟨m,hn,hl⟩:=I.loc
    obtain⟨u,ru,lk⟩:=hl j x v n1 hj vis
    refine⟨u,ru,.inr ⟨kfree x n2,?_⟩⟩
    obtain⟨c,hc⟩:=has x (.inr n2)
    rcases cse x c hc with ⟨_,w,_⟩|⟨_,w,_⟩
    ·rw[n2]at w;cases w
    ·rcases lk with ⟨k,_⟩|⟨_,c',w',ic⟩
     ·rcases ok.free _ (vF n2) rfl with z|z<;>(have z':X.env.kindOf x=_:=z;rw[k]at z';cases z')
     ·rw[w]at w';cases w'
      obtain⟨oc,ho,hd⟩:=ic
      exact⟨c,hc,oc,up _ _ ho,hd⟩
 ·rcases cse x c e with ⟨m,_,_⟩|⟨_,q,_⟩
  ·exact⟨_,(okc.empty x c m).1⟩
  ·obtain⟨v,oc,ho,hd⟩:=I.cell x c q
   exact⟨v,oc,up _ _ ho,hd⟩
 ·rcases cse x c e with ⟨m,_,l⟩|⟨_,q,_⟩
  ·exact I.hok.fresh (zR (yA _ 2) l)
  ·exact I.freeC x c q
 ·show(capt cap σ).length=Nc.length
  unfold capt
  rw[lmp,ok.len]
def AccOk(Y:Cx)(pins:List (Addr×Obj))(D:Addr)(ys:List V)(H:Hp)(s:Shared):Prop:=FpOk Y pins H D/\ys.length≤sizeLine/\∃us,Vals ys us/\s.heap.get? D=some (lstO us)
abbrev LK:=List V->St->Hp->Prop
abbrev TL:=List V->St->Hp->LK->Prop
def LP(Y:Cx)(pins:List (Addr×Obj))(D:Addr)(Q:LK)(s':Shared):Prop:=∃ys σ H,Inv Y pins σ H s'/\AccOk Y pins D ys H s'/\Q ys σ H
def PL(Y:Cx)(body:Value->Sem Unit)(t:TL):Prop:=
 ∀(D:Addr) (pins:List (Addr×Obj)) (s:Shared) (σ:St) (H:Hp) (ys:List V) (Q:LK),Inv Y pins σ H s->AccOk Y pins D ys H s->t ys σ H Q ->
  wpAny (model Y.prog Y.w) Y.A (body (.ref D)) (λ_ s'=>LP Y pins D Q s') Y.xe s
def testsOf(ifs:List Expr)(env:Env):Sem Bool:=forIn ifs true λc r=>if r=true then do let ok <- isTrue c env (eval c env);pure (ForInStep.yield ok) else pure (ForInStep.yield r)
def PTs(Y:Cx)(ifs:List Expr)(t:TT):Prop:=
 ∀(pins:List (Addr×Obj)) (s:Shared) (σ:St) (H:Hp) (Q:Bool->Hp->Prop),Inv Y pins σ H s->t σ H Q->wpAny (model Y.prog Y.w) Y.A (testsOf ifs Y.env) (TP Y pins σ Q) Y.xe s
def tYes:TT:=λ_ H Q=>Q true H
section
variable {Y:Cx}
theorem Zmg:PTs Y [] tYes:=λpins s σ H Q I h=>wN ⟨H,I,h⟩
theorem AccOk.pin{pins:List (Addr×Obj)}{D:Addr}{ys:List V}{σ:St}{H:Hp}{s:Shared}{us:List Value}(I:Inv Y pins σ H s)(f:FpOk Y pins H D)(e:s.heap.get? D=some (lstO us)):Inv Y (pins++[(D,lstO us)]) σ H s:=
 I.pins_of λp hp=>(zX.mp hp).elim (λz=>I.pin p (wT _ z)) λz=>by
  have z':p=(D,lstO us):=by simpa using z
  subst z'
  exact⟨e,f.1,f.2.1,f.2.2.1,λv q=>by cases q⟩
def tEmit(te:TE):TL:=λys σ H Q=>ys.length<sizeLine/\te σ H λv H'=>Q (ys++[v]) σ H'
def emit(elt:Expr)(env:Env)(acc:Value):Sem Unit:=eval elt env>>=λx=>call (.builtin "list.append") [acc,x]>>=λ_=>pure ()
theorem Zmf{elt:Expr}{te:TE}(he:PE Y elt te):PL Y (emit elt Y.env) (tEmit te):=by
 rintro D pins s σ H ys Q I ⟨f,hz,us,r,e⟩ ⟨hl,h⟩
 have I':=AccOk.pin (ys:=ys) I f e
 refine wH (thn (he _ s σ H _ I' h) λu s1 ⟨v,H1,I1,rv,q⟩=>?_)
 obtain⟨p1,p2,p3,p4,p5⟩:=I1.pin (D,lstO us) (by simp)
 have hlen:=r.length
 refine wH (append_at (hsz:=by rw[wV];omega) p1 λh' sb hD=>wN ⟨ys++[v],σ,H1,?_,⟨⟨p2,f.2⟩,?_,us++[u],r.append (.cons rv .nil),?_⟩,q⟩)
 ·exact I1.unpinned.turned (t':=s1.toks) (λb o hb e=>sb.extBut b o hb e) p2 f.2.1 f.2.2.2.1 f.2.2.2.2.1 f.2.2.2.2.2
 ·rw[vJ,uJ];omega
 ·show h'.get? D=_
  rw[hD]
  show some ({ cls:=.type "list",data:=.seq (us.toArray.push u) (us.length+1) }:Obj)=some { cls:=.type "list",data:=.seq (us++[u]).toArray (us++[u]).length }
  rw[vJ,uJ,List.push_toArray]
def turnOf(tg iter:Expr)(ifs:List Expr)(body:Value->Sem Unit)(c:Code)(it acc:Value)(env:Env):Sem Fin:=
 standAt iter.pos>>=λ_=>pyNext it>>=λr=>match r with
  | none=>pure (.done .next)
  | some v=>letOwnedTupleGo tg it v>>=λ_=>assign tg env v>>=λ_=>testsOf ifs env>>=λok=>if ok=true then(body acc>>=λ_=>again c) else again c
def LTurn(J:It)(g:TG)(tt:TT)(tb:TL)(Q:LK)(W:Nat->List V->Nat->St->Hp->Prop):Prop:=∀i ys m σ H,W i ys m σ H ->
 (J.stop i H/\Q ys σ H)\/(J.go i H/\∃N:LK,(∀ys' σ' H',N ys' σ' H'->∃m',m' < m/\W (i+1) ys' m' σ' H')/\∀x H',J.yld i H x H'->g x σ H' λσ2 H2=>tt σ2 H2 λb H3=>if b=true then tb ys σ2 H3 N else N ys σ2 H3)
theorem Zkq{tg iter:Expr}{ifs:List Expr}{elt:Expr}{gens:List Comprehension}{scope:Scope}{pos:Pos}{d:Nat}{body:Value->Sem Unit}{g:TG}{tt:TT}{tb:TL}{J:It}{fp:List Addr}{it:Addr}{tn:Nat->Heap->Prop}{D:Addr}{Q:LK} 
  {R:Result->Shared->Prop}{W:Nat->List V->Nat->St->Hp->Prop}{pins:List (Addr×Obj)}{s:Shared}{σ:St}{H:Hp}{ys:List V}{m:Nat}
  (hx:∀v s,Y.xe v s->False) (hc:Y.calm=true) (T:Turn Y.prog Y.w Y.K tg J fp it tn) (hg:PG Y tg g) (ht:PTs Y ifs tt) (hb:PL Y body tb)
  (hturn:compTurn (.ListComp elt gens scope pos) d (.ref it) (.ref D) Y.env=turnOf tg iter ifs body (.compLoop (.ListComp elt gens scope pos) d (.ref it) (.ref D) Y.env) (.ref it) (.ref D) Y.env)
  (I:Inv Y pins σ H s) (a:AccOk Y pins D ys H s) (st:tn 0 s.heap) (hf:∀b∈fp,FpOk Y pins H b) (hD:D ∉ fp) (w0:W 0 ys m σ H) (turn:LTurn J g tt tb Q W) (hR:∀s',LP Y pins D Q s'->R (.ok .next) s') :
  codeAny (model Y.prog Y.w) Y.A (.compLoop (.ListComp elt gens scope pos) d (.ref it) (.ref D) Y.env) R s:=by
 refine codeAny_loop rfl (λn s'=>∃i ys σ' H',Inv Y pins σ' H' s'/\AccOk Y pins D ys H' s'/\tn i s'.heap/\(∀b∈fp,H' b=none)/\W i ys n σ' H') ?_ m ⟨0,ys,σ,H,I,a,st,λb hb=>(hf b hb).1,w0⟩
 rintro n s3 ⟨i,ys3,σ3,H3,I3,⟨f3,hz3,us,r3,e3⟩,st3,fr3,w3⟩
 show wpAny _ Y.A ((compTurn (.ListComp elt gens scope pos) d (.ref it) (.ref D) Y.env).onRaise (λx=>do noteFrame x Y.env;theTreesLotGoes x)) _ _ s3
 refine wpAny_noted ?_
 rw[hturn]
 have I3':=AccOk.pin (ys:=ys3) I3 f3 e3
 -- the iterator's records are apart from D
 have stat:∀{H':Hp},(∀b∈fp,H' b=none)->∀b∈fp,FpOk Y (pins++[(D,lstO us)]) H' b:=λhn b hb=>by
  obtain⟨_,q1,q2,q3,q4,q5⟩:=hf b hb
  refine⟨hn b hb,q1,q2,q3,q4,λp hp=>?_⟩
  rcases zX.mp hp with z|z
  ·exact q5 p (zY _ z)
  ·rcases zX.mp z with z|z
   ·exact q5 p (wT _ z)
   ·have z':p=(D,lstO us):=by simpa using z
    subst z'
    exact λy=>hD ((show D=b from y).symm▸hb)
 have no:∀{α:Type}{t:Sem α}{Q1 Q2:α->Shared->Prop}{E:Value->Shared->Prop}{s':Shared},wpAny (model Y.prog Y.w) Y.A t Q1 Y.xe s'->(∀a s,Q1 a s->Q2 a s)->wpAny (model Y.prog Y.w) Y.A t Q2 E s':=λh q=>wC h q λv s x=>(hx v s x).elim
 rcases turn i ys3 n σ3 H3 w3 with ⟨stop,qn⟩|⟨go,N,hN,step⟩
 ·refine wH (wJ (wH (no (T.done Y rfl rfl rfl hc i _ s3 σ3 H3 Y.xe I3' (stat fr3) st3 stop) λr s4 ⟨hr,I4⟩=>?_)))
  subst hr
  obtain⟨p1,p2,_⟩:=I4.pin (D,lstO us) (by simp)
  exact wN (hR _ ⟨ys3,σ3,H3,I4.unpinned,⟨f3,hz3,us,r3,p1⟩,qn⟩)
 ·refine wH (wJ (wH (no (T.item Y rfl rfl rfl hc i _ s3 σ3 H3 Y.xe I3' (stat fr3) st3 go) λr s4 ⟨u,hr,h4⟩=>?_)))
  subst hr
  refine wH (no h4 λ_ s5 ⟨x,H5,I5,r5,y5,st5,fr5⟩=>?_)
  have I5':=I5.pinned (stat fr5) (T.obj _ _ st5)
  refine wH (no (hg _ s5 σ3 H5 x u _ I5' r5 (step x H5 y5)) λ_ s6 ⟨σ6,H6,I6,q6⟩=>?_)
  refine wH (no (ht _ s6 σ6 H6 _ I6 q6) λok s7 ⟨H7,I7,q7⟩=>?_)
  have pD:=I7.pin (D,lstO us) (by simp)
  have I7':Inv Y (pins++pinsAt fp s5.heap) σ6 H7 s7:=I7.pins_of λp hp=>by
   rcases zX.mp hp with z|z
   ·exact I7.pin p (wT _ (zY _ (zY _ z)))
   ·exact I7.pin p (wT _ (wT _ z))
  have a7:AccOk Y (pins++pinsAt fp s5.heap) D ys3 H7 s7:=by
   refine⟨⟨pD.2.1,f3.2.1,f3.2.2.1,f3.2.2.2.1,f3.2.2.2.2.1,λp hp=>?_⟩,hz3,us,r3,pD.1⟩
   rcases zX.mp hp with z|z
   ·exact f3.2.2.2.2.2 p (zY _ z)
   ·rcases zX.mp z with z|z
    ·exact f3.2.2.2.2.2 p (wT _ z)
    ·exact λy=>hD (y▸(Zlb z).1)
  have fin:∀{ys8:List V}{σ8:St}{H8:Hp}{s8:Shared},Inv Y (pins++pinsAt fp s5.heap) σ8 H8 s8->AccOk Y (pins++pinsAt fp s5.heap) D ys8 H8 s8->(∃m',m' < n/\W (i+1) ys8 m' σ8 H8) ->
    ∃m,m<n/\∃i ys σ' H',Inv Y pins σ' H' s8/\AccOk Y pins D ys H' s8/\tn i s8.heap/\(∀b∈fp,H' b=none)/\W i ys m σ' H':=λ{ys8 σ8 H8 s8} I8 a8 ⟨m',hm,w8⟩=>by
   refine⟨m',hm,i+1,ys8,σ8,H8,I8.unpinned,⟨⟨a8.1.1,f3.2⟩,a8.2⟩,T.keep _ _ _ st5 λb hb o e=>(I8.pin (b,o) (wT _ (wT _ (Zg1 hb e)))).1,λb hb=>?_,w8⟩
   obtain⟨o,e,_⟩:=T.obj _ _ st5 b hb
   exact(I8.pin (b,o) (wT _ (wT _ (Zg1 hb e)))).2.1
  cases ok with
  | true=>
   rw[zI rfl]at q7 |-
   refine wH (no (hb D _ s7 σ6 H7 ys3 _ I7' a7 q7) λ_ s8 ⟨ys8,σ8,H8,I8,a8,q8⟩=>?_)
   exact wN ⟨rfl,fin I8 a8 (hN _ _ _ q8)⟩
  | false=>
   rw[zJ wL]at q7 |-
   exact wN ⟨rfl,fin I7' a7 (hN _ _ _ q7)⟩
theorem Zhg{elt tg iter:Expr}{ifs:List Expr}{gens:List Comprehension}{scope:Scope}{pos:Pos}{d:Nat}{it acc:Value}{env:Env}{R:Result->Shared->Prop}{prog:Program}{w:World}{A:Around}{s:Shared}(hd:gens[d]? = some ⟨tg,iter,ifs,0⟩) 
  (h0:codeAny (model prog w) A (.compLoop (.ListComp elt gens scope pos) d it acc env) R s)
  (h:wpAny (model prog w) A (pyIter it) (λit' s'=>codeAny (model prog w) A (.compLoop (.ListComp elt gens scope pos) d it' acc env) R s') (notedBy (model prog w) A env λx s'=>R (.error x) s') s) :
  codeAny (model prog w) A (.compStart (.ListComp elt gens scope pos) d it acc env) R s:=by
 refine codeAny_of_tree ?_
 show wpAny _ _ ((compStart (.ListComp elt gens scope pos) d it acc env).onRaise (λx=>do noteFrame x env;standAt theWindowsPlace)) _ _ s
 refine wpAny_notedAt ?_
 unfold compStart
 simp only[clausesOf,hd,Option.elim]
 show wpAny _ _ (ask>>=_) _ _ s
 refine wH (wpAny_askSetting (wpAny_ite ?_))
 split
 ·first
   | exact wH (wN (wN (And.intro rfl h0)))
   | exact wN (And.intro rfl h0)
 ·first
   | exact wH (yB (wH (wJ (wH (wC h (λit' s' h'=>wN (And.intro rfl h')) λ_ _ x=>x)))))
   | (refine wH (yB ?_);show wpAny _ _ (standAt iter.pos>>=_) _ _ s;exact wH (wJ (wH (wC h (λit' s' h'=>wN (And.intro rfl h')) λ_ _ x=>x))))
def tLoop(wi:TI)(g:TG)(tt:TT)(tb:TL):TL:=λys σ H Q=>wi σ H λJ H1=>∃W:Nat->List V->Nat->St->Hp->Prop,(∃m,W 0 ys m σ H1)/\LTurn J g tt tb Q W
def nest(elt:Expr)(gens:List Comprehension)(scope:Scope)(pos:Pos)(d:Nat)(iter:Expr)(env:Env)(acc:Value):Sem Unit:=
 eval iter env>>=λx=>standAt iter.pos>>=λ_=>foldedSetIterable iter env x>>=λx=>holding [x] (pyIter x)>>=λit=>runOwn (.compStart (.ListComp elt gens scope pos) d it acc env) env>>=λ_=>pure ()
theorem Ztu{elt tg iter:Expr}{ifs:List Expr}{gens:List Comprehension}{scope:Scope}{pos:Pos}{d:Nat}{body:Value->Sem Unit}{wi:TI}{g:TG}{tt:TT}{tb:TL} 
  (hx:∀v s,Y.xe v s->False) (hc:Y.calm=true) (hi:PI Y tg iter wi) (hg:PG Y tg g) (ht:PTs Y ifs tt) (hb:PL Y body tb) (hd:gens[d]? = some ⟨tg,iter,ifs,0⟩)
  (hturn:∀it acc,compTurn (.ListComp elt gens scope pos) d it acc Y.env=turnOf tg iter ifs body (.compLoop (.ListComp elt gens scope pos) d it acc Y.env) it acc Y.env)
  (hs:∀x,foldedSetIterable iter Y.env x=pure x):PL Y (nest elt gens scope pos d iter Y.env) (tLoop wi g tt tb):=by
 rintro D pins s σ H ys Q I ⟨f,hz,us,r,e⟩ h
 have I':=AccOk.pin (ys:=ys) I f e
 refine wH (thn (hi _ s σ H _ I' h) λv s1 h1=>?_)
 refine wH (wJ (wH (yC (hs v) (wH (wI (thn h1 λitv s2 h2=>?_))))))
 obtain⟨it,fp,tn,J,H2,e2,I2,T,st2,f2,W,⟨m0,w0⟩,turn⟩:=h2
 subst e2
 obtain⟨p1,p2,_⟩:=I2.pin (D,lstO us) (by simp)
 have hD:D ∉ fp:=λhb=>(f2 D hb).2.2.2.2.2 (D,lstO us) (by simp) rfl
 have fo:∀b∈fp,FpOk Y pins H2 b:=λb hb=>by
  obtain⟨q0,q1,q2,q3,q4,q5⟩:=f2 b hb
  exact⟨q0,q1,q2,q3,q4,λp hp=>q5 p (by
   rcases zX.mp hp with z|z
   ·exact zY _ z
   ·exact wT _ (zY _ z))⟩
 have loop:codeAny (model Y.prog Y.w) Y.A (.compLoop (.ListComp elt gens scope pos) d (.ref it) (.ref D) Y.env) (λr s'=>match r with
   | .ok f=>wpAny (model Y.prog Y.w) Y.A (pure ():Sem Unit) (λ_ s'=>LP Y pins D Q s') Y.xe s'
   | .error e=>cameBackBy (model Y.prog Y.w) Y.A Y.env Y.xe e s') s2:=
  Zkq hx hc T hg ht hb (hturn _ _) I2.unpinned ⟨⟨p2,f.2⟩,hz,us,r,p1⟩ st2 fo hD w0 turn λs' q=>wN q
 refine wH (wpAny_runOwn ?_)
 rw[Around.mark_none]
 exact Zhg hd loop (T.self _ 0 s2 _ _ st2 loop)
end
section
variable {X:Cx}
def tComp(wi:TI)(cap:List (Option Nat))(g:TG)(tt:TT)(tb:TL):TE:=λσ H Q=>wi σ H λJ H1=>∃W:Nat->List V->Nat->St->Hp->Prop,(∃m,W 0 [] m (capt cap σ) H1)/\LTurn J g tt tb (λys _ H'=>∀p,H' p=none->Q (.ref p) (upd H' p (.lst ys))) W
theorem Zi3{elt tg iter:Expr}{ifs:List Expr}{rest:List Comprehension}{scope:Scope}{pos p0:Pos}{Nc:List Str}{cap:List (Option Nat)}{body:Env->Value->Sem Unit}{wi:TI}{g:TG}{tt:TT}{tb:TL}{use:Option (Value->Sem Unit)}{Q:Value->Shared->Prop} 
  {pins:List (Addr×Obj)}{s:Shared}{σ:St}{H:Hp}{P:VK}
  (hk:scope.kind=.function) (hc:X.calm=true) (hi:PI X tg iter wi) (ok:capOk X Nc cap scope=true)
  (hg:∀cs C s H fp,PG (cxComp X Nc scope cs C s H fp) tg g) (ht:∀cs C s H fp,PTs (cxComp X Nc scope cs C s H fp) ifs tt) (hb:∀cs C s H fp,PL (cxComp X Nc scope cs C s H fp) (body (compEnvC scope cs C X.env)) tb)
  (hturn:∀it acc env,compTurn (.ListComp elt (⟨tg,iter,ifs,0⟩::rest) scope pos) 0 it acc env=turnOf tg iter ifs (body env) (.compLoop (.ListComp elt (⟨tg,iter,ifs,0⟩::rest) scope pos) 0 it acc env) it acc env)
  (hs:∀x,foldedSetIterable iter X.env x=pure x) (I:Inv X pins σ H s) (h:tComp wi cap g tt tb σ H P)
  (hend:∀(D C:Addr) (H':Hp) (s':Shared),Inv X pins σ H' s'->FpOk X pins H' D->FpOk X pins H' C->C≠D->(∃m,s'.heap.Ns C m)->(∃ys us,Vals ys us/\ys.length≤sizeLine/\s'.heap.get? D=some (lstO us)/\P (.ref D) (upd H' D (.lst ys))) ->
   compPost (model X.prog X.w) X.A X.xe use Q (.ref D) C (.ok .next) s') :
  wpAny (model X.prog X.w) X.A (comprehension (.ListComp elt (⟨tg,iter,ifs,0⟩::rest) scope pos) scope X.env p0 (newList []) false (eval iter X.env) use) Q X.xe s:=by
 have okc:=CapOk.of ok
 have hcl:∀p∈scope.names,p.2=.free->∃c,X.env.cells.lookup p.1=some c:=λp hp e=>I.ok.has p.1 (okc.free p hp e)
 refine wpAny_comprehension_free rfl hs (Zjt hcl) hk (λp hp e=>by rw[okc.look p hp,e]) (thn (hi pins s σ H _ I h) λv s1 h1=>thn h1 λitv s2 h2=>?_)
 obtain⟨it,fp,tn,J,H2,e2,I2,T,st2,f2,W,⟨m0,w0⟩,turn⟩:=h2
 subst e2
 refine vZ (Zht ?_)
 dsimp only
 have z:(s2.heap.push { cls:=.type "list",dict:=none,data:=.seq ([]:List Value).toArray }).objs.size=s2.heap.objs.size+1:=uU ..
 rw[z]
 have hlt:∀b∈fp,b<s2.heap.objs.size:=λb hb=>by obtain⟨o,e,_⟩:=T.obj _ _ st2 b hb;exact zM e
 obtain⟨J3,hD⟩:=Zno I2 f2 hlt okc hk
 generalize hcs:cellsFrom (s2.heap.objs.size+2) scope.names (clOf X.env.cells scope.names [])=cs at J3
 generalize hY:cxComp X Nc scope cs (s2.heap.objs.size+1) s2 H2 fp=Y at J3
 have up:∀b o,s2.heap.get? b=some o->(pushCells ((s2.heap.push (lstO [])).push { cls:=.type "dict",data:=.dict #[] }) scope.names).get? b=some o:=λb o e=>uX _ _ b o (wQ _ (wQ _ e))
 have st3:tn 0 (pushCells ((s2.heap.push (lstO [])).push { cls:=.type "dict",data:=.dict #[] }) scope.names):=T.keep _ _ _ st2 λb _ o e=>up b o e
 -- the new list's place
 have fD:FpOk X pins H2 s2.heap.objs.size:=I2.fpOk (wR _) (I2.hok.fresh (wR _))
 have fC:FpOk X pins H2 (s2.heap.objs.size+1):=I2.fpOk (uY _) (I2.hok.fresh (uY _))
 have cse:∀x c,cs.lookup x=some c->c<s2.heap.objs.size\/s2.heap.objs.size+2≤c:=λx c e=>by
  rw[<- hcs,Zbs]at e
  have okz:=cellsFrom_ok scope.names ((s2.heap.push (lstO [])).push { cls:=.type "dict",data:=.dict #[] }) (s2.heap.objs.size+2) [] ⟨λ_ _ hm=>(nomatch hm),uK⟩ (by rw[uU,uU];exact wR _)
  rw[uU,uU]at okz
  rcases Ze2 e with e|⟨_,e⟩
  ·exact .inr (okz.empty x c (vF e)).2
  ·obtain⟨_,b⟩:=Zgg hcl (vF e)
   obtain⟨v,q⟩:=I2.cell x c b
   exact .inl q.lt
 have fDY:FpOk Y [] H2 s2.heap.objs.size:=by
  rw[<- hY]
  refine⟨fD.1,zP (yD _),λhm=>?_,.inr (wR _),λx c e q=>?_,λp hp=>absurd (show p∈([]:List (Addr×Obj)) from hp) (by simp)⟩
  ·rcases zV.mp (I2.stkSub _ hm) with q|q
   ·exact fD.2.1 q
   ·exact fD.2.2.1 q
  ·rcases cse x c e with l|l
   ·rw[q]at l;exact absurd l (zO _)
   ·rw[q]at l;exact absurd (zN (uZ (yD _)) l) (zO _)
 have fpY:∀b∈fp,FpOk Y [] H2 b:=λb hb=>by
  rw[<- hY]
  obtain⟨q0,q1,q2,q3,q4,q5⟩:=f2 b hb
  have hb':=hlt b hb
  refine⟨q0,zP (uZ hb'),λhm=>?_,.inl hb,λx c e q=>?_,λp hp=>absurd (show p∈([]:List (Addr×Obj)) from hp) (by simp)⟩
  ·rcases zV.mp (I2.stkSub _ hm) with q|q
   ·exact q1 q
   ·exact q2 q
  ·rw[<- hcs,Zbs]at e
   rcases cse x c (by rw[<- hcs,Zbs];exact e) with l|l
   ·rcases Ze2 e with e|⟨_,e⟩
    ·have okz:=cellsFrom_ok scope.names ((s2.heap.push (lstO [])).push { cls:=.type "dict",data:=.dict #[] }) (s2.heap.objs.size+2) [] ⟨λ_ _ hm=>(nomatch hm),uK⟩ (by rw[uU,uU];exact wR _)
     rw[uU,uU]at okz
     have l2:=(okz.empty x c (vF e)).2
     exact absurd (zN l (zR (yA _ 2) l2)) (zO _)
    ·obtain⟨_,b2⟩:=Zgg hcl (vF e)
     exact q4 x c b2 q
   ·rw[q]at l;exact absurd (zN hb' (zR (yA _ 2) l)) (zO _)
 have hYe:Y.env=compEnvC scope cs (s2.heap.objs.size+1) X.env:=by rw[<- hY];rfl
 have fin:∀s',LP Y [] s2.heap.objs.size (λys _ H'=>∀p,H' p=none->P (.ref p) (upd H' p (.lst ys))) s'->compPost (model X.prog X.w) X.A X.xe use Q (.ref s2.heap.objs.size) (s2.heap.objs.size+1) (.ok .next) s':=by
  rintro s' ⟨ys,σ',H',J',⟨fD',hz,us,rv,eD⟩,q⟩
  have ub:Un (frs X.stack) fp H2 H' s2.heap s'.heap:=by have b:=J'.base;rw[<- hY]at b;exact b
  have os:s'.os=s2.os:=by have b:=J'.os;rw[<- hY]at b;exact b
  have hokX:HOk X.prog X.w H' s'.heap:=by have b:=J'.hok;rw[<- hY]at b;exact b
  have hCn:H' (s2.heap.objs.size+1)=none:=by have b:=J'.free;rw[<- hY]at b;exact b
  have hns:∃m,s'.heap.Ns (s2.heap.objs.size+1) m:=by obtain⟨m,b,_⟩:=J'.loc;rw[<- hY]at b;exact⟨m,b⟩
  have IX:Inv X pins σ H' s':=I2.call' os ub hokX J'.bare λb hb=>by
   obtain⟨q0,q1,q2,q3,q4,q5⟩:=f2 b hb
   exact⟨q3,q1,q4,q5⟩
  exact hend _ _ H' s' IX ⟨fD'.1,fD.2⟩ ⟨hCn,fC.2⟩ (wM (yD _)) hns ⟨ys,us,rv,hz,eD,q _ fD'.1⟩
 have loop:codeAny (model X.prog X.w) X.A (.compLoop (.ListComp elt (⟨tg,iter,ifs,0⟩::rest) scope pos) 0 (.ref it) (.ref s2.heap.objs.size) (compEnvC scope cs (s2.heap.objs.size+1) X.env)) (compPost (model X.prog X.w) X.A X.xe use Q (.ref s2.heap.objs.size) (s2.heap.objs.size+1))
   { s2 with heap:=pushCells ((s2.heap.push (lstO [])).push { cls:=.type "dict",data:=.dict #[] }) scope.names }:=by
  subst hY
  exact Zkq (Y:=cxComp X Nc scope cs (s2.heap.objs.size+1) s2 H2 fp) (λ_ _ f=>f) hc T (hg _ _ _ _ _) (ht _ _ _ _ _) (hb _ _ _ _ _) (hturn _ _ _) J3 ⟨fDY,yE _,[],.nil,hD⟩ st3 fpY (λhm=>absurd (hlt _ hm) (zO _)) w0 turn fin
 exact Zhg rfl loop (T.self _ 0 _ _ _ st3 loop)
theorem Zju{pins:List (Addr×Obj)}{σ:St}{H':Hp}{s':Shared}{D C:Addr}{P:VK}(I:Inv X pins σ H' s')(fD:FpOk X pins H' D)(fC:FpOk X pins H' C)(ne:C≠D) 
  (q:∃ys us,Vals ys us/\ys.length≤sizeLine/\s'.heap.get? D=some (lstO us)/\P (.ref D) (upd H' D (.lst ys))):∃H1,Inv X pins σ H1 s'/\P (.ref D) H1/\FpOk X pins H1 C:=by
 obtain⟨ys,us,rv,hz,eD,q⟩:=q
 exact⟨_,I.track (o:=.lst ys) fD ⟨hz,us,_,rv,eD⟩,q,by rw[Zb3 ne];exact fC.1,fC.2⟩
theorem Ztn{elt tg iter:Expr}{ifs:List Expr}{scope:Scope}{pos:Pos}{Nc:List Str}{cap:List (Option Nat)}{wi:TI}{g:TG}{tt:TT}{te:TE} 
  (hc:X.calm=true) (hi:PI X tg iter wi) (ok:capOk X Nc cap scope=true) (hg:∀cs C s H fp,PG (cxComp X Nc scope cs C s H fp) tg g) (ht:∀cs C s H fp,PTs (cxComp X Nc scope cs C s H fp) ifs tt)
  (he:∀cs C s H fp,PE (cxComp X Nc scope cs C s H fp) elt te) (hk:scope.kind=.function:=by rfl) (hs:∀x,foldedSetIterable iter X.env x=pure x:=by intro _;rfl) :
  PE X (.ListComp elt [⟨tg,iter,ifs,0⟩] scope pos) (tComp wi cap g tt (tEmit te)):=by
 intro pins s σ H P I h
 rw[eval_ListComp]
 refine Zi3 (body:=λenv=>emit elt env) hk hc hi ok hg ht (λcs C s H fp=>Zmf (he cs C s H fp)) (λit acc env=>?_) hs I h λD C H' s' I' fD fC ne hn q=>?_
 ·rw[compTurn_list]
  unfold turnOf testsOf emit
  congr 1
 ·obtain⟨H1,I1,q1,f1⟩:=Zju I' fD fC ne q
  obtain⟨m,hm⟩:=hn
  exact⟨m,hm,λh'' sb=>⟨.ref D,H1,I1.turned (t':=s'.toks) (λb o hb e=>sb.extBut b o hb e) f1.1 f1.2.1 f1.2.2.2.1 f1.2.2.2.2.1 f1.2.2.2.2.2,rfl,q1⟩⟩
theorem Zkp(elt tg iter tg2 iter2:Expr)(scope:Scope)(pos:Pos)(it acc:Value)(env:Env):
  compTurn (.ListComp elt [⟨tg,iter,[],0⟩,⟨tg2,iter2,[],0⟩] scope pos) 0 it acc env=(do
   standAt iter.pos
   match <- pyNext it with
   | none=>pure (.done .next)
   | some v=>
    letOwnedTupleGo tg it v
    assign tg env v
    let mut ok:=true
    for c in ([]:List Expr) do
     if ok then ok <- isTrue c env (eval c env)
    if ok then
     let x <- eval iter2 env
     standAt iter2.pos
     let x <- foldedSetIterable iter2 env x
     let _ <- runOwn (.compStart (.ListComp elt [⟨tg,iter,[],0⟩,⟨tg2,iter2,[],0⟩] scope pos) 1 (<- holding [x] (pyIter x)) acc env) env
    again (.compLoop (.ListComp elt [⟨tg,iter,[],0⟩,⟨tg2,iter2,[],0⟩] scope pos) 0 it acc env)):=by rfl
theorem Zrf{elt tg iter tg2 iter2:Expr}{scope:Scope}{pos:Pos}{Nc:List Str}{cap:List (Option Nat)}{wi wi2:TI}{g g2:TG}{te:TE} 
  (hc:X.calm=true) (hi:PI X tg iter wi) (ok:capOk X Nc cap scope=true) (hg:∀cs C s H fp,PG (cxComp X Nc scope cs C s H fp) tg g)
  (hi2:∀cs C s H fp,PI (cxComp X Nc scope cs C s H fp) tg2 iter2 wi2) (hg2:∀cs C s H fp,PG (cxComp X Nc scope cs C s H fp) tg2 g2)
  (he:∀cs C s H fp,PE (cxComp X Nc scope cs C s H fp) elt te) (hk:scope.kind=.function:=by rfl) (hs:∀x,foldedSetIterable iter X.env x=pure x:=by intro _;rfl)
  (hs2:∀env x,foldedSetIterable iter2 env x=pure x:=by intro _ _;rfl) :
  PE X (.ListComp elt [⟨tg,iter,[],0⟩,⟨tg2,iter2,[],0⟩] scope pos) (tComp wi cap g tYes (tLoop wi2 g2 tYes (tEmit te))):=by
 intro pins s σ H P I h
 rw[eval_ListComp]
 refine Zi3 (body:=λenv=>nest elt [⟨tg,iter,[],0⟩,⟨tg2,iter2,[],0⟩] scope pos 1 iter2 env) hk hc hi ok hg (λcs C s H fp=>Zmg)
  (λcs C s H fp=>Ztu (Y:=cxComp X Nc scope cs C s H fp) (body:=emit elt (compEnvC scope cs C X.env)) (λ_ _ f=>f) hc (hi2 cs C s H fp) (hg2 cs C s H fp) Zmg (Zmf (he cs C s H fp)) rfl (λit acc=>rfl) (hs2 _)) (λit acc env=>?_) hs I h λD C H' s' I' fD fC ne hn q=>?_
 ·rw[Zkp]
  unfold turnOf testsOf nest
  simp only[bind_assoc,pure_bind]
 ·obtain⟨H1,I1,q1,f1⟩:=Zju I' fD fC ne q
  obtain⟨m,hm⟩:=hn
  exact⟨m,hm,λh'' sb=>⟨.ref D,H1,I1.turned (t':=s'.toks) (λb o hb e=>sb.extBut b o hb e) f1.1 f1.2.1 f1.2.2.2.1 f1.2.2.2.2.1 f1.2.2.2.2.2,rfl,q1⟩⟩
theorem Zo7{i:Nat}{x:Str}{elt tg iter:Expr}{ifs:List Expr}{scope:Scope}{pos pos' spos:Pos}{Nc:List Str}{cap:List (Option Nat)}{wi:TI}{g:TG}{tt:TT}{te:TE} 
  (hN:X.N.Nodup) (hx:X.N[i]? = some x) (hl:Loc X.env.scope x)
  (hc:X.calm=true) (hi:PI X tg iter wi) (ok:capOk X Nc cap scope=true) (hg:∀cs C s H fp,PG (cxComp X Nc scope cs C s H fp) tg g) (ht:∀cs C s H fp,PTs (cxComp X Nc scope cs C s H fp) ifs tt)
  (he:∀cs C s H fp,PE (cxComp X Nc scope cs C s H fp) elt te) (hsw:swapsWith (.ListComp elt [⟨tg,iter,ifs,0⟩] scope pos) (some (.Name x pos')) spos.line X.env=pure true:=by rfl)
  (hk:scope.kind=.function:=by rfl) (hs:∀x,foldedSetIterable iter X.env x=pure x:=by intro _;rfl)
  (hf:X.fn x=true\/X.env.scope.names.lookup x=some .local:=by first|exact .inl rfl|exact .inr rfl|assumption) :
  PS X (.Assign [.Name x pos'] (.ListComp elt [⟨tg,iter,ifs,0⟩] scope pos) spos) (tAsg (tComp wi cap g tt (tEmit te)) (gName i)):=by
 intro pins s σ H D I h
 rw[exec_Assign_Name_used _ _ _ _ hsw]
 refine wH (wJ (wH ?_))
 show wpAny _ X.A (do let _ <- comprehension (.ListComp elt [⟨tg,iter,ifs,0⟩] scope pos) scope X.env _ (newList []) false (eval iter X.env) (some (assign (.Name x pos') X.env))) _ _ s
 refine wH (thn (Zi3 (use:=some (assign (.Name x pos') X.env)) (Q:=λ_ s'=>SP X pins D .next s') (body:=λenv=>emit elt env) hk hc hi ok hg ht (λcs C s H fp=>Zmf (he cs C s H fp)) (λit acc env=>?_) hs I h λL C H' s' I' fD fC ne hn q=>?_) λ_ s' q=>wN (wN q))
 ·rw[compTurn_list]
  unfold turnOf testsOf emit
  congr 1
 ·obtain⟨H1,I1,q1,f1⟩:=Zju (P:=λv H=>gName i v σ H D.nx) I' fD fC ne q
  obtain⟨m,hm⟩:=hn
  show wpAny _ X.A (assign (.Name x pos') X.env (.ref L)) _ _ _
  refine wpAny_assign_Name (Zli I1 hN hx hl (v:=.ref L) rfl (λs2 I2 ⟨a,sb,ha⟩=>?_) hf)
  have ca:C≠a:=by
   rcases ha with z|z
   ·rw[z];exact f1.2.1
   ·exact λy=>f1.2.2.2.2.1 x a z y.symm
  exact⟨m,hm.sameBut sb ca,λh'' sb2=>⟨_,H1,I2.turned (t':=s2.toks) (λb o hb e=>sb2.extBut b o hb e) f1.1 f1.2.1 f1.2.2.2.1 f1.2.2.2.2.1 f1.2.2.2.2.2,q1⟩⟩
end
def SIt(t:Bool)(h:Heap)(i l:Addr)(k:Nat):Prop:=match t with|true=>h.IsTupleIter i l k|false=>h.IsListIter i l k
def SAt(t:Bool)(h:Heap)(l:Addr)(xs:Array Value):Prop:=match t with|true=>h.IsTuple l xs|false=>h.IsList l xs
def sItO(t:Bool)(l:Addr):Obj:={ cls:=.type (if t then "tuple_iterator" else "list_iterator"),data:=.fields #[.ref l,.int 0 0] }
theorem SIt.obj{t:Bool}{h:Heap}{i l:Addr}{k:Nat}(x:SIt t h i l k):∃o,h.get? i=some o/\∀v,o.data≠.cell v:=by
 cases t<;>(obtain⟨o,e,c,d⟩:=x;exact⟨o,e,λv z=>by rw[d]at z;cases z⟩)
theorem SIt.at{t:Bool}{h h':Heap}{i l:Addr}{k:Nat}(x:SIt t h i l k)(q:∀o,h.get? i=some o->h'.get? i=some o):SIt t h' i l k:=by
 cases t
 ·exact Heap.IsListIter.at x q
 ·exact Heap.IsTupleIter.at x q
theorem SAt.at{t:Bool}{h h':Heap}{l:Addr}{xs:Array Value}(x:SAt t h l xs)(q:∀o,h.get? l=some o->h'.get? l=some o):SAt t h' l xs:=by
 cases t<;>(obtain⟨o,e,c,d⟩:=x;exact⟨o,q o e,c,d⟩)
theorem SAt.lt{t:Bool}{h:Heap}{l:Addr}{xs:Array Value}(x:SAt t h l xs):l<h.objs.size:=by
 cases t<;>(obtain⟨o,e,c,d⟩:=x;exact zM e)
section
variable {prog:Program}{w:World}{A:Around}{E:Value->Shared->Prop}{s:Shared}
theorem Zo5{it l:Addr}{i:Nat}{items:Array Value}{x:Value}{Q:Value->Shared->Prop}(hit:s.heap.IsTupleIter it l i)(hl:s.heap.IsTuple l items)(hx:items[i]? = some x) 
  (hQ:∀h',h'.IsTupleIter it l (i+1)->Heap.SameBut it s.heap h'->Q x { s with heap:=h' }):wpAny (model prog w) A (Builtin.SmallTypes.nextOf (.ref it)) Q E s:=by
 obtain⟨o,ho,hc,hd⟩:=id hit
 obtain⟨ol,hol,_,nl,hdl⟩:=hl
 unfold Builtin.SmallTypes.nextOf
 refine wH (vU (name:=Str.ofString "__next__") hit.typeIs yF (vW yF hit.typeIs F.entry_tuple_iterator_next ?_ (F.args_tuple_iterator_next_1 _)))
 show wpAny _ _ (field (.ref it) 0>>=_) _ _ s;refine wH (vR ho hd (x:=.ref l) rfl ?_)
 show wpAny _ _ (if(Value.ref l == Value.none)=true then _ else _) _ _ s;rw[zJ (show ¬((Value.ref l == Value.none)=true) from wL)]
 show wpAny _ _ (field (.ref it) 1>>=_) _ _ s;refine wH (vR ho hd (x:=.int i 0) rfl ?_)
 show wpAny _ _ (seqItems? (.ref l)>>=_) _ _ s;refine wH (yG hol hdl ?_)
 simp only[vO,hx]
 refine wH (wpAny_setField ho hd (by simp) (wN ⟨x,rfl,wN (hQ _ ?_ (yH ..))⟩))
 exact⟨_,uC _ ho (Obj.isFreed_of_fields (Obj.data_mapFields hd _)),(Obj.cls_mapFields ..).trans hc,by rw[Obj.data_mapFields hd];simp[rawInt]⟩
theorem Zpq{it l:Addr}{i:Nat}{items:Array Value}{Q:Value->Shared->Prop}(hh:A.handled=none)(hit:s.heap.IsTupleIter it l i)(hl:s.heap.IsTuple l items)(hx:items[i]? = none) 
  (hE:∀h' e,Heap.ExtBut it s.heap h'->(∃o,h'.get? e=some o/\o.cls=.type "StopIteration")->E (.ref e) { s with heap:=h' }):wpAny (model prog w) A (Builtin.SmallTypes.nextOf (.ref it)) Q E s:=by
 obtain⟨o,ho,hc,hd⟩:=id hit
 obtain⟨ol,hol,_,nl,hdl⟩:=hl
 unfold Builtin.SmallTypes.nextOf
 refine wH (vU (name:=Str.ofString "__next__") hit.typeIs yF (vW yF hit.typeIs F.entry_tuple_iterator_next ?_ (F.args_tuple_iterator_next_1 _)))
 show wpAny _ _ (field (.ref it) 0>>=_) _ _ s;refine wH (vR ho hd (x:=.ref l) rfl ?_)
 show wpAny _ _ (if(Value.ref l == Value.none)=true then _ else _) _ _ s;rw[zJ (show ¬((Value.ref l == Value.none)=true) from wL)]
 show wpAny _ _ (field (.ref it) 1>>=_) _ _ s;refine wH (vR ho hd (x:=.int i 0) rfl ?_)
 show wpAny _ _ (seqItems? (.ref l)>>=_) _ _ s;refine wH (yG hol hdl ?_)
 simp only[vO,hx]
 refine wH (yB (wH (wpAny_setField ho hd (by simp) ?_)))
 show wpAny _ _ (newExc (.type "StopIteration") []>>=_) _ _ _;refine wH ?_
 simp only[newExc,newTuple]
 refine wH (vZ ?_ (by size_fits))
 refine wH (m:=firstArgMember _ _) (yC (a:=Value.none) (by first|rfl|(simp only[firstArgMember];rfl)) ?_)
 refine vZ ?_ (by size_fits)
 simp only[raiseNew]
 refine wH (wpAny_handled ?_)
 first|rw[show A.in1.handled=none from hh]|rw[hh]
 exact wH (wN (wpAny_throw (hE _ _ (((yH ..).extBut.push _).push _) ⟨_,zL _ rfl,rfl⟩)))
theorem Zh8{t:Bool}{it l:Addr}{i:Nat}{items:Array Value}{x:Value}{Q:Value->Shared->Prop}(hit:SIt t s.heap it l i)(hl:SAt t s.heap l items)(hx:items[i]? = some x) 
  (hQ:∀h',SIt t h' it l (i+1)->Heap.SameBut it s.heap h'->Q x { s with heap:=h' }):wpAny (model prog w) A (Builtin.SmallTypes.nextOf (.ref it)) Q E s:=by
 cases t
 ·exact wpAny_nextOf_list_item hit hl hx hQ
 ·exact Zo5 hit hl hx hQ
theorem Zla{t:Bool}{it l:Addr}{i:Nat}{items:Array Value}{Q:Value->Shared->Prop}(hh:A.handled=none)(hit:SIt t s.heap it l i)(hl:SAt t s.heap l items)(hx:items[i]? = none) 
  (hE:∀h' e,Heap.ExtBut it s.heap h'->(∃o,h'.get? e=some o/\o.cls=.type "StopIteration")->E (.ref e) { s with heap:=h' }):wpAny (model prog w) A (Builtin.SmallTypes.nextOf (.ref it)) Q E s:=by
 cases t
 ·exact wpAny_nextOf_list_end hh hit hl hx hE
 ·exact Zpq hh hit hl hx hE
theorem iterS{t:Bool}{l:Addr}{items:Array Value}{Q:Value->Shared->Prop}(hl:SAt t s.heap l items)(h:Q (.ref s.heap.objs.size) { s with heap:=s.heap.push (sItO t l) }):wpAny (model prog w) A (pyIter (.ref l)) Q E s:=by
 cases t
 ·exact wP hl h
 ·exact wpAny_pyIter_tuple hl h
theorem Zqq{t1 t2:Bool}{z TI TO i1 i2 l1 l2:Addr}{k1 k2:Nat}{xs ys:Array Value}{x y a b:Value}{Q:Option Value->Shared->Prop}(D:ZipApart z TI TO i1 i2 l1 l2) 
  (hz:IsZip s.heap z TI TO .none) (hTI:IsPair s.heap TI (.ref i1) (.ref i2)) (hTO:IsPair s.heap TO a b) (h1:SIt t1 s.heap i1 l1 k1) (h2:SIt t2 s.heap i2 l2 k2) (hl1:SAt t1 s.heap l1 xs) (hl2:SAt t2 s.heap l2 ys) (hx:xs[k1]? = some x) (hy:ys[k2]? = some y)
  (hQ:∀h',IsZip h' z TI TO (rawInt s.heap.objs.size)->IsPair h' TO x y->SIt t1 h' i1 l1 (k1+1)->SIt t2 h' i2 l2 (k2+1)->IsPair h' s.heap.objs.size x y->h'.objs.size=s.heap.objs.size+1 ->
   (∀c o,c≠z->c≠TO->c≠i1->c≠i2->s.heap.get? c=some o->h'.get? c=some o)->Q (some (.ref s.heap.objs.size)) { s with heap:=h' }):wpAny (model prog w) A (pyNext (.ref z)) Q E s:=by
 have hT:s.TypeIs (.ref z) "zip":=⟨_,hz,rfl⟩
 unfold pyNext
 refine wH (wpAny_attempt (vU (name:=Str.ofString "__next__") hT yI (vW yI hT F.entry_zip_next ?_ (F.args_zip_next_1 _))))
 show wpAny _ _ (field (.ref z) 2>>=_) _ _ _;refine wH (vR hz rfl (x:=.bool false) rfl ?_)
 show wpAny _ _ (field (.ref z) 3>>=_) _ _ _;refine wH (vR hz rfl (x:=.ref TI) rfl (wH (yG hTI rfl ?_)))
 show wpAny _ _ (Builtin.SmallTypes.ownedTupleIsFree (.ref z)>>=_) _ _ _;refine wH ?_
 unfold Builtin.SmallTypes.ownedTupleIsFree
 refine wH (vR hz rfl (x:=.none) rfl (wN ?_))
 simp only[vQ]
 refine wH (yB (wH (vR hz rfl (x:=.ref TO) rfl (wH (yJ hz (by simp) λha hza hsa=>?_)))))
 have hzA:IsZip ha z TI TO .ellipsis:=hza
 refine wH ?_
 simp only[List.zipIdx_cons,List.zipIdx_nil,uO,forIn_nil]
 refine wH (wH (yK ?_))
 show wpAny _ _ (Builtin.SmallTypes.nextOf (.ref i1)>>=_) _ _ _
 refine wH (Zh8 (h1.at λo e=>hsa.extBut _ o D.i1z e) (hl1.at λo e=>hsa.extBut _ o D.l1z e) hx λhb h1b hsb=>wN ?_)
 have hTOb:IsPair hb TO a b:=hsb.extBut _ _ D.TOi1 (hsa.extBut _ _ D.TOz hTO)
 refine wH (yG hTOb rfl (wH (yL hTOb λhc hTOc hsc=>wH (yM (wN ?_)))))
 have hTOc':IsPair hc TO x b:=hTOc
 refine wH (wH (yK ?_))
 show wpAny _ _ (Builtin.SmallTypes.nextOf (.ref i2)>>=_) _ _ _
 have abc:∀c o,c≠z->c≠i1->c≠TO->s.heap.get? c=some o->hc.get? c=some o:=λc o n1 n2 n3 e=>hsc.extBut _ _ n3 (hsb.extBut _ _ n2 (hsa.extBut _ _ n1 e))
 refine wH (Zh8 (h2.at λo e=>abc _ o D.i2z D.i12.symm D.TOi2.symm e) (hl2.at λo e=>abc _ o D.l2z D.l2i1 D.l2TO e) hy λhd h2d hsd=>wN ?_)
 have hTOd:IsPair hd TO x b:=hsd.extBut _ _ D.TOi2 hTOc'
 refine wH (yG hTOd rfl (wH (yL hTOd λhe hTOe hse=>wH (yM (wN (wN ?_))))))
 have hTOe':IsPair he TO x y:=hTOe
 refine wH (yG hTOe' rfl (wH (wpAny_newTuple ?_)))
 have hsz:he.objs.size=s.heap.objs.size:=by rw[hse.1,hsd.1,hsc.1,hsb.1,hsa.1]
 have hze:IsZip he z TI TO .ellipsis:=hse.extBut _ _ D.TOz.symm (hsd.extBut _ _ D.i2z.symm (hsc.extBut _ _ D.TOz.symm (hsb.extBut _ _ D.i1z.symm hzA)))
 have all:∀c o,c≠z->c≠TO->c≠i1->c≠i2->s.heap.get? c=some o->he.get? c=some o:=λc o n1 n2 n3 n4 e=>hse.extBut _ _ n2 (hsd.extBut _ _ n4 (abc c o n1 n3 n2 e))
 have h1e:SIt t1 he i1 l1 (k1+1):=h1b.at λo e=>hse.extBut _ o D.TOi1.symm (hsd.extBut _ o D.i12 (hsc.extBut _ o D.TOi1.symm e))
 have h2e:SIt t2 he i2 l2 (k2+1):=h2d.at λo e=>hse.extBut _ o D.TOi2.symm e
 show wpAny _ _ (Builtin.SmallTypes.ownedTupleHandOut (.ref z) (.ref he.objs.size)>>=_) _ _ _;refine wH ?_
 unfold Builtin.SmallTypes.ownedTupleHandOut
 have hzf:IsZip (he.push { cls:=.type "tuple",data:=.seq #[x,y] }) z TI TO .ellipsis:=wQ _ hze
 refine wH (yJ hzf (by simp) λhg hzg hsg=>?_)
 have hzg':IsZip hg z TI TO (rawInt he.objs.size):=hzg
 refine yJ hzg' (by simp) λhh hzh hsh=>?_
 have hzh':IsZip hh z TI TO (rawInt he.objs.size):=hzh
 have up:∀c o,c≠z->he.get? c=some o->hh.get? c=some o:=λc o n1 e=>hsh.extBut _ _ n1 (hsg.extBut _ _ n1 (wQ _ e))
 have zlt:he.objs.size≠z:=wM (zM hze)
 have hTh:IsPair hh he.objs.size x y:=hsh.extBut _ _ zlt (hsg.extBut _ _ zlt (zL _ rfl))
 have hsz2:hh.objs.size=he.objs.size+1:=by rw[hsh.1,hsg.1,uU]
 rw[hsz]at hzh' hTh hsz2
 refine wN ⟨_,rfl,?_⟩
 rw[hsz]
 exact wN (hQ hh hzh' (up _ _ D.TOz hTOe') (h1e.at λo e=>up _ o D.i1z e) (h2e.at λo e=>up _ o D.i2z e) hTh hsz2 λc o n1 n2 n3 n4 e=>up c o n1 (all c o n1 n2 n3 n4 e))
theorem Zsb{t1 t2:Bool}{z TI TO i1 i2 l1 l2:Addr}{k1 k2:Nat}{xs ys:Array Value}{a b:Value}{Q:Option Value->Shared->Prop}(hh:A.handled=none)(D:ZipApart z TI TO i1 i2 l1 l2) 
  (hz:IsZip s.heap z TI TO .none) (hTI:IsPair s.heap TI (.ref i1) (.ref i2)) (hTO:IsPair s.heap TO a b) (h1:SIt t1 s.heap i1 l1 k1) (h2:SIt t2 s.heap i2 l2 k2) (hl1:SAt t1 s.heap l1 xs) (hl2:SAt t2 s.heap l2 ys) (hend:xs[k1]? = none\/ys[k2]? = none)
  (hQ:∀h',(∀c o,c≠z->c≠TO->c≠i1->c≠i2->s.heap.get? c=some o->h'.get? c=some o)->Q none { s with heap:=h' }):wpAny (model prog w) A (pyNext (.ref z)) Q E s:=by
 have hT:s.TypeIs (.ref z) "zip":=⟨_,hz,rfl⟩
 have fin:∀(h':Heap) (e:Addr),(∀c o,c≠z->c≠TO->c≠i1->c≠i2->s.heap.get? c=some o->h'.get? c=some o)->(∃o,h'.get? e=some o/\o.cls=.type "StopIteration") ->
   wpAny (model prog w) A (do if <- isInstance (.ref e) (.type "StopIteration") then pure none else throw (.ref e):Sem (Option Value)) Q E { s with heap:=h' }:=λh' e hk ⟨o,ho,hc⟩=>
  wH (wpAny_isInstance (T:="StopIteration") (b:=true) ⟨o,ho,hc⟩ isSubtype_stop (wN (hQ _ hk)))
 unfold pyNext
 refine wH (wpAny_attempt (vU (name:=Str.ofString "__next__") hT yI (vW yI hT F.entry_zip_next ?_ (F.args_zip_next_1 _))))
 show wpAny _ _ (field (.ref z) 2>>=_) _ _ _;refine wH (vR hz rfl (x:=.bool false) rfl ?_)
 show wpAny _ _ (field (.ref z) 3>>=_) _ _ _;refine wH (vR hz rfl (x:=.ref TI) rfl (wH (yG hTI rfl ?_)))
 show wpAny _ _ (Builtin.SmallTypes.ownedTupleIsFree (.ref z)>>=_) _ _ _;refine wH ?_
 unfold Builtin.SmallTypes.ownedTupleIsFree
 refine wH (vR hz rfl (x:=.none) rfl (wN ?_))
 simp only[vQ]
 refine wH (yB (wH (vR hz rfl (x:=.ref TO) rfl (wH (yJ hz (by simp) λha hza hsa=>?_)))))
 have hzA:IsZip ha z TI TO .ellipsis:=hza
 refine wH ?_
 simp only[List.zipIdx_cons,List.zipIdx_nil,uO,forIn_nil]
 refine wH (wH (yK ?_))
 show wpAny _ _ (Builtin.SmallTypes.nextOf (.ref i1)>>=_) _ _ _
 cases hx:xs[k1]? with
 | none=>
  refine wH (Zla hh (h1.at λo e=>hsa.extBut _ o D.i1z e) (hl1.at λo e=>hsa.extBut _ o D.l1z e) hx λhb e hsb he=>?_)
  obtain⟨oe,hoe,hce⟩:=he
  have hzb:IsZip hb z TI TO .ellipsis:=hsb _ _ D.i1z.symm hzA
  have hez:e≠z:=λx=>by subst x;rw[hzb]at hoe;cases hoe;simp at hce
  exact yJ hzb (by simp) λhc _ hsc=>fin hc e (λc o n1 _ n3 _ x=>hsc.extBut _ _ n1 (hsb _ _ n3 (hsa.extBut _ _ n1 x))) ⟨oe,hsc.extBut _ _ hez hoe,hce⟩
 | some x=>
  have hy:ys[k2]? = none:=by rcases hend with h|h;rw[hx]at h;cases h;exact h
  refine wH (Zh8 (h1.at λo e=>hsa.extBut _ o D.i1z e) (hl1.at λo e=>hsa.extBut _ o D.l1z e) hx λhb h1b hsb=>wN ?_)
  have hTOb:IsPair hb TO a b:=hsb.extBut _ _ D.TOi1 (hsa.extBut _ _ D.TOz hTO)
  refine wH (yG hTOb rfl (wH (yL hTOb λhc hTOc hsc=>wH (yM (wN ?_)))))
  refine wH (wH (yK ?_))
  show wpAny _ _ (Builtin.SmallTypes.nextOf (.ref i2)>>=_) _ _ _
  have abc:∀c o,c≠z->c≠i1->c≠TO->s.heap.get? c=some o->hc.get? c=some o:=λc o n1 n2 n3 e=>hsc.extBut _ _ n3 (hsb.extBut _ _ n2 (hsa.extBut _ _ n1 e))
  refine wH (Zla hh (h2.at λo e=>abc _ o D.i2z D.i12.symm D.TOi2.symm e) (hl2.at λo e=>abc _ o D.l2z D.l2i1 D.l2TO e) hy λhd e hsd he=>?_)
  obtain⟨oe,hoe,hce⟩:=he
  have hzd:IsZip hd z TI TO .ellipsis:=hsd _ _ D.i2z.symm (hsc.extBut _ _ D.TOz.symm (hsb.extBut _ _ D.i1z.symm hzA))
  have hez:e≠z:=λx=>by subst x;rw[hzd]at hoe;cases hoe;simp at hce
  exact yJ hzd (by simp) λhf _ hsf=>fin hf e (λc o n1 n2 n3 n4 x=>hsf.extBut _ _ n1 (hsd _ _ n4 (abc c o n1 n3 n2 x))) ⟨oe,hsf.extBut _ _ hez hoe,hce⟩
abbrev zA(h:Heap)(t1:Bool)(l1:Addr):Heap:=h.push (sItO t1 l1)
abbrev zB(h:Heap)(t1 t2:Bool)(l1 l2:Addr):Heap:=(zA h t1 l1).push (sItO t2 l2)
abbrev zC(h:Heap)(t1 t2:Bool)(l1 l2:Addr):Heap:=(zB h t1 t2 l1 l2).push { cls:=.type "tuple",data:=.seq #[.ref h.objs.size,.ref (zA h t1 l1).objs.size] }
abbrev zD(h:Heap)(t1 t2:Bool)(l1 l2:Addr):Heap:=(zC h t1 t2 l1 l2).push { cls:=.type "tuple",data:=.seq #[.none,.none] }
abbrev zE(h:Heap)(t1 t2:Bool)(l1 l2:Addr):Heap:=(zD h t1 t2 l1 l2).push { cls:=.type "zip",data:=.fields #[.none,.bool false,.bool false,.ref (zB h t1 t2 l1 l2).objs.size,.ref (zC h t1 t2 l1 l2).objs.size] }
theorem Zo3(t1 t2:Bool)(l1 l2:Addr)(xs ys:Array Value):
  Meets (Builtin.«zip.__new__» ⟨[.type "zip",.ref l1,.ref l2],[]⟩) (λ_ R s=>SAt t1 s.heap l1 xs/\SAt t2 s.heap l2 ys/\R (.ok (.ret (.ref (zD s.heap t1 t2 l1 l2).objs.size))) { s with heap:=zE s.heap t1 t2 l1 l2 }):=
 .of_wp λprog w A R s h=>by
  obtain⟨hp,g,d,tk,os⟩:=s;obtain⟨hl1,hl2,h⟩:=h
  have hsub:=sub_zip
  have hL1:SAt t1 (Shared.heap ⟨hp,g,d,tk,os⟩) l1 xs:=hl1
  have hL2:SAt t2 (Shared.heap ⟨hp.push (sItO t1 l1),g,d,tk,os⟩) l2 ys:=SAt.at hl2 λo e=>wQ _ e
  wp_walk using iterS hL1,iterS hL2
  exact⟨_,rfl,h⟩
theorem Zom{t1 t2:Bool}{l1 l2:Addr}{xs ys:Array Value}{Q:Value->Shared->Prop}(hl1:SAt t1 s.heap l1 xs)(hl2:SAt t2 s.heap l2 ys) 
  (h:∀h',IsZip h' (s.heap.objs.size+4) (s.heap.objs.size+2) (s.heap.objs.size+3) .none->IsPair h' (s.heap.objs.size+2) (.ref s.heap.objs.size) (.ref (s.heap.objs.size+1))->IsPair h' (s.heap.objs.size+3) .none .none ->
   SIt t1 h' s.heap.objs.size l1 0->SIt t2 h' (s.heap.objs.size+1) l2 0->(∀c o,s.heap.get? c=some o->h'.get? c=some o)->Q (.ref (s.heap.objs.size+4)) { s with heap:=h' }) :
  wpAny (model prog w) A (call (.type "zip") [.ref l1,.ref l2]) Q E s:=by
 refine callType_new F.called_zip (by decide) (F.typeCall_zip_2 _ _) (F.newCall_zip_2 _ _) (λobj=>F.args_object_init_3 obj _ _) F.entry_zip_new (Zo3 t1 t2 l1 l2 xs ys) ⟨hl1,hl2,?_⟩
 have z1:(zA s.heap t1 l1).objs.size=s.heap.objs.size+1:=uU ..
 have z2:(zB s.heap t1 t2 l1 l2).objs.size=s.heap.objs.size+2:=by rw[uU,z1]
 have z3:(zC s.heap t1 t2 l1 l2).objs.size=s.heap.objs.size+3:=by rw[uU,z2]
 have z4:(zD s.heap t1 t2 l1 l2).objs.size=s.heap.objs.size+4:=by rw[uU,z3]
 have g5:(zE s.heap t1 t2 l1 l2).get? (zD s.heap t1 t2 l1 l2).objs.size=some _:=zL _ rfl
 have g4:(zE s.heap t1 t2 l1 l2).get? (zC s.heap t1 t2 l1 l2).objs.size=some _:=wQ _ (zL _ rfl)
 have g3:(zE s.heap t1 t2 l1 l2).get? (zB s.heap t1 t2 l1 l2).objs.size=some _:=wQ _ (wQ _ (zL _ rfl))
 have g2:(zE s.heap t1 t2 l1 l2).get? (zA s.heap t1 l1).objs.size=some (sItO t2 l2):=wQ _ (wQ _ (wQ _ (zL _ (by cases t2<;>rfl))))
 have g1:(zE s.heap t1 t2 l1 l2).get? s.heap.objs.size=some (sItO t1 l1):=wQ _ (wQ _ (wQ _ (wQ _ (zL _ (by cases t1<;>rfl)))))
 show _/\_
 rw[z2,z3,z4]at g5
 rw[z1,z2]at g3
 rw[z3]at g4
 rw[z1]at g2
 rw[z4]
 have mk:∀(t:Bool) (a l:Addr),(zE s.heap t1 t2 l1 l2).get? a=some (sItO t l)->SIt t (zE s.heap t1 t2 l1 l2) a l 0:=λt a l e=>by
  cases t<;>exact⟨_,e,rfl,rfl⟩
 exact⟨⟨_,g5,rfl⟩,h _ g5 g3 g4 (mk _ _ _ g1) (mk _ _ _ g2) λc o x=>wQ _ (wQ _ (wQ _ (wQ _ (wQ _ x))))⟩
end
def SqB(K:Frag)(t:Bool)(H:Hp)(a:Addr)(xs:List V):Prop:=match t with|true=>SqT K H a xs|false=>SqL K H a xs
theorem Inv.sq{X:Cx}{pins:List (Addr×Obj)}{σ:St}{H:Hp}{s:Shared}{t:Bool}{a:Addr}{xs:List V}(I:Inv X pins σ H s)(h:SqB X.K t H a xs):∃its:List Value,Vals xs its/\SAt t s.heap a its.toArray/\xs.length≤sizeLine:=by
 cases t
 ·obtain⟨its,r,p,z⟩:=I.list h
  exact⟨its,r,p.isList,z⟩
 ·obtain⟨its,r,p,z⟩:=I.tuple h
  exact⟨its,r,p,z⟩
theorem Inv.sq_inj{X:Cx}{pins:List (Addr×Obj)}{σ:St}{H:Hp}{s:Shared}{t:Bool}{a:Addr}{xs ys:List V}(I:Inv X pins σ H s)(h:SqB X.K t H a xs)(h':SqB X.K t H a ys):xs=ys:=by
 cases t
 ·exact I.list_inj h h'
 ·exact I.tuple_inj h h'
def Itz(K:Frag)(t1 t2:Bool)(a b:Addr):It:=
 ⟨λi H=>∃xs ys x y,SqB K t1 H a xs/\SqB K t2 H b ys/\xs[i]? = some x/\ys[i]? = some y,
   λi H v H'=>∃p x y,v=.ref p/\H p=none/\H'=upd H p (.tup [x,y])/\∀xs ys,SqB K t1 H a xs->SqB K t2 H b ys->xs[i]? = some x/\ys[i]? = some y,
   λi H=>∃xs ys,SqB K t1 H a xs/\SqB K t2 H b ys/\(xs.length≤i\/ys.length≤i)⟩
def ZSt(t1 t2:Bool)(z TI TO i1 i2 l1 l2:Addr)(i:Nat)(h:Heap):Prop:=ZipApart z TI TO i1 i2 l1 l2/\IsZip h z TI TO .none/\IsPair h TI (.ref i1) (.ref i2)/\(∃a b,IsPair h TO a b)/\SIt t1 h i1 l1 i/\SIt t2 h i2 l2 i
theorem Zs4{P:Program}{w:World}{K:Frag}{elts:List Expr}{kk:Nat}{pos:Pos}(t1 t2:Bool)(z TI TO i1 i2 l1 l2:Addr):Turn P w K (.Tuple elts kk pos) (Itz K t1 t2 l1 l2) [z,TI,TO,i1,i2] z (ZSt t1 t2 z TI TO i1 i2 l1 l2) where
 mem:=by simp
 obj:=λi h st b hb=>by
  obtain⟨_,hz,hTI,⟨x,y,hTO⟩,h1,h2⟩:=st
  simp only[zV,yN,yO]at hb
  rcases hb with e|e|e|e|e
  ·subst e;exact⟨_,hz,λv q=>by cases q⟩
  ·subst e;exact⟨_,hTI,λv q=>by cases q⟩
  ·subst e;exact⟨_,hTO,λv q=>by cases q⟩
  ·subst e;exact h1.obj
  ·subst e;exact h2.obj
 keep:=λi h h' st k=>by
  obtain⟨D,hz,hTI,⟨x,y,hTO⟩,h1,h2⟩:=st
  exact⟨D,k z (by simp) _ hz,k TI (by simp) _ hTI,⟨x,y,k TO (by simp) _ hTO⟩,h1.at λo e=>k i1 (by simp) o e,h2.at λo e=>k i2 (by simp) o e⟩
 item:=by
  intro X hP hw hK hc i pins s σ H E I hf st hg
  subst hP hw hK
  obtain⟨xs,ys,x,y,q1,q2,gx,gy⟩:=hg
  obtain⟨D,hz,hTI,⟨a,b,hTO⟩,h1,h2⟩:=st
  obtain⟨us,ru,su,_⟩:=I.sq q1
  obtain⟨vs,rv,sv,_⟩:=I.sq q2
  obtain⟨u,hu,rx⟩:=ru.get gx
  obtain⟨v,hv,ry⟩:=rv.get gy
  refine Zqq D hz hTI hTO h1 h2 su sv (x:=u) (y:=v) (by simpa using hu) (by simpa using hv) λh' z1 z2 z3 z4 z5 z6 z7=>⟨_,rfl,?_⟩
  have szn:s.heap.objs.size≠z:=wM (zM hz)
  refine wpAny_letOwnedTupleGo_zip z1 λh'' w1 w2=>?_
  have hall:∀c o,c≠z->c≠TO->c≠i1->c≠i2->s.heap.get? c=some o->h''.get? c=some o:=λc o n1 n2 n3 n4 e=>w2.extBut _ _ n1 (z7 c o n1 n2 n3 n4 e)
  have hn:H s.heap.objs.size=none:=I.hok.fresh (wR _)
  have f:=λb hb=>hf b hb
  have ch:∀b,b ∉ [z,TO,i1,i2]->b≠z/\b≠TO/\b≠i1/\b≠i2:=λb hb=>by
   simp only[zV,yN,yO,not_or]at hb
   exact hb
  have inf:∀b∈[z,TO,i1,i2],b∈[z,TI,TO,i1,i2]:=λb hb=>by
   simp only[zV,yN,yO]at hb |-
   rcases hb with e|e|e|e<;>simp[e]
  have tr:∀b o,H b=some o->b ∉ [z,TO,i1,i2]:=λb o e hb=>by rw[(f b (inf b hb)).1]at e;cases e
  have nsz:∀b o,H b=some o->b≠s.heap.objs.size:=λb o e q=>by rw[q,hn]at e;cases e
  have pair:h''.get? s.heap.objs.size=some { cls:=.type "tuple",data:=.seq #[u,v] }:=w2.extBut _ _ szn z5
  refine⟨.ref s.heap.objs.size,upd H s.heap.objs.size (.tup [x,y]),Inv.step (s:=s) (h':=h'') (g':=s.gens) (d':=s.drawn) (t':=s.toks) (ch:=[z,TO,i1,i2]) I (λb hb=>?_) (λb o _ _ hb e _=>?_) (λb o _ _ hb e _=>⟨o.slots,?_⟩) (λb o hb e n=>?_) (λb o hb e=>⟨o,?_⟩) (λb zs e=>?_) (λb o zs e=>?_) (λb ps e=>⟨#[],?_⟩) (λm hm=>?_) (λb o e=>?_) I.bare,rfl,⟨s.heap.objs.size,x,y,rfl,hn,rfl,λxs' ys' p1 p2=>?_⟩,?_,λb hb=>?_⟩
  ·obtain⟨_,f1,f2,f3,f4,f5⟩:=f b (inf b hb)
   exact⟨f3,f1,f4,f5⟩
  ·obtain⟨n1,n2,n3,n4⟩:=ch b hb;exact hall b o n1 n2 n3 n4 e
  ·obtain⟨n1,n2,n3,n4⟩:=ch b hb;exact hall b o n1 n2 n3 n4 e
  ·rw[Zb3 (zP (zM e))];exact n
  ·obtain⟨n1,n2,n3,n4⟩:=ch b hb;exact hall b o n1 n2 n3 n4 e
  ·rw[Zb3 (nsz b _ e)];exact e
  ·rw[Zb3 (nsz b _ e)];exact e
  ·rw[Zb3 (nsz b _ e),e];simp
  ·obtain⟨o,es,ep,ho,r⟩:=hm
   have nl:X.env.locals ∉ [z,TO,i1,i2]:=λhb=>(f _ (inf _ hb)).2.1 rfl
   obtain⟨n1,n2,n3,n4⟩:=ch _ nl
   exact⟨o,es,ep,hall _ o n1 n2 n3 n4 ho,r⟩
  ·by_cases hb:b=s.heap.objs.size
   ·subst hb;rw[Zb2]at e;cases e
    exact⟨L2.sz2,[u,v],.cons rx (.cons ry .nil),_,pair,rfl,_,rfl,rfl⟩
   ·rw[Zb3 hb]at e
    refine(I.hok b o e).stay (λc o' hc q=>?_) (λc q=>by rw[Zb3 (nsz c _ q)];exact q) λc zs q=>by rw[Zb3 (nsz c _ q)];exact q
    have nc:c ∉ [z,TO,i1,i2]:=by
     rcases hc with hc|hc
     ·rw[hc];exact tr b o e
     ·exact tr c _ hc
    obtain⟨n1,n2,n3,n4⟩:=ch c nc
    exact hall c o' n1 n2 n3 n4 q
  ·rw[I.sq_inj p1 q1,I.sq_inj p2 q2];exact⟨gx,gy⟩
  ·exact⟨D,w1,hall _ _ D.TIz D.TITO D.TIi1 D.TIi2 hTI,⟨_,_,w2.extBut _ _ D.TOz z2⟩,z3.at λo e=>w2.extBut _ o D.i1z e,z4.at λo e=>w2.extBut _ o D.i2z e⟩
  ·obtain⟨o,e,_⟩:=(show ∃o,s.heap.get? b=some o/\∀v,o.data≠.cell v from by
    simp only[zV,yN,yO]at hb
    rcases hb with q|q|q|q|q
    ·subst q;exact⟨_,hz,λv q=>by cases q⟩
    ·subst q;exact⟨_,hTI,λv q=>by cases q⟩
    ·subst q;exact⟨_,hTO,λv q=>by cases q⟩
    ·subst q;exact h1.obj
    ·subst q;exact h2.obj)
   rw[Zb3 (zP (zM e))];exact(f b hb).1
 done:=by
  intro X hP hw hK hc i pins s σ H E I hf st hg
  subst hP hw hK
  obtain⟨xs,ys,q1,q2,ge⟩:=hg
  obtain⟨D,hz,hTI,⟨a,b,hTO⟩,h1,h2⟩:=st
  obtain⟨us,ru,su,_⟩:=I.sq q1
  obtain⟨vs,rv,sv,_⟩:=I.sq q2
  have lu:=ru.length
  have lv:=rv.length
  refine Zsb (I.ok.hd hc) D hz hTI hTO h1 h2 su sv (by
   rcases ge with e|e
   ·exact .inl (by simp;omega)
   ·exact .inr (by simp;omega)) λh' hk=>⟨rfl,?_⟩
  have f:=λb hb=>hf b hb
  have ch:∀b,b ∉ [z,TO,i1,i2]->b≠z/\b≠TO/\b≠i1/\b≠i2:=λb hb=>by
   simp only[zV,yN,yO,not_or]at hb
   exact hb
  have inf:∀b∈[z,TO,i1,i2],b∈[z,TI,TO,i1,i2]:=λb hb=>by
   simp only[zV,yN,yO]at hb |-
   rcases hb with e|e|e|e<;>simp[e]
  have tr:∀b o,H b=some o->b ∉ [z,TO,i1,i2]:=λb o e hb=>by rw[(f b (inf b hb)).1]at e;cases e
  have kk:∀b o,b ∉ [z,TO,i1,i2]->s.heap.get? b=some o->h'.get? b=some o:=λb o hb e=>by obtain⟨n1,n2,n3,n4⟩:=ch b hb;exact hk b o n1 n2 n3 n4 e
  refine I.step (g':=s.gens) (d':=s.drawn) (t':=s.toks) (ch:=[z,TO,i1,i2]) (λb hb=>?_) (λb o _ _ hb e _=>kk b o hb e) (λb o _ _ hb e _=>⟨o.slots,kk b o hb e⟩) (λb o hb e n=>n) (λb o hb e=>⟨o,kk b o hb e⟩) (λb zs e=>e) (λb o zs e=>e) (λb ps e=>⟨#[],by rw[e];simp⟩) (λm hm=>?_) (λb o e=>?_) I.bare
  ·obtain⟨_,f1,f2,f3,f4,f5⟩:=f b (inf b hb)
   exact⟨f3,f1,f4,f5⟩
  ·obtain⟨o,es,ep,ho,r⟩:=hm
   exact⟨o,es,ep,kk _ o (λhb=>(f _ (inf _ hb)).2.1 rfl) ho,r⟩
  ·refine(I.hok b o e).stay (λc o' hc q=>kk c o' ?_ q) (λc q=>q) λc zs q=>q
   rcases hc with hc|hc
   ·rw[hc];exact tr b o e
   ·exact tr c _ hc
 self:=λ_ _ _ _ _ st h=>wpAny_pyIter_zip st.2.1 h
section
variable {X:Cx}
def iZip(K:Frag)(t1 t2:Bool)(ta:TA):TI:=λσ H R=>ta σ H λvs H1=>∃a b xs ys,vs=[.ref a,.ref b]/\SqB K t1 H1 a xs/\SqB K t2 H1 b ys/\R (Itz K t1 t2 a b) H1
theorem Zvi{elts:List Expr}{kk:Nat}{tp:Pos}{a b:Expr}{ta:TA}{p pos:Pos}(t1 t2:Bool)(hg:Gl X "zip")(hm:X.mg "zip" = none)(ha:PA X [a,b] ta)(hs:starEach [a,b] X.env=[(false,eval a X.env),(false,eval b X.env)]:=by rfl)(hs2:starEach [b] X.env=[(false,eval b X.env)]:=by rfl):
  PI X (.Tuple elts kk tp) (.Call (.Name "zip" p) [a,b] [] pos) (iZip X.K t1 t2 ta):=by
 intro pins s σ H R I h
 refine Call_ (Zjj I hg hm boot_zip (wS (thn (ha pos pins s σ H _ I h) λus s1 ⟨vs,H1,I1,r1,q1⟩=>?_) (by rw[hs,hs2]) (by rw[hs2];rfl)))
 obtain⟨l1,l2,xs,ys,e,q1,q2,q⟩:=q1
 subst e
 cases r1 with
 | cons r rr=>
  cases rr with
  | cons r' rr=>
   cases rr
   cases r
   cases r'
   obtain⟨us,_,su,_⟩:=I1.sq q1
   obtain⟨vs,_,sv,_⟩:=I1.sq q2
   refine Zom su sv λh' z1 z2 z3 z4 z5 z6=>?_
   have I2:Inv X pins σ H1 { s1 with heap:=h' }:=I1.kept (t':=s1.toks) z6
   refine wpAny_pyIter_zip z1 ⟨_,[s1.heap.objs.size+4,s1.heap.objs.size+2,s1.heap.objs.size+3,s1.heap.objs.size,s1.heap.objs.size+1],_,_,H1,rfl,I2,Zs4 t1 t2 _ _ _ _ _ l1 l2,⟨zipApart_new su.lt sv.lt,z1,z2,⟨_,_,z3⟩,z4,z5⟩,λb hb=>?_,q⟩
   have le:s1.heap.objs.size≤b:=by
    simp only[zV,yN,yO]at hb
    rcases hb with e|e|e|e|e<;>rw[e]<;>first|exact wR _|exact yA _ _
   have fo:=I1.fpOk le (I1.hok.fresh le)
   exact fo
end
mutual
def DV(K:Frag)(H:Hp):PyData->V->Prop
 | .none,v=>v=.non
 | .bool b,v=>v=.bl b
 | .int i,v=>v=.int i
 | .str x,v=>v=.str x
 | .list ds,v=>∃a xs,v=.ref a/\SqL K H a xs/\DVs K H ds xs
 | .tuple ds,v=>∃a xs,v=.ref a/\SqT K H a xs/\DVs K H ds xs
 | .dict _,_=>False
def DVs(K:Frag)(H:Hp):List PyData->List V->Prop
 | [],xs=>xs=[]
 | d::ds,xs=>∃x r,xs=x::r/\DV K H d x/\DVs K H ds r
end
theorem Same.tup{K:Frag}{H H':Hp}{a:Addr}{xs:List V}(e:Same H H')(h:SqT K H a xs):SqT K H' a xs:=by
 rcases h with (h|⟨o,h⟩)|h
 ·exact .inl (.inl (e _ _ h))
 ·exact .inl (.inr ⟨o,e _ _ h⟩)
 ·exact .inr h
mutual
theorem DV.same{K:Frag}{H H':Hp}(e:Same H H'):∀{d:PyData}{v:V},DV K H d v->DV K H' d v
 | .none,_,h=>by unfold DV at h |-;exact h
 | .bool _,_,h=>by unfold DV at h |-;exact h
 | .int _,_,h=>by unfold DV at h |-;exact h
 | .str _,_,h=>by unfold DV at h |-;exact h
 | .list ds,_,h=>by
  unfold DV at h |-
  obtain⟨a,xs,q1,q2,q3⟩:=h
  exact⟨a,xs,q1,e.seq q2,DVs.same e q3⟩
 | .tuple ds,_,h=>by
  unfold DV at h |-
  obtain⟨a,xs,q1,q2,q3⟩:=h
  exact⟨a,xs,q1,e.tup q2,DVs.same e q3⟩
 | .dict _,_,h=>by unfold DV at h;exact h.elim
theorem DVs.same{K:Frag}{H H':Hp}(e:Same H H'):∀{ds:List PyData}{xs:List V},DVs K H ds xs->DVs K H' ds xs
 | [],_,h=>by unfold DVs at h |-;exact h
 | d::ds,_,h=>by
  unfold DVs at h |-
  obtain⟨x,r,q1,q2,q3⟩:=h
  exact⟨x,r,q1,DV.same e q2,DVs.same e q3⟩
end
theorem DVs.ints{K:Frag}{H:Hp}:∀ns:List Int,DVs K H (ns.map .int) (ns.map .int)
 | []=>by unfold DVs;rfl
 | n::r=>by unfold DVs;exact⟨_,_,rfl,by unfold DV;rfl,DVs.ints r⟩
theorem DVs.nil{K:Frag}{H:Hp}:DVs K H [] []:=by unfold DVs;rfl
theorem DVs.cons{K:Frag}{H:Hp}{d:PyData}{ds:List PyData}{x:V}{xs:List V}(h:DV K H d x)(t:DVs K H ds xs):DVs K H (d::ds) (x::xs):=by unfold DVs;exact⟨x,xs,rfl,h,t⟩
theorem DV.int{K:Frag}{H:Hp}(i:Int):DV K H (.int i) (.int i):=by unfold DV;rfl
theorem DV.bool{K:Frag}{H:Hp}(i:Bool):DV K H (.bool i) (.bl i):=by unfold DV;rfl
theorem DV.list{K:Frag}{H:Hp}{a:Addr}{xs:List V}{ds:List PyData}(h:SqL K H a xs)(t:DVs K H ds xs):DV K H (.list ds) (.ref a):=by unfold DV;exact⟨a,xs,rfl,h,t⟩
theorem DV.tup{K:Frag}{H:Hp}{a:Addr}{xs:List V}{ds:List PyData}(h:SqT K H a xs)(t:DVs K H ds xs):DV K H (.tuple ds) (.ref a):=by unfold DV;exact⟨a,xs,rfl,h,t⟩
theorem DVs.append{K:Frag}{H:Hp}:∀{ds es:List PyData}{xs ys:List V},DVs K H ds xs->DVs K H es ys->DVs K H (ds++es) (xs++ys)
 | [],_,_,_,h,t=>by unfold DVs at h;subst h;exact t
 | d::ds,es,_,ys,h,t=>by
  unfold DVs at h
  obtain⟨x,r,q1,q2,q3⟩:=h
  subst q1
  exact DVs.cons q2 (DVs.append q3 t)
theorem DVs.length{K:Frag}{H:Hp}:∀{ds:List PyData}{xs:List V},DVs K H ds xs->ds.length=xs.length
 | [],_,h=>by unfold DVs at h;subst h;rfl
 | d::ds,_,h=>by
  unfold DVs at h
  obtain⟨x,r,q1,q2,q3⟩:=h
  subst q1
  rw[yP,yP,DVs.length q3]
theorem DVs.get{K:Frag}{H:Hp}:∀{ds:List PyData}{xs:List V}{i:Nat}{x:V},DVs K H ds xs->xs[i]? = some x->∃d,ds[i]? = some d/\DV K H d x
 | [],_,i,x,h,e=>by unfold DVs at h;subst h;simp at e
 | d::ds,_,0,x,h,e=>by
  unfold DVs at h
  obtain⟨y,r,q1,q2,q3⟩:=h
  subst q1
  simp at e;subst e
  exact⟨d,rfl,q2⟩
 | d::ds,_,i+1,x,h,e=>by
  unfold DVs at h
  obtain⟨y,r,q1,q2,q3⟩:=h
  subst q1
  obtain⟨d',h1,h2⟩:=DVs.get (i:=i) (x:=x) q3 (by simpa using e)
  exact⟨d',by simpa using h1,h2⟩
section
variable {X:Cx}{pins:List (Addr×Obj)}{σ:St}{H:Hp}{s:Shared}
mutual
theorem Inv.reads(I:Inv X pins σ H s):∀{d:PyData}{v:V}{u:Value},DV X.K H d v->RelV v u->∃as,Reads s.heap u d as
 | .none,_,u,h,r=>by unfold DV at h;subst h;cases (show u=Value.none from r);exact⟨_,.none⟩
 | .bool b,_,u,h,r=>by unfold DV at h;subst h;cases (show u=Value.bool b from r);exact⟨_,.bool b⟩
 | .int i,_,u,h,r=>by unfold DV at h;subst h;obtain⟨t,q⟩:=(show ∃t,u=Value.int i t from r);cases q;exact⟨_,.int i t⟩
 | .str x,_,u,h,r=>by unfold DV at h;subst h;obtain⟨t,q⟩:=(show ∃t,u=Value.str x t from r);cases q;exact⟨_,.str x t⟩
 | .list ds,_,u,h,r=>by
  unfold DV at h
  obtain⟨a,xs,q1,q2,q3⟩:=h
  subst q1
  cases (show u=Value.ref a from r)
  obtain⟨its,rv,p,_⟩:=I.list q2
  obtain⟨as,ra⟩:=Inv.readsAll I q3 rv
  obtain⟨o,e,c,n,d⟩:=p.isList
  exact⟨_,.list e c d (by simpa using ra)⟩
 | .tuple ds,_,u,h,r=>by
  unfold DV at h
  obtain⟨a,xs,q1,q2,q3⟩:=h
  subst q1
  cases (show u=Value.ref a from r)
  obtain⟨its,rv,p,_⟩:=I.tuple q2
  obtain⟨as,ra⟩:=Inv.readsAll I q3 rv
  obtain⟨o,e,c,n,d⟩:=p
  exact⟨_,.tuple e c d (by simpa using ra)⟩
 | .dict _,_,_,h,_=>by unfold DV at h;exact h.elim
theorem Inv.readsAll(I:Inv X pins σ H s):∀{ds:List PyData}{xs:List V}{us:List Value},DVs X.K H ds xs->Vals xs us->∃as,ReadsAll s.heap us ds as
 | [],_,_,h,r=>by unfold DVs at h;subst h;cases r;exact⟨_,.nil⟩
 | d::ds,_,us,h,r=>by
  unfold DVs at h
  obtain⟨x,t,q1,q2,q3⟩:=h
  subst q1
  cases r with
  | cons r1 r2=>
   obtain⟨as,ra⟩:=Inv.reads I q2 r1
   obtain⟨bs,rb⟩:=Inv.readsAll I q3 r2
   exact⟨_,.cons ra rb⟩
end
end
section
variable {X:Cx}
def rEqD(K:Frag)(neg:Bool):R2:=λx y H Q=>∃da db,DV K H da x/\DV K H db y/\SeqAt.shaped da=true/\SeqAt.shaped db=true/\Q (.bl (if neg then !PyData.eqv da db else PyData.eqv da db)) H
theorem Zso(hu:X.A.units+64<cLine):OpR X (compareOp .Eq) (rEqD X.K false):=by
 rintro pins s σ H x y v u Q I rx ry ⟨da,db,h1,h2,s1,s2,q⟩
 obtain⟨as,ra⟩:=I.reads h1 rx
 obtain⟨bs,rb⟩:=I.reads h2 ry
 exact SeqAt.compareEq_shaped ra rb s1 s2 hu ⟨.bl (PyData.eqv da db),H,I,rfl,q⟩
theorem Zv4(hu:X.A.units+64<cLine):OpR X (compareOp .NotEq) (rEqD X.K true):=by
 rintro pins s σ H x y v u Q I rx ry ⟨da,db,h1,h2,s1,s2,q⟩
 obtain⟨as,ra⟩:=I.reads h1 rx
 obtain⟨bs,rb⟩:=I.reads h2 ry
 exact SeqAt.compareNe_shaped ra rb s1 s2 hu ⟨.bl (!PyData.eqv da db),H,I,rfl,q⟩
theorem Zfu(hg:X.A.guards=some [])(hu:X.A.units+64<cLine):CallR X (.builtin "repr") (λxs H Q=>∃a d,xs=[.ref a]/\DV X.K H d (.ref a)/\d.showable=true/\d.hasDict=false/\d.depth≤40/\d.shown.length≤sizeLine/\Q (.str d.shown) H):=by
 rintro pins s σ H xs us Q I r ⟨a,d,rfl,h,h1,h2,h3,h4,q⟩
 obtain⟨u,rfl,rx⟩:=vals1 r
 cases (show u=Value.ref a from rx)
 obtain⟨as,ra⟩:=I.reads h rx
 exact repr_of_reads' ra h1 (PyData.noDict_hsm h2) hg (by omega) (λ_ _ e=>e) (λh' u tk hk=>⟨.str d.shown,H,I.kept hk,⟨u,rfl⟩,q⟩) h4
theorem Zi2(hc:X.calm=true):CallR X (.builtin "sum") (λxs H Q=>∃(a:Addr) (ns:List Int),xs=[.ref a]/\SqL X.K H a (ns.map V.int)/\Q (.int ns.sum) H):=by
 rintro pins s σ H xs us Q I r ⟨a,ns,rfl,h,q⟩
 obtain⟨u,rfl,rx⟩:=vals1 r
 cases (show u=Value.ref a from rx)
 obtain⟨its,rv,p,hz⟩:=I.list h
 have ia:IntsAre its ns:=Znx rv
 refine call_sum_walkG (wP p.isList ?_)
 have hlt:a<s.heap.objs.size:=by obtain⟨o,e,_⟩:=p.isList;exact zM e
 refine⟨s.heap.objs.size,_,_,_,_,_,λi=>ns.getD i 0,rfl,Walks.list (A:=X.A.in1) (I.ok.hd hc) s.heap.objs.size a (zP hlt) its.toArray,⟨⟨_,zL _ rfl,rfl,rfl⟩,p.isList.push _⟩,λb hb=>?_,λi v hv=>?_,λh' tk t' hk=>?_⟩
 ·show b<(s.heap.push _).objs.size
  rw[uU]
  simp only[zV,yN,yO]at hb
  rcases hb with e|e
  ·rw[e];exact yD _
  ·rw[e];exact uZ hlt
 ·have hv':its[i]? = some v:=by simpa using hv
  have hl:i<ns.length:=by
   have:=(zZ.mp hv').1
   have l2:=rv.length
   rw[lmp]at l2
   omega
  obtain⟨u2,h1,t,h2⟩:=rv.get (i:=i) (x:=.int ns[i]) (by simp[hl])
  rw[hv']at h1;cases h1
  refine⟨t,h2.trans ?_⟩
  dsimp only
  rw[yQ,gEq hl];rfl
 ·have e1:preSum (λi=>ns.getD i 0) its.toArray.size=ns.sum:=by
   have l2:=rv.length
   rw[lmp]at l2
   rw[wV,<- l2]
   have all:∀k≤ns.length,preSum (λi=>ns.getD i 0) k=(ns.take k).sum:=by
    intro k
    induction k with
    | zero=>intro _;rfl
    | succ k ih=>
     intro hk
     rw[List.take_succ_eq_append_getElem (by omega),sum_append]
     show preSum (λi=>ns.getD i 0) k+ns.getD k 0=_
     rw[ih (by omega),yQ,gEq (by omega)]
     simp
   rw[all _ (wR _),yR]
  refine⟨.int ns.sum,H,I.kept (λb o e=>hk b o ?_ (wQ _ e)),⟨t',by rw[e1]⟩,q⟩
  intro hb
  have:b=s.heap.objs.size:=by simpa using hb
  exact absurd (zM e) (by rw[this];exact zO _)
theorem Zi1(hc:X.calm=true):CallR X (.builtin "all") (λxs H Q=>∃(a:Addr) (bs:List Bool),xs=[.ref a]/\SqL X.K H a (bs.map V.bl)/\Q (.bl (bs.all id)) H):=by
 rintro pins s σ H xs us Q I r ⟨a,bs,rfl,h,q⟩
 obtain⟨u,rfl,rx⟩:=vals1 r
 cases (show u=Value.ref a from rx)
 obtain⟨its,rv,p,hz⟩:=I.list h
 refine call_all_walk (wP p.isList ?_)
 have hlt:a<s.heap.objs.size:=by obtain⟨o,e,_⟩:=p.isList;exact zM e
 have l2:=rv.length
 rw[lmp]at l2
 refine⟨s.heap.objs.size,_,_,_,_,_,λi=>bs.getD i true,rfl,Walks.list (A:=X.A.in1) (I.ok.hd hc) s.heap.objs.size a (zP hlt) its.toArray,⟨⟨_,zL _ rfl,rfl,rfl⟩,p.isList.push _⟩,?_,λh' tk hk=>?_⟩
 ·intro i v s' Q' E' hv hq
  have hv':its[i]? = some v:=by simpa using hv
  have hl:i<bs.length:=by
   have:=(zZ.mp hv').1
   omega
  obtain⟨u2,h1,h2⟩:=rv.get (i:=i) (x:=.bl bs[i]) (by simp[hl])
  rw[hv']at h1;cases h1
  cases (show v=Value.bool bs[i] from h2)
  refine wD ?_
  dsimp only at hq
  rw[yQ,gEq hl]at hq
  exact hq
 ·have e1:(List.range its.toArray.size).all (λi=>bs.getD i true)=bs.all id:=by
   rw[wV,<- l2,wU,uV,uV]
   constructor
   ·intro h x hx
    obtain⟨i,hi,e⟩:=yS.mp hx
    have:=h i (by simpa using hi)
    rw[yQ,gEq hi]at this
    simpa[e]using this
   ·intro h i hi
    have hi':i<bs.length:=by simpa using hi
    rw[yQ,gEq hi']
    simpa using h _ (yT hi')
  refine⟨.bl (bs.all id),H,I.kept (λb o e=>hk b o ?_ (wQ _ e)),by rw[e1];rfl,q⟩
  intro hb
  have:b=s.heap.objs.size:=by simpa using hb
  exact absurd (zM e) (by rw[this];exact zO _)
theorem Zqv:CallR X (.builtin "isinstance") (λxs H Q=>∃x t c b,xs=[x,.ty c]/\TyOf X.K H x t/\PySem.W.kitOne X.K t (.type c)=some b/\Q (.bl b) H):=by
 rintro pins s σ H xs us Q I r ⟨x,t,c,b,rfl,ty,e,q⟩
 obtain⟨u,w,rfl,rx,rc⟩:=vals2 r
 cases (show w=Value.type c from rc)
 exact Zpe I rx ty e λtk=>⟨.bl b,H,I.tok _,rfl,q⟩
def CPowB(i j:Int):Prop:=0≤j/\(Builtin.Int.intBits i:Int)*j≤2 ^ 27
theorem Zpt:OpR X (binaryOp .Pow) (rI CPowB λi j=>.int (i ^ j.toNat)):=opI λ_ _ _ _ _ _ _ hc q=>pow_int hc.1 hc.2 q
end
open AutoSeq1 (wpAny_loadPart')
open MeetsSeq MeetsSeq2 MeetsSeq3 SeqRoads2
theorem Zh9:fillsNumberSlot (.type "tuple") "mul" = pure false:=
 PySem.fillsNumberSlot_seq (id:="tuple.__mul__") (r:=some (.builtin "tuple.__rmul__")) yU.lookup (by decide +kernel) PySem.F.slot_tuple_rmul.lookup (by decide +kernel)
theorem Zk6:seqRepeat? (.type "tuple")=pure (some (.builtin "tuple.__mul__")):=by
 unfold seqRepeat?;rw[yV (T:="tuple") (name:="__mul__") (id:="tuple.__mul__") yU.lookup (by decide +kernel),yV (T:="tuple") (name:="__rmul__") (id:="tuple.__rmul__") PySem.F.slot_tuple_rmul.lookup (by decide +kernel)];rfl
theorem Zl0(a:Int)(t:Tok)(l:Addr)(items:Array Value)(n:Nat)(dd:Option Addr)(sl:Array (Option Value)):Meets (Builtin.«int.__rmul__» ⟨[.int a t,.ref l],[]⟩) (λ_ R s=>s.heap.get? l=some { cls:=.type "tuple",dict:=dd,data:=.seq items n,slots:=sl }/\R (.ok (.ret Value.notImplemented)) s):=
 .of_wp λprog w A R s h=>by obtain⟨hp,g,d,tk,os⟩:=s;obtain⟨hl,h⟩:=h;wp_walk;exact⟨_,rfl,h⟩
theorem Zlj(l:Addr)(items:Array Value)(n:Nat)(dd:Option Addr)(sl:Array (Option Value))(t:Tok):
  Meets (Builtin.«tuple.__mul__» ⟨[.ref l,.int 1 t],[]⟩) (λ_ R s=>s.heap.get? l=some { cls:=.type "tuple",dict:=dd,data:=.seq items n,slots:=sl }/\R (.ok (.ret (.ref l))) s):=
 .of_wp λprog w A R s h=>by
  obtain⟨hp,g,d,tk,os⟩:=s;obtain⟨hl,h⟩:=h;have f1:=yW;have f2:=yX
  wp_walk using vK hl
  exact⟨_,rfl,h⟩
theorem Zmn(l:Addr)(items:Array Value)(n:Nat)(dd:Option Addr)(sl:Array (Option Value))(t:Tok)(k:Int)(h1:1<k)(h2:k<2 ^ 63)(he:items.isEmpty=false)(hz:items.size*k.toNat≤sizeLine):
  Meets (Builtin.«tuple.__mul__» ⟨[.ref l,.int k t],[]⟩) (λ_ R s=>s.heap.get? l=some { cls:=.type "tuple",dict:=dd,data:=.seq items n,slots:=sl }/\R (.ok (.ret (.ref s.heap.objs.size))) { s with heap:=s.heap.push { cls:=.type "tuple",data:=.seq ((List.replicate k.toNat items).foldl (·++·) #[]) } }):=
 .of_wp λprog w A R s h=>by
  obtain⟨hp,g,d,tk,os⟩:=s;obtain⟨hl,h⟩:=h;have f1:=yW;have f2:=yX
  have c1:(decide (k < -2 ^ 63)||decide (k≥2 ^ 63))=false:=by
   rw[yY];exact⟨zF (by omega),zF (by omega)⟩
  have c2:(items.isEmpty||k == 1)=false:=by rw[he,Bool.false_or];exact zG.mpr (by omega)
  have c3:(decide (k≤0)||items.isEmpty)=false:=by rw[he,Bool.or_false];exact zF (by omega)
  have kn:((k.toNat:Nat):Int)=k:=by omega
  have hz':(items.size:Int)*k≤(sizeLine:Int):=by rw[<- kn];exact_mod_cast hz
  have c4:¬((items.size:Int)*k > (2 ^ 63-1) / 8):=by
   have:(sizeLine:Int)≤(2 ^ 63-1) / 8:=by decide
   omega
  have c5:Builtin.Tuple.tupleTooMany ((items.size:Int)*k)=false:=zF (by omega)
  have cc:∀{b:Bool},b=false->decide (b=true)=false:=λh=>by rw[h];rfl
  wp_walk using vK hl
  refine yZ (cc c1) ?_
  wp_walk using vK hl
  refine yZ (cc c2) ?_
  wp_walk using vK hl
  refine yZ (cc c3) ?_
  wp_walk using vK hl
  refine yZ (zF c4) ?_
  wp_walk using vK hl
  have fit:(List.foldl (λx1 x2=>x1++x2) #[] (List.replicate k.toNat items)).size≤sizeLine:=by
   have all:∀(m:Nat) (acc:Array Value),(List.foldl (λx1 x2=>x1++x2) acc (List.replicate m items)).size=acc.size+items.size*m:=by
    intro m
    induction m with
    | zero=>intro acc;simp
    | succ m ih=>intro acc;rw[uE,uH,ih,Array.size_append,Nat.mul_succ];omega
   rw[all];simpa using hz
  refine yZ (zF (Nat.not_lt.mpr fit)) ?_
  wp_walk using vK hl
  exact⟨_,rfl,h⟩
section
variable {X:Cx}
theorem Zcf{H:Hp}{p:Addr}(h:H p=none)(o:HO):Same H (upd H p o):=λb u q=>by rw[Zb3 (Zdl q h)];exact q
theorem Zs3(l b:Addr)(items items2:Array Value)(n n2:Nat)(dd dd2:Option Addr)(sl sl2:Array (Option Value))(hc0:items.isEmpty=true):
  Meets (Builtin.«tuple.__add__» ⟨[.ref l,.ref b],[]⟩) (λ_ R s=>s.heap.get? l=some { cls:=.type "tuple",dict:=dd,data:=.seq items n,slots:=sl }/\s.heap.get? b=some { cls:=.type "tuple",dict:=dd2,data:=.seq items2 n2,slots:=sl2 }/\R (.ok (.ret (Value.ref b))) s):=
 .of_wp λprog w A R s h=>by obtain⟨hp,g,d,tk,os⟩:=s;obtain⟨hl,hb,h⟩:=h;have f1:=yW;have f2:=yX;wp_walk using vK hl,vK hb;exact⟨_,rfl,h⟩
end
end L2
namespace L2
open PySem PySem.Spec PyProof.Rows
section
variable {X:Cx}{CX:CXT}{k:Nat}{f C:Addr}{fd:FuncData}{ps ks:List Str}{sp:Sp}{E:XK}{x m:Str}{p pos apos kpos:Pos}{kws:List Keyword}{tk:TA}
variable {g:List Value->List Value->List Value}{gV:List V->List V->List V}
end
section
variable {X:Cx}
theorem Zen:OpR X (binaryOp .Mult) (rI IntMulOk λi j=>.int (i*j)):=opI λ_ _ _ _ _ _ _ hc q=>mul_int q hc
theorem Zh4{i:Int}{n:Nat}(h:i.natAbs<2 ^ n):Builtin.Int.intBits i≤n:=by
 unfold Builtin.Int.intBits
 split
 ·exact yE _
 ·rename_i hne
  have h0:i.natAbs≠0:=by
   intro z
   exact hne (by simpa using z)
  have:=(Nat.log2_lt h0).mpr h
  omega
theorem Zn8{i j:Int}{n:Nat}(hn:n≤2 ^ 20)(hi:i.natAbs<2 ^ n)(hj:j.natAbs<2 ^ n):IntMulOk i j:=IntMulOk.of_bits (zR (Zh4 hi) hn) (zR (Zh4 hj) hn)
end
def SB(u:Addr)(H H':Hp):Prop:=∀b o,b≠u->H b=some o->H' b=some o
theorem SB.trans{u:Addr}{H H1 H2:Hp}(a:SB u H H1)(b:SB u H1 H2):SB u H H2:=λc o n h=>b c o n (a c o n h)
theorem Same.sb{H H':Hp}(e:Same H H')(u:Addr):SB u H H':=λb o _ h=>e b o h
theorem SB.upd(u:Addr)(H:Hp)(o:HO):SB u H (upd H u o):=λb v n h=>by rw[Zb3 n];exact h
theorem SB.seq{K:Frag}{u:Addr}{H H':Hp}{a:Addr}{xs:List V}(e:SB u H H')(n:a≠u)(h:SqL K H a xs):SqL K H' a xs:=by
 rcases h with (h|⟨o,h⟩)|h
 ·exact .inl (.inl (e _ _ n h))
 ·exact .inl (.inr ⟨o,e _ _ n h⟩)
 ·exact .inr h
theorem SB.tup{K:Frag}{u:Addr}{H H':Hp}{a:Addr}{xs:List V}(e:SB u H H')(n:a≠u)(h:SqT K H a xs):SqT K H' a xs:=by
 rcases h with (h|⟨o,h⟩)|h
 ·exact .inl (.inl (e _ _ n h))
 ·exact .inl (.inr ⟨o,e _ _ n h⟩)
 ·exact .inr h
theorem SB.get{u:Addr}{H H':Hp}(e:SB u H H'){b:Addr}{o:HO}(h:H b=some o)(n:b≠u):H' b=some o:=e b o n h
def BindsAll(x:Str)(st:Stmt)(ps:List Str):Prop:=∀(kV doc pm:Value) (an:Option Addr) (cdv ct:Value) (us:List Value),us.length=ps.length->bindArgs (PySem.W.fnOf x x (defArgs st) (defBody st) (defScope st) .none kV doc pm an cdv ct) ⟨us,[]⟩=pure (ps.zip us)
def gaP(na nk:Nat)(pick:List (Bool×Nat)){α:Type}(us ws:List α):List α:=if us.length=na/\ws.length=nk then pick.filterMap (λp=>if p.1=true then us[p.2]? else ws[p.2]?) else []
def KBindsAll(x:Str)(st:Stmt)(ps ks:List Str)(na nk:Nat)(pick:List (Bool×Nat)):Prop:=∀(kV doc pm:Value) (an:Option Addr) (cdv ct:Value) (us ws:List Value),(gaP na nk pick us ws).length=ps.length ->
 bindArgs (PySem.W.fnOf x x (defArgs st) (defBody st) (defScope st) .none kV doc pm an cdv ct) ⟨us,ks.zip ws⟩=pure (ps.zip (gaP na nk pick us ws))
theorem Zt7{na nk:Nat}{pick:List (Bool×Nat)}{α:Type}{us ws:List α}{n:Nat}(h:(gaP na nk pick us ws).length=n+1):us.length=na/\ws.length=nk:=by
 unfold gaP at h
 split at h
 ·assumption
 ·cases h
theorem Zt8{na nk:Nat}{pick:List (Bool×Nat)}{vs:List V}{us:List Value}{zs:List V}{ws:List Value}(r:Vals vs us)(z:Vals zs ws):Vals (gaP na nk pick vs zs) (gaP na nk pick us ws):=by
 unfold gaP
 rw[r.length,z.length]
 split
 ·induction pick with
  | nil=>exact .nil
  | cons p t ih=>
   have look:∀{as:List V}{bs:List Value},Vals as bs->∀i:Nat,(∃a b,as[i]? = some a/\bs[i]? = some b/\RelV a b)\/(as[i]? = none/\bs[i]? = none):=λ{as bs} q i=>by
    cases e:as[i]? with
    | none=>exact .inr ⟨rfl,q.none_of e⟩
    | some a=>obtain⟨b,h1,h2⟩:=q.get e;exact .inl ⟨a,b,rfl,h1,h2⟩
   rw[zS,zS]
   cases p.1 with
   | true=>
    rcases look r p.2 with ⟨a,b,e1,e2,q⟩|⟨e1,e2⟩
    ·simp only[vQ,e1,e2];exact .cons q ih
    ·simp only[vQ,e1,e2];exact ih
   | false=>
    rcases look z p.2 with ⟨a,b,e1,e2,q⟩|⟨e1,e2⟩
    ·simp only[uP,vP,e1,e2];exact .cons q ih
    ·simp only[uP,vP,e1,e2];exact ih
 ·exact .nil
structure Dn(P:Program)(w:World)(K:Frag)(mg:Str->Option Value)(base:Heap)(k:Nat)(x:Str)(st:Stmt)(ps:List Str)(sp:Sp):Prop where
 ex:∃f fd,FnOk P w K mg base CX0 k f fd ps sp/\Fun K x x st f fd/\mg x=some (.ref f)
section
variable {X:Cx}{k:Nat}{x:Str}{st:Stmt}{ps ks:List Str}{sp:Sp}{p pos:Pos}{e:Expr}{es:List Expr}{kws:List Keyword}{t tk:TA}{na nk:Nat}{pick:List (Bool×Nat)}
theorem Zv7(D:Dn X.prog X.w X.K X.mg X.base k x st ps sp)(hb:BindsAll x st ps)(hr:Room k X.A)(ha:PA X (e::es) t)(hg:Gl X x:=by rfl)(hs:starEach (e::es) X.env=(false,eval e X.env)::starEach es X.env:=by rfl)(hpl:(backTo pos (starEach es X.env)).any (·.1)=false:=by rfl) 
  (hdb:(x == ("__debug__" : Str))=false:=by decide):PE X (.Call (.Name x p) (e::es) [] pos) (tCall sp [] E0 t):=by
 obtain⟨f,fd,F,U,m⟩:=D.ex
 exact Ztl F hr hg m U.kp (U.binds hb) .nil pass0 ha (hdb:=hdb) (he:=hs) (hpl:=hpl)
theorem Fun.kbinds{K:Frag}{f:Addr}{fd:FuncData}(F:Fun K x x st f fd)(h:KBindsAll x st ps ks na nk pick):KBinds K fd ps ks (gaP na nk pick) (gaP na nk pick):=by
 obtain⟨oc,od,kV,doc,pm,an,cdv,ct,osl,rfl,lk,hcd⟩:=F.ex
 exact⟨λs us ws _ hl=>.of_eq (h kV doc pm an cdv ct us ws hl),λr z=>Zt8 r z⟩
theorem Zto(D:Dn X.prog X.w X.K X.mg X.base k x st ps sp)(hb:KBindsAll x st ps ks na nk pick)(hr:Room k X.A)(ha:PA X (e::es) t)(hkw:PK X kws tk)(hg:Gl X x:=by rfl)(hall:(backToKw pos (keywordEach kws X.env)).all (·.1.isSome)=true:=by rfl)(hks:(backToKw pos (keywordEach kws X.env)).filterMap (·.1)=ks:=by rfl) 
  (hdb:(x == ("__debug__" : Str))=false:=by decide) (he:starEach (e::es) X.env=(false,eval e X.env)::starEach es X.env:=by rfl)
  (hpl:((backTo pos (starEach (e::es) X.env)).any (·.1)||(backToKw pos (keywordEach kws X.env)).any (·.1.isNone))=false:=by rfl):PE X (.Call (.Name x p) (e::es) kws pos) (tCallK sp (gaP na nk pick) E0 t tk):=by
 obtain⟨f,fd,F,U,m⟩:=D.ex
 exact Zna F hr hg m U.kp (U.kbinds hb) pass0 ha hkw hall hks hdb he hpl
end
theorem Dn.of{P:Program}{w:World}{K:Frag}{mg:Str->Option Value}{base:Heap}{x:Str}{st:Stmt}{N ps:List Str}{k:Nat}{sp:Sp}(U:∃f fd,Fun K x x st f fd/\mg x=some (.ref f))(S:FnScope N ps (defScope st))(len:∀vs H Q E,sp vs H Q E->vs.length=ps.length) 
  (hbody:∀(f:Addr) (cdv:Value) (A:Around) (outer:List Env) (s:Shared) (H:Hp) (vs:List V) (Q:VK) (E:XK),Room k (A.deeper (envOfC x (defScope st) s.heap.objs.size f cdv))->sp vs H Q E ->
   ∃t,PSs (cxOf CX0 P w K mg base N x (defScope st) f cdv A outer s H E).nox (defBody st) t/\t { nx:=λ_ H'=>Q .non H',rt:=Q } (start N vs) H):Dn P w K mg base (k+1) x st ps sp:=by
 obtain⟨f,fd,F,m⟩:=U
 exact⟨f,fd,F.ok S len λcdv A outer s H vs Q E hr h=>hbody f cdv A outer s H vs Q E hr h,F,m⟩
def Urn(H:Hp)(u:Addr)(m:Nat):Prop:=∃g c n:Int,H u=some (.lst [.int g,.int c,.int n])/\0≤g/\0≤c/\c≤4000000000000000000/\0≤n/\n≤m
theorem Urn.mono{H:Hp}{u:Addr}{m m':Nat}(h:Urn H u m)(le:m≤m'):Urn H u m':=by
 obtain⟨g,c,n,e,h1,h2,h3,h4,h5⟩:=h
 exact⟨g,c,n,e,h1,h2,h3,h4,by omega⟩
theorem Urn.same{H H':Hp}{u:Addr}{m:Nat}(h:Urn H u m)(s:Same H H'):Urn H' u m:=by
 obtain⟨g,c,n,e,r⟩:=h
 exact⟨g,c,n,s _ _ e,r⟩
theorem Urn.ne{H:Hp}{u p:Addr}{m:Nat}(h:Urn H u m)(e:H p=none):p≠u:=by
 obtain⟨g,c,n,q,_⟩:=h
 exact λz=>by rw[z,q]at e;cases e
def spUrn(K:Frag):Sp:=λvs H Q _=>∃(a:Addr) (ns:List Int) (k:Int),vs=[.ref a,.int k]/\SqL K H a (ns.map V.int)/\0≤k/\k≤100 /\
 ∀(r:Addr) (H':Hp),Same H H'->H r=none->Urn H' r 0->Q (.ref r) H'
def spDraw:Sp:=λvs H Q _=>∃(u:Addr) (wd:Int) (m:Nat),vs=[.ref u,.int wd]/\Urn H u m/\m≤1000000/\0<wd/\wd<1073741824 /\
 ∀(d:Int) (H':Hp),0≤d->d<wd->SB u H H'->Urn H' u (m+1)->Q (.int d) H'
theorem Zip{i:Int}{n:Nat}(h0:0≤i)(h:i<2 ^ n):i.natAbs<2 ^ n:=by
 have e:((i.natAbs:Nat):Int)=i:=Int.natAbs_of_nonneg h0
 have:((i.natAbs:Nat):Int)<((2 ^ n:Nat):Int):=by rw[e];simpa using h
 exact_mod_cast this
theorem prime7(j:Int):∃q:Int,atI [V.int 2147483647,V.int 2147483629,V.int 2147483587,V.int 2147483579,V.int 2147483563,V.int 2147483549,V.int 2147483543] (j % 7)=some (.int q)/\0<q/\q≤2147483647:=by
 have h0:=xA j (show(7:Int)≠0 by decide)
 have h1:=xB j (show(0:Int)<7 by decide)
 have:j % 7=0\/j % 7=1\/j % 7=2\/j % 7=3\/j % 7=4\/j % 7=5\/j % 7=6:=by omega
 rcases this with e|e|e|e|e|e|e<;>rw[e]<;>exact⟨_,rfl,by decide,by decide⟩
section
variable {X:Cx}{Nc:List Str}{scope:Scope}{cs:List (Str×Addr)}{C:Addr}{s:Shared}{H:Hp}{fp:List Addr}{x:Str}{pos:Pos}
theorem Zgh:(cxComp X Nc scope cs C s H fp).env.scope.names.lookup x=(scope.names.lookup x).map λk=>if(k == NameKind.free&&X.env.scope.kind == .function&&X.env.kindOf x == some .cell) then .cell else k:=Zem
theorem Zgz(h:scope.names.lookup x=some .local):(cxComp X Nc scope cs C s H fp).env.scope.names.lookup x=some .local:=by rw[Zgh,h];rfl
theorem Zoo(h:scope.names.lookup x=some .cell):(cxComp X Nc scope cs C s H fp).env.scope.names.lookup x=some .cell:=by rw[Zgh,h];rfl
theorem Zdy(h:scope.names.lookup x=some .globalImplicit:=by rfl):Gl (cxComp X Nc scope cs C s H fp) x:=by
 show(cxComp X Nc scope cs C s H fp).env.scope.names.lookup x=_
 rw[Zgh,h];rfl
theorem Zs6(h:scope.names.lookup x=some .free):Vis (cxComp X Nc scope cs C s H fp).env.scope x:=by
 unfold Vis
 rw[Zgh,h]
 simp only[uS]
 split
 ·exact .inr (.inl rfl)
 ·exact .inr (.inr rfl)
theorem pvl(i:Nat)(hN:Nc[i]? = some x:=by rfl)(hk:scope.names.lookup x=some .local:=by rfl)(hd:(x == ("__debug__" : Str))=false:=by decide)(hcd:(x == ("__classdict__" : Str))=false:=by decide):PE (cxComp X Nc scope cs C s H fp) (.Name x pos) (tVar i):=
 Zpy (X:=cxComp X Nc scope cs C s H fp) hN (.inl (Zgz hk)) hd hcd
theorem pvf(i:Nat)(hN:Nc[i]? = some x:=by rfl)(hk:scope.names.lookup x=some .free:=by rfl)(hd:(x == ("__debug__" : Str))=false:=by decide)(hcd:(x == ("__classdict__" : Str))=false:=by decide):PE (cxComp X Nc scope cs C s H fp) (.Name x pos) (tVar i):=
 Zpy (X:=cxComp X Nc scope cs C s H fp) hN (Zs6 hk) hd hcd
theorem pgl(i:Nat)(hN:Nc.Nodup)(hi:Nc[i]? = some x:=by rfl)(hk:scope.names.lookup x=some .local:=by rfl):PG (cxComp X Nc scope cs C s H fp) (.Name x pos) (gName i):=
 Zme (X:=cxComp X Nc scope cs C s H fp) hN hi (.inl (Zgz hk)) (.inr (Zgz hk))
theorem pgc(i:Nat)(hN:Nc.Nodup)(hi:Nc[i]? = some x:=by rfl)(hk:scope.names.lookup x=some .cell:=by rfl):PG (cxComp X Nc scope cs C s H fp) (.Name x pos) (gName i):=
 Zme (X:=cxComp X Nc scope cs C s H fp) hN hi (.inr (Zoo hk)) (.inl (by show(scope.names.lookup x == some .cell)=true;rw[hk];rfl))
end
@[irreducible] def IPE(X:Cx)(e:Expr)(t:TE):Prop:=PE X e t
theorem Zaq{X:Cx}{e:Expr}{t:TE}:IPE X e t=PE X e t:=by unfold IPE;rfl
@[irreducible] def IPT(X:Cx)(e:Expr)(t:TT):Prop:=PT X e t
theorem Zat{X:Cx}{e:Expr}{t:TT}:IPT X e t=PT X e t:=by unfold IPT;rfl
@[irreducible] def IPW(X:Cx)(e:Expr)(t:TT):Prop:=PW X e t
theorem Zay{X:Cx}{e:Expr}{t:TT}:IPW X e t=PW X e t:=by unfold IPW;rfl
@[irreducible] def IPA(X:Cx)(e:List Expr)(t:TA):Prop:=PA X e t
theorem Zaw{X:Cx}{e:List Expr}{t:TA}:IPA X e t=PA X e t:=by unfold IPA;rfl
@[irreducible] def IPK(X:Cx)(e:List Keyword)(t:TA):Prop:=PK X e t
theorem Zax{X:Cx}{e:List Keyword}{t:TA}:IPK X e t=PK X e t:=by unfold IPK;rfl
@[irreducible] def IPS(X:Cx)(e:Stmt)(t:TS):Prop:=PS X e t
theorem Zav{X:Cx}{e:Stmt}{t:TS}:IPS X e t=PS X e t:=by unfold IPS;rfl
@[irreducible] def IPSs(X:Cx)(e:List Stmt)(t:TS):Prop:=PSs X e t
theorem Zaf{X:Cx}{e:List Stmt}{t:TS}:IPSs X e t=PSs X e t:=by unfold IPSs;rfl
@[irreducible] def IPG(X:Cx)(e:Expr)(t:TG):Prop:=PG X e t
theorem Zaz{X:Cx}{e:Expr}{t:TG}:IPG X e t=PG X e t:=by unfold IPG;rfl
@[irreducible] def IPGs(X:Cx)(e:List Expr)(t:TGs):Prop:=PGs X e t
theorem Zah{X:Cx}{e:List Expr}{t:TGs}:IPGs X e t=PGs X e t:=by unfold IPGs;rfl
@[irreducible] def IPI(X:Cx)(tg e:Expr)(t:TI):Prop:=PI X tg e t
theorem Zb0{X:Cx}{tg e:Expr}{t:TI}:IPI X tg e t=PI X tg e t:=by unfold IPI;rfl
@[irreducible] def IPO(X:Cx)(e:Option Expr)(t:TO):Prop:=PO X e t
theorem Zb1{X:Cx}{e:Option Expr}{t:TO}:IPO X e t=PO X e t:=by unfold IPO;rfl
@[irreducible] def IPTs(X:Cx)(e:List Expr)(t:TT):Prop:=PTs X e t
theorem Zai{X:Cx}{e:List Expr}{t:TT}:IPTs X e t=PTs X e t:=by unfold IPTs;rfl
theorem IPSs.get{X:Cx}{e:List Stmt}{t:TS}(h:IPSs X e t):PSs X e t:=by rw[<- Zaf];exact h
theorem IPW.pt{X:Cx}{e:Expr}{t:TT}(h:IPW X e t):IPT X e t:=by rw[Zat];rw[Zay]at h;exact h.pt
theorem Za5{X:Cx}{i j pos}:IPE X (.Constant (.int i) j pos) (tC (.int i)):=by
 simp only[Zaq,Zat,Zay,Zaw,Zax,Zav,Zaf,Zaz,Zah,Zb0,Zb1,Zai]at *
 exact Zv8 
theorem Zce{X:Cx}{b j pos}:IPE X (.Constant (.bool b) j pos) (tC (.bl b)):=by
 simp only[Zaq,Zat,Zay,Zaw,Zax,Zav,Zaf,Zaz,Zah,Zb0,Zb1,Zai]at *
 exact Zw9 
theorem Zfz{X:Cx}{j pos}:IPE X (.Constant .none j pos) (tC .non):=by
 simp only[Zaq,Zat,Zay,Zaw,Zax,Zav,Zaf,Zaz,Zah,Zb0,Zb1,Zai]at *
 exact Zva 
theorem Zbt{X:Cx}{x j pos}:IPE X (.Constant (.str x) j pos) (tC (.str x)):=by
 simp only[Zaq,Zat,Zay,Zaw,Zax,Zav,Zaf,Zaz,Zah,Zb0,Zb1,Zai]at *
 exact Zvd 
theorem Zpc{X:Cx}{op:UnaryOp}{r:V->Hp->VK->Prop}(ho:UnR X (unaryOp op) r)(ha:IPE X a ta):IPE X (.UnaryOp op a pos) (tUn r ta):=by
 simp only[Zaq,Zat,Zay,Zaw,Zax,Zav,Zaf,Zaz,Zah,Zb0,Zb1,Zai]at *
 exact Zwd (ho:=ho) (ha:=ha)
theorem Zr2{X:Cx}(ha:IPE X a ta):IPE X (.UnaryOp .Not a pos) (tNotV ta):=by
 simp only[Zaq,Zat,Zay,Zaw,Zax,Zav,Zaf,Zaz,Zah,Zb0,Zb1,Zai]at *
 exact Zvb (ha:=ha)
theorem Zaj{X:Cx}{op:Operator}{r:R2}(ho:OpR X (binaryOp op) r)(ha:IPE X a ta)(hb:IPE X b tb):IPE X (.BinOp a op b pos) (tOp r ta tb):=by
 simp only[Zaq,Zat,Zay,Zaw,Zax,Zav,Zaf,Zaz,Zah,Zb0,Zb1,Zai]at *
 exact Zwc (ho:=ho) (ha:=ha) (hb:=hb)
theorem Zdr{X:Cx}{op:CmpOp}{r:R2}(ho:OpR X (compareOp op) r)(ha:IPE X a ta)(hb:IPE X b tb)(hm:behindInMarks op b=false):IPE X (.Compare a [op] [b] pos) (tOp r ta tb):=by
 simp only[Zaq,Zat,Zay,Zaw,Zax,Zav,Zaf,Zaz,Zah,Zb0,Zb1,Zai]at *
 exact Ztm (ho:=ho) (ha:=ha) (hb:=hb) (hm:=hm)
theorem Zfy{X:Cx}{rest:List Expr}(ha:IPE X a ta)(hb:IPE X (.BoolOp .And (b::rest) pos) tb):IPE X (.BoolOp .And (a::b::rest) pos) (tAndV ta tb):=by
 simp only[Zaq,Zat,Zay,Zaw,Zax,Zav,Zaf,Zaz,Zah,Zb0,Zb1,Zai]at *
 exact Zv6 (ha:=ha) (hb:=hb)
theorem Zgl{X:Cx}{op}{t:TE}(h:IPE X a t):IPE X (.BoolOp op [a] pos) t:=by
 simp only[Zaq,Zat,Zay,Zaw,Zax,Zav,Zaf,Zaz,Zah,Zb0,Zb1,Zai]at *
 exact Zvc (h:=h)
theorem Zcq{X:Cx}(h:IPA X es t):IPE X (.List es pos) (tLst t):=by
 simp only[Zaq,Zat,Zay,Zaw,Zax,Zav,Zaf,Zaz,Zah,Zb0,Zb1,Zai]at *
 exact Zv9 (h:=h)
theorem Zb6{X:Cx}{x1}(h:IPA X es t):IPE X (.Tuple es x1 pos) (tTup t):=by
 simp only[Zaq,Zat,Zay,Zaw,Zax,Zav,Zaf,Zaz,Zah,Zb0,Zb1,Zai]at *
 exact Zve (h:=h)
theorem Zg0{X:Cx}{lo:Option Expr}{hi:Option Expr}{th:TO}{tl:TO}{r:V->Option Int->Option Int->Hp->VK->Prop}(hr:SlR X r)(he:IPE X e te)(hl:IPO X lo tl)(hu:IPO X hi th):IPE X (.Subscript e (.Slice lo hi none p2) pos) (tSl r te tl th):=by
 simp only[Zaq,Zat,Zay,Zaw,Zax,Zav,Zaf,Zaz,Zah,Zb0,Zb1,Zai]at *
 exact Zri (hr:=hr) (he:=he) (hl:=hl) (hu:=hu)
theorem Zgm{X:Cx}:IPO X none tNoPart:=by
 simp only[Zaq,Zat,Zay,Zaw,Zax,Zav,Zaf,Zaz,Zah,Zb0,Zb1,Zai]at *
 exact Ztv 
theorem Zgn{X:Cx}(h:IPE X e te):IPO X (some e) (tPart te):=by
 simp only[Zaq,Zat,Zay,Zaw,Zax,Zav,Zaf,Zaz,Zah,Zb0,Zb1,Zai]at *
 exact Ztw (h:=h)
theorem Zak{X:Cx}{r:R2}(hr:IxR X r)(ha:IPE X a ta)(hb:IPE X b tb)(hs:PlainIx b):IPE X (.Subscript a b pos) (tOp r ta tb):=by
 simp only[Zaq,Zat,Zay,Zaw,Zax,Zav,Zaf,Zaz,Zah,Zb0,Zb1,Zai]at *
 exact Zwb (hr:=hr) (ha:=ha) (hb:=hb) (hs:=hs)
theorem Zab{X:Cx}{id:String}(hc:CallR X (.builtin id) r)(hg:Gl X x)(hm:X.mg x=none)(hv:bootBuiltins x=some (.builtin id))(ha:IPA X (e::es) t)(hn:x≠"__name__":=by decide)(hdb:(x == ("__debug__" : Str))=false:=by decide) 
  (he:starEach (e::es) X.env=(false,eval e X.env)::starEach es X.env:=by rfl) (hpl:(backTo pos (starEach es X.env)).any (·.1)=false:=by rfl):IPE X (.Call (.Name x p) (e::es) [] pos) (tCB r t):=by
 simp only[Zaq,Zat,Zay,Zaw,Zax,Zav,Zaf,Zaz,Zah,Zb0,Zb1,Zai]at *
 exact Zre (hc:=hc) (hg:=hg) (hm:=hm) (hv:=hv) (ha:=ha) (hn:=hn) (hdb:=hdb) (he:=he) (hpl:=hpl)
theorem Zcj{X:Cx}{T:String}(hc:CallR X (.type T) r)(hg:Gl X x)(hm:X.mg x=none)(hv:bootBuiltins x=some (.type T))(ha:IPA X (e::es) t)(hn:x≠"__name__":=by decide)(hdb:(x == ("__debug__" : Str))=false:=by decide) 
  (he:starEach (e::es) X.env=(false,eval e X.env)::starEach es X.env:=by rfl) (hpl:(backTo pos (starEach es X.env)).any (·.1)=false:=by rfl):IPE X (.Call (.Name x p) (e::es) [] pos) (tCB r t):=by
 simp only[Zaq,Zat,Zay,Zaw,Zax,Zav,Zaf,Zaz,Zah,Zb0,Zb1,Zai]at *
 exact Zpx (hc:=hc) (hg:=hg) (hm:=hm) (hv:=hv) (ha:=ha) (hn:=hn) (hdb:=hdb) (he:=he) (hpl:=hpl)
theorem Zar{X:Cx}{st:Stmt}{sp:Sp}{ps:List Str}(D:Dn X.prog X.w X.K X.mg X.base k x st ps sp)(hb:BindsAll x st ps)(hr:Room k X.A)(ha:IPA X (e::es) t)(hg:Gl X x:=by rfl)(hs:starEach (e::es) X.env=(false,eval e X.env)::starEach es X.env:=by rfl)(hpl:(backTo pos (starEach es X.env)).any (·.1)=false:=by rfl) 
  (hdb:(x == ("__debug__" : Str))=false:=by decide):IPE X (.Call (.Name x p) (e::es) [] pos) (tCall sp [] E0 t):=by
 simp only[Zaq,Zat,Zay,Zaw,Zax,Zav,Zaf,Zaz,Zah,Zb0,Zb1,Zai]at *
 exact Zv7 (D:=D) (hb:=hb) (hr:=hr) (ha:=ha) (hg:=hg) (hs:=hs) (hpl:=hpl) (hdb:=hdb)
theorem Zky{X:Cx}{st:Stmt}{sp:Sp}{kws:List Keyword}{tk:TA}{ps:List Str}{ks:List Str}{pick:List (Bool×Nat)}{na:Nat}{nk:Nat}(D:Dn X.prog X.w X.K X.mg X.base k x st ps sp)(hb:KBindsAll x st ps ks na nk pick)(hr:Room k X.A)(ha:IPA X (e::es) t)(hkw:IPK X kws tk)(hg:Gl X x:=by rfl)(hall:(backToKw pos (keywordEach kws X.env)).all (·.1.isSome)=true:=by rfl)(hks:(backToKw pos (keywordEach kws X.env)).filterMap (·.1)=ks:=by rfl) 
  (hdb:(x == ("__debug__" : Str))=false:=by decide) (he:starEach (e::es) X.env=(false,eval e X.env)::starEach es X.env:=by rfl)
  (hpl:((backTo pos (starEach (e::es) X.env)).any (·.1)||(backToKw pos (keywordEach kws X.env)).any (·.1.isNone))=false:=by rfl):IPE X (.Call (.Name x p) (e::es) kws pos) (tCallK sp (gaP na nk pick) E0 t tk):=by
 simp only[Zaq,Zat,Zay,Zaw,Zax,Zav,Zaf,Zaz,Zah,Zb0,Zb1,Zai]at *
 exact Zto (D:=D) (hb:=hb) (hr:=hr) (ha:=ha) (hkw:=hkw) (hg:=hg) (hall:=hall) (hks:=hks) (hdb:=hdb) (he:=he) (hpl:=hpl)
theorem Zda{X:Cx}{id:String}{T:String}{name:Str}{to:TE}(pa:PlainAttrs T)(slot:Slot T name id)(hty:typeOf (.builtin id)=pure (.type "method_descriptor"))(hm:MtR X id r)(ho:IPE X o to)(ha:IPA X (e::es) t) 
  (hbase:attributeBase o name X.env (eval o X.env)=eval o X.env:=by rfl)
  (hfew:((backTo cpos (starEach (e::es) X.env)).all (λx=>!x.1)&&(backToKw cpos (keywordEach [] X.env)).all (λx=>x.1.isSome)
  &&decide ((e::es).length+([]:List Keyword).length+(if([]:List Keyword).isEmpty then 0 else 1)<30))=true:=by rfl)
  (hline:(apos.endLine == cpos.line)=true:=by rfl) (hs:starEach (e::es) X.env=(false,eval e X.env)::starEach es X.env:=by rfl) (hplain:(backTo cpos (starEach es X.env)).any (·.1)=false:=by rfl) :
  IPE X (.Call (.Attribute o name apos) (e::es) [] cpos) (tBM X.K T r to t):=by
 simp only[Zaq,Zat,Zay,Zaw,Zax,Zav,Zaf,Zaz,Zah,Zb0,Zb1,Zai]at *
 exact Zwa (pa:=pa) (slot:=slot) (hty:=hty) (hm:=hm) (ho:=ho) (ha:=ha) (hbase:=hbase) (hfew:=hfew) (hline:=hline) (hs:=hs) (hplain:=hplain)
theorem Zdq{X:Cx}{x:Str}{v:V}{u:Value}{pos:Pos}(hg:Gl X x)(hm:X.mg x=none)(hv:bootBuiltins x=some u)(r:RelV v u)(hn:x≠"__name__":=by decide)(hd:(x == ("__debug__" : Str))=false:=by decide):IPE X (.Name x pos) (tC v):=by
 simp only[Zaq,Zat,Zay,Zaw,Zax,Zav,Zaf,Zaz,Zah,Zb0,Zb1,Zai]at *
 exact Ztk (hg:=hg) (hm:=hm) (hv:=hv) (r:=r) (hn:=hn) (hd:=hd)
theorem Zbq{X:Cx}{elt tg iter:Expr}{ifs:List Expr}{scope:Scope}{pos:Pos}{Nc:List Str}{cap:List (Option Nat)}{wi:TI}{g:TG}{tt:TT}{te:TE} 
  (hc:X.calm=true) (hi:IPI X tg iter wi) (ok:capOk X Nc cap scope=true) (hg:∀cs C s H fp,IPG (cxComp X Nc scope cs C s H fp) tg g) (ht:∀cs C s H fp,IPTs (cxComp X Nc scope cs C s H fp) ifs tt)
  (he:∀cs C s H fp,IPE (cxComp X Nc scope cs C s H fp) elt te) (hk:scope.kind=.function:=by rfl) (hs:∀x,foldedSetIterable iter X.env x=pure x:=by intro _;rfl) :
  IPE X (.ListComp elt [⟨tg,iter,ifs,0⟩] scope pos) (tComp wi cap g tt (tEmit te)):=by
 simp only[Zaq,Zat,Zay,Zaw,Zax,Zav,Zaf,Zaz,Zah,Zb0,Zb1,Zai]at *
 exact Ztn (hc:=hc) (hi:=hi) (ok:=ok) (hg:=hg) (ht:=ht) (he:=he) (hk:=hk) (hs:=hs)
theorem Zje{X:Cx}{elt tg iter tg2 iter2:Expr}{scope:Scope}{pos:Pos}{Nc:List Str}{cap:List (Option Nat)}{wi wi2:TI}{g g2:TG}{te:TE} 
  (hc:X.calm=true) (hi:IPI X tg iter wi) (ok:capOk X Nc cap scope=true) (hg:∀cs C s H fp,IPG (cxComp X Nc scope cs C s H fp) tg g)
  (hi2:∀cs C s H fp,IPI (cxComp X Nc scope cs C s H fp) tg2 iter2 wi2) (hg2:∀cs C s H fp,IPG (cxComp X Nc scope cs C s H fp) tg2 g2)
  (he:∀cs C s H fp,IPE (cxComp X Nc scope cs C s H fp) elt te) (hk:scope.kind=.function:=by rfl) (hs:∀x,foldedSetIterable iter X.env x=pure x:=by intro _;rfl)
  (hs2:∀env x,foldedSetIterable iter2 env x=pure x:=by intro _ _;rfl) :
  IPE X (.ListComp elt [⟨tg,iter,[],0⟩,⟨tg2,iter2,[],0⟩] scope pos) (tComp wi cap g tYes (tLoop wi2 g2 tYes (tEmit te))):=by
 simp only[Zaq,Zat,Zay,Zaw,Zax,Zav,Zaf,Zaz,Zah,Zb0,Zb1,Zai]at *
 exact Zrf (hc:=hc) (hi:=hi) (ok:=ok) (hg:=hg) (hi2:=hi2) (hg2:=hg2) (he:=he) (hk:=hk) (hs:=hs) (hs2:=hs2)
theorem Zfn{X:Cx}{i:Nat}{x:Str}{elt tg iter:Expr}{ifs:List Expr}{scope:Scope}{pos pos' spos:Pos}{Nc:List Str}{cap:List (Option Nat)}{wi:TI}{g:TG}{tt:TT}{te:TE} 
  (hN:X.N.Nodup) (hx:X.N[i]? = some x) (hl:Loc X.env.scope x)
  (hc:X.calm=true) (hi:IPI X tg iter wi) (ok:capOk X Nc cap scope=true) (hg:∀cs C s H fp,IPG (cxComp X Nc scope cs C s H fp) tg g) (ht:∀cs C s H fp,IPTs (cxComp X Nc scope cs C s H fp) ifs tt)
  (he:∀cs C s H fp,IPE (cxComp X Nc scope cs C s H fp) elt te) (hsw:swapsWith (.ListComp elt [⟨tg,iter,ifs,0⟩] scope pos) (some (.Name x pos')) spos.line X.env=pure true:=by rfl)
  (hk:scope.kind=.function:=by rfl) (hs:∀x,foldedSetIterable iter X.env x=pure x:=by intro _;rfl)
  (hf:X.fn x=true\/X.env.scope.names.lookup x=some .local:=by first|exact .inl rfl|exact .inr rfl|assumption) :
  IPS X (.Assign [.Name x pos'] (.ListComp elt [⟨tg,iter,ifs,0⟩] scope pos) spos) (tAsg (tComp wi cap g tt (tEmit te)) (gName i)):=by
 simp only[Zaq,Zat,Zay,Zaw,Zax,Zav,Zaf,Zaz,Zah,Zb0,Zb1,Zai]at *
 exact Zo7 (hN:=hN) (hx:=hx) (hl:=hl) (hc:=hc) (hi:=hi) (ok:=ok) (hg:=hg) (ht:=ht) (he:=he) (hsw:=hsw) (hk:=hk) (hs:=hs) (hf:=hf)
theorem Zau{X:Cx}{op:CmpOp}{r:R2}(ho:OpR X (compareOp op) r)(ha:IPE X a ta)(hb:IPE X b tb)(hm:behindInMarks op b=false):IPT X (.Compare a [op] [b] pos) (tTest (tOp r ta tb)):=by
 simp only[Zaq,Zat,Zay,Zaw,Zax,Zav,Zaf,Zaz,Zah,Zb0,Zb1,Zai]at *
 exact Zu1 (ho:=ho) (ha:=ha) (hb:=hb) (hm:=hm)
theorem Zcr{X:Cx}(ha:IPT X a tA):IPT X (.UnaryOp .Not a pos) (tNot tA):=by
 simp only[Zaq,Zat,Zay,Zaw,Zax,Zav,Zaf,Zaz,Zah,Zb0,Zb1,Zai]at *
 exact Zvp (ha:=ha)
theorem Zgp{X:Cx}{rest:List Expr}(ha:IPT X a tA)(hb:IPW X (.BoolOp .And (b::rest) pos) tB'):IPW X (.BoolOp .And (a::b::rest) pos) (tAnd tA tB'):=by
 simp only[Zaq,Zat,Zay,Zaw,Zax,Zav,Zaf,Zaz,Zah,Zb0,Zb1,Zai]at *
 exact Zvr (ha:=ha) (hb:=hb)
theorem Zgq{X:Cx}(ha:IPT X a tA):IPW X (.BoolOp .And [a] pos) tA:=by
 simp only[Zaq,Zat,Zay,Zaw,Zax,Zav,Zaf,Zaz,Zah,Zb0,Zb1,Zai]at *
 exact Zu3 (ha:=ha)
theorem Zf4{X:Cx}{rest:List Expr}(ha:IPT X a tA)(hb:IPW X (.BoolOp .Or (b::rest) pos) tB'):IPW X (.BoolOp .Or (a::b::rest) pos) (tOr tA tB'):=by
 simp only[Zaq,Zat,Zay,Zaw,Zax,Zav,Zaf,Zaz,Zah,Zb0,Zb1,Zai]at *
 exact Zwf (ha:=ha) (hb:=hb)
theorem Zef{X:Cx}(ha:IPT X a tA):IPW X (.BoolOp .Or [a] pos) tA:=by
 simp only[Zaq,Zat,Zay,Zaw,Zax,Zav,Zaf,Zaz,Zah,Zb0,Zb1,Zai]at *
 exact Zvs (ha:=ha)
theorem Zcy{X:Cx}{e:Expr}{t:TE}(h:IPE X e t)(he:∀whole,isTrue e X.env whole=(do let v <- whole;standAt e.pos;holding [v] (truthy v)):=by intro _;rfl):IPT X e (tB t):=by
 simp only[Zaq,Zat,Zay,Zaw,Zax,Zav,Zaf,Zaz,Zah,Zb0,Zb1,Zai]at *
 exact Zvq (h:=h) (he:=he)
theorem Za3{X:Cx}:IPA X [] tNil:=by
 simp only[Zaq,Zat,Zay,Zaw,Zax,Zav,Zaf,Zaz,Zah,Zb0,Zb1,Zai]at *
 exact Zsp 
theorem Za0{X:Cx}(ha:IPE X e te)(hr:IPA X es t)(hs:starEach (e::es) X.env=(false,eval e X.env)::starEach es X.env:=by rfl):IPA X (e::es) (tCons te t):=by
 simp only[Zaq,Zat,Zay,Zaw,Zax,Zav,Zaf,Zaz,Zah,Zb0,Zb1,Zai]at *
 exact Zpv (ha:=ha) (hr:=hr) (hs:=hs)
theorem Zf3{X:Cx}:IPK X [] tNil:=by
 simp only[Zaq,Zat,Zay,Zaw,Zax,Zav,Zaf,Zaz,Zah,Zb0,Zb1,Zai]at *
 exact Zvj 
theorem Ze6{X:Cx}{kws:List Keyword}(ha:IPE X e te)(hr:IPK X kws t):IPK X (⟨nm,e,kpos⟩::kws) (tCons te t):=by
 simp only[Zaq,Zat,Zay,Zaw,Zax,Zav,Zaf,Zaz,Zah,Zb0,Zb1,Zai]at *
 exact Ztt (ha:=ha) (hr:=hr)
theorem Zbl{X:Cx}{a:Expr}{ta:TA}{p pos:Pos}(hg:Gl X "range")(hm:X.mg "range" = none)(ha:IPA X [a] ta)(hs:starEach [a] X.env=[(false,eval a X.env)]:=by rfl):IPI X tg (.Call (.Name "range" p) [a] [] pos) (iRng1 ta):=by
 simp only[Zaq,Zat,Zay,Zaw,Zax,Zav,Zaf,Zaz,Zah,Zb0,Zb1,Zai]at *
 exact Zpz (hg:=hg) (hm:=hm) (ha:=ha) (hs:=hs)
theorem Zdb{X:Cx}{l:Expr}{tl:TE}(hl:IPE X l tl):IPI X tg l (iList X.K tl):=by
 simp only[Zaq,Zat,Zay,Zaw,Zax,Zav,Zaf,Zaz,Zah,Zb0,Zb1,Zai]at *
 exact Zts (hl:=hl)
theorem Zc6{X:Cx}{l:Expr}{tl:TE}(hl:IPE X l tl):IPI X tg l (iTup X.K tl):=by
 simp only[Zaq,Zat,Zay,Zaw,Zax,Zav,Zaf,Zaz,Zah,Zb0,Zb1,Zai]at *
 exact Zvh (hl:=hl)
theorem Zn0{X:Cx}{elts:List Expr}{kk:Nat}{tp:Pos}{a b:Expr}{ta:TA}{p pos:Pos}(t1 t2:Bool)(hg:Gl X "zip")(hm:X.mg "zip" = none)(ha:IPA X [a,b] ta)(hs:starEach [a,b] X.env=[(false,eval a X.env),(false,eval b X.env)]:=by rfl)(hs2:starEach [b] X.env=[(false,eval b X.env)]:=by rfl):
  IPI X (.Tuple elts kk tp) (.Call (.Name "zip" p) [a,b] [] pos) (iZip X.K t1 t2 ta):=by
 simp only[Zaq,Zat,Zay,Zaw,Zax,Zav,Zaf,Zaz,Zah,Zb0,Zb1,Zai]at *
 exact Zvi (t1:=t1) (t2:=t2) (hg:=hg) (hm:=hm) (ha:=ha) (hs:=hs) (hs2:=hs2)
theorem Zaa{X:Cx}{i:Nat}{x:Str}(hN:X.N.Nodup)(hi:X.N[i]? = some x)(hx:Loc X.env.scope x)(hf:X.fn x=true\/X.env.scope.names.lookup x=some .local:=by first|exact .inl rfl|exact .inr rfl|assumption):IPG X (.Name x pos) (gName i):=by
 simp only[Zaq,Zat,Zay,Zaw,Zax,Zav,Zaf,Zaz,Zah,Zb0,Zb1,Zai]at *
 exact Zme (hN:=hN) (hi:=hi) (hx:=hx) (hf:=hf)
theorem Zd3{X:Cx}(i:Nat)(hN:Nc.Nodup)(hi:Nc[i]? = some x:=by rfl)(hk:scope.names.lookup x=some .local:=by rfl):IPG (cxComp X Nc scope cs C s H fp) (.Name x pos) (gName i):=by
 simp only[Zaq,Zat,Zay,Zaw,Zax,Zav,Zaf,Zaz,Zah,Zb0,Zb1,Zai]at *
 exact pgl (i:=i) (hN:=hN) (hi:=hi) (hk:=hk)
theorem Zw8{X:Cx}(i:Nat)(hN:Nc.Nodup)(hi:Nc[i]? = some x:=by rfl)(hk:scope.names.lookup x=some .cell:=by rfl):IPG (cxComp X Nc scope cs C s H fp) (.Name x pos) (gName i):=by
 simp only[Zaq,Zat,Zay,Zaw,Zax,Zav,Zaf,Zaz,Zah,Zb0,Zb1,Zai]at *
 exact pgc (i:=i) (hN:=hN) (hi:=hi) (hk:=hk)
theorem Zd4{X:Cx}(i:Nat)(hN:Nc[i]? = some x:=by rfl)(hk:scope.names.lookup x=some .local:=by rfl)(hd:(x == ("__debug__" : Str))=false:=by decide)(hcd:(x == ("__classdict__" : Str))=false:=by decide):IPE (cxComp X Nc scope cs C s H fp) (.Name x pos) (tVar i):=by
 simp only[Zaq,Zat,Zay,Zaw,Zax,Zav,Zaf,Zaz,Zah,Zb0,Zb1,Zai]at *
 exact pvl (i:=i) (hN:=hN) (hk:=hk) (hd:=hd) (hcd:=hcd)
theorem Zfo{X:Cx}(i:Nat)(hN:Nc[i]? = some x:=by rfl)(hk:scope.names.lookup x=some .free:=by rfl)(hd:(x == ("__debug__" : Str))=false:=by decide)(hcd:(x == ("__classdict__" : Str))=false:=by decide):IPE (cxComp X Nc scope cs C s H fp) (.Name x pos) (tVar i):=by
 simp only[Zaq,Zat,Zay,Zaw,Zax,Zav,Zaf,Zaz,Zah,Zb0,Zb1,Zai]at *
 exact pvf (i:=i) (hN:=hN) (hk:=hk) (hd:=hd) (hcd:=hcd)
theorem i_pv{X:Cx}(i:Nat){x:Str}{pos:Pos}(hN:X.N[i]? = some x:=by rfl)(hv:Vis X.env.scope x:=by first|exact uM rfl|exact uN (uM rfl)|exact uN (uN rfl))(hd:(x == ("__debug__" : Str))=false:=by decide) 
  (hcd:(x == ("__classdict__" : Str))=false:=by decide):IPE X (.Name x pos) (tVar i):=by
 simp only[Zaq,Zat,Zay,Zaw,Zax,Zav,Zaf,Zaz,Zah,Zb0,Zb1,Zai]at *
 exact pv (i:=i) (hN:=hN) (hv:=hv) (hd:=hd) (hcd:=hcd)
theorem Zc5{X:Cx}{es:List Expr}{k:Nat}{t:TGs}{n:Nat}(hc:X.calm=true)(h:IPGs X es t) 
  (hn:(assignEach es X.env).length=n:=by rfl) (hst:(assignEach es X.env).findIdx? (·.1)=none:=by rfl):IPG X (.Tuple es k pos) (gTup X.K n t):=by
 simp only[Zaq,Zat,Zay,Zaw,Zax,Zav,Zaf,Zaz,Zah,Zb0,Zb1,Zai]at *
 exact Zvg (hc:=hc) (h:=h) (hn:=hn) (hst:=hst)
theorem Zb9{X:Cx}:IPGs X [] gNil:=by
 simp only[Zaq,Zat,Zay,Zaw,Zax,Zav,Zaf,Zaz,Zah,Zb0,Zb1,Zai]at *
 exact Ztr 
theorem Za9{X:Cx}{e:Expr}{es:List Expr}{t:TG}{u:TGs}(h1:IPG X e t)(h2:IPGs X es u) 
  (hs:(assignEach (e::es) X.env).map (·.2)=assign e X.env::(assignEach es X.env).map (·.2):=by rfl):IPGs X (e::es) (gCons t u):=by
 simp only[Zaq,Zat,Zay,Zaw,Zax,Zav,Zaf,Zaz,Zah,Zb0,Zb1,Zai]at *
 exact Zrj (h1:=h1) (h2:=h2) (hs:=hs)
theorem Zmz{X:Cx}{o i:Expr}{to ti:TE}{t:TSet}(ho:IPE X o to)(hi:IPE X i ti)(hs:PSet X t) 
  (ha:∀v,assign (.Subscript o i pos) X.env v=(do
   let ov <- holding [v] (eval o X.env)
   let iv <- holding [v,ov] (eval i X.env)
   standAt pos
   holding [v,ov,iv] (setItem ov iv v)
   release [v,ov,iv] []):=by intro _;rfl):IPG X (.Subscript o i pos) (gSub to ti t):=by
 simp only[Zaq,Zat,Zay,Zaw,Zax,Zav,Zaf,Zaz,Zah,Zb0,Zb1,Zai]at *
 exact Zvf (ho:=ho) (hi:=hi) (hs:=hs) (ha:=ha)
theorem Zao{X:Cx}:IPSs X [] tNext:=by
 simp only[Zaq,Zat,Zay,Zaw,Zax,Zav,Zaf,Zaz,Zah,Zb0,Zb1,Zai]at *
 exact Ztz 
theorem Za4{X:Cx}{rest:List Stmt}{st:Stmt}(h1:IPS X st t)(h2:IPSs X rest u):IPSs X (st::rest) (tSeq t u):=by
 simp only[Zaq,Zat,Zay,Zaw,Zax,Zav,Zaf,Zaz,Zah,Zb0,Zb1,Zai]at *
 exact Zrn (h1:=h1) (h2:=h2)
theorem Za8{X:Cx}{st:Stmt}(h1:IPS X st t):IPSs X [st] t:=by
 simp only[Zaq,Zat,Zay,Zaw,Zax,Zav,Zaf,Zaz,Zah,Zb0,Zb1,Zai]at *
 exact Zu0 (h1:=h1)
theorem Zan{X:Cx}{i:Nat}{x:Str}{e:Expr}{te:TE}{pos':Pos}(hN:X.N.Nodup)(hi:X.N[i]? = some x)(hx:Loc X.env.scope x)(he:IPE X e te)(hs:swapsWith e (some (.Name x pos')) pos.line X.env=pure false:=by rfl)(hf:X.fn x=true\/X.env.scope.names.lookup x=some .local:=by first|exact .inl rfl|exact .inr rfl|assumption):
  IPS X (.Assign [.Name x pos'] e pos) (tAsg te (gName i)):=by
 simp only[Zaq,Zat,Zay,Zaw,Zax,Zav,Zaf,Zaz,Zah,Zb0,Zb1,Zai]at *
 exact Zvo (hN:=hN) (hi:=hi) (hx:=hx) (he:=he) (hs:=hs) (hf:=hf)
theorem Zdc{X:Cx}{tg e:Expr}{te:TE}{g:TG}(he:IPE X e te)(hg:IPG X tg g)(hs:swapsWithSole [tg] e pos.line X.env=pure false:=by rfl)(hw:swappedStores [tg] e X.env=pure none:=by rfl) 
  (h1:(assignEach [tg] X.env).map (·.2)=[assign tg X.env]:=by rfl):IPS X (.Assign [tg] e pos) (tAsg te g):=by
 simp only[Zaq,Zat,Zay,Zaw,Zax,Zav,Zaf,Zaz,Zah,Zb0,Zb1,Zai]at *
 exact Zvk (he:=he) (hg:=hg) (hs:=hs) (hw:=hw) (h1:=h1)
theorem Zba{X:Cx}{c:Expr}{a b:List Stmt}{tc:TT}(hc:IPT X c tc)(ha:IPSs X a t)(hb:IPSs X b u):IPS X (.If c a b pos) (tIfS tc t u):=by
 simp only[Zaq,Zat,Zay,Zaw,Zax,Zav,Zaf,Zaz,Zah,Zb0,Zb1,Zai]at *
 exact Zwe (hc:=hc) (ha:=ha) (hb:=hb)
theorem Zae{X:Cx}(he:IPE X e te):IPS X (.Return (some e) pos) (tRet te):=by
 simp only[Zaq,Zat,Zay,Zaw,Zax,Zav,Zaf,Zaz,Zah,Zb0,Zb1,Zai]at *
 exact Zvn (he:=he)
theorem Zcm{X:Cx}(he:IPE X e te)(hs:swapsWith e none pos.line X.env=pure false:=by rfl):IPS X (.Expr e pos) (tDrop te):=by
 simp only[Zaq,Zat,Zay,Zaw,Zax,Zav,Zaf,Zaz,Zah,Zb0,Zb1,Zai]at *
 exact Zty (he:=he) (hs:=hs)
theorem Zbu{X:Cx}{iter:Expr}{body:List Stmt}{wi:TI}{g:TG}{tb:TS}{pos:Pos}(hp:PassesOwn (model X.prog X.w) X.A X.env X.xe)(hc:X.calm=true)(hi:IPI X tg iter wi)(hg:IPG X tg g)(hb:IPSs X body tb) 
  (hs:∀x,foldedSetIterable iter X.env x=pure x:=by intro _;rfl):IPS X (.For tg iter body [] pos) (tFor wi g tb):=by
 simp only[Zaq,Zat,Zay,Zaw,Zax,Zav,Zaf,Zaz,Zah,Zb0,Zb1,Zai]at *
 exact Zvm (hp:=hp) (hc:=hc) (hi:=hi) (hg:=hg) (hb:=hb) (hs:=hs)
theorem Zbh{Y:Cx}:IPTs Y [] tYes:=by
 simp only[Zaq,Zat,Zay,Zaw,Zax,Zav,Zaf,Zaz,Zah,Zb0,Zb1,Zai]at *
 exact Zmg 
open AutoSeq1 (wpAny_loadPart')
section
variable {prog:Program}{w:World}{A:Around}{E:Value->Shared->Prop}{s:Shared}
end
end L2
namespace L2
open PySem PySem.Spec PyProof.Rows
open AutoSeq1 (wpAny_loadPart')
section
variable {prog:Program}{w:World}{A:Around}{E:Value->Shared->Prop}{s:Shared}
end
section
variable {X:Cx}
end
end L2
namespace L2
open PySem PySem.Spec PyProof.Rows
section
variable {X:Cx}
def rInD(K:Frag)(neg:Bool):R2:=λx y H Q=>∃d ds p ys,DV K H d x/\y=.ref p/\(SqL K H p ys\/SqT K H p ys)/\DVs K H ds ys/\d.canLay0=true/\PyData.canLayAll0 ds=true/\d.depth≤30/\Q (.bl (if neg then !ds.any (λy=>PyData.eqv y d) else ds.any (λy=>PyData.eqv y d))) H
theorem Zv2(hu:X.A.units+64<cLine):OpR X (compareOp .In) (rInD X.K false):=by
 rintro pins s σ H x y v u Q I rx ry ⟨d,ds,p,ys,h1,rfl,hq,h2,c1,c2,dp,q⟩
 obtain⟨bs,rb⟩:=I.reads h1 rx
 have hm:X.A.units+1+min (PyData.depthAll ds) d.depth<cLine:=by omega
 rcases hq with hq|hq
 ·obtain⟨as,ra⟩:=I.reads (DV.list hq h2) ry
  exact SeqAt.in_list_reads ra rb c2 c1 hm ⟨.bl _,H,I,rfl,q⟩
 ·obtain⟨as,ra⟩:=I.reads (DV.tup hq h2) ry
  exact SeqAt.in_tuple_reads ra rb c2 c1 hm ⟨.bl _,H,I,rfl,q⟩
theorem Zgu(hu:X.A.units+64<cLine):OpR X (compareOp .NotIn) (rInD X.K true):=by
 rintro pins s σ H x y v u Q I rx ry ⟨d,ds,p,ys,h1,rfl,hq,h2,c1,c2,dp,q⟩
 obtain⟨bs,rb⟩:=I.reads h1 rx
 have hm:X.A.units+1+min (PyData.depthAll ds) d.depth<cLine:=by omega
 rcases hq with hq|hq
 ·obtain⟨as,ra⟩:=I.reads (DV.list hq h2) ry
  exact SeqAt.notIn_list_reads ra rb c2 c1 hm ⟨.bl _,H,I,rfl,q⟩
 ·obtain⟨as,ra⟩:=I.reads (DV.tup hq h2) ry
  exact SeqAt.notIn_tuple_reads ra rb c2 c1 hm ⟨.bl _,H,I,rfl,q⟩
end
def tI(ns:List Int):PyData:=.tuple (ns.map .int)
def lT(rows:List (List Int)):PyData:=.list (rows.map tI)
theorem Zs0{d:PyData}(hc:d.canLay0=true)(hi:d.intsShort 101=true)(hw:d.weight≤100000):d.shown.length≤sizeLine:=by
 have h:=PyData.shown_le 101 (by decide) d (PyData.leavesShort_of_canLay0 101 d hc hi)
 have e:sizeLine=16777216:=by decide
 omega
theorem Zm5{i:Int}{w:Nat}(hw:0<w)(h:i.natAbs<2 ^ w):i.natAbs.log2<w:=by
 by_cases h0:i.natAbs=0
 ·rw[h0];simpa using hw
 ·exact(Nat.log2_lt h0).mpr h
theorem Zqg{i:Int}{w:Nat}(hw:0<w)(hw2:w≤100)(h:i.natAbs<2 ^ w):(PyData.int i).intsShort 101=true:=by
 have e:=int_text_length_le (a:=i) (k:=w) hw (Zm5 hw h)
 simp only[PyData.intsShort,decide_eq_true_eq]
 show(Str.ofString (toString i)).length≤101
 rw[PySem.ofString_length]
 omega
theorem Zoc{i:Int}{w:Nat}(hw:0<w)(h:i.natAbs<2 ^ w):(PyData.int i).weight≤w:=by
 have:=Zm5 hw h
 simp only[PyData.weight]
 split<;>omega
theorem Zic:∀ns:List Int,PyData.canLayAll0 (ns.map .int)=true
 | []=>by simp[PyData.canLayAll0]
 | x::r=>by simp[PyData.canLayAll0,PyData.canLay0,Zic r]
theorem Zjg:∀ns:List Int,PyData.depthAll (ns.map .int)=0
 | []=>by simp[PyData.depthAll]
 | x::r=>by simp[PyData.depthAll,PyData.depth,Zjg r]
theorem Zl1:∀ns:List Int,PyData.hasDictAll (ns.map .int)=false
 | []=>by simp[PyData.hasDictAll]
 | x::r=>by simp[PyData.hasDictAll,PyData.hasDict,Zl1 r]
theorem Zit(ns:List Int):(tI ns).canLay0=true:=by simp[tI,PyData.canLay0,Zic]
theorem Zg3(ns:List Int):(tI ns).depth=1:=by simp[tI,PyData.depth,Zjg]
theorem Zdv(ns:List Int):SeqAt.shaped (tI ns)=true:=by
 have h:=Zg3 ns
 simp[SeqAt.shaped,Zit,h]
theorem Zdh(ns:List Int):(tI ns).hasDict=false:=by simp[tI,PyData.hasDict,Zl1]
theorem Zdn:∀rows:List (List Int),PyData.canLayAll0 (rows.map tI)=true
 | []=>by simp[PyData.canLayAll0]
 | x::r=>by simp[PyData.canLayAll0,Zit,Zdn r]
theorem Zev:∀rows:List (List Int),PyData.hasDictAll (rows.map tI)=false
 | []=>by simp[PyData.hasDictAll]
 | x::r=>by simp[PyData.hasDictAll,Zdh,Zev r]
theorem DV.tI{K:Frag}{H:Hp}{a:Addr}{ns:List Int}(h:SqT K H a (ns.map V.int)):DV K H (tI ns) (.ref a):=DV.tup h (DVs.ints ns)
def LR(K:Frag)(H:Hp)(l:Addr)(rows:List (List Int)):Prop:=∃xs,SqL K H l xs/\DVs K H (rows.map tI) xs
theorem LR.dv{K:Frag}{H:Hp}{l:Addr}{rows:List (List Int)}(h:LR K H l rows):DV K H (lT rows) (.ref l):=by
 obtain⟨xs,h1,h2⟩:=h
 exact DV.list h1 h2
theorem LR.same{K:Frag}{H H':Hp}{l:Addr}{rows:List (List Int)}(h:LR K H l rows)(e:Same H H'):LR K H' l rows:=by
 obtain⟨xs,h1,h2⟩:=h
 exact⟨xs,e.seq h1,DVs.same e h2⟩
theorem DVs.snoc{K:Frag}{H:Hp}{ds:List PyData}{d:PyData}{xs:List V}{x:V}(h:DVs K H ds xs)(t:DV K H d x):DVs K H (ds++[d]) (xs++[x]):=DVs.append h (DVs.cons t DVs.nil)
theorem DVs.take{K:Frag}{H:Hp}:∀{ds:List PyData}{xs:List V} (k:Nat),DVs K H ds xs->DVs K H (ds.take k) (xs.take k)
 | [],xs,k,h=>by unfold DVs at h;subst h;simp;exact DVs.nil
 | d::ds,xs,0,h=>by simp;exact DVs.nil
 | d::ds,xs,k+1,h=>by
  unfold DVs at h
  obtain⟨x,r,rfl,h1,h2⟩:=h
  exact DVs.cons h1 (DVs.take k h2)
theorem DVs.reverse{K:Frag}{H:Hp}:∀{ds:List PyData}{xs:List V},DVs K H ds xs->DVs K H ds.reverse xs.reverse
 | [],xs,h=>by unfold DVs at h;subst h;exact DVs.nil
 | d::ds,xs,h=>by
  unfold DVs at h
  obtain⟨x,r,rfl,h1,h2⟩:=h
  rw[uD,uD]
  exact DVs.snoc (DVs.reverse h2) h1
theorem Zgk:∀ns:List Int,PyData.eqvAll (ns.map .int) (ns.map .int)=true
 | []=>by simp[PyData.eqvAll]
 | x::r=>by simp[PyData.eqvAll,PyData.eqv,Zgk r]
theorem Zsi(ns:List Int):PyData.eqv (tI ns) (tI ns)=true:=by
 unfold tI;rw[PyData.eqv];exact Zgk ns
section
variable {X:Cx}{K:Frag}
theorem Zh5(h:X.K=K):IxR X (rIxT K):=h▸Zbn
theorem Zn1(h:X.K=K):IxR X (rIxL K):=h▸Zcu
theorem Zti(h:X.K=K)(hu:X.A.units+64<cLine):OpR X (compareOp .Eq) (rEqD K false):=h▸Zso hu
theorem Zjs(h:X.K=K):CallR X (.builtin "len") (λxs H Q=>∃p ys,xs=[.ref p]/\(SqL K H p ys\/SqT K H p ys)/\Q (.int ys.length) H):=h▸Zb5
theorem Znn(h:X.K=K)(hc:X.calm=true):CallR X (.builtin "sum") (λxs H Q=>∃(a:Addr) (ns:List Int),xs=[.ref a]/\SqL K H a (ns.map V.int)/\Q (.int ns.sum) H):=h▸Zi2 hc
theorem Znt{l tg:Expr}{tl:TE}(h:X.K=K)(hl:IPE X l tl):IPI X tg l (iList K tl):=h▸Zdb hl
theorem Zkz{l tg:Expr}{tl:TE}(h:X.K=K)(hl:IPE X l tl):IPI X tg l (iTup K tl):=h▸Zc6 hl
end
section
variable {X:Cx}
end
def lexLt:List Int->List Int->Bool
 | x::xs,y::ys=>decide (x<y)||(decide (x=y)&&lexLt xs ys)
 | _,_=>false
def TpI(h:Heap)(v:Value)(ns:List Int):Prop:=∃a o vs n,v=.ref a/\h.get? a=some o/\o.cls=.type "tuple"/\o.data=.seq (List.toArray vs) n/\IntsAre vs ns
theorem TpI.keep{h h':Heap}{v:Value}{ns:List Int}(x:TpI h v ns)(k:∀b o,o.cls=.type "tuple"->h.get? b=some o->h'.get? b=some o):TpI h' v ns:=by
 obtain⟨a,o,vs,n,e,h1,h2,h3,h4⟩:=x
 exact⟨a,o,vs,n,e,k _ _ h2 h1,h2,h3,h4⟩
section
variable {prog:Program}{w:World}{A:Around}{E:Value->Shared->Prop}{s:Shared}
def AscV(h:Heap)(vs:List Value):Prop:=(∀v∈vs,∃ns,TpI h v ns/\1≤ns.length)/\∀i x y,vs[i]? = some y->vs[i+1]? = some x->∃ns ms,TpI h x ns/\TpI h y ms/\ns.length=ms.length/\lexLt ms ns=true
theorem AscV.keep{h h':Heap}{vs:List Value}(x:AscV h vs)(k:∀b o,o.cls=.type "tuple"->h.get? b=some o->h'.get? b=some o):AscV h' vs:=by
 refine⟨λv hv=>?_,λi a b e1 e2=>?_⟩
 ·obtain⟨ns,h1,h2⟩:=x.1 v hv
  exact⟨ns,h1.keep k,h2⟩
 ·obtain⟨ns,ms,h1,h2,h3,h4⟩:=x.2 i a b e1 e2
  exact⟨ns,ms,h1.keep k,h2.keep k,h3,h4⟩
end
section
variable {X:Cx}
end
section
variable {X:Cx}
theorem walkS{prog:Program}{w:World}{A:Around}(t:Bool)(hh:A.handled=none)(I ax:Addr)(hne:ax≠I)(items:Array Value):
  Walks prog w A I [I,ax] [I] items.size (λi v=>items[i]? = some v) (λi h=>SIt t h I ax i/\SAt t h ax items):=by
 cases t
 ·exact Walks.list hh I ax hne items
 ·exact Walks.tuple hh I ax hne items
theorem Znh{ns:List Int}{its:List Value}(rv:Vals (ns.map V.int) its)(i:Nat)(v:Value)(hv:its.toArray[i]? = some v):i<ns.length/\∃t,v=.int (ns.getD i 0) t:=by
 have hv':its[i]? = some v:=by simpa using hv
 have l2:=rv.length
 rw[lmp]at l2
 have hl:i<ns.length:=by have:=(zZ.mp hv').1;omega
 obtain⟨u2,h1,t,h2⟩:=rv.get (i:=i) (x:=.int ns[i]) (by simp[hl])
 rw[hv']at h1;cases h1
 refine⟨hl,t,h2.trans ?_⟩
 rw[yQ,gEq hl];rfl
theorem Zoj(t:Bool)(hc:X.calm=true):CallR X (.builtin "max") (λxs H Q=>∃(a:Addr) (ns:List Int),xs=[.ref a]/\SqB X.K t H a (ns.map V.int)/\ns≠[]/\∀m,m∈ns->(∀x∈ns,x≤m)->Q (.int m) H):=by
 rintro pins s σ H xs us Q I r ⟨a,ns,rfl,h,hne,q⟩
 obtain⟨u,rfl,rx⟩:=vals1 r
 cases (show u=Value.ref a from rx)
 obtain⟨its,rv,p,hz⟩:=I.sq h
 have l2:=rv.length
 rw[lmp]at l2
 have hpos:0<ns.length:=xC.mpr hne
 have hlt:=p.lt
 refine call_max_walk (iterS p ?_)
 refine⟨s.heap.objs.size,_,_,_,_,_,_,rfl,walkS (A:=X.A.in1) t (I.ok.hd hc) s.heap.objs.size a (zP hlt) its.toArray,⟨?_,p.at λo e=>wQ _ e⟩,λb hb=>?_,by rw[wV];omega,CmpOf.ints_gt (λi=>ns.getD i 0) (λi v hv=>(Znh rv i v hv).2),λv h' tk hP hk=>?_⟩
 ·cases t<;>exact⟨_,zL _ rfl,rfl,rfl⟩
 ·show b<(s.heap.push _).objs.size
  rw[uU]
  simp only[zV,yN,yO]at hb
  rcases hb with e|e
  ·rw[e];exact yD _
  ·rw[e];exact uZ hlt
 ·obtain⟨hl,t',e⟩:=Znh rv _ v hP
  obtain⟨g1,g2⟩:=argBest_gt (λi=>ns.getD i 0) (its.toArray.size-1)
  refine⟨.int (ns.getD (argBest (λi j=>decide (ns.getD i 0 > ns.getD j 0)) (its.toArray.size-1)) 0),H,I.kept (λb o e=>hk b o ?_ (wQ _ e)),⟨t',e⟩,q _ ?_ λx hx=>?_⟩
  ·intro hb
   have:b=s.heap.objs.size:=by simpa using hb
   exact absurd (zM e) (by rw[this];exact zO _)
  ·rw[yQ,gEq hl];exact yT hl
  ·obtain⟨j,hj,rfl⟩:=yS.mp hx
   have:=g2 j (by rw[wV];omega)
   rw[yQ,gEq hj]at this
   exact this
theorem Zol(t:Bool)(hc:X.calm=true):CallR X (.builtin "min") (λxs H Q=>∃(a:Addr) (ns:List Int),xs=[.ref a]/\SqB X.K t H a (ns.map V.int)/\ns≠[]/\∀m,m∈ns->(∀x∈ns,m≤x)->Q (.int m) H):=by
 rintro pins s σ H xs us Q I r ⟨a,ns,rfl,h,hne,q⟩
 obtain⟨u,rfl,rx⟩:=vals1 r
 cases (show u=Value.ref a from rx)
 obtain⟨its,rv,p,hz⟩:=I.sq h
 have l2:=rv.length
 rw[lmp]at l2
 have hpos:0<ns.length:=xC.mpr hne
 have hlt:=p.lt
 refine call_min_walk (iterS p ?_)
 refine⟨s.heap.objs.size,_,_,_,_,_,_,rfl,walkS (A:=X.A.in1) t (I.ok.hd hc) s.heap.objs.size a (zP hlt) its.toArray,⟨?_,p.at λo e=>wQ _ e⟩,λb hb=>?_,by rw[wV];omega,CmpOf.ints_lt (λi=>ns.getD i 0) (λi v hv=>(Znh rv i v hv).2),λv h' tk hP hk=>?_⟩
 ·cases t<;>exact⟨_,zL _ rfl,rfl,rfl⟩
 ·show b<(s.heap.push _).objs.size
  rw[uU]
  simp only[zV,yN,yO]at hb
  rcases hb with e|e
  ·rw[e];exact yD _
  ·rw[e];exact uZ hlt
 ·obtain⟨hl,t',e⟩:=Znh rv _ v hP
  obtain⟨g1,g2⟩:=argBest_lt (λi=>ns.getD i 0) (its.toArray.size-1)
  refine⟨.int (ns.getD (argBest (λi j=>decide (ns.getD i 0<ns.getD j 0)) (its.toArray.size-1)) 0),H,I.kept (λb o e=>hk b o ?_ (wQ _ e)),⟨t',e⟩,q _ ?_ λx hx=>?_⟩
  ·intro hb
   have:b=s.heap.objs.size:=by simpa using hb
   exact absurd (zM e) (by rw[this];exact zO _)
  ·rw[yQ,gEq hl];exact yT hl
  ·obtain⟨j,hj,rfl⟩:=yS.mp hx
   have:=g2 j (by rw[wV];omega)
   rw[yQ (i:=j),gEq hj]at this
   exact this
end
def gaQ{α:Type}(d:α)(na nk:Nat)(pick:List (Nat×Nat))(us ws:List α):List α:=if us.length=na/\ws.length=nk then pick.filterMap (λp=>if p.1=0 then us[p.2]? else if p.1=1 then ws[p.2]? else some d) else []
theorem Zp9{na nk:Nat}{pick:List (Nat×Nat)}{α:Type}{d:α}{us ws:List α}{n:Nat}(h:(gaQ d na nk pick us ws).length=n+1):us.length=na/\ws.length=nk:=by
 unfold gaQ at h
 split at h
 ·assumption
 ·cases h
theorem Zt9{na nk:Nat}{pick:List (Nat×Nat)}{dv:V}{du:Value}(hd:RelV dv du){vs:List V}{us:List Value}{zs:List V}{ws:List Value}(r:Vals vs us)(z:Vals zs ws):Vals (gaQ dv na nk pick vs zs) (gaQ du na nk pick us ws):=by
 unfold gaQ
 rw[r.length,z.length]
 split
 ·induction pick with
  | nil=>exact .nil
  | cons p t ih=>
   have look:∀{as:List V}{bs:List Value},Vals as bs->∀i:Nat,(∃a b,as[i]? = some a/\bs[i]? = some b/\RelV a b)\/(as[i]? = none/\bs[i]? = none):=λ{as bs} q i=>by
    cases e:as[i]? with
    | none=>exact .inr ⟨rfl,q.none_of e⟩
    | some a=>obtain⟨b,h1,h2⟩:=q.get e;exact .inl ⟨a,b,rfl,h1,h2⟩
   rw[zS,zS]
   by_cases c0:p.1=0
   ·rcases look r p.2 with ⟨a,b,e1,e2,q⟩|⟨e1,e2⟩
    ·simp only[c0,vQ,e1,e2];exact .cons q ih
    ·simp only[c0,vQ,e1,e2];exact ih
   ·by_cases c1:p.1=1
    ·rcases look z p.2 with ⟨a,b,e1,e2,q⟩|⟨e1,e2⟩
     ·simp only[c0,c1,vP,vQ,e1,e2];exact .cons q ih
     ·simp only[c0,c1,vP,vQ,e1,e2];exact ih
    ·simp only[c0,c1,vP];exact .cons hd ih
 ·exact .nil
def KBindsD(x:Str)(st:Stmt)(ps ks:List Str)(na nk:Nat)(pick:List (Nat×Nat)):Prop:=∀(T e:Addr) (kV doc pm:Value) (an:Option Addr) (cdv ct:Value) (us ws:List Value),(gaQ (Value.ref e) na nk pick us ws).length=ps.length ->
 ∃k:Option (Array Value)->Sem (List (Str×Value)),bindArgs (PySem.W.fnOf x x (defArgs st) (defBody st) (defScope st) (.ref T) kV doc pm an cdv ct) ⟨us,ks.zip ws⟩=seqItems? (.ref T)>>=k/\k (some #[.ref e])=pure (ps.zip (gaQ (Value.ref e) na nk pick us ws))
structure FunD(K:Frag)(x:Str)(st:Stmt)(f:Addr)(fd:FuncData)(e:Addr):Prop where
 ex:∃(oc:Value) (od:Option Addr) (T:Addr) (kV doc pm:Value) (an:Option Addr) (cdv ct:Value) (osl:Array (Option Value)) (oT:Obj) (n:Nat),
  fd=PySem.W.fnOf x x (defArgs st) (defBody st) (defScope st) (.ref T) kV doc pm an cdv ct/\K.lookup f=some ⟨oc,od,.func fd,osl⟩/\PySem.W.codeIn K cdv x=true/\K.lookup T=some oT/\oT.data=.seq #[.ref e] n
 kp:PySem.W.keepIn K (.ref f)=true
def EmptyAt(K:Frag)(e:Addr):Prop:=∃(o:Obj) (n:Nat),K.lookup e=some o/\o.cls=.type "tuple"/\o.data=.seq #[] n
theorem EmptyAt.tup{K:Frag}{e:Addr}(h:EmptyAt K e)(H:Hp):SqT K H e []:=by
 obtain⟨o,n,h1,h2,h3⟩:=h
 exact .inr ⟨o,#[],n,h1,h2,h3,by decide,.nil⟩
theorem FunD.kbinds{K:Frag}{x:Str}{st:Stmt}{ps ks:List Str}{na nk:Nat}{pick:List (Nat×Nat)}{f e:Addr}{fd:FuncData}(F:FunD K x st f fd e)(h:KBindsD x st ps ks na nk pick):KBinds K fd ps ks (gaQ (Value.ref e) na nk pick) (gaQ (V.ref e) na nk pick):=by
 obtain⟨oc,od,T,kV,doc,pm,an,cdv,ct,osl,oT,n,rfl,lk,hcd,hT,hd⟩:=F.ex
 refine⟨λs us ws kin hl=>?_,λr z=>Zt9 (show RelV (V.ref e) (Value.ref e) from rfl) r z⟩
 obtain⟨k,h1,h2⟩:=h T e kV doc pm an cdv ct us ws hl
 exact BindsTo.of_defaults (T:=T) rfl (kin T oT hT) hd h1 h2
structure DnD(P:Program)(w:World)(K:Frag)(mg:Str->Option Value)(base:Heap)(k:Nat)(x:Str)(st:Stmt)(ps:List Str)(sp:Sp)(e:Addr):Prop where
 ex:∃f fd,FnOk P w K mg base CX0 k f fd ps sp/\FunD K x st f fd e/\mg x=some (.ref f)
theorem DnD.of{P:Program}{w:World}{K:Frag}{mg:Str->Option Value}{base:Heap}{x:Str}{st:Stmt}{N ps:List Str}{k:Nat}{sp:Sp}{e:Addr}(U:∃f fd,FunD K x st f fd e/\mg x=some (.ref f))(S:FnScope N ps (defScope st))(len:∀vs H Q E,sp vs H Q E->vs.length=ps.length) 
  (hbody:∀(f:Addr) (cdv:Value) (A:Around) (outer:List Env) (s:Shared) (H:Hp) (vs:List V) (Q:VK) (E:XK),Room k (A.deeper (envOfC x (defScope st) s.heap.objs.size f cdv))->sp vs H Q E ->
   ∃t,PSs (cxOf CX0 P w K mg base N x (defScope st) f cdv A outer s H E).nox (defBody st) t/\t { nx:=λ_ H'=>Q .non H',rt:=Q } (start N vs) H):DnD P w K mg base (k+1) x st ps sp e:=by
 obtain⟨f,fd,F,m⟩:=U
 refine⟨f,fd,?_,F,m⟩
 obtain⟨oc,od,T,kV,doc,pm,an,cdv,ct,osl,oT,n,rfl,lk,hcd,hT,hd⟩:=F.ex
 refine Zt6 lk hcd S len λA outer s H vs Q E hr hsp=>?_
 obtain⟨t,h,q⟩:=hbody f cdv A outer s H vs Q E hr hsp
 exact⟨t,h.nox,q⟩
section
variable {X:Cx}{k:Nat}{x:Str}{st:Stmt}{ps ks:List Str}{sp:Sp}{p pos:Pos}{e:Expr}{es:List Expr}{kws:List Keyword}{t tk:TA}{na nk:Nat}{pick:List (Nat×Nat)}{d:Addr}
theorem Zeq(D:DnD X.prog X.w X.K X.mg X.base k x st ps sp d)(hb:KBindsD x st ps ks na nk pick)(hr:Room k X.A)(ha:IPA X (e::es) t)(hkw:IPK X kws tk)(hg:Gl X x:=by rfl)(hall:(backToKw pos (keywordEach kws X.env)).all (·.1.isSome)=true:=by rfl)(hks:(backToKw pos (keywordEach kws X.env)).filterMap (·.1)=ks:=by rfl) 
  (hdb:(x == ("__debug__" : Str))=false:=by decide) (he:starEach (e::es) X.env=(false,eval e X.env)::starEach es X.env:=by rfl)
  (hpl:((backTo pos (starEach (e::es) X.env)).any (·.1)||(backToKw pos (keywordEach kws X.env)).any (·.1.isNone))=false:=by rfl):IPE X (.Call (.Name x p) (e::es) kws pos) (tCallK sp (gaQ (V.ref d) na nk pick) E0 t tk):=by
 rw[Zaq];rw[Zax]at hkw;rw[Zaw]at ha
 obtain⟨f,fd,F,U,m⟩:=D.ex
 exact Zna F hr hg m U.kp (U.kbinds hb) pass0 ha hkw hall hks hdb he hpl
end
section
variable {prog:Program}{w:World}{A:Around}{E:Value->Shared->Prop}{s:Shared}
open HT in
theorem Zge{t sl:Addr}{items:Array Value}{vl vu:Value}{lo hi:Option Int}{Q:Value->Shared->Prop}(ht:IsTup s.heap t items)(hs:s.heap.IsSliceOf sl vl vu .none)(pl:IsPart vl lo)(pu:IsPart vu hi) 
  (hw:sIx items.size 0 lo=0/\sIx items.size items.size hi=items.size) (h:Q (.ref t) s):wpAny (model prog w) A (getItem (.ref t) (.ref sl)) Q E s:=by
 obtain⟨os,hos,hcs,hds⟩:=id hs
 have hTs:s.TypeIs (.ref sl) "slice":=⟨os,hos,hcs⟩
 unfold getItem
 try with_reducible refine wI ?_
 first|refine wH (wN ?_)|skip
 refine wH (vT ht.typeIs (by decide) ?_)
 refine wH (vU (name:=Str.ofString "__getitem__") ht.typeIs vV
  (vW vV ht.typeIs entry_tuple_getitem ?_ (args_tuple_getitem _ _)))
 show wpAny _ _ (Builtin.Tuple.tupleItemsOf (.ref t)>>=_) _ _ s
 refine wH (tupleItemsOf_ ht ?_)
 refine wH (vX hTs ?_)
 rw[zI (by decide)]
 refine wH (Zfd hs pl pu ?_)
 show wpAny _ _ (if(((sIx items.size 0 lo:Nat):Int) == 0&&(1:Int) == 1&&(sIx items.size items.size hi-sIx items.size 0 lo) == items.size)=true then _ else _) _ _ s
 rw[zI (by rw[hw.1,hw.2];simp)]
 refine wH ?_
 unfold Builtin.Tuple.tupleIsExact
 refine wH (vX ht.typeIs (wN ?_))
 rw[zI (by decide)]
 exact wH (yB (wN ⟨_,rfl,wN h⟩))
end
section
variable {X:Cx}
end
section
variable {prog:Program}{w:World}{κ:Type} [DecidableEq κ] {knd:HeapKind prog w κ}{A:Around}{E:Value->Shared->Prop}{s:Shared}{d a:Addr}{xs:List (κ×Addr×Value)}{k:κ}{v:Value}{Q:Unit->Shared->Prop}
def DictEp(knd:HeapKind prog w κ)(h:Heap)(d:Addr)(xs:List (κ×Addr×Value)):Prop:=
 ∃o es,h.get? d=some o/\o.ExactDict/\o.data=.dict es xs.length/\es.toList=xs.map (entryOfKey knd)/\(∀x∈xs,knd.is h x.1 x.2.1)/\(xs.map (·.1)).Nodup
theorem DictEp.of{h:Heap}(q:DictEp knd h d xs):h.DictOfH knd d xs:=by
 obtain⟨o,es,h1,h2,h3,h4⟩:=q
 exact⟨o,es,_,h1,h2,h3,h4⟩
theorem Zp1(hu:knd.room A)(hkey:knd.is s.heap k a)(hm:DictEp knd s.heap d xs)(hz:xs.length≤sizeLine) 
  (hQ:∀h',DictEp knd h' d (storedH xs k a v)->Heap.SameBut d s.heap h'->Q () { s with heap:=h',toks:=s.toks+knd.draws k }):wpAny (model prog w) A (dictSet d (.ref a) v) Q E s:=by
 obtain⟨o,es,ho,hc,hd,he,his,hn⟩:=hm
 have hsz:=size_of_entries he
 unfold dictSet
 (try with_reducible refine wI ?_);refine wH (knd.pyHash hu hkey ?_)
 unfold dictSetHashed
 (try with_reducible refine wI ?_);refine wH (wpAny_dictFind_heap (s:={ s with toks:=s.toks+knd.draws k }) hu hkey ho hd he his hn (λno=>?_) λj p hj=>?_)
 ·have e1:=storedH_new (a:=a) (v:=v) (atKey_none_of_get no)
  have nk:k ∉ xs.map (·.1):=not_mem_keys_of_get no
  refine wH (yB (wpAny_updateDictKeys (hz:=by omega) (s:={ s with toks:=s.toks+knd.draws k }) ho hd (hQ _ ?_ (yH ..))))
  rw[e1]
  refine⟨_,_,uC _ ho (Obj.isFreed_of_dict (Obj.data_mapDictKeys hd _)),hc.mapDictKeys _,(Obj.data_mapDictKeys hd _).trans (by rw[vJ];rfl),?_,λx hx=>?_,?_⟩
  ·simp[he,entryOfKey]
  ·rcases zX.mp hx with hx|hx
   ·exact knd.keeps (his x hx) ho hd (yH ..)
   ·cases xD.mp hx;exact knd.keeps hkey ho hd (yH ..)
  ·rw[xE]
   exact nodup_append.mpr ⟨hn,by simp,λx hx y hy z=>nk (by cases xD.mp hy;cases z;exact hx)⟩
 ·have e1:=storedH_old (a:=a) (v:=v) (atKey_of_get hn hj)
  refine wH (yB (wH (wpAny_updateDict (s:={ s with toks:=s.toks+knd.draws k }) ho hd (wpAny_point (hQ _ ?_ (yH ..))))))
  rw[e1]
  refine⟨_,_,uC _ ho (Obj.isFreed_of_dict (Obj.data_mapDict hd _)),hc.mapDict _,(Obj.data_mapDict hd _).trans (by rw[lmp]),?_,λx hx=>?_,?_⟩
  ·have z:=modify_map_putAt (entryOfKey knd) (λe:DictEntry=>{ e with val:=v }) k v (λ_ _=>rfl) hn hj
   rw[<- he]at z
   obtain⟨l⟩:=es
   simpa using z
  ·obtain⟨y,hy,rfl⟩:=xF.mp hx
   unfold putAt;split<;>exact knd.keeps (his y hy) ho hd (yH ..)
  ·rw[keys_map_putAt];exact hn
theorem Zs1(hu:knd.room A.in1)(hkey:knd.is s.heap k a)(hm:DictEp knd s.heap d xs)(hz:xs.length≤sizeLine) 
  (hQ:∀h',DictEp knd h' d (storedH xs k a v)->Heap.SameBut d s.heap h'->Q () { s with heap:=h',toks:=s.toks+knd.draws k }):wpAny (model prog w) A (setItem (.ref d) (.ref a) v) Q E s:=by
 have T:=hm.of.typeIs
 unfold setItem
 (try with_reducible refine wI ?_);refine wH (vT T (by decide) ?_)
 refine wH (vU (name:=Str.ofString "__setitem__") T slot_dict_setitem (vW slot_dict_setitem T entry_dict_setitem ?_ (args_dict_setitem _ _ _)))
 show wpAny _ _ (Builtin.Dict.notOrdered "__setitem__" ⟨[.ref d,.ref a,v],[]⟩>>=_) _ _ s;refine wH (wpAny_notOrdered_dict T ?_)
 show wpAny _ _ (dictSet d (.ref a) v>>=_) _ _ s;exact wH (Zp1 hu hkey hm hz λh' z hs=>wN ⟨.none,rfl,wN (hQ h' z hs)⟩)
end
section
variable {κ:Type} [DecidableEq κ]
def valV(kvs:List (κ×V))(k:κ):Option V:=(kvs.find? λkv=>decide (kv.1=k)).map (·.2)
def putK(kvs:List (κ×V))(k:κ)(v:V):List (κ×V):=
 if(kvs.any λkv=>decide (kv.1=k))=true then kvs.map (λkv=>if kv.1=k then(kv.1,v) else kv) else kvs++[(k,v)]
theorem Zi0{p:κ×V}{r:List (κ×V)}{k:κ}(e:p.1=k):valV (p::r) k=some p.2:=by simp[valV,xG,e]
theorem Zhz{p:κ×V}{r:List (κ×V)}{k:κ}(e:¬p.1=k):valV (p::r) k=valV r k:=by simp[valV,xG,e]
theorem Zng(k:κ):∀kvs:List (κ×V),(kvs.any λkv=>decide (kv.1=k))=(valV kvs k).isSome
 | []=>rfl
 | p::r=>by
  rw[xH]
  by_cases e:p.1=k
  ·simp only[Zi0 e,decide_eq_true e,Bool.true_or,uT]
  ·rw[Zhz e,zF e,Bool.false_or];exact Zng k r
theorem Zf6(kvs:List (κ×V))(k:κ)(v:V):(putK kvs k v).length≤kvs.length+1:=by
 unfold putK
 split
 ·rw[lmp];omega
 ·rw[vJ,yP,xI];omega
theorem RelO.isSome_eq{o:Option V}{u:Option Value}(r:RelO o u):o.isSome=u.isSome:=by
 cases o with
 | none=>cases u with
  | none=>rfl
  | some _=>exact(show False from r).elim
 | some _=>cases u with
  | none=>exact(show False from r).elim
  | some _=>rfl
theorem RelO.getD{o:Option V}{u:Option Value}{d:V}{d':Value}(r:RelO o u)(rd:RelV d d'):RelV (o.getD d) (u.getD d'):=by
 cases o with
 | none=>cases u with
  | none=>exact rd
  | some _=>exact(show False from r).elim
 | some _=>cases u with
  | none=>exact(show False from r).elim
  | some _=>exact r
theorem KV.val{kvs:List (κ×V)}{vs:List (κ×Value)}(r:KV kvs vs)(k:κ):RelO (valV kvs k) (valueAt vs k):=by
 unfold KV at r
 induction r with
 | nil=>exact wX
 | @cons p q ps qs h t ih=>
  obtain⟨h1,h2⟩:=h
  by_cases e:p.1=k
  ·have e':q.1=k:=h1.symm.trans e
   have b:valueAt (q::qs) k=some q.2:=by simp[valueAt,xG,e']
   rw[Zi0 e,b];exact h2
  ·have e':¬q.1=k:=λz=>e (h1.trans z)
   have b:valueAt (q::qs) k=valueAt qs k:=by simp[valueAt,xG,e']
   rw[Zhz e,b];exact ih
theorem KV.any{kvs:List (κ×V)}{vs:List (κ×Value)}(r:KV kvs vs)(k:κ):(kvs.any λkv=>decide (kv.1=k))=vs.any λkv=>decide (kv.1=k):=by
 unfold KV at r
 induction r with
 | nil=>rfl
 | cons h t ih=>rw[xH,xH,ih,h.1]
theorem KV.repl{kvs:List (κ×V)}{vs:List (κ×Value)}(r:KV kvs vs)(k:κ){y:V}{u:Value}(ry:RelV y u):
  KV (kvs.map λkv=>if kv.1=k then(kv.1,y) else kv) (vs.map λkv=>if kv.1=k then(kv.1,u) else kv):=by
 unfold KV at r |-
 induction r with
 | nil=>exact .nil
 | @cons p q ps qs h t ih=>
  rw[uB,uB]
  refine .cons ?_ ih
  obtain⟨h1,h2⟩:=h
  by_cases e:p.1=k
  ·rw[zI e,zI (h1.symm.trans e)];exact⟨h1,ry⟩
  ·rw[zJ e,zJ (λz=>e (h1.trans z))];exact⟨h1,h2⟩
theorem KV.put{kvs:List (κ×V)}{vs:List (κ×Value)}(r:KV kvs vs)(k:κ){y:V}{u:Value}(ry:RelV y u):KV (putK kvs k y) (stored vs k u):=by
 unfold putK stored
 rw[r.any k]
 by_cases e:(vs.any λkv=>decide (kv.1=k))=true
 ·rw[zI e,zI e];exact r.repl k ry
 ·rw[zJ e,zJ e];exact Paired.snoc r ⟨rfl,ry⟩
theorem KV.keys{kvs:List (κ×V)}{vs:List (κ×Value)}(r:KV kvs vs):kvs.map (·.1)=vs.map (·.1):=by
 unfold KV at r
 induction r with
 | nil=>rfl
 | cons h t ih=>rw[uB,uB,ih,h.1]
theorem KV.length{kvs:List (κ×V)}{vs:List (κ×Value)}(r:KV kvs vs):kvs.length=vs.length:=zH r
end
theorem Znz{P:Program}{w:World}{k:Key}{u:Value}(r:RelV (kV k) u):(mixKind P w).is k u=true:=by
 cases k with
 | inl i=>obtain⟨t,e⟩:=(show ∃t,u=Value.int i t from r);subst e;exact Zm7 P w i t
 | inr x=>obtain⟨t,e⟩:=(show ∃t,u=Value.str x t from r);subst e;exact Zm8 P w x t
theorem Zl3{P:Program}{w:World}:∀{ks:List Key}{us:List Value},Vals (ks.map kV) us->ItemsAre (mixKind P w) ks us
 | [],_,r=>by rw[uA]at r;cases r;exact .nil
 | k::ks,_,r=>by
  rw[uB]at r
  cases r with
  | cons h t=>exact .cons (Znz h) (Zl3 t)
abbrev KT(H:Hp):List (List Key×V)->List (List Key×Addr×Value)->Prop:=Paired λp q=>p.1=q.1/\H q.2.1=some (.tup (p.1.map kV))/\RelV p.2 q.2.2
theorem KT.val{H:Hp}{kvs:List (List Key×V)}{xs:List (List Key×Addr×Value)}(r:KT H kvs xs)(k:List Key):RelO (valV kvs k) ((atKey xs k).map (·.2)):=by
 induction r with
 | nil=>exact wX
 | @cons p q ps qs h t ih=>
  obtain⟨h1,_,h2⟩:=h
  by_cases e:p.1=k
  ·have e':q.1=k:=h1.symm.trans e
   have b:atKey (q::qs) k=some q.2:=by simp[atKey,xG,e']
   rw[Zi0 e,b];exact h2
  ·have e':¬q.1=k:=λz=>e (h1.trans z)
   have b:atKey (q::qs) k=atKey qs k:=by simp[atKey,xG,e']
   rw[Zhz e,b];exact ih
theorem KT.repl{H:Hp}{kvs:List (List Key×V)}{xs:List (List Key×Addr×Value)}(r:KT H kvs xs)(k:List Key){y:V}{u:Value}(ry:RelV y u):
  KT H (kvs.map λkv=>if kv.1=k then(kv.1,y) else kv) (xs.map (putAt k u)):=by
 induction r with
 | nil=>exact .nil
 | @cons p q ps qs h t ih=>
  rw[uB,uB]
  refine .cons ?_ ih
  obtain⟨h1,h2,h3⟩:=h
  unfold putAt
  by_cases e:p.1=k
  ·rw[zI e,zI (h1.symm.trans e)];exact⟨h1,h2,ry⟩
  ·rw[zJ e,zJ (λz=>e (h1.trans z))];exact⟨h1,h2,h3⟩
theorem KT.put{H:Hp}{kvs:List (List Key×V)}{xs:List (List Key×Addr×Value)}(r:KT H kvs xs)(k:List Key){b:Addr}{y:V}{u:Value}(hb:H b=some (.tup (k.map kV)))(ry:RelV y u):
  KT H (putK kvs k y) (storedH xs k b u):=by
 have e:(kvs.any λkv=>decide (kv.1=k))=(atKey xs k).isSome:=by
  rw[Zng,(r.val k).isSome_eq,isSome_map]
 unfold putK storedH
 rw[e]
 by_cases q:(atKey xs k).isSome=true
 ·rw[zI q,zI q];exact r.repl k ry
 ·rw[zJ q,zJ q];exact Paired.snoc r ⟨rfl,hb,ry⟩
theorem KT.keeps{H H':Hp}{kvs:List (List Key×V)}{xs:List (List Key×Addr×Value)}(r:KT H kvs xs)(ht:∀b ys,H b=some (.tup ys)->H' b=some (.tup ys)):KT H' kvs xs:=
 Paired.mapP r λ_ _ z=>⟨z.1,ht _ _ z.2.1,z.2.2⟩
section
variable {P:Program}{w:World}{H:Hp}{h:Heap}{a:Addr}
theorem Zvt{u:HO}(ok:HOk P w H h)(e:Rd H a u):ObjOk P w H h a u:=e.ok ok
theorem Zox{kvs:List (Key×V)}(ok:HOk P w H h)(e:Rd H a (.dK kvs)):kvs.length≤sizeLine/\(a == sysModules)=false/\∃vs,KV kvs vs/\h.DictOf (mixKind P w) a vs:=
 show ObjOk P w H h a (.dK kvs) from Zvt ok e
theorem Zuq{kvs:List (Key×V)}(ok:HOk P w H h)(e:H a=some (.dK kvs)):kvs.length≤sizeLine/\(a == sysModules)=false/\∃vs,KV kvs vs/\h.DictOf (mixKind P w) a vs:=Zox ok (.inl e)
theorem Zji{ks:List Key}(ok:HOk P w H h)(e:H a=some (.tup (ks.map kV))):(tupleKind (mixKind P w)).is h ks a:=by
 obtain⟨_,its,r,o,h1,h2,n,h3,_⟩:=(show ObjOk P w H h a (.tup (ks.map kV)) from ok a _ e)
 exact⟨o,its.toArray,n,h1,h2,h3,by simpa using Zl3 r⟩
theorem Zsh{kvs:List (List Key×V)}(ok:HOk P w H h)(e:Rd H a (.dT kvs)):kvs.length≤sizeLine/\(a == sysModules)=false /\
  ∃xs,KT H kvs xs/\DictEp (tupleKind (mixKind P w)) h a xs:=by
 obtain⟨z,y,xs,r,o,es,ep,h1,h2,h3,h4,h5,rfl⟩:=(show ObjOk P w H h a (.dT kvs) from Zvt ok e)
 refine⟨z,y,xs,r,o,es,h1,h2,h3,h4,λx hx=>?_,h5⟩
 have all:∀{l:List (List Key×V)}{m:List (List Key×Addr×Value)},KT H l m->∀x∈m,(tupleKind (mixKind P w)).is h x.1 x.2.1:=by
  intro l m q
  induction q with
  | nil=>intro x hx;exact nomatch hx
  | @cons p q ps qs hq t ih=>
   intro x hx
   rcases zV.mp hx with e|hx
   ·subst e
    exact Zji ok (by rw[<- hq.1];exact hq.2.1)
   ·exact ih x hx
 exact all r x hx
theorem Zp2{kvs:List (List Key×V)}(ok:HOk P w H h)(e:Rd H a (.dT kvs)):kvs.length≤sizeLine/\(a == sysModules)=false /\
  ∃xs,KT H kvs xs/\h.DictOfH (tupleKind (mixKind P w)) a xs:=by
 obtain⟨z,y,xs,r,m⟩:=Zsh ok e
 exact⟨z,y,xs,r,m.of⟩
theorem Zsg{kvs:List (List Key×V)}(ok:HOk P w H h)(e:H a=some (.dT kvs)):kvs.length≤sizeLine/\(a == sysModules)=false /\
  ∃xs,KT H kvs xs/\DictEp (tupleKind (mixKind P w)) h a xs:=Zsh ok (.inl e)
theorem Zw6{kvs:List (List Key×V)}(ok:HOk P w H h)(e:H a=some (.dT kvs)):kvs.length≤sizeLine/\(a == sysModules)=false /\
  ∃xs,KT H kvs xs/\h.DictOfH (tupleKind (mixKind P w)) a xs:=Zp2 ok (.inl e)
end
def DGet(H:Hp)(a:Addr)(y:V)(r:Option V):Prop:=
 (∃kvs k,Rd H a (.dK kvs)/\y=kV k/\r=valV kvs k)\/∃kvs k b,Rd H a (.dT kvs)/\y=.ref b/\H b=some (.tup (k.map kV))/\r=valV kvs k
def DPut(H:Hp)(a:Addr)(y v:V)(H':Hp):Prop:=
 (∃kvs k,H a=some (.dK kvs)/\y=kV k/\kvs.length<sizeLine/\H'=upd H a (.dK (putK kvs k v))) \/
 ∃kvs k b,H a=some (.dT kvs)/\y=.ref b/\H b=some (.tup (k.map kV))/\kvs.length<sizeLine/\H'=upd H a (.dT (putK kvs k v))
theorem DGet.k{H:Hp}{a:Addr}{kvs:List (Key×V)}{k:Key}(e:H a=some (.dK kvs)):DGet H a (kV k) (valV kvs k):=.inl ⟨kvs,k,.inl e,rfl,rfl⟩
theorem DGet.t{H:Hp}{a b:Addr}{kvs:List (List Key×V)}{k:List Key}(e:H a=some (.dT kvs))(eb:H b=some (.tup (k.map kV))):DGet H a (.ref b) (valV kvs k):=.inr ⟨kvs,k,b,.inl e,rfl,eb,rfl⟩
theorem DPut.k{H:Hp}{a:Addr}{kvs:List (Key×V)}{k:Key}{v:V}(e:H a=some (.dK kvs))(hl:kvs.length<sizeLine):DPut H a (kV k) v (upd H a (.dK (putK kvs k v))):=.inl ⟨kvs,k,e,rfl,hl,rfl⟩
theorem DPut.t{H:Hp}{a b:Addr}{kvs:List (List Key×V)}{k:List Key}{v:V}(e:H a=some (.dT kvs))(eb:H b=some (.tup (k.map kV)))(hl:kvs.length<sizeLine):
  DPut H a (.ref b) v (upd H a (.dT (putK kvs k v))):=.inr ⟨kvs,k,b,e,rfl,eb,hl,rfl⟩
section
variable {X:Cx}{pins:List (Addr×Obj)}{σ:St}{H:Hp}{s:Shared}{a:Addr}{y v:V}{u r:Value}{o:Option V}{A:Around}{E:Value->Shared->Prop}
theorem Inv.big(I:Inv X pins σ H s):sysModules<s.heap.objs.size:=by
 have h:mainGlobals<s.heap.objs.size:=(I.mod.glob.keeps I.bk).lt
 exact Nat.lt_trans (by decide) h
theorem Zos{Q:Value->Shared->Prop}(hu:A.units+1<cLine)(I:Inv X pins σ H s)(g:DGet H a y (some v))(ry:RelV y u)(h:∀w' s',Inv X pins σ H s'->RelV v w'->Q w' s'):
  wpAny (model X.prog X.w) A (getItem (.ref a) u) Q E s:=by
 rcases g with ⟨kvs,k,e,ey,l⟩|⟨kvs,k,b,e,ey,eb,l⟩
 ·subst ey
  obtain⟨z,hd,vs,rel,dd⟩:=Zox I.hok e
  obtain⟨w',hw,rw'⟩:=RelO.some_of (v:=v) (o:=valueAt vs k) (by rw[l];exact rel.val k)
  exact wpAny_getItem_of (Znz ry) dd.mapOf hw (h w' _ (I.tok _) rw')
 ·subst ey
  cases (show u=Value.ref b from ry)
  obtain⟨z,hd,xs,rel,dd⟩:=Zp2 I.hok e
  obtain⟨w',hw,rw'⟩:=RelO.some_of (v:=v) (o:=(atKey xs k).map (·.2)) (by rw[l];exact rel.val k)
  obtain⟨p,hp,hp2⟩:=xJ.mp hw
  refine wpAny_getItem_heap (xK hu) (Zji I.hok eb) dd hp ?_
  rw[hp2]
  exact h w' _ (I.tok _) rw'
theorem d_in{Q:Value->Shared->Prop}(hu:A.units+1<cLine)(I:Inv X pins σ H s)(g:DGet H a y o)(ry:RelV y u)(h:∀s',Inv X pins σ H s'->Q (.bool o.isSome) s'):
  wpAny (model X.prog X.w) A (compareOp .In u (.ref a)) Q E s:=by
 rcases g with ⟨kvs,k,e,ey,l⟩|⟨kvs,k,b,e,ey,eb,l⟩
 ·subst ey
  obtain⟨z,hd,vs,rel,dd⟩:=Zox I.hok e
  refine wpAny_in_of (Znz ry) hd dd.mapOf ?_
  rw[<- (rel.val k).isSome_eq,<- l]
  exact h _ (I.tok _)
 ·subst ey
  cases (show u=Value.ref b from ry)
  obtain⟨z,hd,xs,rel,dd⟩:=Zp2 I.hok e
  refine wpAny_in_heap (xK hu) (Zji I.hok eb) hd dd ?_
  have q:=(rel.val k).isSome_eq
  rw[isSome_map]at q
  rw[<- q,<- l]
  exact h _ (I.tok _)
theorem Zt1{Q:Value->Shared->Prop}(hu:A.units+1<cLine)(I:Inv X pins σ H s)(g:DGet H a y o)(ry:RelV y u)(h:∀s',Inv X pins σ H s'->Q (.bool (!o.isSome)) s'):
  wpAny (model X.prog X.w) A (compareOp .NotIn u (.ref a)) Q E s:=by
 rcases g with ⟨kvs,k,e,ey,l⟩|⟨kvs,k,b,e,ey,eb,l⟩
 ·subst ey
  obtain⟨z,hd,vs,rel,dd⟩:=Zox I.hok e
  refine wpAny_notIn_of (Znz ry) hd dd.mapOf ?_
  rw[<- (rel.val k).isSome_eq,<- l]
  exact h _ (I.tok _)
 ·subst ey
  cases (show u=Value.ref b from ry)
  obtain⟨z,hd,xs,rel,dd⟩:=Zp2 I.hok e
  refine wpAny_notIn_heap (xK hu) (Zji I.hok eb) hd dd ?_
  have q:=(rel.val k).isSome_eq
  rw[isSome_map]at q
  rw[<- q,<- l]
  exact h _ (I.tok _)
theorem Zjv{h':Heap}{t':Nat}{ob:HO}(I:Inv X pins σ H s)(mu:Mut (H a))(hs:Heap.SameBut a s.heap h')(he:∃q,h'.get? a=some q)(new:ObjOk X.prog X.w (upd H a ob) h' a ob):
  Inv X pins σ (upd H a ob) { s with heap:=h',toks:=t' }:=
 I.write (x:=a) (e:=a) mu (.inl rfl) (λb q hb z=>(hs.2 b hb).trans z) he new
theorem Zsf{P:Program}{w:World}{H':Hp}{h':Heap}{kvs:List (Key×V)}{vs:List (Key×Value)}(z:kvs.length≤sizeLine)(hd:(a == sysModules)=false)(rel:KV kvs vs)(dd:h'.DictOf (mixKind P w) a vs):
  ObjOk P w H' h' a (.dK kvs):=⟨z,hd,vs,rel,dd⟩
theorem Zot{H':Hp}{Q:Unit->Shared->Prop}(hu:A.units+1<cLine)(I:Inv X pins σ H s)(g:DPut H a y v H')(ry:RelV y u)(rv:RelV v r)(h:∀s',Inv X pins σ H' s'->Q () s'):
  wpAny (model X.prog X.w) A (setItem (.ref a) u r) Q E s:=by
 rcases g with ⟨kvs,k,e,ey,l,eH⟩|⟨kvs,k,b,e,ey,eb,l,eH⟩
 ·subst ey eH
  obtain⟨z,hd,vs,rel,dd⟩:=Zuq I.hok e
  have hz:vs.length≤sizeLine:=by rw[<- rel.length];exact z
  have hl:(putK kvs k v).length≤sizeLine:=by have:=Zf6 kvs k v;omega
  refine wpAny_setItem_pairs (hsz:=hz) (Znz ry) dd λh' dd' hs=>h _ ?_
  have he:∃q,h'.get? a=some q:=let ⟨q,_,_,hq,_⟩:=dd';⟨q,hq⟩
  exact Zjv I (by rw[e];exact wX) hs he (Zsf hl hd (rel.put k rv) dd')
 ·subst ey eH
  cases (show u=Value.ref b from ry)
  obtain⟨z,hd,xs,rel,dd⟩:=Zsg I.hok e
  have hz:xs.length≤sizeLine:=by rw[<- zH rel];exact z
  have hl:(putK kvs k v).length≤sizeLine:=by have:=Zf6 kvs k v;omega
  refine Zs1 (xK hu) (Zji I.hok eb) dd hz λh' dd' hs=>h _ ?_
  obtain⟨q,es,hq,h2,h3,h4,_,h5⟩:=dd'
  refine Zjv I (by rw[e];exact wX) hs ⟨q,hq⟩ ⟨hl,hd,_,(rel.put k eb rv).keeps λc ys ec=>?_,q,es,_,hq,h2,h3,h4,h5,rfl⟩
  rw[Zb3 (Zv0 ec e (λz=>nomatch z))]
  exact ec
end
section
variable {X:Cx}{pins:List (Addr×Obj)}{σ:St}{H:Hp}{s:Shared}{a:Addr}{kvs:List (Key×V)}{k:Key}{u:Value}{A:Around}{E:Value->Shared->Prop}
end
def NoSl(i:Expr):Prop:=∀ov iv,subscripted i false ov iv=operate [ov,iv] (getItem ov iv)
theorem Zui{prog:Program}{w:World}{A:Around}{E:Value->Shared->Prop}{s:Shared}{env:Env}{value slice:Expr}{pos:Pos}{T id:String}{Q:Value->Shared->Prop} 
  (hl:typeLookup (.type T) "__getitem__" = pure (some (.builtin id))) (hs:NoSl slice)
  (h:wpAny (model prog w) A (eval value env) (λo s₁=>wpAny (model prog w) A (eval slice env) (λi s₂=>s₂.TypeIs o T/\wpAny (model prog w) A (getItem o i) Q E s₂) E s₁) E s) :
  wpAny (model prog w) A (eval (.Subscript value slice pos) env) Q E s:=by
 refine Subscript_ (wC h (λo s₁ h₁=>wC h₁ (λi s₂ h₂=>?_) λ_ _ x=>x) λ_ _ x=>x)
 obtain⟨hT,h₂⟩:=h₂
 unfold subscriptTail
 refine wH ?_
 rw[getitemInPython_of_ne hT.not_modules]
 refine wH (wpAny_specialOf hT hl ?_)
 have fin:wpAny (model prog w) A (subscripted slice false o i) (λr s₃=>wpAny (model prog w) A (letTemporaryGo value o r>>=λ_=>pure r) Q E s₃) E s₂:=by
  rw[hs o i]
  exact wpAny_operating (wC h₂ (λr s₃ h₃=>wH (wpAny_letTemporaryGo (wN h₃))) λ_ _ x=>x)
 first
  | exact wN (wH fin)
  | exact wH (wN (wH fin))
  | exact wH fin
theorem Zlr{X:Cx}{pins:List (Addr×Obj)}{σ:St}{H:Hp}{s:Shared}{a:Addr}{y:V}{o:Option V}(I:Inv X pins σ H s)(g:DGet H a y o):s.TypeIs (.ref a) "dict":=by
 rcases g with ⟨kvs,k,e,_,_⟩|⟨kvs,k,b,e,_,_,_⟩
 ·obtain⟨_,_,vs,_,dd⟩:=Zox I.hok e
  exact dd.typeIs
 ·obtain⟨_,_,xs,_,dd⟩:=Zp2 I.hok e
  exact dd.typeIs
def tDGet(td ty:TE):TE:=λσ H Q=>td σ H λx H1=>ty σ H1 λy H2=>∃a v,x=.ref a/\DGet H2 a y (some v)/\Q v H2
def tDIn(ty td:TE):TE:=λσ H Q=>ty σ H λy H1=>td σ H1 λx H2=>∃a o,x=.ref a/\DGet H2 a y o/\Q (.bl o.isSome) H2
def tDNotIn(ty td:TE):TE:=λσ H Q=>ty σ H λy H1=>td σ H1 λx H2=>∃a o,x=.ref a/\DGet H2 a y o/\Q (.bl (!o.isSome)) H2
def sDPut(td ty tv:TE):TS:=λD σ H=>tv σ H λv H1=>td σ H1 λx H2=>ty σ H2 λy H3=>∃a H4,x=.ref a/\DPut H3 a y v H4/\D.nx σ H4
section
variable {X:Cx}{o i e value:Expr}{pos pos' tpos:Pos}{td ty tv:TE}
theorem Ztp(hu:X.A.units+1<cLine)(ho:PE X o td)(hi:PE X i ty)(hs:NoSl i):PE X (.Subscript o i pos) (tDGet td ty):=by
 intro pins s σ H Q I h
 refine Zui PySem.F.slot_dict_getitem.lookup hs (thn (ho pins s σ H _ I h) λu s1 ⟨x,H1,I1,rx,q1⟩=>thn (hi pins s1 σ H1 _ I1 q1) λiv s2 ⟨y,H2,I2,ry,a,v,ex,g,q2⟩=>?_)
 subst ex
 obtain rfl:u=Value.ref a:=rx
 exact⟨Zlr I2 g,Zos hu I2 g ry λw' s3 I3 rw'=>⟨v,H2,I3,rw',q2⟩⟩
theorem Zv5(hu:X.A.units+1<cLine)(hi:PE X i ty)(ho:PE X o td):PC X .In i o (tDIn ty td):=by
 intro pins s σ H Q I h
 refine thn (hi pins s σ H _ I h) λiv s1 ⟨y,H1,I1,ry,q1⟩=>thn (ho pins s1 σ H1 _ I1 q1) λu s2 ⟨x,H2,I2,rx,a,ov,ex,g,q2⟩=>?_
 subst ex
 obtain rfl:u=Value.ref a:=rx
 exact d_in hu I2 g ry λs3 I3=>⟨.bl ov.isSome,H2,I3,rfl,q2⟩
theorem Zpw(hu:X.A.units+1<cLine)(hi:PE X i ty)(ho:PE X o td):PC X .NotIn i o (tDNotIn ty td):=by
 intro pins s σ H Q I h
 refine thn (hi pins s σ H _ I h) λiv s1 ⟨y,H1,I1,ry,q1⟩=>thn (ho pins s1 σ H1 _ I1 q1) λu s2 ⟨x,H2,I2,rx,a,ov,ex,g,q2⟩=>?_
 subst ex
 obtain rfl:u=Value.ref a:=rx
 exact Zt1 hu I2 g ry λs3 I3=>⟨.bl (!ov.isSome),H2,I3,rfl,q2⟩
theorem Ztx(hu:X.A.units+1<cLine)(ho:PE X o td)(hi:PE X i ty)(hv:PE X value tv)(hs:swapsWith value (some (.Subscript o i pos')) pos.line X.env=pure false):
  PS X (.Assign [.Subscript o i pos'] value pos) (sDPut td ty tv):=by
 intro pins s σ H D I h
 refine wpAny_Assign_Subscript (thn (hv pins s σ H _ I h) λr s1 ⟨v,H1,I1,rv,q1⟩=>thn (ho pins s1 σ H1 _ I1 q1) λu s2 ⟨x,H2,I2,rx,q2⟩=>thn (hi pins s2 σ H2 _ I2 q2) λiv s3 ⟨y,H3,I3,ry,a,H4,ex,g,q3⟩=>?_) hs
 subst ex
 obtain rfl:u=Value.ref a:=rx
 exact Zot hu I3 g ry rv λs4 I4=>⟨σ,H4,I4,q3⟩
end
theorem Zmv{P:Program}{w:World}{H:Hp}(h:Heap)(hb:sysModules<h.objs.size):ObjOk P w H (h.push { cls:=.type "dict",data:=.dict #[] }) h.objs.size (.dT []):=
 ⟨yE _,zG.mpr (zW (zP hb)),[],.nil,_,#[],0,zL _ rfl,⟨rfl,rfl,rfl⟩,rfl,rfl,List.nodup_nil,rfl⟩
def tDNewT:TE:=λ_ H Q=>∀p,H p=none->Q (.ref p) (upd H p (.dT []))
section
variable {X:Cx}{pos:Pos}
theorem Zrh:PE X (.Dict [] [] pos) tDNewT:=λpins s σ H Q I h=>
 wpAny_Dict_empty ⟨.ref s.heap.objs.size,_,I.laid (a:=s.heap.objs.size) (o:=.dT []) (t':=s.toks) (λ_ _ q=>wQ _ q) (wR _) (Zmv s.heap I.big),rfl,h _ (I.hok.fresh (wR _))⟩
end
section
variable {X:Cx}{pins:List (Addr×Obj)}{σ:St}{H:Hp}{s:Shared}{a:Addr}{y d:V}{u r:Value}{o:Option V}{A:Around}{E:Value->Shared->Prop}
end
section
variable {X:Cx}{o e f:Expr}{apos cpos:Pos}{td ty tx:TE}
end
section
variable {X:Cx}{pins:List (Addr×Obj)}{σ:St}{H:Hp}{s:Shared}{a:Addr}{kvs:List (Key×V)}{A:Around}{E:Value->Shared->Prop}
end
section
variable {X:Cx}{pins:List (Addr×Obj)}{σ:St}{H:Hp}{s:Shared}{a:Addr}{y:V}{u:Value}{A:Around}{E:Value->Shared->Prop}
end
section
variable {κ:Type} [DecidableEq κ]
end
def InK(K:Frag)(a:Addr)(xs:List V):Prop:=
 ∃(o:Obj) (its:Array Value) (n:Nat),K.lookup a=some o/\o.cls=.type "tuple"/\o.data=.seq its n/\its.size≤sizeLine/\Vals xs its.toList
theorem InK.sq{K:Frag}{a:Addr}{xs:List V}(h:InK K a xs)(H:Hp):SqT K H a xs:=.inr h
mutual
def DW(K:Frag)(G:Hp):PyData->V->Prop
 | .none,v=>v=.non
 | .bool b,v=>v=.bl b
 | .int i,v=>v=.int i
 | .str x,v=>v=.str x
 | .list ds,v=>∃a xs,v=.ref a/\G a=some (.lst xs)/\DWs K G ds xs
 | .tuple ds,v=>∃a xs,v=.ref a/\(G a=some (.tup xs)\/(ds=[]/\InK K a xs))/\DWs K G ds xs
 | .dict kvs,v=>∃a ks,v=.ref a/\G a=some (.dT ks)/\DWk K G kvs ks
def DWs(K:Frag)(G:Hp):List PyData->List V->Prop
 | [],xs=>xs=[]
 | d::ds,xs=>∃x r,xs=x::r/\DW K G d x/\DWs K G ds r
def DWk(K:Frag)(G:Hp):List (PyData×PyData)->List (List Key×V)->Prop
 | [],ks=>ks=[]
 | (k,d)::r,ks=>∃(ns:List Int) (x:V) (t:List (List Key×V)),ks=(ns.map Sum.inl,x)::t/\k=tI ns/\DW K G d x/\DWk K G r t
end
section
variable {K:Frag}{G G' H H':Hp}
mutual
theorem DW.same(e:Same G G'):∀{d:PyData}{v:V},DW K G d v->DW K G' d v
 | .none,_,h=>by unfold DW at h |-;exact h
 | .bool _,_,h=>by unfold DW at h |-;exact h
 | .int _,_,h=>by unfold DW at h |-;exact h
 | .str _,_,h=>by unfold DW at h |-;exact h
 | .list ds,_,h=>by
  unfold DW at h |-
  obtain⟨a,xs,q1,q2,q3⟩:=h
  exact⟨a,xs,q1,e _ _ q2,DWs.same e q3⟩
 | .tuple ds,_,h=>by
  unfold DW at h |-
  obtain⟨a,xs,q1,q2,q3⟩:=h
  exact⟨a,xs,q1,q2.imp (e _ _) id,DWs.same e q3⟩
 | .dict kvs,_,h=>by
  unfold DW at h |-
  obtain⟨a,ks,q1,q2,q3⟩:=h
  exact⟨a,ks,q1,e _ _ q2,DWk.same e q3⟩
theorem DWs.same(e:Same G G'):∀{ds:List PyData}{xs:List V},DWs K G ds xs->DWs K G' ds xs
 | [],_,h=>by unfold DWs at h |-;exact h
 | d::ds,_,h=>by
  unfold DWs at h |-
  obtain⟨x,r,q1,q2,q3⟩:=h
  exact⟨x,r,q1,DW.same e q2,DWs.same e q3⟩
theorem DWk.same(e:Same G G'):∀{kvs:List (PyData×PyData)}{ks:List (List Key×V)},DWk K G kvs ks->DWk K G' kvs ks
 | [],_,h=>by unfold DWk at h |-;exact h
 | (k,d)::r,_,h=>by
  unfold DWk at h |-
  obtain⟨ns,x,t,q0,q1,q2,q3⟩:=h
  exact⟨ns,x,t,q0,q1,DW.same e q2,DWk.same e q3⟩
end
mutual
theorem DW.dv(e:Same G H):∀{d:PyData}{v:V},d.hasDict=false->DW K G d v->DV K H d v
 | .none,_,_,h=>by unfold DW at h;unfold DV;exact h
 | .bool _,_,_,h=>by unfold DW at h;unfold DV;exact h
 | .int _,_,_,h=>by unfold DW at h;unfold DV;exact h
 | .str _,_,_,h=>by unfold DW at h;unfold DV;exact h
 | .list ds,_,n,h=>by
  unfold DW at h;unfold DV
  obtain⟨a,xs,q1,q2,q3⟩:=h
  exact⟨a,xs,q1,SqL.of (e _ _ q2),DWs.dv e (by simpa[PyData.hasDict]using n) q3⟩
 | .tuple ds,_,n,h=>by
  unfold DW at h;unfold DV
  obtain⟨a,xs,q1,q2,q3⟩:=h
  refine⟨a,xs,q1,?_,DWs.dv e (by simpa[PyData.hasDict]using n) q3⟩
  rcases q2 with q2|⟨_,q2⟩
  ·exact SqT.of (e _ _ q2)
  ·exact q2.sq _
 | .dict kvs,_,n,h=>by simp[PyData.hasDict]at n
theorem DWs.dv(e:Same G H):∀{ds:List PyData}{xs:List V},PyData.hasDictAll ds=false->DWs K G ds xs->DVs K H ds xs
 | [],_,_,h=>by unfold DWs at h;unfold DVs;exact h
 | d::ds,_,n,h=>by
  unfold DWs at h;unfold DVs
  obtain⟨x,r,q1,q2,q3⟩:=h
  simp only[PyData.hasDictAll,yY]at n
  exact⟨x,r,q1,DW.dv e n.1 q2,DWs.dv e n.2 q3⟩
end
theorem DWs.nil:DWs K G [] []:=by unfold DWs;rfl
theorem DWs.cons{d:PyData}{ds:List PyData}{x:V}{xs:List V}(h:DW K G d x)(t:DWs K G ds xs):DWs K G (d::ds) (x::xs):=by unfold DWs;exact⟨x,xs,rfl,h,t⟩
theorem DWs.append:∀{ds es:List PyData}{xs ys:List V},DWs K G ds xs->DWs K G es ys->DWs K G (ds++es) (xs++ys)
 | [],_,_,_,h,t=>by unfold DWs at h;subst h;exact t
 | d::ds,es,_,ys,h,t=>by
  unfold DWs at h
  obtain⟨x,r,q1,q2,q3⟩:=h
  subst q1
  exact DWs.cons q2 (DWs.append q3 t)
theorem DWs.snoc{ds:List PyData}{d:PyData}{xs:List V}{x:V}(h:DWs K G ds xs)(t:DW K G d x):DWs K G (ds++[d]) (xs++[x]):=DWs.append h (DWs.cons t DWs.nil)
theorem DWs.length:∀{ds:List PyData}{xs:List V},DWs K G ds xs->ds.length=xs.length
 | [],_,h=>by unfold DWs at h;subst h;rfl
 | d::ds,_,h=>by
  unfold DWs at h
  obtain⟨x,r,q1,q2,q3⟩:=h
  subst q1
  rw[yP,yP,DWs.length q3]
theorem DWs.get:∀{ds:List PyData}{xs:List V}{i:Nat}{x:V},DWs K G ds xs->xs[i]? = some x->∃d,ds[i]? = some d/\DW K G d x
 | [],_,i,x,h,e=>by unfold DWs at h;subst h;simp at e
 | d::ds,_,0,x,h,e=>by
  unfold DWs at h
  obtain⟨y,r,q1,q2,q3⟩:=h
  subst q1
  simp at e;subst e
  exact⟨d,rfl,q2⟩
 | d::ds,_,i+1,x,h,e=>by
  unfold DWs at h
  obtain⟨y,r,q1,q2,q3⟩:=h
  subst q1
  obtain⟨d',h1,h2⟩:=DWs.get (i:=i) (x:=x) q3 (by simpa using e)
  exact⟨d',by simpa using h1,h2⟩
theorem DWs.get':∀{ds:List PyData}{xs:List V}{i:Nat}{d:PyData},DWs K G ds xs->ds[i]? = some d->∃x,xs[i]? = some x/\DW K G d x:=by
 intro ds xs i d h e
 have hi:i<xs.length:=by rw[<- h.length];exact(zZ.mp e).1
 obtain⟨d',e1,e2⟩:=h.get (gEq hi)
 rw[e]at e1;cases e1
 exact⟨_,gEq hi,e2⟩
theorem DWs.take:∀{ds:List PyData}{xs:List V} (k:Nat),DWs K G ds xs->DWs K G (ds.take k) (xs.take k)
 | [],xs,k,h=>by unfold DWs at h;subst h;simp;exact DWs.nil
 | d::ds,xs,0,h=>by simp;exact DWs.nil
 | d::ds,xs,k+1,h=>by
  unfold DWs at h
  obtain⟨x,r,rfl,h1,h2⟩:=h
  exact DWs.cons h1 (DWs.take k h2)
theorem DWs.drop:∀{ds:List PyData}{xs:List V} (k:Nat),DWs K G ds xs->DWs K G (ds.drop k) (xs.drop k)
 | [],xs,k,h=>by unfold DWs at h;subst h;simp;exact DWs.nil
 | d::ds,xs,0,h=>h
 | d::ds,xs,k+1,h=>by
  unfold DWs at h
  obtain⟨x,r,rfl,h1,h2⟩:=h
  exact DWs.drop k h2
theorem DWs.reverse:∀{ds:List PyData}{xs:List V},DWs K G ds xs->DWs K G ds.reverse xs.reverse
 | [],xs,h=>by unfold DWs at h;subst h;exact DWs.nil
 | d::ds,xs,h=>by
  unfold DWs at h
  obtain⟨x,r,rfl,h1,h2⟩:=h
  rw[uD,uD]
  exact DWs.snoc (DWs.reverse h2) h1
theorem DWs.ints:∀ns:List Int,DWs K G (ns.map .int) (ns.map .int)
 | []=>by unfold DWs;rfl
 | n::r=>by unfold DWs;exact⟨_,_,rfl,by unfold DW;rfl,DWs.ints r⟩
theorem DWs.ints_inv:∀{ns:List Int}{xs:List V},DWs K G (ns.map .int) xs->xs=ns.map V.int
 | [],xs,h=>by unfold DWs at h;exact h
 | n::r,xs,h=>by
  rw[uB]at h
  unfold DWs at h
  obtain⟨x,t,rfl,h1,h2⟩:=h
  unfold DW at h1
  rw[h1,DWs.ints_inv h2];rfl
theorem DWs.bools_inv:∀{ns:List Bool}{xs:List V},DWs K G (ns.map .bool) xs->xs=ns.map V.bl
 | [],xs,h=>by unfold DWs at h;exact h
 | n::r,xs,h=>by
  rw[uB]at h
  unfold DWs at h
  obtain⟨x,t,rfl,h1,h2⟩:=h
  unfold DW at h1
  rw[h1,DWs.bools_inv h2];rfl
theorem DW.list{a:Addr}{xs:List V}{ds:List PyData}(h:G a=some (.lst xs))(t:DWs K G ds xs):DW K G (.list ds) (.ref a):=by unfold DW;exact⟨a,xs,rfl,h,t⟩
theorem DW.tup{a:Addr}{xs:List V}{ds:List PyData}(h:G a=some (.tup xs))(t:DWs K G ds xs):DW K G (.tuple ds) (.ref a):=by unfold DW;exact⟨a,xs,rfl,.inl h,t⟩
theorem DW.tup_inv{v:V}{ds:List PyData}(h:DW K G (.tuple ds) v):∃a xs,v=.ref a/\SqT K G a xs/\DWs K G ds xs:=by
 unfold DW at h
 obtain⟨a,xs,q1,q2,q3⟩:=h
 refine⟨a,xs,q1,?_,q3⟩
 rcases q2 with q2|⟨_,q2⟩
 ·exact SqT.of q2
 ·exact q2.sq _
theorem DW.list_inv{v:V}{ds:List PyData}(h:DW K G (.list ds) v):∃a xs,v=.ref a/\G a=some (.lst xs)/\DWs K G ds xs:=by
 unfold DW at h;exact h
theorem DW.int{i:Int}:DW K G (.int i) (.int i):=by unfold DW;rfl
theorem DW.bool{i:Bool}:DW K G (.bool i) (.bl i):=by unfold DW;rfl
theorem DW.str{i:Str}:DW K G (.str i) (.str i):=by unfold DW;rfl
theorem DW.none:DW K G .none .non:=by unfold DW;rfl
theorem DW.int_inv{i:Int}{v:V}(h:DW K G (.int i) v):v=.int i:=by unfold DW at h;exact h
theorem DW.bool_inv{i:Bool}{v:V}(h:DW K G (.bool i) v):v=.bl i:=by unfold DW at h;exact h
theorem DW.str_inv{i:Str}{v:V}(h:DW K G (.str i) v):v=.str i:=by unfold DW at h;exact h
theorem DW.none_inv{v:V}(h:DW K G .none v):v=.non:=by unfold DW at h;exact h
end
inductive Val where
 | d (x:PyData)|own (a:Addr)|raw (v:V)|scr (ns:List Int)
inductive Own where
 | lst (ds:List PyData)|urn (m:Nat)|dct (kvs:List (List Int×PyData))
 /-- the table of a def that makes a lambda: empty,or with the one lambda's code object (its line,its column,its name) -/
 | tab (l c:Nat) (x:Str) (t:Option Addr)
abbrev OW:=Addr->Option Own
def OW.put(w:OW)(a:Addr)(o:Own):OW:=λb=>if b=a then some o else w b
theorem OW.put_same{w:OW}{a:Addr}{o:Own}:w.put a o a=some o:=by simp[OW.put]
theorem OW.put_ne{w:OW}{a b:Addr}{o:Own}(h:b≠a):w.put a o b=w b:=by simp[OW.put,h]
theorem OW.put_put{w:OW}{a:Addr}{o u:Own}:(w.put a o).put a u=w.put a u:=by
 funext b;unfold OW.put;split<;>rfl
structure DS where
 e:List (Option Val)
 w:OW
def DS.put(s:DS)(a:Addr)(o:Own):DS:=⟨s.e,s.w.put a o⟩
def DS.set(s:DS)(i:Nat)(v:Val):DS:=⟨s.e.set i (some v),s.w⟩
def VR(K:Frag)(G:Hp):Val->V->Prop
 | .d x,v=>DW K G x v
 | .own a,v=>v=.ref a
 | .raw u,v=>v=u
 | .scr ns,v=>∃a,v=.ref a/\SqL K G a (ns.map V.int)
def kvK(kvs:List (List Int×PyData)):List (PyData×PyData):=kvs.map λp=>(tI p.1,p.2)
def OwnAt(K:Frag)(G H:Hp)(a:Addr):Own->Prop
 | .lst ds=>∃xs,H a=some (.lst xs)/\DWs K G ds xs
 | .urn m=>Urn H a m
 | .dct kvs=>∃ks,H a=some (.dT ks)/\DWk K G (kvK kvs) ks
 | .tab l c x t=>∃ps,H a=some (.tbl ps)/\((t=none/\ps = #[])\/∃k oc u vs n,t=some k/\ps = #[rawInt l,rawInt c,.ref k]/\G k=some (.frz oc u)/\oc.data=.fields vs/\vs[1]? = some (.str x n))
def OwnOk(K:Frag)(G:Hp)(w:OW)(H:Hp):Prop:=∀a o,w a=some o->G a=none/\OwnAt K G H a o
def SL(K:Frag)(G:Hp)(e:List (Option Val))(σ:St):Prop:=e.length=σ.length/\∀(i:Nat) (v:Val),e[i]? = some (some v)->∃x,σ[i]? = some (some x)/\VR K G v x
structure Rel(K:Frag)(G:Hp)(s:DS)(σ:St)(H:Hp):Prop where
 sub:Same G H
 own:OwnOk K G s.w H
 sl:SL K G s.e σ
section
variable {K:Frag}{G G' H H':Hp}{s:DS}{σ:St}
theorem VR.same(e:Same G G'):∀{v:Val}{x:V},VR K G v x->VR K G' v x
 | .d _,_,h=>DW.same e h
 | .own _,_,h=>h
 | .raw _,_,h=>h
 | .scr _,_,⟨a,h1,h2⟩=>⟨a,h1,e.seq h2⟩
theorem SL.same{e:List (Option Val)}(q:Same G G')(h:SL K G e σ):SL K G' e σ:=⟨h.1,λi v z=>by
 obtain⟨x,h1,h2⟩:=h.2 i v z
 exact⟨x,h1,h2.same q⟩⟩
theorem SL.set{e:List (Option Val)}{v:Val}{x:V}(h:SL K G e σ)(r:VR K G v x)(i:Nat):SL K G (e.set i (some v)) (σ.set i (some x)):=by
 refine⟨by simp[h.1],λj u z=>?_⟩
 by_cases hj:i=j
 ·subst hj
  have hl:i<e.length:=by
   have:=(zZ.mp z).1
   simpa using this
  rw[wA hl]at z
  cases z
  exact⟨x,by rw[wA (by rw[<- h.1];exact hl)],r⟩
 ·rw[wB hj]at z |-
  exact h.2 j u z
theorem OwnAt.there{a:Addr}:∀{o:Own},OwnAt K G H a o->∃u,H a=some u
 | .lst _,⟨xs,h,_⟩=>⟨_,h⟩
 | .urn _,⟨_,_,_,h,_⟩=>⟨_,h⟩
 | .dct _,⟨ks,h,_⟩=>⟨_,h⟩
 | .tab _ _ _ _,⟨ps,h,_⟩=>⟨_,h⟩
theorem OwnAt.mono{a:Addr}(e:Same G G')(q:H' a=H a):∀{o:Own},OwnAt K G H a o->OwnAt K G' H' a o
 | .lst _,⟨xs,h,d⟩=>⟨xs,q▸h,d.same e⟩
 | .urn _,⟨g,c,n,h,r⟩=>⟨g,c,n,q▸h,r⟩
 | .dct _,⟨ks,h,d⟩=>⟨ks,q▸h,DWk.same e d⟩
 | .tab _ _ _ _,⟨ps,h,d⟩=>⟨ps,q▸h,d.imp_right λ⟨k,oc,u,vs,n,h1,h2,h3,h4⟩=>⟨k,oc,u,vs,n,h1,h2,e _ _ h3,h4⟩⟩
theorem Rel.free(r:Rel K G s σ H){p:Addr}(h:H p=none):s.w p=none:=by
 cases e:s.w p with
 | none=>rfl
 | some o=>
  obtain⟨u,hu⟩:=(r.own p o e).2.there
  rw[h]at hu;cases hu
theorem OwnOk.mono{w:OW}(h:OwnOk K G w H)(e:Same G G')(k:∀a o,w a=some o->G' a=none/\H' a=H a):OwnOk K G' w H':=λa o q=>⟨(k a o q).1,(h a o q).2.mono e (k a o q).2⟩
theorem Rel.new(r:Rel K G s σ H){p:Addr}(h:H p=none)(o:HO):Rel K (upd G p o) s σ (upd H p o):=by
 have hg:G p=none:=r.sub.free h
 refine⟨λb u q=>?_,r.own.mono (Zcf hg o) λa u q=>?_,r.sl.same (Zcf hg o)⟩
 ·by_cases z:b=p
  ·subst z;rw[Zb2]at q |-;exact q
  ·rw[Zb3 z]at q |-;exact r.sub _ _ q
 ·have na:a≠p:=λz=>by
   obtain⟨v,hv⟩:=(r.own a u q).2.there
   rw[z,h]at hv;cases hv
  exact⟨by rw[Zb3 na];exact(r.own a u q).1,Zb3 na⟩
theorem Rel.newOwn(r:Rel K G s σ H){p:Addr}(h:H p=none){o:HO}{u:Own}(at':OwnAt K G (upd H p o) p u):Rel K G (s.put p u) σ (upd H p o):=by
 refine⟨λb v q=>?_,λa v q=>?_,r.sl⟩
 ·have nb:b≠p:=λz=>by rw[z]at q;rw[r.sub.free h]at q;cases q
  rw[Zb3 nb];exact r.sub _ _ q
 ·by_cases z:a=p
  ·subst z
   have q':s.w.put a u a=some v:=q
   rw[OW.put_same]at q';cases q'
   exact⟨r.sub.free h,at'⟩
  ·have q':s.w.put p u a=some v:=q
   rw[OW.put_ne z]at q'
   exact⟨(r.own a v q').1,(r.own a v q').2.mono (Same.refl G) (Zb3 z)⟩
theorem Rel.chg(r:Rel K G s σ H){p:Addr}{o0:Own}(h:s.w p=some o0){o:HO}{u:Own}(at':OwnAt K G (upd H p o) p u):Rel K G (s.put p u) σ (upd H p o):=by
 refine⟨λb v q=>?_,λa v q=>?_,r.sl⟩
 ·have nb:b≠p:=λz=>by rw[z]at q;rw[(r.own p o0 h).1]at q;cases q
  rw[Zb3 nb];exact r.sub _ _ q
 ·by_cases z:a=p
  ·subst z
   have q':s.w.put a u a=some v:=q
   rw[OW.put_same]at q';cases q'
   exact⟨(r.own a o0 h).1,at'⟩
  ·have q':s.w.put p u a=some v:=q
   rw[OW.put_ne z]at q'
   exact⟨(r.own a v q').1,(r.own a v q').2.mono (Same.refl G) (Zb3 z)⟩
theorem Rel.set(r:Rel K G s σ H){v:Val}{x:V}(q:VR K G v x)(i:Nat):Rel K G (s.set i v) (σ.set i (some x)) H:=⟨r.sub,r.own,r.sl.set q i⟩
theorem Rel.env(r:Rel K G s σ H){e:List (Option Val)}{σ':St}(q:SL K G e σ'):Rel K G ⟨e,s.w⟩ σ' H:=⟨r.sub,r.own,q⟩
theorem SL.capt{e:List (Option Val)}(h:SL K G e σ)(cap:List (Option Nat)):SL K G (cap.map λo=>o.bind λj=>(e[j]?).join) (capt cap σ):=by
 refine⟨by simp[L2.capt],λi v z=>?_⟩
 rw[vH]at z
 cases q:cap[i]? with
 | none=>rw[q]at z;cases z
 | some o=>
  rw[q]at z
  simp only[uS,xL]at z
  cases o with
  | none=>cases z
  | some j=>
   simp only[bind_some]at z
   have z':e[j]? = some (some v):=by
    cases q2:e[j]? with
    | none=>rw[q2]at z;cases z
    | some u=>rw[q2]at z;simp at z;rw[z]
   obtain⟨x,h1,h2⟩:=h.2 j v z'
   refine⟨x,?_,h2⟩
   unfold L2.capt
   rw[vH,q]
   simp[h1]
end
def captD(cap:List (Option Nat))(e:List (Option Val)):List (Option Val):=cap.map λo=>o.bind λj=>(e[j]?).join
abbrev DK:=Val->DS->Prop
abbrev DTE:=DS->DK->Prop
abbrev DTT:=DS->(Bool->DS->Prop)->Prop
abbrev DTA:=DS->(List Val->DS->Prop)->Prop
abbrev DTI:=DS->(List PyData×(OW->Prop)->DS->Prop)->Prop
abbrev DTG:=Val->DS->(DS->Prop)->Prop
abbrev DTL:=List PyData->DS->(List PyData->DS->Prop)->Prop
def Po(K:Frag)(G:Hp)(σ:St)(Q:VK):DK:=λv s=>∀G' H' x,Same G G'->Rel K G' s σ H'->VR K G' v x->Q x H'
def PoT(K:Frag)(G:Hp)(σ:St)(Q:Bool->Hp->Prop):Bool->DS->Prop:=λb s=>∀G' H',Same G G'->Rel K G' s σ H'->Q b H'
inductive VRs(K:Frag)(G:Hp):List Val->List V->Prop
 | nil:VRs K G [] []
 | cons {v x vs xs}:VR K G v x->VRs K G vs xs->VRs K G (v::vs) (x::xs)
theorem VRs.same{K:Frag}{G G':Hp}(e:Same G G'):∀{vs:List Val}{xs:List V},VRs K G vs xs->VRs K G' vs xs
 | _,_,.nil=>.nil
 | _,_,.cons h t=>.cons (h.same e) (VRs.same e t)
theorem VRs.length{K:Frag}{G:Hp}:∀{vs:List Val}{xs:List V},VRs K G vs xs->vs.length=xs.length
 | _,_,.nil=>rfl
 | _,_,.cons h t=>by rw[yP,yP,VRs.length t]
def PoA(K:Frag)(G:Hp)(σ:St)(Q:List V->Hp->Prop):List Val->DS->Prop:=λvs s=>∀G' H' xs,Same G G'->Rel K G' s σ H'->VRs K G' vs xs->Q xs H'
def Mo{α:Type}(d:DS->(α->DS->Prop)->Prop):Prop:=∀s Q Q',(∀v s',Q v s'->Q' v s')->d s Q->d s Q'
structure RE(K:Frag)(t:TE)(d:DTE):Prop where
 mo:Mo d
 ok:∀G s σ H Q,Rel K G s σ H->d s (Po K G σ Q)->t σ H Q
structure RT(K:Frag)(t:TT)(d:DTT):Prop where
 mo:Mo d
 ok:∀G s σ H Q,Rel K G s σ H->d s (PoT K G σ Q)->t σ H Q
structure RA(K:Frag)(t:TA)(d:DTA):Prop where
 mo:Mo d
 ok:∀G s σ H Q,Rel K G s σ H->d s (PoA K G σ Q)->t σ H Q
structure DEnds where
 nx:DS->Prop
 rt:DK
 bk:DS->Prop:=λ_=>False
 ct:DS->Prop:=λ_=>False
abbrev DTS:=DEnds->DS->Prop
structure PoS(K:Frag)(G:Hp)(D:Ends)(E:DEnds):Prop where
 nx:∀s' G' σ' H',Same G G'->Rel K G' s' σ' H'->E.nx s'->D.nx σ' H'
 rt:∀v s' G' σ' H' x,Same G G'->Rel K G' s' σ' H'->VR K G' v x->E.rt v s'->D.rt x H'
 bk:∀s' G' σ' H',Same G G'->Rel K G' s' σ' H'->E.bk s'->D.bk σ' H'
 ct:∀s' G' σ' H',Same G G'->Rel K G' s' σ' H'->E.ct s'->D.ct σ' H'
theorem PoS.same{K:Frag}{G G':Hp}{D:Ends}{E:DEnds}(h:PoS K G D E)(e:Same G G'):PoS K G' D E:=
 ⟨λs' G2 σ' H' q=>h.nx s' G2 σ' H' (e.trans q),λv s' G2 σ' H' x q=>h.rt v s' G2 σ' H' x (e.trans q),λs' G2 σ' H' q=>h.bk s' G2 σ' H' (e.trans q),λs' G2 σ' H' q=>h.ct s' G2 σ' H' (e.trans q)⟩
def RS(K:Frag)(t:TS)(d:DTS):Prop:=∀G s σ H D E,Rel K G s σ H->PoS K G D E->d E s->t D σ H
structure RG(K:Frag)(g:TG)(d:DTG):Prop where
 mo:∀v s (Q Q':DS->Prop),(∀s',Q s'->Q' s')->d v s Q->d v s Q'
 ok:∀G s σ H v x Q,Rel K G s σ H->VR K G v x->d v s (λs'=>∀G' σ' H',Same G G'->Rel K G' s' σ' H'->Q σ' H')->g x σ H Q
def JOk(K:Frag)(J:It)(G0:Hp)(P:OW->Prop)(ds:List PyData):Prop:=∀G s σ H i,Same G0 G->P s.w->Rel K G s σ H ->
 (∀d,ds[i]? = some d->J.go i H/\∀x H',J.yld i H x H'->∃G',Same G G'/\Rel K G' s σ H'/\DW K G' d x)/\(ds.length≤i->J.stop i H)
structure RI(K:Frag)(t:TI)(d:DTI):Prop where
 mo:Mo d
 ok:∀G s σ H (R:It->Hp->Prop),Rel K G s σ H->d s (λds s'=>∀G' H' J,Same G G'->Rel K G' s' σ H'->JOk K J G' ds.2 ds.1->R J H')->t σ H R
structure RL(K:Frag)(t:TL)(d:DTL):Prop where
 mo:∀acc s (Q Q':List PyData->DS->Prop),(∀v s',Q v s'->Q' v s')->d acc s Q->d acc s Q'
 ok:∀G s σ H acc ys (Q:LK),Rel K G s σ H->DWs K G acc ys->acc.length<sizeLine->d acc s (λacc' s'=>∀G' σ' H' ys',Same G G'->Rel K G' s' σ' H'->DWs K G' acc' ys'->Q ys' σ' H')->t ys σ H Q
section
variable {K:Frag}{G G' H H':Hp}{s:DS}{σ:St}
theorem Po.same{Q:VK}{v:Val}(h:Po K G σ Q v s)(e:Same G G'):Po K G' σ Q v s:=λG2 H2 x e2=>h G2 H2 x (e.trans e2)
theorem PoT.same{Q:Bool->Hp->Prop}{v:Bool}(h:PoT K G σ Q v s)(e:Same G G'):PoT K G' σ Q v s:=λG2 H2 e2=>h G2 H2 (e.trans e2)
theorem PoA.same{Q:List V->Hp->Prop}{v:List Val}(h:PoA K G σ Q v s)(e:Same G G'):PoA K G' σ Q v s:=λG2 H2 x e2=>h G2 H2 x (e.trans e2)
theorem Po.here{Q:VK}{v:Val}{x:V}(h:Po K G σ Q v s)(r:Rel K G s σ H)(q:VR K G v x):Q x H:=h G H x (Same.refl G) r q
theorem Zea{i:Int}:VR K G (.d (.int i)) (.int i):=by unfold VR;exact DW.int
theorem Zft{i:Bool}:VR K G (.d (.bool i)) (.bl i):=by unfold VR;exact DW.bool
theorem Zsy{i:Str}:VR K G (.d (.str i)) (.str i):=by unfold VR;exact DW.str
theorem Zll:VR K G (.d .none) .non:=by unfold VR;exact DW.none
theorem Zcg{i:Int}{x:V}(h:VR K G (.d (.int i)) x):x=.int i:=by unfold VR at h;exact DW.int_inv h
theorem Zkg{i:Bool}{x:V}(h:VR K G (.d (.bool i)) x):x=.bl i:=by unfold VR at h;exact DW.bool_inv h
theorem Zjo{i:Str}{x:V}(h:VR K G (.d (.str i)) x):x=.str i:=by unfold VR at h;exact DW.str_inv h
theorem Ziu{ds:List PyData}{v:V}(h:VR K G (.d (.list ds)) v):∃a xs,v=.ref a/\G a=some (.lst xs)/\DWs K G ds xs:=by unfold VR at h;exact DW.list_inv h
theorem Zjp{ds:List PyData}{v:V}(h:VR K G (.d (.tuple ds)) v):∃a xs,v=.ref a/\SqT K G a xs/\DWs K G ds xs:=by unfold VR at h;exact DW.tup_inv h
def dVar(i:Nat):DTE:=λs k=>match s.e[i]? with|some (some v)=>k v s|_=>False
theorem Za2(i:Nat):RE K (tVar i) (dVar i):=by
 refine⟨λs Q Q' h q=>?_,λG s σ H Q r h=>?_⟩
 ·unfold dVar at q |-
  split at q
  ·exact h _ _ q
  ·exact q.elim
 ·unfold dVar at h
  split at h
  ·next v e=>
   obtain⟨x,h1,h2⟩:=r.sl.2 i v e
   exact⟨x,h1,h.here r h2⟩
  ·exact h.elim
def dC(v:Val):DTE:=λs k=>k v s
theorem re_c{v:Val}{x:V}(h:∀G,VR K G v x):RE K (tC x) (dC v):=⟨λs Q Q' h q=>h _ _ q,λG s σ H Q r q=>Po.here q r (h G)⟩
theorem Zap{i:Int}:RE K (tC (.int i)) (dC (.d (.int i))):=re_c λ_=>Zea
theorem Zes{i:Bool}:RE K (tC (.bl i)) (dC (.d (.bool i))):=re_c λ_=>Zft
theorem Zdd{i:Str}:RE K (tC (.str i)) (dC (.d (.str i))):=re_c λ_=>Zsy
theorem Zjk:RE K (tC .non) (dC (.d .none)):=re_c λ_=>Zll
theorem Zle{n:String}:RE K (tC (.ty n)) (dC (.raw (.ty n))):=re_c λ_=>rfl
structure RO(K:Frag)(r:R2)(f:Val->Val->DTE):Prop where
 mo:∀v w,Mo (f v w)
 ok:∀G s σ H x y v w Q,Rel K G s σ H->VR K G v x->VR K G w y->f v w s (Po K G σ Q)->r x y H Q
def dOp(f:Val->Val->DTE)(da db:DTE):DTE:=λs k=>da s λv s1=>db s1 λw s2=>f v w s2 k
theorem Zal{r:R2}{f:Val->Val->DTE}{ta tb:TE}{da db:DTE}(ho:RO K r f)(ha:RE K ta da)(hb:RE K tb db):RE K (tOp r ta tb) (dOp f da db):=by
 refine⟨λs Q Q' h q=>ha.mo _ _ _ (λv s1 q1=>hb.mo _ _ _ (λw s2 q2=>ho.mo v w _ _ _ h q2) q1) q,λG s σ H Q r h=>?_⟩
 refine ha.ok G s σ H _ r (ha.mo _ _ _ (λv s1 q G1 H1 x e1 r1 v1=>?_) h)
 refine hb.ok G1 s1 σ H1 _ r1 (hb.mo _ _ _ (λw s2 q2 G2 H2 y e2 r2 v2=>?_) q)
 exact ho.ok G2 s2 σ H2 x y v w Q r2 (v1.same e2) v2 (ho.mo v w _ _ _ (λu s3 q3=>q3.same (e1.trans e2)) q2)
structure RU(K:Frag)(r:V->Hp->VK->Prop)(f:Val->DTE):Prop where
 mo:∀v,Mo (f v)
 ok:∀G s σ H x v Q,Rel K G s σ H->VR K G v x->f v s (Po K G σ Q)->r x H Q
def dUn(f:Val->DTE)(da:DTE):DTE:=λs k=>da s λv s1=>f v s1 k
theorem Zvw{r:V->Hp->VK->Prop}{f:Val->DTE}{ta:TE}{da:DTE}(ho:RU K r f)(ha:RE K ta da):RE K (tUn r ta) (dUn f da):=by
 refine⟨λs Q Q' h q=>ha.mo _ _ _ (λv s1 q1=>ho.mo v _ _ _ h q1) q,λG s σ H Q r h=>?_⟩
 refine ha.ok G s σ H _ r (ha.mo _ _ _ (λv s1 q G1 H1 x e1 r1 v1=>?_) h)
 exact ho.ok G1 s1 σ H1 x v Q r1 v1 (ho.mo v _ _ _ (λu s3 q3=>q3.same e1) q)
def fU(g:Int->Int):Val->DTE:=λv s k=>match v with | .d (.int i)=>k (.d (.int (g i))) s|_=>False
theorem ru_I{g:Int->Int}:RU K (rU λi=>.int (g i)) (fU g):=by
 refine⟨λv s Q Q' h q=>?_,λG s σ H x v Q r v1 h=>?_⟩
 ·unfold fU at q |-;split at q
  ·exact h _ _ q
  ·exact q.elim
 ·unfold fU at h;split at h
  ·next i=>exact⟨i,Zcg v1,h.here r Zea⟩
  ·exact h.elim
def fI(C:Int->Int->Prop)(g:Int->Int->Int):Val->Val->DTE:=λv w s k=>match v,w with | .d (.int i),.d (.int j)=>C i j/\k (.d (.int (g i j))) s|_,_=>False
def fI0(g:Int->Int->Int):Val->Val->DTE:=λv w s k=>match v,w with | .d (.int i),.d (.int j)=>k (.d (.int (g i j))) s|_,_=>False
def fB0(g:Int->Int->Bool):Val->Val->DTE:=λv w s k=>match v,w with | .d (.int i),.d (.int j)=>k (.d (.bool (g i j))) s|_,_=>False
theorem ro_I{C:Int->Int->Prop}{g:Int->Int->Int}:RO K (rI C λi j=>.int (g i j)) (fI C g):=by
 refine⟨λv w s Q Q' h q=>?_,λG s σ H x y v w Q r v1 v2 h=>?_⟩
 ·unfold fI at q |-;split at q
  ·exact⟨q.1,h _ _ q.2⟩
  ·exact q.elim
 ·unfold fI at h;split at h
  ·next i j=>exact⟨i,j,Zcg v1,Zcg v2,h.1,h.2.here r Zea⟩
  ·exact h.elim
theorem Zeu{g:Int->Int->Int}:RO K (rI0 λi j=>.int (g i j)) (fI0 g):=by
 refine⟨λv w s Q Q' h q=>?_,λG s σ H x y v w Q r v1 v2 h=>?_⟩
 ·unfold fI0 at q |-;split at q
  ·exact h _ _ q
  ·exact q.elim
 ·unfold fI0 at h;split at h
  ·next i j=>exact⟨i,j,Zcg v1,Zcg v2,h.here r Zea⟩
  ·exact h.elim
theorem Zhs{g:Int->Int->Bool}:RO K (rI0 λi j=>.bl (g i j)) (fB0 g):=by
 refine⟨λv w s Q Q' h q=>?_,λG s σ H x y v w Q r v1 v2 h=>?_⟩
 ·unfold fB0 at q |-;split at q
  ·exact h _ _ q
  ·exact q.elim
 ·unfold fB0 at h;split at h
  ·next i j=>exact⟨i,j,Zcg v1,Zcg v2,h.here r Zft⟩
  ·exact h.elim
def fEq(neg:Bool):Val->Val->DTE:=λv w s k=>match v,w with
 | .d (.int i),.d (.int j)=>k (.d (.bool (if neg then !decide (i=j) else decide (i=j)))) s
 | .d (.str i),.d (.str j)=>k (.d (.bool (if neg then !decide (i=j) else decide (i=j)))) s
 | _,_=>False
theorem Zsj(neg:Bool)(v w:Val):Mo (fEq neg v w):=by
 intro s Q Q' h q
 unfold fEq at q |-;split at q
 ·exact h _ _ q
 ·exact h _ _ q
 ·exact q.elim
theorem Zmt{i j:Int}:decide (V.int i=V.int j)=decide (i=j):=by simp
theorem Zmu{i j:Str}:decide (V.str i=V.str j)=decide (i=j):=by simp
theorem Zhc:RO K rEq (fEq false):=by
 refine⟨Zsj false,λG s σ H x y v w Q r v1 v2 h=>?_⟩
 unfold fEq at h;split at h
 ·next i j=>
  rw[Zcg v1,Zcg v2]
  exact⟨rfl,by rw[Zmt];exact h.here r Zft⟩
 ·next i j=>
  rw[Zjo v1,Zjo v2]
  exact⟨rfl,by rw[Zmu];exact h.here r Zft⟩
 ·exact h.elim
theorem Zmi:RO K rNe (fEq true):=by
 refine⟨Zsj true,λG s σ H x y v w Q r v1 v2 h=>?_⟩
 unfold fEq at h;split at h
 ·next i j=>
  rw[Zcg v1,Zcg v2]
  exact⟨rfl,by rw[Zmt];exact h.here r Zft⟩
 ·next i j=>
  rw[Zjo v1,Zjo v2]
  exact⟨rfl,by rw[Zmu];exact h.here r Zft⟩
 ·exact h.elim
def rdL(w:OW):Val->Option (List PyData)
 | .d (.list ds)=>some ds
 | .own a=>match w a with|some (.lst ds)=>some ds|_=>none
 | .scr ns=>some (ns.map .int)
 | _=>none
def rdT:Val->Option (List PyData)
 | .d (.tuple ds)=>some ds
 | _=>none
def rdA(w:OW)(v:Val):Option (List PyData):=match rdT v with|some ds=>some ds|none=>rdL w v
theorem Rel.rdL(r:Rel K G s σ H){v:Val}{x:V}{ds:List PyData}(q:VR K G v x)(h:L2.rdL s.w v=some ds):∃a xs,x=.ref a/\SqL K H a xs/\DWs K G ds xs:=by
 unfold L2.rdL at h
 split at h
 ·cases h
  obtain⟨a,xs,rfl,h1,h2⟩:=Ziu q
  exact⟨a,xs,rfl,SqL.of (r.sub _ _ h1),h2⟩
 ·next a=>
  cases (show x=.ref a from q)
  split at h
  ·next z=>
   cases h
   obtain⟨_,xs,h1,h2⟩:=r.own a _ z
   exact⟨a,xs,rfl,SqL.of h1,h2⟩
  ·cases h
 ·next ns=>
  cases h
  obtain⟨a,e,h1⟩:=q
  exact⟨a,_,e,r.sub.seq h1,DWs.ints ns⟩
 ·cases h
theorem Rel.rdT(r:Rel K G s σ H){v:Val}{x:V}{ds:List PyData}(q:VR K G v x)(h:L2.rdT v=some ds):∃a xs,x=.ref a/\SqT K H a xs/\DWs K G ds xs:=by
 unfold L2.rdT at h
 split at h
 ·cases h
  obtain⟨a,xs,rfl,h1,h2⟩:=Zjp q
  exact⟨a,xs,rfl,r.sub.tup h1,h2⟩
 ·cases h
theorem Rel.rdA(r:Rel K G s σ H){v:Val}{x:V}{ds:List PyData}(q:VR K G v x)(h:L2.rdA s.w v=some ds):∃a xs,x=.ref a/\(SqL K H a xs\/SqT K H a xs)/\DWs K G ds xs:=by
 unfold L2.rdA at h
 split at h
 ·next z=>
  cases h
  obtain⟨a,xs,e,h1,h2⟩:=r.rdT q z
  exact⟨a,xs,e,.inr h1,h2⟩
 ·obtain⟨a,xs,e,h1,h2⟩:=r.rdL q h
  exact⟨a,xs,e,.inl h1,h2⟩
def rdD(w:OW)(v:Val):Option PyData:=match v with | .d x=>some x | .own a=>(match w a with|some (.lst ds)=>some (.list ds)|_=>none)|_=>none
theorem Rel.rdD(r:Rel K G s σ H){v:Val}{x:V}{d:PyData}(q:VR K G v x)(h:L2.rdD s.w v=some d)(n:d.hasDict=false):DV K H d x:=by
 unfold L2.rdD at h
 split at h
 ·cases h;exact DW.dv r.sub n q
 ·next a=>
  split at h
  ·next z=>
   cases h
   cases (show x=.ref a from q)
   obtain⟨_,xs,h1,h2⟩:=r.own a _ z
   exact DV.list (SqL.of h1) (DWs.dv r.sub (by simpa[PyData.hasDict]using n) h2)
  ·cases h
 ·cases h
def fEqD(neg:Bool):Val->Val->DTE:=λv w s k=>match rdD s.w v,rdD s.w w with
 | some x,some y=>(x.hasDict=false/\y.hasDict=false/\SeqAt.shaped x=true/\SeqAt.shaped y=true)/\k (.d (.bool (if neg then !PyData.eqv x y else PyData.eqv x y))) s
 | _,_=>False
theorem Zq9{neg:Bool}:RO K (rEqD K neg) (fEqD neg):=by
 refine⟨λv w s Q Q' h q=>?_,λG s σ H x y v w Q r v1 v2 h=>?_⟩
 ·unfold fEqD at q |-;split at q
  ·exact⟨q.1,h _ _ q.2⟩
  ·exact q.elim
 ·unfold fEqD at h;split at h
  ·next a b e1 e2=>
   obtain⟨⟨n1,n2,s1,s2⟩,h⟩:=h
   exact⟨a,b,r.rdD v1 e1 n1,r.rdD v2 e2 n2,s1,s2,h.here r Zft⟩
  ·exact h.elim
def fInD(neg:Bool):Val->Val->DTE:=λv w s k=>match rdD s.w v,rdA s.w w with
 | some x,some ds=>(x.hasDict=false/\PyData.hasDictAll ds=false/\x.canLay0=true/\PyData.canLayAll0 ds=true/\x.depth≤30)/\k (.d (.bool (if neg then !ds.any (λy=>PyData.eqv y x) else ds.any (λy=>PyData.eqv y x)))) s
 | _,_=>False
theorem Zlf{neg:Bool}:RO K (rInD K neg) (fInD neg):=by
 refine⟨λv w s Q Q' h q=>?_,λG s σ H x y v w Q r v1 v2 h=>?_⟩
 ·unfold fInD at q |-;split at q
  ·exact⟨q.1,h _ _ q.2⟩
  ·exact q.elim
 ·unfold fInD at h;split at h
  ·next a ds e1 e2=>
   obtain⟨⟨n1,n2,s1,s2,s3⟩,h⟩:=h
   obtain⟨p,ys,rfl,h1,h2⟩:=r.rdA v2 e2
   exact⟨a,ds,p,ys,r.rdD v1 e1 n1,rfl,h1,DWs.dv r.sub n2 h2,s1,s2,s3,h.here r Zft⟩
  ·exact h.elim
theorem DWs.atI{ds:List PyData}{xs:List V}{i:Int}{d:PyData}(h:DWs K G ds xs)(e:L2.atI ds i=some d):∃x,L2.atI xs i=some x/\DW K G d x:=by
 unfold L2.atI at e |-
 rw[h.length]at e
 cases q:ixN xs.length i with
 | none=>rw[q]at e;cases e
 | some j=>
  rw[q]at e
  obtain⟨x,h1,h2⟩:=h.get' (i:=j) (d:=d) e
  exact⟨x,h1,h2⟩
def fIxL:Val->Val->DTE:=λv w s k=>match rdL s.w v,w with
 | some ds,.d (.int i)=>∃d,atI ds i=some d/\k (.d d) s
 | _,_=>False
def fIxT:Val->Val->DTE:=λv w s k=>match rdT v,w with
 | some ds,.d (.int i)=>∃d,atI ds i=some d/\k (.d d) s
 | _,_=>False
theorem Zfq:RO K (rIxL K) fIxL:=by
 refine⟨λv w s Q Q' h q=>?_,λG s σ H x y v w Q r v1 v2 h=>?_⟩
 ·unfold fIxL at q |-;split at q
  ·obtain⟨d,e,q⟩:=q;exact⟨d,e,h _ _ q⟩
  ·exact q.elim
 ·unfold fIxL at h;split at h
  ·next ds i e1=>
   obtain⟨d,e,h⟩:=h
   obtain⟨p,ys,rfl,h1,h2⟩:=r.rdL v1 e1
   obtain⟨z,h3,h4⟩:=h2.atI e
   exact⟨p,ys,i,z,rfl,Zcg v2,h1,h3,h.here r h4⟩
  ·exact h.elim
theorem Zbi:RO K (rIxT K) fIxT:=by
 refine⟨λv w s Q Q' h q=>?_,λG s σ H x y v w Q r v1 v2 h=>?_⟩
 ·unfold fIxT at q |-;split at q
  ·obtain⟨d,e,q⟩:=q;exact⟨d,e,h _ _ q⟩
  ·exact q.elim
 ·unfold fIxT at h;split at h
  ·next ds i e1=>
   obtain⟨d,e,h⟩:=h
   obtain⟨p,ys,rfl,h1,h2⟩:=r.rdT v1 e1
   obtain⟨z,h3,h4⟩:=h2.atI e
   exact⟨p,ys,i,z,rfl,Zcg v2,h1,h3,h.here r h4⟩
  ·exact h.elim
def nl(o:Bool)(ds:List PyData)(s:DS)(k:DK):Prop:=match o with
 | true=>∀p,s.w p=none->k (.own p) (s.put p (.lst ds))
 | false=>k (.d (.list ds)) s
theorem Zpr{o:Bool}{ds:List PyData}{s:DS}{k k':DK}(h:∀v s',k v s'->k' v s')(q:nl o ds s k):nl o ds s k':=by
 cases o
 ·exact h _ _ q
 ·exact λp hp=>h _ _ (q p hp)
theorem Rel.nl(r:Rel K G s σ H){o:Bool}{ds:List PyData}{xs:List V}{Q:VK}(D:DWs K G ds xs)(h:L2.nl o ds s (Po K G σ Q)):∀p,H p=none->Q (.ref p) (upd H p (.lst xs)):=by
 intro p hp
 have hg:G p=none:=r.sub.free hp
 have S:=Zcf hg (.lst xs)
 cases o
 ·exact h (upd G p (.lst xs)) (upd H p (.lst xs)) (.ref p) S (r.new hp _) (DW.list Zb2 (D.same S))
 ·exact h p (r.free hp) G (upd H p (.lst xs)) (.ref p) (Same.refl G) (r.newOwn hp ⟨xs,Zb2,D⟩) rfl
theorem Rel.nt(r:Rel K G s σ H){ds:List PyData}{xs:List V}{Q:VK}(D:DWs K G ds xs)(h:Po K G σ Q (.d (.tuple ds)) s):∀p,H p=none->Q (.ref p) (upd H p (.tup xs)):=by
 intro p hp
 have hg:G p=none:=r.sub.free hp
 have S:=Zcf hg (.tup xs)
 exact h (upd G p (.tup xs)) (upd H p (.tup xs)) (.ref p) S (r.new hp _) (DW.tup Zb2 (D.same S))
def rdM(w:OW):Val->Option (List PyData)
 | .d (.list ds)=>some ds
 | .own a=>match w a with|some (.lst ds)=>some ds|_=>none
 | _=>none
theorem Rel.rdM(r:Rel K G s σ H){v:Val}{x:V}{ds:List PyData}(q:VR K G v x)(h:L2.rdM s.w v=some ds):∃a xs,x=.ref a/\H a=some (.lst xs)/\DWs K G ds xs:=by
 unfold L2.rdM at h
 split at h
 ·cases h
  obtain⟨a,xs,rfl,h1,h2⟩:=Ziu q
  exact⟨a,xs,rfl,r.sub _ _ h1,h2⟩
 ·next a=>
  cases (show x=.ref a from q)
  split at h
  ·next z=>
   cases h
   obtain⟨_,xs,h1,h2⟩:=r.own a _ z
   exact⟨a,xs,rfl,h1,h2⟩
  ·cases h
 ·cases h
def fCat(o:Bool):Val->Val->DTE:=λv w s k=>match rdM s.w v,rdM s.w w with
 | some ds,some es=>ds.length+es.length≤sizeLine/\nl o (ds++es) s k
 | _,_=>False
theorem Zsu(o:Bool):RO K rCat (fCat o):=by
 refine⟨λv w s Q Q' h q=>?_,λG s σ H x y v w Q r v1 v2 h=>?_⟩
 ·unfold fCat at q |-;split at q
  ·exact⟨q.1,Zpr h q.2⟩
  ·exact q.elim
 ·unfold fCat at h;split at h
  ·next ds es e1 e2=>
   obtain⟨a,xs,rfl,h1,h2⟩:=r.rdM v1 e1
   obtain⟨b,ys,rfl,h3,h4⟩:=r.rdM v2 e2
   exact⟨a,b,xs,ys,rfl,rfl,h1,h3,by rw[<- h2.length,<- h4.length];exact h.1,r.nl (h2.append h4) h.2⟩
  ·exact h.elim
def repD(k:Nat)(ds:List PyData):List PyData:=(List.replicate k ds).flatten
theorem DWs.rep{ds:List PyData}{xs:List V}(h:DWs K G ds xs):∀k:Nat,DWs K G (repD k ds) (List.replicate k xs).flatten
 | 0=>DWs.nil
 | k+1=>by unfold repD;rw[uE,uE,uF,uF];exact DWs.append h (DWs.rep h k)
def fRep(o:Bool):Val->Val->DTE:=λv w s k=>match rdM s.w v,w with
 | some ds,.d (.int i)=>(-(2 ^ 63)≤i/\i<2 ^ 63/\ds.length*i.toNat≤sizeLine)/\nl o (repD i.toNat ds) s k
 | _,_=>False
def rCatW(K:Frag):R2:=λx y H Q=>∃a b xs ys,x=.ref a/\y=.ref b/\SqT K H a xs/\SqT K H b ys/\xs.length+ys.length≤sizeLine/\(xs=[]->Q (.ref b) H)/\(ys=[]->Q (.ref a) H)/\∀p,H p=none->Q (.ref p) (upd H p (.tup (xs++ys)))
theorem Zk3{X:Cx}:OpR X (binaryOp .Add) (rCatW X.K):=by
 rintro pins s σ H x y v u Q I rx ry ⟨a,b,xs,ys,rfl,rfl,h1,h2,hz,q1,q2,q3⟩
 cases (show v=Value.ref a from rx)
 cases (show u=Value.ref b from ry)
 obtain⟨us,ru,hu,_⟩:=I.tuple h1
 obtain⟨ws,rw',hw,_⟩:=I.tuple h2
 have lu:=ru.length
 have lw:=rw'.length
 by_cases e:us=[]
 ·subst e
  have ex:xs=[]:=by cases xs with|nil=>rfl|cons a r=>cases ru
  obtain⟨⟨cls,dd,data,sl⟩,ho,hc,n,hd⟩:=id hu
  obtain⟨⟨cls2,dd2,data2,sl2⟩,ho2,hc2,n2,hd2⟩:=id hw
  simp only at hc hd hc2 hd2
  subst hc hd hc2 hd2
  exact concat_meets ⟨_,ho,rfl⟩ ⟨_,ho2,rfl⟩ vL seq_tuple_add slot_tuple_add vM (vN _ _) (Zs3 a b _ ws.toArray n n2 dd dd2 sl sl2 rfl) ⟨ho,ho2,⟨.ref b,H,I,rfl,q1 ex⟩⟩
 ·refine HT.cat_tup hu hw e (λew=>⟨.ref a,H,I,rfl,q2 ?_⟩) (λew=>?_) (by omega)
  ·cases ys with|nil=>rfl|cons a r=>subst ew;cases rw'
  ·exact⟨.ref s.heap.objs.size,upd H s.heap.objs.size (.tup (xs++ys)),I.laid (t':=s.toks) (λb o e=>wQ _ e) (wR _) (show ObjOk X.prog X.w _ _ _ (.tup _) from⟨by rw[vJ];exact hz,_,ru.append rw',IsTu.new _ _⟩),rfl,q3 _ I.fresh⟩
theorem Zrc{X:Cx}(h:X.K=K):OpR X (binaryOp .Add) (rCatW K):=h▸Zk3
def fCatT:Val->Val->DTE:=λv w s k=>match rdT v,rdT w with
 | some ds,some es=>ds.length+es.length≤sizeLine/\k (.d (.tuple (ds++es))) s
 | _,_=>False
theorem Zld{v:Val}{ds:List PyData}(h:rdT v=some ds):v=.d (.tuple ds):=by
 unfold rdT at h;split at h<;>cases h;rfl
theorem DWs.nil_of{ds:List PyData}{xs:List V}(h:DWs K G ds xs)(e:xs=[]):ds=[]:=by
 have:=h.length
 rw[e]at this
 exact xM.mp this
theorem Zk7:RO K (rCatW K) fCatT:=by
 refine⟨λv w s Q Q' h q=>?_,λG s σ H x y v w Q r v1 v2 h=>?_⟩
 ·unfold fCatT at q |-;split at q
  ·exact⟨q.1,h _ _ q.2⟩
  ·exact q.elim
 ·unfold fCatT at h;split at h
  ·next ds es e1 e2=>
   obtain⟨a,xs,rfl,h1,h2⟩:=r.rdT v1 e1
   obtain⟨b,ys,rfl,h3,h4⟩:=r.rdT v2 e2
   refine⟨a,b,xs,ys,rfl,rfl,h1,h3,by rw[<- h2.length,<- h4.length];exact h.1,λe=>h.2.here r ?_,λe=>h.2.here r ?_,r.nt (h2.append h4) h.2⟩
   ·rw[h2.nil_of e,xN,<- Zld e2];exact v2
   ·rw[h4.nil_of e,wY,<- Zld e1];exact v1
  ·exact h.elim
def rSlTW(K:Frag):V->Option Int->Option Int->Hp->VK->Prop:=λx lo hi H Q=>∃a xs,x=.ref a/\SqT K H a xs/\(cutV xs lo hi=xs->Q (.ref a) H)/\∀p,H p=none->Q (.ref p) (upd H p (.tup (cutV xs lo hi)))
theorem Zkc{X:Cx}:SlR X (rSlTW X.K):=by
 intro pins s σ H x v vl vu lo hi sl Q I rx hs pl pu h
 obtain⟨a,xs,rfl,hx,q1,q2⟩:=h
 by_cases hw:HT.sIx xs.length 0 lo=0/\HT.sIx xs.length xs.length hi=xs.length
 ·cases rx
  obtain⟨its,r,ht,hz⟩:=I.tuple hx
  have hlen:its.toArray.size=xs.length:=by rw[wV];exact r.length.symm
  refine⟨"tuple",_,vV.lookup,ht.typeIs,?_⟩
  refine Zge ht hs pl pu (by rw[hlen];exact hw) ⟨.ref a,H,I,rfl,q1 ?_⟩
  unfold cutV;rw[hw.1,hw.2,drop_zero,sub_zero,yR]
 ·exact Zw2 pins s σ H _ v vl vu lo hi sl Q I rx hs pl pu ⟨a,xs,rfl,hx,hw,q2⟩
def cutD(xs:List PyData)(lo hi:Option Int):List PyData:=(xs.drop (HT.sIx xs.length 0 lo)).take (HT.sIx xs.length xs.length hi-HT.sIx xs.length 0 lo)
theorem DWs.cut{ds:List PyData}{xs:List V}(h:DWs K G ds xs)(lo hi:Option Int):DWs K G (cutD ds lo hi) (cutV xs lo hi):=by
 unfold cutD cutV;rw[h.length];exact(h.drop _).take _
structure RX(K:Frag)(t:TO)(d:DS->(Option Int->DS->Prop)->Prop):Prop where
 mo:Mo d
 ok:∀G s σ H (Q:Option Int->Hp->Prop),Rel K G s σ H->d s (λo s'=>∀G' H',Same G G'->Rel K G' s' σ H'->Q o H')->t σ H Q
def dNoP:DS->(Option Int->DS->Prop)->Prop:=λs k=>k none s
def dP(d:DTE):DS->(Option Int->DS->Prop)->Prop:=λs k=>d s λv s'=>match v with | .d (.int i)=>k (some i) s' | _=>False
theorem Zka:RX K tNoPart dNoP:=⟨λs Q Q' h q=>h _ _ q,λG s σ H Q r h=>h G H (Same.refl G) r⟩
theorem Zkb{t:TE}{d:DTE}(h:RE K t d):RX K (tPart t) (dP d):=by
 refine⟨λs Q Q' z q=>h.mo _ _ _ (λv s' q=>?_) q,λG s σ H Q r q=>h.ok G s σ H _ r (h.mo _ _ _ (λv s' q G' H' x e r' v'=>?_) q)⟩
 ·split at q
  ·exact z _ _ q
  ·exact q.elim
 ·split at q
  ·next i=>exact⟨i,Zcg v',q G' H' e r'⟩
  ·exact q.elim
structure RSl(K:Frag)(r:V->Option Int->Option Int->Hp->VK->Prop)(f:Val->Option Int->Option Int->DTE):Prop where
 mo:∀v lo hi,Mo (f v lo hi)
 ok:∀G s σ H x v lo hi Q,Rel K G s σ H->VR K G v x->f v lo hi s (Po K G σ Q)->r x lo hi H Q
def fSlT:Val->Option Int->Option Int->DTE:=λv lo hi s k=>match rdT v with|some ds=>k (.d (.tuple (cutD ds lo hi))) s|none=>False
def fSlL(o:Bool):Val->Option Int->Option Int->DTE:=λv lo hi s k=>match rdL s.w v with|some ds=>nl o (cutD ds lo hi) s k|none=>False
theorem Zrw:RSl K (rSlTW K) fSlT:=by
 refine⟨λv lo hi s Q Q' h q=>?_,λG s σ H x v lo hi Q r v1 h=>?_⟩
 ·unfold fSlT at q |-;split at q
  ·exact h _ _ q
  ·exact q.elim
 ·unfold fSlT at h;split at h
  ·next ds e=>
   obtain⟨a,xs,rfl,h1,h2⟩:=r.rdT v1 e
   refine⟨a,xs,rfl,h1,λz=>?_,r.nt (h2.cut lo hi) h⟩
   have v1':VR K G (.d (.tuple ds)) (.ref a):=by rw[<- Zld e];exact v1
   have e2:cutD ds lo hi=ds:=by
    have hc:=h2.cut lo hi
    rw[z]at hc
    have hl:(cutD ds lo hi).length=ds.length:=by rw[hc.length,h2.length]
    unfold cutD at hl |-
    rw[vE,vS]at hl
    by_cases h0:HT.sIx ds.length 0 lo=0
    ·rw[h0,sub_zero]at hl |-
     rw[drop_zero]
     exact xO (by omega)
    ·have:ds.length=0:=by omega
     rw[xM.mp this];simp
   exact h.here r (by rw[e2];exact v1')
  ·exact h.elim
def dSl(f:Val->Option Int->Option Int->DTE)(de:DTE)(dl dh:DS->(Option Int->DS->Prop)->Prop):DTE:=λs k=>de s λv s1=>dl s1 λl s2=>dh s2 λu s3=>f v l u s3 k
theorem Zrs{r:V->Option Int->Option Int->Hp->VK->Prop}{f:Val->Option Int->Option Int->DTE}{te:TE}{tl th:TO}{de:DTE}{dl dh:DS->(Option Int->DS->Prop)->Prop}(hr:RSl K r f)(he:RE K te de)(hl:RX K tl dl)(hh:RX K th dh):RE K (tSl r te tl th) (dSl f de dl dh):=by
 refine⟨λs Q Q' h q=>he.mo _ _ _ (λv s1 q1=>hl.mo _ _ _ (λl s2 q2=>hh.mo _ _ _ (λu s3 q3=>hr.mo v l u _ _ _ h q3) q2) q1) q,λG s σ H Q r h=>?_⟩
 refine he.ok G s σ H _ r (he.mo _ _ _ (λv s1 q G1 H1 x e1 r1 v1=>?_) h)
 refine hl.ok G1 s1 σ H1 _ r1 (hl.mo _ _ _ (λl s2 q2 G2 H2 e2 r2=>?_) q)
 refine hh.ok G2 s2 σ H2 _ r2 (hh.mo _ _ _ (λu s3 q3 G3 H3 e3 r3=>?_) q2)
 exact hr.ok G3 s3 σ H3 x v l u Q r3 (v1.same (e2.trans e3)) (hr.mo v l u _ _ _ (λz s4 q4=>q4.same ((e1.trans e2).trans e3)) q3)
def dRev(o:Bool)(de:DTE):DTE:=λs k=>de s λv s1=>match rdL s1.w v with|some ds=>nl o ds.reverse s1 k|none=>False
def dNil:DTA:=λs k=>k [] s
def dCons(de:DTE)(da:DTA):DTA:=λs k=>de s λv s1=>da s1 λvs s2=>k (v::vs) s2
theorem Za6:RA K tNil dNil:=⟨λs Q Q' h q=>h _ _ q,λG s σ H Q r h=>h G H [] (Same.refl G) r .nil⟩
theorem Za1{te:TE}{t:TA}{de:DTE}{da:DTA}(he:RE K te de)(ha:RA K t da):RA K (tCons te t) (dCons de da):=by
 refine⟨λs Q Q' h q=>he.mo _ _ _ (λv s1 q1=>ha.mo _ _ _ (λvs s2 q2=>h _ _ q2) q1) q,λG s σ H Q r h=>?_⟩
 refine he.ok G s σ H _ r (he.mo _ _ _ (λv s1 q G1 H1 x e1 r1 v1=>?_) h)
 exact ha.ok G1 s1 σ H1 _ r1 (ha.mo _ _ _ (λvs s2 q2 G2 H2 xs e2 r2 v2=>q2 G2 H2 _ (e1.trans e2) r2 (.cons (v1.same e2) v2)) q)
def unD:List Val->Option (List PyData)
 | []=>some []
 | .d x::r=>(unD r).map (x::·)
 | _::_=>none
theorem Zqm:∀{vs:List Val}{ds:List PyData}{xs:List V},unD vs=some ds->VRs K G vs xs->DWs K G ds xs
 | [],_,_,e,.nil=>by cases e;exact DWs.nil
 | .d x::r,ds,_,e,.cons h t=>by
  simp only[unD]at e
  cases q:unD r with
  | none=>rw[q]at e;cases e
  | some es=>rw[q]at e;cases e;exact DWs.cons h (Zqm q t)
 | .own _::_,_,_,e,_=>by simp[unD]at e
 | .raw _::_,_,_,e,_=>by simp[unD]at e
 | .scr _::_,_,_,e,_=>by simp[unD]at e
def dLst(o:Bool)(da:DTA):DTE:=λs k=>da s λvs s1=>match unD vs with|some ds=>ds.length≤sizeLine/\nl o ds s1 k|none=>False
def dTup(da:DTA):DTE:=λs k=>da s λvs s1=>match unD vs with|some ds=>ds.length≤sizeLine/\k (.d (.tuple ds)) s1|none=>False
theorem Zet(o:Bool){t:TA}{da:DTA}(ha:RA K t da):RE K (tLst t) (dLst o da):=by
 refine⟨λs Q Q' h q=>ha.mo _ _ _ (λv s1 q1=>?_) q,λG s σ H Q r h=>ha.ok G s σ H _ r (ha.mo _ _ _ (λvs s1 q G1 H1 xs e1 r1 v1=>?_) h)⟩
 ·split at q1
  ·exact⟨q1.1,Zpr h q1.2⟩
  ·exact q1.elim
 ·split at q
  ·next ds e=>
   have D:=Zqm e v1
   exact⟨by rw[<- D.length];exact q.1,r1.nl D (Zpr (λv s' z=>z.same e1) q.2)⟩
  ·exact q.elim
theorem Zc2{t:TA}{da:DTA}(ha:RA K t da):RE K (tTup t) (dTup da):=by
 refine⟨λs Q Q' h q=>ha.mo _ _ _ (λv s1 q1=>?_) q,λG s σ H Q r h=>ha.ok G s σ H _ r (ha.mo _ _ _ (λvs s1 q G1 H1 xs e1 r1 v1=>?_) h)⟩
 ·split at q1
  ·exact⟨q1.1,h _ _ q1.2⟩
  ·exact q1.elim
 ·split at q
  ·next ds e=>
   have D:=Zqm e v1
   exact⟨by rw[<- D.length];exact q.1,r1.nt D (q.2.same e1)⟩
  ·exact q.elim
structure RC(K:Frag)(r:List V->Hp->VK->Prop)(f:List Val->DTE):Prop where
 mo:∀vs,Mo (f vs)
 ok:∀G s σ H xs vs Q,Rel K G s σ H->VRs K G vs xs->f vs s (Po K G σ Q)->r xs H Q
def dCB(f:List Val->DTE)(da:DTA):DTE:=λs k=>da s λvs s1=>f vs s1 k
theorem Zbx{r:List V->Hp->VK->Prop}{f:List Val->DTE}{t:TA}{da:DTA}(hc:RC K r f)(ha:RA K t da):RE K (tCB r t) (dCB f da):=
 ⟨λs Q Q' h q=>ha.mo _ _ _ (λvs s1 q1=>hc.mo vs _ _ _ h q1) q,λG s σ H Q r h=>ha.ok G s σ H _ r (ha.mo _ _ _ (λvs s1 q G1 H1 xs e1 r1 v1=>hc.ok G1 s1 σ H1 xs vs Q r1 v1 (hc.mo vs _ _ _ (λv s' z=>z.same e1) q)) h)⟩
theorem VRs.one{v:Val}{xs:List V}(h:VRs K G [v] xs):∃x,xs=[x]/\VR K G v x:=by
 cases h with|cons a t=>cases t;exact⟨_,rfl,a⟩
theorem VRs.two{v u:Val}{xs:List V}(h:VRs K G [v,u] xs):∃x y,xs=[x,y]/\VR K G v x/\VR K G u y:=by
 cases h with|cons a t=>cases t with|cons b t=>cases t;exact⟨_,_,rfl,a,b⟩
def f1(g:Val->DTE):List Val->DTE:=λvs s k=>match vs with | [v]=>g v s k|_=>False
def f2(g:Val->Val->DTE):List Val->DTE:=λvs s k=>match vs with | [v,w]=>g v w s k|_=>False
theorem rc1{r:List V->Hp->VK->Prop}{g:Val->DTE}(mo:∀v,Mo (g v))(ok:∀G s σ H x v Q,Rel K G s σ H->VR K G v x->g v s (Po K G σ Q)->r [x] H Q):RC K r (f1 g):=by
 refine⟨λvs s Q Q' h q=>?_,λG s σ H xs vs Q r v1 h=>?_⟩
 ·unfold f1 at q |-;split at q
  ·exact mo _ _ _ _ h q
  ·exact q.elim
 ·unfold f1 at h;split at h
  ·obtain⟨x,rfl,v2⟩:=v1.one
   exact ok G s σ H x _ Q r v2 h
  ·exact h.elim
theorem rc2{r:List V->Hp->VK->Prop}{g:Val->Val->DTE}(mo:∀v w,Mo (g v w))(ok:∀G s σ H x y v w Q,Rel K G s σ H->VR K G v x->VR K G w y->g v w s (Po K G σ Q)->r [x,y] H Q):RC K r (f2 g):=by
 refine⟨λvs s Q Q' h q=>?_,λG s σ H xs vs Q r v1 h=>?_⟩
 ·unfold f2 at q |-;split at q
  ·exact mo _ _ _ _ _ h q
  ·exact q.elim
 ·unfold f2 at h;split at h
  ·obtain⟨x,y,rfl,v2,v3⟩:=v1.two
   exact ok G s σ H x y _ _ Q r v2 v3 h
  ·exact h.elim
def gLen:Val->DTE:=λv s k=>match rdA s.w v with|some ds=>k (.d (.int ds.length)) s|none=>False
theorem Zdt:RC K (λxs H Q=>∃p ys,xs=[.ref p]/\(SqL K H p ys\/SqT K H p ys)/\Q (.int ys.length) H) (f1 gLen):=by
 refine rc1 (λv s Q Q' h q=>?_) (λG s σ H x v Q r v1 h=>?_)
 ·unfold gLen at q |-;split at q
  ·exact h _ _ q
  ·exact q.elim
 ·unfold gLen at h;split at h
  ·next ds e=>
   obtain⟨a,xs,rfl,h1,h2⟩:=r.rdA v1 e
   exact⟨a,xs,rfl,h1,by rw[<- h2.length];exact h.here r Zea⟩
  ·exact h.elim
def gTupOf:Val->DTE:=λv s k=>match rdA s.w v with|some ds=>k (.d (.tuple ds)) s|none=>False
theorem Zf9:RC K (λxs H Q=>∃p ys,xs=[.ref p]/\((SqL K H p ys/\∀l,H l=none->Q (.ref l) (upd H l (.tup ys)))\/(SqT K H p ys/\Q (.ref p) H))) (f1 gTupOf):=by
 refine rc1 (λv s Q Q' h q=>?_) (λG s σ H x v Q r v1 h=>?_)
 ·unfold gTupOf at q |-;split at q
  ·exact h _ _ q
  ·exact q.elim
 ·unfold gTupOf rdA at h
  split at h
  ·next ds e=>
   split at e
   ·next es z=>
    cases e
    obtain⟨a,xs,rfl,h1,h2⟩:=r.rdT v1 z
    exact⟨a,xs,rfl,.inr ⟨h1,h.here r (by rw[<- Zld z];exact v1)⟩⟩
   ·obtain⟨a,xs,rfl,h1,h2⟩:=r.rdL v1 e
    exact⟨a,xs,rfl,.inl ⟨h1,r.nt h2 h⟩⟩
  ·exact h.elim
def gListOf(o:Bool):Val->DTE:=λv s k=>match rdA s.w v with|some ds=>nl o ds s k|none=>False
def uIs:List PyData->Option (List Int)
 | []=>some []
 | .int i::r=>(uIs r).map (i::·)
 | _::_=>none
theorem Zjn:∀{ds:List PyData}{ns:List Int},uIs ds=some ns->ds=ns.map .int
 | [],_,e=>by cases e;rfl
 | .int i::r,ns,e=>by
  simp only[uIs]at e
  cases q:uIs r with
  | none=>rw[q]at e;cases e
  | some ms=>rw[q]at e;cases e;rw[Zjn q];rfl
 | .none::_,_,e=>by simp[uIs]at e
 | .bool _::_,_,e=>by simp[uIs]at e
 | .str _::_,_,e=>by simp[uIs]at e
 | .list _::_,_,e=>by simp[uIs]at e
 | .tuple _::_,_,e=>by simp[uIs]at e
 | .dict _::_,_,e=>by simp[uIs]at e
@[simp] theorem uIs_map(ns:List Int):uIs (ns.map .int)=some ns:=by
 induction ns with
 | nil=>rfl
 | cons n r ih=>simp[uIs,ih]
def uBs:List PyData->Option (List Bool)
 | []=>some []
 | .bool i::r=>(uBs r).map (i::·)
 | _::_=>none
theorem Zsv:∀{ds:List PyData}{ns:List Bool},uBs ds=some ns->ds=ns.map .bool
 | [],_,e=>by cases e;rfl
 | .bool i::r,ns,e=>by
  simp only[uBs]at e
  cases q:uBs r with
  | none=>rw[q]at e;cases e
  | some ms=>rw[q]at e;cases e;rw[Zsv q];rfl
 | .none::_,_,e=>by simp[uBs]at e
 | .int _::_,_,e=>by simp[uBs]at e
 | .str _::_,_,e=>by simp[uBs]at e
 | .list _::_,_,e=>by simp[uBs]at e
 | .tuple _::_,_,e=>by simp[uBs]at e
 | .dict _::_,_,e=>by simp[uBs]at e
@[simp] theorem uBs_map(ns:List Bool):uBs (ns.map .bool)=some ns:=by
 induction ns with
 | nil=>rfl
 | cons n r ih=>simp[uBs,ih]
def gSum:Val->DTE:=λv s k=>match rdL s.w v with|some ds=>(match uIs ds with|some ns=>k (.d (.int ns.sum)) s|none=>False)|none=>False
theorem Zq4:RC K (λxs H Q=>∃(a:Addr) (ns:List Int),xs=[.ref a]/\SqL K H a (ns.map V.int)/\Q (.int ns.sum) H) (f1 gSum):=by
 refine rc1 (λv s Q Q' h q=>?_) (λG s σ H x v Q r v1 h=>?_)
 ·unfold gSum at q |-;split at q
  ·split at q
   ·exact h _ _ q
   ·exact q.elim
  ·exact q.elim
 ·unfold gSum at h;split at h
  ·next ds e=>
   split at h
   ·next ns z=>
    obtain⟨a,xs,rfl,h1,h2⟩:=r.rdL v1 e
    rw[Zjn z]at h2
    rw[h2.ints_inv]at h1
    exact⟨a,ns,rfl,h1,h.here r Zea⟩
   ·exact h.elim
  ·exact h.elim
def gAll:Val->DTE:=λv s k=>match rdL s.w v with|some ds=>(match uBs ds with|some ns=>k (.d (.bool (ns.all id))) s|none=>False)|none=>False
theorem Zq2:RC K (λxs H Q=>∃(a:Addr) (bs:List Bool),xs=[.ref a]/\SqL K H a (bs.map V.bl)/\Q (.bl (bs.all id)) H) (f1 gAll):=by
 refine rc1 (λv s Q Q' h q=>?_) (λG s σ H x v Q r v1 h=>?_)
 ·unfold gAll at q |-;split at q
  ·split at q
   ·exact h _ _ q
   ·exact q.elim
  ·exact q.elim
 ·unfold gAll at h;split at h
  ·next ds e=>
   split at h
   ·next ns z=>
    obtain⟨a,xs,rfl,h1,h2⟩:=r.rdL v1 e
    rw[Zsv z]at h2
    rw[h2.bools_inv]at h1
    exact⟨a,ns,rfl,h1,h.here r Zft⟩
   ·exact h.elim
  ·exact h.elim
def okR(d:PyData):Prop:=d.showable=true/\d.hasDict=false/\d.depth≤40/\d.shown.length≤sizeLine
def isR:PyData->Bool
 | .list _=>true
 | .tuple _=>true
 | _=>false
def gRepr:Val->DTE:=λv s k=>match rdD s.w v with|some d=>isR d=true/\okR d/\k (.d (.str d.shown)) s|none=>False
theorem Zk4:RC K (λxs H Q=>∃a d,xs=[.ref a]/\DV K H d (.ref a)/\d.showable=true/\d.hasDict=false/\d.depth≤40/\d.shown.length≤sizeLine/\Q (.str d.shown) H) (f1 gRepr):=by
 refine rc1 (λv s Q Q' h q=>?_) (λG s σ H x v Q r v1 h=>?_)
 ·unfold gRepr at q |-;split at q
  ·exact⟨q.1,q.2.1,h _ _ q.2.2⟩
  ·exact q.elim
 ·unfold gRepr at h;split at h
  ·next d e=>
   obtain⟨h0,⟨h1,h2,h3,h4⟩,h⟩:=h
   have D:=r.rdD v1 e h2
   obtain⟨a,rfl⟩:∃a,x=.ref a:=by
    cases d<;>simp only[isR]at h0<;>try cases h0
    ·unfold DV at D;obtain⟨a,_,e,_⟩:=D;exact⟨a,e⟩
    ·unfold DV at D;obtain⟨a,_,e,_⟩:=D;exact⟨a,e⟩
   exact⟨a,d,rfl,D,h1,h2,h3,h4,h.here r Zsy⟩
  ·exact h.elim
def fMax2:Val->Val->DTE:=λv w s k=>match v,w with | .d (.int i),.d (.int j)=>k (.d (.int (max i j))) s|_,_=>False
def fMin2:Val->Val->DTE:=λv w s k=>match v,w with | .d (.int i),.d (.int j)=>k (.d (.int (min i j))) s|_,_=>False
theorem Zu5:RC K (λxs H Q=>∃i j,xs=[.int i,.int j]/\Q (.int (if j > i then j else i)) H) (f2 fMax2):=by
 refine rc2 (λv w s Q Q' h q=>?_) (λG s σ H x y v w Q r v1 v2 h=>?_)
 ·unfold fMax2 at q |-;split at q
  ·exact h _ _ q
  ·exact q.elim
 ·unfold fMax2 at h;split at h
  ·next i j=>
   refine⟨i,j,by rw[Zcg v1,Zcg v2],?_⟩
   have e:(if j > i then j else i)=max i j:=by split<;>omega
   rw[e];exact h.here r Zea
  ·exact h.elim
theorem Zu7:RC K (λxs H Q=>∃i j,xs=[.int i,.int j]/\Q (.int (if j<i then j else i)) H) (f2 fMin2):=by
 refine rc2 (λv w s Q Q' h q=>?_) (λG s σ H x y v w Q r v1 v2 h=>?_)
 ·unfold fMin2 at q |-;split at q
  ·exact h _ _ q
  ·exact q.elim
 ·unfold fMin2 at h;split at h
  ·next i j=>
   refine⟨i,j,by rw[Zcg v1,Zcg v2],?_⟩
   have e:(if j<i then j else i)=min i j:=by split<;>omega
   rw[e];exact h.here r Zea
  ·exact h.elim
def tyN:PyData->String
 | .none=>"NoneType" | .bool _=>"bool" | .int _=>"int" | .str _=>"str" | .list _=>"list" | .tuple _=>"tuple" | .dict _=>"dict"
def fIsi:Val->Val->DTE:=λv w s k=>match rdD s.w v,w with
 | some d,.raw (.ty c)=>∃b,(∀K,PySem.W.kitOne K (.type (tyN d)) (.type c)=some b)/\k (.d (.bool b)) s
 | _,_=>False
end
section
variable {K:Frag}{G G' H H':Hp}{s:DS}{σ:St}
def dTest(d:DTE):DTT:=λs k=>d s λv s1=>match v with | .d (.bool b)=>k b s1|_=>False
theorem Zbf{t:TE}{d:DTE}(h:RE K t d):RT K (tTest t) (dTest d):=by
 refine⟨λs Q Q' z q=>h.mo _ _ _ (λv s1 q=>?_) q,λG s σ H Q r q=>h.ok G s σ H _ r (h.mo _ _ _ (λv s1 q G1 H1 x e1 r1 v1=>?_) q)⟩
 ·split at q
  ·exact z _ _ q
  ·exact q.elim
 ·split at q
  ·next b=>exact⟨b,Zkg v1,q G1 H1 e1 r1⟩
  ·exact q.elim
theorem rt_b{t:TE}{d:DTE}(h:RE K t d):RT K (tB t) (dTest d):=Zbf h
def truD(w:OW)(v:Val):Option Bool:=match v with
 | .d .none=>some false
 | .d (.bool b)=>some b
 | .d (.int i)=>some (i != 0)
 | _=>(rdA w v).map λds=>!ds.isEmpty
def dTru(d:DTE):DTT:=λs k=>d s λv s1=>match truD s1.w v with|some b=>k b s1|none=>False
theorem DWs.empty{ds:List PyData}{xs:List V}(h:DWs K G ds xs):xs.isEmpty=ds.isEmpty:=by
 cases ds with
 | nil=>unfold DWs at h;rw[h];rfl
 | cons d ds=>unfold DWs at h;obtain⟨x,r,rfl,_⟩:=h;rfl
theorem Zvz{t:TE}{d:DTE}(h:RE K t d):RT K (λσ H Q=>t σ H λx H'=>∃k,TruV K x H' k/\Q k H') (dTru d):=by
 refine⟨λs Q Q' z q=>h.mo _ _ _ (λv s1 q=>?_) q,λG s σ H Q r q=>h.ok G s σ H _ r (h.mo _ _ _ (λv s1 q G1 H1 x e1 r1 v1=>?_) q)⟩
 ·split at q
  ·exact z _ _ q
  ·exact q.elim
 ·split at q
  ·next b e=>
   refine⟨b,?_,q G1 H1 e1 r1⟩
   unfold truD at e
   split at e
   ·cases e;rw[show x=.non from by unfold VR at v1;exact DW.none_inv v1];rfl
   ·cases e;rw[Zkg v1];rfl
   ·cases e;rw[Zcg v1];rfl
   ·cases z:rdA s1.w v with
    | none=>rw[z]at e;cases e
    | some ds=>
     rw[z]at e
     cases e
     obtain⟨a,xs,rfl,h1,h2⟩:=r1.rdA v1 z
     show TruV K (V.ref a) H1 (!ds.isEmpty)
     rw[<- h2.empty]
     rcases h1 with h1|h1
     ·exact .inl ⟨xs,h1,rfl⟩
     ·exact .inr (.inl ⟨xs,h1,rfl⟩)
  ·exact q.elim
def dAnd(t u:DTT):DTT:=λs k=>t s λc s1=>if c=true then u s1 k else k false s1
def dOr(t u:DTT):DTT:=λs k=>t s λc s1=>if c=true then k true s1 else u s1 k
def dNot(t:DTT):DTT:=λs k=>t s λc s1=>k (!c) s1
theorem Zlg{t u:TT}{d e:DTT}(h:RT K t d)(q:RT K u e):RT K (tAnd t u) (dAnd d e):=by
 refine⟨λs Q Q' z y=>h.mo _ _ _ (λc s1 y=>?_) y,λG s σ H Q r y=>h.ok G s σ H _ r (h.mo _ _ _ (λc s1 y G1 H1 e1 r1=>?_) y)⟩
 ·cases c
  ·exact z _ _ y
  ·exact q.mo _ _ _ z y
 ·cases c
  ·exact y G1 H1 e1 r1
  ·exact q.ok G1 s1 σ H1 _ r1 (q.mo _ _ _ (λc s2 z=>z.same e1) y)
theorem Zk9{t u:TT}{d e:DTT}(h:RT K t d)(q:RT K u e):RT K (tOr t u) (dOr d e):=by
 refine⟨λs Q Q' z y=>h.mo _ _ _ (λc s1 y=>?_) y,λG s σ H Q r y=>h.ok G s σ H _ r (h.mo _ _ _ (λc s1 y G1 H1 e1 r1=>?_) y)⟩
 ·cases c
  ·exact q.mo _ _ _ z y
  ·exact z _ _ y
 ·cases c
  ·exact q.ok G1 s1 σ H1 _ r1 (q.mo _ _ _ (λc s2 z=>z.same e1) y)
  ·exact y G1 H1 e1 r1
theorem Zeg{t:TT}{d:DTT}(h:RT K t d):RT K (tNot t) (dNot d):=
 ⟨λs Q Q' z y=>h.mo _ _ _ (λc s1 y=>z _ _ y) y,λG s σ H Q r y=>h.ok G s σ H _ r (h.mo _ _ _ (λc s1 y G1 H1 e1 r1=>y G1 H1 e1 r1) y)⟩
def dYes:DTT:=λs k=>k true s
theorem Zcx:RT K tYes dYes:=⟨λs Q Q' z y=>z _ _ y,λG s σ H Q r y=>y G H (Same.refl G) r⟩
def dIfE(t:DTT)(a b:DTE):DTE:=λs k=>t s λc s1=>if c=true then a s1 k else b s1 k
def dAndV(a b:DTE):DTE:=λs k=>a s λv s1=>match v with | .d (.bool c)=>(if c=true then b s1 k else k (.d (.bool false)) s1)|_=>False
def dOrV(a b:DTE):DTE:=λs k=>a s λv s1=>match v with | .d (.bool c)=>(if c=true then k (.d (.bool true)) s1 else b s1 k)|_=>False
def dNotV(a:DTE):DTE:=λs k=>a s λv s1=>match v with | .d (.bool c)=>k (.d (.bool (!c))) s1|_=>False
theorem Zhb{ta tb:TE}{da db:DTE}(ha:RE K ta da)(hb:RE K tb db):RE K (tAndV ta tb) (dAndV da db):=by
 refine⟨λs Q Q' z y=>ha.mo _ _ _ (λv s1 y=>?_) y,λG s σ H Q r y=>ha.ok G s σ H _ r (ha.mo _ _ _ (λv s1 y G1 H1 x e1 r1 v1=>?_) y)⟩
 ·split at y
  ·next c=>cases c;exact z _ _ y;exact hb.mo _ _ _ z y
  ·exact y.elim
 ·split at y
  ·next c=>
   refine⟨c,Zkg v1,?_⟩
   cases c
   ·exact y G1 H1 _ e1 r1 Zft
   ·exact hb.ok G1 s1 σ H1 _ r1 (hb.mo _ _ _ (λc s2 z=>z.same e1) y)
  ·exact y.elim
theorem Zua{ta:TE}{da:DTE}(ha:RE K ta da):RE K (tNotV ta) (dNotV da):=by
 refine⟨λs Q Q' z y=>ha.mo _ _ _ (λv s1 y=>?_) y,λG s σ H Q r y=>ha.ok G s σ H _ r (ha.mo _ _ _ (λv s1 y G1 H1 x e1 r1 v1=>?_) y)⟩
 ·split at y
  ·exact z _ _ y
  ·exact y.elim
 ·split at y
  ·next c=>exact⟨c,Zkg v1,y G1 H1 _ e1 r1 Zft⟩
  ·exact y.elim
theorem JOk.list{a:Addr}{xs:List V}{ds:List PyData}(h:G a=some (.lst xs))(D:DWs K G ds xs):JOk K (Itl K a) G (λ_=>True) ds:=by
 intro G1 s σ H i e _ r
 have hs:SqL K H a xs:=SqL.of (r.sub _ _ (e _ _ h))
 refine⟨λd hd=>?_,λhl=>⟨xs,hs,by rw[<- D.length];exact hl⟩⟩
 obtain⟨x,h1,h2⟩:=D.get' hd
 refine⟨⟨xs,x,hs,h1⟩,λy H' hy=>?_⟩
 obtain⟨rfl,hy⟩:=hy
 have:=hy xs hs
 rw[h1]at this;cases this
 exact⟨G1,Same.refl _,r,h2.same e⟩
theorem JOk.tup{a:Addr}{xs:List V}{ds:List PyData}(h:SqT K G a xs)(D:DWs K G ds xs):JOk K (Itt K a) G (λ_=>True) ds:=by
 intro G1 s σ H i e _ r
 have hs:SqT K H a xs:=r.sub.tup (e.tup h)
 refine⟨λd hd=>?_,λhl=>⟨xs,hs,by rw[<- D.length];exact hl⟩⟩
 obtain⟨x,h1,h2⟩:=D.get' hd
 refine⟨⟨xs,x,hs,h1⟩,λy H' hy=>?_⟩
 obtain⟨rfl,hy⟩:=hy
 have:=hy xs hs
 rw[h1]at this;cases this
 exact⟨G1,Same.refl _,r,h2.same e⟩
def rngD(lo:Int)(n:Nat):List PyData:=(List.range n).map λi=>.int (lo+(i:Nat))
theorem JOk.rng{lo:Int}{n:Nat}:JOk K (Itr lo n) G (λ_=>True) (rngD lo n):=by
 intro G1 s σ H i e _ r
 refine⟨λd hd=>?_,λhl=>by show n≤i;simpa[rngD]using hl⟩
 have hi:i<n:=by
  have:=(zZ.mp hd).1
  simpa[rngD]using this
 refine⟨hi,λy H' hy=>?_⟩
 obtain⟨rfl,rfl⟩:=hy
 refine⟨G1,Same.refl _,r,?_⟩
 have hd':d=.int (lo+(i:Nat)):=by
  unfold rngD at hd
  rw[vH,List.getElem?_range hi]at hd
  exact(zK hd).symm
 rw[hd'];exact DW.int
def SqD(K:Frag)(t:Bool)(G:Hp)(a:Addr)(xs:List V):Prop:=match t with|true=>SqT K G a xs|false=>G a=some (.lst xs)
theorem SqD.sq{t:Bool}{a:Addr}{xs:List V}(h:SqD K t G a xs)(e:Same G G'):SqB K t G' a xs:=by
 cases t
 ·exact SqL.of (e _ _ h)
 ·exact e.tup h
def zipD(ds es:List PyData):List PyData:=(ds.zip es).map λp=>.tuple [p.1,p.2]
theorem JOk.zip{t1 t2:Bool}{a b:Addr}{xs ys:List V}{ds es:List PyData}(h:SqD K t1 G a xs)(h':SqD K t2 G b ys)(D:DWs K G ds xs)(D':DWs K G es ys):JOk K (Itz K t1 t2 a b) G (λ_=>True) (zipD ds es):=by
 intro G1 s σ H i e _ r
 have hs:=h.sq (e.trans r.sub)
 have hs':=h'.sq (e.trans r.sub)
 refine⟨λd hd=>?_,λhl=>⟨xs,ys,hs,hs',?_⟩⟩
 ·unfold zipD at hd
  rw[vH]at hd
  cases q:(ds.zip es)[i]? with
  | none=>rw[q]at hd;cases hd
  | some p=>
   rw[q]at hd
   cases hd
   obtain⟨q1,q2⟩:=uW.mp q
   obtain⟨x,h1,h2⟩:=D.get' q1
   obtain⟨y,h3,h4⟩:=D'.get' q2
   refine⟨⟨xs,ys,x,y,hs,hs',h1,h3⟩,λv H' hy=>?_⟩
   obtain⟨p',x',y',rfl,hp,rfl,hxy⟩:=hy
   obtain⟨z1,z2⟩:=hxy xs ys hs hs'
   rw[h1]at z1;cases z1
   rw[h3]at z2;cases z2
   have hg:=r.sub.free hp
   have S:=Zcf hg (.tup [x,y])
   exact⟨_,S,r.new hp _,DW.tup Zb2 (DWs.cons (h2.same (e.trans S)) (DWs.cons (h4.same (e.trans S)) DWs.nil))⟩
 ·unfold zipD at hl
  rw[lmp,xP,D.length,D'.length]at hl
  omega
def enumD(ds:List PyData):List PyData:=ds.mapIdx λi d=>.tuple [.int (i:Nat),d]
def noP:OW->Prop:=λ_=>True
def dItL(d:DTE):DTI:=λs k=>d s λv s1=>match v with | .d (.list ds)=>k (ds,noP) s1 | .own a=>∃ds,s1.w a=some (.lst ds)/\k (ds,λw=>w a=some (.lst ds)) s1|_=>False
def dItT(d:DTE):DTI:=λs k=>d s λv s1=>match v with | .d (.tuple ds)=>k (ds,noP) s1|_=>False
theorem JOk.own{a:Addr}{ds:List PyData}:JOk K (Itl K a) G (λw=>w a=some (.lst ds)) ds:=by
 intro G1 s σ H i e p r
 obtain⟨_,xs,h1,D⟩:=r.own a _ p
 have hs:SqL K H a xs:=SqL.of h1
 refine⟨λd hd=>?_,λhl=>⟨xs,hs,by rw[<- D.length];exact hl⟩⟩
 obtain⟨x,h4,h2⟩:=D.get' hd
 refine⟨⟨xs,x,hs,h4⟩,λy H' hy=>?_⟩
 obtain⟨rfl,hy⟩:=hy
 have:=hy xs hs
 rw[h4]at this;cases this
 exact⟨G1,Same.refl _,r,h2⟩
theorem Zfa{t:TE}{d:DTE}(h:RE K t d):RI K (iList K t) (dItL d):=by
 refine⟨λs Q Q' z y=>h.mo _ _ _ (λv s1 y=>?_) y,λG s σ H R r y=>h.ok G s σ H _ r (h.mo _ _ _ (λv s1 y G1 H1 x e1 r1 v1=>?_) y)⟩
 ·split at y
  ·exact z _ _ y
  ·obtain⟨ds,h1,y⟩:=y;exact⟨ds,h1,z _ _ y⟩
  ·exact y.elim
 ·split at y
  ·obtain⟨a,xs,rfl,h1,h2⟩:=Ziu v1
   exact⟨a,rfl,⟨xs,SqL.of (r1.sub _ _ h1)⟩,y G1 H1 _ e1 r1 (JOk.list h1 h2)⟩
  ·next a=>
   obtain⟨ds,h1,y⟩:=y
   cases (show x=.ref a from v1)
   obtain⟨_,xs,h2,_⟩:=r1.own a _ h1
   exact⟨a,rfl,⟨xs,SqL.of h2⟩,y G1 H1 _ e1 r1 JOk.own⟩
  ·exact y.elim
theorem Zdi{t:TE}{d:DTE}(h:RE K t d):RI K (iTup K t) (dItT d):=by
 refine⟨λs Q Q' z y=>h.mo _ _ _ (λv s1 y=>?_) y,λG s σ H R r y=>h.ok G s σ H _ r (h.mo _ _ _ (λv s1 y G1 H1 x e1 r1 v1=>?_) y)⟩
 ·split at y
  ·exact z _ _ y
  ·exact y.elim
 ·split at y
  ·obtain⟨a,xs,rfl,h1,h2⟩:=Zjp v1
   exact⟨a,rfl,⟨xs,r1.sub.tup h1⟩,y G1 H1 _ e1 r1 (JOk.tup h1 h2)⟩
  ·exact y.elim
def dRng1(d:DTA):DTI:=λs k=>d s λvs s1=>match vs with | [.d (.int j)]=>(-(2 ^ 62)≤j/\j<2 ^ 62)/\k (rngD 0 j.toNat,noP) s1|_=>False
def dRng2(d:DTA):DTI:=λs k=>d s λvs s1=>match vs with | [.d (.int i),.d (.int j)]=>(-(2 ^ 62)≤i/\i<2 ^ 62/\-(2 ^ 62)≤j/\j<2 ^ 62)/\k (rngD i (j-i).toNat,noP) s1|_=>False
theorem Zdm{t:TA}{d:DTA}(h:RA K t d):RI K (iRng1 t) (dRng1 d):=by
 refine⟨λs Q Q' z y=>h.mo _ _ _ (λv s1 y=>?_) y,λG s σ H R r y=>h.ok G s σ H _ r (h.mo _ _ _ (λv s1 y G1 H1 x e1 r1 v1=>?_) y)⟩
 ·split at y
  ·exact⟨y.1,z _ _ y.2⟩
  ·exact y.elim
 ·split at y
  ·next j=>
   obtain⟨u,rfl,v2⟩:=v1.one
   exact⟨j,by rw[Zcg v2],y.1.1,y.1.2,y.2 G1 H1 _ e1 r1 JOk.rng⟩
  ·exact y.elim
def seqD(t:Bool):Val->Option (List PyData)
 | .d (.list ds)=>if t then none else some ds
 | .d (.tuple ds)=>if t then some ds else none
 | _=>none
theorem Zqf{t:Bool}{v:Val}{x:V}{ds:List PyData}(h:VR K G v x)(e:seqD t v=some ds):∃a xs,x=.ref a/\SqD K t G a xs/\DWs K G ds xs:=by
 unfold seqD at e
 split at e
 ·cases t
  ·cases e
   obtain⟨a,xs,rfl,h1,h2⟩:=Ziu h
   exact⟨a,xs,rfl,h1,h2⟩
  ·cases e
 ·cases t
  ·cases e
  ·cases e
   obtain⟨a,xs,rfl,h1,h2⟩:=Zjp h
   exact⟨a,xs,rfl,h1,h2⟩
 ·cases e
def dZip(t1 t2:Bool)(d:DTA):DTI:=λs k=>d s λvs s1=>match vs with | [v,w]=>(match seqD t1 v,seqD t2 w with|some ds,some es=>k (zipD ds es,noP) s1|_,_=>False)|_=>False
def dEnum(t:Bool)(d:DTA):DTI:=λs k=>d s λvs s1=>match vs with | [v]=>(match seqD t v with|some ds=>k (enumD ds,noP) s1|_=>False)|_=>False
theorem Zst{t1 t2:Bool}{t:TA}{d:DTA}(h:RA K t d):RI K (iZip K t1 t2 t) (dZip t1 t2 d):=by
 refine⟨λs Q Q' z y=>h.mo _ _ _ (λv s1 y=>?_) y,λG s σ H R r y=>h.ok G s σ H _ r (h.mo _ _ _ (λv s1 y G1 H1 x e1 r1 v1=>?_) y)⟩
 ·split at y
  ·split at y
   ·exact z _ _ y
   ·exact y.elim
  ·exact y.elim
 ·split at y
  ·split at y
   ·next ds es q1 q2=>
    obtain⟨u,w,rfl,v2,v3⟩:=v1.two
    obtain⟨a,xs,rfl,h1,h2⟩:=Zqf v2 q1
    obtain⟨b,ys,rfl,h3,h4⟩:=Zqf v3 q2
    exact⟨a,b,xs,ys,rfl,h1.sq r1.sub,h3.sq r1.sub,y G1 H1 _ e1 r1 (JOk.zip h1 h3 h2 h4)⟩
   ·exact y.elim
  ·exact y.elim
def tgN(i:Nat):DTG:=λv s k=>k (s.set i v)
theorem Za7(i:Nat):RG K (gName i) (tgN i):=⟨λv s Q Q' h q=>h _ q,λG s σ H v x Q r q h=>h G _ H (Same.refl G) (r.set q i)⟩
abbrev DTGs:=List PyData->DS->(DS->Prop)->Prop
structure RGs(K:Frag)(g:TGs)(d:DTGs):Prop where
 mo:∀v s (Q Q':DS->Prop),(∀s',Q s'->Q' s')->d v s Q->d v s Q'
 ok:∀G s σ H ds xs Q,Rel K G s σ H->DWs K G ds xs->d ds s (λs'=>∀G' σ' H',Same G G'->Rel K G' s' σ' H'->Q σ' H')->g xs σ H Q
def tgNil:DTGs:=λds s k=>match ds with | []=>k s|_=>False
def tgCons(g:DTG)(r:DTGs):DTGs:=λds s k=>match ds with|d::t=>g (.d d) s (λs1=>r t s1 k) | []=>False
theorem Zc1:RGs K gNil tgNil:=by
 refine⟨λv s Q Q' h q=>?_,λG s σ H ds xs Q r D h=>?_⟩
 ·unfold tgNil at q |-;split at q
  ·exact h _ q
  ·exact q.elim
 ·unfold tgNil at h;split at h
  ·unfold DWs at D;exact⟨D,h G σ H (Same.refl G) r⟩
  ·exact h.elim
theorem Zad{t:TG}{u:TGs}{g:DTG}{r:DTGs}(h1:RG K t g)(h2:RGs K u r):RGs K (gCons t u) (tgCons g r):=by
 refine⟨λv s Q Q' h q=>?_,λG s σ H ds xs Q rl D h=>?_⟩
 ·unfold tgCons at q |-;split at q
  ·exact h1.mo _ _ _ _ (λs1 q=>h2.mo _ _ _ _ h q) q
  ·exact q.elim
 ·unfold tgCons at h;split at h
  ·unfold DWs at D
   obtain⟨x,t',rfl,D1,D2⟩:=D
   refine⟨x,t',rfl,h1.ok G s σ H (.d _) x _ rl D1 (h1.mo _ _ _ _ (λs1 q G1 σ1 H1 e1 r1=>?_) h)⟩
   exact h2.ok G1 s1 σ1 H1 _ t' _ r1 (D2.same e1) (h2.mo _ _ _ _ (λs2 q G2 σ2 H2 e2 r2=>q G2 σ2 H2 (e1.trans e2) r2) q)
  ·exact h.elim
def tgTup(n:Nat)(g:DTGs):DTG:=λv s k=>match v with | .d (.tuple ds)=>ds.length=n/\g ds s k|_=>False
theorem Zcw{n:Nat}{t:TGs}{g:DTGs}(h:RGs K t g):RG K (gTup K n t) (tgTup n g):=by
 refine⟨λv s Q Q' z q=>?_,λG s σ H v x Q r q z=>?_⟩
 ·unfold tgTup at q |-;split at q
  ·exact⟨q.1,h.mo _ _ _ _ z q.2⟩
  ·exact q.elim
 ·unfold tgTup at z;split at z
  ·obtain⟨a,xs,rfl,h1,h2⟩:=Zjp q
   exact⟨a,xs,rfl,r.sub.tup h1,by rw[<- h2.length];exact z.1,h.ok G s σ H _ xs Q r h2 z.2⟩
  ·exact z.elim
def dEmit(de:DTE):DTL:=λacc s k=>de s λv s1=>match v with | .d x=>k (acc++[x]) s1|_=>False
theorem Zcb{te:TE}{de:DTE}(h:RE K te de):RL K (tEmit te) (dEmit de):=by
 refine⟨λacc s Q Q' z q=>h.mo _ _ _ (λv s1 q=>?_) q,λG s σ H acc ys Q r D hl q=>⟨by rw[<- D.length];exact hl,h.ok G s σ H _ r (h.mo _ _ _ (λv s1 q G1 H1 x e1 r1 v1=>?_) q)⟩⟩
 ·split at q
  ·exact z _ _ q
  ·exact q.elim
 ·split at q
  ·exact q G1 σ H1 _ e1 r1 ((D.same e1).snoc v1)
  ·exact q.elim
def ext:List (Option Val)->List (Option Val)->Prop
 | [],[]=>True
 | none::r,_::t=>ext r t
 | some v::r,some u::t=>v=u/\ext r t
 | _,_=>False
theorem Zlw:∀{e e':List (Option Val)}{i:Nat}{v:Val},ext e e'->e[i]? = some (some v)->e'[i]? = some (some v)
 | [],_,i,v,_,h=>by simp at h
 | none::r,[],i,v,h,_=>by simp[ext]at h
 | none::r,_::t,0,v,_,h=>by simp at h
 | none::r,_::t,i+1,v,h,q=>by
  simp only[xQ]at q |-
  exact Zlw (e:=r) h q
 | some u::r,[],i,v,h,_=>by simp[ext]at h
 | some u::r,none::t,i,v,h,_=>by simp[ext]at h
 | some u::r,some u'::t,0,v,h,q=>by
  simp only[xR]at q |-
  rw[<- h.1];exact q
 | some u::r,some u'::t,i+1,v,h,q=>by
  simp only[xQ]at q |-
  exact Zlw (e:=r) h.2 q
theorem Zlx:∀{e e':List (Option Val)},ext e e'->e.length=e'.length
 | [],[],_=>rfl
 | [],_::_,h=>by simp[ext]at h
 | none::r,[],h=>by simp[ext]at h
 | none::r,_::t,h=>by rw[yP,yP,Zlx (e:=r) h]
 | some _::r,[],h=>by simp[ext]at h
 | some _::r,none::t,h=>by simp[ext]at h
 | some _::r,some _::t,h=>by rw[yP,yP,Zlx (e:=r) h.2]
theorem Rel.ext{e:List (Option Val)}(r:Rel K G s σ H)(h:L2.ext e s.e):Rel K G ⟨e,s.w⟩ σ H:=
 ⟨r.sub,r.own,by rw[Zlx h];exact r.sl.1,λi v q=>r.sl.2 i v (Zlw h q)⟩
def LIt(src:List PyData×(OW->Prop))(e0:List (Option Val))(dg:DTG)(dt:DTT)(dl:DTL)(k:List PyData->DS->Prop)(I:Nat->List PyData->OW->Prop):Prop:=
 (∀i acc w,I i acc w->src.2 w/\(i<src.1.length->acc.length<sizeLine)) /\
 (∀(i:Nat) d acc w,src.1[i]? = some d->I i acc w->dg (.d d) ⟨e0,w⟩ λs2=>dt s2 λb s3=>if b=true then dl acc s3 (λacc' s'=>L2.ext e0 s'.e/\I (i+1) acc' s'.w) else L2.ext e0 s3.e/\I (i+1) acc s3.w) /\
 ∀acc w,I src.1.length acc w->k acc ⟨e0,w⟩
theorem Zn4{J:It}{g:TG}{tt:TT}{tb:TL}{dg:DTG}{dt:DTT}{dl:DTL}{ds:List PyData}{P:OW->Prop}{e0:List (Option Val)}{Q:LK}{k:List PyData->DS->Prop}{I:Nat->List PyData->OW->Prop}{G1:Hp}(hg:RG K g dg)(ht:RT K tt dt)(hl:RL K tb dl)(hJ:JOk K J G1 P ds) 
  (hI:LIt (ds,P) e0 dg dt dl k I) (hQ:∀G s σ H acc ys,Same G1 G->Rel K G s σ H->DWs K G acc ys->k acc s->Q ys σ H) {w:OW}{σ:St}{H:Hp}{acc:List PyData}{ys:List V} (r:Rel K G1 ⟨e0,w⟩ σ H) (D:DWs K G1 acc ys) (h0:I 0 acc w) :
  ∃W:Nat->List V->Nat->St->Hp->Prop,(∃m,W 0 ys m σ H)/\LTurn J g tt tb Q W:=by
 obtain⟨hI1,hI2,hI3⟩:=hI
 dsimp only at hI1 hI2 hI3
 refine⟨λi ys m σ H=>i+m=ds.length/\∃G w acc,Same G1 G/\Rel K G ⟨e0,w⟩ σ H/\DWs K G acc ys/\I i acc w,⟨ds.length,zero_add _,G1,w,acc,Same.refl _,r,D,h0⟩,?_⟩
 rintro i ys m σ H ⟨hm,G,w,acc,e,r,D,hi⟩
 obtain⟨hp,hz⟩:=hI1 i acc w hi
 cases m with
 | zero=>
  have:i=ds.length:=by omega
  subst this
  exact .inl ⟨(hJ G _ σ H _ e hp r).2 (wR _),hQ G _ σ H acc ys e r D (hI3 acc w hi)⟩
 | succ m=>
  have hlt:i<ds.length:=by omega
  have hd:=gEq hlt
  obtain⟨go,yl⟩:=(hJ G _ σ H i e hp r).1 _ hd
  refine .inr ⟨go,λys' σ' H'=>∃G' w' acc',Same G1 G'/\Rel K G' ⟨e0,w'⟩ σ' H'/\DWs K G' acc' ys'/\I (i+1) acc' w',λys' σ' H' ⟨G',s',acc',q⟩=>⟨m,yD m,by omega,G',s',acc',q⟩,λx H' hy=>?_⟩
  obtain⟨G',e',r',dx⟩:=yl x H' hy
  have hs:=hI2 i _ acc w hd hi
  refine hg.ok G' _ σ H' (.d _) x _ r' dx (hg.mo _ _ _ _ (λs2 q G2 σ2 H2 e2 r2=>?_) hs)
  refine ht.ok G2 s2 σ2 H2 _ r2 (ht.mo _ _ _ (λb s3 q G3 H3 e3 r3=>?_) q)
  have D3:=D.same ((e'.trans e2).trans e3)
  have E3:=((e.trans e').trans e2).trans e3
  cases b
  ·exact⟨G3,s3.w,acc,E3,r3.ext q.1,D3,q.2⟩
  ·exact hl.ok G3 s3 σ2 H3 acc ys _ r3 D3 (hz hlt) (hl.mo _ _ _ _ (λacc' s4 q G4 σ4 H4 ys4 e4 r4 D4=>⟨G4,s4.w,acc',E3.trans e4,r4.ext q.1,D4,q.2⟩) q)
def dLoop(di:DTI)(dg:DTG)(dt:DTT)(dl:DTL):DTL:=λacc s k=>di s λsrc s1=>∃I,I 0 acc s1.w/\LIt src s1.e dg dt dl k I
theorem Zq8{wi:TI}{g:TG}{tt:TT}{tb:TL}{di:DTI}{dg:DTG}{dt:DTT}{dl:DTL}(hi:RI K wi di)(hg:RG K g dg)(ht:RT K tt dt)(hl:RL K tb dl):RL K (tLoop wi g tt tb) (dLoop di dg dt dl):=by
 refine⟨λacc s Q Q' z q=>hi.mo _ _ _ (λds s1 q=>?_) q,λG s σ H acc ys Q r D hz q=>hi.ok G s σ H _ r (hi.mo _ _ _ (λds s1 q G1 H1 J e1 r1 hJ=>?_) q)⟩
 ·obtain⟨I,h0,h3,h1,h2⟩:=q
  exact⟨I,h0,h3,h1,λacc s h=>z _ _ (h2 acc s h)⟩
 ·obtain⟨I,h0,hI⟩:=q
  exact Zn4 (w:=s1.w) hg ht hl hJ hI (λG2 s2 σ2 H2 acc2 ys2 e2 r2 D2 k2=>k2 G2 σ2 H2 ys2 (e1.trans e2) r2 D2) r1 (D.same e1) h0
def dComp(o:Bool)(di:DTI)(cap:List (Option Nat))(dg:DTG)(dt:DTT)(dl:DTL):DTE:=λs k=>di s λsrc s1=>∃I,I 0 [] s1.w/\LIt src (captD cap s1.e) dg dt dl (λacc s'=>nl o acc ⟨s1.e,s'.w⟩ k) I
theorem Zca(o:Bool){wi:TI}{cap:List (Option Nat)}{g:TG}{tt:TT}{tb:TL}{di:DTI}{dg:DTG}{dt:DTT}{dl:DTL}(hi:RI K wi di)(hg:RG K g dg)(ht:RT K tt dt)(hl:RL K tb dl):RE K (tComp wi cap g tt tb) (dComp o di cap dg dt dl):=by
 refine⟨λs Q Q' z q=>hi.mo _ _ _ (λds s1 q=>?_) q,λG s σ H Q r q=>hi.ok G s σ H _ r (hi.mo _ _ _ (λds s1 q G1 H1 J e1 r1 hJ=>?_) q)⟩
 ·obtain⟨I,h0,h3,h1,h2⟩:=q
  exact⟨I,h0,h3,h1,λacc s h=>Zpr z (h2 acc s h)⟩
 ·obtain⟨I,h0,hI⟩:=q
  refine Zn4 (w:=s1.w) hg ht hl hJ hI (λG2 s2 σ2 H2 acc2 ys2 e2 r2 D2 k2=>?_) (r1.env (r1.sl.capt cap)) DWs.nil h0
  exact(r2.env (r1.sl.same e2):Rel K G2 ⟨s1.e,s2.w⟩ σ H2).nl D2 (Zpr (λv s' z=>z.same (e1.trans e2)) k2)
theorem Zm3{src:List PyData×(OW->Prop)}{e0:List (Option Val)}{dg:DTG}{dt:DTT}{dl:DTL}{k:List PyData->DS->Prop}{w:OW}{α:Type}(xs:List α)(enc:α->PyData)(g:α->List PyData)(acc0:List PyData)(hsrc:src.1=xs.map enc)(hp:src.2 w) 
  (hl:acc0.length+(xs.flatMap g).length<sizeLine)
  (hs:∀x∈xs,∀acc:List PyData,acc.length+(g x).length<sizeLine->∀Q:List PyData->OW->Prop,Q (acc++g x) w->dg (.d (enc x)) ⟨e0,w⟩ λs2=>dt s2 λb s3=>if b=true then dl acc s3 (λacc' s'=>L2.ext e0 s'.e/\Q acc' s'.w) else L2.ext e0 s3.e/\Q acc s3.w)
  (hk:k (acc0++xs.flatMap g) ⟨e0,w⟩):∃I:Nat->List PyData->OW->Prop,I 0 acc0 w/\LIt src e0 dg dt dl k I:=by
 refine⟨λi acc w'=>acc=acc0++(xs.take i).flatMap g/\w'=w,⟨by simp,rfl⟩,?_,?_,?_⟩
 ·rintro i acc w' ⟨rfl,rfl⟩
  refine⟨hp,λhi=>?_⟩
  have hle:((xs.take i).flatMap g).length≤(xs.flatMap g).length:=by
   have:xs.flatMap g=(xs.take i).flatMap g++(xs.drop i).flatMap g:=by rw[<- xS,List.take_append_drop]
   rw[this,vJ];omega
  rw[vJ];omega
 ·rintro i d acc w' hd ⟨rfl,rfl⟩
  rw[hsrc,vH]at hd
  cases q:xs[i]? with
  | none=>rw[q]at hd;cases hd
  | some x=>
   rw[q]at hd;cases hd
   obtain⟨hi,hx⟩:=zZ.mp q
   have ht:xs.take (i+1)=xs.take i++[x]:=by rw[xT,q];rfl
   refine hs x (by rw[<- hx];exact yT hi) _ ?_ (λacc' w''=>acc'=acc0++(xs.take (i+1)).flatMap g/\w''=w') ⟨?_,rfl⟩
   ·have hle:((xs.take (i+1)).flatMap g).length≤(xs.flatMap g).length:=by
     have:xs.flatMap g=(xs.take (i+1)).flatMap g++(xs.drop (i+1)).flatMap g:=by rw[<- xS,List.take_append_drop]
     rw[this,vJ];omega
    rw[ht,xS,vJ]at hle
    simp only[xU,List.flatMap_nil,wY]at hle
    rw[vJ];omega
   ·rw[ht,xS,uG];simp
 ·rintro acc w' ⟨rfl,rfl⟩
  rw[hsrc,lmp,yR]
  exact hk
def dNext:DTS:=λE s=>E.nx s
def dSeq(t u:DTS):DTS:=λE s=>t { E with nx:=u E } s
theorem Zbd:RS K tNext dNext:=λG s σ H D E r p q=>p.nx s G σ H (Same.refl G) r q
theorem Zac{t u:TS}{d e:DTS}(h:RS K t d)(q:RS K u e):RS K (tSeq t u) (dSeq d e):=by
 intro G s σ H D E r p z
 refine h G s σ H _ { E with nx:=e E } r ⟨λs' G' σ' H' e1 r1 z1=>?_,p.rt,p.bk,p.ct⟩ z
 exact q G' s' σ' H' D E r1 (p.same e1) z1
def dBreak:DTS:=λE s=>E.bk s
def dCont:DTS:=λE s=>E.ct s
theorem Zru:RS K tBreak dBreak:=λG s σ H D E r p q=>p.bk s G σ H (Same.refl G) r q
def dDrop(d:DTE):DTS:=λE s=>d s λ_ s1=>E.nx s1
theorem Ze1{t:TE}{d:DTE}(h:RE K t d):RS K (tDrop t) (dDrop d):=λG s σ H D E r p q=>
 h.ok G s σ H _ r (h.mo _ _ _ (λv s1 q G1 H1 x e1 r1 v1=>p.nx s1 G1 σ H1 e1 r1 q) q)
def dRet(d:DTE):DTS:=λE s=>d s E.rt
theorem Zbc{t:TE}{d:DTE}(h:RE K t d):RS K (tRet t) (dRet d):=λG s σ H D E r p q=>
 h.ok G s σ H _ r (h.mo _ _ _ (λv s1 q G1 H1 x e1 r1 v1=>p.rt v s1 G1 σ H1 x e1 r1 v1 q) q)
def dRetN:DTS:=λE s=>E.rt (.d .none) s
def dIfS(c:DTT)(t u:DTS):DTS:=λE s=>c s λb s1=>if b=true then t E s1 else u E s1
theorem Zd2{c:TT}{t u:TS}{dc:DTT}{d e:DTS}(hc:RT K c dc)(h:RS K t d)(q:RS K u e):RS K (tIfS c t u) (dIfS dc d e):=by
 intro G s σ H D E r p z
 refine hc.ok G s σ H _ r (hc.mo _ _ _ (λb s1 z G1 H1 e1 r1=>?_) z)
 cases b
 ·exact q G1 s1 σ H1 D E r1 (p.same e1) z
 ·exact h G1 s1 σ H1 D E r1 (p.same e1) z
def dAsg(d:DTE)(g:DTG):DTS:=λE s=>d s λv s1=>g v s1 E.nx
theorem Zbb{t:TE}{g:TG}{d:DTE}{dg:DTG}(h:RE K t d)(hg:RG K g dg):RS K (tAsg t g) (dAsg d dg):=λG s σ H D E r p q=>
 h.ok G s σ H _ r (h.mo _ _ _ (λv s1 q G1 H1 x e1 r1 v1=>hg.ok G1 s1 σ H1 v x _ r1 v1 (hg.mo _ _ _ _ (λs2 q G2 σ2 H2 e2 r2=>p.nx s2 G2 σ2 H2 (e1.trans e2) r2 q) q)) q)
def dPar(i j:Nat)(d:DTA):DTS:=λE s=>d s λvs s1=>match vs with | [v,w]=>E.nx ((s1.set i v).set j w)|_=>False
theorem lenE0{α:Type _}{l:List α}(h:l.length=0):l=[]:=List.eq_nil_of_length_eq_zero h
theorem lenE1{α:Type _}{l:List α}(h:l.length=1):∃a0,l=[a0]:=by
 cases l with
 | nil=>cases h
 | cons a t=>have:=lenE0 (xV h);exact⟨a,by rw[this]⟩
theorem lenE2{α:Type _}{l:List α}(h:l.length=2):∃a0 a1,l=[a0,a1]:=by
 cases l with
 | nil=>cases h
 | cons a t=>obtain⟨b0,rfl⟩:=lenE1 (xV h);exact⟨a,b0,rfl⟩
theorem lenE3{α:Type _}{l:List α}(h:l.length=3):∃a0 a1 a2,l=[a0,a1,a2]:=by
 cases l with
 | nil=>cases h
 | cons a t=>obtain⟨b0,b1,rfl⟩:=lenE2 (xV h);exact⟨a,b0,b1,rfl⟩
theorem lenE4{α:Type _}{l:List α}(h:l.length=4):∃a0 a1 a2 a3,l=[a0,a1,a2,a3]:=by
 cases l with
 | nil=>cases h
 | cons a t=>obtain⟨b0,b1,b2,rfl⟩:=lenE3 (xV h);exact⟨a,b0,b1,b2,rfl⟩
def laterS(u:DTS)(E:DEnds)(s:DS):Prop:=u E s
theorem Zpi{u:DTS}{E:DEnds}{s:DS}(h:u E s):laterS u E s:=h
theorem Zsc(c:DTT)(t u:DTS)(E:DEnds)(s:DS):dIfS c t u E s=c s λb s1=>if b=true then laterS t E s1 else laterS u E s1:=rfl
theorem Zsd(t u:DTS)(E:DEnds)(s:DS):dSeq t u E s=t { E with nx:=laterS u E } s:=rfl
def later(f:DS->Prop)(s:DS):Prop:=f s
theorem Zn2(f:DS->Prop)(e:List (Option Val))(w:OW):later f ⟨e,w⟩=f ⟨e,w⟩:=rfl
def goB(dg:DTG)(v:Val)(db:DTS)(E:DEnds)(s:DS):Prop:=dg v s (db E)
theorem Zsk(dg:DTG)(v:Val)(db:DTS)(E:DEnds)(e:List (Option Val))(w:OW):goB dg v db E ⟨e,w⟩=dg v ⟨e,w⟩ (db E):=rfl
def goW(c:DTT)(db:DTS)(E F:DEnds)(s:DS):Prop:=c s λb s1=>if b=true then db F s1 else E.nx s1
theorem Zsl(c:DTT)(db:DTS)(E F:DEnds)(e:List (Option Val))(w:OW):goW c db E F ⟨e,w⟩=c ⟨e,w⟩ λb s1=>if b=true then db F s1 else E.nx s1:=rfl
theorem iteTT{α:Sort _}(a b:α):(if true=true then a else b)=a:=rfl
theorem iteFF{α:Sort _}(a b:α):(if false=true then a else b)=b:=rfl
def dFor(di:DTI)(dg:DTG)(db:DTS):DTS:=λE s=>di s λsrc s1=>∃I:Nat->DS->Prop,I 0 s1/\(∀i s,I i s->src.2 s.w) /\
 (∀(i:Nat) d s,src.1[i]? = some d->I i s->goB dg (.d d) db { E with nx:=I (i+1),ct:=I (i+1),bk:=E.nx } s)/\∀s,I src.1.length s->later E.nx s
theorem Zde{wi:TI}{g:TG}{tb:TS}{di:DTI}{dg:DTG}{db:DTS}(hi:RI K wi di)(hg:RG K g dg)(hb:RS K tb db):RS K (tFor wi g tb) (dFor di dg db):=by
 intro G s σ H D E r p z
 refine hi.ok G s σ H _ r (hi.mo _ _ _ (λsrc s1 z G1 H1 J e1 r1 hJ=>?_) z)
 obtain⟨ds,P⟩:=src
 obtain⟨I,h0,h3,h1,h2⟩:=z
 dsimp only at hJ h3 h1 h2
 refine⟨λi m σ H=>i+m=ds.length/\∃G s,Same G1 G/\Rel K G s σ H/\I i s,⟨ds.length,zero_add _,G1,s1,Same.refl _,r1,h0⟩,?_⟩
 rintro i m σ H ⟨hm,G,s,e,r,hI⟩
 cases m with
 | zero=>
  have:i=ds.length:=by omega
  subst this
  exact .inl ⟨(hJ G s σ H _ e (h3 _ _ hI) r).2 (wR _),p.nx s G σ H (e1.trans e) r (h2 s hI)⟩
 | succ m=>
  have hlt:i<ds.length:=by omega
  have hd:=gEq hlt
  obtain⟨go,yl⟩:=(hJ G s σ H i e (h3 _ _ hI) r).1 _ hd
  refine .inr ⟨go,λσ' H'=>∃G' s',Same G1 G'/\Rel K G' s' σ' H'/\I (i+1) s',λσ' H' ⟨G',s',q⟩=>⟨m,yD m,by omega,G',s',q⟩,λx H' hy=>?_⟩
  obtain⟨G',e',r',dx⟩:=yl x H' hy
  refine hg.ok G' s σ H' (.d _) x _ r' dx (hg.mo _ _ _ _ (λs2 q G2 σ2 H2 e2 r2=>?_) (h1 i _ s hd hI))
  have E2:=(e.trans e').trans e2
  exact hb G2 s2 σ2 H2 _ { E with nx:=I (i+1),ct:=I (i+1),bk:=E.nx } r2 ⟨λs' G3 σ3 H3 e3 r3 z=>⟨G3,s',E2.trans e3,r3,z⟩,λv s' G3 σ3 H3 x e3=>p.rt v s' G3 σ3 H3 x ((e1.trans E2).trans e3),λs' G3 σ3 H3 e3=>p.nx s' G3 σ3 H3 ((e1.trans E2).trans e3),λs' G3 σ3 H3 e3 r3 z=>⟨G3,s',E2.trans e3,r3,z⟩⟩ q
def dWhile(c:DTT)(db:DTS):DTS:=λE s=>∃I:Nat->DS->Prop,(∃m,I m s)/\∀m s,I m s->goW c db E { E with nx:=λs'=>∃m',m' < m/\I m' s',ct:=λs'=>∃m',m' < m/\I m' s',bk:=E.nx } s
theorem Zrv{c:TT}{tb:TS}{dc:DTT}{db:DTS}(hc:RT K c dc)(hb:RS K tb db):RS K (tWhile c tb) (dWhile dc db):=by
 intro G s σ H D E r p z
 obtain⟨I,⟨m,h0⟩,h1⟩:=z
 refine⟨λm σ H=>∃G' s',Same G G'/\Rel K G' s' σ H/\I m s',⟨m,G,s,Same.refl G,r,h0⟩,?_⟩
 rintro m σ H ⟨G1,s1,e1,r1,hI⟩
 refine hc.ok G1 s1 σ H _ r1 (hc.mo _ _ _ (λb s2 z G2 H2 e2 r2=>?_) (h1 m s1 hI))
 cases b
 ·exact p.nx s2 G2 σ H2 (e1.trans e2) r2 z
 ·refine⟨λσ' H'=>∃m',m' < m/\∃G' s',Same G G'/\Rel K G' s' σ' H'/\I m' s',λσ' H' q=>q,?_⟩
  have E2:=e1.trans e2
  exact hb G2 s2 σ H2 _ { E with nx:=λs'=>∃m',m' < m/\I m' s',ct:=λs'=>∃m',m' < m/\I m' s',bk:=E.nx } r2 ⟨λs' G3 σ3 H3 e3 r3 ⟨m',hm,z⟩=>⟨m',hm,G3,s',E2.trans e3,r3,z⟩,λv s' G3 σ3 H3 x e3=>p.rt v s' G3 σ3 H3 x (E2.trans e3),λs' G3 σ3 H3 e3=>p.nx s' G3 σ3 H3 (E2.trans e3),λs' G3 σ3 H3 e3 r3 ⟨m',hm,z⟩=>⟨m',hm,G3,s',E2.trans e3,r3,z⟩⟩ z
abbrev DSp:=List Val->OW->(Val->OW->Prop)->Prop
def spD(K:Frag)(f:DSp):Sp:=λvs H Q _=>∃(G:Hp) (w:OW) (as:List Val),Same G H/\OwnOk K G w H/\VRs K G as vs/\f as w (λv w'=>∀G' H' x,Same G G'->Same G' H'->OwnOk K G' w' H'->VR K G' v x->Q x H')
def dCall(f:DSp)(da:DTA):DTE:=λs k=>da s λvs s1=>f vs s1.w (λv w'=>k v ⟨s1.e,w'⟩)
def MoS(f:DSp):Prop:=∀vs w (k k':Val->OW->Prop),(∀v w',k v w'->k' v w')->f vs w k->f vs w k'
theorem Zb4{f:DSp}{t:TA}{da:DTA}(hm:MoS f)(ha:RA K t da):RE K (tCall (spD K f) [] E0 t) (dCall f da):=by
 refine⟨λs Q Q' z q=>ha.mo _ _ _ (λvs s1 q=>hm vs s1.w _ _ (λv w' q=>z _ _ q) q) q,λG s σ H Q r q=>ha.ok G s σ H _ r (ha.mo _ _ _ (λvs s1 q G1 H1 xs e1 r1 v1=>?_) q)⟩
 refine⟨G1,s1.w,vs,r1.sub,r1.own,by rw[wY];exact v1,hm vs s1.w _ _ (λv w' q G2 H2 x e2 s2 o2 x2=>?_) q⟩
 exact q G2 H2 x (e1.trans e2) ⟨s2,o2,r1.sl.same e2⟩ x2
theorem VRs.get{vs:List Val}{xs:List V}(h:VRs K G vs xs)(i:Nat):(∃v x,vs[i]? = some v/\xs[i]? = some x/\VR K G v x)\/(vs[i]? = none/\xs[i]? = none):=by
 induction h generalizing i with
 | nil=>exact .inr ⟨rfl,rfl⟩
 | cons a t ih=>
  cases i with
  | zero=>exact .inl ⟨_,_,rfl,rfl,a⟩
  | succ i=>simpa using ih i
theorem VRs.pick{na nk:Nat}{pick:List (Bool×Nat)}{vs us:List Val}{xs ys:List V}(h:VRs K G vs xs)(q:VRs K G us ys):VRs K G (gaP na nk pick vs us) (gaP na nk pick xs ys):=by
 unfold gaP
 rw[h.length,q.length]
 split
 ·induction pick with
  | nil=>exact .nil
  | cons p t ih=>
   rw[zS,zS]
   cases p.1 with
   | true=>
    rcases h.get p.2 with ⟨a,b,e1,e2,z⟩|⟨e1,e2⟩
    ·simp only[vQ,e1,e2];exact .cons z ih
    ·simp only[vQ,e1,e2];exact ih
   | false=>
    rcases q.get p.2 with ⟨a,b,e1,e2,z⟩|⟨e1,e2⟩
    ·simp only[uP,vP,e1,e2];exact .cons z ih
    ·simp only[uP,vP,e1,e2];exact ih
 ·exact .nil
def dCallK(f:DSp)(na nk:Nat)(pick:List (Bool×Nat))(da dk:DTA):DTE:=λs k=>da s λvs s1=>dk s1 λus s2=>f (gaP na nk pick vs us) s2.w (λv w'=>k v ⟨s2.e,w'⟩)
theorem Znc{f:DSp}{na nk:Nat}{pick:List (Bool×Nat)}{t tk:TA}{da dk:DTA}(hm:MoS f)(ha:RA K t da)(hk:RA K tk dk):RE K (tCallK (spD K f) (gaP na nk pick) E0 t tk) (dCallK f na nk pick da dk):=by
 refine⟨λs Q Q' z q=>ha.mo _ _ _ (λvs s1 q=>hk.mo _ _ _ (λus s2 q=>hm _ s2.w _ _ (λv w' q=>z _ _ q) q) q) q,λG s σ H Q r q=>ha.ok G s σ H _ r (ha.mo _ _ _ (λvs s1 q G1 H1 xs e1 r1 v1=>?_) q)⟩
 refine hk.ok G1 s1 σ H1 _ r1 (hk.mo _ _ _ (λus s2 q G2 H2 ys e2 r2 v2=>?_) q)
 refine⟨G2,s2.w,_,r2.sub,r2.own,(v1.same e2).pick v2,hm _ s2.w _ _ (λv w' q G3 H3 x e3 s3 o3 x3=>?_) q⟩
 exact q G3 H3 x ((e1.trans e2).trans e3) ⟨s3,o3,r2.sl.same e3⟩ x3
def startD(N:List Str)(as:List Val):List (Option Val):=as.map some++List.replicate (N.length-as.length) none
theorem Zhx{N:List Str}{as:List Val}{vs:List V}(h:VRs K G as vs):SL K G (startD N as) (start N vs):=by
 refine⟨by simp[startD,start,h.length],λi v e=>?_⟩
 unfold startD at e
 have hl:i<as.length:=by
  refine xW λhn=>?_
  rw[List.getElem?_append_right (by simpa using Nat.le_of_not_lt hn)]at e
  obtain⟨_,e2⟩:=zZ.mp e
  rw[List.getElem_replicate]at e2
  cases e2
 rw[vG (by simpa using hl),vH]at e
 rcases h.get i with ⟨a,x,e1,e2,r⟩|⟨e1,e2⟩
 ·rw[e1]at e
  cases e
  refine⟨x,?_,r⟩
  unfold start
  rw[vG (by rw[lmp,<- h.length];exact hl),vH,e2];rfl
 ·rw[e1]at e;cases e
def Own.up:Own->Own->Prop
 | .urn m',.urn m=>m'≤m
 | o',o=>o'=o
theorem Own.up.refl(o:Own):Own.up o o:=by cases o<;>simp[Own.up]
theorem Own.up.trans{a b c:Own}(h:Own.up a b)(q:Own.up b c):Own.up a c:=by
 cases a<;>cases b<;>cases c<;>simp_all [Own.up]
 omega
def OW.le(w w':OW):Prop:=∀a o,w a=some o->∃o',w' a=some o'/\Own.up o' o
theorem OW.le.refl(w:OW):w.le w:=λ_ o h=>⟨o,h,Own.up.refl o⟩
theorem OW.le.trans{a b c:OW}(h:a.le b)(q:b.le c):a.le c:=λx o e=>by
 obtain⟨o1,e1,u1⟩:=h x o e
 obtain⟨o2,e2,u2⟩:=q x o1 e1
 exact⟨o2,e2,u2.trans u1⟩
theorem OW.le.free{w w':OW}(h:w.le w'){p:Addr}(q:w' p=none):w p=none:=by
 cases e:w p with
 | none=>rfl
 | some o=>obtain⟨o',e1,_⟩:=h p o e;rw[e1]at q;cases q
theorem OW.le.put{w w':OW}(h:w.le w'){p:Addr}(q:w p=none)(o:Own):w.le (w'.put p o):=λa u e=>by
 have n:a≠p:=λz=>by rw[z,q]at e;cases e
 rw[OW.put_ne n];exact h a u e
theorem OW.le.new{w w':OW}(h:w.le w'){p:Addr}(q:w' p=none)(o:Own):w.le (w'.put p o):=h.put (h.free q) o
theorem OW.le.urn{w w':OW}{u:Addr}{m m':Nat}(h:(w.put u (.urn m)).le w')(le:m≤m'):(w.put u (.urn m')).le w':=λa o e=>by
 by_cases z:a=u
 ·subst z
  rw[OW.put_same]at e;cases e
  obtain⟨o1,e1,u1⟩:=h a _ OW.put_same
  refine⟨o1,e1,?_⟩
  cases o1<;>simp[Own.up]at u1 |-
  omega
 ·rw[OW.put_ne z]at e
  exact h a o (by rw[OW.put_ne z];exact e)
theorem OW.le.urn'{w w':OW}{u:Addr}{m m':Nat}(h:w.le w')(le:m≤m'):(w.put u (.urn m')).le (w'.put u (.urn m)):=λa o e=>by
 by_cases z:a=u
 ·subst z
  rw[OW.put_same]at e;cases e
  exact⟨_,OW.put_same,le⟩
 ·rw[OW.put_ne z]at e |-
  exact h a o e
def OW.del(w:OW)(a:Addr):OW:=λb=>if b=a then none else w b
theorem OW.del_ne{w:OW}{a b:Addr}(h:b≠a):w.del a b=w b:=by simp[OW.del,h]
theorem OW.le.del{w w':OW}(h:w.le w'){p:Addr}(q:w p=none):w.le (w'.del p):=λa u e=>by
 have n:a≠p:=λz=>by rw[z,q]at e;cases e
 rw[OW.del_ne n];exact h a u e
theorem OwnAt.up{a:Addr}{o o':Own}(h:OwnAt K G H a o')(u:Own.up o' o):OwnAt K G H a o:=by
 cases o'<;>cases o<;>simp only[Own.up]at u<;>first|exact Urn.mono h u|(cases u;exact h)|cases u
theorem OwnOk.le{w w':OW}(h:OwnOk K G w' H)(q:w.le w'):OwnOk K G w H:=λa o e=>by
 obtain⟨o',e1,u⟩:=q a o e
 exact⟨(h a o' e1).1,(h a o' e1).2.up u⟩
theorem Dn.data{P:Program}{w:World}{mg:Str->Option Value}{base:Heap}{x:Str}{st:Stmt}{N ps:List Str}{k:Nat}{f:DSp}(U:∃a fd,Fun K x x st a fd/\mg x=some (.ref a))(S:FnScope N ps (defScope st))(len:∀vs w k,f vs w k->vs.length=ps.length) 
  (hbody:∀(a:Addr) (cdv:Value) (A:Around) (outer:List Env) (s:Shared) (H:Hp) (E:XK),Room k (A.deeper (envOfC x (defScope st) s.heap.objs.size a cdv)) ->
   ∃t d,PSs (cxOf CX0 P w K mg base N x (defScope st) a cdv A outer s H E).nox (defBody st) t/\RS K t d/\∀(as:List Val) (o:OW) (q:Val->OW->Prop),f as o q->d { nx:=λs=>∃w',OW.le w' s.w/\q (.d .none) w',rt:=λv s=>∃w',OW.le w' s.w/\q v w' } ⟨startD N as,o⟩):Dn P w K mg base (k+1) x st ps (spD K f):=by
 refine Dn.of U S (λvs H Q E h=>?_) (λa cdv A outer s H vs Q E hr h=>?_)
 ·obtain⟨G,o,as,_,_,h1,h2⟩:=h
  rw[<- h1.length];exact len _ _ _ h2
 ·obtain⟨G,o,as,h1,h2,h3,h4⟩:=h
  obtain⟨t,d,q1,q2,q3⟩:=hbody a cdv A outer s H E hr
  refine⟨t,q1,q2 G ⟨startD N as,o⟩ (start N vs) H _ { nx:=λs=>∃w',OW.le w' s.w/\_,rt:=λv s=>∃w',OW.le w' s.w/\_ } ⟨h1,h2,Zhx h3⟩ ⟨λs' G' σ' H' e r z=>?_,λv s' G' σ' H' x e r v1 z=>?_,λ_ _ _ _ _ _ z=>False.elim z,λ_ _ _ _ _ _ z=>False.elim z⟩ (q3 as o _ h4)⟩
  ·obtain⟨w',l,z⟩:=z
   exact z G' H' .non e r.sub (r.own.le l) Zll
  ·obtain⟨w',l,z⟩:=z
   exact z G' H' x e r.sub (r.own.le l) v1
end
section
variable {X:Cx}{K:Frag}{G G' H H':Hp}{s:DS}{σ:St}
def TyW(K:Frag)(H:Hp)(x:V)(t:Value):Prop:=TyOf K H x t\/∃a ys,x=.ref a/\SqT K H a ys/\t=.type "tuple"
theorem Zec:CallR X (.builtin "isinstance") (λxs H Q=>∃x t c b,xs=[x,.ty c]/\TyW X.K H x t/\PySem.W.kitOne X.K t (.type c)=some b/\Q (.bl b) H):=by
 rintro pins s σ H xs us Q I r ⟨x,t,c,b,rfl,ty,e,q⟩
 rcases ty with ty|⟨a,ys,rfl,hs,rfl⟩
 ·exact Zqv pins s σ H _ us Q I r ⟨x,t,c,b,rfl,ty,e,q⟩
 ·obtain⟨u,w,rfl,rx,rc⟩:=vals2 r
  cases (show w=Value.type c from rc)
  cases (show u=Value.ref a from rx)
  obtain⟨its,_,⟨o,h1,h2,_⟩,_⟩:=I.tuple hs
  exact wW PySem.W.kitx_tuple I.kIn ⟨o,h1,h2⟩ e (λz=>nomatch z) λtk=>⟨.bl b,H,I.tok _,rfl,q⟩
theorem Zoh(h:X.K=K):CallR X (.builtin "isinstance") (λxs H Q=>∃x t c b,xs=[x,.ty c]/\TyW K H x t/\PySem.W.kitOne K t (.type c)=some b/\Q (.bl b) H):=h▸Zec
theorem Zw5(r:Rel K G s σ H){v:Val}{x:V}{d:PyData}(q:VR K G v x)(e:rdD s.w v=some d):TyW K H x (.type (tyN d)):=by
 unfold rdD at e
 split at e
 ·cases e
  cases d with
  | none=>rw[show x=.non from by unfold VR at q;exact DW.none_inv q];exact .inl .non
  | bool b=>rw[Zkg q];exact .inl (.bl b)
  | int i=>rw[Zcg q];exact .inl (.int i)
  | str x=>rw[Zjo q];exact .inl (.str x)
  | list ds=>obtain⟨a,xs,rfl,h1,_⟩:=Ziu q;exact .inl (.lst (r.sub _ _ h1))
  | tuple ds=>obtain⟨a,xs,rfl,h1,_⟩:=Zjp q;exact .inr ⟨a,xs,rfl,r.sub.tup h1,rfl⟩
  | dict kvs=>
   unfold VR DW at q
   obtain⟨a,ks,rfl,h1,_⟩:=q
   exact .inl (.dT (r.sub _ _ h1))
 ·next a=>
  split at e
  ·next z=>
   cases e
   cases (show x=.ref a from q)
   obtain⟨_,xs,h1,_⟩:=r.own a _ z
   exact .inl (.lst h1)
  ·cases e
 ·cases e
theorem Zhl:RC K (λxs H Q=>∃x t c b,xs=[x,.ty c]/\TyW K H x t/\PySem.W.kitOne K t (.type c)=some b/\Q (.bl b) H) (f2 fIsi):=by
 refine rc2 (λv w s Q Q' h q=>?_) (λG s σ H x y v w Q r v1 v2 h=>?_)
 ·unfold fIsi at q |-;split at q
  ·obtain⟨b,h1,h2⟩:=q;exact⟨b,h1,h _ _ h2⟩
  ·exact q.elim
 ·unfold fIsi at h;split at h
  ·next d c e=>
   obtain⟨b,h1,h2⟩:=h
   cases (show y=.ty c from v2)
   exact⟨x,_,c,b,rfl,Zw5 r v1 e,h1 K,h2.here r Zft⟩
  ·exact h.elim
theorem Zul(r:Rel K G s σ H){a:Addr}{ds:List PyData}(h:s.w a=some (.lst ds)):tyV K "list" (.ref a) H:=by
 obtain⟨_,xs,h1,_⟩:=r.own a _ h
 exact .inl ⟨rfl,xs,SqL.of h1⟩
def dApp(d:DTE)(da:DTA):DTE:=λs k=>d s λv s1=>match v with
 | .own a=>(∃ds,s1.w a=some (.lst ds))/\da s1 λvs s2=>match vs with
  | [.d y]=>∃ds,s2.w a=some (.lst ds)/\ds.length<sizeLine/\k (.d .none) (s2.put a (.lst (ds++[y])))
  | _=>False
 | _=>False
theorem Zfc{to:TE}{t:TA}{d:DTE}{da:DTA}(h:RE K to d)(ha:RA K t da):RE K (tBM K "list" rAppend to t) (dApp d da):=by
 refine⟨λs Q Q' z q=>h.mo _ _ _ (λv s1 q=>?_) q,λG s σ H Q r q=>h.ok G s σ H _ r (h.mo _ _ _ (λv s1 q G1 H1 x e1 r1 v1=>?_) q)⟩
 ·split at q
  ·refine⟨q.1,ha.mo _ _ _ (λvs s2 q=>?_) q.2⟩
   split at q
   ·obtain⟨ds,h1,h2,h3⟩:=q;exact⟨ds,h1,h2,z _ _ h3⟩
   ·exact q.elim
  ·exact q.elim
 ·split at q
  ·next a=>
   cases (show x=.ref a from v1)
   obtain⟨⟨ds0,h0⟩,q⟩:=q
   refine⟨Zul r1 h0,ha.ok G1 s1 σ H1 _ r1 (ha.mo _ _ _ (λvs s2 q G2 H2 xs e2 r2 v2=>?_) q)⟩
   split at q
   ·next y=>
    obtain⟨u,rfl,vy⟩:=v2.one
    obtain⟨ds,h1,h2,h3⟩:=q
    obtain⟨_,ys,h4,h5⟩:=r2.own a _ h1
    refine⟨a,ys,u,rfl,rfl,h4,by rw[<- h5.length];exact h2,h3 G2 _ .non (e1.trans e2) (r2.chg h1 ?_) Zll⟩
    exact⟨ys++[u],Zb2,h5.snoc vy⟩
   ·exact q.elim
  ·exact q.elim
def dExt(d:DTE)(da:DTA):DTE:=λs k=>d s λv s1=>match v with
 | .own a=>(∃ds,s1.w a=some (.lst ds))/\da s1 λvs s2=>match vs with
  | [u]=>∃ds es,s2.w a=some (.lst ds)/\rdM s2.w u=some es/\ds.length+es.length≤sizeLine/\k (.d .none) (s2.put a (.lst (ds++es)))
  | _=>False
 | _=>False
theorem Zr0:fillsInplaceSlot (.type "list") "add" (Operator.Add == .Add)=pure false:=by
 unfold fillsInplaceSlot
 show(typeLookup (.type "list") (dunderI "add")>>=λfi=>pure (fi.isSome&&!isSeqSlot fi))=pure false
 rw[slot_list_iadd.lookup]
 rw[pure_bind]
 have e:((some (Value.builtin "list.__iadd__")).isSome&&!isSeqSlot (some (Value.builtin "list.__iadd__")))=false:=by decide +kernel
 rw[e]
theorem Ziw{M:Model}{A:Around}{E:Value->Shared->Prop}{s:Shared}{a b:Value}{Q:Value->Shared->Prop}(ha:s.TypeIs a "list")(hb:s.TypeIs b "list")(hc:wpAny M A (call (.builtin "list.__iadd__") [a,b]) Q E s):wpAny M A (inplaceOp .Add a b) Q E s:=by
 unfold inplaceOp
 refine wI ?_
 refine wH (vX ha (wH (yC Zr0 ?_)))
 show wpAny M A (if false=true then _ else _) Q E s
 rw[zJ wL]
 refine wH (wpAny_binaryOp1_none (nm:="add") ha hb noFill_list_add ?_)
 refine wH (yC (yV slot_list_iadd.lookup (by decide +kernel)) ?_)
 exact wH (yB hc)
def ipL:TIp:=λx y H Q=>∃l b xs zs,x=.ref l/\y=.ref b/\H l=some (.lst xs)/\H b=some (.lst zs)/\xs.length+zs.length≤sizeLine/\Q (.ref l) (upd H l (.lst (xs++zs)))
theorem Zte:PIp X .Add ipL:=by
 intro pins s σ H x y v u Q I rx ry h
 obtain⟨l,b,xs,zs,rfl,rfl,hH,hB,hz,q⟩:=h
 cases (show v=Value.ref l from rx)
 cases (show u=Value.ref b from ry)
 obtain⟨z,its,n,r,hl,e⟩:=I.lstM hH
 obtain⟨z2,its2,n2,r2,hl2,e2⟩:=I.lstM hB
 have hsz:its.toArray.size+its2.toArray.size≤sizeLine:=by rw[wV,wV];omega
 have hlong:¬(!its.toArray.isEmpty&&Builtin.List.listTooLong (its.toArray.size+its2.toArray.size))=true:=by
  rw[notLongL hsz,Bool.and_false]
  exact wL
 refine Ziw ⟨_,e,rfl⟩ ⟨_,e2,rfl⟩ ?_
 refine uI slot_list_iadd ⟨_,e,rfl⟩ PySem.F.entry_list_iadd (PySem.F.args_list_iadd_2 _ _)
  (AutoSeq1.list___iadd___list_list_0 l its.toArray n b its2.toArray n2 hlong (by rw[wV];omega) (by omega)) ⟨e,e2,?_⟩
 refine⟨.ref l,_,I.lset (its':=its++its2) hH e (by simp) (r.append r2) ?_,rfl,q⟩
 rw[vJ]
 omega
def dAugL(i:Nat)(d:DTE):DTS:=λE s=>match s.e[i]? with
 | some (some (.own a))=>d s λv s1=>∃ds es,s1.w a=some (.lst ds)/\rdM s1.w v=some es/\ds.length+es.length≤sizeLine/\E.nx ((s1.put a (.lst (ds++es))).set i (.own a))
 | _=>False
theorem Zud{i:Nat}{te:TE}{d:DTE}(h:RE K te d):RS K (tAug i te ipL) (dAugL i d):=by
 intro G s σ H D E r p q
 unfold dAugL at q
 split at q
 ·next a z=>
  obtain⟨x,hx,vx⟩:=r.sl.2 i _ z
  cases (show x=.ref a from vx)
  refine⟨_,hx,h.ok G s σ H _ r (h.mo _ _ _ (λv s1 q G1 H1 y e1 r1 v1=>?_) q)⟩
  obtain⟨ds,es,h1,h2,h3,h6⟩:=q
  obtain⟨_,ys,h4,h5⟩:=r1.own a _ h1
  obtain⟨b,zs,rfl,h7,h8⟩:=r1.rdM v1 h2
  refine⟨a,b,ys,zs,rfl,rfl,h4,h7,by rw[<- h5.length,<- h8.length];exact h3,p.nx _ G1 _ _ e1 ((r1.chg h1 (u:=.lst (ds++es)) ?_).set (v:=.own a) rfl i) h6⟩
  exact⟨ys++zs,Zb2,h5.append h8⟩
 ·exact q.elim
def dAugI(f:Int->Int->Int)(i:Nat)(d:DTE):DTS:=λE s=>match s.e[i]? with
 | some (some (.d (.int a)))=>d s λv s1=>match v with | .d (.int b)=>E.nx (s1.set i (.d (.int (f a b))))|_=>False
 | _=>False
def dFrz(i:Nat):DTE:=λs k=>match s.e[i]? with
 | some (some (.own a))=>∃ds,s.w a=some (.lst ds)/\k (.d (.list ds)) ⟨s.e.set i (some (.d (.list ds))),s.w.del a⟩
 | _=>False
theorem Zgs{α:Type}{l:List α}{i:Nat}{x:α}(h:l[i]? = some x):l.set i x=l:=by
 obtain⟨hi,e⟩:=zZ.mp h
 rw[<- e];exact List.set_getElem_self hi
theorem Zsr(i:Nat):RE K (tVar i) (dFrz i):=by
 refine⟨λs Q Q' h q=>?_,λG s σ H Q r h=>?_⟩
 ·unfold dFrz at q |-;split at q
  ·obtain⟨ds,h1,h2⟩:=q;exact⟨ds,h1,h _ _ h2⟩
  ·exact q.elim
 ·unfold dFrz at h;split at h
  ·next a z=>
   obtain⟨ds,h1,h2⟩:=h
   obtain⟨x,hx,vx⟩:=r.sl.2 i _ z
   cases (show x=.ref a from vx)
   obtain⟨g0,xs,h3,h4⟩:=r.own a _ h1
   have S:=Zcf g0 (.lst xs)
   have D:DW K (upd G a (.lst xs)) (.list ds) (.ref a):=DW.list Zb2 (h4.same S)
   refine⟨_,hx,h2 (upd G a (.lst xs)) H (.ref a) S ⟨λb o q=>?_,λb o q=>?_,?_⟩ D⟩
   ·by_cases e:b=a
    ·subst e;rw[Zb2]at q;cases q;exact h3
    ·rw[Zb3 e]at q;exact r.sub _ _ q
   ·have nb:b≠a:=λe=>by
     have q':(if b=a then none else s.w b)=some o:=q
     rw[zI e]at q';cases q'
    have q':s.w b=some o:=by
     have q':(if b=a then none else s.w b)=some o:=q
     rwa [zJ nb]at q'
    exact⟨by rw[Zb3 nb];exact(r.own b o q').1,(r.own b o q').2.mono S rfl⟩
   ·have:=(r.sl.same S).set (v:=.d (.list ds)) (x:=.ref a) D i
    rwa [Zgs hx]at this
  ·exact h.elim
theorem Znv{c:Expr}{body:List Stmt}{tc:TT}{tb:TS}{pos:Pos}(hp:PassesOwn (model X.prog X.w) X.A X.env X.xe)(hc:IPT X c tc)(hb:IPSs X body tb):IPS X (.While c body [] pos) (tWhile tc tb):=by
 simp only[Zat,Zav,Zaf]at *
 exact Zrm hp hc hb
theorem Znu{pos:Pos}:IPS X (.Break pos) tBreak:=by rw[Zav];exact Zrl
theorem Zr3{i:Nat}{x:Str}{e:Expr}{te:TE}{op:Operator}{ti:TIp}{pos pos':Pos}(hN:X.N.Nodup)(hi:X.N[i]? = some x)(hx:Loc X.env.scope x)(he:IPE X e te)(ho:PIp X op ti)(hf:X.fn x=true\/X.env.scope.names.lookup x=some .local:=by first|exact .inl rfl|exact .inr rfl|assumption):
  IPS X (.AugAssign (.Name x pos') op e pos) (tAug i te ti):=by
 rw[Zav];rw[Zaq]at he
 exact Zvl hN hi hx he ho hf
theorem Znw{a:Expr}{ta:TE}(ha:IPE X a ta)(he:∀whole,isTrue a X.env whole=(do let v <- whole;standAt a.pos;holding [v] (truthy v)):=by intro _;rfl):
  IPT X a (λσ H Q=>ta σ H λx H'=>∃k,TruV X.K x H' k/\Q k H'):=by
 rw[Zat];rw[Zaq]at ha
 exact Zrp ha he
theorem Zds{es:List Expr}{k:Nat}{t:TGs}{n:Nat}{pos:Pos}(h:X.K=K)(hc:X.calm=true)(hh:IPGs X es t)(hn:(assignEach es X.env).length=n:=by rfl)(hst:(assignEach es X.env).findIdx? (·.1)=none:=by rfl):IPG X (.Tuple es k pos) (gTup K n t):=h▸Zc5 hc hh hn hst
def gMax(t:Bool):Val->DTE:=λv s k=>match (if t then rdT v else rdL s.w v) with|some ds=>(match uIs ds with|some ns=>ns≠[]/\∀m,m∈ns->(∀x∈ns,x≤m)->k (.d (.int m)) s|none=>False)|none=>False
def gMin(t:Bool):Val->DTE:=λv s k=>match (if t then rdT v else rdL s.w v) with|some ds=>(match uIs ds with|some ns=>ns≠[]/\∀m,m∈ns->(∀x∈ns,m≤x)->k (.d (.int m)) s|none=>False)|none=>False
theorem Zvu(r:Rel K G s σ H){t:Bool}{v:Val}{x:V}{ds:List PyData}(q:VR K G v x)(h:(if t then rdT v else rdL s.w v)=some ds):∃a xs,x=.ref a/\SqB K t H a xs/\DWs K G ds xs:=by
 cases t
 ·exact r.rdL q h
 ·exact r.rdT q h
theorem Zu6(t:Bool):RC K (λxs H Q=>∃(a:Addr) (ns:List Int),xs=[.ref a]/\SqB K t H a (ns.map V.int)/\ns≠[]/\∀m,m∈ns->(∀x∈ns,x≤m)->Q (.int m) H) (f1 (gMax t)):=by
 refine rc1 (λv s Q Q' h q=>?_) (λG s σ H x v Q r v1 h=>?_)
 ·unfold gMax at q |-;split at q
  ·split at q
   ·exact⟨q.1,λm a b=>h _ _ (q.2 m a b)⟩
   ·exact q.elim
  ·exact q.elim
 ·unfold gMax at h;split at h
  ·next ds e=>
   split at h
   ·next ns z=>
    obtain⟨a,xs,rfl,h1,h2⟩:=Zvu r v1 e
    rw[Zjn z]at h2
    rw[h2.ints_inv]at h1
    exact⟨a,ns,rfl,h1,h.1,λm a b=>(h.2 m a b).here r Zea⟩
   ·exact h.elim
  ·exact h.elim
theorem Zu8(t:Bool):RC K (λxs H Q=>∃(a:Addr) (ns:List Int),xs=[.ref a]/\SqB K t H a (ns.map V.int)/\ns≠[]/\∀m,m∈ns->(∀x∈ns,m≤x)->Q (.int m) H) (f1 (gMin t)):=by
 refine rc1 (λv s Q Q' h q=>?_) (λG s σ H x v Q r v1 h=>?_)
 ·unfold gMin at q |-;split at q
  ·split at q
   ·exact⟨q.1,λm a b=>h _ _ (q.2 m a b)⟩
   ·exact q.elim
  ·exact q.elim
 ·unfold gMin at h;split at h
  ·next ds e=>
   split at h
   ·next ns z=>
    obtain⟨a,xs,rfl,h1,h2⟩:=Zvu r v1 e
    rw[Zjn z]at h2
    rw[h2.ints_inv]at h1
    exact⟨a,ns,rfl,h1,h.1,λm a b=>(h.2 m a b).here r Zea⟩
   ·exact h.elim
  ·exact h.elim
def gInt1:Val->DTE:=λv s k=>match v with | .d (.int i)=>k (.d (.int i)) s | .d (.bool b)=>k (.d (.int (if b then 1 else 0))) s|_=>False
theorem Zq3:RC K (λxs H Q=>(∃i,xs=[.int i]/\Q (.int i) H)\/∃k,xs=[.bl k]/\Q (.int (if k then 1 else 0)) H) (f1 gInt1):=by
 refine rc1 (λv s Q Q' h q=>?_) (λG s σ H x v Q r v1 h=>?_)
 ·unfold gInt1 at q |-;split at q
  ·exact h _ _ q
  ·exact h _ _ q
  ·exact q.elim
 ·unfold gInt1 at h;split at h
  ·next i=>exact .inl ⟨i,by rw[Zcg v1],h.here r Zea⟩
  ·next b=>exact .inr ⟨b,by rw[Zkg v1],h.here r Zea⟩
  ·exact h.elim
def pureS(P:List Val->PyData->Prop):DSp:=λvs w k=>∃r,P vs r/\k (.d r) w
theorem Zbv{P:List Val->PyData->Prop}:MoS (pureS P):=λvs w k k' h ⟨r,p,q⟩=>⟨r,p,h _ _ q⟩
def urnS(c:Nat)(P:List Val->Prop)(R:List Val->PyData->Prop):DSp:=λvs w k=>match vs with
 | .own u::as=>∃m,w u=some (.urn m)/\(m+c≤1000000/\P as)/\∀r,R as r->k (.d r) (w.put u (.urn (m+c)))
 | _=>False
theorem Zn6{c:Nat}{P:List Val->Prop}{R:List Val->PyData->Prop}:MoS (urnS c P R):=λvs w k k' h q=>by
 unfold urnS at q |-;split at q
 ·obtain⟨m,h1,h2,h3⟩:=q;exact⟨m,h1,h2,λr hr=>h _ _ (h3 r hr)⟩
 ·exact q.elim
theorem Zbw{P:List Val->PyData->Prop}{n:Nat}(h:∀vs r,P vs r->vs.length=n):∀vs w k,pureS P vs w k->vs.length=n:=λvs w k ⟨r,p,_⟩=>h vs r p
theorem Zqo{c:Nat}{P:List Val->Prop}{R:List Val->PyData->Prop}{n:Nat}(h:∀vs,P vs->vs.length=n):∀vs w k,urnS c P R vs w k->vs.length=n+1:=λvs w k q=>by
 unfold urnS at q;split at q
 ·obtain⟨m,_,⟨_,p⟩,_⟩:=q;simp[h _ p]
 ·exact q.elim
def dsUrn:DSp:=λvs w k=>match vs with
 | [.scr ns,.d (.int i)]=>(0≤i/\i≤100)/\∀r,w r=none->k (.own r) (w.put r (.urn 0))
 | _=>False
def dsDraw:DSp:=λvs w k=>match vs with
 | [.own u,.d (.int wd)]=>∃m,w u=some (.urn m)/\(m≤1000000/\0<wd/\wd<1073741824)/\∀d:Int,0≤d->d<wd->k (.d (.int d)) (w.put u (.urn (m+1)))
 | _=>False
theorem Ztg:MoS dsUrn:=λvs w k k' h q=>by
 unfold dsUrn at q |-;split at q
 ·exact⟨q.1,λr hr=>h _ _ (q.2 r hr)⟩
 ·exact q.elim
theorem Zra:MoS dsDraw:=λvs w k k' h q=>by
 unfold dsDraw at q |-;split at q
 ·obtain⟨m,h1,h2,h3⟩:=q;exact⟨m,h1,h2,λd a b=>h _ _ (h3 d a b)⟩
 ·exact q.elim
theorem Zum{vs:List V}{Q:VK}{E:XK}(h:spD K dsUrn vs H Q E):spUrn K vs H Q E:=by
 obtain⟨G,w,as,h1,h2,h3,h4⟩:=h
 unfold dsUrn at h4
 split at h4
 ·next ns i=>
  obtain⟨x,y,rfl,v1,v2⟩:=h3.two
  obtain⟨a,rfl,hs⟩:=v1
  refine⟨a,ns,i,by rw[Zcg v2],h1.seq hs,h4.1.1,h4.1.2,λr H' s' hr U=>?_⟩
  have r0:Rel K G ⟨[],w⟩ [] H:=⟨h1,h2,⟨rfl,λi v e=>by simp at e⟩⟩
  have wr:w r=none:=r0.free hr
  refine h4.2 r wr G H' (.ref r) (Same.refl G) (h1.trans s') (λb o q=>?_) rfl
  by_cases e:b=r
  ·subst e
   rw[OW.put_same]at q;cases q
   exact⟨h1.free hr,U⟩
  ·rw[OW.put_ne e]at q
   obtain⟨u,hu⟩:=(h2 b o q).2.there
   exact⟨(h2 b o q).1,(h2 b o q).2.mono (Same.refl G) (by rw[s' _ _ hu,hu])⟩
 ·exact h4.elim
theorem Zqw{vs:List V}{Q:VK}{E:XK}(h:spD K dsDraw vs H Q E):spDraw vs H Q E:=by
 obtain⟨G,w,as,h1,h2,h3,h4⟩:=h
 unfold dsDraw at h4
 split at h4
 ·next u wd=>
  obtain⟨x,y,rfl,v1,v2⟩:=h3.two
  cases (show x=.ref u from v1)
  obtain⟨m,hm,⟨m1,m2,m3⟩,q⟩:=h4
  obtain⟨gu,U⟩:=h2 u _ hm
  refine⟨u,wd,m,by rw[Zcg v2],U,m1,m2,m3,λd H' d0 d1 sb U'=>?_⟩
  refine q d d0 d1 G H' (.int d) (Same.refl G) (λb o z=>?_) (λb o z=>?_) Zea
  ·exact sb b o (λe=>by rw[e,gu]at z;cases z) (h1 _ _ z)
  ·by_cases e:b=u
   ·subst e
    rw[OW.put_same]at z;cases z
    exact⟨gu,U'⟩
   ·rw[OW.put_ne e]at z
    obtain⟨v,hv⟩:=(h2 b o z).2.there
    exact⟨(h2 b o z).1,(h2 b o z).2.mono (Same.refl G) (by rw[sb b v e hv,hv])⟩
 ·exact h4.elim
theorem Dn.imp{P:Program}{w:World}{mg:Str->Option Value}{base:Heap}{k:Nat}{x:Str}{st:Stmt}{ps:List Str}{sp sp':Sp}(D:Dn P w K mg base k x st ps sp)(h:∀vs H Q E,sp' vs H Q E->sp vs H Q E):Dn P w K mg base k x st ps sp':=by
 obtain⟨f,fd,F,U,m⟩:=D.ex
 exact⟨f,fd,F.imp h,U,m⟩
end
section
variable {Y:Cx}
theorem Zor{X:Cx}{pins:List (Addr×Obj)}{σ:St}{H H':Hp}{s:Shared}{a:Addr}{y v:V}{u r:Value}{A:Around}{E:Value->Shared->Prop}{Q:Unit->Shared->Prop}(hu:A.units+1<cLine)(I:Inv X pins σ H s)(g:DPut H a y v H')(ry:RelV y u)(rv:RelV v r)(h:∀s',Inv X pins σ H' s'->Q () s'):
  wpAny (model X.prog X.w) A (dictSet a u r) Q E s:=by
 rcases g with ⟨kvs,k,e,ey,l,eH⟩|⟨kvs,k,b,e,ey,eb,l,eH⟩
 ·subst ey eH
  obtain⟨z,hd,vs,rel,dd⟩:=Zuq I.hok e
  have hz:vs.length≤sizeLine:=by rw[<- rel.length];exact z
  have hl:(putK kvs k v).length≤sizeLine:=by have:=Zf6 kvs k v;omega
  refine wpAny_dictSet_pairs (hsz:=hz) (Znz ry) dd λh' dd' hs=>h _ ?_
  have he:∃q,h'.get? a=some q:=let ⟨q,_,_,hq,_⟩:=dd';⟨q,hq⟩
  exact Zjv I (by rw[e];exact wX) hs he (Zsf hl hd (rel.put k rv) dd')
 ·subst ey eH
  cases (show u=Value.ref b from ry)
  obtain⟨z,hd,xs,rel,dd⟩:=Zsg I.hok e
  have hz:xs.length≤sizeLine:=by rw[<- zH rel];exact z
  have hl:(putK kvs k v).length≤sizeLine:=by have:=Zf6 kvs k v;omega
  refine Zp1 (Nat.lt_of_succ_lt hu) (Zji I.hok eb) dd hz λh' dd' hs=>h _ ?_
  obtain⟨q,es,hq,h2,h3,h4,_,h5⟩:=dd'
  refine Zjv I (by rw[e];exact wX) hs ⟨q,hq⟩ ⟨hl,hd,_,(rel.put k eb rv).keeps λc ys ec=>?_,q,es,_,hq,h2,h3,h4,h5,rfl⟩
  rw[Zb3 (Zv0 ec e (λz=>nomatch z))]
  exact ec
end
section
variable {X:Cx}
end
def dget(kvs:List (List Int×PyData))(k:List Int):Option PyData:=(kvs.find? λp=>decide (p.1=k)).map (·.2)
def dput(kvs:List (List Int×PyData))(k:List Int)(v:PyData):List (List Int×PyData):=
 if(kvs.any λp=>decide (p.1=k))=true then kvs.map (λp=>if p.1=k then(p.1,v) else p) else kvs++[(k,v)]
section
variable {K:Frag}{G G' H H':Hp}{s:DS}{σ:St}
theorem Zm0{a b:List Int}:a.map (Sum.inl:Int->Key)=b.map Sum.inl↔a=b:=
 ⟨λh=>List.map_inj_right (λ_ _ e=>Sum.inl.inj e) |>.mp h,λh=>by rw[h]⟩
theorem Zel:∀{kvs:List (List Int×PyData)}{ks:List (List Key×V)},DWk K G (kvK kvs) ks ->
  (kvs=[]/\ks=[])\/∃k d r x t,kvs=(k,d)::r/\ks=(k.map Sum.inl,x)::t/\DW K G d x/\DWk K G (kvK r) t
 | [],ks,h=>by
  unfold kvK at h
  rw[uA]at h
  unfold DWk at h
  exact .inl ⟨rfl,h⟩
 | (k,d)::r,ks,h=>by
  unfold kvK at h
  rw[uB]at h
  unfold DWk at h
  obtain⟨ns,x,t,e1,e2,h1,h2⟩:=h
  have e:k=ns:=by
   unfold tI at e2
   have:=PyData.tuple.inj e2
   exact(List.map_inj_right (λ_ _ e=>PyData.int.inj e)).mp this
  subst e
  exact .inr ⟨k,d,r,x,t,rfl,e1,h1,h2⟩
theorem DWk.cons'{k:List Int}{d:PyData}{r:List (List Int×PyData)}{x:V}{t:List (List Key×V)}(h1:DW K G d x)(h2:DWk K G (kvK r) t):DWk K G (kvK ((k,d)::r)) ((k.map Sum.inl,x)::t):=by
 show DWk K G ((tI k,d)::kvK r) _
 unfold DWk
 exact⟨k,x,t,rfl,rfl,h1,h2⟩
theorem DWk.nil':DWk K G (kvK []) []:=by
 show DWk K G [] []
 unfold DWk;rfl
theorem DWk.get:∀{kvs:List (List Int×PyData)}{ks:List (List Key×V)}{k:List Int},DWk K G (kvK kvs) ks ->
  (dget kvs k=none/\valV ks (k.map Sum.inl)=none)\/∃d x,dget kvs k=some d/\valV ks (k.map Sum.inl)=some x/\DW K G d x
 | [],ks,k,h=>by
  rcases Zel h with ⟨_,rfl⟩|⟨_,_,_,_,_,e,_⟩
  ·exact .inl ⟨rfl,rfl⟩
  ·cases e
 | (k0,d)::r,ks,k,h=>by
  rcases Zel h with ⟨e,_⟩|⟨k1,d1,r1,x,t,e,rfl,h1,h2⟩
  ·cases e
  ·cases e
   by_cases c:k0=k
   ·subst c
    exact .inr ⟨d,x,by simp[dget],Zi0 rfl,h1⟩
   ·have c':¬(k0.map (Sum.inl:Int->Key))=k.map Sum.inl:=λz=>c (Zm0.mp z)
    rw[Zhz (p:=(k0.map Sum.inl,x)) c']
    have e:dget ((k0,d)::r) k=dget r k:=by simp[dget,c]
    rw[e]
    exact DWk.get h2
theorem DWk.any:∀{kvs:List (List Int×PyData)}{ks:List (List Key×V)} (k:List Int),DWk K G (kvK kvs) ks->(kvs.any λp=>decide (p.1=k))=ks.any λp=>decide (p.1=k.map Sum.inl)
 | [],ks,k,h=>by
  rcases Zel h with ⟨_,rfl⟩|⟨_,_,_,_,_,e,_⟩
  ·rfl
  ·cases e
 | (k0,d)::r,ks,k,h=>by
  rcases Zel h with ⟨e,_⟩|⟨k1,d1,r1,x,t,e,rfl,h1,h2⟩
  ·cases e
  ·cases e
   rw[xH,xH,DWk.any k h2]
   have:decide (k0=k)=decide ((k0.map (Sum.inl:Int->Key))=k.map Sum.inl):=by
    by_cases c:k0=k
    ·subst c;simp
    ·rw[zF c,zF λz=>c (Zm0.mp z)]
   rw[this]
theorem DWk.repl{k:List Int}{d:PyData}{x:V}(hd:DW K G d x):∀{kvs:List (List Int×PyData)}{ks:List (List Key×V)},DWk K G (kvK kvs) ks ->
  DWk K G (kvK (kvs.map λp=>if p.1=k then(p.1,d) else p)) (ks.map λp=>if p.1=k.map Sum.inl then(p.1,x) else p)
 | [],ks,h=>by
  rcases Zel h with ⟨_,rfl⟩|⟨_,_,_,_,_,e,_⟩
  ·exact DWk.nil'
  ·cases e
 | (k0,d0)::r,ks,h=>by
  rcases Zel h with ⟨e,_⟩|⟨k1,d1,r1,y,t,e,rfl,h1,h2⟩
  ·cases e
  ·cases e
   rw[uB,uB]
   by_cases c:k0=k
   ·subst c
    rw[zI rfl,zI rfl]
    exact DWk.cons' hd (DWk.repl hd h2)
   ·rw[zJ c,zJ λz=>c (Zm0.mp z)]
    exact DWk.cons' h1 (DWk.repl hd h2)
theorem DWk.snoc{k:List Int}{d:PyData}{x:V}(hd:DW K G d x):∀{kvs:List (List Int×PyData)}{ks:List (List Key×V)},DWk K G (kvK kvs) ks->DWk K G (kvK (kvs++[(k,d)])) (ks++[(k.map Sum.inl,x)])
 | [],ks,h=>by
  rcases Zel h with ⟨_,rfl⟩|⟨_,_,_,_,_,e,_⟩
  ·exact DWk.cons' hd DWk.nil'
  ·cases e
 | (k0,d0)::r,ks,h=>by
  rcases Zel h with ⟨e,_⟩|⟨k1,d1,r1,y,t,e,rfl,h1,h2⟩
  ·cases e
  ·cases e
   exact DWk.cons' h1 (DWk.snoc hd h2)
theorem DWk.put{kvs:List (List Int×PyData)}{ks:List (List Key×V)}{k:List Int}{d:PyData}{x:V}(h:DWk K G (kvK kvs) ks)(hd:DW K G d x):DWk K G (kvK (dput kvs k d)) (putK ks (k.map Sum.inl) x):=by
 unfold dput putK
 rw[h.any k]
 split
 ·exact h.repl hd
 ·exact h.snoc hd
theorem DWk.len:∀{kvs:List (List Int×PyData)}{ks:List (List Key×V)},DWk K G (kvK kvs) ks->kvs.length=ks.length
 | [],ks,h=>by
  rcases Zel h with ⟨_,rfl⟩|⟨_,_,_,_,_,e,_⟩
  ·rfl
  ·cases e
 | (k0,d)::r,ks,h=>by
  rcases Zel h with ⟨e,_⟩|⟨k1,d1,r1,x,t,e,rfl,h1,h2⟩
  ·cases e
  ·cases e
   rw[yP,yP,DWk.len h2]
theorem Zl4(r:Same G H){ns:List Int}{y:V}(h:VR K G (.d (tI ns)) y)(n:ns≠[]):∃b,y=.ref b/\H b=some (.tup ((ns.map (Sum.inl:Int->Key)).map kV)):=by
 unfold VR tI DW at h
 obtain⟨a,xs,e,q,D⟩:=h
 have ex:=DWs.ints_inv D
 rcases q with q|⟨z,_⟩
 ·refine⟨a,e,?_⟩
  rw[r _ _ q,ex,xX];rfl
 ·cases ns with
  | nil=>exact absurd rfl n
  | cons=>simp at z
def unK:List (PyData×PyData)->Option (List (List Int×PyData))
 | []=>some []
 | (.tuple ks,d)::r=>match uIs ks,unK r with|some ns,some t=>some ((ns,d)::t)|_,_=>none
 | _::_=>none
@[simp] theorem unK_kvK(kvs:List (List Int×PyData)):unK (kvK kvs)=some kvs:=by
 induction kvs with
 | nil=>rfl
 | cons p r ih=>
  show unK ((tI p.1,p.2)::kvK r)=_
  simp[unK,tI,ih]
theorem Zsw:∀{l:List (PyData×PyData)}{kvs:List (List Int×PyData)},unK l=some kvs->l=kvK kvs
 | [],kvs,h=>by cases h;rfl
 | (.tuple ks,d)::r,kvs,h=>by
  simp only[unK]at h
  split at h
  ·next ns t e1 e2=>
   cases h
   rw[Zsw e2,Zjn e1];rfl
  ·cases h
 | (.none,_)::_,_,h=>by simp[unK]at h
 | (.bool _,_)::_,_,h=>by simp[unK]at h
 | (.int _,_)::_,_,h=>by simp[unK]at h
 | (.str _,_)::_,_,h=>by simp[unK]at h
 | (.list _,_)::_,_,h=>by simp[unK]at h
 | (.dict _,_)::_,_,h=>by simp[unK]at h
def rdK(w:OW):Val->Option (List (List Int×PyData))
 | .d (.dict l)=>unK l
 | .own a=>match w a with|some (.dct kvs)=>some kvs|_=>none
 | _=>none
theorem Rel.rdK(r:Rel K G s σ H){v:Val}{x:V}{kvs:List (List Int×PyData)}(q:VR K G v x)(h:L2.rdK s.w v=some kvs):∃a ks,x=.ref a/\H a=some (.dT ks)/\DWk K G (kvK kvs) ks:=by
 unfold L2.rdK at h
 split at h
 ·rw[Zsw h]at q
  unfold VR DW at q
  obtain⟨a,ks,e,h1,h2⟩:=q
  exact⟨a,ks,e,r.sub _ _ h1,h2⟩
 ·next a=>
  cases (show x=.ref a from q)
  split at h
  ·next z=>
   cases h
   obtain⟨_,ks,h1,h2⟩:=r.own a _ z
   exact⟨a,ks,rfl,h1,h2⟩
  ·cases h
 ·cases h
def keyD:Val->Option (List Int)
 | .d (.tuple (x::r))=>uIs (x::r)
 | _=>none
theorem Zie{v:Val}{ns:List Int}(h:keyD v=some ns):v=.d (tI ns)/\ns≠[]:=by
 unfold keyD at h
 split at h
 ·next x r=>
  have e:=Zjn h
  refine⟨by rw[e];rfl,λz=>?_⟩
  rw[z]at e;cases e
 ·cases h
@[simp] theorem keyD_tI(x:Int)(r:List Int):keyD (.d (tI (x::r)))=some (x::r):=by
 show uIs ((x::r).map .int)=_
 exact uIs_map _
theorem Zbk{ns:List Int}(h:ns≠[]):keyD (.d (tI ns))=some ns:=by
 cases ns with
 | nil=>exact absurd rfl h
 | cons x r=>exact keyD_tI x r
def dDGet(da db:DTE):DTE:=λs k=>da s λv s1=>db s1 λu s2=>∃kvs ns x,rdK s2.w v=some kvs/\keyD u=some ns/\dget kvs ns=some x/\k (.d x) s2
theorem Zeo{ta tb:TE}{da db:DTE}(ha:RE K ta da)(hb:RE K tb db):RE K (tDGet ta tb) (dDGet da db):=by
 refine⟨λs Q Q' h q=>ha.mo _ _ _ (λv s1 q1=>hb.mo _ _ _ (λw s2 ⟨kvs,ns,x,h1,h2,h3,h4⟩=>⟨kvs,ns,x,h1,h2,h3,h _ _ h4⟩) q1) q,λG s σ H Q r h=>?_⟩
 refine ha.ok G s σ H _ r (ha.mo _ _ _ (λv s1 q G1 H1 x e1 r1 v1=>?_) h)
 refine hb.ok G1 s1 σ H1 _ r1 (hb.mo _ _ _ (λw s2 q2 G2 H2 y e2 r2 v2=>?_) q)
 obtain⟨kvs,ns,d,h1,h2,h3,h4⟩:=q2
 obtain⟨a,ks,rfl,h5,h6⟩:=r2.rdK (v1.same e2) h1
 obtain⟨e,n⟩:=Zie h2
 subst e
 obtain⟨b,rfl,hb'⟩:=Zl4 r2.sub v2 n
 rcases h6.get (k:=ns) with ⟨z,_⟩|⟨d',z,g1,g2,g3⟩
 ·rw[h3]at z;cases z
 ·rw[h3]at g1;cases g1
  exact⟨a,z,rfl,by rw[<- g2];exact DGet.t h5 hb',h4 G2 H2 z (e1.trans e2) r2 g3⟩
def dDIn(neg:Bool)(db da:DTE):DTE:=λs k=>db s λu s1=>da s1 λv s2=>∃kvs ns,rdK s2.w v=some kvs/\keyD u=some ns/\k (.d (.bool (if neg then !(dget kvs ns).isSome else(dget kvs ns).isSome))) s2
theorem Zvv{ta tb:TE}{da db:DTE}(hb:RE K tb db)(ha:RE K ta da):RE K (tDIn tb ta) (dDIn false db da):=by
 refine⟨λs Q Q' h q=>hb.mo _ _ _ (λv s1 q1=>ha.mo _ _ _ (λw s2 ⟨kvs,ns,h1,h2,h4⟩=>⟨kvs,ns,h1,h2,h _ _ h4⟩) q1) q,λG s σ H Q r h=>?_⟩
 refine hb.ok G s σ H _ r (hb.mo _ _ _ (λu s1 q G1 H1 y e1 r1 v1=>?_) h)
 refine ha.ok G1 s1 σ H1 _ r1 (ha.mo _ _ _ (λv s2 q2 G2 H2 x e2 r2 v2=>?_) q)
 obtain⟨kvs,ns,h1,h2,h4⟩:=q2
 obtain⟨a,ks,rfl,h5,h6⟩:=r2.rdK v2 h1
 obtain⟨e,n⟩:=Zie h2
 subst e
 obtain⟨b,rfl,hb'⟩:=Zl4 r2.sub (v1.same e2) n
 refine⟨a,_,rfl,DGet.t h5 hb',?_⟩
 have ee:(valV ks (ns.map Sum.inl)).isSome=(dget kvs ns).isSome:=by
  rcases h6.get (k:=ns) with ⟨z1,z2⟩|⟨d',z,g1,g2,g3⟩
  ·rw[z1,z2];rfl
  ·rw[g1,g2];rfl
 rw[ee]
 exact h4 G2 H2 _ (e1.trans e2) r2 Zft
theorem Zq6{ta tb:TE}{da db:DTE}(hb:RE K tb db)(ha:RE K ta da):RE K (tDNotIn tb ta) (dDIn true db da):=by
 refine⟨λs Q Q' h q=>hb.mo _ _ _ (λv s1 q1=>ha.mo _ _ _ (λw s2 ⟨kvs,ns,h1,h2,h4⟩=>⟨kvs,ns,h1,h2,h _ _ h4⟩) q1) q,λG s σ H Q r h=>?_⟩
 refine hb.ok G s σ H _ r (hb.mo _ _ _ (λu s1 q G1 H1 y e1 r1 v1=>?_) h)
 refine ha.ok G1 s1 σ H1 _ r1 (ha.mo _ _ _ (λv s2 q2 G2 H2 x e2 r2 v2=>?_) q)
 obtain⟨kvs,ns,h1,h2,h4⟩:=q2
 obtain⟨a,ks,rfl,h5,h6⟩:=r2.rdK v2 h1
 obtain⟨e,n⟩:=Zie h2
 subst e
 obtain⟨b,rfl,hb'⟩:=Zl4 r2.sub (v1.same e2) n
 refine⟨a,_,rfl,DGet.t h5 hb',?_⟩
 have ee:(valV ks (ns.map Sum.inl)).isSome=(dget kvs ns).isSome:=by
  rcases h6.get (k:=ns) with ⟨z1,z2⟩|⟨d',z,g1,g2,g3⟩
  ·rw[z1,z2];rfl
  ·rw[g1,g2];rfl
 rw[ee]
 exact h4 G2 H2 _ (e1.trans e2) r2 Zft
def dDNew(o:Bool):DTE:=λs k=>match o with
 | true=>∀p,s.w p=none->k (.own p) (s.put p (.dct []))
 | false=>k (.d (.dict [])) s
theorem Zq5(o:Bool):RE K tDNewT (dDNew o):=by
 refine⟨λs Q Q' h q=>?_,λG s σ H Q r h p hp=>?_⟩
 ·cases o
  ·exact h _ _ q
  ·exact λp hp=>h _ _ (q p hp)
 ·have hg:G p=none:=r.sub.free hp
  cases o
  ·exact h (upd G p (.dT [])) (upd H p (.dT [])) (.ref p) (Zcf hg _) (r.new hp _) (by unfold VR DW;exact⟨p,[],rfl,Zb2,by unfold DWk;rfl⟩)
  ·exact h p (r.free hp) G (upd H p (.dT [])) (.ref p) (Same.refl G) (r.newOwn hp ⟨[],Zb2,DWk.nil'⟩) rfl
def dDPut(da dk dv:DTE):DTS:=λE s=>dv s λv s1=>da s1 λu s2=>dk s2 λkk s3=>match u,v with
 | .own a,.d x=>∃kvs ns,s3.w a=some (.dct kvs)/\keyD kk=some ns/\kvs.length<sizeLine/\E.nx (s3.put a (.dct (dput kvs ns x)))
 | _,_=>False
theorem Zk8{td ty tv:TE}{da dk dv:DTE}(ha:RE K td da)(hk:RE K ty dk)(hv:RE K tv dv):RS K (sDPut td ty tv) (dDPut da dk dv):=by
 intro G s σ H D E r p q
 refine hv.ok G s σ H _ r (hv.mo _ _ _ (λv s1 q G1 H1 x e1 r1 v1=>?_) q)
 refine ha.ok G1 s1 σ H1 _ r1 (ha.mo _ _ _ (λu s2 q G2 H2 y e2 r2 v2=>?_) q)
 refine hk.ok G2 s2 σ H2 _ r2 (hk.mo _ _ _ (λkk s3 q G3 H3 z e3 r3 v3=>?_) q)
 cases u with
 | own a=>cases v with
  | d x'=>
    cases (show y=.ref a from v2)
    obtain⟨kvs,ns,h1,h2,h3,h4⟩:=q
    obtain⟨_,ks,h5,h6⟩:=r3.own a _ h1
    obtain⟨e,n⟩:=Zie h2
    subst e
    obtain⟨b,rfl,hb⟩:=Zl4 r3.sub v3 n
    refine⟨a,_,rfl,DPut.t h5 hb (by rw[<- h6.len];exact h3),p.nx _ G3 σ _ ((e1.trans e2).trans e3) (r3.chg h1 ?_) h4⟩
    exact⟨_,Zb2,h6.put (v1.same (e2.trans e3))⟩
  | _=>exact False.elim q
 | _=>exact False.elim q
def dDComp(o:Bool)(di:DTI)(cap:List (Option Nat))(dg:DTG)(dt:DTT)(dk dv:DTE):DTE:=λs k=>di s λsrc s1=>∀p,s1.w p=none->∃I:Nat->OW->Prop,I 0 (s1.w.put p (.dct []))/\(∀i w,I i w->src.2 w) /\
 (∀(i:Nat) d w,src.1[i]? = some d->I i w->dg (.d d) ⟨captD cap s1.e,w⟩ λs2=>dt s2 λb s3=>if b=true then dk s3 (λkk s4=>dv s4 λvv s5=>match vv with
  | .d x=>∃kvs ns,s5.w p=some (.dct kvs)/\keyD kk=some ns/\kvs.length<sizeLine/\L2.ext (captD cap s1.e) s5.e/\I (i+1) (s5.w.put p (.dct (dput kvs ns x)))
  | _=>False) else L2.ext (captD cap s1.e) s3.e/\I (i+1) s3.w) /\
 ∀w,I src.1.length w->∃kvs,w p=some (.dct kvs)/\(match o with|true=>k (.own p) ⟨s1.e,w⟩|false=>k (.d (.dict (kvK kvs))) ⟨s1.e,w.del p⟩)
theorem Rel.frzD(r:Rel K G s σ H){a:Addr}{kvs:List (List Int×PyData)}(h1:s.w a=some (.dct kvs)):∃ks,Same G (upd G a (.dT ks))/\Rel K (upd G a (.dT ks)) ⟨s.e,s.w.del a⟩ σ H/\VR K (upd G a (.dT ks)) (.d (.dict (kvK kvs))) (.ref a):=by
 obtain⟨g0,ks,h3,h4⟩:=r.own a _ h1
 have S:=Zcf g0 (.dT ks)
 refine⟨ks,S,⟨λb o q=>?_,λb o q=>?_,r.sl.same S⟩,?_⟩
 ·by_cases e:b=a
  ·subst e;rw[Zb2]at q;cases q;exact h3
  ·rw[Zb3 e]at q;exact r.sub _ _ q
 ·have nb:b≠a:=λe=>by
   have q':(if b=a then none else s.w b)=some o:=q
   rw[zI e]at q';cases q'
  have q':s.w b=some o:=by
   have q':(if b=a then none else s.w b)=some o:=q
   rwa [zJ nb]at q'
  exact⟨by rw[Zb3 nb];exact(r.own b o q').1,(r.own b o q').2.mono S rfl⟩
 ·unfold VR DW;exact⟨a,ks,rfl,Zb2,DWk.same S h4⟩
end
section
variable {X:Cx}{K:Frag}
theorem Zco{o i:Expr}{td ty:TE}{pos:Pos}(hu:X.A.units+1<cLine)(ho:IPE X o td)(hi:IPE X i ty)(hs:NoSl i):IPE X (.Subscript o i pos) (tDGet td ty):=by
 simp only[Zaq]at *;exact Ztp hu ho hi hs
theorem Zjf{pos:Pos}:IPE X (.Dict [] [] pos) tDNewT:=by rw[Zaq];exact Zrh
theorem Zgo{o i value:Expr}{td ty tv:TE}{pos pos':Pos}(hu:X.A.units+1<cLine)(ho:IPE X o td)(hi:IPE X i ty)(hv:IPE X value tv)(hs:swapsWith value (some (.Subscript o i pos')) pos.line X.env=pure false:=by rfl):IPS X (.Assign [.Subscript o i pos'] value pos) (sDPut td ty tv):=by
 simp only[Zaq,Zav]at *;exact Ztx hu ho hi hv hs
theorem Zr4{o i:Expr}{td ty:TE}{pos:Pos}(hu:X.A.units+1<cLine)(hi:IPE X i ty)(ho:IPE X o td)(h1:behindInMarks .In o=false:=by first|exact nobehind _ (by decide) (by decide)|rfl):IPT X (.Compare i [.In] [o] pos) (tB (tDIn ty td)):=by
 simp only[Zaq,Zat]at *;exact Zsq (Zv5 hu hi ho) h1
theorem Zlz{o i:Expr}{td ty:TE}{pos:Pos}(hu:X.A.units+1<cLine)(hi:IPE X i ty)(ho:IPE X o td)(h1:behindInMarks .NotIn o=false:=by first|exact nobehind _ (by decide) (by decide)|rfl):IPT X (.Compare i [.NotIn] [o] pos) (tB (tDNotIn ty td)):=by
 simp only[Zaq,Zat]at *;exact Zsq (Zpw hu hi ho) h1
end
section
variable {X:Cx}{K:Frag}{G G' H H':Hp}{s:DS}{σ:St}
def isNoneD(w:OW):Val->Option Bool
 | .d .none=>some true
 | .d _=>some false
 | .own _=>some false
 | _=>none
def fIsN(neg:Bool):Val->Val->DTE:=λv u s k=>match isNoneD s.w v,u with
 | some b,.d .none=>k (.d (.bool (if neg then !b else b))) s
 | _,_=>False
theorem Zl2{v:Val}{x:V}{b:Bool}(h:VR K G v x)(e:isNoneD s.w v=some b):decide (x=.non)=b:=by
 unfold isNoneD at e
 split at e
 ·cases e
  rw[show x=.non from by unfold VR at h;exact DW.none_inv h];rfl
 ·next d hd=>
  cases e
  cases d with
  | none=>exact absurd rfl hd
  | bool b=>rw[Zkg h];rfl
  | int i=>rw[Zcg h];rfl
  | str i=>rw[Zjo h];rfl
  | list ds=>obtain⟨a,_,rfl,_⟩:=Ziu h;rfl
  | tuple ds=>obtain⟨a,_,rfl,_⟩:=Zjp h;rfl
  | dict l=>unfold VR DW at h;obtain⟨a,_,rfl,_⟩:=h;rfl
 ·cases e
  rw[show x=.ref _ from h];rfl
 ·cases e
theorem Zvx:RO K (λx y H Q=>y=.non/\Q (.bl (decide (x=.non))) H) (fIsN false):=by
 refine⟨λv w s Q Q' h q=>?_,λG s σ H x y v w Q r v1 v2 h=>?_⟩
 ·unfold fIsN at q |-;split at q
  ·exact h _ _ q
  ·exact q.elim
 ·unfold fIsN at h;split at h
  ·next b e=>
   refine⟨by unfold VR at v2;exact DW.none_inv v2,?_⟩
   rw[Zl2 v1 e];exact h.here r Zft
  ·exact h.elim
theorem Zqa:RO K (λx y H Q=>y=.non/\Q (.bl (!decide (x=.non))) H) (fIsN true):=by
 refine⟨λv w s Q Q' h q=>?_,λG s σ H x y v w Q r v1 v2 h=>?_⟩
 ·unfold fIsN at q |-;split at q
  ·exact h _ _ q
  ·exact q.elim
 ·unfold fIsN at h;split at h
  ·next b e=>
   refine⟨by unfold VR at v2;exact DW.none_inv v2,?_⟩
   rw[Zl2 v1 e];exact h.here r Zft
  ·exact h.elim
def rRepW(K:Frag):R2:=λx y H Q=>∃l k xs,x=.ref l/\y=.int k/\SqT K H l xs/\xs≠[]/\1≤k/\k<2 ^ 63/\xs.length*k.toNat≤sizeLine /\
 (k=1->Q (.ref l) H)/\∀p,H p=none->Q (.ref p) (upd H p (.tup (List.replicate k.toNat xs).flatten))
theorem Zpu:OpR X (binaryOp .Mult) (rRepW X.K):=by
 rintro pins s σ H x y v u Q I rx ry ⟨l,k,xs,rfl,rfl,hq,hne,h1,h2,hz,q1,q2⟩
 cases (show v=Value.ref l from rx)
 obtain⟨t,rfl⟩:=(show ∃t,u=Value.int k t from ry)
 obtain⟨its,rv,ht,hzz⟩:=I.tuple hq
 obtain⟨⟨cls,dd,data,sl⟩,ho,hc,n,hd⟩:=id ht
 simp only at hc hd
 subst hc hd
 have hl:=rv.length
 refine wpAny_binaryOp_repeat_ref (T:="tuple") (U:="int") (by decide) ⟨_,ho,rfl⟩ (λs'=>typeIs_int s' k t) Zh9 PySem.F.fills_int_mul PySem.F.slot_int_rmul Zk6 PySem.F.slot_int_index.lookup
  (uI PySem.F.slot_int_rmul (typeIs_int s k t) PySem.F.entry_int_rmul (PySem.F.args_int_rmul_2 _ _) (Zl0 k t l its.toArray n dd sl) ⟨ho,rfl,⟨_,ho,rfl⟩,?_⟩)
 by_cases e1:k=1
 ·subst e1
  exact uI yU ⟨_,ho,rfl⟩ PySem.F.entry_tuple_mul (PySem.F.args_tuple_mul_2 _ _) (Zlj l its.toArray n dd sl t) ⟨ho,⟨.ref l,H,I,rfl,q1 rfl⟩⟩
 ·refine uI yU ⟨_,ho,rfl⟩ PySem.F.entry_tuple_mul (PySem.F.args_tuple_mul_2 _ _) (Zmn l its.toArray n dd sl t k (by omega) h2 (by
    cases its with
    | nil=>cases rv;exact absurd rfl hne
    | cons a r=>rfl) (by rw[wV,<- hl];exact hz)) ⟨ho,?_⟩
  have e:List.foldl (λx1 x2=>x1++x2) #[] (List.replicate k.toNat its.toArray)=(List.replicate k.toNat its).flatten.toArray:=by
   have:=Zkv its k.toNat []
   rw[xN]at this
   exact this
  rw[e]
  exact⟨.ref s.heap.objs.size,upd H s.heap.objs.size (.tup (List.replicate k.toNat xs).flatten),I.laid (t':=s.toks) (λb o e=>wQ _ e) (wR _) (show ObjOk X.prog X.w _ _ _ (.tup _) from⟨by rw[Ztf,Nat.mul_comm];exact hz,_,rv.rep k.toNat,IsTu.new _ _⟩),rfl,q2 _ I.fresh⟩
def fRepT:Val->Val->DTE:=λv w s k=>match rdT v,w with
 | some ds,.d (.int i)=>(ds≠[]/\1≤i/\i<2 ^ 63/\ds.length*i.toNat≤sizeLine)/\k (.d (.tuple (repD i.toNat ds))) s
 | _,_=>False
theorem Zqb:RO K (rRepW K) fRepT:=by
 refine⟨λv w s Q Q' h q=>?_,λG s σ H x y v w Q r v1 v2 h=>?_⟩
 ·unfold fRepT at q |-;split at q
  ·exact⟨q.1,h _ _ q.2⟩
  ·exact q.elim
 ·unfold fRepT at h;split at h
  ·next ds i e=>
   obtain⟨⟨h1,h2,h3,h4⟩,h⟩:=h
   obtain⟨a,xs,rfl,h5,h6⟩:=r.rdT v1 e
   refine⟨a,i,xs,rfl,Zcg v2,h5,λz=>h1 (h6.nil_of z),h2,h3,by rw[<- h6.length];exact h4,λz=>?_,r.nt (h6.rep _) h⟩
   subst z
   have e1:repD (1:Int).toNat ds=ds:=by show(List.replicate 1 ds).flatten=ds;simp
   rw[e1]at h
   exact h.here r (by rw[<- Zld e];exact v1)
  ·exact h.elim
def gSortI(o:Bool):Val->DTE:=λv s k=>match rdL s.w v with
 | some ds=>(match uIs ds with|some ns=>ns.length<64/\∀ns':List Int,ns'.Perm ns->ns'.Pairwise (·≤·)->nl o (ns'.map .int) s k|none=>False)
 | none=>False
def tDisp1(tk tv:TE):TE:=λσ H Q=>∀p,H p=none->tk σ (upd H p (.dT [])) λy H1=>tv σ H1 λv H2=>∃H3,DPut H2 p y v H3/\Q (.ref p) H3
theorem Zrg{k v:Expr}{tk tv:TE}{pos:Pos}(hu:X.A.units+1<cLine)(hk:PE X k tk)(hv:PE X v tv):PE X (.Dict [some k] [v] pos) (tDisp1 tk tv):=by
 intro pins s σ H Q I q
 have hn:=I.hok.fresh (wR s.heap.objs.size)
 have I1:=I.laid (a:=s.heap.objs.size) (o:=.dT []) (h':=s.heap.push { cls:=.type "dict",data:=.dict #[] }) (t':=s.toks) (λ_ _ q=>wQ _ q) (wR _) (Zmv s.heap I.big)
 refine wpAny_Dict_any rfl rfl (by simp) (by show 1≤15;decide) ?_
 refine pairTrees_cons_walk (thn (hk pins _ σ _ _ I1 (q _ hn)) λkv s1 ⟨y,H1,I2,r1,q1⟩=>thn (hv pins s1 σ H1 _ I2 q1) λvv s2 ⟨z,H2,I3,r2,H3,hp,q3⟩=>pairTrees_nil_walk ?_)
 unfold storeAll
 rw[uO]
 simp only[bind_assoc]
 refine wH (Zor hu I3 hp r1 r2 λs3 I4=>?_)
 simp only[pure_bind]
 rw[forIn_nil]
 exact wN ⟨.ref s.heap.objs.size,H3,I4,rfl,q3⟩
theorem Zns{k v:Expr}{tk tv:TE}{pos:Pos}(hu:X.A.units+1<cLine)(hk:IPE X k tk)(hv:IPE X v tv):IPE X (.Dict [some k] [v] pos) (tDisp1 tk tv):=by
 simp only[Zaq]at *;exact Zrg hu hk hv
def dDisp1(o:Bool)(dk dv:DTE):DTE:=λs k=>∀p,s.w p=none->dk (s.put p (.dct [])) λkk s1=>dv s1 λvv s2=>match vv with
 | .d x=>∃ns,keyD kk=some ns/\s2.w p=some (.dct [])/\(match o with|true=>k (.own p) (s2.put p (.dct [(ns,x)]))|false=>k (.d (.dict (kvK [(ns,x)]))) ⟨s2.e,s2.w.del p⟩)
 | _=>False
theorem Zrr(o:Bool){tk tv:TE}{dk dv:DTE}(hk:RE K tk dk)(hv:RE K tv dv):RE K (tDisp1 tk tv) (dDisp1 o dk dv):=by
 refine⟨λs Q Q' z q p hp=>hk.mo _ _ _ (λkk s1 q=>hv.mo _ _ _ (λvv s2 q=>?_) q) (q p hp),λG s σ H Q r q p hp=>?_⟩
 ·split at q
  ·obtain⟨ns,h1,h2,h3⟩:=q
   refine⟨ns,h1,h2,?_⟩
   cases o
   ·exact z _ _ h3
   ·exact z _ _ h3
  ·exact q.elim
 ·have r0:Rel K G (s.put p (.dct [])) σ (upd H p (.dT [])):=r.newOwn hp (u:=.dct []) ⟨[],Zb2,DWk.nil'⟩
  refine hk.ok G _ σ _ _ r0 (hk.mo _ _ _ (λkk s1 q G1 H1 y e1 r1 v1=>?_) (q p (r.free hp)))
  refine hv.ok G1 s1 σ H1 _ r1 (hv.mo _ _ _ (λvv s2 q G2 H2 z e2 r2 v2=>?_) q)
  split at q
  ·next x=>
   obtain⟨ns,h1,h2,h3⟩:=q
   obtain⟨e,n⟩:=Zie h1
   subst e
   obtain⟨_,ks,h4,h5⟩:=r2.own p _ h2
   obtain⟨b,rfl,hb⟩:=Zl4 r2.sub (v1.same e2) n
   have hk0:ks=[]:=by
    have:=h5.len
    exact xM.mp this.symm
   subst hk0
   have r3:Rel K G2 (s2.put p (.dct [(ns,x)])) σ (upd H2 p (.dT (putK [] (ns.map Sum.inl) z))):=r2.chg h2 (u:=.dct [(ns,x)]) ⟨_,Zb2,h5.put v2⟩
   refine⟨_,DPut.t h4 hb (by decide),?_⟩
   cases o
   ·obtain⟨ks',S,r5,v5⟩:=r3.frzD (a:=p) OW.put_same
    have e3:(s2.put p (.dct [(ns,x)])).w.del p=s2.w.del p:=by
     funext b
     show(if b=p then none else(s2.w.put p (.dct [(ns,x)])) b)=if b=p then none else s2.w b
     split
     ·rfl
     ·next hb=>exact OW.put_ne hb
    rw[e3]at r5
    exact h3 _ _ (.ref p) ((e1.trans e2).trans S) r5 v5
   ·exact h3 G2 _ (.ref p) (e1.trans e2) r3 rfl
  ·exact q.elim
def rIndex(K:Frag):V->List V->Hp->VK->Prop:=λx vs H Q=>∃l xs ds y d j,x=.ref l/\vs=[y]/\SqL K H l xs/\DVs K H ds xs/\DV K H d y/\d.canLay0=true/\PyData.canLayAll0 ds=true/\d.depth≤30 /\
 ds.findIdx? (λz=>PyData.eqv z d)=some j/\Q (.int (j:Nat)) H
theorem Zn7(hu:X.A.units+64<cLine):MtR X "list.index" (rIndex X.K):=by
 intro pins s σ H x vs v us Q I rx rv h
 obtain⟨l,xs,ds,y,d,j,rfl,rfl,hs,hD,hd,c1,c2,dp,hj,q⟩:=h
 obtain⟨u,rfl,ru⟩:=rv.one
 cases (show v=Value.ref l from rx)
 obtain⟨its,rvs,pl,hz⟩:=I.list hs
 have lv:=rvs.length
 obtain⟨as,ra⟩:=I.readsAll hD rvs
 obtain⟨bs,rb⟩:=I.reads hd ru
 obtain⟨⟨cls,dd,data,sl⟩,n,ho,hc,hdd,hdt⟩:=pl
 simp only at hc hdd hdt
 subst hc hdd hdt
 have em:its.toArray.toList.map (PySem.SeqAt.readOf s.heap)=ds:=PySem.SeqAt.readsAll_map ds _ _ c2 (by simpa using ra)
 have hm:X.A.units+1+min (PyData.depthAll ds) d.depth<cLine:=by omega
 obtain⟨hjl,hjt,hjn⟩:=List.findIdx?_eq_some_iff_getElem.mp hj
 have hlen:ds.length=its.length:=by rw[<- em];simp
 have get:∀m (hm:m<its.toArray.size),PyData.eqv (PySem.SeqAt.readOf s.heap its.toArray[m]) d=PyData.eqv (ds[m]'(by rw[hlen];simpa using hm)) d:=by
  intro m hm'
  have:(its.toArray.toList.map (PySem.SeqAt.readOf s.heap))[m]'(by simpa using hm')=ds[m]'(by rw[hlen];simpa using hm'):=by simp only[em]
  rw[<- this];simp
 refine uI xY ⟨_,ho,rfl⟩ PySem.F.entry_list_index (PySem.F.args_list_index_2 _ _)
  (PySem.SeqAt.list_indexAt l its.toArray n none sl u (λz=>PyData.eqv (PySem.SeqAt.readOf s.heap z) d) j (by simp;omega) ?_ ?_ ?_) ⟨ho,PySem.SeqAt.items_eqAt (by simpa using ra) rb c2 c1 hm,?_⟩
 ·have:its.length≤sizeLine:=by omega
  have e:sizeLine=16777216:=sizeLine_eq
  omega
 ·rw[get];exact hjt
 ·intro m hm' hlt
  rw[get]
  have:=hjn m hlt
  simpa using this
 ·exact⟨.int j,H,I.tok _,⟨_,rfl⟩,q⟩
def dIdx(d:DTE)(da:DTA):DTE:=λs k=>d s λv s1=>(rdL s1.w v).isSome=true/\da s1 λvs s2=>match vs with
 | [u]=>(match rdL s2.w v,rdD s2.w u with
  | some ds,some x=>(x.hasDict=false/\PyData.hasDictAll ds=false/\x.canLay0=true/\PyData.canLayAll0 ds=true/\x.depth≤30)/\∃j,ds.findIdx? (λz=>PyData.eqv z x)=some j/\k (.d (.int (j:Nat))) s2
  | _,_=>False)
 | _=>False
theorem Zs5(r:Rel K G s σ H){v:Val}{x:V}(q:VR K G v x)(h:(rdL s.w v).isSome=true):tyV K "list" x H:=by
 cases e:rdL s.w v with
 | none=>rw[e]at h;cases h
 | some ds=>
  obtain⟨a,xs,rfl,h1,_⟩:=r.rdL q e
  exact .inl ⟨rfl,xs,h1⟩
theorem Zss{to:TE}{t:TA}{d:DTE}{da:DTA}(h:RE K to d)(ha:RA K t da):RE K (tBM K "list" (rIndex K) to t) (dIdx d da):=by
 refine⟨λs Q Q' z q=>h.mo _ _ _ (λv s1 q=>⟨q.1,ha.mo _ _ _ (λvs s2 q=>?_) q.2⟩) q,λG s σ H Q r q=>h.ok G s σ H _ r (h.mo _ _ _ (λv s1 q G1 H1 x e1 r1 v1=>⟨Zs5 r1 v1 q.1,ha.ok G1 s1 σ H1 _ r1 (ha.mo _ _ _ (λvs s2 q G2 H2 xs e2 r2 v2=>?_) q.2)⟩) q)⟩
 ·split at q
  ·split at q
   ·obtain⟨c,j,hj,q⟩:=q;exact⟨c,j,hj,z _ _ q⟩
   ·exact q.elim
  ·exact q.elim
 ·split at q
  ·split at q
   ·next ds y q1 q2=>
    obtain⟨⟨c1,c2,c3,c4,c5⟩,j,hj,q⟩:=q
    obtain⟨u,rfl,v3⟩:=v2.one
    obtain⟨a,ys,rfl,h1,h2⟩:=r2.rdL (v1.same e2) q1
    exact⟨a,ys,ds,u,y,j,rfl,rfl,h1,DWs.dv r2.sub c2 h2,r2.rdD v3 q2 c1,c3,c4,c5,hj,q G2 H2 _ (e1.trans e2) r2 Zea⟩
   ·exact q.elim
  ·exact q.elim
def dFrzD(i:Nat):DTE:=λs k=>match s.e[i]? with
 | some (some (.own a))=>∃kvs,s.w a=some (.dct kvs)/\k (.d (.dict (kvK kvs))) ⟨s.e.set i (some (.d (.dict (kvK kvs)))),s.w.del a⟩
 | _=>False
theorem Zmh(i:Nat):RE K (tVar i) (dFrzD i):=by
 refine⟨λs Q Q' h q=>?_,λG s σ H Q r h=>?_⟩
 ·unfold dFrzD at q |-;split at q
  ·obtain⟨ds,h1,h2⟩:=q;exact⟨ds,h1,h _ _ h2⟩
  ·exact q.elim
 ·unfold dFrzD at h;split at h
  ·next a z=>
   obtain⟨kvs,h1,h2⟩:=h
   obtain⟨x,hx,vx⟩:=r.sl.2 i _ z
   cases (show x=.ref a from vx)
   obtain⟨ks,S,r5,v5⟩:=r.frzD h1
   refine⟨_,hx,h2 _ H (.ref a) S ⟨r5.sub,r5.own,?_⟩ v5⟩
   have:=r5.sl.set (v:=.d (.dict (kvK kvs))) (x:=.ref a) v5 i
   rwa [Zgs hx]at this
  ·exact h.elim
theorem VRs.pickQ{dv:Val}{x:V}(hd:VR K G dv x){na nk:Nat}{pick:List (Nat×Nat)}{vs us:List Val}{xs ys:List V}(h:VRs K G vs xs)(q:VRs K G us ys):VRs K G (gaQ dv na nk pick vs us) (gaQ x na nk pick xs ys):=by
 unfold gaQ
 rw[h.length,q.length]
 split
 ·induction pick with
  | nil=>exact .nil
  | cons p t ih=>
   rw[zS,zS]
   by_cases h0:p.1=0
   ·rcases h.get p.2 with ⟨a,b,e1,e2,z⟩|⟨e1,e2⟩
    ·simp only[h0,vQ,e1,e2];exact .cons z ih
    ·simp only[h0,vQ,e1,e2];exact ih
   ·by_cases h1:p.1=1
    ·rcases q.get p.2 with ⟨a,b,e1,e2,z⟩|⟨e1,e2⟩
     ·simp only[h0,h1,vQ,vP,e1,e2];simp only[show ¬(1:Nat)=0 by decide,vP,e1,e2];exact .cons z ih
     ·simp only[h0,h1,vQ,vP,e1,e2];simp only[show ¬(1:Nat)=0 by decide,vP,e1,e2];exact ih
    ·simp only[h0,h1,vP];exact .cons hd ih
 ·exact .nil
theorem Zs7{e:Addr}(h:EmptyAt K e)(G:Hp):VR K G (.d (.tuple [])) (.ref e):=by
 unfold VR DW;obtain⟨o,n,h1,h2,h3⟩:=h;exact⟨e,[],rfl,.inr ⟨rfl,o,_,n,h1,h2,h3,by simp,.nil⟩,DWs.nil⟩
def dCallD(f:DSp)(na nk:Nat)(pick:List (Nat×Nat))(da dk:DTA):DTE:=λs k=>da s λvs s1=>dk s1 λus s2=>f (gaQ (.d (.tuple [])) na nk pick vs us) s2.w (λv w'=>k v ⟨s2.e,w'⟩)
theorem Zgv{f:DSp}{e:Addr}{na nk:Nat}{pick:List (Nat×Nat)}{t tk:TA}{da dk:DTA}(hm:MoS f)(he:EmptyAt K e)(ha:RA K t da)(hk:RA K tk dk):RE K (tCallK (spD K f) (gaQ (V.ref e) na nk pick) E0 t tk) (dCallD f na nk pick da dk):=by
 refine⟨λs Q Q' z q=>ha.mo _ _ _ (λvs s1 q=>hk.mo _ _ _ (λus s2 q=>hm _ s2.w _ _ (λv w' q=>z _ _ q) q) q) q,λG s σ H Q r q=>ha.ok G s σ H _ r (ha.mo _ _ _ (λvs s1 q G1 H1 xs e1 r1 v1=>?_) q)⟩
 refine hk.ok G1 s1 σ H1 _ r1 (hk.mo _ _ _ (λus s2 q G2 H2 ys e2 r2 v2=>?_) q)
 refine⟨G2,s2.w,_,r2.sub,r2.own,(v1.same e2).pickQ (Zs7 he G2) v2,hm _ s2.w _ _ (λv w' q G3 H3 x e3 s3 o3 x3=>?_) q⟩
 exact q G3 H3 x ((e1.trans e2).trans e3) ⟨s3,o3,r2.sl.same e3⟩ x3
theorem DnD.data{P:Program}{w:World}{mg:Str->Option Value}{base:Heap}{x:Str}{st:Stmt}{N ps:List Str}{k:Nat}{f:DSp}{em:Addr}(U:∃a fd,FunD K x st a fd em/\mg x=some (.ref a))(S:FnScope N ps (defScope st))(len:∀vs w k,f vs w k->vs.length=ps.length) 
  (hbody:∀(a:Addr) (cdv:Value) (A:Around) (outer:List Env) (s:Shared) (H:Hp) (E:XK),Room k (A.deeper (envOfC x (defScope st) s.heap.objs.size a cdv)) ->
   ∃t d,PSs (cxOf CX0 P w K mg base N x (defScope st) a cdv A outer s H E).nox (defBody st) t/\RS K t d/\∀(as:List Val) (o:OW) (q:Val->OW->Prop),f as o q->d { nx:=λs=>∃w',OW.le w' s.w/\q (.d .none) w',rt:=λv s=>∃w',OW.le w' s.w/\q v w' } ⟨startD N as,o⟩):DnD P w K mg base (k+1) x st ps (spD K f) em:=by
 refine DnD.of U S (λvs H Q E h=>?_) (λa cdv A outer s H vs Q E hr h=>?_)
 ·obtain⟨G,o,as,_,_,h1,h2⟩:=h
  rw[<- h1.length];exact len _ _ _ h2
 ·obtain⟨G,o,as,h1,h2,h3,h4⟩:=h
  obtain⟨t,d,q1,q2,q3⟩:=hbody a cdv A outer s H E hr
  refine⟨t,q1,q2 G ⟨startD N as,o⟩ (start N vs) H _ { nx:=λs=>∃w',OW.le w' s.w/\_,rt:=λv s=>∃w',OW.le w' s.w/\_ } ⟨h1,h2,Zhx h3⟩ ⟨λs' G' σ' H' e r z=>?_,λv s' G' σ' H' x e r v1 z=>?_,λ_ _ _ _ _ _ z=>False.elim z,λ_ _ _ _ _ _ z=>False.elim z⟩ (q3 as o _ h4)⟩
  ·obtain⟨w',l,z⟩:=z
   exact z G' H' .non e r.sub (r.own.le l) Zll
  ·obtain⟨w',l,z⟩:=z
   exact z G' H' x e r.sub (r.own.le l) v1
end
section
variable {src:List PyData×(OW->Prop)}{e0:List (Option Val)}{dg:DTG}{dt:DTT}{de:DTE}{k:List PyData->DS->Prop}{w:OW}{α:Type}
theorem Zcp(xs:List α)(enc f:α->PyData)(acc0:List PyData)(hsrc:src.1=xs.map enc)(hp:src.2 w)(hl:acc0.length+xs.length<sizeLine) 
  (hs:∀x∈xs,∀Q:PyData->OW->Prop,Q (f x) w->dg (.d (enc x)) ⟨e0,w⟩ λs2=>de s2 λv s1=>match v with | .d y=>ext e0 s1.e/\Q y s1.w|_=>False)
  (hk:k (acc0++xs.map f) ⟨e0,w⟩):∃I:Nat->List PyData->OW->Prop,I 0 acc0 w/\LIt src e0 dg dYes (dEmit de) k I:=by
 refine Zm3 xs enc (λx=>[f x]) acc0 hsrc hp (by rw[<- List.map_eq_flatMap,lmp];exact hl) (λx hx acc _ Q hQ=>?_) (by rw[<- List.map_eq_flatMap];exact hk)
 exact hs x hx (λy w=>Q (acc++[y]) w) hQ
end
theorem Znb{w:OW}{a:Addr}{o:Own}(h:w a=some o):w.put a o=w:=by
 funext b;unfold OW.put;split
 ·next z=>rw[z,h]
 ·rfl
theorem Zfh{o:OW}{u:Addr}{m:Nat}{wd:Int}{k:Val->OW->Prop}(h1:m≤1000000)(h2:0<wd)(h3:wd<1073741824)(h:∀d:Int,0≤d->d<wd->k (.d (.int d)) (o.put u (.urn (m+1)))):dsDraw [.own u,.d (.int wd)] (o.put u (.urn m)) k:=
 ⟨m,OW.put_same,⟨h1,h2,h3⟩,λd a b=>by rw[OW.put_put];exact h d a b⟩
theorem Zqn{c:Nat}{P:List Val->Prop}{R:List Val->PyData->Prop}{o:OW}{u:Addr}{m:Nat}{as:List Val}{k:Val->OW->Prop}(h1:m+c≤1000000)(h2:P as)(h:∀r,R as r->k (.d r) (o.put u (.urn (m+c)))):urnS c P R (.own u::as) (o.put u (.urn m)) k:=
 ⟨m,OW.put_same,⟨h1,h2⟩,λr hr=>by rw[OW.put_put];exact h r hr⟩
theorem Zk0{src:List PyData×(OW->Prop)}{e0:List (Option Val)}{dg:DTG}{de:DTE}{k:List PyData->DS->Prop}{o:OW}{u:Addr}{m0:Nat}{α β:Type}(xs:List α)(enc:α->PyData)(f:β->PyData)(P:α->β->Prop)(c:Nat)(hsrc:src.1=xs.map enc)(hp:∀w,src.2 w)(hl:xs.length<sizeLine) 
  (hs:∀x∈xs,∀m,m+c≤m0+xs.length*c->∀Q:PyData->OW->Prop,(∀y m',P x y->m'≤m+c->Q (f y) (o.put u (.urn m')))->dg (.d (enc x)) ⟨e0,o.put u (.urn m)⟩ λs2=>de s2 λv s1=>match v with | .d y=>ext e0 s1.e/\Q y s1.w|_=>False)
  (hk:∀(ys:List β) (m':Nat),ys.length=xs.length->(∀p∈xs.zip ys,P p.1 p.2)->m'≤m0+xs.length*c->k (ys.map f) ⟨e0,o.put u (.urn m')⟩) :
  ∃I:Nat->List PyData->OW->Prop,I 0 [] (o.put u (.urn m0))/\LIt src e0 dg dYes (dEmit de) k I:=by
 refine⟨λi acc w=>∃(ys:List β) (m':Nat),acc=ys.map f/\ys.length=i/\i≤xs.length/\(∀p∈xs.zip ys,P p.1 p.2)/\m'≤m0+i*c/\w=o.put u (.urn m'),⟨[],m0,rfl,rfl,yE _,by simp,by simp,rfl⟩,?_,?_,?_⟩
 ·rintro i acc w ⟨ys,m',rfl,hi,hle,_,_,rfl⟩
  exact⟨hp _,λ_=>by rw[lmp,hi];exact uL hle hl⟩
 ·rintro i d acc w hd ⟨ys,m',rfl,hi,hle,hP,hm,rfl⟩
  rw[hsrc,vH]at hd
  cases q:xs[i]? with
  | none=>rw[q]at hd;cases hd
  | some x=>
   rw[q]at hd;cases hd
   obtain⟨hlt,hx⟩:=zZ.mp q
   have hmul:(i+1)*c≤xs.length*c:=xZ _ hlt
   have hmul':(i+1)*c=i*c+c:=by rw[add_mul,one_mul]
   refine hs x (by rw[<- hx];exact yT hlt) m' (by omega) (λy w=>∃(zs:List β) (m2:Nat),ys.map f++[y]=zs.map f/\zs.length=i+1/\i+1≤xs.length/\(∀p∈xs.zip zs,P p.1 p.2)/\m2≤m0+(i+1)*c/\w=o.put u (.urn m2)) λy m2 hy hm2=>⟨ys++[y],m2,by rw[xE];rfl,by rw[vJ,hi];rfl,hlt,λp hp=>?_,by omega,rfl⟩
   have ez:xs.zip (ys++[y])=xs.zip ys++[(x,y)]:=by
    have e1:xs=xs.take i++x::xs.drop (i+1):=by rw[<- hx];simp
    have hti:(xs.take i).length=ys.length:=by rw[vE,hi];omega
    conv=>lhs;rw[e1]
    rw[List.zip_append hti]
    have e2:xs.zip ys=(xs.take i).zip ys:=by
     conv=>lhs;rw[e1,<- wY ys]
     rw[List.zip_append hti];simp
    rw[e2];simp
   rw[ez]at hp
   rcases zX.mp hp with z|z
   ·exact hP p z
   ·have:p=(x,y):=by simpa using z
    rw[this];exact hy
 ·rintro acc w ⟨ys,m',rfl,hi,_,hP,hm,rfl⟩
  rw[hsrc,lmp]at hi hm
  exact hk ys m' hi hP hm
theorem Zni{α β:Type}(xs:List α)(ys:List β)(f:α->PyData)(g:β->PyData):zipD (xs.map f) (ys.map g)=(xs.zip ys).map λp=>.tuple [f p.1,g p.2]:=by
 unfold zipD
 rw[List.zip_map,xX];rfl
theorem Zhy{α:Type}(xs:List α)(f:α->Int):uIs (xs.map λx=>.int (f x))=some (xs.map f):=by
 have:=uIs_map (xs.map f)
 rw[xX]at this
 exact this
theorem Zkf{α:Type}(xs:List α)(f:α->Bool):uBs (xs.map λx=>.bool (f x))=some (xs.map f):=by
 have:=uBs_map (xs.map f)
 rw[xX]at this
 exact this
theorem Zhf{n:Nat}(h:n≤100000):n≤sizeLine:=zR h (by decide)
theorem Zb7{n:Nat}(h:n≤100000):n<sizeLine:=uL h (by decide)
def Rp(D W:Nat)(d:PyData):Prop:=d.canLay0=true/\d.hasDict=false/\d.intsShort 101=true/\d.showable=true/\d.depth≤D/\d.weight≤W
def Rps(D W:Nat)(ds:List PyData):Prop:=PyData.canLayAll0 ds=true/\PyData.hasDictAll ds=false/\PyData.intsShortAll 101 ds=true/\PyData.showableAll ds=true/\PyData.depthAll ds≤D/\PyData.weightAll ds≤W
theorem Rps.nil{D W:Nat}:Rps D W []:=by simp[Rps,PyData.canLayAll0,PyData.depthAll,PyData.hasDictAll,PyData.intsShortAll,PyData.showableAll,PyData.weightAll]
theorem Rps.cons{D a b W:Nat}{d:PyData}{ds:List PyData}(h:Rp D a d)(q:Rps D b ds)(hW:a+1+b≤W):Rps D W (d::ds):=by
 obtain⟨h1,h2,h3,h4,h5,h6⟩:=h
 obtain⟨q1,q2,q3,q4,q5,q6⟩:=q
 refine⟨by rw[PyData.canLayAll0,h1,q1];rfl,by rw[PyData.hasDictAll,h2,q2];rfl,by rw[PyData.intsShortAll,h3,q3];rfl,by rw[PyData.showableAll,h4,q4];rfl,by rw[PyData.depthAll];omega,by rw[PyData.weightAll];omega⟩
theorem Rps.map{D W:Nat}{α:Type}{f:α->PyData}:∀l:List α,(∀x∈l,Rp D W (f x))->Rps D ((W+1)*l.length) (l.map f)
 | [],_=>Rps.nil
 | x::l,h=>by
  refine Rps.cons (h x (zT ..)) (Rps.map l λy hy=>h y (zU _ hy)) ?_
  rw[yP,Nat.mul_add,Nat.mul_one];omega
theorem Rp.mono{D W D' W':Nat}{d:PyData}(h:Rp D W d)(hD:D≤D')(hW:W≤W'):Rp D' W' d:=by
 obtain⟨q1,q2,q3,q4,q5,q6⟩:=h
 exact⟨q1,q2,q3,q4,by omega,by omega⟩
theorem Rp.tup{D W:Nat}{ds:List PyData}(h:Rps D W ds):Rp (D+1) W (.tuple ds):=by
 obtain⟨q1,q2,q3,q4,q5,q6⟩:=h
 exact⟨by rw[PyData.canLay0];exact q1,by rw[PyData.hasDict];exact q2,by rw[PyData.intsShort];exact q3,by rw[PyData.showable];exact q4,by rw[PyData.depth];omega,by rw[PyData.weight];exact q6⟩
theorem Rp.lst{D W:Nat}{ds:List PyData}(h:Rps D W ds):Rp (D+1) W (.list ds):=by
 obtain⟨q1,q2,q3,q4,q5,q6⟩:=h
 exact⟨by rw[PyData.canLay0];exact q1,by rw[PyData.hasDict];exact q2,by rw[PyData.intsShort];exact q3,by rw[PyData.showable];exact q4,by rw[PyData.depth];omega,by rw[PyData.weight];exact q6⟩
theorem Rp.int{n:Int}(h:n.natAbs<2 ^ 100):Rp 0 100 (.int n):=by
 have h1:=Zm5 (w:=100) (by decide) h
 exact⟨by rw[PyData.canLay0],by rw[PyData.hasDict],Zqg (w:=100) (by decide) (by decide) h,by rw[PyData.showable];simp;omega,by rw[PyData.depth];omega,Zoc (by decide) h⟩
theorem Rp.str{s:Str}(h:PyData.strOk s=true):Rp 0 s.cps.size (.str s):=⟨by rw[PyData.canLay0];exact h,by rw[PyData.hasDict],by rw[PyData.intsShort],by rw[PyData.showable],by rw[PyData.depth];omega,by rw[PyData.weight];exact wR _⟩
theorem Rp.tI{ns:List Int}(h:∀x∈ns,x.natAbs<2 ^ 100):Rp 1 (101*ns.length) (tI ns):=Rp.tup (Rps.map ns λx hx=>Rp.int (h x hx))
theorem Rp.ok{D W:Nat}{d:PyData}(h:Rp D W d)(hD:D≤40)(hW:W≤100000):okR d:=by
 obtain⟨q1,q2,q3,q4,q5,q6⟩:=h
 exact⟨q4,q2,by omega,Zs0 q1 q3 (by omega)⟩
section
variable {X:Cx}{a b c:Expr}{pos:Pos}{ta tb tc:TE}
theorem Zh3{op op':CmpOp}{r r':R2}(ho:OpR X (compareOp op) r)(ho':OpR X (compareOp op') r')(ha:IPE X a ta)(hb:IPE X b tb)(hc:IPE X c tc) 
  (hm:lastMarks [op,op'] [b,c]=false:=by with_unfolding_all rfl):IPT X (.Compare a [op,op'] [b,c] pos) (tTest (tChain r r' ta tb tc)):=by
 simp only[Zaq,Zat]at *
 exact Zro ho ho' ha hb hc hm
end
section
variable {K:Frag}
def dChain(f g:Val->Val->DTE)(da db dc:DTE):DTE:=λs k=>da s λv s1=>db s1 λw s2=>f v w s2 λu s3=>match u with
 | .d (.bool c)=>if c=true then dc s3 λw' s4=>g w w' s4 k else k (.d (.bool false)) s3
 | _=>False
theorem Zk5{r r':R2}{f g:Val->Val->DTE}{ta tb tc:TE}{da db dc:DTE}(hf:RO K r f)(hg:RO K r' g)(ha:RE K ta da)(hb:RE K tb db)(hc:RE K tc dc):RE K (tChain r r' ta tb tc) (dChain f g da db dc):=by
 refine⟨λs Q Q' h q=>ha.mo _ _ _ (λv s1 q1=>hb.mo _ _ _ (λw s2 q2=>hf.mo v w _ _ _ (λu s3 q3=>?_) q2) q1) q,λG s σ H Q r h=>?_⟩
 ·split at q3
  ·split at q3
   ·next c=>exact(zI c).symm▸hc.mo _ _ _ (λw' s4 q4=>hg.mo _ _ _ _ _ h q4) q3
   ·next c=>exact(zJ c).symm▸h _ _ q3
  ·exact q3.elim
 refine ha.ok G s σ H _ r (ha.mo _ _ _ (λv s1 q G1 H1 x e1 r1 v1=>?_) h)
 refine hb.ok G1 s1 σ H1 _ r1 (hb.mo _ _ _ (λw s2 q2 G2 H2 y e2 r2 v2=>?_) q)
 refine hf.ok G2 s2 σ H2 x y v w _ r2 (v1.same e2) v2 (hf.mo v w _ _ _ (λu s3 q3 G3 H3 z e3 r3 v3=>?_) q2)
 split at q3
 ·next k=>
  refine⟨k,Zkg v3,?_⟩
  split at q3
  ·next c=>
   rw[zI c]
   exact hc.ok G3 s3 σ H3 _ r3 (hc.mo _ _ _ (λw' s4 q4 G4 H4 y' e4 r4 v4=>hg.ok G4 s4 σ H4 y y' w w' Q r4 ((v2.same e3).same e4) v4 (hg.mo _ _ _ _ _ (λu s5 q5=>q5.same (((e1.trans e2).trans e3).trans e4)) q4)) q3)
  ·next c=>
   rw[zJ c]
   exact q3 G3 H3 (.bl false) ((e1.trans e2).trans e3) r3 Zft
 ·exact q3.elim
end
section
variable {prog:Program}{w:World}{κ:Type} [DecidableEq κ] {knd:HeapKind prog w κ}{A:Around}{E:Value->Shared->Prop}{s:Shared}
theorem Zm6(d:Addr)(hd:(d == sysModules)=false):
  MeetsIn prog w (Builtin.«dict.__len__» ⟨[.ref d],[]⟩) (λ_ R s=>∃xs:List (κ×Addr×Value),s.heap.DictOfH knd d xs/\R (.ok (.ret (.int xs.length s.toks))) { s with toks:=s.toks+1 }):=
 .of_wp λA R s ⟨xs,hm,h⟩=>by
  obtain⟨o,es,ep,ho,hc,hdat,he,_⟩:=hm
  show wpAny _ _ (dictSize d>>=_) _ _ s
  unfold dictSize
  refine wH (wH (wpAny_dictEntries ho hdat (wN ?_)))
  show wpAny _ _ (Builtin.Dict.pendingCount d>>=_) _ _ s
  refine wH (wpAny_pendingCount_other hd ?_)
  refine wpAny_ret_mkInt ?_
  rw[Nat.add_zero,size_of_entries he];exact h
theorem Zpn{d:Addr}{xs:List (κ×Addr×Value)}{Q:Value->Shared->Prop}(hd:(d == sysModules)=false)(hm:s.heap.DictOfH knd d xs)(hfit:(xs.length:Int)<2 ^ 63) 
  (h:Q (.int xs.length (s.toks+1)) { s with toks:=s.toks+1+1 }):wpAny (model prog w) A (call (.builtin "len") [.ref d]) Q E s:=by
 refine Calls.call_function_entry kind_len plain_len entry_len (args_len1 _) ?_
 unfold Builtin.«len»
 refine wH (m:=oneArg "len" _) (wN ?_)
 refine wH (m:=callSpecial? (.ref d) (Str.ofString "__len__")) (vU (name:=Str.ofString "__len__") hm.typeIs F.slot_dict_len
  (call_meetsIn F.slot_dict_len hm.typeIs F.entry_dict_len (F.args_dict_len_1 _) (Zm6 (knd:=knd) d hd) ⟨xs,hm,?_⟩))
 show wpAny _ _ _ _ _ { s with toks:=s.toks+1 }
 refine wH (wI (wN ?_))
 refine wH (yM ?_)
 show wpAny _ _ (if((xs.length:Nat):Int)<0 then _ else _) _ _ _
 rw[zJ (by omega)]
 show wpAny _ _ (if((xs.length:Nat):Int)≥2 ^ 63 then _ else _) _ _ _
 rw[zJ (by omega)]
 exact wH (wpAny_mkInt (wN ⟨_,rfl,h⟩))
end
theorem Zln{X:Cx}:CallR X (.builtin "len") (λxs H Q=>∃p kvs,xs=[.ref p]/\H p=some (.dT kvs)/\Q (.int kvs.length) H):=by
 intro pins s σ H xs us Q I r h
 obtain⟨p,kvs,rfl,hp,q⟩:=h
 obtain⟨u,rfl,rx⟩:=vals1 r
 cases rx
 have hn:=line63
 obtain⟨hz,hs,ys,hk,hm⟩:=Zw6 I.hok hp
 have hlen:kvs.length=ys.length:=zH hk
 exact Zpn hs hm (by omega) ⟨.int kvs.length,H,I.tok _,⟨s.toks+1,by rw[hlen]⟩,q⟩
section
variable {K:Frag}
def gLenD:Val->DTE:=λv s k=>match rdK s.w v with|some kvs=>k (.d (.int kvs.length)) s|none=>False
theorem Zu4:RC K (λxs H Q=>∃p kvs,xs=[.ref p]/\H p=some (.dT kvs)/\Q (.int kvs.length) H) (f1 gLenD):=by
 refine rc1 (λv s Q Q' h q=>?_) (λG s σ H x v Q r v1 h=>?_)
 ·unfold gLenD at q |-;split at q
  ·exact h _ _ q
  ·exact q.elim
 ·unfold gLenD at h;split at h
  ·next kvs e=>
   obtain⟨a,ks,rfl,h1,h2⟩:=r.rdK v1 e
   have hl:kvs.length=ks.length:=h2.len
   exact⟨a,ks,rfl,h1,by rw[<- hl];exact h.here r Zea⟩
  ·exact h.elim
end
variable {K:Frag}
theorem Zue{i j:Nat}{t:TA}{d:DTA}(h:RA K t d):RS K (tAsg (tTup t) (gTup K 2 (gCons (gName i) (gCons (gName j) gNil)))) (dPar i j d):=λG s σ H D E r p q=>
 h.ok G s σ H _ r (h.mo _ _ _ (λvs s1 q G1 H1 xs e1 r1 v1=>by
  split at q
  ·obtain⟨x,y,rfl,v2,v3⟩:=v1.two
   refine⟨show 2≤sizeLine by decide,λpp hpp=>?_⟩
   have r2:=r1.new hpp (.tup [x,y])
   have e2:Same G1 (upd G1 pp (.tup [x,y])):=Zcf (r1.sub.free hpp) _
   exact⟨pp,[x,y],rfl,SqT.of Zb2,rfl,x,[y],rfl,y,[],rfl,rfl,p.nx _ _ _ _ (e1.trans e2) ((r2.set (v2.same e2) i).set (v3.same e2) j) q⟩
  ·exact q.elim) q)
end L2
namespace L2
open PySem PySem.Spec PyProof.Rows
section
variable {K:Frag}
end
section
variable {X:Cx}{o e f:Expr}{apos cpos:Pos}{td ty tx:TE}
end
end L2
namespace L2
open PySem PySem.W PySem.W.ZRun PySem.W.X PySem.Spec PyProof.Rows
end L2
namespace L2
open PySem PySem.Spec PyProof.Rows
open AutoSeq1 (wpAny_loadPart')
section
variable {prog:Program}{w:World}{A:Around}{E:Value->Shared->Prop}{s:Shared}
end
section
variable {X:Cx}{tg:Expr}
end
section
variable {K:Frag}{G G' H H':Hp}{s:DS}{σ:St}
def dItRv(d:DTA):DTI:=λs k=>d s λvs s1=>match vs with | [.d (.tuple ds)]=>k (ds.reverse,noP) s1|_=>False
end
end L2
namespace L2
open PySem PySem.Spec PyProof.Rows
open AutoSeq1 (wpAny_loadPart')
section
variable {prog:Program}{w:World}{A:Around}{E:Value->Shared->Prop}{s:Shared}
end
section
variable {X:Cx}
end
section
variable {K:Frag}
def dTupRev(d:DTA):DTE:=λs k=>d s λvs s1=>match vs with | [v]=>(match rdL s1.w v with|some ds=>k (.d (.tuple ds.reverse)) s1|none=>False)|_=>False
end
end L2
namespace L2
open PySem PySem.Spec PyProof.Rows
open AutoSeq1 (wpAny_loadPart')
section
variable {prog:Program}{w:World}{A:Around}{E:Value->Shared->Prop}{s:Shared}
end
end L2
namespace L2
open PySem PySem.Spec PyProof.Rows
open AutoSeq1 (wpAny_loadPart')
section
variable {prog:Program}{w:World}{A:Around}{E:Value->Shared->Prop}{s:Shared}
end
def Iez(K:Frag)(t1 t2:Bool)(a b:Addr):It:=
 ⟨λi H=>∃xs ys x y,SqB K t1 H a xs/\SqB K t2 H b ys/\xs[i]? = some x/\ys[i]? = some y,
   λi H v H'=>∃p q x y,v=.ref q/\H p=none/\H q=none/\q≠p/\H'=upd (upd H p (.tup [x,y])) q (.tup [.int i,.ref p])/\∀xs ys,SqB K t1 H a xs->SqB K t2 H b ys->xs[i]? = some x/\ys[i]? = some y,
   λi H=>∃xs ys,SqB K t1 H a xs/\SqB K t2 H b ys/\(xs.length≤i\/ys.length≤i)⟩
section
variable {X:Cx}
end
section
variable {K:Frag}{G G' H H':Hp}{s:DS}{σ:St}
def ezD(ds es:List PyData):List PyData:=enumD (zipD ds es)
theorem JOk.ez{t1 t2:Bool}{a b:Addr}{xs ys:List V}{ds es:List PyData}(h:SqD K t1 G a xs)(h':SqD K t2 G b ys)(D:DWs K G ds xs)(D':DWs K G es ys):JOk K (Iez K t1 t2 a b) G (λ_=>True) (ezD ds es):=by
 intro G1 s σ H i e _ r
 have hs:=h.sq (e.trans r.sub)
 have hs':=h'.sq (e.trans r.sub)
 refine⟨λd hd=>?_,λhl=>⟨xs,ys,hs,hs',?_⟩⟩
 ·unfold ezD enumD zipD at hd
  rw[List.getElem?_mapIdx,vH]at hd
  cases q:(ds.zip es)[i]? with
  | none=>rw[q]at hd;cases hd
  | some p=>
   rw[q]at hd
   cases hd
   obtain⟨q1,q2⟩:=uW.mp q
   obtain⟨x,h1,h2⟩:=D.get' q1
   obtain⟨y,h3,h4⟩:=D'.get' q2
   refine⟨⟨xs,ys,x,y,hs,hs',h1,h3⟩,λv H' hy=>?_⟩
   obtain⟨p',q',x',y',rfl,hp,hq,hne,rfl,hxy⟩:=hy
   obtain⟨z1,z2⟩:=hxy xs ys hs hs'
   rw[h1]at z1;cases z1
   rw[h3]at z2;cases z2
   have hg:=r.sub.free hp
   have S:=Zcf hg (.tup [x,y])
   have r1:=r.new hp (.tup [x,y])
   have hq1:upd H p' (.tup [x,y]) q'=none:=by rw[Zb3 hne];exact hq
   have hg2:=r1.sub.free hq1
   have S2:=Zcf hg2 (.tup [.int (i:Nat),.ref p'])
   refine⟨_,S.trans S2,r1.new hq1 _,DW.tup Zb2 (DWs.cons DW.int (DWs.cons ?_ DWs.nil))⟩
   exact(DW.tup Zb2 (DWs.cons (h2.same (e.trans S)) (DWs.cons (h4.same (e.trans S)) DWs.nil))).same S2
 ·unfold ezD enumD zipD at hl
  rw[List.length_mapIdx,lmp,xP,D.length,D'.length]at hl
  omega
def dEz(t1 t2:Bool)(d:DTA):DTI:=λs k=>d s λvs s1=>match vs with | [v,w]=>(match seqD t1 v,seqD t2 w with|some ds,some es=>k (ezD ds es,noP) s1|_,_=>False)|_=>False
end
end L2
namespace L2
open PySem PySem.Spec PyProof.Rows
section
variable {X:Cx}
end
section
variable {K:Frag}{G:Hp}
def dLstRng(o:Bool)(d:DTA):DTE:=λs k=>d s λvs s1=>match vs with | [.d (.int j)]=>(-(2 ^ 62)≤j/\j≤100000)/\nl o (rngD 0 j.toNat) s1 k|_=>False
end
open AutoSeq1 (wpAny_loadPart')
section
variable {prog:Program}{w:World}{A:Around}{E:Value->Shared->Prop}{s:Shared}
end
end L2
namespace L2
open PySem PySem.Spec PyProof.Rows
open AutoSeq1 (wpAny_loadPart')
section
variable {prog:Program}{w:World}{A:Around}{E:Value->Shared->Prop}{s:Shared}
end
end L2
namespace L2
open PySem PySem.Spec PyProof.Rows
open AutoSeq1 (wpAny_loadPart')
section
variable {prog:Program}{w:World}{A:Around}{E:Value->Shared->Prop}{s:Shared}
end
end L2
namespace L2
open PySem PySem.Spec PyProof.Rows
section
variable {X:Cx}
end
section
variable {K:Frag}
def lyD(l:List (List Int×PyData)):List (List Int×PyData):=l.foldl (λd q=>dput d q.1 q.2) []
def dDictOf(di:DTI):DTE:=λs k=>di s λsrc s1=>∃l:List (List Int×PyData),(∀w,src.2 w)/\src.1=l.map (λq=>.tuple [tI q.1,q.2])/\(∀q∈l,q.1≠[])/\l.length<sizeLine/\k (.d (.dict (kvK (lyD l)))) s1
end
section
variable {X:Cx}{K:W.Frag}{G:Hp}
end
end L2
namespace Tim
open PySem PySem.W PyProof.Rows
variable {lt:Nat->Nat->Bool}{N:Nat}{α β α' β':Type}
end Tim
namespace L2
open PySem PySem.Spec PyProof.Rows
abbrev Pr:=Int×List Int
def TpP(h:Heap)(v:Value)(x:Pr):Prop:=∃a o t y k,v=.ref a/\h.get? a=some o/\o.cls=.type "tuple"/\o.data=.seq (List.toArray [.int x.1 t,y]) k/\TpI h y x.2
theorem TpP.keep{h h':Heap}{v:Value}{x:Pr}(q:TpP h v x)(k:∀b o,o.cls=.type "tuple"->h.get? b=some o->h'.get? b=some o):TpP h' v x:=by
 obtain⟨a,o,t,y,n,e,h1,h2,h3,h4⟩:=q
 exact⟨a,o,t,y,n,e,k _ _ h2 h1,h2,h3,h4.keep k⟩
section
variable {prog:Program}{w:World}{A:Around}{E:Value->Shared->Prop}{s:Shared}
def PrsV(h:Heap)(vs:List Value)(prs:List Pr):Prop:=vs.length=prs.length/\∀(i:Nat) v,vs[i]? = some v->∃x,prs[i]? = some x/\TpP h v x
theorem PrsV.keep{h h':Heap}{vs:List Value}{prs:List Pr}(q:PrsV h vs prs)(k:∀b o,o.cls=.type "tuple"->h.get? b=some o->h'.get? b=some o):PrsV h' vs prs:=
 ⟨q.1,λi v e=>by obtain⟨x,h1,h2⟩:=q.2 i v e;exact⟨x,h1,h2.keep k⟩⟩
end
section
variable {X:Cx}{K:W.Frag}{G:Hp}
end
section
variable {X:Cx}{K:W.Frag}{G:Hp}
end
section
variable {X:Cx}{tg:Expr}
end
section
variable {K:Frag}{G G' H H':Hp}{s:DS}{σ:St}
end
section
variable {prog:Program}{w:World}{A:Around}{E:Value->Shared->Prop}{s:Shared}
end
section
variable {X:Cx}{K:W.Frag}{G:Hp}
end
open AutoSeq1 (wpAny_loadPart')
section
variable {prog:Program}{w:World}{A:Around}{E:Value->Shared->Prop}{s:Shared}
end
end L2
namespace L2
open PySem PySem.Spec PyProof.Rows
section
variable {prog:Program}{w:World}{A:Around}{E:Value->Shared->Prop}{s:Shared}
end
section
variable {X:Cx}
end
section
variable {K:Frag}
end
end L2
namespace L2
open PySem PySem.W PySem.W.X PySem.Spec PyProof.Rows
def topT(p:Program)(w:World)(n:Nat)(an:Option Value):Nat->SharedT->Thread->Option SharedT
 | 0,_,_=>none
 | N+1,s,t=>match through t with
  | true=>some s
  | false=>match stepOk n an t with
   | false=>none
   | true=>match stepT (denote treeTable) p w s t with
    | some (s',t')=>topT p w n an N s' t'
    | none=>none
theorem Zqk{p:Program}{w:World}{n:Nat}{an:Option Value}:∀{N:Nat}{s s':SharedT}{t:Thread},topT p w n an N s t=some s'->topRun treeTable p w n an N s.abs t=some s'.abs
 | 0,_,_,_,h=>by cases h
 | N+1,s,s',t,h=>by
  unfold topT at h
  unfold topRun
  cases he:through t with
  | true=>rw[he]at h;cases h;rfl
  | false=>
   rw[he]at h
   cases hk:stepOk n an t with
   | false=>rw[hk]at h;cases h
   | true=>
    rw[hk]at h
    cases hs:stepT (denote treeTable) p w s t with
    | none=>rw[hs]at h;cases h
    | some r=>obtain⟨s₂,t₂⟩:=r;rw[hs]at h;rw[stepT_spec hs];exact Zqk h
def treeOf:List Obj->Nat->BT->BT
 | [],_,t=>t
 | o::l,i,t=>treeOf l (i+1) (t.ins i o)
noncomputable def bootT(P:Params):BT:=treeOf (boot_heap P).objs.toList 0 .nil
def bootL:Life:={ debug:=0,thresholds:=[2000,10,10] }
def looksT(p q:Program)(loose:List Str)(H:Heap)(s:Shared):=
 (staticsOk (importedModules p.main.body) H s.heap&&namesBound p s.heap&&gensDone s&&laidKept H s.heap,openSeen q loose (importedModules p.main.body) (λ_=>true) true s)
noncomputable def onceT(p q:Program)(loose:List Str)(N:Nat)(w:World)(os:OsState):=(topT p w 11 (some (.ref 6)) N ⟨bootT w.params,11,bootL,Array.mk [],boot_drawn,boot_toks,os⟩ (topStub p)).map λs=>looksT p q loose (boot_heap w.params) s.abs
def goodT(q:Program)(loose:List Str):=some (true,openGood q loose)
theorem Zuv(P:Params):absHeap (bootT P) 11 bootL=boot_heap P:=by kernel_rfl
theorem Ztb(P:Params):((boot_heap P).isNs mainGlobals,(boot_heap P).objs.size,(boot_heap P).nsMap mainGlobals "__annotations__")=(true,11,some (.ref 6)):=by kernel_rfl
theorem Zpm{p q:Program}{loose:List Str}{N:Nat}(e:opening p=plainProg p.main.scope.names)(hN:Nat.ble 600 N=true)(f:∀s,fenceModules? p s=some s) 
  (run:∀w os,onceT p q loose N w os=goodT q loose):LeftO p q loose (λ_=>true) (λ_=>()) (λ_=>()) N:=λw=>by
 obtain⟨⟨h,gs,d,k,os⟩,e1,e2⟩:=xJ.mp (boot_open e hN f w)
 obtain⟨rfl,rfl,rfl,rfl⟩:h=boot_heap w.params/\gs=Array.mk []/\d=boot_drawn/\k=boot_toks:=by simpa using e2
 obtain⟨z1,z2,z3⟩:_/\_/\_:=by simpa only[Prod.mk.injEq]using Ztb w.params
 obtain⟨s,r1,r2⟩:=xJ.mp (run w os)
 obtain⟨l1,l2⟩:=Prod.mk.inj r2
 have r:=Zqk r1
 have eb:SharedT.abs ⟨bootT w.params,11,bootL,Array.mk [],boot_drawn,boot_toks,os⟩=⟨boot_heap w.params,Array.mk [],boot_drawn,boot_toks,os⟩:=by
  show Shared.mk (absHeap _ _ _) _ _ _ _=_
  rw[Zuv]
 rw[eb]at r
 have t:topFrom treeTable p w N ⟨boot_heap w.params,Array.mk [],boot_drawn,boot_toks,os⟩=some s.abs:=by
  unfold topFrom
  dsimp only
  rw[z1,z2,z3,r]
  show(match staticsOk (importedModules p.main.body) (boot_heap w.params) s.abs.heap&&namesBound p s.abs.heap&&gensDone s.abs&&laidKept (boot_heap w.params) s.abs.heap with|true=>_|false=>_)=_
  rw[l1]
 unfold openEnds
 rw[e1]
 show(topFrom treeTable p w N _).map _=_
 rw[t]
 exact wF some (Prod.ext l2 rfl)
def frg(h:Heap):Frag:=(List.range h.objs.size).filterMap λa=>(h.get? a).map λo=>(a,o)
theorem Zmy{h:Heap}{a:Addr}:∀l:List Nat,((l.filterMap λa=>(h.get? a).map λo=>(a,o)):List (Addr×Obj)).lookup a=if a∈l then h.get? a else none
 | []=>rfl
 | b::l=>by
  rw[zS]
  by_cases e:a=b
  ·subst e
   cases q:h.get? a with
   | none=>
    simp only[q,tD,zV,true_or,vQ]
    rw[Zmy l,q]
    split<;>rfl
   | some o=>simp[List.lookup]
  ·have hb:(a == b)=false:=zG.mpr e
   cases q:h.get? b with
   | none=>simp only[tD];rw[Zmy l];simp[e]
   | some o=>simp only[uS,List.lookup,hb];rw[Zmy l];simp[e]
theorem Zdk{h:Heap}{a:Addr}:(frg h).lookup a=h.get? a:=by
 unfold frg
 rw[Zmy]
 simp only[zQ]
 split
 ·rfl
 ·rename_i n
  cases q:h.get? a with
  | none=>rfl
  | some o=>exact absurd (zM q) n
theorem Zus(h:Heap):(frg h).In h:=λa o e=>by rwa [Zdk]at e
theorem Zqy{h:Heap}{cd:Value}{x:Str}(c:h.CodeRec cd x):codeIn (frg h) cd x=true:=by
 obtain⟨c,o,vs,t,rfl,hc,hd,hv⟩:=c
 obtain⟨oc,od,dd,os⟩:=o
 cases hd
 unfold codeIn
 simp only[Zdk,hc]
 obtain⟨l⟩:=vs
 match l,hv with
 | a::b::l,hv=>
  have:b=.str x t:=by simpa using hv
  subst this
  simp
theorem Zqz{h:Heap}{a:Addr}{oc:Value}{od:Option Addr}{fd:FuncData}{sl:Array (Option Value)}(e:h.get? a=some ⟨oc,od,.func fd,sl⟩):keepIn (frg h) (.ref a)=true:=by
 unfold keepIn
 simp only[Zdk,e]
def defPos(s:Stmt):Pos:=match s with
 | .FunctionDef _ _ _ _ _ _ _ _ _ p=>p
 | _=>⟨0,0,0,0⟩
def recD(x:Str)(s:Stmt):DefRec:=⟨x,defArgs s,defBody s,defScope s,defPos s⟩
section
variable {q:Program}{loose:List Str}{XP:(Str->Option Value)->Heap->Prop}{w:World}{s₀:Shared}{mg mb:Str->Option Value}{h:Heap}
theorem Zee(G:Ground q loose [] XP w s₀ mg mb h){B:List Str}(hB:B.all (λx=>!(startupNames.contains x||(looseW q loose).contains x||((recsOf q).map (·.name)).contains x||((litsOf q).map (·.1)).contains x||((clssOf q (looseW q loose)).map (·.name)).contains x))=true) 
  (i:Nat) {x:Str} (hi:B[i]? = some x):mg x=none:=by
 have e:=uV.mp hB x (vI hi)
 simp only[Bool.not_eq_true',yY]at e
 obtain⟨⟨⟨⟨e1,e2⟩,e3⟩,e4⟩,e5⟩:=e
 have no:∀{l:List Str},l.contains x=false->x ∉ l:=λe m=>by rw[List.contains_iff_mem.mpr m]at e;cases e
 exact G.T.free x (no e1) (no e2) (no e3) (no e4) (no e5)
theorem Zuu(G:Ground q loose [] XP w s₀ mg mb h){L:List (DefRec×List (Str×Expr))}(hL:wdefsOf q=L)(i:Nat){x:Str}{st:Stmt}{p:Pos}{n:Nat}(hi:L[i]? = some (recD x st,[]))(hd:(defArgs st).defaults=[.Tuple [] n p]):
  ∃e,EmptyAt (frg h) e/\∃f fd,FunD (frg h) x st f fd e/\mg x=some (.ref f):=by
 subst hL
 obtain⟨fa,⟨oc,od,dd,sl⟩,pm,cd,doc,dV,kV,h1,h2,h3,h4,h5⟩:=G.W.defs _ (vI hi)
 cases h3
 have hp:=h5.pos
 rw[show(recD x st,([]:List (Str×Expr))).1.params.defaults=[.Tuple [] n p] from hd]at hp
 rcases hp with ⟨c,_⟩|⟨_,T,oT,vs,m,rfl,hT,_,hs,hA⟩
 ·cases c
 obtain⟨vs⟩:=vs
 have hA:DfltsAre mg h [.Tuple [] n p] vs:=hA
 cases hA with
 | cons a b=>
  cases b
  rename_i v
  rcases a with ⟨d,hd,r⟩|⟨c,p',he,_⟩
  ·cases hd
   cases r with
   | tuple ho hc hd' rs=>
    have hv:∀{u:Array Value}{as':List Addr},ReadsAllW [] (λ_=>none) h u.toList [] as'->u = #[]:=by
     rintro ⟨l⟩ as' r
     cases r with
     | nil=>rfl
    cases hv rs
    exact⟨_,⟨_,_,by rw[Zdk];exact ho,hc,hd'⟩,fa,_,⟨⟨oc,od,T,_,doc,pm,none,cd,_,sl,oT,m,rfl,by rw[Zdk];exact h2,Zqy h4,by rw[Zdk];exact hT,hs⟩,Zqz h2⟩,h1⟩
  ·cases he
end
end L2
namespace L2
open PySem PySem.Spec PyProof.Rows
section
variable {K:Frag}{G G' H H':Hp}{s:DS}{σ:St}
def keyE:Val->Option (List Int)
 | .d (.tuple l)=>uIs l
 | _=>none
@[simp] theorem keyE_tI(ns:List Int):keyE (.d (tI ns))=some ns:=uIs_map _
def dDGetE(da db:DTE):DTE:=λs k=>da s λv s1=>db s1 λu s2=>∃kvs ns x,rdK s2.w v=some kvs/\keyE u=some ns/\dget kvs ns=some x/\k (.d x) s2
def dDInE(neg:Bool)(db da:DTE):DTE:=λs k=>db s λu s1=>da s1 λv s2=>∃kvs ns,rdK s2.w v=some kvs/\keyE u=some ns/\k (.d (.bool (if neg then !(dget kvs ns).isSome else(dget kvs ns).isSome))) s2
def dDPutE(da dk dv:DTE):DTS:=λE s=>dv s λv s1=>da s1 λu s2=>dk s2 λkk s3=>match u,v with
 | .own a,.d x=>∃kvs ns,s3.w a=some (.dct kvs)/\keyE kk=some ns/\kvs.length<sizeLine/\E.nx (s3.put a (.dct (dput kvs ns x)))
 | _,_=>False
def dDCompE(o:Bool)(di:DTI)(cap:List (Option Nat))(dg:DTG)(dt:DTT)(dk dv:DTE):DTE:=λs k=>di s λsrc s1=>∀p,s1.w p=none->∃I:Nat->OW->Prop,I 0 (s1.w.put p (.dct []))/\(∀i w,I i w->src.2 w) /\
 (∀(i:Nat) d w,src.1[i]? = some d->I i w->dg (.d d) ⟨captD cap s1.e,w⟩ λs2=>dt s2 λb s3=>if b=true then dk s3 (λkk s4=>dv s4 λvv s5=>match vv with
  | .d x=>∃kvs ns,s5.w p=some (.dct kvs)/\keyE kk=some ns/\kvs.length<sizeLine/\L2.ext (captD cap s1.e) s5.e/\I (i+1) (s5.w.put p (.dct (dput kvs ns x)))
  | _=>False) else L2.ext (captD cap s1.e) s3.e/\I (i+1) s3.w) /\
 ∀w,I src.1.length w->∃kvs,w p=some (.dct kvs)/\(match o with|true=>k (.own p) ⟨s1.e,w⟩|false=>k (.d (.dict (kvK kvs))) ⟨s1.e,w.del p⟩)
def dDisp1E(o:Bool)(dk dv:DTE):DTE:=λs k=>∀p,s.w p=none->dk (s.put p (.dct [])) λkk s1=>dv s1 λvv s2=>match vv with
 | .d x=>∃ns,keyE kk=some ns/\s2.w p=some (.dct [])/\(match o with|true=>k (.own p) (s2.put p (.dct [(ns,x)]))|false=>k (.d (.dict (kvK [(ns,x)]))) ⟨s2.e,s2.w.del p⟩)
 | _=>False
end
section
variable {prog:Program}{w:World}{A:Around}{E:Value->Shared->Prop}{s:Shared}
end
section
variable {K:Frag}{G G' H H':Hp}{s:DS}{σ:St}
def itemsD(kvs:List (List Int×PyData)):List PyData:=kvs.map λp=>.tuple [tI p.1,p.2]
def dItems(d:DTE):DTI:=λs k=>d s λv s1=>match v with
 | .d (.dict l)=>∃kvs,unK l=some kvs/\k (itemsD kvs,noP) s1
 | .own a=>∃kvs,s1.w a=some (.dct kvs)/\k (itemsD kvs,λw=>w a=some (.dct kvs)) s1
 | _=>False
end
end L2
namespace L2
open PySem PySem.W PySem.W.X PySem.Spec PyProof.Rows
section
variable {q:Program}{loose:List Str}{XP:(Str->Option Value)->Heap->Prop}{w:World}{s₀:Shared}{mg mb:Str->Option Value}{h:Heap}
end
def gAbs:Val->DTE:=λv s k=>match v with | .d (.int i)=>k (.d (.int (if i<0 then -i else i))) s|_=>False
end L2
namespace L2
open PySem PySem.W PySem.Spec PyProof.Rows
theorem Inv.at{X:Cx}{pins:List (Addr×Obj)}{σ:St}{H:Hp}{s:Shared}(I:Inv X pins σ H s){A:Around}(hf:A.frames=X.A.frames)(hh:A.handled=X.A.handled):Inv { X with A:=A } pins σ H s:=
 ⟨⟨I.ok.mod,I.ok.kind,I.ok.glob,I.ok.blt,I.ok.above,I.ok.inj,I.ok.has,I.ok.cab,λc=>hh.trans (I.ok.hd c),hf.trans I.ok.frames,I.ok.stk,I.ok.exf,I.ok.bs,I.ok.bsz,I.ok.noex,I.ok.exfs,I.ok.funs,I.ok.frf⟩,I.os,I.bare,I.base,I.loc,I.cell,I.free,I.freeC,I.pin,I.hok,I.len⟩
def cxLam(X:Cx)(A:Around)(N:List Str)(qual:Str)(scope:Scope)(f:Addr)(cd:Value)(cl:List (Str×Addr))(s:Shared)(H:Hp):Cx where
 prog:=X.prog
 w:=X.w
 K:=X.K
 mg:=X.mg
 base:=X.base
 A:=A.deeper (envX qual scope s.heap.objs.size f cd cl)
 N:=N
 s₀:=s
 H₀:=H
 env:=envX qual scope s.heap.objs.size f cd cl
 outer:=X.stack
 stack:=envX qual scope s.heap.objs.size f cd cl::X.stack
 ex:=[]
 fn:=λ_=>false
 calm:=true
 pn:=[]
 xe:=λ_ _=>False
structure LamS(x y:Str)(scope:Scope):Prop where
 kind:scope.kind=.function
 co:scope.isCoroutine=false
 gen:scope.isGenerator=false
 loc:scope.names.lookup x=some .local
 fre:scope.names.lookup y=some .free
 one:∀z,(scope.names.lookup z=some .cell\/scope.names.lookup z=some .free)->z=y
 noc:∀z∈scope.names,z.2≠.cell
 ne:x≠y
section
variable {X:Cx}{A:Around}{pins:List (Addr×Obj)}{σ:St}{H:Hp}{s:Shared}{x y qual:Str}{scope:Scope}{f c k:Addr}{cd:Value}{vx vy:V}{ux uy:Value}
theorem Ztd{h₁:Heap}{tk:Nat}(I:Inv X pins σ H s)(hc:X.calm=true)(hf:A.frames=X.A.frames)(hh:A.handled=X.A.handled)(S:LamS x y scope) 
  (hcy:X.env.cells.lookup y=some c) (hcell:s.heap.IsCell c (some uy)) (ry:RelV vy uy) (rx:RelV vx ux)
  (hns:h₁.Ns s.heap.objs.size (λz=>[(x,ux)].reverse.lookup z)) (hkp:∀b o,s.heap.get? b=some o->h₁.get? b=some o) :
  Inv (cxLam X A [x,y] qual scope f cd [(y,c)] s H) [] [some vx,some vy] H { s with heap:=h₁,toks:=tk }:=by
 have one:∀(z:Str) (d:Addr),List.lookup z [(y,c)]=some d->z=y/\d=c:=λz d e=>by
  rw[uQ]at e
  cases q:z == y with
  | true=>rw[q]at e;cases e;exact⟨eq_of_beq q,rfl⟩
  | false=>rw[q]at e;cases e
 have yy:List.lookup y [(y,c)]=some c:=by simp[List.lookup]
 have noA:∀b:Addr,b ∉ (cxLam X A [x,y] qual scope f cd [(y,c)] s H).ex:=λb z=>absurd (show b∈([]:List Addr) from z) (by simp)
 have cl:h₁.IsCell c (some uy):=let ⟨o,e,d⟩:=hcell;⟨o,hkp _ _ e,d⟩
 refine⟨⟨I.ok.mod,S.kind,rfl,rfl,wR _,λa b d h1 h2=>?_,λz hz=>?_,λa d z _=>?_,λ_=>hh.trans (I.ok.hd hc),Around.frames_deeper (hf.trans I.ok.frames),.inr ⟨rfl,rfl⟩,λb z=>absurd z (noA b),I.bs,zR I.ok.bsz I.sz,λb _ _=>noA b,λb z=>absurd z (noA b),I.stack,I.stkFree⟩,
  rfl,I.bare,Un.kept hkp,⟨_,hns,λi z v h1 h2 h3=>?_⟩,λz d h=>?_,I.hok.fresh (wR _),λz d h=>?_,λp hp=>absurd (show p∈([]:List (Addr×Obj)) from hp) (by simp),I.hok.kept hkp,rfl⟩
 ·exact(one _ _ h1).1.trans (one _ _ h2).1.symm
 ·cases S.one z hz
  exact⟨c,yy⟩
 ·have z':false=true:=z
  cases z'
 ·have h1:[x,y][i]? = some z:=h1
  match i,h1,h2 with
  | 0,h1,h2=>
   cases (show some x=some z from h1)
   cases (show some (some vx)=some (some v) from h2)
   exact⟨ux,rx,.inl ⟨S.loc,by simp[List.lookup]⟩⟩
  | 1,h1,h2=>
   cases (show some y=some z from h1)
   cases (show some (some vy)=some (some v) from h2)
   exact⟨uy,ry,.inr ⟨.inr S.fre,c,yy,cl⟩⟩
  | i+2,h1,h2=>simp at h1
 ·obtain⟨rfl,rfl⟩:=one _ _ h
  exact⟨_,cl⟩
 ·obtain⟨rfl,rfl⟩:=one _ _ h
  exact I.freeC _ _ hcy
theorem Zr5{params:Arguments}{body:Expr}{pm ctv:Value}{j:Nat}{t:TE}{Q:VK}{E:Value->Shared->Prop}(I:Inv X pins σ H s)(hc:X.calm=true)(hf:A.frames=X.A.frames)(hh:A.handled=X.A.handled)(S:LamS x y scope)(hr:Room (j+1) A) 
  (hcy:X.env.cells.lookup y=some c) (hcell:s.heap.IsCell c (some uy)) (ry:RelV vy uy) (rx:RelV vx ux)
  (hfo:s.heap.get? f=some { cls:=.type "function",data:=.func (kla_fn "<lambda>" qual params body scope [(y,c)] pm (.ref k) ctv) }) (hrec:s.heap.CodeRec (.ref k) qual)
  (hbind:bindArgs (kla_fn "<lambda>" qual params body scope [(y,c)] pm (.ref k) ctv) ⟨[ux],[]⟩=pure [(x,ux)])
  (hb:PE (cxLam X A [x,y] qual scope f (.ref k) [(y,c)] s H) body t) (ht:t [some vx,some vy] H Q) :
  wpAny (model X.prog X.w) A (call (.ref f) [ux]) (EP X pins σ Q) E s:=by
 refine wpAny_call (kla_callFunE hr.depth hfo rfl S.co S.gen rfl hrec ?_)
 rw[hbind]
 refine wN (wpAny_newFunctionEnv S.noc (λz hz=>by cases xD.mp hz;exact S.loc) (λh₁ hns hsb=>⟨I.nolimit.fresh _ hsb,?_⟩) S.kind)
 have hkp:∀b o,s.heap.get? b=some o->h₁.get? b=some o:=λb o e=>hsb.extBut b o (zP (zM e)) (wQ _ e)
 show codeAny _ _ (.expr body (envX qual scope s.heap.objs.size f (.ref k) [(y,c)])) _ _
 have J:=Ztd (A:=A) (qual:=qual) (f:=f) (cd:=.ref k) (tk:=s.toks + [(x,ux)].length) I hc hf hh S hcy hcell ry rx hns hkp
 refine kla_codeExpr (wC (hb [] _ _ H Q J ht) (λv s' ⟨z,H',I',r,q⟩=>?_) λ_ _ z=>False.elim z)
 exact I.after ⟨z,H',I'.os,I'.bare,I'.base,I'.hok,r,q⟩
end
structure Fx(X:Cx)(pins:List (Addr×Obj))(b:Addr):Prop where
 l:b≠X.env.locals
 f:b ∉ X.fs
 e:b∈X.ex\/X.s₀.heap.objs.size≤b
 c:∀x c,X.env.cells.lookup x=some c->c≠b
 p:∀p∈X.pn++pins,p.1≠b
section
variable {X:Cx}{pins:List (Addr×Obj)}{σ:St}{H:Hp}{s:Shared}{l q I S:Addr}{xs:List V}{P:Hp->Prop}{R:Result->Shared->Prop}
theorem Fx.new(J:Inv X pins σ H s){b:Addr}(h:s.heap.objs.size≤b):Fx X pins b:=
 let z:=J.fpOk (H':=λ_=>none) h rfl;⟨z.2.1,z.2.2.1,z.2.2.2.1,z.2.2.2.2.1,z.2.2.2.2.2⟩
theorem Inv.less{ps:List (Addr×Obj)}(J:Inv X (pins++ps) σ H s):Inv X pins σ H s:=J.unpinned
theorem Inv.two{a b:Addr}{oa ob:Obj}(J:Inv X pins σ H s)(fa:Fx X pins a)(fb:Fx X pins b)(ha:s.heap.get? a=some oa)(hb:s.heap.get? b=some ob)(na:H a=none)(nb:H b=none)(da:∀v,oa.data≠.cell v)(db:∀v,ob.data≠.cell v):
  Inv X (pins++[(a,oa),(b,ob)]) σ H s:=J.pins_of λp hp=>by
 rcases zX.mp hp with hp|hp
 ·exact J.pin p (wT _ hp)
 ·simp only[zV,yN,yO]at hp
  rcases hp with rfl|rfl
  ·exact⟨ha,na,fa.l,fa.f,da⟩
  ·exact⟨hb,nb,fb.l,fb.f,db⟩
theorem Fx.turn(fb:Fx X pins I)(J:Inv X pins σ H s){h':Heap}(t':Nat)(hn:H I=none)(k:∀b o,b≠I->s.heap.get? b=some o->h'.get? b=some o):Inv X pins σ H { s with heap:=h',toks:=t' }:=
 J.turned k hn fb.l fb.e fb.c fb.p
theorem Zpp(hc:X.calm=true)(hlI:l≠I)(hSI:S≠I)(fS:Fx X pins S)(fI:Fx X pins I)(hl:∀H',P H'->SqL X.K H' l xs) 
  (turn:∀ps s' H' x u,Inv X (pins++ps) σ H' s'->P H'->x∈xs->RelV x u->wpAny (model X.prog X.w) X.A.in1 (call (.ref q) [u]) (EP X (pins++ps) σ λv H''=>(∃i,v=.int i)/\P H'') (λ_ _=>False) s')
  (hR:∀s' H' x u,Inv X pins σ H' s'->P H'->x∈xs->RelV x u->R (.ok (.ret u)) s') :
  ∀(r j:Nat) (s:Shared) (H':Hp) (vb:Value) (k:Int) (tb:Tok) (n:Nat) (oI:Obj),xs.length-j=r->j≤xs.length->Inv X (pins++[(S,seqObj "list" #[vb,.int k tb] n),(I,oI)]) σ H' s->P H'->s.heap.IsListIter I l j->(∃x∈xs,RelV x vb) ->
   codeAny (model X.prog X.w) X.A (.builtin "max.loop" ⟨[.ref I,.ref q,.ref S],[]⟩) R s:=by
 have hname:(toString "max"++toString ".loop" : String) = "max.loop":=by decide
 intro r
 induction r with
 | zero=>
  intro j s H' vb k tb n oI hr hj J hP hit hvb
  have nS:=J.pin (S,seqObj "list" #[vb,.int k tb] n) (wT _ (wT _ (.head _)))
  have nI:=J.pin (I,oI) (wT _ (wT _ (.tail _ (.head _))))
  obtain⟨its,rv,pl,hz⟩:=J.list (hl _ hP)
  have lv:=rv.length
  refine tE entry_max_loop ?_
  rw[tF tG _]
  show wpAny _ X.A.in1 (seqItems? (.ref S)>>=_) _ _ _
  refine wH (yG nS.1 rfl ?_)
  show wpAny _ X.A.in1 (tryCatch (pyNext (.ref I)) _>>=_) _ _ _
  refine wH (tH (wpAny_pyNext_list_end (A:=X.A.in1) (J.ok.hd hc) hit pl.isList (by simp;omega) λh' eb=>?_))
  have J1:Inv X pins σ H' { s with heap:=h' }:=fI.turn J.less s.toks nI.2.1 λb o hb e=>eb b o hb e
  have hS':h'.get? S=some (seqObj "list" #[vb,.int k tb] n):=eb _ _ hSI nS.1
  have s1:=yH h' S (Obj.mapSeq λ_=>(#[]:Array Value))
  show wpAny _ X.A.in1 (updateSeq S (λ_=>#[])>>=_) _ _ _
  refine wH ?_
  refine tJ hS' rfl (wH (yM (wN ?_)))
  obtain⟨x,hx,rx⟩:=hvb
  exact hR _ H' x vb (fS.turn J1 s.toks nS.2.1 λb o hb e=>(s1.2 b hb).trans e) hP hx rx
 | succ r ih=>
  intro j s H' vb k tb n oI hr hj J hP hit hvb
  have hlt:j<xs.length:=by omega
  have nS:=J.pin (S,seqObj "list" #[vb,.int k tb] n) (wT _ (wT _ (.head _)))
  have nI:=J.pin (I,oI) (wT _ (wT _ (.tail _ (.head _))))
  obtain⟨its,rv,pl,hz⟩:=J.list (hl _ hP)
  obtain⟨v,hv,rx⟩:=rv.get (gEq hlt)
  refine tE entry_max_loop ?_
  rw[tF tG _]
  show wpAny _ X.A.in1 (seqItems? (.ref S)>>=_) _ _ _
  refine wH (yG nS.1 rfl ?_)
  show wpAny _ X.A.in1 (tryCatch (pyNext (.ref I)) _>>=_) _ _ _
  refine wH (tH (wO hit pl.isList (x:=v) (by simpa using hv) λh' hit' sb=>?_))
  obtain⟨oI',hoI',hoc,hod⟩:=id hit'
  have J1:Inv X pins σ H' { s with heap:=h' }:=fI.turn J.less s.toks nI.2.1 λb o hb e=>(sb.2 b hb).trans e
  have J2:Inv X (pins++[(S,seqObj "list" #[vb,.int k tb] n),(I,oI')]) σ H' { s with heap:=h' }:=
   J1.two fS fI ((sb.2 S hSI).trans nS.1) hoI' nS.2.1 nI.2.1 (λv z=>nomatch z) (λv z=>by rw[hod]at z;cases z)
  show wpAny _ X.A.in1 (tryCatch (holding [v] (call (.ref q) [v])) _>>=_) _ _ _
  refine wH (tH (wI (wC (turn _ _ _ _ v J2 hP (yT hlt) rx) (λx s'' he=>?_) λ_ _ hF=>hF.elim)))
  obtain⟨vi,H2,J3,ri,⟨ki,rfl⟩,hP2⟩:=he
  obtain⟨t2,rfl⟩:=ri
  have nS2:=J3.pin (S,seqObj "list" #[vb,.int k tb] n) (wT _ (wT _ (.head _)))
  have nI2:=J3.pin (I,oI') (wT _ (wT _ (.tail _ (.head _))))
  have hit2:s''.heap.IsListIter I l (j+1):=⟨oI',nI2.1,hoc,hod⟩
  show wpAny _ X.A.in1 (tryCatch (holding [v,.int ki t2] (richCompare .Gt (.int ki t2) (.int k tb)>>=_)) _>>=_) _ _ _
  refine wH (tH (wI (wH (CmpOf.ints_gt (prog:=X.prog) (w:=X.w) (A:=X.A.in1) (P:=λi v=>∃t,v=.int (if i=0 then ki else k) t) (λi=>if i=0 then ki else k) (λi v h=>h) 0 1 _ _ _ _ _ ⟨t2,rfl⟩ ⟨tb,rfl⟩ ?_))))
  refine wH (wI (wD ?_))
  refine wH (yM (wN ?_))
  by_cases hb':ki > k
  ·have s1:=yH s''.heap S (Obj.mapSeq λ_=>#[v,.int ki t2])
   obtain⟨c2,hc2⟩:∃c2,(s''.heap.update S (Obj.mapSeq λ_=>#[v,.int ki t2])).get? S=some (seqObj "list" #[v,.int ki t2] c2):=⟨_,get?_update_seq nS2.1 λ_=>#[v,.int ki t2]⟩
   simp only[hb',tK,vQ,zI,Nat.one_ne_zero,vP]
   refine wH ?_
   refine tJ nS2.1 rfl (wH (yM ?_))
   rw[hname]
   have J4:Inv X pins σ H2 { s'' with heap:=s''.heap.update S (Obj.mapSeq λ_=>#[v,.int ki t2]) }:=fS.turn J3.less s''.toks nS2.2.1 λb o hb e=>(s1.2 b hb).trans e
   have J5:=J4.two fS fI hc2 ((s1.2 I hSI.symm).trans nI2.1) nS2.2.1 nI2.2.1 (λv z=>nomatch z) (λv z=>by rw[hod]at z;cases z)
   exact wN ⟨tL tG _,ih (j+1) _ H2 v ki t2 c2 oI' (by omega) hlt J5 hP2 ⟨oI',(s1.2 I hSI.symm).trans nI2.1,hoc,hod⟩ ⟨_,yT hlt,rx⟩⟩
  ·simp only[hb',decide_false,uP,vP,zI,Nat.one_ne_zero]
   refine wH (yM ?_)
   rw[hname]
   exact wN ⟨tL tG _,ih (j+1) _ H2 vb k tb n oI' (by omega) hlt J3 hP2 hit2 hvb⟩
theorem Zlo{Q:Value->Shared->Prop}{E:Value->Shared->Prop}(hc:X.calm=true)(hl:∀H',P H'->SqL X.K H' l xs)(hne:xs≠[])(J:Inv X pins σ H s)(hP:P H) 
  (turn:∀ps s' H' x u,Inv X (pins++ps) σ H' s'->P H'->x∈xs->RelV x u->wpAny (model X.prog X.w) X.A.in1 (call (.ref q) [u]) (EP X (pins++ps) σ λv H''=>(∃i,v=.int i)/\P H'') (λ_ _=>False) s')
  (hQ:∀s' H' x u,Inv X pins σ H' s'->P H'->x∈xs->RelV x u->Q u s'):wpAny (model X.prog X.w) X.A (call (.builtin "max") [.ref l] [(Str.ofString "key",.ref q)]) Q E s:=by
 have hname:(toString "max"++toString ".loop" : String) = "max.loop":=by decide
 obtain⟨its,rv,pl,hz⟩:=J.list (hl _ hP)
 have hls:=pl.isList
 obtain⟨ol,hol,_⟩:=id hls
 have hll:l<s.heap.objs.size:=zM hol
 have hpos:0<xs.length:=xC.mpr hne
 refine kmk_tree PySem.F.kind_max PySem.F.plain_max PySem.F.entry_max (kmk_max_key _ _) ?_
 show wpAny _ X.A.in1 (Builtin.Builtins.bindParams "max" ["key","default"] 0 ⟨[],[(Str.ofString "key",.ref q)]⟩>>=_) _ _ s
 refine wH (yC (show Builtin.Builtins.bindParams "max" ["key","default"] 0 ⟨[],[(Str.ofString "key",.ref q)]⟩=pure [some (.ref q),none] from rfl) ?_)
 refine wH (wN ?_)
 refine wH (wP hls ?_)
 refine wH (wpAny_newList ?_ (yE _))
 rw[hname]
 have hS:(s.heap.push { cls:=.type "list_iterator",data:=.fields #[.ref l,.int 0 0] }).objs.size=s.heap.objs.size+1:=size_push' ..
 have hlI:l≠s.heap.objs.size:=zP hll
 have hSI:(s.heap.push { cls:=.type "list_iterator",data:=.fields #[.ref l,.int 0 0] }).objs.size≠s.heap.objs.size:=by rw[hS];exact wM (yD _)
 refine wN ⟨tL tG _,?_⟩
 have kp:∀b o,s.heap.get? b=some o->((s.heap.push { cls:=.type "list_iterator",data:=.fields #[.ref l,.int 0 0] }).push (seqObj "list" #[] 0)).get? b=some o:=λb o e=>wQ _ (wQ _ e)
 have fI:Fx X pins s.heap.objs.size:=Fx.new J (wR _)
 have fS:Fx X pins (s.heap.push { cls:=.type "list_iterator",data:=.fields #[.ref l,.int 0 0] }).objs.size:=Fx.new J (by rw[hS];exact uY _)
 have J0:Inv X pins σ H { s with heap:=(s.heap.push { cls:=.type "list_iterator",data:=.fields #[.ref l,.int 0 0] }).push (seqObj "list" #[] 0) }:=J.kept (t':=s.toks) kp
 have gI:((s.heap.push { cls:=.type "list_iterator",data:=.fields #[.ref l,.int 0 0] }).push (seqObj "list" #[] 0)).get? s.heap.objs.size=some { cls:=.type "list_iterator",data:=.fields #[.ref l,.int 0 0] }:=
  wQ _ (zL _ rfl)
 have gS:((s.heap.push { cls:=.type "list_iterator",data:=.fields #[.ref l,.int 0 0] }).push (seqObj "list" #[] 0)).get? (s.heap.push { cls:=.type "list_iterator",data:=.fields #[.ref l,.int 0 0] }).objs.size=some (seqObj "list" #[] 0):=zL _ rfl
 have hI0:H s.heap.objs.size=none:=J.hok.fresh (wR _)
 have hS0:H (s.heap.push { cls:=.type "list_iterator",data:=.fields #[.ref l,.int 0 0] }).objs.size=none:=J.hok.fresh (by rw[hS];exact uY _)
 revert gI gS J0 hS0 fS hSI
 generalize (s.heap.push { cls:=.type "list_iterator",data:=.fields #[.ref l,.int 0 0] }).objs.size=S
 generalize (s.heap.push { cls:=.type "list_iterator",data:=.fields #[.ref l,.int 0 0] }).push (seqObj "list" #[] 0)=h0 at kp |-
 intro hSI fS J0 gI gS hS0
 obtain⟨its0,rv0,pl0,_⟩:=J0.list (hl _ hP)
 obtain⟨v,hv,rx⟩:=rv0.get (gEq hpos)
 refine tE entry_max_loop ?_
 rw[tF tG _]
 show wpAny _ X.A.in1 (seqItems? (.ref _)>>=_) _ _ _
 refine wH (yG gS rfl ?_)
 show wpAny _ X.A.in1 (tryCatch (pyNext (.ref s.heap.objs.size)) _>>=_) _ _ _
 have hit0:h0.IsListIter s.heap.objs.size l 0:=⟨_,gI,rfl,rfl⟩
 refine wH (tH (wO hit0 pl0.isList (x:=v) (by simpa using hv) λh' hit' sb=>?_))
 obtain⟨oI',hoI',hoc,hod⟩:=id hit'
 have J1:Inv X pins σ H { s with heap:=h' }:=fI.turn J0 s.toks hI0 λb o hb e=>(sb.2 b hb).trans e
 have J2:Inv X (pins++[(S,seqObj "list" #[] 0),(s.heap.objs.size,oI')]) σ H { s with heap:=h' }:=
  J1.two fS fI ((sb.2 S hSI).trans gS) hoI' hS0 hI0 (λv z=>nomatch z) (λv z=>by rw[hod]at z;cases z)
 show wpAny _ X.A.in1 (tryCatch (holding [v] (call (.ref q) [v])) _>>=_) _ _ _
 refine wH (tH (wI (wC (turn _ _ _ _ v J2 hP (yT hpos) rx) (λx s'' he=>?_) λ_ _ hF=>hF.elim)))
 obtain⟨vi,H2,J3,ri,⟨ki,rfl⟩,hP2⟩:=he
 obtain⟨t2,rfl⟩:=ri
 have nS2:=J3.pin (S,seqObj "list" #[] 0) (wT _ (wT _ (.head _)))
 have nI2:=J3.pin (s.heap.objs.size,oI') (wT _ (wT _ (.tail _ (.head _))))
 have s1:=yH s''.heap S (Obj.mapSeq λ_=>#[v,.int ki t2])
 obtain⟨c2,hc2⟩:∃c2,(s''.heap.update S (Obj.mapSeq λ_=>#[v,.int ki t2])).get? S=some (seqObj "list" #[v,.int ki t2] c2):=⟨_,get?_update_seq nS2.1 λ_=>#[v,.int ki t2]⟩
 show wpAny _ X.A.in1 (updateSeq S (λ_=>#[v,.int ki t2])>>=_) _ _ _
 refine wH ?_
 refine tJ nS2.1 rfl ?_
 rw[hname]
 have J4:Inv X pins σ H2 { s'' with heap:=s''.heap.update S (Obj.mapSeq λ_=>#[v,.int ki t2]) }:=fS.turn J3.less s''.toks nS2.2.1 λb o hb e=>(s1.2 b hb).trans e
 have J5:=J4.two fS fI hc2 ((s1.2 _ hSI.symm).trans nI2.1) nS2.2.1 nI2.2.1 (λv z=>nomatch z) (λv z=>by rw[hod]at z;cases z)
 exact wN ⟨tL tG _,Zpp hc hlI hSI fS fI hl turn hQ _ 1 _ H2 v ki t2 c2 oI' rfl hpos J5 hP2 ⟨oI',(s1.2 _ hSI.symm).trans nI2.1,hoc,hod⟩ ⟨_,yT hpos,rx⟩⟩
end
structure LamT(K:Frag)(mg:Str->Option Value)(cd:Value)(P:Addr):Prop where
 code:∃c,cd=.ref c/\∀h:Heap,K.In h->CodeHd h c P
 blt:∀h:Heap,K.In h->h.BuiltinsAt mg P
 gl:mainGlobals≠P
def oneC(l c:Nat)(k:Addr):Array Value:=#[rawInt l,rawInt c,.ref k]
def codO(x:Str)(oc:Obj):Prop:=∃vs n,oc.data=.fields vs/\vs[1]? = some (.str x n)
def anyO:HO:=.ext λ_=>True
def tLam(l c:Nat)(x:Str)(P:Addr)(H:Hp)(R:Addr->Hp->Prop):Prop:=
 (H P=some (.tbl #[])/\∀k oc,H k=none->codO x oc->R k (upd (upd H k (.frz oc anyO)) P (.tbl (oneC l c k))))\/∃k oc u,H P=some (.tbl (oneC l c k))/\H k=some (.frz oc u)/\codO x oc/\R k H
section
variable {X:Cx}{pins:List (Addr×Obj)}{σ:St}{H:Hp}{s:Shared}
theorem Inv.tabNew{P k:Addr}{oc:Obj}{ps:Array Value}{h':Heap}{t':Nat}(J:Inv X pins σ H s)(hP:H P=some (.tbl #[]))(x:Heap.ExtBut P s.heap h')(hk:s.heap.objs.size≤k)(ok:h'.get? k=some oc)(hp:h'.get? P=some (tabObj ps)):
  Inv X pins σ (upd (upd H k (.frz oc anyO)) P (.tbl ps)) { s with heap:=h',toks:=t' }:=by
 have hkn:H k=none:=J.hok.fresh hk
 have hkP:k≠P:=λe=>by rw[e,hP]at hkn;cases hkn
 have np:∀b o,H b=some o->b≠P->upd (upd H k (.frz oc anyO)) P (.tbl ps) b=some o:=λb o e n=>by
  rw[Zb3 n,Zb3 (λz=>by rw[z,hkn]at e;cases e)];exact e
 have nP:∀b,H b=none->b≠P:=λb e z=>by rw[z,hP]at e;cases e
 refine J.step (g':=s.gens) (d':=s.drawn) (ch:=[]) (λ_ z=>nomatch z) (λb o _ _ _ e n=>x b o (nP b n) e) (λb o _ _ _ e n=>⟨o.slots,x b o (nP b n) e⟩) (λb o _ e n=>?_) (λb o _ e=>?_) (λb xs e=>?_) (λb o u e=>?_) (λb qs e=>?_) (λm hm=>?_) ?_ J.bare
 ·rw[Zb3 (nP b n),Zb3 (λz=>by rw[z]at e;exact absurd (zM e) (Nat.not_lt.mpr hk))];exact n
 ·by_cases z:b=P
  ·exact⟨_,z▸hp⟩
  ·exact⟨o,x b o z e⟩
 ·exact np b _ e λz=>by rw[z,hP]at e;cases e
 ·exact np b _ e λz=>by rw[z,hP]at e;cases e
 ·by_cases z:b=P
  ·subst z
   rw[hP]at e
   cases e
   exact⟨ps,by rw[Zb2];simp⟩
  ·exact⟨#[],by rw[np b _ e z];simp⟩
 ·obtain⟨o,es,ep,ho,r⟩:=hm
  exact⟨o,es,ep,x _ o (nP _ J.free) ho,r⟩
 ·intro b u e
  by_cases z:b=P
  ·subst z
   rw[Zb2]at e;cases e
   exact hp
  ·rw[Zb3 z]at e
   by_cases z2:b=k
   ·subst z2
    rw[Zb2]at e;cases e
    exact⟨ok,trivial,⟨_,ok⟩,λ_ _ _ _=>trivial⟩
   ·rw[Zb3 z2]at e
    have nown:∀c y,H c=some (.own y)->c≠P:=λc y q z=>by rw[z,hP]at q;cases q
    refine(J.hok b u e).stay (λc v hc q=>?_) (λc q=>np c _ q (nown c b q)) λc xs q=>np c _ q λz=>by rw[z,hP]at q;cases q
    rcases hc with rfl|hc
    ·exact x _ _ z q
    ·exact x _ _ (nown c b hc) q
theorem Zr9{M:Model}{A:Around}{E:Value->Shared->Prop}{Q:Value->Shared->Prop}{R:Addr->Hp->Prop}{P:Addr}{params:Arguments}{body:Expr}{scope:Scope}{clos:List (Str×Addr)}{qual:Str}{pos:Pos}{ln:Nat}(J:Inv X pins σ H s)(LT:LamT X.K X.mg X.env.code P) 
  (hcl:closureFor scope X.env=pure clos) (hT:tLam pos.line pos.col qual P H R)
  (hQ:∀f k ctv s' H' oc u,Inv X (pins++[(f,{ cls:=.type "function",data:=.func (kla_fn "<lambda>" qual params body scope clos ((X.mg "__name__").getD .none) (.ref k) ctv) })]) σ H' s'->H' k=some (.frz oc u)->codO qual oc->R k H'->Q (.ref f) s') :
  wpAny M A (makeFunction "<lambda>" qual params (.expr body) scope X.env [] [] [] pos ln) Q E s:=by
 obtain⟨c,hcd,hC⟩:=LT.code
 have hg:s.heap.Ns mainGlobals X.mg:=J.mod.glob.keeps J.bk
 have pin:∀{h2:Heap}{ob:Obj}{H2:Hp}{tk:Nat},(∀v,ob.data≠.cell v)->ob.isFreed=false->Inv X pins σ H2 { s with heap:=h2,toks:=tk }->Inv X (pins++[(h2.objs.size,ob)]) σ H2 { s with heap:=h2.push ob,toks:=tk }:=λ{h2 ob H2 tk} hd hfd J2=>by
  have fr:=Fx.new J2 (wR _)
  have J3:Inv X pins σ H2 { s with heap:=h2.push ob,toks:=tk }:=J2.kept (t':=tk) λb o e=>wQ _ e
  refine J3.pins_of λp hp=>?_
  rcases zX.mp hp with hp|hp
  ·exact J3.pin p (wT _ hp)
  ·cases xD.mp hp
   exact⟨zL _ hfd,J2.hok.fresh (wR _),fr.l,fr.f,hd⟩
 rcases hT with ⟨hP,q⟩|⟨k,oc,u,hP,hk,ho,q⟩
 ·have gP:s.heap.get? P=some (tabObj #[]):=J.hok P _ hP
  refine kla_makeFunction hcl J.ok.glob hg hcd (hC _ J.kIn) gP trivial rfl LT.gl (LT.blt _ J.kIn) λk ctv h' tk hx hge hlt hrec htb=>?_
  obtain⟨k',oc,vs,n,e2,hoc,hd,hv⟩:=hrec
  cases e2
  have J2:=J.tabNew (t':=tk) hP hx hge hoc htb
  have co:codO qual oc:=⟨vs,n,hd,hv⟩
  have kn:H k=none:=J.hok.fresh hge
  have kP:k≠P:=λe=>by rw[e,hP]at kn;cases kn
  refine hQ _ k ctv _ _ oc anyO (pin (λv z=>nomatch z) rfl J2) ?_ co (q k oc kn co)
  rw[Zb3 kP,Zb2]
 ·have gP:s.heap.get? P=some (tabObj (oneC pos.line pos.col k)):=J.hok P _ hP
  refine kla_makeFunctionHit (cv:=.ref k) hcl J.ok.glob hg hcd (hC _ J.kIn) gP trivial (by simp[oneC,rawInt,codeAmong]) (LT.blt _ J.kIn) λctv h' tk hkp hsz=>?_
  exact hQ _ k ctv _ H oc u (pin (λv z=>nomatch z) rfl (J.kept (t':=tk) hkp)) hk ho q
end
def tMaxR(K:Frag)(l c:Nat)(qual:Str)(P:Addr)(iy:Nat)(tb:TE)(σ:St)(Q:VK)(x:V)(H1:Hp):Prop:=∃a xs vy,x=.ref a/\xs≠[]/\σ[iy]? = some (some vy)/\tLam l c qual P H1 λk H2=>∃Pd:Hp->Prop,Pd H2 /\
 (∀H',Pd H'->SqL K H' a xs/\∀oc u,H2 k=some (.frz oc u)->H' k=some (.frz oc u))/\(∀H' v,Pd H'->v∈xs->tb [some v,some vy] H' λz H''=>(∃i,z=.int i)/\Pd H'')/\∀H' v,Pd H'->v∈xs->Q v H'
def tMaxK(K:Frag)(l c:Nat)(qual:Str)(P:Addr)(iy:Nat)(tl tb:TE):TE:=λσ H Q=>tl σ H λx H1=>tMaxR K l c qual P iy tb σ Q x H1
theorem Ztq{X:Cx}{e body:Expr}{tl tb:TE}{params:Arguments}{scope:Scope}{x y:Str}{iy j:Nat}{c P:Addr}{p pos lpos kpos:Pos}(hg:Gl X "max")(hm:X.mg "max" = none)(hc:X.calm=true)(he:PE X e tl)(LT:LamT X.K X.mg X.env.code P)(S:LamS x y scope) 
  (hN:X.N[iy]? = some y) (hy:X.env.scope.names.lookup y=some .cell) (hcl:closureFor scope X.env=pure [(y,c)]) (hcy:X.env.cells.lookup y=some c)
  (hbind:∀(qual:Str) (pm:Value) (k:Addr) (ctv ux:Value),bindArgs (kla_fn "<lambda>" qual params body scope [(y,c)] pm (.ref k) ctv) ⟨[ux],[]⟩=pure [(x,ux)]) (hdef:defaultsOf params X.env=([],[])) (hr:Room (j+2) X.A)
  (hb:∀(f k:Addr) (s:Shared) (H:Hp),Room j (cxLam X X.A.in1 [x,y] (X.env.qual++"<lambda>") scope f (.ref k) [(y,c)] s H).A->PE (cxLam X X.A.in1 [x,y] (X.env.qual++"<lambda>") scope f (.ref k) [(y,c)] s H) body tb)
  (hst:starEach [e] X.env=[(false,eval e X.env)]):PE X (.Call (.Name "max" p) [e] [⟨some "key",.Lambda params body scope lpos,kpos⟩] pos) (tMaxK X.K lpos.line lpos.col (X.env.qual++"<lambda>") P iy tl tb):=by
 intro pins s σ H Q I h
 refine vA (Zjj (u:=.builtin "max") I hg hm (by rfl) ?_)
 refine callWith_kw (thn (Zpv he Zsp hst pos pins s σ H (λvs H1=>match vs with | [x]=>tMaxR X.K lpos.line lpos.col (X.env.qual++"<lambda>") P iy tb σ Q x H1|_=>False) I h) λus s1 ⟨vs,H1,I1,r,q⟩=>?_) (by rw[hst];rfl) (by rw[hst];rfl)
 match vs,r,q with
 | [xv],r,q=>
  obtain⟨u,rfl,ru⟩:=vals1 r
  obtain⟨a,xs,vy,rfl,hne,hσ,hL⟩:=(show tMaxR X.K lpos.line lpos.col (X.env.qual++"<lambda>") P iy tb σ Q xv H1 from q)
  cases (show u=Value.ref a from ru)
  show wpAny _ _ (evalAll ((do let v <- eval (.Lambda params body scope lpos) X.env;standAt pos;pure v)::[])) _ _ s1
  refine wpAny_evalAll_cons (wH (kla_eval hdef (Zr9 I1 LT hcl hL λf k ctv s2 H2 oc u I2 hk ho hR=>wH (wJ (wN (wpAny_evalAll_nil ?_))))))
  obtain⟨Pd,hPd,hsq,htb,hQ⟩:=hR
  show wpAny _ _ (call (.builtin "max") [.ref a] [(Str.ofString "key",.ref f)]) _ _ s2
  refine Zlo (P:=Pd) hc (λH' z=>(hsq H' z).1) hne I2 hPd (λps s' H' xx uu J' hP' hx rx=>?_) λs' H' xx uu I' hP' hx rx=>⟨xx,H',I'.unpinned,rx,hQ H' xx hP' hx⟩
  obtain⟨m,hn,hl⟩:=id J'.loc
  obtain⟨uy,ry,lk⟩:=hl iy y vy hN hσ (.inr (.inl hy))
  have hk':=(hsq H' hP').2 _ _ hk
  obtain⟨ek,_⟩:=(show ObjOk X.prog X.w H' s'.heap k (.frz oc u) from J'.hok k _ hk')
  obtain⟨vs',n,d1,d2⟩:=ho
  have fo:=J'.pin (f,{ cls:=.type "function",data:=.func (kla_fn "<lambda>" (X.env.qual++"<lambda>") params body scope [(y,c)] ((X.mg "__name__").getD .none) (.ref k) ctv) }) (wT _ (zY _ (wT _ (.head _))))
  rcases lk with ⟨z,_⟩|⟨_,c',hc',hcell⟩
  ·have z':X.env.scope.names.lookup y=some .local:=z
   rw[hy]at z';cases z'
  ·rw[hcy]at hc';cases hc'
   exact Zr5 (A:=X.A.in1) J' hc rfl rfl S hr.in1 hcy hcell ry rx fo.1 ⟨k,oc,vs',n,rfl,ek,d1,d2⟩ (hbind _ _ _ _ _) (hb f k s' H' (hr.in1.deeper _)) (htb H' xx hP' hx)
theorem Zpb{X:Cx}{K:Frag}{e body:Expr}{tl tb:TE}{params:Arguments}{scope:Scope}{x y qual:Str}{iy j l cc:Nat}{c P:Addr}{p pos lpos kpos:Pos}(hK:X.K=K)(hl:lpos.line=l)(hcc:lpos.col=cc)(hq:X.env.qual++"<lambda>" = qual)(hg:Gl X "max")(hm:X.mg "max" = none)(hc:X.calm=true)(he:IPE X e tl)(LT:LamT X.K X.mg X.env.code P)(S:LamS x y scope) 
  (hN:X.N[iy]? = some y) (hy:X.env.scope.names.lookup y=some .cell) (hcy:X.env.cells.lookup y=some c) (hcl:closureFor scope X.env=pure [(y,c)])
  (hbind:∀(qual:Str) (pm:Value) (k:Addr) (ctv ux:Value),bindArgs (kla_fn "<lambda>" qual params body scope [(y,c)] pm (.ref k) ctv) ⟨[ux],[]⟩=pure [(x,ux)]) (hdef:defaultsOf params X.env=([],[])) (hr:Room (j+2) X.A)
  (hb:∀(f k:Addr) (s:Shared) (H:Hp),Room j (cxLam X X.A.in1 [x,y] (X.env.qual++"<lambda>") scope f (.ref k) [(y,c)] s H).A->IPE (cxLam X X.A.in1 [x,y] (X.env.qual++"<lambda>") scope f (.ref k) [(y,c)] s H) body tb)
  (hst:starEach [e] X.env=[(false,eval e X.env)]):IPE X (.Call (.Name "max" p) [e] [⟨some "key",.Lambda params body scope lpos,kpos⟩] pos) (tMaxK K l cc qual P iy tl tb):=by
 subst hK hl hcc hq
 simp only[Zaq]at *
 exact Ztq hg hm hc he LT S hN hy hcl hcy hbind hdef hr hb hst
def lamOk(x y:Str)(sc:Scope):Bool:=sc.kind == .function&&!sc.isCoroutine&&!sc.isGenerator&&sc.names.lookup x == some .local&&sc.names.lookup y == some .free&&sc.names.all (λp=>p.2 != .cell&&(p.2 != .free||p.1 == y))&&x != y
theorem LamS.of{x y:Str}{sc:Scope}(h:lamOk x y sc=true):LamS x y sc:=by
 unfold lamOk at h
 simp only[vY,Bool.not_eq_true',beq_iff_eq,bne_iff_ne,uV,Bool.or_eq_true]at h
 obtain⟨⟨⟨⟨⟨⟨h1,h2⟩,h3⟩,h4⟩,h5⟩,h6⟩,h7⟩:=h
 refine⟨h1,h2,h3,h4,h5,λz hz=>?_,λz hz=>(h6 z hz).1,h7⟩
 rcases hz with hz|hz
 ·exact absurd rfl (h6 _ (vF hz)).1
 ·rcases(h6 _ (vF hz)).2 with q|q
  ·exact absurd rfl q
  ·exact q
def LamU(K:Frag)(mg:Str->Option Value)(x:Str)(st:Stmt)(Pt:Addr):Prop:=∃a fd,Fun K x x st a fd/\mg x=some (.ref a)/\LamT K mg fd.code Pt
def dMaxK(l c:Nat)(qual:Str)(P:Addr)(iy:Nat)(dl db:DTE):DTE:=λs Q=>dl s λv s1=>match v with
 | .d (.list ds)=>∃vy t,s1.e[iy]? = some (some vy)/\s1.w P=some (.tab l c qual t)/\ds≠[]/\∀k,(∀d∈ds,db ⟨[some (.d d),some vy],s1.w.put P (.tab l c qual (some k))⟩ λz s'=>(∃i,z=.d (.int i))/\s'=⟨[some (.d d),some vy],s1.w.put P (.tab l c qual (some k))⟩) /\
   ∀d∈ds,Q (.d d) ⟨s1.e,s1.w.put P (.tab l c qual (some k))⟩
 | _=>False
theorem Zu9{K:Frag}{l c:Nat}{qual:Str}{P:Addr}{iy:Nat}{tl tb:TE}{dl db:DTE}(hl:RE K tl dl)(hb:RE K tb db):RE K (tMaxK K l c qual P iy tl tb) (dMaxK l c qual P iy dl db):=by
 refine⟨λs Q Q' z q=>hl.mo _ _ _ (λv s1 q=>?_) q,λG s σ H Q r q=>hl.ok G s σ H _ r (hl.mo _ _ _ (λv s1 q G1 H1 x e1 r1 v1=>?_) q)⟩
 ·split at q
  ·obtain⟨vy,t,h1,h2,h3,q⟩:=q
   exact⟨vy,t,h1,h2,h3,λk=>⟨(q k).1,λd hd=>z _ _ ((q k).2 d hd)⟩⟩
  ·exact q.elim
 ·split at q
  ·next ds=>
   obtain⟨vy,t,hy,ht,hne,q⟩:=q
   obtain⟨a,xs,rfl,h1,h2⟩:=Ziu v1
   obtain⟨y',hy1,hy2⟩:=r1.sl.2 iy vy hy
   refine⟨a,xs,y',rfl,λz=>hne ?_,hy1,?_⟩
   ·have:=h2.length
    rw[z]at this
    exact xM.mp this
   obtain⟨gP,ps,hP,hps⟩:=r1.own P _ ht
   have fin:∀(k:Addr) (G2 H2:Hp),Same G1 G2->Rel K G2 ⟨s1.e,s1.w.put P (.tab l c qual (some k))⟩ σ H2->(∃oc u,G2 k=some (.frz oc u))->∃Pd:Hp->Prop,Pd H2 /\
     (∀H',Pd H'->SqL K H' a xs/\∀oc u,H2 k=some (.frz oc u)->H' k=some (.frz oc u))/\(∀H' v,Pd H'->v∈xs->tb [some v,some y'] H' λz H''=>(∃i,z=.int i)/\Pd H'')/\∀H' v,Pd H'->v∈xs->Q v H':=by
    intro k G2 H2 e2 r2 ⟨oc,u,gk⟩
    have dat:∀(G':Hp) (v:V),Same G2 G'->v∈xs->∃d∈ds,DW K G' d v:=λG' v e hv=>by
     obtain⟨i,hi,rfl⟩:=yS.mp hv
     obtain⟨d,hd,D⟩:=h2.get (gEq hi)
     exact⟨d,vI hd,D.same (e2.trans e)⟩
    refine⟨λH'=>∃G',Same G2 G'/\Rel K G' ⟨s1.e,s1.w.put P (.tab l c qual (some k))⟩ σ H',⟨G2,Same.refl _,r2⟩,λH' ⟨G',e,r'⟩=>⟨SqL.of (r'.sub _ _ (e _ _ (e2 _ _ h1))),λoc' u' z=>?_⟩,λH' v ⟨G',e,r'⟩ hv=>?_,λH' v ⟨G',e,r'⟩ hv=>?_⟩
    ·rw[r2.sub _ _ gk]at z
     rw[<- z]
     exact r'.sub _ _ (e _ _ gk)
    ·obtain⟨d,hd,D⟩:=dat G' v e hv
     refine hb.ok G' ⟨[some (.d d),some vy],s1.w.put P (.tab l c qual (some k))⟩ [some v,some y'] H' _ ⟨r'.sub,r'.own,rfl,λi x z=>?_⟩ (hb.mo _ _ _ (λz s' hz G3 H3 x3 e3 r3 v3=>?_) ((q k).1 d hd))
     ·match i,z with
      | 0,z=>cases z;exact⟨v,rfl,D⟩
      | 1,z=>cases z;exact⟨y',rfl,hy2.same (e2.trans e)⟩
      | i+2,z=>simp at z
     ·obtain⟨⟨i,rfl⟩,rfl⟩:=hz
      exact⟨⟨i,Zcg v3⟩,G3,e.trans e3,r3.sub,r3.own,r'.sl.same e3⟩
    ·obtain⟨d,hd,D⟩:=dat G' v e hv
     exact(q k).2 d hd G' H' v (e1.trans (e2.trans e)) r' D
   rcases hps with ⟨rfl,rfl⟩|⟨k,oc,u,vs,n,rfl,rfl,gk,d1,d2⟩
   ·refine .inl ⟨hP,λk oc hk co=>?_⟩
    obtain⟨vs,n,d1,d2⟩:=co
    exact fin k (upd G1 k (.frz oc anyO)) _ (Zcf (r1.sub.free hk) _) ((r1.new hk (.frz oc anyO)).chg (p:=P) ht (o:=.tbl (oneC l c k)) (u:=.tab l c qual (some k)) ⟨oneC l c k,Zb2,.inr ⟨k,oc,anyO,vs,n,rfl,rfl,Zb2,d1,d2⟩⟩) ⟨oc,anyO,Zb2⟩
   ·exact .inr ⟨k,oc,u,hP,r1.sub _ _ gk,⟨vs,n,d1,d2⟩,fin k G1 H1 (Same.refl _) (by rw[Znb ht];exact r1) ⟨oc,u,gk⟩⟩
  ·exact q.elim
theorem Dn.dataL{K:W.Frag}{P:Program}{w:World}{mg:Str->Option Value}{base:Heap}{x:Str}{st:Stmt}{N ps:List Str}{k:Nat}{f:DSp}{Pt:Addr}(U:LamU K mg x st Pt)(S:FnScope N ps (defScope st))(len:∀vs w k,f vs w k->vs.length=ps.length) 
  (hbody:∀(a:Addr) (cdv:Value) (A:Around) (outer:List Env) (s:Shared) (H:Hp) (E:XK),LamT K mg cdv Pt->Room k (A.deeper (envOfC x (defScope st) s.heap.objs.size a cdv)) ->
   ∃t d,IPSs (cxOf CX0 P w K mg base N x (defScope st) a cdv A outer s H E).nox (defBody st) t/\RS K t d/\∀(as:List Val) (o:OW) (q:Val->OW->Prop),f as o q->d { nx:=λs=>∃w',OW.le w' s.w/\q (.d .none) w',rt:=λv s=>∃w',OW.le w' s.w/\q v w' } ⟨startD N as,o⟩):Dn P w K mg base (k+1) x st ps (spD K f):=by
 obtain⟨a,fd,F,m,LT⟩:=U
 refine⟨a,fd,?_,F,m⟩
 obtain⟨oc,od,kV,doc,pm,an,cdv,ct,osl,rfl,lk,hcd⟩:=F.ex
 refine Zt6 lk hcd S (λvs H Q E h=>?_) λA outer s H vs Q E hr h=>?_
 ·obtain⟨G,o,as,_,_,h1,h2⟩:=h
  rw[<- h1.length];exact len _ _ _ h2
 ·obtain⟨G,o,as,h1,h2,h3,h4⟩:=h
  obtain⟨t,d,q1,q2,q3⟩:=hbody a cdv A outer s H E LT hr
  refine⟨t,(IPSs.get q1).nox,q2 G ⟨startD N as,o⟩ (start N vs) H _ { nx:=λs=>∃w',OW.le w' s.w/\_,rt:=λv s=>∃w',OW.le w' s.w/\_ } ⟨h1,h2,Zhx h3⟩ ⟨λs' G' σ' H' e r z=>?_,λv s' G' σ' H' x e r v1 z=>?_,λ_ _ _ _ _ _ z=>False.elim z,λ_ _ _ _ _ _ z=>False.elim z⟩ (q3 as o _ h4)⟩
  ·obtain⟨w',l,z⟩:=z
   exact z G' H' .non e r.sub (r.own.le l) Zll
  ·obtain⟨w',l,z⟩:=z
   exact z G' H' x e r.sub (r.own.le l) v1
end L2
namespace L2
open PySem PySem.W PySem.W.X PySem.Spec PyProof.Rows
theorem Zpj{P:Program}{w:World}{K:Frag}{mg mb:Str->Option Value}{CX:CXT}{k:Nat}{fa a Pt:Addr}{fd:FuncData}{x:Str}{sp:Sp}{s₁:Shared}{vs:List Value}{ns:List Int} 
  (KX:K.In s₁.heap) (hns:s₁.heap.Ns mainGlobals mg) (hb:s₁.heap.Ns builtinsNs mb) (hbb:∀x:Str,x≠"__name__"->mb x=bootBuiltins x) (hlim:s₁.heap.NoLimit) (hg:s₁.gens = #[])
  (ha:s₁.heap.get? a=some { cls:=.type "list",data:=.seq vs.toArray }) (hi:IntsAre vs ns) (hl:ns.length≤sizeLine) (hr:Room k callerA) {c₀:Addr} (hT:s₁.heap.TableAt c₀ Pt #[]) (hKP:K.lookup Pt=none)
  (F:∀base:Heap,FnOk P w K mg base CX k fa fd [x] sp) (hbind:∀(s:Shared) (u:Value),BindsTo s fd ⟨[u],[]⟩ [(x,u)])
  (hsp:∀H:Hp,H Pt=some (.tbl #[])->SqL K H a (ns.map V.int)->sp [.ref a] H (λv _=>v=.bl true) λ_ _ _=>False)
  (hCX:∀H e s',CX [] H s₁ (λ_ _ _=>False) e s'->False) :
  codeAny (model P w) callerA (.call (.ref fa) ⟨[.ref a],[]⟩) (λr s'=>r=.ok (.ret (.bool true))/\OldK s₁.heap s'.heap/\s'.os=s₁.os/\AllBare s'.gens) s₁:=by
 have rv:=Zlk hi
 have lenV:=hi.length
 have hP:s₁.heap.get? Pt=some { cls:=.none,data:=.fields #[] }:=hT.2
 have haP:a≠Pt:=λe=>by rw[e,hP]at ha;cases ha
 have core:∀H:Hp,(∀b,b≠Pt->H b=none\/∃o xs,H b=some (.frz o (.lst xs)))->H Pt=some (.tbl #[])->SqL K H a (ns.map V.int)->HOk P w H s₁.heap->(∀b,H b≠none->b=a\/b=Pt)->(H a≠none->K.lookup a=none) ->
   codeAny (model P w) callerA (.call (.ref fa) ⟨[.ref a],[]⟩) (λr s'=>r=.ok (.ret (.bool true))/\OldK s₁.heap s'.heap/\s'.os=s₁.os/\AllBare s'.gens) s₁:=by
  intro H hO hHP hS hok hA hK
  have base_of:∀{b:Addr}{o:Obj},s₁.heap.get? b=some o->H b=none->(hidT s₁.heap H).get? b=some o:=λe n=>Zr1 e n
  have noA:∀{b:Addr}{o:Obj}{es:Array DictEntry}{ep:Nat},s₁.heap.get? b=some o->o.data=.dict es ep->H b=none:=λ{b o es ep} e d=>by
   cases q:H b with
   | none=>rfl
   | some u=>
    rcases hA b (by rw[q];simp) with e' | e'
    ·subst e'
     rw[ha]at e;cases e
     have d':Data.seq vs.toArray _=Data.dict es ep:=d
     cases d'
    ·subst e'
     rw[hP]at e;cases e
     have d':Data.fields #[]=Data.dict es ep:=d
     cases d'
  have nsK:∀{b:Addr}{m:Str->Option Value},s₁.heap.Ns b m->(hidT s₁.heap H).Ns b m:=λ{b m} ⟨o,es,ep,e,d,r⟩=>⟨o,es,ep,base_of e (noA e d),d,r⟩
  have hKb:K.In (hidT s₁.heap H):=λb o e=>base_of (KX b o e) (by
   cases q:H b with
   | none=>rfl
   | some u=>
    rcases hA b (by rw[q];simp) with e' | e'
    ·subst e'
     rw[hK (by rw[q];simp)]at e;cases e
    ·subst e'
     rw[hKP]at e;cases e)
  have hM:Mod K mg (hidT s₁.heap H):=⟨hKb,nsK hns,⟨mb,nsK hb,hbb⟩,let ⟨mc,h1,h2⟩:=hlim;⟨mc,nsK h1,h2⟩⟩
  have e0:Env0 P w K mg (hidT s₁.heap H) callerA [] s₁ H:=⟨rfl,hM,λb o e=>Zth e,Nat.le_of_eq (Zpa _ _),trivial,λb hb=>absurd (show b∈([]:List Addr) from hb) (by simp),hok,.of_eq hg⟩
  refine wZ ((F _).run callerA [] s₁ H ⟨[.ref a],[]⟩ [.ref a] [.ref a] _ _ hr e0 (hbind s₁ (.ref a)) (.cons rfl .nil) (hsp H hHP hS)) λr s' h=>?_
  cases r with
  | error e=>exact(hCX H e s' h).elim
  | ok fl=>
   cases fl with
   | next=>exact False.elim h
   | brk=>exact False.elim h
   | cont=>exact False.elim h
   | ret u=>
    obtain⟨v,H',os,bare,un,hok',r',q⟩:=h
    have q':v=.bl true:=q
    subst q'
    obtain rfl:u=Value.bool true:=r'
    have old:∀b o,b≠Pt->s₁.heap.get? b=some o->s'.heap.get? b=some o:=λb o hb e=>by
     cases q:H b with
     | none=>exact un.keep b o e q (by intro z;exact absurd (show b∈([]:List Addr) from z) (by simp)) (by simp)
     | some u=>
      rcases hO b hb with z|⟨ob,xs,z⟩
      ·rw[q]at z;cases z
      ·have z2:=un.frzs b ob _ z
       obtain⟨e1,_⟩:=hok b _ z
       obtain⟨e2,_⟩:=hok' b _ z2
       rw[e]at e1;cases e1
       exact e2
    obtain⟨more,hm⟩:=un.tbls Pt _ hHP
    have hm':s'.heap.get? Pt=some { cls:=.none,data:=.fields (#[]++more) }:=hok' Pt _ hm
    refine⟨rfl,⟨λb o e=>?_,λb o e=>?_⟩,os,bare⟩
    ·by_cases hb:b=Pt
     ·subst hb
      rw[hP]at e;cases e
      exact .inr (.inl ⟨hT.isCodeTable,rfl,#[],more,rfl,hm'⟩)
     ·exact .inl (old b o hb e)
    ·by_cases hb:b=Pt
     ·subst hb;exact⟨_,hm'⟩
     ·exact⟨o,old b o hb e⟩
 cases hk:K.lookup a with
 | some o=>
  have e:=KX a o hk
  rw[ha]at e
  cases e
  refine core (λb=>if b=Pt then some (.tbl #[]) else none) (λb hb=>.inl (zJ hb)) (zI rfl) (.inr ⟨_,vs.toArray,_,hk,rfl,rfl,rfl,by rw[wV,lenV];exact hl,by simpa using rv⟩) (λb u z=>?_) (λb z=>?_) λz=>absurd (zJ haP) z
  ·by_cases hb:b=Pt
   ·have z':=(zI hb).symm.trans z
    cases z'
    subst hb
    exact hP
   ·have z':=(zJ hb).symm.trans z
    cases z'
  ·by_cases hb:b=Pt
   ·exact .inr hb
   ·exact absurd (zJ hb) z
 | none=>
  refine core (λb=>if b=Pt then some (.tbl #[]) else if b=a then some (.frz { cls:=.type "list",data:=.seq vs.toArray } (.lst (ns.map V.int))) else none) (λb hb=>?_) (zI rfl) (.inl (.inr ⟨{ cls:=.type "list",data:=.seq vs.toArray },(zJ haP).trans (zI rfl)⟩)) (λb u z=>?_) (λb z=>?_) λ_=>hk
  ·by_cases hba:b=a
   ·exact .inr ⟨_,_,(zJ hb).trans (zI hba)⟩
   ·exact .inl ((zJ hb).trans (zJ hba))
  ·by_cases hb:b=Pt
   ·have z':=(zI hb).symm.trans z
    cases z'
    subst hb
    exact hP
   ·by_cases hba:b=a
    ·have z':=((zJ hb).trans (zI hba)).symm.trans z
     cases z'
     subst hba
     exact⟨ha,by rw[lmp];exact hl,vs,_,rv,ha⟩
    ·have z':=((zJ hb).trans (zJ hba)).symm.trans z
     cases z'
  ·by_cases hb:b=Pt
   ·exact .inr hb
   ·by_cases hba:b=a
    ·exact .inl hba
    ·exact absurd ((zJ hb).trans (zJ hba)) z
def frgX(h:Heap)(Pt:Addr):Frag:=(List.range h.objs.size).filterMap λa=>(if a=Pt then none else h.get? a).map λo=>(a,o)
theorem Zhu{f:Addr->Option Obj}{a:Addr}:∀l:List Nat,((l.filterMap λa=>(f a).map λo=>(a,o)):List (Addr×Obj)).lookup a=if a∈l then f a else none
 | []=>rfl
 | b::l=>by
  rw[zS]
  by_cases e:a=b
  ·subst e
   cases q:f a with
   | none=>simp only[tD,zV,true_or,vQ];rw[Zhu l,q];split<;>rfl
   | some o=>simp[List.lookup]
  ·have hb:(a == b)=false:=zG.mpr e
   cases q:f b with
   | none=>simp only[tD];rw[Zhu l];simp[e]
   | some o=>simp only[uS,List.lookup,hb];rw[Zhu l];simp[e]
section
variable {h:Heap}{Pt:Addr}
theorem Zib{a:Addr}:(frgX h Pt).lookup a=if a=Pt then none else h.get? a:=by
 unfold frgX
 rw[Zhu (f:=λa=>if a=Pt then none else h.get? a)]
 simp only[zQ]
 split
 ·rfl
 ·rename_i n
  cases q:h.get? a with
  | none=>split<;>rfl
  | some o=>exact absurd (zM q) n
theorem Zp6{a:Addr}{o:Obj}(n:a≠Pt)(e:h.get? a=some o):(frgX h Pt).lookup a=some o:=by rw[Zib,zJ n];exact e
theorem Zp7:(frgX h Pt).lookup Pt=none:=by rw[Zib,zI rfl]
theorem Zp5:(frgX h Pt).In h:=λa o e=>by
 rw[Zib]at e
 split at e
 ·cases e
 ·exact e
theorem Zf2{a:Addr}{o:Obj}(hP:h.get? Pt=some (tabObj #[]))(e:h.get? a=some o)(n:o≠tabObj #[]):(frgX h Pt).lookup a=some o:=Zp6 (λz=>n (by rw[z,hP]at e;exact(zK e).symm)) e
theorem Zkw{cd:Value}{x:Str}(hP:h.get? Pt=some (tabObj #[]))(c:h.CodeRec cd x):codeIn (frgX h Pt) cd x=true:=by
 obtain⟨c,o,vs,t,rfl,hc,hd,hv⟩:=c
 have e:=Zf2 hP hc (λz=>by rw[z]at hd;cases hd;simp at hv)
 obtain⟨oc,od,dd,os⟩:=o
 cases hd
 unfold codeIn
 simp only[e]
 obtain⟨l⟩:=vs
 match l,hv with
 | a::b::l,hv=>
  have:b=.str x t:=by simpa using hv
  subst this
  simp
theorem Zkx{a:Addr}{oc:Value}{od:Option Addr}{fd:FuncData}{sl:Array (Option Value)}(hP:h.get? Pt=some (tabObj #[]))(e:h.get? a=some ⟨oc,od,.func fd,sl⟩):keepIn (frgX h Pt) (.ref a)=true:=by
 unfold keepIn
 simp only[Zf2 hP e (λz=>nomatch z)]
end
section
variable {q:Program}{loose:List Str}{XP:(Str->Option Value)->Heap->Prop}{w:World}{s₀:Shared}{mg mb:Str->Option Value}{h:Heap}{Pt:Addr}
theorem Zcl(hP:h.get? Pt=some (tabObj #[]))(G:Ground q loose [] XP w s₀ mg mb h){L:List DefRec}(hL:recsOf q=L)(i:Nat){x:Str}{st:Stmt}(hi:L[i]? = some (recD x st)):∃f fd,Fun (frgX h Pt) x x st f fd/\mg x=some (.ref f):=by
 subst hL
 obtain⟨a,⟨oc,od,dd,sl⟩,pm,cd,doc,h1,h2,h3,h4⟩:=G.T.fn _ (vI hi)
 cases h3
 exact⟨a,_,Zut (st:=st) (kV:=.none) (doc:=doc) (pm:=pm) (cdv:=cd) (Zf2 hP h2 (λz=>nomatch z)) (Zkw hP h4) (Zkx hP h2),h1⟩
theorem Zp8(hP:h.get? Pt=some (tabObj #[]))(G:Ground q loose [] XP w s₀ mg mb h){L:List (DefRec×List (Str×Expr))}(hL:wdefsOf q=L)(i:Nat){x:Str}{st:Stmt}{p:Pos}{n:Nat}(hi:L[i]? = some (recD x st,[]))(hd:(defArgs st).defaults=[.Tuple [] n p]):
  ∃e,EmptyAt (frgX h Pt) e/\∃f fd,FunD (frgX h Pt) x st f fd e/\mg x=some (.ref f):=by
 obtain⟨e,⟨o,m,e1,e2,e3⟩,f,fd,⟨⟨oc,od,T,kV,doc,pm,an,cdv,ct,osl,oT,n',rfl,lk,hcd,hT,hs⟩,kp⟩,mf⟩:=Zuu G hL i hi hd
 rw[Zdk]at e1 lk hT
 refine⟨e,⟨o,m,Zf2 hP e1 (λz=>by rw[z]at e2;cases e2),e2,e3⟩,f,_,⟨⟨oc,od,T,kV,doc,pm,an,cdv,ct,osl,oT,n',rfl,Zf2 hP lk (λz=>nomatch z),?_,Zf2 hP hT (λz=>by rw[z]at hs;cases hs),hs⟩,Zkx hP lk⟩,mf⟩
 exact Zkw hP (codeRec_of (Zus h) hcd)
theorem Zw7(G:Ground q loose [] XP w s₀ mg mb h){L:List DefRec}(hL:recsOf q=L)(i:Nat){x:Str}{st:Stmt}(hi:L[i]? = some (recD x st)):
  ∃c Pt,h.TableAt c Pt #[]/\∃f fd,Fun (frgX h Pt) x x st f fd/\mg x=some (.ref f)/\LamT (frgX h Pt) mg fd.code Pt:=by
 have hm:=vI (hL▸hi)
 obtain⟨a,o,fd,c,Pt,h1,h2,h3,h4,h5,h6⟩:=G.T.tab _ hm
 have hP:h.get? Pt=some (tabObj #[]):=h6.2
 obtain⟨f,fd',F,m⟩:=Zcl hP G hL i hi
 cases h1.symm.trans m
 obtain⟨oc,od,kV,doc,pm,an,cdv,ct,osl,rfl,lk,hcd⟩:=F.ex
 have e:=Zp5 (h:=h) _ _ lk
 rw[h2]at e
 cases e
 cases h3
 have C:=CodeHd.of h5 h6
 obtain⟨bm,ob,b1,b2,b3,b4,b5,b6⟩:=G.T.bmain
 have hbP:bm≠Pt:=λq=>by rw[q,hP]at b3;cases b3;cases b4
 have hbG:bm≠mainGlobals:=λq=>by
  obtain⟨o,es,ep,e,hd,_⟩:=G.T.g
  rw[q,e]at b3;cases b3;rw[hd]at b6;cases b6
 have hgP:mainGlobals≠Pt:=λq=>by
  obtain⟨o,es,ep,e,hd,_⟩:=G.T.g
  rw[q,hP]at e;cases e;cases hd
 refine⟨c,Pt,h6,a,_,F,m,⟨⟨c,h4,λh' kin=>?_⟩,λh' kin=>⟨bm,ob,b1,b2,hbG,hbP,kin _ _ (Zp6 hbP b3),b4,b5,b6⟩,hgP⟩⟩
 obtain⟨o,vs,file,tf,flags,tg,inF,text,tt,e,r1,r⟩:=C
 exact⟨o,vs,file,tf,flags,tg,inF,text,tt,kin _ _ (Zf2 hP e (λz=>by rw[z]at r1;cases r1)),r1,r⟩
end
def spLawT(K:Frag)(Pt:Addr):Sp:=λvs H Q _=>∃(a:Addr) (ns:List Int),vs=[.ref a]/\SqL K H a (ns.map V.int)/\ns.length≤63/\H Pt=some (.tbl #[])/\∀H',Q (.bl true) H'
theorem walkT{l:OpenLaw}{n k:Nat}{q:Program}{loose:List Str}{XP:(Str->Option Value)->Heap->Prop}{α:Type}{Yf:Shared->α}{Ya:World->α}{d:DefRec}{CX:CXT}{x:Str} 
  (hn:l.most=some n) (hn2:n≤63) (hdf:d.params.defaults=[]) (hr:Room k callerA)
  (F:∀(w:World) (s₀:Shared) (mg mb:Str->Option Value) (fa:Addr) (h:Heap),Ground q loose [] XP w s₀ mg mb h->mg d.name=some (.ref fa) ->
   ∃c Pt,h.TableAt c Pt #[]/\∃fd:FuncData,(∀(s:Shared) (u:Value),BindsTo s fd ⟨[u],[]⟩ [(x,u)])/\∀base:Heap,FnOk l.prog w (frgX h Pt) mg base CX k fa fd [x] (spLawT (frgX h Pt) Pt))
  (hCX:∀(H:Hp) (s:Shared) (e:Value) (s':Shared),CX [] H s (λ_ _ _=>False) e s'->False) :
  WalkX q loose XP Yf Ya l.row.toRowW d [] (λf vs=>PySem.call f vs):=by
 have W:WalkO q loose XP (λ_ _=>True) l.row.toRowW d [] (λf vs=>PySem.call f vs):=by
  refine Att.attach_call hn hdf λw s₀ s₁ mg mb fa o pm cd doc a vs ns G Y ho hd hcd hmg hobj hints hlen hg=>?_
  obtain⟨c,Pt,hT,fd,hb,hF⟩:=F w s₀ mg mb fa _ G hmg
  exact Zpj Zp5 G.T.g G.T.b G.T.builtins G.T.nolimit hg hobj hints (zR (zR hlen hn2) (by decide)) hr hT Zp7 hF hb (λH hP hS=>⟨a,ns,rfl,hS,zR hlen hn2,hP,λ_=>rfl⟩) λH e s'=>hCX H s₁ e s'
 intro w s₀ s₁ mg mb G y a o pm cd doc dV kV ho hd hcd hD hmg hg args vals as' L hpre hlay hrd hwl hlo
 exact W w s₀ s₁ mg mb G trivial a o pm cd doc dV kV ho hd hcd hD hmg hg args vals as' hpre hlay hrd hwl hlo
def tab0(Pt:Addr)(l c:Nat)(x:Str):OW:=OW.put (λ_=>none) Pt (.tab l c x none)
theorem Zpk{K:Frag}{P:Program}{w:World}{mg:Str->Option Value}{base:Heap}{st:Stmt}{N:List Str}{fa Pt:Addr}{fd:FuncData}{l c:Nat}{x:Str}(F:Fun K "law" "law" st fa fd)(S:FnScope N ["_law_script"] (defScope st)) 
  (hbody:∀(cdv:Value) (A:Around) (outer:List Env) (s:Shared) (H:Hp) (E:XK),Room 39 (A.deeper (envOfC "law" (defScope st) s.heap.objs.size fa cdv)) ->
   ∃t d,PSs (cxOf CX0 P w K mg base N "law" (defScope st) fa cdv A outer s H E).nox (defBody st) t/\RS K t d/\∀ns:List Int,ns.length≤63->d { nx:=λ_=>False,rt:=λv _=>v=.d (.bool true) } ⟨startD N [.scr ns],tab0 Pt l c x⟩):FnOk P w K mg base CX0 40 fa fd ["_law_script"] (spLawT K Pt):=by
 refine F.ok (k:=39) S (λvs H Q E h=>?_) (λcdv A outer s H vs Q E hr h=>?_)
 ·obtain⟨a,ns,rfl,_⟩:=h;rfl
 ·obtain⟨a,ns,rfl,hS,h63,hP,q⟩:=h
  obtain⟨t,d,q1,q2,q3⟩:=hbody cdv A outer s H E hr
  have sub:Same (λb=>if b=Pt then none else H b) H:=λb o e=>by
   by_cases z:b=Pt
   ·cases (zI z).symm.trans e
   ·exact(zJ z).symm.trans e
  have hS':SqL K (λb=>if b=Pt then none else H b) a (ns.map V.int):=by
   rcases hS with (z|⟨o,z⟩)|z
   ·exact .inl (.inl ((zJ (λe=>by rw[e,hP]at z;cases z)).trans z))
   ·exact .inl (.inr ⟨o,(zJ (λe=>by rw[e,hP]at z;cases z)).trans z⟩)
   ·exact .inr z
  refine⟨t,q1,q2 (λb=>if b=Pt then none else H b) ⟨startD N [.scr ns],tab0 Pt l c x⟩ (start N [.ref a]) H _ { nx:=λ_=>False,rt:=λv _=>v=.d (.bool true) } ⟨sub,(λb o z=>?_),Zhx (VRs.cons (v:=.scr ns) (show VR K _ (.scr ns) (.ref a) from⟨a,rfl,hS'⟩) .nil)⟩ ⟨λ_ _ _ _ _ _ z=>False.elim z,λv s' G' σ' H' x e r v1 z=>?_,λ_ _ _ _ _ _ z=>False.elim z,λ_ _ _ _ _ _ z=>False.elim z⟩ (q3 ns h63)⟩
  ·have z':OW.put (λ_=>none) Pt (.tab l c x none) b=some o:=z
   by_cases e:b=Pt
   ·subst e
    rw[OW.put_same]at z';cases z'
    exact⟨zI rfl,#[],hP,.inl ⟨rfl,rfl⟩⟩
   ·rw[OW.put_ne e]at z';cases z'
  ·have z':v=.d (.bool true):=z
   subst z'
   rw[Zkg v1]
   exact q H'
end L2
local macro_rules
 | `(tactic| simp!) => `(tactic| simp! only [])
 | `(tactic| simp! only [$xs:simpLemma,*]) => `(tactic| ((try dsimp only [L2.dAsg, L2.dLst, L2.dCons, L2.dNil, L2.dTup, L2.unD, L2.nl, L2.startD, L2.tgN, L2.tgTup, L2.tgCons, L2.tgNil, L2.DS.put, L2.DS.set, L2.dVar, L2.dC, L2.dRet, L2.dRetN, L2.dIfE, L2.dTru, L2.truD, L2.rdA, L2.rdT, L2.rdL, L2.rdM, L2.rdD, L2.dUn, L2.fU, L2.dOp, L2.fI0, L2.fB0, L2.fI, L2.fEq, L2.fEqD, L2.fInD, L2.fCatT, L2.fCat, L2.fRep, L2.fIxL, L2.fIxT, L2.dYes, L2.dNext, L2.dTest, L2.dAnd, L2.dOr, L2.dNot, L2.dAndV, L2.dOrV, L2.dNotV, L2.dCB, L2.f1, L2.f2, L2.gLen, L2.gTupOf, L2.gListOf, L2.gSum, L2.gAll, L2.gRepr, L2.fMax2, L2.fMin2, L2.fIsi, L2.gInt1, L2.dDrop, L2.dItL, L2.dItT, L2.dRng1, L2.dRng2, L2.dZip, L2.dEnum, L2.seqD, L2.dPar, L2.dSl, L2.dNoP, L2.dP, L2.fSlT, L2.fSlL, L2.dRev, L2.dEmit, L2.dCall, L2.dCallK, L2.noP, L2.captD, L2.ext, map_cons, map_nil, cons_append, nil_append, length_cons, length_nil, replicate_succ, List.replicate_zero, List.set_cons_zero, List.set_cons_succ, getElem?_cons_zero, getElem?_cons_succ, List.getElem?_nil, map_some, bind_some, Option.bind_none, Option.join_some, Option.join_none, Nat.reduceSub, Nat.reduceAdd, Nat.reduceLeDiff, false_eq_true, if_true, if_false, reduceIte, ite_true, ite_false, true_and, and_true, Bool.not_true, Bool.not_false, L2.OW.put_same, L2.OW.put_put, L2.dComp, L2.dApp, L2.dFrz, L2.gMax, L2.gMin, L2.dCallD, L2.gaQ, L2.dChain, L2.isNoneD, L2.fIsN, L2.tyN, L2.rdK, L2.dDGet, L2.dLoop, L2.dFrzD, L2.dDNew, L2.dBreak, L2.gSortI, L2.gLenD, L2.fRepT, L2.dIdx, L2.dExt, L2.dDisp1, L2.dDPut, L2.dItRv, L2.dTupRev, L2.dLstRng, L2.dDictOf, L2.dEz, L2.dDComp, L2.dCont, L2.dAugI, L2.dFor, L2.dWhile, L2.Zn2, L2.Zsk, L2.Zsl, L2.iteTT, L2.iteFF, L2.dDGetE, L2.dDInE, L2.dDPutE, L2.dDCompE, L2.dDisp1E, L2.dItems, L2.gAbs, L2.Zsd, L2.Zsc, L2.unK_kvK, decide_true, $xs,*]); (try simp only [L2.dAsg, L2.dLst, L2.dCons, L2.dNil, L2.dTup, L2.unD, L2.nl, L2.startD, L2.tgN, L2.tgTup, L2.tgCons, L2.tgNil, L2.DS.put, L2.DS.set, L2.dVar, L2.dC, L2.dRet, L2.dRetN, L2.dIfE, L2.dTru, L2.truD, L2.rdA, L2.rdT, L2.rdL, L2.rdM, L2.rdD, L2.dUn, L2.fU, L2.dOp, L2.fI0, L2.fB0, L2.fI, L2.fEq, L2.fEqD, L2.fInD, L2.fCatT, L2.fCat, L2.fRep, L2.fIxL, L2.fIxT, L2.dYes, L2.dNext, L2.dTest, L2.dAnd, L2.dOr, L2.dNot, L2.dAndV, L2.dOrV, L2.dNotV, L2.dCB, L2.f1, L2.f2, L2.gLen, L2.gTupOf, L2.gListOf, L2.gSum, L2.gAll, L2.gRepr, L2.fMax2, L2.fMin2, L2.fIsi, L2.gInt1, L2.dDrop, L2.dItL, L2.dItT, L2.dRng1, L2.dRng2, L2.dZip, L2.dEnum, L2.seqD, L2.dPar, L2.dSl, L2.dNoP, L2.dP, L2.fSlT, L2.fSlL, L2.dRev, L2.dEmit, L2.dCall, L2.dCallK, L2.noP, L2.captD, L2.ext, map_cons, map_nil, cons_append, nil_append, length_cons, length_nil, replicate_succ, List.replicate_zero, List.set_cons_zero, List.set_cons_succ, getElem?_cons_zero, getElem?_cons_succ, List.getElem?_nil, map_some, bind_some, Option.bind_none, Option.join_some, Option.join_none, Nat.reduceSub, Nat.reduceAdd, Nat.reduceLeDiff, false_eq_true, if_true, if_false, reduceIte, ite_true, ite_false, true_and, and_true, Bool.not_true, Bool.not_false, L2.OW.put_same, L2.OW.put_put, L2.dComp, L2.dApp, L2.dFrz, L2.gMax, L2.gMin, L2.dCallD, L2.gaQ, L2.dChain, L2.isNoneD, L2.fIsN, L2.tyN, L2.rdK, L2.dDGet, L2.dLoop, L2.dFrzD, L2.dDNew, L2.dBreak, L2.gSortI, L2.gLenD, L2.fRepT, L2.dIdx, L2.dExt, L2.dDisp1, L2.dDPut, L2.dItRv, L2.dTupRev, L2.dLstRng, L2.dDictOf, L2.dEz, L2.dDComp, L2.dCont, L2.dAugI, L2.dFor, L2.dWhile, L2.Zn2, L2.Zsk, L2.Zsl, L2.iteTT, L2.iteFF, L2.dDGetE, L2.dDInE, L2.dDPutE, L2.dDCompE, L2.dDisp1E, L2.dItems, L2.gAbs, L2.Zsd, L2.Zsc, L2.unK_kvK, decide_true, $xs,*]); (try ((with_reducible refine L2.Zpi ?_); (try simp! only [$xs,*])))))
namespace Mine
open PySem PySem.Spec PyProof.Rows L2
def top(i:Nat):Stmt:=PySem.Challenge.pw_bundleclocks_k10_rings_of_rounds_alone.main.body.getD i (.Pass ⟨0,0,0,0⟩)
abbrev sCost:Stmt:=top 1
abbrev sTogether:Stmt:=top 2
abbrev sToldBundles:Stmt:=top 4
abbrev sWeight:Stmt:=top 5
abbrev sEnds:Stmt:=top 6
abbrev sStepsOf:Stmt:=top 7
abbrev sArcsOf:Stmt:=top 8
abbrev sShorten:Stmt:=top 9
abbrev sShortestWays:Stmt:=top 10
abbrev sRingBehind:Stmt:=top 11
abbrev sWorths:Stmt:=top 12
abbrev sLawUrn:Stmt:=top 14
abbrev sLawDraw:Stmt:=top 15
abbrev sLawWhole:Stmt:=top 16
abbrev sLawPrices:Stmt:=top 17
abbrev sLawCost:Stmt:=top 18
abbrev sLawEdges:Stmt:=top 19
abbrev sLawHeights:Stmt:=top 20
abbrev sLawSmall:Stmt:=top 21
abbrev sLawTold:Stmt:=top 22
abbrev sLawIsRing:Stmt:=top 23
abbrev sLawAreWorths:Stmt:=top 24
abbrev sLawAreAny:Stmt:=top 25
abbrev sLawIsShown:Stmt:=top 26
abbrev sLawTurning:Stmt:=top 27
abbrev sLaw:Stmt:=top 28
structure Txt(K:Frag)(mg:Str->Option Value):Prop where
 f_cost:∃f fd,Fun K "cost" "cost" sCost f fd/\mg "cost" = some (.ref f)
 f_together:∃f fd,Fun K "together" "together" sTogether f fd/\mg "together" = some (.ref f)
 f_told_bundles:∃e,EmptyAt K e/\∃f fd,FunD K "told_bundles" sToldBundles f fd e/\mg "told_bundles" = some (.ref f)
 f_weight:∃f fd,Fun K "weight" "weight" sWeight f fd/\mg "weight" = some (.ref f)
 f_ends:∃f fd,Fun K "ends" "ends" sEnds f fd/\mg "ends" = some (.ref f)
 f_steps_of:∃f fd,Fun K "steps_of" "steps_of" sStepsOf f fd/\mg "steps_of" = some (.ref f)
 f_arcs_of:∃f fd,Fun K "arcs_of" "arcs_of" sArcsOf f fd/\mg "arcs_of" = some (.ref f)
 f_shorten:∃f fd,Fun K "shorten" "shorten" sShorten f fd/\mg "shorten" = some (.ref f)
 f_shortest_ways:∃f fd,Fun K "shortest_ways" "shortest_ways" sShortestWays f fd/\mg "shortest_ways" = some (.ref f)
 f_ring_behind:∃f fd,Fun K "ring_behind" "ring_behind" sRingBehind f fd/\mg "ring_behind" = some (.ref f)
 f_worths:∃e,EmptyAt K e/\∃f fd,FunD K "worths" sWorths f fd e/\mg "worths" = some (.ref f)
 f_law_urn:∃f fd,Fun K "_law_urn" "_law_urn" sLawUrn f fd/\mg "_law_urn" = some (.ref f)
 f_law_draw:∃f fd,Fun K "_law_draw" "_law_draw" sLawDraw f fd/\mg "_law_draw" = some (.ref f)
 f_law_whole:∃f fd,Fun K "_law_whole" "_law_whole" sLawWhole f fd/\mg "_law_whole" = some (.ref f)
 f_law_prices:∃f fd,Fun K "_law_prices" "_law_prices" sLawPrices f fd/\mg "_law_prices" = some (.ref f)
 f_law_cost:∃f fd,Fun K "_law_cost" "_law_cost" sLawCost f fd/\mg "_law_cost" = some (.ref f)
 f_law_edges:∃f fd,Fun K "_law_edges" "_law_edges" sLawEdges f fd/\mg "_law_edges" = some (.ref f)
 f_law_heights:∃f fd,Fun K "_law_heights" "_law_heights" sLawHeights f fd/\mg "_law_heights" = some (.ref f)
 f_law_small:∃f fd,Fun K "_law_small" "_law_small" sLawSmall f fd/\mg "_law_small" = some (.ref f)
 f_law_told:∃f fd,Fun K "_law_told" "_law_told" sLawTold f fd/\mg "_law_told" = some (.ref f)
 f_law_is_ring:∃f fd,Fun K "_law_is_ring" "_law_is_ring" sLawIsRing f fd/\mg "_law_is_ring" = some (.ref f)
 f_law_are_worths:∃f fd,Fun K "_law_are_worths" "_law_are_worths" sLawAreWorths f fd/\mg "_law_are_worths" = some (.ref f)
 f_law_are_any:∃f fd,Fun K "_law_are_any" "_law_are_any" sLawAreAny f fd/\mg "_law_are_any" = some (.ref f)
 f_law_is_shown:∃f fd,Fun K "_law_is_shown" "_law_is_shown" sLawIsShown f fd/\mg "_law_is_shown" = some (.ref f)
 f_law_turning:∃f fd,Fun K "_law_turning" "_law_turning" sLawTurning f fd/\mg "_law_turning" = some (.ref f)
 f_law:∃f fd,Fun K "law" "law" sLaw f fd/\mg "law" = some (.ref f)
 z_abs:mg "abs" = none
 z_all:mg "all" = none
 z_bool:mg "bool" = none
 z_int:mg "int" = none
 z_isinstance:mg "isinstance" = none
 z_len:mg "len" = none
 z_max:mg "max" = none
 z_min:mg "min" = none
 z_range:mg "range" = none
 z_repr:mg "repr" = none
 z_str:mg "str" = none
 z_sum:mg "sum" = none
 z_tuple:mg "tuple" = none
 z_zip:mg "zip" = none
theorem Zug:FnScope ["prices","bundle"] ["prices","bundle"] (defScope sCost):=⟨rfl,rfl,rfl,by decide +kernel,rfl,by decide +kernel,by decide +kernel⟩
theorem Zof:BindsAll "cost" sCost ["prices","bundle"]:=λ_ _ _ _ _ _ us hl=>by
 obtain⟨_,_,rfl⟩:=L2.lenE2 hl
 rfl
theorem Zmk:FnScope ["some","kinds"] ["some","kinds"] (defScope sTogether):=⟨rfl,rfl,rfl,by decide +kernel,rfl,by decide +kernel,by decide +kernel⟩
theorem Zdf:FnScope ["rounds","sealed","kinds","bundles","told","bundle"] ["rounds","sealed","kinds"] (defScope sToldBundles):=⟨rfl,rfl,rfl,by decide +kernel,rfl,by decide +kernel,by decide +kernel⟩
theorem Zex:FnScope ["step","rounds","sealed","word","place","bundle","prices","best"] ["step","rounds","sealed"] (defScope sWeight):=⟨rfl,rfl,rfl,by decide +kernel,rfl,by decide +kernel,by decide +kernel⟩
theorem Zog:BindsAll "weight" sWeight ["step","rounds","sealed"]:=λ_ _ _ _ _ _ us hl=>by
 obtain⟨_,_,_,rfl⟩:=L2.lenE3 hl
 rfl
theorem Ziq:FnScope ["step","rounds","word","place","bundle","nothing"] ["step","rounds"] (defScope sEnds):=⟨rfl,rfl,rfl,by decide +kernel,rfl,by decide +kernel,by decide +kernel⟩
theorem Zt0:BindsAll "ends" sEnds ["step","rounds"]:=λ_ _ _ _ _ _ us hl=>by
 obtain⟨_,_,rfl⟩:=L2.lenE2 hl
 rfl
theorem Zgf:FnScope ["told","rounds","sealed","steps"] ["told","rounds","sealed"] (defScope sStepsOf):=⟨rfl,rfl,rfl,by decide +kernel,rfl,by decide +kernel,by decide +kernel⟩
theorem Zlm:BindsAll "steps_of" sStepsOf ["told","rounds","sealed"]:=λ_ _ _ _ _ _ us hl=>by
 obtain⟨_,_,_,rfl⟩:=L2.lenE3 hl
 rfl
theorem Zo8:FnScope ["told","rounds","sealed"] ["told","rounds","sealed"] (defScope sArcsOf):=⟨rfl,rfl,rfl,by decide +kernel,rfl,by decide +kernel,by decide +kernel⟩
theorem Znk:BindsAll "arcs_of" sArcsOf ["told","rounds","sealed"]:=λ_ _ _ _ _ _ us hl=>by
 obtain⟨_,_,_,rfl⟩:=L2.lenE3 hl
 rfl
theorem Zd9:FnScope ["arcs","ways","lasts","found","arc","start","end","by","step"] ["arcs","ways","lasts"] (defScope sShorten):=⟨rfl,rfl,rfl,by decide +kernel,rfl,by decide +kernel,by decide +kernel⟩
theorem Znm:BindsAll "shorten" sShorten ["arcs","ways","lasts"]:=λ_ _ _ _ _ _ us hl=>by
 obtain⟨_,_,_,rfl⟩:=L2.lenE3 hl
 rfl
theorem Zc3:FnScope ["told","arcs","ways","lasts","found","turn"] ["told","arcs"] (defScope sShortestWays):=⟨rfl,rfl,rfl,by decide +kernel,rfl,by decide +kernel,by decide +kernel⟩
theorem Zhn:BindsAll "shortest_ways" sShortestWays ["told","arcs"]:=λ_ _ _ _ _ _ us hl=>by
 obtain⟨_,_,rfl⟩:=L2.lenE2 hl
 rfl
theorem Zcc:FnScope ["bundle","lasts","at","turn","first","ring"] ["bundle","lasts"] (defScope sRingBehind):=⟨rfl,rfl,rfl,by decide +kernel,rfl,by decide +kernel,by decide +kernel⟩
theorem Zj2:BindsAll "ring_behind" sRingBehind ["bundle","lasts"]:=λ_ _ _ _ _ _ us hl=>by
 obtain⟨_,_,rfl⟩:=L2.lenE2 hl
 rfl
theorem Zey:FnScope ["rounds","sealed","kinds","told","turned","ways","lasts","found"] ["rounds","sealed","kinds"] (defScope sWorths):=⟨rfl,rfl,rfl,by decide +kernel,rfl,by decide +kernel,by decide +kernel⟩
theorem Zew:FnScope ["_law_script","_law_spot","_law_cell","_law_great"] ["_law_script","_law_spot"] (defScope sLawUrn):=⟨rfl,rfl,rfl,by decide +kernel,rfl,by decide +kernel,by decide +kernel⟩
theorem Znl:BindsAll "_law_urn" sLawUrn ["_law_script","_law_spot"]:=λ_ _ _ _ _ _ us hl=>by
 obtain⟨_,_,rfl⟩:=L2.lenE2 hl
 rfl
theorem Zdo:FnScope ["_law_urn_here","_law_wide","_law_digit","_law_primes","_law_step","_law_base","_law_mixed"] ["_law_urn_here","_law_wide"] (defScope sLawDraw):=⟨rfl,rfl,rfl,by decide +kernel,rfl,by decide +kernel,by decide +kernel⟩
theorem Zct:BindsAll "_law_draw" sLawDraw ["_law_urn_here","_law_wide"]:=λ_ _ _ _ _ _ us hl=>by
 obtain⟨_,_,rfl⟩:=L2.lenE2 hl
 rfl
theorem Zlh:FnScope ["_law_thing"] ["_law_thing"] (defScope sLawWhole):=⟨rfl,rfl,rfl,by decide +kernel,rfl,by decide +kernel,by decide +kernel⟩
theorem Zfe:BindsAll "_law_whole" sLawWhole ["_law_thing"]:=λ_ _ _ _ _ _ us hl=>by
 obtain⟨_,rfl⟩:=L2.lenE1 hl
 rfl
theorem Zgx:FnScope ["_law_urn_here","_law_several","_law_wide"] ["_law_urn_here","_law_several"] (defScope sLawPrices):=⟨rfl,rfl,rfl,by decide +kernel,rfl,by decide +kernel,by decide +kernel⟩
theorem Zjr:BindsAll "_law_prices" sLawPrices ["_law_urn_here","_law_several"]:=λ_ _ _ _ _ _ us hl=>by
 obtain⟨_,_,rfl⟩:=L2.lenE2 hl
 rfl
theorem Zmj:FnScope ["_law_prices_here","_law_bundle"] ["_law_prices_here","_law_bundle"] (defScope sLawCost):=⟨rfl,rfl,rfl,by decide +kernel,rfl,by decide +kernel,by decide +kernel⟩
theorem Zd7:BindsAll "_law_cost" sLawCost ["_law_prices_here","_law_bundle"]:=λ_ _ _ _ _ _ us hl=>by
 obtain⟨_,_,rfl⟩:=L2.lenE2 hl
 rfl
theorem Zc7:FnScope ["_law_rows","_law_seals","_law_nodes","_law_found","_law_nothing","_law_prices_here","_law_bundle","_law_other","_law_coins"] ["_law_rows","_law_seals","_law_nodes"] (defScope sLawEdges):=⟨rfl,rfl,rfl,by decide +kernel,rfl,by decide +kernel,by decide +kernel⟩
theorem Zki:BindsAll "_law_edges" sLawEdges ["_law_rows","_law_seals","_law_nodes"]:=λ_ _ _ _ _ _ us hl=>by
 obtain⟨_,_,_,rfl⟩:=L2.lenE3 hl
 rfl
theorem Zbo:FnScope ["_law_nodes","_law_edges_here","_law_found","_law_bundle","_law_turn","_law_moved","_law_one","_law_other","_law_rise"] ["_law_nodes","_law_edges_here"] (defScope sLawHeights):=⟨rfl,rfl,rfl,by decide +kernel,rfl,by decide +kernel,by decide +kernel⟩
theorem Ziz:BindsAll "_law_heights" sLawHeights ["_law_nodes","_law_edges_here"]:=λ_ _ _ _ _ _ us hl=>by
 obtain⟨_,_,rfl⟩:=L2.lenE2 hl
 rfl
theorem Zhm:FnScope ["_law_urn_here","_law_several","_law_wide"] ["_law_urn_here","_law_several"] (defScope sLawSmall):=⟨rfl,rfl,rfl,by decide +kernel,rfl,by decide +kernel,by decide +kernel⟩
theorem Zkj:BindsAll "_law_small" sLawSmall ["_law_urn_here","_law_several"]:=λ_ _ _ _ _ _ us hl=>by
 obtain⟨_,_,rfl⟩:=L2.lenE2 hl
 rfl
theorem Zdp:FnScope ["_law_rows","_law_seals","_law_several","_law_found","_law_prices_here","_law_bundle","_law_coins"] ["_law_rows","_law_seals","_law_several"] (defScope sLawTold):=⟨rfl,rfl,rfl,by decide +kernel,rfl,by decide +kernel,by decide +kernel⟩
theorem Zg6:BindsAll "_law_told" sLawTold ["_law_rows","_law_seals","_law_several"]:=λ_ _ _ _ _ _ us hl=>by
 obtain⟨_,_,_,rfl⟩:=L2.lenE3 hl
 rfl
theorem Zbg:FnScope ["_law_ring","_law_rows","_law_seals","_law_nodes","_law_found","_law_ends","_law_step","_law_word","_law_k","_law_bundle","_law_prices_here","_law_begin"] ["_law_ring","_law_rows","_law_seals","_law_nodes"] (defScope sLawIsRing):=⟨rfl,rfl,rfl,by decide +kernel,rfl,by decide +kernel,by decide +kernel⟩
theorem Zj0:BindsAll "_law_is_ring" sLawIsRing ["_law_ring","_law_rows","_law_seals","_law_nodes"]:=λ_ _ _ _ _ _ us hl=>by
 obtain⟨_,_,_,_,rfl⟩:=L2.lenE4 hl
 rfl
theorem Zbm:FnScope ["_law_row","_law_rows","_law_seals","_law_several","_law_nodes","_law_bundle","_law_coins","_law_prices_here","_law_gain"] ["_law_row","_law_rows","_law_seals","_law_several"] (defScope sLawAreWorths):=⟨rfl,rfl,rfl,by decide +kernel,rfl,by decide +kernel,by decide +kernel⟩
theorem Zgy:BindsAll "_law_are_worths" sLawAreWorths ["_law_row","_law_rows","_law_seals","_law_several"]:=λ_ _ _ _ _ _ us hl=>by
 obtain⟨_,_,_,_,rfl⟩:=L2.lenE4 hl
 rfl
theorem Zg5:FnScope ["_law_rows","_law_seals","_law_several","_law_nodes"] ["_law_rows","_law_seals","_law_several"] (defScope sLawAreAny):=⟨rfl,rfl,rfl,by decide +kernel,rfl,by decide +kernel,by decide +kernel⟩
theorem Ziy:BindsAll "_law_are_any" sLawAreAny ["_law_rows","_law_seals","_law_several"]:=λ_ _ _ _ _ _ us hl=>by
 obtain⟨_,_,_,rfl⟩:=L2.lenE3 hl
 rfl
theorem Zir:FnScope ["_law_told_here","_law_rows","_law_seals","_law_several"] ["_law_told_here","_law_rows","_law_seals","_law_several"] (defScope sLawIsShown):=⟨rfl,rfl,rfl,by decide +kernel,rfl,by decide +kernel,by decide +kernel⟩
theorem Ze3:BindsAll "_law_is_shown" sLawIsShown ["_law_told_here","_law_rows","_law_seals","_law_several"]:=λ_ _ _ _ _ _ us hl=>by
 obtain⟨_,_,_,_,rfl⟩:=L2.lenE4 hl
 rfl
theorem Zbz:FnScope ["_law_urn_here","_law_several","_law_some","_law_rows","_law_k","_law_prices_here","_law_bundle"] ["_law_urn_here"] (defScope sLawTurning):=⟨rfl,rfl,rfl,by decide +kernel,rfl,by decide +kernel,by decide +kernel⟩
theorem Zj1:BindsAll "_law_turning" sLawTurning ["_law_urn_here"]:=λ_ _ _ _ _ _ us hl=>by
 obtain⟨_,rfl⟩:=L2.lenE1 hl
 rfl
theorem Zgw:FnScope ["_law_script","_law_spot","_law_urn_here","_law_rows","_law_several","_law_told_here","_law_k","_law_part","_law_still"] ["_law_script"] (defScope sLaw):=⟨rfl,rfl,rfl,by decide +kernel,rfl,by decide +kernel,by decide +kernel⟩
theorem Ze7:KBindsAll "together" sTogether ["some","kinds"] ["kinds"] 1 1 [(true,0),(false,0)]:=λ_ _ _ _ _ _ us ws hl=>by
 obtain⟨h1,h2⟩:=Zt7 hl
 obtain⟨_,rfl⟩:=L2.lenE1 h1
 obtain⟨_,rfl⟩:=L2.lenE1 h2
 rfl
theorem Zf5:KBindsD "told_bundles" sToldBundles ["rounds","sealed","kinds"] ["kinds"] 2 1 [(0,0),(0,1),(1,0)]:=λ_ _ _ _ _ _ _ _ us ws hl=>by
 obtain⟨h1,h2⟩:=Zp9 hl
 obtain⟨_,_,rfl⟩:=L2.lenE2 h1
 obtain⟨_,rfl⟩:=L2.lenE1 h2
 exact⟨_,rfl,rfl⟩
theorem Zcz:KBindsD "worths" sWorths ["rounds","sealed","kinds"] ["kinds"] 1 1 [(0,0),(2,0),(1,0)]:=λ_ _ _ _ _ _ _ _ us ws hl=>by
 obtain⟨h1,h2⟩:=Zp9 hl
 obtain⟨_,rfl⟩:=L2.lenE1 h1
 obtain⟨_,rfl⟩:=L2.lenE1 h2
 exact⟨_,rfl,rfl⟩
section
variable {P:Program}{w:World}{K:Frag}{mg:Str->Option Value}{base:Heap}
theorem mk0{i j:Int}(hi0:0≤i)(hi:i<2 ^ 200)(hj0:0≤j)(hj:j<2 ^ 200):IntMulOk i j:=Zn8 (n:=200) (by decide) (Zip hi0 hi) (Zip hj0 hj)
theorem Zur(T:Txt K mg):Dn P w K mg base 1 "_law_urn" sLawUrn ["_law_script","_law_spot"] (spUrn K):=by
 refine Dn.of T.f_law_urn Zew (λvs H Q E h=>?_) (λf cdv A outer s H vs Q E hr h=>?_)
 ·obtain⟨a,ns,k,rfl,_⟩:=h;rfl
 obtain⟨a,ns,k,rfl,hS,h0,h1,q⟩:=h
 refine⟨_,IPSs.get (Za4 (Zan (i:=2) Zew.nd rfl (uM rfl) Za5)
  (Za4 (Zba (Zau Zlc (i_pv 1) (Zab Zb5 rfl T.z_len tM (Za0 (i_pv 0) Za3)) (nomark _)) (Za8 (Zan (i:=2) Zew.nd rfl (uM rfl) (Zak Zcu (i_pv 0) (i_pv 1) (λ_ _=>rfl)))) Zao)
  (Za4 (Zan (i:=3) Zew.nd rfl (uM rfl) (Zab Zqu rfl T.z_abs boot_abs (Za0 (i_pv 2) Za3)))
  (Za4 (Zba (Zau Zlc (i_pv 3) (Zaj Zpt Za5 Za5) (nomark _)) (Za8 (Zan (i:=3) Zew.nd rfl (uM rfl) Za5)) Zao)
  (Za8 (Zae (Zcq (Za0 (i_pv 3) (Za0 (Zaj Zd5 (Zaj Zd5 (Zaj Zd5 (Zaj Zhj (i_pv 2) Za5) (Zaj Zen (Zaj Zen Za5 (i_pv 1)) (i_pv 1))) (Zaj Zen Za5 (i_pv 1))) Za5) (Za0 Za5 Za3)))))))))),?_⟩
 have fin:∀(g c:Int) (p:Addr),0≤g->H p=none->Q (.ref p) (upd H p (.lst [.int g,.int (c % 1000000000000000003+97*k*k+31*k+1),.int 0])):=λg c p hg hp=>by
  refine q p _ (Zcf hp _) hp ⟨_,_,_,Zb2,hg,?_,?_,by decide,by decide⟩
  ·have e1:=xA c (show(1000000000000000003:Int)≠0 by decide)
   have e2:0≤97*k*k:=tN (by omega) h0
   omega
  ·have e1:=xB c (show(0:Int)<1000000000000000003 by decide)
   have e2:97*k*k≤97*100*100:=tO (by omega) h1 h0 (by decide)
   omega
 have k2:97*k<2 ^ 200:=by omega
 have m1:IntMulOk 97 k:=mk0 (by decide) (by decide) h0 (by omega)
 have m2:IntMulOk (97*k) k:=mk0 (by omega) k2 h0 (by omega)
 have m3:IntMulOk 31 k:=mk0 (by decide) (by decide) h0 (by omega)
 refine⟨_,rfl,_,rfl,a,_,rfl,.inl hS,_,_,rfl,rfl,_,rfl,?_⟩
 refine ite2 (λc=>?_) (λc=>?_)
 ·have c':k<(((ns.map V.int).length:Nat):Int):=of_decide_eq_true c
  rw[lmp]at c'
  have hk:k.toNat<ns.length:=by omega
  have hv:atI (ns.map V.int) k=some (.int ns[k.toNat]):=by
   have z:=Zcs (xs:=ns.map V.int) (j:=k.toNat) (v:=.int ns[k.toNat]) (by rw[vH,gEq hk];rfl)
   rwa [show((k.toNat:Nat):Int)=k by omega]at z
  refine⟨_,rfl,_,rfl,a,_,_,_,rfl,rfl,hS,hv,?_⟩
  refine⟨_,rfl,_,rfl,?_⟩
  refine⟨_,rfl,_,_,rfl,rfl,⟨by decide,by decide +kernel⟩,_,_,rfl,rfl,_,rfl,?_⟩
  refine ite2 (λc2=>?_) (λc2=>?_)
  ·refine⟨_,rfl,_,rfl,_,_,rfl,rfl,(by show(0:Int)<1000000000000000003;decide),_,rfl,_,_,rfl,rfl,m1,_,rfl,_,_,rfl,rfl,m2,_,_,rfl,rfl,_,rfl,_,_,rfl,rfl,m3,_,_,rfl,rfl,_,_,rfl,rfl,(L2.sz3),λp hp=>?_⟩
   exact fin 0 _ p (by decide) hp
  ·refine⟨_,rfl,_,rfl,_,_,rfl,rfl,(by show(0:Int)<1000000000000000003;decide),_,rfl,_,_,rfl,rfl,m1,_,rfl,_,_,rfl,rfl,m2,_,_,rfl,rfl,_,rfl,_,_,rfl,rfl,m3,_,_,rfl,rfl,_,_,rfl,rfl,(L2.sz3),λp hp=>?_⟩
   exact fin _ _ p (by split<;>omega) hp
 ·refine⟨_,rfl,_,rfl,?_⟩
  refine⟨_,rfl,_,_,rfl,rfl,⟨by decide,by decide +kernel⟩,_,_,rfl,rfl,_,rfl,?_⟩
  refine ite2 (λc2=>?_) (λc2=>?_)
  ·refine⟨_,rfl,_,rfl,_,_,rfl,rfl,(by show(0:Int)<1000000000000000003;decide),_,rfl,_,_,rfl,rfl,m1,_,rfl,_,_,rfl,rfl,m2,_,_,rfl,rfl,_,rfl,_,_,rfl,rfl,m3,_,_,rfl,rfl,_,_,rfl,rfl,(L2.sz3),λp hp=>?_⟩
   exact fin 0 _ p (by decide) hp
  ·refine⟨_,rfl,_,rfl,_,_,rfl,rfl,(by show(0:Int)<1000000000000000003;decide),_,rfl,_,_,rfl,rfl,m1,_,rfl,_,_,rfl,rfl,m2,_,_,rfl,rfl,_,rfl,_,_,rfl,rfl,m3,_,_,rfl,rfl,_,_,rfl,rfl,(L2.sz3),λp hp=>?_⟩
   exact fin _ _ p (by split<;>omega) hp
theorem Zt3(T:Txt K mg):Dn P w K mg base 1 "_law_draw" sLawDraw ["_law_urn_here","_law_wide"] spDraw:=by
 refine Dn.of T.f_law_draw Zdo (λvs H Q E h=>?_) (λf cdv A outer s H vs Q E hr h=>?_)
 ·obtain⟨u,wd,m,rfl,_⟩:=h;rfl
 obtain⟨u,wd,m,rfl,hU,hm,w0,w1,q⟩:=h
 obtain⟨g,c,n,hu,g0,c0,c1,n0,n1⟩:=hU
 refine⟨_,IPSs.get (Za4 (Zba (Zau Ztj (Zak Zcu (i_pv 0) Za5 (λ_ _=>rfl)) Za5 (nomark _)) (Za4 (Zan (i:=2) Zdo.nd rfl (uM rfl) (Zaj Zhj (Zak Zcu (i_pv 0) Za5 (λ_ _=>rfl)) (i_pv 1)))
  (Za4 (Zdc (Zaj Zmc (Zak Zcu (i_pv 0) Za5 (λ_ _=>rfl)) (i_pv 1)) (Zmz (i_pv 0) Za5 Znf))
  (Za8 (Zae (i_pv 2))))) Zao)
  (Za4 (Zan (i:=3) Zdo.nd rfl (uM rfl) (Zb6 (Za0 Za5 (Za0 Za5 (Za0 Za5 (Za0 Za5 (Za0 Za5 (Za0 Za5 (Za0 Za5 Za3)))))))))
  (Za4 (Zdc (Zaj Zd5 (Zak Zcu (i_pv 0) Za5 (λ_ _=>rfl)) Za5) (Zmz (i_pv 0) Za5 Znf))
  (Za4 (Zan (i:=4) Zdo.nd rfl (uM rfl) (Zak Zcu (i_pv 0) Za5 (λ_ _=>rfl)))
  (Za4 (Zan (i:=5) Zdo.nd rfl (uM rfl) (Zaj Zd5 (Zaj Zd5 (Zaj Zen (Zak Zcu (i_pv 0) Za5 (λ_ _=>rfl)) (Zaj Zd5 (Zaj Zen Za5 (i_pv 4)) Za5)) (Zaj Zen (Zaj Zen Za5 (i_pv 4)) (i_pv 4))) Za5))
  (Za4 (Zan (i:=6) Zdo.nd rfl (uM rfl) (Zaj Zhj (Zaj Zpt (i_pv 5) Za5) (Zak Zbn (i_pv 3) (Zaj Zhj (i_pv 4) Za5) (λ_ _=>rfl))))
  (Za8 (Zae (Zaj Zhj (Zaj Zmc (Zaj Zhj (Zaj Zen (i_pv 6) (Zaj Zd5 (Zaj Zmc (i_pv 6) Za5) (i_pv 4))) (Zak Zbn (i_pv 3) (Zaj Zhj (Zaj Zd5 (i_pv 4) Za5) Za5) (λ_ _=>rfl))) Za5) (i_pv 1)))))))))),?_⟩
 refine⟨_,rfl,u,_,_,_,rfl,rfl,SqL.of hu,rfl,_,_,rfl,rfl,_,rfl,?_⟩
 refine ite2 (λcg=>?_) (λcg=>?_)
 ·refine⟨_,rfl,u,_,_,_,rfl,rfl,SqL.of hu,rfl,_,rfl,_,_,rfl,rfl,w0,?_⟩
  refine⟨_,rfl,u,_,_,_,rfl,rfl,SqL.of hu,rfl,_,rfl,_,_,rfl,rfl,⟨w0,w1⟩,_,rfl,u,_,_,_,rfl,rfl,hu,rfl,?_⟩
  refine⟨_,rfl,?_⟩
  exact q _ _ (xA _ (by omega)) (xB _ w0) (SB.upd u H _) ⟨_,_,_,Zb2,Int.ediv_nonneg g0 (by omega),c0,c1,n0,by omega⟩
 ·refine⟨(by show 7≤sizeLine;decide),λp hp=>?_⟩
  have pu:u≠p:=λz=>by rw[z,hp]at hu;cases hu
  have hu1:upd H p (.tup [V.int 2147483647,V.int 2147483629,V.int 2147483587,V.int 2147483579,V.int 2147483563,V.int 2147483549,V.int 2147483543]) u=some (.lst [.int g,.int c,.int n]):=by rw[Zb3 pu];exact hu
  refine⟨_,rfl,u,_,_,_,rfl,rfl,SqL.of hu1,rfl,_,_,rfl,rfl,_,rfl,u,_,_,_,rfl,rfl,hu1,rfl,?_⟩
  obtain⟨q1,e1,p1,p2⟩:=prime7 (n+1)
  obtain⟨q2,e2,p3,p4⟩:=prime7 (n+1+3)
  generalize hH2:upd (upd H p (.tup [V.int 2147483647,V.int 2147483629,V.int 2147483587,V.int 2147483579,V.int 2147483563,V.int 2147483549,V.int 2147483543])) u (.lst ([V.int g,V.int c,V.int n].set (Int.toNat 2) ((λi j=>V.int (i+j)) n 1)))=H2
  have hu2:H2 u=some (.lst [.int g,.int c,.int (n+1)]):=by rw[<- hH2];exact Zb2
  have hp2:H2 p=some (.tup [V.int 2147483647,V.int 2147483629,V.int 2147483587,V.int 2147483579,V.int 2147483563,V.int 2147483549,V.int 2147483543]):=by rw[<- hH2,Zb3 (zW pu)];exact Zb2
  have hSB:SB u H H2:=λb o nb e=>by rw[<- hH2,Zb3 nb,Zb3 (Zdl e hp)];exact e
  have n9:n+1≤1000001:=by omega
  have b1:2*(n+1)+1≤2000003:=by omega
  have b2:c*(2*(n+1)+1)≤4000000000000000000*2000003:=tO c1 b1 (by omega) (by decide)
  have b2':0≤c*(2*(n+1)+1):=tN c0 (by omega)
  have b3:6007*(n+1)*(n+1)≤6007*1000001*1000001:=tO (by omega) n9 (by omega) (by decide)
  have b3':0≤6007*(n+1)*(n+1):=tN (by omega) (by omega)
  refine⟨_,rfl,u,_,_,_,rfl,rfl,SqL.of hu2,rfl,?_⟩
  refine⟨_,rfl,u,_,_,_,rfl,rfl,SqL.of hu2,rfl,_,rfl,_,_,rfl,rfl,mk0 (by decide) (by decide) (by omega) (by omega),_,_,rfl,rfl,_,_,rfl,rfl,mk0 c0 (by omega) (by omega) (by omega),_,rfl,_,_,rfl,rfl,mk0 (by decide) (by decide) (by omega) (by omega),_,rfl,_,_,rfl,rfl,mk0 (by omega) (by omega) (by omega) (by omega),_,_,rfl,rfl,_,_,rfl,rfl,?_⟩
  have bs0:0≤c*(2*(n+1)+1)+6007*(n+1)*(n+1)+53:=by omega
  have bs1:c*(2*(n+1)+1)+6007*(n+1)*(n+1)+53<2 ^ 200:=by omega
  have pw:CPowB (c*(2*(n+1)+1)+6007*(n+1)*(n+1)+53) 3:=by
   refine⟨by decide,?_⟩
   have:=L2.Zh4 (Zip bs0 bs1)
   omega
  refine⟨_,rfl,_,_,rfl,rfl,pw,_,rfl,_,rfl,_,_,rfl,rfl,(by show(0:Int)<7;decide),p,_,_,_,rfl,rfl,SqT.of hp2,e1,_,_,rfl,rfl,p1,?_⟩
  obtain⟨mx,hmx⟩:∃mx,mx=(c*(2*(n+1)+1)+6007*(n+1)*(n+1)+53) ^ (3:Int).toNat % q1:=⟨_,rfl⟩
  have mx0:0≤mx:=by rw[hmx];exact xA _ (by omega)
  have mx1:mx<q1:=by rw[hmx];exact xB _ p1
  have d1:mx / 8191≤mx:=Int.ediv_le_self _ mx0
  have d0:0≤mx / 8191:=Int.ediv_nonneg mx0 (by decide)
  refine⟨_,rfl,_,rfl,_,_,rfl,rfl,⟨by decide,by decide⟩,_,rfl,_,_,rfl,rfl,_,_,rfl,rfl,(show IntMulOk ((c*(2*(n+1)+1)+6007*(n+1)*(n+1)+53) ^ (3:Int).toNat % q1) ((c*(2*(n+1)+1)+6007*(n+1)*(n+1)+53) ^ (3:Int).toNat % q1 / 8191+(n+1)) by rw[<- hmx];exact mk0 mx0 (by omega) (by omega) (by omega)),_,rfl,_,rfl,_,_,rfl,rfl,_,_,rfl,rfl,(by show(0:Int)<7;decide),p,_,_,_,rfl,rfl,SqT.of hp2,e2,_,_,rfl,rfl,p3,_,_,rfl,rfl,⟨by decide,by decide⟩,_,rfl,_,_,rfl,rfl,w0,?_⟩
  exact q _ _ (xA _ (by omega)) (xB _ w0) hSB ⟨_,_,_,hu2,g0,c0,c1,by omega,by omega⟩
abbrev Zjb:=dsUrn
abbrev Zi7:=dsDraw
theorem Zma:MoS Zjb:=Ztg
theorem Zch:MoS Zi7:=Zra
theorem Znq(T:Txt K mg):Dn P w K mg base 1 "_law_urn" sLawUrn ["_law_script","_law_spot"] (spD K Zjb):=(Zur T).imp λ_ _ _ _ h=>Zum h
theorem Zg7(T:Txt K mg):Dn P w K mg base 1 "_law_draw" sLawDraw ["_law_urn_here","_law_wide"] (spD K Zi7):=(Zt3 T).imp λ_ _ _ _ h=>Zqw h
end
section
variable {P:Program}{w:World}{K:Frag}{mg:Str->Option Value}{base:Heap}
theorem mulS{x y:Int}(h1:x.natAbs<2 ^ 100)(h2:y.natAbs<2 ^ 100):IntMulOk x y:=Zn8 (n:=100) (by decide) h1 h2
def Sm(ns:List Int):Prop:=∀x∈ns,x.natAbs<2 ^ 100
def dot(ns ms:List Int):Int:=((ns.zip ms).map λp=>p.1*p.2).sum
abbrev Rnd:=List Int×List Int
abbrev Sea:=List Int×Int
abbrev Stp:=Nat×Nat×List Int
def rowD(r:Rnd):PyData:=.tuple [tI r.1,tI r.2]
def Zd0(r:Sea):PyData:=.tuple [tI r.1,.int r.2]
def Ze0(rs:List Rnd):PyData:=.tuple (rs.map rowD)
def Zdg(ss:List Sea):PyData:=.tuple (ss.map Zd0)
structure Hist(k:Nat)(rs:List Rnd)(ss:List Sea):Prop where
 k1:1≤k
 k3:k≤3
 row:∀r∈rs,r.1.length=k/\r.2.length=k/\Sm r.1/\Sm r.2
 sea:∀r∈ss,r.1.length=k/\Sm r.1
 rl:rs.length≤13
 sl:ss.length≤13
theorem Zt5(a b:Int):PyData.eqv (.int a) (.int b)=decide (a=b):=by rw[PyData.eqv];rfl
theorem Zi9:∀a b:List Int,PyData.eqvAll (a.map .int) (b.map .int)=decide (a=b)
 | [],[]=>by simp[PyData.eqvAll]
 | [],_::_=>by simp[PyData.eqvAll]
 | _::_,[]=>by simp[PyData.eqvAll]
 | x::a,y::b=>by
  rw[uB,uB,PyData.eqvAll,Zt5,Zi9 a b]
  by_cases h1:x=y<;>by_cases h2:a=b<;>simp[h1,h2]
theorem Zia(a b:List Int):PyData.eqv (tI a) (tI b)=decide (a=b):=by
 unfold tI;rw[PyData.eqv];exact Zi9 a b
theorem Zmo(bs:List (List Int))(b:List Int):((bs.map tI).any λy=>PyData.eqv y (tI b))=decide (b∈bs):=by
 rw[List.any_map]
 simp only[tP,Zia]
 rw[wU,tQ]
 simp
def addB(bs:List (List Int))(b:List Int):List (List Int):=if b∈bs then bs else bs++[b]
def Zam(k:Nat)(rs:List Rnd)(ss:List Sea):List (List Int):=(rs.map Prod.snd++ss.map Prod.fst).foldl addB [List.replicate k 0]
theorem Zqr(bs:List (List Int))(b:List Int):(addB bs b).length≤bs.length+1:=by unfold addB;split<;>simp
theorem Zep:∀(l bs:List (List Int)),(l.foldl addB bs).length≤bs.length+l.length
 | [],bs=>by simp
 | b::l,bs=>by
  have:=Zep l (addB bs b)
  have h:=Zqr bs b
  rw[uH,yP];omega
theorem Zqs{bs:List (List Int)}{b x:List Int}:x∈addB bs b↔x∈bs\/x=b:=by
 unfold addB;split
 ·next h=>exact⟨.inl,λz=>z.elim id λe=>e▸h⟩
 ·simp
theorem Zkt:∀(l bs:List (List Int)) (x:List Int),x∈l.foldl addB bs↔x∈bs\/x∈l
 | [],bs,x=>by simp
 | b::l,bs,x=>by
  rw[uH,Zkt l _ x,Zqs,zV]
  exact⟨λh=>h.elim (λh=>h.elim .inl λe=>.inr (.inl e)) λh=>.inr (.inr h),λh=>h.elim (λh=>.inl (.inl h)) λh=>h.elim (λe=>.inl (.inr e)) .inr⟩
theorem Zcd{k:Nat}{rs:List Rnd}{ss:List Sea}{x:List Int}:x∈Zam k rs ss↔x=List.replicate k 0\/(∃r∈rs,r.2=x)\/∃r∈ss,r.1=x:=by
 unfold Zam
 rw[Zkt,zX,xF,xF,xD]
theorem Zke{k:Nat}{rs:List Rnd}{ss:List Sea}:(Zam k rs ss).length≤1+rs.length+ss.length:=by
 have:=Zep (rs.map Prod.snd++ss.map Prod.fst) [List.replicate k 0]
 rw[vJ,lmp,lmp,uJ]at this
 unfold Zam;omega
theorem Zuh(k:Nat):Sm (List.replicate k 0):=λx hx=>by rw[(tR.mp hx).2];decide
theorem Hist.told{k:Nat}{rs:List Rnd}{ss:List Sea}(h:Hist k rs ss):∀b∈Zam k rs ss,b.length=k/\Sm b:=λb hb=>by
 rcases Zcd.mp hb with rfl|⟨r,hr,rfl⟩|⟨r,hr,rfl⟩
 ·exact⟨by simp,Zuh k⟩
 ·exact⟨(h.row r hr).2.1,(h.row r hr).2.2.2⟩
 ·exact h.sea r hr
def Zas(k:Nat):List Int:=List.replicate k 0
def wordOf:Nat->Str
 | 0=>"round" | 1=>"bid" | 2=>"due" | _=>"free"
def Zc8(e:Stp):PyData:=.tuple [.str (wordOf e.1),.int (e.2.1:Nat),tI e.2.2]
def Valid(k:Nat)(rs:List Rnd)(ss:List Sea)(e:Stp):Prop:=e.2.2.length=k/\Sm e.2.2/\(e.1=0->e.2.1<rs.length)/\(e.1=1\/e.1=2->e.2.1<ss.length)/\e.1≤3
def Zag(rs:List Rnd)(ss:List Sea)(e:Stp):Int:=match e.1 with
 | 0=>match rs[e.2.1]? with|some r=>dot r.1 e.2.2-dot r.1 r.2|none=>0
 | 1=>match ss[e.2.1]? with|some r=>r.2|none=>0
 | 2=>match ss[e.2.1]? with|some r=>-r.2|none=>0
 | _=>0
def Zbp(k:Nat)(rs:List Rnd)(e:Stp):List Int×List Int:=match e.1 with
 | 0=>match rs[e.2.1]? with|some r=>(r.2,e.2.2)|none=>(Zas k,e.2.2)
 | 1=>(Zas k,e.2.2)
 | _=>(e.2.2,Zas k)
def sB(ss:List Sea)(i:Nat):List Int:=((ss[i]?).map (·.1)).getD []
theorem Zne{ss:List Sea}{i:Nat}(h:i<ss.length):sB ss i=ss[i].1:=by simp[sB,gEq h]
def Zd6(told:List (List Int))(rs:List Rnd)(ss:List Sea):List Stp:=
 told.map (λb=>(3,0,b))++((List.range ss.length).flatMap λi=>[(1,i,sB ss i),(2,i,sB ss i)])++(List.range rs.length).flatMap λi=>told.map λb=>(0,i,b)
abbrev ArcT:=List Int×List Int×Int×Stp
def arcF(k:Nat)(rs:List Rnd)(ss:List Sea)(e:Stp):ArcT:=((Zbp k rs e).1,(Zbp k rs e).2,Zag rs ss e,e)
def arcD(a:ArcT):PyData:=.tuple [tI a.1,tI a.2.1,.int a.2.2.1,Zc8 a.2.2.2]
def arcsF(k:Nat)(told:List (List Int))(rs:List Rnd)(ss:List Sea):List ArcT:=(Zd6 told rs ss).map (arcF k rs ss)
theorem Zmw(l:List Nat)(ss:List Sea):(l.flatMap λi=>[((1:Nat),i,sB ss i),(2,i,sB ss i)]).length=2*l.length:=by
 induction l with
 | nil=>rfl
 | cons i l ih=>rw[xU,vJ,ih];simp;omega
theorem Zly(l:List Nat)(told:List (List Int)):(l.flatMap λi=>told.map λb=>((0:Nat),i,b)).length=l.length*told.length:=by
 induction l with
 | nil=>simp
 | cons i l ih=>rw[xU,vJ,ih,lmp,yP,add_mul,one_mul];omega
theorem Zhe{told:List (List Int)}{rs:List Rnd}{ss:List Sea}:(Zd6 told rs ss).length=told.length+2*ss.length+rs.length*told.length:=by
 unfold Zd6
 rw[vJ,vJ,lmp,Zmw,Zly,tS,tS]
theorem Zfs{k:Nat}{told:List (List Int)}{rs:List Rnd}{ss:List Sea}(ht:∀b∈told,b.length=k/\Sm b)(hs:∀r∈ss,r.1.length=k/\Sm r.1):∀e∈Zd6 told rs ss,Valid k rs ss e:=by
 intro e he
 unfold Zd6 at he
 rcases zX.mp he with he|he
 ·rcases zX.mp he with he|he
  ·obtain⟨b,hb,rfl⟩:=xF.mp he
   exact⟨(ht b hb).1,(ht b hb).2,by simp,by simp,by simp⟩
  ·obtain⟨i,hi,he⟩:=tU.mp he
   have hi':=zQ.mp hi
   rw[Zne hi']at he
   have hr:=hs _ (yT hi')
   simp only[zV,yN,yO]at he
   rcases he with rfl|rfl
   ·exact⟨hr.1,hr.2,by simp,λ_=>hi',by simp⟩
   ·exact⟨hr.1,hr.2,by simp,λ_=>hi',by simp⟩
 ·obtain⟨i,hi,he⟩:=tU.mp he
  obtain⟨b,hb,rfl⟩:=xF.mp he
  exact⟨(ht b hb).1,(ht b hb).2,λ_=>zQ.mp hi,by simp,by simp⟩
def Zlt:DSp:=pureS λvs r=>∃ns ms,vs=[.d (tI ns),.d (tI ms)]/\Sm ns/\Sm ms/\ns.length≤1000/\r=.int (dot ns ms)
theorem Zn5:MoS Zlt:=Zbv
theorem Zr6:∀vs w k,Zlt vs w k->vs.length=2:=Zbw (by rintro vs r ⟨ns,ms,rfl,_⟩;rfl)
theorem Zt2(T:Txt K mg):Dn P w K mg base 1 "cost" sCost ["prices","bundle"] (spD K Zlt):=by
 refine Dn.data (k:=0) T.f_cost Zug Zr6 (λa cdv A outer s H E hr=>⟨_,_,IPSs.get (Za4 (Zae (Zab (Zi2 rfl) rfl T.z_sum boot_sum (Za0 (by refine' Zbq (Nc:=["price","many"]) (cap:=[none,none]) rfl ?i ?k ?g ?t ?e;(case k=>kernel_rfl);(case i=>exact(Zn0 true true rfl T.z_zip (Za0 (i_pv 0) (Za0 (i_pv 1) Za3))));(case g=>exact(λ_ _ _ _ _=>(Zds (K:=K) rfl (n:=2) rfl (Za9 (Zd3 0 (by show List.Nodup (["price","many"]:List Str);decide +kernel)) (Za9 (Zd3 1 (by show List.Nodup (["price","many"]:List Str);decide +kernel)) Zb9)))));(case t=>exact(λ_ _ _ _ _=>Zbh));(case e=>exact(λ_ _ _ _ _=>(Zaj Zen (Zd4 0) (Zd4 1))))) Za3))) Zao),(Zac (Zbc (Zbx Zq4 (Za1 (Zca false (Zst (Za1 (Za2 0) (Za1 (Za2 1) Za6))) (Zcw (Zad (Za7 0) (Zad (Za7 1) Zc1))) Zcx (Zcb (Zal ro_I (Za2 0) (Za2 1)))) Za6))) Zbd),λas o q h=>?_⟩)
 obtain⟨r,⟨ns,ms,rfl,h1,h2,hl,rfl⟩,hq⟩:=h
 simp! only[dComp,tI,Zni]
 refine Zcp (ns.zip ms) (λp=>.tuple [.int p.1,.int p.2]) (λp=>.int (p.1*p.2)) [] rfl trivial (Zb7 (by simp;omega)) ?_ ?_
 ·rintro ⟨x,y⟩ hx Q hQ
  simp!
  obtain⟨hx1,hx2⟩:=vC hx
  exact⟨mulS (h1 x hx1) (h2 y hx2),hQ⟩
 ·simp! only[Zhy]
  exact⟨_,OW.le.refl _,hq⟩
def Zgc:DSp:=pureS λvs r=>∃k:Nat,vs=[.d (.list []),.d (.int (k:Int))]/\k≤3/\r=tI (Zas k)
theorem Zhi:MoS Zgc:=Zbv
theorem Zl8:∀vs w k,Zgc vs w k->vs.length=2:=Zbw (by rintro vs r ⟨k,rfl,_⟩;rfl)
theorem Zi5(T:Txt K mg):Dn P w K mg base 1 "together" sTogether ["some","kinds"] (spD K Zgc):=by
 refine Dn.data (k:=0) T.f_together Zmk Zl8 (λa cdv A outer s H E hr=>⟨_,_,IPSs.get (Za4 (Zae (Zcj Zci rfl T.z_tuple (by decide +kernel) (Za0 (by refine' Zbq (Nc:=["kind","some"]) (cap:=[none,some 0]) rfl ?i ?k ?g ?t ?e;(case k=>kernel_rfl);(case i=>exact(Zbl rfl T.z_range (Za0 (i_pv 1) Za3)));(case g=>exact(λ_ _ _ _ _=>(Zw8 0 (by show List.Nodup (["kind","some"]:List Str);decide +kernel))));(case t=>exact(λ_ _ _ _ _=>Zbh));(case e=>exact(λ_ _ _ _ _=>(Zab (Znn (K:=K) rfl rfl) Zdy T.z_sum boot_sum (Za0 (by refine' Zbq (Nc:=["bundle","kind"]) (cap:=[none,some 0]) rfl ?i ?k ?g ?t ?e;(case k=>kernel_rfl);(case i=>exact(Znt (K:=K) rfl (Zfo 1)));(case g=>exact(λ_ _ _ _ _=>(Zd3 0 (by show List.Nodup (["bundle","kind"]:List Str);decide +kernel))));(case t=>exact(λ_ _ _ _ _=>Zbh));(case e=>exact(λ_ _ _ _ _=>(Zak (Zh5 (K:=K) rfl) (Zd4 0) (Zfo 1) (λ_ _=>rfl))))) Za3))))) Za3))) Zao),(Zac (Zbc (Zbx Zf9 (Za1 (Zca false (Zdm (Za1 (Za2 1) Za6)) (Za7 0) Zcx (Zcb (Zbx Zq4 (Za1 (Zca false (Zfa (Za2 1)) (Za7 0) Zcx (Zcb (Zal Zbi (Za2 0) (Za2 1)))) Za6)))) Za6))) Zbd),λas o q h=>?_⟩)
 obtain⟨r,⟨n,rfl,hn,rfl⟩,hq⟩:=h
 simp! only[dComp]
 refine⟨⟨by omega,by omega⟩,?_⟩
 unfold rngD
 refine Zcp (List.range (n:Int).toNat) (λ(i:Nat)=>.int (0+(i:Int))) (λ_=>.int 0) [] rfl trivial (Zb7 (by simp;omega)) ?_ ?_
 ·intro i hi Q hQ
  simp!
  refine Zcp ([]:List Int) (λ_=>.int 0) (λ_=>.int 0) [] rfl trivial (by decide) (λx hx=>by cases hx) ?_
  simp! only[uIs]
  exact hQ
 ·simp!
  refine⟨_,OW.le.refl _,?_⟩
  have e:(List.range (n:Int).toNat).map (λ_=>PyData.int 0)=(Zas n).map .int:=by
   unfold Zas
   rw[List.map_replicate,List.eq_replicate_iff]
   exact⟨by simp,λb hb=>by obtain⟨i,_,rfl⟩:=xF.mp hb;rfl⟩
  rw[e];exact hq
end
section
variable {P:Program}{w:World}{K:Frag}{mg:Str->Option Value}{base:Heap}
theorem Zd1{α β:Type}{f:α->β}{l:List α}{i:Nat}{d:β}(h:(l.map f)[i]? = some d):∃r,l[i]? = some r/\f r=d:=by
 rw[vH]at h
 cases e:l[i]? with
 | none=>rw[e]at h;cases h
 | some r=>rw[e]at h;exact⟨r,rfl,zK h⟩
def Ze5:DSp:=pureS λvs r=>∃k rs ss,vs=[.d (Ze0 rs),.d (Zdg ss),.d (.int (k:Nat))]/\Hist k rs ss/\r=.tuple ((Zam k rs ss).map tI)
theorem Zhr:MoS Ze5:=Zbv
theorem Zhq:∀vs w k,Ze5 vs w k->vs.length=3:=Zbw (by rintro vs r ⟨k,rs,ss,rfl,_⟩;rfl)
theorem Zi6(T:Txt K mg):∃e,EmptyAt K e/\DnD P w K mg base 2 "told_bundles" sToldBundles ["rounds","sealed","kinds"] (spD K Ze5) e:=by
 have D_together:=Zi5 (P:=P) (w:=w) (base:=base) T
 obtain⟨e_here,em_here,U_here⟩:=T.f_told_bundles
 refine⟨e_here,em_here,DnD.data (k:=1) U_here Zdf Zhq (λa cdv A outer s H E hr=>⟨_,_,IPSs.get (Za4 (Zan (i:=3) Zdf.nd rfl (uM rfl) (Zaj Zsn (by refine' Zbq (Nc:=["prices","bundle"]) (cap:=[none,none]) rfl ?i ?k ?g ?t ?e;(case k=>kernel_rfl);(case i=>exact(Zc6 (i_pv 0)));(case g=>exact(λ_ _ _ _ _=>(Zds (K:=K) rfl (n:=2) rfl (Za9 (Zd3 0 (by show List.Nodup (["prices","bundle"]:List Str);decide +kernel)) (Za9 (Zd3 1 (by show List.Nodup (["prices","bundle"]:List Str);decide +kernel)) Zb9)))));(case t=>exact(λ_ _ _ _ _=>Zbh));(case e=>exact(λ_ _ _ _ _=>(Zd4 1)))) (by refine' Zbq (Nc:=["bundle","money"]) (cap:=[none,none]) rfl ?i ?k ?g ?t ?e;(case k=>kernel_rfl);(case i=>exact(Zc6 (i_pv 1)));(case g=>exact(λ_ _ _ _ _=>(Zds (K:=K) rfl (n:=2) rfl (Za9 (Zd3 0 (by show List.Nodup (["bundle","money"]:List Str);decide +kernel)) (Za9 (Zd3 1 (by show List.Nodup (["bundle","money"]:List Str);decide +kernel)) Zb9)))));(case t=>exact(λ_ _ _ _ _=>Zbh));(case e=>exact(λ_ _ _ _ _=>(Zd4 0))))))
  (Za4 (Zan (i:=4) Zdf.nd rfl (uM rfl) (Zcq (Za0 (Zky D_together (Ze7) (hr.mono (by decide)) (Za0 (Zcq Za3) Za3) (Ze6 (i_pv 2) Zf3)) Za3)))
  (Za4 (Zbu tV rfl (Zdb (i_pv 3)) (Zaa (i:=5) Zdf.nd rfl (uM rfl)) (Za8 (Zba (Zau (Zgu hr.units) (i_pv 5) (i_pv 4) rfl) (Za8 (Zcm (Zda tW tX tY Zcn (i_pv 4) (Za0 (i_pv 5) Za3)))) Zao)))
  (Za8 (Zae (Zcj Zci rfl T.z_tuple (by decide +kernel) (Za0 (i_pv 4) Za3))))))),(Zac (Zbb (Zal (Zsu false) (Zca false (Zdi (Za2 0)) (Zcw (Zad (Za7 0) (Zad (Za7 1) Zc1))) Zcx (Zcb (Za2 1))) (Zca false (Zdi (Za2 1)) (Zcw (Zad (Za7 0) (Zad (Za7 1) Zc1))) Zcx (Zcb (Za2 0)))) (Za7 3))
  (Zac (Zbb (Zet true (Za1 (Znc Zhi (Za1 (Zet false Za6) Za6) (Za1 (Za2 2) Za6)) Za6)) (Za7 4))
  (Zac (Zde (Zfa (Za2 3)) (Za7 5) (Zd2 (Zbf (Zal Zlf (Za2 5) (Za2 4))) (Ze1 (Zfc (Za2 4) (Za1 (Za2 5) Za6))) Zbd))
  (Zbc (Zbx Zf9 (Za1 (Za2 4) Za6)))))),λas o q h=>?_⟩)⟩
 obtain⟨r,⟨n,rs,ss,rfl,hH,rfl⟩,hq⟩:=h
 simp! only[dComp,Ze0,Zdg]
 refine Zcp rs rowD (λr=>tI r.2) [] rfl trivial (Zb7 (by have:=hH.rl;simp;omega)) ?_ ?_
 ·intro r hr Q hQ
  simp! only[rowD]
  exact hQ
 simp!
 refine Zcp ss Zd0 (λr=>tI r.1) [] rfl trivial (Zb7 (by have:=hH.sl;simp;omega)) ?_ ?_
 ·intro r hr Q hQ
  simp! only[Zd0]
  exact hQ
 simp!
 have hrl:=hH.rl
 have hsl:=hH.sl
 refine⟨Zhf (by simp;omega),?_⟩
 refine⟨by decide,?_⟩
 refine⟨_,⟨n,rfl,hH.k3,rfl⟩,?_⟩
 refine⟨L2.sz1,λp hp=>?_⟩
 have eb:rs.map (λr=>tI r.2)++ss.map (λr=>tI r.1)=(rs.map Prod.snd++ss.map Prod.fst).map tI:=by rw[xE,xX,xX];rfl
 rw[eb]
 generalize hbs:rs.map Prod.snd++ss.map Prod.fst=bs
 have hbl:bs.length≤26:=by rw[<- hbs];simp;omega
 have eT:Zam n rs ss=bs.foldl addB [Zas n]:=by rw[<- hbs];rfl
 simp!
 refine⟨λi s=>∃o5,s=⟨[some (.d (.tuple (rs.map rowD))),some (.d (.tuple (ss.map Zd0))),some (.d (.int (n:Nat))),some (.d (.list (bs.map tI))),some (.own p),o5],o.put p (.lst (((bs.take i).foldl addB [Zas n]).map tI))⟩,⟨none,rfl⟩,λ_ _ _=>trivial,?_,?_⟩
 ·rintro i d s hd ⟨o5,rfl⟩
  obtain⟨b,hb,rfl⟩:=Zd1 hd
  have hlen:=Zep (bs.take i) [Zas n]
  have hti:(bs.take i).length≤26:=by rw[vE];omega
  simp only[uJ]at hlen
  have et:(bs.take (i+1)).foldl addB [Zas n]=addB ((bs.take i).foldl addB [Zas n]) b:=by rw[xT,hb,tZ];rfl
  simp!
  refine⟨⟨Zdh b,Zev _,Zit b,Zdn _,by rw[Zg3];decide⟩,?_⟩
  rw[Zmo]
  refine ite2 (λc=>?_) (λc=>?_)
  all_goals simp!
  ·simp! only[dApp]
   refine⟨⟨_,rfl⟩,_,rfl,Zb7 (by rw[lmp];omega),?_⟩
   refine⟨some (.d (tI b)),?_⟩
   rw[et]
   have hn:b ∉ (bs.take i).foldl addB [Zas n]:=by simpa using c
   unfold addB at hn |-
   rw[zJ hn,xE];rfl
  ·refine⟨some (.d (tI b)),?_⟩
   rw[et]
   have hn:b∈(bs.take i).foldl addB [Zas n]:=by simpa using c
   unfold addB at hn |-
   rw[zI hn]
 ·rintro s ⟨o5,rfl⟩
  simp!
  refine⟨o,OW.le.new (OW.le.refl o) hp _,?_⟩
  rw[lmp,yR,<- eT]
  exact hq
def Zi8:DSp:=pureS λvs r=>∃k rs ss e,vs=[.d (Zc8 e),.d (Ze0 rs),.d (Zdg ss)]/\Hist k rs ss/\Valid k rs ss e/\r=.int (Zag rs ss e)
theorem Zo4:MoS Zi8:=Zbv
theorem Zo0:∀vs w k,Zi8 vs w k->vs.length=3:=Zbw (by rintro vs r ⟨k,rs,ss,e,rfl,_⟩;rfl)
theorem Zoy(T:Txt K mg):Dn P w K mg base 2 "weight" sWeight ["step","rounds","sealed"] (spD K Zi8):=by
 have D_cost:=Zt2 (P:=P) (w:=w) (base:=base) T
 refine Dn.data (k:=1) T.f_weight Zex Zo0 (λa cdv A outer s H E hr=>⟨_,_,IPSs.get (Za4 (Zdc (i_pv 0) (Zc5 (n:=3) rfl (Za9 (Zaa (i:=3) Zex.nd rfl (uM rfl)) (Za9 (Zaa (i:=4) Zex.nd rfl (uM rfl)) (Za9 (Zaa (i:=5) Zex.nd rfl (uM rfl)) Zb9)))))
  (Za4 (Zba (Zau Zha (i_pv 3) Zbt (nomark _)) (Za4 (Zdc (Zak Zbn (i_pv 1) (i_pv 4) (λ_ _=>rfl)) (Zc5 (n:=2) rfl (Za9 (Zaa (i:=6) Zex.nd rfl (uM rfl)) (Za9 (Zaa (i:=7) Zex.nd rfl (uM rfl)) Zb9))))
  (Za8 (Zae (Zaj Zhk (Zar D_cost Zof (hr.mono (by decide)) (Za0 (i_pv 6) (Za0 (i_pv 5) Za3))) (Zar D_cost Zof (hr.mono (by decide)) (Za0 (i_pv 6) (Za0 (i_pv 7) Za3))))))) Zao)
  (Za4 (Zba (Zau Zha (i_pv 3) Zbt (nomark _)) (Za8 (Zae (Zak Zbn (Zak Zbn (i_pv 2) (i_pv 4) (λ_ _=>rfl)) Za5 (λ_ _=>rfl)))) Zao)
  (Za4 (Zba (Zau Zha (i_pv 3) Zbt (nomark _)) (Za8 (Zae (Zpc Zsx (Zak Zbn (Zak Zbn (i_pv 2) (i_pv 4) (λ_ _=>rfl)) Za5 (λ_ _=>rfl))))) Zao)
  (Za8 (Zae Za5)))))),(Zac (Zbb (Za2 0) (Zcw (Zad (Za7 3) (Zad (Za7 4) (Zad (Za7 5) Zc1)))))
  (Zac (Zd2 (Zbf (Zal Zhc (Za2 3) Zdd)) (Zac (Zbb (Zal Zbi (Za2 1) (Za2 4)) (Zcw (Zad (Za7 6) (Zad (Za7 7) Zc1))))
  (Zbc (Zal Zeu (Zb4 Zn5 (Za1 (Za2 6) (Za1 (Za2 5) Za6))) (Zb4 Zn5 (Za1 (Za2 6) (Za1 (Za2 7) Za6)))))) Zbd)
  (Zac (Zd2 (Zbf (Zal Zhc (Za2 3) Zdd)) (Zbc (Zal Zbi (Zal Zbi (Za2 2) (Za2 4)) Zap)) Zbd)
  (Zac (Zd2 (Zbf (Zal Zhc (Za2 3) Zdd)) (Zbc (Zvw ru_I (Zal Zbi (Zal Zbi (Za2 2) (Za2 4)) Zap))) Zbd)
  (Zbc Zap))))),λas o q h=>?_⟩)
 obtain⟨r,⟨n,rs,ss,⟨e,i,b⟩,rfl,hH,⟨v1,v2,v3,v4,v5⟩,rfl⟩,hq⟩:=h
 simp only at v1 v2 v3 v4 v5
 simp! only[Ze0,Zdg,Zc8]
 match e,v3,v4,v5 with
 | 0,v3,v4,v5=>
  have hi:=v3 rfl
  have hr:=hH.row _ (yT hi)
  simp only[wordOf,tK,vQ]
  refine⟨rowD rs[i],?_,?_⟩
  ·exact Zcs (by rw[vH,gEq hi];rfl)
  simp! only[rowD]
  refine⟨_,⟨_,_,rfl,hr.2.2.1,v2,by rw[hr.1];have:=hH.k3;omega,rfl⟩,_,⟨_,_,rfl,hr.2.2.1,hr.2.2.2,by rw[hr.1];have:=hH.k3;omega,rfl⟩,?_⟩
  refine⟨_,OW.le.refl _,?_⟩
  have e:Zag rs ss (0,i,b)=dot rs[i].1 b-dot rs[i].1 rs[i].2:=by simp[Zag,gEq hi]
  rw[e]at hq;exact hq
 | 1,v3,v4,v5=>
  have hi:=v4 (.inl rfl)
  have d1:decide ((wordOf 1)=("round" : Str))=false:=by decide
  have d2:decide ((wordOf 1)=("bid" : Str))=true:=by decide
  simp only[d1,d2,uP,vP,vQ]
  refine⟨Zd0 ss[i],Zcs (by rw[vH,gEq hi];rfl),?_⟩
  simp! only[Zd0]
  refine⟨.int ss[i].2,rfl,_,OW.le.refl _,?_⟩
  have e:Zag rs ss (1,i,b)=ss[i].2:=by simp[Zag,gEq hi]
  rw[e]at hq;exact hq
 | 2,v3,v4,v5=>
  have hi:=v4 (.inr rfl)
  have d1:decide ((wordOf 2)=("round" : Str))=false:=by decide
  have d2:decide ((wordOf 2)=("bid" : Str))=false:=by decide
  have d3:decide ((wordOf 2)=("due" : Str))=true:=by decide
  simp only[d1,d2,d3,uP,vP,vQ]
  refine⟨Zd0 ss[i],Zcs (by rw[vH,gEq hi];rfl),?_⟩
  simp! only[Zd0]
  refine⟨.int ss[i].2,rfl,_,OW.le.refl _,?_⟩
  have e:Zag rs ss (2,i,b) = -ss[i].2:=by simp[Zag,gEq hi]
  rw[e]at hq;exact hq
 | 3,v3,v4,v5=>
  have d1:decide ((wordOf 3)=("round" : Str))=false:=by decide
  have d2:decide ((wordOf 3)=("bid" : Str))=false:=by decide
  have d3:decide ((wordOf 3)=("due" : Str))=false:=by decide
  simp only[d1,d2,d3,uP,vP]
  exact⟨_,OW.le.refl _,hq⟩
def Zlu:DSp:=pureS λvs r=>∃k rs ss e,vs=[.d (Zc8 e),.d (Ze0 rs)]/\Hist k rs ss/\Valid k rs ss e/\r=.tuple [tI (Zbp k rs e).1,tI (Zbp k rs e).2]
theorem Zrb:MoS Zlu:=Zbv
theorem Zr7:∀vs w k,Zlu vs w k->vs.length=2:=Zbw (by rintro vs r ⟨k,rs,ss,e,rfl,_⟩;rfl)
theorem Zt4(T:Txt K mg):Dn P w K mg base 2 "ends" sEnds ["step","rounds"] (spD K Zlu):=by
 have D_together:=Zi5 (P:=P) (w:=w) (base:=base) T
 refine Dn.data (k:=1) T.f_ends Ziq Zr7 (λa cdv A outer s H E hr=>⟨_,_,IPSs.get (Za4 (Zdc (i_pv 0) (Zc5 (n:=3) rfl (Za9 (Zaa (i:=2) Ziq.nd rfl (uM rfl)) (Za9 (Zaa (i:=3) Ziq.nd rfl (uM rfl)) (Za9 (Zaa (i:=4) Ziq.nd rfl (uM rfl)) Zb9)))))
  (Za4 (Zan (i:=5) Ziq.nd rfl (uM rfl) (Zky D_together (Ze7) (hr.mono (by decide)) (Za0 (Zcq Za3) Za3) (Ze6 (Zab Zb5 rfl T.z_len tM (Za0 (i_pv 4) Za3)) Zf3)))
  (Za4 (Zba (Zau Zha (i_pv 2) Zbt (nomark _)) (Za8 (Zae (Zb6 (Za0 (Zak Zbn (Zak Zbn (i_pv 1) (i_pv 3) (λ_ _=>rfl)) Za5 (λ_ _=>rfl)) (Za0 (i_pv 4) Za3))))) Zao)
  (Za4 (Zba (Zau Zha (i_pv 2) Zbt (nomark _)) (Za8 (Zae (Zb6 (Za0 (i_pv 5) (Za0 (i_pv 4) Za3))))) Zao)
  (Za8 (Zae (Zb6 (Za0 (i_pv 4) (Za0 (i_pv 5) Za3))))))))),(Zac (Zbb (Za2 0) (Zcw (Zad (Za7 2) (Zad (Za7 3) (Zad (Za7 4) Zc1)))))
  (Zac (Zbb (Znc Zhi (Za1 (Zet false Za6) Za6) (Za1 (Zbx Zdt (Za1 (Za2 4) Za6)) Za6)) (Za7 5))
  (Zac (Zd2 (Zbf (Zal Zhc (Za2 2) Zdd)) (Zbc (Zc2 (Za1 (Zal Zbi (Zal Zbi (Za2 1) (Za2 3)) Zap) (Za1 (Za2 4) Za6)))) Zbd)
  (Zac (Zd2 (Zbf (Zal Zhc (Za2 2) Zdd)) (Zbc (Zc2 (Za1 (Za2 5) (Za1 (Za2 4) Za6)))) Zbd)
  (Zbc (Zc2 (Za1 (Za2 4) (Za1 (Za2 5) Za6)))))))),λas o q h=>?_⟩)
 obtain⟨r,⟨n,rs,ss,⟨e,i,b⟩,rfl,hH,⟨v1,v2,v3,v4,v5⟩,rfl⟩,hq⟩:=h
 simp only at v1 v2 v3 v4 v5
 simp! only[Ze0,Zc8,tI,lmp]
 refine⟨by decide,_,⟨n,by rw[v1];rfl,hH.k3,rfl⟩,?_⟩
 match e,v3,v4,v5 with
 | 0,v3,v4,v5=>
  have hi:=v3 rfl
  simp only[wordOf,tK,vQ]
  refine⟨rowD rs[i],Zcs (by rw[vH,gEq hi];rfl),?_⟩
  simp! only[rowD]
  refine⟨tI rs[i].2,rfl,L2.sz2,_,OW.le.refl _,?_⟩
  have e:Zbp n rs (0,i,b)=(rs[i].2,b):=by simp[Zbp,gEq hi]
  rw[e]at hq;exact hq
 | 1,v3,v4,v5=>
  have d1:decide ((wordOf 1)=("round" : Str))=false:=by decide
  have d2:decide ((wordOf 1)=("bid" : Str))=true:=by decide
  simp only[d1,d2,uP,vP,vQ]
  exact⟨L2.sz2,_,OW.le.refl _,hq⟩
 | 2,v3,v4,v5=>
  have d1:decide ((wordOf 2)=("round" : Str))=false:=by decide
  have d2:decide ((wordOf 2)=("bid" : Str))=false:=by decide
  simp only[d1,d2,uP,vP]
  exact⟨L2.sz2,_,OW.le.refl _,hq⟩
 | 3,v3,v4,v5=>
  have d1:decide ((wordOf 3)=("round" : Str))=false:=by decide
  have d2:decide ((wordOf 3)=("bid" : Str))=false:=by decide
  simp only[d1,d2,uP,vP]
  exact⟨L2.sz2,_,OW.le.refl _,hq⟩
end
section
variable {P:Program}{w:World}{K:Frag}{mg:Str->Option Value}{base:Heap}
def tT(bs:List (List Int)):PyData:=.tuple (bs.map tI)
def Zgb:DSp:=pureS λvs r=>∃k rs ss told,vs=[.d (tT told),.d (Ze0 rs),.d (Zdg ss)]/\Hist k rs ss/\told.length≤30/\r=.list ((Zd6 told rs ss).map Zc8)
theorem Zl9:MoS Zgb:=Zbv
theorem Zl7:∀vs w k,Zgb vs w k->vs.length=3:=Zbw (by rintro vs r ⟨k,rs,ss,e,rfl,_⟩;rfl)
theorem Zls(T:Txt K mg):Dn P w K mg base 1 "steps_of" sStepsOf ["told","rounds","sealed"] (spD K Zgb):=by
 refine Dn.data (k:=0) T.f_steps_of Zgf Zl7 (λa cdv A outer s H E hr=>⟨_,_,IPSs.get (Za4 (by refine' Zfn (i:=3) Zgf.nd rfl (uM rfl) (Nc:=["bundle"]) (cap:=[none]) rfl ?i ?k ?g ?t ?e;(case k=>kernel_rfl);(case i=>exact(Zc6 (i_pv 0)));(case g=>exact(λ_ _ _ _ _=>(Zd3 0 (by show List.Nodup (["bundle"]:List Str);decide +kernel))));(case t=>exact(λ_ _ _ _ _=>Zbh));(case e=>exact(λ_ _ _ _ _=>(Zb6 (Za0 Zbt (Za0 Za5 (Za0 (Zd4 0) Za3)))))))
  (Za4 (Zr3 (i:=3) Zgf.nd rfl (uM rfl) (by refine' Zje (Nc:=["place","word","sealed"]) (cap:=[none,none,some 2]) rfl ?i ?k ?g ?j ?h ?e;(case k=>kernel_rfl);(case i=>exact(Zbl rfl T.z_range (Za0 (Zab Zb5 rfl T.z_len tM (Za0 (i_pv 2) Za3)) Za3)));(case g=>exact(λ_ _ _ _ _=>(Zd3 0 (by show List.Nodup (["place","word","sealed"]:List Str);decide +kernel))));(case j=>exact(λ_ _ _ _ _=>(Zkz (K:=K) rfl (Zb6 (Za0 Zbt (Za0 Zbt Za3))))));(case h=>exact(λ_ _ _ _ _=>(Zd3 1 (by show List.Nodup (["place","word","sealed"]:List Str);decide +kernel))));(case e=>exact(λ_ _ _ _ _=>(Zb6 (Za0 (Zd4 1) (Za0 (Zd4 0) (Za0 (Zak (Zh5 (K:=K) rfl) (Zak (Zh5 (K:=K) rfl) (Zfo 2) (Zd4 0) (λ_ _=>rfl)) Za5 (λ_ _=>rfl)) Za3))))))) Zte)
  (Za8 (Zae (Zaj Zsn (i_pv 3) (by refine' Zje (Nc:=["place","bundle","told"]) (cap:=[none,none,some 0]) rfl ?i ?k ?g ?j ?h ?e;(case k=>kernel_rfl);(case i=>exact(Zbl rfl T.z_range (Za0 (Zab Zb5 rfl T.z_len tM (Za0 (i_pv 1) Za3)) Za3)));(case g=>exact(λ_ _ _ _ _=>(Zd3 0 (by show List.Nodup (["place","bundle","told"]:List Str);decide +kernel))));(case j=>exact(λ_ _ _ _ _=>(Zkz (K:=K) rfl (Zfo 2))));(case h=>exact(λ_ _ _ _ _=>(Zd3 1 (by show List.Nodup (["place","bundle","told"]:List Str);decide +kernel))));(case e=>exact(λ_ _ _ _ _=>(Zb6 (Za0 Zbt (Za0 (Zd4 0) (Za0 (Zd4 1) Za3)))))))))))),(Zac (Zbb (Zca true (Zdi (Za2 0)) (Za7 0) Zcx (Zcb (Zc2 (Za1 Zdd (Za1 Zap (Za1 (Za2 0) Za6)))))) (Za7 3))
  (Zac (Zud (Zca false (Zdm (Za1 (Zbx Zdt (Za1 (Za2 2) Za6)) Za6)) (Za7 0) Zcx (Zq8 (Zdi (Zc2 (Za1 Zdd (Za1 Zdd Za6)))) (Za7 1) Zcx (Zcb (Zc2 (Za1 (Za2 1) (Za1 (Za2 0) (Za1 (Zal Zbi (Zal Zbi (Za2 2) (Za2 0)) Zap) Za6))))))))
  (Zbc (Zal (Zsu false) (Za2 3) (Zca false (Zdm (Za1 (Zbx Zdt (Za1 (Za2 1) Za6)) Za6)) (Za7 0) Zcx (Zq8 (Zdi (Za2 2)) (Za7 1) Zcx (Zcb (Zc2 (Za1 Zdd (Za1 (Za2 0) (Za1 (Za2 1) Za6))))))))))),λas o q h=>?_⟩)
 obtain⟨r,⟨n,rs,ss,told,rfl,hH,htl,rfl⟩,hq⟩:=h
 have hrl:=hH.rl
 have hsl:=hH.sl
 simp! only[dComp,Ze0,Zdg,tT]
 refine Zcp told tI (λb=>Zc8 (3,0,b)) [] rfl trivial (Zb7 (by simp;omega)) ?_ ?_
 ·intro b hb Q hQ
  simp!
  exact⟨L2.sz3,hQ⟩
 simp!
 intro p hp
 unfold dAugL
 simp! only[dComp,lmp]
 refine⟨⟨by omega,by omega⟩,?_⟩
 unfold rngD
 have e1:(List.range ((ss.length:Nat):Int).toNat)=List.range ss.length:=rfl
 refine Zm3 (List.range ss.length) (λ(i:Nat)=>.int (0+(i:Int))) (λi=>[Zc8 (1,i,sB ss i),Zc8 (2,i,sB ss i)]) [] rfl trivial ?_ ?_ ?_
 ·have e:((List.range ss.length).flatMap λi=>[Zc8 (1,i,sB ss i),Zc8 (2,i,sB ss i)]).length=2*ss.length:=by
   have:=Zmw (List.range ss.length) ss
   rw[tS]at this
   rw[<- this,<- length_map (f:=Zc8),sA];rfl
  rw[e];exact Zb7 (by simp;omega)
 ·intro i hi acc hacc Q hQ
  have hi':=zQ.mp hi
  rw[Zne hi']at hQ
  simp! only[dLoop]
  refine⟨L2.sz2,?_⟩
  refine Zcp [((1:Nat),("bid" : Str)),(2,"due")] (λp=>.str p.2) (λp=>Zc8 (p.1,i,ss[i].1)) acc rfl trivial hacc ?_ ?_
  ·rintro ⟨m,u⟩ hm Q hQ
   simp!
   refine⟨Zd0 ss[i],?_,?_⟩
   ·rw[Int.zero_add];exact Zcs (by rw[vH,gEq hi'];rfl)
   simp! only[Zd0]
   refine⟨_,rfl,L2.sz3,?_⟩
   have em:wordOf m=u:=by
    simp only[zV,yN,yO]at hm
    rcases hm with z|z<;>cases z<;>rfl
   simpa[Zc8,em]using hQ
  ·exact⟨by simp[ext],hQ⟩
 have eC:((List.range ss.length).flatMap λi=>[Zc8 (1,i,sB ss i),Zc8 (2,i,sB ss i)])=((List.range ss.length).flatMap λi=>[((1:Nat),i,sB ss i),(2,i,sB ss i)]).map Zc8:=by rw[sA];rfl
 rw[eC]
 simp!
 refine⟨_,_,rfl,rfl,?_,?_⟩
 ·rw[lmp,lmp,Zmw,tS];exact Zhf (by omega)
 simp! only[lmp]
 refine⟨⟨by omega,by omega⟩,?_⟩
 refine Zm3 (List.range rs.length) (λ(i:Nat)=>.int (0+(i:Int))) (λi=>told.map λb=>Zc8 (0,i,b)) [] rfl trivial ?_ ?_ ?_
 ·have e:((List.range rs.length).flatMap λi=>told.map λb=>Zc8 (0,i,b)).length=rs.length*told.length:=by
   have:=Zly (List.range rs.length) told
   rw[tS]at this
   rw[<- this,<- length_map (f:=Zc8),sA]
   simp only[xX];rfl
  rw[e]
  have:=sC hrl htl
  exact Zb7 (by simp;omega)
 ·intro i hi acc hacc Q hQ
  simp! only[dLoop]
  refine Zcp told tI (λb=>Zc8 (0,i,b)) acc rfl trivial (by simpa using hacc) ?_ ?_
  ·intro b hb Q hQ
   simp!
   refine⟨L2.sz3,?_⟩
   simpa[Zc8,wordOf]using hQ
  ·exact⟨by simp[ext],hQ⟩
 have eR:((List.range rs.length).flatMap λi=>told.map λb=>Zc8 (0,i,b))=((List.range rs.length).flatMap λi=>told.map λb=>((0:Nat),i,b)).map Zc8:=by
  rw[sA];simp only[xX];rfl
 rw[eR]
 simp!
 have eA:told.map (λb=>Zc8 (3,0,b))=(told.map λb=>((3:Nat),(0:Nat),b)).map Zc8:=by rw[xX];rfl
 rw[eA,<- xE,<- xE]
 refine⟨?_,_,OW.le.new (OW.le.refl o) hp _,hq⟩
 have:=Zhe (told:=told) (rs:=rs) (ss:=ss)
 unfold Zd6 at this
 simp only[lmp,vJ,Zmw,Zly,tS]
 have:=sC hrl htl
 exact Zhf (by omega)
def Zh1:DSp:=pureS λvs r=>∃k rs ss told,vs=[.d (tT told),.d (Ze0 rs),.d (Zdg ss)]/\Hist k rs ss/\(told.length≤30/\∀b∈told,b.length=k/\Sm b)/\r=.list ((arcsF k told rs ss).map arcD)
theorem Zm9:MoS Zh1:=Zbv
theorem Zm1:∀vs w k,Zh1 vs w k->vs.length=3:=Zbw (by rintro vs r ⟨k,rs,ss,e,rfl,_⟩;rfl)
theorem Znp(T:Txt K mg):Dn P w K mg base 3 "arcs_of" sArcsOf ["told","rounds","sealed"] (spD K Zh1):=by
 have D_ends:=Zt4 (P:=P) (w:=w) (base:=base) T
 have D_steps_of:=Zls (P:=P) (w:=w) (base:=base) T
 have D_weight:=Zoy (P:=P) (w:=w) (base:=base) T
 refine Dn.data (k:=2) T.f_arcs_of Zo8 Zm1 (λa cdv A outer s H E hr=>⟨_,_,IPSs.get (Za4 (Zae (by refine' Zbq (Nc:=["step","rounds","sealed"]) (cap:=[none,some 1,some 2]) rfl ?i ?k ?g ?t ?e;(case k=>kernel_rfl);(case i=>exact(Zdb (Zar D_steps_of Zlm (hr.mono (by decide)) (Za0 (i_pv 0) (Za0 (i_pv 1) (Za0 (i_pv 2) Za3))))));(case g=>exact(λ_ _ _ _ _=>(Zd3 0 (by show List.Nodup (["step","rounds","sealed"]:List Str);decide +kernel))));(case t=>exact(λ_ _ _ _ _=>Zbh));(case e=>exact(λ_ _ _ _ _=>(Zaj (Zrc (K:=K) rfl) (Zar D_ends Zt0 (hr.mono (by decide)) (Za0 (Zd4 0) (Za0 (Zfo 1) Za3)) (hg:=Zdy)) (Zb6 (Za0 (Zar D_weight Zog (hr.mono (by decide)) (Za0 (Zd4 0) (Za0 (Zfo 1) (Za0 (Zfo 2) Za3))) (hg:=Zdy)) (Za0 (Zd4 0) Za3)))))))) Zao),(Zac (Zbc (Zca false (Zfa (Zb4 Zl9 (Za1 (Za2 0) (Za1 (Za2 1) (Za1 (Za2 2) Za6))))) (Za7 0) Zcx (Zcb (Zal Zk7 (Zb4 Zrb (Za1 (Za2 0) (Za1 (Za2 1) Za6))) (Zc2 (Za1 (Zb4 Zo4 (Za1 (Za2 0) (Za1 (Za2 1) (Za1 (Za2 2) Za6)))) (Za1 (Za2 0) Za6))))))) Zbd),λas o q h=>?_⟩)
 obtain⟨r,⟨n,rs,ss,told,rfl,hH,⟨htl,ht⟩,rfl⟩,hq⟩:=h
 have hrl:=hH.rl
 have hsl:=hH.sl
 simp! only[dComp]
 refine⟨_,⟨n,rs,ss,told,rfl,hH,htl,rfl⟩,?_⟩
 have hv:=Zfs (rs:=rs) ht hH.sea
 refine Zcp (Zd6 told rs ss) Zc8 (λe=>arcD (arcF n rs ss e)) [] rfl trivial ?_ ?_ ?_
 ·have:=sC hrl htl
  rw[Zhe];exact Zb7 (by simp;omega)
 ·intro e he Q hQ
  simp!
  refine⟨_,⟨n,rs,ss,e,rfl,hH,hv e he,rfl⟩,?_⟩
  refine⟨_,⟨n,rs,ss,e,rfl,hH,hv e he,rfl⟩,?_⟩
  simp!
  exact⟨L2.sz2,L2.sz4,hQ⟩
 ·simp!
  refine⟨_,OW.le.refl _,?_⟩
  have e:(arcsF n told rs ss).map arcD=(Zd6 told rs ss).map λe=>arcD (arcF n rs ss e):=by unfold arcsF;rw[xX];rfl
  rw[e]at hq;exact hq
end
section
variable {P:Program}{w:World}{K:Frag}{mg:Str->Option Value}{base:Heap}
def lk{β:Type}(kvs:List (List Int×β))(k:List Int):Option β:=(kvs.find? λp=>decide (p.1=k)).map (·.2)
def pt{β:Type}(kvs:List (List Int×β))(k:List Int)(v:β):List (List Int×β):=
 if(kvs.any λp=>decide (p.1=k))=true then kvs.map (λp=>if p.1=k then(p.1,v) else p) else kvs++[(k,v)]
def enc{β:Type}(f:β->PyData)(kvs:List (List Int×β)):List (List Int×PyData):=kvs.map λp=>(p.1,f p.2)
theorem Zc4{β:Type}(f:β->PyData)(kvs:List (List Int×β))(k:List Int):dget (enc f kvs) k=(lk kvs k).map f:=by
 unfold dget enc lk
 induction kvs with
 | nil=>rfl
 | cons p r ih=>
  rw[uB,xG,xG]
  by_cases c:p.1=k
  ·simp[c]
  ·simp only[c,decide_false]
   exact ih
theorem Zfw{β:Type}(f:β->PyData)(kvs:List (List Int×β))(k:List Int)(v:β):dput (enc f kvs) k (f v)=enc f (pt kvs k v):=by
 unfold dput enc pt
 rw[List.any_map]
 simp only[tP]
 split
 ·rw[xX,xX]
  refine List.map_congr_left λp _=>?_
  simp only[tP]
  split<;>rfl
 ·rw[xE];rfl
theorem Zn3{β:Type}(k:List Int):∀kvs:List (List Int×β),(kvs.any λp=>decide (p.1=k))=(lk kvs k).isSome
 | []=>rfl
 | p::r=>by
  rw[xH,Zn3 k r]
  unfold lk
  rw[xG]
  by_cases c:p.1=k<;>simp[c]
theorem Zd8{β:Type}(p:List Int×β)(r:List (List Int×β))(k:List Int):lk (p::r) k=if p.1=k then some p.2 else lk r k:=by
 unfold lk
 rw[xG]
 by_cases c:p.1=k<;>simp[c]
theorem Zr8{β:Type}(kvs:List (List Int×β))(k:List Int)(v:β)(j:List Int):lk (pt kvs k v) j=if j=k then some v else lk kvs j:=by
 unfold pt
 rw[Zn3]
 split
 ·next h=>
  induction kvs with
  | nil=>simp[lk]at h
  | cons p r ih=>
   rw[uB,Zd8,Zd8]
   rw[Zd8]at h
   by_cases c:p.1=k
   ·rw[zI c]
    by_cases cj:p.1=j
    ·rw[zI (by exact cj),zI (by rw[<- cj,c])]
    ·rw[zJ (by exact cj),zJ (by rw[<- c];exact λz=>cj z.symm),zJ cj]
     -- the rest has no such change that matters at j
     have:∀l:List (List Int×β),lk (l.map λp=>if p.1=k then(p.1,v) else p) j=lk l j:=by
      intro l
      induction l with
      | nil=>rfl
      | cons q l ih2=>
       rw[uB,Zd8,Zd8,ih2]
       by_cases cq:q.1=k
       ·rw[zI cq]
        have:¬q.1=j:=by rw[cq,<- c];exact cj
        rw[zJ this,zJ this]
       ·rw[zJ cq]
     exact this r
   ·rw[zJ c]at h |-
    by_cases cj:p.1=j
    ·rw[zI cj,zJ (λz=>c (cj.trans z)),zI cj]
    ·rw[zJ cj,zJ cj,ih h]
 ·next h=>
  have hn:lk kvs k=none:=by simpa using h
  induction kvs with
  | nil=>
   show lk [(k,v)] j=_
   rw[Zd8]
   by_cases c:k=j
   ·rw[zI c,zI c.symm]
   ·rw[zJ c,zJ (λz=>c z.symm)]
  | cons p r ih=>
   rw[Zd8]at hn h
   by_cases c:p.1=k
   ·rw[zI c]at hn;cases hn
   ·rw[zJ c]at hn h
    rw[uR,Zd8,Zd8,ih h hn]
    by_cases cj:p.1=j
    ·rw[zI cj,zJ (λz=>c (cj.trans z)),zI cj]
    ·rw[zJ cj,zJ cj]
theorem Zq1{β:Type}(kvs:List (List Int×β))(k:List Int)(v:β):(pt kvs k v).length≤kvs.length+1:=by
 unfold pt;split<;>simp
theorem Zgd{β:Type}(f:β->PyData)(kvs:List (List Int×β)):(enc f kvs).length=kvs.length:=by simp[enc]
abbrev WL:=List (List Int×Int)
abbrev LL3:=List (List Int×ArcT)
abbrev S3:=WL×LL3×Option (List Int)
def stepS(s:S3)(a:ArcT):S3:=match lk s.1 a.1 with
 | none=>s
 | some d=>match lk s.1 a.2.1 with
  | none=>(pt s.1 a.2.1 (d+a.2.2.1),pt s.2.1 a.2.1 a,some a.2.1)
  | some e=>if d+a.2.2.1<e then(pt s.1 a.2.1 (d+a.2.2.1),pt s.2.1 a.2.1 a,some a.2.1) else s
def Zbj(arcs:List ArcT)(W:WL)(L:LL3):S3:=arcs.foldl stepS (W,L,none)
def foundD:Option (List Int)->PyData
 | none=>.none
 | some b=>tI b
theorem Zqi(s:S3)(a:ArcT):(stepS s a).1.length≤s.1.length+1/\(stepS s a).2.1.length≤s.2.1.length+1:=by
 have h1:=λv=>Zq1 s.1 a.2.1 v
 have h2:=Zq1 s.2.1 a.2.1 a
 unfold stepS
 split
 ·omega
 ·split
  ·exact⟨h1 _,h2⟩
  ·split
   ·exact⟨h1 _,h2⟩
   ·omega
theorem Zfl:∀(l:List ArcT) (s:S3),(l.foldl stepS s).1.length≤s.1.length+l.length/\(l.foldl stepS s).2.1.length≤s.2.1.length+l.length
 | [],s=>by simp
 | a::l,s=>by
  have h1:=Zqi s a
  have h2:=Zfl l (stepS s a)
  rw[uH,yP]
  omega
def Zh2:DSp:=λvs w k=>∃(arcs:List ArcT) (W:WL) (L:LL3) (p1 p2:Addr),vs=[.d (.list (arcs.map arcD)),.own p1,.own p2]/\p1≠p2/\w p1=some (.dct (enc .int W))/\w p2=some (.dct (enc arcD L)) /\
 (∀a∈arcs,a.1≠[]/\a.2.1≠[])/\(arcs.length≤1000/\W.length≤80000/\L.length≤80000) /\
 k (.d (foundD (Zbj arcs W L).2.2)) ((w.put p1 (.dct (enc .int (Zbj arcs W L).1))).put p2 (.dct (enc arcD (Zbj arcs W L).2.1)))
theorem Zmb:MoS Zh2:=λvs w k k' h ⟨a,b,c,d,e,h1,h2,h3,h4,h5,h6,q⟩=>⟨a,b,c,d,e,h1,h2,h3,h4,h5,h6,h _ _ q⟩
theorem Zm2:∀vs w k,Zh2 vs w k->vs.length=3:=by
 rintro vs w k ⟨a,b,c,d,e,rfl,_⟩;rfl
theorem Znr(T:Txt K mg):Dn P w K mg base 1 "shorten" sShorten ["arcs","ways","lasts"] (spD K Zh2):=by
 refine Dn.data (k:=0) T.f_shorten Zd9 Zm2 (λa cdv A outer s H E hr=>⟨_,_,IPSs.get (Za4 (Zan (i:=3) Zd9.nd rfl (uM rfl) Zfz)
  (Za4 (Zbu tV rfl (Zdb (i_pv 0)) (Zaa (i:=4) Zd9.nd rfl (uM rfl)) (Za4 (Zdc (i_pv 4) (Zc5 (n:=4) rfl (Za9 (Zaa (i:=5) Zd9.nd rfl (uM rfl)) (Za9 (Zaa (i:=6) Zd9.nd rfl (uM rfl)) (Za9 (Zaa (i:=7) Zd9.nd rfl (uM rfl)) (Za9 (Zaa (i:=8) Zd9.nd rfl (uM rfl)) Zb9))))))
  (Za8 (Zba (IPW.pt (Zgp (Zr4 (Zfm hr) (i_pv 5) (i_pv 1)) (Zgq (IPW.pt (Zf4 (Zlz (Zfm hr) (i_pv 6) (i_pv 1)) (Zef (Zau Zlc (Zaj Zd5 (Zco (Zfm hr) (i_pv 1) (i_pv 5) (λ_ _=>rfl)) (i_pv 7)) (Zco (Zfm hr) (i_pv 1) (i_pv 6) (λ_ _=>rfl)) (nomark _)))))))) (Za4 (Zgo (Zfm hr) (i_pv 1) (i_pv 6) (Zaj Zd5 (Zco (Zfm hr) (i_pv 1) (i_pv 5) (λ_ _=>rfl)) (i_pv 7)))
  (Za4 (Zgo (Zfm hr) (i_pv 2) (i_pv 6) (i_pv 4))
  (Za8 (Zan (i:=3) Zd9.nd rfl (uM rfl) (i_pv 6))))) Zao))))
  (Za8 (Zae (i_pv 3))))),(Zac (Zbb Zjk (Za7 3))
  (Zac (Zde (Zfa (Za2 0)) (Za7 4) (Zac (Zbb (Za2 4) (Zcw (Zad (Za7 5) (Zad (Za7 6) (Zad (Za7 7) (Zad (Za7 8) Zc1))))))
  (Zd2 (Zlg (rt_b (Zvv (Za2 5) (Za2 1))) (Zk9 (rt_b (Zq6 (Za2 6) (Za2 1))) (Zbf (Zal Zhs (Zal Zeu (Zeo (Za2 1) (Za2 5)) (Za2 7)) (Zeo (Za2 1) (Za2 6)))))) (Zac (Zk8 (Za2 1) (Za2 6) (Zal Zeu (Zeo (Za2 1) (Za2 5)) (Za2 7)))
  (Zac (Zk8 (Za2 2) (Za2 6) (Za2 4))
  (Zbb (Za2 6) (Za7 3)))) Zbd)))
  (Zbc (Za2 3)))),λas o q h=>?_⟩)
 obtain⟨arcs,W,L,p1,p2,rfl,hne,hw1,hw2,hk,⟨hb1,hb2,hb3⟩,hq⟩:=h
 simp!
 simp!
 have b1:∀(w:OW) (x y:Own),((w.put p1 x).put p2 y) p1=some x:=λw x y=>by rw[OW.put_ne hne,OW.put_same]
 refine⟨λi s=>∃o4 o5 o6 o7 o8,s=⟨[some (.d (.list (arcs.map arcD))),some (.own p1),some (.own p2),some (.d (foundD ((arcs.take i).foldl stepS (W,L,none)).2.2)),o4,o5,o6,o7,o8],(o.put p1 (.dct (enc .int ((arcs.take i).foldl stepS (W,L,none)).1))).put p2 (.dct (enc arcD ((arcs.take i).foldl stepS (W,L,none)).2.1))⟩,?_,λ_ _ _=>trivial,?_,?_⟩
 ·refine⟨none,none,none,none,none,?_⟩
  have e1:o.put p1 (.dct (enc .int W))=o:=by
   funext b;unfold OW.put;split
   ·next z=>rw[z,hw1]
   ·rfl
  have e2:o.put p2 (.dct (enc arcD L))=o:=by
   funext b;unfold OW.put;split
   ·next z=>rw[z,hw2]
   ·rfl
  show _=DS.mk _ ((o.put p1 (.dct (enc .int W))).put p2 (.dct (enc arcD L)))
  rw[e1,e2];rfl
 ·rintro i d s hd ⟨o4,o5,o6,o7,o8,rfl⟩
  obtain⟨a,ha,rfl⟩:=Zd1 hd
  obtain⟨n1,n2⟩:=hk a (vI ha)
  have et:(arcs.take (i+1)).foldl stepS (W,L,none)=stepS ((arcs.take i).foldl stepS (W,L,none)) a:=by rw[xT,ha,tZ];rfl
  have hl:=Zfl (arcs.take i) (W,L,none)
  have hti:(arcs.take i).length≤1000:=by rw[vE];omega
  generalize hS:(arcs.take i).foldl stepS (W,L,none)=S at *
  obtain⟨W1,L1,fo⟩:=S
  simp only at hl
  have b2:∀(w:OW) (x y z:Own),((w.put p1 x).put p2 y).put p1 z=(w.put p1 z).put p2 y:=λw x y z=>by
   funext b
   unfold OW.put
   by_cases h1:b=p1
   ·have:¬b=p2:=by rw[h1];exact hne
    simp[h1,hne]
   ·by_cases h2:b=p2
    ·simp[h2,zW hne]
    ·simp[h1,h2]
  cases hd1:lk W1 a.1 with
  | none=>
   have es:stepS (W1,L1,fo) a=(W1,L1,fo):=by unfold stepS;simp only[hd1]
   simp! only[et,es,dDIn,dDGet,dDPut,rdK,arcD,b1,Zbk n1,Zbk n2,Zc4,hd1,xL,sD,sE,tD,sF]
   exact⟨_,_,_,_,_,rfl⟩
  | some d=>
   cases he:lk W1 a.2.1 with
   | none=>
    have es:stepS (W1,L1,fo) a=(pt W1 a.2.1 (d+a.2.2.1),pt L1 a.2.1 a,some a.2.1):=by unfold stepS;simp only[hd1,he]
    simp! only[et,es,dDIn,dDGet,dDPut,rdK,arcD,b1,b2,Zbk n1,Zbk n2,Zc4,hd1,he,xL,sD,sE,tD,sF,uT]
    refine⟨_,rfl,Zb7 (by rw[Zgd];omega),?_⟩
    simp! only[et,es,dDIn,dDGet,dDPut,rdK,arcD,b1,b2,Zbk n1,Zbk n2,Zc4,hd1,he,xL,sD,sE,tD,sF,uT]
    refine⟨_,rfl,Zb7 (by rw[Zgd];omega),?_⟩
    simp! only[et,es,dDIn,dDGet,dDPut,rdK,arcD,b1,b2,Zbk n1,Zbk n2,Zc4,hd1,he,xL,sD,sE,tD,sF,uT]
    have e2:dput (enc arcD L1) a.2.1 (PyData.tuple [tI a.1,tI a.2.1,PyData.int a.2.2.1,Zc8 a.2.2.2])=enc arcD (pt L1 a.2.1 a):=Zfw arcD L1 a.2.1 a
    rw[Zfw PyData.int,e2];exact⟨_,_,_,_,_,rfl⟩
   | some e=>
    by_cases c:d+a.2.2.1<e
    ·have es:stepS (W1,L1,fo) a=(pt W1 a.2.1 (d+a.2.2.1),pt L1 a.2.1 a,some a.2.1):=by unfold stepS;simp only[hd1,he,c,vQ]
     simp! only[et,es,dDIn,dDGet,dDPut,rdK,arcD,b1,b2,Zbk n1,Zbk n2,Zc4,hd1,he,c,tK,xL,sD,sE,tD,sF,uT]
     refine⟨_,rfl,Zb7 (by rw[Zgd];omega),?_⟩
     simp! only[et,es,dDIn,dDGet,dDPut,rdK,arcD,b1,b2,Zbk n1,Zbk n2,Zc4,hd1,he,c,tK,xL,sD,sE,tD,sF,uT]
     refine⟨_,rfl,Zb7 (by rw[Zgd];omega),?_⟩
     simp! only[et,es,dDIn,dDGet,dDPut,rdK,arcD,b1,b2,Zbk n1,Zbk n2,Zc4,hd1,he,c,tK,xL,sD,sE,tD,sF,uT]
     have e2:dput (enc arcD L1) a.2.1 (PyData.tuple [tI a.1,tI a.2.1,PyData.int a.2.2.1,Zc8 a.2.2.2])=enc arcD (pt L1 a.2.1 a):=Zfw arcD L1 a.2.1 a
     rw[Zfw PyData.int,e2];exact⟨_,_,_,_,_,rfl⟩
    ·have es:stepS (W1,L1,fo) a=(W1,L1,fo):=by unfold stepS;simp only[hd1,he,c,vP]
     simp! only[et,es,dDIn,dDGet,dDPut,rdK,arcD,b1,b2,Zbk n1,Zbk n2,Zc4,hd1,he,c,decide_false,xL,sD,sE,tD,sF,uT]
     exact⟨_,_,_,_,_,rfl⟩
 ·rintro s ⟨o4,o5,o6,o7,o8,rfl⟩
  simp! only[lmp,yR]
  exact⟨_,OW.le.refl _,hq⟩
end
section
variable {P:Program}{w:World}{K:Frag}{mg:Str->Option Value}{base:Heap}
def runS(arcs:List ArcT):Nat->S3->S3
 | 0,s=>s
 | n+1,s=>match Zbj arcs s.1 s.2.1 with
  | (W,L,none)=>(W,L,none)
  | (W,L,some b)=>runS arcs n (W,L,some b)
def Zdx:DSp:=pureS λvs r=>∃(told:List (List Int)) (z:List Int) (arcs:List ArcT),vs=[.d (tT (z::told)),.d (.list (arcs.map arcD))]/\z≠[]/\(told.length≤30/\arcs.length≤1000)/\(∀a∈arcs,a.1≠[]/\a.2.1≠[]) /\
 r=.tuple [.dict (kvK (enc .int (runS arcs (told.length+1) ([(z,0)],[],none)).1)),.dict (kvK (enc arcD (runS arcs (told.length+1) ([(z,0)],[],none)).2.1)),foundD (runS arcs (told.length+1) ([(z,0)],[],none)).2.2]
theorem Zh7:MoS Zdx:=Zbv
theorem Zh6:∀vs w k,Zdx vs w k->vs.length=2:=Zbw (by rintro vs r ⟨a,b,c,rfl,_⟩;rfl)
theorem Zho(T:Txt K mg):Dn P w K mg base 2 "shortest_ways" sShortestWays ["told","arcs"] (spD K Zdx):=by
 have D_shorten:=Znr (P:=P) (w:=w) (base:=base) T
 refine Dn.data (k:=1) T.f_shortest_ways Zc3 Zh6 (λa cdv A outer s H E hr=>⟨_,_,IPSs.get (Za4 (Zan (i:=2) Zc3.nd rfl (uM rfl) (Zns (Zfm hr) (Zak Zbn (i_pv 0) Za5 (λ_ _=>rfl)) Za5))
  (Za4 (Zan (i:=3) Zc3.nd rfl (uM rfl) Zjf)
  (Za4 (Zan (i:=4) Zc3.nd rfl (uM rfl) Zfz)
  (Za4 (Zbu tV rfl (Zbl rfl T.z_range (Za0 (Zab Zb5 rfl T.z_len tM (Za0 (i_pv 0) Za3)) Za3)) (Zaa (i:=5) Zc3.nd rfl (uM rfl)) (Za4 (Zan (i:=4) Zc3.nd rfl (uM rfl) (Zar D_shorten Znm (hr.mono (by decide)) (Za0 (i_pv 1) (Za0 (i_pv 2) (Za0 (i_pv 3) Za3)))))
  (Za8 (Zba (Zau Zv3 (i_pv 4) Zfz (nomark _)) (Za8 Znu) Zao))))
  (Za8 (Zae (Zb6 (Za0 (i_pv 2) (Za0 (i_pv 3) (Za0 (i_pv 4) Za3)))))))))),(Zac (Zbb (Zrr true (Zal Zbi (Za2 0) Zap) Zap) (Za7 2))
  (Zac (Zbb (Zq5 true) (Za7 3))
  (Zac (Zbb Zjk (Za7 4))
  (Zac (Zde (Zdm (Za1 (Zbx Zdt (Za1 (Za2 0) Za6)) Za6)) (Za7 5) (Zac (Zbb (Zb4 Zmb (Za1 (Za2 1) (Za1 (Za2 2) (Za1 (Za2 3) Za6)))) (Za7 4))
  (Zd2 (Zbf (Zal Zvx (Za2 4) Zjk)) Zru Zbd)))
  (Zbc (Zc2 (Za1 (Zmh 2) (Za1 (Zmh 3) (Za1 (Za2 4) Za6))))))))),λas o q h=>?_⟩)
 obtain⟨r,⟨told,z,arcs,rfl,hz,⟨hb1,hb2⟩,hk,rfl⟩,hq⟩:=h
 simp! only[dDisp1,tT]
 intro p1 hp1
 refine⟨tI z,show atI (tI z::told.map tI) ((0:Nat):Int)=some (tI z) from Zcs rfl,?_⟩
 refine⟨z,Zbk hz,?_⟩
 simp! only[dDNew]
 intro p2 hp2
 have hne:p1≠p2:=λe=>by rw[<- e,OW.put_same]at hp2;cases hp2
 have hp2':o p2=none:=by rw[OW.put_ne (zW hne)]at hp2;exact hp2
 simp! only[lmp]
 refine⟨⟨by omega,by omega⟩,?_⟩
 have bb:∀(w:OW) (x y:Own),((w.put p1 x).put p2 y) p1=some x:=λw x y=>by rw[OW.put_ne hne,OW.put_same]
 have b2:∀(w:OW) (x y z:Own),((w.put p1 x).put p2 y).put p1 z=(w.put p1 z).put p2 y:=λw x y z=>by
  funext b
  unfold OW.put
  by_cases h1:b=p1
  ·simp[h1,hne]
  ·by_cases h2:b=p2
   ·simp[h2,zW hne]
   ·simp[h1,h2]
 have eN:(((told.length+1:Nat):Int)).toNat=told.length+1:=rfl
 -- what is to come of so many turns more
 have fin:∀(S:S3) (o5:Option Val),S=runS arcs (told.length+1) ([(z,0)],[],none)->dRet (dTup (dCons (dFrzD 2) (dCons (dFrzD 3) (dCons (dVar 4) dNil)))) { nx:=λs=>∃w',w'.le s.w/\q (Val.d PyData.none) w',rt:=λv s=>∃w',w'.le s.w/\q v w' }
   ⟨[some (.d (.tuple (tI z::told.map tI))),some (.d (.list (arcs.map arcD))),some (.own p1),some (.own p2),some (.d (foundD S.2.2)),o5],(o.put p1 (.dct (enc .int S.1))).put p2 (.dct (enc arcD S.2.1))⟩:=by
  rintro S o5 rfl
  simp! only[dFrzD,bb]
  refine⟨_,rfl,?_⟩
  have e3:∀(w:OW) (x y:Own),(((w.put p1 x).put p2 y).del p1) p2=some y:=λw x y=>by rw[OW.del_ne (zW hne),OW.put_same]
  refine⟨_,e3 _ _ _,?_⟩
  refine⟨L2.sz3,o,?_,hq⟩
  intro b u hb
  have n1:b≠p1:=λe=>by rw[e,hp1]at hb;cases hb
  have n2:b≠p2:=λe=>by rw[e,hp2']at hb;cases hb
  exact⟨u,by rw[OW.del_ne n2,OW.del_ne n1,OW.put_ne n2,OW.put_ne n1];exact hb,Own.up.refl u⟩
 have hbnd:∀i,i≤told.length+1->∀S:S3,True:=λ_ _ _=>trivial
 refine⟨λi s=>∃(S:S3) (o5:Option Val),runS arcs (told.length+1-i) S=runS arcs (told.length+1) ([(z,0)],[],none)/\S.1.length≤1+i*1000/\S.2.1.length≤i*1000/\s=⟨[some (.d (.tuple (tI z::told.map tI))),some (.d (.list (arcs.map arcD))),some (.own p1),some (.own p2),some (.d (foundD S.2.2)),o5],(o.put p1 (.dct (enc .int S.1))).put p2 (.dct (enc arcD S.2.1))⟩,?_,λ_ _ _=>trivial,?_,?_⟩
 ·refine⟨([(z,0)],[],none),none,rfl,by simp,by simp,rfl⟩
 ·rintro i d s hd ⟨⟨W1,L1,fo⟩,o5,hrun,l1,l2,rfl⟩
  have hi:i<told.length+1:=by
   have:=(zZ.mp hd).1
   simpa[rngD]using this
  simp only at l1 l2
  simp!
  have hlen:=Zfl arcs (W1,L1,none)
  simp only at hlen
  have hi1000:i*1000≤31*1000:=xZ _ (by omega)
  refine⟨arcs,W1,L1,p1,p2,rfl,hne,bb _ _ _,OW.put_same,hk,⟨hb2,by omega,by omega⟩,?_⟩
  have er:runS arcs (told.length+1-i) (W1,L1,fo)=match Zbj arcs W1 L1 with
    | (W,L,none)=>(W,L,none)
    | (W,L,some b)=>runS arcs (told.length+1-(i+1)) (W,L,some b):=by
   obtain⟨m,hm⟩:∃m,told.length+1-i=m+1:=⟨told.length-i,by omega⟩
   have hm2:told.length+1-(i+1)=m:=by omega
   rw[hm,hm2];rfl
  have hlen':(Zbj arcs W1 L1).1.length≤W1.length+arcs.length/\(Zbj arcs W1 L1).2.1.length≤L1.length+arcs.length:=hlen
  cases hS:Zbj arcs W1 L1 with
  | mk W2 R=>
   obtain⟨Lb,f2⟩:=R
   rw[hS]at er hlen'
   simp only at hlen'
   cases f2 with
   | none=>
    simp! only[fIsN,isNoneD,foundD,b2,dBreak]
    exact fin (W2,Lb,none) none (by rw[<- hrun,er])
   | some b=>
    simp! only[fIsN,isNoneD,foundD,tI,b2,dBreak]
    refine⟨(W2,Lb,some b),_,?_,?_,?_,rfl⟩
    ·rw[<- hrun,er]
    ·simp only;omega
    ·simp only;omega
 ·rintro s ⟨S,o5,hrun,_,_,rfl⟩
  refine fin S o5 ?_
  have e0:told.length+1-(rngD 0 ((told.length+1:Nat):Int).toNat).length=0:=by simp[rngD]
  rw[<- hrun]
  show S=runS arcs (told.length+1-(rngD 0 _).length) S
  rw[e0];rfl
end
section
variable {P:Program}{w:World}{K:Frag}{mg:Str->Option Value}{base:Heap}
theorem Zku:∀(l bs:List (List Int)),∃r,l.foldl addB bs=bs++r
 | [],bs=>⟨[],by simp⟩
 | b::l,bs=>by
  obtain⟨r,hr⟩:=Zku l (addB bs b)
  rw[uH,hr]
  unfold addB
  split
  ·exact⟨r,rfl⟩
  ·exact⟨b::r,by simp⟩
theorem Zdw(k:Nat)(rs:List Rnd)(ss:List Sea):Zam k rs ss=Zas k::(Zam k rs ss).tail:=by
 obtain⟨r,hr⟩:=Zku (rs.map Prod.snd++ss.map Prod.fst) [List.replicate k 0]
 unfold Zam
 rw[hr];rfl
def turnA(a:ArcT):ArcT:=(a.2.1,a.1,a.2.2.1,a.2.2.2)
def Zbe(k:Nat)(rs:List Rnd)(ss:List Sea):List ArcT:=(arcsF k (Zam k rs ss) rs ss).map turnA
def Zb8(k:Nat)(rs:List Rnd)(ss:List Sea):S3:=runS (Zbe k rs ss) (Zam k rs ss).length ([(Zas k,0)],[],none)
def Zbr(k:Nat)(rs:List Rnd)(ss:List Sea)(b:List Int):Int:=-((lk (Zb8 k rs ss).1 b).getD 0)
def Zg4(k:Nat)(rs:List Rnd)(ss:List Sea):PyData:=.tuple ((Zam k rs ss).map λb=>.tuple [tI b,.int (Zbr k rs ss b)])
def atL(L:LL3)(v:List Int):Nat->List Int
 | 0=>v
 | k+1=>match lk L (atL L v k) with|some a=>a.1|none=>atL L v k
theorem Zjq(L:LL3)(v:List Int)(k:Nat):∀n,atL L (atL L v k) n=atL L v (k+n)
 | 0=>rfl
 | n+1=>by
  show(match lk L (atL L (atL L v k) n) with|some a=>a.1|none=>atL L (atL L v k) n)=(match lk L (atL L v (k+n)) with|some a=>a.1|none=>atL L v (k+n))
  rw[Zjq L v k n]
def ringL(L:LL3)(f:List Int)(d:Nat):List Stp:=(List.range d).map λk=>match lk L (atL L f k) with|some a=>a.2.2.2|none=>(3,0,[])
structure RingAt(L:LL3)(b:List Int)(d:Nat):Prop where
 ever:∀k,∃a,lk L (atL L b k)=some a
 key:∀k,atL L b k≠[]
 len:L.length≤1000
 d1:1≤d
 dl:d≤L.length
 back:atL L (atL L b L.length) d=atL L b L.length
 first:∀k,1≤k->k<d->atL L (atL L b L.length) k≠atL L b L.length
def ringD(L:LL3)(b:List Int)(d:Nat):PyData:=.tuple ((ringL L (atL L b L.length) d).map Zc8)
def Zek:DSp:=pureS λvs r=>∃L b d,vs=[.d (tI b),.d (.dict (kvK (enc arcD L)))]/\RingAt L b d/\r=ringD L b d
theorem Zio:MoS Zek:=Zbv
theorem Zij:∀vs w k,Zek vs w k->vs.length=2:=Zbw (by rintro vs r ⟨a,b,c,rfl,_⟩;rfl)
theorem Zj7(T:Txt K mg):Dn P w K mg base 1 "ring_behind" sRingBehind ["bundle","lasts"] (spD K Zek):=by
 refine Dn.data (k:=0) T.f_ring_behind Zcc Zij (λa cdv A outer s H E hr=>⟨_,_,IPSs.get (Za4 (Zan (i:=2) Zcc.nd rfl (uM rfl) (i_pv 0))
  (Za4 (Zbu tV rfl (Zbl rfl T.z_range (Za0 (Zab Zln rfl T.z_len tM (Za0 (i_pv 1) Za3)) Za3)) (Zaa (i:=3) Zcc.nd rfl (uM rfl)) (Za8 (Zan (i:=2) Zcc.nd rfl (uM rfl) (Zak Zbn (Zco (Zfm hr) (i_pv 1) (i_pv 2) (λ_ _=>rfl)) Za5 (λ_ _=>rfl)))))
  (Za4 (Zan (i:=4) Zcc.nd rfl (uM rfl) (i_pv 2))
  (Za4 (Zan (i:=5) Zcc.nd rfl (uM rfl) (Zcq Za3))
  (Za4 (Znv tV (IPW.pt (Zf4 (Zcr (Znw (i_pv 5))) (Zef (Zau (Zv4 hr.units) (i_pv 2) (i_pv 4) (nomark _))))) (Za4 (Zcm (Zda tW tX tY Zcn (i_pv 5) (Za0 (Zak Zbn (Zco (Zfm hr) (i_pv 1) (i_pv 2) (λ_ _=>rfl)) Za5 (λ_ _=>rfl)) Za3)))
  (Za8 (Zan (i:=2) Zcc.nd rfl (uM rfl) (Zak Zbn (Zco (Zfm hr) (i_pv 1) (i_pv 2) (λ_ _=>rfl)) Za5 (λ_ _=>rfl))))))
  (Za8 (Zae (Zcj Zci rfl T.z_tuple (by decide +kernel) (Za0 (i_pv 5) Za3))))))))),(Zac (Zbb (Za2 0) (Za7 2))
  (Zac (Zde (Zdm (Za1 (Zbx Zu4 (Za1 (Za2 1) Za6)) Za6)) (Za7 3) (Zbb (Zal Zbi (Zeo (Za2 1) (Za2 2)) Zap) (Za7 2)))
  (Zac (Zbb (Za2 2) (Za7 4))
  (Zac (Zbb (Zet true Za6) (Za7 5))
  (Zac (Zrv (Zk9 (Zeg (Zvz (Za2 5))) (Zbf (Zal Zq9 (Za2 2) (Za2 4)))) (Zac (Ze1 (Zfc (Za2 5) (Za1 (Zal Zbi (Zeo (Za2 1) (Za2 2)) Zap) Za6)))
  (Zbb (Zal Zbi (Zeo (Za2 1) (Za2 2)) Zap) (Za7 2))))
  (Zbc (Zbx Zf9 (Za1 (Za2 5) Za6)))))))),λas o q h=>?_⟩)
 obtain⟨r,⟨L,b,d,rfl,R,rfl⟩,hq⟩:=h
 have hlen:=R.len
 have hd1:=R.d1
 have hdl:=R.dl
 simp! only[gLenD,rdK,unK_kvK,Zgd,dDGet]
 refine⟨⟨by omega,by omega⟩,?_⟩
 refine⟨λi s=>∃(o3:Option Val),s=⟨[some (.d (tI b)),some (.d (.dict (kvK (enc arcD L)))),some (.d (tI (atL L b i))),o3,none,none],o⟩,⟨none,rfl⟩,λ_ _ _=>trivial,?_,?_⟩
 ·rintro i dd s hd ⟨o3,rfl⟩
  obtain⟨a,ha⟩:=R.ever i
  simp! only[rdK,unK_kvK]
  refine⟨_,_,arcD a,rfl,Zbk (R.key i),by rw[Zc4,ha];rfl,?_⟩
  simp! only[arcD]
  refine⟨_,rfl,?_⟩
  have e:atL L b (i+1)=a.1:=by show(match lk L (atL L b i) with|some a=>a.1|none=>atL L b i)=a.1;rw[ha]
  rw[e]
  exact⟨_,rfl⟩
 rintro s ⟨o3,rfl⟩
 have eN:(rngD 0 ((L.length:Nat):Int).toNat).length=L.length:=by simp[rngD]
 rw[eN]
 generalize hf:atL L b L.length=f at *
 have ever:∀k,∃a,lk L (atL L f k)=some a:=λk=>by rw[<- hf,Zjq];exact R.ever _
 have hkey:∀k,atL L f k≠[]:=λk=>by rw[<- hf,Zjq];exact R.key _
 have hback:atL L f d=f:=by have:=R.back;rw[hf]at this;exact this
 have hfirst:∀k,1≤k->k<d->atL L f k≠f:=λk h1 h2=>by have:=R.first k h1 h2;rw[hf]at this;exact this
 simp! only[dWhile,dApp,rdK,unK_kvK]
 refine⟨by decide,λp hp=>?_⟩
 refine⟨λm s=>∃j,j+m=d/\s=⟨[some (.d (tI b)),some (.d (.dict (kvK (enc arcD L)))),some (.d (tI (atL L f j))),o3,some (.d (tI f)),some (.own p)],o.put p (.lst ((ringL L f j).map Zc8))⟩,⟨d,0,by omega,rfl⟩,?_⟩
 rintro m s ⟨j,hj,rfl⟩
 have he:((ringL L f j).map Zc8).isEmpty=decide (j=0):=by
  cases j with
  | zero=>rfl
  | succ j=>simp[ringL]
 simp! only[dDGet,rdK,unK_kvK,he]
 refine ite2 (λc=>?_) (λc=>?_)
 all_goals simp!
 ·have hj00:j=0:=by simpa using c
  have hj0:j<d:=by omega
  obtain⟨a,ha⟩:=ever j
  refine⟨⟨_,rfl⟩,_,_,arcD a,rfl,Zbk (hkey j),by rw[Zc4,ha];rfl,?_⟩
  simp! only[arcD]
  refine⟨Zc8 a.2.2.2,rfl,_,rfl,Zb7 (by simp[ringL];omega),?_⟩
  simp!
  refine⟨_,_,arcD a,rfl,Zbk (hkey j),by rw[Zc4,ha];rfl,?_⟩
  simp! only[arcD]
  refine⟨_,rfl,m-1,by omega,j+1,by omega,?_⟩
  have e1:atL L f (j+1)=a.1:=by show(match lk L (atL L f j) with|some a=>a.1|none=>atL L f j)=a.1;rw[ha]
  have e2:ringL L f (j+1)=ringL L f j++[a.2.2.2]:=by unfold ringL;rw[List.range_succ,xE];simp[ha]
  rw[e1,e2,xE];rfl
 have hj1:j≠0:=by simpa using c
 refine⟨⟨Zdh _,Zdh _,Zdv _,Zdv _⟩,?_⟩
 rw[Zia]
 refine ite2 (λc=>?_) (λc=>?_)
 all_goals simp!
 ·have hj0:j<d:=by
   have h1:atL L f j≠f:=by simpa using c
   have h2:j≠d:=λe=>h1 (by rw[e];exact hback)
   omega
  obtain⟨a,ha⟩:=ever j
  refine⟨⟨_,rfl⟩,_,_,arcD a,rfl,Zbk (hkey j),by rw[Zc4,ha];rfl,?_⟩
  simp! only[arcD]
  refine⟨Zc8 a.2.2.2,rfl,_,rfl,Zb7 (by simp[ringL];omega),?_⟩
  simp!
  refine⟨_,_,arcD a,rfl,Zbk (hkey j),by rw[Zc4,ha];rfl,?_⟩
  simp! only[arcD]
  refine⟨_,rfl,m-1,by omega,j+1,by omega,?_⟩
  have e1:atL L f (j+1)=a.1:=by show(match lk L (atL L f j) with|some a=>a.1|none=>atL L f j)=a.1;rw[ha]
  have e2:ringL L f (j+1)=ringL L f j++[a.2.2.2]:=by unfold ringL;rw[List.range_succ,xE];simp[ha]
  rw[e1,e2,xE];rfl
 ·have h1:atL L f j=f:=by simpa using c
  have h2:j=d:=by
   refine xW λh=>?_
   exact hfirst j (by omega) (by omega) h1
  subst h2
  refine⟨o,OW.le.new (OW.le.refl o) hp _,?_⟩
  unfold ringD at hq
  rw[hf]at hq
  exact hq
def Zgi:DSp:=pureS λvs r=>∃k rs ss,vs=[.d (Ze0 rs),.d (Zdg ss),.d (.int (k:Nat))]/\Hist k rs ss /\
 (((Zb8 k rs ss).2.2=none/\(∀b∈Zam k rs ss,∃d,lk (Zb8 k rs ss).1 b=some d)/\r=.tuple [.str "worths",Zg4 k rs ss]) \/
  ∃b d,(Zb8 k rs ss).2.2=some b/\RingAt (Zb8 k rs ss).2.1 b d/\r=.tuple [.str "ring",ringD (Zb8 k rs ss).2.1 b d])
theorem Zg2:MoS Zgi:=Zbv
theorem Zo1:∀vs w k,Zgi vs w k->vs.length=3:=Zbw (by rintro vs r ⟨a,b,c,rfl,_⟩;rfl)
theorem Zqx{k:Nat}{rs:List Rnd}{ss:List Sea}(hH:Hist k rs ss){e:Stp}(hv:Valid k rs ss e):(Zbp k rs e).1.length=k/\(Zbp k rs e).2.length=k:=by
 obtain⟨e,i,b⟩:=e
 obtain⟨v1,v2,v3,v4,v5⟩:=hv
 simp only at v1 v2 v3 v4 v5
 match e,v3,v4,v5 with
 | 0,v3,v4,v5=>
  have hi:=v3 rfl
  have hr:=hH.row _ (yT hi)
  simp only[Zbp,gEq hi]
  exact⟨hr.2.1,v1⟩
 | 1,v3,v4,v5=>exact⟨by simp[Zbp,Zas],v1⟩
 | 2,v3,v4,v5=>exact⟨v1,by simp[Zbp,Zas]⟩
 | 3,v3,v4,v5=>exact⟨v1,by simp[Zbp,Zas]⟩
theorem Zer{k:Nat}(h:1≤k){b:List Int}(hb:b.length=k):b≠[]:=λe=>by rw[e]at hb;simp at hb;omega
theorem Zoz(T:Txt K mg):∃e,EmptyAt K e/\DnD P w K mg base 4 "worths" sWorths ["rounds","sealed","kinds"] (spD K Zgi) e:=by
 have D_arcs_of:=Znp (P:=P) (w:=w) (base:=base) T
 have D_ring_behind:=Zj7 (P:=P) (w:=w) (base:=base) T
 have D_shortest_ways:=Zho (P:=P) (w:=w) (base:=base) T
 obtain⟨e_told_bundles,em_told_bundles,D_told_bundles⟩:=Zi6 (P:=P) (w:=w) (base:=base) T
 obtain⟨e_here,em_here,U_here⟩:=T.f_worths
 refine⟨e_here,em_here,DnD.data (k:=3) U_here Zey Zo1 (λa cdv A outer s H E hr=>⟨_,_,IPSs.get (Za4 (Zan (i:=3) Zey.nd rfl (uM rfl) (Zeq D_told_bundles (Zf5) (hr.mono (by decide)) (Za0 (i_pv 0) (Za0 (i_pv 1) Za3)) (Ze6 (i_pv 2) Zf3)))
  (Za4 (by refine' Zfn (i:=4) Zey.nd rfl (uM rfl) (Nc:=["start","end","by","step"]) (cap:=[none,none,none,none]) rfl ?i ?k ?g ?t ?e;(case k=>kernel_rfl);(case i=>exact(Zdb (Zar D_arcs_of Znk (hr.mono (by decide)) (Za0 (i_pv 3) (Za0 (i_pv 0) (Za0 (i_pv 1) Za3))))));(case g=>exact(λ_ _ _ _ _=>(Zds (K:=K) rfl (n:=4) rfl (Za9 (Zd3 0 (by show List.Nodup (["start","end","by","step"]:List Str);decide +kernel)) (Za9 (Zd3 1 (by show List.Nodup (["start","end","by","step"]:List Str);decide +kernel)) (Za9 (Zd3 2 (by show List.Nodup (["start","end","by","step"]:List Str);decide +kernel)) (Za9 (Zd3 3 (by show List.Nodup (["start","end","by","step"]:List Str);decide +kernel)) Zb9)))))));(case t=>exact(λ_ _ _ _ _=>Zbh));(case e=>exact(λ_ _ _ _ _=>(Zb6 (Za0 (Zd4 1) (Za0 (Zd4 0) (Za0 (Zd4 2) (Za0 (Zd4 3) Za3))))))))
  (Za4 (Zdc (Zar D_shortest_ways Zhn (hr.mono (by decide)) (Za0 (i_pv 3) (Za0 (i_pv 4) Za3))) (Zc5 (n:=3) rfl (Za9 (Zaa (i:=5) Zey.nd rfl (uN rfl)) (Za9 (Zaa (i:=6) Zey.nd rfl (uM rfl)) (Za9 (Zaa (i:=7) Zey.nd rfl (uM rfl)) Zb9)))))
  (Za4 (Zba (Zau Zps (i_pv 7) Zfz (nomark _)) (Za8 (Zae (Zb6 (Za0 Zbt (Za0 (Zar D_ring_behind Zj2 (hr.mono (by decide)) (Za0 (i_pv 7) (Za0 (i_pv 6) Za3))) Za3))))) Zao)
  (Za8 (Zae (Zb6 (Za0 Zbt (Za0 (Zcj Zci rfl T.z_tuple (by decide +kernel) (Za0 (by refine' Zbq (Nc:=["bundle","ways"]) (cap:=[none,some 5]) rfl ?i ?k ?g ?t ?e;(case k=>kernel_rfl);(case i=>exact(Zc6 (i_pv 3)));(case g=>exact(λ_ _ _ _ _=>(Zd3 0 (by show List.Nodup (["bundle","ways"]:List Str);decide +kernel))));(case t=>exact(λ_ _ _ _ _=>Zbh));(case e=>exact(λ_ _ _ _ _=>(Zb6 (Za0 (Zd4 0) (Za0 (Zpc Zsx (Zco (Zfm hr) (Zfo 1) (Zd4 0) (λ_ _=>rfl))) Za3)))))) Za3)) Za3))))))))),(Zac (Zbb (Zgv Zhr em_told_bundles (Za1 (Za2 0) (Za1 (Za2 1) Za6)) (Za1 (Za2 2) Za6)) (Za7 3))
  (Zac (Zbb (Zca false (Zfa (Zb4 Zm9 (Za1 (Za2 3) (Za1 (Za2 0) (Za1 (Za2 1) Za6))))) (Zcw (Zad (Za7 0) (Zad (Za7 1) (Zad (Za7 2) (Zad (Za7 3) Zc1))))) Zcx (Zcb (Zc2 (Za1 (Za2 1) (Za1 (Za2 0) (Za1 (Za2 2) (Za1 (Za2 3) Za6))))))) (Za7 4))
  (Zac (Zbb (Zb4 Zh7 (Za1 (Za2 3) (Za1 (Za2 4) Za6))) (Zcw (Zad (Za7 5) (Zad (Za7 6) (Zad (Za7 7) Zc1)))))
  (Zac (Zd2 (Zbf (Zal Zqa (Za2 7) Zjk)) (Zbc (Zc2 (Za1 Zdd (Za1 (Zb4 Zio (Za1 (Za2 7) (Za1 (Za2 6) Za6))) Za6)))) Zbd)
  (Zbc (Zc2 (Za1 Zdd (Za1 (Zbx Zf9 (Za1 (Zca false (Zdi (Za2 3)) (Za7 0) Zcx (Zcb (Zc2 (Za1 (Za2 0) (Za1 (Zvw ru_I (Zeo (Za2 1) (Za2 0))) Za6))))) Za6)) Za6)))))))),λas o q h=>?_⟩)⟩
 obtain⟨r,⟨n,rs,ss,rfl,hH,hor⟩,hq⟩:=h
 have hrl:=hH.rl
 have hsl:=hH.sl
 have htl:=Zke (k:=n) (rs:=rs) (ss:=ss)
 have hv:=Zfs (rs:=rs) hH.told hH.sea
 have hsz:(Zbe n rs ss).length≤1000:=by
  unfold Zbe arcsF
  rw[lmp,lmp,Zhe]
  have:=sC hrl (show(Zam n rs ss).length≤27 by omega)
  omega
 simp! only[dCallD,gaQ]
 refine⟨_,⟨n,rs,ss,rfl,hH,rfl⟩,?_⟩
 simp! only[dComp]
 refine⟨_,⟨n,rs,ss,Zam n rs ss,rfl,hH,⟨by omega,hH.told⟩,rfl⟩,?_⟩
 have eal:(arcsF n (Zam n rs ss) rs ss).length=(Zbe n rs ss).length:=by unfold Zbe;rw[lmp]
 refine Zcp (arcsF n (Zam n rs ss) rs ss) arcD (λa=>arcD (turnA a)) [] rfl trivial (Zb7 (by simp only[xI,zero_add];omega)) ?_ ?_
 ·intro x hx Q hQ
  simp! only[arcD]
  exact⟨L2.sz4,hQ⟩
 have eT:(arcsF n (Zam n rs ss) rs ss).map (λa=>arcD (turnA a))=(Zbe n rs ss).map arcD:=by unfold Zbe;rw[xX];rfl
 rw[eT]
 have hcons:=Zdw n rs ss
 have hkk:∀a∈Zbe n rs ss,a.1≠[]/\a.2.1≠[]:=by
  intro a ha
  unfold Zbe arcsF at ha
  obtain⟨b,hb,rfl⟩:=xF.mp ha
  obtain⟨e,he,rfl⟩:=xF.mp hb
  obtain⟨l1,l2⟩:=Zqx hH (hv e he)
  exact⟨Zer hH.k1 l2,Zer hH.k1 l1⟩
 have hlt:(Zam n rs ss).tail.length+1=(Zam n rs ss).length:=by rw[hcons];simp
 simp!
 refine⟨_,⟨(Zam n rs ss).tail,Zas n,Zbe n rs ss,by show [Val.d (PyData.tuple ((Zam n rs ss).map tI)),_]=[Val.d (PyData.tuple ((Zas n::(Zam n rs ss).tail).map tI)),_];rw[<- hcons],Zer hH.k1 (by simp[Zas]),⟨by omega,hsz⟩,hkk,rfl⟩,?_⟩
 rw[hlt]
 have eF:runS (Zbe n rs ss) (Zam n rs ss).length ([(Zas n,0)],[],none)=Zb8 n rs ss:=rfl
 rw[eF]
 rcases hor with ⟨hnone,hall,rfl⟩|⟨b,d,hsome,R,rfl⟩
 rotate_left
 ·rw[hsome]
  simp! only[fIsN,isNoneD,foundD,tI]
  refine⟨_,⟨_,b,d,rfl,R,rfl⟩,L2.sz2,_,OW.le.refl _,hq⟩
 rw[hnone]
 simp! only[fIsN,isNoneD,foundD]
 refine Zcp (Zam n rs ss) tI (λb=>.tuple [tI b,.int (Zbr n rs ss b)]) [] rfl trivial (Zb7 (by simp;omega)) ?_ ?_
 ·intro b hb Q hQ
  obtain⟨d,hd⟩:=hall b hb
  simp! only[dDGet,rdK,unK_kvK]
  refine⟨_,b,.int d,rfl,Zbk (Zer hH.k1 (hH.told b hb).1),by rw[Zc4,hd];rfl,?_⟩
  simp!
  refine⟨L2.sz2,?_⟩
  have e:Zbr n rs ss b = -d:=by unfold Zbr;rw[hd];rfl
  rw[e]at hQ;exact hQ
 ·simp!
  exact⟨L2.sz2,_,OW.le.refl _,hq⟩
end
end Mine
namespace Ways
variable {α:Type} [DecidableEq α]
abbrev Arc(α:Type):=α×α×Int
inductive Walk(arcs:List (Arc α))(s:α):α->Int->Nat->Prop
 | nil:Walk arcs s s 0 0
 | snoc {u v:α}{W b:Int}{n:Nat} (h:Walk arcs s u W n) (ha:(u,v,b)∈arcs):Walk arcs s v (W+b) (n+1)
abbrev St(α:Type):=α->Option Int
def put(w:St α)(v:α)(d:Int):St α:=λx=>if x=v then some d else w x
theorem put_same(w:St α)(v:α)(d:Int):put w v d v=some d:=by simp[put]
theorem put_ne(w:St α){v x:α}(d:Int)(h:x≠v):put w v d x=w x:=by simp[put,h]
def better(w:St α)(a:Arc α):Option Int:=match w a.1 with
 | none=>none
 | some d=>match w a.2.1 with
  | none=>some (d+a.2.2)
  | some e=>if d+a.2.2<e then some (d+a.2.2) else none
def relax(w:St α)(a:Arc α):St α:=match better w a with
 | none=>w
 | some d=>put w a.2.1 d
def pass(arcs:List (Arc α))(w:St α):St α:=arcs.foldl relax w
def Sound(arcs:List (Arc α))(s:α)(w:St α):Prop:=∀v d,w v=some d->∃n,Walk arcs s v d n
theorem better_some{w:St α}{a:Arc α}{d:Int}(h:better w a=some d):∃e,w a.1=some e/\d=e+a.2.2/\∀f,w a.2.1=some f->d<f:=by
 unfold better at h
 cases h1:w a.1 with
 | none=>rw[h1]at h;cases h
 | some e=>
  rw[h1]at h
  dsimp only at h
  cases h2:w a.2.1 with
  | none=>rw[h2]at h;cases h;exact⟨e,rfl,rfl,λf hf=>(nomatch hf)⟩
  | some f=>
   rw[h2]at h
   dsimp only at h
   split at h
   ·cases h;rename_i hlt;exact⟨e,rfl,rfl,λg hg=>by cases hg;exact hlt⟩
   ·cases h
theorem better_none{w:St α}{a:Arc α}(h:better w a=none){d:Int}(hd:w a.1=some d):∃e,w a.2.1=some e/\e≤d+a.2.2:=by
 unfold better at h
 rw[hd]at h
 dsimp only at h
 cases h2:w a.2.1 with
 | none=>rw[h2]at h;cases h
 | some f=>
  rw[h2]at h
  dsimp only at h
  split at h
  ·cases h
  ·exact⟨f,rfl,by omega⟩
theorem Sound.relax{arcs:List (Arc α)}{s:α}{w:St α}{a:Arc α}(h:Sound arcs s w)(ha:a∈arcs):Sound arcs s (relax w a):=by
 unfold Ways.relax
 cases hb:better w a with
 | none=>exact h
 | some d=>
  obtain⟨e,h1,h2,_⟩:=better_some hb
  intro v x hx
  by_cases hv:v=a.2.1
  ·subst hv
   dsimp only at hx
   rw[put_same]at hx
   cases hx
   obtain⟨n,hn⟩:=h _ _ h1
   refine⟨n+1,?_⟩
   rw[h2]
   exact Walk.snoc (b:=a.2.2) hn (by obtain⟨p,q,r⟩:=a;exact ha)
  ·dsimp only at hx
   rw[put_ne _ _ hv]at hx
   exact h v x hx
theorem Znd{w:St α}(a:Arc α){v:α}{d:Int}(h:w v=some d):∃e,relax w a v=some e/\e≤d:=by
 unfold relax
 cases hb:better w a with
 | none=>exact⟨d,h,sG _⟩
 | some x=>
  dsimp only
  obtain⟨e,h1,h2,h3⟩:=better_some hb
  by_cases hv:v=a.2.1
  ·subst hv
   exact⟨x,put_same ..,by have:=h3 d h;omega⟩
  ·exact⟨d,by rw[put_ne _ _ hv];exact h,sG _⟩
theorem Zq7{w:St α}(a:Arc α){d:Int}(h:w a.1=some d):∃e,relax w a a.2.1=some e/\e≤d+a.2.2:=by
 unfold relax
 cases hb:better w a with
 | none=>exact better_none hb h
 | some x=>
  obtain⟨e,h1,h2,h3⟩:=better_some hb
  rw[h]at h1;cases h1
  exact⟨x,put_same ..,by omega⟩
theorem fold_le:∀(l:List (Arc α)) {w:St α}{v:α}{d:Int},w v=some d->∃e,l.foldl relax w v=some e/\e≤d
 | [],w,v,d,h=>⟨d,h,sG _⟩
 | a::l,w,v,d,h=>by
  obtain⟨e,h1,h2⟩:=Znd a h
  obtain⟨f,h3,h4⟩:=fold_le l h1
  exact⟨f,h3,by omega⟩
theorem Zmx:∀(l:List (Arc α)) {w:St α}{a:Arc α}{d:Int},a∈l->w a.1=some d->∃e,l.foldl relax w a.2.1=some e/\e≤d+a.2.2
 | [],w,a,d,ha,h=>by cases ha
 | b::l,w,a,d,ha,h=>by
  rcases zV.mp ha with e|e
  ·subst e
   obtain⟨x,h1,h2⟩:=Zq7 a h
   obtain⟨f,h3,h4⟩:=fold_le l h1
   exact⟨f,h3,by omega⟩
  ·obtain⟨x,h1,h2⟩:=Znd b h
   obtain⟨f,h3,h4⟩:=Zmx l e h1
   exact⟨f,h3,by omega⟩
theorem Sound.fold{arcs:List (Arc α)}{s:α}:∀(l:List (Arc α)) {w:St α},(∀a∈l,a∈arcs)->Sound arcs s w->Sound arcs s (l.foldl Ways.relax w)
 | [],w,_,h=>h
 | a::l,w,hl,h=>Sound.fold l (λx hx=>hl x (zU _ hx)) (h.relax (hl a (zT ..)))
def Beats(arcs:List (Arc α))(s:α)(w:St α)(i:Nat):Prop:=∀v W n,n≤i->Walk arcs s v W n->∃d,w v=some d/\d≤W
theorem Beats.pass{arcs:List (Arc α)}{s:α}{w:St α}{i:Nat}(h:Beats arcs s w i):Beats arcs s (pass arcs w) (i+1):=by
 intro v W n hn hw
 cases hw with
 | nil=>
  obtain⟨d,h1,h2⟩:=h s 0 0 (yE _) .nil
  obtain⟨e,h3,h4⟩:=fold_le arcs h1
  exact⟨e,h3,by omega⟩
 | snoc h' ha=>
  rename_i u W' b m
  obtain⟨d,h1,h2⟩:=h u W' m (by omega) h'
  obtain⟨e,h3,h4⟩:=Zmx arcs (a:=(u,v,b)) ha h1
  exact⟨e,h3,by dsimp only at h4;omega⟩
def Calm(arcs:List (Arc α)):Prop:=∀v W n,Walk arcs v v W n->0≤W
inductive Way(arcs:List (Arc α))(s:α):α->Int->List α->Prop
 | nil:Way arcs s s 0 [s]
 | snoc {u v:α}{W b:Int}{l:List α} (h:Way arcs s u W l) (ha:(u,v,b)∈arcs):Way arcs s v (W+b) (l++[v])
theorem Walk.way{arcs:List (Arc α)}{s v:α}{W:Int}{n:Nat}(h:Walk arcs s v W n):∃l,Way arcs s v W l/\l.length=n+1:=by
 induction h with
 | nil=>exact⟨[s],.nil,rfl⟩
 | snoc h ha ih=>
  obtain⟨l,h1,h2⟩:=ih
  exact⟨_,.snoc h1 ha,by rw[vJ,h2];rfl⟩
theorem Way.walk{arcs:List (Arc α)}{s v:α}{W:Int}{l:List α}(h:Way arcs s v W l):∃n,Walk arcs s v W n/\l.length=n+1:=by
 induction h with
 | nil=>exact⟨0,.nil,rfl⟩
 | snoc h ha ih=>
  obtain⟨n,h1,h2⟩:=ih
  exact⟨n+1,.snoc h1 ha,by rw[vJ,h2];rfl⟩
theorem Way.cut{arcs:List (Arc α)}{s v:α}{W:Int}{l:List α}(h:Way arcs s v W l):∀x∈l,∃W1 W2 n1 n2,Walk arcs s x W1 n1/\Walk arcs x v W2 n2/\W1+W2=W/\n1+n2+1=l.length:=by
 induction h with
 | nil=>intro x hx;rw[xD.mp hx];exact⟨0,0,0,0,.nil,.nil,rfl,rfl⟩
 | snoc h ha ih=>
  intro x hx
  rcases zX.mp hx with z|z
  ·obtain⟨W1,W2,n1,n2,h1,h2,h3,h4⟩:=ih x z
   exact⟨W1,W2+_,n1,n2+1,h1,.snoc h2 ha,by omega,by rw[vJ];simp;omega⟩
  ·rw[xD.mp z]
   obtain⟨n,h1,h2⟩:=h.walk
   exact⟨_,0,n+1,0,.snoc h1 ha,.nil,by omega,by rw[vJ];simp;omega⟩
theorem Way.shorter{arcs:List (Arc α)}(calm:Calm arcs){s v:α}{W:Int}{l:List α}(h:Way arcs s v W l):¬l.Nodup->∃W' n,W'≤W/\n+1<l.length/\Walk arcs s v W' n:=by
 induction h with
 | nil=>intro hn;exact absurd (vB.mpr ⟨by simp,List.nodup_nil⟩) hn
 | snoc h ha ih=>
  rename_i u v W b l
  intro hn
  by_cases hl:l.Nodup
  ·have hv:v∈l:=by
    by_cases hv:v∈l
    ·exact hv
    ·exfalso;apply hn
     rw[nodup_append]
     exact⟨hl,by simp,λa ha' b hb'=>by rw[xD.mp hb'];intro e;rw[e]at ha';exact hv ha'⟩
   obtain⟨W1,W2,n1,n2,h1,h2,h3,h4⟩:=h.cut v hv
   have ring:=calm v (W2+b) (n2+1) (.snoc h2 ha)
   exact⟨W1,n1,by omega,by rw[vJ];simp;omega,h1⟩
  ·obtain⟨W',n,h1,h2,h3⟩:=ih hl
   exact⟨W' + b,n+1,by omega,by rw[vJ];simp;omega,.snoc h3 ha⟩
theorem Way.mem{arcs:List (Arc α)}{vs:List α}(hv:∀a∈arcs,a.2.1∈vs){s v:α}{W:Int}{l:List α}(h:Way arcs s v W l)(hs:s∈vs):∀x∈l,x∈vs:=by
 induction h with
 | nil=>intro x hx;rw[xD.mp hx];exact hs
 | snoc h ha ih=>
  intro x hx
  rcases zX.mp hx with z|z
  ·exact ih x z
  ·rw[xD.mp z];exact hv _ ha
theorem nodup_len:∀(l vs:List α),l.Nodup->(∀x∈l,x∈vs)->l.length≤vs.length
 | [],vs,_,_=>yE _
 | x::l,vs,hn,h=>by
  have hx:=h x (zT ..)
  obtain⟨h1,h2⟩:=vB.mp hn
  have:=nodup_len l (vs.erase x) h2 λy hy=>by
   have hy':=h y (zU _ hy)
   exact(List.mem_erase_of_ne (λe=>h1 (by rw[<- e];exact hy))).mpr hy'
  rw[List.length_erase_of_mem hx]at this
  have hp:0<vs.length:=List.length_pos_of_mem hx
  rw[yP]
  omega
theorem reduce{arcs:List (Arc α)}{vs:List α}(calm:Calm arcs)(hv:∀a∈arcs,a.2.1∈vs){s:α}(hs:s∈vs):∀(n:Nat) {v:α}{W:Int},Walk arcs s v W n->∃W' m,W'≤W/\m<vs.length/\Walk arcs s v W' m:=by
 intro n
 induction n using Nat.strongRecOn with
 | ind n ih=>
  intro v W h
  by_cases hn:n<vs.length
  ·exact⟨W,n,sG _,hn,h⟩
  ·obtain⟨l,h1,h2⟩:=h.way
   have nd:¬l.Nodup:=λhd=>by have:=nodup_len l vs hd (h1.mem hv hs);omega
   obtain⟨W',m,h3,h4,h5⟩:=h1.shorter calm nd
   obtain⟨W2,m2,h6,h7,h8⟩:=ih m (by omega) h5
   exact⟨W2,m2,by omega,h7,h8⟩
theorem settled{arcs:List (Arc α)}{vs:List α}(calm:Calm arcs)(hv:∀a∈arcs,a.2.1∈vs){s:α}(hs:s∈vs){w:St α}(hS:Sound arcs s w){i:Nat}(hB:Beats arcs s w i)(hi:vs.length≤i+1):∀a∈arcs,better w a=none:=by
 intro a ha
 cases hb:better w a with
 | none=>rfl
 | some d=>
  exfalso
  obtain⟨e,h1,h2,h3⟩:=better_some hb
  obtain⟨n,hn⟩:=hS _ _ h1
  have step:Walk arcs s a.2.1 (e+a.2.2) (n+1):=Walk.snoc (b:=a.2.2) hn (by obtain⟨p,q,r⟩:=a;exact ha)
  obtain⟨W',m,g1,g2,g3⟩:=reduce calm hv hs _ step
  obtain⟨f,f1,f2⟩:=hB _ _ m (by omega) g3
  have:=h3 f f1
  omega
theorem right_of{arcs:List (Arc α)}{w:St α}(h:∀a∈arcs,better w a=none){a:Arc α}(ha:a∈arcs){d:Int}(hd:w a.1=some d):∃e,w a.2.1=some e/\e≤d+a.2.2:=better_none (h a ha) hd
theorem walk_right{arcs:List (Arc α)}{w:St α}(h:∀a∈arcs,better w a=none){u v:α}{W:Int}{n:Nat}(hw:Walk arcs u v W n):∀{d:Int},w u=some d->∃e,w v=some e/\e≤d+W:=by
 induction hw with
 | nil=>intro d hd;exact⟨d,hd,by omega⟩
 | snoc h' ha ih=>
  intro d hd
  obtain⟨e,h1,h2⟩:=ih hd
  obtain⟨f,h3,h4⟩:=right_of h ha h1
  exact⟨f,h3,by dsimp only at h4;omega⟩
theorem calm_of{arcs:List (Arc α)}(p:α->Int)(h:∀a∈arcs,p a.2.1≤p a.1+a.2.2):Calm arcs:=by
 have:∀{u v:α}{W:Int}{n:Nat},Walk arcs u v W n->p v≤p u+W:=by
  intro u v W n hw
  induction hw with
  | nil=>omega
  | snoc h' ha ih=>have:=h _ ha;dsimp only at this;omega
 intro v W n hw
 have:=this hw
 omega
end Ways
namespace Mine
open PySem PySem.Spec PyProof.Rows L2
open Ways (Walk better relax pass Sound Beats Calm)
def arc3(a:ArcT):Ways.Arc (List Int):=(a.1,a.2.1,a.2.2.1)
theorem Zsm(W:WL)(k:List Int)(v:Int):lk (pt W k v)=Ways.put (lk W) k v:=by
 funext j
 rw[Zr8];rfl
theorem Zdu(s:S3)(a:ArcT):(better (lk s.1) (arc3 a)=none/\stepS s a=s)\/∃d,better (lk s.1) (arc3 a)=some d/\stepS s a=(pt s.1 a.2.1 d,pt s.2.1 a.2.1 a,some a.2.1):=by
 unfold stepS better arc3
 cases h1:lk s.1 a.1 with
 | none=>exact .inl ⟨rfl,rfl⟩
 | some d=>
  cases h2:lk s.1 a.2.1 with
  | none=>exact .inr ⟨_,rfl,rfl⟩
  | some e=>
   by_cases c:d+a.2.2.1<e
   ·exact .inr ⟨d+a.2.2.1,by simp[c],by simp[c]⟩
   ·exact .inl ⟨by simp[c],by simp[c]⟩
theorem Zs2(s:S3)(a:ArcT):lk (stepS s a).1=relax (lk s.1) (arc3 a):=by
 unfold relax
 rcases Zdu s a with ⟨h1,h2⟩|⟨d,h1,h2⟩
 ·rw[h1,h2]
 ·rw[h1,h2,Zsm];rfl
theorem Zfx:∀(l:List ArcT) (s:S3),lk (l.foldl stepS s).1=(l.map arc3).foldl relax (lk s.1)
 | [],s=>rfl
 | a::l,s=>by rw[uH,Zfx l,Zs2,uB,uH]
theorem Zjd:∀(l:List ArcT) (s:S3),s.2.2≠none->(l.foldl stepS s).2.2≠none
 | [],s,h=>h
 | a::l,s,h=>by
  rw[uH]
  refine Zjd l _ ?_
  rcases Zdu s a with ⟨_,h2⟩|⟨d,_,h2⟩
  ·rw[h2];exact h
  ·rw[h2];simp
theorem Zjc:∀(l:List ArcT) (s:S3),(l.foldl stepS s).2.2=none->(l.foldl stepS s)=s/\∀a∈l,better (lk s.1) (arc3 a)=none
 | [],s,h=>⟨rfl,λa ha=>by cases ha⟩
 | a::l,s,h=>by
  rw[uH]at h |-
  rcases Zdu s a with ⟨h1,h2⟩|⟨d,h1,h2⟩
  ·rw[h2]at h |-
   obtain⟨e,hb⟩:=Zjc l s h
   refine⟨e,λb hb'=>?_⟩
   rcases zV.mp hb' with rfl|z
   ·exact h1
   ·exact hb b z
  ·exact absurd h (Zjd l _ (by rw[h2];simp))
theorem Zfb{arcs:List ArcT}{W:WL}{L:LL3}(h:(Zbj arcs W L).2.2=none):(Zbj arcs W L)=(W,L,none)/\∀a∈arcs,better (lk W) (arc3 a)=none:=Zjc arcs (W,L,none) h
theorem Zis{arcs:List ArcT}{W:WL}{L:LL3}(h:∀a∈arcs,better (lk W) (arc3 a)=none):Zbj arcs W L=(W,L,none):=by
 have:∀(l:List ArcT),(∀a∈l,a∈arcs)->l.foldl stepS (W,L,none)=(W,L,none):=by
  intro l
  induction l with
  | nil=>intro _;rfl
  | cons a l ih=>
   intro hl
   rw[uH]
   rcases Zdu (W,L,none) a with ⟨_,h2⟩|⟨d,h1,_⟩
   ·rw[h2];exact ih λb hb=>hl b (zU _ hb)
   ·have:=h a (hl a (zT ..))
    rw[h1]at this;cases this
 exact this arcs λa ha=>ha
theorem Zrx{arcs:List ArcT}{vs:List (List Int)}{z:List Int}(calm:Calm (arcs.map arc3))(hv:∀a∈arcs,a.2.1∈vs)(hz:z∈vs):∀(m i:Nat) (S:S3),i+m=vs.length->1≤m ->
  Sound (arcs.map arc3) z (lk S.1)->Beats (arcs.map arc3) z (lk S.1) i->lk S.1 z≠none ->
  (runS arcs m S).2.2=none/\(∀a∈arcs,better (lk (runS arcs m S).1) (arc3 a)=none)/\Sound (arcs.map arc3) z (lk (runS arcs m S).1)/\lk (runS arcs m S).1 z≠none:=by
 intro m
 induction m with
 | zero=>intro i S _ h;omega
 | succ m ih=>
  intro i S him _ hs hb hzz
  have hv':∀a∈arcs.map arc3,a.2.1∈vs:=λa ha=>by obtain⟨b,hb,rfl⟩:=xF.mp ha;exact hv b hb
  unfold runS
  cases hf:(Zbj arcs S.1 S.2.1).2.2 with
  | none=>
   obtain⟨e,hn⟩:=Zfb hf
   rw[e]
   exact⟨rfl,hn,hs,hzz⟩
  | some b=>
   have hlk:lk (Zbj arcs S.1 S.2.1).1=pass (arcs.map arc3) (lk S.1):=Zfx arcs (S.1,S.2.1,none)
   have hm:1≤m:=by
    refine xW λhn=>?_
    have hset:=Ways.settled calm hv' hz hs hb (by omega)
    have:=Zis (arcs:=arcs) (W:=S.1) (L:=S.2.1) λa ha=>hset _ (sH ha)
    rw[this]at hf;cases hf
   have key:=ih (i+1) (Zbj arcs S.1 S.2.1) (by omega) hm (by rw[hlk];exact Sound.fold _ (λa ha=>ha) hs) (by rw[hlk];exact hb.pass) (by
    rw[hlk]
    cases hq:lk S.1 z with
    | none=>exact absurd hq hzz
    | some d=>
     obtain⟨e,he,_⟩:=Ways.fold_le (arcs.map arc3) hq
     show(arcs.map arc3).foldl relax (lk S.1) z≠none
     rw[he];simp)
   cases hS:Zbj arcs S.1 S.2.1 with
   | mk W2 R=>
    obtain⟨Lb,f2⟩:=R
    rw[hS]at hf key
    simp only at hf
    subst hf
    exact key
theorem Zmm(arcs:List (Ways.Arc (List Int)))(z:List Int):Sound arcs z (lk [(z,(0:Int))]):=by
 intro v d h
 rw[Zd8]at h
 split at h
 ·next e=>
  cases h
  subst e
  exact⟨0,.nil⟩
 ·simp[lk]at h
theorem Zml(arcs:List (Ways.Arc (List Int)))(z:List Int):Beats arcs z (lk [(z,(0:Int))]) 0:=by
 intro v W n hn hw
 have:n=0:=by omega
 subst this
 cases hw
 exact⟨0,by rw[Zd8,zI rfl],sG 0⟩
structure Tasteful(k:Nat)(rs:List Rnd)(ss:List Sea)(p:List Int->Int):Prop where
 zero:p (Zas k)=0
 nn:∀b∈Zam k rs ss,0≤p b
 sea:∀r∈ss,p r.1=r.2
 row:∀r∈rs,∀b∈Zam k rs ss,p b-dot r.1 b≤p r.2-dot r.1 r.2
structure Right(k:Nat)(rs:List Rnd)(ss:List Sea):Prop where
 none:(Zb8 k rs ss).2.2=none
 all:∀b∈Zam k rs ss,∃d,lk (Zb8 k rs ss).1 b=some d
 zero:Zbr k rs ss (Zas k)=0
 nn:∀b∈Zam k rs ss,0≤Zbr k rs ss b
 sea:∀r∈ss,Zbr k rs ss r.1=r.2
 row:∀r∈rs,∀b∈Zam k rs ss,Zbr k rs ss b-dot r.1 b≤Zbr k rs ss r.2-dot r.1 r.2
 up:∀p,Tasteful k rs ss p->∀b∈Zam k rs ss,Zbr k rs ss b≤p b
 sm:∀M:Nat,(∀e∈Zd6 (Zam k rs ss) rs ss,(Zag rs ss e).natAbs≤M)->∀b∈Zam k rs ss,(Zbr k rs ss b).natAbs≤(Zam k rs ss).length*M
theorem Zc0{told:List (List Int)}{rs:List Rnd}{ss:List Sea}{e:Stp}:e∈Zd6 told rs ss↔(∃b∈told,e=(3,0,b))\/(∃i,∃h:i<ss.length,e=(1,i,ss[i].1)\/e=(2,i,ss[i].1))\/∃i,i<rs.length/\∃b∈told,e=(0,i,b):=by
 unfold Zd6
 simp only[zX,xF,tU,zQ,zV,yN,yO]
 constructor
 ·rintro ((⟨b,hb,rfl⟩|⟨i,hi,h⟩)|⟨i,hi,b,hb,rfl⟩)
  ·exact .inl ⟨b,hb,rfl⟩
  ·rw[Zne hi]at h;exact .inr (.inl ⟨i,hi,h⟩)
  ·exact .inr (.inr ⟨i,hi,b,hb,rfl⟩)
 ·rintro (⟨b,hb,rfl⟩|⟨i,hi,h⟩|⟨i,hi,b,hb,rfl⟩)
  ·exact .inl (.inl ⟨b,hb,rfl⟩)
  ·exact .inl (.inr ⟨i,hi,by rw[Zne hi];exact h⟩)
  ·exact .inr ⟨i,hi,b,hb,rfl⟩
theorem Zjm{k:Nat}{rs:List Rnd}{ss:List Sea}{e:Stp}(he:e∈Zd6 (Zam k rs ss) rs ss):turnA (arcF k rs ss e)∈Zbe k rs ss:=by
 unfold Zbe arcsF
 exact sH (sH he)
theorem Zeb(k:Nat)(rs:List Rnd)(ss:List Sea):Zas k∈Zam k rs ss:=Zcd.mpr (.inl rfl)
theorem Zgj{k:Nat}{rs:List Rnd}{ss:List Sea}{e:Stp}(he:e∈Zd6 (Zam k rs ss) rs ss):(Zbp k rs e).1∈Zam k rs ss/\(Zbp k rs e).2∈Zam k rs ss:=by
 have hz:=Zeb k rs ss
 rcases Zc0.mp he with ⟨b,hb,rfl⟩|⟨i,hi,h⟩|⟨i,hi,b,hb,rfl⟩
 ·exact⟨hb,hz⟩
 ·have hs:ss[i].1∈Zam k rs ss:=Zcd.mpr (.inr (.inr ⟨ss[i],yT hi,rfl⟩))
  rcases h with rfl|rfl
  ·exact⟨hz,hs⟩
  ·exact⟨hs,hz⟩
 ·simp only[Zbp,gEq hi]
  exact⟨Zcd.mpr (.inr (.inl ⟨rs[i],yT hi,rfl⟩)),hb⟩
theorem Zs9{arcs:List (Ways.Arc (List Int))}(p:List Int->Int)(h:∀a∈arcs,p a.2.1≤p a.1+a.2.2){u v:List Int}{W:Int}{n:Nat}(hw:Walk arcs u v W n):p v≤p u+W:=by
 induction hw with
 | nil=>omega
 | snoc h' ha ih=>have:=h _ ha;dsimp only at this;omega
theorem Zs8{arcs:List (Ways.Arc (List Int))}{M:Nat}(h:∀a∈arcs,a.2.2.natAbs≤M){u v:List Int}{W:Int}{n:Nat}(hw:Walk arcs u v W n):W.natAbs≤n*M:=by
 induction hw with
 | nil=>simp
 | snoc h' ha ih=>have:=h _ ha;dsimp only at this;rw[add_mul,one_mul];omega
theorem Zja{k:Nat}{rs:List Rnd}{ss:List Sea}(hH:Hist k rs ss){p:List Int->Int}(hp:Tasteful k rs ss p):Right k rs ss:=by
 have arc_of:∀a∈Zbe k rs ss,∃e∈Zd6 (Zam k rs ss) rs ss,a=((Zbp k rs e).2,(Zbp k rs e).1,Zag rs ss e,e):=by
  intro a ha
  unfold Zbe arcsF at ha
  obtain⟨b,hb,rfl⟩:=xF.mp ha
  obtain⟨e,he,rfl⟩:=xF.mp hb
  exact⟨e,he,rfl⟩
 have pot:∀p,Tasteful k rs ss p->∀a∈(Zbe k rs ss).map arc3,-p a.2.1≤-p a.1+a.2.2:=by
  intro p hp a ha
  obtain⟨c,hc,rfl⟩:=xF.mp ha
  obtain⟨e,he,rfl⟩:=arc_of c hc
  rcases Zc0.mp he with ⟨b,hb,rfl⟩|⟨i,hi,h⟩|⟨i,hi,b,hb,rfl⟩
  ·show -p b≤-p (Zas k)+0
   have:=hp.nn b hb
   rw[hp.zero];omega
  ·have h1:=hp.sea ss[i] (yT hi)
   rcases h with rfl|rfl
   ·show -p (Zas k)≤-p ss[i].1+Zag rs ss (1,i,ss[i].1)
    have:Zag rs ss (1,i,ss[i].1)=ss[i].2:=by simp[Zag,gEq hi]
    rw[this,hp.zero];omega
   ·show -p ss[i].1≤-p (Zas k)+Zag rs ss (2,i,ss[i].1)
    have:Zag rs ss (2,i,ss[i].1) = -ss[i].2:=by simp[Zag,gEq hi]
    rw[this,hp.zero];omega
  ·have h1:=hp.row rs[i] (yT hi) b hb
   have e1:(Zbp k rs (0,i,b))=(rs[i].2,b):=by simp[Zbp,gEq hi]
   have e2:Zag rs ss (0,i,b)=dot rs[i].1 b-dot rs[i].1 rs[i].2:=by simp[Zag,gEq hi]
   show -p (Zbp k rs (0,i,b)).1≤-p (Zbp k rs (0,i,b)).2+Zag rs ss (0,i,b)
   rw[e1,e2]
   show -p rs[i].2≤-p b+(dot rs[i].1 b-dot rs[i].1 rs[i].2)
   omega
 have calm:Calm ((Zbe k rs ss).map arc3):=Ways.calm_of (λb=>-p b) (pot p hp)
 have hpos:1≤(Zam k rs ss).length:=by rw[Zdw];simp
 obtain⟨r1,r2,r3,r4⟩:=Zrx (vs:=Zam k rs ss) (z:=Zas k) calm (λa ha=>by
   obtain⟨e,he,rfl⟩:=arc_of a ha
   exact(Zgj he).1) (Zeb k rs ss) (Zam k rs ss).length 0 ([(Zas k,0)],[],none) (by omega) hpos (Zmm _ _) (Zml _ _) (by rw[Zd8,zI rfl];simp)
 have eF:runS (Zbe k rs ss) (Zam k rs ss).length ([(Zas k,0)],[],none)=Zb8 k rs ss:=rfl
 rw[eF]at r1 r2 r3 r4
 have r2':∀a∈(Zbe k rs ss).map arc3,better (lk (Zb8 k rs ss).1) a=none:=λa ha=>by obtain⟨b,hb,rfl⟩:=xF.mp ha;exact r2 b hb
 have hz0:lk (Zb8 k rs ss).1 (Zas k)=some 0:=by
  cases hq:lk (Zb8 k rs ss).1 (Zas k) with
  | none=>exact absurd hq r4
  | some d=>
   -- the free step of nothing itself
   obtain⟨n,hw⟩:=r3 _ _ hq
   have h1:=calm _ _ _ hw
   obtain⟨e,he,hle⟩:=Ways.walk_right r2' hw (d:=d) hq
   rw[hq]at he;cases he
   have hd0:0≤d:=h1
   -- no greater than 0: it began there
   have:d≤0:=by
    have:∀(m:Nat) (S:S3),(∃e,lk S.1 (Zas k)=some e/\e≤0)->∃e,lk (runS (Zbe k rs ss) m S).1 (Zas k)=some e/\e≤0:=by
     intro m
     induction m with
     | zero=>intro S h;exact h
     | succ m ih=>
      intro S ⟨e,he,hle⟩
      have hlk:lk (Zbj (Zbe k rs ss) S.1 S.2.1).1=pass ((Zbe k rs ss).map arc3) (lk S.1):=Zfx _ (S.1,S.2.1,none)
      obtain⟨e2,he2,hle2⟩:=Ways.fold_le ((Zbe k rs ss).map arc3) he
      have hh:∃e,lk (Zbj (Zbe k rs ss) S.1 S.2.1).1 (Zas k)=some e/\e≤0:=⟨e2,by rw[hlk];exact he2,by omega⟩
      unfold runS
      cases hS:Zbj (Zbe k rs ss) S.1 S.2.1 with
      | mk W2 R=>
       obtain⟨Lb,f2⟩:=R
       rw[hS]at hh
       cases f2 with
       | none=>exact hh
       | some b=>exact ih _ hh
    obtain⟨e,he,hle⟩:=this (Zam k rs ss).length ([(Zas k,0)],[],none) ⟨0,by rw[Zd8,zI rfl],sG 0⟩
    rw[eF,hq]at he;cases he
    exact hle
   have:d=0:=by omega
   rw[this]
 have right:∀e∈Zd6 (Zam k rs ss) rs ss,∀d,lk (Zb8 k rs ss).1 (Zbp k rs e).2=some d->∃c,lk (Zb8 k rs ss).1 (Zbp k rs e).1=some c/\c≤d+Zag rs ss e:=by
  intro e he d hd
  exact Ways.right_of r2' (a:=arc3 (turnA (arcF k rs ss e))) (sH (Zjm he)) hd
 have all:∀b∈Zam k rs ss,∃d,lk (Zb8 k rs ss).1 b=some d/\d≤0:=λb hb=>by
  obtain⟨c,hc,hle⟩:=right (3,0,b) (Zc0.mpr (.inl ⟨b,hb,rfl⟩)) 0 hz0
  exact⟨c,hc,by simpa[Zag]using hle⟩
 have om:∀b d,lk (Zb8 k rs ss).1 b=some d->Zbr k rs ss b = -d:=λb d h=>by unfold Zbr;rw[h];rfl
 refine⟨r1,λb hb=>let ⟨d,h,_⟩:=all b hb;⟨d,h⟩,by rw[om _ _ hz0];rfl,λb hb=>?_,λr hr=>?_,λr hr b hb=>?_,λp' hp' b hb=>?_,λM hM b hb=>?_⟩
 ·obtain⟨d,h,hle⟩:=all b hb
  rw[om _ _ h];omega
 ·obtain⟨i,hi,rfl⟩:=sI hr
  obtain⟨d,h,_⟩:=all ss[i].1 (Zcd.mpr (.inr (.inr ⟨ss[i],hr,rfl⟩)))
  have q1:Zbp k rs (1,i,ss[i].1)=(Zas k,ss[i].1):=by simp[Zbp]
  obtain⟨c1,h1,l1⟩:=right (1,i,ss[i].1) (Zc0.mpr (.inr (.inl ⟨i,hi,.inl rfl⟩))) d (by rw[q1];exact h)
  obtain⟨c2,h2,l2⟩:=right (2,i,ss[i].1) (Zc0.mpr (.inr (.inl ⟨i,hi,.inr rfl⟩))) 0 hz0
  have e1:Zag rs ss (1,i,ss[i].1)=ss[i].2:=by simp[Zag,gEq hi]
  have e2:Zag rs ss (2,i,ss[i].1) = -ss[i].2:=by simp[Zag,gEq hi]
  rw[e1]at l1
  rw[e2]at l2
  have h1':lk (Zb8 k rs ss).1 (Zas k)=some c1:=by rw[q1]at h1;exact h1
  rw[hz0]at h1';cases h1'
  have h2':lk (Zb8 k rs ss).1 ss[i].1=some c2:=h2
  rw[h]at h2';cases h2'
  rw[om _ _ h];omega
 ·obtain⟨i,hi,rfl⟩:=sI hr
  obtain⟨d,h,_⟩:=all b hb
  have e1:(Zbp k rs (0,i,b))=(rs[i].2,b):=by simp[Zbp,gEq hi]
  have e2:Zag rs ss (0,i,b)=dot rs[i].1 b-dot rs[i].1 rs[i].2:=by simp[Zag,gEq hi]
  obtain⟨c,hc,hle⟩:=right (0,i,b) (Zc0.mpr (.inr (.inr ⟨i,hi,b,hb,rfl⟩))) d (by rw[e1];exact h)
  rw[e1]at hc
  rw[e2]at hle
  rw[om _ _ h,om _ _ hc];omega
 ·obtain⟨d,h,_⟩:=all b hb
  obtain⟨n,hw⟩:=r3 _ _ h
  have:=Zs9 (λb=>-p' b) (pot p' hp') hw
  have h0:=hp'.zero
  rw[om _ _ h]
  omega
 ·obtain⟨d,h,_⟩:=all b hb
  obtain⟨n,hw⟩:=r3 _ _ h
  obtain⟨W',m,g1,g2,g3⟩:=Ways.reduce calm (vs:=Zam k rs ss) (λa ha=>by
   obtain⟨c,hc,rfl⟩:=xF.mp ha
   obtain⟨e,he,rfl⟩:=arc_of c hc
   exact(Zgj he).1) (Zeb k rs ss) n hw
  obtain⟨e,he,hle⟩:=Ways.walk_right r2' g3 hz0
  rw[h]at he;cases he
  have h1:=Zs8 (M:=M) (λa ha=>by
   obtain⟨c,hc,rfl⟩:=xF.mp ha
   obtain⟨e,he,rfl⟩:=arc_of c hc
   exact hM e he) g3
  have h2:m*M≤(Zam k rs ss).length*M:=xZ _ (by omega)
  rw[om _ _ h]
  omega
end Mine
namespace Ways
variable {α:Type} [DecidableEq α]
structure G(α:Type) where
 w:St α
 last:α->Option (Arc α)
 t:α->Nat
 r:α->Nat
 clock:Nat
def G.relax(p:Nat)(g:G α)(a:Arc α):G α:=match better g.w a with
 | none=>g
 | some d=>⟨put g.w a.2.1 d,λx=>if x=a.2.1 then some a else g.last x,λx=>if x=a.2.1 then g.clock+1 else g.t x,λx=>if x=a.2.1 then p else g.r x,g.clock+1⟩
structure Ok(arcs:List (Arc α))(p:Nat)(g:G α):Prop where
 tm:∀v,g.t v≤g.clock
 rp:∀v,g.r v≤p
 has:∀v,g.last v=none->g.r v=0
 arc:∀v a,g.last v=some a->a.2.1=v/\a∈arcs/\g.r v≤g.r a.1+1/\∃du dv,g.w a.1=some du/\g.w v=some dv/\du+a.2.2≤dv/\(g.t v≤g.t a.1->du+a.2.2<dv)
theorem Ok.relax{arcs:List (Arc α)}{p:Nat}{g:G α}(h:Ok arcs p g){a:Arc α}(ha:a∈arcs)(hr:better g.w a≠none->p≤g.r a.1+1):Ok arcs p (g.relax p a):=by
 unfold G.relax
 cases hb:better g.w a with
 | none=>exact h
 | some d=>
  obtain⟨du,h1,h2,h3⟩:=better_some hb
  have hr':=hr (by rw[hb];simp)
  refine⟨λv=>?_,λv=>?_,λv hv=>?_,λv b hv=>?_⟩
  ·dsimp only;split
   ·exact wR _
   ·exact Nat.le_succ_of_le (h.tm v)
  ·dsimp only;split
   ·exact wR _
   ·exact h.rp v
  ·dsimp only at hv |-
   split at hv
   ·cases hv
   ·rename_i hne;rw[zJ hne];exact h.has v hv
  ·dsimp only at hv |-
   split at hv
   ·rename_i heq
    cases hv
    subst heq
    refine⟨rfl,ha,?_,?_⟩
    ·rw[zI rfl]
     split
     ·exact uY _
     ·exact hr'
    ·by_cases hu:a.1=a.2.1
     ·have e:=h3 du (by rw[<- hu];exact h1)
      refine⟨d,d,by rw[hu];exact put_same ..,put_same ..,by omega,λ_=>by omega⟩
     ·refine⟨du,d,by rw[put_ne _ _ hu];exact h1,put_same ..,by omega,λht=>?_⟩
      rw[zI rfl,zJ hu]at ht
      have:=h.tm a.1
      omega
   ·rename_i hne
    obtain⟨g1,g2,g3,du',dv',g4,g5,g6,g7⟩:=h.arc v b hv
    refine⟨g1,g2,?_,?_⟩
    ·rw[zJ hne]
     split
     ·have:=h.rp v;omega
     ·exact g3
    ·by_cases hy:b.1=a.2.1
     ·have e:=h3 du' (by rw[<- hy];exact g4)
      exact⟨d,dv',by rw[hy];exact put_same ..,by rw[put_ne _ _ hne];exact g5,by omega,λ_=>by omega⟩
     ·refine⟨du',dv',by rw[put_ne _ _ hy];exact g4,by rw[put_ne _ _ hne];exact g5,g6,λht=>g7 ?_⟩
      rwa [zJ hne,zJ hy]at ht
structure Mid(arcs:List (Arc α))(p:Nat)(done todo:List (Arc α))(g:G α):Prop where
 ok:Ok arcs p g
 dn:∀a∈done,better g.w a=none\/p≤g.r a.1
 td:∀a∈todo,better g.w a=none\/p≤g.r a.1+1
theorem Zff{w:St α}{a b:Arc α}{d:Int}(hb:better w a=some d)(h:better w b=none)(hs:b.1≠a.2.1):better (put w a.2.1 d) b=none:=by
 obtain⟨du,h1,h2,h3⟩:=better_some hb
 cases hw:w b.1 with
 | none=>unfold better;rw[put_ne _ _ hs,hw]
 | some x=>
  obtain⟨e,e1,e2⟩:=better_none h hw
  unfold better
  rw[put_ne _ _ hs,hw]
  dsimp only
  by_cases hy:b.2.1=a.2.1
  ·rw[hy,put_same]
   dsimp only
   rw[zJ]
   have:=h3 e (by rw[<- hy];exact e1)
   omega
  ·rw[put_ne _ _ hy,e1]
   dsimp only
   rw[zJ]
   omega
theorem Mid.step{arcs done todo:List (Arc α)}{p:Nat}{g:G α}{a:Arc α}(h:Mid arcs p done (a::todo) g)(ha:a∈arcs):Mid arcs p (done++[a]) todo (g.relax p a):=by
 have hr:better g.w a≠none->p≤g.r a.1+1:=λhn=>by
  rcases h.td a (zT ..) with z|z
  ·exact absurd z hn
  ·exact z
 refine⟨h.ok.relax ha hr,?_,?_⟩
 ·intro b hb
  unfold G.relax
  cases hc:better g.w a with
  | none=>
   rcases zX.mp hb with z|z
   ·exact h.dn b z
   ·rw[xD.mp z];exact .inl hc
  | some d=>
   dsimp only
   by_cases hs:b.1=a.2.1
   ·exact .inr (by rw[zI hs];exact wR _)
   ·rw[zJ hs]
    rcases zX.mp hb with z|z
    ·rcases h.dn b z with y|y
     ·exact .inl (Zff hc y hs)
     ·exact .inr y
    ·rw[xD.mp z]at hs |-
     obtain⟨du,h1,h2,h3⟩:=better_some hc
     refine .inl ?_
     unfold better
     rw[put_ne _ _ hs,h1]
     dsimp only
     rw[put_same]
     dsimp only
     rw[zJ]
     omega
 ·intro b hb
  have hb':=h.td b (zU _ hb)
  unfold G.relax
  cases hc:better g.w a with
  | none=>exact hb'
  | some d=>
   dsimp only
   by_cases hs:b.1=a.2.1
   ·exact .inr (by rw[zI hs];exact uY _)
   ·rw[zJ hs]
    rcases hb' with y|y
    ·exact .inl (Zff hc y hs)
    ·exact .inr y
theorem Mid.next{arcs done:List (Arc α)}{p:Nat}{g:G α}(h:Mid arcs p done [] g)(hall:∀a∈arcs,a∈done):Mid arcs (p+1) [] arcs g:=
 ⟨⟨h.ok.tm,λv=>Nat.le_succ_of_le (h.ok.rp v),h.ok.has,h.ok.arc⟩,λa ha=>(nomatch ha),λa ha=>by
  rcases h.dn a (hall a ha) with z|z
  ·exact .inl z
  ·exact .inr (Nat.succ_le_succ z)⟩
theorem Mid.zero{arcs:List (Arc α)}{s:α}:Mid arcs 1 [] arcs (⟨put (λ_=>none) s 0,λ_=>none,λ_=>0,λ_=>0,0⟩:G α):=
 ⟨⟨λv=>wR _,λv=>yE _,λv _=>rfl,λv a h=>(nomatch h)⟩,λa ha=>(nomatch ha),λa _=>.inr (wR _)⟩
inductive Back(g:G α)(v:α):α->Int->Nat->Prop
 | nil:Back g v v 0 0
 | snoc {u:α}{B:Int}{n:Nat}{a:Arc α} (h:Back g v u B n) (ha:g.last u=some a):Back g v a.1 (B+a.2.2) (n+1)
theorem Back.weight{arcs:List (Arc α)}{p:Nat}{g:G α}(ok:Ok arcs p g){v u:α}{B:Int}{n:Nat}(h:Back g v u B n){dv:Int}(hd:g.w v=some dv):∃du,g.w u=some du/\(du+B<dv\/(du+B≤dv/\g.t u+n≤g.t v)):=by
 induction h with
 | nil=>exact⟨dv,hd,.inr ⟨by omega,wR _⟩⟩
 | snoc h ha ih=>
  obtain⟨du,h1,h2⟩:=ih
  obtain⟨g1,g2,g3,d1,d2,g4,g5,g6,g7⟩:=ok.arc _ _ ha
  rw[h1]at g5;cases g5
  refine⟨d1,g4,?_⟩
  rcases h2 with z|⟨z1,z2⟩
  ·exact .inl (by omega)
  ·rename_i u' B' n' a'
   by_cases ht:g.t u'≤g.t a'.1
   ·exact .inl (by have:=g7 ht;omega)
   ·exact .inr ⟨by omega,by omega⟩
theorem Back.ring{arcs:List (Arc α)}{p:Nat}{g:G α}(ok:Ok arcs p g){v:α}{B:Int}{n:Nat}(h:Back g v v B n)(hn:0<n):B<0:=by
 have hv:∃dv,g.w v=some dv:=by
  cases h with
  | nil=>omega
  | snoc h ha=>
   obtain⟨_,_,_,d1,d2,g4,_⟩:=ok.arc _ _ ha
   exact⟨d1,g4⟩
 obtain⟨dv,hd⟩:=hv
 obtain⟨du,h1,h2⟩:=h.weight ok hd
 rw[hd]at h1;cases h1
 rcases h2 with z|⟨_,z⟩<;>omega
theorem Back.turn{arcs:List (Arc α)}{p:Nat}{g:G α}(ok:Ok arcs p g){v u:α}{B:Int}{n:Nat}(h:Back g v u B n):g.r v≤g.r u+n:=by
 induction h with
 | nil=>exact wR _
 | snoc h ha ih=>
  have:=(ok.arc _ _ ha).2.2.1
  omega
end Ways
namespace Ways
variable {α:Type} [DecidableEq α]
def G.nx(g:G α)(v:α):α:=match g.last v with
 | some a=>a.1
 | none=>v
def G.at(g:G α)(v:α):Nat->α
 | 0=>v
 | k+1=>g.nx (g.at v k)
theorem Zmp(g:G α)(v:α)(k:Nat):∀n,g.at (g.at v k) n=g.at v (k+n)
 | 0=>rfl
 | n+1=>by show g.nx (g.at (g.at v k) n)=g.nx (g.at v (k+n));rw[Zmp g v k n]
theorem Zkh{g:G α}{v:α}{i j:Nat}(h:g.at v i=g.at v j)(n:Nat):g.at v (i+n)=g.at v (j+n):=by rw[<- Zmp,<- Zmp,h]
theorem repeats(y:Nat->α){n:Nat}{vs:List α}(hv:∀k<n,y k∈vs)(hn:vs.length<n):∃i j,i<j/\j<n/\y i=y j:=by
 by_cases h:∃i j,i<j/\j<n/\y i=y j
 ·exact h
 ·exfalso
  have nd:((List.range n).map y).Nodup:=by
   unfold List.Nodup
   rw[List.pairwise_map]
   refine List.Pairwise.imp_of_mem ?_ List.pairwise_lt_range
   intro i j hi hj hij e
   exact h ⟨i,j,hij,zQ.mp hj,e⟩
  have:=nodup_len _ vs nd λx hx=>by obtain⟨k,hk,rfl⟩:=xF.mp hx;exact hv k (zQ.mp hk)
  rw[lmp,tS]at this
  omega
theorem back_ever{arcs:List (Arc α)}{p:Nat}{g:G α}(ok:Ok arcs p g){vs:List α}(hs:∀a∈arcs,a.1∈vs){v:α}(hv:v∈vs)(hr:vs.length≤g.r v):∀k,g.last (g.at v k)≠none:=by
 have early:∀k,k≤vs.length->vs.length≤g.r (g.at v k)+k/\g.at v k∈vs:=by
  intro k
  induction k with
  | zero=>intro _;exact⟨hr,hv⟩
  | succ k ih=>
   intro hk
   obtain⟨h1,h2⟩:=ih (by omega)
   cases hl:g.last (g.at v k) with
   | none=>have:=ok.has _ hl;omega
   | some a=>
    obtain⟨g1,g2,g3,_⟩:=ok.arc _ _ hl
    have e:g.at v (k+1)=a.1:=by show g.nx (g.at v k)=a.1;unfold G.nx;rw[hl]
    rw[e]
    exact⟨by omega,hs a g2⟩
 obtain⟨i,j,hij,hj,e⟩:=repeats (g.at v) (n:=vs.length+1) (vs:=vs) (λk hk=>(early k (by omega)).2) (by omega)
 intro k
 induction k using Nat.strongRecOn with
 | ind k ih=>
  by_cases hk:k<vs.length
  ·intro hl
   have h1:=(early k (by omega)).1
   have:=ok.has _ hl
   omega
  ·have e2:=Zkh e (k-j)
   have e3:g.at v k=g.at v (i+(k-j)):=by rw[e2];congr 1;omega
   rw[e3]
   exact ih _ (by omega)
theorem in_ring{g:G α}{v:α}(ever:∀k,g.last (g.at v k)≠none){keys:List α}(hk:∀x,g.last x≠none->x∈keys):∃c,1≤c/\c≤keys.length/\g.at (g.at v keys.length) c=g.at v keys.length:=by
 obtain⟨i,j,hij,hj,e⟩:=repeats (g.at v) (n:=keys.length+1) (vs:=keys) (λk _=>hk _ (ever k)) (by omega)
 refine⟨j-i,by omega,by omega,?_⟩
 rw[Zmp]
 have:=Zkh e (keys.length-i)
 have h1:i+(keys.length-i)=keys.length:=by omega
 have h2:j+(keys.length-i)=keys.length+(j-i):=by omega
 rw[h1,h2]at this
 exact this.symm
theorem first_return{g:G α}{v:α}{c:Nat}(hc:1≤c)(h:g.at v c=v):∃d,1≤d/\d≤c/\g.at v d=v/\∀k,1≤k->k<d->g.at v k≠v:=by
 induction c using Nat.strongRecOn with
 | ind c ih=>
  by_cases hx:∃k,1≤k/\k<c/\g.at v k=v
  ·obtain⟨k,h1,h2,h3⟩:=hx
   obtain⟨d,d1,d2,d3,d4⟩:=ih k h2 h1 h3
   exact⟨d,d1,by omega,d3,d4⟩
  ·exact⟨c,hc,wR _,h,λk h1 h2 h3=>hx ⟨k,h1,h2,h3⟩⟩
end Ways
namespace Mine
open PySem PySem.Spec PyProof.Rows L2
open Ways (Walk better relax pass Sound Beats Calm)
def SimG(S:S3)(g:Ways.G (List Int)):Prop:=g.w=lk S.1/\g.last=λx=>(lk S.2.1 x).map arc3
theorem Zu2(L:LL3)(k:List Int)(v:ArcT)(h:(L.map (·.1)).Nodup):((pt L k v).map (·.1)).Nodup:=by
 unfold pt
 split
 ·rw[xX]
  have e:((λp:List Int×ArcT=>p.1) ∘ λp=>if p.1=k then(p.1,v) else p)=λp=>p.1:=by
   funext p
   simp only[tP]
   split<;>rfl
  rw[e];exact h
 ·next hn=>
  rw[xE]
  refine nodup_append.mpr ⟨h,by simp,λx hx y hy e=>?_⟩
  obtain⟨p,hp,rfl⟩:=xF.mp hx
  have:y=k:=by simpa using hy
  subst this
  exact hn (tQ.mpr ⟨p,hp,by simpa using e⟩)
structure InvP(arcs:List ArcT)(p:Nat)(done todo:List ArcT)(S:S3)(g:Ways.G (List Int)):Prop where
 sim:SimG S g
 mid:Ways.Mid (arcs.map arc3) p (done.map arc3) (todo.map arc3) g
 mem:∀x a,lk S.2.1 x=some a->a∈arcs
 nd:(S.2.1.map (·.1)).Nodup
 fo:∀b,S.2.2=some b->g.r b=p
theorem InvP.step{arcs done todo:List ArcT}{p:Nat}{S:S3}{g:Ways.G (List Int)}{a:ArcT}(h:InvP arcs p done (a::todo) S g)(ha:a∈arcs):∃g',InvP arcs p (done++[a]) todo (stepS S a) g':=by
 have hm:=Ways.Mid.step (a:=arc3 a) (todo:=todo.map arc3) (by simpa using h.mid) (sH ha)
 have em:done.map arc3++[arc3 a]=(done++[a]).map arc3:=by rw[xE];rfl
 rw[em]at hm
 refine⟨g.relax p (arc3 a),?_⟩
 rcases Zdu S a with ⟨h1,h2⟩|⟨d,h1,h2⟩
 ·have e:g.relax p (arc3 a)=g:=by unfold Ways.G.relax;rw[h.sim.1,h1]
  rw[e]at hm |-
  rw[h2]
  exact⟨h.sim,hm,h.mem,h.nd,h.fo⟩
 ·have e:g.relax p (arc3 a)=⟨Ways.put g.w a.2.1 d,λx=>if x=a.2.1 then some (arc3 a) else g.last x,λx=>if x=a.2.1 then g.clock+1 else g.t x,λx=>if x=a.2.1 then p else g.r x,g.clock+1⟩:=by unfold Ways.G.relax;rw[h.sim.1,h1];rfl
  refine⟨?_,hm,?_,?_,?_⟩
  ·rw[e,h2]
   refine⟨?_,?_⟩
   ·rw[h.sim.1,Zsm]
   ·funext x
    show(if x=a.2.1 then some (arc3 a) else g.last x)=(lk (pt S.2.1 a.2.1 a) x).map arc3
    rw[Zr8,h.sim.2]
    split<;>rfl
  ·rw[h2]
   intro x b hb
   have hb':lk (pt S.2.1 a.2.1 a) x=some b:=hb
   rw[Zr8]at hb'
   split at hb'
   ·cases hb';exact ha
   ·exact h.mem x b hb'
  ·rw[h2];exact Zu2 _ _ _ h.nd
  ·rw[h2,e]
   intro b hb
   have:a.2.1=b:=zK hb
   subst this
   show(if a.2.1=a.2.1 then p else _)=p
   rw[zI rfl]
theorem InvP.fold{arcs:List ArcT}{p:Nat}:∀(todo done:List ArcT) (S:S3) (g:Ways.G (List Int)),(∀a∈todo,a∈arcs)->InvP arcs p done todo S g->∃g',InvP arcs p (done++todo) [] (todo.foldl stepS S) g'
 | [],done,S,g,_,h=>⟨g,by simpa using h⟩
 | a::todo,done,S,g,ha,h=>by
  obtain⟨g1,h1⟩:=h.step (ha a (zT ..))
  obtain⟨g2,h2⟩:=InvP.fold todo (done++[a]) (stepS S a) g1 (λb hb=>ha b (zU _ hb)) h1
  exact⟨g2,by simpa using h2⟩
structure Goal3(arcs:List ArcT)(p:Nat)(b:List Int)(S:S3)(g:Ways.G (List Int)):Prop where
 sim:SimG S g
 ok:Ways.Ok (arcs.map arc3) p g
 mem:∀x a,lk S.2.1 x=some a->a∈arcs
 nd:(S.2.1.map (·.1)).Nodup
 r:g.r b=p
theorem Zry{arcs:List ArcT}{b:List Int}:∀(m p:Nat) (S:S3) (g:Ways.G (List Int)),InvP arcs p [] arcs (S.1,S.2.1,none) g->(runS arcs (m+1) S).2.2=some b->∃g',Goal3 arcs (p+m) b (runS arcs (m+1) S) g':=by
 intro m
 induction m with
 | zero=>
  intro p S g h hb
  obtain⟨g1,h1⟩:=InvP.fold arcs [] _ g (λa ha=>ha) h
  have e0:arcs.foldl stepS (S.1,S.2.1,none)=Zbj arcs S.1 S.2.1:=rfl
  rw[e0]at h1
  unfold runS at hb |-
  cases hS:Zbj arcs S.1 S.2.1 with
  | mk W R=>
   obtain⟨L,f⟩:=R
   rw[hS]at h1 hb
   cases f with
   | none=>cases hb
   | some c=>
    have:c=b:=zK hb
    subst this
    exact⟨g1,h1.sim,h1.mid.ok,h1.mem,h1.nd,h1.fo c rfl⟩
 | succ m ih=>
  intro p S g h hb
  obtain⟨g1,h1⟩:=InvP.fold arcs [] _ g (λa ha=>ha) h
  have e0:arcs.foldl stepS (S.1,S.2.1,none)=Zbj arcs S.1 S.2.1:=rfl
  rw[e0]at h1
  have er:runS arcs (m+1+1) S=match Zbj arcs S.1 S.2.1 with
   | (W,L,none)=>(W,L,none)
   | (W,L,some b)=>runS arcs (m+1) (W,L,some b):=by rw[runS]<;>rfl
  rw[er]at hb |-
  cases hS:Zbj arcs S.1 S.2.1 with
  | mk W R=>
   obtain⟨L,f⟩:=R
   rw[hS]at h1 hb
   cases f with
   | none=>cases hb
   | some c=>
    have hn:InvP arcs (p+1) [] arcs (W,L,none) g1:=⟨h1.sim,by
     have:=Ways.Mid.next (done:=arcs.map arc3) (by simpa using h1.mid) (λa ha=>ha)
     simpa using this,h1.mem,h1.nd,λ_ hh=>by cases hh⟩
    obtain⟨g2,h2⟩:=ih (p+1) (W,L,some c) g1 hn hb
    have e:p+1+m=p+(m+1):=by omega
    rw[e]at h2
    exact⟨g2,h2⟩
theorem Zqh(arcs:List ArcT)(z:List Int):InvP arcs 1 [] arcs ([(z,(0:Int))],[],none) ⟨Ways.put (λ_=>none) z 0,λ_=>none,λ_=>0,λ_=>0,0⟩:=by
 refine⟨⟨?_,?_⟩,Ways.Mid.zero,?_,by simp,λ_ h=>by cases h⟩
 ·funext x
  rw[Zd8]
  show(if x=z then some 0 else none)=if z=x then some 0 else lk [] x
  by_cases c:x=z
  ·rw[zI c,zI c.symm]
  ·rw[zJ c,zJ (λe=>c e.symm)];rfl
 ·funext x;rfl
 ·intro x a h;simp[lk]at h
structure IsRing(k:Nat)(rs:List Rnd)(ss:List Sea)(es:List Stp):Prop where
 n1:1≤es.length
 n27:es.length≤27
 mem:∀e∈es,e∈Zd6 (Zam k rs ss) rs ss
 ch:∃pts:Nat->List Int,pts es.length=pts 0/\∀i (h:i<es.length),Zbp k rs es[i]=(pts i,pts (i+1))
 neg:(es.map (Zag rs ss)).sum<0
theorem Zub{k:Nat}{rs:List Rnd}{ss:List Sea}(hH:Hist k rs ss){b:List Int}(h:(Zb8 k rs ss).2.2=some b):∃d,RingAt (Zb8 k rs ss).2.1 b d/\IsRing k rs ss (ringL (Zb8 k rs ss).2.1 (atL (Zb8 k rs ss).2.1 b (Zb8 k rs ss).2.1.length) d):=by
 have hcons:=Zdw k rs ss
 have hpos:1≤(Zam k rs ss).length:=by rw[hcons];simp
 obtain⟨n,hn⟩:∃n,(Zam k rs ss).length=n+1:=⟨(Zam k rs ss).length-1,by omega⟩
 have h27:n+1≤27:=by
  have:=Zke (k:=k) (rs:=rs) (ss:=ss)
  have:=hH.rl
  have:=hH.sl
  omega
 have eF:Zb8 k rs ss=runS (Zbe k rs ss) (n+1) ([(Zas k,0)],[],none):=by unfold Zb8;rw[hn]
 rw[eF]at h |-
 obtain⟨g,G⟩:=Zry n 1 ([(Zas k,0)],[],none) _ (Zqh _ _) h
 generalize runS (Zbe k rs ss) (n+1) ([(Zas k,0)],[],none)=S at *
 obtain⟨W,L,fo⟩:=S
 have hlast:∀x,g.last x=(lk L x).map arc3:=λx=>by rw[G.sim.2]
 have arc_of:∀a∈Zbe k rs ss,∃e∈Zd6 (Zam k rs ss) rs ss,a=((Zbp k rs e).2,(Zbp k rs e).1,Zag rs ss e,e):=by
  intro a ha
  unfold Zbe arcsF at ha
  obtain⟨b,hb,rfl⟩:=xF.mp ha
  obtain⟨e,he,rfl⟩:=xF.mp hb
  exact⟨e,he,rfl⟩
 have hs:∀a∈(Zbe k rs ss).map arc3,a.1∈Zam k rs ss:=λa ha=>by
  obtain⟨c,hc,rfl⟩:=xF.mp ha
  obtain⟨e,he,rfl⟩:=arc_of c hc
  exact(Zgj he).2
 have he:∀a∈Zbe k rs ss,a.2.1∈Zam k rs ss:=λa ha=>by
  obtain⟨e,he,rfl⟩:=arc_of a ha
  exact(Zgj he).1
 -- the arc behind a place ends there
 have hend:∀x a,lk L x=some a->a.2.1=x/\a∈Zbe k rs ss:=λx a hx=>by
  have h1:=(G.ok.arc x (arc3 a) (by rw[hlast,hx];rfl)).1
  exact⟨h1,G.mem x a hx⟩
 have hbt:b∈Zam k rs ss:=by
  cases hl:lk L b with
  | none=>
   have:=G.ok.has b (by rw[hlast,hl];rfl)
   have:=G.r
   omega
  | some a=>
   obtain⟨h1,h2⟩:=hend b a hl
   rw[<- h1];exact he a h2
 have hat:∀v j,g.at v j=atL L v j:=by
  intro v j
  induction j with
  | zero=>rfl
  | succ j ih=>
   show g.nx (g.at v j)=match lk L (atL L v j) with|some a=>a.1|none=>atL L v j
   unfold Ways.G.nx
   rw[ih,hlast]
   cases lk L (atL L v j)<;>rfl
 have ever0:=Ways.back_ever G.ok hs hbt (by rw[G.r];omega)
 have ever:∀j,∃a,lk L (atL L b j)=some a:=λj=>by
  have:=ever0 j
  rw[hat,hlast]at this
  cases hl:lk L (atL L b j) with
  | none=>rw[hl]at this;exact absurd rfl this
  | some a=>exact⟨a,rfl⟩
 have hkeyt:∀x∈L.map (·.1),x∈Zam k rs ss:=λx hx=>by
  obtain⟨p,hp,rfl⟩:=xF.mp hx
  have:(lk L p.1).isSome=true:=by rw[<- Zn3];exact tQ.mpr ⟨p,hp,by simp⟩
  obtain⟨a,ha⟩:=vD.mp this
  obtain⟨h1,h2⟩:=hend _ a ha
  rw[<- h1];exact he a h2
 have hLl:L.length≤n+1:=by
  have:=Ways.nodup_len (L.map (·.1)) (Zam k rs ss) G.nd hkeyt
  rw[lmp]at this
  omega
 have hk:∀x,g.last x≠none->x∈L.map (·.1):=λx hx=>by
  rw[hlast]at hx
  cases hl:lk L x with
  | none=>rw[hl]at hx;exact absurd rfl hx
  | some a=>
   have h1:(L.any λp=>decide (p.1=x))=true:=by rw[Zn3,hl];rfl
   obtain⟨p,hp,hpx⟩:=tQ.mp h1
   exact xF.mpr ⟨p,hp,by simpa using hpx⟩
 obtain⟨c,c1,c2,c3⟩:=Ways.in_ring ever0 hk
 obtain⟨d,d1,d2,d3,d4⟩:=Ways.first_return c1 c3
 rw[lmp]at c2 d3 d4
 rw[hat b L.length,hat]at d3
 have R:RingAt L b d:=⟨ever,λj=>by
   obtain⟨a,ha⟩:=ever j
   obtain⟨h1,h2⟩:=hend _ a ha
   have:=(hH.told _ (he a h2)).1
   rw[h1]at this
   exact Zer hH.k1 this,by omega,d1,by omega,d3,λj h1 h2=>by
   have:=d4 j h1 h2
   rw[hat b L.length,hat]at this
   exact this⟩
 refine⟨d,R,?_⟩
 show IsRing k rs ss (ringL L (atL L b L.length) d)
 generalize hf:atL L b L.length=f at *
 have everf:∀j,∃a,lk L (atL L f j)=some a:=λj=>by rw[<- hf,Zjq];exact ever _
 have hback:atL L f d=f:=by have:=R.back;rw[hf]at this;exact this
 have hl:(ringL L f d).length=d:=by simp[ringL]
 have hget:∀j (hj:j<(ringL L f d).length),∃e∈Zd6 (Zam k rs ss) rs ss,(ringL L f d)[j]=e/\lk L (atL L f j)=some ((Zbp k rs e).2,(Zbp k rs e).1,Zag rs ss e,e)/\Zbp k rs e=(atL L f j,atL L f (j+1)):=by
  intro j hj
  obtain⟨a,ha⟩:=everf j
  obtain⟨h1,h2⟩:=hend _ a ha
  obtain⟨e,he,rfl⟩:=arc_of a h2
  refine⟨e,he,?_,ha,?_⟩
  ·simp[ringL,ha]
  ·have e1:atL L f (j+1)=(Zbp k rs e).2:=by show(match lk L (atL L f j) with|some a=>a.1|none=>atL L f j)=_;rw[ha]
   rw[e1]
   exact Prod.ext h1 rfl
 refine⟨by omega,by omega,λe hm=>?_,⟨atL L f,by rw[hl];exact hback,λi hi=>?_⟩,?_⟩
 ·obtain⟨j,hj,rfl⟩:=sI hm
  obtain⟨e,he,h1,_⟩:=hget j hj
  rw[h1];exact he
 ·obtain⟨e,he,h1,h2,h3⟩:=hget i hi
  rw[h1,h3]
 ·have back:∀m,m≤d->Ways.Back g f (atL L f m) (((ringL L f d).take m).map (Zag rs ss)).sum m:=by
   intro m
   induction m with
   | zero=>intro _;exact .nil
   | succ m ih=>
    intro hm
    have hm':m<(ringL L f d).length:=by omega
    obtain⟨e,he,h1,h2,h3⟩:=hget m hm'
    have q:=Ways.Back.snoc (ih (by omega)) (a:=arc3 ((Zbp k rs e).2,(Zbp k rs e).1,Zag rs ss e,e)) (by rw[hlast,h2];rfl)
    have e1:atL L f (m+1)=(Zbp k rs e).2:=by rw[h3]
    rw[e1]
    have e2:(((ringL L f d).take (m+1)).map (Zag rs ss)).sum=(((ringL L f d).take m).map (Zag rs ss)).sum+Zag rs ss e:=by
     rw[xT,gEq hm',h1,xE,sum_append];simp
    rw[e2]
    exact q
  have q:=back d (wR d)
  rw[hback]at q
  have e3:(ringL L f d).take d=ringL L f d:=xO (by omega)
  rw[e3]at q
  exact Ways.Back.ring G.ok q (by omega)
end Mine
namespace Mine
open PySem PySem.Spec PyProof.Rows L2
open Ways (Walk better relax pass Sound Beats Calm)
def Zed(told:List (List Int))(z:List Int)(rs:List Rnd)(ss:List Sea):List ArcT:=
 (rs.flatMap λr=>told.map λb=>(r.2,b,dot r.1 b-dot r.1 r.2,(3,0,[])))++(ss.flatMap λs=>[(z,s.1,s.2,(3,0,[])),(s.1,z,0-s.2,(3,0,[]))])++told.map λb=>(b,z,0,(3,0,[]))
def edgeD(a:ArcT):PyData:=.tuple [tI a.1,tI a.2.1,.int a.2.2.1]
def runH(arcs:List ArcT):Nat->WL->Option WL
 | 0,_=>none
 | m+1,W=>match (Zbj arcs W []).2.2 with
  | none=>some W
  | some _=>runH arcs m (Zbj arcs W []).1
theorem Zm4{W:WL}{L:LL3}(arcs:List ArcT):lk (Zbj arcs W L).1=pass (arcs.map arc3) (lk W):=Zfx arcs (W,L,none)
theorem Zqd{arcs:List ArcT}{T:List (List Int)}:∀(m:Nat) (W W':WL),runH arcs m W=some W'->(∀b∈T,∃d,lk W b=some d)->(∀a∈arcs,better (lk W') (arc3 a)=none)/\∀b∈T,∃d,lk W' b=some d:=by
 intro m
 induction m with
 | zero=>intro W W' h;cases h
 | succ m ih=>
  intro W W' h hT
  unfold runH at h
  cases hf:(Zbj arcs W []).2.2 with
  | none=>
   rw[hf]at h
   cases h
   exact⟨(Zfb hf).2,hT⟩
  | some c=>
   rw[hf]at h
   refine ih _ _ h λb hb=>?_
   obtain⟨d,hd⟩:=hT b hb
   obtain⟨e,he,_⟩:=Ways.fold_le (arcs.map arc3) hd
   rw[Zm4]
   exact⟨e,he⟩
def Sound0(arcs:List (Ways.Arc (List Int)))(T:List (List Int))(w:Ways.St (List Int)):Prop:=∀v d,w v=some d->∃u∈T,∃n,Walk arcs u v d n
theorem Sound0.relax{arcs:List (Ways.Arc (List Int))}{T:List (List Int)}{w:Ways.St (List Int)}{a:Ways.Arc (List Int)}(h:Sound0 arcs T w)(ha:a∈arcs):Sound0 arcs T (Ways.relax w a):=by
 intro v d hv
 unfold Ways.relax at hv
 cases hb:better w a with
 | none=>rw[hb]at hv;exact h v d hv
 | some d'=>
  rw[hb]at hv
  simp only[Ways.put]at hv
  split at hv
  ·next e=>
   cases hv
   obtain⟨x,h1,h2,_⟩:=Ways.better_some hb
   obtain⟨u,hu,n,hw⟩:=h _ _ h1
   subst e
   rw[h2]
   exact⟨u,hu,_,.snoc hw ha⟩
  ·exact h v d hv
theorem Sound0.fold{arcs:List (Ways.Arc (List Int))}{T:List (List Int)}:∀(l:List (Ways.Arc (List Int))) {w:Ways.St (List Int)},(∀a∈l,a∈arcs)->Sound0 arcs T w->Sound0 arcs T (l.foldl Ways.relax w)
 | [],w,_,h=>h
 | a::l,w,hl,h=>Sound0.fold l (λb hb=>hl b (zU _ hb)) (h.relax (hl a (zT ..)))
theorem settled0{arcs:List (Ways.Arc (List Int))}{T:List (List Int)}(calm:Calm arcs)(hv:∀a∈arcs,a.2.1∈T){w:Ways.St (List Int)}(hS:Sound0 arcs T w){i:Nat}(hB:∀u∈T,Beats arcs u w i)(hi:T.length≤i+1):∀a∈arcs,better w a=none:=by
 intro a ha
 cases hb:better w a with
 | none=>rfl
 | some d=>
  exfalso
  obtain⟨x,h1,h2,h3⟩:=Ways.better_some hb
  obtain⟨u,hu,n,hw⟩:=hS _ _ h1
  have step:=Walk.snoc hw (v:=a.2.1) (b:=a.2.2) ha
  obtain⟨W',m,g1,g2,g3⟩:=Ways.reduce calm hv hu _ step
  obtain⟨f,f1,f2⟩:=hB u hu _ _ m (by omega) g3
  have:=h3 f f1
  omega
theorem Zqc{arcs:List ArcT}{T:List (List Int)}(calm:Calm (arcs.map arc3))(hv:∀a∈arcs.map arc3,a.2.1∈T):∀(m i:Nat) (W:WL),T.length≤i+m->1≤m->Sound0 (arcs.map arc3) T (lk W)->(∀u∈T,Beats (arcs.map arc3) u (lk W) i)->runH arcs m W≠none:=by
 intro m
 induction m with
 | zero=>intro i W _ h;omega
 | succ m ih=>
  intro i W him _ hs hb
  unfold runH
  cases hf:(Zbj arcs W []).2.2 with
  | none=>simp
  | some c=>
   simp only
   have hm:1≤m:=by
    refine xW λhn=>?_
    have hset:=settled0 calm hv hs hb (by omega)
    have:=Zis (arcs:=arcs) (W:=W) (L:=[]) λa ha=>hset _ (sH ha)
    rw[this]at hf;cases hf
   refine ih (i+1) _ (by omega) hm ?_ ?_
   ·rw[Zm4];exact Sound0.fold _ (λa ha=>ha) hs
   ·intro u hu;rw[Zm4];exact(hb u hu).pass
def Ze9(T:List (List Int)):WL:=T.foldl (λd b=>pt d b 0) []
theorem Zfr:∀(T:List (List Int)) (W:WL) (b:List Int),lk (T.foldl (λd b=>pt d b 0) W) b=if b∈T then some 0 else lk W b
 | [],W,b=>by simp
 | t::T,W,b=>by
  rw[uH,Zfr T _ b,Zr8]
  by_cases c:b∈T
  ·rw[zI c,zI (zU _ c)]
  ·rw[zJ c]
   by_cases e:b=t
   ·rw[zI e,zI (by rw[e];exact zT ..)]
   ·rw[zJ e,zJ (by simp[e,c])]
theorem Ze8{told:List (List Int)}{z:List Int}{rs:List Rnd}{ss:List Sea}{a:ArcT}:a∈Zed told z rs ss↔(∃r∈rs,∃b∈told,a=(r.2,b,dot r.1 b-dot r.1 r.2,(3,0,[])))\/(∃s∈ss,a=(z,s.1,s.2,(3,0,[]))\/a=(s.1,z,0-s.2,(3,0,[])))\/∃b∈told,a=(b,z,0,(3,0,[])):=by
 unfold Zed
 simp only[zX,xF,tU,zV,yN,yO]
 constructor
 ·rintro ((⟨r,hr,b,hb,rfl⟩|⟨s,hs,h⟩)|⟨b,hb,rfl⟩)
  ·exact .inl ⟨r,hr,b,hb,rfl⟩
  ·exact .inr (.inl ⟨s,hs,h⟩)
  ·exact .inr (.inr ⟨b,hb,rfl⟩)
 ·rintro (⟨r,hr,b,hb,rfl⟩|⟨s,hs,h⟩|⟨b,hb,rfl⟩)
  ·exact .inl (.inl ⟨r,hr,b,hb,rfl⟩)
  ·exact .inl (.inr ⟨s,hs,h⟩)
  ·exact .inr ⟨b,hb,rfl⟩
theorem Zrz{arcs:List ArcT}{z:List Int}:∀(m:Nat) (S:S3),1≤m->(runS arcs m S).2.2=none->lk S.1 z≠none->(∀a∈arcs,better (lk (runS arcs m S).1) (arc3 a)=none)/\lk (runS arcs m S).1 z≠none:=by
 intro m
 induction m with
 | zero=>intro S h;omega
 | succ m ih=>
  intro S _ hn hz
  have er:runS arcs (m+1) S=match Zbj arcs S.1 S.2.1 with
   | (W,L,none)=>(W,L,none)
   | (W,L,some b)=>runS arcs m (W,L,some b):=by rw[runS]<;>rfl
  rw[er]at hn |-
  cases hS:Zbj arcs S.1 S.2.1 with
  | mk W R=>
   obtain⟨L,f⟩:=R
   rw[hS]at hn
   cases f with
   | none=>
    obtain⟨e,h2⟩:=Zfb (arcs:=arcs) (W:=S.1) (L:=S.2.1) (by rw[hS])
    rw[hS]at e
    have eW:W=S.1:=wF Prod.fst e
    show(∀a∈arcs,better (lk W) (arc3 a)=none)/\lk W z≠none
    rw[eW]
    exact⟨h2,hz⟩
   | some c=>
    have hz':lk W z≠none:=by
     have hlk:lk (Zbj arcs S.1 S.2.1).1=pass (arcs.map arc3) (lk S.1):=Zfx _ (S.1,S.2.1,none)
     rw[hS]at hlk
     cases hq:lk S.1 z with
     | none=>exact absurd hq hz
     | some d=>
      obtain⟨e,he,_⟩:=Ways.fold_le (arcs.map arc3) hq
      have:lk W z=some e:=by rw[show lk W=pass (arcs.map arc3) (lk S.1) from hlk];exact he
      rw[this];simp
    cases m with
    | zero=>cases hn
    | succ m=>exact ih (W,L,some c) (by omega) hn hz'
theorem dichotomy{k:Nat}{rs:List Rnd}{ss:List Sea}(hH:Hist k rs ss):
  (∃W,runH (Zed (Zam k rs ss) (Zas k) rs ss) ((Zam k rs ss).length+1) (Ze9 (Zam k rs ss))=some W/\Right k rs ss) \/
  (runH (Zed (Zam k rs ss) (Zas k) rs ss) ((Zam k rs ss).length+1) (Ze9 (Zam k rs ss))=none/\∃b d,(Zb8 k rs ss).2.2=some b/\RingAt (Zb8 k rs ss).2.1 b d/\IsRing k rs ss (ringL (Zb8 k rs ss).2.1 (atL (Zb8 k rs ss).2.1 b (Zb8 k rs ss).2.1.length) d)):=by
 have hst:∀b∈Zam k rs ss,∃d,lk (Ze9 (Zam k rs ss)) b=some d:=λb hb=>⟨0,by unfold Ze9;rw[Zfr,zI hb]⟩
 have hz:=Zeb k rs ss
 have hseal:∀s∈ss,s.1∈Zam k rs ss:=λs hs=>Zcd.mpr (.inr (.inr ⟨s,hs,rfl⟩))
 have hrow:∀r∈rs,r.2∈Zam k rs ss:=λr hr=>Zcd.mpr (.inr (.inl ⟨r,hr,rfl⟩))
 cases hh:runH (Zed (Zam k rs ss) (Zas k) rs ss) ((Zam k rs ss).length+1) (Ze9 (Zam k rs ss)) with
 | some W=>
  left
  refine⟨W,rfl,?_⟩
  obtain⟨h1,h2⟩:=Zqd _ _ _ hh hst
  have key:∀a∈Zed (Zam k rs ss) (Zas k) rs ss,∀d e,lk W a.1=some d->lk W a.2.1=some e->e≤d+a.2.2.1:=λa ha d e hd he=>by
   obtain⟨f,f1,f2⟩:=Ways.better_none (h1 a ha) hd
   have:some f=some e:=by rw[<- f1,<- he];rfl
   cases this
   exact f2
  have pd:∀b d,lk W b=some d->(lk W b).getD 0=d:=λb d h=>by rw[h];rfl
  obtain⟨z0,hz0⟩:=h2 _ hz
  refine Zja hH (p:=λb=>(lk W b).getD 0-(lk W (Zas k)).getD 0) ⟨by simp,λb hb=>?_,λs hs=>?_,λr hr b hb=>?_⟩
  ·obtain⟨d,hd⟩:=h2 b hb
   have:=key _ (Ze8.mpr (.inr (.inr ⟨b,hb,rfl⟩))) d z0 hd hz0
   simp only[pd _ _ hd,pd _ _ hz0]at this |-
   omega
  ·obtain⟨d,hd⟩:=h2 s.1 (hseal s hs)
   have q1:=key _ (Ze8.mpr (.inr (.inl ⟨s,hs,.inl rfl⟩))) z0 d hz0 hd
   have q2:=key _ (Ze8.mpr (.inr (.inl ⟨s,hs,.inr rfl⟩))) d z0 hd hz0
   simp only[pd _ _ hd,pd _ _ hz0]at q1 q2 |-
   omega
  ·obtain⟨d,hd⟩:=h2 b hb
   obtain⟨e,he⟩:=h2 r.2 (hrow r hr)
   have q1:=key _ (Ze8.mpr (.inl ⟨r,hr,b,hb,rfl⟩)) e d he hd
   simp only[pd _ _ hd,pd _ _ he]at q1 |-
   omega
 | none=>
  right
  refine⟨rfl,?_⟩
  cases hf:(Zb8 k rs ss).2.2 with
  | some b=>
   obtain⟨d,h1,h2⟩:=Zub hH hf
   exact⟨b,d,rfl,h1,h2⟩
  | none=>
   exfalso
   have hpos:1≤(Zam k rs ss).length:=by rw[Zdw];simp
   obtain⟨h1,h2⟩:=Zrz (z:=Zas k) (Zam k rs ss).length ([(Zas k,0)],[],none) hpos hf (by rw[Zd8,zI rfl];simp)
   have eF:runS (Zbe k rs ss) (Zam k rs ss).length ([(Zas k,0)],[],none)=Zb8 k rs ss:=rfl
   rw[eF]at h1 h2
   cases hz0:lk (Zb8 k rs ss).1 (Zas k) with
   | none=>exact h2 hz0
   | some z0=>
   have right:∀e∈Zd6 (Zam k rs ss) rs ss,∀d,lk (Zb8 k rs ss).1 (Zbp k rs e).2=some d->∃c,lk (Zb8 k rs ss).1 (Zbp k rs e).1=some c/\c≤d+Zag rs ss e:=λe he d hd=>
    Ways.right_of (arcs:=(Zbe k rs ss).map arc3) (λa ha=>by obtain⟨b,hb,rfl⟩:=xF.mp ha;exact h1 b hb) (a:=arc3 (turnA (arcF k rs ss e))) (sH (Zjm he)) hd
   have all:∀b∈Zam k rs ss,∃d,lk (Zb8 k rs ss).1 b=some d:=λb hb=>by
    obtain⟨c,hc,_⟩:=right (3,0,b) (Zc0.mpr (.inl ⟨b,hb,rfl⟩)) z0 hz0
    exact⟨c,hc⟩
   have pd:∀b d,lk (Zb8 k rs ss).1 b=some d->(lk (Zb8 k rs ss).1 b).getD 0=d:=λb d h=>by rw[h];rfl
   have calm:Calm ((Zed (Zam k rs ss) (Zas k) rs ss).map arc3):=by
    refine Ways.calm_of (λb=>-((lk (Zb8 k rs ss).1 b).getD 0)) λa ha=>?_
    obtain⟨c,hc,rfl⟩:=xF.mp ha
    rcases Ze8.mp hc with ⟨r,hr,b,hb,rfl⟩|⟨s,hs,h⟩|⟨b,hb,rfl⟩
    ·obtain⟨i,hi,rfl⟩:=sI hr
     obtain⟨d,hd⟩:=all b hb
     have e1:(Zbp k rs (0,i,b))=(rs[i].2,b):=by simp[Zbp,gEq hi]
     have e2:Zag rs ss (0,i,b)=dot rs[i].1 b-dot rs[i].1 rs[i].2:=by simp[Zag,gEq hi]
     obtain⟨c,hc,hle⟩:=right (0,i,b) (Zc0.mpr (.inr (.inr ⟨i,hi,b,hb,rfl⟩))) d (by rw[e1];exact hd)
     rw[e1]at hc
     rw[e2]at hle
     show -((lk (Zb8 k rs ss).1 b).getD 0)≤-((lk (Zb8 k rs ss).1 rs[i].2).getD 0)+(dot rs[i].1 b-dot rs[i].1 rs[i].2)
     rw[pd _ _ hd,pd _ _ hc]
     omega
    ·obtain⟨i,hi,rfl⟩:=sI hs
     obtain⟨d,hd⟩:=all _ (hseal _ hs)
     have q1:Zbp k rs (1,i,ss[i].1)=(Zas k,ss[i].1):=by simp[Zbp]
     have q2:Zbp k rs (2,i,ss[i].1)=(ss[i].1,Zas k):=by simp[Zbp]
     have e1:Zag rs ss (1,i,ss[i].1)=ss[i].2:=by simp[Zag,gEq hi]
     have e2:Zag rs ss (2,i,ss[i].1) = -ss[i].2:=by simp[Zag,gEq hi]
     rcases h with rfl|rfl
     ·obtain⟨c,hc,hle⟩:=right (1,i,ss[i].1) (Zc0.mpr (.inr (.inl ⟨i,hi,.inl rfl⟩))) d (by rw[q1];exact hd)
      rw[q1]at hc
      rw[e1]at hle
      show -((lk (Zb8 k rs ss).1 ss[i].1).getD 0)≤-((lk (Zb8 k rs ss).1 (Zas k)).getD 0)+ss[i].2
      rw[pd _ _ hd,pd _ _ hc]
      omega
     ·obtain⟨c,hc,hle⟩:=right (2,i,ss[i].1) (Zc0.mpr (.inr (.inl ⟨i,hi,.inr rfl⟩))) z0 (by rw[q2];exact hz0)
      rw[q2]at hc
      rw[e2]at hle
      show -((lk (Zb8 k rs ss).1 (Zas k)).getD 0)≤-((lk (Zb8 k rs ss).1 ss[i].1).getD 0)+(0-ss[i].2)
      rw[pd _ _ hz0,pd _ _ hc]
      omega
    ·obtain⟨c,hc,hle⟩:=right (3,0,b) (Zc0.mpr (.inl ⟨b,hb,rfl⟩)) z0 hz0
     have hc':lk (Zb8 k rs ss).1 b=some c:=hc
     have hle':c≤z0+0:=by simpa[Zag]using hle
     show -((lk (Zb8 k rs ss).1 (Zas k)).getD 0)≤-((lk (Zb8 k rs ss).1 b).getD 0)+0
     rw[pd _ _ hz0,pd _ _ hc']
     omega
   have hv:∀a∈(Zed (Zam k rs ss) (Zas k) rs ss).map arc3,a.2.1∈Zam k rs ss:=λa ha=>by
    obtain⟨c,hc,rfl⟩:=xF.mp ha
    rcases Ze8.mp hc with ⟨r,hr,b,hb,rfl⟩|⟨s,hs,rfl|rfl⟩|⟨b,hb,rfl⟩
    ·exact hb
    ·exact hseal s hs
    ·exact hz
    ·exact hz
   refine Zqc calm hv ((Zam k rs ss).length+1) 0 _ (by omega) (by omega) ?_ ?_ hh
   ·intro v d h
    unfold Ze9 at h
    rw[Zfr]at h
    split at h
    ·next hv=>cases h;exact⟨v,hv,0,.nil⟩
    ·simp[lk]at h
   ·intro u hu v W n hn hw
    have:n=0:=by omega
    subst this
    cases hw
    exact⟨0,by unfold Ze9;rw[Zfr,zI hu],sG 0⟩
end Mine
namespace Mine
open PySem PySem.Spec PyProof.Rows L2
section
variable {P:Program}{w:World}{K:Frag}{mg:Str->Option Value}{base:Heap}
theorem Zix{α β:Type}{xs:List α}{ys:List β}(hl:ys.length=xs.length){P:α->β->Prop}(h:∀p∈xs.zip ys,P p.1 p.2):∀y∈ys,∃x∈xs,P x y:=λy hy=>by
 obtain⟨j,hj,rfl⟩:=sI hy
 exact⟨xs[j]'(by omega),yT _,h (xs[j]'(by omega),ys[j]) (yS.mpr ⟨j,by rw[xP];omega,by simp⟩)⟩
def Amt(A:List Int):Prop:=1≤A.length/\A.length≤3/\∀x∈A,1≤x/\x≤4
def Win(A b:List Int):Prop:=b.length=A.length/\∀p∈A.zip b,0≤p.2/\p.2≤p.1
theorem Win.nil:Win [] []:=⟨rfl,by simp⟩
theorem Win.cons{a x:Int}{A b:List Int}:Win (a::A) (x::b)↔(0≤x/\x≤a)/\Win A b:=by
 unfold Win
 simp only[yP,List.zip_cons_cons,zV]
 constructor
 ·rintro ⟨h1,h2⟩
  exact⟨h2 (a,x) (.inl rfl),by omega,λp hp=>h2 p (.inr hp)⟩
 ·rintro ⟨h1,h2,h3⟩
  refine⟨by omega,?_⟩
  rintro p (rfl|hp)
  ·exact h1
  ·exact h3 p hp
theorem Zod{A b:List Int}(hl:b.length=A.length){x:Int}(hx:x∈b):∃a,(a,x)∈A.zip b:=by
 obtain⟨i,hi,rfl⟩:=sI hx
 refine⟨A[i]'(by omega),?_⟩
 rw[yS]
 exact⟨i,by rw[xP];omega,by simp⟩
theorem Win.mem{A b:List Int}(h:Win A b)(hA:Amt A):∀x∈b,0≤x/\x≤4:=λx hx=>by
 obtain⟨a,ha⟩:=Zod h.1 hx
 have h1:=h.2 _ ha
 have h2:=hA.2.2 a (vC ha).1
 simp only at h1
 omega
theorem Win.sm{A b:List Int}(h:Win A b)(hA:Amt A):Sm b:=λx hx=>by
 have:=h.mem hA x hx
 have h2:x.natAbs≤4:=by omega
 exact uL h2 (by decide)
theorem Zsa{A:List Int}(hA:Amt A):Win A (Zas A.length):=by
 refine⟨by simp[Zas],λp hp=>?_⟩
 obtain⟨h1,h2⟩:=vC hp
 have h3:=hA.2.2 _ h1
 have h4:=(tR.mp h2).2
 omega
def Zfk:DSp:=pureS λvs r=>∃n,vs=[.d (.int n)]/\r=.bool true
theorem Zf8:MoS Zfk:=Zbv
theorem Zjz:∀vs w k,Zfk vs w k->vs.length=1:=Zbw (by rintro vs r ⟨n,rfl,_⟩;rfl)
theorem Zhh(T:Txt K mg):Dn P w K mg base 1 "_law_whole" sLawWhole ["_law_thing"] (spD K Zfk):=by
 refine Dn.data (k:=0) T.f_law_whole Zlh Zjz (λa cdv A outer s H E hr=>⟨_,_,IPSs.get (Za4 (Zae (Zfy (Zab Zec rfl T.z_isinstance sJ (Za0 (i_pv 0) (Za0 (Zdq (v:=.ty "int") rfl T.z_int (by decide +kernel) rfl) Za3))) (Zgl (Zr2 (Zab Zec rfl T.z_isinstance sJ (Za0 (i_pv 0) (Za0 (Zdq (v:=.ty "bool") rfl T.z_bool (by decide +kernel) rfl) Za3))))))) Zao),(Zac (Zbc (Zhb (Zbx Zhl (Za1 (Za2 0) (Za1 Zle Za6))) (Zua (Zbx Zhl (Za1 (Za2 0) (Za1 Zle Za6)))))) Zbd),λas o q h=>?_⟩)
 obtain⟨r,⟨n,rfl,rfl⟩,hq⟩:=h
 simp! only[tyN]
 exact⟨true,λ_=>rfl,⟨false,λ_=>rfl,_,OW.le.refl _,hq⟩⟩
theorem Zqp{c:Nat}{P:List Val->Prop}{R:List Val->PyData->Prop}{vs:List Val}{w:OW}{k:Val->OW->Prop}(h:urnS c P R vs w k):∃u as m,vs=.own u::as/\w=w.put u (.urn m)/\m+c≤1000000/\P as/\∀r m',R as r->m'≤m+c->∃w',w'.le (w.put u (.urn m'))/\k (.d r) w':=by
 unfold urnS at h
 split at h
 ·next u as=>
  obtain⟨m,hm,⟨h1,h2⟩,h3⟩:=h
  exact⟨u,as,m,rfl,(Znb hm).symm,h1,h2,λr m' hr hm'=>⟨_,OW.le.urn' (OW.le.refl w) hm',h3 r hr⟩⟩
 ·exact h.elim
def Pri(k:Nat)(P:List Int):Prop:=P.length=k/\∀x∈P,x.natAbs≤2 ^ 20
theorem Pri.sm{k:Nat}{P:List Int}(h:Pri k P):Sm P:=λx hx=>uL (h.2 x hx) (by decide)
def Zf1:DSp:=urnS 4 (λas=>∃k:Nat,as=[.d (.int (k:Nat))]/\k≤3) (λas r=>∃k:Nat,as=[.d (.int (k:Nat))]/\∃ps,r=tI ps/\Pri k ps)
theorem Zj9:MoS Zf1:=Zn6
theorem Zj8:∀vs w k,Zf1 vs w k->vs.length=2:=Zqo (n:=1) (by rintro vs ⟨k,rfl,_⟩;rfl)
theorem Zjw(T:Txt K mg):Dn P w K mg base 2 "_law_prices" sLawPrices ["_law_urn_here","_law_several"] (spD K Zf1):=by
 have D_law_draw:=Zg7 (P:=P) (w:=w) (base:=base) T
 refine Dn.data (k:=1) T.f_law_prices Zgx Zj8 (λa cdv A outer s H E hr=>⟨_,_,IPSs.get (Za4 (Zan (i:=2) Zgx.nd rfl (uN rfl) (Zak Zcu (Zcq (Za0 Za5 (Za0 Za5 (Za0 Za5 (Za0 Za5 Za3))))) (Zar D_law_draw Zct (hr.mono (by decide)) (Za0 (i_pv 0) (Za0 Za5 Za3))) (λ_ _=>rfl)))
  (Za8 (Zae (Zcj Zci rfl T.z_tuple (by decide +kernel) (Za0 (by refine' Zbq (Nc:=["_law_k","_law_urn_here","_law_wide"]) (cap:=[none,some 0,some 2]) rfl ?i ?k ?g ?t ?e;(case k=>kernel_rfl);(case i=>exact(Zbl rfl T.z_range (Za0 (i_pv 1) Za3)));(case g=>exact(λ_ _ _ _ _=>(Zd3 0 (by show List.Nodup (["_law_k","_law_urn_here","_law_wide"]:List Str);decide +kernel))));(case t=>exact(λ_ _ _ _ _=>Zbh));(case e=>exact(λ_ _ _ _ _=>(Zar D_law_draw Zct (hr.mono (by decide)) (Za0 (Zfo 1) (Za0 (Zfo 2) Za3)) (hg:=Zdy))))) Za3))))),(Zac (Zbb (Zal Zfq (Zet false (Za1 Zap (Za1 Zap (Za1 Zap (Za1 Zap Za6))))) (Zb4 Zch (Za1 (Za2 0) (Za1 Zap Za6)))) (Za7 2))
  (Zbc (Zbx Zf9 (Za1 (Zca false (Zdm (Za1 (Za2 1) Za6)) (Za7 0) Zcx (Zcb (Zb4 Zch (Za1 (Za2 1) (Za1 (Za2 2) Za6))))) Za6)))),λas o q h=>?_⟩)
 obtain⟨u,as,m,rfl,hw,hm,⟨n,rfl,hn⟩,hq⟩:=Zqp h
 rw[hw]
 simp! only[dComp]
 refine⟨by decide,?_⟩
 refine Zfh (by omega) (by decide) (by decide) λd h0 h3=>?_
 simp!
 have key:∃wd:Int,atI [PyData.int 3,PyData.int 12,PyData.int 100,PyData.int 1000001] d=some (.int wd)/\0<wd/\wd≤1000001:=by
  have:d=0\/d=1\/d=2\/d=3:=by omega
  rcases this with rfl|rfl|rfl|rfl
  ·exact⟨3,rfl,by decide,by decide⟩
  ·exact⟨12,rfl,by decide,by decide⟩
  ·exact⟨100,rfl,by decide,by decide⟩
  ·exact⟨1000001,rfl,by decide,by decide⟩
 obtain⟨wd,ewd,wd0,wd1⟩:=key
 refine⟨_,ewd,?_⟩
 refine⟨⟨by omega,by omega⟩,?_⟩
 unfold rngD
 refine Zk0 (List.range (n:Int).toNat) (λ(i:Nat)=>.int (0+(i:Int))) (λx:Int=>.int x) (λ_ x=>0≤x/\x<wd) 1 rfl (λ_=>trivial) (Zb7 (by rw[tS];omega)) ?_ ?_
 ·intro i hi m1 hm1 Q hQ
  simp!
  rw[tS]at hm1
  refine Zfh (by omega) wd0 (by omega) λx hx0 hx4=>?_
  simp!
  exact hQ x _ ⟨hx0,hx4⟩ (wR _)
 ·intro ys m1 hl hP hm1
  simp!
  have hl0:=hl
  rw[tS]at hl hm1
  refine hq (.tuple _) m1 ⟨n,rfl,ys,rfl,by omega,λx hx=>?_⟩ (by omega)
  obtain⟨_,_,this⟩:=Zix (P:=λ_ x=>0≤x/\x<wd) hl0 hP x hx
  omega
def Zg9:DSp:=pureS λvs r=>∃ns ms,vs=[.d (tI ns),.d (tI ms)]/\Sm ns/\Sm ms/\ns.length≤1000/\r=.int (dot ns ms)
theorem Zcv:MoS Zg9:=Zbv
theorem Zl5:∀vs w k,Zg9 vs w k->vs.length=2:=Zbw (by rintro vs r ⟨ns,ms,rfl,_⟩;rfl)
theorem Zf0(T:Txt K mg):Dn P w K mg base 1 "_law_cost" sLawCost ["_law_prices_here","_law_bundle"] (spD K Zg9):=by
 refine Dn.data (k:=0) T.f_law_cost Zmj Zl5 (λa cdv A outer s H E hr=>⟨_,_,IPSs.get (Za4 (Zae (Zab (Zi2 rfl) rfl T.z_sum boot_sum (Za0 (by refine' Zbq (Nc:=["_law_price","_law_pieces"]) (cap:=[none,none]) rfl ?i ?k ?g ?t ?e;(case k=>kernel_rfl);(case i=>exact(Zn0 true true rfl T.z_zip (Za0 (i_pv 0) (Za0 (i_pv 1) Za3))));(case g=>exact(λ_ _ _ _ _=>(Zds (K:=K) rfl (n:=2) rfl (Za9 (Zd3 0 (by show List.Nodup (["_law_price","_law_pieces"]:List Str);decide +kernel)) (Za9 (Zd3 1 (by show List.Nodup (["_law_price","_law_pieces"]:List Str);decide +kernel)) Zb9)))));(case t=>exact(λ_ _ _ _ _=>Zbh));(case e=>exact(λ_ _ _ _ _=>(Zaj Zen (Zd4 0) (Zd4 1))))) Za3))) Zao),(Zac (Zbc (Zbx Zq4 (Za1 (Zca false (Zst (Za1 (Za2 0) (Za1 (Za2 1) Za6))) (Zcw (Zad (Za7 0) (Zad (Za7 1) Zc1))) Zcx (Zcb (Zal ro_I (Za2 0) (Za2 1)))) Za6))) Zbd),λas o q h=>?_⟩)
 obtain⟨r,⟨ns,ms,rfl,h1,h2,hl,rfl⟩,hq⟩:=h
 simp! only[dComp,tI,Zni]
 refine Zcp (ns.zip ms) (λp=>.tuple [.int p.1,.int p.2]) (λp=>.int (p.1*p.2)) [] rfl trivial (Zb7 (by simp;omega)) ?_ ?_
 ·rintro ⟨x,y⟩ hx Q hQ
  simp!
  obtain⟨hx1,hx2⟩:=vC hx
  exact⟨mulS (h1 x hx1) (h2 y hx2),hQ⟩
 ·simp! only[Zhy]
  exact⟨_,OW.le.refl _,hq⟩
end
section
variable {P:Program}{w:World}{K:Frag}{mg:Str->Option Value}{base:Heap}
theorem Zlq{w:OW}{p:Addr}{x:Own}(h:w p=none):(w.put p x).del p=w:=by
 funext b;unfold OW.put OW.del
 by_cases e:b=p
 ·simp[e,h]
 ·simp[e]
abbrev Tst:=List (List Int)×Int
theorem Zhw{w:OW}{p u:Addr}{x y:Own}(h:p≠u):(w.put u x).put p y=(w.put p y).put u x:=by
 funext b;unfold OW.put
 by_cases e1:b=p
 ·have:¬b=u:=by rw[e1];exact h
  simp[e1,h]
 ·simp[e1]
def minP(b:List Int):Bool:=b.all λx=>decide (0<x)
def likedF(t:Tst)(b:List Int):Int:=((t.1.zip b).map λp=>(p.1.take p.2.toNat).sum).sum+if minP b=true then t.2 else 0
theorem Zop{xs:List PyData}{j:Int}(h:0≤j):cutD xs none (some j)=xs.take j.toNat:=by
 obtain⟨n,rfl⟩:=sK h
 unfold L2.cutD
 rw[HT.sIx_none,HT.sIx_nat]
 simp only[drop_zero,sub_zero,vO]
 rw[<- List.take_eq_take_min]
def gainF(t:Tst)(P b:List Int):Int:=likedF t b-dot P b
end
section
variable {P:Program}{w:World}{K:Frag}{mg:Str->Option Value}{base:Heap}
def Zga:DSp:=pureS λvs r=>∃k rs ss,vs=[.d (Ze0 rs),.d (Zdg ss),.d (.int (k:Nat))]/\Hist k rs ss/\r=.list ((Zam k rs ss).map tI)
theorem Zfp:MoS Zga:=Zbv
theorem Zl6:∀vs w k,Zga vs w k->vs.length=3:=Zbw (by rintro vs r ⟨k,rs,ss,rfl,_⟩;rfl)
theorem Zrt(k:Nat):repD (k:Int).toNat [PyData.int 0]=(Zas k).map .int:=by
 unfold repD Zas
 rw[vO,List.map_replicate]
 induction k with
 | zero=>rfl
 | succ k ih=>rw[uE,uF,ih,uE];rfl
theorem Zg8(T:Txt K mg):Dn P w K mg base 1 "_law_told" sLawTold ["_law_rows","_law_seals","_law_several"] (spD K Zga):=by
 refine Dn.data (k:=0) T.f_law_told Zdp Zl6 (λa cdv A outer s H E hr=>⟨_,_,IPSs.get (Za4 (Zan (i:=3) Zdp.nd rfl (uM rfl) (Zcq (Za0 (Zaj Zpu (Zb6 (Za0 Za5 Za3)) (i_pv 2)) Za3)))
  (Za4 (Zbu tV rfl (Zc6 (i_pv 0)) (Zc5 (n:=2) rfl (Za9 (Zaa (i:=4) Zdp.nd rfl (uM rfl)) (Za9 (Zaa (i:=5) Zdp.nd rfl (uM rfl)) Zb9))) (Za8 (Zba (Zau (Zgu hr.units) (i_pv 5) (i_pv 3) rfl) (Za8 (Zcm (Zda tW tX tY Zcn (i_pv 3) (Za0 (i_pv 5) Za3)))) Zao)))
  (Za4 (Zbu tV rfl (Zc6 (i_pv 1)) (Zc5 (n:=2) rfl (Za9 (Zaa (i:=5) Zdp.nd rfl (uM rfl)) (Za9 (Zaa (i:=6) Zdp.nd rfl (uM rfl)) Zb9))) (Za8 (Zba (Zau (Zgu hr.units) (i_pv 5) (i_pv 3) rfl) (Za8 (Zcm (Zda tW tX tY Zcn (i_pv 3) (Za0 (i_pv 5) Za3)))) Zao)))
  (Za8 (Zae (i_pv 3)))))),(Zac (Zbb (Zet true (Za1 (Zal Zqb (Zc2 (Za1 Zap Za6)) (Za2 2)) Za6)) (Za7 3))
  (Zac (Zde (Zdi (Za2 0)) (Zcw (Zad (Za7 4) (Zad (Za7 5) Zc1))) (Zd2 (Zbf (Zal Zlf (Za2 5) (Za2 3))) (Ze1 (Zfc (Za2 3) (Za1 (Za2 5) Za6))) Zbd))
  (Zac (Zde (Zdi (Za2 1)) (Zcw (Zad (Za7 5) (Zad (Za7 6) Zc1))) (Zd2 (Zbf (Zal Zlf (Za2 5) (Za2 3))) (Ze1 (Zfc (Za2 3) (Za1 (Za2 5) Za6))) Zbd))
  (Zbc (Zsr 3))))),λas o q h=>?_⟩)
 obtain⟨r,⟨n,rs,ss,rfl,hH,rfl⟩,hq⟩:=h
 have hrl:=hH.rl
 have hsl:=hH.sl
 have hk1:=hH.k1
 have hk3:=hH.k3
 simp! only[Ze0,Zdg,fRepT]
 refine⟨L2.sz1,⟨by simp,by omega,by omega,Zhf (by simp;omega)⟩,L2.sz1,λp hp=>?_⟩
 rw[Zrt]
 simp! only[dApp,dFrz]
 refine⟨λi s=>∃o4 o5 o6,s=⟨[some (.d (.tuple (rs.map rowD))),some (.d (.tuple (ss.map Zd0))),some (.d (.int (n:Nat))),some (.own p),o4,o5,o6],o.put p (.lst ((((rs.take i).map Prod.snd).foldl addB [Zas n]).map tI))⟩,⟨none,none,none,rfl⟩,λ_ _ _=>trivial,?_,?_⟩
 ·rintro i d s hd ⟨o4,o5,o6,rfl⟩
  obtain⟨r,hr,rfl⟩:=Zd1 hd
  have hlen:=Zep ((rs.take i).map Prod.snd) [Zas n]
  have hti:((rs.take i).map Prod.snd).length≤26:=by rw[lmp,vE];omega
  simp only[uJ]at hlen
  have et:((rs.take (i+1)).map Prod.snd).foldl addB [Zas n]=addB (((rs.take i).map Prod.snd).foldl addB [Zas n]) r.2:=by rw[xT,hr,xE,tZ];rfl
  simp! only[rowD]
  refine⟨⟨Zdh _,Zev _,Zit _,Zdn _,by rw[Zg3];decide⟩,?_⟩
  rw[Zmo]
  refine ite2 (λc=>?_) (λc=>?_)
  all_goals simp!
  ·refine⟨⟨_,rfl⟩,_,rfl,Zb7 (by rw[lmp];omega),some (.d (tI r.1)),some (.d (tI r.2)),o6,?_⟩
   have hn:r.2 ∉ ((rs.take i).map Prod.snd).foldl addB [Zas n]:=by simpa using c
   rw[et]
   unfold addB at hn |-
   rw[zJ hn,xE];rfl
  ·refine⟨some (.d (tI r.1)),some (.d (tI r.2)),o6,?_⟩
   have hn:r.2∈((rs.take i).map Prod.snd).foldl addB [Zas n]:=by simpa using c
   rw[et]
   unfold addB at hn |-
   rw[zI hn]
 rintro s ⟨o4,o5,o6,rfl⟩
 rw[lmp,yR]
 have hl1:=Zep (rs.map Prod.snd) [Zas n]
 rw[lmp,uJ]at hl1
 generalize hF:(rs.map Prod.snd).foldl addB [Zas n]=F at *
 simp!
 refine⟨λi s=>∃o4 o5 o6,s=⟨[some (.d (.tuple (rs.map rowD))),some (.d (.tuple (ss.map Zd0))),some (.d (.int (n:Nat))),some (.own p),o4,o5,o6],o.put p (.lst ((((ss.take i).map Prod.fst).foldl addB F).map tI))⟩,⟨o4,o5,o6,rfl⟩,λ_ _ _=>trivial,?_,?_⟩
 ·rintro i d s hd ⟨o4,o5,o6,rfl⟩
  obtain⟨r,hr,rfl⟩:=Zd1 hd
  have hlen:=Zep ((ss.take i).map Prod.fst) F
  have hti:((ss.take i).map Prod.fst).length≤26:=by rw[lmp,vE];omega
  have et:((ss.take (i+1)).map Prod.fst).foldl addB F=addB (((ss.take i).map Prod.fst).foldl addB F) r.1:=by rw[xT,hr,xE,tZ];rfl
  simp! only[Zd0]
  refine⟨⟨Zdh _,Zev _,Zit _,Zdn _,by rw[Zg3];decide⟩,?_⟩
  rw[Zmo]
  refine ite2 (λc=>?_) (λc=>?_)
  all_goals simp!
  ·refine⟨⟨_,rfl⟩,_,rfl,Zb7 (by rw[lmp];omega),o4,some (.d (tI r.1)),some (.d (.int r.2)),?_⟩
   have hn:r.1 ∉ ((ss.take i).map Prod.fst).foldl addB F:=by simpa using c
   rw[et]
   unfold addB at hn |-
   rw[zJ hn,xE];rfl
  ·refine⟨o4,some (.d (tI r.1)),some (.d (.int r.2)),?_⟩
   have hn:r.1∈((ss.take i).map Prod.fst).foldl addB F:=by simpa using c
   rw[et]
   unfold addB at hn |-
   rw[zI hn]
 ·rintro s ⟨o4,o5,o6,rfl⟩
  rw[lmp,yR]
  simp!
  refine⟨_,rfl,?_⟩
  rw[Zlq hp]
  have eT:Zam n rs ss=(ss.map Prod.fst).foldl addB F:=by unfold Zam;rw[tZ];show _=_;rw[<- hF];rfl
  rw[eT]at hq
  exact⟨_,OW.le.refl _,hq⟩
end
section
variable {P:Program}{w:World}{K:Frag}{mg:Str->Option Value}{base:Heap}
structure Meant(A:List Int)(t:Tst)(rs:List Rnd)(ss:List Sea):Prop where
 row:∀r∈rs,Pri A.length r.1/\Win A r.2/\∀c,Win A c->gainF t r.1 c≤gainF t r.1 r.2
 sea:∀r∈ss,Win A r.1/\r.2=likedF t r.1
end
section
variable {P:Program}{w:World}{K:Frag}{mg:Str->Option Value}{base:Heap}
theorem Meant.told{A:List Int}{t:Tst}{rs:List Rnd}{ss:List Sea}(hA:Amt A)(h:Meant A t rs ss):∀b∈Zam A.length rs ss,Win A b:=λb hb=>by
 rcases Zcd.mp hb with rfl|⟨r,hr,rfl⟩|⟨r,hr,rfl⟩
 ·exact Zsa hA
 ·exact(h.row r hr).2.1
 ·exact(h.sea r hr).1
theorem Meant.sub{A:List Int}{t:Tst}{rs rs':List Rnd}{ss ss':List Sea}(h:Meant A t rs ss)(h1:∀r∈rs',r∈rs)(h2:∀r∈ss',r∈ss):Meant A t rs' ss':=⟨λr hr=>h.row r (h1 r hr),λr hr=>h.sea r (h2 r hr)⟩
structure Fine(k:Nat)(rs:List Rnd)(ss:List Sea):Prop where
 h:Hist k rs ss
 r:Right k rs ss
 up:∀b∈Zam k rs ss,Zbr k rs ss b≤2 ^ 90
theorem wbits{k:Nat}{rs:List Rnd}{ss:List Sea}(F:Fine k rs ss):∀b∈Zam k rs ss,(Zbr k rs ss b).natAbs<2 ^ 100:=λb hb=>by
 have h1:=F.up b hb
 have h2:=F.r.nn b hb
 exact uL (show(Zbr k rs ss b).natAbs≤2 ^ 90 by omega) (by decide)
def pairD(f:List Int->Int)(b:List Int):PyData:=.tuple [tI b,.int (f b)]
theorem Ziv(k:Nat)(rs:List Rnd)(ss:List Sea):Zg4 k rs ss=.tuple ((Zam k rs ss).map (pairD (Zbr k rs ss))):=rfl
theorem Zuj{b:List Int}(h:Sm b)(hl:b.length≤3):Rp 1 303 (tI b):=(Rp.tI h).mono (wR _) (by omega)
theorem told27{k:Nat}{rs:List Rnd}{ss:List Sea}(h:Hist k rs ss):(Zam k rs ss).length≤27:=by
 have:=Zke (k:=k) (rs:=rs) (ss:=ss)
 have:=h.rl
 have:=h.sl
 omega
theorem Zuk{k:Nat}{rs:List Rnd}{ss:List Sea}(h:Hist k rs ss):okR (.list ((Zam k rs ss).map tI)):=
 (Rp.lst (Rps.map (Zam k rs ss) λb hb=>Zuj (h.told b hb).2 (by have:=h.k3;have:=(h.told b hb).1;omega))).ok (by decide) (by have:=told27 h;omega)
theorem Zvy{k:Nat}{rs:List Rnd}{ss:List Sea}(F:Fine k rs ss):Rp 3 20000 (Zg4 k rs ss):=by
 have h1:∀b∈Zam k rs ss,Rp 2 500 (pairD (Zbr k rs ss) b):=λb hb=>Rp.tup (Rps.cons (a:=303) (b:=101) (Zuj (F.h.told b hb).2 (by have:=F.h.k3;have:=(F.h.told b hb).1;omega)) (Rps.cons (b:=0) ((Rp.int (wbits F b hb)).mono (by decide) (wR _)) Rps.nil (by decide)) (by decide))
 rw[Ziv]
 exact(Rp.tup (Rps.map _ h1)).mono (by decide) (by have:=told27 F.h;omega)
theorem Zp4(l:List (List Int)){b:List Int}(h:b∈l):∃j,(l.map tI).findIdx? (λz=>PyData.eqv z (tI b))=some j/\∃hj:j<l.length,l[j]=b:=by
 cases e:(l.map tI).findIdx? (λz=>PyData.eqv z (tI b)) with
 | none=>
  have:=List.findIdx?_eq_none_iff.mp e (tI b) (sH h)
  rw[Zia b b]at this
  simp at this
 | some j=>
  obtain⟨hj,h1,_⟩:=List.findIdx?_eq_some_iff_getElem.mp e
  refine⟨j,rfl,by rw[lmp]at hj;exact hj,?_⟩
  rw[List.getElem_map,Zia]at h1
  simpa using h1
def Zdj:DSp:=pureS λvs r=>∃k rs ss,vs=[.d (Zg4 k rs ss),.d (Ze0 rs),.d (Zdg ss),.d (.int (k:Nat))]/\Fine k rs ss/\r=.bool true
theorem Zgt:MoS Zdj:=Zbv
theorem Zgr:∀vs w k,Zdj vs w k->vs.length=4:=Zbw (by rintro vs r ⟨k,rs,ss,rfl,_⟩;rfl)
theorem Zh0(T:Txt K mg):Dn P w K mg base 2 "_law_are_worths" sLawAreWorths ["_law_row","_law_rows","_law_seals","_law_several"] (spD K Zdj):=by
 have D_law_cost:=Zf0 (P:=P) (w:=w) (base:=base) T
 have D_law_told:=Zg8 (P:=P) (w:=w) (base:=base) T
 have D_law_whole:=Zhh (P:=P) (w:=w) (base:=base) T
 refine Dn.data (k:=1) T.f_law_are_worths Zbm Zgr (λa cdv A outer s H E hr=>⟨_,_,IPSs.get (Za4 (Zan (i:=4) Zbm.nd rfl (uM rfl) (Zar D_law_told Zg6 (hr.mono (by decide)) (Za0 (i_pv 1) (Za0 (i_pv 2) (Za0 (i_pv 3) Za3)))))
  (Za4 (Zba (IPW.pt (Zf4 (Zcr (Zcy (Zab Zec rfl T.z_isinstance sJ (Za0 (i_pv 0) (Za0 (Zdq (v:=.ty "tuple") rfl T.z_tuple (by decide +kernel) rfl) Za3))))) (Zef (Zau Zmd (Zab Zb5 rfl T.z_len tM (Za0 (i_pv 0) Za3)) (Zab Zb5 rfl T.z_len tM (Za0 (i_pv 4) Za3)) (nomark _))))) (Za8 (Zae (Zce))) Zao)
  (Za4 (Zba (Zcr (Zcy (Zab (Zi1 rfl) rfl T.z_all boot_all (Za0 (by refine' Zbq (Nc:=["_law_one"]) (cap:=[none]) rfl ?i ?k ?g ?t ?e;(case k=>kernel_rfl);(case i=>exact(Zc6 (i_pv 0)));(case g=>exact(λ_ _ _ _ _=>(Zd3 0 (by show List.Nodup (["_law_one"]:List Str);decide +kernel))));(case t=>exact(λ_ _ _ _ _=>Zbh));(case e=>exact(λ_ _ _ _ _=>(Zfy (Zab (Zoh (K:=K) rfl) Zdy T.z_isinstance sJ (Za0 (Zd4 0) (Za0 (Zdq (v:=.ty "tuple") Zdy T.z_tuple (by decide +kernel) rfl) Za3))) (Zfy (Zdr Zha (Zab (Zjs (K:=K) rfl) Zdy T.z_len tM (Za0 (Zd4 0) Za3)) Za5 (nomark _)) (Zgl (Zar D_law_whole Zfe (hr.mono (by decide)) (Za0 (Zak (Zh5 (K:=K) rfl) (Zd4 0) Za5 (λ_ _=>rfl)) Za3) (hg:=Zdy)))))))) Za3)))) (Za8 (Zae (Zce))) Zao)
  (Za4 (Zba (IPW.pt (Zf4 (Zau Zmd (Zab (Zfu hr.gd hr.units) rfl T.z_repr boot_repr (Za0 (by refine' Zbq (Nc:=["_law_one","_law_worth"]) (cap:=[none,none]) rfl ?i ?k ?g ?t ?e;(case k=>kernel_rfl);(case i=>exact(Zc6 (i_pv 0)));(case g=>exact(λ_ _ _ _ _=>(Zds (K:=K) rfl (n:=2) rfl (Za9 (Zd3 0 (by show List.Nodup (["_law_one","_law_worth"]:List Str);decide +kernel)) (Za9 (Zd3 1 (by show List.Nodup (["_law_one","_law_worth"]:List Str);decide +kernel)) Zb9)))));(case t=>exact(λ_ _ _ _ _=>Zbh));(case e=>exact(λ_ _ _ _ _=>(Zd4 0)))) Za3)) (Zab (Zfu hr.gd hr.units) rfl T.z_repr boot_repr (Za0 (i_pv 4) Za3)) (nomark _)) (Zef (Zau Zmd (Zak Zbn (Zak Zbn (i_pv 0) Za5 (λ_ _=>rfl)) Za5 (λ_ _=>rfl)) Za5 (nomark _))))) (Za8 (Zae (Zce))) Zao)
  (Za4 (Zba (Zau Zlc (Zab (Zol false rfl) rfl T.z_min boot_min (Za0 (by refine' Zbq (Nc:=["_law_one","_law_worth"]) (cap:=[none,none]) rfl ?i ?k ?g ?t ?e;(case k=>kernel_rfl);(case i=>exact(Zc6 (i_pv 0)));(case g=>exact(λ_ _ _ _ _=>(Zds (K:=K) rfl (n:=2) rfl (Za9 (Zd3 0 (by show List.Nodup (["_law_one","_law_worth"]:List Str);decide +kernel)) (Za9 (Zd3 1 (by show List.Nodup (["_law_one","_law_worth"]:List Str);decide +kernel)) Zb9)))));(case t=>exact(λ_ _ _ _ _=>Zbh));(case e=>exact(λ_ _ _ _ _=>(Zd4 1)))) Za3)) Za5 (nomark _)) (Za8 (Zae (Zce))) Zao)
  (Za4 (Zbu tV rfl (Zc6 (i_pv 2)) (Zc5 (n:=2) rfl (Za9 (Zaa (i:=5) Zbm.nd rfl (uM rfl)) (Za9 (Zaa (i:=6) Zbm.nd rfl (uM rfl)) Zb9))) (Za8 (Zba (Zau Zmd (Zak Zbn (Zak Zbn (i_pv 0) (Zda tW xY PySem.F.type_list_index (Zn7 hr.units) (i_pv 4) (Za0 (i_pv 5) Za3)) (λ_ _=>rfl)) Za5 (λ_ _=>rfl)) (i_pv 6) (nomark _)) (Za8 (Zae (Zce))) Zao)))
  (Za4 (Zbu tV rfl (Zc6 (i_pv 1)) (Zc5 (n:=2) rfl (Za9 (Zaa (i:=7) Zbm.nd rfl (uN rfl)) (Za9 (Zaa (i:=5) Zbm.nd rfl (uM rfl)) Zb9))) (Za4 (Zan (i:=8) Zbm.nd rfl (uM rfl) (Zaj Zhk (Zak Zbn (Zak Zbn (i_pv 0) (Zda tW xY PySem.F.type_list_index (Zn7 hr.units) (i_pv 4) (Za0 (i_pv 5) Za3)) (λ_ _=>rfl)) Za5 (λ_ _=>rfl)) (Zar D_law_cost Zd7 (hr.mono (by decide)) (Za0 (i_pv 7) (Za0 (i_pv 5) Za3)))))
  (Za8 (Zba (Zau Ztj (Zab (Zoj false rfl) rfl T.z_max boot_max (Za0 (by refine' Zbq (Nc:=["_law_one","_law_worth","_law_prices_here"]) (cap:=[none,none,some 7]) rfl ?i ?k ?g ?t ?e;(case k=>kernel_rfl);(case i=>exact(Zc6 (i_pv 0)));(case g=>exact(λ_ _ _ _ _=>(Zds (K:=K) rfl (n:=2) rfl (Za9 (Zd3 0 (by show List.Nodup (["_law_one","_law_worth","_law_prices_here"]:List Str);decide +kernel)) (Za9 (Zd3 1 (by show List.Nodup (["_law_one","_law_worth","_law_prices_here"]:List Str);decide +kernel)) Zb9)))));(case t=>exact(λ_ _ _ _ _=>Zbh));(case e=>exact(λ_ _ _ _ _=>(Zaj Zhk (Zd4 1) (Zar D_law_cost Zd7 (hr.mono (by decide)) (Za0 (Zfo 2) (Za0 (Zd4 0) Za3)) (hg:=Zdy)))))) Za3)) (i_pv 8) (nomark _)) (Za8 (Zae (Zce))) Zao))))
  (Za8 (Zae (Zce)))))))))),(Zac (Zbb (Zb4 Zfp (Za1 (Za2 1) (Za1 (Za2 2) (Za1 (Za2 3) Za6)))) (Za7 4))
  (Zac (Zd2 (Zk9 (Zeg (rt_b (Zbx Zhl (Za1 (Za2 0) (Za1 Zle Za6))))) (Zbf (Zal Zmi (Zbx Zdt (Za1 (Za2 0) Za6)) (Zbx Zdt (Za1 (Za2 4) Za6))))) (Zbc Zes) Zbd)
  (Zac (Zd2 (Zeg (rt_b (Zbx Zq2 (Za1 (Zca false (Zdi (Za2 0)) (Za7 0) Zcx (Zcb (Zhb (Zbx Zhl (Za1 (Za2 0) (Za1 Zle Za6))) (Zhb (Zal Zhc (Zbx Zdt (Za1 (Za2 0) Za6)) Zap) (Zb4 Zf8 (Za1 (Zal Zbi (Za2 0) Zap) Za6)))))) Za6)))) (Zbc Zes) Zbd)
  (Zac (Zd2 (Zk9 (Zbf (Zal Zmi (Zbx Zk4 (Za1 (Zca false (Zdi (Za2 0)) (Zcw (Zad (Za7 0) (Zad (Za7 1) Zc1))) Zcx (Zcb (Za2 0))) Za6)) (Zbx Zk4 (Za1 (Za2 4) Za6)))) (Zbf (Zal Zmi (Zal Zbi (Zal Zbi (Za2 0) Zap) Zap) Zap))) (Zbc Zes) Zbd)
  (Zac (Zd2 (Zbf (Zal Zhs (Zbx (Zu8 false) (Za1 (Zca false (Zdi (Za2 0)) (Zcw (Zad (Za7 0) (Zad (Za7 1) Zc1))) Zcx (Zcb (Za2 1))) Za6)) Zap)) (Zbc Zes) Zbd)
  (Zac (Zde (Zdi (Za2 2)) (Zcw (Zad (Za7 5) (Zad (Za7 6) Zc1))) (Zd2 (Zbf (Zal Zmi (Zal Zbi (Zal Zbi (Za2 0) (Zss (Za2 4) (Za1 (Za2 5) Za6))) Zap) (Za2 6))) (Zbc Zes) Zbd))
  (Zac (Zde (Zdi (Za2 1)) (Zcw (Zad (Za7 7) (Zad (Za7 5) Zc1))) (Zac (Zbb (Zal Zeu (Zal Zbi (Zal Zbi (Za2 0) (Zss (Za2 4) (Za1 (Za2 5) Za6))) Zap) (Zb4 Zcv (Za1 (Za2 7) (Za1 (Za2 5) Za6)))) (Za7 8))
  (Zd2 (Zbf (Zal Zhs (Zbx (Zu6 false) (Za1 (Zca false (Zdi (Za2 0)) (Zcw (Zad (Za7 0) (Zad (Za7 1) Zc1))) Zcx (Zcb (Zal Zeu (Za2 1) (Zb4 Zcv (Za1 (Za2 2) (Za1 (Za2 0) Za6)))))) Za6)) (Za2 8))) (Zbc Zes) Zbd)))
  (Zbc Zes)))))))),λas o q h=>?_⟩)
 obtain⟨r,⟨n,rs,ss,rfl,F,rfl⟩,hq⟩:=h
 have h27:=told27 F.h
 have hne:Zam n rs ss≠[]:=by rw[Zdw];simp
 generalize hl:Zam n rs ss=l at *
 rw[Ziv,hl]
 simp! only[tyN]
 refine⟨_,⟨n,rs,ss,rfl,F.h,rfl⟩,?_⟩
 rw[hl]
 simp!
 refine⟨true,λ_=>rfl,?_⟩
 simp! only[lmp,tK,dComp]
 refine Zcp l (pairD (Zbr n rs ss)) (λ_=>.bool true) [] rfl trivial (Zb7 (by simp only[xI];omega)) ?_ ?_
 ·intro b hb Q hQ
  simp! only[pairD,tyN]
  refine⟨true,λ_=>rfl,?_⟩
  simp! only[tK]
  exact⟨_,rfl,_,⟨_,rfl,rfl⟩,hQ⟩
 rw[xN,Zkf l (λ_=>true)]
 have eall:(l.map λ_=>true).all id=true:=by simp
 simp! only[eall]
 refine Zcp l (pairD (Zbr n rs ss)) tI [] rfl trivial (Zb7 (by simp only[xI];omega)) ?_ ?_
 ·intro b hb Q hQ
  simp! only[pairD]
  exact hQ
 simp! only[tK]
 have hrp:=Zuk F.h
 rw[hl]at hrp
 refine⟨rfl,hrp,rfl,hrp,?_⟩
 have hc:l=Zas n::l.tail:=by rw[<- hl];exact Zdw n rs ss
 refine⟨pairD (Zbr n rs ss) (Zas n),?_,?_⟩
 ·rw[hc];exact Zcs (j:=0) rfl
 simp! only[pairD]
 refine⟨_,rfl,?_⟩
 rw[F.r.zero]
 simp! only[tK]
 refine Zcp l (pairD (Zbr n rs ss)) (λb=>.int (Zbr n rs ss b)) [] rfl trivial (Zb7 (by simp only[xI];omega)) ?_ ?_
 ·intro b hb Q hQ
  simp! only[pairD]
  exact hQ
 simp! only[gMin]
 rw[Zhy]
 refine⟨by simpa using hne,λmn hmn _=>?_⟩
 obtain⟨b0,hb0,rfl⟩:=xF.mp hmn
 have hnn:=F.r.nn b0 (by rw[hl];exact hb0)
 refine ite2 (λc=>?_) (λ_=>?_)
 ·have:Zbr n rs ss b0<0:=by simpa using c
  omega
 simp! only[dIdx,Zdg]
 have hix:∀b∈l,∃j,(l.map tI).findIdx? (λz=>PyData.eqv z (tI b))=some j/\atI (l.map (pairD (Zbr n rs ss))) (j:Int)=some (pairD (Zbr n rs ss) b):=λb hb=>by
  obtain⟨j,h1,hj,h2⟩:=Zp4 l hb
  exact⟨j,h1,Zcs (by rw[vH,gEq hj,h2];rfl)⟩
 have hlay:∀b:List Int,(tI b).hasDict=false/\PyData.hasDictAll (l.map tI)=false/\(tI b).canLay0=true/\PyData.canLayAll0 (l.map tI)=true/\(tI b).depth≤30:=λb=>⟨Zdh _,Zev _,Zit _,Zdn _,by rw[Zg3];decide⟩
 refine⟨λi s=>∃(o5 o6:Option Val),s=⟨[some (.d (.tuple (l.map (pairD (Zbr n rs ss))))),some (.d (Ze0 rs)),some (.d (.tuple (ss.map Zd0))),some (.d (.int (n:Nat))),some (.d (.list (l.map tI))),o5,o6,none,none],o⟩,⟨none,none,rfl⟩,λ_ _ _=>trivial,?_,?_⟩
 ·rintro i d s hd ⟨o5,o6,rfl⟩
  obtain⟨r,hr,rfl⟩:=Zd1 hd
  have hrm:=vI hr
  obtain⟨j,hj1,hj2⟩:=hix r.1 (by rw[<- hl];exact Zcd.mpr (.inr (.inr ⟨r,hrm,rfl⟩)))
  simp! only[Zd0,uT]
  refine⟨hlay _,j,hj1,_,hj2,?_⟩
  simp! only[pairD]
  refine⟨_,rfl,?_⟩
  rw[F.r.sea r hrm]
  simp! only[tK]
  exact⟨some (.d (tI r.1)),some (.d (.int r.2)),rfl⟩
 rintro s ⟨o5,o6,rfl⟩
 simp! only[Ze0]
 refine⟨λi s=>∃(o5 o6 o7 o8:Option Val),s=⟨[some (.d (.tuple (l.map (pairD (Zbr n rs ss))))),some (.d (.tuple (rs.map rowD))),some (.d (.tuple (ss.map Zd0))),some (.d (.int (n:Nat))),some (.d (.list (l.map tI))),o5,o6,o7,o8],o⟩,⟨o5,o6,none,none,rfl⟩,λ_ _ _=>trivial,?_,?_⟩
 ·rintro i d s hd ⟨o5,o6,o7,o8,rfl⟩
  obtain⟨r,hr,rfl⟩:=Zd1 hd
  have hrm:=vI hr
  obtain⟨j,hj1,hj2⟩:=hix r.2 (by rw[<- hl];exact Zcd.mpr (.inr (.inl ⟨r,hrm,rfl⟩)))
  obtain⟨g1,g2,g3,g4⟩:=F.h.row r hrm
  have hk3:=F.h.k3
  simp! only[rowD,uT]
  refine⟨hlay _,j,hj1,_,hj2,?_⟩
  simp! only[pairD]
  refine⟨_,rfl,_,⟨r.1,r.2,rfl,g3,g4,by omega,rfl⟩,?_⟩
  simp!
  refine Zcp l (pairD (Zbr n rs ss)) (λb=>.int (Zbr n rs ss b-dot r.1 b)) [] rfl trivial (Zb7 (by simp only[xI];omega)) ?_ ?_
  ·intro b hb Q hQ
   simp! only[pairD]
   refine⟨_,⟨r.1,b,rfl,g3,(F.h.told b (by rw[hl];exact hb)).2,by omega,rfl⟩,?_⟩
   exact hQ
  simp! only[gMax]
  rw[Zhy]
  refine⟨by simpa using hne,λmx hmx _=>?_⟩
  obtain⟨b1,hb1,rfl⟩:=xF.mp hmx
  have hrow:=F.r.row r hrm b1 (by rw[hl];exact hb1)
  refine ite2 (λc=>?_) (λ_=>?_)
  ·have:Zbr n rs ss r.2-dot r.1 r.2<Zbr n rs ss b1-dot r.1 b1:=by simpa using c
   omega
  ·exact⟨some (.d (tI r.2)),o6,some (.d (tI r.1)),some (.d (.int (Zbr n rs ss r.2-dot r.1 r.2))),rfl⟩
 ·rintro s ⟨o5,o6,o7,o8,rfl⟩
  exact⟨_,OW.le.refl _,hq⟩
end
section
variable {P:Program}{w:World}{K:Frag}{mg:Str->Option Value}{base:Heap}
theorem Zp3{told:List (List Int)}{z:List Int}{rs:List Rnd}{ss:List Sea}:(Zed told z rs ss).length=rs.length*told.length+2*ss.length+told.length:=by
 unfold Zed
 rw[vJ,vJ,lmp]
 have h1:∀l:List Rnd,(l.flatMap λr=>told.map λb=>((r.2,b,dot r.1 b-dot r.1 r.2,(3,0,[])):ArcT)).length=l.length*told.length:=by
  intro l
  induction l with
  | nil=>simp
  | cons x l ih=>rw[xU,vJ,ih,lmp,yP,add_mul,one_mul];omega
 have h2:∀l:List Sea,(l.flatMap λs=>([(z,s.1,s.2,(3,0,[])),(s.1,z,0-s.2,(3,0,[]))]:List ArcT)).length=2*l.length:=by
  intro l
  induction l with
  | nil=>simp
  | cons x l ih=>rw[xU,vJ,ih];simp;omega
 rw[h1,h2]
def e1(l:List (List Int))(r:Rnd):List ArcT:=l.map λb=>(r.2,b,dot r.1 b-dot r.1 r.2,(3,0,[]))
def E1(l:List (List Int))(rs:List Rnd):List ArcT:=rs.flatMap λr=>l.map λb=>(r.2,b,dot r.1 b-dot r.1 r.2,(3,0,[]))
def E2(z:List Int)(ss:List Sea):List ArcT:=ss.flatMap λs=>[(z,s.1,s.2,(3,0,[])),(s.1,z,0-s.2,(3,0,[]))]
theorem Zuo(l:List (List Int))(rs:List Rnd):(E1 l rs).length=rs.length*l.length:=by
 unfold E1
 induction rs with
 | nil=>simp
 | cons x r ih=>rw[xU,vJ,ih,lmp,yP,add_mul,one_mul];omega
theorem Zup(z:List Int)(ss:List Sea):(E2 z ss).length=2*ss.length:=by
 unfold E2
 induction ss with
 | nil=>simp
 | cons x l ih=>rw[xU,vJ,ih];simp;omega
theorem Zhv(A:List ArcT)(y:ArcT):(A++[y]).map edgeD=A.map edgeD++[edgeD y]:=by simp
def Zfi:DSp:=pureS λvs r=>∃k rs ss,vs=[.d (Ze0 rs),.d (Zdg ss),.d (.list ((Zam k rs ss).map tI))]/\Hist k rs ss/\r=.list ((Zed (Zam k rs ss) (Zas k) rs ss).map edgeD)
theorem Zk1:MoS Zfi:=Zbv
theorem Zjx:∀vs w k,Zfi vs w k->vs.length=3:=Zbw (by rintro vs r ⟨k,rs,ss,rfl,_⟩;rfl)
theorem Zkr(T:Txt K mg):Dn P w K mg base 2 "_law_edges" sLawEdges ["_law_rows","_law_seals","_law_nodes"] (spD K Zfi):=by
 have D_law_cost:=Zf0 (P:=P) (w:=w) (base:=base) T
 refine Dn.data (k:=1) T.f_law_edges Zc7 Zjx (λa cdv A outer s H E hr=>⟨_,_,IPSs.get (Za4 (Zan (i:=3) Zc7.nd rfl (uM rfl) (Zcq Za3))
  (Za4 (Zan (i:=4) Zc7.nd rfl (uM rfl) (Zak Zcu (i_pv 2) Za5 (λ_ _=>rfl)))
  (Za4 (Zbu tV rfl (Zc6 (i_pv 0)) (Zc5 (n:=2) rfl (Za9 (Zaa (i:=5) Zc7.nd rfl (uM rfl)) (Za9 (Zaa (i:=6) Zc7.nd rfl (uM rfl)) Zb9))) (Za8 (Zbu tV rfl (Zdb (i_pv 2)) (Zaa (i:=7) Zc7.nd rfl (uM rfl)) (Za8 (Zcm (Zda tW tX tY Zcn (i_pv 3) (Za0 (Zb6 (Za0 (i_pv 6) (Za0 (i_pv 7) (Za0 (Zaj Zhk (Zar D_law_cost Zd7 (hr.mono (by decide)) (Za0 (i_pv 5) (Za0 (i_pv 7) Za3))) (Zar D_law_cost Zd7 (hr.mono (by decide)) (Za0 (i_pv 5) (Za0 (i_pv 6) Za3)))) Za3)))) Za3)))))))
  (Za4 (Zbu tV rfl (Zc6 (i_pv 1)) (Zc5 (n:=2) rfl (Za9 (Zaa (i:=6) Zc7.nd rfl (uM rfl)) (Za9 (Zaa (i:=8) Zc7.nd rfl (uM rfl)) Zb9))) (Za4 (Zcm (Zda tW tX tY Zcn (i_pv 3) (Za0 (Zb6 (Za0 (i_pv 4) (Za0 (i_pv 6) (Za0 (i_pv 8) Za3)))) Za3)))
  (Za8 (Zcm (Zda tW tX tY Zcn (i_pv 3) (Za0 (Zb6 (Za0 (i_pv 6) (Za0 (i_pv 4) (Za0 (Zaj Zhk Za5 (i_pv 8)) Za3)))) Za3))))))
  (Za4 (Zbu tV rfl (Zdb (i_pv 2)) (Zaa (i:=6) Zc7.nd rfl (uM rfl)) (Za8 (Zcm (Zda tW tX tY Zcn (i_pv 3) (Za0 (Zb6 (Za0 (i_pv 6) (Za0 (i_pv 4) (Za0 Za5 Za3)))) Za3)))))
  (Za8 (Zae (i_pv 3)))))))),(Zac (Zbb (Zet true Za6) (Za7 3))
  (Zac (Zbb (Zal Zfq (Za2 2) Zap) (Za7 4))
  (Zac (Zde (Zdi (Za2 0)) (Zcw (Zad (Za7 5) (Zad (Za7 6) Zc1))) (Zde (Zfa (Za2 2)) (Za7 7) (Ze1 (Zfc (Za2 3) (Za1 (Zc2 (Za1 (Za2 6) (Za1 (Za2 7) (Za1 (Zal Zeu (Zb4 Zcv (Za1 (Za2 5) (Za1 (Za2 7) Za6))) (Zb4 Zcv (Za1 (Za2 5) (Za1 (Za2 6) Za6)))) Za6)))) Za6)))))
  (Zac (Zde (Zdi (Za2 1)) (Zcw (Zad (Za7 6) (Zad (Za7 8) Zc1))) (Zac (Ze1 (Zfc (Za2 3) (Za1 (Zc2 (Za1 (Za2 4) (Za1 (Za2 6) (Za1 (Za2 8) Za6)))) Za6)))
  (Ze1 (Zfc (Za2 3) (Za1 (Zc2 (Za1 (Za2 6) (Za1 (Za2 4) (Za1 (Zal Zeu Zap (Za2 8)) Za6)))) Za6)))))
  (Zac (Zde (Zfa (Za2 2)) (Za7 6) (Ze1 (Zfc (Za2 3) (Za1 (Zc2 (Za1 (Za2 6) (Za1 (Za2 4) (Za1 Zap Za6)))) Za6))))
  (Zbc (Zsr 3))))))),λas o q h=>?_⟩)
 obtain⟨r,⟨n,rs,ss,rfl,hH,rfl⟩,hq⟩:=h
 have hrl:=hH.rl
 have hsl:=hH.sl
 have hk3:=hH.k3
 have h27:=told27 hH
 have htold:=hH.told
 have hc:=Zdw n rs ss
 generalize hl:Zam n rs ss=l at *
 simp! only[Ze0,Zdg]
 refine⟨by decide,λp hp=>?_⟩
 refine⟨tI (Zas n),by rw[hc];exact Zcs (j:=0) rfl,?_⟩
 simp! only[dApp,dFrz]
 have hE1:∀i,(E1 l (rs.take i)).length≤400:=λi=>by
  rw[Zuo]
  have h1:(rs.take i).length≤13:=by rw[vE];omega
  have:=sC h1 h27
  omega
 refine⟨λi s=>∃(o5 o6 o7 o8:Option Val),s=⟨[some (.d (.tuple (rs.map rowD))),some (.d (.tuple (ss.map Zd0))),some (.d (.list (l.map tI))),some (.own p),some (.d (tI (Zas n))),o5,o6,o7,o8],o.put p (.lst ((E1 l (rs.take i)).map edgeD))⟩,⟨none,none,none,none,rfl⟩,λ_ _ _=>trivial,?_,?_⟩
 ·rintro i d s hd ⟨o5,o6,o7,o8,rfl⟩
  obtain⟨r,hr,rfl⟩:=Zd1 hd
  obtain⟨g1,g2,g3,g4⟩:=hH.row r (vI hr)
  have eE:E1 l (rs.take (i+1))=E1 l (rs.take i)++e1 l r:=by unfold E1;rw[xT,hr,xS];simp[e1]
  have hEi:=hE1 i
  simp! only[rowD]
  refine⟨λj s=>∃(o7:Option Val),s=⟨[some (.d (.tuple (rs.map rowD))),some (.d (.tuple (ss.map Zd0))),some (.d (.list (l.map tI))),some (.own p),some (.d (tI (Zas n))),some (.d (tI r.1)),some (.d (tI r.2)),o7,o8],o.put p (.lst ((E1 l (rs.take i)++e1 (l.take j) r).map edgeD))⟩,⟨o7,by simp[e1]⟩,λ_ _ _=>trivial,?_,?_⟩
  ·rintro j d s hd ⟨o7,rfl⟩
   obtain⟨b,hb,rfl⟩:=Zd1 hd
   have hbm:=htold b (vI hb)
   simp!
   refine⟨⟨_,rfl⟩,_,⟨r.1,b,rfl,g3,hbm.2,by omega,rfl⟩,_,⟨r.1,r.2,rfl,g3,g4,by omega,rfl⟩,?_⟩
   simp!
   refine⟨L2.sz3,_,rfl,Zb7 (by simp only[lmp,vJ,e1,vE];omega),some (.d (tI b)),?_⟩
   have ee:e1 (l.take (j+1)) r=e1 (l.take j) r++[(r.2,b,dot r.1 b-dot r.1 r.2,(3,0,[]))]:=by unfold e1;rw[xT,hb,xE];rfl
   rw[ee,<- uG,Zhv];rfl
  ·rintro s ⟨o7,rfl⟩
   rw[lmp,yR,eE]
   exact⟨_,_,_,_,rfl⟩
 rintro s ⟨o5,o6,o7,o8,rfl⟩
 have hEr:=hE1 rs.length
 rw[lmp]
 rw[yR]at hEr |-
 simp!
 have hE2:∀i,(E2 (Zas n) (ss.take i)).length≤26:=λi=>by rw[Zup,vE];omega
 refine⟨λi s=>∃(o6 o8:Option Val),s=⟨[some (.d (.tuple (rs.map rowD))),some (.d (.tuple (ss.map Zd0))),some (.d (.list (l.map tI))),some (.own p),some (.d (tI (Zas n))),o5,o6,o7,o8],o.put p (.lst ((E1 l rs++E2 (Zas n) (ss.take i)).map edgeD))⟩,⟨o6,o8,by simp[E2]⟩,λ_ _ _=>trivial,?_,?_⟩
 ·rintro i d s hd ⟨o6,o8,rfl⟩
  obtain⟨r,hr,rfl⟩:=Zd1 hd
  have hEi:=hE2 i
  have eE:E2 (Zas n) (ss.take (i+1))=E2 (Zas n) (ss.take i)++[(Zas n,r.1,r.2,(3,0,[]))]++[(r.1,Zas n,0-r.2,(3,0,[]))]:=by unfold E2;rw[xT,hr,xS];simp
  simp! only[Zd0]
  refine⟨⟨_,rfl⟩,L2.sz3,_,rfl,Zb7 (by simp only[lmp,vJ];omega),?_⟩
  simp!
  refine⟨⟨_,rfl⟩,L2.sz3,_,rfl,Zb7 (by simp only[lmp,vJ,yP,xI];omega),some (.d (tI r.1)),some (.d (.int r.2)),?_⟩
  rw[eE,<- uG,<- uG,Zhv,Zhv];rfl
 rintro s ⟨o6,o8,rfl⟩
 have hEs:=hE2 ss.length
 rw[lmp]
 rw[yR]at hEs |-
 simp!
 refine⟨λi s=>∃(o6:Option Val),s=⟨[some (.d (.tuple (rs.map rowD))),some (.d (.tuple (ss.map Zd0))),some (.d (.list (l.map tI))),some (.own p),some (.d (tI (Zas n))),o5,o6,o7,o8],o.put p (.lst ((E1 l rs++E2 (Zas n) ss++(l.take i).map λb=>(b,Zas n,0,(3,0,[]))).map edgeD))⟩,⟨o6,by simp⟩,λ_ _ _=>trivial,?_,?_⟩
 ·rintro i d s hd ⟨o6,rfl⟩
  obtain⟨b,hb,rfl⟩:=Zd1 hd
  have ef:(l.take (i+1)).map (λb=>((b,Zas n,0,(3,0,[])):ArcT))=(l.take i).map (λb=>((b,Zas n,0,(3,0,[])):ArcT))++[(b,Zas n,0,(3,0,[]))]:=by rw[xT,hb,xE];rfl
  simp!
  refine⟨⟨_,rfl⟩,L2.sz3,_,rfl,Zb7 (by simp only[lmp,vJ,vE];omega),some (.d (tI b)),?_⟩
  rw[ef,<- uG,Zhv];rfl
 ·rintro s ⟨o6,rfl⟩
  rw[lmp,yR]
  simp!
  refine⟨_,rfl,?_⟩
  rw[Zlq hp]
  exact⟨_,OW.le.refl _,hq⟩
def Zei:DSp:=pureS λvs r=>∃T arcs,vs=[.d (.list (T.map tI)),.d (.list (arcs.map edgeD))]/\(∀b∈T,b≠[])/\(∀a∈arcs,a.1∈T/\a.2.1∈T)/\T.length≤27/\arcs.length≤1000/\r=(match runH arcs (T.length+1) (Ze9 T) with|some W=>.dict (kvK (enc .int W))|none=>.none)
theorem Zil:MoS Zei:=Zbv
theorem Zig:∀vs w k,Zei vs w k->vs.length=2:=Zbw (by rintro vs r ⟨k,rs,rfl,_⟩;rfl)
theorem Zhd:∀(T:List (List Int)) (W:WL),(T.foldl (λd b=>pt d b 0) W).length≤W.length+T.length
 | [],W=>by simp
 | t::T,W=>by
  have h1:=Zhd T (pt W t 0)
  have h2:=Zq1 W t (0:Int)
  rw[uH,yP]
  omega
theorem Zj4(T:Txt K mg):Dn P w K mg base 1 "_law_heights" sLawHeights ["_law_nodes","_law_edges_here"] (spD K Zei):=by
 refine Dn.data (k:=0) T.f_law_heights Zbo Zig (λa cdv A outer s H E hr=>⟨_,_,IPSs.get (Za4 (Zan (i:=2) Zbo.nd rfl (uM rfl) Zjf)
  (Za4 (Zbu tV rfl (Zdb (i_pv 0)) (Zaa (i:=3) Zbo.nd rfl (uM rfl)) (Za8 (Zgo (Zfm hr) (i_pv 2) (i_pv 3) Za5)))
  (Za4 (Zbu tV rfl (Zbl rfl T.z_range (Za0 (Zaj Zd5 (Zab Zb5 rfl T.z_len tM (Za0 (i_pv 0) Za3)) Za5) Za3)) (Zaa (i:=4) Zbo.nd rfl (uM rfl)) (Za4 (Zan (i:=5) Zbo.nd rfl (uM rfl) (Zce))
  (Za4 (Zbu tV rfl (Zdb (i_pv 1)) (Zc5 (n:=3) rfl (Za9 (Zaa (i:=6) Zbo.nd rfl (uM rfl)) (Za9 (Zaa (i:=7) Zbo.nd rfl (uM rfl)) (Za9 (Zaa (i:=8) Zbo.nd rfl (uM rfl)) Zb9)))) (Za8 (Zba (Zau Zlc (Zaj Zd5 (Zco (Zfm hr) (i_pv 2) (i_pv 6) (λ_ _=>rfl)) (i_pv 8)) (Zco (Zfm hr) (i_pv 2) (i_pv 7) (λ_ _=>rfl)) (nomark _)) (Za4 (Zgo (Zfm hr) (i_pv 2) (i_pv 7) (Zaj Zd5 (Zco (Zfm hr) (i_pv 2) (i_pv 6) (λ_ _=>rfl)) (i_pv 8)))
  (Za8 (Zan (i:=5) Zbo.nd rfl (uM rfl) (Zce)))) Zao)))
  (Za8 (Zba (Zcr (Zcy (i_pv 5))) (Za8 (Zae (i_pv 2))) Zao)))))
  (Za8 (Zae Zfz))))),(Zac (Zbb (Zq5 true) (Za7 2))
  (Zac (Zde (Zfa (Za2 0)) (Za7 3) (Zk8 (Za2 2) (Za2 3) Zap))
  (Zac (Zde (Zdm (Za1 (Zal Zeu (Zbx Zdt (Za1 (Za2 0) Za6)) Zap) Za6)) (Za7 4) (Zac (Zbb Zes (Za7 5))
  (Zac (Zde (Zfa (Za2 1)) (Zcw (Zad (Za7 6) (Zad (Za7 7) (Zad (Za7 8) Zc1)))) (Zd2 (Zbf (Zal Zhs (Zal Zeu (Zeo (Za2 2) (Za2 6)) (Za2 8)) (Zeo (Za2 2) (Za2 7)))) (Zac (Zk8 (Za2 2) (Za2 7) (Zal Zeu (Zeo (Za2 2) (Za2 6)) (Za2 8)))
  (Zbb Zes (Za7 5))) Zbd))
  (Zd2 (Zeg (rt_b (Za2 5))) (Zbc (Zmh 2)) Zbd))))
  (Zbc Zjk)))),λas o q h=>?_⟩)
 obtain⟨r,⟨T',arcs,rfl,hne,hend,hT,hA,rfl⟩,hq⟩:=h
 simp! only[dDNew]
 intro p hp
 simp! only[dDPut,dDGet,rdK,dFrzD]
 refine⟨λi s=>∃(o3:Option Val),s=⟨[some (.d (.list (T'.map tI))),some (.d (.list (arcs.map edgeD))),some (.own p),o3,none,none,none,none,none],o.put p (.dct (enc .int ((T'.take i).foldl (λd b=>pt d b 0) [])))⟩,⟨none,rfl⟩,λ_ _ _=>trivial,?_,?_⟩
 ·rintro i d s hd ⟨o3,rfl⟩
  obtain⟨b,hb,rfl⟩:=Zd1 hd
  have hl:=Zhd (T'.take i) []
  have hti:(T'.take i).length≤27:=by rw[vE];omega
  simp!
  refine⟨_,_,rfl,Zbk (hne b (vI hb)),Zb7 (by rw[Zgd];simp at hl;omega),some (.d (tI b)),?_⟩
  rw[Zfw PyData.int,xT,hb,tZ];rfl
 rintro s ⟨o3,rfl⟩
 rw[lmp,yR]
 have hsl:=Zhd T' []
 have hst:∀b∈T',∃d,lk (Ze9 T') b=some d:=λb hb=>⟨0,by unfold Ze9;rw[Zfr,zI hb]⟩
 have eS:T'.foldl (λd b=>pt d b 0) []=Ze9 T':=rfl
 rw[eS]at hsl |-
 simp! only[lmp]
 refine⟨⟨by omega,by omega⟩,?_⟩
 refine⟨λi s=>∃(o4 o5 o6 o7 o8:Option Val) (W:WL),s=⟨[some (.d (.list (T'.map tI))),some (.d (.list (arcs.map edgeD))),some (.own p),o3,o4,o5,o6,o7,o8],o.put p (.dct (enc .int W))⟩/\i≤T'.length+1/\runH arcs (T'.length+1) (Ze9 T')=runH arcs (T'.length+1-i) W/\(∀b∈T',∃d,lk W b=some d)/\W.length≤27+1000*i,⟨none,none,none,none,none,Ze9 T',rfl,by omega,rfl,hst,by simp at hsl;omega⟩,λ_ _ _=>trivial,?_,?_⟩
 ·rintro i d s hd ⟨o4,o5,o6,o7,o8,W,rfl,hi,hrun,hall,hWl⟩
  have hin:i<T'.length+1:=by
   obtain⟨h1,_⟩:=zZ.mp hd
   simp[rngD]at h1;omega
  simp!
  have hallj:∀j,∀b∈T',∃d,lk ((arcs.take j).foldl stepS (W,[],none)).1 b=some d:=λj b hb=>by
   obtain⟨d,hd⟩:=hall b hb
   obtain⟨e,he,_⟩:=Ways.fold_le ((arcs.take j).map arc3) hd
   rw[Zfx]
   exact⟨e,he⟩
  refine⟨λj s=>∃(o6 o7 o8:Option Val),s=⟨[some (.d (.list (T'.map tI))),some (.d (.list (arcs.map edgeD))),some (.own p),o3,some (.d d),some (.d (.bool ((arcs.take j).foldl stepS (W,[],none)).2.2.isSome)),o6,o7,o8],o.put p (.dct (enc .int ((arcs.take j).foldl stepS (W,[],none)).1))⟩,⟨o6,o7,o8,rfl⟩,λ_ _ _=>trivial,?_,?_⟩
  ·rintro j d2 s hd2 ⟨o6,o7,o8,rfl⟩
   obtain⟨a,ha,rfl⟩:=Zd1 hd2
   obtain⟨m1,m2⟩:=hend a (vI ha)
   obtain⟨d1,hd1⟩:=hallj j a.1 m1
   obtain⟨e1,he1⟩:=hallj j a.2.1 m2
   have et:(arcs.take (j+1)).foldl stepS (W,[],none)=stepS ((arcs.take j).foldl stepS (W,[],none)) a:=by rw[xT,ha,tZ];rfl
   have hl:=Zfl (arcs.take j) (W,[],none)
   have hti:(arcs.take j).length≤1000:=by rw[vE];omega
   generalize (arcs.take j).foldl stepS (W,[],none)=S at *
   obtain⟨W1,L1,fo⟩:=S
   simp only at hl hd1 he1
   simp! only[et,edgeD]
   refine⟨_,_,.int d1,rfl,Zbk (hne _ m1),by rw[Zc4,hd1];rfl,?_⟩
   simp!
   refine⟨_,_,.int e1,rfl,Zbk (hne _ m2),by rw[Zc4,he1];rfl,?_⟩
   simp!
   refine ite2 (λc=>?_) (λc=>?_)
   all_goals simp!
   ·have c':d1+a.2.2.1<e1:=by simpa using c
    have es:stepS (W1,L1,fo) a=(pt W1 a.2.1 (d1+a.2.2.1),pt L1 a.2.1 a,some a.2.1):=by unfold stepS;simp only[hd1,he1,c',vQ]
    rw[es]
    refine⟨_,_,.int d1,rfl,Zbk (hne _ m1),by rw[Zc4,hd1];rfl,?_⟩
    simp!
    refine⟨_,_,rfl,Zbk (hne _ m2),Zb7 (by rw[Zgd];omega),some (.d (tI a.1)),some (.d (tI a.2.1)),some (.d (.int a.2.2.1)),?_⟩
    rw[Zfw PyData.int];rfl
   ·have c':¬d1+a.2.2.1<e1:=by simpa using c
    have es:stepS (W1,L1,fo) a=(W1,L1,fo):=by unfold stepS;simp only[hd1,he1,c',vP]
    rw[es]
    exact⟨some (.d (tI a.1)),some (.d (tI a.2.1)),some (.d (.int a.2.2.1)),rfl⟩
  ·rintro s ⟨o6,o7,o8,rfl⟩
   have eA:(arcs.take (arcs.map edgeD).length).foldl stepS (W,[],none)=Zbj arcs W []:=by rw[lmp,yR];rfl
   rw[eA]
   have hl:=Zfl arcs (W,[],none)
   have hl':(Zbj arcs W []).1.length≤W.length+arcs.length:=hl.1
   have hallS:∀b∈T',∃d,lk (Zbj arcs W []).1 b=some d:=λb hb=>by have:=hallj (arcs.map edgeD).length b hb;rw[eA]at this;exact this
   obtain⟨mm,hmm⟩:∃mm,T'.length+1-i=mm+1:=⟨T'.length-i,by omega⟩
   have hr2:runH arcs (mm+1) W=match (Zbj arcs W []).2.2 with|none=>some W|some _=>runH arcs mm (Zbj arcs W []).1:=rfl
   rw[hmm,hr2]at hrun
   simp!
   cases hf:(Zbj arcs W []).2.2 with
   | none=>
    obtain⟨e,_⟩:=Zfb hf
    rw[hf]at hrun
    rw[hrun]at hq
    simp! only[sF]
    refine⟨_,rfl,?_⟩
    rw[Zlq hp,e]
    exact⟨_,OW.le.refl _,hq⟩
   | some c=>
    rw[hf]at hrun
    simp! only[uT]
    refine⟨some (.d d),some (.d (.bool true)),o6,o7,o8,(Zbj arcs W []).1,rfl,by omega,?_,hallS,by omega⟩
    have:T'.length+1-(i+1)=mm:=by omega
    rw[this];exact hrun
 ·rintro s ⟨o4,o5,o6,o7,o8,W,rfl,hi,hrun,hall,hWl⟩
  simp!
  have eN:(rngD 0 (((T'.length:Nat):Int)+1).toNat).length=T'.length+1:=by simp[rngD]
  rw[eN]at hrun
  rw[Nat.sub_self]at hrun
  rw[hrun]at hq
  exact⟨_,OW.le.new (OW.le.refl o) hp _,hq⟩
def anyB(k:Nat)(rs:List Rnd)(ss:List Sea):Bool:=(runH (Zed (Zam k rs ss) (Zas k) rs ss) ((Zam k rs ss).length+1) (Ze9 (Zam k rs ss))).isSome
def Zeh:DSp:=pureS λvs r=>∃k rs ss,vs=[.d (Ze0 rs),.d (Zdg ss),.d (.int (k:Nat))]/\Hist k rs ss/\r=.bool (anyB k rs ss)
theorem Zik:MoS Zeh:=Zbv
theorem Zif:∀vs w k,Zeh vs w k->vs.length=3:=Zbw (by rintro vs r ⟨k,rs,ss,rfl,_⟩;rfl)
theorem Zj3(T:Txt K mg):Dn P w K mg base 3 "_law_are_any" sLawAreAny ["_law_rows","_law_seals","_law_several"] (spD K Zeh):=by
 have D_law_edges:=Zkr (P:=P) (w:=w) (base:=base) T
 have D_law_heights:=Zj4 (P:=P) (w:=w) (base:=base) T
 have D_law_told:=Zg8 (P:=P) (w:=w) (base:=base) T
 refine Dn.data (k:=2) T.f_law_are_any Zg5 Zif (λa cdv A outer s H E hr=>⟨_,_,IPSs.get (Za4 (Zan (i:=3) Zg5.nd rfl (uM rfl) (Zar D_law_told Zg6 (hr.mono (by decide)) (Za0 (i_pv 0) (Za0 (i_pv 1) (Za0 (i_pv 2) Za3)))))
  (Za8 (Zae (Zdr Zps (Zar D_law_heights Ziz (hr.mono (by decide)) (Za0 (i_pv 3) (Za0 (Zar D_law_edges Zki (hr.mono (by decide)) (Za0 (i_pv 0) (Za0 (i_pv 1) (Za0 (i_pv 3) Za3)))) Za3))) Zfz (nomark _))))),(Zac (Zbb (Zb4 Zfp (Za1 (Za2 0) (Za1 (Za2 1) (Za1 (Za2 2) Za6)))) (Za7 3))
  (Zbc (Zal Zqa (Zb4 Zil (Za1 (Za2 3) (Za1 (Zb4 Zk1 (Za1 (Za2 0) (Za1 (Za2 1) (Za1 (Za2 3) Za6)))) Za6))) Zjk))),λas o q h=>?_⟩)
 obtain⟨r,⟨n,rs,ss,rfl,hH,rfl⟩,hq⟩:=h
 have h27:=told27 hH
 simp!
 refine⟨_,⟨n,rs,ss,rfl,hH,rfl⟩,?_⟩
 simp!
 refine⟨_,⟨n,rs,ss,rfl,hH,rfl⟩,?_⟩
 simp!
 refine⟨_,⟨Zam n rs ss,Zed (Zam n rs ss) (Zas n) rs ss,rfl,λb hb=>Zer hH.k1 (hH.told b hb).1,λa ha=>?_,h27,?_,rfl⟩,?_⟩
 ·rcases Ze8.mp ha with ⟨r,hr,b,hb,rfl⟩|⟨s,hs,rfl|rfl⟩|⟨b,hb,rfl⟩
  ·exact⟨Zcd.mpr (.inr (.inl ⟨r,hr,rfl⟩)),hb⟩
  ·exact⟨Zeb _ _ _,Zcd.mpr (.inr (.inr ⟨s,hs,rfl⟩))⟩
  ·exact⟨Zcd.mpr (.inr (.inr ⟨s,hs,rfl⟩)),Zeb _ _ _⟩
  ·exact⟨hb,Zeb _ _ _⟩
 ·rw[Zp3]
  have:=hH.rl
  have:=hH.sl
  have:=sC hH.rl h27
  omega
 ·unfold anyB at hq
  cases hr:runH (Zed (Zam n rs ss) (Zas n) rs ss) ((Zam n rs ss).length+1) (Ze9 (Zam n rs ss)) with
  | none=>
   rw[hr]at hq
   simp! only[fIsN,isNoneD]
   exact⟨_,OW.le.refl _,hq⟩
  | some W=>
   rw[hr]at hq
   simp! only[fIsN,isNoneD]
   exact⟨_,OW.le.refl _,hq⟩
end
section
variable {P:Program}{w:World}{K:Frag}{mg:Str->Option Value}{base:Heap}
theorem Zlv(a b:Str):PyData.eqv (.str a) (.str b)=decide (a=b):=by rw[PyData.eqv];rfl
theorem wlay:∀w<4,(PyData.str (wordOf w)).hasDict=false/\PyData.hasDictAll [PyData.str "bid",PyData.str "due"]=false/\(PyData.str (wordOf w)).canLay0=true/\PyData.canLayAll0 [PyData.str "bid",PyData.str "due"]=true/\(PyData.str (wordOf w)).depth≤30:=by decide +kernel
def endD(k:Nat)(rs:List Rnd)(e:Stp):PyData:=.tuple [tI (Zbp k rs e).1,tI (Zbp k rs e).2]
def Zej:DSp:=pureS λvs r=>∃k rs ss es,vs=[.d (.tuple (es.map Zc8)),.d (Ze0 rs),.d (Zdg ss),.d (.list ((Zam k rs ss).map tI))]/\Hist k rs ss/\IsRing k rs ss es/\r=.bool true
theorem Zim:MoS Zej:=Zbv
theorem Zih:∀vs w k,Zej vs w k->vs.length=4:=Zbw (by rintro vs r ⟨k,rs,ss,es,rfl,_⟩;rfl)
theorem Zj5(T:Txt K mg):Dn P w K mg base 2 "_law_is_ring" sLawIsRing ["_law_ring","_law_rows","_law_seals","_law_nodes"] (spD K Zej):=by
 have D_law_cost:=Zf0 (P:=P) (w:=w) (base:=base) T
 have D_law_whole:=Zhh (P:=P) (w:=w) (base:=base) T
 refine Dn.data (k:=1) T.f_law_is_ring Zbg Zih (λa cdv A outer s H E hr=>⟨_,_,IPSs.get (Za4 (Zba (IPW.pt (Zf4 (Zcr (Zcy (Zab Zec rfl T.z_isinstance sJ (Za0 (i_pv 0) (Za0 (Zdq (v:=.ty "tuple") rfl T.z_tuple (by decide +kernel) rfl) Za3))))) (Zef (Zcr (Zh3 Zrd Zrd Za5 (Zab Zb5 rfl T.z_len tM (Za0 (i_pv 0) Za3)) Za5))))) (Za8 (Zae (Zce))) Zao)
  (Za4 (Zdc (Zb6 (Za0 Za5 (Za0 (Zcq Za3) Za3))) (Zc5 (n:=2) rfl (Za9 (Zaa (i:=4) Zbg.nd rfl (uM rfl)) (Za9 (Zaa (i:=5) Zbg.nd rfl (uN rfl)) Zb9))))
  (Za4 (Zbu tV rfl (Zc6 (i_pv 0)) (Zaa (i:=6) Zbg.nd rfl (uM rfl)) (Za4 (Zba (IPW.pt (Zf4 (Zcr (Zcy (Zab Zec rfl T.z_isinstance sJ (Za0 (i_pv 6) (Za0 (Zdq (v:=.ty "tuple") rfl T.z_tuple (by decide +kernel) rfl) Za3))))) (Zef (Zau Zmd (Zab Zb5 rfl T.z_len tM (Za0 (i_pv 6) Za3)) Za5 (nomark _))))) (Za8 (Zae (Zce))) Zao)
  (Za4 (Zba (IPW.pt (Zf4 (Zcr (Zcy (Zar D_law_whole Zfe (hr.mono (by decide)) (Za0 (Zak Zbn (i_pv 6) Za5 (λ_ _=>rfl)) Za3)))) (Zef (Zau (Zgu hr.units) (Zak Zbn (i_pv 6) Za5 (λ_ _=>rfl)) (i_pv 3) rfl)))) (Za8 (Zae (Zce))) Zao)
  (Za4 (Zdc (i_pv 6) (Zc5 (n:=3) rfl (Za9 (Zaa (i:=7) Zbg.nd rfl (uM rfl)) (Za9 (Zaa (i:=8) Zbg.nd rfl (uM rfl)) (Za9 (Zaa (i:=9) Zbg.nd rfl (uM rfl)) Zb9)))))
  (Za4 (Zba (Zcr (Zcy (Zab (Zi1 rfl) rfl T.z_all boot_all (Za0 (by refine' Zbq (Nc:=["_law_pieces"]) (cap:=[none]) rfl ?i ?k ?g ?t ?e;(case k=>kernel_rfl);(case i=>exact(Zc6 (i_pv 9)));(case g=>exact(λ_ _ _ _ _=>(Zd3 0 (by show List.Nodup (["_law_pieces"]:List Str);decide +kernel))));(case t=>exact(λ_ _ _ _ _=>Zbh));(case e=>exact(λ_ _ _ _ _=>(Zar D_law_whole Zfe (hr.mono (by decide)) (Za0 (Zd4 0) Za3) (hg:=Zdy))))) Za3)))) (Za8 (Zae (Zce))) Zao)
  (Za8 (Zba (IPW.pt (Zgp (Zau Zha (i_pv 7) Zbt (nomark _)) (Zgq (Zh3 Zrd Zlc Za5 (i_pv 8) (Zab Zb5 rfl T.z_len tM (Za0 (i_pv 1) Za3)))))) (Za4 (Zdc (Zak Zbn (i_pv 1) (i_pv 8) (λ_ _=>rfl)) (Zc5 (n:=2) rfl (Za9 (Zaa (i:=10) Zbg.nd rfl (uM rfl)) (Za9 (Zaa (i:=11) Zbg.nd rfl (uM rfl)) Zb9))))
  (Za4 (Zcm (Zda tW tX tY Zcn (i_pv 5) (Za0 (Zb6 (Za0 (i_pv 11) (Za0 (i_pv 9) Za3))) Za3)))
  (Za8 (Zan (i:=4) Zbg.nd rfl (uM rfl) (Zaj Zhk (Zaj Zd5 (i_pv 4) (Zar D_law_cost Zd7 (hr.mono (by decide)) (Za0 (i_pv 10) (Za0 (i_pv 9) Za3)))) (Zar D_law_cost Zd7 (hr.mono (by decide)) (Za0 (i_pv 10) (Za0 (i_pv 11) Za3)))))))) (Za8 (Zba (IPW.pt (Zgp (Zau (Zv2 hr.units) (i_pv 7) (Zcq (Za0 Zbt (Za0 Zbt Za3))) rfl) (Zgp (Zh3 Zrd Zlc Za5 (i_pv 8) (Zab Zb5 rfl T.z_len tM (Za0 (i_pv 2) Za3))) (Zgq (Zau (Zso hr.units) (Zak Zbn (Zak Zbn (i_pv 2) (i_pv 8) (λ_ _=>rfl)) Za5 (λ_ _=>rfl)) (i_pv 9) (nomark _)))))) (Za4 (Zcm (Zda tW tX tY Zcn (i_pv 5) (Za0 (Zak Zcu (Zcq (Za0 (Zb6 (Za0 (Zak Zcu (i_pv 3) Za5 (λ_ _=>rfl)) (Za0 (i_pv 9) Za3))) (Za0 (Zb6 (Za0 (i_pv 9) (Za0 (Zak Zcu (i_pv 3) Za5 (λ_ _=>rfl)) Za3))) Za3))) (Zcj Zko rfl T.z_int (by decide +kernel) (Za0 (Zdr Zha (i_pv 7) Zbt (nomark _)) Za3)) (λ_ _=>rfl)) Za3)))
  (Za8 (Zan (i:=4) Zbg.nd rfl (uM rfl) (Zaj Zd5 (i_pv 4) (Zak Zcu (Zcq (Za0 (Zak Zbn (Zak Zbn (i_pv 2) (i_pv 8) (λ_ _=>rfl)) Za5 (λ_ _=>rfl)) (Za0 (Zaj Zhk Za5 (Zak Zbn (Zak Zbn (i_pv 2) (i_pv 8) (λ_ _=>rfl)) Za5 (λ_ _=>rfl))) Za3))) (Zcj Zko rfl T.z_int (by decide +kernel) (Za0 (Zdr Zha (i_pv 7) Zbt (nomark _)) Za3)) (λ_ _=>rfl)))))) (Za8 (Zba (IPW.pt (Zgp (Zau Zha (i_pv 7) Zbt (nomark _)) (Zgq (Zau Zha (i_pv 8) Za5 (nomark _))))) (Za8 (Zcm (Zda tW tX tY Zcn (i_pv 5) (Za0 (Zb6 (Za0 (i_pv 9) (Za0 (Zak Zcu (i_pv 3) Za5 (λ_ _=>rfl)) Za3))) Za3)))) (Za8 (Zae (Zce))))))))))))))
  (Za8 (Zae (Zfy (Zdr Zlc (i_pv 4) Za5 (nomark _)) (Zgl (Zab (Zi1 rfl) rfl T.z_all boot_all (Za0 (by refine' Zbq (Nc:=["_law_k","_law_ends"]) (cap:=[none,some 5]) rfl ?i ?k ?g ?t ?e;(case k=>kernel_rfl);(case i=>exact(Zbl rfl T.z_range (Za0 (Zab Zb5 rfl T.z_len tM (Za0 (i_pv 5) Za3)) Za3)));(case g=>exact(λ_ _ _ _ _=>(Zd3 0 (by show List.Nodup (["_law_k","_law_ends"]:List Str);decide +kernel))));(case t=>exact(λ_ _ _ _ _=>Zbh));(case e=>exact(λ_ _ _ _ _=>(Zdr (Zti (K:=K) rfl hr.units) (Zak (Zh5 (K:=K) rfl) (Zak (Zn1 (K:=K) rfl) (Zfo 1) (Zaj Zhk (Zd4 0) Za5) (λ_ _=>rfl)) Za5 (λ_ _=>rfl)) (Zak (Zh5 (K:=K) rfl) (Zak (Zn1 (K:=K) rfl) (Zfo 1) (Zd4 0) (λ_ _=>rfl)) Za5 (λ_ _=>rfl)) (nomark _))))) Za3))))))))),(Zac (Zd2 (Zk9 (Zeg (rt_b (Zbx Zhl (Za1 (Za2 0) (Za1 Zle Za6))))) (Zeg (Zbf (Zk5 Zhs Zhs Zap (Zbx Zdt (Za1 (Za2 0) Za6)) Zap)))) (Zbc Zes) Zbd)
  (Zac (Zue (Za1 Zap (Za1 (Zet true Za6) Za6)))
  (Zac (Zde (Zdi (Za2 0)) (Za7 6) (Zac (Zd2 (Zk9 (Zeg (rt_b (Zbx Zhl (Za1 (Za2 6) (Za1 Zle Za6))))) (Zbf (Zal Zmi (Zbx Zdt (Za1 (Za2 6) Za6)) Zap))) (Zbc Zes) Zbd)
  (Zac (Zd2 (Zk9 (Zeg (rt_b (Zb4 Zf8 (Za1 (Zal Zbi (Za2 6) Zap) Za6)))) (Zbf (Zal Zlf (Zal Zbi (Za2 6) Zap) (Za2 3)))) (Zbc Zes) Zbd)
  (Zac (Zbb (Za2 6) (Zcw (Zad (Za7 7) (Zad (Za7 8) (Zad (Za7 9) Zc1)))))
  (Zac (Zd2 (Zeg (rt_b (Zbx Zq2 (Za1 (Zca false (Zdi (Za2 9)) (Za7 0) Zcx (Zcb (Zb4 Zf8 (Za1 (Za2 0) Za6)))) Za6)))) (Zbc Zes) Zbd)
  (Zd2 (Zlg (Zbf (Zal Zhc (Za2 7) Zdd)) (Zbf (Zk5 Zhs Zhs Zap (Za2 8) (Zbx Zdt (Za1 (Za2 1) Za6))))) (Zac (Zbb (Zal Zbi (Za2 1) (Za2 8)) (Zcw (Zad (Za7 10) (Zad (Za7 11) Zc1))))
  (Zac (Ze1 (Zfc (Za2 5) (Za1 (Zc2 (Za1 (Za2 11) (Za1 (Za2 9) Za6))) Za6)))
  (Zbb (Zal Zeu (Zal Zeu (Za2 4) (Zb4 Zcv (Za1 (Za2 10) (Za1 (Za2 9) Za6)))) (Zb4 Zcv (Za1 (Za2 10) (Za1 (Za2 11) Za6)))) (Za7 4)))) (Zd2 (Zlg (Zbf (Zal Zlf (Za2 7) (Zet false (Za1 Zdd (Za1 Zdd Za6))))) (Zlg (Zbf (Zk5 Zhs Zhs Zap (Za2 8) (Zbx Zdt (Za1 (Za2 2) Za6)))) (Zbf (Zal Zq9 (Zal Zbi (Zal Zbi (Za2 2) (Za2 8)) Zap) (Za2 9))))) (Zac (Ze1 (Zfc (Za2 5) (Za1 (Zal Zfq (Zet false (Za1 (Zc2 (Za1 (Zal Zfq (Za2 3) Zap) (Za1 (Za2 9) Za6))) (Za1 (Zc2 (Za1 (Za2 9) (Za1 (Zal Zfq (Za2 3) Zap) Za6))) Za6))) (Zbx Zq3 (Za1 (Zal Zhc (Za2 7) Zdd) Za6))) Za6)))
  (Zbb (Zal Zeu (Za2 4) (Zal Zfq (Zet false (Za1 (Zal Zbi (Zal Zbi (Za2 2) (Za2 8)) Zap) (Za1 (Zal Zeu Zap (Zal Zbi (Zal Zbi (Za2 2) (Za2 8)) Zap)) Za6))) (Zbx Zq3 (Za1 (Zal Zhc (Za2 7) Zdd) Za6)))) (Za7 4))) (Zd2 (Zlg (Zbf (Zal Zhc (Za2 7) Zdd)) (Zbf (Zal Zhc (Za2 8) Zap))) (Ze1 (Zfc (Za2 5) (Za1 (Zc2 (Za1 (Za2 9) (Za1 (Zal Zfq (Za2 3) Zap) Za6))) Za6))) (Zbc Zes)))))))))
  (Zbc (Zhb (Zal Zhs (Za2 4) Zap) (Zbx Zq2 (Za1 (Zca false (Zdm (Za1 (Zbx Zdt (Za1 (Za2 5) Za6)) Za6)) (Za7 0) Zcx (Zcb (Zal Zq9 (Zal Zbi (Zal Zfq (Za2 1) (Zal Zeu (Za2 0) Zap)) Zap) (Zal Zbi (Zal Zfq (Za2 1) (Za2 0)) Zap)))) Za6))))))),λas o q h=>?_⟩)
 obtain⟨r,⟨n,rs,ss,es,rfl,hH,R,rfl⟩,hq⟩:=h
 have h1:=R.n1
 have h27:=R.n27
 have hk3:=hH.k3
 have htold:=hH.told
 have hc:=Zdw n rs ss
 simp! only[tyN,Ze0,Zdg]
 refine⟨true,λ_=>rfl,?_⟩
 simp! only[dChain,lmp]
 have b1:decide (1≤((es.length:Nat):Int))=true:=by simp;omega
 have b2:decide (((es.length:Nat):Int)≤40)=true:=by simp;omega
 simp! only[b1,b2]
 refine⟨by decide,λp hp=>?_⟩
 simp! only[dApp,dComp,dChain,lmp]
 refine⟨λi s=>∃(o6 o7 o8 o9 o10 o11:Option Val),s=⟨[some (.d (.tuple (es.map Zc8))),some (.d (.tuple (rs.map rowD))),some (.d (.tuple (ss.map Zd0))),some (.d (.list ((Zam n rs ss).map tI))),some (.d (.int ((es.take i).map (Zag rs ss)).sum)),some (.own p),o6,o7,o8,o9,o10,o11],o.put p (.lst ((es.take i).map (endD n rs)))⟩,⟨none,none,none,none,none,none,rfl⟩,λ_ _ _=>trivial,?_,?_⟩
 ·rintro i d s hd ⟨o6,o7,o8,o9,o10,o11,rfl⟩
  obtain⟨e,he,rfl⟩:=Zd1 hd
  have hem:=R.mem e (vI he)
  have ht:(es.take i).length≤27:=by rw[vE];omega
  have e1:((es.take (i+1)).map (Zag rs ss)).sum=((es.take i).map (Zag rs ss)).sum+Zag rs ss e:=by rw[xT,he,xE,sum_append];simp
  have e2:(es.take (i+1)).map (endD n rs)=(es.take i).map (endD n rs)++[endD n rs e]:=by rw[xT,he,xE];rfl
  obtain⟨w,j,b⟩:=e
  have hbt:b∈Zam n rs ss:=by
   rcases Zc0.mp hem with ⟨b',hb,e⟩|⟨i',hi,e|e⟩|⟨i',hi,b',hb,e⟩
   ·cases e;exact hb
   ·cases e;exact Zcd.mpr (.inr (.inr ⟨_,yT hi,rfl⟩))
   ·cases e;exact Zcd.mpr (.inr (.inr ⟨_,yT hi,rfl⟩))
   ·cases e;exact hb
  have hbl:=htold b hbt
  have e3:decide (((3:Nat):Int)=3)=true:=rfl
  simp! only[Zc8,tyN]
  refine⟨true,λ_=>rfl,?_⟩
  simp! only[e3]
  refine⟨_,rfl,_,⟨_,rfl,rfl⟩,?_⟩
  simp!
  refine⟨_,rfl,?_⟩
  refine⟨⟨Zdh _,Zev _,Zit _,Zdn _,by rw[Zg3];decide⟩,?_⟩
  rw[Zmo]
  have bt:decide (b∈Zam n rs ss)=true:=by simpa using hbt
  simp! only[bt,tI]
  refine Zcp b .int (λ_=>.bool true) [] rfl trivial (Zb7 (by simp;omega)) ?_ ?_
  ·intro x hx Q hQ
   simp!
   exact⟨_,⟨x,rfl,rfl⟩,hQ⟩
  rw[xN,Zkf b (λ_=>true)]
  have eall:(b.map λ_=>true).all id=true:=by simp
  simp! only[eall]
  have z0:decide ((0:Int)≤((j:Nat):Int))=true:=by simp
  have hn0:atI ((Zam n rs ss).map tI) 0=some (tI (Zas n)):=by rw[hc];exact Zcs (j:=0) rfl
  have hbig:((es.take i).map (endD n rs)).length<sizeLine:=Zb7 (by rw[lmp];omega)
  rcases Zc0.mp hem with ⟨b',hb,e⟩|⟨i',hi,e|e⟩|⟨i',hi,b',hb,e⟩
  ·cases e
   have d1:decide (wordOf 3=("round" : Str))=false:=by decide
   have d2:([PyData.str ("bid" : Str),PyData.str ("due" : Str)].any λy=>y.eqv (PyData.str (wordOf 3)))=false:=by simp only[xH,any_nil,Zlv];decide
   have d3:decide (wordOf 3=("free" : Str))=true:=by decide
   simp! only[d1,d2,d3]
   refine⟨L2.sz2,wlay 3 (by decide),?_⟩
   have d4:decide (((0:Nat):Int)=0)=true:=rfl
   simp! only[d1,d2,d3,d4]
   refine⟨⟨_,rfl⟩,_,hn0,L2.sz2,_,rfl,hbig,some (.d (Zc8 (3,0,b))),some (.d (.str (wordOf 3))),some (.d (.int ((0:Nat):Int))),some (.d (tI b)),o10,o11,?_⟩
   have w1:Zag rs ss (3,0,b)=0:=rfl
   have w2:endD n rs (3,0,b)=.tuple [tI b,tI (Zas n)]:=rfl
   rw[e1,e2,w1,w2,Int.add_zero];rfl
  ·cases e
   have d1:decide (wordOf 1=("round" : Str))=false:=by decide
   have d2:([PyData.str ("bid" : Str),PyData.str ("due" : Str)].any λy=>y.eqv (PyData.str (wordOf 1)))=true:=by simp only[xH,any_nil,Zlv];decide
   have d3:decide (wordOf 1=("due" : Str))=false:=by decide
   have zl:decide (((j:Nat):Int)<((ss.map Zd0).length:Nat))=true:=by simp;omega
   have hat:atI (ss.map Zd0) ((j:Nat):Int)=some (Zd0 ss[j]):=Zcs (by rw[vH,gEq hi];rfl)
   have heq:PyData.eqv (tI ss[j].1) (PyData.tuple (List.map PyData.int ss[j].1))=true:=Zsi ss[j].1
   simp! only[d1,d2,d3,z0,zl]
   refine⟨L2.sz2,wlay 1 (by decide),_,hat,?_⟩
   simp! only[Zd0]
   refine⟨_,rfl,⟨Zdh _,Zdh _,Zdv _,Zdv _⟩,?_⟩
   simp! only[heq,gInt1,d3]
   refine⟨⟨_,rfl⟩,_,hn0,L2.sz2,_,hn0,L2.sz2,L2.sz2,?_⟩
   refine⟨_,rfl,_,rfl,hbig,_,hat,?_⟩
   simp! only[Zd0]
   refine⟨_,rfl,_,hat,?_⟩
   simp! only[Zd0]
   refine⟨_,rfl,?_⟩
   simp!
   refine⟨L2.sz2,_,rfl,?_⟩
   simp!
   refine⟨some (.d (Zc8 (1,j,ss[j].1))),some (.d (.str (wordOf 1))),some (.d (.int (j:Nat))),some (.d (tI ss[j].1)),o10,o11,?_⟩
   have w1:Zag rs ss (1,j,ss[j].1)=ss[j].2:=by simp[Zag,gEq hi]
   have w2:endD n rs (1,j,ss[j].1)=.tuple [tI (Zas n),tI ss[j].1]:=by simp[endD,Zbp]
   rw[e1,e2,w1,w2];rfl
  ·cases e
   have d1:decide (wordOf 2=("round" : Str))=false:=by decide
   have d2:([PyData.str ("bid" : Str),PyData.str ("due" : Str)].any λy=>y.eqv (PyData.str (wordOf 2)))=true:=by simp only[xH,any_nil,Zlv];decide
   have d3:decide (wordOf 2=("due" : Str))=true:=by decide
   have zl:decide (((j:Nat):Int)<((ss.map Zd0).length:Nat))=true:=by simp;omega
   have hat:atI (ss.map Zd0) ((j:Nat):Int)=some (Zd0 ss[j]):=Zcs (by rw[vH,gEq hi];rfl)
   have heq:PyData.eqv (tI ss[j].1) (PyData.tuple (List.map PyData.int ss[j].1))=true:=Zsi ss[j].1
   simp! only[d1,d2,d3,z0,zl]
   refine⟨L2.sz2,wlay 2 (by decide),_,hat,?_⟩
   simp! only[Zd0]
   refine⟨_,rfl,⟨Zdh _,Zdh _,Zdv _,Zdv _⟩,?_⟩
   simp! only[heq,gInt1,d3]
   refine⟨⟨_,rfl⟩,_,hn0,L2.sz2,_,hn0,L2.sz2,L2.sz2,?_⟩
   refine⟨_,rfl,_,rfl,hbig,_,hat,?_⟩
   simp! only[Zd0]
   refine⟨_,rfl,_,hat,?_⟩
   simp! only[Zd0]
   refine⟨_,rfl,?_⟩
   simp!
   refine⟨L2.sz2,_,rfl,?_⟩
   simp!
   refine⟨some (.d (Zc8 (2,j,ss[j].1))),some (.d (.str (wordOf 2))),some (.d (.int (j:Nat))),some (.d (tI ss[j].1)),o10,o11,?_⟩
   have w1:Zag rs ss (2,j,ss[j].1)=0-ss[j].2:=by simp[Zag,gEq hi]
   have w2:endD n rs (2,j,ss[j].1)=.tuple [tI ss[j].1,tI (Zas n)]:=by simp[endD,Zbp]
   rw[e1,e2,w1,w2];rfl
  ·cases e
   have d1:decide (wordOf 0=("round" : Str))=true:=by decide
   have zl:decide (((j:Nat):Int)<((rs.map rowD).length:Nat))=true:=by simp;omega
   have hr:=hH.row _ (yT hi)
   simp! only[d1,z0,zl]
   refine⟨rowD rs[j],Zcs (by rw[vH,gEq hi];rfl),?_⟩
   simp! only[rowD]
   refine⟨⟨_,rfl⟩,L2.sz2,_,rfl,hbig,_,⟨rs[j].1,b,rfl,hr.2.2.1,hbl.2,by omega,rfl⟩,?_⟩
   simp!
   refine⟨_,⟨rs[j].1,rs[j].2,rfl,hr.2.2.1,hr.2.2.2,by omega,rfl⟩,?_⟩
   simp!
   refine⟨some (.d (Zc8 (0,j,b))),some (.d (.str (wordOf 0))),some (.d (.int (j:Nat))),some (.d (tI b)),some (.d (tI rs[j].1)),some (.d (tI rs[j].2)),?_⟩
   have w1:Zag rs ss (0,j,b)=dot rs[j].1 b-dot rs[j].1 rs[j].2:=by simp[Zag,gEq hi]
   have w2:endD n rs (0,j,b)=.tuple [tI rs[j].2,tI b]:=by simp[endD,Zbp,gEq hi]
   rw[e1,e2,w1,w2,<- Int.add_sub_assoc];rfl
 ·rintro s ⟨o6,o7,o8,o9,o10,o11,rfl⟩
  simp!
  rw[yR]
  obtain⟨pts,hp0,hpts⟩:=R.ch
  refine ite2 (λ_=>?_) (λc=>absurd R.neg (by simpa using c))
  rw[lmp]
  refine⟨⟨by omega,by omega⟩,?_⟩
  unfold rngD
  have hend:∀j (hj:j<es.length),atI (es.map (endD n rs)) (j:Int)=some (.tuple [tI (pts j),tI (pts (j+1))]):=λj hj=>
   Zcs (by rw[vH,gEq hj];show some (endD n rs es[j])=_;unfold endD;rw[hpts j hj])
  have hlast:atI (es.map (endD n rs)) (-1)=some (.tuple [tI (pts (es.length-1)),tI (pts es.length)]):=by
   have e:es=es.dropLast++[es[es.length-1]]:=by
    rw[<- List.getLast_eq_getElem (List.ne_nil_of_length_pos (by omega)),List.dropLast_concat_getLast]
   have h3:atI (es.map (endD n rs)) (-1)=some (endD n rs es[es.length-1]):=by
    conv=>lhs;rw[e,xE]
    exact Zqt _ _
   rw[h3]
   unfold endD
   rw[hpts (es.length-1) (by omega)]
   have:es.length-1+1=es.length:=by omega
   rw[this]
  refine Zcp (List.range (es.length:Int).toNat) (λ(i:Nat)=>.int (0+(i:Int))) (λ_=>.bool true) [] rfl trivial (Zb7 (by simp;omega)) ?_ ?_
  ·intro j hj Q hQ
   have hj':j<es.length:=by have:=zQ.mp hj;omega
   simp!
   have hprev:∃a:List Int,atI (es.map (endD n rs)) (0+(j:Int)-1)=some (.tuple [tI a,tI (pts j)]):=by
    cases j with
    | zero=>exact⟨_,by rw[<- hp0];exact hlast⟩
    | succ j=>
     have e9:(0:Int)+((j+1:Nat):Int)-1=(j:Int):=by omega
     exact⟨_,by rw[e9];exact hend j (by omega)⟩
   obtain⟨a,ha⟩:=hprev
   refine⟨_,ha,?_⟩
   simp!
   refine⟨_,rfl,_,(by rw[Int.zero_add];exact hend j hj'),?_⟩
   simp!
   refine⟨_,rfl,⟨Zdh _,Zdh _,Zdv _,Zdv _⟩,?_⟩
   rw[Zia]
   simp! only[tK]
   exact hQ
  ·rw[xN,Zkf _ (λ_=>true)]
   have eall:((List.range (es.length:Int).toNat).map λ_=>true).all id=true:=by simp
   simp! only[eall]
   exact⟨_,OW.le.new (OW.le.refl o) hp _,hq⟩
def Shown(k:Nat)(rs:List Rnd)(ss:List Sea)(r:PyData):Prop:=
 (anyB k rs ss=true/\Fine k rs ss/\r=.tuple [.str "worths",Zg4 k rs ss])\/(anyB k rs ss=false/\∃es,IsRing k rs ss es/\r=.tuple [.str "ring",.tuple (es.map Zc8)])
def Ze4:DSp:=pureS λvs r=>∃k rs ss t,vs=[.d t,.d (Ze0 rs),.d (Zdg ss),.d (.int (k:Nat))]/\Hist k rs ss/\Shown k rs ss t/\r=.bool true
theorem Zdz:MoS Ze4:=Zbv
theorem Zhp:∀vs w k,Ze4 vs w k->vs.length=4:=Zbw (by rintro vs r ⟨k,rs,ss,t,rfl,_⟩;rfl)
theorem Zi4(T:Txt K mg):Dn P w K mg base 4 "_law_is_shown" sLawIsShown ["_law_told_here","_law_rows","_law_seals","_law_several"] (spD K Ze4):=by
 have D_law_are_any:=Zj3 (P:=P) (w:=w) (base:=base) T
 have D_law_are_worths:=Zh0 (P:=P) (w:=w) (base:=base) T
 have D_law_is_ring:=Zj5 (P:=P) (w:=w) (base:=base) T
 have D_law_told:=Zg8 (P:=P) (w:=w) (base:=base) T
 refine Dn.data (k:=3) T.f_law_is_shown Zir Zhp (λa cdv A outer s H E hr=>⟨_,_,IPSs.get (Za4 (Zba (IPW.pt (Zf4 (Zcr (Zcy (Zab Zec rfl T.z_isinstance sJ (Za0 (i_pv 0) (Za0 (Zdq (v:=.ty "tuple") rfl T.z_tuple (by decide +kernel) rfl) Za3))))) (Zf4 (Zau Zmd (Zab Zb5 rfl T.z_len tM (Za0 (i_pv 0) Za3)) Za5 (nomark _)) (Zef (Zcr (Zcy (Zab Zec rfl T.z_isinstance sJ (Za0 (Zak Zbn (i_pv 0) Za5 (λ_ _=>rfl)) (Za0 (Zdq (v:=.ty "str") rfl T.z_str (by decide +kernel) rfl) Za3))))))))) (Za8 (Zae (Zce))) Zao)
  (Za4 (Zba (Zcy (Zar D_law_are_any Ziy (hr.mono (by decide)) (Za0 (i_pv 1) (Za0 (i_pv 2) (Za0 (i_pv 3) Za3))))) (Za8 (Zae (Zfy (Zdr Zha (Zak Zbn (i_pv 0) Za5 (λ_ _=>rfl)) Zbt (nomark _)) (Zgl (Zar D_law_are_worths Zgy (hr.mono (by decide)) (Za0 (Zak Zbn (i_pv 0) Za5 (λ_ _=>rfl)) (Za0 (i_pv 1) (Za0 (i_pv 2) (Za0 (i_pv 3) Za3))))))))) Zao)
  (Za8 (Zae (Zfy (Zdr Zha (Zak Zbn (i_pv 0) Za5 (λ_ _=>rfl)) Zbt (nomark _)) (Zgl (Zar D_law_is_ring Zj0 (hr.mono (by decide)) (Za0 (Zak Zbn (i_pv 0) Za5 (λ_ _=>rfl)) (Za0 (i_pv 1) (Za0 (i_pv 2) (Za0 (Zar D_law_told Zg6 (hr.mono (by decide)) (Za0 (i_pv 1) (Za0 (i_pv 2) (Za0 (i_pv 3) Za3)))) Za3))))))))))),(Zac (Zd2 (Zk9 (Zeg (rt_b (Zbx Zhl (Za1 (Za2 0) (Za1 Zle Za6))))) (Zk9 (Zbf (Zal Zmi (Zbx Zdt (Za1 (Za2 0) Za6)) Zap)) (Zeg (rt_b (Zbx Zhl (Za1 (Zal Zbi (Za2 0) Zap) (Za1 Zle Za6))))))) (Zbc Zes) Zbd)
  (Zac (Zd2 (rt_b (Zb4 Zik (Za1 (Za2 1) (Za1 (Za2 2) (Za1 (Za2 3) Za6))))) (Zbc (Zhb (Zal Zhc (Zal Zbi (Za2 0) Zap) Zdd) (Zb4 Zgt (Za1 (Zal Zbi (Za2 0) Zap) (Za1 (Za2 1) (Za1 (Za2 2) (Za1 (Za2 3) Za6))))))) Zbd)
  (Zbc (Zhb (Zal Zhc (Zal Zbi (Za2 0) Zap) Zdd) (Zb4 Zim (Za1 (Zal Zbi (Za2 0) Zap) (Za1 (Za2 1) (Za1 (Za2 2) (Za1 (Zb4 Zfp (Za1 (Za2 1) (Za1 (Za2 2) (Za1 (Za2 3) Za6)))) Za6))))))))),λas o q h=>?_⟩)
 obtain⟨r,⟨n,rs,ss,t,rfl,hH,hS,rfl⟩,hq⟩:=h
 have e2:decide (((2:Nat):Int)=2)=true:=rfl
 rcases hS with ⟨ha,F,rfl⟩|⟨ha,es,R,rfl⟩
 ·simp! only[tyN]
  refine⟨true,λ_=>rfl,?_⟩
  simp! only[e2]
  refine⟨_,rfl,?_⟩
  simp! only[tyN]
  refine⟨true,λ_=>rfl,?_⟩
  simp!
  refine⟨_,⟨n,rs,ss,rfl,hH,rfl⟩,?_⟩
  simp! only[ha]
  refine⟨_,rfl,?_⟩
  simp! only[tK]
  refine⟨_,rfl,_,⟨n,rs,ss,rfl,F,rfl⟩,?_⟩
  exact⟨_,OW.le.refl _,hq⟩
 ·simp! only[tyN]
  refine⟨true,λ_=>rfl,?_⟩
  simp! only[e2]
  refine⟨_,rfl,?_⟩
  simp! only[tyN]
  refine⟨true,λ_=>rfl,?_⟩
  simp!
  refine⟨_,⟨n,rs,ss,rfl,hH,rfl⟩,?_⟩
  simp! only[ha]
  refine⟨_,rfl,?_⟩
  simp! only[tK]
  refine⟨_,rfl,_,⟨n,rs,ss,rfl,hH,rfl⟩,_,⟨n,rs,ss,es,rfl,hH,R,rfl⟩,?_⟩
  exact⟨_,OW.le.refl _,hq⟩
end
section
variable {P:Program}{w:World}{K:Frag}{mg:Str->Option Value}{base:Heap}
structure Mild(k:Nat)(rs:List Rnd)(ss:List Sea):Prop where
 k1:1≤k
 k3:k≤3
 row:∀r∈rs,r.1.length=k/\r.2.length=k/\(∀x∈r.1,x.natAbs≤2 ^ 20)/\∀x∈r.2,x.natAbs≤2 ^ 20
 sea:∀s∈ss,s.1.length=k/\(∀x∈s.1,x.natAbs≤2 ^ 20)/\s.2.natAbs≤2 ^ 40
 rl:rs.length≤12
 sl:ss.length≤12
theorem sm20{l:List Int}(h:∀x∈l,x.natAbs≤2 ^ 20):Sm l:=λx hx=>uL (h x hx) (by decide)
theorem Mild.hist{k:Nat}{rs:List Rnd}{ss:List Sea}(M:Mild k rs ss):Hist k rs ss:=
 ⟨M.k1,M.k3,λr hr=>let ⟨a,b,c,d⟩:=M.row r hr;⟨a,b,sm20 c,sm20 d⟩,λs hs=>let ⟨a,b,_⟩:=M.sea s hs;⟨a,sm20 b⟩,zR M.rl (by decide),zR M.sl (by decide)⟩
theorem Zqj{c:Nat}:∀l:List Int,(∀x∈l,x.natAbs≤c)->l.sum.natAbs≤c*l.length
 | [],_=>by simp
 | x::l,h=>by
  rw[List.sum_cons,yP,Nat.mul_add,Nat.mul_one]
  have h1:=h x (zT ..)
  have h2:=Zqj l λy hy=>h y (zU _ hy)
  omega
theorem Zp0{ns ms:List Int}(h1:∀x∈ns,x.natAbs≤2 ^ 20)(h2:∀x∈ms,x.natAbs≤2 ^ 20)(hl:ns.length≤3):(dot ns ms).natAbs≤2 ^ 42:=by
 unfold dot
 have h:=Zqj (c:=2 ^ 40) ((ns.zip ms).map λp=>p.1*p.2) λx hx=>by
  obtain⟨p,hp,rfl⟩:=xF.mp hx
  obtain⟨a,b⟩:=vC hp
  rw[Int.natAbs_mul]
  exact zR (sC (h1 _ a) (h2 _ b)) (by decide)
 rw[lmp,xP]at h
 omega
theorem Mild.told{k:Nat}{rs:List Rnd}{ss:List Sea}(M:Mild k rs ss):∀b∈Zam k rs ss,∀x∈b,x.natAbs≤2 ^ 20:=λb hb=>by
 rcases Zcd.mp hb with rfl|⟨r,hr,rfl⟩|⟨r,hr,rfl⟩
 ·intro x hx;rw[(tR.mp hx).2];decide
 ·exact(M.row r hr).2.2.2
 ·exact(M.sea r hr).2.1
theorem Mild.weight{k:Nat}{rs:List Rnd}{ss:List Sea}(M:Mild k rs ss):∀e∈Zd6 (Zam k rs ss) rs ss,(Zag rs ss e).natAbs≤2 ^ 60:=λe he=>by
 have hk:=M.k3
 rcases Zc0.mp he with ⟨b,hb,rfl⟩|⟨i,hi,h⟩|⟨i,hi,b,hb,rfl⟩
 ·show(0:Int).natAbs≤_;decide
 ·have h1:=(M.sea _ (yT hi)).2.2
  rcases h with rfl|rfl
  ·have e1:Zag rs ss (1,i,ss[i].1)=ss[i].2:=by simp[Zag,gEq hi]
   rw[e1];omega
  ·have e1:Zag rs ss (2,i,ss[i].1) = -ss[i].2:=by simp[Zag,gEq hi]
   rw[e1];omega
 ·obtain⟨g1,g2,g3,g4⟩:=M.row _ (yT hi)
  have e2:Zag rs ss (0,i,b)=dot rs[i].1 b-dot rs[i].1 rs[i].2:=by simp[Zag,gEq hi]
  have d1:=Zp0 g3 (M.told b hb) (by omega)
  have d2:=Zp0 g3 g4 (by omega)
  rw[e2];omega
def answD(k:Nat)(rs:List Rnd)(ss:List Sea):PyData:=.tuple [.str "worths",Zg4 k rs ss]
theorem Zsz{k:Nat}{rs:List Rnd}{ss:List Sea}(F:Fine k rs ss):okR (answD k rs ss):=
 (Rp.tup (D:=3) (W:=20100) (Rps.cons (a:=10) (b:=20001) ((Rp.str (s:=("worths" : Str)) (by decide +kernel)).mono (by decide) (by decide +kernel)) (Rps.cons (b:=0) (Zvy F) Rps.nil (by decide)) (by decide))).ok (by decide) (by decide)
theorem Zun:∀w<4,PyData.strOk (wordOf w)=true/\(wordOf w).cps.size≤10:=by decide +kernel
theorem Zuc{k:Nat}{rs:List Rnd}{ss:List Sea}(hH:Hist k rs ss){es:List Stp}(R:IsRing k rs ss es):okR (.tuple [.str "ring",.tuple (es.map Zc8)]):=by
 have hv:=Zfs (rs:=rs) hH.told hH.sea
 have h1:∀e∈es,Rp 2 500 (Zc8 e):=λe he=>by
  obtain⟨v1,v2,v3,v4,v5⟩:=hv e (R.mem e he)
  have hrl:=hH.rl
  have hsl:=hH.sl
  have hk3:=hH.k3
  have hp:e.2.1≤13:=by
   rcases Zc0.mp (R.mem e he) with ⟨b,hb,rfl⟩|⟨i,hi,rfl|rfl⟩|⟨i,hi,b,hb,rfl⟩
   ·exact yE _
   ·show i≤13;omega
   ·show i≤13;omega
   ·show i≤13;omega
  obtain⟨s1,s2⟩:=Zun e.1 (by omega)
  refine Rp.tup (Rps.cons (a:=10) (b:=480) ((Rp.str s1).mono (by decide) s2) (Rps.cons (a:=100) (b:=310) ((Rp.int (n:=((e.2.1:Nat):Int)) (uL (show((e.2.1:Nat):Int).natAbs≤13 by omega) (by decide))).mono (by decide) (wR _)) (Rps.cons (b:=0) (Zuj v2 (by omega)) Rps.nil (by decide)) (by decide)) (by decide))
 have h2:=R.n27
 exact(Rp.tup (D:=3) (W:=14000) (Rps.cons (a:=10) (b:=13900) ((Rp.str (s:=("ring" : Str)) (by decide +kernel)).mono (by decide) (by decide +kernel)) (Rps.cons (a:=13800) (b:=0) ((Rp.tup (Rps.map es h1)).mono (by decide) (by omega)) Rps.nil (by decide)) (by decide))).ok (by decide) (by decide)
theorem Mild.shown{k:Nat}{rs:List Rnd}{ss:List Sea}(M:Mild k rs ss):∃t,Shown k rs ss t/\isR t=true/\okR t/\∀(w:OW) (q:Val->OW->Prop),q (.d t) w->Zgi [.d (Ze0 rs),.d (Zdg ss),.d (.int (k:Nat))] w q:=by
 rcases dichotomy M.hist with ⟨W,h1,R⟩|⟨h1,b,d,h2,h3,h4⟩
 ·have F:Fine k rs ss:=⟨M.hist,R,λb hb=>by
   have q:=R.sm (2 ^ 60) M.weight b hb
   have:=told27 M.hist
   have h3:(Zam k rs ss).length*2 ^ 60≤27*2 ^ 60:=xZ _ this
   omega⟩
  exact⟨_,.inl ⟨by unfold anyB;rw[h1];rfl,F,rfl⟩,rfl,Zsz F,λw q hq=>⟨_,⟨k,rs,ss,rfl,M.hist,.inl ⟨R.none,R.all,rfl⟩⟩,hq⟩⟩
 ·exact⟨_,.inr ⟨by unfold anyB;rw[h1];rfl,_,h4,rfl⟩,rfl,Zuc M.hist h4,λw q hq=>⟨_,⟨k,rs,ss,rfl,M.hist,.inr ⟨b,d,h2,h3,rfl⟩⟩,hq⟩⟩
def Sml(k:Nat)(b:List Int):Prop:=b.length=k/\∀x∈b,0≤x/\x<1000
def Zfj:DSp:=urnS 4 (λas=>∃k:Nat,as=[.d (.int (k:Nat))]/\k≤3) (λas r=>∃k:Nat,as=[.d (.int (k:Nat))]/\∃b,r=tI b/\Sml k b)
theorem Zk2:MoS Zfj:=Zn6
theorem Zjy:∀vs w k,Zfj vs w k->vs.length=2:=Zqo (n:=1) (by rintro vs ⟨k,rfl,_⟩;rfl)
theorem Zks(T:Txt K mg):Dn P w K mg base 2 "_law_small" sLawSmall ["_law_urn_here","_law_several"] (spD K Zfj):=by
 have D_law_draw:=Zg7 (P:=P) (w:=w) (base:=base) T
 refine Dn.data (k:=1) T.f_law_small Zhm Zjy (λa cdv A outer s H E hr=>⟨_,_,IPSs.get (Za4 (Zan (i:=2) Zhm.nd rfl (uN rfl) (Zak Zcu (Zcq (Za0 Za5 (Za0 Za5 (Za0 Za5 (Za0 Za5 Za3))))) (Zar D_law_draw Zct (hr.mono (by decide)) (Za0 (i_pv 0) (Za0 Za5 Za3))) (λ_ _=>rfl)))
  (Za8 (Zae (Zcj Zci rfl T.z_tuple (by decide +kernel) (Za0 (by refine' Zbq (Nc:=["_law_k","_law_urn_here","_law_wide"]) (cap:=[none,some 0,some 2]) rfl ?i ?k ?g ?t ?e;(case k=>kernel_rfl);(case i=>exact(Zbl rfl T.z_range (Za0 (i_pv 1) Za3)));(case g=>exact(λ_ _ _ _ _=>(Zd3 0 (by show List.Nodup (["_law_k","_law_urn_here","_law_wide"]:List Str);decide +kernel))));(case t=>exact(λ_ _ _ _ _=>Zbh));(case e=>exact(λ_ _ _ _ _=>(Zar D_law_draw Zct (hr.mono (by decide)) (Za0 (Zfo 1) (Za0 (Zfo 2) Za3)) (hg:=Zdy))))) Za3))))),(Zac (Zbb (Zal Zfq (Zet false (Za1 Zap (Za1 Zap (Za1 Zap (Za1 Zap Za6))))) (Zb4 Zch (Za1 (Za2 0) (Za1 Zap Za6)))) (Za7 2))
  (Zbc (Zbx Zf9 (Za1 (Zca false (Zdm (Za1 (Za2 1) Za6)) (Za7 0) Zcx (Zcb (Zb4 Zch (Za1 (Za2 1) (Za1 (Za2 2) Za6))))) Za6)))),λas o q h=>?_⟩)
 obtain⟨u,as,m,rfl,hw,hm,⟨n,rfl,hn⟩,hq⟩:=Zqp h
 rw[hw]
 simp! only[dComp]
 refine⟨by decide,?_⟩
 refine Zfh (by omega) (by decide) (by decide) λd h0 h3=>?_
 simp!
 have key:∃wd:Int,atI [PyData.int 2,PyData.int 3,PyData.int 5,PyData.int 1000] d=some (.int wd)/\0<wd/\wd≤1000:=by
  have:d=0\/d=1\/d=2\/d=3:=by omega
  rcases this with rfl|rfl|rfl|rfl
  ·exact⟨2,rfl,by decide,by decide⟩
  ·exact⟨3,rfl,by decide,by decide⟩
  ·exact⟨5,rfl,by decide,by decide⟩
  ·exact⟨1000,rfl,by decide,by decide⟩
 obtain⟨wd,ewd,wd0,wd1⟩:=key
 refine⟨_,ewd,?_⟩
 simp!
 refine⟨⟨by omega,by omega⟩,?_⟩
 unfold rngD
 refine Zk0 (List.range (n:Int).toNat) (λ(i:Nat)=>.int (0+(i:Int))) (λx:Int=>.int x) (λ_ x=>0≤x/\x<wd) 1 rfl (λ_=>trivial) (Zb7 (by rw[tS];omega)) ?_ ?_
 ·intro i hi m1 hm1 Q hQ
  simp!
  rw[tS]at hm1
  refine Zfh (by omega) wd0 (by omega) λx hx0 hx4=>?_
  simp!
  exact hQ x _ ⟨hx0,hx4⟩ (wR _)
 ·intro ys m1 hl hP hm1
  simp!
  have hl0:=hl
  rw[tS]at hl hm1
  refine hq (.tuple _) m1 ⟨n,rfl,ys,rfl,by omega,λx hx=>?_⟩ (by omega)
  obtain⟨_,_,this⟩:=Zix (P:=λ_ x=>0≤x/\x<wd) hl0 hP x hx
  omega
end
section
variable {P:Program}{w:World}{K:Frag}{mg:Str->Option Value}{base:Heap}
def RowOk(k:Nat)(r:Rnd):Prop:=r.1.length=k/\r.2.length=k/\(∀x∈r.1,x.natAbs≤2 ^ 20)/\∀x∈r.2,x.natAbs≤2 ^ 20
theorem Sml.b20{k:Nat}{b:List Int}(h:Sml k b):∀x∈b,x.natAbs≤2 ^ 20:=λx hx=>by have:=h.2 x hx;omega
def qLam:Str:=("_law_turning" : Str)++".<locals>."++"<lambda>"
abbrev tabL(t:Option Addr):Own:=.tab 196 45 qLam t
def Zc9(Pt:Addr):DSp:=λvs w q=>match vs with
 | [.own u]=>∃m t,w u=some (.urn m)/\m+200≤1000000/\w Pt=some (tabL t)/\∀(k:Nat) (rs:List Rnd) (m':Nat) t',Mild k rs []->m'≤m+200->q (.d (.tuple [Ze0 rs,.int (k:Nat)])) ((w.put Pt (tabL t')).put u (.urn m'))
 | _=>False
theorem Zin{Pt:Addr}:MoS (Zc9 Pt):=λvs w k k' h q=>by
 unfold Zc9 at q |-;split at q
 ·obtain⟨m,t,h1,h2,h3,h4⟩:=q;exact⟨m,t,h1,h2,h3,λa b c d e f=>h _ _ (h4 a b c d e f)⟩
 ·exact q.elim
theorem Zii{Pt:Addr}:∀vs w k,Zc9 Pt vs w k->vs.length=1:=λvs w k q=>by
 unfold Zc9 at q;split at q
 ·rfl
 ·exact q.elim
theorem Zob{Pt:Addr}{vs:List Val}{w:OW}{q:Val->OW->Prop}(h:Zc9 Pt vs w q):∃u m t,vs=[.own u]/\w u=some (.urn m)/\m+200≤1000000/\w Pt=some (tabL t)/\∀(k:Nat) (rs:List Rnd) (m':Nat) t',Mild k rs []->m'≤m+200->q (.d (.tuple [Ze0 rs,.int (k:Nat)])) ((w.put Pt (tabL t')).put u (.urn m')):=by
 unfold Zc9 at h;split at h
 ·obtain⟨m,t,h1,h2,h3,h4⟩:=h;exact⟨_,m,t,rfl,h1,h2,h3,h4⟩
 ·exact h.elim
theorem Zj6(T:Txt K mg){Pt:Addr}(TB:LamU K mg "_law_turning" sLawTurning Pt):Dn P w K mg base 6 "_law_turning" sLawTurning ["_law_urn_here"] (spD K (Zc9 Pt)):=by
 have D_law_cost:=Zf0 (P:=P) (w:=w) (base:=base) T
 have D_law_draw:=Zg7 (P:=P) (w:=w) (base:=base) T
 have D_law_prices:=Zjw (P:=P) (w:=w) (base:=base) T
 have D_law_small:=Zks (P:=P) (w:=w) (base:=base) T
 refine Dn.dataL (Pt:=Pt) (k:=5) TB Zbz Zii (λa cdv A outer s H E LT hr=>⟨_,_,(Za4 (Zan (i:=1) Zbz.nd rfl (uN rfl) (Zaj Zd5 Za5 (Zar D_law_draw Zct (hr.mono (by decide)) (Za0 (i_pv 0) (Za0 Za5 Za3)))))
  (Za4 (by refine' Zfn (i:=2) Zbz.nd rfl (uM rfl) (Nc:=["_law_k","_law_urn_here","_law_several"]) (cap:=[none,some 0,some 1]) rfl ?i ?k ?g ?t ?e;(case k=>kernel_rfl);(case i=>exact(Zbl rfl T.z_range (Za0 (Zaj Zd5 Za5 (Zar D_law_draw Zct (hr.mono (by decide)) (Za0 (i_pv 0) (Za0 Za5 Za3)))) Za3)));(case g=>exact(λ_ _ _ _ _=>(Zd3 0 (by show List.Nodup (["_law_k","_law_urn_here","_law_several"]:List Str);decide +kernel))));(case t=>exact(λ_ _ _ _ _=>Zbh));(case e=>exact(λ_ _ _ _ _=>(Zar D_law_small Zkj (hr.mono (by decide)) (Za0 (Zfo 1) (Za0 (Zfo 2) Za3)) (hg:=Zdy)))))
  (Za4 (Zan (i:=3) Zbz.nd rfl (uM rfl) (Zcq Za3))
  (Za4 (Zbu tV rfl (Zbl rfl T.z_range (Za0 (Zaj Zd5 Za5 (Zar D_law_draw Zct (hr.mono (by decide)) (Za0 (i_pv 0) (Za0 Za5 Za3)))) Za3)) (Zaa (i:=4) Zbz.nd rfl (uM rfl)) (Za4 (Zan (i:=5) Zbz.nd rfl (uN rfl) (Zar D_law_prices Zjr (hr.mono (by decide)) (Za0 (i_pv 0) (Za0 (i_pv 1) Za3))))
  (Za4 (Zan (i:=6) Zbz.nd rfl (uM rfl) (Zak Zcu (i_pv 2) (Zaj Zhj (i_pv 4) (Zab Zb5 rfl T.z_len tM (Za0 (i_pv 2) Za3))) (λ_ _=>rfl)))
  (Za4 (Zba (Zau Ztj (Zar D_law_draw Zct (hr.mono (by decide)) (Za0 (i_pv 0) (Za0 Za5 Za3))) Za5 (nomark _)) (Za8 (Zan (i:=6) Zbz.nd rfl (uM rfl) (Zpb (K:=K) (x:="_law_one") (y:="_law_prices_here") (iy:=5) (j:=2) (l:=196) (cc:=45) (qual:=qLam) rfl rfl rfl rfl rfl T.z_max rfl (i_pv 2) LT (LamS.of (by decide +kernel)) rfl rfl rfl rfl (λ_ _ _ _ _=>rfl) rfl (hr.mono (by decide)) (λ_ _ _ _ hr=>(Zar D_law_cost Zd7 (hr.mono (by decide)) (Za0 (i_pv 1) (Za0 (i_pv 0) Za3)))) rfl))) Zao)
  (Za8 (Zcm (Zda tW tX tY Zcn (i_pv 3) (Za0 (Zb6 (Za0 (i_pv 5) (Za0 (i_pv 6) Za3))) Za3))))))))
  (Za8 (Zae (Zb6 (Za0 (Zcj Zci rfl T.z_tuple (by decide +kernel) (Za0 (i_pv 3) Za3)) (Za0 (i_pv 1) Za3))))))))),(Zac (Zbb (Zal Zeu Zap (Zb4 Zch (Za1 (Za2 0) (Za1 Zap Za6)))) (Za7 1))
  (Zac (Zbb (Zca false (Zdm (Za1 (Zal Zeu Zap (Zb4 Zch (Za1 (Za2 0) (Za1 Zap Za6)))) Za6)) (Za7 0) Zcx (Zcb (Zb4 Zk2 (Za1 (Za2 1) (Za1 (Za2 2) Za6))))) (Za7 2))
  (Zac (Zbb (Zet true Za6) (Za7 3))
  (Zac (Zde (Zdm (Za1 (Zal Zeu Zap (Zb4 Zch (Za1 (Za2 0) (Za1 Zap Za6)))) Za6)) (Za7 4) (Zac (Zbb (Zb4 Zj9 (Za1 (Za2 0) (Za1 (Za2 1) Za6))) (Za7 5))
  (Zac (Zbb (Zal Zfq (Za2 2) (Zal ro_I (Za2 4) (Zbx Zdt (Za1 (Za2 2) Za6)))) (Za7 6))
  (Zac (Zd2 (Zbf (Zal Zhs (Zb4 Zch (Za1 (Za2 0) (Za1 Zap Za6))) Zap)) (Zbb (Zu9 (Za2 2) (Zb4 Zcv (Za1 (Za2 1) (Za1 (Za2 0) Za6)))) (Za7 6)) Zbd)
  (Ze1 (Zfc (Za2 3) (Za1 (Zc2 (Za1 (Za2 5) (Za1 (Za2 6) Za6))) Za6)))))))
  (Zbc (Zc2 (Za1 (Zbx Zf9 (Za1 (Za2 3) Za6)) (Za1 (Za2 1) Za6)))))))),λas o q h=>?_⟩)
 obtain⟨u,m,t,rfl,hu,hm,hP,hq⟩:=Zob h
 have nuP:Pt≠u:=λe=>by rw[e,hu]at hP;cases hP
 have hw:o=(o.put Pt (tabL t)).put u (.urn m):=by rw[Znb hP,Znb hu]
 rw[hw]
 simp! only[dComp]
 refine Zfh (by omega) (by decide) (by decide) λc hc0 hc1=>?_
 obtain⟨c,rfl⟩:=sK hc0
 have ek:(2:Int)+(c:Int)=((2+c:Nat):Int):=by omega
 have hk:2≤2+c/\2+c≤3:=by omega
 simp!
 rw[ek]
 generalize 2+c=k at *
 simp!
 refine Zfh (by omega) (by decide) (by decide) λc2 hd0 hd1=>?_
 simp!
 refine⟨⟨by omega,by omega⟩,?_⟩
 unfold rngD
 refine Zk0 (List.range (2+c2).toNat) (λ(i:Nat)=>.int (0+(i:Int))) tI (λ_ b=>Sml k b) 4 rfl (λ_=>trivial) (Zb7 (by rw[tS];omega)) ?_ ?_
 ·intro i hi m1 hm1 Q hQ
  simp!
  rw[tS]at hm1
  refine Zqn (by omega) ⟨k,rfl,hk.2⟩ ?_
  rintro r ⟨k',e',b,rfl,hb⟩
  simp!
  have ek:k=k':=by
   have:(k:Int)=(k':Int):=by simpa using e'
   omega
  subst ek
  exact hQ b _ hb (wR _)
 intro B m0 hBl hBP hm0
 have hBl0:=hBl
 rw[tS]at hBl hm0
 have hB:∀b∈B,Sml k b:=λb hb=>by obtain⟨_,_,h5⟩:=Zix (P:=λ_ b=>Sml k b) hBl0 hBP b hb;exact h5
 have hBB:B.length≤5/\2≤B.length:=by omega
 have hmm:m0≤m+25:=by omega
 simp!
 refine⟨by decide,λp hp=>?_⟩
 have np:p≠u:=λe=>by rw[e,OW.put_same]at hp;cases hp
 have npP:p≠Pt:=λe=>by rw[e,OW.put_ne nuP,OW.put_same]at hp;cases hp
 have eW:∀(X Y:Own) (j:Nat),(((o.put Pt X).put u (.urn j)).put p Y)=((o.put Pt X).put p Y).put u (.urn j):=λX Y j=>by rw[Zhw np]
 have gp:∀(X Y:Own) (j:Nat),(((o.put Pt X).put p Y).put u (.urn j)) p=some Y:=λX Y j=>by rw[OW.put_ne np,OW.put_same]
 have gP:∀(X Y:Own) (j:Nat),(((o.put Pt X).put p Y).put u (.urn j)) Pt=some X:=λX Y j=>by rw[OW.put_ne nuP,OW.put_ne (zW npP),OW.put_same]
 have sp:∀(X Y Z:Own) (j:Nat),(((o.put Pt X).put p Y).put u (.urn j)).put p Z=((o.put Pt X).put p Z).put u (.urn j):=λX Y Z j=>by rw[Zhw np,OW.put_put]
 have sP:∀(X Y Z:Own) (j:Nat),(((o.put Pt X).put p Y).put u (.urn j)).put Pt Z=((o.put Pt Z).put p Y).put u (.urn j):=λX Y Z j=>by rw[Zhw nuP,Zhw (zW npP),OW.put_put]
 rw[eW]
 simp! only[dApp,dMaxK]
 refine Zfh (by omega) (by decide) (by decide) λn hn0 hn1=>?_
 simp!
 refine⟨⟨by omega,by omega⟩,?_⟩
 have hat:∀j:Nat,j<B.length->∃b,atI (B.map tI) (j:Int)=some (tI b)/\Sml k b:=λj hj=>⟨B[j],Zcs (by rw[vH,gEq hj];rfl),hB _ (yT hj)⟩
 refine⟨λi s=>∃(o4 o5 o6:Option Val) (rs:List Rnd) (m':Nat) (t':Option Addr),s=⟨[some (.own u),some (.d (.int (k:Nat))),some (.d (.list (B.map tI))),some (.own p),o4,o5,o6],((o.put Pt (tabL t')).put p (.lst (rs.map rowD))).put u (.urn m')⟩/\rs.length=i/\(∀r∈rs,RowOk k r)/\m'≤m+27+6*i,⟨none,none,none,[],_,t,rfl,rfl,by simp,by omega⟩,λ_ _ _=>trivial,?_,?_⟩
 ·rintro i d s hd ⟨o4,o5,o6,rs,m',t',rfl,hrs,hR,hm'⟩
  have hin:i<(2+n).toNat/\d=.int (0+(i:Int)):=by
   unfold rngD at hd
   obtain⟨r,hr,rfl⟩:=Zd1 hd
   obtain⟨h1,h2⟩:=zZ.mp hr
   rw[tS]at h1
   rw[getElem_range]at h2
   subst h2
   exact⟨h1,rfl⟩
  obtain⟨hin,rfl⟩:=hin
  simp! only[lmp]
  refine Zqn (by omega) ⟨k,rfl,hk.2⟩ ?_
  rintro r ⟨k',e',P,rfl,hP⟩
  simp!
  have ek:k=k':=by
   have:(k:Int)=(k':Int):=by simpa using e'
   omega
  subst ek
  have hBp:0<((B.map tI).length:Int):=by rw[lmp];omega
  obtain⟨j,ej⟩:=sK (xA (0+(i:Int)) (Int.ne_of_gt hBp))
  have hj:j<B.length:=by
   have h1:=xB (0+(i:Int)) hBp
   rw[ej,lmp]at h1
   omega
  rw[ej]
  obtain⟨b,hb1,hb2⟩:=hat j hj
  refine⟨hBp,_,hb1,?_⟩
  have fin:∀(b:List Int) (t':Option Addr),Sml k b->2≤sizeLine/\∃ds,(((o.put Pt (tabL t')).put p (.lst (rs.map rowD))).put u (.urn (m' + 5))) p=some (.lst ds)/\ds.length<sizeLine/\∃(o4 o5 o6:Option Val) (rs':List Rnd) (m2:Nat) (t2:Option Addr),(⟨[some (.own u),some (.d (.int (k:Nat))),some (.d (.list (B.map tI))),some (.own p),some (.d (.int (0+(i:Int)))),some (.d (tI P)),some (.d (tI b))],(((o.put Pt (tabL t')).put p (.lst (rs.map rowD))).put u (.urn (m' + 5))).put p (.lst (ds++[.tuple [tI P,tI b]]))⟩:DS)=⟨[some (.own u),some (.d (.int (k:Nat))),some (.d (.list (B.map tI))),some (.own p),o4,o5,o6],((o.put Pt (tabL t2)).put p (.lst (rs'.map rowD))).put u (.urn m2)⟩/\rs'.length=i+1/\(∀r∈rs',RowOk k r)/\m2≤m+27+6*(i+1):=by
   intro b t' hb
   refine⟨L2.sz2,_,gp _ _ _,Zb7 (by rw[lmp];omega),_,_,_,rs++[(P,b)],m' + 5,t',by rw[sp,xE];rfl,by simp[hrs],λr hr=>?_,by omega⟩
   rcases zX.mp hr with hr|hr
   ·exact hR r hr
   ·rw[xD.mp hr];exact⟨hP.1,hb.1,hP.2,hb.b20⟩
  simp!
  refine Zfh (by omega) (by decide) (by decide) λz hz0 hz1=>?_
  simp!
  refine ite2 (λ_=>?_) (λ_=>?_)
  ·simp! only[dMaxK]
   refine⟨_,t',rfl,gP _ _ _,?_,λkk=>⟨λd hd=>?_,λd hd=>?_⟩⟩
   ·intro e
    rw[List.map_eq_nil_iff]at e
    rw[e]at hBB
    exact absurd hBB.2 (by decide)
   ·obtain⟨b',hb',rfl⟩:=xF.mp hd
    simp!
    exact⟨_,⟨P,b',rfl,sm20 hP.2,sm20 (hB b' hb').b20,by have:=hP.1;omega,rfl⟩,⟨_,rfl⟩,rfl⟩
   ·obtain⟨b',hb',rfl⟩:=xF.mp hd
    rw[sP]
    simp!
    exact⟨⟨_,gp _ _ _⟩,fin b' (some kk) (hB b' hb')⟩
  ·simp!
   exact⟨⟨_,gp _ _ _⟩,fin b t' hb2⟩
 ·rintro s ⟨o4,o5,o6,rs,m',t',rfl,hrs,hR,hm'⟩
  have hrs12:rs.length≤12:=by rw[hrs];simp[rngD];omega
  simp! only[gp]
  have op:o p=none:=by rw[OW.put_ne np,OW.put_ne npP]at hp;exact hp
  refine⟨L2.sz2,_,?_,hq k rs m' t' ⟨by omega,by omega,λr hr=>hR r hr,by simp,hrs12,by simp⟩ (by omega)⟩
  rw[<- eW]
  exact(OW.le.refl _).new (by rw[OW.put_ne np,OW.put_ne npP];exact op) _
end
section
variable {P:Program}{w:World}{K:Frag}{mg:Str->Option Value}{base:Heap}
theorem Mild.sub{k:Nat}{rs rs':List Rnd}(M:Mild k rs [])(h:∀r∈rs',RowOk k r)(hl:rs'.length≤12):Mild k rs' []:=⟨M.k1,M.k3,h,by simp,hl,by simp⟩
theorem Zoq{α:Type}(f:α->PyData)(xs:List α)(j:Nat):L2.cutD (xs.map f) none (some (j:Int))=(xs.take j).map f:=by
 rw[Zop (by omega),vO,List.map_take]
theorem Zms{α:Type}(f:α->PyData)(xs:List α)(j:Nat):L2.cutD (xs.map f) (some (j:Int)) none=(xs.drop j).map f:=by
 unfold L2.cutD
 rw[HT.sIx_none,HT.sIx_nat,lmp,<- List.map_drop,<- List.map_take]
 congr 1
 by_cases h:j≤xs.length
 ·rw[Nat.min_eq_left h]
  exact xO (by rw[vS];omega)
 ·rw[List.drop_eq_nil_of_le (by omega),List.drop_eq_nil_of_le (by omega)];simp
theorem Zv1(T:Txt K mg){Pt:Addr}(TB:LamU K mg "_law_turning" sLawTurning Pt){fa:Addr}{fd:FuncData}(F:Fun K "law" "law" sLaw fa fd):FnOk P w K mg base CX0 40 fa fd ["_law_script"] (spLawT K Pt):=by
 have D_law_is_shown:=Zi4 (P:=P) (w:=w) (base:=base) T
 have D_law_turning:=Zj6 (P:=P) (w:=w) (base:=base) T TB
 have D_law_urn:=Znq (P:=P) (w:=w) (base:=base) T
 obtain⟨e_worths,em_worths,D_worths⟩:=Zoz (P:=P) (w:=w) (base:=base) T
 refine Zpk (l:=196) (c:=45) (x:=qLam) F Zgw (λcdv A outer s H E hr=>⟨_,_,IPSs.get (Za4 (Zbu tV rfl (Zbl rfl T.z_range (Za0 (Zab (Zoi rfl) rfl T.z_max boot_max (Za0 Za5 (Za0 (Zab (Zok rfl) rfl T.z_min boot_min (Za0 Za5 (Za0 (Zab Zb5 rfl T.z_len tM (Za0 (i_pv 0) Za3)) Za3))) Za3))) Za3)) (Zaa (i:=1) Zgw.nd rfl (uM rfl)) (Za4 (Zan (i:=2) Zgw.nd rfl (uM rfl) (Zar D_law_urn Znl (hr.mono (by decide)) (Za0 (i_pv 0) (Za0 (i_pv 1) Za3))))
  (Za4 (Zdc (Zar D_law_turning Zj1 (hr.mono (by decide)) (Za0 (i_pv 2) Za3)) (Zc5 (n:=2) rfl (Za9 (Zaa (i:=3) Zgw.nd rfl (uM rfl)) (Za9 (Zaa (i:=4) Zgw.nd rfl (uM rfl)) Zb9))))
  (Za4 (Zan (i:=5) Zgw.nd rfl (uM rfl) (Zeq D_worths (Zcz) (hr.mono (by decide)) (Za0 (i_pv 3) Za3) (Ze6 (i_pv 4) Zf3)))
  (Za4 (Zba (Zcr (Zcy (Zar D_law_is_shown Ze3 (hr.mono (by decide)) (Za0 (i_pv 5) (Za0 (i_pv 3) (Za0 (Zb6 Za3) (Za0 (i_pv 4) Za3))))))) (Za8 (Zae (Zce))) Zao)
  (Za4 (Zbu tV rfl (Zbl rfl T.z_range (Za0 (Zab Zb5 rfl T.z_len tM (Za0 (i_pv 3) Za3)) Za3)) (Zaa (i:=6) Zgw.nd rfl (uM rfl)) (Za4 (Zan (i:=7) Zgw.nd rfl (uM rfl) (Zaj Zk3 (Zg0 Zkc (i_pv 3) Zgm (Zgn (i_pv 6))) (Zg0 Zkc (i_pv 3) (Zgn (Zaj Zd5 (i_pv 6) Za5)) Zgm)))
  (Za4 (Zba (Zcr (Zcy (Zar D_law_is_shown Ze3 (hr.mono (by decide)) (Za0 (Zeq D_worths (Zcz) (hr.mono (by decide)) (Za0 (i_pv 7) Za3) (Ze6 (i_pv 4) Zf3)) (Za0 (i_pv 7) (Za0 (Zb6 Za3) (Za0 (i_pv 4) Za3))))))) (Za8 (Zae (Zce))) Zao)
  (Za4 (Zan (i:=8) Zgw.nd rfl (uM rfl) (Zaj Zk3 (Zaj Zk3 (Zg0 Zkc (i_pv 3) Zgm (Zgn (i_pv 6))) (Zb6 (Za0 (Zb6 (Za0 (Zak Zbn (Zak Zbn (i_pv 3) (i_pv 6) (λ_ _=>rfl)) Za5 (λ_ _=>rfl)) (Za0 (Zaj Zpu (Zb6 (Za0 Za5 Za3)) (i_pv 4)) Za3))) Za3))) (Zg0 Zkc (i_pv 3) (Zgn (Zaj Zd5 (i_pv 6) Za5)) Zgm)))
  (Za8 (Zba (Zcr (Zcy (Zar D_law_is_shown Ze3 (hr.mono (by decide)) (Za0 (Zeq D_worths (Zcz) (hr.mono (by decide)) (Za0 (i_pv 8) Za3) (Ze6 (i_pv 4) Zf3)) (Za0 (i_pv 8) (Za0 (Zb6 Za3) (Za0 (i_pv 4) Za3))))))) (Za8 (Zae (Zce))) Zao))))))
  (Za8 (Zba (Zau Zmd (Zab (Zfu hr.gd hr.units) rfl T.z_repr boot_repr (Za0 (Zeq D_worths (Zcz) (hr.mono (by decide)) (Za0 (i_pv 3) Za3) (Ze6 (i_pv 4) Zf3)) Za3)) (Zab (Zfu hr.gd hr.units) rfl T.z_repr boot_repr (Za0 (i_pv 5) Za3)) (nomark _)) (Za8 (Zae (Zce))) Zao))))))))
  (Za8 (Zae (Zce)))),(Zac (Zde (Zdm (Za1 (Zbx Zu5 (Za1 Zap (Za1 (Zbx Zu7 (Za1 Zap (Za1 (Zbx Zdt (Za1 (Za2 0) Za6)) Za6))) Za6))) Za6)) (Za7 1) (Zac (Zbb (Zb4 Zma (Za1 (Za2 0) (Za1 (Za2 1) Za6))) (Za7 2))
  (Zac (Zbb (Zb4 Zin (Za1 (Za2 2) Za6)) (Zcw (Zad (Za7 3) (Zad (Za7 4) Zc1))))
  (Zac (Zbb (Zgv Zg2 em_worths (Za1 (Za2 3) Za6) (Za1 (Za2 4) Za6)) (Za7 5))
  (Zac (Zd2 (Zeg (rt_b (Zb4 Zdz (Za1 (Za2 5) (Za1 (Za2 3) (Za1 (Zc2 Za6) (Za1 (Za2 4) Za6))))))) (Zbc Zes) Zbd)
  (Zac (Zde (Zdm (Za1 (Zbx Zdt (Za1 (Za2 3) Za6)) Za6)) (Za7 6) (Zac (Zbb (Zal Zk7 (Zrs Zrw (Za2 3) Zka (Zkb (Za2 6))) (Zrs Zrw (Za2 3) (Zkb (Zal Zeu (Za2 6) Zap)) Zka)) (Za7 7))
  (Zac (Zd2 (Zeg (rt_b (Zb4 Zdz (Za1 (Zgv Zg2 em_worths (Za1 (Za2 7) Za6) (Za1 (Za2 4) Za6)) (Za1 (Za2 7) (Za1 (Zc2 Za6) (Za1 (Za2 4) Za6))))))) (Zbc Zes) Zbd)
  (Zac (Zbb (Zal Zk7 (Zal Zk7 (Zrs Zrw (Za2 3) Zka (Zkb (Za2 6))) (Zc2 (Za1 (Zc2 (Za1 (Zal Zbi (Zal Zbi (Za2 3) (Za2 6)) Zap) (Za1 (Zal Zqb (Zc2 (Za1 Zap Za6)) (Za2 4)) Za6))) Za6))) (Zrs Zrw (Za2 3) (Zkb (Zal Zeu (Za2 6) Zap)) Zka)) (Za7 8))
  (Zd2 (Zeg (rt_b (Zb4 Zdz (Za1 (Zgv Zg2 em_worths (Za1 (Za2 8) Za6) (Za1 (Za2 4) Za6)) (Za1 (Za2 8) (Za1 (Zc2 Za6) (Za1 (Za2 4) Za6))))))) (Zbc Zes) Zbd)))))
  (Zd2 (Zbf (Zal Zmi (Zbx Zk4 (Za1 (Zgv Zg2 em_worths (Za1 (Za2 3) Za6) (Za1 (Za2 4) Za6)) Za6)) (Zbx Zk4 (Za1 (Za2 5) Za6)))) (Zbc Zes) Zbd)))))))
  (Zbc Zes)),λns h63=>?_⟩)
 simp! only[dCallD,gaQ]
 refine⟨⟨by omega,by omega⟩,?_⟩
 refine⟨λi s=>∃(o1 o2 o3 o4 o5 o6 o7 o8:Option Val) (w:OW) (t:Option Addr),s=⟨[some (.scr ns),o1,o2,o3,o4,o5,o6,o7,o8],w⟩/\w Pt=some (tabL t),⟨none,none,none,none,none,none,none,none,_,none,rfl,OW.put_same⟩,λ_ _ _=>trivial,?_,?_⟩
 ·rintro i d s hd ⟨o1,o2,o3,o4,o5,o6,o7,o8,o,t,rfl,hP⟩
  have hi3:i<3/\d=.int (0+(i:Int)):=by
   unfold rngD at hd
   obtain⟨r,hr,rfl⟩:=Zd1 hd
   obtain⟨h1,h2⟩:=zZ.mp hr
   rw[tS]at h1
   rw[getElem_range]at h2
   subst h2
   exact⟨by omega,rfl⟩
  obtain⟨hi3,rfl⟩:=hi3
  simp!
  refine⟨⟨by omega,by omega⟩,λu hu=>?_⟩
  have nuP:Pt≠u:=λe=>by rw[<- e,hP]at hu;cases hu
  simp!
  refine⟨0,t,OW.put_same,by decide,by rw[OW.put_ne nuP];exact hP,λk rs m' t' M hm'=>?_⟩
  simp!
  have gP:((o.put u (.urn 0)).put Pt (tabL t')).put u (.urn m') Pt=some (tabL t'):=by rw[OW.put_ne nuP,OW.put_same]
  generalize ((o.put u (.urn 0)).put Pt (tabL t')).put u (.urn m')=W at *
  obtain⟨a,hS,hR,hok,hw⟩:=M.shown
  refine hw _ _ ?_
  simp!
  refine⟨by decide,_,⟨k,rs,[],a,rfl,M.hist,hS,rfl⟩,?_⟩
  simp! only[Ze0,lmp]
  have hl12:=M.rl
  refine⟨⟨by omega,by omega⟩,λj s=>∃(o6 o7 o8:Option Val),s=⟨[some (.scr ns),some (.d (.int (0+(i:Int)))),some (.own u),some (.d (.tuple (rs.map rowD))),some (.d (.int (k:Nat))),some (.d a),o6,o7,o8],W⟩,⟨o6,o7,o8,rfl⟩,λ_ _ _=>trivial,?_,?_⟩
  ·rintro j d s hd ⟨o6,o7,o8,rfl⟩
   have hj3:j<rs.length/\d=.int (j:Int):=by
    unfold rngD at hd
    obtain⟨r,hr,rfl⟩:=Zd1 hd
    obtain⟨h1,h2⟩:=zZ.mp hr
    rw[tS]at h1
    rw[getElem_range]at h2
    subst h2
    exact⟨by omega,by simp⟩
   obtain⟨hj3,rfl⟩:=hj3
   have ej:(j:Int)+1=((j+1:Nat):Int):=by omega
   simp! only[dCallD,gaQ]
   rw[ej,Zoq,Zms,<- vJ,<- xE,lmp]
   have M1:Mild k (rs.take j++rs.drop (j+1)) []:=M.sub (λr hr=>by
    rcases zX.mp hr with hr|hr
    ·exact M.row r (List.mem_of_mem_take hr)
    ·exact M.row r (List.mem_of_mem_drop hr)) (by rw[vJ,vE,vS];omega)
   obtain⟨a1,hS1,_,_,hw1⟩:=M1.shown
   have hl1:=M1.rl
   refine⟨Zhf (by omega),?_⟩
   simp! only[dCallD,gaQ]
   refine hw1 _ _ ?_
   simp!
   refine⟨by decide,_,⟨k,_,[],a1,rfl,M1.hist,hS1,rfl⟩,?_⟩
   simp!
   have M2:Mild k (rs.take j++[(rs[j].1,Zas k)]++rs.drop (j+1)) []:=M.sub (λr hr=>by
    rcases zX.mp hr with hr|hr
    ·rcases zX.mp hr with hr|hr
     ·exact M.row r (List.mem_of_mem_take hr)
     ·rw[xD.mp hr]
      obtain⟨g1,g2,g3,g4⟩:=M.row _ (yT hj3)
      exact⟨g1,by simp[Zas],g3,λx hx=>by rw[(tR.mp hx).2];decide⟩
    ·exact M.row r (List.mem_of_mem_drop hr)) (by simp only[vJ,vE,vS,yP,xI];omega)
   obtain⟨a2,hS2,_,_,hw2⟩:=M2.shown
   have hk1:=M.k1
   have hk3:=M.k3
   refine⟨rowD rs[j],Zcs (by rw[vH,gEq hj3];rfl),?_⟩
   simp!
   refine⟨tI rs[j].1,rfl,by decide,⟨by simp,by omega,by omega,Zhf (by omega)⟩,by decide,by decide,?_⟩
   have e2:PyData.tuple [tI rs[j].1,PyData.tuple (repD ((k:Nat):Int).toNat [PyData.int 0])]=rowD (rs[j].1,Zas k):=by
    rw[vO]
    show _=PyData.tuple [tI rs[j].1,PyData.tuple ((Zas k).map .int)]
    rw[show repD k [PyData.int 0]=(Zas k).map .int by simp[repD,Zas]]
   rw[e2,ej,Zoq,Zms]
   have e3:(rs.take j).map rowD++[rowD (rs[j].1,Zas k)]++(rs.drop (j+1)).map rowD=(rs.take j++[(rs[j].1,Zas k)]++rs.drop (j+1)).map rowD:=by simp
   have hl2:=M2.rl
   refine⟨Zhf (by rw[lmp,vE];omega),Zhf (by rw[<- vJ,e3,lmp];omega),?_⟩
   rw[e3]
   simp! only[dCallD,gaQ]
   refine hw2 _ _ ?_
   simp!
   refine⟨by decide,_,⟨k,_,[],a2,rfl,M2.hist,hS2,rfl⟩,?_⟩
   simp!
   exact⟨_,_,_,rfl⟩
  ·rintro s ⟨o6,o7,o8,rfl⟩
   simp! only[dCallD,gaQ]
   refine hw _ _ ?_
   simp! only[tK]
   exact⟨hR,hok,hR,hok,_,_,_,_,_,_,_,_,_,_,rfl,gP⟩
 ·rintro s ⟨o1,o2,o3,o4,o5,o6,o7,o8,o,t,rfl,hP⟩
  rfl
end
def goodL:=goodT PySem.Challenge.pw_bundleclocks_k10_rings_of_rounds_alone []
theorem goodE:goodL=goodL:=rfl
name_quick goodQ for goodL by goodE
noncomputable def onceL(w:World)(os:OsState):=onceT PySem.Challenge.pw_bundleclocks_k10_rings_of_rounds_alone PySem.Challenge.pw_bundleclocks_k10_rings_of_rounds_alone [] 20000 w os
theorem onceE:onceL=onceL:=rfl
name_quick onceQ for onceL by onceE
theorem runs(w:World)(os:OsState):onceT PySem.Challenge.pw_bundleclocks_k10_rings_of_rounds_alone PySem.Challenge.pw_bundleclocks_k10_rings_of_rounds_alone [] 20000 w os=goodT PySem.Challenge.pw_bundleclocks_k10_rings_of_rounds_alone []:=(congrFun (congrFun PySem.W.Fast.onceQ_eq w) os).trans ((by kernel_rfl:PySem.W.Fast.onceQ w os=PySem.W.Fast.goodQ).trans PySem.W.Fast.goodQ_eq.symm)
def recsL:List DefRec:=[recD "cost" sCost,recD "together" sTogether,recD "weight" sWeight,recD "ends" sEnds,recD "steps_of" sStepsOf,recD "arcs_of" sArcsOf,recD "shorten" sShorten,recD "shortest_ways" sShortestWays,recD "ring_behind" sRingBehind,recD "_law_urn" sLawUrn,recD "_law_draw" sLawDraw,recD "_law_whole" sLawWhole,recD "_law_prices" sLawPrices,recD "_law_cost" sLawCost,recD "_law_edges" sLawEdges,recD "_law_heights" sLawHeights,recD "_law_small" sLawSmall,recD "_law_told" sLawTold,recD "_law_is_ring" sLawIsRing,recD "_law_are_worths" sLawAreWorths,recD "_law_are_any" sLawAreAny,recD "_law_is_shown" sLawIsShown,recD "_law_turning" sLawTurning,recD "law" sLaw]
theorem recsE:recsOf PySem.Challenge.pw_bundleclocks_k10_rings_of_rounds_alone=recsL:=by kernel_rfl
def wdefsL:List (DefRec×List (Str×Expr)):=[(recD "told_bundles" sToldBundles,[]),(recD "worths" sWorths,[])]
theorem wdefsE:PySem.W.wdefsOf PySem.Challenge.pw_bundleclocks_k10_rings_of_rounds_alone=wdefsL:=by kernel_rfl
def bltsL:List Str:=["abs","all","bool","int","isinstance","len","max","min","range","repr","str","sum","tuple","zip"]
theorem bltsE:bltsL.all (λx=>!(startupNames.contains x||(PySem.W.looseW PySem.Challenge.pw_bundleclocks_k10_rings_of_rounds_alone []).contains x||((recsOf PySem.Challenge.pw_bundleclocks_k10_rings_of_rounds_alone).map (·.name)).contains x||((litsOf PySem.Challenge.pw_bundleclocks_k10_rings_of_rounds_alone).map (·.1)).contains x||((clssOf PySem.Challenge.pw_bundleclocks_k10_rings_of_rounds_alone (PySem.W.looseW PySem.Challenge.pw_bundleclocks_k10_rings_of_rounds_alone [])).map (·.name)).contains x))=true:=by decide +kernel
theorem walk:PySem.W.WalkX PySem.Challenge.pw_bundleclocks_k10_rings_of_rounds_alone [] (λ_ _=>True) (λ_=>()) (λ_=>()) (PySem.Challenge.rw_bundleclocks_k10_rings_of_rounds_alone).row.toRowW (recD "law" sLaw) [] (λf vs=>PySem.call f vs):=by
 refine walkT (l:=PySem.Challenge.rw_bundleclocks_k10_rings_of_rounds_alone) (n:=63) (k:=40) (x:="_law_script") (CX:=CX0) rfl (by decide) rfl ⟨rfl,by decide,by decide,rfl⟩ (λw s₀ mg mb fa h G hmg=>?_) λ_ _ _ _ z=>z
 obtain⟨c,Pt,hT,TB⟩:=Zw7 G recsE 22 rfl
 have hP:h.get? Pt=some (PySem.W.tabObj #[]):=hT.2
 have T:Txt (frgX h Pt) mg:=⟨Zcl hP G recsE 0 rfl,Zcl hP G recsE 1 rfl,Zp8 hP G wdefsE 0 rfl rfl,Zcl hP G recsE 2 rfl,Zcl hP G recsE 3 rfl,Zcl hP G recsE 4 rfl,Zcl hP G recsE 5 rfl,Zcl hP G recsE 6 rfl,Zcl hP G recsE 7 rfl,Zcl hP G recsE 8 rfl,Zp8 hP G wdefsE 1 rfl rfl,Zcl hP G recsE 9 rfl,Zcl hP G recsE 10 rfl,Zcl hP G recsE 11 rfl,Zcl hP G recsE 12 rfl,Zcl hP G recsE 13 rfl,Zcl hP G recsE 14 rfl,Zcl hP G recsE 15 rfl,Zcl hP G recsE 16 rfl,Zcl hP G recsE 17 rfl,Zcl hP G recsE 18 rfl,Zcl hP G recsE 19 rfl,Zcl hP G recsE 20 rfl,Zcl hP G recsE 21 rfl,Zcl hP G recsE 22 rfl,Zcl hP G recsE 23 rfl,Zee G bltsE 0 rfl,Zee G bltsE 1 rfl,Zee G bltsE 2 rfl,Zee G bltsE 3 rfl,Zee G bltsE 4 rfl,Zee G bltsE 5 rfl,Zee G bltsE 6 rfl,Zee G bltsE 7 rfl,Zee G bltsE 8 rfl,Zee G bltsE 9 rfl,Zee G bltsE 10 rfl,Zee G bltsE 11 rfl,Zee G bltsE 12 rfl,Zee G bltsE 13 rfl⟩
 obtain⟨f,fd,F,m⟩:=T.f_law
 cases hmg.symm.trans m
 have F2:=F
 obtain⟨oc,od,kV,doc,pm,an,cdv,ct,osl,rfl,_,_⟩:=F.ex
 exact⟨c,Pt,hT,_,λs u=>.of_eq rfl,λbase=>Zv1 T TB F2⟩
end Mine
open PySem PySem.W PyProof.Rows
set_option maxRecDepth 100000 in
set_option maxHeartbeats 0 in
theorem PySem.Challenge.cw_bundleclocks_k10_rings_of_rounds_alone_holds : PySem.Challenge.rw_bundleclocks_k10_rings_of_rounds_alone.Holds := by
 w_on;o_law
 refine PySem.W.holds_openX (q:=PySem.Challenge.pw_bundleclocks_k10_rings_of_rounds_alone) (loose:=[]) (Xt:=λ_=>true) (XP:=λ_ _=>True) (Yf:=λ_=>()) (Ya:=λ_=>()) (d:=L2.recD "law" Mine.sLaw) (kwd:=[]) (N:=20000) (L2.Zpm (by kernel_rfl) (by decide) (λs=>by kernel_rfl) Mine.runs) (λ_ _=>trivial) (λ_ _ _ _ _=>trivial) (by kernel_rfl) (by kernel_rfl) (by kernel_rfl) (λ_ _=>recFacts_nil rfl) (by rfl) (by assumption) (by decide +kernel) ⟨rfl,rfl,rfl,rfl,rfl,by decide +kernel⟩ ?hw Mine.walk
 w_witness2
