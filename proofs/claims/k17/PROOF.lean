import PyProof.Rows.All
import Wide.All
import OpenK.AllK
import PySem.Challenge.RW_bundleclocks_k17_houses
open List (all_eq_true any_cons any_eq_true append_assoc append_nil cons_append contains_cons drop_zero filterMap_cons filter_cons flatMap_append foldl_cons forIn_cons forIn_nil getD_eq_getElem?_getD getElem?_append_left getElem?_cons_succ getElem?_cons_zero getElem?_map getElem?_mapIdx getElem?_set_ne getElem?_set_self getElem?_zip_eq_some getElem_mem length_append length_cons length_drop length_map length_nil length_range length_singleton length_take length_zip lookup_cons map_append map_cons map_id map_map map_nil mem_append mem_append_left mem_append_right mem_cons mem_cons_of_mem mem_cons_self mem_filter mem_filterMap mem_iff_getElem mem_map mem_of_getElem? mem_range mem_singleton nil_append nodup_cons not_mem_nil of_mem_zip reverse_cons size_toArray take_add_one take_length zip_cons_cons)
open Nat (add_assoc le_add_right le_of_ble_eq_true le_of_eq le_of_lt le_of_not_lt le_refl le_succ le_trans log2_le_self lt_irrefl lt_of_le_of_lt lt_of_lt_of_le lt_succ_of_lt lt_succ_self mul_le_mul_left ne_of_gt ne_of_lt zero_add zero_le)
open PySem.Heap (get?_none_of_le get?_push_at get?_push_of_some get?_push_size get?_update_other get?_update_self lt_size size_push)
open Option (bind_eq_some_iff bind_some isSome_iff_exists map_eq_some_iff map_some)
open Bool (and_eq_true and_eq_true_iff eq_false_iff false_eq_true)
open PySem.F (plainAttrs_list plainAttrs_str slot_str_join type_str_join)
open PySem.W (Frag callWith_K cellsFrom_some kitx_tuple methodCall_KW plainGet_of)
abbrev zF:=@Nat.le_trans
abbrev zG:=@Nat.le_of_ble_eq_true
abbrev zH:=@Nat.lt_of_le_of_lt
abbrev zI:=@Nat.lt_of_lt_of_le
abbrev zJ:=@Nat.add_assoc
abbrev zK:=@Nat.le_refl
abbrev zL:=@Nat.zero_le
abbrev zM:=@Nat.le_add_right
abbrev zN:=@Nat.le_of_eq
abbrev zO:=@Nat.lt_succ_of_lt
abbrev zP:=@Nat.ne_of_gt
abbrev zQ:=@Option.map_eq_some_iff
abbrev zR:=@congrArg
abbrev zS:=@Prod.mk.inj
abbrev zT:=@Prod.ext
abbrev zU:=@if_pos
abbrev zV:=@Bool.true_and
abbrev zW:=@PySem.wpAny_bind
abbrev zX:=@PySem.wpAny_pure
abbrev zY:=@PySem.wpAny_holding
abbrev zZ:=@PySem.codeAny_builtin
abbrev wA:=@PySem.wpAny_field
abbrev wB:=@PySem.Heap.get?_update_other
abbrev wC:=@Ne.symm
abbrev wD:=@PySem.Heap.get?_update_self
abbrev wE:=@PySem.Obj.isFreed_of_fields
abbrev wF:=@PySem.Obj.data_mapFields
abbrev wG:=@PySem.Obj.cls_mapFields
abbrev wH:=@PySem.wpAny_newObj_type
abbrev wI:=@PySem.wpAny_of_eq
abbrev wJ:=@PySem.Heap.get?_push_of_some
abbrev wK:=@PySem.Heap.get?_push_size
abbrev wL:=@Array.size_append
abbrev wM:=@PySem.Heap.lt_size
abbrev wN:=@PySem.Heap.size_push
abbrev wO:=@Nat.le_succ
abbrev wP:=@PySem.wpAny_attempt
abbrev wQ:=@PySem.wpAny_callSpecial?_slot
abbrev wR:=@PySem.slot_listiter_next
abbrev wS:=@PySem.wpAny_call_entry
abbrev wT:=@if_neg
abbrev wU:=@Bool.false_ne_true
abbrev wV:=@PySem.wpAny_seqItems
abbrev wX:=@Int.toNat_natCast
abbrev wY:=@PySem.wpAny_rule
abbrev wZ:=@PySem.wpAny_setField
abbrev vA:=@PySem.wpAny_isInstance
abbrev vB:=@PySem.isSubtype_stop
abbrev vC:=@Nat.ne_of_lt
abbrev vD:=@PySem.wpAny_specialOf
abbrev vE:=@Bool.false_eq_true
abbrev vF:=@if_false
abbrev vG:=@PySem.wpAny_standAt
abbrev vH:=@decide_eq_false
abbrev vI:=@beq_eq_false_iff_ne
abbrev vJ:=@Nat.lt_irrefl
abbrev vK:=@Array.append_assoc
abbrev vL:=@List.filterMap_cons
abbrev vM:=@List.mem_cons_self
abbrev vN:=@List.mem_cons_of_mem
abbrev vO:=@PySem.Heap.get?_none_of_le
abbrev vP:=@List.mem_cons
abbrev vQ:=@List.mem_append
abbrev vR:=@List.mem_append_left
abbrev vS:=@List.getElem?_eq_some_iff
abbrev vT:=@List.getElem?_set_self
abbrev vU:=@List.getElem?_set_ne
abbrev vV:=@Option.some.inj
abbrev vW:=@PySem.wpAny_mono
abbrev vX:=@PySem.Calls.Constant_str
abbrev vY:=@PySem.wpAny_truthy_bool
abbrev vZ:=@Array.length_toList
abbrev uA:=@PySem.wpAny_execs_nil
abbrev uB:=@PySem.wpAny_execs_cons
abbrev uC:=@PyProof.Rows.assignInOrder_cons
abbrev uD:=@Bool.false_and
abbrev uE:=@PySem.wpAny_pyIter_list
abbrev uF:=@PySem.wpAny_pyIter_tuple
abbrev uG:=@PyProof.Rows.callWith_type1
abbrev uH:=@List.mem_append_right
abbrev uI:=@PySem.wpAny_passesOwn
abbrev uJ:=@Bool.eq_iff_iff
abbrev uK:=@PySem.sizeLine_eq
abbrev uL:=@beq_iff_eq
abbrev uM:=@List.length_cons
abbrev uN:=@PySem.W.looks_findIn
abbrev uO:=@List.map_cons
abbrev uP:=@True.intro
abbrev uQ:=@Nat.lt_succ_self
abbrev uR:=@PySem.W.kia_one
abbrev uS:=@PySem.Calls.spliced_cons
abbrev uT:=@List.append_nil
abbrev uU:=@PySem.wpAny_call
abbrev uV:=@PySem.codeAny_mono
abbrev uW:=@PySem.wpAny_Call_Name_kw
abbrev uX:=@PySem.W.callWith_K
abbrev uY:=@List.nodup_cons
abbrev uZ:=@List.of_mem_zip
abbrev yA:=@PySem.W.cellsFrom_some
abbrev yB:=@Option.isSome_iff_exists
abbrev yC:=@List.length_take
abbrev yD:=@PySem.mem_of_lookup
abbrev yE:=@List.getElem?_append_left
abbrev yF:=@List.getElem?_map
abbrev yG:=@List.mem_of_getElem?
abbrev yH:=@List.length_append
abbrev yI:=@PySem.wpAny_loadPart'
abbrev yJ:=@if_true
abbrev yK:=@List.size_toArray
abbrev yL:=@PyProof.Rows.slot_tuple_getitem
abbrev yM:=@PySem.wpAny_typeOf
abbrev yN:=@Bool.and_eq_true
abbrev yO:=@List.reverse_cons
abbrev yP:=@List.length_singleton
abbrev yQ:=@List.map_nil
abbrev yR:=@decide_eq_true
abbrev yS:=@List.Pairwise.nil
abbrev yT:=@Or.inl
abbrev yU:=@Or.inr
abbrev yV:=@List.append_assoc
abbrev yW:=@List.forIn_cons
abbrev yX:=@beq_self_eq_true
abbrev yY:=@List.lookup_cons
abbrev yZ:=@List.cons_append
abbrev xA:=@Option.map_some
abbrev xB:=@List.forIn_nil
abbrev xC:=@List.all_eq_true
abbrev xD:=@List.getElem?_zip_eq_some
abbrev xE:=@PySem.pushCells_keeps
abbrev xF:=@And.intro
abbrev xG:=@PySem.F.slot_tuple_iterator_next
abbrev xH:=@PySem.wpAny_setField_rec
abbrev xI:=@PySem.F.slot_zip_next
abbrev xJ:=@PySem.wpAny_onRaise
abbrev xK:=@PySem.wpAny_updateSeq_pair
abbrev xL:=@PySem.wpAny_letGo
abbrev xM:=@PySem.wpAny_newTuple
abbrev xN:=@Array.forIn_toList
abbrev xO:=@List.not_mem_nil
abbrev xP:=@or_false
abbrev xQ:=@List.mem_singleton
abbrev xR:=@List.getD_eq_getElem?_getD
abbrev xS:=@List.mem_iff_getElem
abbrev xT:=@List.getElem_mem
abbrev xU:=@Int.emod_nonneg
abbrev xV:=@Int.emod_lt_of_pos
abbrev xW:=@PySem.F.slot_enumerate_next
abbrev xX:=@decide_eq_true_eq
abbrev xY:=@List.find?_cons
abbrev xZ:=@List.any_cons
abbrev tD:=@List.filter_cons
abbrev tE:=@Option.some.injEq
abbrev tF:=@Option.bind_some
abbrev tG:=@List.take_length
abbrev tH:=@List.getElem?_mapIdx
abbrev tJ:=@List.getElem?_cons_succ
abbrev tK:=@List.getElem?_cons_zero
abbrev tL:=@List.flatMap_append
abbrev tM:=@Nat.succ.inj
abbrev tN:=@List.map_inj_right
abbrev tO:=@List.map_append
abbrev tP:=@List.map_map
abbrev tQ:=@Option.map_none
abbrev tR:=@Prod.mk.injEq
abbrev tS:=@PySem.codeAny_call_builtin
abbrev tT:=@PySem.W.looks_findIn
abbrev tU:=@Bool.and_false
abbrev tV:=@List.contains_cons
abbrev tW:=@Bool.or_true
abbrev tX:=@PySem.wpAny_loadPart_at
abbrev tY:=@PySem.wpAny_isSubtype_exc
abbrev tZ:=@PySem.wpAny_typeLookup_exc
abbrev sC:=@Array.getElem?_eq_some_iff
abbrev sD:=@List.length_nil
abbrev sE:=@List.cons.injEq
abbrev sF:=@Option.bind_eq_some_iff
abbrev sG:=@Bool.and_eq_true_iff
abbrev sH:=@and_true
abbrev sI:=@PySem.Around.under_plainId
abbrev sJ:=@Bool.not_false
abbrev sK:=@PySem.typeLookup_type
abbrev sL:=@PySem.builtinLookup_eq_fast
abbrev sM:=@List.nil_append
abbrev sN:=@Bool.not_true
abbrev sO:=@decide_true
abbrev sP:=@congrFun
abbrev sQ:=@List.any_eq_true
abbrev sR:=@PySem.F.slot_tuple_hash
abbrev sS:=@PySem.wpAny_tupleItemsOf
abbrev sT:=@PySem.wpAny_forIn_list
abbrev sU:=@PySem.isSubtype_tuple_tuple
abbrev sV:=@PySem.F.slot_tuple_eq
abbrev sW:=@PySem.boot_len
abbrev sX:=@Int.mul_nonneg
abbrev sY:=@Int.mul_le_mul
abbrev sZ:=@of_decide_eq_true
abbrev rC:=@PyProof.Rows.boot_isinstance
abbrev rD:=@PySem.PassesOwn.never
abbrev rE:=@PySem.F.plainAttrs_list
abbrev rF:=@PySem.F.slot_list_append
abbrev rG:=@PySem.F.type_list_append
abbrev rH:=@PySem.F.plainAttrs_str
abbrev rJ:=@PySem.F.slot_str_join
abbrev rK:=@PySem.F.type_str_join
abbrev rL:=@Array.all_toList
abbrev rM:=@Array.all_append
abbrev rN:=@List.foldl_cons
abbrev rO:=@List.length_range
abbrev rP:=@List.mem_map
abbrev rQ:=@Nat.mul_le_mul_left
theorem L2.sz1:1≤PySem.sizeLine:=by decide
theorem L2.sz2:2≤PySem.sizeLine:=by decide
theorem L2.sz3:3≤PySem.sizeLine:=by decide
theorem L2.sz4:4≤PySem.sizeLine:=by decide
theorem L2.sz5:5≤PySem.sizeLine:=by decide
theorem L2.sz6:6≤PySem.sizeLine:=by decide
theorem Wb{α β:Type _}{as:List α}(f:α->β):(as.map f).length=as.length:=length_map f
theorem M4{α:Type _}{l:List α}{i:Nat}(h:i<l.length):l[i]? = some l[i]:=List.getElem?_eq_getElem h
set_option bootstrap.genMatcherCode false
set_option compiler.extract_closed false
set_option hygiene false
theorem AO(c:Nat){m d N:Nat}(h:m+d≤N)(e:Nat.ble c d=true):m+c≤N:=zF (Nat.add_le_add_left (zG e) m) h
theorem xq2{x a b:Nat}(h:x≤a)(e:Nat.ble a b=true):x≤b:=zF h (zG e)
theorem xq3{x a b:Nat}(h:x≤a)(e:Nat.blt a b=true):x<b:=zH h (zG e)
theorem xq4{x a b:Nat}(h:x<a)(e:Nat.ble a b=true):x<b:=zI h (zG e)
theorem xq5(n:Nat):-2 ^ 62≤(n:Int):=by have:=Int.natCast_nonneg n;omega
theorem xq6{n a:Nat}(h:n≤a)(e:Nat.blt a (2 ^ 62)=true):(n:Int)<2 ^ 62:=by have:=zG e;omega
theorem xq7{n a:Nat}(h:n≤a):(n:Int)≤OfNat.ofNat a:=(Int.ofNat_le.mpr h:(n:Int)≤(a:Int))
theorem xq8{x a c b:Nat}(h:x≤a)(e:Nat.ble (a+c) b=true):x+c≤b:=zF (Nat.add_le_add_right h c) (zG e)
theorem xq9{n a:Nat}(h:¬n≤a):(OfNat.ofNat a:Int)<n:=(Int.ofNat_lt.mpr (Nat.lt_of_not_le h):(a:Int)<(n:Int))
theorem xq0{x m c i:Nat}(h:x≤m+c*i):x+c≤m+c*(i+1):=by rw[Nat.mul_succ,<- zJ];exact Nat.add_le_add_right h c
local macro_rules
 | `(tactic| omega) => `(tactic| first
  | with_reducible first | assumption | exact le_refl _ | exact zero_le _ | exact le_add_right _ _ | exact Int.natCast_nonneg _ | exact xq5 _ | exact Nat.le_of_add_right_le (by assumption) | exact Nat.lt_of_not_le (by assumption) | exact le_of_not_lt (by assumption) | exact le_of_lt (by assumption) | exact le_of_eq (by assumption) | exact le_of_eq (Eq.symm (by assumption)) | exact xq2 (by assumption) rfl | exact xq3 (by assumption) rfl | exact xq4 (by assumption) rfl | exact xq6 (by assumption) rfl | exact xq8 (by assumption) rfl | exact xq7 (by assumption) | exact xq9 (by assumption) | exact xq0 (by assumption) | exact AO 1 (by assumption) rfl | exact AO 2 (by assumption) rfl | exact AO 3 (by assumption) rfl | exact AO 4 (by assumption) rfl | exact AO 5 (by assumption) rfl | exact AO 6 (by assumption) rfl | exact Nat.le_add_right_of_le (by assumption) | exact lt_succ_of_lt (by assumption) | exact Nat.le_of_succ_le (by assumption) | exact Nat.lt_of_succ_le (by assumption) | exact Nat.succ_le_of_lt (by assumption) | exact Int.ofNat_le.mpr (by assumption) | exact Int.ofNat_lt.mpr (by assumption) | exact le_trans (by assumption) (by assumption) | exact lt_of_lt_of_le (by assumption) (by assumption) | exact lt_of_le_of_lt (by assumption) (by assumption) | exact le_trans (le_of_eq (by assumption)) (by assumption) | exact le_trans (le_of_eq (Eq.symm (by assumption))) (by assumption) | exact Nat.add_right_comm _ _ _ | exact Nat.add_comm _ _ | exact ne_of_gt (by assumption) | decide
  | lia
  | omega (config := {}))
set_option Elab.async false
set_option linter.all false
set_option maxRecDepth 100000
set_option maxHeartbeats 4000000
namespace L2
open PySem PySem.W PySem.W.X PySem.Spec PyProof.Rows
def Fx(p:Program)(w:World)(n:Nat)(an:Option Value):Nat->SharedT->Thread->Option SharedT
 | 0,_,_=>none
 | N+1,s,t=>match through t with
  | true=>some s
  | false=>match stepOk n an t with
   | false=>none
   | true=>match stepT (denote treeTable) p w s t with
    | some (s',t')=>Fx p w n an N s' t'
    | none=>none
theorem Ky{p:Program}{w:World}{n:Nat}{an:Option Value}:∀{N:Nat}{s s':SharedT}{t:Thread},Fx p w n an N s t=some s'->topRun treeTable p w n an N s.abs t=some s'.abs
 | 0,_,_,_,h=>by cases h
 | N+1,s,s',t,h=>by
  unfold Fx at h
  unfold topRun
  cases he:through t with
  | true=>rw[he]at h;cases h;rfl
  | false=>
   rw[he]at h
   cases hk:stepOk n an t with
   | false=>rw[hk]at h;cases h
   | true=>
    rw[hk]at h
    cases hs:stepT (denote treeTable) p w s t with
    | none=>rw[hs]at h;cases h
    | some r=>obtain⟨s₂,t₂⟩:=r;rw[hs]at h;rw[stepT_spec hs];exact Ky h
def Fy:List Obj->Nat->BT->BT
 | [],_,t=>t
 | o::l,i,t=>Fy l (i+1) (t.ins i o)
noncomputable def Lr(P:Params):BT:=Fy (boot_heap P).objs.toList 0 .nil
def Lq:Life:={ debug:=0,thresholds:=[2000,10,10] }
def Bw(p q:Program)(loose:List Str)(H:Heap)(s:Shared):=
 (staticsOk (importedModules p.main.body) H s.heap&&namesBound p s.heap&&gensDone s&&laidKept H s.heap,openSeen q loose (importedModules p.main.body) (λ_=>true) true s)
section
variable {α β:Type}
noncomputable def Ka(p q:Program)(loose:List Str)(Yf:Shared->α)(N:Nat)(w:World)(os:OsState):=(Fx p w 11 (some (.ref 6)) N ⟨Lr w.params,11,Lq,Array.mk [],boot_drawn,boot_toks,os⟩ (topStub p)).map λs=>(Bw p q loose (boot_heap w.params) s.abs,Yf s.abs)
def LM(q:Program)(loose:List Str)(y:α):=some ((true,openGood q loose),y)
noncomputable def W7(p:Program)(f:Heap->Shared->β)(N:Nat)(w:World)(os:OsState):=(Fx p w 11 (some (.ref 6)) N ⟨Lr w.params,11,Lq,Array.mk [],boot_drawn,boot_toks,os⟩ (topStub p)).map λs=>f (boot_heap w.params) s.abs
def Ci(p q:Program)(loose:List Str)(H:Heap)(s:Shared):=
 (staticsOk (importedModules p.main.body) H s.heap&&namesBound p s.heap&&gensDone s&&laidKept H s.heap,(openSeen q loose (importedModules p.main.body) (λ_=>true) true s).1)
def DZ(q:Program)(loose:List Str):=some (true,(openGood q loose).1)
def Cg(p q:Program)(Yf:Shared->α)(_:Heap)(s:Shared):=
 (s.heap.bltView,s.heap.accountedOkI (importedModules p.main.body)&&s.heap.isNs mainGlobals&&s.heap.isNs builtinsNs&&tablesOk q s.heap&&s.gens.size == 0,Yf s)
def N1(q:Program)(loose:List Str)(_:Heap)(s:Shared):=s.heap.keysOk (looseW q loose) ((recsOf q).map (·.name)) ((litsOf q).map (·.1)) ((clssOf q (looseW q loose)).map (·.name))
def HI(q:Program)(_:Heap)(s:Shared):=tabsOk q s
def HJ(q:Program)(loose:List Str)(_:Heap)(s:Shared):=(pinSeenD q (drecsOf q) s,plainSeenE q (looseW q loose) s)
def DX(q:Program)(loose:List Str):=some (pinGoodD (drecsOf q),plainGoodE q (looseW q loose))
def HK(q:Program)(loose:List Str)(_:Heap)(s:Shared):=(plainSeenD q loose s,wideSeen q s,clsSeenW q loose s)
def DY(q:Program)(loose:List Str):=some (plainGoodD q loose,wideGood q,clsGoodW q loose)
end
section
variable {α:Type}
theorem Us{β γ:Type}{p:Program}{f:Heap->Shared->β}(g:β->γ){N:Nat}{w:World}{os:OsState}{r:β}(h:W7 p f N w os=some r):W7 p (λH s=>g (f H s)) N w os=some (g r):=by
 obtain⟨s,e1,e2⟩:=zQ.mp h
 exact zQ.mpr ⟨s,e1,zR g e2⟩
def N2(q:Program)(loose:List Str)(H:Heap)(s:Shared):=(N1 q loose H s,HI q H s,HJ q loose H s,HK q loose H s)
def Zaj(q:Program)(loose:List Str):=some (true,true,(pinGoodD (drecsOf q),plainGoodE q (looseW q loose)),(plainGoodD q loose,wideGood q,clsGoodW q loose))
theorem H_{p q:Program}{loose:List Str}{Yf:Shared->α}{y:α}{N:Nat}{w:World}{os:OsState}(a:W7 p (Ci p q loose) N w os=DZ q loose)(b:W7 p (Cg p q Yf) N w os=some (bltViewBooted,true,y)) 
  (c2:W7 p (N1 q loose) N w os=some true) (c4:W7 p (HI q) N w os=some true) (c5:W7 p (HJ q loose) N w os=DX q loose) (c6:W7 p (HK q loose) N w os=DY q loose):Ka p q loose Yf N w os=LM q loose y:=by
 obtain⟨s,e1,e2⟩:=zQ.mp a
 obtain⟨s',f1,f2⟩:=zQ.mp b
 rw[e1]at f1;cases f1
 obtain⟨s',f1,g2⟩:=zQ.mp c2
 rw[e1]at f1;cases f1
 obtain⟨s',f1,g4⟩:=zQ.mp c4
 rw[e1]at f1;cases f1
 obtain⟨s',f1,g5⟩:=zQ.mp c5
 rw[e1]at f1;cases f1
 obtain⟨s',f1,g6⟩:=zQ.mp c6
 rw[e1]at f1;cases f1
 unfold Ka LM
 rw[e1]
 obtain⟨z1,z2⟩:=zS e2
 obtain⟨y1,y2⟩:=zS f2
 obtain⟨y2,y3⟩:=zS y2
 obtain⟨x1,x2⟩:=zS g5
 obtain⟨v1,v2⟩:=zS g6
 obtain⟨v2,v3⟩:=zS v2
 refine zR some (zT (zT z1 (zT z2 (zT y1 (zT ?_ (zT g4 (zT x1 (zT x2 (zT v1 (zT v2 v3))))))))) y3)
 have h2:N1 q loose (boot_heap w.params) s.abs=true:=g2
 unfold N1 at h2
 show(s.abs.heap.keysOk (looseW q loose) ((recsOf q).map (·.name)) ((litsOf q).map (·.1)) ((clssOf q (looseW q loose)).map (·.name))&&s.abs.heap.accountedOkI (importedModules p.main.body)&&s.abs.heap.isNs mainGlobals&&s.abs.heap.isNs builtinsNs&&tablesOk q s.abs.heap&&true&&(if true then s.abs.gens.size == 0 else _))=true
 rw[h2,zU rfl,zV,Bool.and_true]
 exact y2
end
end L2
namespace L2
open PySem PySem.Spec PyProof.Rows
def VG(A:Around)(h:Heap):Prop:=A.handled=none\/∃e oe vs,A.handled=some (.ref e)/\h.get? e=some oe/\oe.data=.fields vs/\vs[2]? = some .none
theorem Q3:entryFor table "proto.unchain" = some Builtin.«proto.unchain»:=entryFor_of_tree (by kernel_rfl)
section
variable {prog:Program}{w:World}{A:Around}{E:Value->Shared->Prop}{s:Shared}
theorem VG.keep{h h':Heap}(x:VG A h)(k:∀e o,A.handled=some (.ref e)->h.get? e=some o->h'.get? e=some o):VG A h':=by
 rcases x with x|⟨e,oe,vs,x1,x2,x3,x4⟩
 ·exact .inl x
 ·exact .inr ⟨e,oe,vs,x1,k e oe x1 x2,x3,x4⟩
theorem G9{α:Type}{x:Addr}{ox:Obj}{vx:Array Value}{Q:α->Shared->Prop}(hh:VG A s.heap)(hx:s.heap.get? x=some ox)(hd:ox.data=.fields vx)(hz:2<vx.size)(hxe:∀e,A.handled=some (.ref e)->e≠x) 
  (hE:∀h',(∀b o,b≠x->s.heap.get? b=some o->h'.get? b=some o)->(∃o,h'.get? x=some o/\o.cls=ox.cls)->E (.ref x) { s with heap:=h' }):wpAny (model prog w) A (raiseNew (.ref x):Sem α) Q E s:=by
 unfold raiseNew
 refine zW (wpAny_handled ?_)
 rcases hh with hn|⟨e,oe,vs,h1,h2,h3,h4⟩
 ·rw[hn]
  exact zW (zX (wpAny_throw (hE s.heap (λ_ _ _ q=>q) ⟨_,hx,rfl⟩)))
 ·rw[h1]
  have ne:=hxe e h1
  dsimp only
  rw[zU (show(Value.ref e != Value.ref x)=true by simp[ne])]
  refine zW (zY (wpAny_runValue (zZ Q3 ?_)))
  show wpAny _ _ (field (.ref e) 2>>=_) _ _ _
  refine zW (wA h2 h3 h4 ?_)
  rw[zU (show(Value.none == Value.none)=true from rfl)]
  refine zW (zX ?_)
  refine zX ?_
  show wpAny _ _ (updateField x 2 (.ref e)>>=_) _ _ _
  unfold updateField
  refine zW (zW (wpAny_load hx ?_))
  rw[hd]
  dsimp only
  rw[zU hz]
  refine wpAny_update hx (wpAny_throw (hE _ (λb o nb q=>(wB _ _ (wC nb)).trans q) ⟨_,wD _ hx (wE (wF hd _)),wG ..⟩))
theorem W8{α:Type}{Q:α->Shared->Prop}(hh:VG A s.heap)(hE:∀h' x,(∀b o,s.heap.get? b=some o->h'.get? b=some o)->(∃o,h'.get? x=some o/\o.cls=.type "StopIteration")->E (.ref x) { s with heap:=h' }):
  wpAny (model prog w) A (do let e <- newExc (.type "StopIteration") [];raiseNew e:Sem α) Q E s:=by
 refine zW ?_
 simp only[newExc,newTuple]
 refine zW (wH ?_ (by size_fits))
 refine zW (m:=firstArgMember _ _) (wI (a:=Value.none) (by first|rfl|(simp only[firstArgMember];rfl)) ?_)
 refine wH ?_ (by size_fits)
 have old:∀e o,s.heap.get? e=some o->∀a b,((s.heap.push a).push b).get? e=some o:=λe o q a b=>wJ _ (wJ _ q)
 refine G9 (hh.keep λe o _ q=>old e o q _ _) (wK _ rfl) rfl (by rw[wL];exact Nat.lt_add_right _ (show 2<6 by decide)) (λe he z=>?_) λh' k1 k2=>hE h' _ (λb o q=>k1 b o (λz=>?_) (old b o q _ _)) k2
 ·rcases hh with hn|⟨e',oe,vs,h1,h2,h3,h4⟩
  ·rw[hn]at he;cases he
  ·rw[he]at h1;cases h1
   have:=wM h2
   rw[z,wN]at this;exact absurd this (Nat.not_lt.mpr (wO _))
 ·have:=wM q
  rw[z,wN]at this;exact absurd this (Nat.not_lt.mpr (wO _))
theorem LV{it l:Addr}{i:Nat}{items:Array Value}{Q:Option Value->Shared->Prop}(hh:VG A s.heap)(hne:∀e,A.handled=some (.ref e)->e≠it)(hit:s.heap.IsListIter it l i)(hl:s.heap.IsList l items)(hx:items[i]? = none) 
  (hQ:∀h',Heap.ExtBut it s.heap h'->Q none { s with heap:=h' }):wpAny (model prog w) A (pyNext (.ref it)) Q E s:=by
 obtain⟨o,ho,hc,hd⟩:=id hit
 obtain⟨ol,hol,_,nl,hdl⟩:=hl
 unfold pyNext
 refine zW (wP (wQ (name:=Str.ofString "__next__") hit.typeIs wR (wS wR hit.typeIs entry_listiter_next ?_ (args_listiter_next _))))
 show wpAny _ _ (field (.ref it) 0>>=_) _ _ s;refine zW (wA ho hd (x:=.ref l) rfl ?_)
 show wpAny _ _ (if(Value.ref l == Value.none)=true then _ else _) _ _ s;rw[wT (show ¬((Value.ref l == Value.none)=true) from wU)]
 show wpAny _ _ (field (.ref it) 1>>=_) _ _ s;refine zW (wA ho hd (x:=.int i 0) rfl ?_)
 show wpAny _ _ (seqItems? (.ref l)>>=_) _ _ s;refine zW (wV hol hdl ?_)
 simp only[wX,hx]
 refine zW (wY (zW (wZ ho hd (by simp) ?_)))
 refine W8 (A:=A.in1) (hh.keep λe o he q=>(wB _ _ (wC (hne e he))).trans q) λh' x k hk=>?_
 refine zW (vA (T:="StopIteration") (b:=true) hk vB ?_)
 exact zX (hQ _ λb o nb q=>k b o ((wB _ _ (wC nb)).trans q))
theorem Fz{it l:Addr}{i:Nat}{items:Array Value}{Q:Option Value->Shared->Prop}(hh:VG A s.heap)(hne:∀e,A.handled=some (.ref e)->e≠it)(hit:IsTupIter s.heap it l i)(hl:IsTup s.heap l items)(hx:items[i]? = none) 
  (hQ:∀h',Heap.ExtBut it s.heap h'->Q none { s with heap:=h' }):wpAny (model prog w) A (pyNext (.ref it)) Q E s:=by
 obtain⟨o,ho,hc,hd⟩:=id hit
 obtain⟨ol,hol,_,nl,hdl⟩:=hl
 unfold pyNext
 refine zW (wP (wQ (name:=Str.ofString "__next__") hit.typeIs slot_tupleiter_next (wS slot_tupleiter_next hit.typeIs entry_tupleiter_next ?_ (args_tupleiter_next _))))
 show wpAny _ _ (field (.ref it) 0>>=_) _ _ s;refine zW (wA ho hd (x:=.ref l) rfl ?_)
 show wpAny _ _ (if(Value.ref l == Value.none)=true then _ else _) _ _ s;rw[wT (show ¬((Value.ref l == Value.none)=true) from wU)]
 show wpAny _ _ (field (.ref it) 1>>=_) _ _ s;refine zW (wA ho hd (x:=.int i 0) rfl ?_)
 show wpAny _ _ (seqItems? (.ref l)>>=_) _ _ s;refine zW (wV hol hdl ?_)
 simp only[wX,hx]
 refine zW (wY (zW (wZ ho hd (by simp) ?_)))
 refine W8 (A:=A.in1) (hh.keep λe o he q=>(wB _ _ (wC (hne e he))).trans q) λh' x k hk=>?_
 refine zW (vA (T:="StopIteration") (b:=true) hk vB ?_)
 exact zX (hQ _ λb o nb q=>k b o ((wB _ _ (wC nb)).trans q))
theorem NY{t:Addr}{items:Array Value}{Q:List Value->Shared->Prop}(hh:VG A s.heap)(ht:IsTup s.heap t items) 
  (hQ:∀h',Heap.ExtBut s.heap.objs.size s.heap h'->Q items.toList { s with heap:=h' }):wpAny (model prog w) A (unpackItems (.ref t) items.size none) Q E s:=by
 have hlt:t≠s.heap.objs.size:=by obtain⟨o,ho,_⟩:=ht;exact vC (wM ho)
 have hne:∀e,A.handled=some (.ref e)->e≠s.heap.objs.size:=λe he z=>by
  rcases hh with hn|⟨e',oe,vs,h1,h2,_⟩
  ·rw[hn]at he;cases he
  ·rw[he]at h1;cases h1
   exact vC (wM h2) z
 unfold unpackItems notIterableAtAll
 refine zW (zW (vD ht.typeIs slot_tuple_iter.lookup (zX ?_)))
 simp only[vE,vF]
 refine zW (zY (iter_tuple ht (zW (zY (draw_tuple hlt items.size 0 _ _ ⟨_,wK _ rfl,rfl,rfl⟩ (ht.push _) (by omega) λh1 i1 s1=>?_)))))
 rw[drop_zero,List.take_of_length_le (by simp),wT (by simp)]
 have t1:IsTup h1 t items:=(ht.push _).extBut s1.extBut hlt
 refine zW (zY (Fz (hh.keep λe o he q=>s1.extBut e o (hne e he) (wJ _ q)) hne i1 t1 (by simp) λh2 e2=>?_))
 simp only[Option.isSome_none,vE,vF]
 exact zX (hQ h2 λb o hb q=>e2 b o hb (s1.extBut b o hb (wJ _ q)))
theorem JD{env:Env}{elts:List Expr}{k}{pos:Pos}{t:Addr}{items:Array Value}{Q:Unit->Shared->Prop}(hh:VG A s.heap)(ht:IsTup s.heap t items)(hn:(assignEach elts env).length=items.size)(hs:(assignEach elts env).findIdx? (·.1)=none) 
  (h:∀h',Heap.ExtBut s.heap.objs.size s.heap h'->wpAny (model prog w) A (assignInOrder ((assignEach elts env).map (·.2)) items.toList) Q E { s with heap:=h' }):wpAny (model prog w) A (assign (.Tuple elts k pos) env (.ref t)) Q E s:=by
 rw[assign_Tuple]
 unfold unpack
 rw[hn,hs]
 exact zW (vG (zW (zY (NY hh ht h))))
theorem Aq{it:Addr}{x left step:Int}{Q:Option Value->Shared->Prop}(hh:VG A s.heap)(hit:IsRangeIter s.heap it x left step)(hleft:left≤0) 
  (hQ:∀h',Heap.ExtBut it s.heap h'->Q none { s with heap:=h' }):wpAny (model prog w) A (pyNext (.ref it)) Q E s:=by
 have hT:s.TypeIs (.ref it) "range_iterator":=⟨_,hit,rfl⟩
 unfold pyNext
 refine zW (wP (wQ (name:=Str.ofString "__next__") hT F.slot_range_iterator_next (wS F.slot_range_iterator_next hT F.entry_range_iterator_next ?_ (F.args_range_iterator_next_1 _))))
 show wpAny _ _ (field (.ref it) 0>>=_) _ _ s;refine zW (wA hit rfl (x:=rawInt x) rfl ?_)
 show wpAny _ _ (field (.ref it) 1>>=_) _ _ s;refine zW (wA hit rfl (x:=rawInt left) rfl ?_)
 show wpAny _ _ (field (.ref it) 2>>=_) _ _ s;refine zW (wA hit rfl (x:=rawInt step) rfl ?_)
 show wpAny _ _ (if left≤0 then _ else _) _ _ s;rw[zU hleft]
 refine zW (wY (zW ?_))
 refine W8 (A:=A.in1) hh λh' x k hk=>?_
 refine zW (vA (T:="StopIteration") (b:=true) hk vB ?_)
 exact zX (hQ _ λb o _ q=>k b o q)
theorem Dc{it:Addr}{lo:Int}{n i:Nat}{Q:Option Value->Shared->Prop}(hi:i<n)(st:IsRangeIter s.heap it (lo+(i:Nat)*1) ((n:Int)-(i:Nat)) 1) 
  (hQ:∀v h' tk,(∃t,v=.int (lo+(i:Nat)*1) t)->IsRangeIter h' it (lo+((i+1:Nat):Int)*1) ((n:Int)-((i+1:Nat):Int)) 1->(∀b o,b ∉ [it]->s.heap.get? b=some o->h'.get? b=some o)->Q (some v) { s with heap:=h',toks:=tk }):wpAny (model prog w) A (pyNext (.ref it)) Q E s:=by
 refine wpAny_pyNext_range_item st (by omega) λh' hit' hs'=>?_
 refine hQ _ h' _ ⟨_,rfl⟩ ?_ λb o hb e=>hs'.extBut b o (λh=>hb (by simp[h])) e
 have e1:lo+((i+1:Nat):Int)*1=lo+(i:Int)*1+1:=by push_cast;omega
 have e2:(n:Int)-((i+1:Nat):Int)=(n:Int)-(i:Int)-1:=by push_cast;omega
 rw[e1,e2];exact hit'
end
abbrev Xd:=Sum Int Str
def Ce:Xd->Value->Bool
 | .inl k,v=>Value.isInt k v
 | .inr x,v=>Value.isStrOf x v
def Zby(w:World):Xd->Int
 | .inl k=>hashInt k
 | .inr x=>hashStr w x
theorem Y1:∀{k:Xd}{v:Value},Ce k v=true->(∃i t,k=Sum.inl i/\v=Value.int i t)\/(∃x t,k=Sum.inr x/\v=Value.str x t)
 | .inl i,v,h=>by
  obtain⟨t,e⟩:=Value.isInt_shape (k:=i) (v:=v) h
  exact .inl ⟨i,t,rfl,e⟩
 | .inr x,v,h=>by
  obtain⟨t,e⟩:=Value.isStrOf_shape (x:=x) (v:=v) h
  exact .inr ⟨x,t,rfl,e⟩
theorem Bs(a b:Int):decide ((Sum.inl a:Xd)=Sum.inl b)=(a == b):=by
 by_cases e:a=b
 ·subst e;simp
 ·have h:¬(Sum.inl a:Xd)=Sum.inl b:=λq=>e (Sum.inl.inj q)
  rw[vH h]
  exact(vI.mpr e).symm
theorem Bv(a b:Str):decide ((Sum.inr a:Xd)=Sum.inr b)=decide (a=b):=by
 by_cases e:a=b
 ·subst e;simp
 ·have h:¬(Sum.inr a:Xd)=Sum.inr b:=λq=>e (Sum.inr.inj q)
  rw[vH h,vH e]
theorem Bt(a:Int)(b:Str):decide ((Sum.inl a:Xd)=Sum.inr b)=false:=vH (λq=>nomatch q)
theorem Bu(a:Str)(b:Int):decide ((Sum.inr a:Xd)=Sum.inl b)=false:=vH (λq=>nomatch q)
def Yc(prog:Program)(w:World):PySem.KeyKind prog w Xd where
 is:=Ce
 hash:=Zby w
 inj:=λv a b ha hb=>by
  rcases Y1 ha with ⟨i,t,rfl,rfl⟩|⟨x,t,rfl,rfl⟩
  ·rcases Y1 hb with ⟨j,u,rfl,e⟩|⟨y,u,rfl,e⟩
   ·injection e with e1 _;rw[e1]
   ·exact nomatch e
  ·rcases Y1 hb with ⟨j,u,rfl,e⟩|⟨y,u,rfl,e⟩
   ·exact nomatch e
   ·injection e with e1 _;rw[e1]
 byValue:=λk v h=>by
  rcases Y1 h with ⟨i,t,rfl,rfl⟩|⟨x,t,rfl,rfl⟩<;>rfl
 pyHash:=λhv h=>by
  rcases Y1 hv with ⟨i,t,rfl,rfl⟩|⟨x,t,rfl,rfl⟩
  ·exact wpAny_pyHash_int h
  ·exact wpAny_pyHash_str h
 eqBool:=λhu hv h=>by
  rcases Y1 hu with ⟨i,t,rfl,rfl⟩|⟨x,t,rfl,rfl⟩
  ·rcases Y1 hv with ⟨j,u,rfl,rfl⟩|⟨y,u,rfl,rfl⟩
   ·rw[Bs]at h;exact wpAny_eqBool_int h
   ·rw[Bt]at h;exact SeqAt.EqAt.int_str i t y u _ _ _ _ h
  ·rcases Y1 hv with ⟨j,u,rfl,rfl⟩|⟨y,u,rfl,rfl⟩
   ·rw[Bu]at h;exact SeqAt.EqAt.str_int x t j u _ _ _ _ h
   ·rw[Bv]at h;exact wpAny_eqBool_str h
 «strs»:=λk x t v h=>by
  rcases Y1 h with ⟨i,u,rfl,e⟩|⟨y,u,rfl,e⟩
  ·exact nomatch e
  ·injection e with e1 _
   subst e1
   cases v<;>rfl
inductive V where
 | non|bl (b:Bool)|int (i:Int)|str (x:Str)|byt (b:Array UInt8)|flt (b:UInt64)|ref (a:Addr)|ty (n:String)
 deriving DecidableEq
def ZI:V->Value->Prop
 | .non,u=>u=Value.none
 | .bl b,u=>u=Value.bool b
 | .int i,u=>∃t,u=Value.int i t
 | .str x,u=>∃t,u=Value.str x t
 | .byt b,u=>∃t,u=Value.bytes b t
 | .flt b,u=>∃t,u=Value.float b t
 | .ref a,u=>u=Value.ref a
 | .ty n,u=>u=Value.type n
abbrev ZH:List V->List Value->Prop:=Paired ZI
theorem ZH.length{xs:List V}{us:List Value}(r:ZH xs us):xs.length=us.length:=Paired.length r
theorem ZH.get:∀{xs:List V}{us:List Value}{i:Nat}{x:V},ZH xs us->xs[i]? = some x->∃u,us[i]? = some u/\ZI x u
 | _,_,_,_,.nil,e=>by simp at e
 | _,_,0,_,.cons r _,e=>by simp at e;subst e;exact⟨_,rfl,r⟩
 | _,_,i+1,x,.cons _ t,e=>by
  obtain⟨u,h1,h2⟩:=ZH.get (i:=i) (x:=x) t (by simpa using e)
  exact⟨u,by simpa using h1,h2⟩
theorem ZH.set{x:V}{u:Value}(r:ZI x u):∀{xs:List V}{us:List Value} (i:Nat),ZH xs us->ZH (xs.set i x) (us.set i u)
 | _,_,_,.nil=>.nil
 | _,_,0,.cons _ t=>.cons r t
 | _,_,i+1,.cons q t=>.cons q (ZH.set r i t)
theorem ZH.append:∀{xs ys:List V}{us ws:List Value},ZH xs us->ZH ys ws->ZH (xs++ys) (us++ws)
 | _,_,_,_,.nil,s=>s
 | _,_,_,_,.cons r t,s=>.cons r (ZH.append t s)
theorem ZH.take:∀{xs:List V}{us:List Value} (n:Nat),ZH xs us->ZH (xs.take n) (us.take n)
 | _,_,0,_=>.nil
 | _,_,_+1,.nil=>.nil
 | _,_,n+1,.cons r t=>.cons r (ZH.take n t)
theorem ZH.drop:∀{xs:List V}{us:List Value} (n:Nat),ZH xs us->ZH (xs.drop n) (us.drop n)
 | _,_,0,r=>r
 | _,_,_+1,.nil=>.nil
 | _,_,n+1,.cons _ t=>ZH.drop n t
theorem ZH.none_of:∀{xs:List V}{us:List Value}{i:Nat},ZH xs us->xs[i]? = none->us[i]? = none:=λ{xs us i} r e=>by
 have h1:=r.length
 have h2:xs.length≤i:=List.getElem?_eq_none_iff.mp e
 exact List.getElem?_eq_none_iff.mpr (by omega)
def Vy:Option V->Option Value->Prop
 | some v,some u=>ZI v u
 | none,none=>True
 | _,_=>False
def KV{κ:Type}:List (κ×V)->List (κ×Value)->Prop:=Paired λ(p:κ×V) (q:κ×Value)=>p.1=q.1/\ZI p.2 q.2
def kV:Xd->V
 | .inl i=>.int i
 | .inr x=>.str x
inductive HO where
 /-- a list -/
 | lst (xs:List V)
 /-- a tuple (never changes) -/
 | tup (xs:List V)
 /-- a dict whose keys are ints and texts;one whose keys are tuples of ints and texts (the empty one is both) -/
 | dK (kvs:List (Xd×V))|dT (kvs:List (List Xd×V))
 /-- a set of ints: its members,its size -/
 | set (S:Int->Bool) (n:Nat)
 /-- an instance of the class at C,its dict at dx,its attributes -/
 | ins (C dx:Addr) (fs:List (Str×V))
 /-- the dict of the instance at x -/
 | own (x:Addr)
 /-- the dict of an exception -/
 | xd (fs:List (Str×V))
 /-- a bound method,f of x -/
 | met (f x:Addr)
 /-- a range object lo,lo+1,.. below hi -/
 | rng (lo hi:Int)
 /-- a thing that is known to the object (the script;a dict while a loop walks it): read,never written while it is so -/
 | frz (o:Obj) (u:HO)
 /-- a code object's table -/
 | tbl (ps:Array Value)
 /-- any other thing,by what is true of its one object (a def of one's own: SetO a S n:=HO.ext λh=>..) -/
 | ext (φ:Heap->Prop)
abbrev Hp:=Addr->Option HO
def upd(H:Hp)(a:Addr)(o:HO):Hp:=λb=>if b=a then some o else H b
theorem Z9{H:Hp}{a:Addr}{o:HO}:upd H a o a=some o:=by unfold upd;rw[zU rfl]
theorem Zk{H:Hp}{a b:Addr}{o:HO}(h:b≠a):upd H a o b=H b:=by unfold upd;rw[wT h]
theorem Xl{H:Hp}{a b:Addr}{o:HO}(h:H a=some o)(h':H b=none):a≠b:=by
 intro e;subst e;rw[h]at h';cases h'
def Mg(h:Heap)(a:Addr)(its:Array Value):Prop:=∃o,h.get? a=some o/\o.cls=.type "tuple"/\∃n,o.data=.seq its n/\o.dict=none
theorem Mg.tup{h:Heap}{a:Addr}{its:Array Value}(x:Mg h a its):IsTup h a its:=by obtain⟨o,e,c,n,d,_⟩:=x;exact⟨o,e,c,n,d⟩
theorem Mg.new(h:Heap)(its:Array Value):Mg (h.push { cls:=.type "tuple",data:=.seq its }) h.objs.size its:=⟨_,wK _ rfl,rfl,0,rfl,rfl⟩
section
variable (P:Program) (w:World)
def YV(H:Hp)(h:Heap)(a:Addr):HO->Prop
 | .lst xs=>xs.length≤sizeLine/\∃(its:List Value) (n:Nat),ZH xs its/\h.get? a=some { cls:=.type "list",data:=.seq its.toArray n }
 | .tup xs=>xs.length≤sizeLine/\∃its:List Value,ZH xs its/\Mg h a its.toArray
 | .dK kvs=>kvs.length≤sizeLine/\(a == sysModules)=false/\∃vs,KV kvs vs/\h.DictOf (Yc P w) a vs
 | .dT kvs=>kvs.length≤sizeLine/\(a == sysModules)=false/\∃xs:List (List Xd×Addr×Value),
   Paired (λ(p:List Xd×V) (q:List Xd×Addr×Value)=>p.1=q.1/\H q.2.1=some (.tup (p.1.map kV))/\ZI p.2 q.2.2) kvs xs /\
   ∃o es ep,h.get? a=some o/\o.ExactDict/\o.data=.dict es ep/\es.toList=xs.map (entryOfKey (tupleKind (Yc P w)))/\(xs.map (·.1)).Nodup/\ep=xs.length
 | .set S n=>h.SetOf (intKind P w) a S n
 | .ins C dx fs=>H dx=some (.own a)/\fs.length≤1000/\dx≠a/\h.get? a=some (PySem.W.instObj C dx) /\
   ∃mA,h.Ns1 dx mA/\(∀f,Vy (fs.lookup f) (mA f))/\PySem.Within mA (fs.map (·.1))
 | .own _=>∃o,h.get? a=some o
 | .xd fs=>∃mA,h.Ns1 a mA/\∀f,Vy (fs.lookup f) (mA f)
 | .rng lo hi=>∃t u v,h.get? a=some { cls:=.type "range",data:=.fields #[.int lo t,.int hi u,.int 1 v] }
 | .frz o u=>h.get? a=some o/\YV H h a u
 | .tbl ps=>h.get? a=some { cls:=.none,data:=.fields ps }
 | .met f x=>h.get? a=some (PySem.W.methodObj (.ref f) (.ref x))
 | .ext φ=>φ h/\(∃o,h.get? a=some o)/\∀h1 h2:Heap,φ h1->(∀o,h1.get? a=some o->h2.get? a=some o)->φ h2
def U5(H:Hp)(h:Heap):Prop:=∀a o,H a=some o->YV P w H h a o
end
section
variable {P:Program}{w:World}{H H':Hp}{h h':Heap}{a:Addr}{o:HO}
theorem YV.lt(x:YV P w H h a o):a<h.objs.size:=by
 cases o with
 | lst xs=>obtain⟨_,_,_,_,e⟩:=x;exact wM e
 | tup xs=>obtain⟨_,_,_,p⟩:=x;exact p.tup.lt
 | dK kvs=>obtain⟨_,_,_,_,o,_,_,e,_⟩:=x;exact wM e
 | dT kvs=>obtain⟨_,_,_,_,o,_,_,e,_⟩:=x;exact wM e
 | set S n=>obtain⟨o,_,_,_,e,_⟩:=x;exact wM e
 | ins C dx fs=>obtain⟨_,_,_,e,_⟩:=x;exact wM e
 | own y=>obtain⟨_,e⟩:=x;exact wM e
 | xd fs=>obtain⟨_,⟨_,_,_,e,_⟩,_⟩:=x;exact wM e
 | rng lo hi=>obtain⟨_,_,_,e⟩:=x;exact wM e
 | frz ob u=>obtain⟨e,_⟩:=x;exact wM e
 | tbl ps=>exact wM (show h.get? a=some _ from x)
 | met f y=>exact wM (show h.get? a=some _ from x)
 | ext φ=>obtain⟨_,⟨_,e⟩,_⟩:=x;exact wM e
theorem Paired.mapP{α β:Type}{F G:α->β->Prop}:∀{l₁:List α}{l₂:List β},Paired F l₁ l₂->(∀a b,F a b->G a b)->Paired G l₁ l₂
 | _,_,.nil,_=>.nil
 | _,_,.cons r t,f=>.cons (f _ _ r) (Paired.mapP t f)
theorem YV.stay(x:YV P w H h a o)(k:∀b u,(b=a\/H b=some (.own a))->h.get? b=some u->h'.get? b=some u) 
  (ho:∀b,H b=some (.own a)->H' b=some (.own a)) (ht:∀b xs,H b=some (.tup xs)->H' b=some (.tup xs)):YV P w H' h' a o:=by
 induction o with
 | lst xs=>obtain⟨z,its,n,r,e⟩:=x;exact⟨z,its,n,r,k _ _ (.inl rfl) e⟩
 | tup xs=>obtain⟨z,its,r,ob,e,c⟩:=x;exact⟨z,its,r,ob,k _ _ (.inl rfl) e,c⟩
 | dK kvs=>obtain⟨z,y,vs,r,ob,es,ep,e,c⟩:=x;exact⟨z,y,vs,r,ob,es,ep,k _ _ (.inl rfl) e,c⟩
 | dT kvs=>
  obtain⟨z,y,xs,r,ob,es,ep,e,c⟩:=x
  exact⟨z,y,xs,Paired.mapP r λp q z=>⟨z.1,ht _ _ z.2.1,z.2.2⟩,ob,es,ep,k _ _ (.inl rfl) e,c⟩
 | set S n=>obtain⟨ob,es,ep,t,e,c⟩:=x;exact⟨ob,es,ep,t,k _ _ (.inl rfl) e,c⟩
 | ins C dx fs=>
  obtain⟨d,z,ne,e,mA,⟨od,es,ep,e2,c⟩,r⟩:=x
  exact⟨ho _ d,z,ne,k _ _ (.inl rfl) e,mA,⟨od,es,ep,k _ _ (.inr d) e2,c⟩,r⟩
 | own y=>obtain⟨ob,e⟩:=x;exact⟨ob,k _ _ (.inl rfl) e⟩
 | xd fs=>obtain⟨mA,⟨od,es,ep,e,c⟩,r⟩:=x;exact⟨mA,⟨od,es,ep,k _ _ (.inl rfl) e,c⟩,r⟩
 | rng lo hi=>obtain⟨t,u,v,e⟩:=x;exact⟨t,u,v,k _ _ (.inl rfl) e⟩
 | frz ob u ih=>obtain⟨e,q⟩:=x;exact⟨k _ _ (.inl rfl) e,ih q⟩
 | tbl ps=>
  have e:h.get? a=some { cls:=.none,data:=.fields ps }:=x
  show h'.get? a=some { cls:=.none,data:=.fields ps }
  exact k a _ (.inl rfl) e
 | met f y=>
  have e:h.get? a=some (PySem.W.methodObj (.ref f) (.ref y)):=x
  show h'.get? a=some (PySem.W.methodObj (.ref f) (.ref y))
  exact k a _ (.inl rfl) e
 | ext φ=>obtain⟨p,⟨o,e⟩,st⟩:=x;exact⟨st _ _ p λo q=>k _ _ (.inl rfl) q,⟨o,k _ _ (.inl rfl) e⟩,st⟩
theorem U5.lt(x:U5 P w H h)(e:H a=some o):a<h.objs.size:=(x a o e).lt
theorem U5.fresh(x:U5 P w H h)(e:h.objs.size≤a):H a=none:=by
 cases q:H a with
 | none=>rfl
 | some u=>exact absurd (zI (x.lt q) e) (vJ _)
theorem U5.kept(x:U5 P w H h)(k:∀b u,h.get? b=some u->h'.get? b=some u):U5 P w H h':=λa o e=>
 (x a o e).stay (λb u _ q=>k b u q) (λ_ q=>q) λ_ _ q=>q
theorem U5.laid(x:U5 P w H h)(k:∀b u,h.get? b=some u->h'.get? b=some u)(hp:h.objs.size≤a)(new:YV P w (upd H a o) h' a o):U5 P w (upd H a o) h':=λb u e=>by
 have hn:=x.fresh hp
 by_cases hb:b=a
 ·subst hb;rw[Z9]at e;cases e;exact new
 ·rw[Zk hb]at e
  exact(x b u e).stay (λc v _ q=>k c v q) (λc q=>by rw[Zk (Xl q hn)];exact q) λc xs q=>by rw[Zk (Xl q hn)];exact q
end
def Rd(H:Hp)(a:Addr)(u:HO):Prop:=H a=some u\/∃o,H a=some (.frz o u)
theorem Rd.of{H:Hp}{a:Addr}{u:HO}(h:H a=some u):Rd H a u:=.inl h
theorem Rd.ok{P:Program}{w:World}{H:Hp}{h:Heap}{a:Addr}{u:HO}(r:Rd H a u)(x:U5 P w H h):YV P w H h a u:=by
 rcases r with r|⟨o,r⟩
 ·exact x a u r
 ·obtain⟨_,q⟩:=x a _ r
  exact q
def Mut:Option HO->Prop
 | some (.lst _)=>True
 | some (.dK _)=>True
 | some (.dT _)=>True
 | some (.set _ _)=>True
 | some (.ins _ _ _)=>True
 | some (.ext _)=>True
 | _=>False
section
variable {P:Program}{w:World}{H:Hp}{h h':Heap}{x e:Addr}{o':HO}
theorem U5.write(ok:U5 P w H h)(mu:Mut (H x))(he:e=x\/H e=some (.own x))(k:∀b u,b≠e->h.get? b=some u->h'.get? b=some u)(heo:∃u,h'.get? e=some u) 
  (new:YV P w (upd H x o') h' x o'):U5 P w (upd H x o') h':=λb u q=>by
 have nown:∀c y,H c=some (.own y)->c≠x:=λc y r z=>by subst z;rw[r]at mu;exact mu
 have ntup:∀c xs,H c=some (.tup xs)->c≠x:=λc xs r z=>by subst z;rw[r]at mu;exact mu
 by_cases hb:b=x
 ·subst hb;rw[Z9]at q;cases q;exact new
 ·rw[Zk hb]at q
  by_cases hbe:b=e
  ·have q':H b=some (.own x):=by
    rcases he with z|z
    ·exact absurd (hbe.trans z) hb
    ·rw[hbe];exact z
   rw[q]at q';cases q'
   obtain⟨v,hv⟩:=heo
   exact⟨v,by rw[hbe];exact hv⟩
  ·refine(ok b u q).stay (λc v hc r=>k c v ?_ r) (λc r=>by rw[Zk (nown c b r)];exact r) λc xs r=>by rw[Zk (ntup c xs r)];exact r
   rcases hc with rfl|hc
   ·exact hbe
   ·rintro rfl
    rcases he with z|z
    ·exact nown c b hc z
    ·rw[hc]at z;cases z;exact hb rfl
end
structure Un(fs ex:List Addr)(H H':Hp)(h h':Heap):Prop where
 keep:∀b o,h.get? b=some o->H b=none->b ∉ fs->b ∉ ex->h'.get? b=some o
 slot:∀b o,h.get? b=some o->H b=none->b∈fs->b ∉ ex->∃sl,h'.get? b=some { o with slots:=sl }
 free:∀b o,h.get? b=some o->H b=none->b ∉ ex->H' b=none
 there:∀b o,h.get? b=some o->b ∉ ex->∃o',h'.get? b=some o'
 tups:∀b xs,H b=some (.tup xs)->H' b=some (.tup xs)
 frzs:∀b o u,H b=some (.frz o u)->H' b=some (.frz o u)
 tbls:∀b ps,H b=some (.tbl ps)->∃more,H' b=some (.tbl (ps++more))
section
variable {fs fs' ex ex':List Addr}{H H1 H2:Hp}{h h1 h2 h':Heap}{a x e:Addr}{o:HO}
theorem Un.any(u:Un fs ex H H1 h h1){b:Addr}{ob:Obj}(q:h.get? b=some ob)(n:H b=none)(hx:b ∉ ex):∃sl,h1.get? b=some { ob with slots:=sl }:=by
 by_cases hb:b∈fs
 ·exact u.slot b ob q n hb hx
 ·exact⟨ob.slots,u.keep b ob q n hb hx⟩
theorem Un.trans(a:Un fs ex H H1 h h1)(b:Un fs ex H1 H2 h1 h2):Un fs ex H H2 h h2 where
 keep:=λc ob q n hc hx=>b.keep c ob (a.keep c ob q n hc hx) (a.free c ob q n hx) hc hx
 slot:=λc ob q n hc hx=>by
  obtain⟨sl,e1⟩:=a.slot c ob q n hc hx
  obtain⟨sl',e2⟩:=b.slot c _ e1 (a.free c ob q n hx) hc hx
  exact⟨sl',e2⟩
 free:=λc ob q n hx=>by
  obtain⟨o',e1⟩:=a.there c ob q hx
  exact b.free c o' e1 (a.free c ob q n hx) hx
 there:=λc ob q hx=>by
  obtain⟨o',e1⟩:=a.there c ob q hx
  exact b.there c o' e1 hx
 tups:=λc xs q=>b.tups c xs (a.tups c xs q)
 frzs:=λc ob xs q=>b.frzs c ob xs (a.frzs c ob xs q)
 tbls:=λc ps q=>by
  obtain⟨m1,e1⟩:=a.tbls c ps q
  obtain⟨m2,e2⟩:=b.tbls c _ e1
  exact⟨m1++m2,by rw[e2,vK]⟩
theorem Un.kept(k:∀b u,h.get? b=some u->h'.get? b=some u):Un fs ex H H h h':=
 ⟨λb ob q _ _ _=>k b ob q,λb ob q _ _ _=>⟨ob.slots,k b ob q⟩,λ_ _ _ n _=>n,λb ob q _=>⟨ob,k b ob q⟩,λ_ _ q=>q,λ_ _ _ q=>q,λ_ ps q=>⟨#[],by rw[q];simp⟩⟩
theorem Un.refl:Un fs ex H H h h:=Un.kept λ_ _ q=>q
theorem Un.laid(k:∀b u,h.get? b=some u->h'.get? b=some u)(hp:h.objs.size≤a)(hn:H a=none):Un fs ex H (upd H a o) h h' where
 keep:=λb u q _ _ _=>k b u q
 slot:=λb u q _ _ _=>⟨u.slots,k b u q⟩
 free:=λb u q n _=>by rw[Zk (vC (zI (wM q) hp))];exact n
 there:=λb u q _=>⟨u,k b u q⟩
 tups:=λb xs q=>by rw[Zk (Xl q hn)];exact q
 frzs:=λb u xs q=>by rw[Zk (Xl q hn)];exact q
 tbls:=λb ps q=>⟨#[],by rw[Zk (Xl q hn),q];simp⟩
theorem Un.write(mu:Mut (H x))(he:e=x\/H e=some (.own x))(k:∀b u,b≠e->h.get? b=some u->h'.get? b=some u)(heo:∃u,h'.get? e=some u):Un fs ex H (upd H x o) h h':=by
 have hx:∀b,H b=none->b≠x:=λb n z=>by subst z;rw[n]at mu;exact mu
 have hb:∀b,H b=none->b≠e:=λb n z=>by
  subst z
  rcases he with r|r
  ·exact hx b n r
  ·rw[n]at r;cases r
 have hm:∀b u,H b=some u->¬Mut (some u)->b≠x:=λb u q nm z=>by subst z;rw[q]at mu;exact nm mu
 refine⟨λb u q n _ _=>k b u (hb b n) q,λb u q n _ _=>⟨u.slots,k b u (hb b n) q⟩,λb u q n _=>by rw[Zk (hx b n)];exact n,λb u q _=>?_,
  λb xs q=>by rw[Zk (hm b _ q λz=>z)];exact q,λb u xs q=>by rw[Zk (hm b _ q λz=>z)];exact q,λb ps q=>⟨#[],by rw[Zk (hm b _ q λz=>z),q];simp⟩⟩
 by_cases hbe:b=e
 ·subst hbe;exact heo
 ·exact⟨u,k b u hbe q⟩
theorem Un.mono(u:Un fs ex H H1 h h1)(hs:∀b∈fs,b∈fs')(hx:∀b∈ex,b∈ex'):Un fs' ex' H H1 h h1:=
 ⟨λb ob q n hb he=>u.keep b ob q n (λz=>hb (hs b z)) λz=>he (hx b z),λ_ _ q n _ he=>u.any q n λz=>he (hx _ z),λb ob q n he=>u.free b ob q n λz=>he (hx b z),λb ob q he=>u.there b ob q λz=>he (hx b z),u.tups,u.frzs,u.tbls⟩
end
def trk(h:Heap)(H:Hp):List Addr:=(List.range h.objs.size).filter λa=>(H a).isSome
def PQ(h:Heap)(H:Hp):Heap:=PySem.W.hideAll h (trk h H)
theorem KS(h:Heap)(H:Hp):(PQ h H).objs.size=h.objs.size:=PySem.W.hideAll_size _ _
theorem Hk{h:Heap}{H:Hp}{b:Addr}{o:Obj}(e:h.get? b=some o)(n:H b=none):(PQ h H).get? b=some o:=
 PySem.W.hideAll_get _ e λhm=>by
  have q:(H b).isSome=true:=(mem_filter.mp hm).2
  rw[n]at q;simp at q
theorem Ez{h:Heap}{H:Hp}{b:Addr}{o:Obj}(e:(PQ h H).get? b=some o):h.get? b=some o/\H b=none:=by
 have e':h.get? b=some o:=PySem.W.of_hideAll (trk h H) e
 refine⟨e',?_⟩
 cases q:H b with
 | none=>rfl
 | some x=>
  have hm:b∈trk h H:=mem_filter.mpr ⟨mem_range.mpr (wM e'),by simp[q]⟩
  have z:(PQ h H).get? b=none:=PySem.W.hideAll_none (trk h H) hm
  rw[z]at e;cases e
def FQ(g h:Heap)(L:Addr):List (Addr×Obj):=(List.range h.objs.size).filterMap λa=>if a=L\/(g.get? a).isSome=true then none else(h.get? a).map λo=>(a,o)
def rest(g h:Heap)(L d:Addr):List (Addr×Obj):=(FQ g h L).filter λp=>decide (p.1≠d)
structure Mod(K:Frag)(mg:Str->Option Value)(base:Heap):Prop where
 kin:K.In base
 glob:base.Ns mainGlobals mg
 blt:∃mb,base.Ns builtinsNs mb/\∀x:Str,x≠"__name__"->mb x=bootBuiltins x
 nolimit:base.NoLimit
structure Cx where
 prog:Program
 w:World
 K:Frag
 mg:Str->Option Value
 base:Heap
 A:Around
 N:List Str
 s₀:Shared
 H₀:Hp
 env:Env
 outer:List Env
 stack:List Env
 ex:List Addr
 fn:Str->Bool
 calm:Bool
 cold:Bool
 pn:List (Addr×Obj)
 xe:Value->Shared->Prop
def LB(l:List Env):List Addr:=l.filterMap (·.frame)
abbrev Cx.fs(X:Cx):List Addr:=LB X.outer
def C8(sc:Scope)(x:Str):Prop:=sc.names.lookup x=some .local \/ sc.names.lookup x=some .cell\/sc.names.lookup x=some .free
def D6(sc:Scope)(x:Str):Prop:=sc.names.lookup x=some .local \/ sc.names.lookup x=some .cell
def Zbp(env:Env)(h:Heap)(m:Str->Option Value)(x:Str)(u:Value):Prop:=
 (env.kindOf x=some .local/\m x=some u)\/((env.kindOf x=some .cell\/env.kindOf x=some .free)/\∃c,env.cells.lookup x=some c/\h.IsCell c (some u))
def Rk(A:Around)(H:Hp):Prop:=∃e oe u vs,A.handled=some (.ref e)/\H e=some (HO.frz oe u)/\oe.data=.fields vs/\vs[2]? = some Value.none
structure Cx.Ok(X:Cx):Prop where
 mod:Mod X.K X.mg X.base
 kind:X.env.scope.kind=.function
 glob:X.env.globals=mainGlobals
 blt:X.env.builtins=builtinsNs
 above:X.s₀.heap.objs.size≤X.env.locals
 inj:∀x y c,X.env.cells.lookup x=some c->X.env.cells.lookup y=some c->x=y
 has:∀x,(X.env.kindOf x=some .cell\/X.env.kindOf x=some .free)->∃c,X.env.cells.lookup x=some c
 cab:∀x c,X.fn x=true->X.env.cells.lookup x=some c->X.s₀.heap.objs.size≤c
 hd:X.calm=true->X.A.handled=none\/Rk X.A X.H₀
 cd:X.cold=true->X.A.handled=none
 frames:X.A.frames=some X.stack
 stk:X.stack=X.outer\/(X.stack=X.env::X.outer/\X.env.frame=some X.env.locals)
 exf:∀b∈X.ex,b≠X.env.locals/\∀x c,X.env.cells.lookup x=some c->c≠b
 bs:∀b o,X.base.get? b=some o->X.s₀.heap.get? b=some o/\X.H₀ b=none
 bsz:X.base.objs.size≤X.s₀.heap.objs.size
 noex:∀b o,X.base.get? b=some o->b ∉ X.ex
 exfs:∀b∈X.ex,b ∉ X.fs
 funs:X.s₀.heap.FunFrames X.base X.outer
 frf:∀b∈X.fs,X.H₀ b=none
structure Zu(X:Cx)(pins:List (Addr×Obj))(σ:List (Option V))(H:Hp)(s:Shared):Prop where
 ok:X.Ok
 os:s.os=X.s₀.os
 bare:AllBare s.gens
 base:Un X.fs X.ex X.H₀ H X.s₀.heap s.heap
 loc:∃m,s.heap.Ns X.env.locals m/\∀(i:Nat) (x:Str) (v:V),X.N[i]? = some x->σ[i]? = some (some v)->C8 X.env.scope x->∃u,ZI v u/\Zbp X.env s.heap m x u
 cell:∀x c,X.env.cells.lookup x=some c->∃v,s.heap.IsCell c v
 free:H X.env.locals=none
 freeC:∀x c,X.env.cells.lookup x=some c->H c=none
 pin:∀p∈X.pn++pins,s.heap.get? p.1=some p.2/\H p.1=none/\p.1≠X.env.locals/\p.1 ∉ X.fs/\∀v,p.2.data≠.cell v
 hok:U5 X.prog X.w H s.heap
 len:σ.length=X.N.length
section
variable {X:Cx}{pins:List (Addr×Obj)}{σ:List (Option V)}{H H':Hp}{s:Shared}{h':Heap}
theorem Cx.Ok.nofr(ok:X.Ok){b:Addr}{o:Obj}(e:X.base.get? b=some o):b ∉ X.fs:=λhb=>by
 have:=(ok.funs.mem hb).1
 rw[e]at this;cases this
theorem Zu.bs(I:Zu X pins σ H s):∀b o,X.base.get? b=some o->s.heap.get? b=some o/\H b=none:=λb o e=>
 ⟨I.base.keep b o (I.ok.bs b o e).1 (I.ok.bs b o e).2 (I.ok.nofr e) (I.ok.noex b o e),I.base.free b o (I.ok.bs b o e).1 (I.ok.bs b o e).2 (I.ok.noex b o e)⟩
theorem Zu.bk(I:Zu X pins σ H s):∀b o,X.base.get? b=some o->s.heap.get? b=some o:=λb o e=>(I.bs b o e).1
theorem Zu.mod(I:Zu X pins σ H s):Mod X.K X.mg X.base:=I.ok.mod
theorem Zu.kIn(I:Zu X pins σ H s):X.K.In s.heap:=I.ok.mod.kin.keeps I.bk
theorem Zu.nolimit(I:Zu X pins σ H s):s.heap.NoLimit:=I.ok.mod.nolimit.keeps I.bk
theorem Zu.fr(I:Zu X pins σ H s):∃m,Fr X.base X.env.locals s.heap m:=
 let ⟨m,hn,_⟩:=I.loc
 ⟨m,hn,I.bk,zF I.ok.bsz I.ok.above⟩
theorem Zu.lt(I:Zu X pins σ H s):X.env.locals<s.heap.objs.size:=let ⟨_,hn,_⟩:=I.loc;hn.lt
theorem Zu.sz(I:Zu X pins σ H s):X.s₀.heap.objs.size≤s.heap.objs.size:=zF I.ok.above (le_of_lt I.lt)
theorem Zu.nofs(I:Zu X pins σ H s){a:Addr}(h:s.heap.objs.size≤a):a ∉ X.fs:=λhb=>by
 obtain⟨_,o,ho,_⟩:=I.ok.funs.mem hb
 exact absurd (zI (wM ho) (zF I.sz h)) (vJ _)
theorem Zu.cne(I:Zu X pins σ H s):∀x c,X.env.cells.lookup x=some c->c≠X.env.locals:=λx c e z=>by
 obtain⟨v,o,ho,hd⟩:=I.cell x c e
 obtain⟨m,⟨o',es,ep,ho',hd',_⟩,_⟩:=I.loc
 rw[z,ho']at ho;cases ho;rw[hd']at hd;cases hd
theorem Zu.funs(I:Zu X pins σ H s):s.heap.FunFrames X.base X.outer:=by
 have all:∀(l:List Env),(∀b∈LB l,b∈X.fs)->X.s₀.heap.FunFrames X.base l->s.heap.FunFrames X.base l:=by
  intro l
  induction l with
  | nil=>intro _ _;trivial
  | cons env r ih=>
   intro hs hl
   obtain⟨hk,⟨L,o,hf,hn,ho,hd⟩,hr⟩:=hl
   have hL:L∈X.fs:=hs L (by unfold LB;rw[vL,hf];exact vM)
   obtain⟨sl,e⟩:=I.base.slot L o ho (I.ok.frf L hL) hL λz=>I.ok.exfs L z hL
   exact⟨hk,⟨L,_,hf,hn,e,hd⟩,ih (λb hb=>hs b (by unfold LB;rw[vL,hf];exact vN _ hb)) hr⟩
 exact all X.outer (λ_ hb=>hb) I.ok.funs
theorem Zu.stack(I:Zu X pins σ H s):s.heap.FunFrames X.base X.stack:=by
 rcases I.ok.stk with e|⟨e,hf⟩
 ·rw[e];exact I.funs
 ·rw[e]
  obtain⟨m,hn,_⟩:=I.loc
  refine .cons (by rw[I.ok.kind];decide) hf hn ?_ I.funs
  exact vO (zF I.ok.bsz I.ok.above)
theorem Zu.stkSub(I:Zu X pins σ H s):∀b∈LB X.stack,b∈X.env.locals::X.fs:=λb hb=>by
 rcases I.ok.stk with e|⟨e,hf⟩
 ·rw[e]at hb;exact vN _ hb
 ·rw[e]at hb
  unfold LB at hb
  rw[vL,hf]at hb
  exact hb
theorem Zu.stkFree(I:Zu X pins σ H s):∀b∈LB X.stack,H b=none:=λb hb=>by
 rcases vP.mp (I.stkSub b hb) with e|hb
 ·rw[e];exact I.free
 ·obtain⟨_,o,ho,_⟩:=I.ok.funs.mem hb
  exact I.base.free b o ho (I.ok.frf b hb) λz=>I.ok.exfs b z hb
theorem Zu.step{g':Array GenState}{t':Nat}{d':Drawn}{ch:List Addr}(I:Zu X pins σ H s) 
  (hch:∀b∈ch,(b∈X.ex\/X.s₀.heap.objs.size≤b)/\b≠X.env.locals/\(∀x c,X.env.cells.lookup x=some c->c≠b)/\∀p∈X.pn++pins,p.1≠b)
  (keep:∀b o,b≠X.env.locals->b ∉ X.fs->b ∉ ch->s.heap.get? b=some o->H b=none->h'.get? b=some o)
  (slot:∀b o,b≠X.env.locals->b∈X.fs->b ∉ ch->s.heap.get? b=some o->H b=none->∃sl,h'.get? b=some { o with slots:=sl }) (free:∀b o,b ∉ ch->s.heap.get? b=some o->H b=none->H' b=none)
  (there:∀b o,b ∉ ch->s.heap.get? b=some o->∃o',h'.get? b=some o')
  (tups:∀b xs,H b=some (.tup xs)->H' b=some (.tup xs)) (frzs:∀b o u,H b=some (.frz o u)->H' b=some (.frz o u)) (tbls:∀b ps,H b=some (.tbl ps)->∃more,H' b=some (.tbl (ps++more)))
  (ns:∀m,s.heap.Ns X.env.locals m->h'.Ns X.env.locals m) (hok:U5 X.prog X.w H' h') (hg:AllBare g') :
  Zu X pins σ H' { s with heap:=h',gens:=g',drawn:=d',toks:=t' }:=by
 have neL:∀b o,X.s₀.heap.get? b=some o->b≠X.env.locals:=λb o e=>vC (zI (wM e) I.ok.above)
 have neC:∀b o,X.s₀.heap.get? b=some o->b ∉ X.ex->b ∉ ch:=λb o e hx hb=>by
  rcases(hch b hb).1 with z|z
  ·exact hx z
  ·exact absurd (zI (wM e) z) (vJ _)
 have cellK:∀x c,X.env.cells.lookup x=some c->∀v,s.heap.IsCell c v->h'.IsCell c v:=λx c e v ⟨o,ho,hd⟩=>by
  have nch:c ∉ ch:=λz=>(hch c z).2.2.1 x c e rfl
  by_cases hc:c∈X.fs
  ·obtain⟨sl,q⟩:=slot c o (I.cne x c e) hc nch ho (I.freeC x c e)
   exact⟨_,q,hd⟩
  ·exact⟨o,keep c o (I.cne x c e) hc nch ho (I.freeC x c e),hd⟩
 refine⟨I.ok,I.os,hg,⟨λb o e n hb hx=>?_,λb o e n hb hx=>?_,λb o e n hx=>?_,λb o e hx=>?_,λb xs e=>tups b xs (I.base.tups b xs e),λb o xs e=>frzs b o xs (I.base.frzs b o xs e),λb ps e=>?_⟩,?_,λx c e=>?_,?_,λx c e=>?_,λp hp=>?_,hok,I.len⟩
 ·exact keep b o (neL b o e) hb (neC b o e hx) (I.base.keep b o e n hb hx) (I.base.free b o e n hx)
 ·obtain⟨sl,e1⟩:=I.base.slot b o e n hb hx
  obtain⟨sl',e2⟩:=slot b _ (neL b o e) hb (neC b o e hx) e1 (I.base.free b o e n hx)
  exact⟨sl',e2⟩
 ·obtain⟨o',e1⟩:=I.base.there b o e hx
  exact free b o' (neC b o e hx) e1 (I.base.free b o e n hx)
 ·obtain⟨o',e1⟩:=I.base.there b o e hx
  exact there b o' (neC b o e hx) e1
 ·obtain⟨m1,e1⟩:=I.base.tbls b ps e
  obtain⟨m2,e2⟩:=tbls b _ e1
  exact⟨m1++m2,by rw[e2,vK]⟩
 ·obtain⟨m,hn,hl⟩:=I.loc
  refine⟨m,ns m hn,λi x v e1 e2 e3=>?_⟩
  obtain⟨u,r,l⟩:=hl i x v e1 e2 e3
  refine⟨u,r,?_⟩
  rcases l with l|⟨k,c,e,z⟩
  ·exact .inl l
  ·exact .inr ⟨k,c,e,cellK x c e _ z⟩
 ·obtain⟨v,z⟩:=I.cell x c e
  exact⟨v,cellK x c e v z⟩
 ·obtain⟨m,⟨o,_,_,ho,_⟩,_⟩:=I.loc
  exact free _ o (λz=>(hch _ z).2.1 rfl) ho I.free
 ·obtain⟨v,o,ho,hd⟩:=I.cell x c e
  exact free c o (λz=>(hch c z).2.2.1 x c e rfl) ho (I.freeC x c e)
 ·obtain⟨e,n,ne,nf,d⟩:=I.pin p hp
  have nch:p.1 ∉ ch:=λz=>(hch p.1 z).2.2.2 p hp rfl
  exact⟨keep p.1 p.2 ne nf nch e n,free p.1 p.2 nch e n,ne,nf,d⟩
theorem Zu.un{t':Nat}(I:Zu X pins σ H s)(u:Un X.fs [] H H' s.heap h')(hok:U5 X.prog X.w H' h'):Zu X pins σ H' { s with heap:=h',toks:=t' }:=by
 obtain⟨m,⟨o,es,ep,ho,r⟩,_⟩:=id I.loc
 obtain⟨sl,hL⟩:=u.any ho I.free (by simp)
 exact I.step (g':=s.gens) (d':=s.drawn) (ch:=[]) (λ_ z=>nomatch z) (λb o _ hb _ e n=>u.keep b o e n hb (by simp)) (λb o _ hb _ e n=>u.slot b o e n hb (by simp)) (λb o _ e n=>u.free b o e n (by simp)) (λb o _ e=>u.there b o e (by simp)) u.tups u.frzs u.tbls (λm' hm=>by
  obtain⟨o',es',ep',ho',r'⟩:=hm
  rw[ho]at ho';cases ho'
  exact⟨_,es',ep',hL,r'⟩) hok I.bare
theorem Zu.call{g':Array GenState}{t':Nat}{d':Drawn}{ch:List Addr}(I:Zu X pins σ H s)(u:Un (LB X.stack) ch H H' s.heap h')(hok:U5 X.prog X.w H' h')(hg:AllBare g') 
  (hch:∀b∈ch,(b∈X.ex\/X.s₀.heap.objs.size≤b)/\b≠X.env.locals/\(∀x c,X.env.cells.lookup x=some c->c≠b)/\∀p∈X.pn++pins,p.1≠b) :
  Zu X pins σ H' { s with heap:=h',gens:=g',drawn:=d',toks:=t' }:=by
 obtain⟨m,⟨o,es,ep,ho,r⟩,_⟩:=id I.loc
 obtain⟨sl,hL⟩:=u.any ho I.free λz=>(hch _ z).2.1 rfl
 exact I.step (ch:=ch) hch (λb o hL hb hc e n=>u.keep b o e n (λz=>(vP.mp (I.stkSub b z)).elim hL hb) hc) (λb o _ _ hc e n=>u.any e n hc) (λb o hc e n=>u.free b o e n hc) (λb o hc e=>u.there b o e hc) u.tups u.frzs u.tbls (λm' hm=>by
  obtain⟨o',es',ep',ho',r'⟩:=hm
  rw[ho]at ho';cases ho'
  exact⟨_,es',ep',hL,r'⟩) hok hg
theorem Zu.turned{t':Nat}{it:Addr}(I:Zu X pins σ H s)(k:∀b o,b≠it->s.heap.get? b=some o->h'.get? b=some o)(hn:H it=none)(hL:it≠X.env.locals) 
  (h1:it∈X.ex\/X.s₀.heap.objs.size≤it) (h2:∀x c,X.env.cells.lookup x=some c->c≠it) (h3:∀p∈X.pn++pins,p.1≠it):Zu X pins σ H { s with heap:=h',toks:=t' }:=by
 have nit:∀b u,H b=some u->b≠it:=λb u e z=>by rw[z,hn]at e;cases e
 refine I.step (g':=s.gens) (d':=s.drawn) (ch:=[it]) (λb hb=>?_) (λb o _ _ hc e _=>k b o (λz=>hc (by simp[z])) e) (λb o _ _ hc e _=>⟨o.slots,k b o (λz=>hc (by simp[z])) e⟩) (λ_ _ _ _ n=>n)
  (λb o hc e=>⟨o,k b o (λz=>hc (by simp[z])) e⟩) (λ_ _ e=>e) (λ_ _ _ e=>e) (λb ps e=>⟨#[],by rw[e];simp⟩) (λm hm=>?_) (λb u e=>?_) I.bare
 ·have e:b=it:=by simpa using hb
  subst e
  exact⟨h1,hL,h2,h3⟩
 ·obtain⟨o,es,ep,ho,r⟩:=hm
  exact⟨o,es,ep,k _ o (wC hL) ho,r⟩
 ·refine(I.hok b u e).stay (λc v hc q=>k c v ?_ q) (λ_ q=>q) λ_ _ q=>q
  rcases hc with z|z
  ·rw[z];exact nit b u e
  ·exact nit c _ z
theorem Zu.tok(I:Zu X pins σ H s)(t:Nat):Zu X pins σ H { s with toks:=t }:=I.un (h':=s.heap) (t':=t) Un.refl I.hok
theorem Zu.kept{t':Nat}(I:Zu X pins σ H s)(k:∀b u,s.heap.get? b=some u->h'.get? b=some u):Zu X pins σ H { s with heap:=h',toks:=t' }:=I.un (Un.kept k) (I.hok.kept k)
theorem Zu.laid{a:Addr}{o:HO}{t':Nat}(I:Zu X pins σ H s)(k:∀b u,s.heap.get? b=some u->h'.get? b=some u)(hp:s.heap.objs.size≤a)(new:YV X.prog X.w (upd H a o) h' a o):
  Zu X pins σ (upd H a o) { s with heap:=h',toks:=t' }:=I.un (Un.laid k hp (I.hok.fresh hp)) (I.hok.laid k hp new)
theorem Zu.write{x e:Addr}{o:HO}{t':Nat}(I:Zu X pins σ H s)(mu:Mut (H x))(he:e=x\/H e=some (.own x))(k:∀b u,b≠e->s.heap.get? b=some u->h'.get? b=some u)(heo:∃u,h'.get? e=some u) 
  (new:YV X.prog X.w (upd H x o) h' x o):Zu X pins σ (upd H x o) { s with heap:=h',toks:=t' }:=I.un (Un.write mu he k heo) (I.hok.write mu he k heo new)
theorem Zu.pins_of{pins':List (Addr×Obj)}(I:Zu X pins σ H s)(h:∀p∈pins',s.heap.get? p.1=some p.2/\H p.1=none/\p.1≠X.env.locals/\p.1 ∉ X.fs/\∀v,p.2.data≠.cell v):Zu X pins' σ H s:=
 ⟨I.ok,I.os,I.bare,I.base,I.loc,I.cell,I.free,I.freeC,λp hp=>(vQ.mp hp).elim (λz=>I.pin p (vR _ z)) (h p),I.hok,I.len⟩
theorem Qa{N:List Str}(hN:N.Nodup){i j:Nat}{x:Str}(a:N[i]? = some x)(b:N[j]? = some x):i=j:=by
 obtain⟨h1,e1⟩:=vS.mp a
 obtain⟨h2,e2⟩:=vS.mp b
 exact(List.getElem_inj hN).mp (e1.trans e2.symm)
theorem Pl{M:Model}{A:Around}{E:Value->Shared->Prop}{i:Nat}{x:Str}{v:V}{u:Value}{Q:Unit->Shared->Prop}(I:Zu X pins σ H s)(hN:X.N.Nodup)(hi:X.N[i]? = some x)(hx:D6 X.env.scope x)(r:ZI v u) 
  (h:∀s',Zu X pins (σ.set i (some v)) H s'->(∃a,Heap.SameBut a s.heap s'.heap/\(a=X.env.locals\/X.env.cells.lookup x=some a))->Q () s') (hf:X.fn x=true\/X.env.scope.names.lookup x=some .local:=by first|exact .inl rfl|exact .inr rfl|assumption):wpAny M A (storeName X.env x u) Q E s:=by
 obtain⟨m,hn,hl⟩:=id I.loc
 have hcls:(X.env.scope.kind == .class||(X.env.scope.kind == .module&&X.env.locals != X.env.globals))=false:=by rw[I.ok.kind];rfl
 have hiσ:i<σ.length:=by rw[I.len];exact(vS.mp hi).1
 have cne:=I.cne
 have tracked:∀{a:Addr}{h':Heap},(∃o,s.heap.get? a=some o/\H a=none)->Heap.SameBut a s.heap h'->U5 X.prog X.w H h':=λ{a h'} ha hs b ob e=>by
  obtain⟨_,_,hfree⟩:=ha
  refine(I.hok b ob e).stay (λc w' hc q=>(hs.2 c ?_).trans q) (λ_ q=>q) λ_ _ q=>q
  rintro rfl
  rcases hc with rfl|hc
  ·rw[hfree]at e;cases e
  ·rw[hfree]at hc;cases hc
 rcases hx with hk|hk
 ·refine wpAny_storeName_local hk hn (λh' hn' hs=>?_) hcls
  obtain⟨oL,_,_,hoL,_⟩:=id hn
  refine h _ ⟨I.ok,I.os,I.bare,⟨λb o e n hb hx=>?_,λb o e n hb hx=>?_,I.base.free,λb o e hx=>?_,I.base.tups,I.base.frzs,I.base.tbls⟩,⟨_,hn',λj y v' e1 e2 e3=>?_⟩,λy c e=>?_,I.free,I.freeC,λp hp=>?_,tracked ⟨oL,hoL,I.free⟩ hs,by simpa using I.len⟩ ⟨_,hs,.inl rfl⟩
  ·exact(hs.2 b (vC (zI (wM e) I.ok.above))).trans (I.base.keep b o e n hb hx)
  ·obtain⟨sl,e1⟩:=I.base.slot b o e n hb hx
   exact⟨sl,(hs.2 b (vC (zI (wM e) I.ok.above))).trans e1⟩
  ·obtain⟨o',e1⟩:=I.base.there b o e hx
   exact⟨o',(hs.2 b (vC (zI (wM e) I.ok.above))).trans e1⟩
  ·by_cases hj:j=i
   ·subst hj
    rw[hi]at e1;cases e1
    rw[vT hiσ]at e2
    cases e2
    exact⟨u,r,.inl ⟨hk,by simp⟩⟩
   ·rw[vU (wC hj)]at e2
    obtain⟨u',r',q⟩:=hl j y v' e1 e2 e3
    refine⟨u',r',?_⟩
    rcases q with ⟨k,e⟩|⟨k,c,e,z⟩
    ·refine .inl ⟨k,?_⟩
     have:y≠x:=λe=>hj (Qa hN e1 (e▸hi))
     simp[this,e]
    ·exact .inr ⟨k,c,e,z.sameBut hs (cne y c e)⟩
  ·obtain⟨w',z⟩:=I.cell y c e
   exact⟨w',z.sameBut hs (cne y c e)⟩
  ·obtain⟨e,n,ne,nf,d⟩:=I.pin p hp
   exact⟨(hs.2 p.1 ne).trans e,n,ne,nf,d⟩
 ·have hfn:X.fn x=true:=by
   rcases hf with z|z
   ·exact z
   ·rw[z]at hk;cases hk
  obtain⟨c,hc⟩:=I.ok.has x (.inl hk)
  obtain⟨w',z⟩:=I.cell x c hc
  refine wpAny_storeName_cell I.ok.kind hk hc z (λh' hc' hs=>?_)
  obtain⟨oc,hoc,hocd⟩:=id z
  refine h { s with heap:=h' } ⟨I.ok,I.os,I.bare,⟨λb o e n hb hx=>?_,λb o e n hb hx=>?_,I.base.free,λb o e hx=>?_,I.base.tups,I.base.frzs,I.base.tbls⟩,⟨m,hn.sameBut hs (wC (cne x c hc)),λj y v' e1 e2 e3=>?_⟩,λy c' e=>?_,I.free,I.freeC,λp hp=>?_,tracked ⟨oc,hoc,I.freeC x c hc⟩ hs,by simpa using I.len⟩ ⟨c,hs,.inr hc⟩
  ·exact(hs.2 b (vC (zI (wM e) (I.ok.cab x c hfn hc)))).trans (I.base.keep b o e n hb hx)
  ·obtain⟨sl,e1⟩:=I.base.slot b o e n hb hx
   exact⟨sl,(hs.2 b (vC (zI (wM e) (I.ok.cab x c hfn hc)))).trans e1⟩
  ·obtain⟨o',e1⟩:=I.base.there b o e hx
   exact⟨o',(hs.2 b (vC (zI (wM e) (I.ok.cab x c hfn hc)))).trans e1⟩
  ·by_cases hj:j=i
   ·subst hj
    rw[hi]at e1;cases e1
    rw[vT hiσ]at e2
    cases e2
    exact⟨u,r,.inr ⟨.inl hk,c,hc,hc'⟩⟩
   ·rw[vU (wC hj)]at e2
    obtain⟨u',r',q⟩:=hl j y v' e1 e2 e3
    refine⟨u',r',?_⟩
    rcases q with q|⟨k,c',e,z'⟩
    ·exact .inl q
    ·refine .inr ⟨k,c',e,z'.sameBut hs ?_⟩
     rintro rfl
     exact hj (Qa hN e1 (I.ok.inj _ _ _ e hc▸hi))
  ·by_cases hcc:c'=c
   ·subst hcc;exact⟨_,hc'⟩
   ·obtain⟨w2,z2⟩:=I.cell y c' e
    exact⟨w2,z2.sameBut hs hcc⟩
  ·obtain⟨e,n,ne,nf,d⟩:=I.pin p hp
   refine⟨(hs.2 p.1 ?_).trans e,n,ne,nf,d⟩
   intro q
   rw[q,hoc]at e
   have q':oc=p.2:=vV e
   exact d w' (by rw[<- q'];exact hocd)
theorem Uh{M:Model}{A:Around}{E:Value->Shared->Prop}{i:Nat}{x:Str}{v:V}{u:Value}{Q:Unit->Shared->Prop}(I:Zu X pins σ H s)(hN:X.N.Nodup)(hi:X.N[i]? = some x)(hx:D6 X.env.scope x)(r:ZI v u) 
  (h:∀s',Zu X pins (σ.set i (some v)) H s'->Q () s') (hf:X.fn x=true\/X.env.scope.names.lookup x=some .local:=by first|exact .inl rfl|exact .inr rfl|assumption):wpAny M A (storeName X.env x u) Q E s:=
 Pl I hN hi hx r (λs' I' _=>h s' I') hf
theorem Zu.call'{s':Shared}{ch:List Addr}(I:Zu X pins σ H s)(ho:s'.os=s.os)(u:Un (LB X.stack) ch H H' s.heap s'.heap)(hok:U5 X.prog X.w H' s'.heap)(hg:AllBare s'.gens) 
  (hch:∀b∈ch,(b∈X.ex\/X.s₀.heap.objs.size≤b)/\b≠X.env.locals/\(∀x c,X.env.cells.lookup x=some c->c≠b)/\∀p∈X.pn++pins,p.1≠b):Zu X pins σ H' s':=by
 obtain⟨h',g',d',t',o'⟩:=s'
 have e:o'=s.os:=ho
 subst e
 exact I.call (g':=g') (t':=t') (d':=d') u hok hg hch
end
abbrev XK:=Value->Option Addr->Hp->Prop
abbrev St:=List (Option V)
abbrev VK:=V->Hp->Prop
abbrev TE:=St->Hp->VK->Prop
abbrev TT:=St->Hp->(Bool->Hp->Prop)->Prop
abbrev TA:=St->Hp->(List V->Hp->Prop)->Prop
structure O6 where
 nx:St->Hp->Prop
 rt:VK
 bk:St->Hp->Prop:=λ_ _=>False
 ct:St->Hp->Prop:=λ_ _=>False
abbrev TS:=O6->St->Hp->Prop
def EP(X:Cx)(pins:List (Addr×Obj))(σ:St)(Q:VK)(u:Value)(s':Shared):Prop:=∃v H',Zu X pins σ H' s'/\ZI v u/\Q v H'
def TP(X:Cx)(pins:List (Addr×Obj))(σ:St)(Q:Bool->Hp->Prop)(b:Bool)(s':Shared):Prop:=∃H',Zu X pins σ H' s'/\Q b H'
def AP(X:Cx)(pins:List (Addr×Obj))(σ:St)(Q:List V->Hp->Prop)(us:List Value)(s':Shared):Prop:=∃vs H',Zu X pins σ H' s'/\ZH vs us/\Q vs H'
def SP(X:Cx)(pins:List (Addr×Obj))(D:O6)(f:Flow)(s':Shared):Prop:=
 match f with
 | .next=>∃σ' H',Zu X pins σ' H' s'/\D.nx σ' H'
 | .brk=>∃σ' H',Zu X pins σ' H' s'/\D.bk σ' H'
 | .cont=>∃σ' H',Zu X pins σ' H' s'/\D.ct σ' H'
 | .ret u=>∃v σ' H',Zu X pins σ' H' s'/\ZI v u/\D.rt v H'
def PE(X:Cx)(e:Expr)(t:TE):Prop:=
 ∀(pins:List (Addr×Obj)) (s:Shared) (σ:St) (H:Hp) (Q:VK),Zu X pins σ H s->t σ H Q->wpAny (model X.prog X.w) X.A (eval e X.env) (EP X pins σ Q) X.xe s
def PT(X:Cx)(e:Expr)(t:TT):Prop:=
 ∀(pins:List (Addr×Obj)) (s:Shared) (σ:St) (H:Hp) (Q:Bool->Hp->Prop),Zu X pins σ H s->t σ H Q->wpAny (model X.prog X.w) X.A (isTrue e X.env (eval e X.env)) (TP X pins σ Q) X.xe s
def PW(X:Cx)(e:Expr)(t:TT):Prop:=
 ∀(whole:Sem Value) (pins:List (Addr×Obj)) (s:Shared) (σ:St) (H:Hp) (Q:Bool->Hp->Prop),Zu X pins σ H s->t σ H Q->wpAny (model X.prog X.w) X.A (isTrue e X.env whole) (TP X pins σ Q) X.xe s
theorem PW.pt{X:Cx}{e:Expr}{t:TT}(h:PW X e t):PT X e t:=h _
def PA(X:Cx)(es:List Expr)(t:TA):Prop:=
 ∀(pos:Pos) (pins:List (Addr×Obj)) (s:Shared) (σ:St) (H:Hp) (Q:List V->Hp->Prop),Zu X pins σ H s->t σ H Q->wpAny (model X.prog X.w) X.A (spliced (backTo pos (starEach es X.env))) (AP X pins σ Q) X.xe s
def PS(X:Cx)(st:Stmt)(t:TS):Prop:=
 ∀(pins:List (Addr×Obj)) (s:Shared) (σ:St) (H:Hp) (D:O6),Zu X pins σ H s->t D σ H->wpAny (model X.prog X.w) X.A (exec st X.env) (SP X pins D) X.xe s
def U6(X:Cx)(st:List Stmt)(t:TS):Prop:=
 ∀(pins:List (Addr×Obj)) (s:Shared) (σ:St) (H:Hp) (D:O6),Zu X pins σ H s->t D σ H->wpAny (model X.prog X.w) X.A (execs st X.env) (SP X pins D) X.xe s
theorem YB{α:Type}{t:Sem α}{Q Q':α->Shared->Prop}{M:Model}{A:Around}{E:Value->Shared->Prop}{s:Shared}(h:wpAny M A t Q E s)(hQ:∀a s,Q a s->Q' a s):wpAny M A t Q' E s:=vW h hQ λ_ _ x=>x
section
variable {X:Cx}
def O1(i:Nat):TE:=λσ H Q=>∃v,σ[i]? = some (some v)/\Q v H
def tC(v:V):TE:=λ_ H Q=>Q v H
theorem Qd{i:Nat}{x:Str}{pos:Pos}(hN:X.N[i]? = some x)(hv:C8 X.env.scope x)(hd:(x == ("__debug__" : Str))=false:=by decide)(hcd:(x == ("__classdict__" : Str))=false:=by decide):PE X (.Name x pos) (O1 i):=by
 intro pins s σ H Q I h
 obtain⟨v,e,h⟩:=h
 obtain⟨m,hn,hl⟩:=I.loc
 obtain⟨u,r,l⟩:=hl i x v hN e hv
 have fin:EP X pins σ Q u s:=⟨v,H,I,r,h⟩
 rcases l with ⟨hk,hm⟩|⟨hk,c,hc,hcell⟩
 ·exact wpAny_Name (wpAny_loadName_local I.ok.kind hk hn hm fin) hd
 ·rcases hk with hk|hk
  ·exact wpAny_Name (wpAny_loadName_cell I.ok.kind hk hc hcell fin) hd
  ·exact wpAny_Name (wpAny_loadName_free I.ok.kind hk hc hcell fin hcd) hd
theorem BF{i j pos}:PE X (.Constant (.int i) j pos) (tC (.int i)):=λ_ _ _ H _ I h=>wpAny_Constant_int ⟨.int i,H,I.tok _,⟨_,rfl⟩,h⟩
theorem Zaq{b j pos}:PE X (.Constant (.bool b) j pos) (tC (.bl b)):=λ_ _ _ H _ I h=>Constant_bool ⟨.bl b,H,I,rfl,h⟩
theorem BH{j pos}:PE X (.Constant .none j pos) (tC .non):=λ_ _ _ H _ I h=>Constant_none ⟨.non,H,I,rfl,h⟩
theorem Gr{x j pos}:PE X (.Constant (.str x) j pos) (tC (.str x)):=λ_ _ _ H _ I h=>vX ⟨.str x,H,I.tok _,⟨_,rfl⟩,h⟩
def Gl(X:Cx)(x:Str):Prop:=X.env.kindOf x=some .globalImplicit
theorem Uq{E:Value->Shared->Prop}{pins:List (Addr×Obj)}{s:Shared}{σ:St}{H:Hp}{x:Str}{u:Value}{pos:Pos}{Q:Value->Shared->Prop}(I:Zu X pins σ H s)(hg:Gl X x)(hm:X.mg x=some u)(h:Q u s) 
  (hd:(x == ("__debug__" : Str))=false:=by decide):wpAny (model X.prog X.w) X.A (eval (.Name x pos) X.env) Q E s:=
 Calls.Name_function_global I.ok.kind hg (Calls.loadGlobal_global (by rw[I.ok.glob];exact I.mod.glob.keeps I.bk) hm h) hd
theorem VV{E:Value->Shared->Prop}{pins:List (Addr×Obj)}{s:Shared}{σ:St}{H:Hp}{x:Str}{u:Value}{pos:Pos}{Q:Value->Shared->Prop}(I:Zu X pins σ H s)(hg:Gl X x)(hm:X.mg x=none)(hv:bootBuiltins x=some u)(h:Q u s) 
  (hn:x≠"__name__":=by decide) (hd:(x == ("__debug__" : Str))=false:=by decide):wpAny (model X.prog X.w) X.A (eval (.Name x pos) X.env) Q E s:=by
 obtain⟨mb,h1,h2⟩:=I.mod.blt
 exact Calls.Name_function_global I.ok.kind hg (Calls.loadGlobal_builtin (by rw[I.ok.glob];exact I.mod.glob.keeps I.bk) hm (by rw[I.ok.blt];exact h1.keeps I.bk) ((h2 x hn).trans hv) h) hd
theorem EA{x:Str}{v:V}{u:Value}{pos:Pos}(hg:Gl X x)(hm:X.mg x=some u)(r:ZI v u)(hd:(x == ("__debug__" : Str))=false:=by decide):PE X (.Name x pos) (tC v):=
 λ_ _ _ H _ I h=>Uq I hg hm ⟨v,H,I,r,h⟩ hd
theorem E5{x:Str}{v:V}{u:Value}{pos:Pos}(hg:Gl X x)(hm:X.mg x=none)(hv:bootBuiltins x=some u)(r:ZI v u)(hn:x≠"__name__":=by decide)(hd:(x == ("__debug__" : Str))=false:=by decide):PE X (.Name x pos) (tC v):=
 λ_ _ _ H _ I h=>VV I hg hm hv ⟨v,H,I,r,h⟩ hn hd
variable {a b:Expr}{ta tb:TE}{pos:Pos}
def tB(t:TE):TT:=λσ H Q=>t σ H λx H1=>∃c,x=.bl c/\Q c H1
theorem Ac{e:Expr}{t:TE}(h:PE X e t)(he:∀whole,isTrue e X.env whole=(do let v <- whole;standAt e.pos;holding [v] (truthy v)):=by intro _;rfl):PT X e (tB t):=by
 intro pins s σ H Q I hw
 refine isTrue_plain (YB (h pins s σ H _ I hw) λv s1 ⟨x,H1,I1,r1,q1⟩=>?_) (he _)
 obtain⟨d,rfl,q⟩:=q1
 cases r1
 exact vY ⟨H1,I1,q⟩
variable {tA tB':TT}{rest:List Expr}
def A2(t u:TT):TT:=λσ H Q=>t σ H λc H1=>if c=true then u σ H1 Q else Q false H1
def tOr(t u:TT):TT:=λσ H Q=>t σ H λc H1=>if c=true then Q true H1 else u σ H1 Q
def A7(t:TT):TT:=λσ H Q=>t σ H λc H1=>Q (!c) H1
theorem EN(ha:PT X a tA):PW X (.BoolOp .And [a] pos) tA:=by
 intro wh pins s σ H Q I h
 refine isTrue_and (YB (ha pins s σ H Q I h) λc s1 e=>?_)
 cases c with
 | true=>exact isTrue_and_nil e
 | false=>exact e
theorem Af(ha:PT X a tA):PW X (.BoolOp .Or [a] pos) tA:=by
 intro wh pins s σ H Q I h
 refine isTrue_or (YB (ha pins s σ H Q I h) λc s1 e=>?_)
 cases c with
 | false=>exact isTrue_or_nil e
 | true=>exact e
theorem Ae(ha:PT X a tA)(hb:PW X (.BoolOp .And (b::rest) pos) tB'):PW X (.BoolOp .And (a::b::rest) pos) (A2 tA tB'):=by
 intro wh pins s σ H Q I h
 refine isTrue_and (YB (ha pins s σ H _ I h) λc s1 ⟨H1,I1,q1⟩=>?_)
 cases c with
 | true=>exact hb wh pins s1 σ H1 Q I1 q1
 | false=>exact⟨H1,I1,q1⟩
theorem Zay(ha:PT X a tA)(hb:PW X (.BoolOp .Or (b::rest) pos) tB'):PW X (.BoolOp .Or (a::b::rest) pos) (tOr tA tB'):=by
 intro wh pins s σ H Q I h
 refine isTrue_or (YB (ha pins s σ H _ I h) λc s1 ⟨H1,I1,q1⟩=>?_)
 cases c with
 | true=>exact⟨H1,I1,q1⟩
 | false=>exact hb wh pins s1 σ H1 Q I1 q1
theorem Ab(ha:PT X a tA):PT X (.UnaryOp .Not a pos) (A7 tA):=by
 intro pins s σ H Q I h
 exact isTrue_not (ha pins s σ H (λc H1=>Q (!c) H1) I h)
def Fi(ta tb:TE):TE:=λσ H Q=>ta σ H λx H1=>∃c,x=.bl c/\if c=true then tb σ H1 Q else Q (.bl false) H1
def Fs(ta:TE):TE:=λσ H Q=>ta σ H λx H1=>∃c,x=.bl c/\Q (.bl (!c)) H1
theorem BJ{op}{t:TE}(h:PE X a t):PE X (.BoolOp op [a] pos) t:=λpins s σ H Q I hw=>BoolOp_one (h pins s σ H Q I hw)
theorem BC(ha:PE X a ta)(hb:PE X (.BoolOp .And (b::rest) pos) tb):PE X (.BoolOp .And (a::b::rest) pos) (Fi ta tb):=by
 intro pins s σ H Q I h
 refine BoolOp_and (YB (ha pins s σ H _ I h) λv s1 ⟨x,H1,I1,r1,q1⟩=>?_)
 obtain⟨c,rfl,q1⟩:=q1
 cases r1
 refine vY ?_
 cases c with
 | true=>exact hb pins s1 σ H1 Q I1 q1
 | false=>exact⟨.bl false,H1,I1,rfl,q1⟩
theorem BI(ha:PE X a ta):PE X (.UnaryOp .Not a pos) (Fs ta):=by
 intro pins s σ H Q I h
 refine UnaryOp_ (YB (ha pins s σ H _ I h) λv s1 ⟨x,H1,I1,r1,q1⟩=>?_)
 obtain⟨c,rfl,q1⟩:=q1
 cases r1
 exact not_of (vY ⟨.bl (!c),H1,I1,rfl,q1⟩)
def tIf(t:TT)(ta tb:TE):TE:=λσ H Q=>t σ H λc H1=>if c=true then ta σ H1 Q else tb σ H1 Q
theorem Gn{c:Expr}(hc:PT X c tA)(ha:PE X a ta)(hb:PE X b tb):PE X (.IfExp c a b pos) (tIf tA ta tb):=by
 intro pins s σ H Q I h
 refine wpAny_IfExp (YB (hc pins s σ H _ I h) λd s1 ⟨H1,I1,q1⟩=>?_)
 cases d with
 | true=>exact ha pins s1 σ H1 Q I1 q1
 | false=>exact hb pins s1 σ H1 Q I1 q1
end
def Xp(K:Frag)(H:Hp)(a:Addr)(xs:List V):Prop:=
 Rd H a (.lst xs) \/
  ∃(o:Obj) (its:Array Value) (n:Nat),K.lookup a=some o/\o.cls=.type "list"/\o.dict=none/\o.data=.seq its n/\its.size≤sizeLine/\ZH xs its.toList
def WH(K:Frag)(H:Hp)(a:Addr)(xs:List V):Prop:=
 Rd H a (.tup xs) \/
  ∃(o:Obj) (its:Array Value) (n:Nat),K.lookup a=some o/\o.cls=.type "tuple"/\o.data=.seq its n/\its.size≤sizeLine/\ZH xs its.toList
def Zbs:Value->Option V
 | .none=>some .non
 | .bool b=>some (.bl b)
 | .int i _=>some (.int i)
 | .str x _=>some (.str x)
 | .bytes b _=>some (.byt b)
 | .float b _=>some (.flt b)
 | .ref a=>some (.ref a)
 | .type n=>some (.ty n)
 | _=>none
theorem ZI.abs{x:V}{u:Value}(r:ZI x u):Zbs u=some x:=by
 cases x with
 | non=>cases r;rfl
 | bl _=>cases r;rfl
 | int _=>obtain⟨t,rfl⟩:=r;rfl
 | str _=>obtain⟨t,rfl⟩:=r;rfl
 | byt _=>obtain⟨t,rfl⟩:=r;rfl
 | flt _=>obtain⟨t,rfl⟩:=r;rfl
 | ref _=>cases r;rfl
 | ty _=>cases r;rfl
theorem ZI.inj{x y:V}{u:Value}(r:ZI x u)(q:ZI y u):x=y:=vV (r.abs.symm.trans q.abs)
theorem ZH.inj:∀{xs ys:List V}{us:List Value},ZH xs us->ZH ys us->xs=ys
 | _,_,_,.nil,.nil=>rfl
 | _,_,_,.cons r t,.cons r' t'=>by rw[r.inj r',ZH.inj t t']
section
variable {X:Cx}{pins:List (Addr×Obj)}{σ:St}{H:Hp}{s:Shared}{a:Addr}{xs ys:List V}
theorem Xp.of{K:Frag}(h:H a=some (.lst xs)):Xp K H a xs:=.inl (.inl h)
theorem WH.of{K:Frag}(h:H a=some (.tup xs)):WH K H a xs:=.inl (.inl h)
theorem Zu.list(I:Zu X pins σ H s)(h:Xp X.K H a xs):∃its:List Value,ZH xs its/\PlainL s.heap a its.toArray/\xs.length≤sizeLine:=by
 rcases h with h|⟨o,its,n,hk,hc,hd,hs,hz,r⟩
 ·obtain⟨z,its,n,r,e⟩:=h.ok I.hok
  exact⟨its,r,⟨_,n,e,rfl,rfl,rfl⟩,z⟩
 ·refine⟨its.toList,r,⟨o,n,I.kIn a o hk,hc,hd,by simpa using hs⟩,?_⟩
  have e:=r.length
  simp only[vZ]at e
  omega
theorem Zu.tuple(I:Zu X pins σ H s)(h:WH X.K H a xs):∃its:List Value,ZH xs its/\IsTup s.heap a its.toArray/\xs.length≤sizeLine:=by
 rcases h with h|⟨o,its,n,hk,hc,hs,hz,r⟩
 ·obtain⟨z,its,r,p⟩:=h.ok I.hok
  exact⟨its,r,p.tup,z⟩
 ·refine⟨its.toList,r,⟨o,I.kIn a o hk,hc,n,by simpa using hs⟩,?_⟩
  have e:=r.length
  simp only[vZ]at e
  omega
theorem Zu.list_inj(I:Zu X pins σ H s)(h:Xp X.K H a xs)(h':Xp X.K H a ys):xs=ys:=by
 obtain⟨its,r,⟨o,n,e,_,_,d⟩,_⟩:=I.list h
 obtain⟨its',r',⟨o',n',e',_,_,d'⟩,_⟩:=I.list h'
 rw[e]at e';cases e'
 rw[d]at d'
 injection d' with d1 _
 have:its=its':=by simpa using zR Array.toList d1
 subst this
 exact r.inj r'
theorem Zu.tuple_inj(I:Zu X pins σ H s)(h:WH X.K H a xs)(h':WH X.K H a ys):xs=ys:=by
 obtain⟨its,r,⟨o,e,_,n,d⟩,_⟩:=I.tuple h
 obtain⟨its',r',⟨o',e',_,n',d'⟩,_⟩:=I.tuple h'
 rw[e]at e';cases e'
 rw[d]at d'
 injection d' with d1 _
 have:its=its':=by simpa using zR Array.toList d1
 subst this
 exact r.inj r'
end
abbrev Cx.wish(X:Cx)(E:Value->Shared->Prop):Cx:={ X with xe:=E }
abbrev Cx.nox(X:Cx):Cx:=X.wish λ_ _=>False
theorem Cx.Ok.wish{X:Cx}(ok:X.Ok)(E:Value->Shared->Prop):(X.wish E).Ok:=
 ⟨ok.mod,ok.kind,ok.glob,ok.blt,ok.above,ok.inj,ok.has,ok.cab,ok.hd,ok.cd,ok.frames,ok.stk,ok.exf,ok.bs,ok.bsz,ok.noex,ok.exfs,ok.funs,ok.frf⟩
theorem Cx.Ok.unwish{X:Cx}{E:Value->Shared->Prop}(ok:(X.wish E).Ok):X.Ok:=
 ⟨ok.mod,ok.kind,ok.glob,ok.blt,ok.above,ok.inj,ok.has,ok.cab,ok.hd,ok.cd,ok.frames,ok.stk,ok.exf,ok.bs,ok.bsz,ok.noex,ok.exfs,ok.funs,ok.frf⟩
section
variable {X:Cx}{pins:List (Addr×Obj)}{σ:St}{H:Hp}{s:Shared}{E:Value->Shared->Prop}
theorem Zu.wish(I:Zu X pins σ H s)(E:Value->Shared->Prop):Zu (X.wish E) pins σ H s:=⟨I.ok.wish E,I.os,I.bare,I.base,I.loc,I.cell,I.free,I.freeC,I.pin,I.hok,I.len⟩
theorem Zu.unwish(I:Zu (X.wish E) pins σ H s):Zu X pins σ H s:=⟨I.ok.unwish,I.os,I.bare,I.base,I.loc,I.cell,I.free,I.freeC,I.pin,I.hok,I.len⟩
theorem SP.unwish{D:O6}{f:Flow}{s':Shared}(h:SP (X.wish E) pins D f s'):SP X pins D f s':=by
 cases f with
 | next=>obtain⟨σ',H',I,q⟩:=h;exact⟨σ',H',I.unwish,q⟩
 | brk=>obtain⟨σ',H',I,q⟩:=h;exact⟨σ',H',I.unwish,q⟩
 | cont=>obtain⟨σ',H',I,q⟩:=h;exact⟨σ',H',I.unwish,q⟩
 | ret u=>obtain⟨v,σ',H',I,r,q⟩:=h;exact⟨v,σ',H',I.unwish,r,q⟩
theorem PE.nox{e:Expr}{t:TE}(h:PE X.nox e t):PE X e t:=λpins s σ H Q I hw=>
 vW (h pins s σ H Q (I.wish _) hw) (λ_ _ ⟨v,H',I',r,q⟩=>⟨v,H',I'.unwish,r,q⟩) λ_ _ z=>False.elim z
theorem PT.nox{e:Expr}{t:TT}(h:PT X.nox e t):PT X e t:=λpins s σ H Q I hw=>
 vW (h pins s σ H Q (I.wish _) hw) (λ_ _ ⟨H',I',q⟩=>⟨H',I'.unwish,q⟩) λ_ _ z=>False.elim z
theorem U6.nox{st:List Stmt}{t:TS}(h:U6 X.nox st t):U6 X st t:=λpins s σ H D I hw=>
 vW (h pins s σ H D (I.wish _) hw) (λ_ _ q=>q.unwish) λ_ _ z=>False.elim z
end
section
variable {X:Cx}{st:Stmt}{rest:List Stmt}{t u:TS}{e:Expr}{te:TE}{pos:Pos}
def Fp:TS:=λD σ H=>D.nx σ H
def Ds(t u:TS):TS:=λD σ H=>t { D with nx:=u D } σ H
theorem Kg:U6 X [] Fp:=λ_ _ σ H _ I h=>uA ⟨σ,H,I,h⟩
theorem Qe(h1:PS X st t)(h2:U6 X rest u):U6 X (st::rest) (Ds t u):=by
 intro pins s σ H D I h
 refine uB (YB (h1 pins s σ H { D with nx:=u D } I h) λf s1 q=>?_)
 cases f with
 | next=>
  obtain⟨σ',H',I',q⟩:=q
  exact h2 pins s1 σ' H' D I' q
 | ret v=>exact q
 | brk=>exact q
 | cont=>exact q
theorem EJ(h1:PS X st t):U6 X [st] t:=by
 intro pins s σ H D I h
 refine uB (YB (h1 pins s σ H D I h) λf s1 q=>?_)
 cases f with
 | next=>exact uA q
 | ret v=>exact q
 | brk=>exact q
 | cont=>exact q
theorem Zu.quiet{pins:List (Addr×Obj)}{σ:St}{H:Hp}{s:Shared}(I:Zu X pins σ H s):interactive X.env=false:=by simp[interactive,I.ok.kind]
def Fj(te:TE):TS:=λD σ H=>te σ H λ_ H1=>D.nx σ H1
theorem Kf(he:PE X e te)(hs:swapsWith e none pos.line X.env=pure false:=by rfl):PS X (.Expr e pos) (Fj te):=by
 intro pins s σ H D I h
 exact wpAny_Expr_any (YB (he pins s σ H _ I h) λv s1 ⟨x,H1,I1,r1,q1⟩=>⟨σ,H1,I1,q1⟩) I.quiet hs
def A9(te:TE):TS:=λD σ H=>te σ H D.rt
theorem B_(he:PE X e te):PS X (.Return (some e) pos) (A9 te):=by
 intro pins s σ H D I h
 exact wpAny_Return_some (YB (he pins s σ H _ I h) λv s1 ⟨x,H1,I1,r1,q1⟩=>⟨x,σ,H1,I1,r1,q1⟩)
def A6(c:TT)(t u:TS):TS:=λD σ H=>c σ H λb H1=>if b=true then t D σ H1 else u D σ H1
theorem Zaw{c:Expr}{a b:List Stmt}{tc:TT}(hc:PT X c tc)(ha:U6 X a t)(hb:U6 X b u):PS X (.If c a b pos) (A6 tc t u):=by
 intro pins s σ H D I h
 refine wpAny_If (YB (hc pins s σ H _ I h) λd s1 ⟨H1,I1,q1⟩=>?_)
 cases d with
 | true=>exact ha pins s1 σ H1 D I1 q1
 | false=>exact hb pins s1 σ H1 D I1 q1
def Lb:TS:=λ_ _ _=>False
theorem Gy:PS X st Lb:=λ_ _ _ _ _ _ h=>h.elim
end
abbrev TG:=V->St->Hp->(St->Hp->Prop)->Prop
abbrev Mc:=List V->St->Hp->(St->Hp->Prop)->Prop
def PG(X:Cx)(target:Expr)(t:TG):Prop:=
 ∀(pins:List (Addr×Obj)) (s:Shared) (σ:St) (H:Hp) (v:V) (u:Value) (Q:St->Hp->Prop),Zu X pins σ H s->ZI v u->t v σ H Q ->
  wpAny (model X.prog X.w) X.A (assign target X.env u) (λ_ s'=>∃σ' H',Zu X pins σ' H' s'/\Q σ' H') X.xe s
def C5(X:Cx)(ts:List Expr)(t:Mc):Prop:=
 ∀(pins:List (Addr×Obj)) (s:Shared) (σ:St) (H:Hp) (vs:List V) (us:List Value) (Q:St->Hp->Prop),Zu X pins σ H s->ZH vs us->t vs σ H Q ->
  wpAny (model X.prog X.w) X.A (assignInOrder ((assignEach ts X.env).map (·.2)) us) (λ_ s'=>∃σ' H',Zu X pins σ' H' s'/\Q σ' H') X.xe s
abbrev FO:=V->V->V->Hp->(Hp->Prop)->Prop
def C6(X:Cx)(t:FO):Prop:=
 ∀(pins:List (Addr×Obj)) (s:Shared) (σ:St) (H:Hp) (o i v:V) (ov iv u:Value) (Q:Hp->Prop),Zu X pins σ H s->ZI o ov->ZI i iv->ZI v u->t o i v H Q ->
  wpAny (model X.prog X.w) X.A (setItem ov iv u) (λ_ s'=>∃H',Zu X pins σ H' s'/\Q H') X.xe s
section
variable {X:Cx}{pos:Pos}
def WQ(i:Nat):TG:=λv σ H Q=>Q (σ.set i (some v)) H
theorem Oa{i:Nat}{x:Str}(hN:X.N.Nodup)(hi:X.N[i]? = some x)(hx:D6 X.env.scope x)(hf:X.fn x=true\/X.env.scope.names.lookup x=some .local:=by first|exact .inl rfl|exact .inr rfl|assumption):PG X (.Name x pos) (WQ i):=by
 intro pins s σ H v u Q I r h
 exact wpAny_assign_Name (Uh I hN hi hx r (λs' I'=>⟨_,H,I',h⟩) hf)
def Ed:Mc:=λvs σ H Q=>vs=[]/\Q σ H
def Na(t:TG)(u:Mc):Mc:=λvs σ H Q=>∃v r,vs=v::r/\t v σ H λσ' H'=>u r σ' H' Q
theorem EE:C5 X [] Ed:=by
 intro pins s σ H vs us Q I r h
 obtain⟨e,h⟩:=h
 subst e
 cases r
 exact assignInOrder_nil ⟨σ,H,I,h⟩
theorem Gs{e:Expr}{es:List Expr}{t:TG}{u:Mc}(h1:PG X e t)(h2:C5 X es u) 
  (hs:(assignEach (e::es) X.env).map (·.2)=assign e X.env::(assignEach es X.env).map (·.2):=by rfl):C5 X (e::es) (Na t u):=by
 intro pins s σ H vs us Q I r h
 obtain⟨v,vr,e1,h⟩:=h
 subst e1
 cases r with
 | cons r rr=>
  rw[hs]
  refine uC (YB (h1 pins s σ H _ _ _ I r h) λ_ s1 ⟨σ1,H1,I1,q1⟩=>?_)
  exact h2 pins s1 σ1 H1 _ _ Q I1 rr q1
theorem Rk.at{X:Cx}{pins:List (Addr×Obj)}{σ:List (Option V)}{H:Hp}{s:Shared}(I:Zu X pins σ H s)(h:X.A.handled=none\/Rk X.A X.H₀):X.A.handled=none\/Rk X.A H:=h.imp id λ⟨e,oe,u,vs,h1,h2,h3,h4⟩=>⟨e,oe,u,vs,h1,I.base.frzs e oe u h2,h3,h4⟩
theorem Zu.hdOk{X:Cx}{pins:List (Addr×Obj)}{σ:List (Option V)}{H:Hp}{s:Shared}(I:Zu X pins σ H s)(h:X.calm=true):VG X.A s.heap/\∀e,X.A.handled=some (.ref e)->H e≠none:=by
 rcases Rk.at I (I.ok.hd h) with h|⟨e,oe,u,vs,h1,z,h3,h4⟩
 ·exact⟨.inl h,λe q=>by rw[h]at q;cases q⟩
 ·refine⟨.inr ⟨e,oe,vs,h1,(I.hok e _ z).1,h3,h4⟩,λe' q=>?_⟩
  rw[h1]at q;cases q;rw[z];exact λq=>nomatch q
theorem Zu.hdOkW{X:Cx}{m:Bool}{pins:List (Addr×Obj)}{σ:List (Option V)}{H:Hp}{s:Shared}(I:Zu X pins σ H s)(h:X.cold=true\/(m=true/\X.calm=true)):VG X.A s.heap/\∀e,X.A.handled=some (.ref e)->H e≠none:=by
 rcases h with h|h
 ·exact⟨.inl (I.ok.cd h),λe q=>by rw[I.ok.cd h]at q;cases q⟩
 ·exact I.hdOk h.2
theorem CC{p q:Prop}(h:p\/(false=true/\q)):p:=h.resolve_right λz=>nomatch z.1
def He(K:Frag)(n:Nat)(t:Mc):TG:=λv σ H Q=>∃a xs,v=.ref a/\WH K H a xs/\xs.length=n/\t xs σ H Q
theorem BN{es:List Expr}{k:Nat}{t:Mc}{n:Nat}(hc:X.calm=true)(h:C5 X es t) 
  (hn:(assignEach es X.env).length=n:=by rfl) (hst:(assignEach es X.env).findIdx? (·.1)=none:=by rfl):PG X (.Tuple es k pos) (He X.K n t):=by
 intro pins s σ H v u Q I r hw
 obtain⟨a,xs,e1,hq,hl,hw⟩:=hw
 subst e1
 cases r
 obtain⟨its,rv,ht,hz⟩:=I.tuple hq
 refine JD (I.hdOk hc).1 ht (by simp[hn,<- hl,rv.length]) hst λh' hx=>?_
 have I1:Zu X pins σ H { s with heap:=h' }:=I.kept (t':=s.toks) λb o e=>hx b o (vC (wM e)) e
 exact h pins _ σ H xs _ Q I1 (by simpa using rv) hw
def Zah(to ti:TE)(t:FO):TG:=λv σ H Q=>to σ H λo H1=>ti σ H1 λi H2=>t o i v H2 λH3=>Q σ H3
theorem BM{o i:Expr}{to ti:TE}{t:FO}(ho:PE X o to)(hi:PE X i ti)(hs:C6 X t) 
  (ha:∀v,assign (.Subscript o i pos) X.env v=(do
   let ov <- holding [v] (eval o X.env)
   let iv <- holding [v,ov] (eval i X.env)
   standAt pos
   holding [v,ov,iv] (setItem ov iv v)
   release [v,ov,iv] []):=by intro _;rfl):PG X (.Subscript o i pos) (Zah to ti t):=by
 intro pins s σ H v u Q I r h
 rw[ha]
 refine zW (zY (YB (ho pins s σ H _ I h) λov s1 ⟨x,H1,I1,r1,q1⟩=>?_))
 refine zW (zY (YB (hi pins s1 σ H1 _ I1 q1) λiv s2 ⟨y,H2,I2,r2,q2⟩=>?_))
 refine zW (vG (zW (zY (YB (hs pins s2 σ H2 x y v ov iv u _ I2 r1 r2 r q2) λ_ s3 ⟨H3,I3,q3⟩=>?_))))
 exact wpAny_release ⟨σ,H3,I3,q3⟩
def NR(te:TE)(g:TG):TS:=λD σ H=>te σ H λx H1=>g x σ H1 D.nx
theorem BV{tg e:Expr}{te:TE}{g:TG}(he:PE X e te)(hg:PG X tg g)(hs:swapsWithSole [tg] e pos.line X.env=pure false:=by rfl)(hw:swappedStores [tg] e X.env=pure none:=by rfl) 
  (h1:(assignEach [tg] X.env).map (·.2)=[assign tg X.env]:=by rfl):PS X (.Assign [tg] e pos) (NR te g):=by
 intro pins s σ H D I h
 refine wpAny_Assign_stores (YB (he pins s σ H _ I h) λv s1 ⟨x,H1,I1,r1,q1⟩=>?_) hs hw
 rw[h1]
 exact YB (hg pins s1 σ H1 x v _ I1 r1 q1) λ_ s2 q=>q
theorem Aa{i:Nat}{x:Str}{e:Expr}{te:TE}{pos':Pos}(hN:X.N.Nodup)(hi:X.N[i]? = some x)(hx:D6 X.env.scope x)(he:PE X e te)(hs:swapsWith e (some (.Name x pos')) pos.line X.env=pure false:=by rfl)(hf:X.fn x=true\/X.env.scope.names.lookup x=some .local:=by first|exact .inl rfl|exact .inr rfl|assumption):
  PS X (.Assign [.Name x pos'] e pos) (NR te (WQ i)):=by
 intro pins s σ H D I h
 refine wpAny_Assign_Name (YB (he pins s σ H _ I h) λv s1 ⟨y,H1,I1,r1,q1⟩=>?_) hs
 exact Uh I1 hN hi hx r1 (λs2 I2=>⟨_,H1,I2,q1⟩) hf
def A8(i j:Nat)(ta:TA):TS:=λD σ H=>ta σ H λvs H1=>∃v w,vs=[v,w]/\D.nx ((σ.set i (some v)).set j (some w)) H1
theorem BZ{i j:Nat}{x y:Str}{a b:Expr}{ta:TA}{px py pt:Pos}{kt k2 pt2}(hc:X.calm=true)(hN:X.N.Nodup)(hi:X.N[i]? = some x)(hj:X.N[j]? = some y)(hij:i≠j) 
  (hx:X.env.scope.names.lookup x=some .local) (hy:X.env.scope.names.lookup y=some .local) (ha:PA X [a,b] ta)
  (hw:swappedStores [.Tuple [.Name x px,.Name y py] kt pt] (.Tuple [a,b] k2 pt2) X.env=pure (some [x,y]))
  (hs:swapsWithSole [.Tuple [.Name x px,.Name y py] kt pt] (.Tuple [a,b] k2 pt2) pos.line X.env=pure false:=by rfl) :
  PS X (.Assign [.Tuple [.Name x px,.Name y py] kt pt] (.Tuple [a,b] k2 pt2) pos) (A8 i j ta):=by
 intro pins s σ H D I h
 rw[exec_Assign_arm]
 refine zW (vG ?_)
 rw[hs]
 refine zW (zX ?_)
 rw[wT (by decide)]
 refine zW (Tuple_ (YB (ha _ pins s σ H _ I h) λus s1 ⟨vs,H1,I1,r1,q1⟩=>?_))
 obtain⟨v,w,e1,q1⟩:=q1
 subst e1
 obtain⟨u1,u2,rfl,rv,rw'⟩:∃u1 u2,us=[u1,u2]/\ZI v u1/\ZI w u2:=by
  cases r1 with
  | cons p q=>
   cases q with
   | cons p' q'=>
    cases q'
    exact⟨_,_,rfl,p,p'⟩
 refine wH ?_ (L2.sz2)
 have I2:Zu X pins σ H1 { s1 with heap:=s1.heap.push { cls:=.type "tuple",data:=.seq [u1,u2].toArray } }:=I1.kept (t':=s1.toks) λb o e=>wJ _ e
 rw[hw]
 refine zW (zX ?_)
 show wpAny (model X.prog X.w) X.A (do rule "assign.swapped-stores";let items <- unpackItems (.ref s1.heap.objs.size) 2 none;assignInOrder [λv=>bindName X.env y v,λv=>bindName X.env x v] items.reverse;pure Flow.next) _ _ _
 refine zW (wY (zW (NY (items:=#[u1,u2]) (I2.hdOk hc).1 (IsTup.new s1.heap _) λh' hx'=>?_)))
 have I3:=I2.kept (h':=h') (t':=s1.toks) λb o e=>hx' b o (vC (wM e)) e
 show wpAny _ _ (assignInOrder [λv=>bindName X.env y v,λv=>bindName X.env x v] [u2,u1]>>=λ_=>pure Flow.next) _ _ _
 refine zW (uC (wpAny_bindName (Uh I3 hN hj (.inl hy) rw' (λs2 I4=>?_) (.inr hy))))
 refine uC (wpAny_bindName (Uh I4 hN hi (.inl hx) rv (λs3 I5=>assignInOrder_nil (zX ?_)) (.inr hx)))
 rw[List.set_comm _ _ (wC hij)]at I5
 exact⟨_,H1,I5,q1⟩
end
structure It where
 go:Nat->Hp->Prop
 yld:Nat->Hp->V->Hp->Prop
 stop:Nat->Hp->Prop
 mild:Bool
def Wk(X:Cx)(pins:List (Addr×Obj))(H:Hp)(b:Addr):Prop:=
 H b=none/\b≠X.env.locals/\b ∉ X.fs/\(b∈X.ex\/X.s₀.heap.objs.size≤b)/\(∀x c,X.env.cells.lookup x=some c->c≠b)/\∀p∈X.pn++pins,p.1≠b
theorem Zu.fpOk{X:Cx}{pins:List (Addr×Obj)}{σ:St}{H H':Hp}{s:Shared}{b:Addr}(I:Zu X pins σ H s)(hb:s.heap.objs.size≤b)(hn:H' b=none):Wk X pins H' b:=by
 refine⟨hn,zP (zI I.lt hb),I.nofs hb,.inr (zF I.sz hb),λx c e z=>?_,λp hp z=>?_⟩
 ·obtain⟨v,q⟩:=I.cell x c e
  exact absurd (zI q.lt (by rw[z];exact hb)) (vJ _)
 ·exact absurd (zI (wM (I.pin p hp).1) (by rw[z];exact hb)) (vJ _)
structure O8(P:Program)(w:World)(K:Frag)(tg:Expr)(J:It)(fp:List Addr)(it:Addr)(tn:Nat->Heap->Prop):Prop where
 mem:it∈fp
 obj:∀i h,tn i h->∀b∈fp,∃o,h.get? b=some o/\∀v,o.data≠.cell v
 keep:∀i h h',tn i h->(∀b∈fp,∀o,h.get? b=some o->h'.get? b=some o)->tn i h'
 item:∀(X:Cx),X.prog=P->X.w=w->X.K=K->(X.cold=true\/(J.mild=true/\X.calm=true))->∀(i:Nat) (pins:List (Addr×Obj)) (s:Shared) (σ:St) (H:Hp) (E:Value->Shared->Prop),Zu X pins σ H s->(∀b∈fp,Wk X pins H b)->tn i s.heap->J.go i H ->
  wpAny (model P w) X.A (pyNext (.ref it)) (λr s1=>∃u,r=some u /\
   wpAny (model P w) X.A (letOwnedTupleGo tg (.ref it) u) (λ_ s2=>∃x H',Zu X pins σ H' s2/\ZI x u/\J.yld i H x H'/\tn (i+1) s2.heap/\∀b∈fp,H' b=none) E s1) E s
 done:∀(X:Cx),X.prog=P->X.w=w->X.K=K->(X.cold=true\/(J.mild=true/\X.calm=true))->∀(i:Nat) (pins:List (Addr×Obj)) (s:Shared) (σ:St) (H:Hp) (E:Value->Shared->Prop),Zu X pins σ H s->(∀b∈fp,Wk X pins H b)->tn i s.heap->J.stop i H ->
  wpAny (model P w) X.A (pyNext (.ref it)) (λr s1=>r=none/\Zu X pins σ H s1) E s
 self:∀(A:Around) (i:Nat) (s:Shared) (Q:Value->Shared->Prop) (E:Value->Shared->Prop),tn i s.heap->Q (.ref it) s->wpAny (model P w) A (pyIter (.ref it)) Q E s
abbrev TI:=St->Hp->(It->Hp->Prop)->Prop
def PIE(X:Cx)(pins:List (Addr×Obj))(σ:St)(tg:Expr)(R:It->Hp->Prop)(itv:Value)(s2:Shared):Prop:=
 ∃(it:Addr) (fp:List Addr) (tn:Nat->Heap->Prop) (J:It) (H':Hp),itv=.ref it/\Zu X pins σ H' s2/\O8 X.prog X.w X.K tg J fp it tn/\tn 0 s2.heap/\(∀b∈fp,Wk X pins H' b)/\(X.cold=true\/(J.mild=true/\X.calm=true))/\R J H'
def PI(X:Cx)(tg iter:Expr)(wi:TI):Prop:=
 ∀(pins:List (Addr×Obj)) (s:Shared) (σ:St) (H:Hp) (R:It->Hp->Prop),Zu X pins σ H s->wi σ H R ->
  wpAny (model X.prog X.w) X.A (eval iter X.env) (λv s1=>wpAny (model X.prog X.w) X.A (pyIter v) (PIE X pins σ tg R) X.xe s1) X.xe s
theorem LJ{M:Model}{A:Around}{E:Value->Shared->Prop}{s:Shared}{tg:Expr}{it:Addr}{u:Value}{o:Obj}{n:String}{vs:Array Value}{Q:Unit->Shared->Prop}(ho:s.heap.get? it=some o)(hc:o.cls=.type n)(hd:o.data=.fields vs) 
  (hn:["enumerate","zip","dict_itemiterator","dict_reverseitemiterator","odict_iterator","itertools.zip_longest","itertools.pairwise"].contains n=false) (hQ:Q () s):wpAny M A (letOwnedTupleGo tg (.ref it) u) Q E s:=by
 unfold letOwnedTupleGo
 cases tg<;>first
  | exact zX hQ
  | (cases u<;>first
    | exact zX hQ
    | (refine zW (wpAny_load ho ?_)
       rw[hc,hd]
       show wpAny M A (if(["enumerate","zip","dict_itemiterator","dict_reverseitemiterator","odict_iterator","itertools.zip_longest","itertools.pairwise"].contains n&&vs[0]? == some (rawInt _))=true then _ else _) Q E s
       rw[wT (by intro h;rw[hn,uD]at h;cases h)]
       exact zX hQ))
def AW(K:Frag)(a:Addr):It:=
 ⟨λi H=>∃xs x,Xp K H a xs/\xs[i]? = some x,λi H x H'=>H'=H/\∀xs,Xp K H a xs->xs[i]? = some x,λi H=>∃xs,Xp K H a xs/\xs.length≤i,true⟩
def Itt(K:Frag)(a:Addr):It:=
 ⟨λi H=>∃xs x,WH K H a xs/\xs[i]? = some x,λi H x H'=>H'=H/\∀xs,WH K H a xs->xs[i]? = some x,λi H=>∃xs,WH K H a xs/\xs.length≤i,true⟩
def AX(lo:Int)(n:Nat):It:=⟨λi _=>i<n,λi H x H'=>H'=H/\x=.int (lo+i),λi _=>n≤i,true⟩
theorem Pn{P:Program}{w:World}{K:Frag}{tg:Expr}(a it:Addr):O8 P w K tg (AW K a) [it] it (λi h=>h.IsListIter it a i) where
 mem:=by simp
 obj:=λi h st b hb=>by
  have e:b=it:=by simpa using hb
  subst e
  obtain⟨o,e,c,d⟩:=st
  exact⟨o,e,λv z=>by rw[d]at z;cases z⟩
 keep:=λi h h' st k=>st.at λo e=>k it (by simp) o e
 item:=by
  intro X hP hw hK hc i pins s σ H E I hf st hg
  subst hP hw hK
  obtain⟨xs,x,hq,hx⟩:=hg
  obtain⟨its,rv,p,hz⟩:=I.list hq
  obtain⟨u,hu,ru⟩:=rv.get hx
  obtain⟨f0,f1,f2,f3,f4,f5⟩:=hf it (by simp)
  refine wpAny_pyNext_list_item st p.isList (x:=u) (by simpa using hu) λh' st' sb=>?_
  have I1:Zu X pins σ H { s with heap:=h' }:=I.turned (t':=s.toks) (λb o hb e=>(sb.2 b hb).trans e) f0 f1 f3 f4 f5
  obtain⟨o,e,c,d⟩:=id st'
  exact⟨u,rfl,LJ (s:={ s with heap:=h' }) e c d (by decide) ⟨x,H,I1,ru,⟨rfl,λys hy=>by rw[I.list_inj hy hq];exact hx⟩,st',λb hb=>(hf b hb).1⟩⟩
 done:=by
  intro X hP hw hK hc i pins s σ H E I hf st hg
  subst hP hw hK
  obtain⟨xs,hq,hx⟩:=hg
  obtain⟨its,rv,p,hz⟩:=I.list hq
  obtain⟨f0,f1,f2,f3,f4,f5⟩:=hf it (by simp)
  have hl:=rv.length
  exact LV (I.hdOkW hc).1 (λe he z=>(I.hdOkW hc).2 e he (by rw[z];exact f0)) st p.isList (by simp;omega) λh' eb=>⟨rfl,I.turned (t':=s.toks) (λb o hb e=>eb b o hb e) f0 f1 f3 f4 f5⟩
 self:=λ_ _ _ _ _ st h=>wpAny_pyIter_listiter st h
theorem Qs{P:Program}{w:World}{K:Frag}{tg:Expr}(a it:Addr):O8 P w K tg (Itt K a) [it] it (λi h=>h.IsTupleIter it a i) where
 mem:=by simp
 obj:=λi h st b hb=>by
  have e:b=it:=by simpa using hb
  subst e
  obtain⟨o,e,c,d⟩:=st
  exact⟨o,e,λv z=>by rw[d]at z;cases z⟩
 keep:=λi h h' st k=>st.at λo e=>k it (by simp) o e
 item:=by
  intro X hP hw hK hc i pins s σ H E I hf st hg
  subst hP hw hK
  obtain⟨xs,x,hq,hx⟩:=hg
  obtain⟨its,rv,p,hz⟩:=I.tuple hq
  obtain⟨u,hu,ru⟩:=rv.get hx
  obtain⟨f0,f1,f2,f3,f4,f5⟩:=hf it (by simp)
  refine wpAny_pyNext_tuple_item st (show s.heap.IsTuple a its.toArray from p) (x:=u) (by simpa using hu) λh' st' sb=>?_
  have I1:Zu X pins σ H { s with heap:=h' }:=I.turned (t':=s.toks) (λb o hb e=>(sb.2 b hb).trans e) f0 f1 f3 f4 f5
  obtain⟨o,e,c,d⟩:=id st'
  exact⟨u,rfl,LJ (s:={ s with heap:=h' }) e c d (by decide) ⟨x,H,I1,ru,⟨rfl,λys hy=>by rw[I.tuple_inj hy hq];exact hx⟩,st',λb hb=>(hf b hb).1⟩⟩
 done:=by
  intro X hP hw hK hc i pins s σ H E I hf st hg
  subst hP hw hK
  obtain⟨xs,hq,hx⟩:=hg
  obtain⟨its,rv,p,hz⟩:=I.tuple hq
  obtain⟨f0,f1,f2,f3,f4,f5⟩:=hf it (by simp)
  have hl:=rv.length
  exact Fz (I.hdOkW hc).1 (λe he z=>(I.hdOkW hc).2 e he (by rw[z];exact f0)) st p (by simp;omega) λh' eb=>⟨rfl,I.turned (t':=s.toks) (λb o hb e=>eb b o hb e) f0 f1 f3 f4 f5⟩
 self:=λ_ _ _ _ _ st h=>wpAny_pyIter_tupleiter st h
theorem Ld{P:Program}{w:World}{K:Frag}{tg:Expr}(it:Addr)(lo:Int)(n:Nat):O8 P w K tg (AX lo n) [it] it (λi h=>IsRangeIter h it (lo+(i:Nat)*1) ((n:Int)-(i:Nat)) 1) where
 mem:=by simp
 obj:=λi h st b hb=>by
  have e:b=it:=by simpa using hb
  subst e
  exact⟨_,st,λv z=>by
   have z':Data.fields _=Data.cell v:=z
   cases z'⟩
 keep:=λi h h' st k=>k it (by simp) _ st
 item:=by
  intro X hP hw hK hc i pins s σ H E I hf st hg
  subst hP hw hK
  obtain⟨f0,f1,f2,f3,f4,f5⟩:=hf it (by simp)
  refine Dc (lo:=lo) hg st λv h' tk hv st' kk=>?_
  obtain⟨t,rfl⟩:=hv
  have I1:Zu X pins σ H { s with heap:=h',toks:=tk }:=I.turned (λb o hb e=>kk b o (by simpa using hb) e) f0 f1 f3 f4 f5
  refine⟨_,rfl,LJ (s:={ s with heap:=h',toks:=tk }) (n:="range_iterator") st' rfl rfl (by decide) ⟨.int (lo+i),H,I1,⟨t,?_⟩,⟨rfl,rfl⟩,st',λb hb=>(hf b hb).1⟩⟩
  rw[Int.mul_one]
 done:=by
  intro X hP hw hK hc i pins s σ H E I hf st hg
  subst hP hw hK
  obtain⟨f0,f1,f2,f3,f4,f5⟩:=hf it (by simp)
  exact Aq (I.hdOkW hc).1 st (by have:n≤i:=hg;omega) λh' eb=>⟨rfl,I.turned (t':=s.toks) (λb o hb e=>eb b o hb e) f0 f1 f3 f4 f5⟩
 self:=λ_ _ _ _ _ st h=>wpAny_pyIter_rangeiter st h
section
variable {X:Cx}{tg:Expr}
def Hm(K:Frag)(tl:TE):TI:=λσ H R=>tl σ H λx H1=>∃a,x=.ref a/\(∃xs,Xp K H1 a xs)/\R (AW K a) H1
def Eg(K:Frag)(tl:TE):TI:=λσ H R=>tl σ H λx H1=>∃a,x=.ref a/\(∃xs,WH K H1 a xs)/\R (Itt K a) H1
theorem EG{l:Expr}{tl:TE}(hl:PE X l tl)(hc:X.calm=true:=by rfl):PI X tg l (Hm X.K tl):=by
 intro pins s σ H R I h
 refine YB (hl pins s σ H _ I h) λv s1 ⟨x,H1,I1,r1,q1⟩=>?_
 obtain⟨a,e,⟨xs,hq⟩,q⟩:=q1
 subst e
 cases r1
 obtain⟨its,rv,p,hz⟩:=I1.list hq
 refine uE p.isList ?_
 refine⟨s1.heap.objs.size,[s1.heap.objs.size],_,_,H1,rfl,I1.kept (t':=s1.toks) λb o e=>wJ _ e,Pn a _,⟨_,wK _ rfl,rfl,rfl⟩,λb hb=>?_,.inr ⟨rfl,hc⟩,q⟩
 have e:b=s1.heap.objs.size:=by simpa using hb
 subst e
 exact I1.fpOk (zK _) (I1.hok.fresh (zK _))
theorem BQ{l:Expr}{tl:TE}(hl:PE X l tl)(hc:X.calm=true:=by rfl):PI X tg l (Eg X.K tl):=by
 intro pins s σ H R I h
 refine YB (hl pins s σ H _ I h) λv s1 ⟨x,H1,I1,r1,q1⟩=>?_
 obtain⟨a,e,⟨xs,hq⟩,q⟩:=q1
 subst e
 cases r1
 obtain⟨its,rv,p,hz⟩:=I1.tuple hq
 refine uF (show s1.heap.IsTuple a its.toArray from p) ?_
 refine⟨s1.heap.objs.size,[s1.heap.objs.size],_,_,H1,rfl,I1.kept (t':=s1.toks) λb o e=>wJ _ e,Qs a _,⟨_,wK _ rfl,rfl,rfl⟩,λb hb=>?_,.inr ⟨rfl,hc⟩,q⟩
 have e:b=s1.heap.objs.size:=by simpa using hb
 subst e
 exact I1.fpOk (zK _) (I1.hok.fresh (zK _))
theorem NI{pins:List (Addr×Obj)}{σ:St}{H:Hp}{s:Shared}{R:It->Hp->Prop}{E:Value->Shared->Prop}{lo hi:Int}{t u v:Tok}{tk:Nat}(hc:X.calm=true)(I:Zu X pins σ H s)(h1:-(2 ^ 62)≤lo)(h2:lo<2 ^ 62)(h3:-(2 ^ 62)≤hi)(h4:hi<2 ^ 62) 
  (q:R (AX lo (hi-lo).toNat) H):wpAny (model X.prog X.w) X.A (pyIter (.ref s.heap.objs.size)) (PIE X pins σ tg R) E { s with heap:=s.heap.push { cls:=.type "range",data:=.fields #[.int lo t,.int hi u,.int 1 v] },toks:=tk }:=by
 refine wpAny_pyIter_range (IsRange.new ..) (small_one h1 h2 h3 h4) ?_
 have I1:Zu X pins σ H { s with heap:=s.heap.push { cls:=.type "range",data:=.fields #[.int lo t,.int hi u,.int 1 v] },toks:=tk }:=I.kept λb o e=>wJ _ e
 refine⟨(s.heap.push { cls:=.type "range",data:=.fields #[.int lo t,.int hi u,.int 1 v] }).objs.size,[(s.heap.push { cls:=.type "range",data:=.fields #[.int lo t,.int hi u,.int 1 v] }).objs.size],_,_,H,rfl,
  I1.kept (t':=tk) λb o e=>wJ _ e,Ld _ lo (hi-lo).toNat,?_,λb hb=>?_,.inr ⟨rfl,hc⟩,q⟩
 ·have e1:lo+((0:Nat):Int)*1=lo:=by simp
  have e2:(((hi-lo).toNat:Nat):Int)-((0:Nat):Int)=Builtin.Range.rangeSize lo hi 1:=by rw[rangeSize_one];split<;>omega
  show IsRangeIter _ _ (lo+((0:Nat):Int)*1) ((((hi-lo).toNat:Nat):Int)-((0:Nat):Int)) 1
  rw[e1,e2]
  exact wK _ rfl
 ·have e:b=(s.heap.push { cls:=.type "range",data:=.fields #[.int lo t,.int hi u,.int 1 v] }).objs.size:=by simpa using hb
  subst e
  exact I1.fpOk (zK _) (I1.hok.fresh (zK _))
def Hn(ta:TA):TI:=λσ H R=>ta σ H λvs H1=>∃j:Int,vs=[.int j]/\-(2 ^ 62)≤j/\j<2 ^ 62/\R (AX 0 j.toNat) H1
def Ho(ta:TA):TI:=λσ H R=>ta σ H λvs H1=>∃i j:Int,vs=[.int i,.int j]/\(-(2 ^ 62)≤i/\i<2 ^ 62/\-(2 ^ 62)≤j/\j<2 ^ 62)/\R (AX i (j-i).toNat) H1
theorem Jp{a:Expr}{ta:TA}{p pos:Pos}(hg:Gl X "range")(hm:X.mg "range" = none)(ha:PA X [a] ta)(hs:starEach [a] X.env=[(false,eval a X.env)]:=by rfl)(hc:X.calm=true:=by rfl):PI X tg (.Call (.Name "range" p) [a] [] pos) (Hn ta):=by
 intro pins s σ H R I h
 refine Call_ (VV I hg hm boot_range (uG (YB (ha pos pins s σ H _ I h) λus s1 ⟨vs,H1,I1,r1,q1⟩=>?_) hs rfl))
 obtain⟨j,e,q1,q2,q⟩:=q1
 subst e
 cases r1 with
 | cons r rr=>
  cases rr
  obtain⟨t,rfl⟩:=r
  exact call_range_1 (NI hc I1 (by omega) (by omega) q1 q2 (by simpa using q))
theorem Jq{a b:Expr}{ta:TA}{p pos:Pos}(hg:Gl X "range")(hm:X.mg "range" = none)(ha:PA X [a,b] ta)(hs:starEach [a,b] X.env=[(false,eval a X.env),(false,eval b X.env)]:=by rfl)(hs2:starEach [b] X.env=[(false,eval b X.env)]:=by rfl)(hc:X.calm=true:=by rfl):
  PI X tg (.Call (.Name "range" p) [a,b] [] pos) (Ho ta):=by
 intro pins s σ H R I h
 refine Call_ (VV I hg hm boot_range (uG (YB (ha pos pins s σ H _ I h) λus s1 ⟨vs,H1,I1,r1,q1⟩=>?_) (by rw[hs,hs2]) (by rw[hs2];rfl)))
 obtain⟨i,j,e,⟨q1,q2,q3,q4⟩,q⟩:=q1
 subst e
 cases r1 with
 | cons r rr=>
  cases rr with
  | cons r' rr=>
   cases rr
   obtain⟨t,rfl⟩:=r
   obtain⟨t',rfl⟩:=r'
   exact call_range_2 (NI hc I1 q1 q2 q3 q4 q)
def A5(wi:TI)(g:TG)(tb:TS):TS:=λD σ H=>wi σ H λJ H1=>∃W:Nat->Nat->St->Hp->Prop,(∃m,W 0 m σ H1)/\∀i m σ H,W i m σ H ->
 (J.stop i H/\D.nx σ H)\/(J.go i H/\∃N:St->Hp->Prop,(∀σ' H',N σ' H'->∃m',m' < m/\W (i+1) m' σ' H')/\∀x H',J.yld i H x H'->g x σ H' λσ2 H2=>tb { D with nx:=N,ct:=N,bk:=D.nx } σ2 H2)
def Ua(fp:List Addr)(h:Heap):List (Addr×Obj):=fp.filterMap λb=>(h.get? b).map λo=>(b,o)
theorem V6{fp:List Addr}{h:Heap}{b:Addr}{o:Obj}(hb:b∈fp)(e:h.get? b=some o):(b,o)∈Ua fp h:=mem_filterMap.mpr ⟨b,hb,by rw[e];rfl⟩
theorem Pd{fp:List Addr}{h:Heap}{p:Addr×Obj}(hp:p∈Ua fp h):p.1∈fp/\h.get? p.1=some p.2:=by
 obtain⟨b,hb,e⟩:=mem_filterMap.mp hp
 cases q:h.get? b with
 | none=>rw[q]at e;cases e
 | some o=>
  rw[q]at e
  have e':(b,o)=p:=vV e
  subst e'
  exact⟨hb,q⟩
theorem Zu.pinned{pins:List (Addr×Obj)}{σ:St}{H:Hp}{s:Shared}{fp:List Addr}(I:Zu X pins σ H s)(hf:∀b∈fp,Wk X pins H b)(ho:∀b∈fp,∃o,s.heap.get? b=some o/\∀v,o.data≠.cell v):Zu X (pins++Ua fp s.heap) σ H s:=
 I.pins_of λp hp=>(vQ.mp hp).elim (λz=>I.pin p (uH _ z)) λz=>by
  obtain⟨hb,e⟩:=Pd z
  obtain⟨f0,f1,f2,_⟩:=hf p.1 hb
  obtain⟨o,e',d⟩:=ho p.1 hb
  rw[e]at e';cases e'
  exact⟨e,f0,f1,f2,d⟩
theorem Zu.unpinned{pins pl:List (Addr×Obj)}{σ:St}{H:Hp}{s:Shared}(I:Zu X (pins++pl) σ H s):Zu X pins σ H s:=I.pins_of λp hp=>I.pin p (uH _ (vR _ hp))
theorem BY{iter:Expr}{body:List Stmt}{wi:TI}{g:TG}{tb:TS}{pos:Pos}(hp:PassesOwn (model X.prog X.w) X.A X.env X.xe)(hc:X.calm=true)(hi:PI X tg iter wi)(hg:PG X tg g)(hb:U6 X body tb) 
  (hs:∀x,foldedSetIterable iter X.env x=pure x:=by intro _;rfl):PS X (.For tg iter body [] pos) (A5 wi g tb):=by
 intro pins s σ H D I h
 refine wpAny_For (YB (hi pins s σ H _ I h) λv s1 h1=>YB h1 λitv s2 h2=>?_) hs
 obtain⟨it,fp,tn,J,H2,e,I2,T,st2,f2,hm,W,⟨m0,w0⟩,turn⟩:=h2
 subst e
 -- what stays true of the iterator's objects through the loop
 have stat:∀{H':Hp},(∀b∈fp,H' b=none)->∀b∈fp,Wk X pins H' b:=λhn b hb=>⟨hn b hb,(f2 b hb).2⟩
 refine codeAny_forLoop_any (λn s'=>∃i σ' H',Zu X pins σ' H' s'/\tn i s'.heap/\(∀b∈fp,H' b=none)/\W i n σ' H') ?_ m0 ⟨0,σ,H2,I2,st2,λb hb=>(f2 b hb).1,w0⟩
 rintro n s3 ⟨i,σ3,H3,I3,st3,fr3,w3⟩
 rcases turn i n σ3 H3 w3 with ⟨stop,qn⟩|⟨go,N,hN,step⟩
 ·refine uI hp (YB (T.done X rfl rfl rfl hm i pins s3 σ3 H3 X.xe I3 (stat fr3) st3 stop) λr s4 ⟨hr,I4⟩=>?_)
  subst hr
  exact uA ⟨σ3,H3,I4,qn⟩
 ·refine uI hp (YB (T.item X rfl rfl rfl hm i pins s3 σ3 H3 X.xe I3 (stat fr3) st3 go) λr s4 ⟨u,hr,h4⟩=>?_)
  subst hr
  refine uI hp (YB h4 λ_ s5 ⟨x,H5,I5,r5,y5,st5,fr5⟩=>?_)
  have I5':=I5.pinned (stat fr5) (T.obj _ _ st5)
  refine uI hp (YB (hg _ s5 σ3 H5 x u _ I5' r5 (step x H5 y5)) λ_ s6 ⟨σ6,H6,I6,q6⟩=>?_)
  refine uI hp (YB (hb _ s6 σ6 H6 _ I6 q6) λf s7 q7=>?_)
  have again:∀{σ7:St}{H7:Hp},Zu X (pins++Ua fp s5.heap) σ7 H7 s7->N σ7 H7->∃m,m<n/\∃i σ' H',Zu X pins σ' H' s7/\tn i s7.heap/\(∀b∈fp,H' b=none)/\W i m σ' H':=λ{σ7 H7} I7 n7=>by
   obtain⟨m',hm,w7⟩:=hN σ7 H7 n7
   refine⟨m',hm,i+1,σ7,H7,I7.unpinned,T.keep _ _ _ st5 λb hb o e=>(I7.pin (b,o) (uH _ (uH _ (V6 hb e)))).1,λb hb=>?_,w7⟩
   obtain⟨o,e,d⟩:=T.obj _ _ st5 b hb
   exact(I7.pin (b,o) (uH _ (uH _ (V6 hb e)))).2.1
  cases f with
  | next=>obtain⟨σ7,H7,I7,n7⟩:=q7;exact again I7 n7
  | cont=>obtain⟨σ7,H7,I7,n7⟩:=q7;exact again I7 n7
  | brk=>obtain⟨σ7,H7,I7,q7⟩:=q7;exact⟨σ7,H7,I7.unpinned,q7⟩
  | ret v=>obtain⟨x7,σ7,H7,I7,r7,q7⟩:=q7;exact⟨x7,σ7,H7,I7.unpinned,r7,q7⟩
end
abbrev R2:=V->V->Hp->VK->Prop
def WX(X:Cx)(f:Value->Value->Sem Value)(r:R2):Prop:=
 ∀(pins:List (Addr×Obj)) (s:Shared) (σ:St) (H:Hp) (x y:V) (v u:Value) (Q:VK),Zu X pins σ H s->ZI x v->ZI y u->r x y H Q ->
  wpAny (model X.prog X.w) X.A (f v u) (EP X pins σ Q) X.xe s
def UnR(X:Cx)(f:Value->Sem Value)(r:V->Hp->VK->Prop):Prop:=
 ∀(pins:List (Addr×Obj)) (s:Shared) (σ:St) (H:Hp) (x:V) (v:Value) (Q:VK),Zu X pins σ H s->ZI x v->r x H Q ->
  wpAny (model X.prog X.w) X.A (f v) (EP X pins σ Q) X.xe s
def Y0(X:Cx)(f:Value)(r:List V->Hp->VK->Prop):Prop:=
 ∀(pins:List (Addr×Obj)) (s:Shared) (σ:St) (H:Hp) (xs:List V) (us:List Value) (Q:VK),Zu X pins σ H s->ZH xs us->r xs H Q ->
  wpAny (model X.prog X.w) X.A (call f us) (EP X pins σ Q) X.xe s
def Zbr(X:Cx)(r:V->Hp->(Bool->Hp->Prop)->Prop):Prop:=
 ∀(pins:List (Addr×Obj)) (s:Shared) (σ:St) (H:Hp) (x:V) (v:Value) (Q:Bool->Hp->Prop),Zu X pins σ H s->ZI x v->r x H Q ->
  wpAny (model X.prog X.w) X.A (truthy v) (TP X pins σ Q) X.xe s
def Dr(r:R2)(ta tb:TE):TE:=λσ H Q=>ta σ H λx H1=>tb σ H1 λy H2=>r x y H2 Q
def tUn(r:V->Hp->VK->Prop)(ta:TE):TE:=λσ H Q=>ta σ H λx H1=>r x H1 Q
def rI(C:Int->Int->Prop)(g:Int->Int->V):R2:=λx y H Q=>∃i j,x=.int i/\y=.int j/\C i j/\Q (g i j) H
def Cq(g:Int->Int->V):R2:=λx y H Q=>∃i j,x=.int i/\y=.int j/\Q (g i j) H
def rU(g:Int->V):V->Hp->VK->Prop:=λx H Q=>∃i,x=.int i/\Q (g i) H
section
variable {X:Cx}{a b c:Expr}{ta tb tc:TE}{pos:Pos}
theorem CB(ha:PE X a ta)(hb:PE X b tb){pins:List (Addr×Obj)}{s:Shared}{σ:St}{H:Hp}{R:V->V->Hp->Prop}(I:Zu X pins σ H s) 
  (h:ta σ H λx H1=>tb σ H1 λy H2=>R x y H2) {Q:Value->Shared->Prop}{f:Value->Value->Sem Value}
  (hf:∀v u s2 x y H2,Zu X pins σ H2 s2->ZI x v->ZI y u->R x y H2->wpAny (model X.prog X.w) X.A (f v u) Q X.xe s2) :
  wpAny (model X.prog X.w) X.A (eval a X.env) (λv s₁=>wpAny (model X.prog X.w) X.A (eval b X.env) (λu s₂=>wpAny (model X.prog X.w) X.A (f v u) Q X.xe s₂) X.xe s₁) X.xe s:=by
 refine YB (ha pins s σ H _ I h) λv s1 ⟨x,H1,I1,r1,q1⟩=>?_
 refine YB (hb pins s1 σ H1 _ I1 q1) λu s2 ⟨y,H2,I2,r2,q2⟩=>?_
 exact hf v u s2 x y H2 I2 r1 r2 q2
theorem Zat{op:Operator}{r:R2}(ho:WX X (binaryOp op) r)(ha:PE X a ta)(hb:PE X b tb):PE X (.BinOp a op b pos) (Dr r ta tb):=by
 intro pins s σ H Q I h
 exact wpAny_BinOp (CB ha hb I h λv u s2 x y H2 I2 rx ry q=>ho pins s2 σ H2 x y v u Q I2 rx ry q)
theorem Zau{op:UnaryOp}{r:V->Hp->VK->Prop}(ho:UnR X (unaryOp op) r)(ha:PE X a ta):PE X (.UnaryOp op a pos) (tUn r ta):=by
 intro pins s σ H Q I h
 exact UnaryOp_ (YB (ha pins s σ H _ I h) λv s1 ⟨x,H1,I1,r1,q1⟩=>ho pins s1 σ H1 x v Q I1 r1 q1)
theorem opI{f:Value->Value->Sem Value}{C:Int->Int->Prop}{g:Int->Int->Int} 
  (rule:∀(i j:Int) (t u:Tok) (s:Shared) (Q:Value->Shared->Prop) (E:Value->Shared->Prop),C i j->Q (.int (g i j) s.toks) { s with toks:=s.toks+1 }->wpAny (model X.prog X.w) X.A (f (.int i t) (.int j u)) Q E s) :
  WX X f (rI C λi j=>.int (g i j)):=by
 intro pins s σ H x y v u Q I rx ry h
 obtain⟨i,j,rfl,rfl,hc,q⟩:=h
 obtain⟨t,rfl⟩:=rx
 obtain⟨t',rfl⟩:=ry
 exact rule i j t t' s _ _ hc ⟨.int (g i j),H,I.tok _,⟨_,rfl⟩,q⟩
theorem Zc1{f:Value->Value->Sem Value}{g:Int->Int->Int} 
  (rule:∀(i j:Int) (t u:Tok) (s:Shared) (Q:Value->Shared->Prop) (E:Value->Shared->Prop),Q (.int (g i j) s.toks) { s with toks:=s.toks+1 }->wpAny (model X.prog X.w) X.A (f (.int i t) (.int j u)) Q E s) :
  WX X f (Cq λi j=>.int (g i j)):=by
 intro pins s σ H x y v u Q I rx ry h
 obtain⟨i,j,rfl,rfl,q⟩:=h
 obtain⟨t,rfl⟩:=rx
 obtain⟨t',rfl⟩:=ry
 exact rule i j t t' s _ _ ⟨.int (g i j),H,I.tok _,⟨_,rfl⟩,q⟩
theorem B6{f:Value->Value->Sem Value}{g:Int->Int->Bool} 
  (rule:∀(i j:Int) (t u:Tok) (s:Shared) (Q:Value->Shared->Prop) (E:Value->Shared->Prop),Q (.bool (g i j)) s->wpAny (model X.prog X.w) X.A (f (.int i t) (.int j u)) Q E s) :
  WX X f (Cq λi j=>.bl (g i j)):=by
 intro pins s σ H x y v u Q I rx ry h
 obtain⟨i,j,rfl,rfl,q⟩:=h
 obtain⟨t,rfl⟩:=rx
 obtain⟨t',rfl⟩:=ry
 exact rule i j t t' s _ _ ⟨.bl (g i j),H,I,rfl,q⟩
def AR(i j:Int):Prop:=(-(2 ^ 64)<i/\i<2 ^ 64)\/(-(2 ^ 64)<j/\j<2 ^ 64)
theorem AR.ok{i j:Int}(h:AR i j):IntMulOk i j:=by
 rcases h with ⟨h1,h2⟩|⟨h1,h2⟩
 ·exact .of_left (intBits_le_64 h1 h2)
 ·exact .of_right (intBits_le_64 h1 h2)
theorem Xn:WX X (binaryOp .Add) (Cq λi j=>.int (i+j)):=Zc1 λ_ _ _ _ _ _ _ q=>add_int q
theorem UO:WX X (binaryOp .Mod) (rI (λ_ j=>0<j) λi j=>.int (i % j)):=opI λi j _ _ _ _ _ hc q=>by
 have h1:(0:Int)<j:=hc
 exact mod_int' (by omega) (by rw[Int.fmod_eq_emod_of_nonneg i (by omega)];exact q)
theorem unI{f:Value->Sem Value}{g:Int->Int} 
  (rule:∀(i:Int) (t:Tok) (s:Shared) (Q:Value->Shared->Prop) (E:Value->Shared->Prop),Q (.int (g i) s.toks) { s with toks:=s.toks+1 }->wpAny (model X.prog X.w) X.A (f (.int i t)) Q E s) :
  UnR X f (rU λi=>.int (g i)):=by
 intro pins s σ H x v Q I rx h
 obtain⟨i,rfl,q⟩:=h
 obtain⟨t,rfl⟩:=rx
 exact rule i t s _ _ ⟨.int (g i),H,I.tok _,⟨_,rfl⟩,q⟩
theorem AF:UnR X (unaryOp .USub) (rU λi=>.int (-i)):=unI λ_ _ _ _ _ q=>neg_int q
end
def Zbl:V->V->Bool
 | .non,.non=>true | .non,.int _=>true | .int _,.non=>true | .non,.bl _=>true | .bl _,.non=>true | .non,.str _=>true | .str _,.non=>true
 | .int _,.int _=>true | .bl _,.bl _=>true | .str _,.str _=>true | .byt _,.byt _=>true
 | .int _,.str _=>true | .str _,.int _=>true | .bl _,.str _=>true | .str _,.bl _=>true
 | _,_=>false
def rEq:R2:=λx y H Q=>Zbl x y=true/\Q (.bl (decide (x=y))) H
def rNe:R2:=λx y H Q=>Zbl x y=true/\Q (.bl (!decide (x=y))) H
theorem L8{i j:Int}:decide (V.int i=V.int j)=(i == j):=by
 rw[uJ]
 simp
theorem Iy{i j:Bool}:decide (V.bl i=V.bl j)=(i == j):=by
 rw[uJ]
 simp
theorem L9{i j:Str}:decide (V.str i=V.str j)=(i == j):=by
 rw[uJ]
 simp
theorem L7{i j:Array UInt8}:decide (V.byt i=V.byt j)=(i.toList == j.toList):=by
 rw[uJ]
 cases i
 cases j
 simp
section
variable {X:Cx}{a b c:Expr}{ta tb tc:TE}{pos:Pos}
theorem Yh{pins:List (Addr×Obj)}{σ:St}{H:Hp}{s:Shared}{Q:VK}{k k':Bool}(I:Zu X pins σ H s)(q:Q (.bl k) H)(e:k=k'):EP X pins σ Q (.bool k') s:=by
 subst e
 exact⟨.bl k,H,I,rfl,q⟩
theorem Gb:WX X (compareOp .Eq) rEq:=by
 intro pins s σ H x y v u Q I rx ry h
 obtain⟨hs,q⟩:=h
 cases x with
 | non=>
  cases rx
  cases y with
  | non=>cases ry;exact PySem.EqNone.eq_none_none (Yh I q (by simp))
  | bl j=>cases ry;exact PySem.EqNone.eq_none_bool (Yh I q (by simp))
  | int j=>obtain⟨t',rfl⟩:=ry;exact PySem.EqNone.eq_none_int (Yh I q (by simp))
  | str j=>obtain⟨t',rfl⟩:=ry;exact PySem.EqNone.eq_none_str (Yh I q (by simp))
  | _=>exact absurd (show false=true from hs) wU
 | bl i=>
  cases rx
  cases y with
  | non=>cases ry;exact PySem.EqNone.eq_bool_none (Yh I q (by simp))
  | bl j=>cases ry;exact eq_bool (Yh I q Iy)
  | str j=>obtain⟨t',rfl⟩:=ry;exact PySem.EqMixed.eq_bool_str (Yh I q (by simp))
  | _=>exact absurd (show false=true from hs) wU
 | int i=>
  obtain⟨t,rfl⟩:=rx
  cases y with
  | non=>cases ry;exact PySem.EqNone.eq_int_none (Yh I q (by simp))
  | int j=>obtain⟨t',rfl⟩:=ry;exact eq_int (Yh I q L8)
  | str j=>obtain⟨t',rfl⟩:=ry;exact PySem.EqMixed.eq_int_str (Yh I q (by simp))
  | _=>exact absurd (show false=true from hs) wU
 | str i=>
  obtain⟨t,rfl⟩:=rx
  cases y with
  | non=>cases ry;exact PySem.EqNone.eq_str_none (Yh I q (by simp))
  | bl j=>cases ry;exact PySem.EqMixed.eq_str_bool (Yh I q (by simp))
  | int j=>obtain⟨t',rfl⟩:=ry;exact PySem.EqMixed.eq_str_int (Yh I q (by simp))
  | str j=>obtain⟨t',rfl⟩:=ry;exact eq_str (Yh I q L9)
  | _=>exact absurd (show false=true from hs) wU
 | byt i=>
  obtain⟨t,rfl⟩:=rx
  cases y with
  | byt j=>obtain⟨t',rfl⟩:=ry;exact PySem.W.eq_bytes (Yh I q L7)
  | _=>exact absurd (show false=true from hs) wU
 | _=>cases y<;>exact absurd (show false=true from hs) wU
theorem Kb:WX X (compareOp .NotEq) rNe:=by
 intro pins s σ H x y v u Q I rx ry h
 obtain⟨hs,q⟩:=h
 cases x with
 | non=>
  cases rx
  cases y with
  | non=>cases ry;exact PySem.EqNone.ne_none_none (Yh I q (by simp))
  | bl j=>cases ry;exact PySem.EqNone.ne_none_bool (Yh I q (by simp))
  | int j=>obtain⟨t',rfl⟩:=ry;exact PySem.EqNone.ne_none_int (Yh I q (by simp))
  | str j=>obtain⟨t',rfl⟩:=ry;exact PySem.EqNone.ne_none_str (Yh I q (by simp))
  | _=>exact absurd (show false=true from hs) wU
 | bl i=>
  cases rx
  cases y with
  | non=>cases ry;exact PySem.EqNone.ne_bool_none (Yh I q (by simp))
  | bl j=>cases ry;exact ne_bool (Yh I q (zR not Iy))
  | str j=>obtain⟨t',rfl⟩:=ry;exact PySem.EqMixed.ne_bool_str (Yh I q (by simp))
  | _=>exact absurd (show false=true from hs) wU
 | int i=>
  obtain⟨t,rfl⟩:=rx
  cases y with
  | non=>cases ry;exact PySem.EqNone.ne_int_none (Yh I q (by simp))
  | int j=>obtain⟨t',rfl⟩:=ry;exact ne_int (Yh I q (zR not L8))
  | str j=>obtain⟨t',rfl⟩:=ry;exact PySem.EqMixed.ne_int_str (Yh I q (by simp))
  | _=>exact absurd (show false=true from hs) wU
 | str i=>
  obtain⟨t,rfl⟩:=rx
  cases y with
  | non=>cases ry;exact PySem.EqNone.ne_str_none (Yh I q (by simp))
  | bl j=>cases ry;exact PySem.EqMixed.ne_str_bool (Yh I q (by simp))
  | int j=>obtain⟨t',rfl⟩:=ry;exact PySem.EqMixed.ne_str_int (Yh I q (by simp))
  | str j=>obtain⟨t',rfl⟩:=ry;exact ne_str (Yh I q (zR not L9))
  | _=>exact absurd (show false=true from hs) wU
 | byt i=>
  obtain⟨t,rfl⟩:=rx
  cases y with
  | byt j=>obtain⟨t',rfl⟩:=ry;exact PySem.W.ne_bytes (Yh I q (zR not L7))
  | _=>exact absurd (show false=true from hs) wU
 | _=>cases y<;>exact absurd (show false=true from hs) wU
theorem Co:WX X (compareOp .Lt) (Cq λi j=>.bl (decide (i<j))):=B6 λ_ _ _ _ _ _ _ q=>lt_int q
theorem Pe:WX X (compareOp .LtE) (Cq λi j=>.bl (decide (i≤j))):=B6 λ_ _ _ _ _ _ _ q=>le_int q
theorem Zao:WX X (compareOp .Gt) (Cq λi j=>.bl (decide (j<i))):=B6 λ_ _ _ _ _ _ _ q=>gt_int q
theorem E1:WX X (compareOp .IsNot) (λx y H Q=>y=.non/\Q (.bl (!decide (x=.non))) H):=by
 intro pins s σ H x y v u Q I rx ry h
 obtain⟨rfl,q⟩:=h
 cases ry
 refine isnot_none_gen (Yh I q ?_)
 cases x<;>first
  | (cases rx;rfl)
  | (obtain⟨t,rfl⟩:=rx;rfl)
theorem WX.or{f:Value->Value->Sem Value}{r r':R2}(h:WX X f r)(h':WX X f r'):WX X f (λx y H Q=>r x y H Q\/r' x y H Q):=by
 intro pins s σ H x y v u Q I rx ry q
 rcases q with q|q
 ·exact h pins s σ H x y v u Q I rx ry q
 ·exact h' pins s σ H x y v u Q I rx ry q
theorem Yq(b:Expr){op:CmpOp}(h:op≠.In:=by decide)(h2:op≠.NotIn:=by decide):behindInMarks op b=false:=by
 have e1:(op == CmpOp.In)=false:=by cases op<;>first|rfl|exact absurd rfl h
 have e2:(op == CmpOp.NotIn)=false:=by cases op<;>first|rfl|exact absurd rfl h2
 cases b<;>simp[behindInMarks,e1,e2]
theorem E7{op:CmpOp}{r:R2}(ho:WX X (compareOp op) r)(ha:PE X a ta)(hb:PE X b tb)(hm:behindInMarks op b=false):PE X (.Compare a [op] [b] pos) (Dr r ta tb):=by
 intro pins s σ H Q I h
 exact wpAny_Compare1 (CB ha hb I h λv u s2 x y H2 I2 rx ry q=>ho pins s2 σ H2 x y v u Q I2 rx ry q) hm
def NS(t:TE):TT:=λσ H Q=>t σ H λx H'=>∃k,x=.bl k/\Q k H'
theorem EK{op:CmpOp}{r:R2}(ho:WX X (compareOp op) r)(ha:PE X a ta)(hb:PE X b tb)(hm:behindInMarks op b=false):PT X (.Compare a [op] [b] pos) (NS (Dr r ta tb)):=by
 intro pins s σ H Q I h
 refine wpAny_isTrue_Compare1 (YB (ha pins s σ H _ I h) λv s1 ⟨x,H1,I1,r1,q1⟩=>YB (hb pins s1 σ H1 _ I1 q1) λu s2 ⟨y,H2,I2,r2,q2⟩=>
  YB (ho pins s2 σ H2 x y v u _ I2 r1 r2 q2) λc s3 ⟨z,H3,I3,r3,k,e,q3⟩=>?_) hm
 subst e
 cases r3
 exact vY ⟨H3,I3,q3⟩
def Qp(r r':R2)(ta tb tc:TE):TE:=λσ H Q=>ta σ H λx H1=>tb σ H1 λy H2=>r x y H2 λz H3=>∃k,z=.bl k /\
 (if k=true then tc σ H3 λw' H4=>r' y w' H4 Q else Q (.bl false) H3)
theorem Gj{op op':CmpOp}{r r':R2}(ho:WX X (compareOp op) r)(ho':WX X (compareOp op') r')(ha:PE X a ta)(hb:PE X b tb)(hc:PE X c tc) 
  (hm:lastMarks [op,op'] [b,c]=false:=by with_unfolding_all rfl):PE X (.Compare a [op,op'] [b,c] pos) (Qp r r' ta tb tc):=by
 intro pins s σ H Q I h
 refine Compare_chain (YB (ha pins s σ H _ I h) λv s1 ⟨x,H1,I1,r1,q1⟩=>chain_link (YB (hb pins s1 σ H1 _ I1 q1) λu s2 ⟨y,H2,I2,r2,q2⟩=>
  YB (ho pins s2 σ H2 x y v u _ I2 r1 r2 q2) λd s3 ⟨z,H3,I3,r3,k,e,q3⟩=>?_)) hm
 subst e
 cases r3
 refine vY ?_
 cases k with
 | false=>exact ite_ff ⟨.bl false,H3,I3,rfl,q3⟩
 | true=>exact ite_tt (chain_last (YB (hc pins s3 σ H3 _ I3 q3) λw' s4 ⟨z',H4,I4,r4,q4⟩=>ho' pins s4 σ H4 y z' u w' Q I4 r2 r4 q4))
theorem G5{op op':CmpOp}{r r':R2}(ho:WX X (compareOp op) r)(ho':WX X (compareOp op') r')(ha:PE X a ta)(hb:PE X b tb)(hc:PE X c tc) 
  (hm:lastMarks [op,op'] [b,c]=false:=by with_unfolding_all rfl):PT X (.Compare a [op,op'] [b,c] pos) (NS (Qp r r' ta tb tc)):=by
 intro pins s σ H Q I h
 refine isTrue_chain (YB (ha pins s σ H _ I h) λv s1 ⟨x,H1,I1,r1,q1⟩=>test_link (YB (hb pins s1 σ H1 _ I1 q1) λu s2 ⟨y,H2,I2,r2,q2⟩=>
  YB (ho pins s2 σ H2 x y v u _ I2 r1 r2 q2) λd s3 ⟨z,H3,I3,r3,k,e,q3⟩=>?_)) hm
 subst e
 cases r3
 refine vY ?_
 cases k with
 | false=>
  obtain⟨k',e',q'⟩:=q3
  cases e'
  exact ite_ff ⟨H3,I3,q'⟩
 | true=>
  refine ite_tt (test_last (YB (hc pins s3 σ H3 _ I3 q3) λw' s4 ⟨z',H4,I4,r4,q4⟩=>YB (ho' pins s4 σ H4 y z' u w' _ I4 r2 r4 q4) λd' s5 ⟨z2,H5,I5,r5,k2,e2,q5⟩=>?_))
  subst e2
  cases r5
  exact vY ⟨H5,I5,q5⟩
theorem Sh:(sizeLine:Nat)<2 ^ 63:=by rw[uK];decide
theorem YY:WX X (binaryOp .Add) (λx y H Q=>∃i j,x=.str i/\y=.str j/\i.length+j.length≤sizeLine/\Q (.str (i++j)) H):=by
 intro pins s σ H x y v u Q I rx ry h
 obtain⟨i,j,rfl,rfl,hz,q⟩:=h
 obtain⟨t,rfl⟩:=rx
 obtain⟨t',rfl⟩:=ry
 exact add_str (λt' tk=>⟨.str (i++j),H,I.tok _,⟨_,rfl⟩,q⟩) hz
theorem VF{x:V}{us:List Value}(r:ZH [x] us):∃u,us=[u]/\ZI x u:=by
 cases r with
 | cons r1 r2=>cases r2;exact⟨_,rfl,r1⟩
theorem N_{x y:V}{us:List Value}(r:ZH [x,y] us):∃u w',us=[u,w']/\ZI x u/\ZI y w':=by
 cases r with
 | cons r1 r2=>
  cases r2 with
  | cons r3 r4=>cases r4;exact⟨_,_,rfl,r1,r3⟩
theorem JG:Y0 X (.builtin "abs") (λxs H Q=>∃i,xs=[.int i]/\Q (.int (if i<0 then -i else i)) H):=by
 intro pins s σ H xs us Q I r h
 obtain⟨i,rfl,q⟩:=h
 obtain⟨u,rfl,t,rfl⟩:=VF r
 exact call_abs_int λu tk=>⟨.int (if i<0 then -i else i),H,I.tok _,⟨_,rfl⟩,q⟩
theorem K6(hc:X.cold=true):Y0 X (.builtin "max") (λxs H Q=>∃i j,xs=[.int i,.int j]/\Q (.int (if j > i then j else i)) H):=by
 intro pins s σ H xs us Q I r h
 obtain⟨i,j,rfl,q⟩:=h
 obtain⟨u,w',rfl,⟨t,rfl⟩,⟨t',rfl⟩⟩:=N_ r
 refine max_two_ints (I.ok.cd hc) λh' tk k=>⟨_,H,I.kept k,?_,q⟩
 by_cases hj:j > i
 ·rw[zU hj,zU hj];exact⟨_,rfl⟩
 ·rw[wT hj,wT hj];exact⟨_,rfl⟩
theorem K7(hc:X.cold=true):Y0 X (.builtin "min") (λxs H Q=>∃i j,xs=[.int i,.int j]/\Q (.int (if j<i then j else i)) H):=by
 intro pins s σ H xs us Q I r h
 obtain⟨i,j,rfl,q⟩:=h
 obtain⟨u,w',rfl,⟨t,rfl⟩,⟨t',rfl⟩⟩:=N_ r
 refine min_two_ints (I.ok.cd hc) λh' tk k=>⟨_,H,I.kept k,?_,q⟩
 by_cases hj:j<i
 ·rw[zU hj,zU hj];exact⟨_,rfl⟩
 ·rw[wT hj,wT hj];exact⟨_,rfl⟩
theorem UY:Y0 X (.type "str") (λxs H Q=>∃i,xs=[.int i]/\i.natAbs.log2<1920/\Q (.str (toString i)) H):=by
 intro pins s σ H xs us Q I r h
 obtain⟨i,rfl,hz,q⟩:=h
 obtain⟨u,rfl,t,rfl⟩:=VF r
 exact PySem.P.str_of_int hz ⟨.str _,H,I.tok _,⟨_,rfl⟩,q⟩
end
structure Mi(h:Heap)(x dx C:Addr)(mA:Str->Option Value):Prop where
 obj:h.get? x=some (PySem.W.instObj C dx)
 ns:h.Ns1 dx mA
 ne:dx≠x
theorem QZ{h:Heap}{dx:Addr}{mA:Str->Option Value}(n:h.Ns1 dx mA):∃od,h.get? dx=some od/\∀name,PySem.W.lookIn name od=some (mA name):=by
 obtain⟨o,es,ep,ho,hd,hk,_,hm⟩:=n
 refine⟨o,ho,λname=>?_⟩
 have e:=hm name
 unfold nsFind findBy at e
 rw[<- Array.find?_toList]at e
 unfold PySem.W.lookIn
 rw[hd]
 dsimp only
 split
 ·rename_i y q
  rw[q]at e
  exact zR some e
 ·rename_i q
  rw[q]at e
  have a:es.toList.any (·.refKey)=false:=by
   rw[List.any_eq_false]
   intro y hy
   obtain⟨z,t,hkey⟩:=hk y (Array.mem_toList_iff.mp hy)
   simp[DictEntry.refKey,hkey]
  have a':¬es.toList.any (·.refKey)=true:=by rw[a];exact wU
  rw[wT a']
  exact zR some e
theorem Mi.look{h:Heap}{x dx C:Addr}{mA:Str->Option Value}(I:Mi h x dx C mA):∃od,PySem.W.InstAt h x (PySem.W.instObj C dx) C (some od)/\∀name,PySem.W.lookIn name od=some (mA name):=
 let ⟨od,ho,hl⟩:=QZ I.ns
 ⟨od,⟨I.obj,rfl,rfl,ho⟩,hl⟩
section
variable {prog:Program}{w:World}{A:Around}{E:Value->Shared->Prop}{s:Shared}{K:Frag}{x dx C f:Addr}{mA:Str->Option Value}{name:Str}{v:Value}
theorem V5{expr:Bool}{Q:Value->Shared->Prop}(X:K.In s.heap)(I:Mi s.heap x dx C mA)(hg:PySem.W.plainGet K C name=true)(hh:PySem.W.hasDictIn K C=true) 
  (ha:PySem.W.findIn K (.ref C) name=some none) (hv:mA name=some v) (hv':PySem.W.handedIn v=true) (h:Q v { s with toks:=s.toks+1 }) :
  wpAny (model prog w) A (getAttr (.ref x) name expr) Q E s:=by
 obtain⟨od,J,hl⟩:=I.look
 exact PySem.W.get_value X J (plainGet_of hg).1 (PySem.W.findObj_own hh ha rfl (by rw[hl,hv])) hv' h
theorem Hh{pl:Sem Bool}{Q:Value×List Value->Shared->Prop}(X:K.In s.heap)(I:Mi s.heap x dx C mA)(hg:PySem.W.plainGet K C name=true) 
  (hf:PySem.W.findIn K (.ref C) name=some (some (.ref f))) (ht:PySem.W.isFn K (.ref f)=true) (hv:mA name=none) (h:Q (.ref f,[.ref x]) s) :
  wpAny (model prog w) A (getMethod (.ref x) name pl) Q E s:=by
 obtain⟨od,J,hl⟩:=I.look
 exact PySem.W.method_fn X J (plainGet_of hg).1 (plainGet_of hg).2 hf (uL.mp ht) (by show(PySem.W.lookIn name od).map (·.isSome)=some false;rw[hl,hv];rfl) h
theorem Dj{ns:List Str}{Q:Unit->Shared->Prop}(X:K.In s.heap)(I:Mi s.heap x dx C mA) 
  (hs:PySem.W.findIn K (.ref C) "__setattr__" = some (some (.builtin "object.__setattr__"))) (hp:PySem.W.plainOver K C=true) (ht:PySem.W.takerIn K C name=some none) (hh:PySem.W.hasDictIn K C=true)
  (hw:PySem.Within mA ns) (hsz:ns.length≤sizeLine)
  (h:∀h',Mi h' x dx C (λy=>if y=name then some v else mA y)->Heap.SameBut dx s.heap h'->Q () { s with heap:=h',toks:=s.toks+2 }) :
  wpAny (model prog w) A (setAttr (.ref x) name v) Q E s:=by
 obtain⟨od,J,hl⟩:=I.look
 refine PySem.W.set_plain X J hs (PySem.W.osa_open (s:={ s with toks:=s.toks+1 }) (r:=none) X J hp ht λb=>?_)
 obtain⟨cd,hc,hd'⟩:=PySem.W.any_some hh
 have hx:s.heap.get? x=some ⟨.ref C,some dx,.plain,#[]⟩:=I.obj
 refine zW (zX (zW (zW (wpAny_loadPart hx (zW (PySem.W.Looks.here (s:={ s with toks:=s.toks+1 }) (PySem.W.looks_clsIn X hc) ?_))))))
 rw[hd']
 refine zX (a:=some dx) (zW (zX (zW ?_)))
 refine wpAny_nsSet1 (s:={ s with toks:=s.toks+1 }) I.ns λh' hn2 hs2=>?_
 obtain⟨oD,esD,epD,hoD,hdD,hcD⟩:=hn2.count (PySem.Within.cons name v hw)
 refine zW (wpAny_lookBehind hoD (by rw[hdD];exact pastItsLine_dict (zF hcD (by rw[uM];omega))) ?_)
 exact zX (h _ ⟨(hs2.2 _ (wC I.ne)).trans I.obj,hn2,I.ne⟩ hs2)
theorem HP{R:Result->Shared->Prop}{vs:List Value}{kw:List (Str×Value)}(X:K.In s.heap)(hm:PySem.W.makesIn K C=true) 
  (hi:PySem.W.findIn K (.ref C) "__init__" = some (some (.ref f))) (hf:PySem.W.typeIn K (.ref f)=some (.type "function"))
  (h:codeAny (model prog w) (A.under (.builtin "type.__call__" ⟨.ref C::vs,kw⟩)) (.call (.ref f) ⟨.ref (s.heap.objs.size+1)::vs,kw⟩) (PySem.W.InitBack (s.heap.objs.size+1) R)
   { s with heap:=(s.heap.push PySem.W.emptyDict).push (PySem.W.instObj C s.heap.objs.size) }) :
  codeAny (model prog w) A (.call (.ref C) ⟨vs,kw⟩) R s:=by
 obtain⟨hh,g,d,t,os⟩:=s
 exact PySem.W.make_core (PySem.W.makes_of X hm) (uN X hi) (λself=>PySem.W.bind_fn X self hf) (.inl rfl) h
end
def Vn(f:Str)(v:V):List (Str×V)->List (Str×V)
 | []=>[(f,v)]
 | (g,x)::r=>if g=f then(g,v)::r else(g,x)::Vn f v r
theorem Sz(f g:Str)(v:V):∀fs:List (Str×V),(Vn f v fs).lookup g=if g=f then some v else fs.lookup g
 | []=>by
  show List.lookup g [(f,v)]=_
  by_cases h:g=f
  ·have hb:(g == f)=true:=uL.mpr h
   simp only[List.lookup,hb,zU h]
  ·have hb:(g == f)=false:=vI.mpr h
   simp only[List.lookup,hb,wT h]
 | (k,x)::r=>by
  have ih:=Sz f g v r
  rw[show Vn f v ((k,x)::r)=(if k=f then(k,v)::r else(k,x)::Vn f v r) from rfl]
  by_cases hk:k=f
  ·rw[zU hk]
   by_cases h:g=k
   ·have hb:(g == k)=true:=uL.mpr h
    simp only[List.lookup,hb,zU (h.trans hk)]
   ·have hb:(g == k)=false:=vI.mpr h
    simp only[List.lookup,hb,wT (λe:g=f=>h (e.trans hk.symm))]
  ·rw[wT hk]
   by_cases h:g=k
   ·have hb:(g == k)=true:=uL.mpr h
    simp only[List.lookup,hb,wT (λe:g=f=>hk (h.symm.trans e))]
   ·have hb:(g == k)=false:=vI.mpr h
    simp only[List.lookup,hb]
    exact ih
theorem Sb(f:Str)(v:V):∀fs:List (Str×V),f∈(Vn f v fs).map (·.1)/\∀g,g∈fs.map (·.1)->g∈(Vn f v fs).map (·.1)
 | []=>⟨by simp[Vn],λg h=>by simp at h⟩
 | (k,x)::r=>by
  obtain⟨i1,i2⟩:=Sb f v r
  rw[show Vn f v ((k,x)::r)=(if k=f then(k,v)::r else(k,x)::Vn f v r) from rfl]
  by_cases hk:k=f
  ·rw[zU hk]
   subst hk
   exact⟨by simp,λg h=>by simpa using h⟩
  ·rw[wT hk]
   refine⟨?_,λg h=>?_⟩
   ·rw[uO]
    exact vN _ i1
   ·rw[uO]at h |-
    rcases vP.mp h with e|e
    ·exact vP.mpr (.inl e)
    ·exact vN _ (i2 g e)
theorem Sy(f:Str)(v:V):∀fs:List (Str×V),(Vn f v fs).length≤fs.length+1
 | []=>by simp[Vn]
 | (k,x)::r=>by
  have ih:=Sy f v r
  rw[show Vn f v ((k,x)::r)=(if k=f then(k,v)::r else(k,x)::Vn f v r) from rfl]
  by_cases hk:k=f
  ·rw[zU hk,uM,uM];omega
  ·rw[wT hk,uM,uM];omega
theorem Vy.some_of{v:V}{o:Option Value}(r:Vy (some v) o):∃u,o=some u/\ZI v u:=by
 cases o with
 | none=>exact(show False from r).elim
 | some u=>exact⟨u,rfl,r⟩
theorem Vy.none_of{o:Option Value}(r:Vy none o):o=none:=by
 cases o with
 | none=>rfl
 | some u=>exact(show False from r).elim
theorem QS{v:V}{u:Value}(r:ZI v u):PySem.W.handedIn u=true:=by
 cases v with
 | non=>cases (show u=Value.none from r);rfl
 | bl b=>cases (show u=Value.bool b from r);rfl
 | int i=>obtain⟨t,e⟩:=(show ∃t,u=Value.int i t from r);cases e;rfl
 | str x=>obtain⟨t,e⟩:=(show ∃t,u=Value.str x t from r);cases e;rfl
 | byt b=>obtain⟨t,e⟩:=(show ∃t,u=Value.bytes b t from r);cases e;rfl
 | flt b=>obtain⟨t,e⟩:=(show ∃t,u=Value.float b t from r);cases e;rfl
 | ref a=>cases (show u=Value.ref a from r);rfl
 | ty n=>cases (show u=Value.type n from r);rfl
section
variable {P:Program}{w:World}{H H':Hp}{h h':Heap}{a C dx:Addr}{fs fs':List (Str×V)}
theorem YU(hok:U5 P w H h)(e:H a=some (.ins C dx fs)):∃mA,Mi h a dx C mA/\(∀f,Vy (fs.lookup f) (mA f))/\PySem.Within mA (fs.map (·.1))/\fs.length≤1000/\H dx=some (.own a):=by
 obtain⟨d,z,ne,ob,mA,n,r,q⟩:=(show YV P w H h a (.ins C dx fs) from hok a _ e)
 exact⟨mA,⟨ob,n,ne⟩,r,q,z,d⟩
end
structure Me(K:Frag)(C:Addr):Prop where
 pg:PySem.W.plainGet K C Str.empty=true
 hd:PySem.W.hasDictIn K C=true
 po:PySem.W.plainOver K C=true
 sa:PySem.W.findIn K (.ref C) "__setattr__" = some (some (.builtin "object.__setattr__"))
theorem Me.get{K:Frag}{C:Addr}(c:Me K C)(f:Str):PySem.W.plainGet K C f=true:=c.pg
def Vx(K:Frag)(C:Addr)(f:Str):Prop:=PySem.W.findIn K (.ref C) f=some none
theorem Vx.taker{K:Frag}{C:Addr}{f:Str}(n:Vx K C f):PySem.W.takerIn K C f=some none:=by
 unfold PySem.W.takerIn
 rw[show PySem.W.findIn K (.ref C) f=some none from n]
 rfl
structure Vw(K:Frag)(C:Addr)(m:Str)(f:Addr):Prop where
 at_:PySem.W.findIn K (.ref C) m=some (some (.ref f))
 fn:PySem.W.isFn K (.ref f)=true
 kp:PySem.W.keepIn K (.ref f)=true
section
variable {X:Cx}{pins:List (Addr×Obj)}{σ:St}{H:Hp}{s:Shared}{a C dx:Addr}{fs:List (Str×V)}{f:Str}{v:V}{A:Around}{E:Value->Shared->Prop}
theorem M6{b:Bool}{Q:Value->Shared->Prop}(I:Zu X pins σ H s)(e:H a=some (.ins C dx fs))(c:Me X.K C)(n:Vx X.K C f)(l:fs.lookup f=some v) 
  (h:∀u s',Zu X pins σ H s'->ZI v u->Q u s'):wpAny (model X.prog X.w) A (getAttr (.ref a) f b) Q E s:=by
 obtain⟨mA,O,r,_,_,_⟩:=YU I.hok e
 obtain⟨u,hu,ru⟩:=Vy.some_of (v:=v) (o:=mA f) (by rw[<- l];exact r f)
 exact V5 I.kIn O (c.get f) c.hd n hu (QS ru) (h u _ (I.tok _) ru)
theorem R9{m:Str}{g:Addr}{pl:Sem Bool}{Q:Value×List Value->Shared->Prop}(I:Zu X pins σ H s)(e:H a=some (.ins C dx fs))(c:Me X.K C)(k:Vw X.K C m g)(l:fs.lookup m=none) 
  (h:Q (.ref g,[.ref a]) s):wpAny (model X.prog X.w) A (getMethod (.ref a) m pl) Q E s:=by
 obtain⟨mA,O,r,_,_,_⟩:=YU I.hok e
 have hn:mA m=none:=Vy.none_of (by rw[<- l];exact r m)
 exact Hh I.kIn O (c.get m) k.at_ k.fn hn h
theorem MZ{y:V}{u:Value}{Q:Unit->Shared->Prop}(I:Zu X pins σ H s)(e:H a=some (.ins C dx fs))(c:Me X.K C)(n:Vx X.K C f)(hl:fs.length<1000)(ry:ZI y u) 
  (h:∀s',Zu X pins σ (upd H a (.ins C dx (Vn f y fs))) s'->Q () s'):wpAny (model X.prog X.w) A (setAttr (.ref a) f u) Q E s:=by
 obtain⟨mA,O,r,wi,_,ho⟩:=YU I.hok e
 have hz:(fs.map (·.1)).length≤sizeLine:=by rw[Wb,uK];omega
 refine Dj I.kIn O c.sa c.po n.taker c.hd wi hz λh' O' sb=>h _ ?_
 have hd:∃o,h'.get? dx=some o:=let ⟨o,_,_,e',_⟩:=O'.ns;⟨o,e'⟩
 refine I.write (x:=a) (e:=dx) (by rw[e];exact uP) (.inr ho) (λb q hb z=>(sb.2 b hb).trans z) hd ?_
 refine⟨by rw[Zk O.ne];exact ho,?_,O.ne,O'.obj,_,O'.ns,λg=>?_,λg hg=>?_⟩
 ·have:=Sy f y fs;omega
 ·show Vy ((Vn f y fs).lookup g) (if g=f then some u else mA g)
  rw[Sz]
  by_cases q:g=f
  ·rw[zU q,zU q];exact ry
  ·rw[wT q,wT q];exact r g
 ·by_cases q:g=f
  ·rw[q];exact(Sb f y fs).1
  ·refine(Sb f y fs).2 g (wi g λz=>hg ?_)
   show(if g=f then some u else mA g)=none
   rw[wT q];exact z
theorem Zu.made(I:Zu X pins σ H s):Zu X pins σ (upd (upd H s.heap.objs.size (.own (s.heap.objs.size+1))) (s.heap.objs.size+1) (.ins C s.heap.objs.size []))
  { s with heap:=(s.heap.push PySem.W.emptyDict).push (PySem.W.instObj C s.heap.objs.size) }:=by
 have e1:(s.heap.push PySem.W.emptyDict).get? s.heap.objs.size=some PySem.W.emptyDict:=wK s.heap rfl
 have e2:((s.heap.push PySem.W.emptyDict).push (PySem.W.instObj C s.heap.objs.size)).get? (s.heap.objs.size+1)=some (PySem.W.instObj C s.heap.objs.size):=by
  have:=wK (s.heap.push PySem.W.emptyDict) (o:=PySem.W.instObj C s.heap.objs.size) rfl
  rwa [wN]at this
 have e3:(s.heap.push PySem.W.emptyDict).Ns s.heap.objs.size (λ_=>none):=⟨PySem.W.emptyDict,#[],_,e1,rfl,(λe he=>absurd he (by simp)),λ_=>rfl⟩
 have I1:=I.laid (a:=s.heap.objs.size) (o:=.own (s.heap.objs.size+1)) (h':=s.heap.push PySem.W.emptyDict) (t':=s.toks) (λb u q=>wJ _ q) (zK _) ⟨_,e1⟩
 refine I1.laid (a:=s.heap.objs.size+1) (o:=.ins C s.heap.objs.size []) (t':=s.toks) (λb u q=>wJ _ q) (zN (wN _ _)) ?_
 have ne:s.heap.objs.size≠s.heap.objs.size+1:=vC (uQ _)
 refine⟨by rw[Zk ne,Z9],zL _,ne,e2,λ_=>none,(Heap.Ns1.of_empty e3).at λo q=>wJ _ q,λ_=>uP,λy hy=>absurd rfl hy⟩
theorem Lp{prog:Program}{w:World}{env:Env}{e:Expr}{f:Str}{pos:Pos}{s:Shared}{Q:Value->Shared->Prop}(hb:attributeBase e f env (eval e env)=eval e env) 
  (h:wpAny (model prog w) A (eval e env) (λo s₁=>wpAny (model prog w) A (getAttr o f true) Q E s₁) E s):wpAny (model prog w) A (eval (.Attribute e f pos) env) Q E s:=
 Attribute_any_ h (by rw[arm_eval_Attribute,hb])
end
def A4(K:Frag)(ta:TE)(f:Str):TE:=λσ H Q=>ta σ H λx H1=>∃a C dx fs v,x=.ref a/\H1 a=some (.ins C dx fs)/\Me K C/\Vx K C f/\fs.lookup f=some v/\Q v H1
def Av(K:Frag)(ta tv:TE)(f:Str):TS:=λD σ H=>tv σ H λy H1=>ta σ H1 λx H2=>∃a C dx fs,x=.ref a/\H2 a=some (.ins C dx fs)/\Me K C/\Vx K C f/\fs.length<1000 /\
 D.nx σ (upd H2 a (.ins C dx (Vn f y fs)))
section
variable {X:Cx}{o e value:Expr}{f:Str}{pos pos' tpos:Pos}{ta tv:TE}
theorem BE(he:PE X e ta)(hb:attributeBase e f X.env (eval e X.env)=eval e X.env):PE X (.Attribute e f pos) (A4 X.K ta f):=by
 intro pins s σ H Q I h
 refine Lp hb (YB (he pins s σ H _ I h) λu s1 ⟨x,H1,I1,rx,a,C,dx,fs,v,ex,ea,c,n,l,q⟩=>?_)
 subst ex
 obtain rfl:u=Value.ref a:=rx
 exact M6 I1 ea c n l λu' s2 I2 ru=>⟨v,H1,I2,ru,q⟩
theorem BX(ha:PE X o ta)(hv:PE X value tv)(hs:swapsWith value (some (.Attribute o f pos')) pos.line X.env=pure false):PS X (.Assign [.Attribute o f pos'] value pos) (Av X.K ta tv f):=by
 intro pins s σ H D I h
 refine plainObj_wpAny_Assign_Attribute (YB (hv pins s σ H _ I h) λu s1 ⟨y,H1,I1,ry,q⟩=>YB (ha pins s1 σ H1 _ I1 q) λov s2 ⟨x,H2,I2,rx,a,C,dx,fs,ex,ea,c,n,l,q2⟩=>?_) hs
 subst ex
 obtain rfl:ov=Value.ref a:=rx
 exact MZ I2 ea c n l ry λs3 I3=>⟨σ,_,I3,q2⟩
end
section
variable {X:Cx}{pins:List (Addr×Obj)}{σ:St}{H:Hp}{s:Shared}{A:Around}{E:Value->Shared->Prop}{Q:Value->Shared->Prop}{c:Value}{b:Bool}
inductive TyOf(K:Frag)(H:Hp):V->Value->Prop where
 | non:TyOf K H .non (.type "NoneType")
 | bl (x:Bool):TyOf K H (.bl x) (.type "bool")
 | int (i:Int):TyOf K H (.int i) (.type "int")
 | str (x:Str):TyOf K H (.str x) (.type "str")
 | flt (x:UInt64):TyOf K H (.flt x) (.type "float")
 | lst {a:Addr}{xs:List V} (e:H a=some (.lst xs)):TyOf K H (.ref a) (.type "list")
 | frz {a:Addr}{o:Obj}{xs:List V} (e:H a=some (.frz o (.lst xs))):TyOf K H (.ref a) (.type "list")
 | tup {a:Addr}{xs:List V} (e:H a=some (.tup xs)):TyOf K H (.ref a) (.type "tuple")
 | dK {a:Addr}{kvs:List (Xd×V)} (e:H a=some (.dK kvs)):TyOf K H (.ref a) (.type "dict")
 | dT {a:Addr}{kvs:List (List Xd×V)} (e:H a=some (.dT kvs)):TyOf K H (.ref a) (.type "dict")
 | ins {a C dx:Addr}{fs:List (Str×V)} (e:H a=some (.ins C dx fs)) (cl:Me K C) (ha:PySem.W.findIn K (.ref C) "__class__" = some (some (.builtin "object.__class__")))
   (hn:PySem.W.specialIn K (.builtin "object.__class__") "__get__" = some (some (.builtin "getset_descriptor.__get__"))) (htk:PySem.W.takesIn K (.builtin "object.__class__")=some true)
   (hm:PySem.W.mroIn K C (.type "object")=some true):TyOf K H (.ref a) (.ref C)
theorem QX{x:V}{u t:Value}(I:Zu X pins σ H s)(rx:ZI x u)(ty:TyOf X.K H x t)(e:PySem.W.kitOne X.K t c=some b)(h:∀tk,Q (.bool b) { s with toks:=tk }):
  wpAny (model X.prog X.w) A (call (.builtin "isinstance") [u,c]) Q E s:=by
 cases ty with
 | non=>cases (show u=Value.none from rx);exact uR PySem.W.kitx_none I.kIn uP e (λz=>nomatch z) h
 | bl y=>cases (show u=Value.bool y from rx);exact uR PySem.W.kitx_bool I.kIn uP e (λz=>nomatch z) h
 | int i=>obtain⟨t,q⟩:=(show ∃t,u=Value.int i t from rx);cases q;exact uR PySem.W.kitx_int I.kIn uP e (λz=>nomatch z) h
 | str y=>obtain⟨t,q⟩:=(show ∃t,u=Value.str y t from rx);cases q;exact uR PySem.W.kitx_str I.kIn uP e (λz=>nomatch z) h
 | flt y=>obtain⟨t,q⟩:=(show ∃t,u=Value.float y t from rx);cases q;exact uR PySem.W.kitx_float I.kIn uP e (λz=>nomatch z) h
 | @lst a xs ea=>
  cases (show u=Value.ref a from rx)
  obtain⟨_,_,n,_,h1⟩:=(show YV X.prog X.w H s.heap a (.lst xs) from I.hok a _ ea)
  exact uR PySem.W.kitx_list I.kIn ⟨_,h1,rfl⟩ e (λz=>nomatch z) h
 | @frz a ob xs ea=>
  cases (show u=Value.ref a from rx)
  obtain⟨_,_,_,n,_,h1⟩:=(show YV X.prog X.w H s.heap a (.frz ob (.lst xs)) from I.hok a _ ea)
  exact uR PySem.W.kitx_list I.kIn ⟨_,h1,rfl⟩ e (λz=>nomatch z) h
 | @tup a xs ea=>
  cases (show u=Value.ref a from rx)
  obtain⟨_,_,_,p⟩:=(show YV X.prog X.w H s.heap a (.tup xs) from I.hok a _ ea)
  obtain⟨o,h1,h2,_⟩:=p
  exact uR kitx_tuple I.kIn ⟨o,h1,h2⟩ e (λz=>nomatch z) h
 | @dK a kvs ea=>
  cases (show u=Value.ref a from rx)
  obtain⟨_,_,vs,_,p⟩:=(show YV X.prog X.w H s.heap a (.dK kvs) from I.hok a _ ea)
  obtain⟨o,es,ep,h1,h2,_⟩:=p
  exact uR PySem.W.kitx_dict I.kIn ⟨o,h1,h2.1⟩ e (λz=>nomatch z) h
 | @dT a kvs ea=>
  cases (show u=Value.ref a from rx)
  obtain⟨_,_,xs,_,o,es,ep,h1,h2,_⟩:=(show YV X.prog X.w H s.heap a (.dT kvs) from I.hok a _ ea)
  exact uR PySem.W.kitx_dict I.kIn ⟨o,h1,h2.1⟩ e (λz=>nomatch z) h
 | @ins a C dx fs ea cl ha hn htk hm=>
  cases (show u=Value.ref a from rx)
  obtain⟨mA,O,_⟩:=YU I.hok ea
  obtain⟨od,J,_⟩:=O.look
  exact uR (PySem.W.kitx_own (cl.get _) cl.hd ha hn htk hm) I.kIn J e (λz=>nomatch z) h
end
structure ZZ(k:Nat)(A:Around):Prop where
 hd:A.handled=none
 dp:A.depth+3*k+5<recursionLimit
 un:A.units+16*k+200<cLine
 gd:A.guards=some []
theorem ZZ.mono{j k:Nat}{A:Around}(r:ZZ k A)(h:j≤k):ZZ j A:=⟨r.hd,by have:=r.dp;omega,by have:=r.un;omega,r.gd⟩
theorem ZZ.deeper{k:Nat}{A:Around}(r:ZZ (k+1) A)(env:Env):ZZ k (A.deeper env):=
 ⟨r.hd,by have:=r.dp;show A.depth+1+3*k+5<_;omega,by have:=r.un;show A.units+3+16*k+200<_;omega,r.gd⟩
theorem ZZ.in1{k:Nat}{A:Around}(r:ZZ (k+1) A):ZZ k A.in1:=
 ⟨r.hd,by have:=r.dp;show A.depth+3*k+5<_;omega,by have:=r.un;show A.units+1+16*k+200<_;omega,r.gd⟩
theorem MG{A:Around}{C:Addr}{us:List Value}{kw:List (Str×Value)}:(A.under (.builtin "type.__call__" ⟨.ref C::us,kw⟩)).depth=A.depth+1:=by
 first|rfl|simp[Around.under,Code.weight,Code.isCreation,Code.isGuard,Code.isCaller,Code.frames,Code.isFrame,guardIds]
theorem MH{A:Around}{C:Addr}{us:List Value}{kw:List (Str×Value)}:(A.under (.builtin "type.__call__" ⟨.ref C::us,kw⟩)).units=A.units+1:=by
 first|rfl|simp[Around.under,Code.cUnits,Code.frames,Code.isFrame]
theorem ZZ.make{k:Nat}{A:Around}(r:ZZ (k+1) A)(C:Addr)(us:List Value)(kw:List (Str×Value)):ZZ k (A.under (.builtin "type.__call__" ⟨.ref C::us,kw⟩)):=
 ⟨r.hd,by have:=r.dp;rw[MG];omega,by have:=r.un;rw[MH];omega,by have:=r.gd;simp[Around.under,this,pushGuards,Code.guards,Code.isGuard,guardIds]⟩
theorem ZZ.depth{k:Nat}{A:Around}(r:ZZ k A):A.depth<recursionLimit:=by have:=r.dp;omega
theorem ZZ.units{k:Nat}{A:Around}(r:ZZ k A):A.units+64<cLine:=by have:=r.un;omega
theorem ZZ.units0{k:Nat}{A:Around}(r:ZZ k A):A.units<cLine:=by have:=r.un;omega
def Fq:TA:=λ_ H Q=>Q [] H
def Kx(ta:TE)(tr:TA):TA:=λσ H Q=>ta σ H λx H1=>tr σ H1 λxs H2=>Q (x::xs) H2
section
variable {X:Cx}{e:Expr}{es:List Expr}{te:TE}{t:TA}{pos:Pos}
theorem Gf:PA X [] Fq:=λ_ _ _ _ H Q I h=>Calls.spliced_nil ⟨[],H,I,.nil,h⟩
theorem P_(ha:PE X e te)(hr:PA X es t)(hs:starEach (e::es) X.env=(false,eval e X.env)::starEach es X.env:=by rfl):PA X (e::es) (Kx te t):=by
 intro pos pins s σ H Q I h
 rw[hs]
 show wpAny _ _ (spliced ((false,eval e X.env)::backTo pos (starEach es X.env))) _ _ s
 refine uS (YB (ha pins s σ H _ I h) λu s1 ⟨x,H1,I1,r1,q1⟩=>?_)
 exact YB (hr pos pins s1 σ H1 _ I1 q1) λus s2 ⟨xs,H2,I2,r2,q2⟩=>⟨x::xs,H2,I2,.cons r1 r2,q2⟩
def Dt(t:TA):TE:=λσ H Q=>t σ H λxs H1=>xs.length≤sizeLine/\∀p,H1 p=none->Q (.ref p) (upd H1 p (.tup xs))
def Dq(t:TA):TE:=λσ H Q=>t σ H λxs H1=>xs.length≤sizeLine/\∀p,H1 p=none->Q (.ref p) (upd H1 p (.lst xs))
theorem BK{x1}(h:PA X es t):PE X (.Tuple es x1 pos) (Dt t):=by
 intro pins s σ H Q I hq
 refine wpAny_Tuple_spliced (YB (h pos pins s σ H _ I hq) λus s1 ⟨xs,H1,I1,r,z,q⟩=>⟨by rw[<- r.length];exact z,?_⟩)
 have hf:H1 s1.heap.objs.size=none:=I1.hok.fresh (zK _)
 refine⟨.ref s1.heap.objs.size,upd H1 s1.heap.objs.size (.tup xs),I1.laid (t':=s1.toks) (λb u e=>wJ _ e) (zK _) ?_,rfl,q _ hf⟩
 exact⟨z,us,r,⟨_,wK _ rfl,rfl,_,rfl,rfl⟩⟩
theorem BG(h:PA X es t):PE X (.List es pos) (Dq t):=by
 intro pins s σ H Q I hq
 refine wpAny_List_spliced (YB (h pos pins s σ H _ I hq) λus s1 ⟨xs,H1,I1,r,z,q⟩=>⟨by rw[<- r.length];exact z,?_⟩)
 have hf:H1 s1.heap.objs.size=none:=I1.hok.fresh (zK _)
 refine⟨.ref s1.heap.objs.size,upd H1 s1.heap.objs.size (.lst xs),I1.laid (t':=s1.toks) (λb u e=>wJ _ e) (zK _) ?_,rfl,q _ hf⟩
 exact⟨z,us,0,r,wK _ rfl⟩
end
abbrev Sp:=List V->Hp->VK->XK->Prop
abbrev Md:=List Env->Hp->Shared->XK->Value->Shared->Prop
structure VI(P:Program)(w:World)(K:Frag)(mg:Str->Option Value)(base:Heap)(A:Around)(outer:List Env)(s:Shared)(H:Hp):Prop where
 frames:A.frames=some outer
 mod:Mod K mg base
 bs:∀b o,base.get? b=some o->s.heap.get? b=some o/\H b=none
 bsz:base.objs.size≤s.heap.objs.size
 funs:s.heap.FunFrames base outer
 frf:∀b∈LB outer,H b=none
 hok:U5 P w H s.heap
 bare:AllBare s.gens
def CE(outer:List Env)(P:Program)(w:World)(H:Hp)(s:Shared)(Q:VK)(u:Value)(s':Shared):Prop:=
 ∃v H',s'.os=s.os/\AllBare s'.gens/\Un (LB outer) [] H H' s.heap s'.heap/\U5 P w H' s'.heap/\ZI v u/\Q v H'
def CR(CX:Md)(outer:List Env)(P:Program)(w:World)(H:Hp)(s:Shared)(Q:VK)(E:XK)(r:Result)(s':Shared):Prop:=
 match r with
 | .ok (.ret u)=>CE outer P w H s Q u s'
 | .ok _=>False
 | .error e=>CX outer H s E e s'
structure Xc(P:Program)(w:World)(K:Frag)(mg:Str->Option Value)(base:Heap)(CX:Md)(k:Nat)(f:Addr)(fd:FuncData)(ps:List Str)(sp:Sp):Prop where
 len:∀vs H Q E,sp vs H Q E->vs.length=ps.length
 run:∀(A:Around) (outer:List Env) (s:Shared) (H:Hp) (args:Args) (us:List Value) (vs:List V) (Q:VK) (E:XK),ZZ k A->VI P w K mg base A outer s H->BindsTo s fd args (ps.zip us)->ZH vs us->sp vs H Q E ->
  codeAny (model P w) A (.call (.ref f) args) (CR CX outer P w H s Q E) s
theorem Xc.mono{P:Program}{w:World}{K:Frag}{mg:Str->Option Value}{base:Heap}{CX:Md}{j k:Nat}{f:Addr}{fd:FuncData}{ps:List Str}{sp:Sp}(F:Xc P w K mg base CX j f fd ps sp)(h:j≤k):
  Xc P w K mg base CX k f fd ps sp:=⟨F.len,λA outer s H args us vs Q E hr=>F.run A outer s H args us vs Q E (hr.mono h)⟩
theorem Xc.imp{P:Program}{w:World}{K:Frag}{mg:Str->Option Value}{base:Heap}{CX:Md}{k:Nat}{f:Addr}{fd:FuncData}{ps:List Str}{sp sp':Sp}(F:Xc P w K mg base CX k f fd ps sp) 
  (h:∀vs H Q E,sp' vs H Q E->sp vs H Q E):Xc P w K mg base CX k f fd ps sp':=
 ⟨λvs H Q E q=>F.len vs H Q E (h _ _ _ _ q),λA outer s H args us vs Q E hr he hb hv hs=>F.run A outer s H args us vs Q E hr he hb hv (h _ _ _ _ hs)⟩
theorem VI.make{P:Program}{w:World}{K:Frag}{mg:Str->Option Value}{base:Heap}{A:Around}{outer:List Env}{s:Shared}{H:Hp}(e:VI P w K mg base A outer s H)(C:Addr)(us:List Value)(kw:List (Str×Value)):
  VI P w K mg base (A.under (.builtin "type.__call__" ⟨.ref C::us,kw⟩)) outer s H:=⟨by first|exact e.frames|(simpa[Around.under,Code.envs,Code.isFrame,pushEnvs]using e.frames),e.mod,e.bs,e.bsz,e.funs,e.frf,e.hok,e.bare⟩
theorem VI.in1{P:Program}{w:World}{K:Frag}{mg:Str->Option Value}{base:Heap}{A:Around}{outer:List Env}{s:Shared}{H:Hp}(e:VI P w K mg base A outer s H):
  VI P w K mg base A.in1 outer s H:=⟨e.frames,e.mod,e.bs,e.bsz,e.funs,e.frf,e.hok,e.bare⟩
section
variable {X:Cx}{pins:List (Addr×Obj)}{σ:St}{H:Hp}{s s':Shared}
theorem Zu.env0(I:Zu X pins σ H s):VI X.prog X.w X.K X.mg X.base X.A X.stack s H:=
 ⟨I.ok.frames,I.ok.mod,I.bs,zF I.ok.bsz I.sz,I.stack,I.stkFree,I.hok,I.bare⟩
theorem Zu.after{Q:VK}{u:Value}(I:Zu X pins σ H s)(h:CE X.stack X.prog X.w H s Q u s'):EP X pins σ Q u s':=by
 obtain⟨v,H',os,bare,un,hok,r,q⟩:=h
 obtain⟨hh,g,d,t,os'⟩:=s'
 obtain rfl:os'=s.os:=os
 exact⟨v,H',I.call (h':=hh) (g':=g) (d':=d) (t':=t) (ch:=[]) un hok bare (λb z=>absurd z (by simp)),r,q⟩
end
def Kw(sp:Sp)(dvs:List V)(E:XK)(t:TA):TE:=λσ H Q=>t σ H λvs H1=>sp (vs++dvs) H1 Q E
def Fo(C:Addr)(m:Str)(sp:Sp)(dvs:List V)(E:XK)(ta:TE)(t:TA):TE:=λσ H Q=>ta σ H λx H1=>∃a dx fs,x=.ref a/\H1 a=some (.ins C dx fs)/\fs.lookup m=none /\
 t σ H1 λvs H2=>sp (x::(vs++dvs)) H2 Q E
def Fm(C:Addr)(sp:Sp)(dvs:List V)(E:XK)(t:TA):TE:=λσ H Q=>t σ H λvs H1=>∀x dx,H1 x=none->H1 dx=none->dx≠x ->
 sp (.ref x::(vs++dvs)) (upd (upd H1 dx (.own x)) x (.ins C dx [])) (λv H2=>v=.non/\Q (.ref x) H2) E
def XE(K:Frag)(fd:FuncData)(ps:List Str)(ds:List Value):Prop:=
 ∀(s:Shared) (us:List Value),K.In s.heap->(us++ds).length=ps.length->BindsTo s fd ⟨us,[]⟩ (ps.zip (us++ds))
theorem XE.all{K:Frag}{fd:FuncData}{ps:List Str}(h:∀us:List Value,us.length=ps.length->bindArgs fd ⟨us,[]⟩=pure (ps.zip us)):XE K fd ps []:=λs us _ hl=>by
 rw[uT]at hl |-
 exact .of_eq (h us hl)
def T8(CX:Md)(X:Cx)(E:XK):Prop:=∀(pins:List (Addr×Obj)) (σ:St) (H:Hp) (s:Shared) (e:Value) (s':Shared),Zu X pins σ H s->CX X.stack H s E e s'->X.xe e s'
section
variable {X:Cx}{CX:Md}{k:Nat}{f C:Addr}{fd:FuncData}{ps:List Str}{sp:Sp}{dvs:List V}{ds:List Value}{E:XK}{x m:Str}{p pos apos:Pos}{e o:Expr}{es:List Expr}{ta:TE}{t:TA}
theorem GY{pins:List (Addr×Obj)}{σ:St}{H:Hp}{s:Shared}{Q:VK}{us:List Value}{vs:List V}(F:Xc X.prog X.w X.K X.mg X.base CX k f fd ps sp)(hr:ZZ k X.A)(hb:XE X.K fd ps ds)(hd:ZH dvs ds)(hx:T8 CX X E) 
  (I:Zu X pins σ H s) (r:ZH vs us) (h:sp (vs++dvs) H Q E):wpAny (model X.prog X.w) X.A (call (.ref f) us) (EP X pins σ Q) X.xe s:=by
 have r2:ZH (vs++dvs) (us++ds):=r.append hd
 have hl:(us++ds).length=ps.length:=by rw[<- r2.length];exact F.len _ _ _ _ h
 refine uU (uV (F.run X.A X.stack s H ⟨us,[]⟩ (us++ds) (vs++dvs) Q E hr I.env0 (hb s us I.kIn hl) r2 h) λr s' hq=>?_)
 cases r with
 | error e=>exact hx pins σ H s e s' I hq
 | ok fl=>
  cases fl with
  | ret u=>exact I.after hq
  | next=>exact False.elim hq
  | brk=>exact False.elim hq
  | cont=>exact False.elim hq
theorem E6(F:Xc X.prog X.w X.K X.mg X.base CX k f fd ps sp)(hr:ZZ k X.A)(hg:Gl X x)(hm:X.mg x=some (.ref f))(hk:PySem.W.keepIn X.K (.ref f)=true)(hb:XE X.K fd ps ds)(hd:ZH dvs ds)(hx:T8 CX X E) 
  (ha:PA X (e::es) t) (hdb:(x == ("__debug__" : Str))=false:=by decide) (he:starEach (e::es) X.env=(false,eval e X.env)::starEach es X.env:=by rfl) (hpl:(backTo pos (starEach es X.env)).any (·.1)=false:=by rfl) :
  PE X (.Call (.Name x p) (e::es) [] pos) (Kw sp dvs E t):=by
 intro pins s σ H Q I h
 refine uW (Uq I hg hm ?_ hdb)
 refine uX (h₀:=X.base) I.ok.mod.kin hk (YB (ha pos pins s σ H _ I h) λus s1 ⟨vs,H1,I1,r,q⟩=>⟨I1.kIn,?_⟩) he hpl
 exact GY F hr hb hd hx I1 r q
theorem Gp{pl:Sem Bool}(he:PE X o ta)(c:Me X.K C)(hm:Vw X.K C m f)(F:Xc X.prog X.w X.K X.mg X.base CX k f fd ps sp)(hr:ZZ k X.A)(hb:XE X.K fd ps ds)(hd:ZH dvs ds)(hx:T8 CX X E) 
  (ht:eval (.Call (.Attribute o m apos) [] [] pos) X.env=(do
   let ov <- eval o X.env
   standAt apos.atName
   let (f,first) <- holding [ov] (getMethod ov m pl)
   callWith pos f first (backTo pos (starEach [] X.env)) (backToKw pos (keywordEach [] X.env))):=by rfl) :
  PE X (.Call (.Attribute o m apos) [] [] pos) (Fo C m sp dvs E ta Fq):=by
 intro pins s σ H Q I h
 refine methodCall_KW (pl:=pl) (YB (he pins s σ H _ I h) λu s1 ⟨x,H1,I1,rx,a,dx,fs,ex,ea,l,q⟩=>?_) ht
 subst ex
 obtain rfl:u=Value.ref a:=rx
 refine R9 I1 ea c hm l ?_
 exact PySem.W.callWith_K0 (first:=[.ref a]) I1.kIn hm.kp (GY (us:=[.ref a]) (vs:=[.ref a]) F hr hb hd hx I1 (.cons rfl .nil) q)
structure Mk(K:Frag)(C f:Addr):Prop where
 makes:PySem.W.makesIn K C=true
 init:PySem.W.findIn K (.ref C) "__init__" = some (some (.ref f))
 fn:PySem.W.isFn K (.ref f)=true
 kp:PySem.W.keepIn K (.ref C)=true
theorem G_{pins:List (Addr×Obj)}{σ:St}{H:Hp}{s:Shared}{Q:VK}{us:List Value}{vs:List V}(M:Mk X.K C f)(F:Xc X.prog X.w X.K X.mg X.base CX k f fd ps sp)(hr:ZZ (k+1) X.A)(hb:XE X.K fd ps ds)(hd:ZH dvs ds) 
  (hx:T8 CX X E) (I:Zu X pins σ H s) (r:ZH vs us)
  (h:∀x dx,H x=none->H dx=none->dx≠x->sp (.ref x::(vs++dvs)) (upd (upd H dx (.own x)) x (.ins C dx [])) (λv H2=>v=.non/\Q (.ref x) H2) E) :
  wpAny (model X.prog X.w) X.A (call (.ref C) us) (EP X pins σ Q) X.xe s:=by
 have hq:=h (s.heap.objs.size+1) s.heap.objs.size (I.hok.fresh (wO _)) (I.hok.fresh (zK _)) (vC (uQ _))
 have I2:=Zu.made (C:=C) I
 have r2:ZH (V.ref (s.heap.objs.size+1)::(vs++dvs)) (Value.ref (s.heap.objs.size+1)::(us++ds)):=.cons rfl (r.append hd)
 have hl:(Value.ref (s.heap.objs.size+1)::us++ds).length=ps.length:=by
  have e:=r2.length
  rw[F.len _ _ _ _ hq]at e
  exact e.symm
 refine uU (HP (f:=f) I.kIn M.makes M.init (uL.mp M.fn) (uV (F.run _ X.stack _ _ ⟨Value.ref (s.heap.objs.size+1)::us,[]⟩ (Value.ref (s.heap.objs.size+1)::(us++ds)) _ _ E (hr.make C us [])
  (I2.env0.make C us []) (hb _ (Value.ref (s.heap.objs.size+1)::us) I2.kIn hl) r2 hq) λr s' hq'=>?_))
 cases r with
 | error e=>exact hx pins σ _ _ e s' I2 hq'
 | ok fl=>
  cases fl with
  | ret u=>
   obtain⟨v,H',I3,rv,ev,q3⟩:=I2.after hq'
   subst ev
   exact⟨rv,⟨V.ref (s.heap.objs.size+1),H',I3,rfl,q3⟩⟩
  | next=>exact False.elim hq'
  | brk=>exact False.elim hq'
  | cont=>exact False.elim hq'
theorem ED(M:Mk X.K C f)(F:Xc X.prog X.w X.K X.mg X.base CX k f fd ps sp)(hr:ZZ (k+1) X.A)(hg:Gl X x)(hm:X.mg x=some (.ref C))(hb:XE X.K fd ps ds)(hd:ZH dvs ds)(hx:T8 CX X E) 
  (ha:PA X (e::es) t) (hdb:(x == ("__debug__" : Str))=false:=by decide) (he:starEach (e::es) X.env=(false,eval e X.env)::starEach es X.env:=by rfl) (hpl:(backTo pos (starEach es X.env)).any (·.1)=false:=by rfl) :
  PE X (.Call (.Name x p) (e::es) [] pos) (Fm C sp dvs E t):=by
 intro pins s σ H Q I h
 refine uW (Uq I hg hm ?_ hdb)
 refine uX (h₀:=X.base) I.ok.mod.kin M.kp (YB (ha pos pins s σ H _ I h) λus s1 ⟨vs,H1,I1,r,q⟩=>⟨I1.kIn,?_⟩) he hpl
 exact G_ M F hr hb hd hx I1 r q
end
def PK(X:Cx)(kws:List Keyword)(t:TA):Prop:=
 ∀(pos:Pos) (pins:List (Addr×Obj)) (s:Shared) (σ:St) (H:Hp) (Q:List V->Hp->Prop),Zu X pins σ H s->t σ H Q->wpAny (model X.prog X.w) X.A (evalAll ((backToKw pos (keywordEach kws X.env)).map (·.2))) (AP X pins σ Q) X.xe s
section
variable {X:Cx}{CX:Md}{k:Nat}{f C:Addr}{fd:FuncData}{ps ks:List Str}{sp:Sp}{E:XK}{x m:Str}{p pos apos kpos:Pos}{e o:Expr}{es:List Expr}{kws:List Keyword}{te ta:TE}{t tk:TA}{nm:Option Str}
structure Mh(K:Frag)(fd:FuncData)(ps ks:List Str)(g:List Value->List Value->List Value)(gV:List V->List V->List V):Prop where
 to:∀(s:Shared) (us ws:List Value),K.In s.heap->(g us ws).length=ps.length->BindsTo s fd ⟨us,ks.zip ws⟩ (ps.zip (g us ws))
 rel:∀{vs:List V}{us:List Value}{zs:List V}{ws:List Value},ZH vs us->ZH zs ws->ZH (gV vs zs) (g us ws)
variable {g:List Value->List Value->List Value}{gV:List V->List V->List V}
end
structure Zv(N P:List Str)(sc:Scope):Prop where
 kind:sc.kind=.function
 co:sc.isCoroutine=false
 gen:sc.isGenerator=false
 nd:N.Nodup
 pre:N.take P.length=P
 par:∀x∈P,sc.names.lookup x=some .local \/ sc.names.lookup x=some .cell
 nofree:∀y∈sc.names,y.2≠.free
theorem QL{kindOf:Str->Option NameKind}{x:Str}:∀{binds:List (Str×Value)}{m:Str->Option Value},(∀v,(x,v) ∉ binds)->bindL kindOf binds m x=m x
 | [],_,_=>rfl
 | (n,v)::r,m,h=>by
  unfold bindL
  rw[QL λw hw=>h w (vN _ hw)]
  split
  ·have:x≠n:=by rintro rfl;exact h v vM
   simp[this]
  ·rfl
theorem QJ{kindOf:Str->Option NameKind}{x:Str}:∀{binds:List (Str×Value)}{m:Str->Option Value},(∀v,(x,v) ∉ binds)->bindC kindOf binds m x=m x
 | [],_,_=>rfl
 | (n,v)::r,m,h=>by
  unfold bindC
  rw[QJ λw hw=>h w (vN _ hw)]
  split
  ·rfl
  ·have:x≠n:=by rintro rfl;exact h v vM
   simp[this]
theorem QK{kindOf:Str->Option NameKind}{x:Str}{v:Value}:∀{P:List Str}{vs:List Value}{i:Nat}{m:Str->Option Value},P.Nodup->P[i]? = some x->vs[i]? = some v->kindOf x=some .local ->
  bindL kindOf (P.zip vs) m x=some v
 | [],_,_,_,_,h,_,_=>by simp at h
 | _::_,[],_,_,_,_,h,_=>by simp at h
 | p::P,w::vs,0,m,nd,h1,h2,hk=>by
  simp at h1 h2;subst h1;subst h2
  show bindL kindOf ((p,w)::P.zip vs) m p=_
  unfold bindL
  rw[QL λv hv=>(uY.mp nd).1 (uZ hv).1,zU hk]
  simp
 | p::P,w::vs,i+1,m,nd,h1,h2,hk=>by
  show bindL kindOf ((p,w)::P.zip vs) m x=_
  unfold bindL
  exact QK (i:=i) (uY.mp nd).2 (by simpa using h1) (by simpa using h2) hk
theorem QI{kindOf:Str->Option NameKind}{x:Str}{v:Value}:∀{P:List Str}{vs:List Value}{i:Nat}{m:Str->Option Value},P.Nodup->P[i]? = some x->vs[i]? = some v->kindOf x≠some .local ->
  bindC kindOf (P.zip vs) m x=some v
 | [],_,_,_,_,h,_,_=>by simp at h
 | _::_,[],_,_,_,_,h,_=>by simp at h
 | p::P,w::vs,0,m,nd,h1,h2,hk=>by
  simp at h1 h2;subst h1;subst h2
  show bindC kindOf ((p,w)::P.zip vs) m p=_
  unfold bindC
  rw[QJ λv hv=>(uY.mp nd).1 (uZ hv).1,wT hk]
  simp
 | p::P,w::vs,i+1,m,nd,h1,h2,hk=>by
  show bindC kindOf ((p,w)::P.zip vs) m x=_
  unfold bindC
  exact QI (i:=i) (uY.mp nd).2 (by simpa using h1) (by simpa using h2) hk
def YG(N:List Str)(vs:List V):St:=vs.map some++List.replicate (N.length-vs.length) none
def Xw(CX:Md)(P:Program)(w:World)(K:Frag)(mg:Str->Option Value)(base:Heap)(N:List Str)(qual:Str)(scope:Scope)(f:Addr)(cd:Value)(A:Around)(outer:List Env)(s:Shared)(H:Hp)(E:XK):Cx where
 prog:=P
 w:=w
 K:=K
 mg:=mg
 base:=base
 A:=A.deeper (envOfC qual scope s.heap.objs.size f cd)
 N:=N
 s₀:=s
 H₀:=H
 env:=envOfC qual scope s.heap.objs.size f cd
 outer:=outer
 stack:=envOfC qual scope s.heap.objs.size f cd::outer
 ex:=[]
 calm:=true
 cold:=true
 fn:=λ_=>true
 pn:=[]
 xe:=λe s'=>wpAny (model P w) (A.deeper (envOfC qual scope s.heap.objs.size f cd)) (leaving (envOfC qual scope s.heap.objs.size f cd) e) (λ_ s''=>CX outer H s E e s'') (λe' s''=>CX outer H s E e' s'') s'
theorem OC{sc:Scope}{n:Nat}{x:Str}(h:sc.names.lookup x=some .cell):∃c,(cellsFrom n sc.names []).lookup x=some c:=by
 have q:=yA sc.names n [] (.inl h)
 exact yB.mp q
theorem QW{CX:Md}{P:Program}{w:World}{K:Frag}{mg:Str->Option Value}{base:Heap}{N ps:List Str}{qual:Str}{scope:Scope}{f:Addr}{cd:Value}{A:Around}{outer:List Env}{s s1:Shared}{H:Hp}{E:XK}{us:List Value}{vs:List V} 
  (S:Zv N ps scope) (hd:A.handled=none) (e0:VI P w K mg base A outer s H) (hl:vs.length=ps.length) (r:ZH vs us)
  (x:InCallC s s.heap.objs.size (bindL (envOfC qual scope s.heap.objs.size f cd).kindOf (ps.zip us) λ_=>none) (cellsFrom (s.heap.objs.size+1) scope.names []) (bindC (envOfC qual scope s.heap.objs.size f cd).kindOf (ps.zip us) λ_=>none) s1) :
  Zu (Xw CX P w K mg base N qual scope f cd A outer s H E) [] (YG N vs) H s1:=by
 have hpl:ps.length≤N.length:=by have:=zR List.length S.pre;rw[yC]at this;omega
 obtain⟨h1,tk,rfl,hk⟩:=x.done
 have noA:∀b:Addr,b ∉ (Xw CX P w K mg base N qual scope f cd A outer s H E).ex:=λb z=>absurd (show b∈([]:List Addr) from z) (by simp)
 refine⟨⟨e0.mod,S.kind,rfl,rfl,zK _,λy z c h1 h2=>?_,λy hy=>?_,λy c _ h=>?_,λ_=>.inl hd,λ_=>hd,Around.frames_deeper e0.frames,.inr ⟨rfl,rfl⟩,λb z=>absurd z (noA b),e0.bs,e0.bsz,λb _ _=>noA b,λb z=>absurd z (noA b),e0.funs,e0.frf⟩,
  rfl,e0.bare,Un.kept hk,⟨_,x.toInCall.ns,λi y v h1 h2 h3=>?_⟩,λy c h=>⟨_,x.cell y c h⟩,e0.hok.fresh (zK _),λy c h=>?_,λp hp=>absurd (show p∈([]:List (Addr×Obj)) from hp) (by simp),e0.hok.kept hk,?_⟩
 ·exact name_of_addr x.apart (yD h1) (yD h2)
 ·have hy:scope.names.lookup y=some .cell\/scope.names.lookup y=some .free:=hy
  rcases hy with hy|hy
  ·exact OC hy
  ·exact absurd rfl (S.nofree _ (yD hy))
 ·exact le_of_lt (x.above y c (yD h))
 ·have hi:i<vs.length:=by
   unfold YG at h2
   by_cases hi:i<vs.length
   ·exact hi
   ·rw[List.getElem?_append_right (by simpa using hi)]at h2
    rw[List.getElem?_replicate]at h2
    split at h2<;>cases h2
  have ha:vs[i]? = some v:=by
   unfold YG at h2
   rw[yE (by simpa using hi),yF]at h2
   cases e:vs[i]? with
   | none=>rw[e]at h2;cases h2
   | some a=>rw[e]at h2;cases h2;rfl
  obtain⟨u,hu,rv⟩:=r.get ha
  have hp:ps[i]? = some y:=by
   rw[<- S.pre,List.getElem?_take_of_lt (by omega)];exact h1
  have ndP:ps.Nodup:=by rw[<- S.pre];exact S.nd.sublist (List.take_sublist _ _)
  refine⟨u,rv,?_⟩
  rcases S.par y (yG hp) with k|k
  ·exact .inl ⟨k,QK ndP hp hu k⟩
  ·obtain⟨c,e⟩:=OC (n:=s.heap.objs.size+1) k
   refine .inr ⟨.inl k,c,e,?_⟩
   have q:=x.cell y c e
   rw[QI ndP hp hu (by show scope.names.lookup y≠_;rw[k];decide)]at q
   exact q
 ·exact e0.hok.fresh (le_of_lt (x.above y c (yD h)))
 ·unfold YG
  show _=N.length
  rw[yH,Wb,List.length_replicate]
  omega
theorem QR{CX:Md}{P:Program}{w:World}{K:Frag}{mg:Str->Option Value}{base:Heap}{k:Nat}{f:Addr}{name qual:Str}{params:Arguments}{body:List Stmt}{scope:Scope}{dV kV doc pm cdv ct oc:Value}{an od:Option Addr} 
  {osl:Array (Option Value)}{N ps:List Str}{sp:Sp} (lk:K.lookup f=some ⟨oc,od,.func (PySem.W.fnOf name qual params body scope dV kV doc pm an cdv ct),osl⟩) (hcd:PySem.W.codeIn K cdv qual=true) (S:Zv N ps scope)
  (len:∀vs H Q E,sp vs H Q E->vs.length=ps.length)
  (hbody:∀(A:Around) (outer:List Env) (s:Shared) (H:Hp) (vs:List V) (Q:VK) (E:XK),ZZ k (A.deeper (envOfC qual scope s.heap.objs.size f cdv))->sp vs H Q E ->
   ∃t,U6 (Xw CX P w K mg base N qual scope f cdv A outer s H E) body t/\t { nx:=λ_ H'=>Q .non H',rt:=Q } (YG N vs) H) :
  Xc P w K mg base CX (k+1) f (PySem.W.fnOf name qual params body scope dV kV doc pm an cdv ct) ps sp:=by
 refine⟨len,λA outer s H args us vs Q E hr e0 hb r hsp=>?_⟩
 have hl:=len _ _ _ _ hsp
 have KX:K.In s.heap:=e0.mod.kin.keeps λb o e=>(e0.bs b o e).1
 have lim:s.heap.NoLimit:=e0.mod.nolimit.keeps λb o e=>(e0.bs b o e).1
 have hkind:∀y∈ps.zip us,scope.names.lookup y.1=some .local \/ (scope.names.lookup y.1=some .cell/\((cellsFrom (s.heap.objs.size+1) scope.names []).lookup y.1).isSome=true):=λ⟨n,v⟩ hy=>by
  rcases S.par n (uZ hy).1 with q|q
  ·exact .inl q
  ·exact .inr ⟨q,yA _ _ _ (.inl q)⟩
 refine codeAny_call_function hr.depth (KX _ _ lk) rfl S.co S.gen rfl (PySem.W.codeRec_of KX hcd) (hb _ _ _ _ ?_)
 refine wpAny_newFunctionEnv_cells S.kind hkind λenv he s1 x=>?_
 subst he
 refine⟨lim.keeps x.toInCall.keep,codeAny_func ?_⟩
 obtain⟨t,ht,hq⟩:=hbody A outer s H vs Q E (hr.deeper _) hsp
 have I:Zu (Xw CX P w K mg base N qual scope f cdv A outer s H E) [] (YG N vs) H s1:=QW S hr.hd e0 hl r x
 refine vW (ht [] s1 (YG N vs) H _ I hq) (λfl s' hs=>?_) λe s' hs=>hs
 have fin:∀{σ':St}{H':Hp}{v:V}{u:Value},Zu (Xw CX P w K mg base N qual scope f cdv A outer s H E) [] σ' H' s'->ZI v u->Q v H'->CE outer P w H s Q u s':=
  λ{σ' H' v u} J rv q=>⟨v,H',J.os,J.bare,J.base,J.hok,rv,q⟩
 cases fl with
 | ret u=>
  obtain⟨v,σ',H',J,rv,q⟩:=hs
  exact fin J rv q
 | next=>
  obtain⟨σ',H',J,q⟩:=hs
  exact fin (v:=V.non) (u:=Value.none) J rfl q
 | brk=>
  obtain⟨_,_,_,q⟩:=hs
  exact False.elim q
 | cont=>
  obtain⟨_,_,_,q⟩:=hs
  exact False.elim q
section
variable {X:Cx}{x:Str}{p pos:Pos}{e:Expr}{es:List Expr}{t:TA}{id T:String}{r:List V->Hp->VK->Prop}
def tCB(r:List V->Hp->VK->Prop)(t:TA):TE:=λσ H Q=>t σ H λvs H1=>r vs H1 Q
theorem Gg(hc:Y0 X (.builtin id) r)(hg:Gl X x)(hm:X.mg x=none)(hv:bootBuiltins x=some (.builtin id))(ha:PA X (e::es) t)(hn:x≠"__name__":=by decide)(hdb:(x == ("__debug__" : Str))=false:=by decide) 
  (he:starEach (e::es) X.env=(false,eval e X.env)::starEach es X.env:=by rfl) (hpl:(backTo pos (starEach es X.env)).any (·.1)=false:=by rfl):PE X (.Call (.Name x p) (e::es) [] pos) (tCB r t):=by
 intro pins s σ H Q I h
 refine uW (VV I hg hm hv ?_ hn hdb)
 exact PyProof.Rows.callWith_builtin1 (YB (ha pos pins s σ H _ I h) λus s1 ⟨vs,H1,I1,r1,q1⟩=>hc pins s1 σ H1 vs us Q I1 r1 q1) he hpl
theorem Jo(hc:Y0 X (.type T) r)(hg:Gl X x)(hm:X.mg x=none)(hv:bootBuiltins x=some (.type T))(ha:PA X (e::es) t)(hn:x≠"__name__":=by decide)(hdb:(x == ("__debug__" : Str))=false:=by decide) 
  (he:starEach (e::es) X.env=(false,eval e X.env)::starEach es X.env:=by rfl) (hpl:(backTo pos (starEach es X.env)).any (·.1)=false:=by rfl):PE X (.Call (.Name x p) (e::es) [] pos) (tCB r t):=by
 intro pins s σ H Q I h
 refine uW (VV I hg hm hv ?_ hn hdb)
 exact uG (YB (ha pos pins s σ H _ I h) λus s1 ⟨vs,H1,I1,r1,q1⟩=>hc pins s1 σ H1 vs us Q I1 r1 q1) he hpl
end
end L2
namespace HT
open PySem PyProof.Rows
def N0:List Int->List Int->Bool
 | [],[]=>false
 | [],_::_=>true
 | _::_,[]=>false
 | x::xs,y::ys=>if x=y then N0 xs ys else decide (x<y)
section
open PySem.SeqAt
open PySem.AutoSeq1 (wpAny_loadPart')
open PySem.MeetsSeq PySem.MeetsSeq2 PySem.MeetsSeq3
end
section
variable {prog:Program}{w:World}{A:Around}{E:Value->Shared->Prop}{s:Shared}
def sIx(n d:Nat):Option Int->Nat
 | none=>d
 | some v=>if v<0 then(v+(n:Int)).toNat else min v.toNat n
theorem sIx_none(n d:Nat):sIx n d none=d:=rfl
theorem sIx_nat(n d k:Nat):sIx n d (some (k:Int))=min k n:=by
 show(if(k:Int)<0 then((k:Int)+(n:Int)).toNat else min (k:Int).toNat n)=min k n
 rw[wT (by omega),wX]
theorem Aw(n d:Nat)(hd:d≤n)(o:Option Int):sIx n d o≤n:=by
 cases o with
 | none=>exact hd
 | some v=>
  show(if v<0 then(v+(n:Int)).toNat else min v.toNat n)≤n
  by_cases hv:v<0
  ·rw[zU hv];omega
  ·rw[wT hv];exact Nat.min_le_right _ _
theorem Ls(v:Int)(n d:Nat):(if v<0 then max (v+(n:Int)) 0 else min v (n:Int))=((sIx n d (some v):Nat):Int):=by
 show(if v<0 then max (v+(n:Int)) 0 else min v (n:Int))=(((if v<0 then(v+(n:Int)).toNat else min v.toNat n):Nat):Int)
 by_cases hv:v<0
 ·simp only[zU hv];omega
 ·simp only[wT hv];omega
theorem Mj(lo hi:Option Int)(n:Nat):Builtin.Slice.sliceAdjust lo hi 1 (n:Int)=(((sIx n 0 lo:Nat):Int),((sIx n n hi:Nat):Int)):=by
 have h1:¬((1:Int)<0):=by omega
 unfold Builtin.Slice.sliceAdjust
 simp only[h1,vF]
 refine zT ?_ ?_
 ·cases lo with
  | none=>rfl
  | some v=>exact Ls v n 0
 ·cases hi with
  | none=>rfl
  | some v=>exact Ls v n n
theorem MQ(i j:Nat):Builtin.Slice.slicePlaces (i:Int) (j:Int) 1=j-i:=by
 unfold Builtin.Slice.slicePlaces
 have h1:(1:Int) > 0:=by omega
 simp only[h1,yJ,Int.ediv_one]
 split<;>omega
theorem Qm{v:Value}{o:Option Int}{Q:Option Int->Shared->Prop}(p:IsPart v o)(h:Q o s):wpAny (model prog w) A (Builtin.Slice.slicePartIndex v) Q E s:=by
 cases p with
 | none=>exact slicePart_none h
 | int i t=>exact slicePart_int h
theorem Vu{sl:Addr}{vl vu:Value}{lo hi:Option Int}{n:Nat}{Q:Int×Int×Nat->Shared->Prop}(hs:s.heap.IsSliceOf sl vl vu .none)(pl:IsPart vl lo)(pu:IsPart vu hi) 
  (h:Q (((sIx n 0 lo:Nat):Int),1,sIx n n hi-sIx n 0 lo) s):wpAny (model prog w) A (Builtin.Slice.sliceApplied (.ref sl) (pure (n:Int))) Q E s:=by
 obtain⟨os,hos,hcs,hds⟩:=id hs
 unfold Builtin.Slice.sliceApplied Builtin.Slice.sliceFields
 refine zW (zW (wA hos hds (x:=vl) rfl (zW (wA hos hds (x:=vu) rfl (zW (wA hos hds (x:=.none) rfl (zX ?_)))))))
 refine zW (slicePart_none ?_)
 show wpAny _ _ (if((1:Int) == 0)=true then _ else _) _ _ s
 rw[wT (by decide)]
 refine zW (Qm pl (zW (Qm pu (zW (zX ?_)))))
 show wpAny _ _ (match Builtin.Slice.sliceAdjust lo hi 1 (n:Int) with|(lo,hi)=>pure (lo,(1:Int),Builtin.Slice.slicePlaces lo hi 1)) _ _ s
 rw[Mj lo hi n]
 show wpAny _ _ (pure (((sIx n 0 lo:Nat):Int),(1:Int),Builtin.Slice.slicePlaces ((sIx n 0 lo:Nat):Int) ((sIx n n hi:Nat):Int) 1)) _ _ s
 rw[MQ]
 exact zX h
theorem Gu(xs:Array Value)(i k:Nat):((List.range k).filterMap λ(m:Nat)=>xs[((i:Int)+(m:Int)*1).toNat]?).toArray=((xs.toList.drop i).take k).toArray:=by
 have e:(λ(m:Nat)=>xs[((i:Int)+(m:Int)*1).toNat]?)=λm=>xs[i+m]?:=by
  funext m
  have:((i:Int)+(m:Int)*1).toNat=i+m:=by omega
  rw[this]
 rw[e]
 have:=pick_run xs i k
 rw[List.filterMap_map]at this
 have e2:((λx=>xs[x]?) ∘ λx=>i+x)=λm=>xs[i+m]?:=rfl
 rw[e2]at this
 rw[this]
theorem getItem_tuple_cut{t sl:Addr}{items:Array Value}{vl vu:Value}{lo hi:Option Int}{Q:Value->Shared->Prop}(ht:IsTup s.heap t items)(hs:s.heap.IsSliceOf sl vl vu .none)(pl:IsPart vl lo)(pu:IsPart vu hi) 
  (hw:¬(sIx items.size 0 lo=0/\sIx items.size items.size hi=items.size))
  (h:Q (.ref s.heap.objs.size) { s with heap:=s.heap.push { cls:=.type "tuple",data:=.seq ((items.toList.drop (sIx items.size 0 lo)).take (sIx items.size items.size hi-sIx items.size 0 lo)).toArray } })
  (hsz:items.size≤sizeLine):wpAny (model prog w) A (getItem (.ref t) (.ref sl)) Q E s:=by
 have htake:sizeOk (.seq ((items.toList.drop (sIx items.size 0 lo)).take (sIx items.size items.size hi-sIx items.size 0 lo)).toArray):=by
  show((items.toList.drop (sIx items.size 0 lo)).take (sIx items.size items.size hi-sIx items.size 0 lo)).toArray.size≤sizeLine
  rw[yK,yC,length_drop,vZ]
  omega
 have hj:sIx items.size items.size hi≤items.size:=Aw _ _ (zK _) hi
 obtain⟨os,hos,hcs,hds⟩:=id hs
 have hTs:s.TypeIs (.ref sl) "slice":=⟨os,hos,hcs⟩
 unfold getItem
 try with_reducible refine zY ?_
 first|refine zW (zX ?_)|skip
 refine zW (wpAny_sequenceKey ht.typeIs (by decide) ?_)
 refine zW (wQ (name:=Str.ofString "__getitem__") ht.typeIs yL
  (wS yL ht.typeIs entry_tuple_getitem ?_ (args_tuple_getitem _ _)))
 show wpAny _ _ (Builtin.Tuple.tupleItemsOf (.ref t)>>=_) _ _ s
 refine zW (tupleItemsOf_ ht ?_)
 refine zW (yM hTs ?_)
 rw[zU (by decide)]
 refine zW (Vu hs pl pu ?_)
 have hno:¬((((sIx items.size 0 lo:Nat):Int) == 0&&(1:Int) == 1&&(sIx items.size items.size hi-sIx items.size 0 lo) == items.size)=true):=by
  intro q
  rw[yN,yN]at q
  have q1:((sIx items.size 0 lo:Nat):Int)=0:=eq_of_beq q.1.1
  have q2:sIx items.size items.size hi-sIx items.size 0 lo=items.size:=eq_of_beq q.2
  exact hw ⟨by omega,by omega⟩
 show wpAny _ _ (if(((sIx items.size 0 lo:Nat):Int) == 0&&(1:Int) == 1&&(sIx items.size items.size hi-sIx items.size 0 lo) == items.size)=true then _ else _) _ _ s
 rw[wT hno,Gu]
 first
  | exact zW (m:=Builtin.Tuple.tupleExact _) (wH (zX ⟨_,rfl,zX h⟩) htake)
  | exact zW (m:=Builtin.Tuple.tupleExact _) (wH (zW (zX (zX ⟨_,rfl,zX h⟩))) htake)
  | exact zW (zW (m:=Builtin.Tuple.tupleExact _) (wH (zX (zX ⟨_,rfl,zX h⟩)) htake))
  | exact zW (zW (m:=Builtin.Tuple.tupleExact _) (wH (zX ⟨_,rfl,zX h⟩) htake))
end
end HT
namespace L2
open PySem PySem.Spec PyProof.Rows
abbrev TO:=St->Hp->(Option Int->Hp->Prop)->Prop
def PO(X:Cx)(e:Option Expr)(t:TO):Prop:=
 ∀(pins:List (Addr×Obj)) (s:Shared) (σ:St) (H:Hp) (Q:Option Int->Hp->Prop),Zu X pins σ H s->t σ H Q ->
  wpAny (model X.prog X.w) X.A (evalPart e X.env) (λu s'=>∃o H',Zu X pins σ H' s'/\IsPart u o/\Q o H') X.xe s
def O0:TO:=λ_ H Q=>Q none H
def Ft(t:TE):TO:=λσ H Q=>t σ H λx H1=>∃i,x=.int i/\Q (some i) H1
section
variable {X:Cx}{e:Expr}{te:TE}{lo hi:Option Expr}{tl th:TO}{pos p2:Pos}
theorem EH:PO X none O0:=by
 intro pins s σ H Q I h
 rw[evalPart_none]
 exact zX ⟨none,H,I,.none,h⟩
theorem EI(h:PE X e te):PO X (some e) (Ft te):=by
 intro pins s σ H Q I hw
 rw[evalPart_some]
 refine YB (h pins s σ H _ I hw) λu s1 ⟨x,H1,I1,r1,q1⟩=>?_
 obtain⟨i,rfl,q⟩:=q1
 obtain⟨t,rfl⟩:=r1
 exact⟨some i,H1,I1,.int i t,q⟩
def J9(X:Cx)(r:V->Option Int->Option Int->Hp->VK->Prop):Prop:=
 ∀(pins:List (Addr×Obj)) (s:Shared) (σ:St) (H:Hp) (x:V) (v vl vu:Value) (lo hi:Option Int) (sl:Addr) (Q:VK),Zu X pins σ H s->ZI x v->s.heap.IsSliceOf sl vl vu .none->IsPart vl lo->IsPart vu hi->r x lo hi H Q ->
  ∃T id,typeLookup (.type T) "__getitem__" = pure (some (.builtin id))/\s.TypeIs v T/\wpAny (model X.prog X.w) X.A (getItem v (.ref sl)) (EP X pins σ Q) X.xe s
theorem J9.or{r r':V->Option Int->Option Int->Hp->VK->Prop}(h:J9 X r)(h':J9 X r'):J9 X (λx lo hi H Q=>r x lo hi H Q\/r' x lo hi H Q):=by
 intro pins s σ H x v vl vu lo hi sl Q I rx hs pl pu q
 rcases q with q|q
 ·exact h pins s σ H x v vl vu lo hi sl Q I rx hs pl pu q
 ·exact h' pins s σ H x v vl vu lo hi sl Q I rx hs pl pu q
def tSl(r:V->Option Int->Option Int->Hp->VK->Prop)(te:TE)(tl th:TO):TE:=λσ H Q=>te σ H λx H1=>tl σ H1 λl H2=>th σ H2 λu H3=>r x l u H3 Q
theorem Gq{r:V->Option Int->Option Int->Hp->VK->Prop}(hr:J9 X r)(he:PE X e te)(hl:PO X lo tl)(hu:PO X hi th):PE X (.Subscript e (.Slice lo hi none p2) pos) (tSl r te tl th):=by
 intro pins s σ H Q I h
 refine Subscript_ (YB (he pins s σ H _ I h) λv s1 ⟨x,H1,I1,r1,q1⟩=>?_)
 refine wpAny_Slice (YB (hl pins s1 σ H1 _ I1 q1) λvl s2 ⟨l,H2,I2,pl,q2⟩=>YB (hu pins s2 σ H2 _ I2 q2) λvu s3 ⟨u,H3,I3,pu,q3⟩=>?_)
 rw[evalPart_none]
 refine zX ?_
 have I4:Zu X pins σ H3 { s3 with heap:=s3.heap.push { cls:=.type "slice",data:=.fields #[vl,vu,.none] } }:=I3.kept (t':=s3.toks) λb ob q=>wJ _ q
 obtain⟨T,id,hT,ht,hg⟩:=hr pins { s3 with heap:=s3.heap.push { cls:=.type "slice",data:=.fields #[vl,vu,.none] } } σ H3 x v vl vu l u s3.heap.objs.size Q I4 r1 (Heap.IsSliceOf.new ..) pl pu q3
 show wpAny (model X.prog X.w) X.A (subscriptTail e (.Slice lo hi none p2) v (.ref s3.heap.objs.size)) (EP X pins σ Q) X.xe { s3 with heap:=s3.heap.push { cls:=.type "slice",data:=.fields #[vl,vu,.none] } }
 exact tail_any (ops:=[.ref s3.heap.objs.size,v]) ht hT hg (by with_unfolding_all rfl)
def Rv(xs:List V)(lo hi:Option Int):List V:=(xs.drop (HT.sIx xs.length 0 lo)).take (HT.sIx xs.length xs.length hi-HT.sIx xs.length 0 lo)
theorem Su(xs:List V)(lo hi:Option Int):(Rv xs lo hi).length≤xs.length:=by
 unfold Rv
 rw[yC,length_drop]
 omega
def Zc2(K:Frag):V->Option Int->Option Int->Hp->VK->Prop:=λx lo hi H Q=>∃a xs,x=.ref a/\WH K H a xs /\
 ¬(HT.sIx xs.length 0 lo=0/\HT.sIx xs.length xs.length hi=xs.length)/\∀p,H p=none->Q (.ref p) (upd H p (.tup (Rv xs lo hi)))
theorem Az:J9 X (Zc2 X.K):=by
 intro pins s σ H x v vl vu lo hi sl Q I rx hs pl pu h
 obtain⟨a,xs,rfl,hx,hw,q⟩:=h
 cases rx
 obtain⟨its,r,ht,hz⟩:=I.tuple hx
 have hlen:its.toArray.size=xs.length:=by rw[yK];exact r.length.symm
 refine⟨"tuple",_,yL.lookup,ht.typeIs,?_⟩
 refine HT.getItem_tuple_cut ht hs pl pu (by rw[hlen];exact hw) ?_ (by rw[hlen];exact hz)
 rw[hlen]
 refine⟨.ref s.heap.objs.size,_,I.laid (t':=s.toks) (o:=.tup (Rv xs lo hi)) (λb ob q=>wJ _ q) (zK _) ?_,rfl,q _ (I.hok.fresh (zK _))⟩
 exact⟨zF (Su xs lo hi) hz,_,(r.drop (HT.sIx xs.length 0 lo)).take (HT.sIx xs.length xs.length hi-HT.sIx xs.length 0 lo),Mg.new _ _⟩
end
def Ei(n:Nat)(i:Int):Option Nat:=if 0≤i then(if i<n then some i.toNat else none) else if -(n:Int)≤i then some (i+n).toNat else none
def atI{α:Type}(xs:List α)(i:Int):Option α:=(Ei xs.length i).bind λj=>xs[j]?
theorem LS{n:Nat}{i:Int}{j:Nat}(h:Ei n i=some j):seqIndex? i n=some j/\j<n/\-(n:Int)≤i/\i<n:=by
 unfold Ei at h
 by_cases h0:0≤i
 ·rw[zU h0]at h
  by_cases h1:i<n
  ·rw[zU h1]at h
   have e:i.toNat=j:=vV h
   exact⟨by rw[seqIndex_of h0 h1,e],by omega,by omega,h1⟩
  ·rw[wT h1]at h;cases h
 ·rw[wT h0]at h
  by_cases h1:-(n:Int)≤i
  ·rw[zU h1]at h
   have e:(i+n).toNat=j:=vV h
   exact⟨by rw[seqIndex_neg (by omega) h1,e],by omega,h1,by omega⟩
  ·rw[wT h1]at h;cases h
theorem Pu{α:Type}{xs:List α}{i:Int}{v:α}(h:atI xs i=some v):∃j,seqIndex? i xs.length=some j/\xs[j]? = some v/\j<xs.length/\-(xs.length:Int)≤i/\i<xs.length:=by
 unfold atI at h
 cases e:Ei xs.length i with
 | none=>rw[e]at h;cases h
 | some j=>
  rw[e]at h
  obtain⟨h1,h2,h3,h4⟩:=LS e
  exact⟨j,h1,h,h2,h3,h4⟩
theorem ZX{α:Type}{xs:List α}{j:Nat}{v:α}(h:xs[j]? = some v):atI xs (j:Int)=some v:=by
 have hj:j<xs.length:=(vS.mp h).1
 have e:Ei xs.length (j:Int)=some j:=by
  unfold Ei
  rw[zU (by omega),zU (by omega)];simp
 unfold atI;rw[e];exact h
def Ln(b:Expr):Prop:=∀o i,subscripted b false o i=operate [o,i] (getItem o i)
def J8(X:Cx)(r:R2):Prop:=
 ∀(value slice:Expr) (pins:List (Addr×Obj)) (s:Shared) (σ:St) (H:Hp) (x y:V) (v u:Value) (Q:VK),Zu X pins σ H s->ZI x v->ZI y u->r x y H Q ->
  subscripted slice false v u=operate [v,u] (getItem v u)->wpAny (model X.prog X.w) X.A (subscriptTail value slice v u) (EP X pins σ Q) X.xe s
def C1(X:Cx)(id:String)(r:V->List V->Hp->VK->Prop):Prop:=
 ∀(pins:List (Addr×Obj)) (s:Shared) (σ:St) (H:Hp) (x:V) (xs:List V) (v:Value) (us:List Value) (Q:VK),Zu X pins σ H s->ZI x v->ZH xs us->r x xs H Q ->
  wpAny (model X.prog X.w) X.A (call (.builtin id) (v::us)) (EP X pins σ Q) X.xe s
section
variable {X:Cx}{a b:Expr}{ta tb:TE}{pos:Pos}
theorem J8.or{r r':R2}(h:J8 X r)(h':J8 X r'):J8 X (λx y H Q=>r x y H Q\/r' x y H Q):=by
 intro value slice pins s σ H x y v u Q I rx ry q hs
 rcases q with q|q
 ·exact h value slice pins s σ H x y v u Q I rx ry q hs
 ·exact h' value slice pins s σ H x y v u Q I rx ry q hs
theorem C1.or{id:String}{r r':V->List V->Hp->VK->Prop}(h:C1 X id r)(h':C1 X id r'):C1 X id (λx xs H Q=>r x xs H Q\/r' x xs H Q):=by
 intro pins s σ H x xs v us Q I rx rs q
 rcases q with q|q
 ·exact h pins s σ H x xs v us Q I rx rs q
 ·exact h' pins s σ H x xs v us Q I rx rs q
theorem Zas{r:R2}(hr:J8 X r)(ha:PE X a ta)(hb:PE X b tb)(hs:Ln b):PE X (.Subscript a b pos) (Dr r ta tb):=by
 intro pins s σ H Q I h
 exact Subscript_ (CB ha hb I h λv u s2 x y H2 I2 rx ry q=>hr a b pins s2 σ H2 x y v u Q I2 rx ry q (hs _ _))
def ER(K:Frag):R2:=λx y H Q=>∃p xs i v,x=.ref p/\y=.int i/\Xp K H p xs/\atI xs i=some v/\Q v H
def Ah(K:Frag):R2:=λx y H Q=>∃p xs i v,x=.ref p/\y=.int i/\WH K H p xs/\atI xs i=some v/\Q v H
def Zb3:R2:=λx y H Q=>∃z i c,x=.str z/\y=.int i/\z.length≤sizeLine/\atI z.cps.toList i=some c/\Q (.str ⟨#[c]⟩) H
theorem ZJ:J8 X (ER X.K):=by
 intro value slice pins s σ H x y v u Q I rx ry h hs
 obtain⟨p,xs,i,z,rfl,rfl,hq,he,q⟩:=h
 cases rx
 obtain⟨t,rfl⟩:=ry
 obtain⟨its,r,pl,hz⟩:=I.list hq
 obtain⟨j,h1,h2,h3,h4,h5⟩:=Pu he
 obtain⟨w,ew,rw'⟩:=r.get h2
 have hl:=r.length
 have hn:=Sh
 have fin:EP X pins σ Q w s:=⟨z,H,I,rw',q⟩
 by_cases h0:0≤i
 ·have hj:i.toNat=j:=by
   rw[seqIndex_of h0 h5]at h1
   exact vV h1
  exact item_listR pl.isList h0 (by omega) (by rw[hj];simpa using ew) fin hs
 ·have hj:(i+(its.toArray.size:Int)).toNat=j:=by
   rw[seqIndex_neg (by omega) h4]at h1
   rw[yK,<- hl]
   exact vV h1
  exact subscriptTail_builtinR (x:=w) pl.isList.typeIs slot_list_getitem.lookup
   (wpAny_getItem_list_neg (Q:=λr s'=>r=w/\EP X pins σ Q r s') pl.isList (by omega) (by rw[yK]<;>omega) (by omega) (by rw[hj];simpa using ew) ⟨rfl,fin⟩) hs
theorem Xa:J8 X (Ah X.K):=by
 intro value slice pins s σ H x y v u Q I rx ry h hs
 obtain⟨p,xs,i,z,rfl,rfl,hq,he,q⟩:=h
 cases rx
 obtain⟨t,rfl⟩:=ry
 obtain⟨its,r,pl,hz⟩:=I.tuple hq
 obtain⟨j,h1,h2,h3,h4,h5⟩:=Pu he
 obtain⟨w,ew,rw'⟩:=r.get h2
 have hl:=r.length
 have hn:=Sh
 have fin:EP X pins σ Q w s:=⟨z,H,I,rw',q⟩
 exact subscriptTail_builtinR (x:=w) pl.typeIs slot_tuple_getitem.lookup
  (getItem_tuple (j:=j) (Q:=λr s'=>r=w/\EP X pins σ Q r s') pl (by omega) (by omega) (by rw[yK,<- hl];exact h1) (by simpa using ew) ⟨rfl,fin⟩) hs
theorem Hz:J8 X Zb3:=by
 intro value slice pins s σ H x y v u Q I rx ry h hs
 obtain⟨z,i,c,rfl,rfl,hz,he,q⟩:=h
 obtain⟨t,rfl⟩:=rx
 obtain⟨t',rfl⟩:=ry
 obtain⟨j,h1,h2,h3,h4,h5⟩:=Pu he
 have hl:z.cps.toList.length=z.length:=by simp[Str.length]
 rw[hl]at h1 h4 h5
 have hn:=Sh
 exact tail_any (typeIs_str s z t) slot_str_getitem.lookup (getItem_str (c:=c) (by
  have e1:decide (i < -(2 ^ 63:Int))=false:=vH (by omega)
  have e2:decide (i≥2 ^ 63)=false:=vH (by omega)
  rw[e1,e2,Bool.or_false]) (by rw[h1];simpa using h2) ⟨.str ⟨#[c]⟩,H,I.tok _,⟨_,rfl⟩,q⟩) hs
theorem MK(its:List Value)(n j:Nat)(u:Value):Obj.mapSeq (·.setIfInBounds j u) { cls:=.type "list",data:=.seq its.toArray n } = { cls:=.type "list",data:=.seq (its.set j u).toArray n }:=by
 simp[Obj.mapSeq]
theorem Zu.lst{pins:List (Addr×Obj)}{σ:St}{H:Hp}{s:Shared}{p:Addr}{xs:List V}(I:Zu X pins σ H s)(h:H p=some (.lst xs)):
  ∃(its:List Value) (n:Nat),ZH xs its/\s.heap.get? p=some { cls:=.type "list",data:=.seq its.toArray n }/\xs.length≤sizeLine:=by
 obtain⟨z,its,n,r,e⟩:=I.hok p _ h
 exact⟨its,n,r,e,z⟩
theorem Zu.lstUpd{pins:List (Addr×Obj)}{σ:St}{H:Hp}{s:Shared}{p:Addr}{xs ys:List V}{its its':List Value}{n n':Nat}{f:Obj->Obj}(I:Zu X pins σ H s)(h:H p=some (.lst xs)) 
  (ho:s.heap.get? p=some { cls:=.type "list",data:=.seq its.toArray n }) (hf:f { cls:=.type "list",data:=.seq its.toArray n } = { cls:=.type "list",data:=.seq its'.toArray n' }) (r:ZH ys its') (hz:ys.length≤sizeLine) (t:Nat) :
  Zu X pins σ (upd H p (.lst ys)) { s with heap:=s.heap.update p f,toks:=t }:=by
 have e:(s.heap.update p f).get? p=some { cls:=.type "list",data:=.seq its'.toArray n' }:=by
  rw[wD f ho (by rw[hf]<;>rfl),hf]
 refine I.write (x:=p) (e:=p) (by rw[h];trivial) (.inl rfl) (λb u hb q=>(wB _ _ (wC hb)).trans q) ⟨_,e⟩ ?_
 exact⟨hz,its',n',r,e⟩
def Zb6:V->V->V->Hp->(Hp->Prop)->Prop:=λo i v H Q=>∃p xs k j,o=.ref p/\i=.int k/\H p=some (.lst xs)/\Ei xs.length k=some j/\Q (upd H p (.lst (xs.set j v)))
theorem NO:C6 X Zb6:=by
 intro pins s σ H o i v ov iv u Q I ro ri rv h
 obtain⟨p,xs,k,j,rfl,rfl,hp,hj,q⟩:=h
 cases ro
 obtain⟨t,rfl⟩:=ri
 obtain⟨its,n,r,ho,hz⟩:=I.lst hp
 obtain⟨h1,h2,h3,h4⟩:=LS hj
 have hl:=r.length
 have hn:=Sh
 have I':Zu X pins σ (upd H p (.lst (xs.set j v))) { s with heap:=s.heap.update p (Obj.mapSeq (·.setIfInBounds j u)) }:=
  I.lstUpd hp ho (MK its n j u) (r.set rv j) (by rw[List.length_set];exact hz) s.toks
 by_cases h0:0≤k
 ·have hk:k.toNat=j:=by
   rw[seqIndex_of h0 h4]at h1
   exact vV h1
  exact PySem.W.ki_setAt ho h0 (by omega) (by rw[yK,<- hl];exact h4) (by rw[hk];exact⟨_,I',q⟩)
 ·have hk:(k+(its.toArray.size:Int)).toNat=j:=by
   rw[seqIndex_neg (by omega) h3]at h1
   rw[yK,<- hl]
   exact vV h1
  exact PySem.W.ki_setBack ho (by omega) (by rw[yK,<- hl];exact h3) (by omega) (by rw[hk];exact⟨_,I',q⟩)
theorem Ot(lo hi:Option Int)(n:Nat):(sliceBounds lo hi none n).1=((HT.sIx n 0 lo:Nat):Int)/\(sliceBounds lo hi none n).2.1=((HT.sIx n n hi:Nat):Int)/\(sliceBounds lo hi none n).2.2=1:=by
 refine⟨?_,?_,rfl⟩
 ·cases lo with
  | none=>simp[sliceBounds,HT.sIx]
  | some i=>
   simp only[sliceBounds,HT.sIx,Option.getD_none,show(1:Int) > 0 by decide,yJ]
   by_cases h:i<0
   ·simp only[h,yJ]<;>omega
   ·simp only[h,vF]<;>omega
 ·cases hi with
  | none=>simp[sliceBounds,HT.sIx]
  | some i=>
   simp only[sliceBounds,HT.sIx,Option.getD_none,show(1:Int) > 0 by decide,yJ]
   by_cases h:i<0
   ·simp only[h,yJ]<;>omega
   ·simp only[h,vF]<;>omega
theorem QE(its:List Value)(lo hi:Option Int):slicePick its.toArray lo hi none=((its.drop (HT.sIx its.length 0 lo)).take (HT.sIx its.length its.length hi-HT.sIx its.length 0 lo)).toArray:=by
 obtain⟨h1,h2,h3⟩:=Ot lo hi its.toArray.size
 unfold slicePick
 rw[h1,h2,h3]
 simp only[sliceRange_one,pick_run,yK]<;>rfl
def Ai(K:Frag):V->Option Int->Option Int->Hp->VK->Prop:=λx lo hi H Q=>∃a xs,x=.ref a/\Xp K H a xs/\∀p,H p=none->Q (.ref p) (upd H p (.lst (Rv xs lo hi)))
theorem Dl:J9 X (Ai X.K):=by
 intro pins s σ H x v vl vu lo hi sl Q I rx hs pl pu h
 obtain⟨a,xs,rfl,hx,q⟩:=h
 cases rx
 obtain⟨its,r,ht,hz⟩:=I.list hx
 have hlen:=r.length
 refine⟨"list",_,slot_list_getitem.lookup,ht.isList.typeIs,?_⟩
 refine wpAny_getItem_list_slice ht.isList hs pl pu .none (by simp) ?_ (by rw[yK]<;>omega)
 rw[QE,<- hlen]
 refine⟨.ref s.heap.objs.size,_,I.laid (t':=s.toks) (o:=.lst (Rv xs lo hi)) (λb ob q=>wJ _ q) (zK _) ?_,rfl,q _ (I.hok.fresh (zK _))⟩
 exact⟨zF (Su xs lo hi) hz,_,0,(r.drop (HT.sIx xs.length 0 lo)).take (HT.sIx xs.length xs.length hi-HT.sIx xs.length 0 lo),wK _ rfl⟩
theorem Yg:Y0 X (.builtin "len") (λxs H Q=>∃p ys,xs=[.ref p]/\(Xp X.K H p ys\/WH X.K H p ys)/\Q (.int ys.length) H):=by
 intro pins s σ H xs us Q I r h
 obtain⟨p,ys,rfl,hq,q⟩:=h
 obtain⟨u,rfl,rx⟩:=VF r
 cases rx
 have hn:=Sh
 rcases hq with hq|hq
 ·obtain⟨its,r',pl,hz⟩:=I.list hq
  have hlen:=r'.length
  exact Calls.call_len_list pl.isList (by simp only[yK]<;>omega) ⟨.int ys.length,H,I.tok _,⟨s.toks+1,by rw[yK,hlen]⟩,q⟩
 ·obtain⟨its,r',pl,hz⟩:=I.tuple hq
  have hlen:=r'.length
  exact len_tuple pl (by simp only[yK]<;>omega) ⟨.int ys.length,H,I.tok _,⟨s.toks+1,by rw[yK,hlen]⟩,q⟩
theorem Px:Y0 X (.builtin "len") (λxs H Q=>∃z,xs=[.str z]/\z.length≤sizeLine/\Q (.int z.length) H):=by
 intro pins s σ H xs us Q I r h
 obtain⟨z,rfl,hz,q⟩:=h
 obtain⟨u,rfl,t,rfl⟩:=VF r
 have hn:=Sh
 exact len_str (by omega) ⟨.int z.length,H,I.tok _,⟨_,rfl⟩,q⟩
theorem Y0.or{f:Value}{r r':List V->Hp->VK->Prop}(h:Y0 X f r)(h':Y0 X f r'):Y0 X f (λxs H Q=>r xs H Q\/r' xs H Q):=by
 intro pins s σ H xs us Q I rs q
 rcases q with q|q
 ·exact h pins s σ H xs us Q I rs q
 ·exact h' pins s σ H xs us Q I rs q
theorem Yx:Y0 X (.type "tuple") (λxs H Q=>∃p ys,xs=[.ref p]/\((Xp X.K H p ys/\∀l,H l=none->Q (.ref l) (upd H l (.tup ys)))\/(WH X.K H p ys/\Q (.ref p) H))):=by
 intro pins s σ H xs us Q I r h
 obtain⟨p,ys,rfl,h⟩:=h
 obtain⟨u,rfl,rx⟩:=VF r
 cases rx
 rcases h with ⟨hq,q⟩|⟨hq,q⟩
 ·obtain⟨its,r',pl,hz⟩:=I.list hq
  have hlen:=r'.length
  refine call_tuple_list pl.isList (λh' kp=>?_) (by simp only[yK]<;>omega)
  have I1:Zu X pins σ H { s with heap:=h' }:=I.kept (t':=s.toks) kp
  have I2:Zu X pins σ (upd H h'.objs.size (.tup ys)) { s with heap:=h'.push { cls:=.type "tuple",data:=.seq its.toArray } }:=
   I1.laid (t':=s.toks) (λb o e=>wJ _ e) (zK _) (show YV X.prog X.w _ _ _ (.tup ys) from⟨hz,its,r',Mg.new _ _⟩)
  exact⟨.ref h'.objs.size,_,I2,rfl,q _ (I1.hok.fresh (zK _))⟩
 ·obtain⟨its,r',pl,hz⟩:=I.tuple hq
  exact call_tuple_same pl ⟨.ref p,H,I,rfl,q⟩
def tyV(K:Frag)(T:String)(x:V)(H:Hp):Prop:=match x with
 | .str _=>T = "str"
 | .int _=>T = "int"
 | .ref p=>(T = "list"/\∃xs,Xp K H p xs)\/(T = "tuple"/\∃o,K.lookup p=some o/\o.cls=.type "tuple"/\o.dict=none) \/
   (T = "dict"/\((∃kvs,H p=some (.dK kvs))\/∃kvs,H p=some (.dT kvs)))\/(T = "set"/\∃S n,H p=some (.set S n))
 | _=>False
theorem AE{pins:List (Addr×Obj)}{σ:St}{H:Hp}{s:Shared}{T:String}{x:V}{v:Value}(I:Zu X pins σ H s)(r:ZI x v)(ty:tyV X.K T x H):
  s.TypeIs v T/\∀a,v=.ref a->∃ob,s.heap.get? a=some ob/\ob.dict=none:=by
 cases x with
 | str z=>
  obtain⟨t,rfl⟩:=r
  cases (show T = "str" from ty)
  exact⟨typeIs_str s z t,λ_ e=>nomatch e⟩
 | int i=>
  obtain⟨t,rfl⟩:=r
  cases (show T = "int" from ty)
  exact⟨typeIs_int s i t,λ_ e=>nomatch e⟩
 | ref p=>
  cases r
  rcases ty with ⟨rfl,xs,hq⟩|⟨rfl,o,hk,hc,hd⟩|⟨rfl,hk⟩|⟨rfl,S,n,hk⟩
  ·obtain⟨its,_,pl,_⟩:=I.list hq
   refine⟨pl.isList.typeIs,λa e=>?_⟩
   cases e
   obtain⟨o,n,e,c,hd,_⟩:=pl
   exact⟨o,e,hd⟩
  ·refine⟨⟨o,I.kIn p o hk,hc⟩,λa e=>?_⟩
   cases e
   exact⟨o,I.kIn _ o hk,hd⟩
  ·have z:∃o,s.heap.get? p=some o/\o.ExactDict:=by
    rcases hk with ⟨kvs,hk⟩|⟨kvs,hk⟩
    ·obtain⟨_,_,_,_,o,_,_,e,ex,_⟩:=I.hok p _ hk
     exact⟨o,e,ex⟩
    ·obtain⟨_,_,_,_,o,_,_,e,ex,_⟩:=I.hok p _ hk
     exact⟨o,e,ex⟩
   obtain⟨o,e,ex⟩:=z
   refine⟨⟨o,e,ex.1⟩,λa e2=>?_⟩
   cases e2
   exact⟨o,e,ex.2.1⟩
  ·obtain⟨o,_,_,_,e,ex,_⟩:=I.hok p _ hk
   refine⟨⟨o,e,ex.1⟩,λa e2=>?_⟩
   cases e2
   exact⟨o,e,ex.2.1⟩
 | _=>exact False.elim ty
def tBM(K:Frag)(T:String)(r:V->List V->Hp->VK->Prop)(to:TE)(t:TA):TE:=λσ H Q=>to σ H λx H1=>tyV K T x H1/\t σ H1 λxs H2=>r x xs H2 Q
variable {o e:Expr}{es:List Expr}{to:TE}{t:TA}{name:Str}{apos cpos:Pos}{T id:String}{r:V->List V->Hp->VK->Prop}
theorem Zar(pa:PlainAttrs T)(slot:Slot T name id)(hty:typeOf (.builtin id)=pure (.type "method_descriptor"))(hm:C1 X id r)(ho:PE X o to)(ha:PA X (e::es) t) 
  (hbase:attributeBase o name X.env (eval o X.env)=eval o X.env:=by rfl)
  (hfew:((backTo cpos (starEach (e::es) X.env)).all (λx=>!x.1)&&(backToKw cpos (keywordEach [] X.env)).all (λx=>x.1.isSome)
  &&decide ((e::es).length+([]:List Keyword).length+(if([]:List Keyword).isEmpty then 0 else 1)<30))=true:=by rfl)
  (hline:(apos.endLine == cpos.line)=true:=by rfl) (hs:starEach (e::es) X.env=(false,eval e X.env)::starEach es X.env:=by rfl) (hplain:(backTo cpos (starEach es X.env)).any (·.1)=false:=by rfl) :
  PE X (.Call (.Attribute o name apos) (e::es) [] cpos) (tBM X.K T r to t):=by
 intro pins s σ H Q I h
 refine wpAny_Call_method_late hbase hfew hline rfl (YB (ho pins s σ H _ I h) λv s1 ⟨x,H1,I1,r1,ty,q1⟩=>?_)
 obtain⟨h1,h2⟩:=AE I1 r1 ty
 refine⟨T,id,pa,slot,hty,h1,h2,?_⟩
 have hA:=ha cpos pins s1 σ H1 _ I1 q1
 rw[hs]at hA |-
 refine Calls.callWith_builtin (by show(false||(backTo cpos (starEach es X.env)).any (·.1))=false;rw[hplain]<;>rfl) (Calls.evalArgs_plain ?_)
 exact YB hA λus s2 ⟨vs,H2,I2,r2,q2⟩=>hm pins s2 σ H2 x vs v us Q I2 r1 r2 q2
end
def MtM(X:Cx)(id:String)(r:V->List V->Hp->VK->Prop):Prop:=
 ∀(pins:List (Addr×Obj)) (s:Shared) (σ:St) (H:Hp) (x:V) (xs:List V) (v:Value) (us:List Value) (Q:VK),Zu X pins σ H s->ZI x v->ZH xs us->r x xs H Q ->
  wpAny (model X.prog X.w) X.A (call (.builtin id) (v::us)) (EP X pins σ Q) X.xe s
theorem ZH.one:∀{x:V}{us:List Value},ZH [x] us->∃u,us=[u]/\ZI x u
 | _,_,.cons r .nil=>⟨_,rfl,r⟩
theorem ZH.zero:∀{us:List Value},ZH [] us->us=[]
 | _,.nil=>rfl
theorem ZH.reverse{xs:List V}{us:List Value}(h:ZH xs us):ZH xs.reverse us.reverse:=by
 induction h with
 | nil=>exact .nil
 | cons r t ih=>rw[yO,yO];exact ZH.append ih (.cons r .nil)
section
variable {X:Cx}{pins:List (Addr×Obj)}{σ:St}{H:Hp}{s:Shared}{l b:Addr}{xs ys zs:List V}
theorem Zu.lset{its its':List Value}{n:Nat}{f:Array Value->Array Value}{t':Nat}(I:Zu X pins σ H s)(hH:H l=some (.lst xs)) 
  (e:s.heap.get? l=some { cls:=.type "list",data:=.seq its.toArray n }) (hf:f its.toArray=its'.toArray) (hv:ZH ys its') (hz:ys.length≤sizeLine) :
  Zu X pins σ (upd H l (.lst ys)) { s with heap:=s.heap.update l (Obj.mapSeq f),toks:=t' }:=by
 have q:=PySem.IsL.update e f
 rw[hf]at q
 refine I.write (x:=l) (e:=l) (by rw[hH];exact trivial) (.inl rfl) (λb' u hb hu=>(wB s.heap (Obj.mapSeq f) (wC hb)).trans hu) ⟨_,q⟩ ?_
 exact⟨hz,its',_,hv,q⟩
theorem Zu.lnew{its:List Value}{t':Nat}(I:Zu X pins σ H s)(hv:ZH ys its)(hz:ys.length≤sizeLine):
  Zu X pins σ (upd H s.heap.objs.size (.lst ys)) { s with heap:=s.heap.push { cls:=.type "list",data:=.seq its.toArray },toks:=t' }:=
 I.laid (λ_ _ q=>wJ _ q) (zK _) ⟨hz,its,0,hv,wK _ rfl⟩
theorem Zu.fresh(I:Zu X pins σ H s):H s.heap.objs.size=none:=I.hok.fresh (zK _)
theorem Zu.lstM(I:Zu X pins σ H s)(hH:H l=some (.lst xs)):xs.length≤sizeLine/\∃(its:List Value) (n:Nat),ZH xs its/\xs.length=its.length/\s.heap.get? l=some { cls:=.type "list",data:=.seq its.toArray n }:=by
 obtain⟨z,its,n,r,e⟩:=I.hok l _ hH
 exact⟨z,its,n,r,r.length,e⟩
end
section
variable {X:Cx}
def Kh:V->List V->Hp->VK->Prop:=λx vs H Q=>∃l xs y,x=.ref l/\vs=[y]/\H l=some (.lst xs)/\xs.length<sizeLine/\Q .non (upd H l (.lst (xs++[y])))
theorem Ur:MtM X "list.append" Kh:=by
 intro pins s σ H x vs v us Q I rx rv h
 obtain⟨l,xs,y,rfl,rfl,hH,hz,q⟩:=h
 cases rx
 obtain⟨u,rfl,ru⟩:=rv.one
 obtain⟨z,its,n,r,hl,e⟩:=I.lstM hH
 refine call_meets F.slot_list_append ⟨_,e,rfl⟩ F.entry_list_append (F.args_list_append_2 _ _) (PySem.list_append l its.toArray n u (by rw[yK];omega)) ⟨e,?_⟩
 refine⟨.non,_,I.lset (its':=its++[u]) hH e (by simp) (r.append (.cons ru .nil)) ?_,rfl,q⟩
 rw[yH,yP]
 omega
def Zaz:R2:=λx y H Q=>∃l b xs zs,x=.ref l/\y=.ref b/\H l=some (.lst xs)/\H b=some (.lst zs)/\xs.length+zs.length≤sizeLine/\∀p,H p=none->Q (.ref p) (upd H p (.lst (xs++zs)))
theorem Ga:WX X (binaryOp .Add) Zaz:=by
 intro pins s σ H x y v u Q I rx ry h
 obtain⟨l,b,xs,zs,rfl,rfl,hH,hB,hz,q⟩:=h
 cases rx
 cases ry
 obtain⟨z,its,n,r,hl,e⟩:=I.lstM hH
 obtain⟨z2,its2,n2,r2,hl2,e2⟩:=I.lstM hB
 refine PySem.P.add_list e e2 ?_ (by rw[yK,yK];omega)
 have ea:its.toArray++its2.toArray=(its++its2).toArray:=by simp
 rw[ea]
 exact⟨.ref _,_,I.lnew (t':=s.toks) (r.append r2) (by rw[yH];omega),rfl,q _ I.fresh⟩
end
section
variable {prog:Program}{w:World}{A:Around}{E:Value->Shared->Prop}{s:Shared}
set_option maxRecDepth 100000 in
end
end L2
namespace Att
open PySem PySem.W PySem.Calls PyProof.Rows
theorem SH{P:Params}{h:Heap}:∀(ns:List Int) (vs:List Value),WellAll P h vs (ns.map WData.int)->IntsAre vs ns:=by
 intro ns
 induction ns with
 | nil=>
  intro vs w
  rw[yQ]at w
  cases w
  exact .nil
 | cons n ns ih=>
  intro vs w
  rw[uO]at w
  cases w with
  | cons a b=>
   cases a
   exact .cons _ _ (ih _ b)
theorem Jx{l:OpenLaw}{n:Nat}(hn:l.most=some n){P:Params}{h:Heap}{args:List WData}{vals:List Value} 
  (hpre:l.row.toRowW.claim.pre args=true) (hwl:WellAll P h vals args) :
  ∃a vs ns,vals=[Value.ref a]/\args=[WData.list (ns.map WData.int)]/\h.get? a=some { cls:=.type "list",data:=.seq vs.toArray }/\IntsAre vs ns/\ns.length≤n:=by
 have hsh:WShape.hasAll [] args [.list .int]=true:=(pre_splitW hpre).1
 have hc:l.pre.holds [] { args:=args }=true:=(pre_splitW hpre).2
 obtain⟨d,r,rfl,h1,h2⟩:=hasAllW_cons hsh
 obtain rfl:=hasAllW_nil h2
 obtain⟨xs,rfl,h3⟩:=hasW_list h1
 obtain⟨ns,rfl⟩:=items_int h3
 have hlen:ns.length≤n:=by
  unfold OpenLaw.pre at hc
  have h4:(WTm.not (.lt (.lit (.int (n:Int))) (.len (.arg 0)))).holds [] { args:=[.list (ns.map .int)] }=true:=by
   have h4:=(holds_andW hc).1
   rw[hn]at h4
   exact h4
  have h5:=condW_of h4 (w_not (w_lt w_lit (w_len_list (w_arg rfl))))
  rw[Wb]at h5
  refine le_of_not_lt λq=>?_
  have q':(n:Int)<((ns.length:Nat):Int):=by omega
  first
   | (rw[yR q']at h5;exact absurd h5 (by decide))
   | (simp at h5;omega)
 cases hwl with
 | cons w1 w2=>
  cases w2
  cases w1 with
  | list ho hall=>exact⟨_,_,ns,rfl,rfl,ho,SH ns _ hall,hlen⟩
theorem Jr(l:OpenLaw)(args:List WData):l.row.toRowW.claim.post args (.bool true) args=true:=
 postW_of (r:=l.row.toRowW) (X:=(true == true))
  (show WShape.has [] (.bool true) .bool=true by first|rfl|decide|simp[WShape.has,WShape.arms,WShape.armsAll])
  (show(WTm.eq .res (.lit (.bool true))).value [] { args:=args,res:=some (.bool true),after:=args }=some (.bool (true == true)) from w_eq_bool (w_res rfl) w_lit) rfl
theorem attach_call{l:OpenLaw}{n:Nat}{q:Program}{loose:List Str}{XP:(Str->Option Value)->Heap->Prop}{YP:World->Heap->Prop}{d:DefRec} 
  (hn:l.most=some n) (hdf:d.params.defaults=[])
  (call:∀(w:World) (s₀ s₁:Shared) (mg mb:Str->Option Value) (fa:Addr) (o:Obj) (pm cd doc:Value) (a:Addr) (vs:List Value) (ns:List Int),
   Ground q loose [] XP w s₀ mg mb s₁.heap->YP w s₁.heap ->
   s₁.heap.get? fa=some o->o.data=.func (docDef d.name d.params d.body d.scope pm cd doc)->s₁.heap.CodeRec cd d.name->mg d.name=some (.ref fa) ->
   s₁.heap.get? a=some { cls:=.type "list",data:=.seq vs.toArray }->IntsAre vs ns->ns.length≤n->s₁.gens = #[] ->
   codeAny (model l.prog w) callerA (.call (.ref fa) ⟨[.ref a],[]⟩) (λr s'=>r=.ok (.ret (.bool true))/\OldK s₁.heap s'.heap/\s'.os=s₁.os/\AllBare s'.gens) s₁) :
  WalkO q loose XP YP l.row.toRowW d [] (λf vs=>PySem.call f vs):=by
 intro w s₀ s₁ mg mb G Y fa o pm cd doc dV kV ho hd hcd hD hmg hg args vals as hpre hlay hrd hwl hlo
 obtain rfl:dV=.none:=Dflts.none hD hdf
 obtain rfl:kV=.none:=Dflts.noKw hD
 obtain⟨a,vs,ns,rfl,rfl,hobj,hints,hlen⟩:=Jx hn hpre hwl
 refine enter_call (uV (call w s₀ s₁ mg mb fa o pm cd doc a vs ns G Y ho (fd_plain hd) hcd hmg hobj hints hlen hg) λr s' hq=>?_)
 obtain⟨rfl,h2,h3,h4⟩:=hq
 exact⟨.inl ⟨.bool true,.bool true,[],rfl,λ_=>rfl,.bool true,Jr l _,λ_=>⟨yS,λ_ hm=>(nomatch hm)⟩⟩,h2,h3,h4⟩
end Att
namespace L2
open PySem PySem.Spec PyProof.Rows
theorem Pq:∀{vs:List Value}{ns:List Int},IntsAre vs ns->ZH (ns.map V.int) vs
 | _,_,.nil=>.nil
 | _,_,.cons n t h=>.cons ⟨t,rfl⟩ (Pq h)
def C4(H:Hp):Prop:=∀b,H b=none\/∃o xs,H b=some (.frz o (.lst xs))
theorem HE{P:Program}{w:World}{K:Frag}{mg mb:Str->Option Value}{CX:Md}{k:Nat}{fa a:Addr}{fd:FuncData}{x:Str}{sp:Sp}{s₁:Shared}{vs:List Value}{ns:List Int} 
  (KX:K.In s₁.heap) (hns:s₁.heap.Ns mainGlobals mg) (hb:s₁.heap.Ns builtinsNs mb) (hbb:∀x:Str,x≠"__name__"->mb x=bootBuiltins x) (hlim:s₁.heap.NoLimit) (hg:s₁.gens = #[])
  (ha:s₁.heap.get? a=some { cls:=.type "list",data:=.seq vs.toArray }) (hi:IntsAre vs ns) (hl:ns.length≤sizeLine) (hr:ZZ k callerA)
  (F:∀base:Heap,K.In base->base.Ns mainGlobals mg->Xc P w K mg base CX k fa fd [x] sp) (hbind:∀(s:Shared) (u:Value),BindsTo s fd ⟨[u],[]⟩ [(x,u)])
  (hsp:∀H:Hp,C4 H->Xp K H a (ns.map V.int)->sp [.ref a] H (λv _=>v=.bl true) λ_ _ _=>False)
  (hCX:∀H e s',CX [] H s₁ (λ_ _ _=>False) e s'->False) :
  codeAny (model P w) callerA (.call (.ref fa) ⟨[.ref a],[]⟩) (λr s'=>r=.ok (.ret (.bool true))/\OldK s₁.heap s'.heap/\s'.os=s₁.os/\AllBare s'.gens) s₁:=by
 have rv:=Pq hi
 have lenV:=hi.length
 -- from an abstract heap in which nothing but the script may be tracked
 have core:∀H:Hp,C4 H->Xp K H a (ns.map V.int)->U5 P w H s₁.heap->(∀b,H b≠none->b=a)->(H a≠none->K.lookup a=none) ->
   codeAny (model P w) callerA (.call (.ref fa) ⟨[.ref a],[]⟩) (λr s'=>r=.ok (.ret (.bool true))/\OldK s₁.heap s'.heap/\s'.os=s₁.os/\AllBare s'.gens) s₁:=by
  intro H hO hS hok hA hK
  have base_of:∀{b:Addr}{o:Obj},s₁.heap.get? b=some o->H b=none->(PQ s₁.heap H).get? b=some o:=λe n=>Hk e n
  have noA:∀{b:Addr}{o:Obj}{es:Array DictEntry}{ep:Nat},s₁.heap.get? b=some o->o.data=.dict es ep->H b=none:=λ{b o es ep} e d=>by
   cases q:H b with
   | none=>rfl
   | some u=>
    have e':b=a:=hA b (by rw[q];simp)
    subst e'
    rw[ha]at e;cases e
    have d':Data.seq vs.toArray _=Data.dict es ep:=d
    cases d'
  have nsK:∀{b:Addr}{m:Str->Option Value},s₁.heap.Ns b m->(PQ s₁.heap H).Ns b m:=λ{b m} ⟨o,es,ep,e,d,r⟩=>⟨o,es,ep,base_of e (noA e d),d,r⟩
  have hKb:K.In (PQ s₁.heap H):=λb o e=>base_of (KX b o e) (by
   cases q:H b with
   | none=>rfl
   | some u=>
    have e':b=a:=hA b (by rw[q];simp)
    subst e'
    rw[hK (by rw[q];simp)]at e;cases e)
  have hM:Mod K mg (PQ s₁.heap H):=⟨hKb,nsK hns,⟨mb,nsK hb,hbb⟩,let ⟨mc,h1,h2⟩:=hlim;⟨mc,nsK h1,h2⟩⟩
  have e0:VI P w K mg (PQ s₁.heap H) callerA [] s₁ H:=⟨rfl,hM,λb o e=>Ez e,zN (KS _ _),trivial,λb hb=>absurd (show b∈([]:List Addr) from hb) (by simp),hok,.of_eq hg⟩
  refine uV ((F _ hKb (nsK hns)).run callerA [] s₁ H ⟨[.ref a],[]⟩ [.ref a] [.ref a] _ _ hr e0 (hbind s₁ (.ref a)) (.cons rfl .nil) (hsp H hO hS)) λr s' h=>?_
  cases r with
  | error e=>exact(hCX H e s' h).elim
  | ok fl=>
   cases fl with
   | next=>exact False.elim h
   | brk=>exact False.elim h
   | cont=>exact False.elim h
   | ret u=>
    obtain⟨v,H',os,bare,un,hok',r',q⟩:=h
    have q':v=.bl true:=q
    subst q'
    obtain rfl:u=Value.bool true:=r'
    refine⟨rfl,OldK.of_keep λb o e=>?_,os,bare⟩
    cases q:H b with
    | none=>exact un.keep b o e q (by intro z;exact absurd (show b∈([]:List Addr) from z) (by simp)) (by simp)
    | some u=>
     rcases hO b with z|⟨ob,xs,z⟩
     ·rw[q]at z;cases z
     ·have z2:=un.frzs b ob _ z
      obtain⟨e1,_⟩:=hok b _ z
      obtain⟨e2,_⟩:=hok' b _ z2
      rw[e]at e1;cases e1
      exact e2
 cases hk:K.lookup a with
 | some o=>
  -- the script is one of the module's own objects
  have e:=KX a o hk
  rw[ha]at e
  cases e
  refine core (λ_=>none) (λ_=>.inl rfl) (.inr ⟨_,vs.toArray,_,hk,rfl,rfl,rfl,by rw[yK,lenV];exact hl,by simpa using rv⟩) (λb u z=>by have z':(none:Option HO)=some u:=z;cases z') (λb z=>absurd rfl z) λz=>absurd rfl z
 | none=>
  refine core (λb=>if b=a then some (.frz { cls:=.type "list",data:=.seq vs.toArray } (.lst (ns.map V.int))) else none) (λb=>?_) (.inl (.inr ⟨{ cls:=.type "list",data:=.seq vs.toArray },zU rfl⟩)) (λb u z=>?_) (λb z=>?_) λ_=>hk
  ·by_cases hb:b=a
   ·exact .inr ⟨_,_,zU hb⟩
   ·exact .inl (wT hb)
  ·by_cases hb:b=a
   ·have z':=(zU hb).symm.trans z
    cases z'
    subst hb
    exact⟨ha,by rw[Wb];exact hl,vs,_,rv,ha⟩
   ·have z':=(wT hb).symm.trans z
    cases z'
  ·by_cases hb:b=a
   ·exact hb
   ·exact absurd (wT hb) z
def Y7(s:Stmt):Arguments:=match s with
 | .FunctionDef _ a _ _ _ _ _ _ _ _=>a
 | _=>{ posonlyargs:=[],args:=[],vararg:=none,kwonlyargs:=[],kw_defaults:=[],kwarg:=none,defaults:=[] }
def ZR(s:Stmt):List Stmt:=match s with
 | .FunctionDef _ _ b _ _ _ _ _ _ _=>b
 | _=>[]
def Zf(s:Stmt):Scope:=match s with
 | .FunctionDef _ _ _ _ _ _ sc _ _ _=>sc
 | _=>{ kind:=.function,names:=[],isGenerator:=false,isCoroutine:=false }
abbrev UC:Md:=λ_ _ _ _ _ _=>False
abbrev E0:XK:=λ_ _ _=>False
theorem Kd{X:Cx}:T8 UC X E0:=λ_ _ _ _ _ _ _ h=>h.elim
structure Ws(K:Frag)(x qual:Str)(st:Stmt)(f:Addr)(fd:FuncData):Prop where
 ex:∃(oc:Value) (od:Option Addr) (kV doc pm:Value) (an:Option Addr) (cdv ct:Value) (osl:Array (Option Value)),
  fd=PySem.W.fnOf x qual (Y7 st) (ZR st) (Zf st) .none kV doc pm an cdv ct/\K.lookup f=some ⟨oc,od,.func fd,osl⟩/\PySem.W.codeIn K cdv qual=true
 kp:PySem.W.keepIn K (.ref f)=true
section
variable {P:Program}{w:World}{K:Frag}{mg:Str->Option Value}{base:Heap}
theorem Ws.ok{x qual:Str}{st:Stmt}{f:Addr}{fd:FuncData}{N ps:List Str}{k:Nat}{sp:Sp}(F:Ws K x qual st f fd)(S:Zv N ps (Zf st))(len:∀vs H Q E,sp vs H Q E->vs.length=ps.length) 
  (hbody:∀(cdv:Value) (A:Around) (outer:List Env) (s:Shared) (H:Hp) (vs:List V) (Q:VK) (E:XK),ZZ k (A.deeper (envOfC qual (Zf st) s.heap.objs.size f cdv))->sp vs H Q E ->
   ∃t,U6 (Xw UC P w K mg base N qual (Zf st) f cdv A outer s H E).nox (ZR st) t/\t { nx:=λ_ H'=>Q .non H',rt:=Q } (YG N vs) H):Xc P w K mg base UC (k+1) f fd ps sp:=by
 obtain⟨oc,od,kV,doc,pm,an,cdv,ct,osl,rfl,lk,hcd⟩:=F.ex
 refine QR lk hcd S len λA outer s H vs Q E hr hsp=>?_
 obtain⟨t,h,q⟩:=hbody cdv A outer s H vs Q E hr hsp
 exact⟨t,h.nox,q⟩
theorem Ws.binds{x qual:Str}{st:Stmt}{f:Addr}{fd:FuncData}{ps:List Str}(F:Ws K x qual st f fd) 
  (h:∀(kV doc pm:Value) (an:Option Addr) (cdv ct:Value) (us:List Value),us.length=ps.length->bindArgs (PySem.W.fnOf x qual (Y7 st) (ZR st) (Zf st) .none kV doc pm an cdv ct) ⟨us,[]⟩=pure (ps.zip us)):XE K fd ps []:=by
 obtain⟨oc,od,kV,doc,pm,an,cdv,ct,osl,rfl,lk,hcd⟩:=F.ex
 exact .all (h kV doc pm an cdv ct)
theorem PM{x qual:Str}{st:Stmt}{f:Addr}{oc:Value}{od an:Option Addr}{osl:Array (Option Value)}{kV doc pm cdv ct:Value}(l:K.lookup f=some ⟨oc,od,.func (PySem.W.fnOf x qual (Y7 st) (ZR st) (Zf st) .none kV doc pm an cdv ct),osl⟩) 
  (c:PySem.W.codeIn K cdv qual=true) (k:PySem.W.keepIn K (.ref f)=true):Ws K x qual st f (PySem.W.fnOf x qual (Y7 st) (ZR st) (Zf st) .none kV doc pm an cdv ct):=⟨⟨oc,od,kV,doc,pm,an,cdv,ct,osl,rfl,l,c⟩,k⟩
end
section
variable {X:Cx}
theorem pv(i:Nat){x:Str}{pos:Pos}(hN:X.N[i]? = some x:=by rfl)(hv:C8 X.env.scope x:=by first|exact yT rfl|exact yU (yT rfl)|exact yU (yU rfl))(hd:(x == ("__debug__" : Str))=false:=by decide) 
  (hcd:(x == ("__classdict__" : Str))=false:=by decide):PE X (.Name x pos) (O1 i):=Qd hN hv hd hcd
end
theorem Zbx{A B:Prop}(h:A):if true=true then A else B:=by
 rw[zU rfl]
 exact h
theorem Nt{c A B:Prop}[Decidable c](h1:c->A)(h2:¬c->B):if c then A else B:=by
 by_cases h:c
 ·rw[zU h]
  exact h1 h
 ·rw[wT h]
  exact h2 h
def Z7(H H':Hp):Prop:=∀b o,H b=some o->H' b=some o
theorem Z7.refl(H:Hp):Z7 H H:=λ_ _ h=>h
theorem Z7.trans{H H1 H2:Hp}(a:Z7 H H1)(b:Z7 H1 H2):Z7 H H2:=λc o h=>b c o (a c o h)
theorem Z7.free{H H':Hp}(e:Z7 H H'){l:Addr}(h:H' l=Option.none):H l=Option.none:=by
 cases q:H l with
 | none=>rfl
 | some o=>
  rw[e l o q]at h
  cases h
theorem Z7.seq{K:Frag}{H H':Hp}{a:Addr}{xs:List V}(e:Z7 H H')(h:Xp K H a xs):Xp K H' a xs:=by
 rcases h with (h|⟨o,h⟩)|h
 ·exact .inl (.inl (e _ _ h))
 ·exact .inl (.inr ⟨o,e _ _ h⟩)
 ·exact .inr h
abbrev VY(us:List Value):Obj:={ cls:=.type "list",data:=.seq us.toArray us.length }
def ZW(X:Cx)(Nc:List Str)(scope:Scope)(cs:List (Str×Addr))(C:Addr)(s:Shared)(H:Hp)(fp:List Addr):Cx where
 prog:=X.prog
 w:=X.w
 K:=X.K
 mg:=X.mg
 base:=X.base
 A:=X.A
 N:=Nc
 s₀:=s
 H₀:=H
 env:=compEnvC scope cs C X.env
 outer:=X.stack
 stack:=X.stack
 ex:=fp
 fn:=λx=>scope.names.lookup x == some .cell
 calm:=X.calm
 cold:=X.cold
 pn:=[]
 xe:=λ_ _=>False
def WI(cells:List (Str×Addr)):List (Str×NameKind)->List (Str×Addr)->List (Str×Addr)
 | [],acc=>acc
 | (n,k)::r,acc=>if k == .free then WI cells r ((n,(cells.lookup n).getD 0)::acc) else WI cells r acc
theorem Vj(cells:List (Str×Addr)):∀(names:List (Str×NameKind)) (acc:List (Str×Addr)),WI cells names acc=WI cells names []++acc
 | [],acc=>rfl
 | (n,k)::r,acc=>by
  unfold WI
  split
  ·rw[Vj cells r (_::acc),Vj cells r [_],yV];rfl
  ·exact Vj cells r acc
theorem Vz{env:Env}:∀(names:List (Str×NameKind)) (acc:List (Str×Addr)),(∀p∈names,p.2=.free->∃c,env.cells.lookup p.1=some c) ->
  (forIn names acc λ(p:Str×NameKind) (cs:List (Str×Addr))=>(if p.2 == .free then(do let c <- cellOf env p.1;pure (ForInStep.yield ((p.1,c)::cs))) else pure (ForInStep.yield cs):Sem _))=pure (WI env.cells names acc)
 | [],acc,_=>rfl
 | (n,k)::r,acc,h=>by
  rw[yW]
  have hr:∀p∈r,p.2=.free->∃c,env.cells.lookup p.1=some c:=λp hp=>h p (vN _ hp)
  unfold WI
  by_cases hk:k=.free
  ·subst hk
   obtain⟨c,hc⟩:=h (n,.free) vM rfl
   have hc':env.cells.lookup n=some c:=hc
   simp only[yX,yJ,cellOf,hc',pure_bind,Option.getD_some]
   exact Vz r _ hr
  ·have hb:(k == NameKind.free)=false:=by simpa using hk
   simp only[hb,vE,vF,pure_bind]
   exact Vz r _ hr
theorem Qx{scope:Scope}{env:Env}(h:∀p∈scope.names,p.2=.free->∃c,env.cells.lookup p.1=some c):closureFor scope env=pure (WI env.cells scope.names []):=by
 have e:closureFor scope env=(forIn scope.names [] λ(p:Str×NameKind) (cs:List (Str×Addr))=>(if p.2 == .free then(do let c <- cellOf env p.1;pure (ForInStep.yield ((p.1,c)::cs))) else pure (ForInStep.yield cs):Sem _)):=by
  simp only[closureFor]
  rw[bind_pure]
 rw[e];exact Vz _ _ h
theorem VN{cells:List (Str×Addr)}:∀{names:List (Str×NameKind)}{x:Str}{c:Addr},(∀p∈names,p.2=.free->∃c,cells.lookup p.1=some c)->(x,c)∈WI cells names []->(x,.free)∈names/\cells.lookup x=some c
 | [],_,_,_,h=>nomatch h
 | (n,k)::r,x,c,hf,h=>by
  have hr:∀p∈r,p.2=.free->∃c,cells.lookup p.1=some c:=λp hp=>hf p (vN _ hp)
  unfold WI at h
  by_cases hk:k=.free
  ·subst hk
   obtain⟨c0,hc⟩:=hf (n,.free) vM rfl
   have hc':cells.lookup n=some c0:=hc
   rw[zU (by simp),Vj,hc']at h
   rcases vQ.mp h with h|h
   ·obtain⟨a,b⟩:=VN hr h
    exact⟨vN _ a,b⟩
   ·have e:(x,c)=(n,c0):=by simpa using h
    cases e
    exact⟨vM,hc'⟩
  ·rw[wT (by simpa using hk)]at h
   obtain⟨a,b⟩:=VN hr h
   exact⟨vN _ a,b⟩
theorem OD{cells:List (Str×Addr)}:∀{names:List (Str×NameKind)}{x:Str},(x,.free)∈names->∃c,(x,c)∈WI cells names []
 | [],_,h=>nomatch h
 | (n,k)::r,x,h=>by
  unfold WI
  rcases vP.mp h with e|h
  ·cases e
   rw[zU (by simp),Vj]
   exact⟨_,uH _ vM⟩
  ·obtain⟨c,hc⟩:=OD (cells:=cells) h
   split
   ·rw[Vj];exact⟨c,vR _ hc⟩
   ·exact⟨c,hc⟩
theorem Vb{α:Type}:∀{l:List (Str×α)}{x:Str}{c:α},(x,c)∈l->∃c',l.lookup x=some c'
 | [],_,_,h=>nomatch h
 | (k,v)::r,x,c,h=>by
  rw[yY]
  cases hb:x == k with
  | true=>exact⟨v,rfl⟩
  | false=>
   rcases vP.mp h with e|h
   ·cases e;simp at hb
   ·exact Vb h
theorem lookup_append{α:Type}:∀{l r:List (Str×α)}{x:Str}{c:α},(l++r).lookup x=some c->l.lookup x=some c\/(l.lookup x=none/\r.lookup x=some c)
 | [],r,x,c,h=>.inr ⟨rfl,h⟩
 | (k,v)::l,r,x,c,h=>by
  rw[yZ,yY]at h
  rw[yY]
  cases hb:x == k with
  | true=>rw[hb]at h;exact .inl h
  | false=>rw[hb]at h;exact lookup_append h
theorem Yn:∀(names:List (Str×NameKind)) (n:Nat) (acc:List (Str×Addr)),cellsFrom n names acc=cellsFrom n names []++acc
 | [],_,_=>rfl
 | (x,k)::r,n,acc=>by
  unfold cellsFrom
  split
  ·rw[Yn r (n+1) (_::acc),Yn r (n+1) [_],yV];rfl
  ·exact Yn r n acc
theorem WZ:∀{names:List (Str×NameKind)}{n:Nat}{x:Str}{c:Addr},(x,c)∈cellsFrom n names []->(x,.cell)∈names
 | [],_,_,_,h=>nomatch h
 | (y,k)::r,n,x,c,h=>by
  unfold cellsFrom at h
  by_cases hk:k=.cell
  ·subst hk
   rw[zU (by simp),Yn]at h
   rcases vQ.mp h with h|h
   ·exact vN _ (WZ h)
   ·have e:(x,c)=(y,n):=by simpa using h
    cases e
    exact vM
  ·rw[wT (by simpa using hk)]at h
   exact vN _ (WZ h)
theorem W4{env:Env}:∀{names:List (Str×NameKind)}{x:Str},
  (names.map λ(p:Str×NameKind)=>if(p.2 == NameKind.free&&env.scope.kind == .function&&env.kindOf p.1 == some .cell) then(p.1,NameKind.cell) else(p.1,p.2)).lookup x =
   (names.lookup x).map λk=>if(k == NameKind.free&&env.scope.kind == .function&&env.kindOf x == some .cell) then .cell else k
 | [],_=>rfl
 | (n,k)::r,x=>by
  have ih:=@W4 env r x
  rw[uO]
  by_cases hc:(k == NameKind.free&&env.scope.kind == .function&&env.kindOf n == some .cell)=true
  ·rw[zU hc]
   cases hx:x == n with
   | true=>
    have e:x=n:=by simpa using hx
    subst e
    rw[yY,yY,hx]
    simp only[xA,zU hc]
   | false=>rw[yY,yY,hx];exact ih
  ·rw[wT hc]
   cases hx:x == n with
   | true=>
    have e:x=n:=by simpa using hx
    subst e
    rw[yY,yY,hx]
    simp only[xA,wT hc]
   | false=>rw[yY,yY,hx];exact ih
theorem Sr{M:Model}{A:Around}{E:Value->Shared->Prop}{s:Shared}{scope:Scope}{cl:List (Str×Addr)}{env:Env}{Q:Env->Shared->Prop} 
  (hQ:Q (newEnv scope s.heap.objs.size env.globals (cellsFrom (s.heap.objs.size+1) scope.names cl) env.qual none .none (some env) builtinsNs) { s with heap:=pushCells (s.heap.push { cls:=.type "dict",data:=.dict #[] }) scope.names }) :
  wpAny M A (newFunctionEnv scope env.globals cl [] env.qual none .none (some env)) Q E s:=by
 simp only[newFunctionEnv,Option.isSome_some,yJ]
 refine zW (wpAny_alloc ?_)
 refine zW (wpAny_layCells _ (λname kind cells=>by cases hkc:kind == NameKind.cell<;>simp[hkc]) _ _ _ _ ?_)
 rw[show({ s with heap:=s.heap.push { cls:=.type "dict",data:=.dict #[] } }:Shared).heap.objs.size=s.heap.objs.size+1 from wN ..]
 refine zW ?_
 rw[xB]
 exact zX (zX hQ)
def Rt(X:Cx)(Nc:List Str)(cap:List (Option Nat))(scope:Scope):Bool:=
 (scope.names.all λp=>(p.2 != .free||(X.env.scope.names.lookup p.1 == some .cell||X.env.scope.names.lookup p.1 == some .free))&&(scope.names.lookup p.1 == some p.2)) &&
 (Nc.length == cap.length) &&
 ((Nc.zip cap).all λp=>match p.2 with|none=>true|some j=>(X.N[j]? == some p.1)&&(scope.names.lookup p.1 == some .free))
def capt(cap:List (Option Nat))(σ:St):St:=cap.map λo=>o.bind λj=>(σ[j]?).join
structure Li(X:Cx)(Nc:List Str)(cap:List (Option Nat))(scope:Scope):Prop where
 free:∀p∈scope.names,p.2=.free->X.env.kindOf p.1=some .cell\/X.env.kindOf p.1=some .free
 look:∀p∈scope.names,scope.names.lookup p.1=some p.2
 len:Nc.length=cap.length
 take:∀(i:Nat) (x:Str) (j:Nat),Nc[i]? = some x->cap[i]? = some (some j)->X.N[j]? = some x/\scope.names.lookup x=some .free
theorem Li.of{X:Cx}{Nc:List Str}{cap:List (Option Nat)}{scope:Scope}(h:Rt X Nc cap scope=true):Li X Nc cap scope:=by
 unfold Rt at h
 simp only[yN]at h
 obtain⟨⟨h1,h2⟩,h3⟩:=h
 rw[xC]at h1 h3
 refine⟨λp hp hf=>?_,λp hp=>?_,by simpa using h2,λi x j e1 e2=>?_⟩
 ·have q:=h1 p hp
  simp only[yN,Bool.or_eq_true]at q
  rcases q.1 with q|q|q
  ·rw[hf]at q;simp at q
  ·exact .inl (uL.mp q)
  ·exact .inr (uL.mp q)
 ·have q:=h1 p hp
  simp only[yN]at q
  simpa using q.2
 ·have q:=h3 (x,some j) (by
   refine yG (i:=i) ?_
   rw[xD]
   exact⟨e1,e2⟩)
  simp only[yN]at q
  exact⟨by simpa using q.1,by simpa using q.2⟩
theorem Zu.track{X:Cx}{pins:List (Addr×Obj)}{σ:St}{H:Hp}{s:Shared}{D:Addr}{o:HO}(I:Zu X pins σ H s)(f:Wk X pins H D)(new:YV X.prog X.w (upd H D o) s.heap D o):Zu X pins σ (upd H D o) s:=by
 obtain⟨f0,f1,f2,f3,f4,f5⟩:=f
 have ne:∀b u,H b=some u->b≠D:=λb u e z=>by rw[z,f0]at e;cases e
 exact I.step (g':=s.gens) (d':=s.drawn) (t':=s.toks) (h':=s.heap) (ch:=[D]) (λb hb=>by
   have e:b=D:=by simpa using hb
   subst e
   exact⟨f3,f1,f4,f5⟩) (λb o _ _ _ e _=>e) (λb o _ _ _ e _=>⟨o.slots,e⟩) (λb o hc _ n=>by rw[Zk (λz=>hc (by simp[z]))];exact n) (λb o _ e=>⟨o,e⟩)
  (λb xs e=>by rw[Zk (ne b _ e)];exact e) (λb o u e=>by rw[Zk (ne b _ e)];exact e) (λb ps e=>⟨#[],by rw[Zk (ne b _ e),e];simp⟩) (λm hm=>hm)
  (λb u e=>by
   by_cases hb:b=D
   ·subst hb;rw[Z9]at e;cases e;exact new
   ·rw[Zk hb]at e
    exact(I.hok b u e).stay (λc v _ q=>q) (λc q=>by rw[Zk (ne c _ q)];exact q) λc xs q=>by rw[Zk (ne c _ q)];exact q) I.bare
theorem OF{oA:Obj}(hoA:oA.isFreed=false){X:Cx}{pins:List (Addr×Obj)}{σ:St}{H:Hp}{s:Shared}{fp:List Addr}{Nc:List Str}{cap:List (Option Nat)}{scope:Scope}(I:Zu X pins σ H s)(hf:∀b∈fp,Wk X pins H b)(hlt:∀b∈fp,b<s.heap.objs.size) 
  (ok:Li X Nc cap scope) (hk:scope.kind=.function) :
  Zu (ZW X Nc scope (cellsFrom (s.heap.objs.size+2) scope.names (WI X.env.cells scope.names [])) (s.heap.objs.size+1) s H fp) [] (capt cap σ) H
   { s with heap:=pushCells ((s.heap.push oA).push { cls:=.type "dict",data:=.dict #[] }) scope.names } /\
  (pushCells ((s.heap.push oA).push { cls:=.type "dict",data:=.dict #[] }) scope.names).get? s.heap.objs.size=some oA:=by
 generalize hh1:(s.heap.push oA)=h1
 have z1:h1.objs.size=s.heap.objs.size+1:=by rw[<- hh1,wN]
 generalize hh2:(h1.push { cls:=.type "dict",data:=.dict #[] })=h2
 have z2:h2.objs.size=s.heap.objs.size+2:=by rw[<- hh2,wN,z1]
 have up:∀b o,s.heap.get? b=some o->(pushCells h2 scope.names).get? b=some o:=λb o e=>xE _ _ b o (by rw[<- hh2,<- hh1];exact wJ _ (wJ _ e))
 have hD:(pushCells h2 scope.names).get? s.heap.objs.size=some oA:=xE _ _ _ _ (by rw[<- hh2,<- hh1];exact wJ _ (wK _ hoA))
 refine⟨?_,hD⟩
 have hns:(pushCells h2 scope.names).Ns (s.heap.objs.size+1) (λ_=>none):=by
  have q:=Heap.Ns.new h1 (.type "dict")
  rw[hh2,z1]at q
  exact q.keeps λb o e=>xE _ _ b o e
 have okc:=cellsFrom_ok scope.names h2 (s.heap.objs.size+2) [] ⟨λ_ _ hm=>(nomatch hm),yS⟩ (by rw[z2];exact zK _)
 rw[z2]at okc
 have hcl:∀p∈scope.names,p.2=.free->∃c,X.env.cells.lookup p.1=some c:=λp hp e=>I.ok.has p.1 (ok.free p hp e)
 -- a name of the block's cells: its own,or one that is taken
 have cse:∀x c,(cellsFrom (s.heap.objs.size+2) scope.names (WI X.env.cells scope.names [])).lookup x=some c ->
   ((x,c)∈cellsFrom (s.heap.objs.size+2) scope.names []/\scope.names.lookup x=some .cell/\s.heap.objs.size+2≤c)\/(scope.names.lookup x=some .free/\X.env.cells.lookup x=some c/\c<s.heap.objs.size):=λx c e=>by
  rw[Yn]at e
  rcases lookup_append e with e|⟨_,e⟩
  ·have m:=yD e
   exact .inl ⟨m,ok.look _ (WZ m),(okc.empty x c m).2⟩
  ·obtain⟨a,b⟩:=VN hcl (yD e)
   obtain⟨v,q⟩:=I.cell x c b
   exact .inr ⟨ok.look _ a,b,q.lt⟩
 have kn:∀x,(compEnvC scope (cellsFrom (s.heap.objs.size+2) scope.names (WI X.env.cells scope.names [])) (s.heap.objs.size+1) X.env).kindOf x=(scope.names.lookup x).map λk=>if(k == NameKind.free&&X.env.scope.kind == .function&&X.env.kindOf x == some .cell) then .cell else k:=λx=>W4
 have has:∀x,scope.names.lookup x=some .cell\/scope.names.lookup x=some .free->∃c,(cellsFrom (s.heap.objs.size+2) scope.names (WI X.env.cells scope.names [])).lookup x=some c:=λx h=>by
  rw[Yn]
  rcases h with h|h
  ·obtain⟨c,hc⟩:=yB.mp (yA scope.names (s.heap.objs.size+2) [] (.inl h))
   exact Vb (vR _ (yD hc))
  ·obtain⟨c,hc⟩:=OD (cells:=X.env.cells) (yD h)
   exact Vb (uH _ hc)
 have kfree:∀x,scope.names.lookup x=some .free->(compEnvC scope (cellsFrom (s.heap.objs.size+2) scope.names (WI X.env.cells scope.names [])) (s.heap.objs.size+1) X.env).kindOf x=some .cell\/(compEnvC scope (cellsFrom (s.heap.objs.size+2) scope.names (WI X.env.cells scope.names [])) (s.heap.objs.size+1) X.env).kindOf x=some .free:=λx h=>by
  rw[kn x,h]
  simp only[xA]
  split
  ·exact .inl rfl
  ·exact .inr rfl
 refine⟨⟨I.ok.mod,hk,I.ok.glob,I.ok.blt,wO _,λx y c h1 h2=>?_,λx h=>?_,λx c h1 h2=>?_,λh=>Rk.at (X:=X) I (I.ok.hd h),I.ok.cd,I.ok.frames,.inl rfl,λb hb=>⟨vC (zO (hlt b hb)),λx c e=>?_⟩,I.bs,zF I.ok.bsz I.sz,λb o e hb=>?_,λb hb hm=>?_,I.stack,I.stkFree⟩,
  rfl,I.bare,Un.kept up,⟨λ_=>none,hns,λi x v e1 e2 e3=>?_⟩,λx c e=>?_,I.hok.fresh (wO _),λx c e=>?_,λp hp=>absurd (show p∈([]:List (Addr×Obj)) from hp) (by simp),I.hok.kept up,?_⟩
 ·rcases cse x c h1 with ⟨m1,_,l1⟩|⟨_,b1,l1⟩<;>rcases cse y c h2 with ⟨m2,_,l2⟩|⟨_,b2,l2⟩
  ·exact name_of_addr okc.apart m1 m2
  ·exact absurd (zI l2 (zF (zM _ 2) l1)) (vJ _)
  ·exact absurd (zI l1 (zF (zM _ 2) l2)) (vJ _)
  ·exact I.ok.inj x y c b1 b2
 ·refine has x ?_
  have h':(compEnvC scope (cellsFrom (s.heap.objs.size+2) scope.names (WI X.env.cells scope.names [])) (s.heap.objs.size+1) X.env).kindOf x=some .cell\/(compEnvC scope (cellsFrom (s.heap.objs.size+2) scope.names (WI X.env.cells scope.names [])) (s.heap.objs.size+1) X.env).kindOf x=some .free:=h
  rw[kn x]at h'
  cases q:scope.names.lookup x with
  | none=>rw[q]at h';rcases h' with h' | h'<;>cases h'
  | some k=>
   rw[q]at h'
   simp only[xA]at h'
   cases k<;>simp_all
 ·have h1':(scope.names.lookup x == some NameKind.cell)=true:=h1
  rcases cse x c h2 with ⟨_,_,l⟩|⟨q,_,_⟩
  ·exact zF (zM _ 2) l
  ·rw[q]at h1';cases h1'
 ·rcases cse x c e with ⟨_,_,l⟩|⟨_,q,_⟩
  ·have h3:=hlt b hb
   exact λz=>absurd (zI h3 (zF (zM _ 2) (z▸l))) (vJ _)
  ·exact(hf b hb).2.2.2.2.1 x c q
 ·rcases(hf b hb).2.2.2.1 with z|z
  ·exact I.ok.noex b o e z
  ·exact absurd (zI (zI (wM e) I.ok.bsz) z) (vJ _)
 ·rcases vP.mp (I.stkSub b hm) with z|z
  ·exact(hf b hb).2.1 z
  ·exact(hf b hb).2.2.1 z
 ·-- the names that are taken
  have e2':(cap[i]?).map (λo=>o.bind λj=>(σ[j]?).join)=some (some v):=by
   have:(capt cap σ)[i]? = some (some v):=e2
   unfold capt at this
   rwa [yF]at this
  cases q:cap[i]? with
  | none=>rw[q]at e2';cases e2'
  | some o=>
   rw[q]at e2'
   cases o with
   | none=>cases e2'
   | some j=>
    obtain⟨n1,n2⟩:=ok.take i x j e1 q
    have hj:σ[j]? = some (some v):=by
     have w:(σ[j]?).join=some v:=vV e2'
     cases r:σ[j]? with
     | none=>rw[r]at w;cases w
     | some o=>rw[r]at w;rw[show o=some v from w]
    have vis:C8 X.env.scope x:=by
     rcases ok.free _ (yD n2) rfl with z|z
     ·exact .inr (.inl z)
     ·exact .inr (.inr z)
    obtain⟨m,hn,hl⟩:=I.loc
    obtain⟨u,ru,lk⟩:=hl j x v n1 hj vis
    refine⟨u,ru,.inr ⟨kfree x n2,?_⟩⟩
    obtain⟨c,hc⟩:=has x (.inr n2)
    rcases cse x c hc with ⟨_,w,_⟩|⟨_,w,_⟩
    ·rw[n2]at w;cases w
    ·rcases lk with ⟨k,_⟩|⟨_,c',w',ic⟩
     ·rcases ok.free _ (yD n2) rfl with z|z<;>(have z':X.env.kindOf x=_:=z;rw[k]at z';cases z')
     ·rw[w]at w';cases w'
      obtain⟨oc,ho,hd⟩:=ic
      exact⟨c,hc,oc,up _ _ ho,hd⟩
 ·rcases cse x c e with ⟨m,_,_⟩|⟨_,q,_⟩
  ·exact⟨_,(okc.empty x c m).1⟩
  ·obtain⟨v,oc,ho,hd⟩:=I.cell x c q
   exact⟨v,oc,up _ _ ho,hd⟩
 ·rcases cse x c e with ⟨m,_,l⟩|⟨_,q,_⟩
  ·exact I.hok.fresh (zF (zM _ 2) l)
  ·exact I.freeC x c q
 ·show(capt cap σ).length=Nc.length
  unfold capt
  rw[Wb,ok.len]
def U3(Y:Cx)(pins:List (Addr×Obj))(D:Addr)(ys:List V)(H:Hp)(s:Shared):Prop:=Wk Y pins H D/\ys.length≤sizeLine/\∃us,ZH ys us/\s.heap.get? D=some (VY us)
abbrev LK:=List V->St->Hp->Prop
abbrev TL:=List V->St->Hp->LK->Prop
def LP(Y:Cx)(pins:List (Addr×Obj))(D:Addr)(Q:LK)(s':Shared):Prop:=∃ys σ H,Zu Y pins σ H s'/\U3 Y pins D ys H s'/\Q ys σ H
def PL(Y:Cx)(body:Value->Sem Unit)(t:TL):Prop:=
 ∀(D:Addr) (pins:List (Addr×Obj)) (s:Shared) (σ:St) (H:Hp) (ys:List V) (Q:LK),Zu Y pins σ H s->U3 Y pins D ys H s->t ys σ H Q ->
  wpAny (model Y.prog Y.w) Y.A (body (.ref D)) (λ_ s'=>LP Y pins D Q s') Y.xe s
def Rh(ifs:List Expr)(env:Env):Sem Bool:=forIn ifs true λc r=>if r=true then do let ok <- isTrue c env (eval c env);pure (ForInStep.yield ok) else pure (ForInStep.yield r)
def FL(Y:Cx)(ifs:List Expr)(t:TT):Prop:=
 ∀(pins:List (Addr×Obj)) (s:Shared) (σ:St) (H:Hp) (Q:Bool->Hp->Prop),Zu Y pins σ H s->t σ H Q->wpAny (model Y.prog Y.w) Y.A (Rh ifs Y.env) (TP Y pins σ Q) Y.xe s
def Jz:TT:=λ_ H Q=>Q true H
section
variable {Y:Cx}
theorem EL:FL Y [] Jz:=λpins s σ H Q I h=>zX ⟨H,I,h⟩
theorem EM{c:Expr}{t:TT}(h:PT Y c t):FL Y [c] t:=λpins s σ H Q I hw=>wpAny_tests_one (h pins s σ H Q I hw)
theorem U3.pin{pins:List (Addr×Obj)}{D:Addr}{ys:List V}{σ:St}{H:Hp}{s:Shared}{us:List Value}(I:Zu Y pins σ H s)(f:Wk Y pins H D)(e:s.heap.get? D=some (VY us)):Zu Y (pins++[(D,VY us)]) σ H s:=
 I.pins_of λp hp=>(vQ.mp hp).elim (λz=>I.pin p (uH _ z)) λz=>by
  have z':p=(D,VY us):=by simpa using z
  subst z'
  exact⟨e,f.1,f.2.1,f.2.2.1,λv q=>by cases q⟩
def S0(te:TE):TL:=λys σ H Q=>ys.length<sizeLine/\te σ H λv H'=>Q (ys++[v]) σ H'
def IC(elt:Expr)(env:Env)(acc:Value):Sem Unit:=eval elt env>>=λx=>call (.builtin "list.append") [acc,x]>>=λ_=>pure ()
theorem Ke{elt:Expr}{te:TE}(he:PE Y elt te):PL Y (IC elt Y.env) (S0 te):=by
 rintro D pins s σ H ys Q I ⟨f,hz,us,r,e⟩ ⟨hl,h⟩
 have I':=U3.pin (ys:=ys) I f e
 refine zW (YB (he _ s σ H _ I' h) λu s1 ⟨v,H1,I1,rv,q⟩=>?_)
 obtain⟨p1,p2,p3,p4,p5⟩:=I1.pin (D,VY us) (by simp)
 have hlen:=r.length
 refine zW (append_at (hsz:=by rw[yK];omega) p1 λh' sb hD=>zX ⟨ys++[v],σ,H1,?_,⟨⟨p2,f.2⟩,?_,us++[u],r.append (.cons rv .nil),?_⟩,q⟩)
 ·exact I1.unpinned.turned (t':=s1.toks) (λb o hb e=>sb.extBut b o hb e) p2 f.2.1 f.2.2.2.1 f.2.2.2.2.1 f.2.2.2.2.2
 ·rw[yH,yP];omega
 ·show h'.get? D=_
  rw[hD]
  show some ({ cls:=.type "list",data:=.seq (us.toArray.push u) (us.length+1) }:Obj)=some { cls:=.type "list",data:=.seq (us++[u]).toArray (us++[u]).length }
  rw[yH,yP,List.push_toArray]
def O4(tg iter:Expr)(ifs:List Expr)(body:Value->Sem Unit)(c:Code)(it acc:Value)(env:Env):Sem Fin:=
 standAt iter.pos>>=λ_=>pyNext it>>=λr=>match r with
  | none=>pure (.done .next)
  | some v=>letOwnedTupleGo tg it v>>=λ_=>assign tg env v>>=λ_=>Rh ifs env>>=λok=>if ok=true then(body acc>>=λ_=>again c) else again c
def Lm(J:It)(g:TG)(tt:TT)(tb:TL)(Q:LK)(W:Nat->List V->Nat->St->Hp->Prop):Prop:=∀i ys m σ H,W i ys m σ H ->
 (J.stop i H/\Q ys σ H)\/(J.go i H/\∃N:LK,(∀ys' σ' H',N ys' σ' H'->∃m',m' < m/\W (i+1) ys' m' σ' H')/\∀x H',J.yld i H x H'->g x σ H' λσ2 H2=>tt σ2 H2 λb H3=>if b=true then tb ys σ2 H3 N else N ys σ2 H3)
theorem KA{tg iter:Expr}{ifs:List Expr}{elt:Expr}{gens:List Comprehension}{scope:Scope}{pos:Pos}{d:Nat}{body:Value->Sem Unit}{g:TG}{tt:TT}{tb:TL}{J:It}{fp:List Addr}{it:Addr}{tn:Nat->Heap->Prop}{D:Addr}{Q:LK} 
  {R:Result->Shared->Prop}{W:Nat->List V->Nat->St->Hp->Prop}{pins:List (Addr×Obj)}{s:Shared}{σ:St}{H:Hp}{ys:List V}{m:Nat}
  (hx:∀v s,Y.xe v s->False) (hc:Y.cold=true\/(J.mild=true/\Y.calm=true)) (T:O8 Y.prog Y.w Y.K tg J fp it tn) (hg:PG Y tg g) (ht:FL Y ifs tt) (hb:PL Y body tb)
  (hturn:compTurn (.ListComp elt gens scope pos) d (.ref it) (.ref D) Y.env=O4 tg iter ifs body (.compLoop (.ListComp elt gens scope pos) d (.ref it) (.ref D) Y.env) (.ref it) (.ref D) Y.env)
  (I:Zu Y pins σ H s) (a:U3 Y pins D ys H s) (st:tn 0 s.heap) (hf:∀b∈fp,Wk Y pins H b) (hD:D ∉ fp) (w0:W 0 ys m σ H) (turn:Lm J g tt tb Q W) (hR:∀s',LP Y pins D Q s'->R (.ok .next) s') :
  codeAny (model Y.prog Y.w) Y.A (.compLoop (.ListComp elt gens scope pos) d (.ref it) (.ref D) Y.env) R s:=by
 refine codeAny_loop rfl (λn s'=>∃i ys σ' H',Zu Y pins σ' H' s'/\U3 Y pins D ys H' s'/\tn i s'.heap/\(∀b∈fp,H' b=none)/\W i ys n σ' H') ?_ m ⟨0,ys,σ,H,I,a,st,λb hb=>(hf b hb).1,w0⟩
 rintro n s3 ⟨i,ys3,σ3,H3,I3,⟨f3,hz3,us,r3,e3⟩,st3,fr3,w3⟩
 show wpAny _ Y.A ((compTurn (.ListComp elt gens scope pos) d (.ref it) (.ref D) Y.env).onRaise (λx=>do noteFrame x Y.env;theTreesLotGoes x)) _ _ s3
 refine wpAny_noted ?_
 rw[hturn]
 have I3':=U3.pin (ys:=ys3) I3 f3 e3
 -- the iterator's records are apart from D
 have stat:∀{H':Hp},(∀b∈fp,H' b=none)->∀b∈fp,Wk Y (pins++[(D,VY us)]) H' b:=λhn b hb=>by
  obtain⟨_,q1,q2,q3,q4,q5⟩:=hf b hb
  refine⟨hn b hb,q1,q2,q3,q4,λp hp=>?_⟩
  rcases vQ.mp hp with z|z
  ·exact q5 p (vR _ z)
  ·rcases vQ.mp z with z|z
   ·exact q5 p (uH _ z)
   ·have z':p=(D,VY us):=by simpa using z
    subst z'
    exact λy=>hD ((show D=b from y).symm▸hb)
 have no:∀{α:Type}{t:Sem α}{Q1 Q2:α->Shared->Prop}{E:Value->Shared->Prop}{s':Shared},wpAny (model Y.prog Y.w) Y.A t Q1 Y.xe s'->(∀a s,Q1 a s->Q2 a s)->wpAny (model Y.prog Y.w) Y.A t Q2 E s':=λh q=>vW h q λv s x=>(hx v s x).elim
 rcases turn i ys3 n σ3 H3 w3 with ⟨stop,qn⟩|⟨go,N,hN,step⟩
 ·refine zW (vG (zW (no (T.done Y rfl rfl rfl hc i _ s3 σ3 H3 Y.xe I3' (stat fr3) st3 stop) λr s4 ⟨hr,I4⟩=>?_)))
  subst hr
  obtain⟨p1,p2,_⟩:=I4.pin (D,VY us) (by simp)
  exact zX (hR _ ⟨ys3,σ3,H3,I4.unpinned,⟨f3,hz3,us,r3,p1⟩,qn⟩)
 ·refine zW (vG (zW (no (T.item Y rfl rfl rfl hc i _ s3 σ3 H3 Y.xe I3' (stat fr3) st3 go) λr s4 ⟨u,hr,h4⟩=>?_)))
  subst hr
  refine zW (no h4 λ_ s5 ⟨x,H5,I5,r5,y5,st5,fr5⟩=>?_)
  have I5':=I5.pinned (stat fr5) (T.obj _ _ st5)
  refine zW (no (hg _ s5 σ3 H5 x u _ I5' r5 (step x H5 y5)) λ_ s6 ⟨σ6,H6,I6,q6⟩=>?_)
  refine zW (no (ht _ s6 σ6 H6 _ I6 q6) λok s7 ⟨H7,I7,q7⟩=>?_)
  have pD:=I7.pin (D,VY us) (by simp)
  have I7':Zu Y (pins++Ua fp s5.heap) σ6 H7 s7:=I7.pins_of λp hp=>by
   rcases vQ.mp hp with z|z
   ·exact I7.pin p (uH _ (vR _ (vR _ z)))
   ·exact I7.pin p (uH _ (uH _ z))
  have a7:U3 Y (pins++Ua fp s5.heap) D ys3 H7 s7:=by
   refine⟨⟨pD.2.1,f3.2.1,f3.2.2.1,f3.2.2.2.1,f3.2.2.2.2.1,λp hp=>?_⟩,hz3,us,r3,pD.1⟩
   rcases vQ.mp hp with z|z
   ·exact f3.2.2.2.2.2 p (vR _ z)
   ·rcases vQ.mp z with z|z
    ·exact f3.2.2.2.2.2 p (uH _ z)
    ·exact λy=>hD (y▸(Pd z).1)
  have fin:∀{ys8:List V}{σ8:St}{H8:Hp}{s8:Shared},Zu Y (pins++Ua fp s5.heap) σ8 H8 s8->U3 Y (pins++Ua fp s5.heap) D ys8 H8 s8->(∃m',m' < n/\W (i+1) ys8 m' σ8 H8) ->
    ∃m,m<n/\∃i ys σ' H',Zu Y pins σ' H' s8/\U3 Y pins D ys H' s8/\tn i s8.heap/\(∀b∈fp,H' b=none)/\W i ys m σ' H':=λ{ys8 σ8 H8 s8} I8 a8 ⟨m',hm,w8⟩=>by
   refine⟨m',hm,i+1,ys8,σ8,H8,I8.unpinned,⟨⟨a8.1.1,f3.2⟩,a8.2⟩,T.keep _ _ _ st5 λb hb o e=>(I8.pin (b,o) (uH _ (uH _ (V6 hb e)))).1,λb hb=>?_,w8⟩
   obtain⟨o,e,_⟩:=T.obj _ _ st5 b hb
   exact(I8.pin (b,o) (uH _ (uH _ (V6 hb e)))).2.1
  cases ok with
  | true=>
   rw[zU rfl]at q7 |-
   refine zW (no (hb D _ s7 σ6 H7 ys3 _ I7' a7 q7) λ_ s8 ⟨ys8,σ8,H8,I8,a8,q8⟩=>?_)
   exact zX ⟨rfl,fin I8 a8 (hN _ _ _ q8)⟩
  | false=>
   rw[wT wU]at q7 |-
   exact zX ⟨rfl,fin I7' a7 (hN _ _ _ q7)⟩
theorem Py{elt tg iter:Expr}{ifs:List Expr}{gens:List Comprehension}{scope:Scope}{pos:Pos}{d:Nat}{it acc:Value}{env:Env}{R:Result->Shared->Prop}{prog:Program}{w:World}{A:Around}{s:Shared}(hd:gens[d]? = some ⟨tg,iter,ifs,0⟩) 
  (h0:codeAny (model prog w) A (.compLoop (.ListComp elt gens scope pos) d it acc env) R s)
  (h:wpAny (model prog w) A (pyIter it) (λit' s'=>codeAny (model prog w) A (.compLoop (.ListComp elt gens scope pos) d it' acc env) R s') (notedBy (model prog w) A env λx s'=>R (.error x) s') s) :
  codeAny (model prog w) A (.compStart (.ListComp elt gens scope pos) d it acc env) R s:=by
 refine codeAny_of_tree ?_
 show wpAny _ _ ((compStart (.ListComp elt gens scope pos) d it acc env).onRaise (λx=>do noteFrame x env;standAt theWindowsPlace)) _ _ s
 refine wpAny_notedAt ?_
 unfold compStart
 simp only[clausesOf,hd,Option.elim]
 show wpAny _ _ (ask>>=_) _ _ s
 refine zW (wpAny_askSetting (wpAny_ite ?_))
 split
 ·first
   | exact zW (zX (zX (xF rfl h0)))
   | exact zX (xF rfl h0)
 ·first
   | exact zW (wY (zW (vG (zW (vW h (λit' s' h'=>zX (xF rfl h')) λ_ _ x=>x)))))
   | (refine zW (wY ?_);show wpAny _ _ (standAt iter.pos>>=_) _ _ s;exact zW (vG (zW (vW h (λit' s' h'=>zX (xF rfl h')) λ_ _ x=>x))))
end
section
variable {X:Cx}
def Qq(wi:TI)(cap:List (Option Nat))(g:TG)(tt:TT)(tb:TL):TE:=λσ H Q=>wi σ H λJ H1=>∃W:Nat->List V->Nat->St->Hp->Prop,(∃m,W 0 [] m (capt cap σ) H1)/\Lm J g tt tb (λys _ H'=>∀p,H' p=none->Q (.ref p) (upd H' p (.lst ys))) W
theorem Mt{pins:List (Addr×Obj)}{σ:St}{H2:Hp}{s2:Shared}{fp:List Addr}{Nc:List Str}{scope:Scope}{cs Y}(I2:Zu X pins σ H2 s2)(f2:∀b∈fp,Wk X pins H2 b)(hlt:∀b∈fp,b<s2.heap.objs.size)(hcl:∀p∈scope.names,p.2=.free->∃c,X.env.cells.lookup p.1=some c) 
  (hcs:cellsFrom (s2.heap.objs.size+2) scope.names (WI X.env.cells scope.names [])=cs) (hY:ZW X Nc scope cs (s2.heap.objs.size+1) s2 H2 fp=Y):Wk Y [] H2 s2.heap.objs.size/\∀b∈fp,Wk Y [] H2 b:=by
 have fD:Wk X pins H2 s2.heap.objs.size:=I2.fpOk (zK _) (I2.hok.fresh (zK _))
 have cse:∀x c,cs.lookup x=some c->c<s2.heap.objs.size\/s2.heap.objs.size+2≤c:=λx c e=>by
  rw[<- hcs,Yn]at e
  have okz:=cellsFrom_ok scope.names ((s2.heap.push (VY [])).push { cls:=.type "dict",data:=.dict #[] }) (s2.heap.objs.size+2) [] ⟨λ_ _ hm=>(nomatch hm),yS⟩ (by rw[wN,wN];exact zK _)
  rw[wN,wN]at okz
  rcases lookup_append e with e|⟨_,e⟩
  ·exact .inr (okz.empty x c (yD e)).2
  ·obtain⟨_,b⟩:=VN hcl (yD e)
   obtain⟨v,q⟩:=I2.cell x c b
   exact .inl q.lt
 constructor
 ·rw[<- hY]
  refine⟨fD.1,vC (uQ _),λhm=>?_,.inr (zK _),λx c e q=>?_,λp hp=>absurd (show p∈([]:List (Addr×Obj)) from hp) (by simp)⟩
  ·rcases vP.mp (I2.stkSub _ hm) with q|q
   ·exact fD.2.1 q
   ·exact fD.2.2.1 q
  ·rcases cse x c e with l|l
   ·rw[q]at l;exact absurd l (vJ _)
   ·rw[q]at l;exact absurd (zI (zO (uQ _)) l) (vJ _)
 ·intro b hb
  rw[<- hY]
  obtain⟨q0,q1,q2,q3,q4,q5⟩:=f2 b hb
  have hb':=hlt b hb
  refine⟨q0,vC (zO hb'),λhm=>?_,.inl hb,λx c e q=>?_,λp hp=>absurd (show p∈([]:List (Addr×Obj)) from hp) (by simp)⟩
  ·rcases vP.mp (I2.stkSub _ hm) with q|q
   ·exact q1 q
   ·exact q2 q
  ·rw[<- hcs,Yn]at e
   rcases cse x c (by rw[<- hcs,Yn];exact e) with l|l
   ·rcases lookup_append e with e|⟨_,e⟩
    ·have okz:=cellsFrom_ok scope.names ((s2.heap.push (VY [])).push { cls:=.type "dict",data:=.dict #[] }) (s2.heap.objs.size+2) [] ⟨λ_ _ hm=>(nomatch hm),yS⟩ (by rw[wN,wN];exact zK _)
     rw[wN,wN]at okz
     have l2:=(okz.empty x c (yD e)).2
     exact absurd (zI l (zF (zM _ 2) l2)) (vJ _)
    ·obtain⟨_,b2⟩:=VN hcl (yD e)
     exact q4 x c b2 q
   ·rw[q]at l;exact absurd (zI hb' (zF (zM _ 2) l)) (vJ _)
theorem QM{elt tg iter:Expr}{ifs:List Expr}{rest:List Comprehension}{scope:Scope}{pos p0:Pos}{Nc:List Str}{cap:List (Option Nat)}{body:Env->Value->Sem Unit}{wi:TI}{g:TG}{tt:TT}{tb:TL}{use:Option (Value->Sem Unit)}{Q:Value->Shared->Prop} 
  {pins:List (Addr×Obj)}{s:Shared}{σ:St}{H:Hp}{P:VK}
  (hk:scope.kind=.function) (hc:X.calm=true) (hi:PI X tg iter wi) (ok:Rt X Nc cap scope=true)
  (hg:∀cs C s H fp,PG (ZW X Nc scope cs C s H fp) tg g) (ht:∀cs C s H fp,FL (ZW X Nc scope cs C s H fp) ifs tt) (hb:∀cs C s H fp,PL (ZW X Nc scope cs C s H fp) (body (compEnvC scope cs C X.env)) tb)
  (hturn:∀it acc env,compTurn (.ListComp elt (⟨tg,iter,ifs,0⟩::rest) scope pos) 0 it acc env=O4 tg iter ifs (body env) (.compLoop (.ListComp elt (⟨tg,iter,ifs,0⟩::rest) scope pos) 0 it acc env) it acc env)
  (hs:∀x,foldedSetIterable iter X.env x=pure x) (I:Zu X pins σ H s) (h:Qq wi cap g tt tb σ H P)
  (hend:∀(D C:Addr) (H':Hp) (s':Shared),Zu X pins σ H' s'->Wk X pins H' D->Wk X pins H' C->C≠D->(∃m,s'.heap.Ns C m)->(∃ys us,ZH ys us/\ys.length≤sizeLine/\s'.heap.get? D=some (VY us)/\P (.ref D) (upd H' D (.lst ys))) ->
   compPost (model X.prog X.w) X.A X.xe use Q (.ref D) C (.ok .next) s') :
  wpAny (model X.prog X.w) X.A (comprehension (.ListComp elt (⟨tg,iter,ifs,0⟩::rest) scope pos) scope X.env p0 (newList []) false (eval iter X.env) use) Q X.xe s:=by
 have okc:=Li.of ok
 have hcl:∀p∈scope.names,p.2=.free->∃c,X.env.cells.lookup p.1=some c:=λp hp e=>I.ok.has p.1 (okc.free p hp e)
 refine wpAny_comprehension_free rfl hs (Qx hcl) hk (λp hp e=>by rw[okc.look p hp,e]) (YB (hi pins s σ H _ I h) λv s1 h1=>YB h1 λitv s2 h2=>?_)
 obtain⟨it,fp,tn,J,H2,e2,I2,T,st2,f2,hm,W,⟨m0,w0⟩,turn⟩:=h2
 subst e2
 refine wH (Sr ?_)
 dsimp only
 have z:(s2.heap.push { cls:=.type "list",dict:=none,data:=.seq ([]:List Value).toArray }).objs.size=s2.heap.objs.size+1:=wN ..
 rw[z]
 have hlt:∀b∈fp,b<s2.heap.objs.size:=λb hb=>by obtain⟨o,e,_⟩:=T.obj _ _ st2 b hb;exact wM e
 obtain⟨J3,hD⟩:=OF (oA:=VY []) rfl I2 f2 hlt okc hk
 generalize hcs:cellsFrom (s2.heap.objs.size+2) scope.names (WI X.env.cells scope.names [])=cs at J3
 generalize hY:ZW X Nc scope cs (s2.heap.objs.size+1) s2 H2 fp=Y at J3
 have up:∀b o,s2.heap.get? b=some o->(pushCells ((s2.heap.push (VY [])).push { cls:=.type "dict",data:=.dict #[] }) scope.names).get? b=some o:=λb o e=>xE _ _ b o (wJ _ (wJ _ e))
 have st3:tn 0 (pushCells ((s2.heap.push (VY [])).push { cls:=.type "dict",data:=.dict #[] }) scope.names):=T.keep _ _ _ st2 λb _ o e=>up b o e
 -- the new list's place
 have fD:Wk X pins H2 s2.heap.objs.size:=I2.fpOk (zK _) (I2.hok.fresh (zK _))
 have fC:Wk X pins H2 (s2.heap.objs.size+1):=I2.fpOk (wO _) (I2.hok.fresh (wO _))
 obtain⟨fDY,fpY⟩:=Mt I2 f2 hlt hcl hcs hY
 have hYe:Y.env=compEnvC scope cs (s2.heap.objs.size+1) X.env:=by rw[<- hY];rfl
 have fin:∀s',LP Y [] s2.heap.objs.size (λys _ H'=>∀p,H' p=none->P (.ref p) (upd H' p (.lst ys))) s'->compPost (model X.prog X.w) X.A X.xe use Q (.ref s2.heap.objs.size) (s2.heap.objs.size+1) (.ok .next) s':=by
  rintro s' ⟨ys,σ',H',J',⟨fD',hz,us,rv,eD⟩,q⟩
  have ub:Un (LB X.stack) fp H2 H' s2.heap s'.heap:=by have b:=J'.base;rw[<- hY]at b;exact b
  have os:s'.os=s2.os:=by have b:=J'.os;rw[<- hY]at b;exact b
  have hokX:U5 X.prog X.w H' s'.heap:=by have b:=J'.hok;rw[<- hY]at b;exact b
  have hCn:H' (s2.heap.objs.size+1)=none:=by have b:=J'.free;rw[<- hY]at b;exact b
  have hns:∃m,s'.heap.Ns (s2.heap.objs.size+1) m:=by obtain⟨m,b,_⟩:=J'.loc;rw[<- hY]at b;exact⟨m,b⟩
  have IX:Zu X pins σ H' s':=I2.call' os ub hokX J'.bare λb hb=>by
   obtain⟨q0,q1,q2,q3,q4,q5⟩:=f2 b hb
   exact⟨q3,q1,q4,q5⟩
  exact hend _ _ H' s' IX ⟨fD'.1,fD.2⟩ ⟨hCn,fC.2⟩ (zP (uQ _)) hns ⟨ys,us,rv,hz,eD,q _ fD'.1⟩
 have loop:codeAny (model X.prog X.w) X.A (.compLoop (.ListComp elt (⟨tg,iter,ifs,0⟩::rest) scope pos) 0 (.ref it) (.ref s2.heap.objs.size) (compEnvC scope cs (s2.heap.objs.size+1) X.env)) (compPost (model X.prog X.w) X.A X.xe use Q (.ref s2.heap.objs.size) (s2.heap.objs.size+1))
   { s2 with heap:=pushCells ((s2.heap.push (VY [])).push { cls:=.type "dict",data:=.dict #[] }) scope.names }:=by
  subst hY
  exact KA (Y:=ZW X Nc scope cs (s2.heap.objs.size+1) s2 H2 fp) (λ_ _ f=>f) hm T (hg _ _ _ _ _) (ht _ _ _ _ _) (hb _ _ _ _ _) (hturn _ _ _) J3 ⟨fDY,zL _,[],.nil,hD⟩ st3 fpY (λhm=>absurd (hlt _ hm) (vJ _)) w0 turn fin
 exact Py rfl loop (T.self _ 0 _ _ _ st3 loop)
theorem OE{pins:List (Addr×Obj)}{σ:St}{H':Hp}{s':Shared}{D C:Addr}{P:VK}(I:Zu X pins σ H' s')(fD:Wk X pins H' D)(fC:Wk X pins H' C)(ne:C≠D) 
  (q:∃ys us,ZH ys us/\ys.length≤sizeLine/\s'.heap.get? D=some (VY us)/\P (.ref D) (upd H' D (.lst ys))):∃H1,Zu X pins σ H1 s'/\P (.ref D) H1/\Wk X pins H1 C:=by
 obtain⟨ys,us,rv,hz,eD,q⟩:=q
 exact⟨_,I.track (o:=.lst ys) fD ⟨hz,us,_,rv,eD⟩,q,by rw[Zk ne];exact fC.1,fC.2⟩
theorem E8{elt tg iter:Expr}{ifs:List Expr}{scope:Scope}{pos:Pos}{Nc:List Str}{cap:List (Option Nat)}{wi:TI}{g:TG}{tt:TT}{te:TE} 
  (hc:X.calm=true) (hi:PI X tg iter wi) (ok:Rt X Nc cap scope=true) (hg:∀cs C s H fp,PG (ZW X Nc scope cs C s H fp) tg g) (ht:∀cs C s H fp,FL (ZW X Nc scope cs C s H fp) ifs tt)
  (he:∀cs C s H fp,PE (ZW X Nc scope cs C s H fp) elt te) (hk:scope.kind=.function:=by rfl) (hs:∀x,foldedSetIterable iter X.env x=pure x:=by intro _;rfl) :
  PE X (.ListComp elt [⟨tg,iter,ifs,0⟩] scope pos) (Qq wi cap g tt (S0 te)):=by
 intro pins s σ H P I h
 rw[eval_ListComp]
 refine QM (body:=λenv=>IC elt env) hk hc hi ok hg ht (λcs C s H fp=>Ke (he cs C s H fp)) (λit acc env=>?_) hs I h λD C H' s' I' fD fC ne hn q=>?_
 ·rw[compTurn_list]
  unfold O4 Rh IC
  congr 1
 ·obtain⟨H1,I1,q1,f1⟩:=OE I' fD fC ne q
  obtain⟨m,hm⟩:=hn
  exact⟨m,hm,λh'' sb=>⟨.ref D,H1,I1.turned (t':=s'.toks) (λb o hb e=>sb.extBut b o hb e) f1.1 f1.2.1 f1.2.2.2.1 f1.2.2.2.2.1 f1.2.2.2.2.2,rfl,q1⟩⟩
theorem MR{i:Nat}{x:Str}{elt tg iter:Expr}{ifs:List Expr}{scope:Scope}{pos pos' spos:Pos}{Nc:List Str}{cap:List (Option Nat)}{wi:TI}{g:TG}{tt:TT}{te:TE} 
  (hN:X.N.Nodup) (hx:X.N[i]? = some x) (hl:D6 X.env.scope x)
  (hc:X.calm=true) (hi:PI X tg iter wi) (ok:Rt X Nc cap scope=true) (hg:∀cs C s H fp,PG (ZW X Nc scope cs C s H fp) tg g) (ht:∀cs C s H fp,FL (ZW X Nc scope cs C s H fp) ifs tt)
  (he:∀cs C s H fp,PE (ZW X Nc scope cs C s H fp) elt te) (hsw:swapsWith (.ListComp elt [⟨tg,iter,ifs,0⟩] scope pos) (some (.Name x pos')) spos.line X.env=pure true:=by rfl)
  (hk:scope.kind=.function:=by rfl) (hs:∀x,foldedSetIterable iter X.env x=pure x:=by intro _;rfl)
  (hf:X.fn x=true\/X.env.scope.names.lookup x=some .local:=by first|exact .inl rfl|exact .inr rfl|assumption) :
  PS X (.Assign [.Name x pos'] (.ListComp elt [⟨tg,iter,ifs,0⟩] scope pos) spos) (NR (Qq wi cap g tt (S0 te)) (WQ i)):=by
 intro pins s σ H D I h
 rw[exec_Assign_Name_used _ _ _ _ hsw]
 refine zW (vG (zW ?_))
 show wpAny _ X.A (do let _ <- comprehension (.ListComp elt [⟨tg,iter,ifs,0⟩] scope pos) scope X.env _ (newList []) false (eval iter X.env) (some (assign (.Name x pos') X.env))) _ _ s
 refine zW (YB (QM (use:=some (assign (.Name x pos') X.env)) (Q:=λ_ s'=>SP X pins D .next s') (body:=λenv=>IC elt env) hk hc hi ok hg ht (λcs C s H fp=>Ke (he cs C s H fp)) (λit acc env=>?_) hs I h λL C H' s' I' fD fC ne hn q=>?_) λ_ s' q=>zX (zX q))
 ·rw[compTurn_list]
  unfold O4 Rh IC
  congr 1
 ·obtain⟨H1,I1,q1,f1⟩:=OE (P:=λv H=>WQ i v σ H D.nx) I' fD fC ne q
  obtain⟨m,hm⟩:=hn
  show wpAny _ X.A (assign (.Name x pos') X.env (.ref L)) _ _ _
  refine wpAny_assign_Name (Pl I1 hN hx hl (v:=.ref L) rfl (λs2 I2 ⟨a,sb,ha⟩=>?_) hf)
  have ca:C≠a:=by
   rcases ha with z|z
   ·rw[z];exact f1.2.1
   ·exact λy=>f1.2.2.2.2.1 x a z y.symm
  exact⟨m,hm.sameBut sb ca,λh'' sb2=>⟨_,H1,I2.turned (t':=s2.toks) (λb o hb e=>sb2.extBut b o hb e) f1.1 f1.2.1 f1.2.2.2.1 f1.2.2.2.2.1 f1.2.2.2.2.2,q1⟩⟩
end
def VL(t:Bool)(h:Heap)(i l:Addr)(k:Nat):Prop:=match t with|true=>h.IsTupleIter i l k|false=>h.IsListIter i l k
def US(t:Bool)(h:Heap)(l:Addr)(xs:Array Value):Prop:=match t with|true=>h.IsTuple l xs|false=>h.IsList l xs
def Oi(t:Bool)(l:Addr):Obj:={ cls:=.type (if t then "tuple_iterator" else "list_iterator"),data:=.fields #[.ref l,.int 0 0] }
theorem VL.obj{t:Bool}{h:Heap}{i l:Addr}{k:Nat}(x:VL t h i l k):∃o,h.get? i=some o/\∀v,o.data≠.cell v:=by
 cases t<;>(obtain⟨o,e,c,d⟩:=x;exact⟨o,e,λv z=>by rw[d]at z;cases z⟩)
theorem VL.at{t:Bool}{h h':Heap}{i l:Addr}{k:Nat}(x:VL t h i l k)(q:∀o,h.get? i=some o->h'.get? i=some o):VL t h' i l k:=by
 cases t
 ·exact Heap.IsListIter.at x q
 ·exact Heap.IsTupleIter.at x q
theorem US.at{t:Bool}{h h':Heap}{l:Addr}{xs:Array Value}(x:US t h l xs)(q:∀o,h.get? l=some o->h'.get? l=some o):US t h' l xs:=by
 cases t<;>(obtain⟨o,e,c,d⟩:=x;exact⟨o,q o e,c,d⟩)
theorem US.lt{t:Bool}{h:Heap}{l:Addr}{xs:Array Value}(x:US t h l xs):l<h.objs.size:=by
 cases t<;>(obtain⟨o,e,c,d⟩:=x;exact wM e)
section
variable {prog:Program}{w:World}{A:Around}{E:Value->Shared->Prop}{s:Shared}
theorem MM{it l:Addr}{i:Nat}{items:Array Value}{x:Value}{Q:Value->Shared->Prop}(hit:s.heap.IsTupleIter it l i)(hl:s.heap.IsTuple l items)(hx:items[i]? = some x) 
  (hQ:∀h',h'.IsTupleIter it l (i+1)->Heap.SameBut it s.heap h'->Q x { s with heap:=h' }):wpAny (model prog w) A (Builtin.SmallTypes.nextOf (.ref it)) Q E s:=by
 obtain⟨o,ho,hc,hd⟩:=id hit
 obtain⟨ol,hol,_,nl,hdl⟩:=hl
 unfold Builtin.SmallTypes.nextOf
 refine zW (wQ (name:=Str.ofString "__next__") hit.typeIs xG (wS xG hit.typeIs F.entry_tuple_iterator_next ?_ (F.args_tuple_iterator_next_1 _)))
 show wpAny _ _ (field (.ref it) 0>>=_) _ _ s;refine zW (wA ho hd (x:=.ref l) rfl ?_)
 show wpAny _ _ (if(Value.ref l == Value.none)=true then _ else _) _ _ s;rw[wT (show ¬((Value.ref l == Value.none)=true) from wU)]
 show wpAny _ _ (field (.ref it) 1>>=_) _ _ s;refine zW (wA ho hd (x:=.int i 0) rfl ?_)
 show wpAny _ _ (seqItems? (.ref l)>>=_) _ _ s;refine zW (wV hol hdl ?_)
 simp only[wX,hx]
 refine zW (wZ ho hd (by simp) (zX ⟨x,rfl,zX (hQ _ ?_ (Heap.SameBut.update ..))⟩))
 exact⟨_,wD _ ho (wE (wF hd _)),(wG ..).trans hc,by rw[wF hd];simp[rawInt]⟩
theorem Jk{it l:Addr}{i:Nat}{items:Array Value}{Q:Value->Shared->Prop}(hh:VG A s.heap)(hne:∀e,A.handled=some (.ref e)->e≠it)(hit:s.heap.IsTupleIter it l i)(hl:s.heap.IsTuple l items)(hx:items[i]? = none) 
  (hE:∀h' e,Heap.ExtBut it s.heap h'->(∃o,h'.get? e=some o/\o.cls=.type "StopIteration")->E (.ref e) { s with heap:=h' }):wpAny (model prog w) A (Builtin.SmallTypes.nextOf (.ref it)) Q E s:=by
 obtain⟨o,ho,hc,hd⟩:=id hit
 obtain⟨ol,hol,_,nl,hdl⟩:=hl
 unfold Builtin.SmallTypes.nextOf
 refine zW (wQ (name:=Str.ofString "__next__") hit.typeIs xG (wS xG hit.typeIs F.entry_tuple_iterator_next ?_ (F.args_tuple_iterator_next_1 _)))
 show wpAny _ _ (field (.ref it) 0>>=_) _ _ s;refine zW (wA ho hd (x:=.ref l) rfl ?_)
 show wpAny _ _ (if(Value.ref l == Value.none)=true then _ else _) _ _ s;rw[wT (show ¬((Value.ref l == Value.none)=true) from wU)]
 show wpAny _ _ (field (.ref it) 1>>=_) _ _ s;refine zW (wA ho hd (x:=.int i 0) rfl ?_)
 show wpAny _ _ (seqItems? (.ref l)>>=_) _ _ s;refine zW (wV hol hdl ?_)
 simp only[wX,hx]
 refine zW (wY (zW (wZ ho hd (by simp) ?_)))
 exact W8 (A:=A.in1) (hh.keep λe o he q=>(wB _ _ (wC (hne e he))).trans q) λh' x k hk=>hE _ _ (λb o nb q=>k b o ((wB _ _ (wC nb)).trans q)) hk
theorem Ji{it l:Addr}{i:Nat}{items:Array Value}{Q:Value->Shared->Prop}(hh:VG A s.heap)(hne:∀e,A.handled=some (.ref e)->e≠it)(hit:s.heap.IsListIter it l i)(hl:s.heap.IsList l items)(hx:items[i]? = none) 
  (hE:∀h' e,Heap.ExtBut it s.heap h'->(∃o,h'.get? e=some o/\o.cls=.type "StopIteration")->E (.ref e) { s with heap:=h' }):wpAny (model prog w) A (Builtin.SmallTypes.nextOf (.ref it)) Q E s:=by
 obtain⟨o,ho,hc,hd⟩:=id hit
 obtain⟨ol,hol,_,nl,hdl⟩:=hl
 unfold Builtin.SmallTypes.nextOf
 refine zW (wQ (name:=Str.ofString "__next__") hit.typeIs wR (wS wR hit.typeIs entry_listiter_next ?_ (args_listiter_next _)))
 show wpAny _ _ (field (.ref it) 0>>=_) _ _ s;refine zW (wA ho hd (x:=.ref l) rfl ?_)
 show wpAny _ _ (if(Value.ref l == Value.none)=true then _ else _) _ _ s;rw[wT (show ¬((Value.ref l == Value.none)=true) from wU)]
 show wpAny _ _ (field (.ref it) 1>>=_) _ _ s;refine zW (wA ho hd (x:=.int i 0) rfl ?_)
 show wpAny _ _ (seqItems? (.ref l)>>=_) _ _ s;refine zW (wV hol hdl ?_)
 simp only[wX,hx]
 refine zW (wY (zW (wZ ho hd (by simp) ?_)))
 exact W8 (A:=A.in1) (hh.keep λe o he q=>(wB _ _ (wC (hne e he))).trans q) λh' x k hk=>hE _ _ (λb o nb q=>k b o ((wB _ _ (wC nb)).trans q)) hk
theorem Xm{t:Bool}{it l:Addr}{i:Nat}{items:Array Value}{x:Value}{Q:Value->Shared->Prop}(hit:VL t s.heap it l i)(hl:US t s.heap l items)(hx:items[i]? = some x) 
  (hQ:∀h',VL t h' it l (i+1)->Heap.SameBut it s.heap h'->Q x { s with heap:=h' }):wpAny (model prog w) A (Builtin.SmallTypes.nextOf (.ref it)) Q E s:=by
 cases t
 ·exact wpAny_nextOf_list_item hit hl hx hQ
 ·exact MM hit hl hx hQ
theorem W6{t:Bool}{it l:Addr}{i:Nat}{items:Array Value}{Q:Value->Shared->Prop}(hh:VG A s.heap)(hne:∀e,A.handled=some (.ref e)->e≠it)(hit:VL t s.heap it l i)(hl:US t s.heap l items)(hx:items[i]? = none) 
  (hE:∀h' e,Heap.ExtBut it s.heap h'->(∃o,h'.get? e=some o/\o.cls=.type "StopIteration")->E (.ref e) { s with heap:=h' }):wpAny (model prog w) A (Builtin.SmallTypes.nextOf (.ref it)) Q E s:=by
 cases t
 ·exact Ji hh hne hit hl hx hE
 ·exact Jk hh hne hit hl hx hE
theorem Jj{t:Bool}{it l:Addr}{i:Nat}{items:Array Value}{Q:Value->Shared->Prop}(hh:A.handled=none)(hit:VL t s.heap it l i)(hl:US t s.heap l items)(hx:items[i]? = none) 
  (hE:∀h' e,Heap.ExtBut it s.heap h'->(∃o,h'.get? e=some o/\o.cls=.type "StopIteration")->E (.ref e) { s with heap:=h' }):wpAny (model prog w) A (Builtin.SmallTypes.nextOf (.ref it)) Q E s:=W6 (.inl hh) (λe he=>by rw[hh]at he;cases he) hit hl hx hE
theorem Nu{t:Bool}{l:Addr}{items:Array Value}{Q:Value->Shared->Prop}(hl:US t s.heap l items)(h:Q (.ref s.heap.objs.size) { s with heap:=s.heap.push (Oi t l) }):wpAny (model prog w) A (pyIter (.ref l)) Q E s:=by
 cases t
 ·exact uE hl h
 ·exact uF hl h
def ZO(f0 f1:Value)(TI TO:Addr):Obj:={ cls:=.type "zip",data:=.fields #[f0,f1,.bool false,.ref TI,.ref TO] }
def Lo(f0:Value):Prop:=f0=.none\/∃p:Nat,f0=rawInt (p:Int)
theorem JA{a:Addr}{Q:Option Obj->Shared->Prop}(h:Q (s.heap.get? a) s):wpAny (model prog w) A (loadIfAlive a) Q E s:=by
 exact λ_ _ _=>h
theorem LA{z TI TO:Addr}{f0 f1:Value}{Q:Bool->Shared->Prop}(hz:s.heap.get? z=some (ZO f0 f1 TI TO))(hf:Lo f0) 
  (h1:Q true s) (h2:f0≠.none->∀h' g1,h'.get? z=some (ZO f0 g1 TI TO)->Heap.SameBut z s.heap h'->Q false { s with heap:=h' }):wpAny (model prog w) A (Builtin.SmallTypes.ownedTupleIsFree (.ref z)) Q E s:=by
 unfold Builtin.SmallTypes.ownedTupleIsFree
 refine zW (wA hz rfl (x:=f0) rfl ?_)
 rcases hf with rfl|⟨p,rfl⟩
 ·exact zX h1
 ·show wpAny _ _ (loadIfAlive ((p:Int).toNat)>>=_) _ _ _
  refine zW (JA ?_)
  cases s.heap.get? ((p:Int).toNat) with
  | none=>exact zX h1
  | some o=>
   show wpAny _ _ (field (.ref z) 1>>=_) _ _ _
   refine zW (wA hz rfl (x:=f1) rfl ?_)
   by_cases hb:(f1 != .bool true)=true
   ·rw[zU hb]
    refine zW (xH hz (by simp) λh' e x=>zX (h2 nofun h' (.bool true) e x))
   ·rw[wT hb]
    exact zX (h2 nofun s.heap f1 hz ⟨rfl,λ_ _=>rfl⟩)
theorem Dy{t1 t2:Bool}{z TI TO i1 i2 l1 l2:Addr}{k1 k2:Nat}{xs ys:Array Value}{x y a b f0 f1:Value}{Q:Option Value->Shared->Prop}(D:ZipApart z TI TO i1 i2 l1 l2) 
  (hz:s.heap.get? z=some (ZO f0 f1 TI TO)) (hf:Lo f0) (hTI:IsPair s.heap TI (.ref i1) (.ref i2)) (hTO:IsPair s.heap TO a b) (h1:VL t1 s.heap i1 l1 k1) (h2:VL t2 s.heap i2 l2 k2) (hl1:US t1 s.heap l1 xs) (hl2:US t2 s.heap l2 ys) (hx:xs[k1]? = some x) (hy:ys[k2]? = some y)
  (hQ:∀h' g0 g1 a' b',h'.get? z=some (ZO g0 g1 TI TO)->Lo g0->(f0=.none->f1=.bool false->g0=rawInt s.heap.objs.size/\g1=.bool false/\a'=x/\b'=y)->IsPair h' TO a' b'->VL t1 h' i1 l1 (k1+1)->VL t2 h' i2 l2 (k2+1)->IsPair h' s.heap.objs.size x y->h'.objs.size=s.heap.objs.size+1 ->
   (∀c o,c≠z->c≠TO->c≠i1->c≠i2->s.heap.get? c=some o->h'.get? c=some o)->Q (some (.ref s.heap.objs.size)) { s with heap:=h' }):wpAny (model prog w) A (callSpecial? (.ref z) "__next__") Q E s:=by
 have hT:s.TypeIs (.ref z) "zip":=⟨_,hz,rfl⟩
 refine wQ (name:=Str.ofString "__next__") hT xI (wS xI hT F.entry_zip_next ?_ (F.args_zip_next_1 _))
 show wpAny _ _ (field (.ref z) 2>>=_) _ _ _;refine zW (wA hz rfl (x:=.bool false) rfl ?_)
 show wpAny _ _ (field (.ref z) 3>>=_) _ _ _;refine zW (wA hz rfl (x:=.ref TI) rfl (zW (wV hTI rfl ?_)))
 show wpAny _ _ (Builtin.SmallTypes.ownedTupleIsFree (.ref z)>>=_) _ _ _;refine zW (LA hz hf ?_ ?_)
 ·simp only[yJ]
  refine zW (wY (zW (wA hz rfl (x:=.ref TO) rfl (zW (xH hz (by simp) λha hza hsa=>?_)))))
  have hzA:ha.get? z=some (ZO .ellipsis f1 TI TO):=hza
  refine zW ?_
  simp only[List.zipIdx_cons,List.zipIdx_nil,yW,xB]
  refine zW (zW (xJ ?_))
  show wpAny _ _ (Builtin.SmallTypes.nextOf (.ref i1)>>=_) _ _ _
  refine zW (Xm (h1.at λo e=>hsa.extBut _ o D.i1z e) (hl1.at λo e=>hsa.extBut _ o D.l1z e) hx λhb h1b hsb=>zX ?_)
  have hTOb:IsPair hb TO a b:=hsb.extBut _ _ D.TOi1 (hsa.extBut _ _ D.TOz hTO)
  refine zW (wV hTOb rfl (zW (xK hTOb λhc hTOc hsc=>zW (xL (zX ?_)))))
  have hTOc':IsPair hc TO x b:=hTOc
  refine zW (zW (xJ ?_))
  show wpAny _ _ (Builtin.SmallTypes.nextOf (.ref i2)>>=_) _ _ _
  have abc:∀c o,c≠z->c≠i1->c≠TO->s.heap.get? c=some o->hc.get? c=some o:=λc o n1 n2 n3 e=>hsc.extBut _ _ n3 (hsb.extBut _ _ n2 (hsa.extBut _ _ n1 e))
  refine zW (Xm (h2.at λo e=>abc _ o D.i2z D.i12.symm D.TOi2.symm e) (hl2.at λo e=>abc _ o D.l2z D.l2i1 D.l2TO e) hy λhd h2d hsd=>zX ?_)
  have hTOd:IsPair hd TO x b:=hsd.extBut _ _ D.TOi2 hTOc'
  refine zW (wV hTOd rfl (zW (xK hTOd λhe hTOe hse=>zW (xL (zX (zX ?_))))))
  have hTOe':IsPair he TO x y:=hTOe
  refine zW (wV hTOe' rfl (zW (xM ?_)))
  have hsz:he.objs.size=s.heap.objs.size:=by rw[hse.1,hsd.1,hsc.1,hsb.1,hsa.1]
  have hze:he.get? z=some (ZO .ellipsis f1 TI TO):=hse.extBut _ _ D.TOz.symm (hsd.extBut _ _ D.i2z.symm (hsc.extBut _ _ D.TOz.symm (hsb.extBut _ _ D.i1z.symm hzA)))
  have all:∀c o,c≠z->c≠TO->c≠i1->c≠i2->s.heap.get? c=some o->he.get? c=some o:=λc o n1 n2 n3 n4 e=>hse.extBut _ _ n2 (hsd.extBut _ _ n4 (abc c o n1 n3 n2 e))
  have h1e:VL t1 he i1 l1 (k1+1):=h1b.at λo e=>hse.extBut _ o D.TOi1.symm (hsd.extBut _ o D.i12 (hsc.extBut _ o D.TOi1.symm e))
  have h2e:VL t2 he i2 l2 (k2+1):=h2d.at λo e=>hse.extBut _ o D.TOi2.symm e
  show wpAny _ _ (Builtin.SmallTypes.ownedTupleHandOut (.ref z) (.ref he.objs.size)>>=_) _ _ _;refine zW ?_
  unfold Builtin.SmallTypes.ownedTupleHandOut
  have hzf:(he.push { cls:=.type "tuple",data:=.seq #[x,y] }).get? z=some (ZO .ellipsis f1 TI TO):=wJ _ hze
  refine zW (xH hzf (by simp) λhg hzg hsg=>?_)
  have hzg':hg.get? z=some (ZO (rawInt he.objs.size) f1 TI TO):=hzg
  refine xH hzg' (by simp) λhh hzh hsh=>?_
  have hzh':hh.get? z=some (ZO (rawInt he.objs.size) (.bool false) TI TO):=hzh
  have up:∀c o,c≠z->he.get? c=some o->hh.get? c=some o:=λc o n1 e=>hsh.extBut _ _ n1 (hsg.extBut _ _ n1 (wJ _ e))
  have zlt:he.objs.size≠z:=zP (wM hze)
  have hTh:IsPair hh he.objs.size x y:=hsh.extBut _ _ zlt (hsg.extBut _ _ zlt (wK _ rfl))
  have hsz2:hh.objs.size=he.objs.size+1:=by rw[hsh.1,hsg.1,wN]
  rw[hsz]at hzh' hTh hsz2
  refine zX ⟨_,rfl,?_⟩
  rw[hsz]
  exact(hQ hh _ _ _ _ hzh' (.inr ⟨_,rfl⟩) (λ_ _=>⟨rfl,rfl,rfl,rfl⟩) (up _ _ D.TOz hTOe') (h1e.at λo e=>up _ o D.i1z e) (h2e.at λo e=>up _ o D.i2z e) hTh hsz2 λc o n1 n2 n3 n4 e=>up c o n1 (all c o n1 n2 n3 n4 e))
 ·intro nf ha g1 hza hsa
  simp only[vE,vF]
  rw[<- xN]
  refine zW ?_
  simp only[yW,xB]
  have hTIa:IsPair ha TI (.ref i1) (.ref i2):=hsa.extBut _ _ D.TIz hTI
  refine zW (zW (zY ?_))
  show wpAny _ _ (Builtin.SmallTypes.nextOf (.ref i1)>>=_) _ _ _
  refine zW (Xm (h1.at λo e=>hsa.extBut _ o D.i1z e) (hl1.at λo e=>hsa.extBut _ o D.l1z e) hx λhb h1b hsb=>zX (zX ?_))
  refine zW (zW (zY ?_))
  show wpAny _ _ (Builtin.SmallTypes.nextOf (.ref i2)>>=_) _ _ _
  have ab:∀c o,c≠z->c≠i1->s.heap.get? c=some o->hb.get? c=some o:=λc o n1 n2 e=>hsb.extBut _ _ n2 (hsa.extBut _ _ n1 e)
  refine zW (Xm (h2.at λo e=>ab _ o D.i2z D.i12.symm e) (hl2.at λo e=>ab _ o D.l2z D.l2i1 e) hy λhc h2c hsc=>zX (zX (zX ?_)))
  have hsz:hc.objs.size=s.heap.objs.size:=by rw[hsc.1,hsb.1,hsa.1]
  show wpAny _ _ (newTuple [x,y]>>=_) _ _ _
  refine zW (xM ?_)
  have hzc:hc.get? z=some (ZO f0 g1 TI TO):=hsc.extBut _ _ D.i2z.symm (hsb.extBut _ _ D.i1z.symm hza)
  have all:∀c o,c≠z->c≠i1->c≠i2->s.heap.get? c=some o->(hc.push { cls:=.type "tuple",data:=.seq #[x,y] }).get? c=some o:=λc o n1 n2 n3 e=>wJ _ (hsc.extBut _ _ n3 (ab c o n1 n2 e))
  have hQ':=hQ (hc.push { cls:=.type "tuple",data:=.seq #[x,y] }) f0 g1 a b (wJ _ hzc) hf (λe1 _=>(nf e1).elim) (all _ _ D.TOz D.TOi1 D.TOi2 hTO) (h1b.at λo e=>wJ _ (hsc.extBut _ o D.i12 e)) (h2c.at λo e=>wJ _ e) (by rw[<- hsz];exact wK _ rfl) (by rw[wN,hsz]) λc o n1 _ n3 n4 e=>all c o n1 n3 n4 e
  refine zX ⟨_,rfl,?_⟩
  rw[<- hsz]at hQ'
  exact hQ'
theorem AK{t1 t2:Bool}{z TI TO i1 i2 l1 l2:Addr}{k1 k2:Nat}{xs ys:Array Value}{a b f0 f1:Value}{Q:Option Value->Shared->Prop}(hh:VG A s.heap)(hne:∀e,A.handled=some (.ref e)->e≠z/\e≠TO/\e≠i1/\e≠i2)(D:ZipApart z TI TO i1 i2 l1 l2) 
  (hz:s.heap.get? z=some (ZO f0 f1 TI TO)) (hf:Lo f0) (hTI:IsPair s.heap TI (.ref i1) (.ref i2)) (hTO:IsPair s.heap TO a b) (h1:VL t1 s.heap i1 l1 k1) (h2:VL t2 s.heap i2 l2 k2) (hl1:US t1 s.heap l1 xs) (hl2:US t2 s.heap l2 ys) (hend:xs[k1]? = none\/ys[k2]? = none)
  (hE:∀h' e,(∀c o,c≠z->c≠TO->c≠i1->c≠i2->s.heap.get? c=some o->h'.get? c=some o)->(∃o,h'.get? e=some o/\o.cls=.type "StopIteration")->E (.ref e) { s with heap:=h' }):wpAny (model prog w) A (callSpecial? (.ref z) "__next__") Q E s:=by
 have hT:s.TypeIs (.ref z) "zip":=⟨_,hz,rfl⟩
 refine wQ (name:=Str.ofString "__next__") hT xI (wS xI hT F.entry_zip_next ?_ (F.args_zip_next_1 _))
 show wpAny _ _ (field (.ref z) 2>>=_) _ _ _;refine zW (wA hz rfl (x:=.bool false) rfl ?_)
 show wpAny _ _ (field (.ref z) 3>>=_) _ _ _;refine zW (wA hz rfl (x:=.ref TI) rfl (zW (wV hTI rfl ?_)))
 show wpAny _ _ (Builtin.SmallTypes.ownedTupleIsFree (.ref z)>>=_) _ _ _;refine zW (LA hz hf ?_ ?_)
 ·simp only[yJ]
  refine zW (wY (zW (wA hz rfl (x:=.ref TO) rfl (zW (xH hz (by simp) λha hza hsa=>?_)))))
  have hzA:ha.get? z=some (ZO .ellipsis f1 TI TO):=hza
  refine zW ?_
  simp only[List.zipIdx_cons,List.zipIdx_nil,yW,xB]
  refine zW (zW (xJ ?_))
  show wpAny _ _ (Builtin.SmallTypes.nextOf (.ref i1)>>=_) _ _ _
  cases hx:xs[k1]? with
  | none=>
   refine zW (W6 (A:=A.in1) (hh.keep λe o he q=>hsa.extBut _ _ (hne e he).1 q) (λe he=>(hne e he).2.2.1) (h1.at λo e=>hsa.extBut _ o D.i1z e) (hl1.at λo e=>hsa.extBut _ o D.l1z e) hx λhb e hsb he=>?_)
   obtain⟨oe,hoe,hce⟩:=he
   have hzb:hb.get? z=some (ZO .ellipsis f1 TI TO):=hsb _ _ D.i1z.symm hzA
   have hez:e≠z:=λx=>by subst x;rw[hzb]at hoe;cases hoe;simp[ZO]at hce
   exact xH hzb (by simp) λhc _ hsc=>hE hc e (λc o n1 _ n3 _ x=>hsc.extBut _ _ n1 (hsb _ _ n3 (hsa.extBut _ _ n1 x))) ⟨oe,hsc.extBut _ _ hez hoe,hce⟩
  | some x=>
   have hy:ys[k2]? = none:=by rcases hend with h|h;rw[hx]at h;cases h;exact h
   refine zW (Xm (h1.at λo e=>hsa.extBut _ o D.i1z e) (hl1.at λo e=>hsa.extBut _ o D.l1z e) hx λhb h1b hsb=>zX ?_)
   have hTOb:IsPair hb TO a b:=hsb.extBut _ _ D.TOi1 (hsa.extBut _ _ D.TOz hTO)
   refine zW (wV hTOb rfl (zW (xK hTOb λhc hTOc hsc=>zW (xL (zX ?_)))))
   refine zW (zW (xJ ?_))
   show wpAny _ _ (Builtin.SmallTypes.nextOf (.ref i2)>>=_) _ _ _
   have abc:∀c o,c≠z->c≠i1->c≠TO->s.heap.get? c=some o->hc.get? c=some o:=λc o n1 n2 n3 e=>hsc.extBut _ _ n3 (hsb.extBut _ _ n2 (hsa.extBut _ _ n1 e))
   refine zW (W6 (A:=A.in1) (hh.keep λe o he q=>abc e o (hne e he).1 (hne e he).2.2.1 (hne e he).2.1 q) (λe he=>(hne e he).2.2.2) (h2.at λo e=>abc _ o D.i2z D.i12.symm D.TOi2.symm e) (hl2.at λo e=>abc _ o D.l2z D.l2i1 D.l2TO e) hy λhd e hsd he=>?_)
   obtain⟨oe,hoe,hce⟩:=he
   have hzd:hd.get? z=some (ZO .ellipsis f1 TI TO):=hsd _ _ D.i2z.symm (hsc.extBut _ _ D.TOz.symm (hsb.extBut _ _ D.i1z.symm hzA))
   have hez:e≠z:=λx=>by subst x;rw[hzd]at hoe;cases hoe;simp[ZO]at hce
   exact xH hzd (by simp) λhf _ hsf=>hE hf e (λc o n1 n2 n3 n4 x=>hsf.extBut _ _ n1 (hsd _ _ n4 (abc c o n1 n3 n2 x))) ⟨oe,hsf.extBut _ _ hez hoe,hce⟩
 ·intro _ ha g1 hza hsa
  simp only[vE,vF]
  rw[<- xN]
  refine zW ?_
  simp only[yW,xB]
  refine zW (zW (zY ?_))
  show wpAny _ _ (Builtin.SmallTypes.nextOf (.ref i1)>>=_) _ _ _
  cases hx:xs[k1]? with
  | none=>
   refine zW (W6 (A:=A.in1) (hh.keep λe o he q=>hsa.extBut _ _ (hne e he).1 q) (λe he=>(hne e he).2.2.1) (h1.at λo e=>hsa.extBut _ o D.i1z e) (hl1.at λo e=>hsa.extBut _ o D.l1z e) hx λhb e hsb he=>?_)
   exact hE hb e (λc o n1 _ n3 _ x=>hsb _ _ n3 (hsa.extBut _ _ n1 x)) he
  | some x=>
   have hy:ys[k2]? = none:=by rcases hend with h|h;rw[hx]at h;cases h;exact h
   refine zW (Xm (h1.at λo e=>hsa.extBut _ o D.i1z e) (hl1.at λo e=>hsa.extBut _ o D.l1z e) hx λhb h1b hsb=>zX (zX ?_))
   refine zW (zW (zY ?_))
   show wpAny _ _ (Builtin.SmallTypes.nextOf (.ref i2)>>=_) _ _ _
   have ab:∀c o,c≠z->c≠i1->s.heap.get? c=some o->hb.get? c=some o:=λc o n1 n2 e=>hsb.extBut _ _ n2 (hsa.extBut _ _ n1 e)
   refine zW (W6 (A:=A.in1) (hh.keep λe o he q=>ab e o (hne e he).1 (hne e he).2.2.1 q) (λe he=>(hne e he).2.2.2) (h2.at λo e=>ab _ o D.i2z D.i12.symm e) (hl2.at λo e=>ab _ o D.l2z D.l2i1 e) hy λhd e hsd he=>?_)
   exact hE hd e (λc o n1 _ n3 n4 x=>hsd _ _ n4 (ab c o n1 n3 x)) he
theorem J1{t1 t2:Bool}{z TI TO i1 i2 l1 l2:Addr}{k1 k2:Nat}{xs ys:Array Value}{x y a b:Value}{Q:Option Value->Shared->Prop}(D:ZipApart z TI TO i1 i2 l1 l2) 
  (hz:IsZip s.heap z TI TO .none) (hTI:IsPair s.heap TI (.ref i1) (.ref i2)) (hTO:IsPair s.heap TO a b) (h1:VL t1 s.heap i1 l1 k1) (h2:VL t2 s.heap i2 l2 k2) (hl1:US t1 s.heap l1 xs) (hl2:US t2 s.heap l2 ys) (hx:xs[k1]? = some x) (hy:ys[k2]? = some y)
  (hQ:∀h',IsZip h' z TI TO (rawInt s.heap.objs.size)->IsPair h' TO x y->VL t1 h' i1 l1 (k1+1)->VL t2 h' i2 l2 (k2+1)->IsPair h' s.heap.objs.size x y->h'.objs.size=s.heap.objs.size+1 ->
   (∀c o,c≠z->c≠TO->c≠i1->c≠i2->s.heap.get? c=some o->h'.get? c=some o)->Q (some (.ref s.heap.objs.size)) { s with heap:=h' }):wpAny (model prog w) A (pyNext (.ref z)) Q E s:=by
 unfold pyNext
 exact zW (wP (Dy D hz (.inl rfl) hTI hTO h1 h2 hl1 hl2 hx hy λh' g0 g1 a' b' z1 _ z2 z3 z4 z5 z6 z7 z8=>by
  obtain⟨rfl,rfl,rfl,rfl⟩:=z2 rfl rfl
  exact zX (hQ h' z1 z3 z4 z5 z6 z7 z8)))
theorem F9{t1 t2:Bool}{z TI TO i1 i2 l1 l2:Addr}{k1 k2:Nat}{xs ys:Array Value}{a b:Value}{Q:Option Value->Shared->Prop}(hh:VG A s.heap)(hne:∀e,A.handled=some (.ref e)->e≠z/\e≠TO/\e≠i1/\e≠i2)(D:ZipApart z TI TO i1 i2 l1 l2) 
  (hz:IsZip s.heap z TI TO .none) (hTI:IsPair s.heap TI (.ref i1) (.ref i2)) (hTO:IsPair s.heap TO a b) (h1:VL t1 s.heap i1 l1 k1) (h2:VL t2 s.heap i2 l2 k2) (hl1:US t1 s.heap l1 xs) (hl2:US t2 s.heap l2 ys) (hend:xs[k1]? = none\/ys[k2]? = none)
  (hQ:∀h',(∀c o,c≠z->c≠TO->c≠i1->c≠i2->s.heap.get? c=some o->h'.get? c=some o)->Q none { s with heap:=h' }):wpAny (model prog w) A (pyNext (.ref z)) Q E s:=by
 have fin:∀(h':Heap) (e:Addr),(∀c o,c≠z->c≠TO->c≠i1->c≠i2->s.heap.get? c=some o->h'.get? c=some o)->(∃o,h'.get? e=some o/\o.cls=.type "StopIteration") ->
   wpAny (model prog w) A (do if <- isInstance (.ref e) (.type "StopIteration") then pure none else throw (.ref e):Sem (Option Value)) Q E { s with heap:=h' }:=λh' e hk ⟨o,ho,hc⟩=>
  zW (vA (T:="StopIteration") (b:=true) ⟨o,ho,hc⟩ vB (zX (hQ _ hk)))
 unfold pyNext
 exact zW (wP (AK hh hne D hz (.inl rfl) hTI hTO h1 h2 hl1 hl2 hend fin))
abbrev zA(h:Heap)(t1:Bool)(l1:Addr):Heap:=h.push (Oi t1 l1)
abbrev zB(h:Heap)(t1 t2:Bool)(l1 l2:Addr):Heap:=(zA h t1 l1).push (Oi t2 l2)
abbrev zC(h:Heap)(t1 t2:Bool)(l1 l2:Addr):Heap:=(zB h t1 t2 l1 l2).push { cls:=.type "tuple",data:=.seq #[.ref h.objs.size,.ref (zA h t1 l1).objs.size] }
abbrev zD(h:Heap)(t1 t2:Bool)(l1 l2:Addr):Heap:=(zC h t1 t2 l1 l2).push { cls:=.type "tuple",data:=.seq #[.none,.none] }
abbrev zE(h:Heap)(t1 t2:Bool)(l1 l2:Addr):Heap:=(zD h t1 t2 l1 l2).push { cls:=.type "zip",data:=.fields #[.none,.bool false,.bool false,.ref (zB h t1 t2 l1 l2).objs.size,.ref (zC h t1 t2 l1 l2).objs.size] }
theorem ML(t1 t2:Bool)(l1 l2:Addr)(xs ys:Array Value):
  Meets (Builtin.«zip.__new__» ⟨[.type "zip",.ref l1,.ref l2],[]⟩) (λ_ R s=>US t1 s.heap l1 xs/\US t2 s.heap l2 ys/\R (.ok (.ret (.ref (zD s.heap t1 t2 l1 l2).objs.size))) { s with heap:=zE s.heap t1 t2 l1 l2 }):=
 .of_wp λprog w A R s h=>by
  obtain⟨hp,g,d,tk,os⟩:=s;obtain⟨hl1,hl2,h⟩:=h
  have hsub:=sub_zip
  have hL1:US t1 (Shared.heap ⟨hp,g,d,tk,os⟩) l1 xs:=hl1
  have hL2:US t2 (Shared.heap ⟨hp.push (Oi t1 l1),g,d,tk,os⟩) l2 ys:=US.at hl2 λo e=>wJ _ e
  wp_walk using Nu hL1,Nu hL2
  exact⟨_,rfl,h⟩
theorem K8{t1 t2:Bool}{l1 l2:Addr}{xs ys:Array Value}{Q:Value->Shared->Prop}(hl1:US t1 s.heap l1 xs)(hl2:US t2 s.heap l2 ys) 
  (h:∀h',IsZip h' (s.heap.objs.size+4) (s.heap.objs.size+2) (s.heap.objs.size+3) .none->IsPair h' (s.heap.objs.size+2) (.ref s.heap.objs.size) (.ref (s.heap.objs.size+1))->IsPair h' (s.heap.objs.size+3) .none .none ->
   VL t1 h' s.heap.objs.size l1 0->VL t2 h' (s.heap.objs.size+1) l2 0->(∀c o,s.heap.get? c=some o->h'.get? c=some o)->Q (.ref (s.heap.objs.size+4)) { s with heap:=h' }) :
  wpAny (model prog w) A (call (.type "zip") [.ref l1,.ref l2]) Q E s:=by
 refine callType_new F.called_zip (by decide) (F.typeCall_zip_2 _ _) (F.newCall_zip_2 _ _) (λobj=>F.args_object_init_3 obj _ _) F.entry_zip_new (ML t1 t2 l1 l2 xs ys) ⟨hl1,hl2,?_⟩
 have z1:(zA s.heap t1 l1).objs.size=s.heap.objs.size+1:=wN ..
 have z2:(zB s.heap t1 t2 l1 l2).objs.size=s.heap.objs.size+2:=by rw[wN,z1]
 have z3:(zC s.heap t1 t2 l1 l2).objs.size=s.heap.objs.size+3:=by rw[wN,z2]
 have z4:(zD s.heap t1 t2 l1 l2).objs.size=s.heap.objs.size+4:=by rw[wN,z3]
 have g5:(zE s.heap t1 t2 l1 l2).get? (zD s.heap t1 t2 l1 l2).objs.size=some _:=wK _ rfl
 have g4:(zE s.heap t1 t2 l1 l2).get? (zC s.heap t1 t2 l1 l2).objs.size=some _:=wJ _ (wK _ rfl)
 have g3:(zE s.heap t1 t2 l1 l2).get? (zB s.heap t1 t2 l1 l2).objs.size=some _:=wJ _ (wJ _ (wK _ rfl))
 have g2:(zE s.heap t1 t2 l1 l2).get? (zA s.heap t1 l1).objs.size=some (Oi t2 l2):=wJ _ (wJ _ (wJ _ (wK _ (by cases t2<;>rfl))))
 have g1:(zE s.heap t1 t2 l1 l2).get? s.heap.objs.size=some (Oi t1 l1):=wJ _ (wJ _ (wJ _ (wJ _ (wK _ (by cases t1<;>rfl)))))
 show _/\_
 rw[z2,z3,z4]at g5
 rw[z1,z2]at g3
 rw[z3]at g4
 rw[z1]at g2
 rw[z4]
 have mk:∀(t:Bool) (a l:Addr),(zE s.heap t1 t2 l1 l2).get? a=some (Oi t l)->VL t (zE s.heap t1 t2 l1 l2) a l 0:=λt a l e=>by
  cases t<;>exact⟨_,e,rfl,rfl⟩
 exact⟨⟨_,g5,rfl⟩,h _ g5 g3 g4 (mk _ _ _ g1) (mk _ _ _ g2) λc o x=>wJ _ (wJ _ (wJ _ (wJ _ (wJ _ x))))⟩
end
def Qv(K:Frag)(t:Bool)(H:Hp)(a:Addr)(xs:List V):Prop:=match t with|true=>WH K H a xs|false=>Xp K H a xs
theorem Zu.sq{X:Cx}{pins:List (Addr×Obj)}{σ:St}{H:Hp}{s:Shared}{t:Bool}{a:Addr}{xs:List V}(I:Zu X pins σ H s)(h:Qv X.K t H a xs):∃its:List Value,ZH xs its/\US t s.heap a its.toArray/\xs.length≤sizeLine:=by
 cases t
 ·obtain⟨its,r,p,z⟩:=I.list h
  exact⟨its,r,p.isList,z⟩
 ·obtain⟨its,r,p,z⟩:=I.tuple h
  exact⟨its,r,p,z⟩
theorem Zu.sq_inj{X:Cx}{pins:List (Addr×Obj)}{σ:St}{H:Hp}{s:Shared}{t:Bool}{a:Addr}{xs ys:List V}(I:Zu X pins σ H s)(h:Qv X.K t H a xs)(h':Qv X.K t H a ys):xs=ys:=by
 cases t
 ·exact I.list_inj h h'
 ·exact I.tuple_inj h h'
def Itz(K:Frag)(t1 t2:Bool)(a b:Addr):It:=
 ⟨λi H=>∃xs ys x y,Qv K t1 H a xs/\Qv K t2 H b ys/\xs[i]? = some x/\ys[i]? = some y,
   λi H v H'=>∃p x y,v=.ref p/\H p=none/\H'=upd H p (.tup [x,y])/\∀xs ys,Qv K t1 H a xs->Qv K t2 H b ys->xs[i]? = some x/\ys[i]? = some y,
   λi H=>∃xs ys,Qv K t1 H a xs/\Qv K t2 H b ys/\(xs.length≤i\/ys.length≤i),true⟩
def ZSt(t1 t2:Bool)(z TI TO i1 i2 l1 l2:Addr)(i:Nat)(h:Heap):Prop:=ZipApart z TI TO i1 i2 l1 l2/\IsZip h z TI TO .none/\IsPair h TI (.ref i1) (.ref i2)/\(∃a b,IsPair h TO a b)/\VL t1 h i1 l1 i/\VL t2 h i2 l2 i
theorem F1{P:Program}{w:World}{K:Frag}{elts:List Expr}{kk:Nat}{pos:Pos}(t1 t2:Bool)(z TI TO i1 i2 l1 l2:Addr):O8 P w K (.Tuple elts kk pos) (Itz K t1 t2 l1 l2) [z,TI,TO,i1,i2] z (ZSt t1 t2 z TI TO i1 i2 l1 l2) where
 mem:=by simp
 obj:=λi h st b hb=>by
  obtain⟨_,hz,hTI,⟨x,y,hTO⟩,h1,h2⟩:=st
  simp only[vP,xO,xP]at hb
  rcases hb with e|e|e|e|e
  ·subst e;exact⟨_,hz,λv q=>by cases q⟩
  ·subst e;exact⟨_,hTI,λv q=>by cases q⟩
  ·subst e;exact⟨_,hTO,λv q=>by cases q⟩
  ·subst e;exact h1.obj
  ·subst e;exact h2.obj
 keep:=λi h h' st k=>by
  obtain⟨D,hz,hTI,⟨x,y,hTO⟩,h1,h2⟩:=st
  exact⟨D,k z (by simp) _ hz,k TI (by simp) _ hTI,⟨x,y,k TO (by simp) _ hTO⟩,h1.at λo e=>k i1 (by simp) o e,h2.at λo e=>k i2 (by simp) o e⟩
 item:=by
  intro X hP hw hK hc i pins s σ H E I hf st hg
  subst hP hw hK
  obtain⟨xs,ys,x,y,q1,q2,gx,gy⟩:=hg
  obtain⟨D,hz,hTI,⟨a,b,hTO⟩,h1,h2⟩:=st
  obtain⟨us,ru,su,_⟩:=I.sq q1
  obtain⟨vs,rv,sv,_⟩:=I.sq q2
  obtain⟨u,hu,rx⟩:=ru.get gx
  obtain⟨v,hv,ry⟩:=rv.get gy
  refine J1 D hz hTI hTO h1 h2 su sv (x:=u) (y:=v) (by simpa using hu) (by simpa using hv) λh' z1 z2 z3 z4 z5 z6 z7=>⟨_,rfl,?_⟩
  have szn:s.heap.objs.size≠z:=zP (wM hz)
  refine wpAny_letOwnedTupleGo_zip z1 λh'' w1 w2=>?_
  have hall:∀c o,c≠z->c≠TO->c≠i1->c≠i2->s.heap.get? c=some o->h''.get? c=some o:=λc o n1 n2 n3 n4 e=>w2.extBut _ _ n1 (z7 c o n1 n2 n3 n4 e)
  have hn:H s.heap.objs.size=none:=I.hok.fresh (zK _)
  have f:=λb hb=>hf b hb
  have ch:∀b,b ∉ [z,TO,i1,i2]->b≠z/\b≠TO/\b≠i1/\b≠i2:=λb hb=>by
   simp only[vP,xO,xP,not_or]at hb
   exact hb
  have inf:∀b∈[z,TO,i1,i2],b∈[z,TI,TO,i1,i2]:=λb hb=>by
   simp only[vP,xO,xP]at hb |-
   rcases hb with e|e|e|e<;>simp[e]
  have tr:∀b o,H b=some o->b ∉ [z,TO,i1,i2]:=λb o e hb=>by rw[(f b (inf b hb)).1]at e;cases e
  have nsz:∀b o,H b=some o->b≠s.heap.objs.size:=λb o e q=>by rw[q,hn]at e;cases e
  have pair:h''.get? s.heap.objs.size=some { cls:=.type "tuple",data:=.seq #[u,v] }:=w2.extBut _ _ szn z5
  refine⟨.ref s.heap.objs.size,upd H s.heap.objs.size (.tup [x,y]),Zu.step (s:=s) (h':=h'') (g':=s.gens) (d':=s.drawn) (t':=s.toks) (ch:=[z,TO,i1,i2]) I (λb hb=>?_) (λb o _ _ hb e _=>?_) (λb o _ _ hb e _=>⟨o.slots,?_⟩) (λb o hb e n=>?_) (λb o hb e=>⟨o,?_⟩) (λb zs e=>?_) (λb o zs e=>?_) (λb ps e=>⟨#[],?_⟩) (λm hm=>?_) (λb o e=>?_) I.bare,rfl,⟨s.heap.objs.size,x,y,rfl,hn,rfl,λxs' ys' p1 p2=>?_⟩,?_,λb hb=>?_⟩
  ·obtain⟨_,f1,f2,f3,f4,f5⟩:=f b (inf b hb)
   exact⟨f3,f1,f4,f5⟩
  ·obtain⟨n1,n2,n3,n4⟩:=ch b hb;exact hall b o n1 n2 n3 n4 e
  ·obtain⟨n1,n2,n3,n4⟩:=ch b hb;exact hall b o n1 n2 n3 n4 e
  ·rw[Zk (vC (wM e))];exact n
  ·obtain⟨n1,n2,n3,n4⟩:=ch b hb;exact hall b o n1 n2 n3 n4 e
  ·rw[Zk (nsz b _ e)];exact e
  ·rw[Zk (nsz b _ e)];exact e
  ·rw[Zk (nsz b _ e),e];simp
  ·obtain⟨o,es,ep,ho,r⟩:=hm
   have nl:X.env.locals ∉ [z,TO,i1,i2]:=λhb=>(f _ (inf _ hb)).2.1 rfl
   obtain⟨n1,n2,n3,n4⟩:=ch _ nl
   exact⟨o,es,ep,hall _ o n1 n2 n3 n4 ho,r⟩
  ·by_cases hb:b=s.heap.objs.size
   ·subst hb;rw[Z9]at e;cases e
    exact⟨L2.sz2,[u,v],.cons rx (.cons ry .nil),_,pair,rfl,_,rfl,rfl⟩
   ·rw[Zk hb]at e
    refine(I.hok b o e).stay (λc o' hc q=>?_) (λc q=>by rw[Zk (nsz c _ q)];exact q) λc zs q=>by rw[Zk (nsz c _ q)];exact q
    have nc:c ∉ [z,TO,i1,i2]:=by
     rcases hc with hc|hc
     ·rw[hc];exact tr b o e
     ·exact tr c _ hc
    obtain⟨n1,n2,n3,n4⟩:=ch c nc
    exact hall c o' n1 n2 n3 n4 q
  ·rw[I.sq_inj p1 q1,I.sq_inj p2 q2];exact⟨gx,gy⟩
  ·exact⟨D,w1,hall _ _ D.TIz D.TITO D.TIi1 D.TIi2 hTI,⟨_,_,w2.extBut _ _ D.TOz z2⟩,z3.at λo e=>w2.extBut _ o D.i1z e,z4.at λo e=>w2.extBut _ o D.i2z e⟩
  ·obtain⟨o,e,_⟩:=(show ∃o,s.heap.get? b=some o/\∀v,o.data≠.cell v from by
    simp only[vP,xO,xP]at hb
    rcases hb with q|q|q|q|q
    ·subst q;exact⟨_,hz,λv q=>by cases q⟩
    ·subst q;exact⟨_,hTI,λv q=>by cases q⟩
    ·subst q;exact⟨_,hTO,λv q=>by cases q⟩
    ·subst q;exact h1.obj
    ·subst q;exact h2.obj)
   rw[Zk (vC (wM e))];exact(f b hb).1
 done:=by
  intro X hP hw hK hc i pins s σ H E I hf st hg
  subst hP hw hK
  obtain⟨xs,ys,q1,q2,ge⟩:=hg
  obtain⟨D,hz,hTI,⟨a,b,hTO⟩,h1,h2⟩:=st
  obtain⟨us,ru,su,_⟩:=I.sq q1
  obtain⟨vs,rv,sv,_⟩:=I.sq q2
  have lu:=ru.length
  have lv:=rv.length
  refine F9 (I.hdOkW hc).1 (λe he=>⟨λz=>(I.hdOkW hc).2 e he (by rw[z];exact(hf _ (by simp)).1),λz=>(I.hdOkW hc).2 e he (by rw[z];exact(hf _ (by simp)).1),λz=>(I.hdOkW hc).2 e he (by rw[z];exact(hf _ (by simp)).1),λz=>(I.hdOkW hc).2 e he (by rw[z];exact(hf _ (by simp)).1)⟩) D hz hTI hTO h1 h2 su sv (by
   rcases ge with e|e
   ·exact .inl (by simp;omega)
   ·exact .inr (by simp;omega)) λh' hk=>⟨rfl,?_⟩
  have f:=λb hb=>hf b hb
  have ch:∀b,b ∉ [z,TO,i1,i2]->b≠z/\b≠TO/\b≠i1/\b≠i2:=λb hb=>by
   simp only[vP,xO,xP,not_or]at hb
   exact hb
  have inf:∀b∈[z,TO,i1,i2],b∈[z,TI,TO,i1,i2]:=λb hb=>by
   simp only[vP,xO,xP]at hb |-
   rcases hb with e|e|e|e<;>simp[e]
  have tr:∀b o,H b=some o->b ∉ [z,TO,i1,i2]:=λb o e hb=>by rw[(f b (inf b hb)).1]at e;cases e
  have kk:∀b o,b ∉ [z,TO,i1,i2]->s.heap.get? b=some o->h'.get? b=some o:=λb o hb e=>by obtain⟨n1,n2,n3,n4⟩:=ch b hb;exact hk b o n1 n2 n3 n4 e
  refine I.step (g':=s.gens) (d':=s.drawn) (t':=s.toks) (ch:=[z,TO,i1,i2]) (λb hb=>?_) (λb o _ _ hb e _=>kk b o hb e) (λb o _ _ hb e _=>⟨o.slots,kk b o hb e⟩) (λb o hb e n=>n) (λb o hb e=>⟨o,kk b o hb e⟩) (λb zs e=>e) (λb o zs e=>e) (λb ps e=>⟨#[],by rw[e];simp⟩) (λm hm=>?_) (λb o e=>?_) I.bare
  ·obtain⟨_,f1,f2,f3,f4,f5⟩:=f b (inf b hb)
   exact⟨f3,f1,f4,f5⟩
  ·obtain⟨o,es,ep,ho,r⟩:=hm
   exact⟨o,es,ep,kk _ o (λhb=>(f _ (inf _ hb)).2.1 rfl) ho,r⟩
  ·refine(I.hok b o e).stay (λc o' hc q=>kk c o' ?_ q) (λc q=>q) λc zs q=>q
   rcases hc with hc|hc
   ·rw[hc];exact tr b o e
   ·exact tr c _ hc
 self:=λ_ _ _ _ _ st h=>wpAny_pyIter_zip st.2.1 h
section
variable {X:Cx}
def Bl(K:Frag)(t1 t2:Bool)(ta:TA):TI:=λσ H R=>ta σ H λvs H1=>∃a b xs ys,vs=[.ref a,.ref b]/\Qv K t1 H1 a xs/\Qv K t2 H1 b ys/\R (Itz K t1 t2 a b) H1
theorem BR{elts:List Expr}{kk:Nat}{tp:Pos}{a b:Expr}{ta:TA}{p pos:Pos}(t1 t2:Bool)(hg:Gl X "zip")(hm:X.mg "zip" = none)(ha:PA X [a,b] ta)(hs:starEach [a,b] X.env=[(false,eval a X.env),(false,eval b X.env)]:=by rfl)(hs2:starEach [b] X.env=[(false,eval b X.env)]:=by rfl)(hc:X.calm=true:=by rfl):
  PI X (.Tuple elts kk tp) (.Call (.Name "zip" p) [a,b] [] pos) (Bl X.K t1 t2 ta):=by
 intro pins s σ H R I h
 refine Call_ (VV I hg hm boot_zip (uG (YB (ha pos pins s σ H _ I h) λus s1 ⟨vs,H1,I1,r1,q1⟩=>?_) (by rw[hs,hs2]) (by rw[hs2];rfl)))
 obtain⟨l1,l2,xs,ys,e,q1,q2,q⟩:=q1
 subst e
 cases r1 with
 | cons r rr=>
  cases rr with
  | cons r' rr=>
   cases rr
   cases r
   cases r'
   obtain⟨us,_,su,_⟩:=I1.sq q1
   obtain⟨vs,_,sv,_⟩:=I1.sq q2
   refine K8 su sv λh' z1 z2 z3 z4 z5 z6=>?_
   have I2:Zu X pins σ H1 { s1 with heap:=h' }:=I1.kept (t':=s1.toks) z6
   refine wpAny_pyIter_zip z1 ⟨_,[s1.heap.objs.size+4,s1.heap.objs.size+2,s1.heap.objs.size+3,s1.heap.objs.size,s1.heap.objs.size+1],_,_,H1,rfl,I2,F1 t1 t2 _ _ _ _ _ l1 l2,⟨zipApart_new su.lt sv.lt,z1,z2,⟨_,_,z3⟩,z4,z5⟩,λb hb=>?_,.inr ⟨rfl,hc⟩,q⟩
   have le:s1.heap.objs.size≤b:=by
    simp only[vP,xO,xP]at hb
    rcases hb with e|e|e|e|e<;>rw[e]<;>first|exact zK _|exact zM _ _
   have fo:=I1.fpOk le (I1.hok.fresh le)
   exact fo
end
mutual
def DV(K:Frag)(H:Hp):PyData->V->Prop
 | .none,v=>v=.non
 | .bool b,v=>v=.bl b
 | .int i,v=>v=.int i
 | .str x,v=>v=.str x
 | .list ds,v=>∃a xs,v=.ref a/\Xp K H a xs/\Y6 K H ds xs
 | .tuple ds,v=>∃a xs,v=.ref a/\WH K H a xs/\Y6 K H ds xs
 | .dict _,_=>False
def Y6(K:Frag)(H:Hp):List PyData->List V->Prop
 | [],xs=>xs=[]
 | d::ds,xs=>∃x r,xs=x::r/\DV K H d x/\Y6 K H ds r
end
theorem Z7.tup{K:Frag}{H H':Hp}{a:Addr}{xs:List V}(e:Z7 H H')(h:WH K H a xs):WH K H' a xs:=by
 rcases h with (h|⟨o,h⟩)|h
 ·exact .inl (.inl (e _ _ h))
 ·exact .inl (.inr ⟨o,e _ _ h⟩)
 ·exact .inr h
mutual
theorem DV.same{K:Frag}{H H':Hp}(e:Z7 H H'):∀{d:PyData}{v:V},DV K H d v->DV K H' d v
 | .none,_,h=>by unfold DV at h |-;exact h
 | .bool _,_,h=>by unfold DV at h |-;exact h
 | .int _,_,h=>by unfold DV at h |-;exact h
 | .str _,_,h=>by unfold DV at h |-;exact h
 | .list ds,_,h=>by
  unfold DV at h |-
  obtain⟨a,xs,q1,q2,q3⟩:=h
  exact⟨a,xs,q1,e.seq q2,Y6.same e q3⟩
 | .tuple ds,_,h=>by
  unfold DV at h |-
  obtain⟨a,xs,q1,q2,q3⟩:=h
  exact⟨a,xs,q1,e.tup q2,Y6.same e q3⟩
 | .dict _,_,h=>by unfold DV at h;exact h.elim
theorem Y6.same{K:Frag}{H H':Hp}(e:Z7 H H'):∀{ds:List PyData}{xs:List V},Y6 K H ds xs->Y6 K H' ds xs
 | [],_,h=>by unfold Y6 at h |-;exact h
 | d::ds,_,h=>by
  unfold Y6 at h |-
  obtain⟨x,r,q1,q2,q3⟩:=h
  exact⟨x,r,q1,DV.same e q2,Y6.same e q3⟩
end
theorem Y6.ints{K:Frag}{H:Hp}:∀ns:List Int,Y6 K H (ns.map .int) (ns.map .int)
 | []=>by unfold Y6;rfl
 | n::r=>by unfold Y6;exact⟨_,_,rfl,by unfold DV;rfl,Y6.ints r⟩
theorem Y6.nil{K:Frag}{H:Hp}:Y6 K H [] []:=by unfold Y6;rfl
theorem Y6.cons{K:Frag}{H:Hp}{d:PyData}{ds:List PyData}{x:V}{xs:List V}(h:DV K H d x)(t:Y6 K H ds xs):Y6 K H (d::ds) (x::xs):=by unfold Y6;exact⟨x,xs,rfl,h,t⟩
theorem DV.int{K:Frag}{H:Hp}(i:Int):DV K H (.int i) (.int i):=by unfold DV;rfl
theorem DV.bool{K:Frag}{H:Hp}(i:Bool):DV K H (.bool i) (.bl i):=by unfold DV;rfl
theorem DV.list{K:Frag}{H:Hp}{a:Addr}{xs:List V}{ds:List PyData}(h:Xp K H a xs)(t:Y6 K H ds xs):DV K H (.list ds) (.ref a):=by unfold DV;exact⟨a,xs,rfl,h,t⟩
theorem DV.tup{K:Frag}{H:Hp}{a:Addr}{xs:List V}{ds:List PyData}(h:WH K H a xs)(t:Y6 K H ds xs):DV K H (.tuple ds) (.ref a):=by unfold DV;exact⟨a,xs,rfl,h,t⟩
theorem Y6.append{K:Frag}{H:Hp}:∀{ds es:List PyData}{xs ys:List V},Y6 K H ds xs->Y6 K H es ys->Y6 K H (ds++es) (xs++ys)
 | [],_,_,_,h,t=>by unfold Y6 at h;subst h;exact t
 | d::ds,es,_,ys,h,t=>by
  unfold Y6 at h
  obtain⟨x,r,q1,q2,q3⟩:=h
  subst q1
  exact Y6.cons q2 (Y6.append q3 t)
theorem Y6.length{K:Frag}{H:Hp}:∀{ds:List PyData}{xs:List V},Y6 K H ds xs->ds.length=xs.length
 | [],_,h=>by unfold Y6 at h;subst h;rfl
 | d::ds,_,h=>by
  unfold Y6 at h
  obtain⟨x,r,q1,q2,q3⟩:=h
  subst q1
  rw[uM,uM,Y6.length q3]
theorem Y6.get{K:Frag}{H:Hp}:∀{ds:List PyData}{xs:List V}{i:Nat}{x:V},Y6 K H ds xs->xs[i]? = some x->∃d,ds[i]? = some d/\DV K H d x
 | [],_,i,x,h,e=>by unfold Y6 at h;subst h;simp at e
 | d::ds,_,0,x,h,e=>by
  unfold Y6 at h
  obtain⟨y,r,q1,q2,q3⟩:=h
  subst q1
  simp at e;subst e
  exact⟨d,rfl,q2⟩
 | d::ds,_,i+1,x,h,e=>by
  unfold Y6 at h
  obtain⟨y,r,q1,q2,q3⟩:=h
  subst q1
  obtain⟨d',h1,h2⟩:=Y6.get (i:=i) (x:=x) q3 (by simpa using e)
  exact⟨d',by simpa using h1,h2⟩
section
variable {X:Cx}{pins:List (Addr×Obj)}{σ:St}{H:Hp}{s:Shared}
mutual
theorem Zu.reads(I:Zu X pins σ H s):∀{d:PyData}{v:V}{u:Value},DV X.K H d v->ZI v u->∃as,Reads s.heap u d as
 | .none,_,u,h,r=>by unfold DV at h;subst h;cases (show u=Value.none from r);exact⟨_,.none⟩
 | .bool b,_,u,h,r=>by unfold DV at h;subst h;cases (show u=Value.bool b from r);exact⟨_,.bool b⟩
 | .int i,_,u,h,r=>by unfold DV at h;subst h;obtain⟨t,q⟩:=(show ∃t,u=Value.int i t from r);cases q;exact⟨_,.int i t⟩
 | .str x,_,u,h,r=>by unfold DV at h;subst h;obtain⟨t,q⟩:=(show ∃t,u=Value.str x t from r);cases q;exact⟨_,.str x t⟩
 | .list ds,_,u,h,r=>by
  unfold DV at h
  obtain⟨a,xs,q1,q2,q3⟩:=h
  subst q1
  cases (show u=Value.ref a from r)
  obtain⟨its,rv,p,_⟩:=I.list q2
  obtain⟨as,ra⟩:=Zu.readsAll I q3 rv
  obtain⟨o,e,c,n,d⟩:=p.isList
  exact⟨_,.list e c d (by simpa using ra)⟩
 | .tuple ds,_,u,h,r=>by
  unfold DV at h
  obtain⟨a,xs,q1,q2,q3⟩:=h
  subst q1
  cases (show u=Value.ref a from r)
  obtain⟨its,rv,p,_⟩:=I.tuple q2
  obtain⟨as,ra⟩:=Zu.readsAll I q3 rv
  obtain⟨o,e,c,n,d⟩:=p
  exact⟨_,.tuple e c d (by simpa using ra)⟩
 | .dict _,_,_,h,_=>by unfold DV at h;exact h.elim
theorem Zu.readsAll(I:Zu X pins σ H s):∀{ds:List PyData}{xs:List V}{us:List Value},Y6 X.K H ds xs->ZH xs us->∃as,ReadsAll s.heap us ds as
 | [],_,_,h,r=>by unfold Y6 at h;subst h;cases r;exact⟨_,.nil⟩
 | d::ds,_,us,h,r=>by
  unfold Y6 at h
  obtain⟨x,t,q1,q2,q3⟩:=h
  subst q1
  cases r with
  | cons r1 r2=>
   obtain⟨as,ra⟩:=Zu.reads I q2 r1
   obtain⟨bs,rb⟩:=Zu.readsAll I q3 r2
   exact⟨_,.cons ra rb⟩
end
end
section
variable {X:Cx}
def Ag(K:Frag)(neg:Bool):R2:=λx y H Q=>∃da db,DV K H da x/\DV K H db y/\SeqAt.shaped da=true/\SeqAt.shaped db=true/\Q (.bl (if neg then !PyData.eqv da db else PyData.eqv da db)) H
theorem Sm(hu:X.A.units+64<cLine):WX X (compareOp .Eq) (Ag X.K false):=by
 rintro pins s σ H x y v u Q I rx ry ⟨da,db,h1,h2,s1,s2,q⟩
 obtain⟨as,ra⟩:=I.reads h1 rx
 obtain⟨bs,rb⟩:=I.reads h2 ry
 exact SeqAt.compareEq_shaped ra rb s1 s2 hu ⟨.bl (PyData.eqv da db),H,I,rfl,q⟩
theorem Qc(hu:X.A.units+64<cLine):WX X (compareOp .NotEq) (Ag X.K true):=by
 rintro pins s σ H x y v u Q I rx ry ⟨da,db,h1,h2,s1,s2,q⟩
 obtain⟨as,ra⟩:=I.reads h1 rx
 obtain⟨bs,rb⟩:=I.reads h2 ry
 exact SeqAt.compareNe_shaped ra rb s1 s2 hu ⟨.bl (!PyData.eqv da db),H,I,rfl,q⟩
theorem UE(hg:X.A.guards=some [])(hu:X.A.units+64<cLine):Y0 X (.builtin "repr") (λxs H Q=>∃a d,xs=[.ref a]/\DV X.K H d (.ref a)/\d.showable=true/\d.hasDict=false/\d.depth≤40/\d.shown.length≤sizeLine/\Q (.str d.shown) H):=by
 rintro pins s σ H xs us Q I r ⟨a,d,rfl,h,h1,h2,h3,h4,q⟩
 obtain⟨u,rfl,rx⟩:=VF r
 cases (show u=Value.ref a from rx)
 obtain⟨as,ra⟩:=I.reads h rx
 exact repr_of_reads' ra h1 (PyData.noDict_hsm h2) hg (by omega) (λ_ _ e=>e) (λh' u tk hk=>⟨.str d.shown,H,I.kept hk,⟨u,rfl⟩,q⟩) h4
def hdL(A:Around):List Addr:=match A.handled with|some (.ref e)=>[e]|_=>[]
theorem Zbn{prog:Program}{w:World}{A:Around}(I ax:Addr)(hne:ax≠I)(hI:∀e,A.handled=some (.ref e)->e≠I)(items:Array Value):
  Walks prog w A I (I::ax::hdL A) [I] items.size (λi v=>items[i]? = some v) (λi h=>h.IsListIter I ax i/\h.IsList ax items/\VG A h) where
 sub:=λb hb=>by simp at hb;simp[hb]
 frame:=λ_ _ _ st hk=>⟨st.1.at λo e=>hk I (by simp) o e,st.2.1.at λo e=>hk ax (by simp) o e,st.2.2.keep λe o he q=>hk e (by unfold hdL;rw[he];simp) o q⟩
 item:=λi s Q E hi st hQ=>by
  refine wpAny_pyNext_list_item st.1 st.2.1 (x:=items[i]) (by simp[hi]) λh' hit' hs'=>?_
  exact hQ _ h' s.toks (by simp[hi]) ⟨hit',st.2.1.extBut hs'.extBut hne,st.2.2.keep λe o he q=>hs'.extBut e o (hI e he) q⟩ λb o hb e=>hs'.extBut b o (λh=>hb (by simp[h])) e
 done:=λs Q E st hQ=>LV st.2.2 hI st.1 st.2.1 (by simp) λh' he'=>hQ h' s.toks λb o hb e=>he' b o (λh=>hb (by simp[h])) e
 self:=λ_ _ _ _ st hQ=>wpAny_pyIter_listiter st.1 hQ
theorem Zu.hdL{X:Cx}{pins:List (Addr×Obj)}{σ:St}{H:Hp}{s:Shared}(I:Zu X pins σ H s)(hc:X.calm=true):(∀e,X.A.handled=some (.ref e)->e<s.heap.objs.size)/\∀b∈L2.hdL X.A,b<s.heap.objs.size:=by
 have h1:∀e,X.A.handled=some (.ref e)->e<s.heap.objs.size:=λe he=>by
  rcases(I.hdOk hc).1 with h|⟨e',oe,vs,h1,h2,_⟩
  ·rw[h]at he;cases he
  ·rw[he]at h1;cases h1;exact wM h2
 refine⟨h1,λb hb=>?_⟩
 unfold L2.hdL at hb
 split at hb
 ·next e he=>rw[xQ.mp hb];exact h1 e he
 ·cases hb
theorem TH(hc:X.calm=true):Y0 X (.builtin "all") (λxs H Q=>∃(a:Addr) (bs:List Bool),xs=[.ref a]/\Xp X.K H a (bs.map V.bl)/\Q (.bl (bs.all id)) H):=by
 rintro pins s σ H xs us Q I r ⟨a,bs,rfl,h,q⟩
 obtain⟨u,rfl,rx⟩:=VF r
 cases (show u=Value.ref a from rx)
 obtain⟨its,rv,p,hz⟩:=I.list h
 refine call_all_walk (uE p.isList ?_)
 have hlt:a<s.heap.objs.size:=by obtain⟨o,e,_⟩:=p.isList;exact wM e
 have l2:=rv.length
 rw[Wb]at l2
 refine⟨s.heap.objs.size,_,_,_,_,_,λi=>bs.getD i true,rfl,Zbn (A:=X.A.in1) s.heap.objs.size a (vC hlt) (λe he=>vC ((I.hdL hc).1 e he)) its.toArray,⟨⟨_,wK _ rfl,rfl,rfl⟩,p.isList.push _,(I.hdOk hc).1.keep λe o _ q=>wJ _ q⟩,?_,λh' tk hk=>?_⟩
 ·intro i v s' Q' E' hv hq
  have hv':its[i]? = some v:=by simpa using hv
  have hl:i<bs.length:=by
   have:=(vS.mp hv').1
   omega
  obtain⟨u2,h1,h2⟩:=rv.get (i:=i) (x:=.bl bs[i]) (by simp[hl])
  rw[hv']at h1;cases h1
  cases (show v=Value.bool bs[i] from h2)
  refine vY ?_
  dsimp only at hq
  rw[xR,M4 hl]at hq
  exact hq
 ·have e1:(List.range its.toArray.size).all (λi=>bs.getD i true)=bs.all id:=by
   rw[yK,<- l2,uJ,xC,xC]
   constructor
   ·intro h x hx
    obtain⟨i,hi,e⟩:=xS.mp hx
    have:=h i (by simpa using hi)
    rw[xR,M4 hi]at this
    simpa[e]using this
   ·intro h i hi
    have hi':i<bs.length:=by simpa using hi
    rw[xR,M4 hi']
    simpa using h _ (xT hi')
  refine⟨.bl (bs.all id),H,I.kept (λb o e=>hk b o ?_ (wJ _ e)),by rw[e1];rfl,q⟩
  intro hb
  have:b=s.heap.objs.size:=by simpa using hb
  exact absurd (wM e) (by rw[this];exact vJ _)
theorem JI:Y0 X (.builtin "isinstance") (λxs H Q=>∃x t c b,xs=[x,.ty c]/\TyOf X.K H x t/\PySem.W.kitOne X.K t (.type c)=some b/\Q (.bl b) H):=by
 rintro pins s σ H xs us Q I r ⟨x,t,c,b,rfl,ty,e,q⟩
 obtain⟨u,w,rfl,rx,rc⟩:=N_ r
 cases (show w=Value.type c from rc)
 exact QX I rx ty e λtk=>⟨.bl b,H,I.tok _,rfl,q⟩
def Dz(i j:Int):Prop:=0≤j/\(Builtin.Int.intBits i:Int)*j≤2 ^ 27
theorem Kc:WX X (binaryOp .Pow) (rI Dz λi j=>.int (i ^ j.toNat)):=opI λ_ _ _ _ _ _ _ hc q=>pow_int hc.1 hc.2 q
end
open AutoSeq1 (wpAny_loadPart')
open MeetsSeq MeetsSeq2 MeetsSeq3 SeqRoads2
section
variable {X:Cx}
theorem YF{H:Hp}{p:Addr}(h:H p=none)(o:HO):Z7 H (upd H p o):=λb u q=>by rw[Zk (Xl q h)];exact q
end
end L2
namespace L2
open PySem PySem.Spec PyProof.Rows
section
variable {X:Cx}
theorem WS:WX X (binaryOp .Mult) (rI IntMulOk λi j=>.int (i*j)):=opI λ_ _ _ _ _ _ _ hc q=>mul_int q hc
theorem UI{i:Int}{n:Nat}(h:i.natAbs<2 ^ n):Builtin.Int.intBits i≤n:=by
 unfold Builtin.Int.intBits
 split
 ·exact zL _
 ·rename_i hne
  have h0:i.natAbs≠0:=by
   intro z
   exact hne (by simpa using z)
  have:=(Nat.log2_lt h0).mpr h
  omega
theorem HQ{i j:Int}{n:Nat}(hn:n≤2 ^ 20)(hi:i.natAbs<2 ^ n)(hj:j.natAbs<2 ^ n):IntMulOk i j:=IntMulOk.of_bits (zF (UI hi) hn) (zF (UI hj) hn)
end
def SB(u:Addr)(H H':Hp):Prop:=∀b o,b≠u->H b=some o->H' b=some o
theorem SB.trans{u:Addr}{H H1 H2:Hp}(a:SB u H H1)(b:SB u H1 H2):SB u H H2:=λc o n h=>b c o n (a c o n h)
theorem Z7.sb{H H':Hp}(e:Z7 H H')(u:Addr):SB u H H':=λb o _ h=>e b o h
theorem SB.upd(u:Addr)(H:Hp)(o:HO):SB u H (upd H u o):=λb v n h=>by rw[Zk n];exact h
theorem SB.seq{K:Frag}{u:Addr}{H H':Hp}{a:Addr}{xs:List V}(e:SB u H H')(n:a≠u)(h:Xp K H a xs):Xp K H' a xs:=by
 rcases h with (h|⟨o,h⟩)|h
 ·exact .inl (.inl (e _ _ n h))
 ·exact .inl (.inr ⟨o,e _ _ n h⟩)
 ·exact .inr h
theorem SB.tup{K:Frag}{u:Addr}{H H':Hp}{a:Addr}{xs:List V}(e:SB u H H')(n:a≠u)(h:WH K H a xs):WH K H' a xs:=by
 rcases h with (h|⟨o,h⟩)|h
 ·exact .inl (.inl (e _ _ n h))
 ·exact .inl (.inr ⟨o,e _ _ n h⟩)
 ·exact .inr h
theorem SB.get{u:Addr}{H H':Hp}(e:SB u H H'){b:Addr}{o:HO}(h:H b=some o)(n:b≠u):H' b=some o:=e b o n h
def ZY(x:Str)(st:Stmt)(ps:List Str):Prop:=∀(kV doc pm:Value) (an:Option Addr) (cdv ct:Value) (us:List Value),us.length=ps.length->bindArgs (PySem.W.fnOf x x (Y7 st) (ZR st) (Zf st) .none kV doc pm an cdv ct) ⟨us,[]⟩=pure (ps.zip us)
def Hf(na nk:Nat)(pick:List (Bool×Nat)){α:Type}(us ws:List α):List α:=if us.length=na/\ws.length=nk then pick.filterMap (λp=>if p.1=true then us[p.2]? else ws[p.2]?) else []
def K1(x:Str)(st:Stmt)(ps ks:List Str)(na nk:Nat)(pick:List (Bool×Nat)):Prop:=∀(kV doc pm:Value) (an:Option Addr) (cdv ct:Value) (us ws:List Value),(Hf na nk pick us ws).length=ps.length ->
 bindArgs (PySem.W.fnOf x x (Y7 st) (ZR st) (Zf st) .none kV doc pm an cdv ct) ⟨us,ks.zip ws⟩=pure (ps.zip (Hf na nk pick us ws))
theorem Ee{na nk:Nat}{pick:List (Bool×Nat)}{vs:List V}{us:List Value}{zs:List V}{ws:List Value}(r:ZH vs us)(z:ZH zs ws):ZH (Hf na nk pick vs zs) (Hf na nk pick us ws):=by
 unfold Hf
 rw[r.length,z.length]
 split
 ·induction pick with
  | nil=>exact .nil
  | cons p t ih=>
   have look:∀{as:List V}{bs:List Value},ZH as bs->∀i:Nat,(∃a b,as[i]? = some a/\bs[i]? = some b/\ZI a b)\/(as[i]? = none/\bs[i]? = none):=λ{as bs} q i=>by
    cases e:as[i]? with
    | none=>exact .inr ⟨rfl,q.none_of e⟩
    | some a=>obtain⟨b,h1,h2⟩:=q.get e;exact .inl ⟨a,b,rfl,h1,h2⟩
   rw[vL,vL]
   cases p.1 with
   | true=>
    rcases look r p.2 with ⟨a,b,e1,e2,q⟩|⟨e1,e2⟩
    ·simp only[yJ,e1,e2];exact .cons q ih
    ·simp only[yJ,e1,e2];exact ih
   | false=>
    rcases look z p.2 with ⟨a,b,e1,e2,q⟩|⟨e1,e2⟩
    ·simp only[vE,vF,e1,e2];exact .cons q ih
    ·simp only[vE,vF,e1,e2];exact ih
 ·exact .nil
structure Dn(P:Program)(w:World)(K:Frag)(mg:Str->Option Value)(base:Heap)(k:Nat)(x:Str)(st:Stmt)(ps:List Str)(sp:Sp):Prop where
 ex:∃f fd,Xc P w K mg base UC k f fd ps sp/\Ws K x x st f fd/\mg x=some (.ref f)
section
variable {X:Cx}{k:Nat}{x:Str}{st:Stmt}{ps ks:List Str}{sp:Sp}{p pos:Pos}{e:Expr}{es:List Expr}{kws:List Keyword}{t tk:TA}{na nk:Nat}{pick:List (Bool×Nat)}
theorem BD(D:Dn X.prog X.w X.K X.mg X.base k x st ps sp)(hb:ZY x st ps)(hr:ZZ k X.A)(ha:PA X (e::es) t)(hg:Gl X x:=by rfl)(hs:starEach (e::es) X.env=(false,eval e X.env)::starEach es X.env:=by rfl)(hpl:(backTo pos (starEach es X.env)).any (·.1)=false:=by rfl) 
  (hdb:(x == ("__debug__" : Str))=false:=by decide):PE X (.Call (.Name x p) (e::es) [] pos) (Kw sp [] E0 t):=by
 obtain⟨f,fd,F,U,m⟩:=D.ex
 exact E6 F hr hg m U.kp (U.binds hb) .nil Kd ha (hdb:=hdb) (he:=hs) (hpl:=hpl)
theorem Ws.kbinds{K:Frag}{f:Addr}{fd:FuncData}(F:Ws K x x st f fd)(h:K1 x st ps ks na nk pick):Mh K fd ps ks (Hf na nk pick) (Hf na nk pick):=by
 obtain⟨oc,od,kV,doc,pm,an,cdv,ct,osl,rfl,lk,hcd⟩:=F.ex
 exact⟨λs us ws _ hl=>.of_eq (h kV doc pm an cdv ct us ws hl),λr z=>Ee r z⟩
end
theorem Dn.of{P:Program}{w:World}{K:Frag}{mg:Str->Option Value}{base:Heap}{x:Str}{st:Stmt}{N ps:List Str}{k:Nat}{sp:Sp}(U:∃f fd,Ws K x x st f fd/\mg x=some (.ref f))(S:Zv N ps (Zf st))(len:∀vs H Q E,sp vs H Q E->vs.length=ps.length) 
  (hbody:∀(f:Addr) (cdv:Value) (A:Around) (outer:List Env) (s:Shared) (H:Hp) (vs:List V) (Q:VK) (E:XK),ZZ k (A.deeper (envOfC x (Zf st) s.heap.objs.size f cdv))->sp vs H Q E ->
   ∃t,U6 (Xw UC P w K mg base N x (Zf st) f cdv A outer s H E).nox (ZR st) t/\t { nx:=λ_ H'=>Q .non H',rt:=Q } (YG N vs) H):Dn P w K mg base (k+1) x st ps sp:=by
 obtain⟨f,fd,F,m⟩:=U
 exact⟨f,fd,F.ok S len λcdv A outer s H vs Q E hr h=>hbody f cdv A outer s H vs Q E hr h,F,m⟩
def K3(H:Hp)(u:Addr)(m:Nat):Prop:=∃g c n:Int,H u=some (.lst [.int g,.int c,.int n])/\0≤g/\0≤c/\c≤4000000000000000000/\0≤n/\n≤m
theorem K3.mono{H:Hp}{u:Addr}{m m':Nat}(h:K3 H u m)(le:m≤m'):K3 H u m':=by
 obtain⟨g,c,n,e,h1,h2,h3,h4,h5⟩:=h
 exact⟨g,c,n,e,h1,h2,h3,h4,by omega⟩
theorem K3.same{H H':Hp}{u:Addr}{m:Nat}(h:K3 H u m)(s:Z7 H H'):K3 H' u m:=by
 obtain⟨g,c,n,e,r⟩:=h
 exact⟨g,c,n,s _ _ e,r⟩
theorem K3.ne{H:Hp}{u p:Addr}{m:Nat}(h:K3 H u m)(e:H p=none):p≠u:=by
 obtain⟨g,c,n,q,_⟩:=h
 exact λz=>by rw[z,q]at e;cases e
def Cu(K:Frag):Sp:=λvs H Q _=>∃(a:Addr) (ns:List Int) (k:Int),vs=[.ref a,.int k]/\Xp K H a (ns.map V.int)/\0≤k/\k≤100 /\
 ∀(r:Addr) (H':Hp),Z7 H H'->H r=none->K3 H' r 0->Q (.ref r) H'
def Fe:Sp:=λvs H Q _=>∃(u:Addr) (wd:Int) (m:Nat),vs=[.ref u,.int wd]/\K3 H u m/\m≤1000000/\0<wd/\wd<1099511627776 /\
 ∀(d:Int) (H':Hp),0≤d->d<wd->SB u H H'->K3 H' u (m+1)->Q (.int d) H'
theorem Sl{i:Int}{n:Nat}(h0:0≤i)(h:i<2 ^ n):i.natAbs<2 ^ n:=by
 have e:((i.natAbs:Nat):Int)=i:=Int.natAbs_of_nonneg h0
 have:((i.natAbs:Nat):Int)<((2 ^ n:Nat):Int):=by rw[e];simpa using h
 exact_mod_cast this
theorem Gx(j:Int):∃q:Int,atI [V.int 2147483647,V.int 2147483629,V.int 2147483587,V.int 2147483579,V.int 2147483563,V.int 2147483549,V.int 2147483543] (j % 7)=some (.int q)/\0<q/\q≤2147483647:=by
 have h0:=xU j (show(7:Int)≠0 by decide)
 have h1:=xV j (show(0:Int)<7 by decide)
 have:j % 7=0\/j % 7=1\/j % 7=2\/j % 7=3\/j % 7=4\/j % 7=5\/j % 7=6:=by omega
 rcases this with e|e|e|e|e|e|e<;>rw[e]<;>exact⟨_,rfl,by decide,by decide⟩
section
variable {X:Cx}{Nc:List Str}{scope:Scope}{cs:List (Str×Addr)}{C:Addr}{s:Shared}{H:Hp}{fp:List Addr}{x:Str}{pos:Pos}
theorem Uk:(ZW X Nc scope cs C s H fp).env.scope.names.lookup x=(scope.names.lookup x).map λk=>if(k == NameKind.free&&X.env.scope.kind == .function&&X.env.kindOf x == some .cell) then .cell else k:=W4
theorem UG(h:scope.names.lookup x=some .local):(ZW X Nc scope cs C s H fp).env.scope.names.lookup x=some .local:=by rw[Uk,h];rfl
theorem K9(h:scope.names.lookup x=some .cell):(ZW X Nc scope cs C s H fp).env.scope.names.lookup x=some .cell:=by rw[Uk,h];rfl
theorem XQ(h:scope.names.lookup x=some .globalImplicit:=by rfl):Gl (ZW X Nc scope cs C s H fp) x:=by
 show(ZW X Nc scope cs C s H fp).env.scope.names.lookup x=_
 rw[Uk,h];rfl
theorem F7(h:scope.names.lookup x=some .free):C8 (ZW X Nc scope cs C s H fp).env.scope x:=by
 unfold C8
 rw[Uk,h]
 simp only[xA]
 split
 ·exact .inr (.inl rfl)
 ·exact .inr (.inr rfl)
theorem pvl(i:Nat)(hN:Nc[i]? = some x:=by rfl)(hk:scope.names.lookup x=some .local:=by rfl)(hd:(x == ("__debug__" : Str))=false:=by decide)(hcd:(x == ("__classdict__" : Str))=false:=by decide):PE (ZW X Nc scope cs C s H fp) (.Name x pos) (O1 i):=
 Qd (X:=ZW X Nc scope cs C s H fp) hN (.inl (UG hk)) hd hcd
theorem pvf(i:Nat)(hN:Nc[i]? = some x:=by rfl)(hk:scope.names.lookup x=some .free:=by rfl)(hd:(x == ("__debug__" : Str))=false:=by decide)(hcd:(x == ("__classdict__" : Str))=false:=by decide):PE (ZW X Nc scope cs C s H fp) (.Name x pos) (O1 i):=
 Qd (X:=ZW X Nc scope cs C s H fp) hN (F7 hk) hd hcd
theorem pgl(i:Nat)(hN:Nc.Nodup)(hi:Nc[i]? = some x:=by rfl)(hk:scope.names.lookup x=some .local:=by rfl):PG (ZW X Nc scope cs C s H fp) (.Name x pos) (WQ i):=
 Oa (X:=ZW X Nc scope cs C s H fp) hN hi (.inl (UG hk)) (.inr (UG hk))
theorem pgc(i:Nat)(hN:Nc.Nodup)(hi:Nc[i]? = some x:=by rfl)(hk:scope.names.lookup x=some .cell:=by rfl):PG (ZW X Nc scope cs C s H fp) (.Name x pos) (WQ i):=
 Oa (X:=ZW X Nc scope cs C s H fp) hN hi (.inr (K9 hk)) (.inl (by show(scope.names.lookup x == some .cell)=true;rw[hk];rfl))
end
@[irreducible] def IPE(X:Cx)(e:Expr)(t:TE):Prop:=PE X e t
theorem Zr{X:Cx}{e:Expr}{t:TE}:IPE X e t=PE X e t:=by unfold IPE;rfl
@[irreducible] def IPT(X:Cx)(e:Expr)(t:TT):Prop:=PT X e t
theorem Z0{X:Cx}{e:Expr}{t:TT}:IPT X e t=PT X e t:=by unfold IPT;rfl
@[irreducible] def IPW(X:Cx)(e:Expr)(t:TT):Prop:=PW X e t
theorem Z4{X:Cx}{e:Expr}{t:TT}:IPW X e t=PW X e t:=by unfold IPW;rfl
@[irreducible] def IPA(X:Cx)(e:List Expr)(t:TA):Prop:=PA X e t
theorem Zz{X:Cx}{e:List Expr}{t:TA}:IPA X e t=PA X e t:=by unfold IPA;rfl
@[irreducible] def IPK(X:Cx)(e:List Keyword)(t:TA):Prop:=PK X e t
theorem Z5{X:Cx}{e:List Keyword}{t:TA}:IPK X e t=PK X e t:=by unfold IPK;rfl
@[irreducible] def IPS(X:Cx)(e:Stmt)(t:TS):Prop:=PS X e t
theorem Zx{X:Cx}{e:Stmt}{t:TS}:IPS X e t=PS X e t:=by unfold IPS;rfl
@[irreducible] def IPSs(X:Cx)(e:List Stmt)(t:TS):Prop:=U6 X e t
theorem Zo{X:Cx}{e:List Stmt}{t:TS}:IPSs X e t=U6 X e t:=by unfold IPSs;rfl
@[irreducible] def IPG(X:Cx)(e:Expr)(t:TG):Prop:=PG X e t
theorem Z3{X:Cx}{e:Expr}{t:TG}:IPG X e t=PG X e t:=by unfold IPG;rfl
@[irreducible] def IPGs(X:Cx)(e:List Expr)(t:Mc):Prop:=C5 X e t
theorem Zn{X:Cx}{e:List Expr}{t:Mc}:IPGs X e t=C5 X e t:=by unfold IPGs;rfl
@[irreducible] def IPI(X:Cx)(tg e:Expr)(t:TI):Prop:=PI X tg e t
theorem Zy{X:Cx}{tg e:Expr}{t:TI}:IPI X tg e t=PI X tg e t:=by unfold IPI;rfl
@[irreducible] def IPO(X:Cx)(e:Option Expr)(t:TO):Prop:=PO X e t
theorem Z6{X:Cx}{e:Option Expr}{t:TO}:IPO X e t=PO X e t:=by unfold IPO;rfl
@[irreducible] def IPTs(X:Cx)(e:List Expr)(t:TT):Prop:=FL X e t
theorem Zp{X:Cx}{e:List Expr}{t:TT}:IPTs X e t=FL X e t:=by unfold IPTs;rfl
theorem IPSs.get{X:Cx}{e:List Stmt}{t:TS}(h:IPSs X e t):U6 X e t:=by rw[<- Zo];exact h
theorem IPW.pt{X:Cx}{e:Expr}{t:TT}(h:IPW X e t):IPT X e t:=by rw[Z0];rw[Z4]at h;exact h.pt
theorem Zd{X:Cx}{i j pos}:IPE X (.Constant (.int i) j pos) (tC (.int i)):=by
 simp only[Zr,Z0,Z4,Zz,Z5,Zx,Zo,Z3,Zn,Zy,Z6,Zp]at *
 exact BF 
theorem YH{X:Cx}{b j pos}:IPE X (.Constant (.bool b) j pos) (tC (.bl b)):=by
 simp only[Zr,Z0,Z4,Zz,Z5,Zx,Zo,Z3,Zn,Zy,Z6,Zp]at *
 exact Zaq 
theorem Vl{X:Cx}{j pos}:IPE X (.Constant .none j pos) (tC .non):=by
 simp only[Zr,Z0,Z4,Zz,Z5,Zx,Zo,Z3,Zn,Zy,Z6,Zp]at *
 exact BH 
theorem Zs{X:Cx}{x j pos}:IPE X (.Constant (.str x) j pos) (tC (.str x)):=by
 simp only[Zr,Z0,Z4,Zz,Z5,Zx,Zo,Z3,Zn,Zy,Z6,Zp]at *
 exact Gr 
theorem Eh{X:Cx}{op:UnaryOp}{r:V->Hp->VK->Prop}(ho:UnR X (unaryOp op) r)(ha:IPE X a ta):IPE X (.UnaryOp op a pos) (tUn r ta):=by
 simp only[Zr,Z0,Z4,Zz,Z5,Zx,Zo,Z3,Zn,Zy,Z6,Zp]at *
 exact Zau (ho:=ho) (ha:=ha)
theorem Hq{X:Cx}(ha:IPE X a ta):IPE X (.UnaryOp .Not a pos) (Fs ta):=by
 simp only[Zr,Z0,Z4,Zz,Z5,Zx,Zo,Z3,Zn,Zy,Z6,Zp]at *
 exact BI (ha:=ha)
theorem ZA{X:Cx}{op:Operator}{r:R2}(ho:WX X (binaryOp op) r)(ha:IPE X a ta)(hb:IPE X b tb):IPE X (.BinOp a op b pos) (Dr r ta tb):=by
 simp only[Zr,Z0,Z4,Zz,Z5,Zx,Zo,Z3,Zn,Zy,Z6,Zp]at *
 exact Zat (ho:=ho) (ha:=ha) (hb:=hb)
theorem Xq{X:Cx}{op:CmpOp}{r:R2}(ho:WX X (compareOp op) r)(ha:IPE X a ta)(hb:IPE X b tb)(hm:behindInMarks op b=false):IPE X (.Compare a [op] [b] pos) (Dr r ta tb):=by
 simp only[Zr,Z0,Z4,Zz,Z5,Zx,Zo,Z3,Zn,Zy,Z6,Zp]at *
 exact E7 (ho:=ho) (ha:=ha) (hb:=hb) (hm:=hm)
theorem Tc{X:Cx}{rest:List Expr}(ha:IPE X a ta)(hb:IPE X (.BoolOp .And (b::rest) pos) tb):IPE X (.BoolOp .And (a::b::rest) pos) (Fi ta tb):=by
 simp only[Zr,Z0,Z4,Zz,Z5,Zx,Zo,Z3,Zn,Zy,Z6,Zp]at *
 exact BC (ha:=ha) (hb:=hb)
theorem Td{X:Cx}{op}{t:TE}(h:IPE X a t):IPE X (.BoolOp op [a] pos) t:=by
 simp only[Zr,Z0,Z4,Zz,Z5,Zx,Zo,Z3,Zn,Zy,Z6,Zp]at *
 exact BJ (h:=h)
theorem M8{X:Cx}{c:Expr}(hc:IPT X c tA)(ha:IPE X a ta)(hb:IPE X b tb):IPE X (.IfExp c a b pos) (tIf tA ta tb):=by
 simp only[Zr,Z0,Z4,Zz,Z5,Zx,Zo,Z3,Zn,Zy,Z6,Zp]at *
 exact Gn (hc:=hc) (ha:=ha) (hb:=hb)
theorem ZV{X:Cx}(h:IPA X es t):IPE X (.List es pos) (Dq t):=by
 simp only[Zr,Z0,Z4,Zz,Z5,Zx,Zo,Z3,Zn,Zy,Z6,Zp]at *
 exact BG (h:=h)
theorem ZC{X:Cx}{x1}(h:IPA X es t):IPE X (.Tuple es x1 pos) (Dt t):=by
 simp only[Zr,Z0,Z4,Zz,Z5,Zx,Zo,Z3,Zn,Zy,Z6,Zp]at *
 exact BK (h:=h)
theorem RF{X:Cx}{lo:Option Expr}{hi:Option Expr}{th:TO}{tl:TO}{r:V->Option Int->Option Int->Hp->VK->Prop}(hr:J9 X r)(he:IPE X e te)(hl:IPO X lo tl)(hu:IPO X hi th):IPE X (.Subscript e (.Slice lo hi none p2) pos) (tSl r te tl th):=by
 simp only[Zr,Z0,Z4,Zz,Z5,Zx,Zo,Z3,Zn,Zy,Z6,Zp]at *
 exact Gq (hr:=hr) (he:=he) (hl:=hl) (hu:=hu)
theorem QT{X:Cx}:IPO X none O0:=by
 simp only[Zr,Z0,Z4,Zz,Z5,Zx,Zo,Z3,Zn,Zy,Z6,Zp]at *
 exact EH 
theorem QU{X:Cx}(h:IPE X e te):IPO X (some e) (Ft te):=by
 simp only[Zr,Z0,Z4,Zz,Z5,Zx,Zo,Z3,Zn,Zy,Z6,Zp]at *
 exact EI (h:=h)
theorem Zq{X:Cx}{r:R2}(hr:J8 X r)(ha:IPE X a ta)(hb:IPE X b tb)(hs:Ln b):IPE X (.Subscript a b pos) (Dr r ta tb):=by
 simp only[Zr,Z0,Z4,Zz,Z5,Zx,Zo,Z3,Zn,Zy,Z6,Zp]at *
 exact Zas (hr:=hr) (ha:=ha) (hb:=hb) (hs:=hs)
theorem Zi{X:Cx}{id:String}(hc:Y0 X (.builtin id) r)(hg:Gl X x)(hm:X.mg x=none)(hv:bootBuiltins x=some (.builtin id))(ha:IPA X (e::es) t)(hn:x≠"__name__":=by decide)(hdb:(x == ("__debug__" : Str))=false:=by decide) 
  (he:starEach (e::es) X.env=(false,eval e X.env)::starEach es X.env:=by rfl) (hpl:(backTo pos (starEach es X.env)).any (·.1)=false:=by rfl):IPE X (.Call (.Name x p) (e::es) [] pos) (tCB r t):=by
 simp only[Zr,Z0,Z4,Zz,Z5,Zx,Zo,Z3,Zn,Zy,Z6,Zp]at *
 exact Gg (hc:=hc) (hg:=hg) (hm:=hm) (hv:=hv) (ha:=ha) (hn:=hn) (hdb:=hdb) (he:=he) (hpl:=hpl)
theorem Ym{X:Cx}{T:String}(hc:Y0 X (.type T) r)(hg:Gl X x)(hm:X.mg x=none)(hv:bootBuiltins x=some (.type T))(ha:IPA X (e::es) t)(hn:x≠"__name__":=by decide)(hdb:(x == ("__debug__" : Str))=false:=by decide) 
  (he:starEach (e::es) X.env=(false,eval e X.env)::starEach es X.env:=by rfl) (hpl:(backTo pos (starEach es X.env)).any (·.1)=false:=by rfl):IPE X (.Call (.Name x p) (e::es) [] pos) (tCB r t):=by
 simp only[Zr,Z0,Z4,Zz,Z5,Zx,Zo,Z3,Zn,Zy,Z6,Zp]at *
 exact Jo (hc:=hc) (hg:=hg) (hm:=hm) (hv:=hv) (ha:=ha) (hn:=hn) (hdb:=hdb) (he:=he) (hpl:=hpl)
theorem Z2{X:Cx}{st:Stmt}{sp:Sp}{ps:List Str}(D:Dn X.prog X.w X.K X.mg X.base k x st ps sp)(hb:ZY x st ps)(hr:ZZ k X.A)(ha:IPA X (e::es) t)(hg:Gl X x:=by rfl)(hs:starEach (e::es) X.env=(false,eval e X.env)::starEach es X.env:=by rfl)(hpl:(backTo pos (starEach es X.env)).any (·.1)=false:=by rfl) 
  (hdb:(x == ("__debug__" : Str))=false:=by decide):IPE X (.Call (.Name x p) (e::es) [] pos) (Kw sp [] E0 t):=by
 simp only[Zr,Z0,Z4,Zz,Z5,Zx,Zo,Z3,Zn,Zy,Z6,Zp]at *
 exact BD (D:=D) (hb:=hb) (hr:=hr) (ha:=ha) (hg:=hg) (hs:=hs) (hpl:=hpl) (hdb:=hdb)
theorem WR{X:Cx}{id:String}{T:String}{name:Str}{to:TE}(pa:PlainAttrs T)(slot:Slot T name id)(hty:typeOf (.builtin id)=pure (.type "method_descriptor"))(hm:C1 X id r)(ho:IPE X o to)(ha:IPA X (e::es) t) 
  (hbase:attributeBase o name X.env (eval o X.env)=eval o X.env:=by rfl)
  (hfew:((backTo cpos (starEach (e::es) X.env)).all (λx=>!x.1)&&(backToKw cpos (keywordEach [] X.env)).all (λx=>x.1.isSome)
  &&decide ((e::es).length+([]:List Keyword).length+(if([]:List Keyword).isEmpty then 0 else 1)<30))=true:=by rfl)
  (hline:(apos.endLine == cpos.line)=true:=by rfl) (hs:starEach (e::es) X.env=(false,eval e X.env)::starEach es X.env:=by rfl) (hplain:(backTo cpos (starEach es X.env)).any (·.1)=false:=by rfl) :
  IPE X (.Call (.Attribute o name apos) (e::es) [] cpos) (tBM X.K T r to t):=by
 simp only[Zr,Z0,Z4,Zz,Z5,Zx,Zo,Z3,Zn,Zy,Z6,Zp]at *
 exact Zar (pa:=pa) (slot:=slot) (hty:=hty) (hm:=hm) (ho:=ho) (ha:=ha) (hbase:=hbase) (hfew:=hfew) (hline:=hline) (hs:=hs) (hplain:=hplain)
theorem Z_{X:Cx}{x:Str}{v:V}{u:Value}{pos:Pos}(hg:Gl X x)(hm:X.mg x=none)(hv:bootBuiltins x=some u)(r:ZI v u)(hn:x≠"__name__":=by decide)(hd:(x == ("__debug__" : Str))=false:=by decide):IPE X (.Name x pos) (tC v):=by
 simp only[Zr,Z0,Z4,Zz,Z5,Zx,Zo,Z3,Zn,Zy,Z6,Zp]at *
 exact E5 (hg:=hg) (hm:=hm) (hv:=hv) (r:=r) (hn:=hn) (hd:=hd)
theorem Yk{X:Cx}{elt tg iter:Expr}{ifs:List Expr}{scope:Scope}{pos:Pos}{Nc:List Str}{cap:List (Option Nat)}{wi:TI}{g:TG}{tt:TT}{te:TE} 
  (hc:X.calm=true) (hi:IPI X tg iter wi) (ok:Rt X Nc cap scope=true) (hg:∀cs C s H fp,IPG (ZW X Nc scope cs C s H fp) tg g) (ht:∀cs C s H fp,IPTs (ZW X Nc scope cs C s H fp) ifs tt)
  (he:∀cs C s H fp,IPE (ZW X Nc scope cs C s H fp) elt te) (hk:scope.kind=.function:=by rfl) (hs:∀x,foldedSetIterable iter X.env x=pure x:=by intro _;rfl) :
  IPE X (.ListComp elt [⟨tg,iter,ifs,0⟩] scope pos) (Qq wi cap g tt (S0 te)):=by
 simp only[Zr,Z0,Z4,Zz,Z5,Zx,Zo,Z3,Zn,Zy,Z6,Zp]at *
 exact E8 (hc:=hc) (hi:=hi) (ok:=ok) (hg:=hg) (ht:=ht) (he:=he) (hk:=hk) (hs:=hs)
theorem Wl{X:Cx}{i:Nat}{x:Str}{elt tg iter:Expr}{ifs:List Expr}{scope:Scope}{pos pos' spos:Pos}{Nc:List Str}{cap:List (Option Nat)}{wi:TI}{g:TG}{tt:TT}{te:TE} 
  (hN:X.N.Nodup) (hx:X.N[i]? = some x) (hl:D6 X.env.scope x)
  (hc:X.calm=true) (hi:IPI X tg iter wi) (ok:Rt X Nc cap scope=true) (hg:∀cs C s H fp,IPG (ZW X Nc scope cs C s H fp) tg g) (ht:∀cs C s H fp,IPTs (ZW X Nc scope cs C s H fp) ifs tt)
  (he:∀cs C s H fp,IPE (ZW X Nc scope cs C s H fp) elt te) (hsw:swapsWith (.ListComp elt [⟨tg,iter,ifs,0⟩] scope pos) (some (.Name x pos')) spos.line X.env=pure true:=by rfl)
  (hk:scope.kind=.function:=by rfl) (hs:∀x,foldedSetIterable iter X.env x=pure x:=by intro _;rfl)
  (hf:X.fn x=true\/X.env.scope.names.lookup x=some .local:=by first|exact .inl rfl|exact .inr rfl|assumption) :
  IPS X (.Assign [.Name x pos'] (.ListComp elt [⟨tg,iter,ifs,0⟩] scope pos) spos) (NR (Qq wi cap g tt (S0 te)) (WQ i)):=by
 simp only[Zr,Z0,Z4,Zz,Z5,Zx,Zo,Z3,Zn,Zy,Z6,Zp]at *
 exact MR (hN:=hN) (hx:=hx) (hl:=hl) (hc:=hc) (hi:=hi) (ok:=ok) (hg:=hg) (ht:=ht) (he:=he) (hsw:=hsw) (hk:=hk) (hs:=hs) (hf:=hf)
theorem ZP{X:Cx}{op:CmpOp}{r:R2}(ho:WX X (compareOp op) r)(ha:IPE X a ta)(hb:IPE X b tb)(hm:behindInMarks op b=false):IPT X (.Compare a [op] [b] pos) (NS (Dr r ta tb)):=by
 simp only[Zr,Z0,Z4,Zz,Z5,Zx,Zo,Z3,Zn,Zy,Z6,Zp]at *
 exact EK (ho:=ho) (ha:=ha) (hb:=hb) (hm:=hm)
theorem Xf{X:Cx}(ha:IPT X a tA):IPT X (.UnaryOp .Not a pos) (A7 tA):=by
 simp only[Zr,Z0,Z4,Zz,Z5,Zx,Zo,Z3,Zn,Zy,Z6,Zp]at *
 exact Ab (ha:=ha)
theorem RM{X:Cx}{rest:List Expr}(ha:IPT X a tA)(hb:IPW X (.BoolOp .And (b::rest) pos) tB'):IPW X (.BoolOp .And (a::b::rest) pos) (A2 tA tB'):=by
 simp only[Zr,Z0,Z4,Zz,Z5,Zx,Zo,Z3,Zn,Zy,Z6,Zp]at *
 exact Ae (ha:=ha) (hb:=hb)
theorem Sa{X:Cx}(ha:IPT X a tA):IPW X (.BoolOp .And [a] pos) tA:=by
 simp only[Zr,Z0,Z4,Zz,Z5,Zx,Zo,Z3,Zn,Zy,Z6,Zp]at *
 exact EN (ha:=ha)
theorem XR{X:Cx}{rest:List Expr}(ha:IPT X a tA)(hb:IPW X (.BoolOp .Or (b::rest) pos) tB'):IPW X (.BoolOp .Or (a::b::rest) pos) (tOr tA tB'):=by
 simp only[Zr,Z0,Z4,Zz,Z5,Zx,Zo,Z3,Zn,Zy,Z6,Zp]at *
 exact Zay (ha:=ha) (hb:=hb)
theorem W3{X:Cx}(ha:IPT X a tA):IPW X (.BoolOp .Or [a] pos) tA:=by
 simp only[Zr,Z0,Z4,Zz,Z5,Zx,Zo,Z3,Zn,Zy,Z6,Zp]at *
 exact Af (ha:=ha)
theorem YC{X:Cx}{e:Expr}{t:TE}(h:IPE X e t)(he:∀whole,isTrue e X.env whole=(do let v <- whole;standAt e.pos;holding [v] (truthy v)):=by intro _;rfl):IPT X e (tB t):=by
 simp only[Zr,Z0,Z4,Zz,Z5,Zx,Zo,Z3,Zn,Zy,Z6,Zp]at *
 exact Ac (h:=h) (he:=he)
theorem Zc{X:Cx}:IPA X [] Fq:=by
 simp only[Zr,Z0,Z4,Zz,Z5,Zx,Zo,Z3,Zn,Zy,Z6,Zp]at *
 exact Gf 
theorem Za{X:Cx}(ha:IPE X e te)(hr:IPA X es t)(hs:starEach (e::es) X.env=(false,eval e X.env)::starEach es X.env:=by rfl):IPA X (e::es) (Kx te t):=by
 simp only[Zr,Z0,Z4,Zz,Z5,Zx,Zo,Z3,Zn,Zy,Z6,Zp]at *
 exact P_ (ha:=ha) (hr:=hr) (hs:=hs)
theorem VU{X:Cx}{a:Expr}{ta:TA}{p pos:Pos}(hg:Gl X "range")(hm:X.mg "range" = none)(ha:IPA X [a] ta)(hs:starEach [a] X.env=[(false,eval a X.env)]:=by rfl)(hc:X.calm=true:=by rfl):IPI X tg (.Call (.Name "range" p) [a] [] pos) (Hn ta):=by
 simp only[Zr,Z0,Z4,Zz,Z5,Zx,Zo,Z3,Zn,Zy,Z6,Zp]at *
 exact Jp (hg:=hg) (hm:=hm) (ha:=ha) (hs:=hs) (hc:=hc)
theorem Nl{X:Cx}{a b:Expr}{ta:TA}{p pos:Pos}(hg:Gl X "range")(hm:X.mg "range" = none)(ha:IPA X [a,b] ta)(hs:starEach [a,b] X.env=[(false,eval a X.env),(false,eval b X.env)]:=by rfl)(hs2:starEach [b] X.env=[(false,eval b X.env)]:=by rfl)(hc:X.calm=true:=by rfl):
  IPI X tg (.Call (.Name "range" p) [a,b] [] pos) (Ho ta):=by
 simp only[Zr,Z0,Z4,Zz,Z5,Zx,Zo,Z3,Zn,Zy,Z6,Zp]at *
 exact Jq (hg:=hg) (hm:=hm) (ha:=ha) (hs:=hs) (hs2:=hs2) (hc:=hc)
theorem Xs{X:Cx}{l:Expr}{tl:TE}(hl:IPE X l tl)(hc:X.calm=true:=by rfl):IPI X tg l (Hm X.K tl):=by
 simp only[Zr,Z0,Z4,Zz,Z5,Zx,Zo,Z3,Zn,Zy,Z6,Zp]at *
 exact EG (hl:=hl) (hc:=hc)
theorem X0{X:Cx}{l:Expr}{tl:TE}(hl:IPE X l tl)(hc:X.calm=true:=by rfl):IPI X tg l (Eg X.K tl):=by
 simp only[Zr,Z0,Z4,Zz,Z5,Zx,Zo,Z3,Zn,Zy,Z6,Zp]at *
 exact BQ (hl:=hl) (hc:=hc)
theorem Ht{X:Cx}{elts:List Expr}{kk:Nat}{tp:Pos}{a b:Expr}{ta:TA}{p pos:Pos}(t1 t2:Bool)(hg:Gl X "zip")(hm:X.mg "zip" = none)(ha:IPA X [a,b] ta)(hs:starEach [a,b] X.env=[(false,eval a X.env),(false,eval b X.env)]:=by rfl)(hs2:starEach [b] X.env=[(false,eval b X.env)]:=by rfl)(hc:X.calm=true:=by rfl):
  IPI X (.Tuple elts kk tp) (.Call (.Name "zip" p) [a,b] [] pos) (Bl X.K t1 t2 ta):=by
 simp only[Zr,Z0,Z4,Zz,Z5,Zx,Zo,Z3,Zn,Zy,Z6,Zp]at *
 exact BR (t1:=t1) (t2:=t2) (hg:=hg) (hm:=hm) (ha:=ha) (hs:=hs) (hs2:=hs2) (hc:=hc)
theorem Yz{X:Cx}{i:Nat}{x:Str}(hN:X.N.Nodup)(hi:X.N[i]? = some x)(hx:D6 X.env.scope x)(hf:X.fn x=true\/X.env.scope.names.lookup x=some .local:=by first|exact .inl rfl|exact .inr rfl|assumption):IPG X (.Name x pos) (WQ i):=by
 simp only[Zr,Z0,Z4,Zz,Z5,Zx,Zo,Z3,Zn,Zy,Z6,Zp]at *
 exact Oa (hN:=hN) (hi:=hi) (hx:=hx) (hf:=hf)
theorem Yb{X:Cx}(i:Nat)(hN:Nc.Nodup)(hi:Nc[i]? = some x:=by rfl)(hk:scope.names.lookup x=some .local:=by rfl):IPG (ZW X Nc scope cs C s H fp) (.Name x pos) (WQ i):=by
 simp only[Zr,Z0,Z4,Zz,Z5,Zx,Zo,Z3,Zn,Zy,Z6,Zp]at *
 exact pgl (i:=i) (hN:=hN) (hi:=hi) (hk:=hk)
theorem Zak{X:Cx}(i:Nat)(hN:Nc.Nodup)(hi:Nc[i]? = some x:=by rfl)(hk:scope.names.lookup x=some .cell:=by rfl):IPG (ZW X Nc scope cs C s H fp) (.Name x pos) (WQ i):=by
 simp only[Zr,Z0,Z4,Zz,Z5,Zx,Zo,Z3,Zn,Zy,Z6,Zp]at *
 exact pgc (i:=i) (hN:=hN) (hi:=hi) (hk:=hk)
theorem YD{X:Cx}(i:Nat)(hN:Nc[i]? = some x:=by rfl)(hk:scope.names.lookup x=some .local:=by rfl)(hd:(x == ("__debug__" : Str))=false:=by decide)(hcd:(x == ("__classdict__" : Str))=false:=by decide):IPE (ZW X Nc scope cs C s H fp) (.Name x pos) (O1 i):=by
 simp only[Zr,Z0,Z4,Zz,Z5,Zx,Zo,Z3,Zn,Zy,Z6,Zp]at *
 exact pvl (i:=i) (hN:=hN) (hk:=hk) (hd:=hd) (hcd:=hcd)
theorem RK{X:Cx}(i:Nat)(hN:Nc[i]? = some x:=by rfl)(hk:scope.names.lookup x=some .free:=by rfl)(hd:(x == ("__debug__" : Str))=false:=by decide)(hcd:(x == ("__classdict__" : Str))=false:=by decide):IPE (ZW X Nc scope cs C s H fp) (.Name x pos) (O1 i):=by
 simp only[Zr,Z0,Z4,Zz,Z5,Zx,Zo,Z3,Zn,Zy,Z6,Zp]at *
 exact pvf (i:=i) (hN:=hN) (hk:=hk) (hd:=hd) (hcd:=hcd)
theorem Zj{X:Cx}(i:Nat){x:Str}{pos:Pos}(hN:X.N[i]? = some x:=by rfl)(hv:C8 X.env.scope x:=by first|exact yT rfl|exact yU (yT rfl)|exact yU (yU rfl))(hd:(x == ("__debug__" : Str))=false:=by decide) 
  (hcd:(x == ("__classdict__" : Str))=false:=by decide):IPE X (.Name x pos) (O1 i):=by
 simp only[Zr,Z0,Z4,Zz,Z5,Zx,Zo,Z3,Zn,Zy,Z6,Zp]at *
 exact pv (i:=i) (hN:=hN) (hv:=hv) (hd:=hd) (hcd:=hcd)
theorem VT{X:Cx}{es:List Expr}{k:Nat}{t:Mc}{n:Nat}(hc:X.calm=true)(h:IPGs X es t) 
  (hn:(assignEach es X.env).length=n:=by rfl) (hst:(assignEach es X.env).findIdx? (·.1)=none:=by rfl):IPG X (.Tuple es k pos) (He X.K n t):=by
 simp only[Zr,Z0,Z4,Zz,Z5,Zx,Zo,Z3,Zn,Zy,Z6,Zp]at *
 exact BN (hc:=hc) (h:=h) (hn:=hn) (hst:=hst)
theorem Yt{X:Cx}:IPGs X [] Ed:=by
 simp only[Zr,Z0,Z4,Zz,Z5,Zx,Zo,Z3,Zn,Zy,Z6,Zp]at *
 exact EE 
theorem Zl{X:Cx}{e:Expr}{es:List Expr}{t:TG}{u:Mc}(h1:IPG X e t)(h2:IPGs X es u) 
  (hs:(assignEach (e::es) X.env).map (·.2)=assign e X.env::(assignEach es X.env).map (·.2):=by rfl):IPGs X (e::es) (Na t u):=by
 simp only[Zr,Z0,Z4,Zz,Z5,Zx,Zo,Z3,Zn,Zy,Z6,Zp]at *
 exact Gs (h1:=h1) (h2:=h2) (hs:=hs)
theorem Nk{X:Cx}{o i:Expr}{to ti:TE}{t:FO}(ho:IPE X o to)(hi:IPE X i ti)(hs:C6 X t) 
  (ha:∀v,assign (.Subscript o i pos) X.env v=(do
   let ov <- holding [v] (eval o X.env)
   let iv <- holding [v,ov] (eval i X.env)
   standAt pos
   holding [v,ov,iv] (setItem ov iv v)
   release [v,ov,iv] []):=by intro _;rfl):IPG X (.Subscript o i pos) (Zah to ti t):=by
 simp only[Zr,Z0,Z4,Zz,Z5,Zx,Zo,Z3,Zn,Zy,Z6,Zp]at *
 exact BM (ho:=ho) (hi:=hi) (hs:=hs) (ha:=ha)
theorem Z1{X:Cx}:IPSs X [] Fp:=by
 simp only[Zr,Z0,Z4,Zz,Z5,Zx,Zo,Z3,Zn,Zy,Z6,Zp]at *
 exact Kg 
theorem Ze{X:Cx}{rest:List Stmt}{st:Stmt}(h1:IPS X st t)(h2:IPSs X rest u):IPSs X (st::rest) (Ds t u):=by
 simp only[Zr,Z0,Z4,Zz,Z5,Zx,Zo,Z3,Zn,Zy,Z6,Zp]at *
 exact Qe (h1:=h1) (h2:=h2)
theorem Zm{X:Cx}{st:Stmt}(h1:IPS X st t):IPSs X [st] t:=by
 simp only[Zr,Z0,Z4,Zz,Z5,Zx,Zo,Z3,Zn,Zy,Z6,Zp]at *
 exact EJ (h1:=h1)
theorem ZN{X:Cx}{i:Nat}{x:Str}{e:Expr}{te:TE}{pos':Pos}(hN:X.N.Nodup)(hi:X.N[i]? = some x)(hx:D6 X.env.scope x)(he:IPE X e te)(hs:swapsWith e (some (.Name x pos')) pos.line X.env=pure false:=by rfl)(hf:X.fn x=true\/X.env.scope.names.lookup x=some .local:=by first|exact .inl rfl|exact .inr rfl|assumption):
  IPS X (.Assign [.Name x pos'] e pos) (NR te (WQ i)):=by
 simp only[Zr,Z0,Z4,Zz,Z5,Zx,Zo,Z3,Zn,Zy,Z6,Zp]at *
 exact Aa (hN:=hN) (hi:=hi) (hx:=hx) (he:=he) (hs:=hs) (hf:=hf)
theorem Te{X:Cx}{tg e:Expr}{te:TE}{g:TG}(he:IPE X e te)(hg:IPG X tg g)(hs:swapsWithSole [tg] e pos.line X.env=pure false:=by rfl)(hw:swappedStores [tg] e X.env=pure none:=by rfl) 
  (h1:(assignEach [tg] X.env).map (·.2)=[assign tg X.env]:=by rfl):IPS X (.Assign [tg] e pos) (NR te g):=by
 simp only[Zr,Z0,Z4,Zz,Z5,Zx,Zo,Z3,Zn,Zy,Z6,Zp]at *
 exact BV (he:=he) (hg:=hg) (hs:=hs) (hw:=hw) (h1:=h1)
theorem Yo{X:Cx}{c:Expr}{a b:List Stmt}{tc:TT}(hc:IPT X c tc)(ha:IPSs X a t)(hb:IPSs X b u):IPS X (.If c a b pos) (A6 tc t u):=by
 simp only[Zr,Z0,Z4,Zz,Z5,Zx,Zo,Z3,Zn,Zy,Z6,Zp]at *
 exact Zaw (hc:=hc) (ha:=ha) (hb:=hb)
theorem Zw{X:Cx}(he:IPE X e te):IPS X (.Return (some e) pos) (A9 te):=by
 simp only[Zr,Z0,Z4,Zz,Z5,Zx,Zo,Z3,Zn,Zy,Z6,Zp]at *
 exact B_ (he:=he)
theorem Wr{X:Cx}(he:IPE X e te)(hs:swapsWith e none pos.line X.env=pure false:=by rfl):IPS X (.Expr e pos) (Fj te):=by
 simp only[Zr,Z0,Z4,Zz,Z5,Zx,Zo,Z3,Zn,Zy,Z6,Zp]at *
 exact Kf (he:=he) (hs:=hs)
theorem Wz{X:Cx}{iter:Expr}{body:List Stmt}{wi:TI}{g:TG}{tb:TS}{pos:Pos}(hp:PassesOwn (model X.prog X.w) X.A X.env X.xe)(hc:X.calm=true)(hi:IPI X tg iter wi)(hg:IPG X tg g)(hb:IPSs X body tb) 
  (hs:∀x,foldedSetIterable iter X.env x=pure x:=by intro _;rfl):IPS X (.For tg iter body [] pos) (A5 wi g tb):=by
 simp only[Zr,Z0,Z4,Zz,Z5,Zx,Zo,Z3,Zn,Zy,Z6,Zp]at *
 exact BY (hp:=hp) (hc:=hc) (hi:=hi) (hg:=hg) (hb:=hb) (hs:=hs)
theorem Ye{Y:Cx}:IPTs Y [] Jz:=by
 simp only[Zr,Z0,Z4,Zz,Z5,Zx,Zo,Z3,Zn,Zy,Z6,Zp]at *
 exact EL 
theorem T_{Y:Cx}{c:Expr}{t:TT}(h:IPT Y c t):IPTs Y [c] t:=by
 simp only[Zr,Z0,Z4,Zz,Z5,Zx,Zo,Z3,Zn,Zy,Z6,Zp]at *
 exact EM (h:=h)
open AutoSeq1 (wpAny_loadPart')
section
variable {prog:Program}{w:World}{A:Around}{E:Value->Shared->Prop}{s:Shared}
theorem M0{t:Bool}{e it l:Addr}{i:Nat}{items:Array Value}{x old:Value}{Q:Option Value->Shared->Prop}(he:IsEnum s.heap e it i old)(hit:VL t s.heap it l i)(hl:US t s.heap l items)(hx:items[i]? = some x)(hne:e≠it) 
  (hQ:∀h',IsEnumOut h' e it ((i:Int)+1) x s.heap.objs.size->VL t h' it l (i+1)->h'.get? s.heap.objs.size=some { cls:=.type "tuple",data:=.seq #[.int i s.toks,x] } ->
   (∀b o,b≠e->b≠it->s.heap.get? b=some o->h'.get? b=some o)->Q (some (.ref s.heap.objs.size)) { s with heap:=h',toks:=s.toks+1 }):wpAny (model prog w) A (pyNext (.ref e)) Q E s:=by
 obtain⟨hp,g,d,tk,os⟩:=s
 have hT:Shared.TypeIs ⟨hp,g,d,tk,os⟩ (.ref e) "enumerate":=⟨_,he,rfl⟩
 have hel:e<hp.objs.size:=wM he
 unfold pyNext
 refine zW (wP (wQ (name:=Str.ofString "__next__") hT xW (wS xW hT F.entry_enumerate_next ?_ (F.args_enumerate_next_1 _))))
 show wpAny _ _ (field (.ref e) 2>>=_) _ _ _;refine zW (wA he rfl (x:=.ref it) rfl (zW (Xm hit hl hx λha hita hsa=>?_)))
 have hsa':Heap.SameBut it hp ha:=hsa
 have hea:IsEnum ha e it i old:=(hsa'.2 e hne).trans he
 show wpAny _ _ (field (.ref e) 3>>=_) _ _ ⟨ha,g,d,tk,os⟩;refine zW (wA hea rfl (x:=rawInt i) rfl ?_)
 show wpAny _ _ (field (.ref e) 4>>=_) _ _ ⟨ha,g,d,tk,os⟩;refine zW (wA hea rfl (x:=.none) rfl ?_)
 show wpAny _ _ (mkInt i>>=_) _ _ ⟨ha,g,d,tk,os⟩;refine zW (wpAny_mkInt ?_)
 show wpAny _ _ (setField (.ref e) 3 (rawInt ((i:Int)+1))>>=_) _ _ ⟨ha,g,d,tk+1,os⟩
 refine zW (xH hea (by simp) λhb heb hsb=>?_)
 have hsb':Heap.SameBut e ha hb:=hsb
 have heb':IsEnum hb e it ((i:Int)+1) old:=heb
 show wpAny _ _ (setField (.ref e) 4 .none>>=_) _ _ ⟨hb,g,d,tk+1,os⟩
 refine zW (xH heb' (by simp) λhc hec hsc=>?_)
 have hsc':Heap.SameBut e hb hc:=hsc
 have hec':IsEnum hc e it ((i:Int)+1) old:=hec
 show wpAny _ _ (newTuple [.int i tk,x]>>=_) _ _ ⟨hc,g,d,tk+1,os⟩
 refine zW (xM ?_)
 have hsz:hc.objs.size=hp.objs.size:=by rw[hsc'.1,hsb'.1,hsa'.1]
 obtain⟨hd,ehd⟩:∃hd,hd=hc.push { cls:=.type "tuple",data:=.seq #[.int i tk,x] }:=⟨_,rfl⟩
 have hed:IsEnum hd e it ((i:Int)+1) old:=by rw[ehd];exact wJ _ hec'
 have htd:hd.get? hp.objs.size=some { cls:=.type "tuple",data:=.seq #[.int i tk,x] }:=by rw[ehd,<- hsz];exact wK _ rfl
 have hkd:∀b o,b≠e->b≠it->hp.get? b=some o->hd.get? b=some o:=λb o n1 n2 q=>by rw[ehd];exact wJ _ (hsc'.extBut b o n1 (hsb'.extBut b o n1 (hsa'.extBut b o n2 q)))
 have hitd:VL t hd it l (i+1):=hita.at λo q=>by rw[ehd];exact wJ _ (hsc'.extBut _ _ (wC hne) (hsb'.extBut _ _ (wC hne) q))
 show wpAny _ _ (Builtin.SmallTypes.ownedTupleIsFree (.ref e)>>=_) _ _ ⟨hc.push { cls:=.type "tuple",data:=.seq #[.int i tk,x] },g,d,tk+1,os⟩
 rw[hsz,<- ehd]
 refine zW ?_
 unfold Builtin.SmallTypes.ownedTupleIsFree
 refine zW (wA hed rfl (x:=.none) rfl (zX ?_))
 simp only[yJ]
 refine zW (wY (zW (wA hed rfl (x:=old) rfl (zW (xH hed (by simp) λhf hef hsf=>?_)))))
 have hsf':Heap.SameBut e hd hf:=hsf
 have hef':IsEnum hf e it ((i:Int)+1) x:=hef
 show wpAny _ _ (Builtin.SmallTypes.ownedTupleHandOut (.ref e) (.ref hp.objs.size)>>=_) _ _ ⟨hf,g,d,tk+1,os⟩
 refine zW ?_
 unfold Builtin.SmallTypes.ownedTupleHandOut
 refine zW (xH hef' (by simp) λhg heg hsg=>?_)
 have hsg':Heap.SameBut e hf hg:=hsg
 have heg':IsEnumOut hg e it ((i:Int)+1) x hp.objs.size:=heg
 refine xH heg' (by simp) λhh heh hsh=>?_
 have hsh':Heap.SameBut e hg hh:=hsh
 have heh':IsEnumOut hh e it ((i:Int)+1) x hp.objs.size:=heh
 have up:∀b o,b≠e->hd.get? b=some o->hh.get? b=some o:=λb o n q=>hsh'.extBut b o n (hsg'.extBut b o n (hsf'.extBut b o n q))
 exact zW (xL (zX ⟨_,rfl,zX (hQ hh heh' (hitd.at λo q=>up _ o (wC hne) q) (up _ _ (zP hel) htd) λb o n1 n2 q=>up b o n1 (hkd b o n1 n2 q))⟩))
theorem KH{t:Bool}{e it l:Addr}{i:Nat}{items:Array Value}{old:Value}{Q:Option Value->Shared->Prop}(hh:A.handled=none)(he:IsEnum s.heap e it i old)(hit:VL t s.heap it l i)(hl:US t s.heap l items)(hx:items[i]? = none) 
  (hQ:∀h',Heap.ExtBut it s.heap h'->Q none { s with heap:=h' }):wpAny (model prog w) A (pyNext (.ref e)) Q E s:=by
 have hT:s.TypeIs (.ref e) "enumerate":=⟨_,he,rfl⟩
 unfold pyNext
 refine zW (wP (wQ (name:=Str.ofString "__next__") hT xW (wS xW hT F.entry_enumerate_next ?_ (F.args_enumerate_next_1 _))))
 show wpAny _ _ (field (.ref e) 2>>=_) _ _ _;refine zW (wA he rfl (x:=.ref it) rfl (zW (Jj hh hit hl hx λh' x he' ⟨o,ho,hc⟩=>?_)))
 exact zW (vA (T:="StopIteration") (b:=true) ⟨o,ho,hc⟩ vB (zX (hQ _ he')))
end
end L2
namespace L2
open PySem PySem.Spec PyProof.Rows
open AutoSeq1 (wpAny_loadPart')
abbrev enA(h:Heap)(t:Bool)(l:Addr):Heap:=h.push (Oi t l)
abbrev enB(h:Heap)(t:Bool)(l:Addr):Heap:=(enA h t l).push { cls:=.type "enumerate",data:=.fields #[.none,.bool false,.ref h.objs.size,rawInt 0,.none,.none] }
theorem N4(t:Bool)(l:Addr)(items:Array Value)(n:Nat)(dct:Option Addr)(sl:Array (Option Value)):
  Meets (Builtin.«enumerate.__new__» ⟨[.type "enumerate",.ref l],[]⟩) (λ_ R s=>s.heap.get? l=some { cls:=.type (if t then "tuple" else "list"),dict:=dct,data:=.seq items n,slots:=sl } /\
   R (.ok (.ret (.ref (enA s.heap t l).objs.size))) { s with heap:=enB s.heap t l }):=
 .of_wp λprog w A R s h=>by
  obtain⟨hp,g,d,tk,os⟩:=s;obtain⟨hl,h⟩:=h
  have hsub:=sub_enumerate
  have hL:US t (Shared.heap ⟨hp,g,d,tk,os⟩) l items:=by cases t<;>exact⟨_,hl,rfl,n,rfl⟩
  wp_walk using yI hl
  refine wpAny_stack_any λst=>zX ?_
  split
  ·rename_i c _ _ _ _ _
   cases (c == Value.type "enumerate")
   ·wp_walk using yI hl,Nu hL
    exact⟨_,rfl,h⟩
   ·wp_walk using yI hl,Nu hL
    exact⟨_,rfl,h⟩
  ·wp_walk using yI hl,Nu hL
   exact⟨_,rfl,h⟩
section
variable {prog:Program}{w:World}{A:Around}{E:Value->Shared->Prop}{s:Shared}
theorem Mr{t:Bool}{l:Addr}{items:Array Value}{Q:Value->Shared->Prop}(hL:US t s.heap l items) 
  (h:∀h',IsEnum h' (s.heap.objs.size+1) s.heap.objs.size 0 .none->VL t h' s.heap.objs.size l 0 ->
   (∀b o,s.heap.get? b=some o->h'.get? b=some o)->Q (.ref (s.heap.objs.size+1)) { s with heap:=h' }) :
  wpAny (model prog w) A (call (.type "enumerate") [.ref l]) Q E s:=by
 obtain⟨dct,n,sl,hl⟩:∃dct n sl,s.heap.get? l=some { cls:=.type (if t then "tuple" else "list"),dict:=dct,data:=.seq items n,slots:=sl }:=by
  cases t<;>(obtain⟨⟨c,dct,dt,sl⟩,hl,hc,n,hd⟩:=hL;simp only at hc hd;subst hc hd;exact⟨dct,n,sl,hl⟩)
 refine callType_new F.called_enumerate (by decide) (F.typeCall_enumerate_1 _) (F.newCall_enumerate_1 _) (λobj=>F.args_object_init_2 obj _) F.entry_enumerate_new
  (N4 t l items n dct sl) ⟨hl,?_⟩
 have hz:(enA s.heap t l).objs.size=s.heap.objs.size+1:=wN ..
 have he:IsEnum (enB s.heap t l) (s.heap.objs.size+1) s.heap.objs.size 0 .none:=by
  have:=wK (enA s.heap t l) (o:={ cls:=.type "enumerate",data:=.fields #[.none,.bool false,.ref s.heap.objs.size,rawInt 0,.none,.none] }) rfl
  rw[hz]at this;exact this
 have g1:(enB s.heap t l).get? s.heap.objs.size=some (Oi t l):=wJ _ (wK _ (by cases t<;>rfl))
 have mk:VL t (enB s.heap t l) s.heap.objs.size l 0:=by cases t<;>exact⟨_,g1,rfl,rfl⟩
 show _/\_
 rw[hz]
 exact⟨⟨_,he,rfl⟩,h _ he mk λb o x=>wJ _ (wJ _ x)⟩
end
def Ite(K:Frag)(t:Bool)(a:Addr):It:=
 ⟨λi H=>∃xs x,Qv K t H a xs/\xs[i]? = some x,
   λi H v H'=>∃p x,v=.ref p/\H p=none/\H'=upd H p (.tup [.int i,x])/\∀xs,Qv K t H a xs->xs[i]? = some x,
   λi H=>∃xs,Qv K t H a xs/\xs.length≤i,false⟩
def ESt(t:Bool)(e it l:Addr)(i:Nat)(h:Heap):Prop:=e≠it/\(∃old,IsEnum h e it i old)/\VL t h it l i
theorem J0{P:Program}{w:World}{K:Frag}{elts:List Expr}{kk:Nat}{pos:Pos}(t:Bool)(z i1 l1:Addr):O8 P w K (.Tuple elts kk pos) (Ite K t l1) [z,i1] z (ESt t z i1 l1) where
 mem:=by simp
 obj:=λi h st b hb=>by
  obtain⟨_,⟨old,hz⟩,h1⟩:=st
  simp only[vP,xO,xP]at hb
  rcases hb with e|e
  ·subst e;exact⟨_,hz,λv q=>by cases q⟩
  ·subst e;exact h1.obj
 keep:=λi h h' st k=>by
  obtain⟨D,⟨old,hz⟩,h1⟩:=st
  exact⟨D,⟨old,k z (by simp) _ hz⟩,h1.at λo e=>k i1 (by simp) o e⟩
 item:=by
  intro X hP hw hK hc i pins s σ H E I hf st hg
  subst hP hw hK
  obtain⟨xs,x,q1,gx⟩:=hg
  obtain⟨D,⟨old,hz⟩,h1⟩:=st
  obtain⟨us,ru,su,_⟩:=I.sq q1
  obtain⟨u,hu,rx⟩:=ru.get gx
  refine M0 hz h1 su (x:=u) (by simpa using hu) D λh' z1 z3 z5 z7=>⟨_,rfl,?_⟩
  have szn:s.heap.objs.size≠z:=zP (wM hz)
  refine wpAny_letOwnedTupleGo_enum (s:={ s with heap:=h',toks:=s.toks+1 }) z1 λh'' w1 w2=>?_
  have w2':Heap.SameBut z h' h'':=w2
  have hall:∀c o,c≠z->c≠i1->s.heap.get? c=some o->h''.get? c=some o:=λc o n1 n3 e=>w2'.extBut _ _ n1 (z7 c o n1 n3 e)
  have hn:H s.heap.objs.size=none:=I.hok.fresh (zK _)
  have f:=λb hb=>hf b hb
  have ch:∀b,b ∉ [z,i1]->b≠z/\b≠i1:=λb hb=>by
   simp only[vP,xO,xP,not_or]at hb
   exact hb
  have tr:∀b o,H b=some o->b ∉ [z,i1]:=λb o e hb=>by rw[(f b hb).1]at e;cases e
  have nsz:∀b o,H b=some o->b≠s.heap.objs.size:=λb o e q=>by rw[q,hn]at e;cases e
  have pair:h''.get? s.heap.objs.size=some { cls:=.type "tuple",data:=.seq #[.int i s.toks,u] }:=w2'.extBut _ _ szn z5
  refine⟨.ref s.heap.objs.size,upd H s.heap.objs.size (.tup [.int i,x]),Zu.step (s:=s) (h':=h'') (g':=s.gens) (d':=s.drawn) (t':=s.toks+1) (ch:=[z,i1]) I (λb hb=>?_) (λb o _ _ hb e _=>?_) (λb o _ _ hb e _=>⟨o.slots,?_⟩) (λb o hb e n=>?_) (λb o hb e=>⟨o,?_⟩) (λb zs e=>?_) (λb o zs e=>?_) (λb ps e=>⟨#[],?_⟩) (λm hm=>?_) (λb o e=>?_) I.bare,rfl,⟨s.heap.objs.size,x,rfl,hn,rfl,λxs' p1=>?_⟩,?_,λb hb=>?_⟩
  ·obtain⟨_,f1,f2,f3,f4,f5⟩:=f b hb
   exact⟨f3,f1,f4,f5⟩
  ·obtain⟨n1,n2⟩:=ch b hb;exact hall b o n1 n2 e
  ·obtain⟨n1,n2⟩:=ch b hb;exact hall b o n1 n2 e
  ·rw[Zk (vC (wM e))];exact n
  ·obtain⟨n1,n2⟩:=ch b hb;exact hall b o n1 n2 e
  ·rw[Zk (nsz b _ e)];exact e
  ·rw[Zk (nsz b _ e)];exact e
  ·rw[Zk (nsz b _ e),e];simp
  ·obtain⟨o,es,ep,ho,r⟩:=hm
   have nl:X.env.locals ∉ [z,i1]:=λhb=>(f _ hb).2.1 rfl
   obtain⟨n1,n2⟩:=ch _ nl
   exact⟨o,es,ep,hall _ o n1 n2 ho,r⟩
  ·by_cases hb:b=s.heap.objs.size
   ·subst hb;rw[Z9]at e;cases e
    exact⟨L2.sz2,[.int i s.toks,u],.cons ⟨_,rfl⟩ (.cons rx .nil),_,pair,rfl,_,rfl,rfl⟩
   ·rw[Zk hb]at e
    refine(I.hok b o e).stay (λc o' hc q=>?_) (λc q=>by rw[Zk (nsz c _ q)];exact q) λc zs q=>by rw[Zk (nsz c _ q)];exact q
    have nc:c ∉ [z,i1]:=by
     rcases hc with hc|hc
     ·rw[hc];exact tr b o e
     ·exact tr c _ hc
    obtain⟨n1,n2⟩:=ch c nc
    exact hall c o' n1 n2 q
  ·rw[I.sq_inj p1 q1];exact gx
  ·exact⟨D,⟨u,by have:=w1;exact_mod_cast this⟩,z3.at λo e=>w2'.extBut _ o (wC D) e⟩
  ·obtain⟨o,e,_⟩:=(show ∃o,s.heap.get? b=some o/\∀v,o.data≠.cell v from by
    simp only[vP,xO,xP]at hb
    rcases hb with q|q
    ·subst q;exact⟨_,hz,λv q=>by cases q⟩
    ·subst q;exact h1.obj)
   rw[Zk (vC (wM e))];exact(f b hb).1
 done:=by
  intro X hP hw hK hc i pins s σ H E I hf st hg
  subst hP hw hK
  obtain⟨xs,q1,ge⟩:=hg
  obtain⟨D,⟨old,hz⟩,h1⟩:=st
  obtain⟨us,ru,su,_⟩:=I.sq q1
  have lu:=ru.length
  refine KH (I.ok.cd (CC hc)) hz h1 su (by simp;omega) λh' hk=>⟨rfl,?_⟩
  have f:=λb hb=>hf b hb
  have tr:∀b o,H b=some o->b ∉ [i1]:=λb o e hb=>by rw[(f b (by simp at hb;simp[hb])).1]at e;cases e
  have kk:∀b o,b ∉ [i1]->s.heap.get? b=some o->h'.get? b=some o:=λb o hb e=>hk b o (by simpa using hb) e
  refine I.step (g':=s.gens) (d':=s.drawn) (t':=s.toks) (ch:=[i1]) (λb hb=>?_) (λb o _ _ hb e _=>kk b o hb e) (λb o _ _ hb e _=>⟨o.slots,kk b o hb e⟩) (λb o hb e n=>n) (λb o hb e=>⟨o,kk b o hb e⟩) (λb zs e=>e) (λb o zs e=>e) (λb ps e=>⟨#[],by rw[e];simp⟩) (λm hm=>?_) (λb o e=>?_) I.bare
  ·obtain⟨_,f1,f2,f3,f4,f5⟩:=f b (by simp at hb;simp[hb])
   exact⟨f3,f1,f4,f5⟩
  ·obtain⟨o,es,ep,ho,r⟩:=hm
   exact⟨o,es,ep,kk _ o (λhb=>(f _ (by simp at hb;simp[hb])).2.1 rfl) ho,r⟩
  ·refine(I.hok b o e).stay (λc o' hc q=>kk c o' ?_ q) (λc q=>q) λc zs q=>q
   rcases hc with hc|hc
   ·rw[hc];exact tr b o e
   ·exact tr c _ hc
 self:=λ_ _ _ _ _ st h=>by
  obtain⟨D,⟨old,hz⟩,h1⟩:=st
  exact wpAny_pyIter_enum hz h
section
variable {X:Cx}
def Hl(K:Frag)(t:Bool)(ta:TA):TI:=λσ H R=>ta σ H λvs H1=>∃a xs,vs=[.ref a]/\Qv K t H1 a xs/\R (Ite K t a) H1
theorem EF{elts:List Expr}{kk:Nat}{tp:Pos}{a:Expr}{ta:TA}{p pos:Pos}(t:Bool)(hg:Gl X "enumerate")(hm:X.mg "enumerate" = none)(ha:PA X [a] ta)(hs:starEach [a] X.env=[(false,eval a X.env)]:=by rfl)(hc:X.cold=true:=by rfl):
  PI X (.Tuple elts kk tp) (.Call (.Name "enumerate" p) [a] [] pos) (Hl X.K t ta):=by
 intro pins s σ H R I h
 refine Call_ (VV I hg hm boot_enumerate (uG (YB (ha pos pins s σ H _ I h) λus s1 ⟨vs,H1,I1,r1,q1⟩=>?_) (by rw[hs];rfl) rfl))
 obtain⟨l1,xs,e,q1,q⟩:=q1
 subst e
 cases r1 with
 | cons r rr=>
  cases rr
  cases r
  obtain⟨us,_,su,_⟩:=I1.sq q1
  refine Mr su λh' z1 z4 z6=>?_
  have I2:Zu X pins σ H1 { s1 with heap:=h' }:=I1.kept (t':=s1.toks) z6
  refine wpAny_pyIter_enum z1 ⟨_,[s1.heap.objs.size+1,s1.heap.objs.size],_,_,H1,rfl,I2,J0 t _ _ l1,⟨Nat.succ_ne_self _,⟨_,z1⟩,z4⟩,λb hb=>?_,.inl hc,q⟩
  have le:s1.heap.objs.size≤b:=by
   simp only[vP,xO,xP]at hb
   rcases hb with e|e<;>rw[e]<;>first|exact zK _|exact zM _ _
  exact I1.fpOk le (I1.hok.fresh le)
end
theorem TZ{X:Cx}{elts:List Expr}{kk:Nat}{tp:Pos}{a:Expr}{ta:TA}{p pos:Pos}(t:Bool)(hg:Gl X "enumerate")(hm:X.mg "enumerate" = none)(ha:IPA X [a] ta)(hs:starEach [a] X.env=[(false,eval a X.env)]:=by rfl)(hc:X.cold=true:=by rfl):
  IPI X (.Tuple elts kk tp) (.Call (.Name "enumerate" p) [a] [] pos) (Hl X.K t ta):=by
 rw[Zy];rw[Zz]at ha;exact EF t hg hm ha hs hc
end L2
namespace L2
open PySem PySem.Spec PyProof.Rows
section
variable {X:Cx}
def EO(K:Frag)(neg:Bool):R2:=λx y H Q=>∃d ds p ys,DV K H d x/\y=.ref p/\(Xp K H p ys\/WH K H p ys)/\Y6 K H ds ys/\d.canLay0=true/\PyData.canLayAll0 ds=true/\d.depth≤30/\Q (.bl (if neg then !ds.any (λy=>PyData.eqv y d) else ds.any (λy=>PyData.eqv y d))) H
theorem Gd(hu:X.A.units+64<cLine):WX X (compareOp .In) (EO X.K false):=by
 rintro pins s σ H x y v u Q I rx ry ⟨d,ds,p,ys,h1,rfl,hq,h2,c1,c2,dp,q⟩
 obtain⟨bs,rb⟩:=I.reads h1 rx
 have hm:X.A.units+1+min (PyData.depthAll ds) d.depth<cLine:=by omega
 rcases hq with hq|hq
 ·obtain⟨as,ra⟩:=I.reads (DV.list hq h2) ry
  exact SeqAt.in_list_reads ra rb c2 c1 hm ⟨.bl _,H,I,rfl,q⟩
 ·obtain⟨as,ra⟩:=I.reads (DV.tup hq h2) ry
  exact SeqAt.in_tuple_reads ra rb c2 c1 hm ⟨.bl _,H,I,rfl,q⟩
theorem Jn(hu:X.A.units+64<cLine):WX X (compareOp .NotIn) (EO X.K true):=by
 rintro pins s σ H x y v u Q I rx ry ⟨d,ds,p,ys,h1,rfl,hq,h2,c1,c2,dp,q⟩
 obtain⟨bs,rb⟩:=I.reads h1 rx
 have hm:X.A.units+1+min (PyData.depthAll ds) d.depth<cLine:=by omega
 rcases hq with hq|hq
 ·obtain⟨as,ra⟩:=I.reads (DV.list hq h2) ry
  exact SeqAt.notIn_list_reads ra rb c2 c1 hm ⟨.bl _,H,I,rfl,q⟩
 ·obtain⟨as,ra⟩:=I.reads (DV.tup hq h2) ry
  exact SeqAt.notIn_tuple_reads ra rb c2 c1 hm ⟨.bl _,H,I,rfl,q⟩
end
def tI(ns:List Int):PyData:=.tuple (ns.map .int)
def lT(rows:List (List Int)):PyData:=.list (rows.map tI)
theorem Fd{d:PyData}(hc:d.canLay0=true)(hi:d.intsShort 101=true)(hw:d.weight≤100000):d.shown.length≤sizeLine:=by
 have h:=PyData.shown_le 101 (by decide) d (PyData.leavesShort_of_canLay0 101 d hc hi)
 have e:sizeLine=16777216:=by decide
 omega
theorem S_{i:Int}{w:Nat}(hw:0<w)(h:i.natAbs<2 ^ w):i.natAbs.log2<w:=by
 by_cases h0:i.natAbs=0
 ·rw[h0];simpa using hw
 ·exact(Nat.log2_lt h0).mpr h
section
variable {X:Cx}
def AQ(i j:Int):Prop:=0<j/\j<2 ^ 250
theorem Qb:WX X (binaryOp .FloorDiv) (rI AQ λi j=>.int (i / j)):=opI λi j _ _ _ _ _ hc q=>by
 have h1:(0:Int)<j:=hc.1
 have h2:j<2 ^ 250:=hc.2
 refine floordiv_int (by omega) (by rw[Int.fdiv_eq_ediv_of_nonneg i (by omega)];exact q) (.inl (PyProof.noPylong_of_log2 ?_))
 exact Nat.lt_trans (S_ (w:=250) (by decide) (show j.natAbs<2 ^ 250 by omega)) (by decide)
end
theorem Jy{i:Int}{w:Nat}(hw:0<w)(hw2:w≤100)(h:i.natAbs<2 ^ w):(PyData.int i).intsShort 101=true:=by
 have e:=int_text_length_le (a:=i) (k:=w) hw (S_ hw h)
 simp only[PyData.intsShort,xX]
 show(Str.ofString (toString i)).length≤101
 rw[PySem.ofString_length]
 omega
theorem Lh{i:Int}{w:Nat}(hw:0<w)(h:i.natAbs<2 ^ w):(PyData.int i).weight≤w:=by
 have:=S_ hw h
 simp only[PyData.weight]
 split<;>omega
theorem DV.tI{K:Frag}{H:Hp}{a:Addr}{ns:List Int}(h:WH K H a (ns.map V.int)):DV K H (tI ns) (.ref a):=DV.tup h (Y6.ints ns)
def LR(K:Frag)(H:Hp)(l:Addr)(rows:List (List Int)):Prop:=∃xs,Xp K H l xs/\Y6 K H (rows.map tI) xs
theorem LR.dv{K:Frag}{H:Hp}{l:Addr}{rows:List (List Int)}(h:LR K H l rows):DV K H (lT rows) (.ref l):=by
 obtain⟨xs,h1,h2⟩:=h
 exact DV.list h1 h2
theorem LR.same{K:Frag}{H H':Hp}{l:Addr}{rows:List (List Int)}(h:LR K H l rows)(e:Z7 H H'):LR K H' l rows:=by
 obtain⟨xs,h1,h2⟩:=h
 exact⟨xs,e.seq h1,Y6.same e h2⟩
theorem Y6.snoc{K:Frag}{H:Hp}{ds:List PyData}{d:PyData}{xs:List V}{x:V}(h:Y6 K H ds xs)(t:DV K H d x):Y6 K H (ds++[d]) (xs++[x]):=Y6.append h (Y6.cons t Y6.nil)
theorem Y6.take{K:Frag}{H:Hp}:∀{ds:List PyData}{xs:List V} (k:Nat),Y6 K H ds xs->Y6 K H (ds.take k) (xs.take k)
 | [],xs,k,h=>by unfold Y6 at h;subst h;simp;exact Y6.nil
 | d::ds,xs,0,h=>by simp;exact Y6.nil
 | d::ds,xs,k+1,h=>by
  unfold Y6 at h
  obtain⟨x,r,rfl,h1,h2⟩:=h
  exact Y6.cons h1 (Y6.take k h2)
theorem Y6.drop{K:Frag}{H:Hp}:∀{ds:List PyData}{xs:List V} (k:Nat),Y6 K H ds xs->Y6 K H (ds.drop k) (xs.drop k)
 | [],xs,k,h=>by unfold Y6 at h;subst h;simp;exact Y6.nil
 | d::ds,xs,0,h=>h
 | d::ds,xs,k+1,h=>by
  unfold Y6 at h
  obtain⟨x,r,rfl,h1,h2⟩:=h
  exact Y6.drop k h2
theorem Y6.reverse{K:Frag}{H:Hp}:∀{ds:List PyData}{xs:List V},Y6 K H ds xs->Y6 K H ds.reverse xs.reverse
 | [],xs,h=>by unfold Y6 at h;subst h;exact Y6.nil
 | d::ds,xs,h=>by
  unfold Y6 at h
  obtain⟨x,r,rfl,h1,h2⟩:=h
  rw[yO,yO]
  exact Y6.snoc (Y6.reverse h2) h1
section
variable {X:Cx}{K:Frag}
theorem Uo(h:X.K=K):J8 X (Ah K):=h▸Xa
theorem Hy(h:X.K=K):J8 X (ER K):=h▸ZJ
theorem MO(h:X.K=K)(hu:X.A.units+64<cLine):WX X (compareOp .NotIn) (EO K true):=h▸Jn hu
theorem Rr(h:X.K=K):Y0 X (.type "tuple") (λxs H Q=>∃p ys,xs=[.ref p]/\((Xp K H p ys/\∀l,H l=none->Q (.ref l) (upd H l (.tup ys)))\/(WH K H p ys/\Q (.ref p) H))):=h▸Yx
theorem KY{l tg:Expr}{tl:TE}(h:X.K=K)(hl:IPE X l tl)(hc:X.calm=true:=by rfl):IPI X tg l (Eg K tl):=h▸X0 hl hc
end
def N0:List Int->List Int->Bool
 | x::xs,y::ys=>decide (x<y)||(decide (x=y)&&N0 xs ys)
 | _,_=>false
def FP(h:Heap)(v:Value)(ns:List Int):Prop:=∃a o vs n,v=.ref a/\h.get? a=some o/\o.cls=.type "tuple"/\o.data=.seq (List.toArray vs) n/\IntsAre vs ns
theorem FP.keep{h h':Heap}{v:Value}{ns:List Int}(x:FP h v ns)(k:∀b o,o.cls=.type "tuple"->h.get? b=some o->h'.get? b=some o):FP h' v ns:=by
 obtain⟨a,o,vs,n,e,h1,h2,h3,h4⟩:=x
 exact⟨a,o,vs,n,e,k _ _ h2 h1,h2,h3,h4⟩
section
variable {prog:Program}{w:World}{A:Around}{E:Value->Shared->Prop}{s:Shared}
def FC(h:Heap)(xs:Array Keyed):Prop:=∀i,i+1<xs.size->∃x y p q ns ms,xs[i]? = some (y,q)/\xs[i+1]? = some (x,p)/\FP h x ns/\FP h y ms/\ns.length=ms.length/\N0 ms ns=true
def Cy(h:Heap)(vs:List Value):Prop:=(∀v∈vs,∃ns,FP h v ns/\1≤ns.length)/\∀i x y,vs[i]? = some y->vs[i+1]? = some x->∃ns ms,FP h x ns/\FP h y ms/\ns.length=ms.length/\N0 ms ns=true
theorem Cy.keep{h h':Heap}{vs:List Value}(x:Cy h vs)(k:∀b o,o.cls=.type "tuple"->h.get? b=some o->h'.get? b=some o):Cy h' vs:=by
 refine⟨λv hv=>?_,λi a b e1 e2=>?_⟩
 ·obtain⟨ns,h1,h2⟩:=x.1 v hv
  exact⟨ns,h1.keep k,h2⟩
 ·obtain⟨ns,ms,h1,h2,h3,h4⟩:=x.2 i a b e1 e2
  exact⟨ns,ms,h1.keep k,h2.keep k,h3,h4⟩
end
theorem KZ{X:Cx}{x y:Str}{a b:Expr}{ta:TA}{px py pt pos:Pos}{kt k2:Nat}{pt2:Pos}(i j:Nat)(hc:X.calm=true)(hN:X.N.Nodup)(ha:IPA X [a,b] ta)(hi:X.N[i]? = some x:=by rfl)(hj:X.N[j]? = some y:=by rfl)(hij:i≠j:=by decide) 
  (hx:X.env.scope.names.lookup x=some .local:=by rfl) (hy:X.env.scope.names.lookup y=some .local:=by rfl)
  (hw:swappedStores [.Tuple [.Name x px,.Name y py] kt pt] (.Tuple [a,b] k2 pt2) X.env=pure (some [x,y]):=by rfl)
  (hs:swapsWithSole [.Tuple [.Name x px,.Name y py] kt pt] (.Tuple [a,b] k2 pt2) pos.line X.env=pure false:=by rfl) :
  IPS X (.Assign [.Tuple [.Name x px,.Name y py] kt pt] (.Tuple [a,b] k2 pt2) pos) (A8 i j ta):=by
 rw[Zx]
 rw[Zz]at ha
 exact BZ hc hN hi hj hij hx hy ha hw hs
def M5{α:Type}(d:α)(na nk:Nat)(pick:List (Nat×Nat))(us ws:List α):List α:=if us.length=na/\ws.length=nk then pick.filterMap (λp=>if p.1=0 then us[p.2]? else if p.1=1 then ws[p.2]? else some d) else []
theorem LG{na nk:Nat}{pick:List (Nat×Nat)}{dv:V}{du:Value}(hd:ZI dv du){vs:List V}{us:List Value}{zs:List V}{ws:List Value}(r:ZH vs us)(z:ZH zs ws):ZH (M5 dv na nk pick vs zs) (M5 du na nk pick us ws):=by
 unfold M5
 rw[r.length,z.length]
 split
 ·induction pick with
  | nil=>exact .nil
  | cons p t ih=>
   have look:∀{as:List V}{bs:List Value},ZH as bs->∀i:Nat,(∃a b,as[i]? = some a/\bs[i]? = some b/\ZI a b)\/(as[i]? = none/\bs[i]? = none):=λ{as bs} q i=>by
    cases e:as[i]? with
    | none=>exact .inr ⟨rfl,q.none_of e⟩
    | some a=>obtain⟨b,h1,h2⟩:=q.get e;exact .inl ⟨a,b,rfl,h1,h2⟩
   rw[vL,vL]
   by_cases c0:p.1=0
   ·rcases look r p.2 with ⟨a,b,e1,e2,q⟩|⟨e1,e2⟩
    ·simp only[c0,yJ,e1,e2];exact .cons q ih
    ·simp only[c0,yJ,e1,e2];exact ih
   ·by_cases c1:p.1=1
    ·rcases look z p.2 with ⟨a,b,e1,e2,q⟩|⟨e1,e2⟩
     ·simp only[c0,c1,vF,yJ,e1,e2];exact .cons q ih
     ·simp only[c0,c1,vF,yJ,e1,e2];exact ih
    ·simp only[c0,c1,vF];exact .cons hd ih
 ·exact .nil
def Pt(x:Str)(st:Stmt)(ps ks:List Str)(na nk:Nat)(pick:List (Nat×Nat)):Prop:=∀(T e:Addr) (kV doc pm:Value) (an:Option Addr) (cdv ct:Value) (us ws:List Value),(M5 (Value.ref e) na nk pick us ws).length=ps.length ->
 ∃k:Option (Array Value)->Sem (List (Str×Value)),bindArgs (PySem.W.fnOf x x (Y7 st) (ZR st) (Zf st) (.ref T) kV doc pm an cdv ct) ⟨us,ks.zip ws⟩=seqItems? (.ref T)>>=k/\k (some #[.ref e])=pure (ps.zip (M5 (Value.ref e) na nk pick us ws))
structure O7(K:Frag)(x:Str)(st:Stmt)(f:Addr)(fd:FuncData)(e:Addr):Prop where
 ex:∃(oc:Value) (od:Option Addr) (T:Addr) (kV doc pm:Value) (an:Option Addr) (cdv ct:Value) (osl:Array (Option Value)) (oT:Obj) (n:Nat),
  fd=PySem.W.fnOf x x (Y7 st) (ZR st) (Zf st) (.ref T) kV doc pm an cdv ct/\K.lookup f=some ⟨oc,od,.func fd,osl⟩/\PySem.W.codeIn K cdv x=true/\K.lookup T=some oT/\oT.data=.seq #[.ref e] n
 kp:PySem.W.keepIn K (.ref f)=true
def Lk(K:Frag)(e:Addr):Prop:=∃(o:Obj) (n:Nat),K.lookup e=some o/\o.cls=.type "tuple"/\o.data=.seq #[] n
theorem Lk.tup{K:Frag}{e:Addr}(h:Lk K e)(H:Hp):WH K H e []:=by
 obtain⟨o,n,h1,h2,h3⟩:=h
 exact .inr ⟨o,#[],n,h1,h2,h3,by decide,.nil⟩
theorem O7.kbinds{K:Frag}{x:Str}{st:Stmt}{ps ks:List Str}{na nk:Nat}{pick:List (Nat×Nat)}{f e:Addr}{fd:FuncData}(F:O7 K x st f fd e)(h:Pt x st ps ks na nk pick):Mh K fd ps ks (M5 (Value.ref e) na nk pick) (M5 (V.ref e) na nk pick):=by
 obtain⟨oc,od,T,kV,doc,pm,an,cdv,ct,osl,oT,n,rfl,lk,hcd,hT,hd⟩:=F.ex
 refine⟨λs us ws kin hl=>?_,λr z=>LG (show ZI (V.ref e) (Value.ref e) from rfl) r z⟩
 obtain⟨k,h1,h2⟩:=h T e kV doc pm an cdv ct us ws hl
 exact BindsTo.of_defaults (T:=T) rfl (kin T oT hT) hd h1 h2
structure AU(P:Program)(w:World)(K:Frag)(mg:Str->Option Value)(base:Heap)(k:Nat)(x:Str)(st:Stmt)(ps:List Str)(sp:Sp)(e:Addr):Prop where
 ex:∃f fd,Xc P w K mg base UC k f fd ps sp/\O7 K x st f fd e/\mg x=some (.ref f)
theorem AU.of{P:Program}{w:World}{K:Frag}{mg:Str->Option Value}{base:Heap}{x:Str}{st:Stmt}{N ps:List Str}{k:Nat}{sp:Sp}{e:Addr}(U:∃f fd,O7 K x st f fd e/\mg x=some (.ref f))(S:Zv N ps (Zf st))(len:∀vs H Q E,sp vs H Q E->vs.length=ps.length) 
  (hbody:∀(f:Addr) (cdv:Value) (A:Around) (outer:List Env) (s:Shared) (H:Hp) (vs:List V) (Q:VK) (E:XK),ZZ k (A.deeper (envOfC x (Zf st) s.heap.objs.size f cdv))->sp vs H Q E ->
   ∃t,U6 (Xw UC P w K mg base N x (Zf st) f cdv A outer s H E).nox (ZR st) t/\t { nx:=λ_ H'=>Q .non H',rt:=Q } (YG N vs) H):AU P w K mg base (k+1) x st ps sp e:=by
 obtain⟨f,fd,F,m⟩:=U
 refine⟨f,fd,?_,F,m⟩
 obtain⟨oc,od,T,kV,doc,pm,an,cdv,ct,osl,oT,n,rfl,lk,hcd,hT,hd⟩:=F.ex
 refine QR lk hcd S len λA outer s H vs Q E hr hsp=>?_
 obtain⟨t,h,q⟩:=hbody f cdv A outer s H vs Q E hr hsp
 exact⟨t,h.nox,q⟩
section
variable {prog:Program}{w:World}{A:Around}{E:Value->Shared->Prop}{s:Shared}
open HT in
theorem U0{t sl:Addr}{items:Array Value}{vl vu:Value}{lo hi:Option Int}{Q:Value->Shared->Prop}(ht:IsTup s.heap t items)(hs:s.heap.IsSliceOf sl vl vu .none)(pl:IsPart vl lo)(pu:IsPart vu hi) 
  (hw:sIx items.size 0 lo=0/\sIx items.size items.size hi=items.size) (h:Q (.ref t) s):wpAny (model prog w) A (getItem (.ref t) (.ref sl)) Q E s:=by
 obtain⟨os,hos,hcs,hds⟩:=id hs
 have hTs:s.TypeIs (.ref sl) "slice":=⟨os,hos,hcs⟩
 unfold getItem
 try with_reducible refine zY ?_
 first|refine zW (zX ?_)|skip
 refine zW (wpAny_sequenceKey ht.typeIs (by decide) ?_)
 refine zW (wQ (name:=Str.ofString "__getitem__") ht.typeIs yL
  (wS yL ht.typeIs entry_tuple_getitem ?_ (args_tuple_getitem _ _)))
 show wpAny _ _ (Builtin.Tuple.tupleItemsOf (.ref t)>>=_) _ _ s
 refine zW (tupleItemsOf_ ht ?_)
 refine zW (yM hTs ?_)
 rw[zU (by decide)]
 refine zW (Vu hs pl pu ?_)
 show wpAny _ _ (if(((sIx items.size 0 lo:Nat):Int) == 0&&(1:Int) == 1&&(sIx items.size items.size hi-sIx items.size 0 lo) == items.size)=true then _ else _) _ _ s
 rw[zU (by rw[hw.1,hw.2];simp)]
 refine zW ?_
 unfold Builtin.Tuple.tupleIsExact
 refine zW (yM ht.typeIs (zX ?_))
 rw[zU (by decide)]
 exact zW (wY (zX ⟨_,rfl,zX h⟩))
end
section
variable {prog:Program}{w:World}{κ:Type} [DecidableEq κ] {knd:HeapKind prog w κ}{A:Around}{E:Value->Shared->Prop}{s:Shared}{d a:Addr}{xs:List (κ×Addr×Value)}{k:κ}{v:Value}{Q:Unit->Shared->Prop}
def J7(knd:HeapKind prog w κ)(h:Heap)(d:Addr)(xs:List (κ×Addr×Value)):Prop:=
 ∃o es,h.get? d=some o/\o.ExactDict/\o.data=.dict es xs.length/\es.toList=xs.map (entryOfKey knd)/\(∀x∈xs,knd.is h x.1 x.2.1)/\(xs.map (·.1)).Nodup
theorem J7.of{h:Heap}(q:J7 knd h d xs):h.DictOfH knd d xs:=by
 obtain⟨o,es,h1,h2,h3,h4⟩:=q
 exact⟨o,es,_,h1,h2,h3,h4⟩
end
section
variable {κ:Type} [DecidableEq κ]
def T4(kvs:List (κ×V))(k:κ):Option V:=(kvs.find? λkv=>decide (kv.1=k)).map (·.2)
def QA(kvs:List (κ×V))(k:κ)(v:V):List (κ×V):=
 if(kvs.any λkv=>decide (kv.1=k))=true then kvs.map (λkv=>if kv.1=k then(kv.1,v) else kv) else kvs++[(k,v)]
def DO(kvs:List (κ×V))(k:κ):List (κ×V):=kvs.filter λkv=>decide (kv.1≠k)
theorem T6{p:κ×V}{r:List (κ×V)}{k:κ}(e:p.1=k):T4 (p::r) k=some p.2:=by simp[T4,xY,e]
theorem T5{p:κ×V}{r:List (κ×V)}{k:κ}(e:¬p.1=k):T4 (p::r) k=T4 r k:=by simp[T4,xY,e]
theorem NZ(k:κ):∀kvs:List (κ×V),(kvs.any λkv=>decide (kv.1=k))=(T4 kvs k).isSome
 | []=>rfl
 | p::r=>by
  rw[xZ]
  by_cases e:p.1=k
  ·simp only[T6 e,yR e,Bool.true_or,Option.isSome_some]
  ·rw[T5 e,vH e,Bool.false_or];exact NZ k r
theorem Vy.isSome_eq{o:Option V}{u:Option Value}(r:Vy o u):o.isSome=u.isSome:=by
 cases o with
 | none=>cases u with
  | none=>rfl
  | some _=>exact(show False from r).elim
 | some _=>cases u with
  | none=>exact(show False from r).elim
  | some _=>rfl
theorem Vy.getD{o:Option V}{u:Option Value}{d:V}{d':Value}(r:Vy o u)(rd:ZI d d'):ZI (o.getD d) (u.getD d'):=by
 cases o with
 | none=>cases u with
  | none=>exact rd
  | some _=>exact(show False from r).elim
 | some _=>cases u with
  | none=>exact(show False from r).elim
  | some _=>exact r
theorem KV.val{kvs:List (κ×V)}{vs:List (κ×Value)}(r:KV kvs vs)(k:κ):Vy (T4 kvs k) (valueAt vs k):=by
 unfold KV at r
 induction r with
 | nil=>exact uP
 | @cons p q ps qs h t ih=>
  obtain⟨h1,h2⟩:=h
  by_cases e:p.1=k
  ·have e':q.1=k:=h1.symm.trans e
   have b:valueAt (q::qs) k=some q.2:=by simp[valueAt,xY,e']
   rw[T6 e,b];exact h2
  ·have e':¬q.1=k:=λz=>e (h1.trans z)
   have b:valueAt (q::qs) k=valueAt qs k:=by simp[valueAt,xY,e']
   rw[T5 e,b];exact ih
theorem KV.any{kvs:List (κ×V)}{vs:List (κ×Value)}(r:KV kvs vs)(k:κ):(kvs.any λkv=>decide (kv.1=k))=vs.any λkv=>decide (kv.1=k):=by
 unfold KV at r
 induction r with
 | nil=>rfl
 | cons h t ih=>rw[xZ,xZ,ih,h.1]
theorem KV.repl{kvs:List (κ×V)}{vs:List (κ×Value)}(r:KV kvs vs)(k:κ){y:V}{u:Value}(ry:ZI y u):
  KV (kvs.map λkv=>if kv.1=k then(kv.1,y) else kv) (vs.map λkv=>if kv.1=k then(kv.1,u) else kv):=by
 unfold KV at r |-
 induction r with
 | nil=>exact .nil
 | @cons p q ps qs h t ih=>
  rw[uO,uO]
  refine .cons ?_ ih
  obtain⟨h1,h2⟩:=h
  by_cases e:p.1=k
  ·rw[zU e,zU (h1.symm.trans e)];exact⟨h1,ry⟩
  ·rw[wT e,wT (λz=>e (h1.trans z))];exact⟨h1,h2⟩
theorem KV.put{kvs:List (κ×V)}{vs:List (κ×Value)}(r:KV kvs vs)(k:κ){y:V}{u:Value}(ry:ZI y u):KV (QA kvs k y) (stored vs k u):=by
 unfold QA stored
 rw[r.any k]
 by_cases e:(vs.any λkv=>decide (kv.1=k))=true
 ·rw[zU e,zU e];exact r.repl k ry
 ·rw[wT e,wT e];exact Paired.snoc r ⟨rfl,ry⟩
theorem KV.drop{kvs:List (κ×V)}{vs:List (κ×Value)}(r:KV kvs vs)(k:κ):KV (DO kvs k) (without vs k):=by
 unfold KV at r |-
 unfold DO without
 induction r with
 | nil=>exact .nil
 | @cons p q ps qs h t ih=>
  obtain⟨h1,h2⟩:=h
  rw[tD,tD]
  by_cases e:p.1=k
  ·have a:¬decide (p.1≠k)=true:=by simp[e]
   have b:¬decide (q.1≠k)=true:=by simp[h1.symm.trans e]
   rw[wT a,wT b];exact ih
  ·have e':¬q.1=k:=λz=>e (h1.trans z)
   have a:decide (p.1≠k)=true:=by simp[e]
   have b:decide (q.1≠k)=true:=by simp[e']
   rw[zU a,zU b];exact .cons ⟨h1,h2⟩ ih
theorem KV.keys{kvs:List (κ×V)}{vs:List (κ×Value)}(r:KV kvs vs):kvs.map (·.1)=vs.map (·.1):=by
 unfold KV at r
 induction r with
 | nil=>rfl
 | cons h t ih=>rw[uO,uO,ih,h.1]
theorem KV.length{kvs:List (κ×V)}{vs:List (κ×Value)}(r:KV kvs vs):kvs.length=vs.length:=Paired.length r
end
abbrev KT(H:Hp):List (List Xd×V)->List (List Xd×Addr×Value)->Prop:=Paired λp q=>p.1=q.1/\H q.2.1=some (.tup (p.1.map kV))/\ZI p.2 q.2.2
theorem KT.val{H:Hp}{kvs:List (List Xd×V)}{xs:List (List Xd×Addr×Value)}(r:KT H kvs xs)(k:List Xd):Vy (T4 kvs k) ((atKey xs k).map (·.2)):=by
 induction r with
 | nil=>exact uP
 | @cons p q ps qs h t ih=>
  obtain⟨h1,_,h2⟩:=h
  by_cases e:p.1=k
  ·have e':q.1=k:=h1.symm.trans e
   have b:atKey (q::qs) k=some q.2:=by simp[atKey,xY,e']
   rw[T6 e,b];exact h2
  ·have e':¬q.1=k:=λz=>e (h1.trans z)
   have b:atKey (q::qs) k=atKey qs k:=by simp[atKey,xY,e']
   rw[T5 e,b];exact ih
theorem KT.repl{H:Hp}{kvs:List (List Xd×V)}{xs:List (List Xd×Addr×Value)}(r:KT H kvs xs)(k:List Xd){y:V}{u:Value}(ry:ZI y u):
  KT H (kvs.map λkv=>if kv.1=k then(kv.1,y) else kv) (xs.map (putAt k u)):=by
 induction r with
 | nil=>exact .nil
 | @cons p q ps qs h t ih=>
  rw[uO,uO]
  refine .cons ?_ ih
  obtain⟨h1,h2,h3⟩:=h
  unfold putAt
  by_cases e:p.1=k
  ·rw[zU e,zU (h1.symm.trans e)];exact⟨h1,h2,ry⟩
  ·rw[wT e,wT (λz=>e (h1.trans z))];exact⟨h1,h2,h3⟩
theorem KT.put{H:Hp}{kvs:List (List Xd×V)}{xs:List (List Xd×Addr×Value)}(r:KT H kvs xs)(k:List Xd){b:Addr}{y:V}{u:Value}(hb:H b=some (.tup (k.map kV)))(ry:ZI y u):
  KT H (QA kvs k y) (storedH xs k b u):=by
 have e:(kvs.any λkv=>decide (kv.1=k))=(atKey xs k).isSome:=by
  rw[NZ,(r.val k).isSome_eq,Option.isSome_map]
 unfold QA storedH
 rw[e]
 by_cases q:(atKey xs k).isSome=true
 ·rw[zU q,zU q];exact r.repl k ry
 ·rw[wT q,wT q];exact Paired.snoc r ⟨rfl,hb,ry⟩
theorem KT.keeps{H H':Hp}{kvs:List (List Xd×V)}{xs:List (List Xd×Addr×Value)}(r:KT H kvs xs)(ht:∀b ys,H b=some (.tup ys)->H' b=some (.tup ys)):KT H' kvs xs:=
 Paired.mapP r λ_ _ z=>⟨z.1,ht _ _ z.2.1,z.2.2⟩
def FD(H:Hp)(a:Addr)(y:V)(r:Option V):Prop:=
 (∃kvs k,Rd H a (.dK kvs)/\y=kV k/\r=T4 kvs k)\/∃kvs k b,Rd H a (.dT kvs)/\y=.ref b/\H b=some (.tup (k.map kV))/\r=T4 kvs k
def FE(H:Hp)(a:Addr)(y v:V)(H':Hp):Prop:=
 (∃kvs k,H a=some (.dK kvs)/\y=kV k/\kvs.length<sizeLine/\H'=upd H a (.dK (QA kvs k v))) \/
 ∃kvs k b,H a=some (.dT kvs)/\y=.ref b/\H b=some (.tup (k.map kV))/\kvs.length<sizeLine/\H'=upd H a (.dT (QA kvs k v))
theorem FD.k{H:Hp}{a:Addr}{kvs:List (Xd×V)}{k:Xd}(e:H a=some (.dK kvs)):FD H a (kV k) (T4 kvs k):=.inl ⟨kvs,k,.inl e,rfl,rfl⟩
theorem FD.t{H:Hp}{a b:Addr}{kvs:List (List Xd×V)}{k:List Xd}(e:H a=some (.dT kvs))(eb:H b=some (.tup (k.map kV))):FD H a (.ref b) (T4 kvs k):=.inr ⟨kvs,k,b,.inl e,rfl,eb,rfl⟩
theorem FE.k{H:Hp}{a:Addr}{kvs:List (Xd×V)}{k:Xd}{v:V}(e:H a=some (.dK kvs))(hl:kvs.length<sizeLine):FE H a (kV k) v (upd H a (.dK (QA kvs k v))):=.inl ⟨kvs,k,e,rfl,hl,rfl⟩
theorem FE.t{H:Hp}{a b:Addr}{kvs:List (List Xd×V)}{k:List Xd}{v:V}(e:H a=some (.dT kvs))(eb:H b=some (.tup (k.map kV)))(hl:kvs.length<sizeLine):
  FE H a (.ref b) v (upd H a (.dT (QA kvs k v))):=.inr ⟨kvs,k,b,e,rfl,eb,hl,rfl⟩
structure AL(C d:Addr)(oe:Obj):Prop where
 cls:oe.cls=.ref C
 dict:oe.dict=some d
 fl:∃vs:Array Value,oe.data=.fields vs/\vs[2]? = some .none
def Mb(C e d:Addr):HO:=.ext λh=>∃oe,h.get? e=some oe/\AL C d oe
theorem Mb.ok{P:Program}{w:World}{H:Hp}{h:Heap}{C e d:Addr}{oe:Obj}(q:h.get? e=some oe)(o:AL C d oe):YV P w H h e (Mb C e d):=
 ⟨⟨oe,q,o⟩,⟨_,q⟩,λh1 h2 ⟨oe,a,o⟩ k=>⟨oe,k _ a,o⟩⟩
theorem Mb.get{P:Program}{w:World}{H:Hp}{h:Heap}{C e d:Addr}(x:U5 P w H h)(q:H e=some (Mb C e d)):∃oe,h.get? e=some oe/\AL C d oe:=(x e _ q).1
def CT(K:Frag):Prop:=K≠[]/\K.length % 2=0
def B3(K:Frag):Frag:=if K.length % 2=0 then K++K.take 1 else K
def OQ(K:Frag):Frag:=if K.length % 2=0 then K else K++K.take 1
theorem Q_{K:Frag}{a:Addr}:(K++K.take 1).lookup a=K.lookup a:=by
 cases K with
 | nil=>rfl
 | cons p r=>
  show((p::r)++[p]).lookup a=(p::r).lookup a
  rw[List.lookup_append]
  cases h:(p::r).lookup a with
  | some o=>rfl
  | none=>
   rw[yY]at h
   split at h
   ·cases h
   ·next z=>simp[List.lookup,z]
theorem Jm{K:Frag}{a:Addr}:(B3 K).lookup a=K.lookup a:=by
 unfold B3;split
 ·exact Q_
 ·rfl
theorem R5{K:Frag}{a:Addr}:(OQ K).lookup a=K.lookup a:=by
 unfold OQ;split
 ·rfl
 ·exact Q_
theorem IF{K:Frag}(h:K≠[]):CT (OQ K):=by
 unfold OQ;split
 ·next z=>exact⟨h,z⟩
 ·next z=>
  refine⟨by simp[h],?_⟩
  cases K with
  | nil=>exact absurd rfl h
  | cons p r=>
   show((p::r)++[p]).length % 2=0
   rw[yH,yP]
   omega
def InK(K:Frag)(a:Addr)(xs:List V):Prop:=
 (xs=[]\/CT K)/\∃(o:Obj) (its:Array Value) (n:Nat),K.lookup a=some o/\o.cls=.type "tuple"/\o.data=.seq its n/\its.size≤sizeLine/\ZH xs its.toList
class NoC (K:Frag):Prop where
 no:¬CT K
theorem NoC.out{K:Frag}[c:NoC K](a:Addr)(xs:List V)(h:InK K a xs):xs=[]:=h.1.resolve_right c.no
theorem InK.sq{K:Frag}{a:Addr}{xs:List V}(h:InK K a xs)(H:Hp):WH K H a xs:=.inr h.2
mutual
def DW(K:Frag)(G:Hp):PyData->V->Prop
 | .none,v=>v=.non
 | .bool b,v=>v=.bl b
 | .int i,v=>v=.int i
 | .str x,v=>v=.str x
 | .list ds,v=>∃a xs,v=.ref a/\G a=some (.lst xs)/\ZT K G ds xs
 | .tuple ds,v=>∃a xs,v=.ref a/\(G a=some (.tup xs)\/InK K a xs)/\ZT K G ds xs
 | .dict kvs,v=>∃a ks,v=.ref a/\G a=some (.dT ks)/\XH K G kvs ks
def ZT(K:Frag)(G:Hp):List PyData->List V->Prop
 | [],xs=>xs=[]
 | d::ds,xs=>∃x r,xs=x::r/\DW K G d x/\ZT K G ds r
def XH(K:Frag)(G:Hp):List (PyData×PyData)->List (List Xd×V)->Prop
 | [],ks=>ks=[]
 | (k,d)::r,ks=>∃(ns:List Int) (x:V) (t:List (List Xd×V)),ks=(ns.map Sum.inl,x)::t/\k=tI ns/\DW K G d x/\XH K G r t
end
section
variable {K:Frag}{G G' H H':Hp}
mutual
theorem DW.same(e:Z7 G G'):∀{d:PyData}{v:V},DW K G d v->DW K G' d v
 | .none,_,h=>by unfold DW at h |-;exact h
 | .bool _,_,h=>by unfold DW at h |-;exact h
 | .int _,_,h=>by unfold DW at h |-;exact h
 | .str _,_,h=>by unfold DW at h |-;exact h
 | .list ds,_,h=>by
  unfold DW at h |-
  obtain⟨a,xs,q1,q2,q3⟩:=h
  exact⟨a,xs,q1,e _ _ q2,ZT.same e q3⟩
 | .tuple ds,_,h=>by
  unfold DW at h |-
  obtain⟨a,xs,q1,q2,q3⟩:=h
  exact⟨a,xs,q1,q2.imp (e _ _) id,ZT.same e q3⟩
 | .dict kvs,_,h=>by
  unfold DW at h |-
  obtain⟨a,ks,q1,q2,q3⟩:=h
  exact⟨a,ks,q1,e _ _ q2,XH.same e q3⟩
theorem ZT.same(e:Z7 G G'):∀{ds:List PyData}{xs:List V},ZT K G ds xs->ZT K G' ds xs
 | [],_,h=>by unfold ZT at h |-;exact h
 | d::ds,_,h=>by
  unfold ZT at h |-
  obtain⟨x,r,q1,q2,q3⟩:=h
  exact⟨x,r,q1,DW.same e q2,ZT.same e q3⟩
theorem XH.same(e:Z7 G G'):∀{kvs:List (PyData×PyData)}{ks:List (List Xd×V)},XH K G kvs ks->XH K G' kvs ks
 | [],_,h=>by unfold XH at h |-;exact h
 | (k,d)::r,_,h=>by
  unfold XH at h |-
  obtain⟨ns,x,t,q0,q1,q2,q3⟩:=h
  exact⟨ns,x,t,q0,q1,DW.same e q2,XH.same e q3⟩
end
mutual
theorem DW.dv(e:Z7 G H):∀{d:PyData}{v:V},d.hasDict=false->DW K G d v->DV K H d v
 | .none,_,_,h=>by unfold DW at h;unfold DV;exact h
 | .bool _,_,_,h=>by unfold DW at h;unfold DV;exact h
 | .int _,_,_,h=>by unfold DW at h;unfold DV;exact h
 | .str _,_,_,h=>by unfold DW at h;unfold DV;exact h
 | .list ds,_,n,h=>by
  unfold DW at h;unfold DV
  obtain⟨a,xs,q1,q2,q3⟩:=h
  exact⟨a,xs,q1,Xp.of (e _ _ q2),ZT.dv e (by simpa[PyData.hasDict]using n) q3⟩
 | .tuple ds,_,n,h=>by
  unfold DW at h;unfold DV
  obtain⟨a,xs,q1,q2,q3⟩:=h
  refine⟨a,xs,q1,?_,ZT.dv e (by simpa[PyData.hasDict]using n) q3⟩
  rcases q2 with q2|q2
  ·exact WH.of (e _ _ q2)
  ·exact q2.sq _
 | .dict kvs,_,n,h=>by simp[PyData.hasDict]at n
theorem ZT.dv(e:Z7 G H):∀{ds:List PyData}{xs:List V},PyData.hasDictAll ds=false->ZT K G ds xs->Y6 K H ds xs
 | [],_,_,h=>by unfold ZT at h;unfold Y6;exact h
 | d::ds,_,n,h=>by
  unfold ZT at h;unfold Y6
  obtain⟨x,r,q1,q2,q3⟩:=h
  simp only[PyData.hasDictAll,Bool.or_eq_false_iff]at n
  exact⟨x,r,q1,DW.dv e n.1 q2,ZT.dv e n.2 q3⟩
end
theorem ZT.nil:ZT K G [] []:=by unfold ZT;rfl
theorem ZT.cons{d:PyData}{ds:List PyData}{x:V}{xs:List V}(h:DW K G d x)(t:ZT K G ds xs):ZT K G (d::ds) (x::xs):=by unfold ZT;exact⟨x,xs,rfl,h,t⟩
theorem ZT.append:∀{ds es:List PyData}{xs ys:List V},ZT K G ds xs->ZT K G es ys->ZT K G (ds++es) (xs++ys)
 | [],_,_,_,h,t=>by unfold ZT at h;subst h;exact t
 | d::ds,es,_,ys,h,t=>by
  unfold ZT at h
  obtain⟨x,r,q1,q2,q3⟩:=h
  subst q1
  exact ZT.cons q2 (ZT.append q3 t)
theorem ZT.snoc{ds:List PyData}{d:PyData}{xs:List V}{x:V}(h:ZT K G ds xs)(t:DW K G d x):ZT K G (ds++[d]) (xs++[x]):=ZT.append h (ZT.cons t ZT.nil)
theorem ZT.length:∀{ds:List PyData}{xs:List V},ZT K G ds xs->ds.length=xs.length
 | [],_,h=>by unfold ZT at h;subst h;rfl
 | d::ds,_,h=>by
  unfold ZT at h
  obtain⟨x,r,q1,q2,q3⟩:=h
  subst q1
  rw[uM,uM,ZT.length q3]
theorem ZT.get:∀{ds:List PyData}{xs:List V}{i:Nat}{x:V},ZT K G ds xs->xs[i]? = some x->∃d,ds[i]? = some d/\DW K G d x
 | [],_,i,x,h,e=>by unfold ZT at h;subst h;simp at e
 | d::ds,_,0,x,h,e=>by
  unfold ZT at h
  obtain⟨y,r,q1,q2,q3⟩:=h
  subst q1
  simp at e;subst e
  exact⟨d,rfl,q2⟩
 | d::ds,_,i+1,x,h,e=>by
  unfold ZT at h
  obtain⟨y,r,q1,q2,q3⟩:=h
  subst q1
  obtain⟨d',h1,h2⟩:=ZT.get (i:=i) (x:=x) q3 (by simpa using e)
  exact⟨d',by simpa using h1,h2⟩
theorem ZT.get':∀{ds:List PyData}{xs:List V}{i:Nat}{d:PyData},ZT K G ds xs->ds[i]? = some d->∃x,xs[i]? = some x/\DW K G d x:=by
 intro ds xs i d h e
 have hi:i<xs.length:=by rw[<- h.length];exact(vS.mp e).1
 obtain⟨d',e1,e2⟩:=h.get (M4 hi)
 rw[e]at e1;cases e1
 exact⟨_,M4 hi,e2⟩
theorem ZT.take:∀{ds:List PyData}{xs:List V} (k:Nat),ZT K G ds xs->ZT K G (ds.take k) (xs.take k)
 | [],xs,k,h=>by unfold ZT at h;subst h;simp;exact ZT.nil
 | d::ds,xs,0,h=>by simp;exact ZT.nil
 | d::ds,xs,k+1,h=>by
  unfold ZT at h
  obtain⟨x,r,rfl,h1,h2⟩:=h
  exact ZT.cons h1 (ZT.take k h2)
theorem ZT.drop:∀{ds:List PyData}{xs:List V} (k:Nat),ZT K G ds xs->ZT K G (ds.drop k) (xs.drop k)
 | [],xs,k,h=>by unfold ZT at h;subst h;simp;exact ZT.nil
 | d::ds,xs,0,h=>h
 | d::ds,xs,k+1,h=>by
  unfold ZT at h
  obtain⟨x,r,rfl,h1,h2⟩:=h
  exact ZT.drop k h2
theorem ZT.reverse:∀{ds:List PyData}{xs:List V},ZT K G ds xs->ZT K G ds.reverse xs.reverse
 | [],xs,h=>by unfold ZT at h;subst h;exact ZT.nil
 | d::ds,xs,h=>by
  unfold ZT at h
  obtain⟨x,r,rfl,h1,h2⟩:=h
  rw[yO,yO]
  exact ZT.snoc (ZT.reverse h2) h1
theorem ZT.ints:∀ns:List Int,ZT K G (ns.map .int) (ns.map .int)
 | []=>by unfold ZT;rfl
 | n::r=>by unfold ZT;exact⟨_,_,rfl,by unfold DW;rfl,ZT.ints r⟩
theorem ZT.bools_inv:∀{ns:List Bool}{xs:List V},ZT K G (ns.map .bool) xs->xs=ns.map V.bl
 | [],xs,h=>by unfold ZT at h;exact h
 | n::r,xs,h=>by
  rw[uO]at h
  unfold ZT at h
  obtain⟨x,t,rfl,h1,h2⟩:=h
  unfold DW at h1
  rw[h1,ZT.bools_inv h2];rfl
theorem DW.list{a:Addr}{xs:List V}{ds:List PyData}(h:G a=some (.lst xs))(t:ZT K G ds xs):DW K G (.list ds) (.ref a):=by unfold DW;exact⟨a,xs,rfl,h,t⟩
theorem DW.tup{a:Addr}{xs:List V}{ds:List PyData}(h:G a=some (.tup xs))(t:ZT K G ds xs):DW K G (.tuple ds) (.ref a):=by unfold DW;exact⟨a,xs,rfl,.inl h,t⟩
theorem DW.tup_inv{v:V}{ds:List PyData}(h:DW K G (.tuple ds) v):∃a xs,v=.ref a/\WH K G a xs/\ZT K G ds xs:=by
 unfold DW at h
 obtain⟨a,xs,q1,q2,q3⟩:=h
 refine⟨a,xs,q1,?_,q3⟩
 rcases q2 with q2|q2
 ·exact WH.of q2
 ·exact q2.sq _
theorem DW.list_inv{v:V}{ds:List PyData}(h:DW K G (.list ds) v):∃a xs,v=.ref a/\G a=some (.lst xs)/\ZT K G ds xs:=by
 unfold DW at h;exact h
theorem DW.int{i:Int}:DW K G (.int i) (.int i):=by unfold DW;rfl
theorem DW.bool{i:Bool}:DW K G (.bool i) (.bl i):=by unfold DW;rfl
theorem DW.str{i:Str}:DW K G (.str i) (.str i):=by unfold DW;rfl
theorem DW.none:DW K G .none .non:=by unfold DW;rfl
theorem DW.int_inv{i:Int}{v:V}(h:DW K G (.int i) v):v=.int i:=by unfold DW at h;exact h
theorem DW.bool_inv{i:Bool}{v:V}(h:DW K G (.bool i) v):v=.bl i:=by unfold DW at h;exact h
theorem DW.str_inv{i:Str}{v:V}(h:DW K G (.str i) v):v=.str i:=by unfold DW at h;exact h
theorem DW.none_inv{v:V}(h:DW K G .none v):v=.non:=by unfold DW at h;exact h
end
inductive Val where
 | d (x:PyData)|own (a:Addr)|raw (v:V)|scr (ns:List Int)
 /-- a caught exception of the class C: its dict,its fields -/
 | exc (e C d:Addr) (fs:List (Str×PyData))
inductive Own where
 | lst (ds:List PyData)|urn (m:Nat)|dct (kvs:List (List Int×PyData))
 /-- the table of a def that makes a lambda: empty,or with the one lambda's code object (its line,its column,its name) -/
 | tab (l c:Nat) (x:Str) (t:Option Addr)
 /-- any other,by what it says of its address -/
 | oth (φ:Frag->Hp->Hp->Addr->Prop)
abbrev OW:=Addr->Option Own
def OW.put(w:OW)(a:Addr)(o:Own):OW:=λb=>if b=a then some o else w b
theorem OW.put_same{w:OW}{a:Addr}{o:Own}:w.put a o a=some o:=by simp[OW.put]
theorem OW.put_ne{w:OW}{a b:Addr}{o:Own}(h:b≠a):w.put a o b=w b:=by simp[OW.put,h]
theorem OW.put_put{w:OW}{a:Addr}{o u:Own}:(w.put a o).put a u=w.put a u:=by
 funext b;unfold OW.put;split<;>rfl
structure DS where
 e:List (Option Val)
 w:OW
def DS.put(s:DS)(a:Addr)(o:Own):DS:=⟨s.e,s.w.put a o⟩
def DS.set(s:DS)(i:Nat)(v:Val):DS:=⟨s.e.set i (some v),s.w⟩
def VR(K:Frag)(G:Hp):Val->V->Prop
 | .d x,v=>DW K G x v
 | .own a,v=>v=.ref a
 | .raw u,v=>v=u
 | .scr ns,v=>∃a,v=.ref a/\Xp K G a (ns.map V.int)
 | .exc e C d fs,v=>v=.ref e/\∃oe us,G e=some (.frz oe (Mb C e d))/\G d=some (.xd us)/\AL C d oe/\us.map (·.1)=fs.map (·.1)/\ZT K G (fs.map (·.2)) (us.map (·.2))
def Th(kvs:List (List Int×PyData)):List (PyData×PyData):=kvs.map λp=>(tI p.1,p.2)
def WK(K:Frag)(G H:Hp)(a:Addr):Own->Prop
 | .lst ds=>∃xs,H a=some (.lst xs)/\ZT K G ds xs
 | .urn m=>K3 H a m
 | .dct kvs=>∃ks,H a=some (.dT ks)/\XH K G (Th kvs) ks
 | .tab l c x t=>∃ps,H a=some (.tbl ps)/\((t=none/\ps = #[])\/∃k oc u vs n,t=some k/\ps = #[rawInt l,rawInt c,.ref k]/\G k=some (.frz oc u)/\oc.data=.fields vs/\vs[1]? = some (.str x n))
 | .oth φ=>φ K G H a/\(∃u,H a=some u/\∀xs,u≠.tup xs)/\∀G' H',Z7 G G'->H' a=H a->φ K G' H' a
def YS(K:Frag)(G:Hp)(w:OW)(H:Hp):Prop:=∀a o,w a=some o->G a=none/\WK K G H a o
def SL(K:Frag)(G:Hp)(e:List (Option Val))(σ:St):Prop:=e.length=σ.length/\∀(i:Nat) (v:Val),e[i]? = some (some v)->∃x,σ[i]? = some (some x)/\VR K G v x
structure Yu(K:Frag)(G:Hp)(s:DS)(σ:St)(H:Hp):Prop where
 sub:Z7 G H
 own:YS K G s.w H
 sl:SL K G s.e σ
section
variable {K:Frag}{G G' H H':Hp}{s:DS}{σ:St}
theorem VR.same(e:Z7 G G'):∀{v:Val}{x:V},VR K G v x->VR K G' v x
 | .d _,_,h=>DW.same e h
 | .own _,_,h=>h
 | .raw _,_,h=>h
 | .scr _,_,⟨a,h1,h2⟩=>⟨a,h1,e.seq h2⟩
 | .exc _ _ _ _,_,⟨h1,oe,u,h2,h3,h4,h6,h5⟩=>⟨h1,oe,u,e _ _ h2,e _ _ h3,h4,h6,ZT.same e h5⟩
theorem SL.same{e:List (Option Val)}(q:Z7 G G')(h:SL K G e σ):SL K G' e σ:=⟨h.1,λi v z=>by
 obtain⟨x,h1,h2⟩:=h.2 i v z
 exact⟨x,h1,h2.same q⟩⟩
theorem SL.set{e:List (Option Val)}{v:Val}{x:V}(h:SL K G e σ)(r:VR K G v x)(i:Nat):SL K G (e.set i (some v)) (σ.set i (some x)):=by
 refine⟨by simp[h.1],λj u z=>?_⟩
 by_cases hj:i=j
 ·subst hj
  have hl:i<e.length:=by
   have:=(vS.mp z).1
   simpa using this
  rw[vT hl]at z
  cases z
  exact⟨x,by rw[vT (by rw[<- h.1];exact hl)],r⟩
 ·rw[vU hj]at z |-
  exact h.2 j u z
theorem WK.there{a:Addr}:∀{o:Own},WK K G H a o->∃u,H a=some u
 | .lst _,⟨xs,h,_⟩=>⟨_,h⟩
 | .urn _,⟨_,_,_,h,_⟩=>⟨_,h⟩
 | .dct _,⟨ks,h,_⟩=>⟨_,h⟩
 | .tab _ _ _ _,⟨ps,h,_⟩=>⟨_,h⟩
 | .oth _,⟨_,⟨u,h,_⟩,_⟩=>⟨u,h⟩
theorem WK.mono{a:Addr}(e:Z7 G G')(q:H' a=H a):∀{o:Own},WK K G H a o->WK K G' H' a o
 | .lst _,⟨xs,h,d⟩=>⟨xs,q▸h,d.same e⟩
 | .urn _,⟨g,c,n,h,r⟩=>⟨g,c,n,q▸h,r⟩
 | .dct _,⟨ks,h,d⟩=>⟨ks,q▸h,XH.same e d⟩
 | .tab _ _ _ _,⟨ps,h,d⟩=>⟨ps,q▸h,d.imp_right λ⟨k,oc,u,vs,n,h1,h2,h3,h4⟩=>⟨k,oc,u,vs,n,h1,h2,e _ _ h3,h4⟩⟩
 | .oth _,⟨_,h,d⟩=>⟨d _ _ e q,q▸h,λG2 H2 e2 q2=>d _ _ (e.trans e2) (q2.trans q)⟩
theorem Yu.free(r:Yu K G s σ H){p:Addr}(h:H p=none):s.w p=none:=by
 cases e:s.w p with
 | none=>rfl
 | some o=>
  obtain⟨u,hu⟩:=(r.own p o e).2.there
  rw[h]at hu;cases hu
theorem YS.mono{w:OW}(h:YS K G w H)(e:Z7 G G')(k:∀a o,w a=some o->G' a=none/\H' a=H a):YS K G' w H':=λa o q=>⟨(k a o q).1,(h a o q).2.mono e (k a o q).2⟩
theorem Yu.new(r:Yu K G s σ H){p:Addr}(h:H p=none)(o:HO):Yu K (upd G p o) s σ (upd H p o):=by
 have hg:G p=none:=r.sub.free h
 refine⟨λb u q=>?_,r.own.mono (YF hg o) λa u q=>?_,r.sl.same (YF hg o)⟩
 ·by_cases z:b=p
  ·subst z;rw[Z9]at q |-;exact q
  ·rw[Zk z]at q |-;exact r.sub _ _ q
 ·have na:a≠p:=λz=>by
   obtain⟨v,hv⟩:=(r.own a u q).2.there
   rw[z,h]at hv;cases hv
  exact⟨by rw[Zk na];exact(r.own a u q).1,Zk na⟩
theorem Yu.newOwn(r:Yu K G s σ H){p:Addr}(h:H p=none){o:HO}{u:Own}(at':WK K G (upd H p o) p u):Yu K G (s.put p u) σ (upd H p o):=by
 refine⟨λb v q=>?_,λa v q=>?_,r.sl⟩
 ·have nb:b≠p:=λz=>by rw[z]at q;rw[r.sub.free h]at q;cases q
  rw[Zk nb];exact r.sub _ _ q
 ·by_cases z:a=p
  ·subst z
   have q':s.w.put a u a=some v:=q
   rw[OW.put_same]at q';cases q'
   exact⟨r.sub.free h,at'⟩
  ·have q':s.w.put p u a=some v:=q
   rw[OW.put_ne z]at q'
   exact⟨(r.own a v q').1,(r.own a v q').2.mono (Z7.refl G) (Zk z)⟩
theorem Yu.chg(r:Yu K G s σ H){p:Addr}{o0:Own}(h:s.w p=some o0){o:HO}{u:Own}(at':WK K G (upd H p o) p u):Yu K G (s.put p u) σ (upd H p o):=by
 refine⟨λb v q=>?_,λa v q=>?_,r.sl⟩
 ·have nb:b≠p:=λz=>by rw[z]at q;rw[(r.own p o0 h).1]at q;cases q
  rw[Zk nb];exact r.sub _ _ q
 ·by_cases z:a=p
  ·subst z
   have q':s.w.put a u a=some v:=q
   rw[OW.put_same]at q';cases q'
   exact⟨(r.own a o0 h).1,at'⟩
  ·have q':s.w.put p u a=some v:=q
   rw[OW.put_ne z]at q'
   exact⟨(r.own a v q').1,(r.own a v q').2.mono (Z7.refl G) (Zk z)⟩
theorem Yu.set(r:Yu K G s σ H){v:Val}{x:V}(q:VR K G v x)(i:Nat):Yu K G (s.set i v) (σ.set i (some x)) H:=⟨r.sub,r.own,r.sl.set q i⟩
theorem Yu.env(r:Yu K G s σ H){e:List (Option Val)}{σ':St}(q:SL K G e σ'):Yu K G ⟨e,s.w⟩ σ' H:=⟨r.sub,r.own,q⟩
theorem SL.capt{e:List (Option Val)}(h:SL K G e σ)(cap:List (Option Nat)):SL K G (cap.map λo=>o.bind λj=>(e[j]?).join) (capt cap σ):=by
 refine⟨by simp[L2.capt],λi v z=>?_⟩
 rw[yF]at z
 cases q:cap[i]? with
 | none=>rw[q]at z;cases z
 | some o=>
  rw[q]at z
  simp only[xA,tE]at z
  cases o with
  | none=>cases z
  | some j=>
   simp only[tF]at z
   have z':e[j]? = some (some v):=by
    cases q2:e[j]? with
    | none=>rw[q2]at z;cases z
    | some u=>rw[q2]at z;simp at z;rw[z]
   obtain⟨x,h1,h2⟩:=h.2 j v z'
   refine⟨x,?_,h2⟩
   unfold L2.capt
   rw[yF,q]
   simp[h1]
end
def U8(cap:List (Option Nat))(e:List (Option Val)):List (Option Val):=cap.map λo=>o.bind λj=>(e[j]?).join
abbrev DK:=Val->DS->Prop
abbrev ZE:=DS->DK->Prop
abbrev Ux:=DS->(Bool->DS->Prop)->Prop
abbrev XO:=DS->(List Val->DS->Prop)->Prop
abbrev SW:=DS->(List PyData×(OW->Prop)->DS->Prop)->Prop
abbrev T7:=Val->DS->(DS->Prop)->Prop
abbrev FG:=List PyData->DS->(List PyData->DS->Prop)->Prop
def Po(K:Frag)(G:Hp)(σ:St)(Q:VK):DK:=λv s=>∀G' H' x,Z7 G G'->Yu K G' s σ H'->VR K G' v x->Q x H'
def PoT(K:Frag)(G:Hp)(σ:St)(Q:Bool->Hp->Prop):Bool->DS->Prop:=λb s=>∀G' H',Z7 G G'->Yu K G' s σ H'->Q b H'
inductive VRs(K:Frag)(G:Hp):List Val->List V->Prop
 | nil:VRs K G [] []
 | cons {v x vs xs}:VR K G v x->VRs K G vs xs->VRs K G (v::vs) (x::xs)
theorem VRs.same{K:Frag}{G G':Hp}(e:Z7 G G'):∀{vs:List Val}{xs:List V},VRs K G vs xs->VRs K G' vs xs
 | _,_,.nil=>.nil
 | _,_,.cons h t=>.cons (h.same e) (VRs.same e t)
theorem VRs.length{K:Frag}{G:Hp}:∀{vs:List Val}{xs:List V},VRs K G vs xs->vs.length=xs.length
 | _,_,.nil=>rfl
 | _,_,.cons h t=>by rw[uM,uM,VRs.length t]
def PoA(K:Frag)(G:Hp)(σ:St)(Q:List V->Hp->Prop):List Val->DS->Prop:=λvs s=>∀G' H' xs,Z7 G G'->Yu K G' s σ H'->VRs K G' vs xs->Q xs H'
def Mo{α:Type}(d:DS->(α->DS->Prop)->Prop):Prop:=∀s Q Q',(∀v s',Q v s'->Q' v s')->d s Q->d s Q'
structure RE(K:Frag)(t:TE)(d:ZE):Prop where
 mo:Mo d
 ok:∀G s σ H Q,Yu K G s σ H->d s (Po K G σ Q)->t σ H Q
structure RT(K:Frag)(t:TT)(d:Ux):Prop where
 mo:Mo d
 ok:∀G s σ H Q,Yu K G s σ H->d s (PoT K G σ Q)->t σ H Q
structure RA(K:Frag)(t:TA)(d:XO):Prop where
 mo:Mo d
 ok:∀G s σ H Q,Yu K G s σ H->d s (PoA K G σ Q)->t σ H Q
structure WJ where
 nx:DS->Prop
 rt:DK
 bk:DS->Prop:=λ_=>False
 ct:DS->Prop:=λ_=>False
abbrev Vh:=WJ->DS->Prop
structure A_(K:Frag)(G:Hp)(D:O6)(E:WJ):Prop where
 nx:∀s' G' σ' H',Z7 G G'->Yu K G' s' σ' H'->E.nx s'->D.nx σ' H'
 rt:∀v s' G' σ' H' x,Z7 G G'->Yu K G' s' σ' H'->VR K G' v x->E.rt v s'->D.rt x H'
 bk:∀s' G' σ' H',Z7 G G'->Yu K G' s' σ' H'->E.bk s'->D.bk σ' H'
 ct:∀s' G' σ' H',Z7 G G'->Yu K G' s' σ' H'->E.ct s'->D.ct σ' H'
theorem A_.same{K:Frag}{G G':Hp}{D:O6}{E:WJ}(h:A_ K G D E)(e:Z7 G G'):A_ K G' D E:=
 ⟨λs' G2 σ' H' q=>h.nx s' G2 σ' H' (e.trans q),λv s' G2 σ' H' x q=>h.rt v s' G2 σ' H' x (e.trans q),λs' G2 σ' H' q=>h.bk s' G2 σ' H' (e.trans q),λs' G2 σ' H' q=>h.ct s' G2 σ' H' (e.trans q)⟩
def RS(K:Frag)(t:TS)(d:Vh):Prop:=∀G s σ H D E,Yu K G s σ H->A_ K G D E->d E s->t D σ H
structure RG(K:Frag)(g:TG)(d:T7):Prop where
 mo:∀v s (Q Q':DS->Prop),(∀s',Q s'->Q' s')->d v s Q->d v s Q'
 ok:∀G s σ H v x Q,Yu K G s σ H->VR K G v x->d v s (λs'=>∀G' σ' H',Z7 G G'->Yu K G' s' σ' H'->Q σ' H')->g x σ H Q
def UR(K:Frag)(J:It)(G0:Hp)(P:OW->Prop)(ds:List PyData):Prop:=∀G s σ H i,Z7 G0 G->P s.w->Yu K G s σ H ->
 (∀d,ds[i]? = some d->J.go i H/\∀x H',J.yld i H x H'->∃G',Z7 G G'/\Yu K G' s σ H'/\DW K G' d x)/\(ds.length≤i->J.stop i H)
structure RI(K:Frag)(t:TI)(d:SW):Prop where
 mo:Mo d
 ok:∀G s σ H (R:It->Hp->Prop),Yu K G s σ H->d s (λds s'=>∀G' H' J,Z7 G G'->Yu K G' s' σ H'->UR K J G' ds.2 ds.1->R J H')->t σ H R
structure RL(K:Frag)(t:TL)(d:FG):Prop where
 mo:∀acc s (Q Q':List PyData->DS->Prop),(∀v s',Q v s'->Q' v s')->d acc s Q->d acc s Q'
 ok:∀G s σ H acc ys (Q:LK),Yu K G s σ H->ZT K G acc ys->acc.length<sizeLine->d acc s (λacc' s'=>∀G' σ' H' ys',Z7 G G'->Yu K G' s' σ' H'->ZT K G' acc' ys'->Q ys' σ' H')->t ys σ H Q
section
variable {K:Frag}{G G' H H':Hp}{s:DS}{σ:St}
theorem Po.same{Q:VK}{v:Val}(h:Po K G σ Q v s)(e:Z7 G G'):Po K G' σ Q v s:=λG2 H2 x e2=>h G2 H2 x (e.trans e2)
theorem PoT.same{Q:Bool->Hp->Prop}{v:Bool}(h:PoT K G σ Q v s)(e:Z7 G G'):PoT K G' σ Q v s:=λG2 H2 e2=>h G2 H2 (e.trans e2)
theorem PoA.same{Q:List V->Hp->Prop}{v:List Val}(h:PoA K G σ Q v s)(e:Z7 G G'):PoA K G' σ Q v s:=λG2 H2 x e2=>h G2 H2 x (e.trans e2)
theorem Po.here{Q:VK}{v:Val}{x:V}(h:Po K G σ Q v s)(r:Yu K G s σ H)(q:VR K G v x):Q x H:=h G H x (Z7.refl G) r q
theorem VA{i:Int}:VR K G (.d (.int i)) (.int i):=by unfold VR;exact DW.int
theorem Xj{i:Bool}:VR K G (.d (.bool i)) (.bl i):=by unfold VR;exact DW.bool
theorem XC{i:Str}:VR K G (.d (.str i)) (.str i):=by unfold VR;exact DW.str
theorem Vg:VR K G (.d .none) .non:=by unfold VR;exact DW.none
theorem Yj{i:Int}{x:V}(h:VR K G (.d (.int i)) x):x=.int i:=by unfold VR at h;exact DW.int_inv h
theorem WW{i:Bool}{x:V}(h:VR K G (.d (.bool i)) x):x=.bl i:=by unfold VR at h;exact DW.bool_inv h
theorem YR{i:Str}{x:V}(h:VR K G (.d (.str i)) x):x=.str i:=by unfold VR at h;exact DW.str_inv h
theorem Ui{ds:List PyData}{v:V}(h:VR K G (.d (.list ds)) v):∃a xs,v=.ref a/\G a=some (.lst xs)/\ZT K G ds xs:=by unfold VR at h;exact DW.list_inv h
theorem Uj{ds:List PyData}{v:V}(h:VR K G (.d (.tuple ds)) v):∃a xs,v=.ref a/\WH K G a xs/\ZT K G ds xs:=by unfold VR at h;exact DW.tup_inv h
def Mv(i:Nat):ZE:=λs k=>match s.e[i]? with|some (some v)=>k v s|_=>False
theorem Zg(i:Nat):RE K (O1 i) (Mv i):=by
 refine⟨λs Q Q' h q=>?_,λG s σ H Q r h=>?_⟩
 ·unfold Mv at q |-
  split at q
  ·exact h _ _ q
  ·exact q.elim
 ·unfold Mv at h
  split at h
  ·next v e=>
   obtain⟨x,h1,h2⟩:=r.sl.2 i v e
   exact⟨x,h1,h.here r h2⟩
  ·exact h.elim
def dC(v:Val):ZE:=λs k=>k v s
theorem MT{v:Val}{x:V}(h:∀G,VR K G v x):RE K (tC x) (dC v):=⟨λs Q Q' h q=>h _ _ q,λG s σ H Q r q=>Po.here q r (h G)⟩
theorem ZG{i:Int}:RE K (tC (.int i)) (dC (.d (.int i))):=MT λ_=>VA
theorem Zb9{i:Bool}:RE K (tC (.bl i)) (dC (.d (.bool i))):=MT λ_=>Xj
theorem ZS{i:Str}:RE K (tC (.str i)) (dC (.d (.str i))):=MT λ_=>XC
theorem Od:RE K (tC .non) (dC (.d .none)):=MT λ_=>Vg
theorem XU{n:String}:RE K (tC (.ty n)) (dC (.raw (.ty n))):=MT λ_=>rfl
structure RO(K:Frag)(r:R2)(f:Val->Val->ZE):Prop where
 mo:∀v w,Mo (f v w)
 ok:∀G s σ H x y v w Q,Yu K G s σ H->VR K G v x->VR K G w y->f v w s (Po K G σ Q)->r x y H Q
def dOp(f:Val->Val->ZE)(da db:ZE):ZE:=λs k=>da s λv s1=>db s1 λw s2=>f v w s2 k
theorem ZF{r:R2}{f:Val->Val->ZE}{ta tb:TE}{da db:ZE}(ho:RO K r f)(ha:RE K ta da)(hb:RE K tb db):RE K (Dr r ta tb) (dOp f da db):=by
 refine⟨λs Q Q' h q=>ha.mo _ _ _ (λv s1 q1=>hb.mo _ _ _ (λw s2 q2=>ho.mo v w _ _ _ h q2) q1) q,λG s σ H Q r h=>?_⟩
 refine ha.ok G s σ H _ r (ha.mo _ _ _ (λv s1 q G1 H1 x e1 r1 v1=>?_) h)
 refine hb.ok G1 s1 σ H1 _ r1 (hb.mo _ _ _ (λw s2 q2 G2 H2 y e2 r2 v2=>?_) q)
 exact ho.ok G2 s2 σ H2 x y v w Q r2 (v1.same e2) v2 (ho.mo v w _ _ _ (λu s3 q3=>q3.same (e1.trans e2)) q2)
structure RU(K:Frag)(r:V->Hp->VK->Prop)(f:Val->ZE):Prop where
 mo:∀v,Mo (f v)
 ok:∀G s σ H x v Q,Yu K G s σ H->VR K G v x->f v s (Po K G σ Q)->r x H Q
def dUn(f:Val->ZE)(da:ZE):ZE:=λs k=>da s λv s1=>f v s1 k
theorem Zbb{r:V->Hp->VK->Prop}{f:Val->ZE}{ta:TE}{da:ZE}(ho:RU K r f)(ha:RE K ta da):RE K (tUn r ta) (dUn f da):=by
 refine⟨λs Q Q' h q=>ha.mo _ _ _ (λv s1 q1=>ho.mo v _ _ _ h q1) q,λG s σ H Q r h=>?_⟩
 refine ha.ok G s σ H _ r (ha.mo _ _ _ (λv s1 q G1 H1 x e1 r1 v1=>?_) h)
 exact ho.ok G1 s1 σ H1 x v Q r1 v1 (ho.mo v _ _ _ (λu s3 q3=>q3.same e1) q)
def fU(g:Int->Int):Val->ZE:=λv s k=>match v with | .d (.int i)=>k (.d (.int (g i))) s|_=>False
theorem Zc3{g:Int->Int}:RU K (rU λi=>.int (g i)) (fU g):=by
 refine⟨λv s Q Q' h q=>?_,λG s σ H x v Q r v1 h=>?_⟩
 ·unfold fU at q |-;split at q
  ·exact h _ _ q
  ·exact q.elim
 ·unfold fU at h;split at h
  ·next i=>exact⟨i,Yj v1,h.here r VA⟩
  ·exact h.elim
def fI(C:Int->Int->Prop)(g:Int->Int->Int):Val->Val->ZE:=λv w s k=>match v,w with | .d (.int i),.d (.int j)=>C i j/\k (.d (.int (g i j))) s|_,_=>False
def fI0(g:Int->Int->Int):Val->Val->ZE:=λv w s k=>match v,w with | .d (.int i),.d (.int j)=>k (.d (.int (g i j))) s|_,_=>False
def fB0(g:Int->Int->Bool):Val->Val->ZE:=λv w s k=>match v,w with | .d (.int i),.d (.int j)=>k (.d (.bool (g i j))) s|_,_=>False
theorem GN{g:Int->Int->Int}:RO K (Cq λi j=>.int (g i j)) (fI0 g):=by
 refine⟨λv w s Q Q' h q=>?_,λG s σ H x y v w Q r v1 v2 h=>?_⟩
 ·unfold fI0 at q |-;split at q
  ·exact h _ _ q
  ·exact q.elim
 ·unfold fI0 at h;split at h
  ·next i j=>exact⟨i,j,Yj v1,Yj v2,h.here r VA⟩
  ·exact h.elim
theorem Km{g:Int->Int->Bool}:RO K (Cq λi j=>.bl (g i j)) (fB0 g):=by
 refine⟨λv w s Q Q' h q=>?_,λG s σ H x y v w Q r v1 v2 h=>?_⟩
 ·unfold fB0 at q |-;split at q
  ·exact h _ _ q
  ·exact q.elim
 ·unfold fB0 at h;split at h
  ·next i j=>exact⟨i,j,Yj v1,Yj v2,h.here r Xj⟩
  ·exact h.elim
def DQ(neg:Bool):Val->Val->ZE:=λv w s k=>match v,w with
 | .d (.int i),.d (.int j)=>k (.d (.bool (if neg then !decide (i=j) else decide (i=j)))) s
 | .d (.str i),.d (.str j)=>k (.d (.bool (if neg then !decide (i=j) else decide (i=j)))) s
 | _,_=>False
theorem IJ(neg:Bool)(v w:Val):Mo (DQ neg v w):=by
 intro s Q Q' h q
 unfold DQ at q |-;split at q
 ·exact h _ _ q
 ·exact h _ _ q
 ·exact q.elim
theorem OH{i j:Int}:decide (V.int i=V.int j)=decide (i=j):=by simp
theorem OI{i j:Str}:decide (V.str i=V.str j)=decide (i=j):=by simp
theorem Kn:RO K rEq (DQ false):=by
 refine⟨IJ false,λG s σ H x y v w Q r v1 v2 h=>?_⟩
 unfold DQ at h;split at h
 ·next i j=>
  rw[Yj v1,Yj v2]
  exact⟨rfl,by rw[OH];exact h.here r Xj⟩
 ·next i j=>
  rw[YR v1,YR v2]
  exact⟨rfl,by rw[OI];exact h.here r Xj⟩
 ·exact h.elim
theorem Ph:RO K rNe (DQ true):=by
 refine⟨IJ true,λG s σ H x y v w Q r v1 v2 h=>?_⟩
 unfold DQ at h;split at h
 ·next i j=>
  rw[Yj v1,Yj v2]
  exact⟨rfl,by rw[OH];exact h.here r Xj⟩
 ·next i j=>
  rw[YR v1,YR v2]
  exact⟨rfl,by rw[OI];exact h.here r Xj⟩
 ·exact h.elim
def rdL(w:OW):Val->Option (List PyData)
 | .d (.list ds)=>some ds
 | .own a=>match w a with|some (.lst ds)=>some ds|_=>none
 | .scr ns=>some (ns.map .int)
 | _=>none
def rdT:Val->Option (List PyData)
 | .d (.tuple ds)=>some ds
 | _=>none
def rdA(w:OW)(v:Val):Option (List PyData):=match rdT v with|some ds=>some ds|none=>rdL w v
theorem Yu.rdL(r:Yu K G s σ H){v:Val}{x:V}{ds:List PyData}(q:VR K G v x)(h:L2.rdL s.w v=some ds):∃a xs,x=.ref a/\Xp K H a xs/\ZT K G ds xs:=by
 unfold L2.rdL at h
 split at h
 ·cases h
  obtain⟨a,xs,rfl,h1,h2⟩:=Ui q
  exact⟨a,xs,rfl,Xp.of (r.sub _ _ h1),h2⟩
 ·next a=>
  cases (show x=.ref a from q)
  split at h
  ·next z=>
   cases h
   obtain⟨_,xs,h1,h2⟩:=r.own a _ z
   exact⟨a,xs,rfl,Xp.of h1,h2⟩
  ·cases h
 ·next ns=>
  cases h
  obtain⟨a,e,h1⟩:=q
  exact⟨a,_,e,r.sub.seq h1,ZT.ints ns⟩
 ·cases h
theorem Yu.rdT(r:Yu K G s σ H){v:Val}{x:V}{ds:List PyData}(q:VR K G v x)(h:L2.rdT v=some ds):∃a xs,x=.ref a/\WH K H a xs/\ZT K G ds xs:=by
 unfold L2.rdT at h
 split at h
 ·cases h
  obtain⟨a,xs,rfl,h1,h2⟩:=Uj q
  exact⟨a,xs,rfl,r.sub.tup h1,h2⟩
 ·cases h
theorem Yu.rdA(r:Yu K G s σ H){v:Val}{x:V}{ds:List PyData}(q:VR K G v x)(h:L2.rdA s.w v=some ds):∃a xs,x=.ref a/\(Xp K H a xs\/WH K H a xs)/\ZT K G ds xs:=by
 unfold L2.rdA at h
 split at h
 ·next z=>
  cases h
  obtain⟨a,xs,e,h1,h2⟩:=r.rdT q z
  exact⟨a,xs,e,.inr h1,h2⟩
 ·obtain⟨a,xs,e,h1,h2⟩:=r.rdL q h
  exact⟨a,xs,e,.inl h1,h2⟩
def rdD(w:OW)(v:Val):Option PyData:=match v with | .d x=>some x | .own a=>(match w a with|some (.lst ds)=>some (.list ds)|_=>none)|_=>none
theorem Yu.rdD(r:Yu K G s σ H){v:Val}{x:V}{d:PyData}(q:VR K G v x)(h:L2.rdD s.w v=some d)(n:d.hasDict=false):DV K H d x:=by
 unfold L2.rdD at h
 split at h
 ·cases h;exact DW.dv r.sub n q
 ·next a=>
  split at h
  ·next z=>
   cases h
   cases (show x=.ref a from q)
   obtain⟨_,xs,h1,h2⟩:=r.own a _ z
   exact DV.list (Xp.of h1) (ZT.dv r.sub (by simpa[PyData.hasDict]using n) h2)
  ·cases h
 ·cases h
def II(neg:Bool):Val->Val->ZE:=λv w s k=>match rdD s.w v,rdD s.w w with
 | some x,some y=>(x.hasDict=false/\y.hasDict=false/\SeqAt.shaped x=true/\SeqAt.shaped y=true)/\k (.d (.bool (if neg then !PyData.eqv x y else PyData.eqv x y))) s
 | _,_=>False
theorem Ve{neg:Bool}:RO K (Ag K neg) (II neg):=by
 refine⟨λv w s Q Q' h q=>?_,λG s σ H x y v w Q r v1 v2 h=>?_⟩
 ·unfold II at q |-;split at q
  ·exact⟨q.1,h _ _ q.2⟩
  ·exact q.elim
 ·unfold II at h;split at h
  ·next a b e1 e2=>
   obtain⟨⟨n1,n2,s1,s2⟩,h⟩:=h
   exact⟨a,b,r.rdD v1 e1 n1,r.rdD v2 e2 n2,s1,s2,h.here r Xj⟩
  ·exact h.elim
def IK(neg:Bool):Val->Val->ZE:=λv w s k=>match rdD s.w v,rdA s.w w with
 | some x,some ds=>(x.hasDict=false/\PyData.hasDictAll ds=false/\x.canLay0=true/\PyData.canLayAll0 ds=true/\x.depth≤30)/\k (.d (.bool (if neg then !ds.any (λy=>PyData.eqv y x) else ds.any (λy=>PyData.eqv y x)))) s
 | _,_=>False
theorem GO{neg:Bool}:RO K (EO K neg) (IK neg):=by
 refine⟨λv w s Q Q' h q=>?_,λG s σ H x y v w Q r v1 v2 h=>?_⟩
 ·unfold IK at q |-;split at q
  ·exact⟨q.1,h _ _ q.2⟩
  ·exact q.elim
 ·unfold IK at h;split at h
  ·next a ds e1 e2=>
   obtain⟨⟨n1,n2,s1,s2,s3⟩,h⟩:=h
   obtain⟨p,ys,rfl,h1,h2⟩:=r.rdA v2 e2
   exact⟨a,ds,p,ys,r.rdD v1 e1 n1,rfl,h1,ZT.dv r.sub n2 h2,s1,s2,s3,h.here r Xj⟩
  ·exact h.elim
theorem ZT.atI{ds:List PyData}{xs:List V}{i:Int}{d:PyData}(h:ZT K G ds xs)(e:L2.atI ds i=some d):∃x,L2.atI xs i=some x/\DW K G d x:=by
 unfold L2.atI at e |-
 rw[h.length]at e
 cases q:Ei xs.length i with
 | none=>rw[q]at e;cases e
 | some j=>
  rw[q]at e
  obtain⟨x,h1,h2⟩:=h.get' (i:=j) (d:=d) e
  exact⟨x,h1,h2⟩
def IQ:Val->Val->ZE:=λv w s k=>match rdL s.w v,w with
 | some ds,.d (.int i)=>∃d,atI ds i=some d/\k (.d d) s
 | _,_=>False
def IT:Val->Val->ZE:=λv w s k=>match rdT v,w with
 | some ds,.d (.int i)=>∃d,atI ds i=some d/\k (.d d) s
 | _,_=>False
theorem WA:RO K (ER K) IQ:=by
 refine⟨λv w s Q Q' h q=>?_,λG s σ H x y v w Q r v1 v2 h=>?_⟩
 ·unfold IQ at q |-;split at q
  ·obtain⟨d,e,q⟩:=q;exact⟨d,e,h _ _ q⟩
  ·exact q.elim
 ·unfold IQ at h;split at h
  ·next ds i e1=>
   obtain⟨d,e,h⟩:=h
   obtain⟨p,ys,rfl,h1,h2⟩:=r.rdL v1 e1
   obtain⟨z,h3,h4⟩:=h2.atI e
   exact⟨p,ys,i,z,rfl,Yj v2,h1,h3,h.here r h4⟩
  ·exact h.elim
theorem XN:RO K (Ah K) IT:=by
 refine⟨λv w s Q Q' h q=>?_,λG s σ H x y v w Q r v1 v2 h=>?_⟩
 ·unfold IT at q |-;split at q
  ·obtain⟨d,e,q⟩:=q;exact⟨d,e,h _ _ q⟩
  ·exact q.elim
 ·unfold IT at h;split at h
  ·next ds i e1=>
   obtain⟨d,e,h⟩:=h
   obtain⟨p,ys,rfl,h1,h2⟩:=r.rdT v1 e1
   obtain⟨z,h3,h4⟩:=h2.atI e
   exact⟨p,ys,i,z,rfl,Yj v2,h1,h3,h.here r h4⟩
  ·exact h.elim
def nl(o:Bool)(ds:List PyData)(s:DS)(k:DK):Prop:=match o with
 | true=>∀p,s.w p=none->k (.own p) (s.put p (.lst ds))
 | false=>k (.d (.list ds)) s
theorem Pc{o:Bool}{ds:List PyData}{s:DS}{k k':DK}(h:∀v s',k v s'->k' v s')(q:nl o ds s k):nl o ds s k':=by
 cases o
 ·exact h _ _ q
 ·exact λp hp=>h _ _ (q p hp)
theorem Yu.nl(r:Yu K G s σ H){o:Bool}{ds:List PyData}{xs:List V}{Q:VK}(D:ZT K G ds xs)(h:L2.nl o ds s (Po K G σ Q)):∀p,H p=none->Q (.ref p) (upd H p (.lst xs)):=by
 intro p hp
 have hg:G p=none:=r.sub.free hp
 have S:=YF hg (.lst xs)
 cases o
 ·exact h (upd G p (.lst xs)) (upd H p (.lst xs)) (.ref p) S (r.new hp _) (DW.list Z9 (D.same S))
 ·exact h p (r.free hp) G (upd H p (.lst xs)) (.ref p) (Z7.refl G) (r.newOwn hp ⟨xs,Z9,D⟩) rfl
theorem Yu.nt(r:Yu K G s σ H){ds:List PyData}{xs:List V}{Q:VK}(D:ZT K G ds xs)(h:Po K G σ Q (.d (.tuple ds)) s):∀p,H p=none->Q (.ref p) (upd H p (.tup xs)):=by
 intro p hp
 have hg:G p=none:=r.sub.free hp
 have S:=YF hg (.tup xs)
 exact h (upd G p (.tup xs)) (upd H p (.tup xs)) (.ref p) S (r.new hp _) (DW.tup Z9 (D.same S))
def rdM(w:OW):Val->Option (List PyData)
 | .d (.list ds)=>some ds
 | .own a=>match w a with|some (.lst ds)=>some ds|_=>none
 | _=>none
theorem Yu.rdM(r:Yu K G s σ H){v:Val}{x:V}{ds:List PyData}(q:VR K G v x)(h:L2.rdM s.w v=some ds):∃a xs,x=.ref a/\H a=some (.lst xs)/\ZT K G ds xs:=by
 unfold L2.rdM at h
 split at h
 ·cases h
  obtain⟨a,xs,rfl,h1,h2⟩:=Ui q
  exact⟨a,xs,rfl,r.sub _ _ h1,h2⟩
 ·next a=>
  cases (show x=.ref a from q)
  split at h
  ·next z=>
   cases h
   obtain⟨_,xs,h1,h2⟩:=r.own a _ z
   exact⟨a,xs,rfl,h1,h2⟩
  ·cases h
 ·cases h
def IH(o:Bool):Val->Val->ZE:=λv w s k=>match rdM s.w v,rdM s.w w with
 | some ds,some es=>ds.length+es.length≤sizeLine/\nl o (ds++es) s k
 | _,_=>False
theorem Of(o:Bool):RO K Zaz (IH o):=by
 refine⟨λv w s Q Q' h q=>?_,λG s σ H x y v w Q r v1 v2 h=>?_⟩
 ·unfold IH at q |-;split at q
  ·exact⟨q.1,Pc h q.2⟩
  ·exact q.elim
 ·unfold IH at h;split at h
  ·next ds es e1 e2=>
   obtain⟨a,xs,rfl,h1,h2⟩:=r.rdM v1 e1
   obtain⟨b,ys,rfl,h3,h4⟩:=r.rdM v2 e2
   exact⟨a,b,xs,ys,rfl,rfl,h1,h3,by rw[<- h2.length,<- h4.length];exact h.1,r.nl (h2.append h4) h.2⟩
  ·exact h.elim
def Zbd(k:Nat)(ds:List PyData):List PyData:=(List.replicate k ds).flatten
def Zad(o:Bool):Val->Val->ZE:=λv w s k=>match rdM s.w v,w with
 | some ds,.d (.int i)=>(-(2 ^ 63)≤i/\i<2 ^ 63/\ds.length*i.toNat≤sizeLine)/\nl o (Zbd i.toNat ds) s k
 | _,_=>False
def DP:Val->Val->ZE:=λv w s k=>match rdT v,rdT w with
 | some ds,some es=>ds.length+es.length≤sizeLine/\k (.d (.tuple (ds++es))) s
 | _,_=>False
theorem GC{v:Val}{ds:List PyData}(h:rdT v=some ds):v=.d (.tuple ds):=by
 unfold rdT at h;split at h<;>cases h;rfl
def G7(K:Frag):V->Option Int->Option Int->Hp->VK->Prop:=λx lo hi H Q=>∃a xs,x=.ref a/\WH K H a xs/\(Rv xs lo hi=xs->Q (.ref a) H)/\∀p,H p=none->Q (.ref p) (upd H p (.tup (Rv xs lo hi)))
theorem Kt{X:Cx}:J9 X (G7 X.K):=by
 intro pins s σ H x v vl vu lo hi sl Q I rx hs pl pu h
 obtain⟨a,xs,rfl,hx,q1,q2⟩:=h
 by_cases hw:HT.sIx xs.length 0 lo=0/\HT.sIx xs.length xs.length hi=xs.length
 ·cases rx
  obtain⟨its,r,ht,hz⟩:=I.tuple hx
  have hlen:its.toArray.size=xs.length:=by rw[yK];exact r.length.symm
  refine⟨"tuple",_,yL.lookup,ht.typeIs,?_⟩
  refine U0 ht hs pl pu (by rw[hlen];exact hw) ⟨.ref a,H,I,rfl,q1 ?_⟩
  unfold Rv;rw[hw.1,hw.2,drop_zero,Nat.sub_zero,tG]
 ·exact Az pins s σ H _ v vl vu lo hi sl Q I rx hs pl pu ⟨a,xs,rfl,hx,hw,q2⟩
def TN(xs:List PyData)(lo hi:Option Int):List PyData:=(xs.drop (HT.sIx xs.length 0 lo)).take (HT.sIx xs.length xs.length hi-HT.sIx xs.length 0 lo)
theorem ZT.cut{ds:List PyData}{xs:List V}(h:ZT K G ds xs)(lo hi:Option Int):ZT K G (TN ds lo hi) (Rv xs lo hi):=by
 unfold TN Rv;rw[h.length];exact(h.drop _).take _
structure RX(K:Frag)(t:TO)(d:DS->(Option Int->DS->Prop)->Prop):Prop where
 mo:Mo d
 ok:∀G s σ H (Q:Option Int->Hp->Prop),Yu K G s σ H->d s (λo s'=>∀G' H',Z7 G G'->Yu K G' s' σ H'->Q o H')->t σ H Q
def CO:DS->(Option Int->DS->Prop)->Prop:=λs k=>k none s
def dP(d:ZE):DS->(Option Int->DS->Prop)->Prop:=λs k=>d s λv s'=>match v with | .d (.int i)=>k (some i) s' | _=>False
theorem Kr:RX K O0 CO:=⟨λs Q Q' h q=>h _ _ q,λG s σ H Q r h=>h G H (Z7.refl G) r⟩
theorem Ks{t:TE}{d:ZE}(h:RE K t d):RX K (Ft t) (dP d):=by
 refine⟨λs Q Q' z q=>h.mo _ _ _ (λv s' q=>?_) q,λG s σ H Q r q=>h.ok G s σ H _ r (h.mo _ _ _ (λv s' q G' H' x e r' v'=>?_) q)⟩
 ·split at q
  ·exact z _ _ q
  ·exact q.elim
 ·split at q
  ·next i=>exact⟨i,Yj v',q G' H' e r'⟩
  ·exact q.elim
structure RSl(K:Frag)(r:V->Option Int->Option Int->Hp->VK->Prop)(f:Val->Option Int->Option Int->ZE):Prop where
 mo:∀v lo hi,Mo (f v lo hi)
 ok:∀G s σ H x v lo hi Q,Yu K G s σ H->VR K G v x->f v lo hi s (Po K G σ Q)->r x lo hi H Q
def IV:Val->Option Int->Option Int->ZE:=λv lo hi s k=>match rdT v with|some ds=>k (.d (.tuple (TN ds lo hi))) s|none=>False
def IU(o:Bool):Val->Option Int->Option Int->ZE:=λv lo hi s k=>match rdL s.w v with|some ds=>nl o (TN ds lo hi) s k|none=>False
theorem GW:RSl K (G7 K) IV:=by
 refine⟨λv lo hi s Q Q' h q=>?_,λG s σ H x v lo hi Q r v1 h=>?_⟩
 ·unfold IV at q |-;split at q
  ·exact h _ _ q
  ·exact q.elim
 ·unfold IV at h;split at h
  ·next ds e=>
   obtain⟨a,xs,rfl,h1,h2⟩:=r.rdT v1 e
   refine⟨a,xs,rfl,h1,λz=>?_,r.nt (h2.cut lo hi) h⟩
   have v1':VR K G (.d (.tuple ds)) (.ref a):=by rw[<- GC e];exact v1
   have e2:TN ds lo hi=ds:=by
    have hc:=h2.cut lo hi
    rw[z]at hc
    have hl:(TN ds lo hi).length=ds.length:=by rw[hc.length,h2.length]
    unfold TN at hl |-
    rw[yC,length_drop]at hl
    by_cases h0:HT.sIx ds.length 0 lo=0
    ·rw[h0,Nat.sub_zero]at hl |-
     rw[drop_zero]
     exact List.take_of_length_le (by omega)
    ·have:ds.length=0:=by omega
     rw[List.length_eq_zero_iff.mp this];simp
   exact h.here r (by rw[e2];exact v1')
  ·exact h.elim
theorem GV(o:Bool):RSl K (Ai K) (IU o):=by
 refine⟨λv lo hi s Q Q' h q=>?_,λG s σ H x v lo hi Q r v1 h=>?_⟩
 ·unfold IU at q |-;split at q
  ·exact Pc h q
  ·exact q.elim
 ·unfold IU at h;split at h
  ·next ds e=>
   obtain⟨a,xs,rfl,h1,h2⟩:=r.rdL v1 e
   exact⟨a,xs,rfl,h1,r.nl (h2.cut lo hi) h⟩
  ·exact h.elim
def dSl(f:Val->Option Int->Option Int->ZE)(de:ZE)(dl dh:DS->(Option Int->DS->Prop)->Prop):ZE:=λs k=>de s λv s1=>dl s1 λl s2=>dh s2 λu s3=>f v l u s3 k
theorem GI{r:V->Option Int->Option Int->Hp->VK->Prop}{f:Val->Option Int->Option Int->ZE}{te:TE}{tl th:TO}{de:ZE}{dl dh:DS->(Option Int->DS->Prop)->Prop}(hr:RSl K r f)(he:RE K te de)(hl:RX K tl dl)(hh:RX K th dh):RE K (tSl r te tl th) (dSl f de dl dh):=by
 refine⟨λs Q Q' h q=>he.mo _ _ _ (λv s1 q1=>hl.mo _ _ _ (λl s2 q2=>hh.mo _ _ _ (λu s3 q3=>hr.mo v l u _ _ _ h q3) q2) q1) q,λG s σ H Q r h=>?_⟩
 refine he.ok G s σ H _ r (he.mo _ _ _ (λv s1 q G1 H1 x e1 r1 v1=>?_) h)
 refine hl.ok G1 s1 σ H1 _ r1 (hl.mo _ _ _ (λl s2 q2 G2 H2 e2 r2=>?_) q)
 refine hh.ok G2 s2 σ H2 _ r2 (hh.mo _ _ _ (λu s3 q3 G3 H3 e3 r3=>?_) q2)
 exact hr.ok G3 s3 σ H3 x v l u Q r3 (v1.same (e2.trans e3)) (hr.mo v l u _ _ _ (λz s4 q4=>q4.same ((e1.trans e2).trans e3)) q3)
def Zaa(o:Bool)(de:ZE):ZE:=λs k=>de s λv s1=>match rdL s1.w v with|some ds=>nl o ds.reverse s1 k|none=>False
def KD:XO:=λs k=>k [] s
def VO(de:ZE)(da:XO):XO:=λs k=>de s λv s1=>da s1 λvs s2=>k (v::vs) s2
theorem Zh:RA K Fq KD:=⟨λs Q Q' h q=>h _ _ q,λG s σ H Q r h=>h G H [] (Z7.refl G) r .nil⟩
theorem Zb{te:TE}{t:TA}{de:ZE}{da:XO}(he:RE K te de)(ha:RA K t da):RA K (Kx te t) (VO de da):=by
 refine⟨λs Q Q' h q=>he.mo _ _ _ (λv s1 q1=>ha.mo _ _ _ (λvs s2 q2=>h _ _ q2) q1) q,λG s σ H Q r h=>?_⟩
 refine he.ok G s σ H _ r (he.mo _ _ _ (λv s1 q G1 H1 x e1 r1 v1=>?_) h)
 exact ha.ok G1 s1 σ H1 _ r1 (ha.mo _ _ _ (λvs s2 q2 G2 H2 xs e2 r2 v2=>q2 G2 H2 _ (e1.trans e2) r2 (.cons (v1.same e2) v2)) q)
def NX:List Val->Option (List PyData)
 | []=>some []
 | .d x::r=>(NX r).map (x::·)
 | _::_=>none
theorem Lg:∀{vs:List Val}{ds:List PyData}{xs:List V},NX vs=some ds->VRs K G vs xs->ZT K G ds xs
 | [],_,_,e,.nil=>by cases e;exact ZT.nil
 | .d x::r,ds,_,e,.cons h t=>by
  simp only[NX]at e
  cases q:NX r with
  | none=>rw[q]at e;cases e
  | some es=>rw[q]at e;cases e;exact ZT.cons h (Lg q t)
 | .own _::_,_,_,e,_=>by simp[NX]at e
 | .raw _::_,_,_,e,_=>by simp[NX]at e
 | .scr _::_,_,_,e,_=>by simp[NX]at e
def Ij(o:Bool)(da:XO):ZE:=λs k=>da s λvs s1=>match NX vs with|some ds=>ds.length≤sizeLine/\nl o ds s1 k|none=>False
def Iu(da:XO):ZE:=λs k=>da s λvs s1=>match NX vs with|some ds=>ds.length≤sizeLine/\k (.d (.tuple ds)) s1|none=>False
theorem X6(o:Bool){t:TA}{da:XO}(ha:RA K t da):RE K (Dq t) (Ij o da):=by
 refine⟨λs Q Q' h q=>ha.mo _ _ _ (λv s1 q1=>?_) q,λG s σ H Q r h=>ha.ok G s σ H _ r (ha.mo _ _ _ (λvs s1 q G1 H1 xs e1 r1 v1=>?_) h)⟩
 ·split at q1
  ·exact⟨q1.1,Pc h q1.2⟩
  ·exact q1.elim
 ·split at q
  ·next ds e=>
   have D:=Lg e v1
   exact⟨by rw[<- D.length];exact q.1,r1.nl D (Pc (λv s' z=>z.same e1) q.2)⟩
  ·exact q.elim
theorem YO{t:TA}{da:XO}(ha:RA K t da):RE K (Dt t) (Iu da):=by
 refine⟨λs Q Q' h q=>ha.mo _ _ _ (λv s1 q1=>?_) q,λG s σ H Q r h=>ha.ok G s σ H _ r (ha.mo _ _ _ (λvs s1 q G1 H1 xs e1 r1 v1=>?_) h)⟩
 ·split at q1
  ·exact⟨q1.1,h _ _ q1.2⟩
  ·exact q1.elim
 ·split at q
  ·next ds e=>
   have D:=Lg e v1
   exact⟨by rw[<- D.length];exact q.1,r1.nt D (q.2.same e1)⟩
  ·exact q.elim
structure RC(K:Frag)(r:List V->Hp->VK->Prop)(f:List Val->ZE):Prop where
 mo:∀vs,Mo (f vs)
 ok:∀G s σ H xs vs Q,Yu K G s σ H->VRs K G vs xs->f vs s (Po K G σ Q)->r xs H Q
def dCB(f:List Val->ZE)(da:XO):ZE:=λs k=>da s λvs s1=>f vs s1 k
theorem ZK{r:List V->Hp->VK->Prop}{f:List Val->ZE}{t:TA}{da:XO}(hc:RC K r f)(ha:RA K t da):RE K (tCB r t) (dCB f da):=
 ⟨λs Q Q' h q=>ha.mo _ _ _ (λvs s1 q1=>hc.mo vs _ _ _ h q1) q,λG s σ H Q r h=>ha.ok G s σ H _ r (ha.mo _ _ _ (λvs s1 q G1 H1 xs e1 r1 v1=>hc.ok G1 s1 σ H1 xs vs Q r1 v1 (hc.mo vs _ _ _ (λv s' z=>z.same e1) q)) h)⟩
theorem VRs.one{v:Val}{xs:List V}(h:VRs K G [v] xs):∃x,xs=[x]/\VR K G v x:=by
 cases h with|cons a t=>cases t;exact⟨_,rfl,a⟩
theorem VRs.two{v u:Val}{xs:List V}(h:VRs K G [v,u] xs):∃x y,xs=[x,y]/\VR K G v x/\VR K G u y:=by
 cases h with|cons a t=>cases t with|cons b t=>cases t;exact⟨_,_,rfl,a,b⟩
def f1(g:Val->ZE):List Val->ZE:=λvs s k=>match vs with | [v]=>g v s k|_=>False
def f2(g:Val->Val->ZE):List Val->ZE:=λvs s k=>match vs with | [v,w]=>g v w s k|_=>False
theorem ES{r:List V->Hp->VK->Prop}{g:Val->ZE}(mo:∀v,Mo (g v))(ok:∀G s σ H x v Q,Yu K G s σ H->VR K G v x->g v s (Po K G σ Q)->r [x] H Q):RC K r (f1 g):=by
 refine⟨λvs s Q Q' h q=>?_,λG s σ H xs vs Q r v1 h=>?_⟩
 ·unfold f1 at q |-;split at q
  ·exact mo _ _ _ _ h q
  ·exact q.elim
 ·unfold f1 at h;split at h
  ·obtain⟨x,rfl,v2⟩:=v1.one
   exact ok G s σ H x _ Q r v2 h
  ·exact h.elim
theorem rc2{r:List V->Hp->VK->Prop}{g:Val->Val->ZE}(mo:∀v w,Mo (g v w))(ok:∀G s σ H x y v w Q,Yu K G s σ H->VR K G v x->VR K G w y->g v w s (Po K G σ Q)->r [x,y] H Q):RC K r (f2 g):=by
 refine⟨λvs s Q Q' h q=>?_,λG s σ H xs vs Q r v1 h=>?_⟩
 ·unfold f2 at q |-;split at q
  ·exact mo _ _ _ _ _ h q
  ·exact q.elim
 ·unfold f2 at h;split at h
  ·obtain⟨x,y,rfl,v2,v3⟩:=v1.two
   exact ok G s σ H x y _ _ Q r v2 v3 h
  ·exact h.elim
def Nb:Val->ZE:=λv s k=>match rdA s.w v with|some ds=>k (.d (.int ds.length)) s|none=>False
theorem V7:RC K (λxs H Q=>∃p ys,xs=[.ref p]/\(Xp K H p ys\/WH K H p ys)/\Q (.int ys.length) H) (f1 Nb):=by
 refine ES (λv s Q Q' h q=>?_) (λG s σ H x v Q r v1 h=>?_)
 ·unfold Nb at q |-;split at q
  ·exact h _ _ q
  ·exact q.elim
 ·unfold Nb at h;split at h
  ·next ds e=>
   obtain⟨a,xs,rfl,h1,h2⟩:=r.rdA v1 e
   exact⟨a,xs,rfl,h1,by rw[<- h2.length];exact h.here r VA⟩
  ·exact h.elim
def R8:Val->ZE:=λv s k=>match rdA s.w v with|some ds=>k (.d (.tuple ds)) s|none=>False
theorem W9:RC K (λxs H Q=>∃p ys,xs=[.ref p]/\((Xp K H p ys/\∀l,H l=none->Q (.ref l) (upd H l (.tup ys)))\/(WH K H p ys/\Q (.ref p) H))) (f1 R8):=by
 refine ES (λv s Q Q' h q=>?_) (λG s σ H x v Q r v1 h=>?_)
 ·unfold R8 at q |-;split at q
  ·exact h _ _ q
  ·exact q.elim
 ·unfold R8 rdA at h
  split at h
  ·next ds e=>
   split at e
   ·next es z=>
    cases e
    obtain⟨a,xs,rfl,h1,h2⟩:=r.rdT v1 z
    exact⟨a,xs,rfl,.inr ⟨h1,h.here r (by rw[<- GC z];exact v1)⟩⟩
   ·obtain⟨a,xs,rfl,h1,h2⟩:=r.rdL v1 e
    exact⟨a,xs,rfl,.inl ⟨h1,r.nt h2 h⟩⟩
  ·exact h.elim
def LF(o:Bool):Val->ZE:=λv s k=>match rdA s.w v with|some ds=>nl o ds s k|none=>False
def QF:List PyData->Option (List Int)
 | []=>some []
 | .int i::r=>(QF r).map (i::·)
 | _::_=>none
theorem F5:∀{ds:List PyData}{ns:List Int},QF ds=some ns->ds=ns.map .int
 | [],_,e=>by cases e;rfl
 | .int i::r,ns,e=>by
  simp only[QF]at e
  cases q:QF r with
  | none=>rw[q]at e;cases e
  | some ms=>rw[q]at e;cases e;rw[F5 q];rfl
 | .none::_,_,e=>by simp[QF]at e
 | .bool _::_,_,e=>by simp[QF]at e
 | .str _::_,_,e=>by simp[QF]at e
 | .list _::_,_,e=>by simp[QF]at e
 | .tuple _::_,_,e=>by simp[QF]at e
 | .dict _::_,_,e=>by simp[QF]at e
@[simp] theorem uIs_map(ns:List Int):QF (ns.map .int)=some ns:=by
 induction ns with
 | nil=>rfl
 | cons n r ih=>simp[QF,ih]
def Le:List PyData->Option (List Bool)
 | []=>some []
 | .bool i::r=>(Le r).map (i::·)
 | _::_=>none
theorem Lf:∀{ds:List PyData}{ns:List Bool},Le ds=some ns->ds=ns.map .bool
 | [],_,e=>by cases e;rfl
 | .bool i::r,ns,e=>by
  simp only[Le]at e
  cases q:Le r with
  | none=>rw[q]at e;cases e
  | some ms=>rw[q]at e;cases e;rw[Lf q];rfl
 | .none::_,_,e=>by simp[Le]at e
 | .int _::_,_,e=>by simp[Le]at e
 | .str _::_,_,e=>by simp[Le]at e
 | .list _::_,_,e=>by simp[Le]at e
 | .tuple _::_,_,e=>by simp[Le]at e
 | .dict _::_,_,e=>by simp[Le]at e
@[simp] theorem uBs_map(ns:List Bool):Le (ns.map .bool)=some ns:=by
 induction ns with
 | nil=>rfl
 | cons n r ih=>simp[Le,ih]
def Zai:Val->ZE:=λv s k=>match rdL s.w v with|some ds=>(match QF ds with|some ns=>k (.d (.int ns.sum)) s|none=>False)|none=>False
def Hb:Val->ZE:=λv s k=>match rdL s.w v with|some ds=>(match Le ds with|some ns=>k (.d (.bool (ns.all id))) s|none=>False)|none=>False
theorem Ob:RC K (λxs H Q=>∃(a:Addr) (bs:List Bool),xs=[.ref a]/\Xp K H a (bs.map V.bl)/\Q (.bl (bs.all id)) H) (f1 Hb):=by
 refine ES (λv s Q Q' h q=>?_) (λG s σ H x v Q r v1 h=>?_)
 ·unfold Hb at q |-;split at q
  ·split at q
   ·exact h _ _ q
   ·exact q.elim
  ·exact q.elim
 ·unfold Hb at h;split at h
  ·next ds e=>
   split at h
   ·next ns z=>
    obtain⟨a,xs,rfl,h1,h2⟩:=r.rdL v1 e
    rw[Lf z]at h2
    rw[h2.bools_inv]at h1
    exact⟨a,ns,rfl,h1,h.here r Xj⟩
   ·exact h.elim
  ·exact h.elim
def okR(d:PyData):Prop:=d.showable=true/\d.hasDict=false/\d.depth≤40/\d.shown.length≤sizeLine
def isR:PyData->Bool
 | .list _=>true
 | .tuple _=>true
 | _=>false
def Nd:Val->ZE:=λv s k=>match rdD s.w v with|some d=>isR d=true/\okR d/\k (.d (.str d.shown)) s|none=>False
theorem Tq:RC K (λxs H Q=>∃a d,xs=[.ref a]/\DV K H d (.ref a)/\d.showable=true/\d.hasDict=false/\d.depth≤40/\d.shown.length≤sizeLine/\Q (.str d.shown) H) (f1 Nd):=by
 refine ES (λv s Q Q' h q=>?_) (λG s σ H x v Q r v1 h=>?_)
 ·unfold Nd at q |-;split at q
  ·exact⟨q.1,q.2.1,h _ _ q.2.2⟩
  ·exact q.elim
 ·unfold Nd at h;split at h
  ·next d e=>
   obtain⟨h0,⟨h1,h2,h3,h4⟩,h⟩:=h
   have D:=r.rdD v1 e h2
   obtain⟨a,rfl⟩:∃a,x=.ref a:=by
    cases d<;>simp only[isR]at h0<;>try cases h0
    ·unfold DV at D;obtain⟨a,_,e,_⟩:=D;exact⟨a,e⟩
    ·unfold DV at D;obtain⟨a,_,e,_⟩:=D;exact⟨a,e⟩
   exact⟨a,d,rfl,D,h1,h2,h3,h4,h.here r XC⟩
  ·exact h.elim
def OR:Val->Val->ZE:=λv w s k=>match v,w with | .d (.int i),.d (.int j)=>k (.d (.int (max i j))) s|_,_=>False
def OS:Val->Val->ZE:=λv w s k=>match v,w with | .d (.int i),.d (.int j)=>k (.d (.int (min i j))) s|_,_=>False
theorem EV:RC K (λxs H Q=>∃i j,xs=[.int i,.int j]/\Q (.int (if j > i then j else i)) H) (f2 OR):=by
 refine rc2 (λv w s Q Q' h q=>?_) (λG s σ H x y v w Q r v1 v2 h=>?_)
 ·unfold OR at q |-;split at q
  ·exact h _ _ q
  ·exact q.elim
 ·unfold OR at h;split at h
  ·next i j=>
   refine⟨i,j,by rw[Yj v1,Yj v2],?_⟩
   have e:(if j > i then j else i)=max i j:=by split<;>omega
   rw[e];exact h.here r VA
  ·exact h.elim
theorem EW:RC K (λxs H Q=>∃i j,xs=[.int i,.int j]/\Q (.int (if j<i then j else i)) H) (f2 OS):=by
 refine rc2 (λv w s Q Q' h q=>?_) (λG s σ H x y v w Q r v1 v2 h=>?_)
 ·unfold OS at q |-;split at q
  ·exact h _ _ q
  ·exact q.elim
 ·unfold OS at h;split at h
  ·next i j=>
   refine⟨i,j,by rw[Yj v1,Yj v2],?_⟩
   have e:(if j<i then j else i)=min i j:=by split<;>omega
   rw[e];exact h.here r VA
  ·exact h.elim
def UQ:PyData->String
 | .none=>"NoneType" | .bool _=>"bool" | .int _=>"int" | .str _=>"str" | .list _=>"list" | .tuple _=>"tuple" | .dict _=>"dict"
def IP:Val->Val->ZE:=λv w s k=>match rdD s.w v,w with
 | some d,.raw (.ty c)=>∃b,(∀K,PySem.W.kitOne K (.type (UQ d)) (.type c)=some b)/\k (.d (.bool b)) s
 | _,_=>False
end
section
variable {K:Frag}{G G' H H':Hp}{s:DS}{σ:St}
def L5(d:ZE):Ux:=λs k=>d s λv s1=>match v with | .d (.bool b)=>k b s1|_=>False
theorem Y4{t:TE}{d:ZE}(h:RE K t d):RT K (NS t) (L5 d):=by
 refine⟨λs Q Q' z q=>h.mo _ _ _ (λv s1 q=>?_) q,λG s σ H Q r q=>h.ok G s σ H _ r (h.mo _ _ _ (λv s1 q G1 H1 x e1 r1 v1=>?_) q)⟩
 ·split at q
  ·exact z _ _ q
  ·exact q.elim
 ·split at q
  ·next b=>exact⟨b,WW v1,q G1 H1 e1 r1⟩
  ·exact q.elim
theorem NL{t:TE}{d:ZE}(h:RE K t d):RT K (tB t) (L5 d):=Y4 h
def AB(w:OW)(v:Val):Option Bool:=match v with
 | .d .none=>some false
 | .d (.bool b)=>some b
 | .d (.int i)=>some (i != 0)
 | _=>(rdA w v).map λds=>!ds.isEmpty
def Zac(d:ZE):Ux:=λs k=>d s λv s1=>match AB s1.w v with|some b=>k b s1|none=>False
theorem ZT.empty{ds:List PyData}{xs:List V}(h:ZT K G ds xs):xs.isEmpty=ds.isEmpty:=by
 cases ds with
 | nil=>unfold ZT at h;rw[h];rfl
 | cons d ds=>unfold ZT at h;obtain⟨x,r,rfl,_⟩:=h;rfl
def CH(t u:Ux):Ux:=λs k=>t s λc s1=>if c=true then u s1 k else k false s1
def dOr(t u:Ux):Ux:=λs k=>t s λc s1=>if c=true then k true s1 else u s1 k
def CP(t:Ux):Ux:=λs k=>t s λc s1=>k (!c) s1
theorem GX{t u:TT}{d e:Ux}(h:RT K t d)(q:RT K u e):RT K (A2 t u) (CH d e):=by
 refine⟨λs Q Q' z y=>h.mo _ _ _ (λc s1 y=>?_) y,λG s σ H Q r y=>h.ok G s σ H _ r (h.mo _ _ _ (λc s1 y G1 H1 e1 r1=>?_) y)⟩
 ·cases c
  ·exact z _ _ y
  ·exact q.mo _ _ _ z y
 ·cases c
  ·exact y G1 H1 e1 r1
  ·exact q.ok G1 s1 σ H1 _ r1 (q.mo _ _ _ (λc s2 z=>z.same e1) y)
theorem Tu{t u:TT}{d e:Ux}(h:RT K t d)(q:RT K u e):RT K (tOr t u) (dOr d e):=by
 refine⟨λs Q Q' z y=>h.mo _ _ _ (λc s1 y=>?_) y,λG s σ H Q r y=>h.ok G s σ H _ r (h.mo _ _ _ (λc s1 y G1 H1 e1 r1=>?_) y)⟩
 ·cases c
  ·exact q.mo _ _ _ z y
  ·exact z _ _ y
 ·cases c
  ·exact q.ok G1 s1 σ H1 _ r1 (q.mo _ _ _ (λc s2 z=>z.same e1) y)
  ·exact y G1 H1 e1 r1
theorem Uc{t:TT}{d:Ux}(h:RT K t d):RT K (A7 t) (CP d):=
 ⟨λs Q Q' z y=>h.mo _ _ _ (λc s1 y=>z _ _ y) y,λG s σ H Q r y=>h.ok G s σ H _ r (h.mo _ _ _ (λc s1 y G1 H1 e1 r1=>y G1 H1 e1 r1) y)⟩
def Iw:Ux:=λs k=>k true s
theorem Xo:RT K Jz Iw:=⟨λs Q Q' z y=>z _ _ y,λG s σ H Q r y=>y G H (Z7.refl G) r⟩
def CK(t:Ux)(a b:ZE):ZE:=λs k=>t s λc s1=>if c=true then a s1 k else b s1 k
theorem Zba{t:TT}{ta tb:TE}{d:Ux}{da db:ZE}(h:RT K t d)(ha:RE K ta da)(hb:RE K tb db):RE K (tIf t ta tb) (CK d da db):=by
 refine⟨λs Q Q' z y=>h.mo _ _ _ (λc s1 y=>?_) y,λG s σ H Q r y=>h.ok G s σ H _ r (h.mo _ _ _ (λc s1 y G1 H1 e1 r1=>?_) y)⟩
 ·cases c
  ·exact hb.mo _ _ _ z y
  ·exact ha.mo _ _ _ z y
 ·cases c
  ·exact hb.ok G1 s1 σ H1 _ r1 (hb.mo _ _ _ (λc s2 z=>z.same e1) y)
  ·exact ha.ok G1 s1 σ H1 _ r1 (ha.mo _ _ _ (λc s2 z=>z.same e1) y)
def JQ(a b:ZE):ZE:=λs k=>a s λv s1=>match v with | .d (.bool c)=>(if c=true then b s1 k else k (.d (.bool false)) s1)|_=>False
def Za9(a b:ZE):ZE:=λs k=>a s λv s1=>match v with | .d (.bool c)=>(if c=true then k (.d (.bool true)) s1 else b s1 k)|_=>False
def Il(a:ZE):ZE:=λs k=>a s λv s1=>match v with | .d (.bool c)=>k (.d (.bool (!c))) s1|_=>False
theorem Kj{ta tb:TE}{da db:ZE}(ha:RE K ta da)(hb:RE K tb db):RE K (Fi ta tb) (JQ da db):=by
 refine⟨λs Q Q' z y=>ha.mo _ _ _ (λv s1 y=>?_) y,λG s σ H Q r y=>ha.ok G s σ H _ r (ha.mo _ _ _ (λv s1 y G1 H1 x e1 r1 v1=>?_) y)⟩
 ·split at y
  ·next c=>cases c;exact z _ _ y;exact hb.mo _ _ _ z y
  ·exact y.elim
 ·split at y
  ·next c=>
   refine⟨c,WW v1,?_⟩
   cases c
   ·exact y G1 H1 _ e1 r1 Xj
   ·exact hb.ok G1 s1 σ H1 _ r1 (hb.mo _ _ _ (λc s2 z=>z.same e1) y)
  ·exact y.elim
theorem E_{ta:TE}{da:ZE}(ha:RE K ta da):RE K (Fs ta) (Il da):=by
 refine⟨λs Q Q' z y=>ha.mo _ _ _ (λv s1 y=>?_) y,λG s σ H Q r y=>ha.ok G s σ H _ r (ha.mo _ _ _ (λv s1 y G1 H1 x e1 r1 v1=>?_) y)⟩
 ·split at y
  ·exact z _ _ y
  ·exact y.elim
 ·split at y
  ·next c=>exact⟨c,WW v1,y G1 H1 _ e1 r1 Xj⟩
  ·exact y.elim
theorem UR.list{a:Addr}{xs:List V}{ds:List PyData}(h:G a=some (.lst xs))(D:ZT K G ds xs):UR K (AW K a) G (λ_=>True) ds:=by
 intro G1 s σ H i e _ r
 have hs:Xp K H a xs:=Xp.of (r.sub _ _ (e _ _ h))
 refine⟨λd hd=>?_,λhl=>⟨xs,hs,by rw[<- D.length];exact hl⟩⟩
 obtain⟨x,h1,h2⟩:=D.get' hd
 refine⟨⟨xs,x,hs,h1⟩,λy H' hy=>?_⟩
 obtain⟨rfl,hy⟩:=hy
 have:=hy xs hs
 rw[h1]at this;cases this
 exact⟨G1,Z7.refl _,r,h2.same e⟩
theorem UR.tup{a:Addr}{xs:List V}{ds:List PyData}(h:WH K G a xs)(D:ZT K G ds xs):UR K (Itt K a) G (λ_=>True) ds:=by
 intro G1 s σ H i e _ r
 have hs:WH K H a xs:=r.sub.tup (e.tup h)
 refine⟨λd hd=>?_,λhl=>⟨xs,hs,by rw[<- D.length];exact hl⟩⟩
 obtain⟨x,h1,h2⟩:=D.get' hd
 refine⟨⟨xs,x,hs,h1⟩,λy H' hy=>?_⟩
 obtain⟨rfl,hy⟩:=hy
 have:=hy xs hs
 rw[h1]at this;cases this
 exact⟨G1,Z7.refl _,r,h2.same e⟩
def QB(lo:Int)(n:Nat):List PyData:=(List.range n).map λi=>.int (lo+(i:Nat))
theorem UR.rng{lo:Int}{n:Nat}:UR K (AX lo n) G (λ_=>True) (QB lo n):=by
 intro G1 s σ H i e _ r
 refine⟨λd hd=>?_,λhl=>by show n≤i;simpa[QB]using hl⟩
 have hi:i<n:=by
  have:=(vS.mp hd).1
  simpa[QB]using this
 refine⟨hi,λy H' hy=>?_⟩
 obtain⟨rfl,rfl⟩:=hy
 refine⟨G1,Z7.refl _,r,?_⟩
 have hd':d=.int (lo+(i:Nat)):=by
  unfold QB at hd
  rw[yF,List.getElem?_range hi]at hd
  exact(vV hd).symm
 rw[hd'];exact DW.int
def D8(K:Frag)(t:Bool)(G:Hp)(a:Addr)(xs:List V):Prop:=match t with|true=>WH K G a xs|false=>G a=some (.lst xs)
theorem D8.sq{t:Bool}{a:Addr}{xs:List V}(h:D8 K t G a xs)(e:Z7 G G'):Qv K t G' a xs:=by
 cases t
 ·exact Xp.of (e _ _ h)
 ·exact e.tup h
def QG(ds es:List PyData):List PyData:=(ds.zip es).map λp=>.tuple [p.1,p.2]
theorem UR.zip{t1 t2:Bool}{a b:Addr}{xs ys:List V}{ds es:List PyData}(h:D8 K t1 G a xs)(h':D8 K t2 G b ys)(D:ZT K G ds xs)(D':ZT K G es ys):UR K (Itz K t1 t2 a b) G (λ_=>True) (QG ds es):=by
 intro G1 s σ H i e _ r
 have hs:=h.sq (e.trans r.sub)
 have hs':=h'.sq (e.trans r.sub)
 refine⟨λd hd=>?_,λhl=>⟨xs,ys,hs,hs',?_⟩⟩
 ·unfold QG at hd
  rw[yF]at hd
  cases q:(ds.zip es)[i]? with
  | none=>rw[q]at hd;cases hd
  | some p=>
   rw[q]at hd
   cases hd
   obtain⟨q1,q2⟩:=xD.mp q
   obtain⟨x,h1,h2⟩:=D.get' q1
   obtain⟨y,h3,h4⟩:=D'.get' q2
   refine⟨⟨xs,ys,x,y,hs,hs',h1,h3⟩,λv H' hy=>?_⟩
   obtain⟨p',x',y',rfl,hp,rfl,hxy⟩:=hy
   obtain⟨z1,z2⟩:=hxy xs ys hs hs'
   rw[h1]at z1;cases z1
   rw[h3]at z2;cases z2
   have hg:=r.sub.free hp
   have S:=YF hg (.tup [x,y])
   exact⟨_,S,r.new hp _,DW.tup Z9 (ZT.cons (h2.same (e.trans S)) (ZT.cons (h4.same (e.trans S)) ZT.nil))⟩
 ·unfold QG at hl
  rw[Wb,length_zip,D.length,D'.length]at hl
  omega
def Wy(ds:List PyData):List PyData:=ds.mapIdx λi d=>.tuple [.int (i:Nat),d]
theorem UR.enum{t:Bool}{a:Addr}{xs:List V}{ds:List PyData}(h:D8 K t G a xs)(D:ZT K G ds xs):UR K (Ite K t a) G (λ_=>True) (Wy ds):=by
 intro G1 s σ H i e _ r
 have hs:=h.sq (e.trans r.sub)
 refine⟨λd hd=>?_,λhl=>⟨xs,hs,by rw[<- D.length];simpa[Wy]using hl⟩⟩
 unfold Wy at hd
 rw[tH]at hd
 cases q:ds[i]? with
 | none=>rw[q]at hd;cases hd
 | some d'=>
  rw[q]at hd
  cases hd
  obtain⟨x,h1,h2⟩:=D.get' q
  refine⟨⟨xs,x,hs,h1⟩,λv H' hy=>?_⟩
  obtain⟨p',x',rfl,hp,rfl,hxy⟩:=hy
  have z1:=hxy xs hs
  rw[h1]at z1;cases z1
  have hg:=r.sub.free hp
  have S:=YF hg (.tup [.int (i:Nat),x])
  exact⟨_,S,r.new hp _,DW.tup Z9 (ZT.cons DW.int (ZT.cons (h2.same (e.trans S)) ZT.nil))⟩
def LY:OW->Prop:=λ_=>True
def CL(d:ZE):SW:=λs k=>d s λv s1=>match v with | .d (.list ds)=>k (ds,LY) s1 | .own a=>∃ds,s1.w a=some (.lst ds)/\k (ds,λw=>w a=some (.lst ds)) s1|_=>False
def CM(d:ZE):SW:=λs k=>d s λv s1=>match v with | .d (.tuple ds)=>k (ds,LY) s1|_=>False
theorem UR.own{a:Addr}{ds:List PyData}:UR K (AW K a) G (λw=>w a=some (.lst ds)) ds:=by
 intro G1 s σ H i e p r
 obtain⟨_,xs,h1,D⟩:=r.own a _ p
 have hs:Xp K H a xs:=Xp.of h1
 refine⟨λd hd=>?_,λhl=>⟨xs,hs,by rw[<- D.length];exact hl⟩⟩
 obtain⟨x,h4,h2⟩:=D.get' hd
 refine⟨⟨xs,x,hs,h4⟩,λy H' hy=>?_⟩
 obtain⟨rfl,hy⟩:=hy
 have:=hy xs hs
 rw[h4]at this;cases this
 exact⟨G1,Z7.refl _,r,h2⟩
theorem Tr{t:TE}{d:ZE}(h:RE K t d):RI K (Hm K t) (CL d):=by
 refine⟨λs Q Q' z y=>h.mo _ _ _ (λv s1 y=>?_) y,λG s σ H R r y=>h.ok G s σ H _ r (h.mo _ _ _ (λv s1 y G1 H1 x e1 r1 v1=>?_) y)⟩
 ·split at y
  ·exact z _ _ y
  ·obtain⟨ds,h1,y⟩:=y;exact⟨ds,h1,z _ _ y⟩
  ·exact y.elim
 ·split at y
  ·obtain⟨a,xs,rfl,h1,h2⟩:=Ui v1
   exact⟨a,rfl,⟨xs,Xp.of (r1.sub _ _ h1)⟩,y G1 H1 _ e1 r1 (UR.list h1 h2)⟩
  ·next a=>
   obtain⟨ds,h1,y⟩:=y
   cases (show x=.ref a from v1)
   obtain⟨_,xs,h2,_⟩:=r1.own a _ h1
   exact⟨a,rfl,⟨xs,Xp.of h2⟩,y G1 H1 _ e1 r1 UR.own⟩
  ·exact y.elim
theorem Vd{t:TE}{d:ZE}(h:RE K t d):RI K (Eg K t) (CM d):=by
 refine⟨λs Q Q' z y=>h.mo _ _ _ (λv s1 y=>?_) y,λG s σ H R r y=>h.ok G s σ H _ r (h.mo _ _ _ (λv s1 y G1 H1 x e1 r1 v1=>?_) y)⟩
 ·split at y
  ·exact z _ _ y
  ·exact y.elim
 ·split at y
  ·obtain⟨a,xs,rfl,h1,h2⟩:=Uj v1
   exact⟨a,rfl,⟨xs,r1.sub.tup h1⟩,y G1 H1 _ e1 r1 (UR.tup h1 h2)⟩
  ·exact y.elim
def Im(d:XO):SW:=λs k=>d s λvs s1=>match vs with | [.d (.int j)]=>(-(2 ^ 62)≤j/\j<2 ^ 62)/\k (QB 0 j.toNat,LY) s1|_=>False
def Io(d:XO):SW:=λs k=>d s λvs s1=>match vs with | [.d (.int i),.d (.int j)]=>(-(2 ^ 62)≤i/\i<2 ^ 62/\-(2 ^ 62)≤j/\j<2 ^ 62)/\k (QB i (j-i).toNat,LY) s1|_=>False
theorem Ts{t:TA}{d:XO}(h:RA K t d):RI K (Hn t) (Im d):=by
 refine⟨λs Q Q' z y=>h.mo _ _ _ (λv s1 y=>?_) y,λG s σ H R r y=>h.ok G s σ H _ r (h.mo _ _ _ (λv s1 y G1 H1 x e1 r1 v1=>?_) y)⟩
 ·split at y
  ·exact⟨y.1,z _ _ y.2⟩
  ·exact y.elim
 ·split at y
  ·next j=>
   obtain⟨u,rfl,v2⟩:=v1.one
   exact⟨j,by rw[Yj v2],y.1.1,y.1.2,y.2 G1 H1 _ e1 r1 UR.rng⟩
  ·exact y.elim
theorem Kl{t:TA}{d:XO}(h:RA K t d):RI K (Ho t) (Io d):=by
 refine⟨λs Q Q' z y=>h.mo _ _ _ (λv s1 y=>?_) y,λG s σ H R r y=>h.ok G s σ H _ r (h.mo _ _ _ (λv s1 y G1 H1 x e1 r1 v1=>?_) y)⟩
 ·split at y
  ·exact⟨y.1,z _ _ y.2⟩
  ·exact y.elim
 ·split at y
  ·next i j=>
   obtain⟨u,w,rfl,v2,v3⟩:=v1.two
   exact⟨i,j,by rw[Yj v2,Yj v3],y.1,y.2 G1 H1 _ e1 r1 UR.rng⟩
  ·exact y.elim
def Om(t:Bool):Val->Option (List PyData)
 | .d (.list ds)=>if t then none else some ds
 | .d (.tuple ds)=>if t then some ds else none
 | _=>none
theorem Oo{t:Bool}{v:Val}{x:V}{ds:List PyData}(h:VR K G v x)(e:Om t v=some ds):∃a xs,x=.ref a/\D8 K t G a xs/\ZT K G ds xs:=by
 unfold Om at e
 split at e
 ·cases t
  ·cases e
   obtain⟨a,xs,rfl,h1,h2⟩:=Ui h
   exact⟨a,xs,rfl,h1,h2⟩
  ·cases e
 ·cases t
  ·cases e
  ·cases e
   obtain⟨a,xs,rfl,h1,h2⟩:=Uj h
   exact⟨a,xs,rfl,h1,h2⟩
 ·cases e
def CU(t1 t2:Bool)(d:XO):SW:=λs k=>d s λvs s1=>match vs with | [v,w]=>(match Om t1 v,Om t2 w with|some ds,some es=>k (QG ds es,LY) s1|_,_=>False)|_=>False
def Ic(t:Bool)(d:XO):SW:=λs k=>d s λvs s1=>match vs with | [v]=>(match Om t v with|some ds=>k (Wy ds,LY) s1|_=>False)|_=>False
theorem GK{t1 t2:Bool}{t:TA}{d:XO}(h:RA K t d):RI K (Bl K t1 t2 t) (CU t1 t2 d):=by
 refine⟨λs Q Q' z y=>h.mo _ _ _ (λv s1 y=>?_) y,λG s σ H R r y=>h.ok G s σ H _ r (h.mo _ _ _ (λv s1 y G1 H1 x e1 r1 v1=>?_) y)⟩
 ·split at y
  ·split at y
   ·exact z _ _ y
   ·exact y.elim
  ·exact y.elim
 ·split at y
  ·split at y
   ·next ds es q1 q2=>
    obtain⟨u,w,rfl,v2,v3⟩:=v1.two
    obtain⟨a,xs,rfl,h1,h2⟩:=Oo v2 q1
    obtain⟨b,ys,rfl,h3,h4⟩:=Oo v3 q2
    exact⟨a,b,xs,ys,rfl,h1.sq r1.sub,h3.sq r1.sub,y G1 H1 _ e1 r1 (UR.zip h1 h3 h2 h4)⟩
   ·exact y.elim
  ·exact y.elim
theorem Rc{t1:Bool}{t:TA}{d:XO}(h:RA K t d):RI K (Hl K t1 t) (Ic t1 d):=by
 refine⟨λs Q Q' z y=>h.mo _ _ _ (λv s1 y=>?_) y,λG s σ H R r y=>h.ok G s σ H _ r (h.mo _ _ _ (λv s1 y G1 H1 x e1 r1 v1=>?_) y)⟩
 ·split at y
  ·split at y
   ·exact z _ _ y
   ·exact y.elim
  ·exact y.elim
 ·split at y
  ·split at y
   ·next ds q1=>
    obtain⟨u,rfl,v2⟩:=v1.one
    obtain⟨a,xs,rfl,h1,h2⟩:=Oo v2 q1
    exact⟨a,xs,rfl,h1.sq r1.sub,y G1 H1 _ e1 r1 (UR.enum h1 h2)⟩
   ·exact y.elim
  ·exact y.elim
def AN(i:Nat):T7:=λv s k=>k (s.set i v)
theorem Z8(i:Nat):RG K (WQ i) (AN i):=⟨λv s Q Q' h q=>h _ q,λG s σ H v x Q r q h=>h G _ H (Z7.refl G) (r.set q i)⟩
abbrev Mf:=List PyData->DS->(DS->Prop)->Prop
structure RGs(K:Frag)(g:Mc)(d:Mf):Prop where
 mo:∀v s (Q Q':DS->Prop),(∀s',Q s'->Q' s')->d v s Q->d v s Q'
 ok:∀G s σ H ds xs Q,Yu K G s σ H->ZT K G ds xs->d ds s (λs'=>∀G' σ' H',Z7 G G'->Yu K G' s' σ' H'->Q σ' H')->g xs σ H Q
def NT:Mf:=λds s k=>match ds with | []=>k s|_=>False
def Qr(g:T7)(r:Mf):Mf:=λds s k=>match ds with|d::t=>g (.d d) s (λs1=>r t s1 k) | []=>False
theorem WT:RGs K Ed NT:=by
 refine⟨λv s Q Q' h q=>?_,λG s σ H ds xs Q r D h=>?_⟩
 ·unfold NT at q |-;split at q
  ·exact h _ q
  ·exact q.elim
 ·unfold NT at h;split at h
  ·unfold ZT at D;exact⟨D,h G σ H (Z7.refl G) r⟩
  ·exact h.elim
theorem ZQ{t:TG}{u:Mc}{g:T7}{r:Mf}(h1:RG K t g)(h2:RGs K u r):RGs K (Na t u) (Qr g r):=by
 refine⟨λv s Q Q' h q=>?_,λG s σ H ds xs Q rl D h=>?_⟩
 ·unfold Qr at q |-;split at q
  ·exact h1.mo _ _ _ _ (λs1 q=>h2.mo _ _ _ _ h q) q
  ·exact q.elim
 ·unfold Qr at h;split at h
  ·unfold ZT at D
   obtain⟨x,t',rfl,D1,D2⟩:=D
   refine⟨x,t',rfl,h1.ok G s σ H (.d _) x _ rl D1 (h1.mo _ _ _ _ (λs1 q G1 σ1 H1 e1 r1=>?_) h)⟩
   exact h2.ok G1 s1 σ1 H1 _ t' _ r1 (D2.same e1) (h2.mo _ _ _ _ (λs2 q G2 σ2 H2 e2 r2=>q G2 σ2 H2 (e1.trans e2) r2) q)
  ·exact h.elim
def NU(n:Nat)(g:Mf):T7:=λv s k=>match v with | .d (.tuple ds)=>ds.length=n/\g ds s k|_=>False
theorem V8{n:Nat}{t:Mc}{g:Mf}(h:RGs K t g):RG K (He K n t) (NU n g):=by
 refine⟨λv s Q Q' z q=>?_,λG s σ H v x Q r q z=>?_⟩
 ·unfold NU at q |-;split at q
  ·exact⟨q.1,h.mo _ _ _ _ z q.2⟩
  ·exact q.elim
 ·unfold NU at z;split at z
  ·obtain⟨a,xs,rfl,h1,h2⟩:=Uj q
   exact⟨a,xs,rfl,r.sub.tup h1,by rw[<- h2.length];exact z.1,h.ok G s σ H _ xs Q r h2 z.2⟩
  ·exact z.elim
def QN(de:ZE):FG:=λacc s k=>de s λv s1=>match v with | .d x=>k (acc++[x]) s1|_=>False
theorem YJ{te:TE}{de:ZE}(h:RE K te de):RL K (S0 te) (QN de):=by
 refine⟨λacc s Q Q' z q=>h.mo _ _ _ (λv s1 q=>?_) q,λG s σ H acc ys Q r D hl q=>⟨by rw[<- D.length];exact hl,h.ok G s σ H _ r (h.mo _ _ _ (λv s1 q G1 H1 x e1 r1 v1=>?_) q)⟩⟩
 ·split at q
  ·exact z _ _ q
  ·exact q.elim
 ·split at q
  ·exact q G1 σ H1 _ e1 r1 ((D.same e1).snoc v1)
  ·exact q.elim
def ext:List (Option Val)->List (Option Val)->Prop
 | [],[]=>True
 | none::r,_::t=>ext r t
 | some v::r,some u::t=>v=u/\ext r t
 | _,_=>False
theorem PC:∀{e e':List (Option Val)}{i:Nat}{v:Val},ext e e'->e[i]? = some (some v)->e'[i]? = some (some v)
 | [],_,i,v,_,h=>by simp at h
 | none::r,[],i,v,h,_=>by simp[ext]at h
 | none::r,_::t,0,v,_,h=>by simp at h
 | none::r,_::t,i+1,v,h,q=>by
  simp only[tJ]at q |-
  exact PC (e:=r) h q
 | some u::r,[],i,v,h,_=>by simp[ext]at h
 | some u::r,none::t,i,v,h,_=>by simp[ext]at h
 | some u::r,some u'::t,0,v,h,q=>by
  simp only[tK]at q |-
  rw[<- h.1];exact q
 | some u::r,some u'::t,i+1,v,h,q=>by
  simp only[tJ]at q |-
  exact PC (e:=r) h.2 q
theorem PD:∀{e e':List (Option Val)},ext e e'->e.length=e'.length
 | [],[],_=>rfl
 | [],_::_,h=>by simp[ext]at h
 | none::r,[],h=>by simp[ext]at h
 | none::r,_::t,h=>by rw[uM,uM,PD (e:=r) h]
 | some _::r,[],h=>by simp[ext]at h
 | some _::r,none::t,h=>by simp[ext]at h
 | some _::r,some _::t,h=>by rw[uM,uM,PD (e:=r) h.2]
theorem Yu.ext{e:List (Option Val)}(r:Yu K G s σ H)(h:L2.ext e s.e):Yu K G ⟨e,s.w⟩ σ H:=
 ⟨r.sub,r.own,by rw[PD h];exact r.sl.1,λi v q=>r.sl.2 i v (PC h q)⟩
def Cz(src:List PyData×(OW->Prop))(e0:List (Option Val))(dg:T7)(dt:Ux)(dl:FG)(k:List PyData->DS->Prop)(I:Nat->List PyData->OW->Prop):Prop:=
 (∀i acc w,I i acc w->src.2 w/\(i<src.1.length->acc.length<sizeLine)) /\
 (∀(i:Nat) d acc w,src.1[i]? = some d->I i acc w->dg (.d d) ⟨e0,w⟩ λs2=>dt s2 λb s3=>if b=true then dl acc s3 (λacc' s'=>L2.ext e0 s'.e/\I (i+1) acc' s'.w) else L2.ext e0 s3.e/\I (i+1) acc s3.w) /\
 ∀acc w,I src.1.length acc w->k acc ⟨e0,w⟩
theorem HN{J:It}{g:TG}{tt:TT}{tb:TL}{dg:T7}{dt:Ux}{dl:FG}{ds:List PyData}{P:OW->Prop}{e0:List (Option Val)}{Q:LK}{k:List PyData->DS->Prop}{I:Nat->List PyData->OW->Prop}{G1:Hp}(hg:RG K g dg)(ht:RT K tt dt)(hl:RL K tb dl)(hJ:UR K J G1 P ds) 
  (hI:Cz (ds,P) e0 dg dt dl k I) (hQ:∀G s σ H acc ys,Z7 G1 G->Yu K G s σ H->ZT K G acc ys->k acc s->Q ys σ H) {w:OW}{σ:St}{H:Hp}{acc:List PyData}{ys:List V} (r:Yu K G1 ⟨e0,w⟩ σ H) (D:ZT K G1 acc ys) (h0:I 0 acc w) :
  ∃W:Nat->List V->Nat->St->Hp->Prop,(∃m,W 0 ys m σ H)/\Lm J g tt tb Q W:=by
 obtain⟨hI1,hI2,hI3⟩:=hI
 dsimp only at hI1 hI2 hI3
 refine⟨λi ys m σ H=>i+m=ds.length/\∃G w acc,Z7 G1 G/\Yu K G ⟨e0,w⟩ σ H/\ZT K G acc ys/\I i acc w,⟨ds.length,zero_add _,G1,w,acc,Z7.refl _,r,D,h0⟩,?_⟩
 rintro i ys m σ H ⟨hm,G,w,acc,e,r,D,hi⟩
 obtain⟨hp,hz⟩:=hI1 i acc w hi
 cases m with
 | zero=>
  have:i=ds.length:=by omega
  subst this
  exact .inl ⟨(hJ G _ σ H _ e hp r).2 (zK _),hQ G _ σ H acc ys e r D (hI3 acc w hi)⟩
 | succ m=>
  have hlt:i<ds.length:=by omega
  have hd:=M4 hlt
  obtain⟨go,yl⟩:=(hJ G _ σ H i e hp r).1 _ hd
  refine .inr ⟨go,λys' σ' H'=>∃G' w' acc',Z7 G1 G'/\Yu K G' ⟨e0,w'⟩ σ' H'/\ZT K G' acc' ys'/\I (i+1) acc' w',λys' σ' H' ⟨G',s',acc',q⟩=>⟨m,uQ m,by omega,G',s',acc',q⟩,λx H' hy=>?_⟩
  obtain⟨G',e',r',dx⟩:=yl x H' hy
  have hs:=hI2 i _ acc w hd hi
  refine hg.ok G' _ σ H' (.d _) x _ r' dx (hg.mo _ _ _ _ (λs2 q G2 σ2 H2 e2 r2=>?_) hs)
  refine ht.ok G2 s2 σ2 H2 _ r2 (ht.mo _ _ _ (λb s3 q G3 H3 e3 r3=>?_) q)
  have D3:=D.same ((e'.trans e2).trans e3)
  have E3:=((e.trans e').trans e2).trans e3
  cases b
  ·exact⟨G3,s3.w,acc,E3,r3.ext q.1,D3,q.2⟩
  ·exact hl.ok G3 s3 σ2 H3 acc ys _ r3 D3 (hz hlt) (hl.mo _ _ _ _ (λacc' s4 q G4 σ4 H4 ys4 e4 r4 D4=>⟨G4,s4.w,acc',E3.trans e4,r4.ext q.1,D4,q.2⟩) q)
def DI(di:SW)(dg:T7)(dt:Ux)(dl:FG):FG:=λacc s k=>di s λsrc s1=>∃I,I 0 acc s1.w/\Cz src s1.e dg dt dl k I
def Lv(o:Bool)(di:SW)(cap:List (Option Nat))(dg:T7)(dt:Ux)(dl:FG):ZE:=λs k=>di s λsrc s1=>∃I,I 0 [] s1.w/\Cz src (U8 cap s1.e) dg dt dl (λacc s'=>nl o acc ⟨s1.e,s'.w⟩ k) I
theorem YI(o:Bool){wi:TI}{cap:List (Option Nat)}{g:TG}{tt:TT}{tb:TL}{di:SW}{dg:T7}{dt:Ux}{dl:FG}(hi:RI K wi di)(hg:RG K g dg)(ht:RT K tt dt)(hl:RL K tb dl):RE K (Qq wi cap g tt tb) (Lv o di cap dg dt dl):=by
 refine⟨λs Q Q' z q=>hi.mo _ _ _ (λds s1 q=>?_) q,λG s σ H Q r q=>hi.ok G s σ H _ r (hi.mo _ _ _ (λds s1 q G1 H1 J e1 r1 hJ=>?_) q)⟩
 ·obtain⟨I,h0,h3,h1,h2⟩:=q
  exact⟨I,h0,h3,h1,λacc s h=>Pc z (h2 acc s h)⟩
 ·obtain⟨I,h0,hI⟩:=q
  refine HN (w:=s1.w) hg ht hl hJ hI (λG2 s2 σ2 H2 acc2 ys2 e2 r2 D2 k2=>?_) (r1.env (r1.sl.capt cap)) ZT.nil h0
  exact(r2.env (r1.sl.same e2):Yu K G2 ⟨s1.e,s2.w⟩ σ H2).nl D2 (Pc (λv s' z=>z.same (e1.trans e2)) k2)
theorem LW{src:List PyData×(OW->Prop)}{e0:List (Option Val)}{dg:T7}{dt:Ux}{dl:FG}{k:List PyData->DS->Prop}{w:OW}{α:Type}(xs:List α)(enc:α->PyData)(g:α->List PyData)(acc0:List PyData)(hsrc:src.1=xs.map enc)(hp:src.2 w) 
  (hl:acc0.length+(xs.flatMap g).length<sizeLine)
  (hs:∀x∈xs,∀acc:List PyData,acc.length+(g x).length<sizeLine->∀Q:List PyData->OW->Prop,Q (acc++g x) w->dg (.d (enc x)) ⟨e0,w⟩ λs2=>dt s2 λb s3=>if b=true then dl acc s3 (λacc' s'=>L2.ext e0 s'.e/\Q acc' s'.w) else L2.ext e0 s3.e/\Q acc s3.w)
  (hk:k (acc0++xs.flatMap g) ⟨e0,w⟩):∃I:Nat->List PyData->OW->Prop,I 0 acc0 w/\Cz src e0 dg dt dl k I:=by
 refine⟨λi acc w'=>acc=acc0++(xs.take i).flatMap g/\w'=w,⟨by simp,rfl⟩,?_,?_,?_⟩
 ·rintro i acc w' ⟨rfl,rfl⟩
  refine⟨hp,λhi=>?_⟩
  have hle:((xs.take i).flatMap g).length≤(xs.flatMap g).length:=by
   have:xs.flatMap g=(xs.take i).flatMap g++(xs.drop i).flatMap g:=by rw[<- tL,List.take_append_drop]
   rw[this,yH];omega
  rw[yH];omega
 ·rintro i d acc w' hd ⟨rfl,rfl⟩
  rw[hsrc,yF]at hd
  cases q:xs[i]? with
  | none=>rw[q]at hd;cases hd
  | some x=>
   rw[q]at hd;cases hd
   obtain⟨hi,hx⟩:=vS.mp q
   have ht:xs.take (i+1)=xs.take i++[x]:=by rw[take_add_one,q];rfl
   refine hs x (by rw[<- hx];exact xT hi) _ ?_ (λacc' w''=>acc'=acc0++(xs.take (i+1)).flatMap g/\w''=w') ⟨?_,rfl⟩
   ·have hle:((xs.take (i+1)).flatMap g).length≤(xs.flatMap g).length:=by
     have:xs.flatMap g=(xs.take (i+1)).flatMap g++(xs.drop (i+1)).flatMap g:=by rw[<- tL,List.take_append_drop]
     rw[this,yH];omega
    rw[ht,tL,yH]at hle
    simp only[List.flatMap_cons,List.flatMap_nil,uT]at hle
    rw[yH];omega
   ·rw[ht,tL,yV];simp
 ·rintro acc w' ⟨rfl,rfl⟩
  rw[hsrc,Wb,tG]
  exact hk
def Ik:Vh:=λE s=>E.nx s
def Iq(t u:Vh):Vh:=λE s=>t { E with nx:=u E } s
theorem Yd:RS K Fp Ik:=λG s σ H D E r p q=>p.nx s G σ H (Z7.refl G) r q
theorem ZD{t u:TS}{d e:Vh}(h:RS K t d)(q:RS K u e):RS K (Ds t u) (Iq d e):=by
 intro G s σ H D E r p z
 refine h G s σ H _ { E with nx:=e E } r ⟨λs' G' σ' H' e1 r1 z1=>?_,p.rt,p.bk,p.ct⟩ z
 exact q G' s' σ' H' D E r1 (p.same e1) z1
def JR:Vh:=λE s=>E.bk s
def DA:Vh:=λE s=>E.ct s
def Ib(d:ZE):Vh:=λE s=>d s λ_ s1=>E.nx s1
theorem Oh{t:TE}{d:ZE}(h:RE K t d):RS K (Fj t) (Ib d):=λG s σ H D E r p q=>
 h.ok G s σ H _ r (h.mo _ _ _ (λv s1 q G1 H1 x e1 r1 v1=>p.nx s1 G1 σ H1 e1 r1 q) q)
def CQ(d:ZE):Vh:=λE s=>d s E.rt
theorem YQ{t:TE}{d:ZE}(h:RE K t d):RS K (A9 t) (CQ d):=λG s σ H D E r p q=>
 h.ok G s σ H _ r (h.mo _ _ _ (λv s1 q G1 H1 x e1 r1 v1=>p.rt v s1 G1 σ H1 x e1 r1 v1 q) q)
def DJ:Vh:=λE s=>E.rt (.d .none) s
def Za7(c:Ux)(t u:Vh):Vh:=λE s=>c s λb s1=>if b=true then t E s1 else u E s1
theorem WB{c:TT}{t u:TS}{dc:Ux}{d e:Vh}(hc:RT K c dc)(h:RS K t d)(q:RS K u e):RS K (A6 c t u) (Za7 dc d e):=by
 intro G s σ H D E r p z
 refine hc.ok G s σ H _ r (hc.mo _ _ _ (λb s1 z G1 H1 e1 r1=>?_) z)
 cases b
 ·exact q G1 s1 σ H1 D E r1 (p.same e1) z
 ·exact h G1 s1 σ H1 D E r1 (p.same e1) z
def KC(d:ZE)(g:T7):Vh:=λE s=>d s λv s1=>g v s1 E.nx
theorem Ub{t:TE}{g:TG}{d:ZE}{dg:T7}(h:RE K t d)(hg:RG K g dg):RS K (NR t g) (KC d dg):=λG s σ H D E r p q=>
 h.ok G s σ H _ r (h.mo _ _ _ (λv s1 q G1 H1 x e1 r1 v1=>hg.ok G1 s1 σ H1 v x _ r1 v1 (hg.mo _ _ _ _ (λs2 q G2 σ2 H2 e2 r2=>p.nx s2 G2 σ2 H2 (e1.trans e2) r2 q) q)) q)
def FX(i j:Nat)(d:XO):Vh:=λE s=>d s λvs s1=>match vs with | [v,w]=>E.nx ((s1.set i v).set j w)|_=>False
theorem GU{i j:Nat}{t:TA}{d:XO}(h:RA K t d):RS K (A8 i j t) (FX i j d):=λG s σ H D E r p q=>
 h.ok G s σ H _ r (h.mo _ _ _ (λvs s1 q G1 H1 xs e1 r1 v1=>by
  split at q
  ·obtain⟨x,y,rfl,v2,v3⟩:=v1.two
   exact⟨x,y,rfl,p.nx _ G1 _ H1 e1 ((r1.set v2 i).set v3 j) q⟩
  ·exact q.elim) q)
theorem Zal{α:Type _}{l:List α}(h:l.length=0):l=[]:=List.eq_nil_of_length_eq_zero h
theorem Wj{α:Type _}{l:List α}(h:l.length=1):∃a0,l=[a0]:=by
 cases l with
 | nil=>cases h
 | cons a t=>have:=Zal (tM h);exact⟨a,by rw[this]⟩
theorem VW{α:Type _}{l:List α}(h:l.length=2):∃a0 a1,l=[a0,a1]:=by
 cases l with
 | nil=>cases h
 | cons a t=>obtain⟨b0,rfl⟩:=Wj (tM h);exact⟨a,b0,rfl⟩
theorem Nx{α:Type _}{l:List α}(h:l.length=3):∃a0 a1 a2,l=[a0,a1,a2]:=by
 cases l with
 | nil=>cases h
 | cons a t=>obtain⟨b0,b1,rfl⟩:=VW (tM h);exact⟨a,b0,b1,rfl⟩
theorem Zam{α:Type _}{l:List α}(h:l.length=4):∃a0 a1 a2 a3,l=[a0,a1,a2,a3]:=by
 cases l with
 | nil=>cases h
 | cons a t=>obtain⟨b0,b1,b2,rfl⟩:=Nx (tM h);exact⟨a,b0,b1,b2,rfl⟩
def RP(u:Vh)(E:WJ)(s:DS):Prop:=u E s
theorem Jf{u:Vh}{E:WJ}{s:DS}(h:u E s):RP u E s:=h
theorem Ih(c:Ux)(t u:Vh)(E:WJ)(s:DS):Za7 c t u E s=c s λb s1=>if b=true then RP t E s1 else RP u E s1:=rfl
theorem Ir(t u:Vh)(E:WJ)(s:DS):Iq t u E s=t { E with nx:=RP u E } s:=rfl
def Cf(f:DS->Prop)(s:DS):Prop:=f s
theorem Nw(f:DS->Prop)(e:List (Option Val))(w:OW):Cf f ⟨e,w⟩=f ⟨e,w⟩:=rfl
def goB(dg:T7)(v:Val)(db:Vh)(E:WJ)(s:DS):Prop:=dg v s (db E)
theorem Hi(dg:T7)(v:Val)(db:Vh)(E:WJ)(e:List (Option Val))(w:OW):goB dg v db E ⟨e,w⟩=dg v ⟨e,w⟩ (db E):=rfl
def goW(c:Ux)(db:Vh)(E F:WJ)(s:DS):Prop:=c s λb s1=>if b=true then db F s1 else E.nx s1
theorem Hj(c:Ux)(db:Vh)(E F:WJ)(e:List (Option Val))(w:OW):goW c db E F ⟨e,w⟩=c ⟨e,w⟩ λb s1=>if b=true then db F s1 else E.nx s1:=rfl
theorem Cc{α:Sort _}(a b:α):(if true=true then a else b)=a:=rfl
theorem Cb{α:Sort _}(a b:α):(if false=true then a else b)=b:=rfl
def CJ(di:SW)(dg:T7)(db:Vh):Vh:=λE s=>di s λsrc s1=>∃I:Nat->DS->Prop,I 0 s1/\(∀i s,I i s->src.2 s.w) /\
 (∀(i:Nat) d s,src.1[i]? = some d->I i s->goB dg (.d d) db { E with nx:=I (i+1),ct:=I (i+1),bk:=E.nx } s)/\∀s,I src.1.length s->Cf E.nx s
theorem Qh{wi:TI}{g:TG}{tb:TS}{di:SW}{dg:T7}{db:Vh}(hi:RI K wi di)(hg:RG K g dg)(hb:RS K tb db):RS K (A5 wi g tb) (CJ di dg db):=by
 intro G s σ H D E r p z
 refine hi.ok G s σ H _ r (hi.mo _ _ _ (λsrc s1 z G1 H1 J e1 r1 hJ=>?_) z)
 obtain⟨ds,P⟩:=src
 obtain⟨I,h0,h3,h1,h2⟩:=z
 dsimp only at hJ h3 h1 h2
 refine⟨λi m σ H=>i+m=ds.length/\∃G s,Z7 G1 G/\Yu K G s σ H/\I i s,⟨ds.length,zero_add _,G1,s1,Z7.refl _,r1,h0⟩,?_⟩
 rintro i m σ H ⟨hm,G,s,e,r,hI⟩
 cases m with
 | zero=>
  have:i=ds.length:=by omega
  subst this
  exact .inl ⟨(hJ G s σ H _ e (h3 _ _ hI) r).2 (zK _),p.nx s G σ H (e1.trans e) r (h2 s hI)⟩
 | succ m=>
  have hlt:i<ds.length:=by omega
  have hd:=M4 hlt
  obtain⟨go,yl⟩:=(hJ G s σ H i e (h3 _ _ hI) r).1 _ hd
  refine .inr ⟨go,λσ' H'=>∃G' s',Z7 G1 G'/\Yu K G' s' σ' H'/\I (i+1) s',λσ' H' ⟨G',s',q⟩=>⟨m,uQ m,by omega,G',s',q⟩,λx H' hy=>?_⟩
  obtain⟨G',e',r',dx⟩:=yl x H' hy
  refine hg.ok G' s σ H' (.d _) x _ r' dx (hg.mo _ _ _ _ (λs2 q G2 σ2 H2 e2 r2=>?_) (h1 i _ s hd hI))
  have E2:=(e.trans e').trans e2
  exact hb G2 s2 σ2 H2 _ { E with nx:=I (i+1),ct:=I (i+1),bk:=E.nx } r2 ⟨λs' G3 σ3 H3 e3 r3 z=>⟨G3,s',E2.trans e3,r3,z⟩,λv s' G3 σ3 H3 x e3=>p.rt v s' G3 σ3 H3 x ((e1.trans E2).trans e3),λs' G3 σ3 H3 e3=>p.nx s' G3 σ3 H3 ((e1.trans E2).trans e3),λs' G3 σ3 H3 e3 r3 z=>⟨G3,s',E2.trans e3,r3,z⟩⟩ q
def Iv(c:Ux)(db:Vh):Vh:=λE s=>∃I:Nat->DS->Prop,(∃m,I m s)/\∀m s,I m s->goW c db E { E with nx:=λs'=>∃m',m' < m/\I m' s',ct:=λs'=>∃m',m' < m/\I m' s',bk:=E.nx } s
abbrev Xb:=List Val->OW->(Val->OW->Prop)->Prop
def Wc(K:Frag)(f:Xb):Sp:=λvs H Q _=>∃(G:Hp) (w:OW) (as:List Val),Z7 G H/\YS K G w H/\VRs K G as vs/\f as w (λv w'=>∀G' H' x,Z7 G G'->Z7 G' H'->YS K G' w' H'->VR K G' v x->Q x H')
def JS(f:Xb)(da:XO):ZE:=λs k=>da s λvs s1=>f vs s1.w (λv w'=>k v ⟨s1.e,w'⟩)
def VJ(f:Xb):Prop:=∀vs w (k k':Val->OW->Prop),(∀v w',k v w'->k' v w')->f vs w k->f vs w k'
theorem Y9{f:Xb}{t:TA}{da:XO}(hm:VJ f)(ha:RA K t da):RE K (Kw (Wc K f) [] E0 t) (JS f da):=by
 refine⟨λs Q Q' z q=>ha.mo _ _ _ (λvs s1 q=>hm vs s1.w _ _ (λv w' q=>z _ _ q) q) q,λG s σ H Q r q=>ha.ok G s σ H _ r (ha.mo _ _ _ (λvs s1 q G1 H1 xs e1 r1 v1=>?_) q)⟩
 refine⟨G1,s1.w,vs,r1.sub,r1.own,by rw[uT];exact v1,hm vs s1.w _ _ (λv w' q G2 H2 x e2 s2 o2 x2=>?_) q⟩
 exact q G2 H2 x (e1.trans e2) ⟨s2,o2,r1.sl.same e2⟩ x2
theorem VRs.get{vs:List Val}{xs:List V}(h:VRs K G vs xs)(i:Nat):(∃v x,vs[i]? = some v/\xs[i]? = some x/\VR K G v x)\/(vs[i]? = none/\xs[i]? = none):=by
 induction h generalizing i with
 | nil=>exact .inr ⟨rfl,rfl⟩
 | cons a t ih=>
  cases i with
  | zero=>exact .inl ⟨_,_,rfl,rfl,a⟩
  | succ i=>simpa using ih i
theorem VRs.pick{na nk:Nat}{pick:List (Bool×Nat)}{vs us:List Val}{xs ys:List V}(h:VRs K G vs xs)(q:VRs K G us ys):VRs K G (Hf na nk pick vs us) (Hf na nk pick xs ys):=by
 unfold Hf
 rw[h.length,q.length]
 split
 ·induction pick with
  | nil=>exact .nil
  | cons p t ih=>
   rw[vL,vL]
   cases p.1 with
   | true=>
    rcases h.get p.2 with ⟨a,b,e1,e2,z⟩|⟨e1,e2⟩
    ·simp only[yJ,e1,e2];exact .cons z ih
    ·simp only[yJ,e1,e2];exact ih
   | false=>
    rcases q.get p.2 with ⟨a,b,e1,e2,z⟩|⟨e1,e2⟩
    ·simp only[vE,vF,e1,e2];exact .cons z ih
    ·simp only[vE,vF,e1,e2];exact ih
 ·exact .nil
def JV(f:Xb)(na nk:Nat)(pick:List (Bool×Nat))(da dk:XO):ZE:=λs k=>da s λvs s1=>dk s1 λus s2=>f (Hf na nk pick vs us) s2.w (λv w'=>k v ⟨s2.e,w'⟩)
def Yw(N:List Str)(as:List Val):List (Option Val):=as.map some++List.replicate (N.length-as.length) none
theorem Wa{N:List Str}{as:List Val}{vs:List V}(h:VRs K G as vs):SL K G (Yw N as) (YG N vs):=by
 refine⟨by simp[Yw,YG,h.length],λi v e=>?_⟩
 unfold Yw at e
 have hl:i<as.length:=by
  refine Decidable.byContradiction λhn=>?_
  rw[List.getElem?_append_right (by simpa using le_of_not_lt hn)]at e
  obtain⟨_,e2⟩:=vS.mp e
  rw[List.getElem_replicate]at e2
  cases e2
 rw[yE (by simpa using hl),yF]at e
 rcases h.get i with ⟨a,x,e1,e2,r⟩|⟨e1,e2⟩
 ·rw[e1]at e
  cases e
  refine⟨x,?_,r⟩
  unfold YG
  rw[yE (by rw[Wb,<- h.length];exact hl),yF,e2];rfl
 ·rw[e1]at e;cases e
def Own.up:Own->Own->Prop
 | .urn m',.urn m=>m'≤m
 | o',o=>o'=o
theorem Own.up.refl(o:Own):Own.up o o:=by cases o<;>simp[Own.up]
theorem Own.up.trans{a b c:Own}(h:Own.up a b)(q:Own.up b c):Own.up a c:=by
 cases a<;>cases b<;>cases c<;>simp_all [Own.up]
 omega
def OW.le(w w':OW):Prop:=∀a o,w a=some o->∃o',w' a=some o'/\Own.up o' o
theorem OW.le.refl(w:OW):w.le w:=λ_ o h=>⟨o,h,Own.up.refl o⟩
theorem OW.le.trans{a b c:OW}(h:a.le b)(q:b.le c):a.le c:=λx o e=>by
 obtain⟨o1,e1,u1⟩:=h x o e
 obtain⟨o2,e2,u2⟩:=q x o1 e1
 exact⟨o2,e2,u2.trans u1⟩
theorem OW.le.free{w w':OW}(h:w.le w'){p:Addr}(q:w' p=none):w p=none:=by
 cases e:w p with
 | none=>rfl
 | some o=>obtain⟨o',e1,_⟩:=h p o e;rw[e1]at q;cases q
theorem OW.le.put{w w':OW}(h:w.le w'){p:Addr}(q:w p=none)(o:Own):w.le (w'.put p o):=λa u e=>by
 have n:a≠p:=λz=>by rw[z,q]at e;cases e
 rw[OW.put_ne n];exact h a u e
theorem OW.le.new{w w':OW}(h:w.le w'){p:Addr}(q:w' p=none)(o:Own):w.le (w'.put p o):=h.put (h.free q) o
theorem OW.le.urn{w w':OW}{u:Addr}{m m':Nat}(h:(w.put u (.urn m)).le w')(le:m≤m'):(w.put u (.urn m')).le w':=λa o e=>by
 by_cases z:a=u
 ·subst z
  rw[OW.put_same]at e;cases e
  obtain⟨o1,e1,u1⟩:=h a _ OW.put_same
  refine⟨o1,e1,?_⟩
  cases o1<;>simp[Own.up]at u1 |-
  omega
 ·rw[OW.put_ne z]at e
  exact h a o (by rw[OW.put_ne z];exact e)
theorem OW.le.urn'{w w':OW}{u:Addr}{m m':Nat}(h:w.le w')(le:m≤m'):(w.put u (.urn m')).le (w'.put u (.urn m)):=λa o e=>by
 by_cases z:a=u
 ·subst z
  rw[OW.put_same]at e;cases e
  exact⟨_,OW.put_same,le⟩
 ·rw[OW.put_ne z]at e |-
  exact h a o e
def OW.del(w:OW)(a:Addr):OW:=λb=>if b=a then none else w b
theorem OW.del_ne{w:OW}{a b:Addr}(h:b≠a):w.del a b=w b:=by simp[OW.del,h]
theorem OW.le.del{w w':OW}(h:w.le w'){p:Addr}(q:w p=none):w.le (w'.del p):=λa u e=>by
 have n:a≠p:=λz=>by rw[z,q]at e;cases e
 rw[OW.del_ne n];exact h a u e
theorem WK.up{a:Addr}{o o':Own}(h:WK K G H a o')(u:Own.up o' o):WK K G H a o:=by
 cases o'<;>cases o<;>simp only[Own.up]at u<;>first|exact K3.mono h u|(cases u;exact h)|cases u
theorem YS.le{w w':OW}(h:YS K G w' H)(q:w.le w'):YS K G w H:=λa o e=>by
 obtain⟨o',e1,u⟩:=q a o e
 exact⟨(h a o' e1).1,(h a o' e1).2.up u⟩
theorem Dn.data{P:Program}{w:World}{mg:Str->Option Value}{base:Heap}{x:Str}{st:Stmt}{N ps:List Str}{k:Nat}{f:Xb}(U:∃a fd,Ws K x x st a fd/\mg x=some (.ref a))(S:Zv N ps (Zf st))(len:∀vs w k,f vs w k->vs.length=ps.length) 
  (hbody:∀(a:Addr) (cdv:Value) (A:Around) (outer:List Env) (s:Shared) (H:Hp) (E:XK),ZZ k (A.deeper (envOfC x (Zf st) s.heap.objs.size a cdv)) ->
   ∃t d,U6 (Xw UC P w K mg base N x (Zf st) a cdv A outer s H E).nox (ZR st) t/\RS K t d/\∀(as:List Val) (o:OW) (q:Val->OW->Prop),f as o q->d { nx:=λs=>∃w',OW.le w' s.w/\q (.d .none) w',rt:=λv s=>∃w',OW.le w' s.w/\q v w' } ⟨Yw N as,o⟩):Dn P w K mg base (k+1) x st ps (Wc K f):=by
 refine Dn.of U S (λvs H Q E h=>?_) (λa cdv A outer s H vs Q E hr h=>?_)
 ·obtain⟨G,o,as,_,_,h1,h2⟩:=h
  rw[<- h1.length];exact len _ _ _ h2
 ·obtain⟨G,o,as,h1,h2,h3,h4⟩:=h
  obtain⟨t,d,q1,q2,q3⟩:=hbody a cdv A outer s H E hr
  refine⟨t,q1,q2 G ⟨Yw N as,o⟩ (YG N vs) H _ { nx:=λs=>∃w',OW.le w' s.w/\_,rt:=λv s=>∃w',OW.le w' s.w/\_ } ⟨h1,h2,Wa h3⟩ ⟨λs' G' σ' H' e r z=>?_,λv s' G' σ' H' x e r v1 z=>?_,λ_ _ _ _ _ _ z=>False.elim z,λ_ _ _ _ _ _ z=>False.elim z⟩ (q3 as o _ h4)⟩
  ·obtain⟨w',l,z⟩:=z
   exact z G' H' .non e r.sub (r.own.le l) Vg
  ·obtain⟨w',l,z⟩:=z
   exact z G' H' x e r.sub (r.own.le l) v1
end
section
variable {X:Cx}{K:Frag}{G G' H H':Hp}{s:DS}{σ:St}
def TyW(K:Frag)(H:Hp)(x:V)(t:Value):Prop:=TyOf K H x t\/∃a ys,x=.ref a/\WH K H a ys/\t=.type "tuple"
theorem Vi:Y0 X (.builtin "isinstance") (λxs H Q=>∃x t c b,xs=[x,.ty c]/\TyW X.K H x t/\PySem.W.kitOne X.K t (.type c)=some b/\Q (.bl b) H):=by
 rintro pins s σ H xs us Q I r ⟨x,t,c,b,rfl,ty,e,q⟩
 rcases ty with ty|⟨a,ys,rfl,hs,rfl⟩
 ·exact JI pins s σ H _ us Q I r ⟨x,t,c,b,rfl,ty,e,q⟩
 ·obtain⟨u,w,rfl,rx,rc⟩:=N_ r
  cases (show w=Value.type c from rc)
  cases (show u=Value.ref a from rx)
  obtain⟨its,_,⟨o,h1,h2,_⟩,_⟩:=I.tuple hs
  exact uR kitx_tuple I.kIn ⟨o,h1,h2⟩ e (λz=>nomatch z) λtk=>⟨.bl b,H,I.tok _,rfl,q⟩
theorem F4(r:Yu K G s σ H){v:Val}{x:V}{d:PyData}(q:VR K G v x)(e:rdD s.w v=some d):TyW K H x (.type (UQ d)):=by
 unfold rdD at e
 split at e
 ·cases e
  cases d with
  | none=>rw[show x=.non from by unfold VR at q;exact DW.none_inv q];exact .inl .non
  | bool b=>rw[WW q];exact .inl (.bl b)
  | int i=>rw[Yj q];exact .inl (.int i)
  | str x=>rw[YR q];exact .inl (.str x)
  | list ds=>obtain⟨a,xs,rfl,h1,_⟩:=Ui q;exact .inl (.lst (r.sub _ _ h1))
  | tuple ds=>obtain⟨a,xs,rfl,h1,_⟩:=Uj q;exact .inr ⟨a,xs,rfl,r.sub.tup h1,rfl⟩
  | dict kvs=>
   unfold VR DW at q
   obtain⟨a,ks,rfl,h1,_⟩:=q
   exact .inl (.dT (r.sub _ _ h1))
 ·next a=>
  split at e
  ·next z=>
   cases e
   cases (show x=.ref a from q)
   obtain⟨_,xs,h1,_⟩:=r.own a _ z
   exact .inl (.lst h1)
  ·cases e
 ·cases e
theorem Qf:RC K (λxs H Q=>∃x t c b,xs=[x,.ty c]/\TyW K H x t/\PySem.W.kitOne K t (.type c)=some b/\Q (.bl b) H) (f2 IP):=by
 refine rc2 (λv w s Q Q' h q=>?_) (λG s σ H x y v w Q r v1 v2 h=>?_)
 ·unfold IP at q |-;split at q
  ·obtain⟨b,h1,h2⟩:=q;exact⟨b,h1,h _ _ h2⟩
  ·exact q.elim
 ·unfold IP at h;split at h
  ·next d c e=>
   obtain⟨b,h1,h2⟩:=h
   cases (show y=.ty c from v2)
   exact⟨x,_,c,b,rfl,F4 r v1 e,h1 K,h2.here r Xj⟩
  ·exact h.elim
theorem Dw(r:Yu K G s σ H){a:Addr}{ds:List PyData}(h:s.w a=some (.lst ds)):tyV K "list" (.ref a) H:=by
 obtain⟨_,xs,h1,_⟩:=r.own a _ h
 exact .inl ⟨rfl,xs,Xp.of h1⟩
def CI(d:ZE)(da:XO):ZE:=λs k=>d s λv s1=>match v with
 | .own a=>(∃ds,s1.w a=some (.lst ds))/\da s1 λvs s2=>match vs with
  | [.d y]=>∃ds,s2.w a=some (.lst ds)/\ds.length<sizeLine/\k (.d .none) (s2.put a (.lst (ds++[y])))
  | _=>False
 | _=>False
theorem GD{to:TE}{t:TA}{d:ZE}{da:XO}(h:RE K to d)(ha:RA K t da):RE K (tBM K "list" Kh to t) (CI d da):=by
 refine⟨λs Q Q' z q=>h.mo _ _ _ (λv s1 q=>?_) q,λG s σ H Q r q=>h.ok G s σ H _ r (h.mo _ _ _ (λv s1 q G1 H1 x e1 r1 v1=>?_) q)⟩
 ·split at q
  ·refine⟨q.1,ha.mo _ _ _ (λvs s2 q=>?_) q.2⟩
   split at q
   ·obtain⟨ds,h1,h2,h3⟩:=q;exact⟨ds,h1,h2,z _ _ h3⟩
   ·exact q.elim
  ·exact q.elim
 ·split at q
  ·next a=>
   cases (show x=.ref a from v1)
   obtain⟨⟨ds0,h0⟩,q⟩:=q
   refine⟨Dw r1 h0,ha.ok G1 s1 σ H1 _ r1 (ha.mo _ _ _ (λvs s2 q G2 H2 xs e2 r2 v2=>?_) q)⟩
   split at q
   ·next y=>
    obtain⟨u,rfl,vy⟩:=v2.one
    obtain⟨ds,h1,h2,h3⟩:=q
    obtain⟨_,ys,h4,h5⟩:=r2.own a _ h1
    refine⟨a,ys,u,rfl,rfl,h4,by rw[<- h5.length];exact h2,h3 G2 _ .non (e1.trans e2) (r2.chg h1 ?_) Vg⟩
    exact⟨ys++[u],Z9,h5.snoc vy⟩
   ·exact q.elim
  ·exact q.elim
def Za5(d:ZE)(da:XO):ZE:=λs k=>d s λv s1=>match v with
 | .own a=>(∃ds,s1.w a=some (.lst ds))/\da s1 λvs s2=>match vs with
  | [u]=>∃ds es,s2.w a=some (.lst ds)/\rdM s2.w u=some es/\ds.length+es.length≤sizeLine/\k (.d .none) (s2.put a (.lst (ds++es)))
  | _=>False
 | _=>False
def D9(f:Int->Int->Int)(i:Nat)(d:ZE):Vh:=λE s=>match s.e[i]? with
 | some (some (.d (.int a)))=>d s λv s1=>match v with | .d (.int b)=>E.nx (s1.set i (.d (.int (f a b))))|_=>False
 | _=>False
def Ig(i:Nat):ZE:=λs k=>match s.e[i]? with
 | some (some (.own a))=>∃ds,s.w a=some (.lst ds)/\k (.d (.list ds)) ⟨s.e.set i (some (.d (.list ds))),s.w.del a⟩
 | _=>False
theorem Q8{α:Type}{l:List α}{i:Nat}{x:α}(h:l[i]? = some x):l.set i x=l:=by
 obtain⟨hi,e⟩:=vS.mp h
 rw[<- e];exact List.set_getElem_self hi
theorem An(i:Nat):RE K (O1 i) (Ig i):=by
 refine⟨λs Q Q' h q=>?_,λG s σ H Q r h=>?_⟩
 ·unfold Ig at q |-;split at q
  ·obtain⟨ds,h1,h2⟩:=q;exact⟨ds,h1,h _ _ h2⟩
  ·exact q.elim
 ·unfold Ig at h;split at h
  ·next a z=>
   obtain⟨ds,h1,h2⟩:=h
   obtain⟨x,hx,vx⟩:=r.sl.2 i _ z
   cases (show x=.ref a from vx)
   obtain⟨g0,xs,h3,h4⟩:=r.own a _ h1
   have S:=YF g0 (.lst xs)
   have D:DW K (upd G a (.lst xs)) (.list ds) (.ref a):=DW.list Z9 (h4.same S)
   refine⟨_,hx,h2 (upd G a (.lst xs)) H (.ref a) S ⟨λb o q=>?_,λb o q=>?_,?_⟩ D⟩
   ·by_cases e:b=a
    ·subst e;rw[Z9]at q;cases q;exact h3
    ·rw[Zk e]at q;exact r.sub _ _ q
   ·have nb:b≠a:=λe=>by
     have q':(if b=a then none else s.w b)=some o:=q
     rw[zU e]at q';cases q'
    have q':s.w b=some o:=by
     have q':(if b=a then none else s.w b)=some o:=q
     rwa [wT nb]at q'
    exact⟨by rw[Zk nb];exact(r.own b o q').1,(r.own b o q').2.mono S rfl⟩
   ·have:=(r.sl.same S).set (v:=.d (.list ds)) (x:=.ref a) D i
    rwa [Q8 hx]at this
  ·exact h.elim
theorem YM{es:List Expr}{k:Nat}{t:Mc}{n:Nat}{pos:Pos}(h:X.K=K)(hc:X.calm=true)(hh:IPGs X es t)(hn:(assignEach es X.env).length=n:=by rfl)(hst:(assignEach es X.env).findIdx? (·.1)=none:=by rfl):IPG X (.Tuple es k pos) (He K n t):=h▸VT hc hh hn hst
theorem Ss(h:X.K=K)(hg:X.A.guards=some [])(hu:X.A.units+64<cLine):Y0 X (.builtin "repr") (λxs H Q=>∃a d,xs=[.ref a]/\DV K H d (.ref a)/\d.showable=true/\d.hasDict=false/\d.depth≤40/\d.shown.length≤sizeLine/\Q (.str d.shown) H):=h▸UE hg hu
def Zaf(t:Bool):Val->ZE:=λv s k=>match (if t then rdT v else rdL s.w v) with|some ds=>(match QF ds with|some ns=>ns≠[]/\∀m,m∈ns->(∀x∈ns,x≤m)->k (.d (.int m)) s|none=>False)|none=>False
def Zag(t:Bool):Val->ZE:=λv s k=>match (if t then rdT v else rdL s.w v) with|some ds=>(match QF ds with|some ns=>ns≠[]/\∀m,m∈ns->(∀x∈ns,m≤x)->k (.d (.int m)) s|none=>False)|none=>False
def DT:Val->ZE:=λv s k=>match v with | .d (.int i)=>k (.d (.int i)) s | .d (.bool b)=>k (.d (.int (if b then 1 else 0))) s|_=>False
def VD(P:List Val->PyData->Prop):Xb:=λvs w k=>∃r,P vs r/\k (.d r) w
theorem V_{P:List Val->PyData->Prop}:VJ (VD P):=λvs w k k' h ⟨r,p,q⟩=>⟨r,p,h _ _ q⟩
def Qt(c:Nat)(P:List Val->Prop)(R:List Val->PyData->Prop):Xb:=λvs w k=>match vs with
 | .own u::as=>∃m,w u=some (.urn m)/\(m+c≤1000000/\P as)/\∀r,R as r->k (.d r) (w.put u (.urn (m+c)))
 | _=>False
theorem NA{c:Nat}{P:List Val->Prop}{R:List Val->PyData->Prop}:VJ (Qt c P R):=λvs w k k' h q=>by
 unfold Qt at q |-;split at q
 ·obtain⟨m,h1,h2,h3⟩:=q;exact⟨m,h1,h2,λr hr=>h _ _ (h3 r hr)⟩
 ·exact q.elim
theorem X4{P:List Val->PyData->Prop}{n:Nat}(h:∀vs r,P vs r->vs.length=n):∀vs w k,VD P vs w k->vs.length=n:=λvs w k ⟨r,p,_⟩=>h vs r p
theorem Ri{c:Nat}{P:List Val->Prop}{R:List Val->PyData->Prop}{n:Nat}(h:∀vs,P vs->vs.length=n):∀vs w k,Qt c P R vs w k->vs.length=n+1:=λvs w k q=>by
 unfold Qt at q;split at q
 ·obtain⟨m,_,⟨_,p⟩,_⟩:=q;simp[h _ p]
 ·exact q.elim
def Ff(K:Frag):Sp:=λvs H Q _=>∃(a:Addr) (ns:List Int),vs=[.ref a]/\Xp K H a (ns.map V.int)/\ns.length≤63/\∀H',Q (.bl true) H'
theorem HF{P:Program}{w:World}{mg:Str->Option Value}{base:Heap}{st:Stmt}{N:List Str}{fa:Addr}{fd:FuncData}(F:Ws K "law" "law" st fa fd)(S:Zv N ["_law_script"] (Zf st)) 
  (hbody:∀(cdv:Value) (A:Around) (outer:List Env) (s:Shared) (H:Hp) (E:XK),ZZ 39 (A.deeper (envOfC "law" (Zf st) s.heap.objs.size fa cdv)) ->
   ∃t d,U6 (Xw UC P w K mg base N "law" (Zf st) fa cdv A outer s H E).nox (ZR st) t/\RS K t d/\∀ns:List Int,ns.length≤63->d { nx:=λ_=>False,rt:=λv _=>v=.d (.bool true) } ⟨Yw N [.scr ns],λ_=>none⟩):Xc P w K mg base UC 40 fa fd ["_law_script"] (Ff K):=by
 refine F.ok (k:=39) S (λvs H Q E h=>?_) (λcdv A outer s H vs Q E hr h=>?_)
 ·obtain⟨a,ns,rfl,_⟩:=h;rfl
 ·obtain⟨a,ns,rfl,hS,h63,q⟩:=h
  obtain⟨t,d,q1,q2,q3⟩:=hbody cdv A outer s H E hr
  refine⟨t,q1,q2 H ⟨Yw N [.scr ns],λ_=>none⟩ (YG N [.ref a]) H _ { nx:=λ_=>False,rt:=λv _=>v=.d (.bool true) } ⟨Z7.refl H,(λ_ _ z=>nomatch z),Wa (VRs.cons (v:=.scr ns) (show VR K H (.scr ns) (.ref a) from⟨a,rfl,hS⟩) .nil)⟩ ⟨λ_ _ _ _ _ _ z=>False.elim z,λv s' G' σ' H' x e r v1 z=>?_,λ_ _ _ _ _ _ z=>False.elim z,λ_ _ _ _ _ _ z=>False.elim z⟩ (q3 ns h63)⟩
  have z':v=.d (.bool true):=z
  subst z'
  rw[WW v1]
  exact q H'
def ON:Xb:=λvs w k=>match vs with
 | [.scr ns,.d (.int i)]=>(0≤i/\i≤100)/\∀r,w r=none->k (.own r) (w.put r (.urn 0))
 | _=>False
def TU:Xb:=λvs w k=>match vs with
 | [.own u,.d (.int wd)]=>∃m,w u=some (.urn m)/\(m≤1000000/\0<wd/\wd<1099511627776)/\∀d:Int,0≤d->d<wd->k (.d (.int d)) (w.put u (.urn (m+1)))
 | _=>False
theorem Ep:VJ ON:=λvs w k k' h q=>by
 unfold ON at q |-;split at q
 ·exact⟨q.1,λr hr=>h _ _ (q.2 r hr)⟩
 ·exact q.elim
theorem N8:VJ TU:=λvs w k k' h q=>by
 unfold TU at q |-;split at q
 ·obtain⟨m,h1,h2,h3⟩:=q;exact⟨m,h1,h2,λd a b=>h _ _ (h3 d a b)⟩
 ·exact q.elim
theorem Dx{vs:List V}{Q:VK}{E:XK}(h:Wc K ON vs H Q E):Cu K vs H Q E:=by
 obtain⟨G,w,as,h1,h2,h3,h4⟩:=h
 unfold ON at h4
 split at h4
 ·next ns i=>
  obtain⟨x,y,rfl,v1,v2⟩:=h3.two
  obtain⟨a,rfl,hs⟩:=v1
  refine⟨a,ns,i,by rw[Yj v2],h1.seq hs,h4.1.1,h4.1.2,λr H' s' hr U=>?_⟩
  have r0:Yu K G ⟨[],w⟩ [] H:=⟨h1,h2,⟨rfl,λi v e=>by simp at e⟩⟩
  have wr:w r=none:=r0.free hr
  refine h4.2 r wr G H' (.ref r) (Z7.refl G) (h1.trans s') (λb o q=>?_) rfl
  by_cases e:b=r
  ·subst e
   rw[OW.put_same]at q;cases q
   exact⟨h1.free hr,U⟩
  ·rw[OW.put_ne e]at q
   obtain⟨u,hu⟩:=(h2 b o q).2.there
   exact⟨(h2 b o q).1,(h2 b o q).2.mono (Z7.refl G) (by rw[s' _ _ hu,hu])⟩
 ·exact h4.elim
theorem IB{vs:List V}{Q:VK}{E:XK}(h:Wc K TU vs H Q E):Fe vs H Q E:=by
 obtain⟨G,w,as,h1,h2,h3,h4⟩:=h
 unfold TU at h4
 split at h4
 ·next u wd=>
  obtain⟨x,y,rfl,v1,v2⟩:=h3.two
  cases (show x=.ref u from v1)
  obtain⟨m,hm,⟨m1,m2,m3⟩,q⟩:=h4
  obtain⟨gu,U⟩:=h2 u _ hm
  refine⟨u,wd,m,by rw[Yj v2],U,m1,m2,m3,λd H' d0 d1 sb U'=>?_⟩
  refine q d d0 d1 G H' (.int d) (Z7.refl G) (λb o z=>?_) (λb o z=>?_) VA
  ·exact sb b o (λe=>by rw[e,gu]at z;cases z) (h1 _ _ z)
  ·by_cases e:b=u
   ·subst e
    rw[OW.put_same]at z;cases z
    exact⟨gu,U'⟩
   ·rw[OW.put_ne e]at z
    obtain⟨v,hv⟩:=(h2 b o z).2.there
    exact⟨(h2 b o z).1,(h2 b o z).2.mono (Z7.refl G) (by rw[sb b v e hv,hv])⟩
 ·exact h4.elim
theorem Dn.imp{P:Program}{w:World}{mg:Str->Option Value}{base:Heap}{k:Nat}{x:Str}{st:Stmt}{ps:List Str}{sp sp':Sp}(D:Dn P w K mg base k x st ps sp)(h:∀vs H Q E,sp' vs H Q E->sp vs H Q E):Dn P w K mg base k x st ps sp':=by
 obtain⟨f,fd,F,U,m⟩:=D.ex
 exact⟨f,fd,F.imp h,U,m⟩
theorem Dn.mono{P:Program}{w:World}{mg:Str->Option Value}{base:Heap}{j k:Nat}{x:Str}{st:Stmt}{ps:List Str}{sp:Sp}(D:Dn P w K mg base j x st ps sp)(h:j≤k):Dn P w K mg base k x st ps sp:=by
 obtain⟨f,fd,F,U,m⟩:=D.ex
 exact⟨f,fd,F.mono h,U,m⟩
end
def P4(kvs:List (List Int×PyData))(k:List Int):Option PyData:=(kvs.find? λp=>decide (p.1=k)).map (·.2)
def IA(kvs:List (List Int×PyData))(k:List Int)(v:PyData):List (List Int×PyData):=
 if(kvs.any λp=>decide (p.1=k))=true then kvs.map (λp=>if p.1=k then(p.1,v) else p) else kvs++[(k,v)]
section
variable {K:Frag}{G G' H H':Hp}{s:DS}{σ:St}
theorem PU{a b:List Int}:a.map (Sum.inl:Int->Xd)=b.map Sum.inl↔a=b:=
 ⟨λh=>tN (λ_ _ e=>Sum.inl.inj e) |>.mp h,λh=>by rw[h]⟩
theorem X1:∀{kvs:List (List Int×PyData)}{ks:List (List Xd×V)},XH K G (Th kvs) ks ->
  (kvs=[]/\ks=[])\/∃k d r x t,kvs=(k,d)::r/\ks=(k.map Sum.inl,x)::t/\DW K G d x/\XH K G (Th r) t
 | [],ks,h=>by
  unfold Th at h
  rw[yQ]at h
  unfold XH at h
  exact .inl ⟨rfl,h⟩
 | (k,d)::r,ks,h=>by
  unfold Th at h
  rw[uO]at h
  unfold XH at h
  obtain⟨ns,x,t,e1,e2,h1,h2⟩:=h
  have e:k=ns:=by
   unfold tI at e2
   have:=PyData.tuple.inj e2
   exact(tN (λ_ _ e=>PyData.int.inj e)).mp this
  subst e
  exact .inr ⟨k,d,r,x,t,rfl,e1,h1,h2⟩
theorem XH.cons'{k:List Int}{d:PyData}{r:List (List Int×PyData)}{x:V}{t:List (List Xd×V)}(h1:DW K G d x)(h2:XH K G (Th r) t):XH K G (Th ((k,d)::r)) ((k.map Sum.inl,x)::t):=by
 show XH K G ((tI k,d)::Th r) _
 unfold XH
 exact⟨k,x,t,rfl,rfl,h1,h2⟩
theorem XH.nil':XH K G (Th []) []:=by
 show XH K G [] []
 unfold XH;rfl
theorem XH.get:∀{kvs:List (List Int×PyData)}{ks:List (List Xd×V)}{k:List Int},XH K G (Th kvs) ks ->
  (P4 kvs k=none/\T4 ks (k.map Sum.inl)=none)\/∃d x,P4 kvs k=some d/\T4 ks (k.map Sum.inl)=some x/\DW K G d x
 | [],ks,k,h=>by
  rcases X1 h with ⟨_,rfl⟩|⟨_,_,_,_,_,e,_⟩
  ·exact .inl ⟨rfl,rfl⟩
  ·cases e
 | (k0,d)::r,ks,k,h=>by
  rcases X1 h with ⟨e,_⟩|⟨k1,d1,r1,x,t,e,rfl,h1,h2⟩
  ·cases e
  ·cases e
   by_cases c:k0=k
   ·subst c
    exact .inr ⟨d,x,by simp[P4],T6 rfl,h1⟩
   ·have c':¬(k0.map (Sum.inl:Int->Xd))=k.map Sum.inl:=λz=>c (PU.mp z)
    rw[T5 (p:=(k0.map Sum.inl,x)) c']
    have e:P4 ((k0,d)::r) k=P4 r k:=by simp[P4,c]
    rw[e]
    exact XH.get h2
theorem XH.any:∀{kvs:List (List Int×PyData)}{ks:List (List Xd×V)} (k:List Int),XH K G (Th kvs) ks->(kvs.any λp=>decide (p.1=k))=ks.any λp=>decide (p.1=k.map Sum.inl)
 | [],ks,k,h=>by
  rcases X1 h with ⟨_,rfl⟩|⟨_,_,_,_,_,e,_⟩
  ·rfl
  ·cases e
 | (k0,d)::r,ks,k,h=>by
  rcases X1 h with ⟨e,_⟩|⟨k1,d1,r1,x,t,e,rfl,h1,h2⟩
  ·cases e
  ·cases e
   rw[xZ,xZ,XH.any k h2]
   have:decide (k0=k)=decide ((k0.map (Sum.inl:Int->Xd))=k.map Sum.inl):=by
    by_cases c:k0=k
    ·subst c;simp
    ·rw[vH c,vH λz=>c (PU.mp z)]
   rw[this]
theorem XH.repl{k:List Int}{d:PyData}{x:V}(hd:DW K G d x):∀{kvs:List (List Int×PyData)}{ks:List (List Xd×V)},XH K G (Th kvs) ks ->
  XH K G (Th (kvs.map λp=>if p.1=k then(p.1,d) else p)) (ks.map λp=>if p.1=k.map Sum.inl then(p.1,x) else p)
 | [],ks,h=>by
  rcases X1 h with ⟨_,rfl⟩|⟨_,_,_,_,_,e,_⟩
  ·exact XH.nil'
  ·cases e
 | (k0,d0)::r,ks,h=>by
  rcases X1 h with ⟨e,_⟩|⟨k1,d1,r1,y,t,e,rfl,h1,h2⟩
  ·cases e
  ·cases e
   rw[uO,uO]
   by_cases c:k0=k
   ·subst c
    rw[zU rfl,zU rfl]
    exact XH.cons' hd (XH.repl hd h2)
   ·rw[wT c,wT λz=>c (PU.mp z)]
    exact XH.cons' h1 (XH.repl hd h2)
theorem XH.snoc{k:List Int}{d:PyData}{x:V}(hd:DW K G d x):∀{kvs:List (List Int×PyData)}{ks:List (List Xd×V)},XH K G (Th kvs) ks->XH K G (Th (kvs++[(k,d)])) (ks++[(k.map Sum.inl,x)])
 | [],ks,h=>by
  rcases X1 h with ⟨_,rfl⟩|⟨_,_,_,_,_,e,_⟩
  ·exact XH.cons' hd XH.nil'
  ·cases e
 | (k0,d0)::r,ks,h=>by
  rcases X1 h with ⟨e,_⟩|⟨k1,d1,r1,y,t,e,rfl,h1,h2⟩
  ·cases e
  ·cases e
   exact XH.cons' h1 (XH.snoc hd h2)
theorem XH.put{kvs:List (List Int×PyData)}{ks:List (List Xd×V)}{k:List Int}{d:PyData}{x:V}(h:XH K G (Th kvs) ks)(hd:DW K G d x):XH K G (Th (IA kvs k d)) (QA ks (k.map Sum.inl) x):=by
 unfold IA QA
 rw[h.any k]
 split
 ·exact h.repl hd
 ·exact h.snoc hd
theorem XH.len:∀{kvs:List (List Int×PyData)}{ks:List (List Xd×V)},XH K G (Th kvs) ks->kvs.length=ks.length
 | [],ks,h=>by
  rcases X1 h with ⟨_,rfl⟩|⟨_,_,_,_,_,e,_⟩
  ·rfl
  ·cases e
 | (k0,d)::r,ks,h=>by
  rcases X1 h with ⟨e,_⟩|⟨k1,d1,r1,x,t,e,rfl,h1,h2⟩
  ·cases e
  ·cases e
   rw[uM,uM,XH.len h2]
def Kz:List (PyData×PyData)->Option (List (List Int×PyData))
 | []=>some []
 | (.tuple ks,d)::r=>match QF ks,Kz r with|some ns,some t=>some ((ns,d)::t)|_,_=>none
 | _::_=>none
@[simp] theorem unK_kvK(kvs:List (List Int×PyData)):Kz (Th kvs)=some kvs:=by
 induction kvs with
 | nil=>rfl
 | cons p r ih=>
  show Kz ((tI p.1,p.2)::Th r)=_
  simp[Kz,tI,ih]
theorem F6:∀{l:List (PyData×PyData)}{kvs:List (List Int×PyData)},Kz l=some kvs->l=Th kvs
 | [],kvs,h=>by cases h;rfl
 | (.tuple ks,d)::r,kvs,h=>by
  simp only[Kz]at h
  split at h
  ·next ns t e1 e2=>
   cases h
   rw[F6 e2,F5 e1];rfl
  ·cases h
 | (.none,_)::_,_,h=>by simp[Kz]at h
 | (.bool _,_)::_,_,h=>by simp[Kz]at h
 | (.int _,_)::_,_,h=>by simp[Kz]at h
 | (.str _,_)::_,_,h=>by simp[Kz]at h
 | (.list _,_)::_,_,h=>by simp[Kz]at h
 | (.dict _,_)::_,_,h=>by simp[Kz]at h
def rdK(w:OW):Val->Option (List (List Int×PyData))
 | .d (.dict l)=>Kz l
 | .own a=>match w a with|some (.dct kvs)=>some kvs|_=>none
 | _=>none
theorem Yu.rdK(r:Yu K G s σ H){v:Val}{x:V}{kvs:List (List Int×PyData)}(q:VR K G v x)(h:L2.rdK s.w v=some kvs):∃a ks,x=.ref a/\H a=some (.dT ks)/\XH K G (Th kvs) ks:=by
 unfold L2.rdK at h
 split at h
 ·rw[F6 h]at q
  unfold VR DW at q
  obtain⟨a,ks,e,h1,h2⟩:=q
  exact⟨a,ks,e,r.sub _ _ h1,h2⟩
 ·next a=>
  cases (show x=.ref a from q)
  split at h
  ·next z=>
   cases h
   obtain⟨_,ks,h1,h2⟩:=r.own a _ z
   exact⟨a,ks,rfl,h1,h2⟩
  ·cases h
 ·cases h
def HB:Val->Option (List Int)
 | .d (.tuple (x::r))=>QF (x::r)
 | _=>none
@[simp] theorem keyD_tI(x:Int)(r:List Int):HB (.d (tI (x::r)))=some (x::r):=by
 show QF ((x::r).map .int)=_
 exact uIs_map _
def Pz(j:Val->Option (List Int))(da db:ZE):ZE:=λs k=>da s λv s1=>db s1 λu s2=>∃kvs ns x,rdK s2.w v=some kvs/\j u=some ns/\P4 kvs ns=some x/\k (.d x) s2
def DB(da db:ZE):ZE:=Pz HB da db
def JZ(j:Val->Option (List Int))(neg:Bool)(db da:ZE):ZE:=λs k=>db s λu s1=>da s1 λv s2=>∃kvs ns,rdK s2.w v=some kvs/\j u=some ns/\k (.d (.bool (if neg then !(P4 kvs ns).isSome else(P4 kvs ns).isSome))) s2
def DD(o:Bool):ZE:=λs k=>match o with
 | true=>∀p,s.w p=none->k (.own p) (s.put p (.dct []))
 | false=>k (.d (.dict [])) s
def P2(j:Val->Option (List Int))(da dk dv:ZE):Vh:=λE s=>dv s λv s1=>da s1 λu s2=>dk s2 λkk s3=>match u,v with
 | .own a,.d x=>∃kvs ns,s3.w a=some (.dct kvs)/\j kk=some ns/\kvs.length<sizeLine/\E.nx (s3.put a (.dct (IA kvs ns x)))
 | _,_=>False
def DF(da dk dv:ZE):Vh:=P2 HB da dk dv
def SX(j:Val->Option (List Int))(o:Bool)(di:SW)(cap:List (Option Nat))(dg:T7)(dt:Ux)(dk dv:ZE):ZE:=λs k=>di s λsrc s1=>∀p,s1.w p=none->∃I:Nat->OW->Prop,I 0 (s1.w.put p (.dct []))/\(∀i w,I i w->src.2 w) /\
 (∀(i:Nat) d w,src.1[i]? = some d->I i w->dg (.d d) ⟨U8 cap s1.e,w⟩ λs2=>dt s2 λb s3=>if b=true then dk s3 (λkk s4=>dv s4 λvv s5=>match vv with
  | .d x=>∃kvs ns,s5.w p=some (.dct kvs)/\j kk=some ns/\kvs.length<sizeLine/\L2.ext (U8 cap s1.e) s5.e/\I (i+1) (s5.w.put p (.dct (IA kvs ns x)))
  | _=>False) else L2.ext (U8 cap s1.e) s3.e/\I (i+1) s3.w) /\
 ∀w,I src.1.length w->∃kvs,w p=some (.dct kvs)/\(match o with|true=>k (.own p) ⟨s1.e,w⟩|false=>k (.d (.dict (Th kvs))) ⟨s1.e,w.del p⟩)
def JX(o:Bool)(di:SW)(cap:List (Option Nat))(dg:T7)(dt:Ux)(dk dv:ZE):ZE:=SX HB o di cap dg dt dk dv
end
section
variable {X:Cx}{K:Frag}{G G' H H':Hp}{s:DS}{σ:St}
def Tg(w:OW):Val->Option Bool
 | .d .none=>some true
 | .d _=>some false
 | .own _=>some false
 | _=>none
def IM(neg:Bool):Val->Val->ZE:=λv u s k=>match Tg s.w v,u with
 | some b,.d .none=>k (.d (.bool (if neg then !b else b))) s
 | _,_=>False
theorem Jb{v:Val}{x:V}{b:Bool}(h:VR K G v x)(e:Tg s.w v=some b):decide (x=.non)=b:=by
 unfold Tg at e
 split at e
 ·cases e
  rw[show x=.non from by unfold VR at h;exact DW.none_inv h];rfl
 ·next d hd=>
  cases e
  cases d with
  | none=>exact absurd rfl hd
  | bool b=>rw[WW h];rfl
  | int i=>rw[Yj h];rfl
  | str i=>rw[YR h];rfl
  | list ds=>obtain⟨a,_,rfl,_⟩:=Ui h;rfl
  | tuple ds=>obtain⟨a,_,rfl,_⟩:=Uj h;rfl
  | dict l=>unfold VR DW at h;obtain⟨a,_,rfl,_⟩:=h;rfl
 ·cases e
  rw[show x=.ref _ from h];rfl
 ·cases e
theorem Og:RO K (λx y H Q=>y=.non/\Q (.bl (!decide (x=.non))) H) (IM true):=by
 refine⟨λv w s Q Q' h q=>?_,λG s σ H x y v w Q r v1 v2 h=>?_⟩
 ·unfold IM at q |-;split at q
  ·exact h _ _ q
  ·exact q.elim
 ·unfold IM at h;split at h
  ·next b e=>
   refine⟨by unfold VR at v2;exact DW.none_inv v2,?_⟩
   rw[Jb v1 e];exact h.here r Xj
  ·exact h.elim
def DR:Val->Val->ZE:=λv w s k=>match rdT v,w with
 | some ds,.d (.int i)=>(ds≠[]/\1≤i/\i<2 ^ 63/\ds.length*i.toNat≤sizeLine)/\k (.d (.tuple (Zbd i.toNat ds))) s
 | _,_=>False
def Hd(o:Bool):Val->ZE:=λv s k=>match rdL s.w v with
 | some ds=>(match QF ds with|some ns=>ns.length<64/\∀ns':List Int,ns'.Perm ns->ns'.Pairwise (·≤·)->nl o (ns'.map .int) s k|none=>False)
 | none=>False
def Ia(o:Bool)(dk dv:ZE):ZE:=λs k=>∀p,s.w p=none->dk (s.put p (.dct [])) λkk s1=>dv s1 λvv s2=>match vv with
 | .d x=>∃ns,HB kk=some ns/\s2.w p=some (.dct [])/\(match o with|true=>k (.own p) (s2.put p (.dct [(ns,x)]))|false=>k (.d (.dict (Th [(ns,x)]))) ⟨s2.e,s2.w.del p⟩)
 | _=>False
def Za6(d:ZE)(da:XO):ZE:=λs k=>d s λv s1=>(rdL s1.w v).isSome=true/\da s1 λvs s2=>match vs with
 | [u]=>(match rdL s2.w v,rdD s2.w u with
  | some ds,some x=>(x.hasDict=false/\PyData.hasDictAll ds=false/\x.canLay0=true/\PyData.canLayAll0 ds=true/\x.depth≤30)/\∃j,ds.findIdx? (λz=>PyData.eqv z x)=some j/\k (.d (.int (j:Nat))) s2
  | _,_=>False)
 | _=>False
def DG(i:Nat):ZE:=λs k=>match s.e[i]? with
 | some (some (.own a))=>∃kvs,s.w a=some (.dct kvs)/\k (.d (.dict (Th kvs))) ⟨s.e.set i (some (.d (.dict (Th kvs)))),s.w.del a⟩
 | _=>False
def JT(f:Xb)(na nk:Nat)(pick:List (Nat×Nat))(da dk:XO):ZE:=λs k=>da s λvs s1=>dk s1 λus s2=>f (M5 (.d (.tuple [])) na nk pick vs us) s2.w (λv w'=>k v ⟨s2.e,w'⟩)
theorem AU.data{P:Program}{w:World}{mg:Str->Option Value}{base:Heap}{x:Str}{st:Stmt}{N ps:List Str}{k:Nat}{f:Xb}{em:Addr}(U:∃a fd,O7 K x st a fd em/\mg x=some (.ref a))(S:Zv N ps (Zf st))(len:∀vs w k,f vs w k->vs.length=ps.length) 
  (hbody:∀(a:Addr) (cdv:Value) (A:Around) (outer:List Env) (s:Shared) (H:Hp) (E:XK),ZZ k (A.deeper (envOfC x (Zf st) s.heap.objs.size a cdv)) ->
   ∃t d,U6 (Xw UC P w K mg base N x (Zf st) a cdv A outer s H E).nox (ZR st) t/\RS K t d/\∀(as:List Val) (o:OW) (q:Val->OW->Prop),f as o q->d { nx:=λs=>∃w',OW.le w' s.w/\q (.d .none) w',rt:=λv s=>∃w',OW.le w' s.w/\q v w' } ⟨Yw N as,o⟩):AU P w K mg base (k+1) x st ps (Wc K f) em:=by
 refine AU.of U S (λvs H Q E h=>?_) (λa cdv A outer s H vs Q E hr h=>?_)
 ·obtain⟨G,o,as,_,_,h1,h2⟩:=h
  rw[<- h1.length];exact len _ _ _ h2
 ·obtain⟨G,o,as,h1,h2,h3,h4⟩:=h
  obtain⟨t,d,q1,q2,q3⟩:=hbody a cdv A outer s H E hr
  refine⟨t,q1,q2 G ⟨Yw N as,o⟩ (YG N vs) H _ { nx:=λs=>∃w',OW.le w' s.w/\_,rt:=λv s=>∃w',OW.le w' s.w/\_ } ⟨h1,h2,Wa h3⟩ ⟨λs' G' σ' H' e r z=>?_,λv s' G' σ' H' x e r v1 z=>?_,λ_ _ _ _ _ _ z=>False.elim z,λ_ _ _ _ _ _ z=>False.elim z⟩ (q3 as o _ h4)⟩
  ·obtain⟨w',l,z⟩:=z
   exact z G' H' .non e r.sub (r.own.le l) Vg
  ·obtain⟨w',l,z⟩:=z
   exact z G' H' x e r.sub (r.own.le l) v1
def CN:Vh:=λ_ _=>False
theorem NK:RS K Lb CN:=λ_ _ _ _ _ _ _ _ q=>q.elim
theorem RH{st:Stmt}:IPS X st Lb:=by rw[Zx];exact Gy
end
section
variable {src:List PyData×(OW->Prop)}{e0:List (Option Val)}{dg:T7}{dt:Ux}{de:ZE}{k:List PyData->DS->Prop}{w:OW}{α:Type}
theorem Y8(xs:List α)(enc f:α->PyData)(acc0:List PyData)(hsrc:src.1=xs.map enc)(hp:src.2 w)(hl:acc0.length+xs.length<sizeLine) 
  (hs:∀x∈xs,∀Q:PyData->OW->Prop,Q (f x) w->dg (.d (enc x)) ⟨e0,w⟩ λs2=>de s2 λv s1=>match v with | .d y=>ext e0 s1.e/\Q y s1.w|_=>False)
  (hk:k (acc0++xs.map f) ⟨e0,w⟩):∃I:Nat->List PyData->OW->Prop,I 0 acc0 w/\Cz src e0 dg Iw (QN de) k I:=by
 refine LW xs enc (λx=>[f x]) acc0 hsrc hp (by rw[<- List.map_eq_flatMap,Wb];exact hl) (λx hx acc _ Q hQ=>?_) (by rw[<- List.map_eq_flatMap];exact hk)
 exact hs x hx (λy w=>Q (acc++[y]) w) hQ
theorem UL(xs:List α)(enc f:α->PyData)(c:α->Bool)(acc0:List PyData)(hsrc:src.1=xs.map enc)(hp:src.2 w)(hl:acc0.length+xs.length<sizeLine) 
  (hs:∀x∈xs,∀Q:Option PyData->OW->Prop,Q (if c x=true then some (f x) else none) w->dg (.d (enc x)) ⟨e0,w⟩ λs2=>dt s2 λb s3=>if b=true then de s3 (λv s1=>match v with | .d y=>ext e0 s1.e/\Q (some y) s1.w|_=>False) else ext e0 s3.e/\Q none s3.w)
  (hk:k (acc0++(xs.filter c).map f) ⟨e0,w⟩):∃I:Nat->List PyData->OW->Prop,I 0 acc0 w/\Cz src e0 dg dt (QN de) k I:=by
 have e:∀l:List α,(l.flatMap λx=>if c x=true then [f x] else [])=(l.filter c).map f:=by
  intro l
  induction l with
  | nil=>rfl
  | cons x r ih=>
   rw[List.flatMap_cons,ih]
   cases h:c x
   ·simp[tD,h]
   ·simp[tD,h]
 refine LW xs enc (λx=>if c x=true then [f x] else []) acc0 hsrc hp ?_ (λx hx acc _ Q hQ=>?_) (by rw[e];exact hk)
 ·rw[e,Wb]
  have:=List.length_filter_le c xs
  omega
 ·refine hs x hx (λy w=>Q (match y with|some z=>acc++[z]|none=>acc) w) ?_
  cases h:c x
  ·simp only[h]at hQ
   simpa using hQ
  ·simp only[h]at hQ
   simpa using hQ
end
theorem Ad{w:OW}{a:Addr}{o:Own}(h:w a=some o):w.put a o=w:=by
 funext b;unfold OW.put;split
 ·next z=>rw[z,h]
 ·rfl
theorem WN{o:OW}{u:Addr}{m:Nat}{wd:Int}{k:Val->OW->Prop}(h1:m≤1000000)(h2:0<wd)(h3:wd<1099511627776)(h:∀d:Int,0≤d->d<wd->k (.d (.int d)) (o.put u (.urn (m+1)))):TU [.own u,.d (.int wd)] (o.put u (.urn m)) k:=
 ⟨m,OW.put_same,⟨h1,h2,h3⟩,λd a b=>by rw[OW.put_put];exact h d a b⟩
theorem T3{c:Nat}{P:List Val->Prop}{R:List Val->PyData->Prop}{o:OW}{u:Addr}{m:Nat}{as:List Val}{k:Val->OW->Prop}(h1:m+c≤1000000)(h2:P as)(h:∀r,R as r->k (.d r) (o.put u (.urn (m+c)))):Qt c P R (.own u::as) (o.put u (.urn m)) k:=
 ⟨m,OW.put_same,⟨h1,h2⟩,λr hr=>by rw[OW.put_put];exact h r hr⟩
theorem HH{src:List PyData×(OW->Prop)}{e0:List (Option Val)}{dg:T7}{de:ZE}{k:List PyData->DS->Prop}{o:OW}{u:Addr}{m0:Nat}{α β:Type}(xs:List α)(enc:α->PyData)(f:β->PyData)(P:α->β->Prop)(c:Nat)(hsrc:src.1=xs.map enc)(hp:∀w,src.2 w)(hl:xs.length<sizeLine) 
  (hs:∀x∈xs,∀m,m+c≤m0+xs.length*c->∀Q:PyData->OW->Prop,(∀y m',P x y->m'≤m+c->Q (f y) (o.put u (.urn m')))->dg (.d (enc x)) ⟨e0,o.put u (.urn m)⟩ λs2=>de s2 λv s1=>match v with | .d y=>ext e0 s1.e/\Q y s1.w|_=>False)
  (hk:∀(ys:List β) (m':Nat),ys.length=xs.length->(∀p∈xs.zip ys,P p.1 p.2)->m'≤m0+xs.length*c->k (ys.map f) ⟨e0,o.put u (.urn m')⟩) :
  ∃I:Nat->List PyData->OW->Prop,I 0 [] (o.put u (.urn m0))/\Cz src e0 dg Iw (QN de) k I:=by
 refine⟨λi acc w=>∃(ys:List β) (m':Nat),acc=ys.map f/\ys.length=i/\i≤xs.length/\(∀p∈xs.zip ys,P p.1 p.2)/\m'≤m0+i*c/\w=o.put u (.urn m'),⟨[],m0,rfl,rfl,zL _,by simp,by simp,rfl⟩,?_,?_,?_⟩
 ·rintro i acc w ⟨ys,m',rfl,hi,hle,_,_,rfl⟩
  exact⟨hp _,λ_=>by rw[Wb,hi];exact zH hle hl⟩
 ·rintro i d acc w hd ⟨ys,m',rfl,hi,hle,hP,hm,rfl⟩
  rw[hsrc,yF]at hd
  cases q:xs[i]? with
  | none=>rw[q]at hd;cases hd
  | some x=>
   rw[q]at hd;cases hd
   obtain⟨hlt,hx⟩:=vS.mp q
   have hmul:(i+1)*c≤xs.length*c:=Nat.mul_le_mul_right _ hlt
   have hmul':(i+1)*c=i*c+c:=by rw[Nat.add_mul,Nat.one_mul]
   refine hs x (by rw[<- hx];exact xT hlt) m' (by omega) (λy w=>∃(zs:List β) (m2:Nat),ys.map f++[y]=zs.map f/\zs.length=i+1/\i+1≤xs.length/\(∀p∈xs.zip zs,P p.1 p.2)/\m2≤m0+(i+1)*c/\w=o.put u (.urn m2)) λy m2 hy hm2=>⟨ys++[y],m2,by rw[tO];rfl,by rw[yH,hi];rfl,hlt,λp hp=>?_,by omega,rfl⟩
   have ez:xs.zip (ys++[y])=xs.zip ys++[(x,y)]:=by
    have e1:xs=xs.take i++x::xs.drop (i+1):=by rw[<- hx];simp
    have hti:(xs.take i).length=ys.length:=by rw[yC,hi];omega
    conv=>lhs;rw[e1]
    rw[List.zip_append hti]
    have e2:xs.zip ys=(xs.take i).zip ys:=by
     conv=>lhs;rw[e1,<- uT ys]
     rw[List.zip_append hti];simp
    rw[e2];simp
   rw[ez]at hp
   rcases vQ.mp hp with z|z
   ·exact hP p z
   ·have:p=(x,y):=by simpa using z
    rw[this];exact hy
 ·rintro acc w ⟨ys,m',rfl,hi,_,hP,hm,rfl⟩
  rw[hsrc,Wb]at hi hm
  exact hk ys m' hi hP hm
theorem F8{α β:Type}(xs:List α)(ys:List β)(f:α->PyData)(g:β->PyData):QG (xs.map f) (ys.map g)=(xs.zip ys).map λp=>.tuple [f p.1,g p.2]:=by
 unfold QG
 rw[List.zip_map,tP];rfl
theorem KG{α:Type}(xs:List α)(f:α->PyData):Wy (xs.map f)=(xs.zipIdx).map λp=>.tuple [.int (p.2:Nat),f p.1]:=by
 unfold Wy
 rw[List.mapIdx_eq_zipIdx_map,List.zipIdx_map,tP];rfl
theorem T2{α:Type}(xs:List α)(f:α->Bool):Le (xs.map λx=>.bool (f x))=some (xs.map f):=by
 have:=uBs_map (xs.map f)
 rw[tP]at this
 exact this
theorem Ys{n:Nat}(h:n≤100000):n<sizeLine:=zH h (by decide)
def Rp(D W:Nat)(d:PyData):Prop:=d.canLay0=true/\d.hasDict=false/\d.intsShort 101=true/\d.showable=true/\d.depth≤D/\d.weight≤W
def Vv(D W:Nat)(ds:List PyData):Prop:=PyData.canLayAll0 ds=true/\PyData.hasDictAll ds=false/\PyData.intsShortAll 101 ds=true/\PyData.showableAll ds=true/\PyData.depthAll ds≤D/\PyData.weightAll ds≤W
theorem Vv.nil{D W:Nat}:Vv D W []:=by simp[Vv,PyData.canLayAll0,PyData.depthAll,PyData.hasDictAll,PyData.intsShortAll,PyData.showableAll,PyData.weightAll]
theorem Vv.cons{D a b W:Nat}{d:PyData}{ds:List PyData}(h:Rp D a d)(q:Vv D b ds)(hW:a+1+b≤W):Vv D W (d::ds):=by
 obtain⟨h1,h2,h3,h4,h5,h6⟩:=h
 obtain⟨q1,q2,q3,q4,q5,q6⟩:=q
 refine⟨by rw[PyData.canLayAll0,h1,q1];rfl,by rw[PyData.hasDictAll,h2,q2];rfl,by rw[PyData.intsShortAll,h3,q3];rfl,by rw[PyData.showableAll,h4,q4];rfl,by rw[PyData.depthAll];omega,by rw[PyData.weightAll];omega⟩
theorem Vv.map{D W:Nat}{α:Type}{f:α->PyData}:∀l:List α,(∀x∈l,Rp D W (f x))->Vv D ((W+1)*l.length) (l.map f)
 | [],_=>Vv.nil
 | x::l,h=>by
  refine Vv.cons (h x (vM ..)) (Vv.map l λy hy=>h y (vN _ hy)) ?_
  rw[uM,Nat.mul_add,Nat.mul_one];omega
theorem Vv.mono{D W D' W':Nat}{ds:List PyData}(h:Vv D W ds)(hD:D≤D')(hW:W≤W'):Vv D' W' ds:=by
 obtain⟨q1,q2,q3,q4,q5,q6⟩:=h
 exact⟨q1,q2,q3,q4,by omega,by omega⟩
theorem Rp.mono{D W D' W':Nat}{d:PyData}(h:Rp D W d)(hD:D≤D')(hW:W≤W'):Rp D' W' d:=by
 obtain⟨q1,q2,q3,q4,q5,q6⟩:=h
 exact⟨q1,q2,q3,q4,by omega,by omega⟩
theorem Rp.tup{D W:Nat}{ds:List PyData}(h:Vv D W ds):Rp (D+1) W (.tuple ds):=by
 obtain⟨q1,q2,q3,q4,q5,q6⟩:=h
 exact⟨by rw[PyData.canLay0];exact q1,by rw[PyData.hasDict];exact q2,by rw[PyData.intsShort];exact q3,by rw[PyData.showable];exact q4,by rw[PyData.depth];omega,by rw[PyData.weight];exact q6⟩
theorem Rp.lst{D W:Nat}{ds:List PyData}(h:Vv D W ds):Rp (D+1) W (.list ds):=by
 obtain⟨q1,q2,q3,q4,q5,q6⟩:=h
 exact⟨by rw[PyData.canLay0];exact q1,by rw[PyData.hasDict];exact q2,by rw[PyData.intsShort];exact q3,by rw[PyData.showable];exact q4,by rw[PyData.depth];omega,by rw[PyData.weight];exact q6⟩
theorem Rp.int{n:Int}(h:n.natAbs<2 ^ 100):Rp 0 100 (.int n):=by
 have h1:=S_ (w:=100) (by decide) h
 exact⟨by rw[PyData.canLay0],by rw[PyData.hasDict],Jy (w:=100) (by decide) (by decide) h,by rw[PyData.showable];simp;omega,by rw[PyData.depth];omega,Lh (by decide) h⟩
theorem Rp.str{s:Str}(h:PyData.strOk s=true):Rp 0 s.cps.size (.str s):=⟨by rw[PyData.canLay0];exact h,by rw[PyData.hasDict],by rw[PyData.intsShort],by rw[PyData.showable],by rw[PyData.depth];omega,by rw[PyData.weight];exact zK _⟩
theorem Rp.tI{ns:List Int}(h:∀x∈ns,x.natAbs<2 ^ 100):Rp 1 (101*ns.length) (tI ns):=Rp.tup (Vv.map ns λx hx=>Rp.int (h x hx))
theorem Rp.ok{D W:Nat}{d:PyData}(h:Rp D W d)(hD:D≤40)(hW:W≤100000):okR d:=by
 obtain⟨q1,q2,q3,q4,q5,q6⟩:=h
 exact⟨q4,q2,by omega,Fd q1 q3 (by omega)⟩
section
variable {X:Cx}{a b c:Expr}{pos:Pos}{ta tb tc:TE}
theorem RB{op op':CmpOp}{r r':R2}(ho:WX X (compareOp op) r)(ho':WX X (compareOp op') r')(ha:IPE X a ta)(hb:IPE X b tb)(hc:IPE X c tc) 
  (hm:lastMarks [op,op'] [b,c]=false:=by with_unfolding_all rfl):IPE X (.Compare a [op,op'] [b,c] pos) (Qp r r' ta tb tc):=by
 simp only[Zr]at *
 exact Gj ho ho' ha hb hc hm
theorem MA{op op':CmpOp}{r r':R2}(ho:WX X (compareOp op) r)(ho':WX X (compareOp op') r')(ha:IPE X a ta)(hb:IPE X b tb)(hc:IPE X c tc) 
  (hm:lastMarks [op,op'] [b,c]=false:=by with_unfolding_all rfl):IPT X (.Compare a [op,op'] [b,c] pos) (NS (Qp r r' ta tb tc)):=by
 simp only[Zr,Z0]at *
 exact G5 ho ho' ha hb hc hm
end
section
variable {K:Frag}
def Mu(f g:Val->Val->ZE)(da db dc:ZE):ZE:=λs k=>da s λv s1=>db s1 λw s2=>f v w s2 λu s3=>match u with
 | .d (.bool c)=>if c=true then dc s3 λw' s4=>g w w' s4 k else k (.d (.bool false)) s3
 | _=>False
theorem Qg{r r':R2}{f g:Val->Val->ZE}{ta tb tc:TE}{da db dc:ZE}(hf:RO K r f)(hg:RO K r' g)(ha:RE K ta da)(hb:RE K tb db)(hc:RE K tc dc):RE K (Qp r r' ta tb tc) (Mu f g da db dc):=by
 refine⟨λs Q Q' h q=>ha.mo _ _ _ (λv s1 q1=>hb.mo _ _ _ (λw s2 q2=>hf.mo v w _ _ _ (λu s3 q3=>?_) q2) q1) q,λG s σ H Q r h=>?_⟩
 ·split at q3
  ·split at q3
   ·next c=>exact(zU c).symm▸hc.mo _ _ _ (λw' s4 q4=>hg.mo _ _ _ _ _ h q4) q3
   ·next c=>exact(wT c).symm▸h _ _ q3
  ·exact q3.elim
 refine ha.ok G s σ H _ r (ha.mo _ _ _ (λv s1 q G1 H1 x e1 r1 v1=>?_) h)
 refine hb.ok G1 s1 σ H1 _ r1 (hb.mo _ _ _ (λw s2 q2 G2 H2 y e2 r2 v2=>?_) q)
 refine hf.ok G2 s2 σ H2 x y v w _ r2 (v1.same e2) v2 (hf.mo v w _ _ _ (λu s3 q3 G3 H3 z e3 r3 v3=>?_) q2)
 split at q3
 ·next k=>
  refine⟨k,WW v3,?_⟩
  split at q3
  ·next c=>
   rw[zU c]
   exact hc.ok G3 s3 σ H3 _ r3 (hc.mo _ _ _ (λw' s4 q4 G4 H4 y' e4 r4 v4=>hg.ok G4 s4 σ H4 y y' w w' Q r4 ((v2.same e3).same e4) v4 (hg.mo _ _ _ _ _ (λu s5 q5=>q5.same (((e1.trans e2).trans e3).trans e4)) q4)) q3)
  ·next c=>
   rw[wT c]
   exact q3 G3 H3 (.bl false) ((e1.trans e2).trans e3) r3 Xj
 ·exact q3.elim
end
section
variable {K:Frag}
def DU:Val->ZE:=λv s k=>match rdK s.w v with|some kvs=>k (.d (.int kvs.length)) s|none=>False
end
variable {K:Frag}
theorem Kp{i j:Nat}{t:TA}{d:XO}(h:RA K t d):RS K (NR (Dt t) (He K 2 (Na (WQ i) (Na (WQ j) Ed)))) (FX i j d):=λG s σ H D E r p q=>
 h.ok G s σ H _ r (h.mo _ _ _ (λvs s1 q G1 H1 xs e1 r1 v1=>by
  split at q
  ·obtain⟨x,y,rfl,v2,v3⟩:=v1.two
   refine⟨show 2≤sizeLine by decide,λpp hpp=>?_⟩
   have r2:=r1.new hpp (.tup [x,y])
   have e2:Z7 G1 (upd G1 pp (.tup [x,y])):=YF (r1.sub.free hpp) _
   exact⟨pp,[x,y],rfl,WH.of Z9,rfl,x,[y],rfl,y,[],rfl,rfl,p.nx _ _ _ _ (e1.trans e2) ((r2.set (v2.same e2) i).set (v3.same e2) j) q⟩
  ·exact q.elim) q)
end L2
namespace L2
open PySem PySem.Spec PyProof.Rows
end L2
namespace L2
open PySem PySem.W PySem.W.X PySem.Spec PyProof.Rows
theorem Bd(P:Params):absHeap (Lr P) 11 Lq=boot_heap P:=by kernel_rfl
theorem Ef(P:Params):((boot_heap P).isNs mainGlobals,(boot_heap P).objs.size,(boot_heap P).nsMap mainGlobals "__annotations__")=(true,11,some (.ref 6)):=by kernel_rfl
def OZ(h:Heap)(ev:Bool:=false):Frag:=if ev=true then OQ ((List.range h.objs.size).filterMap λa=>(h.get? a).map λo=>(a,o)) else B3 ((List.range h.objs.size).filterMap λa=>(h.get? a).map λo=>(a,o))
variable {ev:Bool}
theorem PH{h:Heap}{a:Addr}:∀l:List Nat,((l.filterMap λa=>(h.get? a).map λo=>(a,o)):List (Addr×Obj)).lookup a=if a∈l then h.get? a else none
 | []=>rfl
 | b::l=>by
  rw[vL]
  by_cases e:a=b
  ·subst e
   cases q:h.get? a with
   | none=>
    simp only[q,tQ,vP,true_or,yJ]
    rw[PH l,q]
    split<;>rfl
   | some o=>simp[List.lookup]
  ·have hb:(a == b)=false:=vI.mpr e
   cases q:h.get? b with
   | none=>simp only[tQ];rw[PH l];simp[e]
   | some o=>simp only[xA,List.lookup,hb];rw[PH l];simp[e]
theorem YW{h:Heap}{a:Addr}:(OZ h ev).lookup a=h.get? a:=by
 have key:((List.range h.objs.size).filterMap λa=>(h.get? a).map λo=>(a,o):List (Addr×Obj)).lookup a=h.get? a:=by
  rw[PH]
  simp only[mem_range]
  split
  ·rfl
  ·rename_i n
   cases q:h.get? a with
   | none=>rfl
   | some o=>exact absurd (wM q) n
 unfold OZ
 cases ev
 ·rw[wT wU,Jm,key]
 ·rw[zU rfl,R5,key]
theorem Ba{h:Heap}{a:Addr}{o:Obj}(e:h.get? a=some o):CT (OZ h true):=by
 unfold OZ
 rw[zU rfl]
 refine IF λz=>?_
 have:=YW (h:=h) (a:=a) (ev:=true)
 unfold OZ at this
 rw[zU rfl,R5,z,e]at this
 cases this
theorem Bb(h:Heap):(OZ h ev).In h:=λa o e=>by rwa [YW]at e
theorem IZ{h:Heap}{cd:Value}{x:Str}(c:h.CodeRec cd x):codeIn (OZ h ev) cd x=true:=by
 obtain⟨c,o,vs,t,rfl,hc,hd,hv⟩:=c
 obtain⟨oc,od,dd,os⟩:=o
 cases hd
 unfold codeIn
 simp only[YW,hc]
 obtain⟨l⟩:=vs
 match l,hv with
 | a::b::l,hv=>
  have:b=.str x t:=by simpa using hv
  subst this
  simp
theorem I_{h:Heap}{a:Addr}{oc:Value}{od:Option Addr}{fd:FuncData}{sl:Array (Option Value)}(e:h.get? a=some ⟨oc,od,.func fd,sl⟩):keepIn (OZ h ev) (.ref a)=true:=by
 unfold keepIn
 simp only[YW,e]
def CV(s:Stmt):Pos:=match s with
 | .FunctionDef _ _ _ _ _ _ _ _ _ p=>p
 | _=>⟨0,0,0,0⟩
def Vc(x:Str)(s:Stmt):DefRec:=⟨x,Y7 s,ZR s,Zf s,CV s⟩
section
variable {q:Program}{loose:List Str}{XP:(Str->Option Value)->Heap->Prop}{w:World}{s₀:Shared}{mg mb:Str->Option Value}{h:Heap}
theorem XF(G:Ground q loose [] XP w s₀ mg mb h){L:List DefRec}(hL:recsOf q=L)(i:Nat){x:Str}{st:Stmt}(hi:L[i]? = some (Vc x st)):∃f fd,Ws (OZ h ev) x x st f fd/\mg x=some (.ref f):=by
 subst hL
 obtain⟨a,⟨oc,od,dd,sl⟩,pm,cd,doc,h1,h2,h3,h4⟩:=G.T.fn _ (yG hi)
 cases h3
 exact⟨a,_,PM (st:=st) (kV:=.none) (doc:=doc) (pm:=pm) (cdv:=cd) (by rw[YW];exact h2) (IZ h4) (I_ h2),h1⟩
theorem Yv(G:Ground q loose [] XP w s₀ mg mb h){B:List Str}(hB:B.all (λx=>!(startupNames.contains x||(looseW q loose).contains x||((recsOf q).map (·.name)).contains x||((litsOf q).map (·.1)).contains x||((clssOf q (looseW q loose)).map (·.name)).contains x))=true) 
  (i:Nat) {x:Str} (hi:B[i]? = some x):mg x=none:=by
 have e:=xC.mp hB x (yG hi)
 simp only[Bool.not_eq_true',Bool.or_eq_false_iff]at e
 obtain⟨⟨⟨⟨e1,e2⟩,e3⟩,e4⟩,e5⟩:=e
 have no:∀{l:List Str},l.contains x=false->x ∉ l:=λe m=>by rw[List.contains_iff_mem.mpr m]at e;cases e
 exact G.T.free x (no e1) (no e2) (no e3) (no e4) (no e5)
end
end L2
namespace L2
variable {ev:Bool}
open PySem PySem.W PySem.W.X PySem.Spec PyProof.Rows
section
variable {α:Type}
theorem MD{p q:Program}{loose:List Str}{Yf:Shared->α}{Ya:World->α}{N:Nat}(e:opening p=plainProg p.main.scope.names)(hN:Nat.ble 600 N=true)(f:∀s,fenceModules? p s=some s) 
  (run:∀w os,Ka p q loose Yf N w os=LM q loose (Ya w)):LeftO p q loose (λ_=>true) Yf Ya N:=λw=>by
 obtain⟨⟨h,gs,d,k,os⟩,e1,e2⟩:=zQ.mp (boot_open e hN f w)
 obtain⟨rfl,rfl,rfl,rfl⟩:h=boot_heap w.params/\gs=Array.mk []/\d=boot_drawn/\k=boot_toks:=by simpa using e2
 obtain⟨z1,z2,z3⟩:_/\_/\_:=by simpa only[tR]using Ef w.params
 obtain⟨s,r1,r2⟩:=zQ.mp (run w os)
 obtain⟨r2,l3⟩:=zS r2
 obtain⟨l1,l2⟩:=zS r2
 have r:=Ky r1
 have eb:SharedT.abs ⟨Lr w.params,11,Lq,Array.mk [],boot_drawn,boot_toks,os⟩=⟨boot_heap w.params,Array.mk [],boot_drawn,boot_toks,os⟩:=by
  show Shared.mk (absHeap _ _ _) _ _ _ _=_
  rw[Bd]
 rw[eb]at r
 have t:topFrom treeTable p w N ⟨boot_heap w.params,Array.mk [],boot_drawn,boot_toks,os⟩=some s.abs:=by
  unfold topFrom
  dsimp only
  rw[z1,z2,z3,r]
  show(match staticsOk (importedModules p.main.body) (boot_heap w.params) s.abs.heap&&namesBound p s.abs.heap&&gensDone s.abs&&laidKept (boot_heap w.params) s.abs.heap with|true=>_|false=>_)=_
  rw[l1]
 unfold openEnds
 rw[e1]
 show(topFrom treeTable p w N _).map _=_
 rw[t]
 exact zR some (zT l2 l3)
theorem Zbo{l:OpenLaw}{n k:Nat}{q:Program}{loose:List Str}{XP:(Str->Option Value)->Heap->Prop}{Yf:Shared->α}{Ya:World->α}{d:DefRec}{CX:Md}{sp:Frag->Sp}{x:Str} 
  (hn:l.most=some n) (hn2:n≤sizeLine) (hdf:d.params.defaults=[]) (hr:ZZ k callerA)
  (F:∀(w:World) (s₀:Shared) (mg mb:Str->Option Value) (fa:Addr) (h:Heap),Ground q loose [] XP w s₀ mg mb h->(∃s:Shared,Yf s=Ya w/\∀b o,s.heap.get? b=some o->h.get? b=some o)->mg d.name=some (.ref fa) ->
   ∃fd:FuncData,(∀(s:Shared) (u:Value),BindsTo s fd ⟨[u],[]⟩ [(x,u)])/\∀base:Heap,Xc l.prog w (OZ h ev) mg base CX k fa fd [x] (sp (OZ h ev)))
  (hsp:∀(K:Frag) (H:Hp) (a:Addr) (ns:List Int),ns.length≤n->C4 H->Xp K H a (ns.map V.int)->sp K [.ref a] H (λv _=>v=.bl true) λ_ _ _=>False)
  (hCX:∀(H:Hp) (s:Shared) (e:Value) (s':Shared),CX [] H s (λ_ _ _=>False) e s'->False) :
  WalkX q loose XP Yf Ya l.row.toRowW d [] (λf vs=>PySem.call f vs):=by
 intro w s₀ s₁ mg mb G y a o pm cd doc dV kV ho hd hcd hD hmg hg args vals as' L hpre hlay hrd hwl hlo
 have W:WalkO q loose XP (λw h=>∃s:Shared,Yf s=Ya w/\∀b o,s.heap.get? b=some o->h.get? b=some o) l.row.toRowW d [] (λf vs=>PySem.call f vs):=by
  refine Att.attach_call hn hdf λw s₀ s₁ mg mb fa o pm cd doc a vs ns G Y ho hd hcd hmg hobj hints hlen hg=>?_
  obtain⟨fd,hb,hF⟩:=F w s₀ mg mb fa _ G Y hmg
  exact HE (Bb _) G.T.g G.T.b G.T.builtins G.T.nolimit hg hobj hints (zF hlen hn2) hr (λbase _ _=>hF base) hb (λH hO hS=>hsp _ H a ns hlen hO hS) λH e s'=>hCX H s₁ e s'
 exact W w s₀ s₁ mg mb G ⟨s₀,y,L.keeps⟩ a o pm cd doc dV kV ho hd hcd hD hmg hg args vals as' hpre hlay hrd hwl hlo
end
theorem UN{h h':Heap}{a:Addr}{x:Str}{v:Value}(k:∀b o,h.get? b=some o->h'.get? b=some o)(e:h.nsMap a x=some v):h'.nsMap a x=some v:=by
 unfold Heap.nsMap at e |-
 cases q:h.get? a with
 | none=>rw[q]at e;cases e
 | some o=>rw[q]at e;rw[k _ _ q];exact e
end L2
set_option maxHeartbeats 400000
namespace EX
open PySem PySem.W PySem.Spec PyProof.Rows
section
variable {prog:Program}{w:World}{A:Around}{E:Value->Shared->Prop}{s:Shared}{K:Frag}{x C:Addr}{ox:Obj}{od:Option Obj}{name:Str}{expr:Bool}
theorem LH(self:Value):bindSpecial (.builtin "BaseException.__getattribute__") self=pure (.builtin "BaseException.__getattribute__",[self]):=by kernel_rfl
theorem Ng:plainId "BaseException.__getattribute__" = true:=by decide +kernel
theorem LI:builtinKind "BaseException.__getattribute__" = some .slot:=by decide +kernel
theorem Nh:splitId "BaseException.__getattribute__" = some ("BaseException","__getattribute__"):=by decide +kernel
structure ExGet(K:Frag)(C:Addr):Prop where
 ga:findIn K (.ref C) "__getattribute__" = some (some (.builtin "BaseException.__getattribute__"))
 gt:findIn K (.ref C) "__getattr__" = some none
 mro:mroIn K C (.type "BaseException")=some true
theorem Hg{tk:Tok}{v:Value}{R:Result->Shared->Prop}(X:K.In s.heap)(I:InstAt s.heap x ox C od)(G:ExGet K C)(hf:findObj K C od name=some (.value v))(h:R (.ok (.ret v)) s):
  codeAny (model prog w) A (.call (.builtin "BaseException.__getattribute__") ⟨[.ref x,.str name tk],[]⟩) R s:=by
 have L0:=I.type (M:=model prog w)
 have L1:=looks_find (M:=model prog w) X I hf
 have L2:Looks (model prog w) s.heap (isInstance (.ref x) (.type "BaseException")) true:=L0.andThen (looks_mroIn X G.mro)
 refine tS Ng PySem.F.entry_bexc_ga (@check_slot (model prog w) _ _ s "BaseException.__getattribute__" "BaseException" "__getattribute__" (.ref x) [.str name tk] [] _ LI Nh L2 (PySem.F.args_bexc_ga (.ref x) (.str name tk)) ?_)
 unfold Builtin.«object.__getattribute__»
 refine zW (wI (a:=(Value.ref x,[Value.str name tk])) (by rfl) ?_)
 dsimp only
 refine zW (wI (a:=name) (by rfl) ?_)
 refine zW (L0.here (zW (L1.here ?_)))
 dsimp only
 exact zX h
theorem Bc{tk:Tok}{fill:Bool}{v:Value}{Q:Value->Shared->Prop}(X:K.In s.heap)(I:InstAt s.heap x ox C od)(G:ExGet K C)(hf:findObj K C od name=some (.value v))(hh:handedIn v=true)(h:Q v s):
  wpAny (model prog w) A (getAttrBy (.ref x) (.str name tk) fill expr) Q E s:=by
 have L0:=I.type (M:=model prog w)
 have L1:=tT (M:=model prog w) X G.ga
 have L2:=tT (M:=model prog w) X G.gt
 have hx2:(Value.builtin "BaseException.__getattribute__" == Value.builtin "object.__getattribute__")=false:=by decide +kernel
 unfold getAttrBy
 refine zY (zW (L0.here (zW (L1.here ?_))))
 show wpAny _ _ (if(onTheHeap (Value.ref C)&&Value.builtin "BaseException.__getattribute__" == Value.builtin "object.__getattribute__")=true then _ else _) _ _ _
 rw[hx2,tU,wT wU]
 unfold getAttrByItsOwn
 refine zW (L2.here (zW (wP (zY ?_))))
 unfold callGetattribute
 rw[wT (show ¬(expr&&onTheHeap (Value.builtin "BaseException.__getattribute__"))=true from by cases expr<;>exact wU)]
 unfold boundAndCalled
 rw[LH]
 refine zW (zX (uU (Hg X I G hf ?_)))
 show wpAny _ _ (handedOut v) _ _ _
 rw[handedOut_of hh]
 exact zX h
theorem exc_get{v:Value}{Q:Value->Shared->Prop}(X:K.In s.heap)(I:InstAt s.heap x ox C od)(G:ExGet K C)(hf:findObj K C od name=some (.value v))(hh:handedIn v=true)(h:Q v { s with toks:=s.toks+1 }):
  wpAny (model prog w) A (getAttr (.ref x) name expr) Q E s:=by
 unfold getAttr
 obtain⟨hh',g,d,t,os⟩:=s
 exact zW (wpAny_mkText (Bc (s:=⟨hh',g,d,t+1,os⟩) X I G hf hh h))
theorem find_own{o:Obj}{v:Value}(hd:hasDictIn K C=true)(hn:findIn K (.ref C) name=some none)(hl:lookIn name o=some (some v)):findObj K C (some o) name=some (.value v):=by
 obtain⟨cd,hc,hh⟩:=any_some hd
 unfold findObj
 rw[hc,tF,hn,tF]
 simp only[tF,PySem.W.ownOf,hh,yJ,hl]
structure ExCls(K:Frag)(C:Addr):Prop extends ExGet K C where
 hd:hasDictIn K C=true
 ha:findIn K (.ref C) "__class__" = some (some (.builtin "object.__class__"))
 hn:specialIn K (.builtin "object.__class__") "__get__" = some (some (.builtin "getset_descriptor.__get__"))
 ht:takesIn K (.builtin "object.__class__")=some true
 ho:mroIn K C (.type "object")=some true
theorem JK{tk:Tok}{o:Obj}{R:Result->Shared->Prop}(X:K.In s.heap)(I:InstAt s.heap x ox C (some o))(G:ExCls K C)(h:R (.ok (.ret (.ref C))) s):
  codeAny (model prog w) A (.call (.builtin "BaseException.__getattribute__") ⟨[.ref x,.str "__class__" tk],[]⟩) R s:=by
 have hf:findObj K C (some o) "__class__" = some (.bind (.builtin "getset_descriptor.__get__") (.builtin "object.__class__")):=findObj_data (by obtain⟨cd,hc,_⟩:=any_some G.hd;rw[hc];rfl) G.ha G.hn G.ht
 have L0:=I.type (M:=model prog w)
 have L1:=looks_find (M:=model prog w) X I hf
 have L2:Looks (model prog w) s.heap (isInstance (.ref x) (.type "BaseException")) true:=L0.andThen (looks_mroIn X G.mro)
 refine tS Ng PySem.F.entry_bexc_ga (@check_slot (model prog w) _ _ s "BaseException.__getattribute__" "BaseException" "__getattribute__" (.ref x) [.str "__class__" tk] [] _ LI Nh L2 (PySem.F.args_bexc_ga (.ref x) (.str "__class__" tk)) ?_)
 unfold Builtin.«object.__getattribute__»
 refine zW (wI (a:=(Value.ref x,[Value.str "__class__" tk])) (by rfl) ?_)
 dsimp only
 refine zW (wI (a:=("__class__" : Str)) (by rfl) ?_)
 refine zW (L0.here (zW (L1.here ?_)))
 dsimp only
 exact zW (zY (uU (class_get X I G.ho (zX h))))
theorem KJ{o:Obj}{Q:Option Value->Shared->Prop}(X:K.In s.heap)(I:InstAt s.heap x ox C (some o))(G:ExCls K C)(h:Q (some (.ref C)) { s with toks:=s.toks+1 }):wpAny (model prog w) A (getAttr? (.ref x) "__class__") Q E s:=by
 obtain⟨hh',g,d,t,os⟩:=s
 have L0:=I.type (M:=model prog w)
 have L1:=tT (M:=model prog w) X G.ga
 have L2:=tT (M:=model prog w) X G.gt
 have hx2:(Value.builtin "BaseException.__getattribute__" == Value.builtin "object.__getattribute__")=false:=by decide +kernel
 unfold getAttr? getAttrBy? getAttrBy
 refine zW (wpAny_mkText (zW (wP (zY (zW (L0.at (zW (L1.at ?_))))))))
 show wpAny _ _ (if(onTheHeap (Value.ref C)&&Value.builtin "BaseException.__getattribute__" == Value.builtin "object.__getattribute__")=true then _ else _) _ _ _
 rw[hx2,tU,wT wU]
 unfold getAttrByItsOwn
 refine zW (L2.at (zW (wP (zY ?_))))
 unfold callGetattribute
 rw[wT (show ¬(false&&onTheHeap (Value.builtin "BaseException.__getattribute__"))=true from wU)]
 unfold boundAndCalled
 rw[LH]
 exact zW (zX (uU (JK (s:=⟨hh',g,d,t+1,os⟩) X I G (zX (zX h)))))
theorem HD{o:Obj}(G:ExCls K C):KitX K (.ref x) (.ref C) (λh=>InstAt h x ox C (some o)) where
 ty:=λ_ _ _ I=>I.type
 it:=λ_ _ X _=>by
  obtain⟨cdD,hcD,_⟩:=any_some G.hd
  unfold clsIn at hcD
  split at hcD
  ·rename_i c' d' cd' sl' ho
   intro A' Q' E' s' k q
   unfold isType loadHead
   exact zW (wpAny_loadPart (k _ _ (X _ _ ho)) (zX q))
  ·cases hcD
 ne:=λh tp dd its n sl X htp=>by
  obtain⟨cdD,hcD,_⟩:=any_some G.hd
  refine eq_false_iff.mpr λq=>?_
  have e:C=tp:=Value.ref.inj (uL.mp q)
  subst e
  unfold clsIn at hcD
  split at hcD
  ·rename_i c' d' cd' sl' ho
   have z:=(X _ _ ho).symm.trans htp
   cases z
  ·cases hcD
 ca:=λX I k=>KJ X I G k
theorem exc_isi{o:Obj}{c:Value}{b:Bool}{Q:Value->Shared->Prop}(X:K.In s.heap)(I:InstAt s.heap x ox C (some o))(G:ExCls K C)(e:kitOne K (.ref C) c=some b)(h:∀tk,Q (.bool b) { s with toks:=tk }):
  wpAny (model prog w) A (call (.builtin "isinstance") [.ref x,c]) Q E s:=kia_one (HD G) X I e (λz=>nomatch z) h
end
end EX
set_option maxHeartbeats 1000000
namespace EX
open PySem
section
variable {prog:Program}{w:World}{A:Around}{E:Value->Shared->Prop}{h:Heap}{g:Array GenState}{d:Drawn}{t:Nat}{os:OsState}
variable {nm q:Str}{C N:Addr}{bs bm:List Value}{hdct:Bool}{sn:List Str}{sub:List Value}{ab:Bool}{col:Option Bool}{dd:Option Addr}{k0 k1 k2 k3 k5:Option Value}{B newId initId:String}
abbrev FA(C t0:Addr):Obj:={ cls:=.ref C,data:=.fields #[.ref t0,.none,.none,.none,.bool false,.none] }
structure ExF(B newId initId:String)(bm:List Value):Prop where
 nw:∃Bn inN bmN,ExcBaseFacts Bn newId inN bmN/\bm.contains (.type Bn)=true
 noA:bm.contains (.type "AttributeError")=false
 noN:bm.contains (.type "NameError")=false
 hasBase:bm.contains (.type "BaseException")=true
 hasB:bm.contains (.type B)=true
 mroIs:mroOf (.type B)=pure bm
 init:Slot B "__init__" initId
 initEntry:entryFor table initId=some Builtin.«BaseException.__init__»
 initSplit:splitId initId=some (B,"__init__")
 initKind:builtinKind initId=some .slot
 initRow:Manifest.signature? initId=some ⟨.positional,"*",B,.self,[⟨"args",.varPos,false⟩]⟩
 noStar:(B != "*")=true
theorem ExF.of(F:ExcBaseFacts B newId initId bm):ExF B newId initId bm:=
 ⟨⟨B,initId,bm,F,F.hasB⟩,F.noAttr,F.noName,F.hasBase,F.hasB,F.mroIs,F.init,F.initEntry,F.initSplit,F.initKind,F.initRow,F.noStar⟩
theorem KN(F:ExF B newId initId bm){M:Model}{e:Addr}{oe:Obj}{rest:List Value}{Q:Unit->Shared->Prop}(hC:h.get? C=some (excClassObj nm q C N bs bm hdct sn sub ab col dd k0 k1 k2 k3 k5 newId))(he:h.get? e=some oe)(hcls:oe.cls=.ref C)(hq:Q () ⟨h,g,d,t,os⟩):
  wpAny M A (checkBuiltinCall initId ⟨.ref e::rest,[]⟩) Q E ⟨h,g,d,t,os⟩:=by
 have z:(Value.ref C::bm).contains (.type B)=true:=by rw[tV,F.hasB,tW]
 have y:=F.noStar
 simp only[checkBuiltinCall,F.initKind,F.initSplit,F.initRow]
 repeat (first|(with_reducible refine tX he ?_;rw[hcls])|with_reducible refine tX hC ?_|(with_reducible refine tY hC ?_;rw[z])|wp_step)
 refine xJ ?_
 have u:∀(a b:String) (n:Nat),Bind.check ⟨.positional,"*",B,.self,[⟨"args",.varPos,false⟩]⟩ a b n (List.map (λx=>x.fst) ({ pos:=Value.ref e::rest }:Args).kw)=pure ():=λa b n=>check_star_args _ _ _ _ _ _
 rw[u]
 exact zX hq
theorem Ea(F:ExF B newId initId bm){R:Result->Shared->Prop}{rest:List Value}(hC:h.get? C=some (excClassObj nm q C N bs bm hdct sn sub ab col dd k0 k1 k2 k3 k5 newId))(hrest:rest.length≤sizeLine) 
  (hq:R (.ok (.ret (.ref (h.objs.size+1)))) ⟨(h.push { cls:=.type "tuple",data:=.seq rest.toArray }).push { cls:=.ref C,data:=.fields #[.ref h.objs.size,.none,.none,.none,.bool false,.none] },g,d,t,os⟩) :
  codeAny (model prog w) A (.builtin newId ⟨.ref C::rest,[]⟩) R ⟨h,g,d,t,os⟩:=by
 obtain⟨Bn,inN,bmN,Fn,hb⟩:=F.nw
 have hends:=Fn.ends
 have z0:(Value.ref C::bm).contains (.type Bn)=true:=by rw[tV,hb,tW]
 have z1:(Value.ref C::bm).contains (.type "AttributeError")=false:=by rw[tV,F.noA];rfl
 have z2:(Value.ref C::bm).contains (.type "NameError")=false:=by rw[tV,F.noN];rfl
 refine codeAny_builtinAt Fn.entry ?_
 unfold Builtin.«BaseException.__new__»
 refine wpAt_bind ?_
 show wpAt _ _ _ (stack>>=_) _ _ _
 refine wpAt_bind (wpAt_stack λp below=>wpAt_of_wpAny ?_)
 wp_walk
 refine wpAt_of_wpAny ?_
 rw[Fn.owner]
 repeat (first|with_reducible refine wpAny_madeHere_exc Fn.canon hC ?_|with_reducible refine tX hC ?_|(with_reducible refine tY hC ?_;first|rw[z0]|rw[z1]|rw[z2])|wp_step)
 show R _ _
 rw[wN]
 exact hq
theorem PB(F:ExF B newId initId bm){M:Model}{rest:List Value}{Q:Unit->Shared->Prop}(hC:h.get? C=some (excClassObj nm q C N bs bm hdct sn sub ab col dd k0 k1 k2 k3 k5 newId))(hq:Q () ⟨h,g,d,t,os⟩):
  wpAny M A (checkBuiltinCall newId ⟨.ref C::rest,[]⟩) Q E ⟨h,g,d,t,os⟩:=by
 obtain⟨Bn,inN,bmN,Fn,hb⟩:=F.nw
 have z0:(Value.ref C::bm).contains (.type Bn)=true:=by rw[tV,hb,tW]
 have y:=Fn.noStar
 simp only[checkBuiltinCall,Fn.newKind,Fn.newSplit,Fn.newRow]
 repeat (first|refine tX hC ?_|(refine tY hC ?_;rw[z0])|refine wpAny_staticBase_exc hC ?_|refine wpAny_madeBy_exc hC ?_|simp only[bne_self_eq_false,vE,vF]|wp_step)
 exact hq
theorem KO(F:ExF B newId initId bm){mN:Str->Option Value}{rest:List Value}{fI:Addr}{oI:Obj}{Q:Fin->Shared->Prop} 
  (hC:h.get? C=some (excClassObj nm q C N bs bm hdct sn sub ab col dd k0 k1 k2 k3 k5 newId)) (hn:h.Ns N mN) (hi:mN "__init__" = some (.ref fI)) (hfI:h.get? fI=some oI) (hfc:oI.cls=.type "function")
  (hq:∀h' e,Heap.MadeExcOf h h' e (.ref C) rest->wpAny (model prog w) A (call (.ref fI) (.ref e::rest)) (λr s'=>r=.none/\Q (.done (.ret (.ref e))) s') E ⟨h',g,d,t,os⟩) (hl:rest.length≤sizeLine) :
  wpAny (model prog w) A (Builtin.«type.__call__» ⟨.ref C::rest,[]⟩) Q E ⟨h,g,d,t,os⟩:=by
 obtain⟨Bn,inN,bmN,Fn,hb⟩:=F.nw
 repeat (first|with_reducible refine tX hC ?_|with_reducible refine wpAny_madeBy_exc hC ?_|wp_step)
 refine codeAny_call_builtin_code (Code.quiet_builtin _ Fn.quiet) (PB F hC ?_)
 refine Ea F hC hl ?_
 show wpAny _ _ _ _ _ _
 have up:∀b o,h.get? b=some o->((h.push { cls:=.type "tuple",data:=.seq rest.toArray }).push { cls:=.ref C,data:=.fields #[.ref h.objs.size,.none,.none,.none,.bool false,.none] }).get? b=some o:=λb o e=>wJ _ (wJ _ e)
 have e0:((h.push { cls:=.type "tuple",data:=.seq rest.toArray }).push { cls:=.ref C,data:=.fields #[.ref h.objs.size,.none,.none,.none,.bool false,.none] }).get? (h.objs.size+1)=some { cls:=.ref C,data:=.fields #[.ref h.objs.size,.none,.none,.none,.bool false,.none] }:=get?_push_at (by rw[wN]) rfl
 have z:(Value.ref C::bm).contains (.ref C)=true:=by simp
 unfold isInstance
 repeat (first|with_reducible refine tX e0 ?_|(with_reducible refine tY (up _ _ hC) ?_;rw[z])|wp_step)
 show wpAny _ _ (typeLookup (.ref C) _) _ _ _
 refine tZ (up _ _ hC) (hn.keeps up) F.mroIs F.init.lookup ?_
 rw[hi]
 refine zY (zW ?_)
 unfold bindSpecial
 refine zW (yM (T:="function") ⟨_,up _ _ hfI,hfc⟩ ?_)
 rw[zU (by decide)]
 refine zX (zW (vW (hq _ (h.objs.size+1) ⟨up,vO (wO _),h.objs.size,e0,vO (zK _),wJ _ (get?_push_at rfl rfl)⟩) (λr s' hr=>?_) λ_ _ x=>x))
 obtain⟨rfl,hQ⟩:=hr
 wp_walk
 exact hQ
theorem exf_call(F:ExF B newId initId bm){mN:Str->Option Value}{rest:List Value}{fI:Addr}{oI:Obj}{Q:Value->Shared->Prop} 
  (hC:h.get? C=some (excClassObj nm q C N bs bm hdct sn sub ab col dd k0 k1 k2 k3 k5 newId)) (hn:h.Ns N mN) (hi:mN "__init__" = some (.ref fI)) (hfI:h.get? fI=some oI) (hfc:oI.cls=.type "function")
  (hq:∀h' e,Heap.MadeExcOf h h' e (.ref C) rest->wpAny (model prog w) (A.under (.builtin "type.__call__" ⟨.ref C::rest,[]⟩)) (call (.ref fI) (.ref e::rest)) (λr s'=>r=.none/\Q (.ref e) s') E ⟨h',g,d,t,os⟩) (hl:rest.length≤sizeLine) :
  wpAny (model prog w) A (call (.ref C) rest) Q E ⟨h,g,d,t,os⟩:=by
 have f1:=tc_lookup
 have f2:=tc_bind (.ref C)
 have hT:(⟨h,g,d,t,os⟩:Shared).TypeIs (.ref C) "type":=⟨_,hC,rfl⟩
 refine uU (codeAny_of_tree ?_)
 show wpAny _ _ (callAny (.ref C) _) _ _ _
 repeat (any_goals (first|assumption|with_reducible refine tX hC ?_|wp_step))
 refine⟨rfl,?_⟩
 refine codeAny_call_builtin_at (Code.quiet_builtin _ (by decide +kernel)) entry_typeCall (wpAny_check_type_call_sub hC (KO F hC hn hi hfI hfc (λh' e hm=>?_) hl))
 exact hq h' e hm
end
end EX
namespace EX
open PySem PySem.W PySem.Spec PyProof.Rows
section
variable {prog:Program}{w:World}{A:Around}{E:Value->Shared->Prop}{h:Heap}{g:Array GenState}{d:Drawn}{t:Nat}{os:OsState}
variable {nm q:Str}{C N:Addr}{bs bm:List Value}{hdct:Bool}{sn:List Str}{sub:List Value}{ab:Bool}{col:Option Bool}{dd:Option Addr}{k0 k1 k2 k3 k5:Option Value}{B newId initId:String}
theorem exc_init(F:ExF B newId initId bm){e t0:Addr}{rest:List Value}{Q:Value->Shared->Prop}(hC:h.get? C=some (excClassObj nm q C N bs bm hdct sn sub ab col dd k0 k1 k2 k3 k5 newId))(he:h.get? e=some (FA C t0)) 
  (hq:∀h' t',(∀b o,b≠e->h.get? b=some o->h'.get? b=some o)->h'.get? e=some (FA C t')->Q .none ⟨h',g,d,t,os⟩) (hrest:rest.length≤sizeLine:=by size_fits) :
  wpAny (model prog w) A (call (.builtin initId) (.ref e::rest)) Q E ⟨h,g,d,t,os⟩:=by
 refine uU (tS F.init.plain F.initEntry (KN F hC he rfl ?_))
 wp_walk
 refine hq _ h.objs.size (λb o hb ho=>?_) ?_
 ·rw[wB _ _ (wC hb)]
  exact wJ _ ho
 ·rw[wD _ (wJ _ he) rfl]
  rfl
end
section
variable {M:Model}{A:Around}{E:Value->Shared->Prop}{s:Shared}
structure ExAt(h:Heap)(e:Addr)(cls:Value)(dx:Option Addr)(hd:Value):Prop where
 ex:∃oe vs,h.get? e=some oe/\oe.cls=cls/\oe.dict=dx/\oe.data=.fields vs/\vs[1]? = some hd/\vs[2]? = some .none
def TbAt(h:Heap)(T:Addr)(fl:Value):Prop:=∃oT ts,h.get? T=some oT/\oT.data=.fields ts/\ts[3]? = some fl
abbrev frsA(l:List Env):List Addr:=l.filterMap (·.frame)
structure ExKeep(l:List Env)(e:Addr)(ch:List Addr)(h h':Heap):Prop where
 old:∀b o,b≠e->b ∉ ch->b ∉ frsA l->h.get? b=some o->h'.get? b=some o
 slot:∀b o,b∈frsA l->h.get? b=some o->∃sl,h'.get? b=some { o with slots:=sl }
theorem Pb{base:Heap}{env:Env}{outer:List Env}{L e:Addr}{cls hd:Value}{dx:Option Addr}{head:Value}{hadNext:Bool}{Q:Unit->Shared->Prop} 
  (hfr:A.frames=some (env::outer)) (hl:s.heap.FunFrames base (env::outer)) (hf:env.frame=some L) (he:ExAt s.heap e cls dx hd)
  (h:∀h' T,s.heap.objs.size≤T->ExAt h' e cls dx (.ref T)->TbAt h' T .none->ExKeep (env::outer) e [] s.heap h'->Q () { s with heap:=h' }) :
  wpAny M A (do let a <- frameOf env;let pl <- entryPlaceOf L hadNext;let b <- EntryCells.newEntry head a .none (rawInt L) .none pl;setField (.ref e) 1 b) (λ_ s'=>wpAny M A (setFlight (.ref e) none) Q E s') E s:=by
 obtain⟨oe,vs,he,hc,hdx,hd,h1,h2⟩:=he
 have hsz:1<vs.size:=(sC.mp h1).1
 have hene:e ∉ (env::outer).filterMap (·.frame):=λhm=>by
  obtain⟨_,o,ho,hnf⟩:=hl.mem hm
  rw[he]at ho;injection ho with ho;subst ho;exact hnf vs hd
 refine zW (wpAny_frameOf_fun hfr hl hf λh₁ hs₁=>?_)
 refine zW (wpAny_entryPlaceOf λpl hpl=>?_)
 unfold EntryCells.newEntry newFields
 refine zW (wH ?_ (hpl.sizeOk5 _ _ _ _ _))
 have he₁:h₁.get? e=some oe:=(hs₁.2.1 e hene).trans he
 generalize hob:({ cls:=.type "traceback",dict:=none,data:=.fields ([head,.ref L,.none,rawInt L,.none]++(if pl.isEmpty then List.replicate 6 Value.none else pl)).toArray }:Obj)=ob
 have hobd:∃ts,ob.data=.fields ts/\3<ts.size:=by
  rw[<- hob]
  exact⟨_,rfl,by simp only[yK,yH,uM,sD]<;>omega⟩
 have hobf:ob.isFreed=false:=by rw[<- hob];rfl
 obtain⟨ts,hts,hts3⟩:=hobd
 have he₂:=wJ (h:=h₁) ob he₁
 refine wZ he₂ hd hsz ?_
 have hTe:h₁.objs.size≠e:=zP (wM he₁)
 have hd₃:=wF hd (·.setIfInBounds 1 (Value.ref h₁.objs.size))
 have he₃:=wD (Obj.mapFields (·.setIfInBounds 1 (Value.ref h₁.objs.size))) he₂ (wE hd₃)
 have hT₃:=(wB (h₁.push ob) (Obj.mapFields (·.setIfInBounds 1 (Value.ref h₁.objs.size))) (wC hTe)).trans (wK h₁ hobf)
 unfold setFlight
 refine zW (wA he₃ hd₃ (x:=.ref h₁.objs.size) (by simp[hsz]) ?_)
 rw[zU (show(Value.ref h₁.objs.size != Value.none)=true from by simp)]
 refine wZ hT₃ hts hts3 ?_
 have hge:s.heap.objs.size≤h₁.objs.size:=zN hs₁.1.symm
 refine h _ h₁.objs.size hge ⟨_,_,(wB _ _ hTe).trans he₃,(wG _ _).trans hc,?_,hd₃,by simp[hsz],?_⟩ ?_ ⟨λb o hb _ hbf ho=>?_,λb o hb ho=>?_⟩
 ·obtain⟨oc,od,oda,osl⟩:=oe
  cases hd
  exact hdx
 ·rw[Array.getElem?_setIfInBounds_ne (by decide)];exact h2
 ·exact⟨_,_,wD _ hT₃ (wE (wF hts _)),wF hts _,by simp[hts3]⟩
 ·have hb1:h₁.get? b=some o:=(hs₁.2.1 b hbf).trans ho
  rw[wB _ _ (zP (wM hb1)),wB _ _ (wC hb)]
  exact wJ _ hb1
 ·obtain⟨sl,hs⟩:=hs₁.2.2 b o ho
  refine⟨sl,?_⟩
  rw[wB _ _ (zP (wM hs)),wB _ _ (λz=>hene (by rw[z];exact hb))]
  exact wJ _ hs
theorem note_first{base:Heap}{env:Env}{outer:List Env}{L e:Addr}{cls:Value}{dx:Option Addr}{Q:Unit->Shared->Prop} 
  (hfr:A.frames=some (env::outer)) (hl:s.heap.FunFrames base (env::outer)) (hf:env.frame=some L) (he:ExAt s.heap e cls dx .none)
  (h:∀h' T,s.heap.objs.size≤T->ExAt h' e cls dx (.ref T)->TbAt h' T .none->ExKeep (env::outer) e [] s.heap h'->Q () { s with heap:=h' }) :
  wpAny M A (noteFrame (.ref e) env) (λ_ s'=>wpAny M A (setFlight (.ref e) none) Q E s') E s:=by
 obtain⟨oe,vs,he',hc,hdx,hd,h1,h2⟩:=id he
 unfold noteFrame
 simp only[hf]
 refine zW (wA he' hd h1 ?_)
 rw[wT (by decide)]
 exact Pb hfr hl hf he h
theorem note_next{base:Heap}{env:Env}{outer:List Env}{L e T:Addr}{cls:Value}{dx:Option Addr}{Q:Unit->Shared->Prop} 
  (hfr:A.frames=some (env::outer)) (hl:s.heap.FunFrames base (env::outer)) (hf:env.frame=some L) (he:ExAt s.heap e cls dx (.ref T)) (hT:TbAt s.heap T .none) (hTe:T≠e)
  (h:∀h' T',s.heap.objs.size≤T'->ExAt h' e cls dx (.ref T')->TbAt h' T' .none->ExKeep (env::outer) e [T] s.heap h'->Q () { s with heap:=h' }) :
  wpAny M A (noteFrame (.ref e) env) (λ_ s'=>wpAny M A (setFlight (.ref e) none) Q E s') E s:=by
 obtain⟨oe,vs,he',hc,hdx,hd,h1,h2⟩:=id he
 obtain⟨oT,ts,hoT,hdT,h3⟩:=hT
 unfold noteFrame
 simp only[hf]
 refine zW (wA he' hd h1 ?_)
 rw[zU (show(Value.ref T != Value.none)=true from by simp)]
 refine zW (wA hoT hdT h3 ?_)
 rw[wT (show ¬((Value.none == rawInt L)=true) from by simp[rawInt])]
 refine zW (wZ hoT hdT (sC.mp h3).1 ?_)
 have other:∀b,b≠T->(s.heap.update T (Obj.mapFields (·.setIfInBounds 3 Value.none))).get? b=s.heap.get? b:=λb hb=>wB _ _ (wC hb)
 have noRecord:∀b o,s.heap.get? b=some o->(∀vs,o.data≠.fields vs)->b≠T:=λb o hb hnf q=>by
  rw[q,hoT]at hb;injection hb with hb;subst hb;exact hnf ts hdT
 refine Pb (s:={ s with heap:=s.heap.update T (Obj.mapFields (·.setIfInBounds 3 Value.none)) }) hfr (hl.of_keeps λb o hb hnf=>⟨o,(other b (noRecord b o hb hnf)).trans hb,rfl⟩) hf
  ⟨oe,vs,(other e (wC hTe)).trans he',hc,hdx,hd,h1,h2⟩ λh' T' hge x1 x2 x3=>h h' T' (zF (zN (by simp[Heap.update])) hge) x1 x2 ⟨λb o hb hc' hbf ho=>x3.old b o hb (by simp) hbf ((other b (λz=>hc' (by simp[z]))).trans ho),λb o hb ho=>x3.slot b o hb ((other b ?_).trans ho)⟩
 obtain⟨_,o2,ho2,hnf⟩:=hl.mem hb
 rw[ho]at ho2;cases ho2
 exact noRecord b o ho hnf
end
end EX
namespace EX
open PySem PySem.W PySem.Spec PyProof.Rows
section
variable {prog:Program}{w:World}{A:Around}{E:Value->Shared->Prop}{h:Heap}{g:Array GenState}{d:Drawn}{t:Nat}{os:OsState}
variable {nm q:Str}{C N x:Addr}{bs bm:List Value}{sn:List Str}{sub:List Value}{ab:Bool}{col:Option Bool}{dd:Option Addr}{k0 k1 k2 k3 k5:Option Value}{B newId sa owner:String}{name:Str}{v:Value}{mN:Str->Option Value}{o:Obj}
abbrev exD(C t0:Addr)(dx:Option Addr):Obj:={ cls:=.ref C,dict:=dx,data:=.fields #[.ref t0,.none,.none,.none,.bool false,.none] }
theorem OV{tk:Tok}{Q:Fin->Shared->Prop}(SF:StoreFacts B bm sa owner)(hC:h.get? C=some (excClassObj nm q C N bs bm true sn sub ab col dd k0 k1 k2 k3 k5 newId))(hn:h.Ns N mN)(hna:mN name=none) 
  (hB:typeLookup (.type B) name=pure none) (hx:h.get? x=some o) (hc:o.cls=.ref C) (hnc:∀c,o.data≠.cls c) (hdn:o.dict=none)
  (hq:∀h' tk',h'.Ns1 h.objs.size (λy=>if y=name then some v else none)->(∀b o,b≠x->h.get? b=some o->h'.get? b=some o)->h'.get? x=some { o with dict:=some h.objs.size }->Q (.done (.ret .none)) ⟨h',g,d,tk',os⟩) :
  wpAny (model prog w) A (Builtin.«object.__setattr__» ⟨[.ref x,.str name tk,v],[]⟩) Q E ⟨h,g,d,t,os⟩:=by
 have hpass:=SF.passes (.ref x)
 unfold Builtin.«object.__setattr__»;repeat (first|rw[refuse_eq]|(rw[refuseLoop_ref,hpass])|(with_reducible refine tX hx ?_;rw[hc])|with_reducible refine wpAny_mroOf_exc hC ?_|(with_reducible refine tZ hC hn SF.mro hB ?_;rw[hna])|wp_step)
 rw[hdn,wT (by simp[typeHasDict])];split
 ·rename_i hcd;cases hcd
 split
 ·rename_i c hcd;exact absurd hcd (hnc c)
 have h1:(h.push { cls:=.type "dict",data:=.dict #[] }).get? x=some o:=wJ _ hx
 have hs:x≠h.objs.size:=vC (wM hx)
 refine zW (wpAny_alloc' (zW (wpAny_update' h1 (zX ?_))))
 generalize hu:((h.push { cls:=.type "dict",data:=.dict #[] }).update x λo=>{ cls:=o.cls,dict:=some h.objs.size,data:=o.data,slots:=o.slots })=hp
 have hd:hp.Ns h.objs.size (λ_=>none):=by
  rw[<- hu];exact⟨_,#[],_,(Heap.get?_update_ne _ _ _ _ hs.symm).trans (get?_push_at rfl rfl),rfl,λe he=>absurd he (by simp),λ_=>rfl⟩
 have hpx:hp.get? x=some { o with dict:=some h.objs.size }:=by
  rw[<- hu,wD _ h1 ?_]
  have hf:=(Heap.get?_some_iff.mp hx).2
  obtain⟨oc,od,odt,osl⟩:=o;cases odt<;>first|rfl|exact hf
 have hpb:∀b o,b≠x->h.get? b=some o->hp.get? b=some o:=λb ob hb e=>by rw[<- hu];exact(Heap.get?_update_ne _ _ _ _ hb).trans (wJ _ e)
 show wpAny _ _ (Builtin.ObjectAttr.storeInDict h.objs.size (.str name tk) name v) _ _ _;unfold Builtin.ObjectAttr.storeInDict Builtin.ObjectAttr.newKeyGuard
 refine zW (zX (zW (wpAny_nsSet1 (Heap.Ns1.of_empty hd) λh' hn' he=>?_)))
 obtain⟨oD,esD,epD,hoD,hdD,hcD⟩:=hn'.count (Within.cons name v Within.nil);refine zW (wpAny_lookBehind hoD (by rw[hdD];exact pastItsLine_dict (zF hcD (by rw[uM,sD,uK];omega))) ?_)
 wp_walk
 refine hq h' _ ?_ (λb ob hb e=>(he.2 b (vC (wM e))).trans (hpb b ob hb e)) ((he.2 x hs).trans hpx)
 obtain⟨o',es,ep,e1,e2,e3,eu,e4⟩:=hn';exact⟨o',es,ep,e1,e2,e3,eu,λy=>by rw[e4 y]⟩
theorem first_attr{Q:Unit->Shared->Prop}(SF:StoreFacts B bm sa owner)(hC:h.get? C=some (excClassObj nm q C N bs bm true sn sub ab col dd k0 k1 k2 k3 k5 newId))(hn:h.Ns N mN)(hns:mN "__setattr__" = none)(hna:mN name=none) 
  (hB:typeLookup (.type B) name=pure none) (hx:h.get? x=some o) (hc:o.cls=.ref C) (hnc:∀c,o.data≠.cls c) (hdn:o.dict=none)
  (hq:∀h' tk',h'.Ns1 h.objs.size (λy=>if y=name then some v else none)->(∀b o,b≠x->h.get? b=some o->h'.get? b=some o)->h'.get? x=some { o with dict:=some h.objs.size }->Q () ⟨h',g,d,tk',os⟩) :
  wpAny (model prog w) A (setAttr (.ref x) name v) Q E ⟨h,g,d,t,os⟩:=by
 have f3:=SF.slot.bind (.ref x)
 unfold setAttr callSpecial? specialOf;repeat (any_goals (first|assumption|(with_reducible refine tX hx ?_;rw[hc])|(with_reducible refine tZ hC hn SF.mro SF.slot.lookup ?_;rw[hns])|wp_step))
 refine tS SF.slot.plain SF.entry (wpAny_check_sa SF hC hx hc (OV SF hC hn hna hB hx hc hnc hdn λh' tk' a b c=>?_))
 repeat (any_goals (first|assumption|wp_step))
 exact hq h' tk' a b c
theorem raise_own{s:Shared}{env:Env}{hdct:Bool}{X:Sem Value}{Q:Flow->Shared->Prop}(hbase:bm.contains (.type "BaseException")=true)(hh:A.handled=none) 
  (k:wpAny (model prog w) A X (λv s₁=>∃e t dx,v=.ref e/\s₁.heap.get? C=some (excClassObj nm q C N bs bm hdct sn sub ab col dd k0 k1 k2 k3 k5 newId)/\s₁.heap.get? e=some (exD C t dx)/\E (.ref e) s₁) E s):wpAny (model prog w) A (raiseStmt env (some X) none) Q E s:=by
 have hcB:(Value.ref C::bm).contains (.type "BaseException")=true:=by rw[tV,hbase,tW]
 unfold raiseStmt;refine zW (vW k (λv s₁ h₁=>?_) λ_ _ x=>x)
 obtain⟨e,t,dx,rfl,hC,he,hE⟩:=h₁
 obtain⟨hp,g,d,tk,os⟩:=s₁
 repeat (first|with_reducible refine tX he ?_|with_reducible refine tX hC ?_|(with_reducible refine tY hC ?_;rw[hcB])|wp_step)
 exact wpAny_raiseNew_none hh hE
end
end EX
namespace L2
open PySem PySem.Spec PyProof.Rows
def VH(C e:Addr)(dx:Option Addr):HO:=.ext λh=>∃t,h.get? e=some (EX.exD C t dx)
theorem VH.ok{P:Program}{w:World}{H:Hp}{h:Heap}{C e t:Addr}{dx:Option Addr}(q:h.get? e=some (EX.exD C t dx)):YV P w H h e (VH C e dx):=
 ⟨⟨t,q⟩,⟨_,q⟩,λh1 h2 ⟨t,a⟩ k=>⟨t,k _ a⟩⟩
theorem VH.get{P:Program}{w:World}{H:Hp}{h:Heap}{C e:Addr}{dx:Option Addr}(x:U5 P w H h)(q:H e=some (VH C e dx)):∃t,h.get? e=some (EX.exD C t dx):=(x e _ q).1
structure EC(K:Frag)(C:Addr)(B initId:String)(fld:Str)(fI:Addr):Prop where
 ex:∃nm q N bs bm sn sub ab col dd k0 k1 k2 k3 k5 newId sa owner mN oI,K.lookup C=some (excClassObj nm q C N bs bm true sn sub ab col dd k0 k1 k2 k3 k5 newId)/\(∀h:Heap,K.In h->h.Ns N mN)/\mN "__init__" = some (.ref fI)/\mN "__setattr__" = none/\mN fld=none /\
  EX.ExF B newId initId bm/\StoreFacts B bm sa owner/\typeLookup (.type B) fld=pure none/\K.lookup fI=some oI/\oI.cls=.type "function"
 fi:PySem.W.findCls K (.type B) (.type "type") "__init__" = some (.val (.builtin initId))
 ty:typeOf (.type B)=pure (.type "type")
 st:Manifest.isStub B=false
 kp:PySem.W.keepIn K (.ref C)=true
section
variable {X:Cx}{C fI:Addr}{B initId:String}{fld x:Str}{a b o value:Expr}{t:TA}{ta tv:TE}{p apos pos pos':Pos}
def tBI(C:Addr)(t:TA):TE:=λσ H Q=>t σ H λvs H1=>∃e m,vs=[.ref e,m]/\H1 e=some (VH C e none)/\Q .non H1
theorem AG{H:Hp}{a:Addr}{o:HO}(h:H a=some o):upd H a o=H:=by
 funext c;unfold upd;split
 ·next e=>rw[e,h]
 ·rfl
theorem NC{pl:Sem Bool}(c:EC X.K C B initId fld fI)(hg:Gl X x)(hm:X.mg x=none)(hv:bootBuiltins x=some (.type B))(ha:PA X [a,b] t)(hh:PySem.W.handedIn (.builtin initId)=true:=by rfl)(hn:x≠"__name__":=by decide)(hdb:(x == ("__debug__" : Str))=false:=by decide) 
  (hst:starEach [a,b] X.env=(false,eval a X.env)::starEach [b] X.env:=by rfl) (hpl:(backTo pos (starEach [b] X.env)).any (·.1)=false:=by rfl)
  (ht:eval (.Call (.Attribute (.Name x p) "__init__" apos) [a,b] [] pos) X.env=(do
   let ov <- eval (.Name x p) X.env
   standAt apos.atName
   let (f,first) <- holding [ov] (getMethod ov "__init__" pl)
   callWith pos f first (backTo pos (starEach [a,b] X.env)) (backToKw pos (keywordEach [] X.env))):=by rfl):PE X (.Call (.Attribute (.Name x p) "__init__" apos) [a,b] [] pos) (tBI C t):=by
 intro pins s σ H Q I h
 refine methodCall_KW (pl:=pl) (VV I hg hm hv ?_ hn hdb) ht
 obtain⟨m,F⟩:=I.fr
 refine PySem.W.method_type F I.ok.mod.kin c.ty c.st c.fi hh ?_
 refine PyProof.Rows.callWith_builtin1 (YB (ha pos pins _ σ H _ (I.tok _) h) λus s1 ⟨vs,H1,I1,r1,e,mv,ev,he,q⟩=>?_) hst hpl
 subst ev
 obtain⟨nm,qn,N,bs,bm,sn,sub,ab,col,dd,k0,k1,k2,k3,k5,newId,sa,owner,mN,oI,hC,hN,hi,hs,hf,FF,SF,hB,hfI,hfc⟩:=c.ex
 cases r1 with
 | cons r1 r2=>
  cases r2 with
  | cons r2 r3=>
   cases r3
   cases r1
   obtain⟨t0,e0⟩:=VH.get I1.hok he
   obtain⟨h1,g1,d1,tk1,os1⟩:=s1
   refine EX.exc_init FF (I1.kIn _ _ hC) e0 λh' t' k e'=>?_
   have I2:=I1.write (h':=h') (t':=tk1) (x:=e) (e:=e) (o:=VH C e none) (by rw[he];trivial) (.inl rfl) (λb u nb q=>k b u nb q) ⟨_,e'⟩ (VH.ok e')
   rw[AG he]at I2
   exact⟨.non,H1,I2,rfl,q⟩
theorem Zu.exStore{pins:List (Addr×Obj)}{σ:St}{H:Hp}{h h':Heap}{g:Array GenState}{dr:Drawn}{tk tk':Nat}{os:OsState}{e t0:Addr}{v:V}{u:Value}(I:Zu X pins σ H ⟨h,g,dr,tk,os⟩)(he:H e=some (VH C e none))(hde:h.objs.size≠e)(e0:h.get? e=some (EX.exD C t0 none))(rv:ZI v u) 
  (n1:h'.Ns1 h.objs.size (λy=>if y=fld then some u else none)) (kb:∀b o,b≠e->h.get? b=some o->h'.get? b=some o) (ex:h'.get? e=some { EX.exD C t0 none with dict:=some h.objs.size }) :
  Zu X pins σ (upd (upd H h.objs.size (.xd [(fld,v)])) e (VH C e (some h.objs.size))) ⟨h',g,dr,tk',os⟩:=by
 have hd:H h.objs.size=none:=I.hok.fresh (zK _)
 have ne:∀b,H b=none->b≠e:=λb q z=>by rw[z,he]at q;cases q
 have nd:∀b o,h.get? b=some o->b≠h.objs.size:=λb o q=>vC (wM q)
 have at':∀b,b≠e->b≠h.objs.size->upd (upd H h.objs.size (.xd [(fld,v)])) e (VH C e (some h.objs.size)) b=H b:=λb x1 x2=>by rw[Zk x1,Zk x2]
 have tr:∀b o,H b=some o->b≠h.objs.size:=λb o q z=>by rw[z,hd]at q;cases q
 have kk:∀b o,b≠e->H b=some o->upd (upd H h.objs.size (.xd [(fld,v)])) e (VH C e (some h.objs.size)) b=some o:=λb o x1 q=>by rw[at' b x1 (tr b o q)];exact q
 have net:∀b xs,H b=some (.tup xs)->b≠e:=λb xs q z=>by rw[z,he]at q;cases q
 have neo:∀b y,H b=some (.own y)->b≠e:=λb xs q z=>by rw[z,he]at q;cases q
 refine I.un (s:=⟨h,g,dr,tk,os⟩) (h':=h') (t':=tk') ⟨λb o q n _ _=>kb b o (ne b n) q,λb o q n _ _=>⟨o.slots,kb b o (ne b n) q⟩,λb o q n _=>?_,λb o q _=>?_,λb xs q=>kk b _ (net b xs q) q,λb o u q=>kk b _ (λz=>by rw[z,he]at q;cases q) q,λb ps q=>⟨#[],?_⟩⟩ λb o q=>?_
 ·rw[at' b (ne b n) (nd b o q)];exact n
 ·by_cases z:b=e
  ·rw[z];exact⟨_,ex⟩
  ·exact⟨o,kb b o z q⟩
 ·rw[kk b _ (λz=>by rw[z,he]at q;cases q) q];simp
 ·by_cases z:b=e
  ·rw[z,Z9]at q;cases q
   rw[z];exact VH.ok (t:=t0) ex
  ·by_cases z2:b=h.objs.size
   ·rw[Zk z,z2,Z9]at q;cases q
    rw[z2]
    refine⟨_,n1,λf=>?_⟩
    by_cases hf:f=fld
    ·subst hf;simp[List.lookup,Vy,rv]
    ·have:(f == fld)=false:=vI.mpr hf
     simp[List.lookup,this,hf,Vy]
   ·rw[at' b z z2]at q
    refine(I.hok b o q).stay (λc u hc r=>kb c u ?_ r) (λc r=>kk c _ (neo c _ r) r) λc xs r=>kk c _ (net c xs r) r
    rcases hc with hc|hc
    ·rw[hc];exact z
    ·exact neo c _ hc
def Zc4(C:Addr)(fld:Str)(ta tv:TE):TS:=λD σ H=>tv σ H λv H1=>ta σ H1 λy H2=>∃e,y=.ref e/\H2 e=some (VH C e none)/\∀d,H2 d=none->d≠e->D.nx σ (upd (upd H2 d (.xd [(fld,v)])) e (VH C e (some d)))
theorem BW(c:EC X.K C B initId fld fI)(ha:PE X o ta)(hv:PE X value tv)(hs:swapsWith value (some (.Attribute o fld pos')) pos.line X.env=pure false:=by rfl):PS X (.Assign [.Attribute o fld pos'] value pos) (Zc4 C fld ta tv):=by
 intro pins s σ H D I h
 refine plainObj_wpAny_Assign_Attribute (YB (hv pins s σ H _ I h) λu s1 ⟨v,H1,I1,rv,q⟩=>YB (ha pins s1 σ H1 _ I1 q) λov s2 ⟨y,H2,I2,ry,e,ey,he,q2⟩=>?_) hs
 subst ey
 obtain rfl:ov=Value.ref e:=ry
 obtain⟨nm,qn,N,bs,bm,sn,sub,ab,col,dd,k0,k1,k2,k3,k5,newId,sa,owner,mN,oI,hC,hN,hi,hs,hf,FF,SF,hB,hfI,hfc⟩:=c.ex
 obtain⟨t0,e0⟩:=VH.get I2.hok he
 have hd:H2 s2.heap.objs.size=none:=I2.hok.fresh (zK _)
 have hde:s2.heap.objs.size≠e:=zP (wM e0)
 obtain⟨h2,g2,d2,tk2,os2⟩:=s2
 refine EX.first_attr SF (I2.kIn _ _ hC) (hN _ I2.kIn) hs hf hB e0 rfl (λc z=>nomatch z) rfl λh' tk' n1 kb ex=>?_
 exact⟨σ,_,I2.exStore he hde e0 rv n1 kb ex,q2 _ hd hde⟩
end
def TY(H:Hp)(e:Addr):Hp:=λb=>if b=e then none else H b
theorem Um{H:Hp}{e:Addr}:TY H e e=none:=by simp[TY]
theorem Xz{H:Hp}{e b:Addr}(h:b≠e):TY H e b=H b:=by simp[TY,h]
section
variable {X:Cx}{pins:List (Addr×Obj)}{σ:St}{H:Hp}{s:Shared}{C fI e:Addr}{B initId:String}{fld x:Str}
theorem U5.none{P:Program}{w:World}{H:Hp}{h:Heap}{a:Addr}(x:U5 P w H h)(q:h.get? a=none):H a=none:=by
 cases r:H a with
 | none=>rfl
 | some o=>
  have lt:=(x a o r).lt
  exfalso
  cases o with
  | lst xs=>obtain⟨_,_,_,_,z⟩:=x a _ r;rw[q]at z;cases z
  | tup xs=>obtain⟨_,_,_,_,z,_⟩:=x a _ r;rw[q]at z;cases z
  | dK kvs=>obtain⟨_,_,_,_,o,_,_,z,_⟩:=x a _ r;rw[q]at z;cases z
  | dT kvs=>obtain⟨_,_,_,_,o,_,_,z,_⟩:=x a _ r;rw[q]at z;cases z
  | set S n=>obtain⟨o,_,_,_,z,_⟩:=x a _ r;rw[q]at z;cases z
  | ins C dx fs=>obtain⟨_,_,_,z,_⟩:=x a _ r;rw[q]at z;cases z
  | own y=>obtain⟨_,z⟩:=x a _ r;rw[q]at z;cases z
  | xd fs=>obtain⟨_,⟨_,_,_,z,_⟩,_⟩:=x a _ r;rw[q]at z;cases z
  | rng lo hi=>obtain⟨_,_,_,z⟩:=x a _ r;rw[q]at z;cases z
  | frz ob u=>obtain⟨z,_⟩:=x a _ r;rw[q]at z;cases z
  | tbl ps=>have z:h.get? a=some _:=x a _ r;rw[q]at z;cases z
  | met f y=>have z:h.get? a=some _:=x a _ r;rw[q]at z;cases z
  | ext φ=>obtain⟨_,⟨_,z⟩,_⟩:=x a _ r;rw[q]at z;cases z
theorem Zu.exNew{h':Heap}{us:List Value}{t':Nat}(I:Zu X pins σ H s)(m:Heap.MadeExcOf s.heap h' e (.ref C) us):Zu X pins σ (upd H e (VH C e none)) { s with heap:=h',toks:=t' }:=by
 have hn:H e=none:=I.hok.none m.new
 obtain⟨t,ht,_,_⟩:=m.there
 have nb:∀b o,s.heap.get? b=some o->b≠e:=λb o q z=>by rw[z,m.new]at q;cases q
 have nt:∀b o,H b=some o->b≠e:=λb o q z=>by rw[z,hn]at q;cases q
 refine I.un (h':=h') ⟨λb o q _ _ _=>m.keeps b o q,λb o q _ _ _=>⟨o.slots,m.keeps b o q⟩,λb o q n _=>by rw[Zk (nb b o q)];exact n,λb o q _=>⟨o,m.keeps b o q⟩,λb xs q=>by rw[Zk (nt b _ q)];exact q,λb o u q=>by rw[Zk (nt b _ q)];exact q,λb ps q=>⟨#[],by rw[Zk (nt b _ q),q];simp⟩⟩ λb o q=>?_
 by_cases z:b=e
 ·rw[z,Z9]at q;cases q
  rw[z];exact VH.ok ht
 ·rw[Zk z]at q
  exact(I.hok b o q).stay (λc u _ r=>m.keeps c u r) (λc r=>by rw[Zk (nt c _ r)];exact r) λc xs r=>by rw[Zk (nt c _ r)];exact r
theorem Dh{k:Nat}{fd:FuncData}{ps:List Str}{sp:Sp}{Q:VK}{vs:List V}{us:List Value}(c:EC X.K C B initId fld fI)(F:Xc X.prog X.w X.K X.mg X.base UC k fI fd ps sp)(hr:ZZ (k+1) X.A)(hb:XE X.K fd ps [])(I:Zu X pins σ H s)(r:ZH vs us)(hl:us.length≤sizeLine) 
  (h:∀e,H e=none->s.heap.get? e=none->sp (.ref e::vs) (upd H e (VH C e none)) (λv H2=>v=.non/\Q (.ref e) H2) E0):wpAny (model X.prog X.w) X.A (call (.ref C) us) (EP X pins σ Q) X.xe s:=by
 obtain⟨nm,qn,N,bs,bm,sn,sub,ab,col,dd,k0,k1,k2,k3,k5,newId,sa,owner,mN,oI,hC,hN,hi,hs,hf,FF,SF,hB,hfI,hfc⟩:=c.ex
 obtain⟨hp,g,d,tk,os⟩:=s
 refine EX.exf_call FF (I.kIn _ _ hC) (hN _ I.kIn) hi (I.kIn _ _ hfI) hfc (λh' e m=>?_) hl
 have I2:Zu X pins σ (upd H e (VH C e none)) ⟨h',g,d,tk,os⟩:=Zu.exNew (t':=tk) I m
 have hq:=h e (I.hok.none m.new) m.new
 have r2:ZH (V.ref e::vs) (Value.ref e::us):=.cons rfl r
 have hlen:(Value.ref e::us++[]).length=ps.length:=by
  rw[uT,<- r2.length];exact F.len _ _ _ _ hq
 have bb:=hb _ (Value.ref e::us) I2.kIn hlen
 rw[uT]at bb
 refine uU (uV (F.run _ X.stack _ _ ⟨Value.ref e::us,[]⟩ (Value.ref e::us) _ _ E0 (hr.make C us []) (I2.env0.make C us []) bb r2 hq) λr s' hq'=>?_)
 cases r with
 | error e=>exact hq'.elim
 | ok fl=>
  cases fl with
  | ret u=>
   obtain⟨v,H',I3,rv,ev,q3⟩:=I2.after hq'
   subst ev
   exact⟨rv,⟨V.ref e,H',I3,rfl,q3⟩⟩
  | next=>exact False.elim hq'
  | brk=>exact False.elim hq'
  | cont=>exact False.elim hq'
end
def Ma(P:Program)(w:World):Md:=λouter H s E ev s'=>∃(e C d T:Addr) (H':Hp),ev=.ref e/\s'.os=s.os/\AllBare s'.gens/\Un (LB outer) [] H H' s.heap s'.heap/\U5 P w H' s'.heap /\
 EX.ExAt s'.heap e (.ref C) (some d) (.ref T)/\EX.TbAt s'.heap T .none/\T≠e/\s.heap.get? e=none/\s.heap.get? T=none/\H' e=none/\H' T=none/\E (.ref C) (some d) H'
section
variable {X:Cx}{pins:List (Addr×Obj)}{σ:St}{H:Hp}{s:Shared}{C e d:Addr}
theorem VH.at'{h:Heap}{t:Addr}{dx:Option Addr}(q:h.get? e=some (EX.exD C t dx)):EX.ExAt h e (.ref C) dx .none:=⟨_,_,q,rfl,rfl,rfl,rfl,rfl⟩
theorem Un.old{fs ex:List Addr}{H H':Hp}{h h':Heap}{b:Addr}(u:Un fs ex H H' h h')(hx:b ∉ ex)(q:h'.get? b=none):h.get? b=none:=by
 cases r:h.get? b with
 | none=>rfl
 | some o=>
  obtain⟨o',z⟩:=u.there b o r hx
  rw[q]at z;cases z
theorem KI{l:List Env}{fs:List Addr}{H₀:Hp}{h₀ h h':Heap}(u:Un fs [] H₀ H h₀ h)(k:EX.ExKeep l e [] h h')(he:∃φ,H e=some (.ext φ))(h0:h₀.get? e=none)(hl:∀b∈EX.frsA l,b∈fs\/h₀.get? b=none)(hsz:∀b o,h.get? b=some o->∃o',h'.get? b=some o'):Un fs [] H₀ (TY H e) h₀ h':=by
 have n0:∀b o,h₀.get? b=some o->b≠e:=λb o q z=>by rw[z,h0]at q;cases q
 have hne:∀b o,H b=some o->(∀φ,o≠.ext φ)->b≠e:=λb o q n z=>by
  obtain⟨φ,hφ⟩:=he
  rw[z,hφ]at q;cases q;exact n φ rfl
 refine⟨λb o q n hb hx=>?_,λb o q n hb hx=>?_,λb o q n hx=>by rw[Xz (n0 b o q)];exact u.free b o q n hx,λb o q hx=>?_,λb xs q=>?_,λb o x q=>?_,λb ps q=>?_⟩
 ·have h1:=u.keep b o q n hb hx
  refine k.old b o (n0 b o q) (by simp) (λz=>?_) h1
  rcases hl b z with y|y
  ·exact hb y
  ·rw[q]at y;cases y
 ·obtain⟨sl,h1⟩:=u.slot b o q n hb hx
  by_cases z:b∈EX.frsA l
  ·obtain⟨sl',h2⟩:=k.slot b _ z h1
   exact⟨sl',h2⟩
  ·exact⟨sl,k.old b _ (n0 b o q) (by simp) z h1⟩
 ·obtain⟨o',z⟩:=u.there b o q hx
  exact hsz b o' z
 ·have z:=u.tups b xs q
  rw[Xz (hne b _ z λφ y=>by cases y)];exact z
 ·have z:=u.frzs b o x q
  rw[Xz (hne b _ z λφ y=>by cases y)];exact z
 ·obtain⟨more,z⟩:=u.tbls b ps q
  exact⟨more,by rw[Xz (hne b _ z λφ y=>by cases y)];exact z⟩
theorem M1{P:Program}{w:World}{l:List Env}{h h':Heap}(ok:U5 P w H h)(k:EX.ExKeep l e [] h h')(he:∃φ,H e=some (.ext φ))(hf:∀b∈EX.frsA l,H b=none):U5 P w (TY H e) h':=λb o q=>by
 have be:b≠e:=λz=>by rw[z,Um]at q;cases q
 rw[Xz be]at q
 obtain⟨φ,hφ⟩:=he
 have tr:∀c u,H c=some u->c ∉ EX.frsA l:=λc u z y=>by rw[hf c y]at z;cases z
 have ce:∀c u,H c=some u->u≠.ext φ->c≠e:=λc u z n y=>by rw[y,hφ]at z;cases z;exact n rfl
 refine(ok b o q).stay (λc u hc r=>k.old c u ?_ (by simp) ?_ r) (λc r=>by rw[Xz (ce c _ r λz=>by cases z)];exact r) λc xs r=>by rw[Xz (ce c _ r λz=>by cases z)];exact r
 ·rcases hc with hc|hc
  ·rw[hc];exact be
  ·exact ce c _ hc λz=>by cases z
 ·rcases hc with hc|hc
  ·rw[hc];exact tr b o q
  ·exact tr c _ hc
end
section
variable {P:Program}{w:World}{K:Frag}{mg:Str->Option Value}{base:Heap}{N:List Str}{qual:Str}{scope:Scope}{f:Addr}{cdv:Value}{A:Around}{outer:List Env}{s₀ s:Shared}{H₀ H:Hp}{E:XK}{pins:List (Addr×Obj)}{σ:St}{C e d:Addr}
theorem Jg(I:Zu (Xw (Ma P w) P w K mg base N qual scope f cdv A outer s₀ H₀ E) pins σ H s)(he:H e=some (VH C e (some d)))(h0:s₀.heap.get? e=none)(h:E (.ref C) (some d) (TY H e)):(Xw (Ma P w) P w K mg base N qual scope f cdv A outer s₀ H₀ E).xe (.ref e) s:=by
 obtain⟨t,e0⟩:=VH.get I.hok he
 have hst:=I.stack
 have hfr:=I.ok.frames
 have hlf:EX.frsA (envOfC qual scope s₀.heap.objs.size f cdv::outer)=s₀.heap.objs.size::LB outer:=rfl
 show wpAny _ _ (leaving _ _) _ _ _
 unfold leaving
 refine zW ?_
 refine EX.note_first hfr hst rfl (VH.at' e0) λh' T hT x1 x2 x3=>?_
 have hext:∃φ,H e=some (.ext φ):=⟨_,he⟩
 have hTn:s.heap.get? T=none:=vO hT
 have hsz:∀b o,s.heap.get? b=some o->∃o',h'.get? b=some o':=λb o q=>by
  by_cases z:b=e
  ·obtain⟨oe,_,z1,_⟩:=x1;rw[z];exact⟨_,z1⟩
  ·by_cases y:b∈EX.frsA (envOfC qual scope s₀.heap.objs.size f cdv::outer)
   ·obtain⟨sl,z1⟩:=x3.slot b o y q;exact⟨_,z1⟩
   ·exact⟨o,x3.old b o z (by simp) y q⟩
 have hstk:∀b∈EX.frsA (envOfC qual scope s₀.heap.objs.size f cdv::outer),H b=none:=I.stkFree
 refine⟨e,C,d,T,TY H e,rfl,I.os,I.bare,KI I.base x3 hext h0 (λb hb=>?_) hsz,M1 I.hok x3 hext hstk,x1,x2,?_,h0,I.base.old (by exact λz=>nomatch z) hTn,Um,?_,h⟩
 ·rw[hlf]at hb
  rcases vP.mp hb with z|z
  ·right;rw[z];exact vO (zK _)
  ·left;exact z
 ·intro z;rw[z,e0]at hTn;cases hTn
 ·rw[Xz λz=>by rw[z,e0]at hTn;cases hTn];exact I.hok.none hTn
end
section
variable {P:Program}{w:World}{K:Frag}{mg:Str->Option Value}{base:Heap}{N:List Str}{qual:Str}{scope:Scope}{f:Addr}{cdv:Value}{A:Around}{outer:List Env}{s₀:Shared}{H₀:Hp}{E:XK}{C fI:Addr}{B initId:String}{fld x:Str}{k:Nat}{fd:FuncData}{ps:List Str}{sp:Sp}{a:Expr}{t:TA}{np cpos pos:Pos}
def tRz(C:Addr)(sp:Sp)(E:XK)(t:TA):TS:=λ_ σ H=>t σ H λvs H1=>vs.length=1/\∀e,H1 e=none->sp (.ref e::vs) (upd H1 e (VH C e none)) (λv H2=>v=.non/\∃d,H2 e=some (VH C e (some d))/\E (.ref C) (some d) (TY H2 e)) E0
theorem Gz{X:Cx}(hX:X=Xw (Ma P w) P w K mg base N qual scope f cdv A outer s₀ H₀ E)(c:EC X.K C B initId fld fI)(F:Xc X.prog X.w X.K X.mg X.base UC k fI fd ps sp)(mos:∀vs H (Q Q':VK) E,(∀v H',Q v H'->Q' v H')->sp vs H Q E->sp vs H Q' E)(hr:ZZ (k+1) X.A)(hb:XE X.K fd ps [])(hg:Gl X x)(hm:X.mg x=some (.ref C))(ha:PA X [a] t)(hdb:(x == ("__debug__" : Str))=false:=by decide) 
  (he:starEach [a] X.env=(false,eval a X.env)::starEach [] X.env:=by rfl) (hpl:(backTo cpos (starEach [] X.env)).any (·.1)=false:=by rfl):PS X (.Raise (some (.Call (.Name x np) [a] [] cpos)) none pos) (tRz C sp E t):=by
 intro pins s σ H D I h
 obtain⟨nm,qn,N',bs,bm,sn,sub,ab,col,dd,k0,k1,k2,k3,k5,newId,sa,owner,mN,oI,hC,hN,hi,hs,hf,FF,SF,hB,hfI,hfc⟩:=c.ex
 have key:wpAny (model X.prog X.w) X.A (eval (.Call (.Name x np) [a] [] cpos) X.env) (λv s₁=>∃e t dx,v=.ref e/\s₁.heap.get? C=some (excClassObj nm qn C N' bs bm true sn sub ab col dd k0 k1 k2 k3 k5 newId)/\s₁.heap.get? e=some (EX.exD C t dx)/\X.xe (.ref e) s₁) X.xe s:=by
  refine uW (Uq I hg hm ?_ hdb)
  refine uX (h₀:=X.base) I.ok.mod.kin c.kp (YB (ha cpos pins s σ H _ I h) λus s1 ⟨vs,H1,I1,r,hl,q⟩=>⟨I1.kIn,?_⟩) he hpl
  have h1:us.length≤sizeLine:=by rw[<- r.length,hl];decide
  have h2:∀e,s1.heap.get? e=none->X.s₀.heap.get? e=none:=by subst hX;exact λe z=>I1.base.old (by exact λz=>nomatch z) z
  have h3:=Dh (Q:=λv H2=>∃e d,v=.ref e/\X.s₀.heap.get? e=none/\H2 e=some (VH C e (some d))/\E (.ref C) (some d) (TY H2 e)) c F hr hb I1 r h1 λe hn hg'=>mos _ _ _ _ _ (λv H2 ⟨ev,d,z1,z2⟩=>⟨ev,e,d,rfl,h2 e hg',z1,z2⟩) (q e hn)
  refine YB h3 λu s2 ⟨v,H2,I2,rv,e,d,ev,z0,z1,z2⟩=>?_
  subst ev
  obtain rfl:u=Value.ref e:=rv
  obtain⟨t,e0⟩:=VH.get I2.hok z1
  refine⟨e,t,_,rfl,I2.kIn _ _ hC,e0,?_⟩
  subst hX
  exact Jg I2 z1 z0 z2
 have hh:X.A.handled=none:=hr.hd
 rw[arm_exec_Raise]
 refine zW (vG (EX.raise_own (C:=C) (nm:=nm) (q:=qn) (N:=N') (bs:=bs) (sn:=sn) (sub:=sub) (ab:=ab) (col:=col) (dd:=dd) (k0:=k0) (k1:=k1) (k2:=k2) (k3:=k3) (k5:=k5) (newId:=newId) (hdct:=true) FF.hasBase hh ?_))
 exact zW (YB key λv s₁ z=>zW (vG (zX z)))
end
section
variable {X:Cx}{pins:List (Addr×Obj)}{σ:St}{H:Hp}{s:Shared}{C e d:Addr}
theorem Zu.exPass{h':Heap}{ch:List Addr}{t':Nat}(I:Zu X pins σ H s)(hst:X.stack=X.env::X.outer)(hfr:X.env.frame=some X.env.locals)(hfn:∀x,X.fn x=true)(hex:X.ex=[])(k:EX.ExKeep (X.env::X.outer) e ch s.heap h') 
  (hn:∀b,b=e\/b∈ch->H b=none/\X.s₀.heap.get? b=none/\b≠X.env.locals/\(∀x c,X.env.cells.lookup x=some c->c≠b)/\∀p∈X.pn++pins,p.1≠b):Zu X pins σ H { s with heap:=h',toks:=t' }:=by
 have hf:EX.frsA (X.env::X.outer)=X.env.locals::X.fs:=by
  show(X.env::X.outer).filterMap _=_
  rw[vL,hfr];rfl
 have in0:∀b o,X.s₀.heap.get? b=some o->b≠e/\b ∉ ch:=λb o q=>⟨λz=>(by have:=(hn b (.inl z)).2.1;rw[q]at this;cases this),λz=>(by have:=(hn b (.inr z)).2.1;rw[q]at this;cases this)⟩
 have nl:∀b o,X.s₀.heap.get? b=some o->b≠X.env.locals:=λb o q=>vC (zI (wM q) I.ok.above)
 have kp:∀b o,b≠e->b ∉ ch->b≠X.env.locals->b ∉ X.fs->s.heap.get? b=some o->h'.get? b=some o:=λb o z1 z2 z3 z4 q=>k.old b o z1 z2 (by rw[hf];exact λz=>(vP.mp z).elim z3 z4) q
 have fs0:∀b∈X.fs,b<X.s₀.heap.objs.size:=λb hb=>by
  obtain⟨_,o,ho,_⟩:=I.ok.funs.mem hb
  exact wM ho
 have th:∀b o,b≠e->b ∉ ch->s.heap.get? b=some o->∃sl,h'.get? b=some { o with slots:=sl }:=λb o z1 z2 q=>by
  by_cases z:b∈EX.frsA (X.env::X.outer)
  ·exact k.slot b o z q
  ·exact⟨o.slots,k.old b o z1 z2 z q⟩
 have tr:∀b o,H b=some o->b≠e/\b ∉ ch/\b ∉ EX.frsA (X.env::X.outer):=λb o q=>⟨λz=>(by rw[(hn b (.inl z)).1]at q;cases q),λz=>(by rw[(hn b (.inr z)).1]at q;cases q),λz=>(by have:=I.stkFree b (by rw[hst];exact z);rw[q]at this;cases this)⟩
 refine⟨I.ok,I.os,I.bare,⟨λb o q n hb hx=>?_,λb o q n hb hx=>?_,I.base.free,λb o q hx=>?_,I.base.tups,I.base.frzs,I.base.tbls⟩,?_,λx c q=>?_,I.free,I.freeC,λp hp=>?_,λb o q=>?_,I.len⟩
 ·exact kp b o (in0 b o q).1 (in0 b o q).2 (nl b o q) hb (I.base.keep b o q n hb hx)
 ·obtain⟨sl,e1⟩:=I.base.slot b o q n hb hx
  obtain⟨sl',e2⟩:=th b _ (in0 b o q).1 (in0 b o q).2 e1
  exact⟨sl',e2⟩
 ·obtain⟨o',e1⟩:=I.base.there b o q hx
  obtain⟨sl,e2⟩:=th b _ (in0 b o q).1 (in0 b o q).2 e1
  exact⟨_,e2⟩
 ·obtain⟨m,⟨o,es,ep,ho,hr⟩,hl⟩:=I.loc
  have z1:X.env.locals≠e:=λz=>(hn _ (.inl rfl)).2.2.1 z.symm
  have z2:X.env.locals ∉ ch:=λz=>(hn _ (.inr z)).2.2.1 rfl
  obtain⟨sl,e2⟩:=th _ _ z1 z2 ho
  refine⟨m,⟨_,es,ep,e2,hr⟩,λi x v a1 a2 a3=>?_⟩
  obtain⟨u,ru,lk⟩:=hl i x v a1 a2 a3
  refine⟨u,ru,lk.imp id λ⟨hk,c,hc,hcell⟩=>⟨hk,c,hc,?_⟩⟩
  obtain⟨oc,hoc,hd⟩:=hcell
  refine⟨oc,kp c oc (λz=>(hn c (.inl z)).2.2.2.1 x c hc rfl) (λz=>(hn c (.inr z)).2.2.2.1 x c hc rfl) (I.cne x c hc) (λz=>?_) hoc,hd⟩
  exact absurd (zI (fs0 c z) (I.ok.cab x c (hfn x) hc)) (vJ _)
 ·obtain⟨v,oc,hoc,hd⟩:=I.cell x c q
  refine⟨v,oc,kp c oc (λz=>(hn c (.inl z)).2.2.2.1 x c q rfl) (λz=>(hn c (.inr z)).2.2.2.1 x c q rfl) (I.cne x c q) (λz=>?_) hoc,hd⟩
  exact absurd (zI (fs0 c z) (I.ok.cab x c (hfn x) q)) (vJ _)
 ·obtain⟨p1,p2,p3,p4,p5⟩:=I.pin p hp
  exact⟨kp p.1 p.2 (λz=>(hn _ (.inl z)).2.2.2.2 p hp rfl) (λz=>(hn _ (.inr z)).2.2.2.2 p hp rfl) p3 p4 p1,p2,p3,p4,p5⟩
 ·obtain⟨t1,t2,t3⟩:=tr b o q
  refine(I.hok b o q).stay (λc u hc r=>?_) (λ_ r=>r) λ_ _ r=>r
  rcases hc with hc|hc
  ·rw[hc]at r |-;exact k.old b u t1 t2 t3 r
  ·obtain⟨w1,w2,w3⟩:=tr c _ hc
   exact k.old c u w1 w2 w3 r
theorem Ul{M:Model}{A:Around}{E:Value->Shared->Prop}{i:Nat}{x:Str}{pos:Pos}{Q:Unit->Shared->Prop}(I:Zu X pins σ H s)(hN:X.N.Nodup)(hi:X.N[i]? = some x)(hx:X.env.scope.names.lookup x=some .local) 
  (h:∀s',Zu X pins (σ.set i none) H s'->Q () s'):wpAny M A (do bindName X.env x .none;unbindBehindTheSuite X.env x pos) Q E s:=by
 obtain⟨m,hn,hl⟩:=id I.loc
 have hcls:(X.env.scope.kind == .class||(X.env.scope.kind == .module&&X.env.locals != X.env.globals))=false:=by rw[I.ok.kind];rfl
 refine wpAny_nameGoes_keeps hx hn hcls λh' v hn' hs=>?_
 have nl:∀b o,X.s₀.heap.get? b=some o->b≠X.env.locals:=λb o q=>vC (zI (wM q) I.ok.above)
 have tr:∀b o,H b=some o->b≠X.env.locals:=λb o q z=>by rw[z,I.free]at q;cases q
 refine h _ ⟨I.ok,I.os,I.bare,⟨λb o q n hb hx=>(hs.2 b (nl b o q)).trans (I.base.keep b o q n hb hx),λb o q n hb hx=>?_,I.base.free,λb o q hx=>?_,I.base.tups,I.base.frzs,I.base.tbls⟩,⟨_,hn',λj y w a1 a2 a3=>?_⟩,λy c q=>?_,I.free,I.freeC,λp hp=>?_,λb o q=>?_,by simpa using I.len⟩
 ·obtain⟨sl,e1⟩:=I.base.slot b o q n hb hx
  exact⟨sl,(hs.2 b (nl b o q)).trans e1⟩
 ·obtain⟨o',e1⟩:=I.base.there b o q hx
  exact⟨o',(hs.2 b (nl b o q)).trans e1⟩
 ·have hj:j≠i:=λz=>by
   rw[z]at a2
   have:i<σ.length:=by rw[I.len];exact(vS.mp hi).1
   rw[vT this]at a2;cases a2
  rw[vU (wC hj)]at a2
  obtain⟨u,ru,lk⟩:=hl j y w a1 a2 a3
  have hy:y≠x:=λz=>hj (Qa hN (by rw[<- z];exact a1) hi)
  refine⟨u,ru,?_⟩
  rcases lk with ⟨hk,hm⟩|⟨hk,c,hc,oc,hoc,hd⟩
  ·exact .inl ⟨hk,by show(if y=x then _ else _)=_;rw[wT hy];exact hm⟩
  ·exact .inr ⟨hk,c,hc,oc,(hs.2 c (I.cne y c hc)).trans hoc,hd⟩
 ·obtain⟨w,oc,hoc,hd⟩:=I.cell y c q
  exact⟨w,oc,(hs.2 c (I.cne y c q)).trans hoc,hd⟩
 ·obtain⟨p1,p2,p3,p4,p5⟩:=I.pin p hp
  exact⟨(hs.2 _ p3).trans p1,p2,p3,p4,p5⟩
 ·refine(I.hok b o q).stay (λc u hc r=>(hs.2 c ?_).trans r) (λ_ r=>r) λ_ _ r=>r
  rcases hc with hc|hc
  ·rw[hc];exact tr b o q
  ·exact tr c _ hc
end
abbrev Cx.still(X:Cx):Cx:={ X with xe:=λ_ _=>False }
abbrev Cx.suite(X:Cx)(e:Addr):Cx:={ X with A:=X.A.mark (some (.ref e)),calm:=false,cold:=false,xe:=λ_ _=>False }
section
variable {X:Cx}{pins:List (Addr×Obj)}{σ:St}{H:Hp}{s:Shared}{C e d:Addr}{oe:Obj}
theorem Zu.still(I:Zu X pins σ H s):Zu X.still pins σ H s:=
 ⟨⟨I.ok.mod,I.ok.kind,I.ok.glob,I.ok.blt,I.ok.above,I.ok.inj,I.ok.has,I.ok.cab,I.ok.hd,I.ok.cd,I.ok.frames,I.ok.stk,I.ok.exf,I.ok.bs,I.ok.bsz,I.ok.noex,I.ok.exfs,I.ok.funs,I.ok.frf⟩,I.os,I.bare,I.base,I.loc,I.cell,I.free,I.freeC,I.pin,I.hok,I.len⟩
theorem Zu.live(I:Zu X.still pins σ H s):Zu X pins σ H s:=
 ⟨⟨I.ok.mod,I.ok.kind,I.ok.glob,I.ok.blt,I.ok.above,I.ok.inj,I.ok.has,I.ok.cab,I.ok.hd,I.ok.cd,I.ok.frames,I.ok.stk,I.ok.exf,I.ok.bs,I.ok.bsz,I.ok.noex,I.ok.exfs,I.ok.funs,I.ok.frf⟩,I.os,I.bare,I.base,I.loc,I.cell,I.free,I.freeC,I.pin,I.hok,I.len⟩
theorem Zu.suite(I:Zu X pins σ H s):Zu (X.suite e) pins σ H s:=
 ⟨⟨I.ok.mod,I.ok.kind,I.ok.glob,I.ok.blt,I.ok.above,I.ok.inj,I.ok.has,I.ok.cab,(λh=>(by cases h)),(λh=>(by cases h)),I.ok.frames,I.ok.stk,I.ok.exf,I.ok.bs,I.ok.bsz,I.ok.noex,I.ok.exfs,I.ok.funs,I.ok.frf⟩,I.os,I.bare,I.base,I.loc,I.cell,I.free,I.freeC,I.pin,I.hok,I.len⟩
theorem Zu.leave(I:Zu (X.suite e) pins σ H s)(O:X.Ok):Zu X pins σ H s:=
 ⟨⟨I.ok.mod,I.ok.kind,I.ok.glob,I.ok.blt,I.ok.above,I.ok.inj,I.ok.has,I.ok.cab,O.hd,O.cd,I.ok.frames,I.ok.stk,I.ok.exf,I.ok.bs,I.ok.bsz,I.ok.noex,I.ok.exfs,I.ok.funs,I.ok.frf⟩,I.os,I.bare,I.base,I.loc,I.cell,I.free,I.freeC,I.pin,I.hok,I.len⟩
theorem Zu.trackX{o:HO}(I:Zu X pins σ H s)(hH:H e=none)(h0:X.s₀.heap.get? e=none/\e≠X.env.locals/\(∀x c,X.env.cells.lookup x=some c->c≠e)/\∀p∈X.pn++pins,p.1≠e)(ok:YV X.prog X.w H s.heap e o):Zu X pins σ (upd H e o) s:=by
 obtain⟨h0,hl,hc,hp⟩:=h0
 have nt:∀b o,H b=some o->b≠e:=λb o q z=>by rw[z,hH]at q;cases q
 refine⟨I.ok,I.os,I.bare,⟨I.base.keep,I.base.slot,λb o q n hx=>?_,I.base.there,λb xs q=>?_,λb o u q=>?_,λb ps q=>?_⟩,I.loc,I.cell,?_,λx c q=>?_,λp q=>?_,λb ob q=>?_,I.len⟩
 ·rw[Zk λz=>by rw[z,h0]at q;cases q];exact I.base.free b o q n hx
 ·have z:=I.base.tups b xs q;rw[Zk (nt b _ z)];exact z
 ·have z:=I.base.frzs b o u q;rw[Zk (nt b _ z)];exact z
 ·obtain⟨more,z⟩:=I.base.tbls b ps q;exact⟨more,by rw[Zk (nt b _ z)];exact z⟩
 ·rw[Zk (wC hl)];exact I.free
 ·rw[Zk (hc x c q)];exact I.freeC x c q
 ·obtain⟨p1,p2,p3⟩:=I.pin p q
  exact⟨p1,by rw[Zk (hp p q)];exact p2,p3⟩
 ·by_cases z:b=e
  ·subst z
   rw[Z9]at q;cases q
   exact ok.stay (λ_ _ _ r=>r) (λc r=>by rw[Zk (nt c _ r)];exact r) λc xs r=>by rw[Zk (nt c _ r)];exact r
  ·rw[Zk z]at q
   exact(I.hok b ob q).stay (λ_ _ _ r=>r) (λc r=>by rw[Zk (nt c _ r)];exact r) λc xs r=>by rw[Zk (nt c _ r)];exact r
theorem Zu.notThere{b:Addr}(I:Zu X pins σ H s)(hex:X.ex=[])(h:s.heap.get? b=none):X.s₀.heap.get? b=none/\b≠X.env.locals/\(∀x c,X.env.cells.lookup x=some c->c≠b)/\∀p∈X.pn++pins,p.1≠b:=by
 refine⟨I.base.old (by rw[hex];exact λz=>nomatch z) h,λz=>?_,λx c q z=>?_,λp hp z=>?_⟩
 ·obtain⟨m,⟨o,_,_,ho,_⟩,_⟩:=I.loc
  rw[<- z,h]at ho;cases ho
 ·obtain⟨v,o,ho,_⟩:=I.cell x c q
  rw[z,h]at ho;cases ho
 ·have:=(I.pin p hp).1
  rw[z,h]at this;cases this
end
section
variable {prog:Program}{w:World}{A:Around}{E:Value->Shared->Prop}{s:Shared}{env:Env}
theorem SE{e C:Addr}{t:Expr}{n:Str}{b₀:Stmt}{suite:List Stmt}{pos:Pos}{rest:List ExceptHandler}{Q:Flow->Shared->Prop}{nm q N bs bm hdct sn sub ab col dd k0 k1 k2 k3 k5 newId}(hbase:bm.contains (.type "BaseException")=true) 
  (h:wpAny (model prog w) (A.mark (some (.ref e))) (eval t env) (λc s₁=>c=.ref C/\s₁.heap.get? C=some (excClassObj nm q C N bs bm hdct sn sub ab col dd k0 k1 k2 k3 k5 newId)/\(∃oe,s₁.heap.get? e=some oe/\oe.cls=.ref C) /\
   wpAny (model prog w) (A.mark (some (.ref e))) (setFlight (.ref e) none) (λ_ s₂=>
    wpAny (model prog w) (A.mark (some (.ref e))) (storeName env n (.ref e)) (λ_ s₃=>
     wpAny (model prog w) (A.mark (some (.ref e))) (execs (b₀::suite) env)
      (λf s₄=>wpAny (model prog w) A (do bindName env n .none;unbindBehindTheSuite env n pos) (λ_ s₅=>Q f s₅) E s₄)
      (λ_ _=>False) s₃) (λ_ _=>False) s₂) (λ_ _=>False) s₁) (λ_ _=>False) s) :
  wpAny (model prog w) A (handleBy (.ref e) env (.ExceptHandler (some t) (some n) (b₀::suite) pos::rest)) Q E s:=by
 refine wpAny_handleBy_cons (codeAny_handlers_test (vW h (λc s₁ h₁=>?_) λ_ _ x=>x.elim)) (by intro q;cases q)
 obtain⟨rfl,hC,⟨oe,he,hcls⟩,hk⟩:=h₁
 obtain⟨h1,g1,d1,t1,o1⟩:=s₁
 refine wpAny_excMatches_sub_self hC he hcls hbase ?_
 exact codeAny_handlers_suite_as (vW hk (λ_ s₂ h₂=>vW h₂ (λ_ s₃ h₃=>vW h₃ (λf s₄ h₄=>h₄) λ_ _ x=>x.elim) λ_ _ x=>x.elim) λ_ _ x=>x.elim)
end
section
variable {X:Cx}{k:Nat}{f C:Addr}{fd:FuncData}{ps:List Str}{sp:Sp}{dvs:List V}{ds:List Value}{i j:Nat}{x y cn n:Str}{e:Expr}{es:List Expr}{t:TA}{ts:Addr->Addr->TS}{b₀:Stmt}{suite:List Stmt}{np fp cp hp cpos apos pos:Pos}{B initId:String}{fld:Str}{fI:Addr}
theorem Dv(c:EC X.K C B initId fld fI)(hgC:Gl X cn)(hmC:X.mg cn=some (.ref C))(hs:∀e d,U6 (X.suite e) (b₀::suite) (ts e d))(hN:X.N.Nodup)(hj:X.N[j]? = some n)(hn:X.env.scope.names.lookup n=some .local) 
  (hst:X.stack=X.env::X.outer) (hfr:X.env.frame=some X.env.locals) (hfn:∀x,X.fn x=true) (hex:X.ex=[]) (hdbC:(cn == ("__debug__" : Str))=false) {pins:List (Addr×Obj)}{σ:St}{H1:Hp}{s1 s2:Shared}{D:O6}{ev:Value} (I1:Zu X pins σ H1 s1)
  (hq:Ma X.prog X.w X.stack H1 s1 (λcv dx H2=>∃d,cv=.ref C/\dx=some d/\∀e oe,H2 e=none->AL C d oe->ts e d ⟨λσ' H'=>D.nx (σ'.set j none) H',D.rt,λσ' H'=>D.bk (σ'.set j none) H',λσ' H'=>D.ct (σ'.set j none) H'⟩ (σ.set j (some (.ref e))) (upd H2 e (.frz oe (Mb C e d)))) ev s2) :
  wpAny (model X.prog X.w) X.A (noteFrame ev X.env) (λ_ s₂=>wpAny (model X.prog X.w) X.A (setFlight ev none) (λ_ s₃=>wpAny (model X.prog X.w) X.A (handleBy ev X.env [.ExceptHandler (some (.Name cn cp)) (some n) (b₀::suite) hp]) (SP X pins D) X.xe s₃) X.xe s₂) X.xe s2:=by
 obtain⟨e,C',d,T,H2,rfl,ho,hbare,un,hok,x1,x2,hTe,n1,n2,m1,m2,d',hC',hd',q2⟩:=hq
 cases hC';cases hd'
 obtain⟨nm,qn,N',bs,bm,sn,sub,ab,col,dd,k0,k1,k2,k3,k5,newId,sa,owner,mN,oI,hC,hN',hi',hs',hf',FF,SF,hB,hfI,hfc⟩:=c.ex
 have I2:=I1.call' (ch:=[]) ho un hok hbare (λb z=>nomatch z)
 have ne:=I1.notThere hex n1
 have nT:=I1.notThere hex n2
 have hstk:s2.heap.FunFrames X.base (X.env::X.outer):=by rw[<- hst];exact I2.stack
 refine EX.note_next (T:=T) (by rw[I2.ok.frames,hst]) hstk hfr x1 x2 hTe λh' T' hT' y1 y2 y3=>?_
 have I3:=I2.exPass (ch:=[T]) (h':=h') (t':=s2.toks) hst hfr hfn hex y3 (λb z=>by
  rcases z with rfl|z
  ·exact⟨m1,ne⟩
  ·rw[xQ]at z;rw[z];exact⟨m2,nT⟩)
 obtain⟨oe,vs',he',hc',hdx',hd',f1,f2⟩:=y1.ex
 obtain⟨oT,tv,hoT,hdT,f3⟩:=y2
 have heT:e≠T':=λz=>by
  obtain⟨o1,_,z1,_⟩:=x1.ex
  have:=wM z1
  rw[z]at this;exact absurd (zI this hT') (vJ _)
 have I4:=I3.suite (e:=e)
 refine SE (C:=C) (nm:=nm) (q:=qn) (N:=N') (bs:=bs) (sn:=sn) (sub:=sub) (ab:=ab) (col:=col) (dd:=dd) (k0:=k0) (k1:=k1) (k2:=k2) (k3:=k3) (k5:=k5) (newId:=newId) (hdct:=true) FF.hasBase ?_
 refine Uq (X:=X.suite e) I4 hgC hmC ⟨rfl,I4.kIn _ _ hC,⟨oe,he',hc'⟩,?_⟩ hdbC
 refine wpAny_setFlight_none he' hd' f1 hoT hdT (sC.mp f3).1 ?_
 have other:∀b,b≠T'->(h'.update T' (Obj.mapFields (·.setIfInBounds 3 Value.none))).get? b=h'.get? b:=λb hb=>wB _ _ (wC hb)
 have nT':=I2.notThere hex (vO hT')
 have I5:=I3.exPass (ch:=[T']) (h':=h'.update T' (Obj.mapFields (·.setIfInBounds 3 Value.none))) (t':=s2.toks) hst hfr hfn hex ⟨λb o z1 z2 z3 z4=>(other b λz=>z2 (by rw[z];exact xQ.mpr rfl)).trans z4,λb o z1 z2=>⟨o.slots,(other b λz=>by
   obtain⟨_,o',ho',_⟩:=hstk.mem z1
   have:=wM ho'
   rw[z]at this;exact absurd (zI this hT') (vJ _)).trans z2⟩⟩ (λb z=>by
  rcases z with rfl|z
  ·exact⟨m1,ne⟩
  ·rw[xQ]at z;rw[z];exact⟨I2.hok.fresh hT',nT'⟩)
 have I6:=(I5.trackX (o:=.frz oe (Mb C e d)) m1 ne ⟨(other e heT).trans he',Mb.ok ((other e heT).trans he') ⟨hc',hdx',vs',hd',f2⟩⟩).suite (e:=e)
 refine Uh (X:=X.suite e) (v:=.ref e) I6 hN hj (.inl hn) rfl (λs6 I7=>?_) (.inr hn)
 refine YB (hs e d pins s6 _ _ _ I7 (q2 e oe m1 ⟨hc',hdx',vs',hd',f2⟩)) λfl s7 z=>?_
 cases fl with
 | next=>
  obtain⟨σ',H',I8,q⟩:=z
  exact Ul (I8.leave I1.ok) hN hj hn λs8 I9=>⟨_,_,I9,q⟩
 | brk=>
  obtain⟨σ',H',I8,q⟩:=z
  exact Ul (I8.leave I1.ok) hN hj hn λs8 I9=>⟨_,_,I9,q⟩
 | cont=>
  obtain⟨σ',H',I8,q⟩:=z
  exact Ul (I8.leave I1.ok) hN hj hn λs8 I9=>⟨_,_,I9,q⟩
 | ret u=>
  obtain⟨v,σ',H',I8,rv,q⟩:=z
  exact Ul (I8.leave I1.ok) hN hj hn λs8 I9=>⟨v,_,_,I9,rv,q⟩
end
section
variable {X:Cx}{pins:List (Addr×Obj)}{σ:St}{H:Hp}{s:Shared}{C e d:Addr}{oe:Obj}{fs:List (Str×V)}{fld:Str}{ex:Expr}{ta:TE}{pos:Pos}
theorem IG(I:Zu X pins σ H s)(he:H e=some (.frz oe (Mb C e d)))(hd:H d=some (.xd fs)):∃od,PySem.W.InstAt s.heap e oe C (some od)/\∀f v,fs.lookup f=some v->∃u,PySem.W.lookIn f od=some (some u)/\ZI v u:=by
 obtain⟨h1,⟨oe',h2,x⟩,_⟩:=I.hok e _ he
 rw[h1]at h2;cases h2
 obtain⟨mA,n,r⟩:=I.hok d _ hd
 obtain⟨od,ho,hl⟩:=QZ n
 obtain⟨vs,hf,_⟩:=x.fl
 refine⟨od,⟨h1,x.cls,by unfold PySem.W.notCls;rw[hf],by rw[x.dict];exact ho⟩,λf v q=>?_⟩
 obtain⟨u,hu,ru⟩:=Vy.some_of (v:=v) (o:=mA f) (by rw[<- q];exact r f)
 exact⟨u,by rw[hl,hu],ru⟩
def A3(C:Addr)(fld:Str)(ta:TE):TE:=λσ H Q=>ta σ H λx H1=>∃e d oe fs v,x=.ref e/\H1 e=some (.frz oe (Mb C e d))/\H1 d=some (.xd fs)/\fs.lookup fld=some v/\Q v H1
theorem Gk(G:EX.ExGet X.K C)(hD:PySem.W.hasDictIn X.K C=true)(hn:PySem.W.findIn X.K (.ref C) fld=some none)(he:PE X ex ta)(hb:attributeBase ex fld X.env (eval ex X.env)=eval ex X.env):PE X (.Attribute ex fld pos) (A3 C fld ta):=by
 intro pins s σ H Q I h
 refine Lp hb (YB (he pins s σ H _ I h) λu s1 ⟨x,H1,I1,rx,e,d,oe,fs,v,ev,z1,z2,z3,q⟩=>?_)
 subst ev
 obtain rfl:u=Value.ref e:=rx
 obtain⟨od,J,l⟩:=IG I1 z1 z2
 obtain⟨u,hu,ru⟩:=l _ _ z3
 exact EX.exc_get I1.kIn J G (EX.find_own hD hn hu) (QS ru) ⟨v,H1,I1.tok _,ru,q⟩
theorem ZU(G:EX.ExCls X.K C):Y0 X (.builtin "isinstance") (λxs H Q=>∃e d oe fs c cv b,xs=[.ref e,c]/\(∀u,ZI c u->u=cv)/\H e=some (.frz oe (Mb C e d))/\H d=some (.xd fs)/\PySem.W.kitOne X.K (.ref C) cv=some b/\Q (.bl b) H):=by
 intro pins s σ H xs us Q I r ⟨e,d,oe,fs,c,cv,b,ex,rc,z1,z2,z3,q⟩
 subst ex
 cases r with
 | cons r1 r2=>
  cases r2 with
  | cons r2 r3=>
   cases r3
   rename_i u1 u2
   obtain rfl:u1=Value.ref e:=r1
   obtain⟨od,J,_⟩:=IG I z1 z2
   obtain rfl:=rc _ r2
   exact EX.exc_isi I.kIn J G z3 λtk=>⟨.bl b,H,I.tok _,rfl,q⟩
end
def Xv(k:Nat)(A:Around):Prop:=ZZ k { A with handled:=none }
theorem Xv.mono{j k:Nat}{A:Around}(r:Xv k A)(h:j≤k):Xv j A:=ZZ.mono (A:={ A with handled:=none }) r h
theorem ZZ.H{k:Nat}{A:Around}(r:ZZ k A):Xv k A:=⟨rfl,r.dp,r.un,r.gd⟩
theorem Xv.gd{k:Nat}{A:Around}(r:Xv k A):A.guards=some []:=ZZ.gd (A:={ A with handled:=none }) r
theorem Xv.units{k:Nat}{A:Around}(r:Xv k A):A.units+64<cLine:=ZZ.units (A:={ A with handled:=none }) r
theorem Xv.un{k:Nat}{A:Around}(r:Xv k A):A.units+16*k+200<cLine:=ZZ.un (A:={ A with handled:=none }) r
structure Ll(P:Program)(w:World)(K:Frag)(mg:Str->Option Value)(base:Heap)(k:Nat)(f:Addr)(fd:FuncData)(ps:List Str)(sp:Sp):Prop where
 len:∀vs H Q E,sp vs H Q E->vs.length=ps.length
 run:∀(A:Around) (outer:List Env) (s:Shared) (H:Hp) (args:Args) (us:List Value) (vs:List V) (Q:VK),Xv k A->A.handled=none\/Rk A H->VI P w K mg base A outer s H->BindsTo s fd args (ps.zip us)->ZH vs us->sp vs H Q E0 ->
  codeAny (model P w) A (.call (.ref f) args) (CR UC outer P w H s Q E0) s
abbrev cxH(P:Program)(w:World)(K:Frag)(mg:Str->Option Value)(base:Heap)(N:List Str)(qual:Str)(scope:Scope)(f:Addr)(cd:Value)(A:Around)(outer:List Env)(s:Shared)(H:Hp):Cx:={ Xw UC P w K mg base N qual scope f cd A outer s H E0 with cold:=false,xe:=λ_ _=>False }
section
variable {P:Program}{w:World}{K:Frag}{mg:Str->Option Value}{base:Heap}{N ps:List Str}{qual:Str}{scope:Scope}{f:Addr}{cd:Value}{A:Around}{outer:List Env}{s s1:Shared}{H:Hp}{us:List Value}{vs:List V}
theorem VI.cool(e:VI P w K mg base A outer s H):VI P w K mg base { A with handled:=none } outer s H:=⟨e.frames,e.mod,e.bs,e.bsz,e.funs,e.frf,e.hok,e.bare⟩
theorem MB(S:Zv N ps scope)(hot:A.handled=none\/Rk A H)(e0:VI P w K mg base A outer s H)(hl:vs.length=ps.length)(r:ZH vs us) 
  (x:InCallC s s.heap.objs.size (bindL (envOfC qual scope s.heap.objs.size f cd).kindOf (ps.zip us) λ_=>none) (cellsFrom (s.heap.objs.size+1) scope.names []) (bindC (envOfC qual scope s.heap.objs.size f cd).kindOf (ps.zip us) λ_=>none) s1) :
  Zu (cxH P w K mg base N qual scope f cd A outer s H) [] (YG N vs) H s1:=by
 have I:=QW (CX:=UC) (A:={ A with handled:=none }) (E:=E0) S rfl e0.cool hl r x
 exact⟨⟨I.ok.mod,I.ok.kind,I.ok.glob,I.ok.blt,I.ok.above,I.ok.inj,I.ok.has,I.ok.cab,λ_=>hot,(λh=>(by cases h)),Around.frames_deeper e0.frames,I.ok.stk,I.ok.exf,I.ok.bs,I.ok.bsz,I.ok.noex,I.ok.exfs,I.ok.funs,I.ok.frf⟩,I.os,I.bare,I.base,I.loc,I.cell,I.free,I.freeC,I.pin,I.hok,I.len⟩
end
theorem C_{P:Program}{w:World}{K:Frag}{mg:Str->Option Value}{base:Heap}{k:Nat}{f:Addr}{name qual:Str}{params:Arguments}{body:List Stmt}{scope:Scope}{dV kV doc pm cdv ct oc:Value}{an od:Option Addr} 
  {osl:Array (Option Value)}{N ps:List Str}{sp:Sp} (lk:K.lookup f=some ⟨oc,od,.func (PySem.W.fnOf name qual params body scope dV kV doc pm an cdv ct),osl⟩) (hcd:PySem.W.codeIn K cdv qual=true) (S:Zv N ps scope)
  (len:∀vs H Q E,sp vs H Q E->vs.length=ps.length)
  (hbody:∀(A:Around) (outer:List Env) (s:Shared) (H:Hp) (vs:List V) (Q:VK),Xv k (A.deeper (envOfC qual scope s.heap.objs.size f cdv))->sp vs H Q E0 ->
   ∃t,U6 (cxH P w K mg base N qual scope f cdv A outer s H) body t/\t { nx:=λ_ H'=>Q .non H',rt:=Q } (YG N vs) H) :
  Ll P w K mg base (k+1) f (PySem.W.fnOf name qual params body scope dV kV doc pm an cdv ct) ps sp:=by
 refine⟨len,λA outer s H args us vs Q hr hot e0 hb r hsp=>?_⟩
 have hl:=len _ _ _ _ hsp
 have KX:K.In s.heap:=e0.mod.kin.keeps λb o e=>(e0.bs b o e).1
 have lim:s.heap.NoLimit:=e0.mod.nolimit.keeps λb o e=>(e0.bs b o e).1
 have hkind:∀y∈ps.zip us,scope.names.lookup y.1=some .local \/ (scope.names.lookup y.1=some .cell/\((cellsFrom (s.heap.objs.size+1) scope.names []).lookup y.1).isSome=true):=λ⟨n,v⟩ hy=>(S.par n (uZ hy).1).imp id λq=>⟨q,yA _ _ _ (.inl q)⟩
 refine codeAny_call_function (show A.depth<recursionLimit from ZZ.depth (A:={ A with handled:=none }) hr) (KX _ _ lk) rfl S.co S.gen rfl (PySem.W.codeRec_of KX hcd) (hb _ _ _ _ ?_)
 refine wpAny_newFunctionEnv_cells S.kind hkind λenv he s1 x=>?_
 subst he
 refine⟨lim.keeps x.toInCall.keep,codeAny_func ?_⟩
 obtain⟨t,ht,hq⟩:=hbody A outer s H vs Q (ZZ.deeper (A:={ A with handled:=none }) hr _) hsp
 refine vW (ht [] s1 (YG N vs) H _ (MB S hot e0 hl r x) hq) (λfl s' hs=>?_) λe s' hs=>hs.elim
 cases fl with
 | ret u=>
  obtain⟨v,σ',H',J,rv,q⟩:=hs
  exact⟨v,H',J.os,J.bare,J.base,J.hok,rv,q⟩
 | next=>
  obtain⟨σ',H',J,q⟩:=hs
  exact⟨.non,H',J.os,J.bare,J.base,J.hok,rfl,q⟩
 | brk=>
  obtain⟨_,_,_,q⟩:=hs
  exact False.elim q
 | cont=>
  obtain⟨_,_,_,q⟩:=hs
  exact False.elim q
section
variable {X:Cx}{k:Nat}{f:Addr}{fd:FuncData}{ps:List Str}{sp:Sp}{x:Str}{p pos:Pos}{e:Expr}{es:List Expr}{t:TA}
def Oz(A:Around)(sp:Sp)(t:TA):TE:=λσ H Q=>t σ H λvs H1=>Rk A H1/\sp vs H1 Q E0
theorem Gh{R:List V->Hp->VK->Prop}(hR:∀pins s σ H vs Q,Zu X pins σ H s->R vs H Q->(X.A.handled=none\/Rk X.A H)/\sp vs H Q E0)(F:Ll X.prog X.w X.K X.mg X.base k f fd ps sp)(hr:Xv k X.A)(hg:Gl X x)(hm:X.mg x=some (.ref f))(hk:PySem.W.keepIn X.K (.ref f)=true)(hb:XE X.K fd ps [])(ha:PA X (e::es) t)(hdb:(x == ("__debug__" : Str))=false:=by decide) 
  (he:starEach (e::es) X.env=(false,eval e X.env)::starEach es X.env:=by rfl) (hpl:(backTo pos (starEach es X.env)).any (·.1)=false:=by rfl):PE X (.Call (.Name x p) (e::es) [] pos) (λσ H Q=>t σ H λvs H1=>R vs H1 Q):=by
 intro pins s σ H Q I h
 refine uW (Uq I hg hm ?_ hdb)
 refine uX (h₀:=X.base) I.ok.mod.kin hk (YB (ha pos pins s σ H _ I h) λus s1 ⟨vs,H1,I1,r,hq⟩=>⟨I1.kIn,?_⟩) he hpl
 obtain⟨hot,q⟩:=hR _ _ _ _ _ _ I1 hq
 have hl:(us++[]).length=ps.length:=by rw[uT,<- r.length];exact F.len _ _ _ _ q
 have hb1:=hb s1 us I1.kIn hl
 rw[uT]at hb1
 refine uU (uV (F.run X.A X.stack s1 H1 ⟨us,[]⟩ us vs Q hr hot I1.env0 hb1 r q) λr s' hq=>?_)
 cases r with
 | error e=>exact False.elim hq
 | ok fl=>
  cases fl with
  | ret u=>exact I1.after hq
  | next=>exact False.elim hq
  | brk=>exact False.elim hq
  | cont=>exact False.elim hq
theorem Gi(F:Ll X.prog X.w X.K X.mg X.base k f fd ps sp)(hr:Xv k X.A)(hg:Gl X x)(hm:X.mg x=some (.ref f))(hk:PySem.W.keepIn X.K (.ref f)=true)(hb:XE X.K fd ps [])(ha:PA X (e::es) t)(hdb:(x == ("__debug__" : Str))=false:=by decide) 
  (he:starEach (e::es) X.env=(false,eval e X.env)::starEach es X.env:=by rfl) (hpl:(backTo pos (starEach es X.env)).any (·.1)=false:=by rfl):PE X (.Call (.Name x p) (e::es) [] pos) (Oz X.A sp t):=
 Gh (R:=λvs H Q=>Rk X.A H/\sp vs H Q E0) (λ_ _ _ _ _ _ _ z=>⟨.inr z.1,z.2⟩) F hr hg hm hk hb ha hdb he hpl
end
section
variable {K:Frag}
theorem Ha{G:Hp}{fld:Str}{x:PyData}:∀{us:List (Str×V)}{fs:List (Str×PyData)},us.map (·.1)=fs.map (·.1)->ZT K G (fs.map (·.2)) (us.map (·.2))->fs.lookup fld=some x->∃u,us.lookup fld=some u/\DW K G x u
 | [],[],_,_,h=>by cases h
 | [],_::_,e,_,_=>by cases e
 | _::_,[],e,_,_=>by cases e
 | (a,u)::us,(b,y)::fs,e,d,h=>by
  simp only[uO,sE]at e
  rw[uO,uO]at d
  unfold ZT at d
  obtain⟨v,r,q,d1,d2⟩:=d
  cases q
  obtain⟨rfl,e⟩:=e
  rw[yY]at h |-
  split at h
  ·cases h;exact⟨u,rfl,d1⟩
  ·exact Ha e d2 h
def Za4(C:Addr)(fld:Str)(da:ZE):ZE:=λs k=>da s λv s1=>match v with | .exc _ C' _ fs=>C'=C/\∃x,fs.lookup fld=some x/\k (.d x) s1|_=>False
theorem Am{C:Addr}{fld:Str}{ta:TE}{da:ZE}(ha:RE K ta da):RE K (A3 C fld ta) (Za4 C fld da):=by
 refine⟨λs Q Q' h q=>ha.mo _ _ _ (λv s1 q=>?_) q,λG s σ H Q r q=>ha.ok G s σ H _ r (ha.mo _ _ _ (λv s1 y G1 H1 x e1 r1 v1=>?_) q)⟩
 ·split at q
  ·obtain⟨q1,x,q2,q3⟩:=q;exact⟨q1,x,q2,h _ _ q3⟩
  ·exact q.elim
 ·split at y
  ·obtain⟨rfl,z,hz,y⟩:=y
   obtain⟨rfl,oe,us,h1,h2,h3,h5,h4⟩:=v1
   obtain⟨u,hu,d⟩:=Ha h5 h4 hz
   exact⟨_,_,oe,_,u,rfl,r1.sub _ _ h1,r1.sub _ _ h2,hu,y G1 H1 u e1 r1 d⟩
  ·exact y.elim
def Ec(C:Addr)(isx:V->Option Bool):List Val->ZE:=λvs s k=>match vs with
 | [.exc _ C' _ _,.raw c]=>C'=C/\∃b,isx c=some b/\k (.d (.bool b)) s
 | _=>False
theorem Yr{C:Addr}{isx:V->Option Bool}(hi:∀c b,isx c=some b->∃cv,(∀u,ZI c u->u=cv)/\PySem.W.kitOne K (.ref C) cv=some b):
  RC K (λxs H Q=>∃e d oe fs c cv b,xs=[.ref e,c]/\(∀u,ZI c u->u=cv)/\H e=some (.frz oe (Mb C e d))/\H d=some (.xd fs)/\PySem.W.kitOne K (.ref C) cv=some b/\Q (.bl b) H) (Ec C isx):=by
 refine⟨λvs s Q Q' h q=>?_,λG s σ H xs vs Q r vr q=>?_⟩
 ·unfold Ec at q |-;split at q
  ·obtain⟨h1,b,h2,q⟩:=q;exact⟨h1,b,h2,h _ _ q⟩
  ·exact q.elim
 ·unfold Ec at q;split at q
  ·obtain⟨rfl,b,h2,q⟩:=q
   cases vr with
   | cons v1 v2=>
    cases v2 with
    | cons v2 v3=>
     cases v3
     obtain⟨rfl,oe,u,g1,g2,g3,g5,g4⟩:=v1
     cases v2
     obtain⟨cv,z1,z2⟩:=hi _ _ h2
     exact⟨_,_,oe,_,_,cv,b,rfl,z1,r.sub _ _ g1,r.sub _ _ g2,z2,q.here r Xj⟩
  ·exact q.elim
end
abbrev S1:=List Val->OW->(Val->OW->Prop)->(PyData->OW->Prop)->Prop
def MoX(f:S1):Prop:=∀vs w (k k':Val->OW->Prop) (x x':PyData->OW->Prop),(∀v w',k v w'->k' v w')->(∀v w',x v w'->x' v w')->f vs w k x->f vs w k' x'
def spX(K:Frag)(C:Addr)(fld:Str)(f:S1):Sp:=λvs H Q E=>∃(G:Hp) (w:OW) (as:List Val),Z7 G H/\YS K G w H/\VRs K G as vs /\
 f as w (λv w'=>∀G' H' x,Z7 G G'->Z7 G' H'->YS K G' w' H'->VR K G' v x->Q x H') (λx w'=>∀G' H' u d,Z7 G G'->Z7 G' H'->YS K G' w' H'->G' d=some (.xd [(fld,u)])->DW K G' x u->E (.ref C) (some d) H')
section
variable {K:Frag}{C:Addr}{fld:Str}
theorem Yu.unset{G H:Hp}{s:DS}{σ:St}(r:Yu K G s σ H)(j:Nat):Yu K G ⟨s.e.set j none,s.w⟩ (σ.set j none) H:=by
 refine r.env ⟨by simpa using r.sl.1,λi v z=>?_⟩
 by_cases h:i=j
 ·subst h
  rw[List.getElem?_set]at z
  simp at z
 ·rw[vU (wC h)]at z |-
  exact r.sl.2 i v z
def Mp(j:Nat)(E:WJ):WJ:={ nx:=λs=>E.nx ⟨s.e.set j none,s.w⟩,rt:=E.rt,bk:=λs=>E.bk ⟨s.e.set j none,s.w⟩,ct:=λs=>E.ct ⟨s.e.set j none,s.w⟩ }
end
structure FH(P:Program)(w:World)(K:Frag)(mg:Str->Option Value)(base:Heap)(k:Nat)(x:Str)(st:Stmt)(ps:List Str)(sp:Sp):Prop where
 ex:∃f fd,Ll P w K mg base k f fd ps sp/\Ws K x x st f fd/\mg x=some (.ref f)
section
variable {P:Program}{w:World}{K:Frag}{mg:Str->Option Value}{base:Heap}
theorem FH.of{x:Str}{st:Stmt}{N ps:List Str}{k:Nat}{sp:Sp}(U:∃f fd,Ws K x x st f fd/\mg x=some (.ref f))(S:Zv N ps (Zf st))(len:∀vs H Q E,sp vs H Q E->vs.length=ps.length) 
  (hbody:∀(f:Addr) (cdv:Value) (A:Around) (outer:List Env) (s:Shared) (H:Hp) (vs:List V) (Q:VK),Xv k (A.deeper (envOfC x (Zf st) s.heap.objs.size f cdv))->sp vs H Q E0 ->
   ∃t,U6 (cxH P w K mg base N x (Zf st) f cdv A outer s H) (ZR st) t/\t { nx:=λ_ H'=>Q .non H',rt:=Q } (YG N vs) H):FH P w K mg base (k+1) x st ps sp:=by
 obtain⟨f,fd,F,m⟩:=U
 obtain⟨oc,od,kV,doc,pm,an,cdv,ct,osl,rfl,lk,hcd⟩:=F.ex
 exact⟨f,_,C_ lk hcd S len λA outer s H vs Q hr hsp=>hbody f cdv A outer s H vs Q hr hsp,F,m⟩
theorem FH.data{x:Str}{st:Stmt}{N ps:List Str}{k:Nat}{f:Xb}(U:∃a fd,Ws K x x st a fd/\mg x=some (.ref a))(S:Zv N ps (Zf st))(len:∀vs w k,f vs w k->vs.length=ps.length) 
  (hbody:∀(a:Addr) (cdv:Value) (A:Around) (outer:List Env) (s:Shared) (H:Hp),Xv k (A.deeper (envOfC x (Zf st) s.heap.objs.size a cdv)) ->
   ∃t d,U6 (cxH P w K mg base N x (Zf st) a cdv A outer s H) (ZR st) t/\RS K t d/\∀(as:List Val) (o:OW) (q:Val->OW->Prop),f as o q->d { nx:=λs=>∃w',OW.le w' s.w/\q (.d .none) w',rt:=λv s=>∃w',OW.le w' s.w/\q v w' } ⟨Yw N as,o⟩):FH P w K mg base (k+1) x st ps (Wc K f):=by
 refine FH.of U S (λvs H Q E h=>?_) (λa cdv A outer s H vs Q hr h=>?_)
 ·obtain⟨G,o,as,_,_,h1,h2⟩:=h
  rw[<- h1.length];exact len _ _ _ h2
 ·obtain⟨G,o,as,h1,h2,h3,h4⟩:=h
  obtain⟨t,d,q1,q2,q3⟩:=hbody a cdv A outer s H hr
  refine⟨t,q1,q2 G ⟨Yw N as,o⟩ (YG N vs) H _ { nx:=λs=>∃w',OW.le w' s.w/\_,rt:=λv s=>∃w',OW.le w' s.w/\_ } ⟨h1,h2,Wa h3⟩ ⟨λs' G' σ' H' e r z=>?_,λv s' G' σ' H' x e r v1 z=>?_,λ_ _ _ _ _ _ z=>False.elim z,λ_ _ _ _ _ _ z=>False.elim z⟩ (q3 as o _ h4)⟩
  ·obtain⟨w',l,z⟩:=z
   exact z G' H' .non e r.sub (r.own.le l) Vg
  ·obtain⟨w',l,z⟩:=z
   exact z G' H' x e r.sub (r.own.le l) v1
end
section
variable {X:Cx}{K:Frag}{k:Nat}{x:Str}{st:Stmt}{ps:List Str}{sp:Sp}{p pos:Pos}{e:Expr}{es:List Expr}{t:TA}
theorem E9(D:FH X.prog X.w X.K X.mg X.base k x st ps sp)(hb:ZY x st ps)(hr:Xv k X.A)(ha:PA X (e::es) t)(hg:Gl X x:=by rfl)(hs:starEach (e::es) X.env=(false,eval e X.env)::starEach es X.env:=by rfl)(hpl:(backTo pos (starEach es X.env)).any (·.1)=false:=by rfl) 
  (hdb:(x == ("__debug__" : Str))=false:=by decide):PE X (.Call (.Name x p) (e::es) [] pos) (Oz X.A sp t):=by
 obtain⟨f,fd,F,U,m⟩:=D.ex
 exact Gi F hr hg m U.kp (U.binds hb) ha hdb hs hpl
def JU(e:Addr)(f:Xb)(da:XO):ZE:=λs k=>da s λvs s1=>(∃C d fs,some (Val.exc e C d fs)∈s1.e)/\f vs s1.w (λv w'=>k v ⟨s1.e,w'⟩)
theorem GF{A:Around}{a:Addr}{f:Xb}{da:XO}(hA:A.handled=some (.ref a))(hm:VJ f)(ha:RA K t da):RE K (Oz A (Wc K f) t) (JU a f da):=by
 refine⟨λs Q Q' h q=>ha.mo _ _ _ (λvs s1 q1=>⟨q1.1,hm _ _ _ _ (λv w' z=>h _ _ z) q1.2⟩) q,λG s σ H Q r h=>ha.ok G s σ H _ r (ha.mo _ _ _ (λvs s1 y G1 H1 xs e1 r1 v1=>?_) h)⟩
 obtain⟨⟨C,d,fs,m⟩,y⟩:=y
 obtain⟨i,hi⟩:=List.mem_iff_getElem?.mp m
 obtain⟨_,_,_,oe,u,g1,_,g3,_⟩:=r1.sl.2 i _ hi
 obtain⟨fl,h1,h2⟩:=g3.fl
 refine⟨⟨a,oe,_,fl,hA,r1.sub _ _ g1,h1,h2⟩,G1,s1.w,vs,r1.sub,r1.own,v1,hm _ _ _ _ (λv w' z G' H' x e2 u2 o2 vx=>?_) y⟩
 exact z G' H' x (e1.trans e2) ⟨u2,o2,r1.sl.same e2⟩ vx
end
def D7(K:Frag)(B:Hp)(t:TS)(d:Vh):Prop:=∀G s σ H D E,Z7 B G->Yu K G s σ H->A_ K G D E->d E s->t D σ H
def PoX(K:Frag)(C:Addr)(fld:Str)(B:Hp)(E:XK)(kx:PyData->OW->Prop):Prop:=∀x w' G' H' u d,Z7 B G'->Z7 G' H'->YS K G' w' H'->G' d=some (.xd [(fld,u)])->DW K G' x u->kx x w'->E (.ref C) (some d) H'
section
variable {K:Frag}{B:Hp}{C:Addr}{fld:Str}
theorem RS.b{t:TS}{d:Vh}(h:RS K t d):D7 K B t d:=λG s σ H D E _ r p q=>h G s σ H D E r p q
theorem De{t u:TS}{d e:Vh}(h:D7 K B t d)(q:D7 K B u e):D7 K B (Ds t u) (Iq d e):=by
 intro G s σ H D E b r p z
 refine h G s σ H _ { E with nx:=e E } b r ⟨λs' G' σ' H' e1 r1 z1=>?_,p.rt,p.bk,p.ct⟩ z
 exact q G' s' σ' H' D E (b.trans e1) r1 (p.same e1) z1
end
structure DnX(P:Program)(w:World)(K:Frag)(mg:Str->Option Value)(base:Heap)(k:Nat)(x:Str)(st:Stmt)(ps:List Str)(sp:Sp):Prop where
 ex:∃f fd,Xc P w K mg base (Ma P w) k f fd ps sp/\Ws K x x st f fd/\mg x=some (.ref f)
theorem DnX.data{P:Program}{w:World}{K:Frag}{mg:Str->Option Value}{base:Heap}{C:Addr}{fld x:Str}{st:Stmt}{N ps:List Str}{k:Nat}{f:S1}(U:∃a fd,Ws K x x st a fd/\mg x=some (.ref a))(S:Zv N ps (Zf st))(len:∀vs w k kx,f vs w k kx->vs.length=ps.length) 
  (hbody:∀(a:Addr) (cdv:Value) (A:Around) (outer:List Env) (s:Shared) (H B:Hp) (E:XK) (kx:PyData->OW->Prop),ZZ k (A.deeper (envOfC x (Zf st) s.heap.objs.size a cdv))->PoX K C fld B E kx ->
   ∃t d,U6 (Xw (Ma P w) P w K mg base N x (Zf st) a cdv A outer s H E) (ZR st) t/\D7 K B t d/\∀(as:List Val) (o:OW) (q:Val->OW->Prop),f as o q kx->d { nx:=λs=>∃w',OW.le w' s.w/\q (.d .none) w',rt:=λv s=>∃w',OW.le w' s.w/\q v w' } ⟨Yw N as,o⟩):DnX P w K mg base (k+1) x st ps (spX K C fld f):=by
 obtain⟨a,fd,F,m⟩:=U
 obtain⟨oc,od,kV,doc,pm,an,cdv,ct,osl,rfl,lk,hcd⟩:=F.ex
 refine⟨a,_,QR lk hcd S (λvs H Q E h=>?_) (λA outer s H vs Q E hr h=>?_),F,m⟩
 ·obtain⟨G,o,as,_,_,h1,h2⟩:=h
  rw[<- h1.length];exact len _ _ _ _ h2
 ·obtain⟨G,o,as,h1,h2,h3,h4⟩:=h
  obtain⟨t,d,q1,q2,q3⟩:=hbody a cdv A outer s H G E (kx:=λx w'=>∀G' H' u d,Z7 G G'->Z7 G' H'->YS K G' w' H'->G' d=some (.xd [(fld,u)])->DW K G' x u->E (.ref C) (some d) H') hr λx w' G' H' u d e1 e2 e3 e4 e5 z=>z G' H' u d e1 e2 e3 e4 e5
  refine⟨t,q1,q2 G ⟨Yw N as,o⟩ (YG N vs) H _ { nx:=λs=>∃w',OW.le w' s.w/\_,rt:=λv s=>∃w',OW.le w' s.w/\_ } (Z7.refl G) ⟨h1,h2,Wa h3⟩ ⟨λs' G' σ' H' e r z=>?_,λv s' G' σ' H' x e r v1 z=>?_,λ_ _ _ _ _ _ z=>False.elim z,λ_ _ _ _ _ _ z=>False.elim z⟩ (q3 as o _ h4)⟩
  ·obtain⟨w',l,z⟩:=z
   exact z G' H' .non e r.sub (r.own.le l) Vg
  ·obtain⟨w',l,z⟩:=z
   exact z G' H' x e r.sub (r.own.le l) v1
theorem IPA.get{X:Cx}{e:List Expr}{t:TA}(h:IPA X e t):PA X e t:=by rw[<- Zz];exact h
theorem IPE.get{X:Cx}{e:Expr}{t:TE}(h:IPE X e t):PE X e t:=by rw[<- Zr];exact h
theorem IPG.get{X:Cx}{e:Expr}{t:TG}(h:IPG X e t):PG X e t:=by rw[<- Z3];exact h
theorem IPGs.get{X:Cx}{e:List Expr}{t:Mc}(h:IPGs X e t):C5 X e t:=by rw[<- Zn];exact h
theorem IPI.get{X:Cx}{a b:Expr}{t:TI}(h:IPI X a b t):PI X a b t:=by rw[<- Zy];exact h
theorem IPTs.get{X:Cx}{e:List Expr}{t:TT}(h:IPTs X e t):FL X e t:=by rw[<- Zp];exact h
section
variable {P:Program}{w:World}{K:Frag}{mg:Str->Option Value}{base:Heap}{N:List Str}{qual:Str}{scope:Scope}{f:Addr}{cdv:Value}{A:Around}{outer:List Env}{s₀:Shared}{H₀:Hp}{E:XK}{C fI:Addr}{B initId:String}{fld x:Str}{k:Nat}{fd:FuncData}{ps:List Str}{sp:Sp}{a:Expr}{t:TA}{np cpos pos:Pos}
theorem M9(c:EC K C B initId fld fI)(F:Xc P w K mg base UC k fI fd ps sp)(mos:∀vs H (Q Q':VK) E,(∀v H',Q v H'->Q' v H')->sp vs H Q E->sp vs H Q' E)(hr:ZZ (k+1) (A.deeper (envOfC qual scope s₀.heap.objs.size f cdv)))(hb:XE K fd ps [])(hm:mg x=some (.ref C))(ha:IPA (Xw (Ma P w) P w K mg base N qual scope f cdv A outer s₀ H₀ E) [a] t) 
  (hg:Gl (Xw (Ma P w) P w K mg base N qual scope f cdv A outer s₀ H₀ E) x:=by rfl) (hdb:(x == ("__debug__" : Str))=false:=by decide) (he:starEach [a] (Xw (Ma P w) P w K mg base N qual scope f cdv A outer s₀ H₀ E).env=(false,eval a (Xw (Ma P w) P w K mg base N qual scope f cdv A outer s₀ H₀ E).env)::starEach [] (Xw (Ma P w) P w K mg base N qual scope f cdv A outer s₀ H₀ E).env:=by rfl) :
  IPS (Xw (Ma P w) P w K mg base N qual scope f cdv A outer s₀ H₀ E) (.Raise (some (.Call (.Name x np) [a] [] cpos)) none pos) (tRz C sp E t):=by
 rw[Zx];exact Gz rfl c F mos hr hb hg hm ha.get hdb he
end
section
variable {X:Cx}{k:Nat}{f C:Addr}{fd:FuncData}{ps:List Str}{sp:Sp}{i j:Nat}{x y cn n:Str}{e:Expr}{es:List Expr}{t:TA}{ts:Addr->Addr->TS}{b₀:Stmt}{suite:List Stmt}{np fp cp hp cpos apos pos p:Pos}{B initId:String}{fld:Str}{fI:Addr}{st:Stmt}{ta:TE}
theorem M7(G:EX.ExGet X.K C)(hD:PySem.W.hasDictIn X.K C=true)(hn:PySem.W.findIn X.K (.ref C) fld=some none)(he:IPE X e ta)(hb:attributeBase e fld X.env (eval e X.env)=eval e X.env:=by rfl):IPE X (.Attribute e fld pos) (A3 C fld ta):=by
 rw[Zr];exact Gk G hD hn he.get hb
theorem KU(D:FH X.prog X.w X.K X.mg X.base k x st ps sp)(hb:ZY x st ps)(hr:Xv k X.A)(ha:IPA X (e::es) t)(hg:Gl X x:=by rfl)(hs:starEach (e::es) X.env=(false,eval e X.env)::starEach es X.env:=by rfl)(hpl:(backTo pos (starEach es X.env)).any (·.1)=false:=by rfl)(hdb:(x == ("__debug__" : Str))=false:=by decide):IPE X (.Call (.Name x p) (e::es) [] pos) (Oz X.A sp t):=by
 rw[Zr];exact E9 D hb hr ha.get hg hs hpl hdb
end
end L2
namespace L2
open PySem PySem.W PySem.W.ZRun PySem.W.X PySem.Spec PyProof.Rows
end L2
namespace L2
open PySem PySem.Spec PyProof.Rows
open AutoSeq1 (wpAny_loadPart')
section
variable {K:Frag}{G G' H H':Hp}{s:DS}{σ:St}
def DH(d:XO):SW:=λs k=>d s λvs s1=>match vs with | [.d (.tuple ds)]=>k (ds.reverse,LY) s1|_=>False
end
end L2
namespace L2
open PySem PySem.Spec PyProof.Rows
open AutoSeq1 (wpAny_loadPart')
section
variable {K:Frag}
def L6(d:XO):ZE:=λs k=>d s λvs s1=>match vs with | [v]=>(match rdL s1.w v with|some ds=>k (.d (.tuple ds.reverse)) s1|none=>False)|_=>False
end
end L2
namespace L2
open PySem PySem.Spec PyProof.Rows
open AutoSeq1 (wpAny_loadPart')
end L2
namespace L2
open PySem PySem.Spec PyProof.Rows
open AutoSeq1 (wpAny_loadPart')
def Iez(K:Frag)(t1 t2:Bool)(a b:Addr):It:=
 ⟨λi H=>∃xs ys x y,Qv K t1 H a xs/\Qv K t2 H b ys/\xs[i]? = some x/\ys[i]? = some y,
   λi H v H'=>∃p q x y,v=.ref q/\H p=none/\H q=none/\q≠p/\H'=upd (upd H p (.tup [x,y])) q (.tup [.int i,.ref p])/\∀xs ys,Qv K t1 H a xs->Qv K t2 H b ys->xs[i]? = some x/\ys[i]? = some y,
   λi H=>∃xs ys,Qv K t1 H a xs/\Qv K t2 H b ys/\(xs.length≤i\/ys.length≤i),false⟩
section
variable {K:Frag}{G G' H H':Hp}{s:DS}{σ:St}
def ezD(ds es:List PyData):List PyData:=Wy (QG ds es)
theorem UR.ez{t1 t2:Bool}{a b:Addr}{xs ys:List V}{ds es:List PyData}(h:D8 K t1 G a xs)(h':D8 K t2 G b ys)(D:ZT K G ds xs)(D':ZT K G es ys):UR K (Iez K t1 t2 a b) G (λ_=>True) (ezD ds es):=by
 intro G1 s σ H i e _ r
 have hs:=h.sq (e.trans r.sub)
 have hs':=h'.sq (e.trans r.sub)
 refine⟨λd hd=>?_,λhl=>⟨xs,ys,hs,hs',?_⟩⟩
 ·unfold ezD Wy QG at hd
  rw[tH,yF]at hd
  cases q:(ds.zip es)[i]? with
  | none=>rw[q]at hd;cases hd
  | some p=>
   rw[q]at hd
   cases hd
   obtain⟨q1,q2⟩:=xD.mp q
   obtain⟨x,h1,h2⟩:=D.get' q1
   obtain⟨y,h3,h4⟩:=D'.get' q2
   refine⟨⟨xs,ys,x,y,hs,hs',h1,h3⟩,λv H' hy=>?_⟩
   obtain⟨p',q',x',y',rfl,hp,hq,hne,rfl,hxy⟩:=hy
   obtain⟨z1,z2⟩:=hxy xs ys hs hs'
   rw[h1]at z1;cases z1
   rw[h3]at z2;cases z2
   have hg:=r.sub.free hp
   have S:=YF hg (.tup [x,y])
   have r1:=r.new hp (.tup [x,y])
   have hq1:upd H p' (.tup [x,y]) q'=none:=by rw[Zk hne];exact hq
   have hg2:=r1.sub.free hq1
   have S2:=YF hg2 (.tup [.int (i:Nat),.ref p'])
   refine⟨_,S.trans S2,r1.new hq1 _,DW.tup Z9 (ZT.cons DW.int (ZT.cons ?_ ZT.nil))⟩
   exact(DW.tup Z9 (ZT.cons (h2.same (e.trans S)) (ZT.cons (h4.same (e.trans S)) ZT.nil))).same S2
 ·unfold ezD Wy QG at hl
  rw[List.length_mapIdx,Wb,length_zip,D.length,D'.length]at hl
  omega
def dEz(t1 t2:Bool)(d:XO):SW:=λs k=>d s λvs s1=>match vs with | [v,w]=>(match Om t1 v,Om t2 w with|some ds,some es=>k (ezD ds es,LY) s1|_,_=>False)|_=>False
end
end L2
namespace L2
open PySem PySem.Spec PyProof.Rows
section
variable {K:Frag}{G:Hp}
def L3(o:Bool)(d:XO):ZE:=λs k=>d s λvs s1=>match vs with | [.d (.int j)]=>(-(2 ^ 62)≤j/\j≤100000)/\nl o (QB 0 j.toNat) s1 k|_=>False
end
open AutoSeq1 (wpAny_loadPart')
end L2
namespace L2
open PySem PySem.Spec PyProof.Rows
open AutoSeq1 (wpAny_loadPart')
end L2
namespace L2
open PySem PySem.Spec PyProof.Rows
open AutoSeq1 (wpAny_loadPart')
end L2
namespace L2
open PySem PySem.Spec PyProof.Rows
section
variable {K:Frag}
def lyD(l:List (List Int×PyData)):List (List Int×PyData):=l.foldl (λd q=>IA d q.1 q.2) []
def Ly(di:SW):ZE:=λs k=>di s λsrc s1=>∃l:List (List Int×PyData),(∀w,src.2 w)/\src.1=l.map (λq=>.tuple [tI q.1,q.2])/\(∀q∈l,q.1≠[])/\l.length<sizeLine/\k (.d (.dict (Th (lyD l)))) s1
end
def Gv:Expr->Bool
 | .Starred ..=>false
 | _=>true
theorem La{e:Expr}{es:List Expr}{env:Env}(h:Gv e=true):starEach (e::es) env=(false,eval e env)::starEach es env:=by
 cases e<;>first|rfl|cases h
theorem Zt{X:Cx}{e:Expr}{te:TE}{es:List Expr}{t:TA}(ha:IPE X e te)(hr:IPA X es t)(h:Gv e=true:=by rfl):IPA X (e::es) (Kx te t):=Za ha hr (La h)
theorem Dn.dataI{K:W.Frag}{P:Program}{w:World}{mg:Str->Option Value}{base:Heap}{x:Str}{st:Stmt}{N ps:List Str}{k:Nat}{f:Xb}(U:∃a fd,Ws K x x st a fd/\mg x=some (.ref a))(S:Zv N ps (Zf st))(len:∀vs w k,f vs w k->vs.length=ps.length) 
  (hbody:∀(a:Addr) (cdv:Value) (A:Around) (outer:List Env) (s:Shared) (H:Hp) (E:XK),ZZ k (A.deeper (envOfC x (Zf st) s.heap.objs.size a cdv)) ->
   ∃t d,IPSs (Xw UC P w K mg base N x (Zf st) a cdv A outer s H E).nox (ZR st) t/\RS K t d/\∀(as:List Val) (o:OW) (q:Val->OW->Prop),f as o q->d { nx:=λs=>∃w',OW.le w' s.w/\q (.d .none) w',rt:=λv s=>∃w',OW.le w' s.w/\q v w' } ⟨Yw N as,o⟩):Dn P w K mg base (k+1) x st ps (Wc K f):=
 Dn.data U S len λa cdv A outer s H E hr=>(hbody a cdv A outer s H E hr).elim λt h=>h.elim λd h=>⟨t,d,IPSs.get h.1,h.2⟩
section
variable {X:Cx}{K:W.Frag}{G:Hp}
theorem UD(hg:X.A.guards=some [])(hu:X.A.units+64<cLine):Y0 X (.builtin "repr") (λxs H Q=>(∃a d,xs=[.ref a]/\DV X.K H d (.ref a)/\d.showable=true/\d.hasDict=false/\d.depth≤40/\d.shown.length≤sizeLine/\Q (.str d.shown) H)\/(xs=[.non]/\Q (.str "None") H)\/∃i:Int,xs=[.int i]/\i.natAbs.log2<1920/\Q (.str (Str.ofString (toString i))) H):=by
 rintro pins s σ H xs us Q I r (h|⟨rfl,q⟩|⟨i,rfl,h,q⟩)
 ·exact UE hg hu pins s σ H xs us Q I r h
 ·obtain⟨u,rfl,rx⟩:=VF r
  cases (show u=Value.none from rx)
  exact P.repr_of_none ⟨.str "None",H,I.tok _,⟨_,rfl⟩,q⟩
 ·obtain⟨u,rfl,t,rfl⟩:=VF r
  exact P.repr_of_int h ⟨.str _,H,I.tok _,⟨_,rfl⟩,q⟩
end
end L2
namespace Tim
open PySem PySem.W PyProof.Rows
variable {lt:Nat->Nat->Bool}{N:Nat}{α β α' β':Type}
end Tim
namespace L2
open PySem PySem.Spec PyProof.Rows
abbrev Pr:=Int×List Int
def TpP(h:Heap)(v:Value)(x:Pr):Prop:=∃a o t y k,v=.ref a/\h.get? a=some o/\o.cls=.type "tuple"/\o.data=.seq (List.toArray [.int x.1 t,y]) k/\FP h y x.2
theorem TpP.keep{h h':Heap}{v:Value}{x:Pr}(q:TpP h v x)(k:∀b o,o.cls=.type "tuple"->h.get? b=some o->h'.get? b=some o):TpP h' v x:=by
 obtain⟨a,o,t,y,n,e,h1,h2,h3,h4⟩:=q
 exact⟨a,o,t,y,n,e,k _ _ h2 h1,h2,h3,h4.keep k⟩
section
variable {prog:Program}{w:World}{A:Around}{E:Value->Shared->Prop}{s:Shared}
def C7(h:Heap)(vs:List Value)(prs:List Pr):Prop:=vs.length=prs.length/\∀(i:Nat) v,vs[i]? = some v->∃x,prs[i]? = some x/\TpP h v x
theorem C7.keep{h h':Heap}{vs:List Value}{prs:List Pr}(q:C7 h vs prs)(k:∀b o,o.cls=.type "tuple"->h.get? b=some o->h'.get? b=some o):C7 h' vs prs:=
 ⟨q.1,λi v e=>by obtain⟨x,h1,h2⟩:=q.2 i v e;exact⟨x,h1,h2.keep k⟩⟩
end
open AutoSeq1 (wpAny_loadPart')
end L2
namespace L2
open PySem PySem.Spec PyProof.Rows
section
variable {K:Frag}{G G' H H':Hp}{s:DS}{σ:St}
def Jc:Val->Option (List Int)
 | .d (.tuple l)=>QF l
 | _=>none
@[simp] theorem keyE_tI(ns:List Int):Jc (.d (tI ns))=some ns:=uIs_map _
def JY(da db:ZE):ZE:=Pz Jc da db
def DC(neg:Bool)(db da:ZE):ZE:=JZ Jc neg db da
def J_(da dk dv:ZE):Vh:=P2 Jc da dk dv
def Lx(o:Bool)(di:SW)(cap:List (Option Nat))(dg:T7)(dt:Ux)(dk dv:ZE):ZE:=SX Jc o di cap dg dt dk dv
def Lz(o:Bool)(dk dv:ZE):ZE:=λs k=>∀p,s.w p=none->dk (s.put p (.dct [])) λkk s1=>dv s1 λvv s2=>match vv with
 | .d x=>∃ns,Jc kk=some ns/\s2.w p=some (.dct [])/\(match o with|true=>k (.own p) (s2.put p (.dct [(ns,x)]))|false=>k (.d (.dict (Th [(ns,x)]))) ⟨s2.e,s2.w.del p⟩)
 | _=>False
end
section
variable {K:Frag}{G G' H H':Hp}{s:DS}{σ:St}
def Hx(kvs:List (List Int×PyData)):List PyData:=kvs.map λp=>.tuple [tI p.1,p.2]
theorem XH.at':∀{kvs:List (List Int×PyData)}{ks:List (List Xd×V)}{i:Nat}{p:List Int×PyData},XH K G (Th kvs) ks->kvs[i]? = some p->∃x,ks[i]? = some (p.1.map Sum.inl,x)/\DW K G p.2 x
 | [],ks,i,p,h,e=>by simp at e
 | (k0,d)::r,ks,i,p,h,e=>by
  rcases X1 h with ⟨z,_⟩|⟨k1,d1,r1,x,t,z,rfl,h1,h2⟩
  ·cases z
  ·cases z
   cases i with
   | zero=>simp at e;subst e;exact⟨x,rfl,h1⟩
   | succ i=>simpa using XH.at' (i:=i) h2 (by simpa using e)
def Ii(d:ZE):SW:=λs k=>d s λv s1=>match v with
 | .d (.dict l)=>∃kvs,Kz l=some kvs/\k (Hx kvs,LY) s1
 | .own a=>∃kvs,s1.w a=some (.dct kvs)/\k (Hx kvs,λw=>w a=some (.dct kvs)) s1
 | _=>False
end
end L2
namespace L2
open PySem PySem.W PySem.W.X PySem.Spec PyProof.Rows
def Zae:Val->ZE:=λv s k=>match v with | .d (.int i)=>k (.d (.int (if i<0 then -i else i))) s|_=>False
def Hv(o:Obj):Bool:=match o.data with
 | .seq _ _=>false
 | _=>true
def Sx(as:List Addr)(h:Heap):Frag:=as.filterMap λa=>((h.get? a).filter Hv).map λo=>(a,o)
def JJ:Option Obj->Option (Value×List Value×Addr×Bool×Bool×Nat×Option (Option Value))
 | some ⟨c,_,.cls cd,sl⟩=>some (c,cd.mro,cd.ns,cd.hasDict,cd.hasDel,sl.toList.length,sl.toList[4]?)
 | _=>none
def CZ:Option Obj->Option (Value×Str×Str×Arguments×FuncBody×Scope×Addr×List (Str×Addr)×Value×Value×Addr)
 | some ⟨c,_,.func f,_⟩=>some (c,f.name,f.qualname,f.params,f.body,f.scope,f.globals,f.closure,f.defaults,f.code,f.builtins)
 | _=>none
def B2(K:Frag)(N:Addr)(n:Str):Option Value:=match K.lookup N with
 | some ⟨_,_,.dict es _,_⟩=>nsFind es n
 | _=>none
def exV(K:Frag)(C N fI:Addr)(fld q:Str)(cI:Addr):=(JJ (K.lookup C),nsOkIn K N,([("__init__" : Str),"__setattr__",fld].map (B2 K N)),CZ (K.lookup fI),codeIn K (.ref cI) q,[("__getattribute__" : Str),"__getattr__","__class__",fld].map (findIn K (.ref C)))
def exG(B newId:String)(bm:List Value)(C N fI:Addr)(q:Str)(cI:Addr)(a:Arguments)(b:List Stmt)(sc:Scope):=
 (some ((.type "type" : Value),Value.ref C::bm,N,true,false,6,some (some (Value.builtin newId))),true,[some (Value.ref fI),none,none],some ((.type "function" : Value),("__init__" : Str),q,a,FuncBody.stmts b,sc,mainGlobals,([]:List (Str×Addr)),Value.none,Value.ref cI,builtinsNs),true,
  [some (some (Value.builtin "BaseException.__getattribute__")),some none,some (some (Value.builtin "object.__class__")),some none])
def Zbz(K:Frag)(h:Heap)(C:Addr)(names:List Str)(cs:List Value):=(names.map (h.nsMap mainGlobals),cs.map (kitOne K (.ref C)))
def CD:Stmt->List Stmt
 | .ClassDef _ _ _ b ..=>b
 | _=>[]
def JC:Stmt->Arguments
 | .FunctionDef _ a _ _ _ _ _ _ _ _=>a
 | _=>{ posonlyargs:=[],args:=[],vararg:=none,kwonlyargs:=[],kw_defaults:=[],kwarg:=none,defaults:=[] }
def JF:Stmt->List Stmt
 | .FunctionDef _ _ b _ _ _ _ _ _ _=>b
 | _=>[]
def MY:Stmt->Scope
 | .FunctionDef _ _ _ _ _ _ sc _ _ _=>sc
 | _=>{ kind:=.function,names:=[],isGenerator:=false,isCoroutine:=false }
def Rl(K K':Frag):Prop:=∀a o,K.lookup a=some o->K'.lookup a=some o
section
variable {K K':Frag} (S:Rl K K')
include S
theorem Es{N:Addr}{n:Str}{r:Option Value}(e:nsIn K N n=some r):nsIn K' N n=some r:=by
 unfold nsIn at e |-
 cases q:K.lookup N with
 | none=>rw[q]at e;cases e
 | some o=>rw[q]at e;rw[S _ _ q];exact e
theorem Ge{n:Str}{c:Value}{r:Option Value}(e:ownIn K n c=some r):ownIn K' n c=some r:=by
 cases c with
 | ref a=>
  unfold ownIn at e |-
  dsimp only at e |-
  cases q:K.lookup a with
  | none=>rw[q]at e;cases e
  | some o=>
   rw[q]at e;rw[S _ _ q]
   obtain⟨x,y,d,z⟩:=o
   cases d with
   | cls cd=>exact Es S e
   | _=>cases e
 | _=>exact e
theorem Rm{n:Str}{r:Option Value}:∀{l:List Value},alongIn K n l=some r->alongIn K' n l=some r
 | [],e=>e
 | c::l,e=>by
  unfold alongIn at e |-
  cases q:ownIn K n c with
  | none=>rw[q]at e;cases e
  | some v=>
   rw[q]at e;rw[Ge S q]
   cases v with
   | some v=>exact e
   | none=>exact Rm e
theorem Yy{t:Value}{n:Str}{r:Option Value}(e:findIn K t n=some r):findIn K' t n=some r:=by
 cases t with
 | ref a=>
  unfold findIn at e |-
  dsimp only at e |-
  cases q:K.lookup a with
  | none=>rw[q]at e;cases e
  | some o=>
   rw[q]at e;rw[S _ _ q]
   obtain⟨x,y,d,z⟩:=o
   cases d with
   | cls cd=>exact Rm S e
   | _=>cases e
 | _=>exact e
theorem Ru{C:Addr}{cd:ClassData}(e:clsIn K C=some cd):clsIn K' C=some cd:=by
 unfold clsIn at e |-
 cases q:K.lookup C with
 | none=>rw[q]at e;cases e
 | some o=>rw[q]at e;rw[S _ _ q];exact e
theorem RZ{C:Addr}{b:Value}{r:Bool}(e:mroIn K C b=some r):mroIn K' C b=some r:=by
 obtain⟨cd,h1,h2⟩:=sF.mp e
 exact sF.mpr ⟨cd,Ru S h1,h2⟩
theorem Je{C:Addr}{c:Value}{b:Bool}(e:kitOne K (.ref C) c=some b):kitOne K' (.ref C) c=some b:=by
 unfold kitOne at e |-
 split at e
 ·next h=>rw[zU h];exact e
 ·next h=>
  rw[wT h]
  cases c with
  | ref D=>
   unfold kitCls at e |-
   dsimp only at e |-
   split at e
   ·next g=>
    obtain⟨g1,g2⟩:=sG.mp g
    obtain⟨cd,g1⟩:=yB.mp g1
    have t:typeIn K' (.ref D)=some (.type "type"):=by
     obtain⟨o,ho,z⟩:=zQ.mp (uL.mp g2)
     exact zQ.mpr ⟨o,S _ _ ho,z⟩
    rw[Ru S g1,t]
    exact RZ S e
   ·cases e
  | type T=>
   unfold kitCls at e |-
   dsimp only at e |-
   split at e
   ·next g=>rw[zU g];exact RZ S e
   ·cases e
  | _=>exact e
theorem TK{c:Value}{q:Str}(e:codeIn K c q=true):codeIn K' c q=true:=by
 cases c with
 | ref a=>
  unfold codeIn at e |-
  dsimp only at e |-
  cases r:K.lookup a with
  | none=>rw[r]at e;cases e
  | some o=>rw[r]at e;rw[S _ _ r];exact e
 | _=>cases e
end
theorem KP{as:List Addr}{h:Heap}{K:Frag}(k:∀a o,h.get? a=some o->Hv o=true->K.lookup a=some o):Rl (Sx as h) K:=λa o e=>by
 unfold Sx at e
 have key:∀(l:List Addr),((l.filterMap λa=>((h.get? a).filter Hv).map λo=>(a,o)):List (Addr×Obj)).lookup a=some o->(h.get? a).filter Hv=some o:=by
  intro l
  induction l with
  | nil=>intro e;cases e
  | cons b l ih=>
   intro e
   rw[vL]at e
   cases q:(h.get? b).filter Hv with
   | none=>simp only[q,tQ]at e;exact ih e
   | some ob=>
    simp only[q,xA,List.lookup]at e
    split at e
    ·next z=>cases e;rw[uL.mp z];exact q
    ·exact ih e
 obtain⟨h1,h2⟩:=Option.filter_eq_some_iff.mp (key as e)
 exact k _ _ h1 h2
section
variable {K K':Frag}{B newId:String}{bm:List Value}{C N fI cI:Addr}{fld q:Str}{a:Arguments}{b:List Stmt}{sc:Scope}
theorem Zc0{l:List (Option Value)}{x:Option Value}(h:l.length=6)(e:l[4]? = some x):∃k0 k1 k2 k3 k5,l=[k0,k1,k2,k3,x,k5]:=by
 obtain⟨k0,k1,k2,k3,k4,k5,rfl⟩:∃k0 k1 k2 k3 k4 k5,l=[k0,k1,k2,k3,k4,k5]:=by
  match l,h with
  | [k0,k1,k2,k3,k4,k5],_=>exact⟨_,_,_,_,_,_,rfl⟩
 cases e;exact⟨_,_,_,_,_,rfl⟩
theorem JL(e:JJ (K.lookup C)=some (.type "type",.ref C::bm,N,true,false,6,some (some (.builtin newId)))):∃nm q bs sn sub ab col dd k0 k1 k2 k3 k5,K.lookup C=some (excClassObj nm q C N bs bm true sn sub ab col dd k0 k1 k2 k3 k5 newId):=by
 cases r:K.lookup C with
 | none=>rw[r]at e;cases e
 | some o=>
  rw[r]at e
  obtain⟨c,d,da,sl⟩:=o
  cases da with
  | cls cd=>
   obtain⟨nm,bs,mro,ns,qn,hd,sn,sub,ab,col,del⟩:=cd
   simp only[JJ,tE,tR]at e
   obtain⟨rfl,rfl,rfl,rfl,rfl,e1,e2⟩:=e
   obtain⟨k0,k1,k2,k3,k5,z⟩:=Zc0 e1 e2
   obtain⟨l⟩:=sl
   have z:l=_:=z
   subst z
   exact⟨_,_,_,_,_,_,_,_,_,_,_,_,_,rfl⟩
  | _=>cases e
theorem Cn(e:nsOkIn K N=true):∃mN,(∀n,B2 K N n=mN n)/\∀h:Heap,K.In h->h.Ns N mN:=by
 refine⟨B2 K N,λ_=>rfl,λh X=>?_⟩
 have z:=isNs_of_in X e
 have w:=Heap.Ns.of_isNs z
 obtain⟨o,es,ep,h1,h2,h3,h4⟩:=w
 refine⟨o,es,ep,h1,h2,h3,λn=>?_⟩
 cases r:K.lookup N with
 | none=>unfold nsOkIn at e;rw[r]at e;cases e
 | some o'=>
  have:=(X _ _ r).symm.trans h1
  cases this
  unfold B2
  rw[r]
  obtain⟨c,d,da,sl⟩:=o
  cases h2
  rfl
theorem IW(e:CZ (K.lookup fI)=some ((.type "function" : Value),("__init__" : Str),q,a,FuncBody.stmts b,sc,mainGlobals,([]:List (Str×Addr)),Value.none,Value.ref cI,builtinsNs)):∃oI,K.lookup fI=some oI/\oI.cls=.type "function"/\∃(oc:Value) (od an:Option Addr) (kV doc pm ct:Value) (osl:Array (Option Value)),oI=⟨oc,od,.func (fnOf "__init__" q a b sc .none kV doc pm an (.ref cI) ct),osl⟩:=by
 cases r:K.lookup fI with
 | none=>rw[r]at e;cases e
 | some o=>
  rw[r]at e
  obtain⟨c,d,da,sl⟩:=o
  cases da with
  | func f=>
   obtain⟨n1,n2,n3,n4,n5,n6,n7,n8,n9,n10,n11,n12,n13,n14,n15⟩:=f
   simp only[CZ,tE,tR]at e
   obtain⟨rfl,rfl,rfl,rfl,rfl,rfl,rfl,rfl,rfl,rfl,rfl⟩:=e
   exact⟨_,rfl,rfl,_,_,_,_,_,_,_,_,rfl⟩
  | _=>cases e
structure ExU(K:Frag)(C:Addr)(B initId:String)(fld q:Str)(st:Stmt):Prop where
 cls:EX.ExCls K C
 ini:∃fI fd,EC K C B initId fld fI/\Ws K "__init__" q st fI fd
 fld:findIn K (.ref C) fld=some none
theorem CY{st:Stmt}{initId sa owner:String}{as:List Addr}(S:Rl K K')(e:exV K C N fI fld q cI=exG B newId bm C N fI q cI (Y7 st) (ZR st) (Zf st))(hB:EX.ExF B newId initId bm)(hS:StoreFacts B bm sa owner)(hT:typeLookup (.type B) fld=pure none) 
  (hf:∀K,findCls K (.type B) (.type "type") "__init__" = some (.val (.builtin initId))) (ht:typeOf (.type B)=pure (.type "type")) (hs:Manifest.isStub B=false) (hb:bm.contains (.type "object")=true) (ho:∀K,specialIn K (.builtin "object.__class__") "__get__" = some (some (.builtin "getset_descriptor.__get__"))) (hk:∀K,takesIn K (.builtin "object.__class__")=some true) (hc:∀K,findIn K (.type "type") "__call__" = some (some (.builtin "type.__call__"))):ExU K' C B initId fld q st:=by
 unfold exV exG at e
 simp only[tR,uO,yQ,sE,sH]at e
 obtain⟨e1,e2,⟨e3,e4,e5⟩,e6,e7,e8,e9,e10,e11⟩:=e
 obtain⟨nm,qn,bs,sn,sub,ab,col,dd,k0,k1,k2,k3,k5,c1⟩:=JL e1
 obtain⟨mN,n1,n2⟩:=Cn e2
 obtain⟨oI,f1,f2,oc,od,an,kV,doc,pm,ct,osl,rfl⟩:=IW e6
 have inn:∀h:Heap,K'.In h->K.In h:=λh X a o z=>X _ _ (S _ _ z)
 have cl:=S _ _ c1
 have mro:∀v,(Value.ref C::bm).contains v=true->mroIn K' C v=some true:=λv z=>by
  unfold mroIn clsIn;rw[cl];exact zR some z
 have hd:hasDictIn K' C=true:=by unfold hasDictIn clsIn;rw[cl];rfl
 have kp:keepIn K' (.ref C)=true:=by
  unfold keepIn specialIn typeIn;dsimp only;rw[cl]
  show(((some (.type "type" : Value)).bind λt=>findIn K' t "__call__") == some (some (.builtin "type.__call__")))=true
  rw[tF,hc]
  exact yX _
 have fl:=S _ _ f1
 refine⟨⟨⟨Yy S e8,Yy S e9,mro _ ?_⟩,hd,Yy S e10,ho K',hk K',mro _ ?_⟩,⟨fI,_,⟨⟨nm,qn,N,bs,bm,sn,sub,ab,col,dd,k0,k1,k2,k3,k5,newId,sa,owner,mN,_,cl,λh X=>n2 h (inn h X),(n1 _).symm.trans e3,(n1 _).symm.trans e4,(n1 _).symm.trans e5,hB,hS,hT,fl,f2⟩,hf K',ht,hs,kp⟩,PM fl (TK S e7) (by unfold keepIn;dsimp only;rw[fl])⟩,Yy S e11⟩
 ·rw[tV,hB.hasBase,tW]
 ·rw[tV,hb,tW]
end
theorem Y2{s:Shared}{h:Heap}{mg:Str->Option Value}{names:List Str}{cs:List Addr}(g:h.Ns mainGlobals mg)(k:∀b o,s.heap.get? b=some o->h.get? b=some o)(e:names.map (s.heap.nsMap mainGlobals)=cs.map λa=>some (.ref a))(i:Nat){x:Str}{c:Addr}(hx:names[i]? = some x)(hc:cs[i]? = some c):mg x=some (.ref c):=by
 rw[g.eq_nsMap]
 refine UN k ?_
 have:=zR (·[i]?) e
 simp only[yF,hx,hc,xA,tE]at this
 exact this
end L2
namespace EX
open PySem PySem.W PySem.Spec PyProof.Rows
end EX
namespace L2
open PySem PySem.W PySem.W.X PySem.Spec PyProof.Rows
abbrev FS:=PyData->List (Str×PyData)
section
variable {K K':Frag} (S:Rl K K')
include S
theorem Sq{v t:Value}(e:typeIn K v=some t):typeIn K' v=some t:=by
 cases v with
 | ref a=>
  obtain⟨o,ho,z⟩:=zQ.mp e
  exact zQ.mpr ⟨o,S _ _ ho,z⟩
 | _=>exact e
theorem T1{v:Value}{n:Str}{r:Option Value}(e:specialIn K v n=some r):specialIn K' v n=some r:=by
 obtain⟨t,a,b⟩:=sF.mp e
 exact sF.mpr ⟨t,Sq S a,Yy S b⟩
theorem NQ{t b:Value}{r:Bool}(e:subIn K t b=some r):subIn K' t b=some r:=by
 cases t with
 | ref a=>exact RZ S e
 | _=>exact e
theorem Ja{v b:Value}{r:Bool}(e:instIn K v b=some r):instIn K' v b=some r:=by
 obtain⟨t,a,z⟩:=sF.mp e
 exact sF.mpr ⟨t,Sq S a,NQ S z⟩
theorem TF{α:Type}[BEq α][LawfulBEq α]{x y:Option α}{z:α}(h:∀r,x=some r->y=some r)(e:(x == some z)=true):(y == some z)=true:=by
 rw[h _ (uL.mp e)];exact yX _
theorem MJ{C:Addr}(e:makesIn K C=true):makesIn K' C=true:=by
 unfold makesIn at e |-
 cases r:K.lookup C with
 | none=>rw[r]at e;cases e
 | some o=>
  rw[r]at e;rw[S _ _ r]
  obtain⟨x,y,d,z⟩:=o
  cases d with
  | cls cd=>
   dsimp only at e |-
   simp only[yN]at e |-
   obtain⟨⟨e1,e2⟩,e3⟩:=e
   exact⟨⟨e1,TF S (λ_=>T1 S) e2⟩,TF S (λ_=>Ja S) e3⟩
  | _=>cases e
theorem Up{v:Value}(e:keepIn K v=true):keepIn K' v=true:=by
 cases v with
 | ref a=>
  unfold keepIn at e |-
  dsimp only at e |-
  cases r:K.lookup a with
  | none=>rw[r]at e;cases e
  | some o=>
   rw[r]at e;rw[S _ _ r]
   obtain⟨x,y,d,z⟩:=o
   cases d with
   | func f=>rfl
   | cls cd=>exact TF S (λ_=>T1 S) e
   | _=>cases e
 | _=>cases e
theorem LQ{v:Value}(e:isFn K v=true):isFn K' v=true:=TF S (λ_=>Sq S) e
theorem ND{C:Addr}{n:Str}(e:plainGet K C n=true):plainGet K' C n=true:=by
 unfold plainGet at e |-
 obtain⟨e1,e2⟩:=sG.mp e
 exact sG.mpr ⟨TF S (λ_=>Yy S) e1,TF S (λ_=>Yy S) e2⟩
theorem JB{C:Addr}{f:ClassData->Bool}(e:(clsIn K C).any f=true):(clsIn K' C).any f=true:=by
 cases r:clsIn K C with
 | none=>rw[r]at e;cases e
 | some cd=>rw[Ru S r];rw[r]at e;exact e
end
def Bq(K:Frag)(C fI cI:Addr)(q:Str)(fl:List Str):=(([makesIn K C,plainGet K C Str.empty,hasDictIn K C,plainOver K C,isFn K (.ref fI),keepIn K (.ref C),keepIn K (.ref fI),codeIn K (.ref cI) q],findIn K (.ref C) "__init__",findIn K (.ref C) "__setattr__",fl.map (findIn K (.ref C))),CZ (K.lookup fI))
def Bp(fI cI:Addr)(q:Str)(fl:List Str)(a:Arguments)(b:List Stmt)(sc:Scope):=((([true,true,true,true,true,true,true,true]:List Bool),(some (some (Value.ref fI)):Option (Option Value)),(some (some (Value.builtin "object.__setattr__")):Option (Option Value)),fl.map λ_=>(some none:Option (Option Value))),
 some ((.type "function" : Value),("__init__" : Str),q,a,FuncBody.stmts b,sc,mainGlobals,([]:List (Str×Addr)),Value.none,Value.ref cI,builtinsNs))
structure InU(K:Frag)(C:Addr)(q:Str)(fl:List Str)(st:Stmt):Prop where
 cls:Me K C
 att:∀f∈fl,Vx K C f
 ini:∃fI fd,Ws K "__init__" q st fI fd/\Mk K C fI
theorem Bm{K K':Frag}{C fI cI:Addr}{q:Str}{fl:List Str}{st:Stmt}(S:Rl K K')(e:Bq K C fI cI q fl=Bp fI cI q fl (Y7 st) (ZR st) (Zf st)):InU K' C q fl st:=by
 unfold Bq Bp at e
 simp only[tR,sE,sH]at e
 obtain⟨⟨⟨e1,e2,e3,e4,e5,e6,e7,e8⟩,e9,e10,e11⟩,e12⟩:=e
 obtain⟨oI,f1,f2,oc,od,an,kV,doc,pm,ct,osl,rfl⟩:=IW e12
 refine⟨⟨ND S e2,JB S e3,JB S e4,Yy S e10⟩,λf hf=>?_,⟨fI,_,PM (S _ _ f1) (TK S e8) (Up S e7),⟨MJ S e1,Yy S e9,LQ S e5,Up S e6⟩⟩⟩
 have:∀l:List Str,l.map (findIn K (.ref C))=l.map (λ_=>(some none:Option (Option Value)))->f∈l->findIn K (.ref C) f=some none:=by
  intro l
  induction l with
  | nil=>intro _ h;cases h
  | cons a l ih=>
   intro h1 h2
   simp only[uO,sE]at h1
   rcases vP.mp h2 with rfl|h2
   ·exact h1.1
   ·exact ih h1.2 h2
 exact Yy S (this fl e11 hf)
def A1(h:Heap)(n:Str):Option Str:=match h.nsMap mainGlobals n with
 | some (.str x _)=>some x
 | _=>none
def NV(h:Heap):Value->Option (List Value)
 | .ref a=>match h.get? a with
  | some ⟨.type "tuple",_,.seq its _,_⟩=>if its.size≤100 then some its.toList else none
  | _=>none
 | _=>none
def Hu:Value->Option Int
 | .int i _=>some i
 | _=>none
def GS(h:Heap)(n:Str):Option (List (List Int)):=(h.nsMap mainGlobals n).bind λv=>(NV h v).bind λvs=>vs.mapM λu=>(NV h u).bind λws=>ws.mapM Hu
theorem Pp:∀{us:List Value}{ns:List Int},us.mapM Hu=some ns->ZH (ns.map V.int) us
 | [],ns,h=>by cases h;exact .nil
 | u::us,ns,h=>by
  rw[List.mapM_cons]at h
  obtain⟨i,h1,h⟩:=sF.mp h
  obtain⟨r,h2,h⟩:=sF.mp h
  cases h
  refine .cons ?_ (Pp h2)
  cases u with
  | int j t=>cases h1;exact⟨t,rfl⟩
  | _=>cases h1
theorem NW{h:Heap}{v:Value}{vs:List Value}(e:NV h v=some vs):∃a o its n,v=.ref a/\h.get? a=some o/\o.cls=.type "tuple"/\o.data=.seq its n/\its.size≤100/\vs=its.toList:=by
 cases v with
 | ref a=>
  unfold NV at e
  dsimp only at e
  split at e
  ·next d its n sl he=>
   split at e
   ·next z=>cases e;exact⟨a,_,its,n,rfl,he,rfl,rfl,z,rfl⟩
   ·cases e
  ·cases e
 | _=>cases e
def GQ(ns:List Int):PyData:=.tuple (ns.map .int)
theorem NJ{s:Shared}{h:Heap}{mg:Str->Option Value}{n:Str}{L:List (List Int)}(g:h.Ns mainGlobals mg)(k:∀b o,s.heap.get? b=some o->h.get? b=some o)(e:GS s.heap n=some L):∃a,mg n=some (.ref a)/\∀G,DW (OZ h true) G (.tuple (L.map GQ)) (.ref a):=by
 obtain⟨v,h1,e⟩:=sF.mp e
 obtain⟨vs,h2,e⟩:=sF.mp e
 obtain⟨a,o,its,m,rfl,ho,hc,hd,hz,rfl⟩:=NW h2
 have hm:mg n=some (.ref a):=by
  rw[g.eq_nsMap];exact UN k h1
 have ct:CT (OZ h true):=Ba (k _ _ ho)
 refine⟨a,hm,λG=>?_⟩
 have key:∀{us:List Value}{L:List (List Int)},us.mapM (λu=>(NV s.heap u).bind λws=>ws.mapM Hu)=some L->∃xs,ZH xs us/\ZT (OZ h true) G (L.map GQ) xs:=by
  intro us
  induction us with
  | nil=>intro L e;cases e;exact⟨[],.nil,ZT.nil⟩
  | cons u us ih=>
   intro L e
   rw[List.mapM_cons]at e
   obtain⟨ns,q1,e⟩:=sF.mp e
   obtain⟨r,q2,e⟩:=sF.mp e
   cases e
   obtain⟨ws,q3,q4⟩:=sF.mp q1
   obtain⟨b,o',its',m',rfl,ho',hc',hd',hz',rfl⟩:=NW q3
   obtain⟨xs,r1,r2⟩:=ih q2
   refine⟨.ref b::xs,.cons rfl r1,ZT.cons ?_ r2⟩
   unfold GQ DW
   exact⟨b,ns.map V.int,rfl,.inr ⟨.inr ct,o',its',m',by rw[YW];exact k _ _ ho',hc',hd',by rw[uK];omega,Pp q4⟩,ZT.ints ns⟩
 obtain⟨xs,r1,r2⟩:=key e
 unfold DW
 exact⟨a,xs,rfl,.inr ⟨.inr ct,o,its,m,by rw[YW];exact k _ _ ho,hc,hd,by rw[uK];omega,r1⟩,r2⟩
theorem Dm{s:Shared}{h:Heap}{mg:Str->Option Value}{n x:Str}(g:h.Ns mainGlobals mg)(k:∀b o,s.heap.get? b=some o->h.get? b=some o)(e:A1 s.heap n=some x):∃u,mg n=some u/\ZI (.str x) u:=by
 unfold A1 at e
 split at e
 ·next y t z=>
  cases e
  exact⟨_,by rw[g.eq_nsMap];exact UN k z,⟨t,rfl⟩⟩
 ·cases e
theorem Ct{K:Frag}{v:V}{d:PyData}(h:∀G,DW K G d v):RE K (tC v) (dC (.d d)):=MT λG=>h G
theorem F3:(Manifest.find? "object").bind (λt=>t.attrs.lookup "__setattr__")=some .slot\/(Manifest.find? "object").bind (λt=>t.attrs.lookup "__setattr__")=some .method:=by
 first|exact yT (by decide +kernel)|exact yU (by decide +kernel)
end L2
namespace L2
open PySem PySem.Spec PyProof.Rows
section
variable {X:Cx}{K:Frag}
def UZ(z:Str)(lo hi:Option Int):Str:=if((Builtin.Str.strSliceIndices lo hi 1 z.length).length == z.length)=true then z else⟨((Builtin.Str.strSliceIndices lo hi 1 z.length).filterMap (z.cps[·]?)).toArray⟩
theorem JP{z:Str}{lo hi:Option Int}{c:Nat}(h:c∈(UZ z lo hi).cps.toList):c∈z.cps.toList:=by
 unfold UZ at h
 split at h
 ·exact h
 ·obtain⟨i,_,e⟩:=mem_filterMap.mp (by simpa using h)
  have:=Array.mem_of_getElem? e
  simpa using this
theorem JO{z:Str}{lo hi:Option Int}:(UZ z lo hi).length≤z.length:=by
 unfold UZ
 split
 ·exact zK _
 ·have h:=indices_len_le lo hi z.length
  show(((Builtin.Str.strSliceIndices lo hi 1 z.length).filterMap (z.cps[·]?)).toArray).size≤_
  rw[yK]
  exact zF (List.length_filterMap_le _ _) h
def Zb8:V->Option Int->Option Int->Hp->VK->Prop:=λx lo hi H Q=>∃z,x=.str z/\z.length≤sizeLine/\Q (.str (UZ z lo hi)) H
theorem Ay:J9 X Zb8:=by
 intro pins s σ H x v vl vu lo hi sl Q I rx hs pl pu h
 obtain⟨z,rfl,hz,q⟩:=h
 obtain⟨t,rfl⟩:=rx
 have hc:=zF (JO (z:=z) (lo:=lo) (hi:=hi)) hz
 obtain⟨o,h1,h2,h3⟩:=hs
 obtain⟨l,rfl,rfl⟩:∃l:Option (Int×Tok),vl=partValue l/\l.map (·.1)=lo:=by
  cases pl with
  | none=>exact⟨none,rfl,rfl⟩
  | int i t=>exact⟨some (i,t),rfl,rfl⟩
 obtain⟨u,rfl,rfl⟩:∃l:Option (Int×Tok),vu=partValue l/\l.map (·.1)=hi:=by
  cases pu with
  | none=>exact⟨none,rfl,rfl⟩
  | int i t=>exact⟨some (i,t),rfl,rfl⟩
 refine⟨"str",_,PySem.F.slot_str_getitem.lookup,typeIs_str s z t,?_⟩
 refine wpAny_getItem_str_slice (l:=l) (u:=u) (st:=none) ⟨o,h1,h2,h3⟩ rfl ?_
 unfold UZ at q hc
 unfold sliceMade
 have e1:(((none:Option (Int×Tok)).map (·.1)).getD 1 == 1&&(slicePicked z l u none).length == z.length)=((Builtin.Str.strSliceIndices (l.map (·.1)) (u.map (·.1)) 1 z.length).length == z.length):=rfl
 rw[e1]
 split
 ·next c=>
  rw[zU c]at q
  exact⟨.str z,H,I,⟨_,rfl⟩,q⟩
 ·next c=>
  rw[wT c]at q hc
  exact⟨hc,.str _,H,I.tok _,⟨_,rfl⟩,q⟩
def Zb7(K:Frag):V->Option Int->Option Int->Hp->VK->Prop:=λx lo hi H Q=>G7 K x lo hi H Q\/(λx lo hi H Q=>Ai K x lo hi H Q\/Zb8 x lo hi H Q) x lo hi H Q
theorem Ax:J9 X (Zb7 X.K):=Kt.or (Dl.or Ay)
def Eb:Val->Option Int->Option Int->ZE:=λv lo hi s k=>match v with
 | .d (.tuple ds)=>k (.d (.tuple (TN ds lo hi))) s
 | .d (.list ds)=>k (.d (.list (TN ds lo hi))) s
 | .d (.str z)=>z.length≤sizeLine/\k (.d (.str (UZ z lo hi))) s
 | _=>False
theorem Zbe:RSl K (Zb7 K) Eb:=by
 refine⟨λv lo hi s Q Q' h q=>?_,λG s σ H x v lo hi Q r v1 h=>?_⟩
 ·unfold Eb at q |-;split at q
  ·exact h _ _ q
  ·exact h _ _ q
  ·exact⟨q.1,h _ _ q.2⟩
  ·exact q.elim
 ·unfold Eb at h;split at h
  ·exact .inl (GW.ok G s σ H x _ lo hi Q r v1 h)
  ·exact .inr (.inl ((GV false).ok G s σ H x _ lo hi Q r v1 h))
  ·exact .inr (.inr ⟨_,YR v1,h.1,h.2.here r XC⟩)
  ·exact h.elim
def Cs(K:Frag):List V->Hp->VK->Prop:=λxs H Q=>(∃p ys,xs=[.ref p]/\(Xp K H p ys\/WH K H p ys)/\Q (.int ys.length) H)\/(∃z,xs=[.str z]/\z.length≤sizeLine/\Q (.int z.length) H)
theorem K5:Y0 X (.builtin "len") (Cs X.K):=Yg.or Px
def LD:Val->ZE:=λv s k=>match v with
 | .d (.str z)=>z.length≤sizeLine/\k (.d (.int z.length)) s
 | v=>Nb v s k
theorem ET:RC K (Cs K) (f1 LD):=by
 refine ES (λv s Q Q' h q=>?_) (λG s σ H x v Q r v1 h=>?_)
 ·unfold LD at q |-;split at q
  ·exact⟨q.1,h _ _ q.2⟩
  ·unfold Nb at q |-;split at q
   ·exact h _ _ q
   ·exact q.elim
 ·unfold LD at h;split at h
  ·next z=>exact .inr ⟨z,by rw[YR v1],h.1,h.2.here r VA⟩
  ·refine .inl ?_
   unfold Nb at h;split at h
   ·next ds e=>
    obtain⟨a,xs,rfl,h1,h2⟩:=r.rdA v1 e
    exact⟨a,xs,rfl,h1,by rw[<- h2.length];exact h.here r VA⟩
   ·exact h.elim
def IS:Val->Val->ZE:=λv w s k=>match v,w with
 | .d (.str z),.d (.int i)=>z.length≤sizeLine/\∃c,atI z.cps.toList i=some c/\k (.d (.str ⟨#[c]⟩)) s
 | _,_=>False
theorem GP:RO K Zb3 IS:=by
 refine⟨λv w s Q Q' h q=>?_,λG s σ H x y v w Q r v1 v2 h=>?_⟩
 ·unfold IS at q |-;split at q
  ·obtain⟨h1,c,h2,h3⟩:=q;exact⟨h1,c,h2,h _ _ h3⟩
  ·exact q.elim
 ·unfold IS at h;split at h
  ·next z i=>
   obtain⟨h1,c,h2,h3⟩:=h
   exact⟨z,i,c,YR v1,Yj v2,h1,h2,h3.here r XC⟩
  ·exact h.elim
def Nf:Val->ZE:=λv s k=>match v with
 | .d (.int i)=>i.natAbs.log2<1920/\k (.d (.str (Str.ofString (toString i)))) s
 | _=>False
theorem Ki:RC K (λxs H Q=>∃i:Int,xs=[.int i]/\i.natAbs.log2<1920/\Q (.str (Str.ofString (toString i))) H) (f1 Nf):=by
 refine ES (λv s Q Q' h q=>?_) (λG s σ H x v Q r v1 h=>?_)
 ·unfold Nf at q |-;split at q
  ·exact⟨q.1,h _ _ q.2⟩
  ·exact q.elim
 ·unfold Nf at h;split at h
  ·next i=>exact⟨i,by rw[Yj v1],h.1,h.2.here r XC⟩
  ·exact h.elim
inductive TyD(K:Frag)(H:Hp):V->Value->Prop where
 | non:TyD K H .non (.type "NoneType")
 | bl (x:Bool):TyD K H (.bl x) (.type "bool")
 | int (i:Int):TyD K H (.int i) (.type "int")
 | str (x:Str):TyD K H (.str x) (.type "str")
 | lst {a:Addr}{xs:List V} (h:Xp K H a xs):TyD K H (.ref a) (.type "list")
 | tup {a:Addr}{xs:List V} (h:WH K H a xs):TyD K H (.ref a) (.type "tuple")
end
section
variable {K:Frag}
theorem AD{G H:Hp}{s:DS}{σ:St}(r:Yu K G s σ H){d:PyData}{x:V}(q:VR K G (.d d) x)(n:d.hasDict=false):TyD K H x (.type (UQ d)):=by
 cases d with
 | none=>rw[show x=.non from by unfold VR at q;exact DW.none_inv q];exact .non
 | bool b=>rw[WW q];exact .bl b
 | int i=>rw[Yj q];exact .int i
 | str x=>rw[YR q];exact .str x
 | list ds=>obtain⟨a,xs,rfl,h1,_⟩:=Ui q;exact .lst (Xp.of (r.sub _ _ h1))
 | tuple ds=>obtain⟨a,xs,rfl,h1,_⟩:=Uj q;exact .tup (r.sub.tup h1)
 | dict kvs=>simp[PyData.hasDict]at n
end
section
variable {X:Cx}{K:W.Frag}{G:Hp}
def G6(K:W.Frag):List V->Hp->VK->Prop:=λxs H Q=>(∃a d,xs=[.ref a]/\DV K H d (.ref a)/\d.showable=true/\d.hasDict=false/\d.depth≤40/\d.shown.length≤sizeLine/\Q (.str d.shown) H)\/(xs=[.non]/\Q (.str "None") H)\/(∃i:Int,xs=[.int i]/\i.natAbs.log2<1920/\Q (.str (toString i)) H) \/
 (∃b:Bool,xs=[.bl b]/\Q (.str (if b then "True" else "False")) H)\/∃z:Str,xs=[.str z]/\(reprText z).length≤sizeLine/\Q (.str (reprText z)) H
theorem Ms(hg:X.A.guards=some [])(hu:X.A.units+64<cLine):Y0 X (.builtin "repr") (G6 X.K):=by
 rintro pins s σ H xs us Q I r (h|h|h|⟨b,rfl,q⟩|⟨z,rfl,h,q⟩)
 ·exact UD hg hu pins s σ H xs us Q I r (.inl h)
 ·exact UD hg hu pins s σ H xs us Q I r (.inr (.inl h))
 ·exact UD hg hu pins s σ H xs us Q I r (.inr (.inr h))
 ·obtain⟨u,rfl,rx⟩:=VF r
  cases (show u=Value.bool b from rx)
  exact P.repr_of_bool ⟨.str (if b then "True" else "False"),H,I.tok _,⟨_,rfl⟩,q⟩
 ·obtain⟨u,rfl,t,rfl⟩:=VF r
  exact P.repr_of_str ⟨.str _,H,I.tok _,⟨_,rfl⟩,q⟩ h
def okN(d:PyData):Prop:=(isR d=true/\okR d)\/d=.none\/(∃i:Int,d=.int i/\i.natAbs.log2<1920)\/(∃b,d=.bool b)\/∃z:Str,d=.str z/\(reprText z).length≤sizeLine
def R7:Val->ZE:=λv s k=>match v with | .d d=>okN d/\k (.d (.str d.shown)) s|_=>False
theorem GB:RC K (G6 K) (f1 R7):=by
 refine ES (λv s Q Q' h q=>?_) (λG s σ H x v Q r v1 h=>?_)
 ·unfold R7 at q |-;split at q
  ·exact⟨q.1,h _ _ q.2⟩
  ·exact q.elim
 ·unfold R7 at h;split at h
  ·next d=>
   obtain⟨h0,h⟩:=h
   rcases h0 with ⟨h0,h1,h2,h3,h4⟩|rfl|⟨i,rfl,hi⟩|⟨b,rfl⟩|⟨z,rfl,hz⟩
   ·have D:=r.rdD v1 rfl h2
    obtain⟨a,rfl⟩:∃a,x=.ref a:=by
     cases d<;>simp only[isR]at h0<;>try cases h0
     ·unfold DV at D;obtain⟨a,_,e,_⟩:=D;exact⟨a,e⟩
     ·unfold DV at D;obtain⟨a,_,e,_⟩:=D;exact⟨a,e⟩
    exact .inl ⟨a,d,rfl,D,h1,h2,h3,h4,h.here r XC⟩
   ·have D:=r.rdD v1 rfl (by rfl)
    unfold DV at D
    subst D
    exact .inr (.inl ⟨rfl,h.here r XC⟩)
   ·exact .inr (.inr (.inl ⟨i,by rw[Yj v1],hi,h.here r XC⟩))
   ·exact .inr (.inr (.inr (.inl ⟨b,by rw[WW v1],by cases b<;>exact h.here r XC⟩)))
   ·exact .inr (.inr (.inr (.inr ⟨z,by rw[YR v1],hz,h.here r XC⟩)))
  ·exact h.elim
end
theorem Dn.never{P:Program}{w:World}{K:Frag}{mg:Str->Option Value}{base:Heap}{x:Str}{st:Stmt}{N ps:List Str}{k:Nat}{f:Xb}(U:∃a fd,Ws K x x st a fd/\mg x=some (.ref a))(S:Zv N ps (Zf st))(h:∀vs w q,f vs w q->False):Dn P w K mg base (k+1) x st ps (Wc K f):=by
 have no:∀vs H Q E,Wc K f vs H Q E->False:=λvs H Q E ⟨G,o,as,_,_,_,z⟩=>h _ _ _ z
 exact Dn.of U S (λvs H Q E z=>(no _ _ _ _ z).elim) λa cdv A outer s H vs Q E hr z=>(no _ _ _ _ z).elim
def Fc(c:Nat):Str:=⟨#[c]⟩
def Its(x:Str):It:=⟨λi _=>i<x.cps.size,λi H y H'=>H'=H/\∃c,x.cps[i]? = some c/\y=.str (Fc c),λi _=>x.cps.size≤i,false⟩
theorem Q0:entryFor table "str_ascii_iterator.__iter__" = some Builtin.«dict_keyiterator.__iter__»:=
 entryFor_alias (id':="dict_keyiterator.__iter__") (by kernel_rfl) (by first|rfl|decide +kernel|(unfold String.splitOn;simp +decide [String.splitOnAux])) (by decide +kernel) (by kernel_rfl)
theorem F0{P:Program}{w:World}{K:Frag}{tg:Expr}(x:Str)(t:Tok)(it:Addr):O8 P w K tg (Its x) [it] it (λi h=>h.IsStrIter it "str_ascii_iterator" x t i) where
 mem:=by simp
 obj:=λi h st b hb=>by
  have e:b=it:=by simpa using hb
  subst e
  obtain⟨o,e,c,d⟩:=st
  exact⟨o,e,λv z=>by rw[d]at z;cases z⟩
 keep:=λi h h' st k=>by
  obtain⟨o,e,r⟩:=st
  exact⟨o,k it (by simp) _ e,r⟩
 item:=by
  intro X hP hw hK hc i pins s σ H E I hf st hg
  subst hP hw hK
  have hi:i<x.cps.size:=hg
  obtain⟨f0,f1,f2,f3,f4,f5⟩:=hf it (by simp)
  refine wpAny_pyNext_ascii_item (c:=x.cps[i]) st (by simp[hi]) λh' st' sb=>?_
  have I1:Zu X pins σ H { s with heap:=h',toks:=s.toks+1 }:=I.turned (λb o hb e=>(sb.2 b hb).trans e) f0 f1 f3 f4 f5
  obtain⟨o,e,c,d⟩:=id st'
  exact⟨_,rfl,LJ (s:={ s with heap:=h',toks:=s.toks+1 }) e c d (by decide) ⟨.str (Fc x.cps[i]),H,I1,⟨_,rfl⟩,⟨rfl,_,by simp[hi],rfl⟩,st',λb hb=>(hf b hb).1⟩⟩
 done:=by
  intro X hP hw hK hc i pins s σ H E I hf st hg
  subst hP hw hK
  have hi:x.cps.size≤i:=hg
  obtain⟨f0,f1,f2,f3,f4,f5⟩:=hf it (by simp)
  rcases hc with hc|⟨hc,_⟩
  ·exact wpAny_pyNext_ascii_end (I.ok.cd hc) st (by simp[hi]) λh' eb=>⟨rfl,I.turned (t':=s.toks) (λb o hb e=>eb b o hb e) f0 f1 f3 f4 f5⟩
  ·cases hc
 self:=λA i s Q E st h=>by
  refine wpAny_pyIter_slot st.typeIs PySem.F.slot_str_ascii_iterator_iter (wS PySem.F.slot_str_ascii_iterator_iter st.typeIs Q0 ?_ (PySem.F.args_str_ascii_iterator_iter_1 _))
  show wpAny _ _ (ret (.ref it)) _ _ s
  exact zX ⟨_,rfl,"str_ascii_iterator",_,st.typeIs,PySem.F.slot_str_ascii_iterator_next.lookup,h⟩
section
variable {X:Cx}{K:Frag}{tg:Expr}
def Bj(tl:TE):TI:=λσ H R=>tl σ H λx H1=>∃z,x=.str z/\z.cps.all (· < 128)=true/\R (Its z) H1
theorem BP{l:Expr}{tl:TE}(hl:PE X l tl)(hc:X.cold=true:=by rfl):PI X tg l (Bj tl):=by
 intro pins s σ H R I h
 refine YB (hl pins s σ H _ I h) λv s1 ⟨x,H1,I1,r1,q1⟩=>?_
 obtain⟨z,e,ha,q⟩:=q1
 subst e
 obtain⟨t,rfl⟩:=r1
 refine wpAny_pyIter_ascii ha ?_
 refine⟨s1.heap.objs.size,[s1.heap.objs.size],_,_,H1,rfl,I1.kept (t':=s1.toks) λb o e=>wJ _ e,F0 z t _,⟨_,wK _ rfl,rfl,rfl⟩,λb hb=>?_,.inl hc,q⟩
 have e:b=s1.heap.objs.size:=by simpa using hb
 subst e
 exact I1.fpOk (zK _) (I1.hok.fresh (zK _))
theorem Hr{l:Expr}{tl:TE}(hl:IPE X l tl)(hc:X.cold=true:=by rfl):IPI X tg l (Bj tl):=by
 simp only[Zr,Zy]at *
 exact BP hl hc
def Dk(z:Str):List PyData:=z.cps.toList.map λc=>.str (Fc c)
def Za8(d:ZE):SW:=λs k=>d s λv s1=>match v with | .d (.str z)=>z.cps.all (· < 128)=true/\k (Dk z,LY) s1|_=>False
theorem UR.str{z:Str}{G:Hp}:UR K (Its z) G (λ_=>True) (Dk z):=by
 intro G1 s σ H i e _ r
 refine⟨λd hd=>?_,λhl=>by show z.cps.size≤i;simpa[Dk]using hl⟩
 obtain⟨c,h1,h2⟩:∃c,z.cps[i]? = some c/\d=.str (Fc c):=by
  unfold Dk at hd
  rw[yF]at hd
  cases q:z.cps.toList[i]? with
  | none=>rw[q]at hd;cases hd
  | some c=>rw[q]at hd;cases hd;exact⟨c,by simpa using q,rfl⟩
 subst h2
 refine⟨(sC.mp h1).1,λy H' hy=>?_⟩
 obtain⟨rfl,c',h3,rfl⟩:=hy
 rw[h1]at h3;cases h3
 exact⟨G1,Z7.refl _,r,DW.str⟩
theorem Ao{t:TE}{d:ZE}(h:RE K t d):RI K (Bj t) (Za8 d):=by
 refine⟨λs Q Q' z y=>h.mo _ _ _ (λv s1 y=>?_) y,λG s σ H R r y=>h.ok G s σ H _ r (h.mo _ _ _ (λv s1 y G1 H1 x e1 r1 v1=>?_) y)⟩
 ·split at y
  ·exact⟨y.1,z _ _ y.2⟩
  ·exact y.elim
 ·split at y
  ·next z=>exact⟨z,YR v1,y.1,y.2 G1 H1 _ e1 r1 UR.str⟩
  ·exact y.elim
def Zb1:R2:=λx y H Q=>∃i j,x=.str i/\y=.str j/\Q (.bl (PySem.Txt.contains j i)) H
theorem B7:WX X (compareOp .In) Zb1:=by
 intro pins s σ H x y u v Q I rx ry h
 obtain⟨i,j,rfl,rfl,q⟩:=h
 obtain⟨t,rfl⟩:=rx
 obtain⟨t',rfl⟩:=ry
 exact P.in_str ⟨.bl _,H,I,rfl,q⟩
def IL:Val->Val->ZE:=λv w s k=>match v,w with
 | .d (.str i),.d (.str j)=>k (.d (.bool (PySem.Txt.contains j i))) s
 | _,_=>False
theorem Ar:RO K Zb1 IL:=by
 refine⟨λv w s Q Q' h q=>?_,λG s σ H x y v w Q r v1 v2 h=>?_⟩
 ·unfold IL at q |-;split at q
  ·exact h _ _ q
  ·exact q.elim
 ·unfold IL at h;split at h
  ·next i j=>exact⟨i,j,YR v1,YR v2,h.here r Xj⟩
  ·exact h.elim
def Tb:Val->Val->ZE:=λv w s k=>match v,w with
 | .d (.str i),.d (.str j)=>i.length+j.length≤sizeLine/\k (.d (.str (i++j))) s
 | _,_=>False
theorem WU:RO K (λx y H Q=>∃i j,x=.str i/\y=.str j/\i.length+j.length≤sizeLine/\Q (.str (i++j)) H) Tb:=by
 refine⟨λv w s Q Q' h q=>?_,λG s σ H x y v w Q r v1 v2 h=>?_⟩
 ·unfold Tb at q |-;split at q
  ·exact⟨q.1,h _ _ q.2⟩
  ·exact q.elim
 ·unfold Tb at h;split at h
  ·next i j=>exact⟨i,j,YR v1,YR v2,h.1,h.2.here r XC⟩
  ·exact h.elim
def Cr(K:Frag):V->List V->Hp->VK->Prop:=λx vs H Q=>∃(z:Str) (l:Addr) (ts:List Str),x=.str z/\vs=[.ref l]/\Xp K H l (ts.map V.str)/\JoinOk z ts=true/\Q (.str (PySem.Txt.join z ts)) H
theorem strs_inv:∀{ts:List Str}{us:List Value},ZH (ts.map V.str) us->∃l:List (Str×Tok),us=strValues l/\l.map (·.1)=ts
 | [],us,h=>by cases h;exact⟨[],rfl,rfl⟩
 | x::ts,us,h=>by
  rw[uO]at h
  cases h with
  | cons h1 h2=>
   obtain⟨t,rfl⟩:=h1
   obtain⟨l,rfl,rfl⟩:=strs_inv h2
   exact⟨(x,t)::l,rfl,rfl⟩
theorem Ra:C1 X "str.join" (Cr X.K):=by
 intro pins s σ H x vs v us Q I rx rv h
 obtain⟨z,l,ts,rfl,rfl,hs,hj,q⟩:=h
 obtain⟨u,rfl,ru⟩:=rv.one
 obtain⟨t,rfl⟩:=rx
 cases (show u=Value.ref l from ru)
 obtain⟨its,rvs,pl,hz⟩:=I.list hs
 obtain⟨us,rfl,ht⟩:=strs_inv rvs
 exact SC.join pl.isList ht hj λt' k=>⟨.str _,H,I.tok _,⟨_,rfl⟩,q⟩
def VB(d:ZE)(da:XO):ZE:=λs k=>d s λv s1=>match v with
 | .d (.str z)=>da s1 λvs s2=>match vs with
  | [u]=>(match rdL s2.w u with
   | some ds=>∃ts:List Str,ds=ts.map .str/\JoinOk z ts=true/\k (.d (.str (PySem.Txt.join z ts))) s2
   | none=>False)
  | _=>False
 | _=>False
theorem ZT.strs_inv{G:Hp}:∀{ns:List Str}{xs:List V},ZT K G (ns.map .str) xs->xs=ns.map V.str
 | [],xs,h=>by unfold ZT at h;exact h
 | n::r,xs,h=>by
  rw[uO]at h
  unfold ZT at h
  obtain⟨x,t,rfl,h1,h2⟩:=h
  rw[h1.str_inv,ZT.strs_inv h2];rfl
theorem Rb{to:TE}{t:TA}{d:ZE}{da:XO}(h:RE K to d)(ha:RA K t da):RE K (tBM K "str" (Cr K) to t) (VB d da):=by
 refine⟨λs Q Q' z q=>h.mo _ _ _ (λv s1 q=>?_) q,λG s σ H Q r q=>h.ok G s σ H _ r (h.mo _ _ _ (λv s1 q G1 H1 x e1 r1 v1=>?_) q)⟩
 ·split at q
  ·refine ha.mo _ _ _ (λvs s2 q=>?_) q
   split at q
   ·split at q
    ·obtain⟨ts,h1,h2,q⟩:=q;exact⟨ts,h1,h2,z _ _ q⟩
    ·exact q.elim
   ·exact q.elim
  ·exact q.elim
 ·split at q
  ·next y=>
   cases YR v1
   refine⟨rfl,ha.ok G1 s1 σ H1 _ r1 (ha.mo _ _ _ (λvs s2 q G2 H2 xs e2 r2 v2=>?_) q)⟩
   split at q
   ·split at q
    ·next ds q1=>
     obtain⟨ts,rfl,hj,q⟩:=q
     obtain⟨u,rfl,v3⟩:=v2.one
     obtain⟨a,ys,rfl,h1,h2⟩:=r2.rdL v3 q1
     cases h2.strs_inv
     exact⟨y,a,ts,rfl,rfl,h1,hj,q G2 H2 _ (e1.trans e2) r2 XC⟩
    ·exact q.elim
   ·exact q.elim
  ·exact q.elim
end
theorem Nq{X:Cx}{o value:Expr}{f:Str}{ta tv:TE}{pos pos':Pos}(ha:IPE X o ta)(hv:IPE X value tv)(hs:swapsWith value (some (.Attribute o f pos')) pos.line X.env=pure false:=by rfl):IPS X (.Assign [.Attribute o f pos'] value pos) (Av X.K ta tv f):=by
 rw[Zx];exact BX ha.get hv.get hs
def insW(C:Addr)(fs:List (Str×Val)):Own:=.oth λK G H a=>∃dx us,H a=some (.ins C dx us)/\us.map (·.1)=fs.map (·.1)/\VRs K G (fs.map (·.2)) (us.map (·.2))
def Jt(f:Str)(x:Val):List (Str×Val)->List (Str×Val)
 | []=>[(f,x)]
 | (g,y)::r=>if g=f then(g,x)::r else(g,y)::Jt f x r
section
variable {K:Frag}{G H:Hp}{s:DS}{σ:St}{C a dx:Addr}{f:Str}
theorem NH{x:Val}{u:V}(hx:VR K G x u):∀{fs:List (Str×Val)}{us:List (Str×V)},us.map (·.1)=fs.map (·.1)->VRs K G (fs.map (·.2)) (us.map (·.2))->(Vn f u us).map (·.1)=(Jt f x fs).map (·.1)/\VRs K G ((Jt f x fs).map (·.2)) ((Vn f u us).map (·.2))
 | [],[],_,_=>⟨rfl,.cons hx .nil⟩
 | [],_::_,k,_=>by cases k
 | _::_,[],k,_=>by cases k
 | (g,y)::fs,(g',v)::us,k,D=>by
  simp only[uO,sE]at k
  obtain⟨k1,k⟩:=k
  subst k1
  simp only[uO]at D
  cases D with
  | cons d1 D=>
   by_cases z:g'=f
   ·unfold Vn Jt;rw[zU z,zU z]
    exact⟨by simp[k],.cons hx D⟩
   ·unfold Vn Jt;rw[wT z,wT z]
    obtain⟨h1,h2⟩:=NH hx k D
    exact⟨by simp[h1],.cons d1 h2⟩
theorem Cj{x:Val}:∀{fs:List (Str×Val)}{us:List (Str×V)},us.map (·.1)=fs.map (·.1)->VRs K G (fs.map (·.2)) (us.map (·.2))->fs.lookup f=some x->∃u,us.lookup f=some u/\VR K G x u
 | [],_,_,_,h=>by cases h
 | _::_,[],k,_,_=>by cases k
 | (g,y)::fs,(g',v)::us,k,D,h=>by
  simp only[uO,sE]at k
  obtain⟨k1,k⟩:=k
  subst k1
  simp only[uO]at D
  cases D with
  | cons d1 D=>
   rw[yY]at h |-
   split at h
   ·cases h;exact⟨v,rfl,d1⟩
   ·exact Cj k D h
theorem HL:∀{fs:List (Str×Val)}{us:List (Str×V)},us.map (·.1)=fs.map (·.1)->fs.lookup f=none->us.lookup f=none
 | [],[],_,_=>rfl
 | [],_::_,k,_=>by cases k
 | _::_,[],k,_=>by cases k
 | (g,y)::fs,(g',v)::us,k,h=>by
  simp only[uO,sE]at k
  obtain⟨k1,k⟩:=k
  subst k1
  rw[yY]at h |-
  split at h
  ·cases h
  ·exact HL k h
theorem LO{us:List (Str×V)}{fs:List (Str×Val)}(h:H a=some (.ins C dx us))(k:us.map (·.1)=fs.map (·.1))(D:VRs K G (fs.map (·.2)) (us.map (·.2))):WK K G H a (insW C fs):=
 ⟨⟨dx,us,h,k,D⟩,⟨_,h,λxs z=>by cases z⟩,λG' H' e q=>⟨dx,us,q.trans h,k,D.same e⟩⟩
theorem Tf{fs:List (Str×Val)}(h:WK K G H a (insW C fs)):∃dx us,H a=some (.ins C dx us)/\us.map (·.1)=fs.map (·.1)/\VRs K G (fs.map (·.2)) (us.map (·.2)):=h.1
def OG(C:Addr)(f:Str)(da dv:ZE):Vh:=λE s=>dv s λv s1=>da s1 λo s2=>match o with
 | .own a=>∃fs,s2.w a=some (insW C fs)/\fs.length<1000/\E.nx (s2.put a (insW C (Jt f v fs)))
 | _=>False
theorem Ko{ta tv:TE}{da dv:ZE}(c:Me K C)(n:Vx K C f)(ha:RE K ta da)(hv:RE K tv dv):RS K (Av K ta tv f) (OG C f da dv):=by
 intro G s σ H D E r po q
 refine hv.ok G s σ H _ r (hv.mo _ _ _ (λv s1 q1 G1 H1 y e1 r1 v1=>ha.ok G1 s1 σ H1 _ r1 (ha.mo _ _ _ (λo s2 q2 G2 H2 x e2 r2 v2=>?_) q1)) q)
 clear q q1
 revert q2
 intro q
 split at q
 ·next a=>
  obtain⟨fs,h1,h2,h3⟩:=q
  obtain⟨dx,us,h4,h5,h6⟩:=Tf (r2.own a _ h1).2
  have hl:us.length<1000:=by
   have:=zR List.length h5
   rw[Wb,Wb]at this
   omega
  obtain⟨k1,k2⟩:=NH (f:=f) (x:=v) (u:=y) (VR.same e2 v1) h5 h6
  exact⟨a,C,dx,us,v2,h4,c,n,hl,po.nx _ G2 _ _ (e1.trans e2) (r2.chg h1 (LO Z9 k1 k2)) h3⟩
 ·exact q.elim
def Xe(C:Addr)(f:Str)(da:ZE):ZE:=λs k=>da s λo s1=>match o with
 | .own a=>∃fs v,s1.w a=some (insW C fs)/\fs.lookup f=some v/\k v s1
 | _=>False
theorem YA{ta:TE}{da:ZE}(c:Me K C)(n:Vx K C f)(ha:RE K ta da):RE K (A4 K ta f) (Xe C f da):=by
 refine⟨λs Q Q' z q=>ha.mo _ _ _ (λo s1 q=>?_) q,λG s σ H Q r q=>ha.ok G s σ H _ r (ha.mo _ _ _ (λo s1 q G1 H1 x e1 r1 v1=>?_) q)⟩
 ·cases o with
  | own a=>obtain⟨fs,v,h1,h2,h3⟩:=q;exact⟨fs,v,h1,h2,z _ _ h3⟩
  | _=>exact q.elim
 ·cases o with
  | own a=>
   obtain⟨fs,v,h1,h2,h3⟩:=q
   obtain⟨dx,us,h4,h5,h6⟩:=Tf (r1.own a _ h1).2
   obtain⟨u,k1,k2⟩:=Cj h5 h6 h2
   exact⟨a,C,dx,us,u,v1,h4,c,n,k1,h3 G1 H1 u e1 r1 k2⟩
  | _=>exact q.elim
def Rx(C:Addr)(m:Str)(f:Xb)(da:ZE)(das:XO):ZE:=λs k=>da s λo s1=>match o with
 | .own a=>(∃fs,s1.w a=some (insW C fs)/\fs.lookup m=none)/\das s1 λvs s2=>f (.own a::vs) s2.w λv w'=>k v ⟨s2.e,w'⟩
 | _=>False
theorem Ut{m:Str}{f:Xb}{ta:TE}{da:ZE}{t:TA}{das:XO}(hm:VJ f)(ha:RE K ta da)(has:RA K t das):RE K (Fo C m (Wc K f) [] E0 ta t) (Rx C m f da das):=by
 refine⟨λs Q Q' z q=>ha.mo _ _ _ (λo s1 q=>?_) q,λG s σ H Q r q=>ha.ok G s σ H _ r (ha.mo _ _ _ (λo s1 q G1 H1 x e1 r1 v1=>?_) q)⟩
 ·cases o with
  | own a=>exact⟨q.1,has.mo _ _ _ (λvs s2 q=>hm _ _ _ _ (λv w' q=>z _ _ q) q) q.2⟩
  | _=>exact q.elim
 ·cases o with
  | own a=>
   obtain⟨⟨fs,h1,h2⟩,q⟩:=q
   obtain⟨dx,us,h4,h5,h6⟩:=Tf (r1.own a _ h1).2
   refine⟨a,dx,us,v1,h4,HL h5 h2,has.ok G1 s1 σ H1 _ r1 (has.mo _ _ _ (λvs s2 q G2 H2 xs e2 r2 v2=>?_) q)⟩
   obtain rfl:x=.ref a:=v1
   refine⟨G2,s2.w,.own a::vs,r2.sub,r2.own,by rw[uT];exact .cons rfl v2,hm _ _ _ _ (λv w' q G3 H3 y e3 u3 o3 y3=>?_) q⟩
   exact q G3 H3 y ((e1.trans e2).trans e3) ⟨u3,o3,r2.sl.same e3⟩ y3
  | _=>exact q.elim
def L4(C:Addr)(f:Xb)(das:XO):ZE:=λs k=>das s λvs s1=>∀a,s1.w a=none->f (.own a::vs) (s1.w.put a (insW C [])) λv w'=>v=.d .none/\k (.own a) ⟨s1.e,w'⟩
theorem Kk{f:Xb}{t:TA}{das:XO}(hm:VJ f)(has:RA K t das):RE K (Fm C (Wc K f) [] E0 t) (L4 C f das):=by
 refine⟨λs Q Q' z q=>has.mo _ _ _ (λvs s1 q a ha=>hm _ _ _ _ (λv w' q=>⟨q.1,z _ _ q.2⟩) (q a ha)) q,λG s σ H Q r q=>has.ok G s σ H _ r (has.mo _ _ _ (λvs s1 q G1 H1 xs e1 r1 v1=>?_) q)⟩
 intro x dx hx hdx hne
 have hx2:upd H1 dx (.own x) x=none:=by rw[Zk (wC hne)];exact hx
 have r2:=r1.new hdx (.own x)
 have r3:Yu K (upd G1 dx (.own x)) (s1.put x (insW C [])) σ (upd (upd H1 dx (.own x)) x (.ins C dx [])):=r2.newOwn hx2 (LO (us:=[]) Z9 rfl .nil)
 have hgd:G1 dx=none:=by
  cases q:G1 dx with
  | none=>rfl
  | some o=>rw[r1.sub _ _ q]at hdx;cases hdx
 have e2:Z7 G1 (upd G1 dx (.own x)):=λb o q=>by
  rw[Zk λw=>by rw[w,hgd]at q;cases q];exact q
 refine⟨_,_,.own x::vs,r3.sub,r3.own,by rw[uT];exact .cons rfl (v1.same e2),hm _ _ _ _ (λv w' z G' H' x' e3 u2 o2 vx=>?_) (q x (r1.free hx))⟩
 obtain⟨rfl,z⟩:=z
 refine⟨(show DW K G' .none x' from vx).none_inv,z G' H' (.ref x) ((e1.trans e2).trans e3) ⟨u2,o2,(r1.sl.same e2).same e3⟩ rfl⟩
end
structure U4(P:Program)(w:World)(K:Frag)(mg:Str->Option Value)(base:Heap)(k:Nat)(C:Addr)(m q:Str)(st:Stmt)(ps:List Str)(sp:Sp):Prop where
 ex:∃f fd,Xc P w K mg base UC k f fd ps sp/\Ws K m q st f fd/\Vw K C m f
structure AS(P:Program)(w:World)(K:Frag)(mg:Str->Option Value)(base:Heap)(k:Nat)(C:Addr)(x q:Str)(st:Stmt)(ps:List Str)(sp:Sp):Prop where
 ex:∃f fd,Xc P w K mg base UC k f fd ps sp/\Ws K "__init__" q st f fd/\Mk K C f/\mg x=some (.ref C)
def Yp(m q:Str)(st:Stmt)(ps:List Str):Prop:=∀(kV doc pm:Value) (an:Option Addr) (cdv ct:Value) (us:List Value),us.length=ps.length->bindArgs (PySem.W.fnOf m q (Y7 st) (ZR st) (Zf st) .none kV doc pm an cdv ct) ⟨us,[]⟩=pure (ps.zip us)
theorem Ws.bindsM{K:Frag}{m q:Str}{st:Stmt}{f:Addr}{fd:FuncData}{ps:List Str}(F:Ws K m q st f fd)(hb:Yp m q st ps):XE K fd ps []:=by
 obtain⟨oc,od,kV,doc,pm,an,cdv,ct,osl,rfl,_⟩:=F.ex
 exact XE.all (hb kV doc pm an cdv ct)
theorem fnD{P:Program}{w:World}{K:Frag}{mg:Str->Option Value}{base:Heap}{m q:Str}{st:Stmt}{N ps:List Str}{k:Nat}{f:Xb}{a:Addr}{fd:FuncData}(F:Ws K m q st a fd)(S:Zv N ps (Zf st))(len:∀vs w k,f vs w k->vs.length=ps.length) 
  (hbody:∀(a:Addr) (cdv:Value) (A:Around) (outer:List Env) (s:Shared) (H:Hp) (E:XK),ZZ k (A.deeper (envOfC q (Zf st) s.heap.objs.size a cdv)) ->
   ∃t d,U6 (Xw UC P w K mg base N q (Zf st) a cdv A outer s H E).nox (ZR st) t/\RS K t d/\∀(as:List Val) (o:OW) (q:Val->OW->Prop),f as o q->d { nx:=λs=>∃w',OW.le w' s.w/\q (.d .none) w',rt:=λv s=>∃w',OW.le w' s.w/\q v w' } ⟨Yw N as,o⟩):Xc P w K mg base UC (k+1) a fd ps (Wc K f):=by
 refine F.ok S (λvs H Q E h=>?_) λcdv A outer s H vs Q E hr h=>?_
 ·obtain⟨G,o,as,_,_,h1,h2⟩:=h
  rw[<- h1.length];exact len _ _ _ h2
 ·obtain⟨G,o,as,h1,h2,h3,h4⟩:=h
  obtain⟨t,d,q1,q2,q3⟩:=hbody a cdv A outer s H E hr
  refine⟨t,q1,q2 G ⟨Yw N as,o⟩ (YG N vs) H _ { nx:=λs=>∃w',OW.le w' s.w/\_,rt:=λv s=>∃w',OW.le w' s.w/\_ } ⟨h1,h2,Wa h3⟩ ⟨λs' G' σ' H' e r z=>?_,λv s' G' σ' H' x e r v1 z=>?_,λ_ _ _ _ _ _ z=>False.elim z,λ_ _ _ _ _ _ z=>False.elim z⟩ (q3 as o _ h4)⟩
  ·obtain⟨w',l,z⟩:=z
   exact z G' H' .non e r.sub (r.own.le l) Vg
  ·obtain⟨w',l,z⟩:=z
   exact z G' H' x e r.sub (r.own.le l) v1
section
variable {X:Cx}{k:Nat}{C:Addr}{m q x:Str}{st:Stmt}{ps:List Str}{sp:Sp}{o e:Expr}{es:List Expr}{ta:TE}{t:TA}{p pos apos:Pos}{f:Str}
theorem Yl(ha:IPE X e ta)(hb:attributeBase e f X.env (eval e X.env)=eval e X.env:=by rfl):IPE X (.Attribute e f pos) (A4 X.K ta f):=by
 rw[Zr];exact BE ha.get hb
theorem Xr{pl:Sem Bool}(D:U4 X.prog X.w X.K X.mg X.base k C m q st ps sp)(c:Me X.K C)(hb:Yp m q st ps)(hr:ZZ k X.A)(he:IPE X o ta) 
  (ht:eval (.Call (.Attribute o m apos) [] [] pos) X.env=(do
   let ov <- eval o X.env
   standAt apos.atName
   let (f,first) <- holding [ov] (getMethod ov m pl)
   callWith pos f first (backTo pos (starEach [] X.env)) (backToKw pos (keywordEach [] X.env))):=by rfl):IPE X (.Call (.Attribute o m apos) [] [] pos) (Fo C m sp [] E0 ta Fq):=by
 obtain⟨f,fd,F,U,M⟩:=D.ex
 rw[Zr];exact Gp he.get c M F hr (U.bindsM hb) .nil Kd ht
theorem RD(D:AS X.prog X.w X.K X.mg X.base k C x q st ps sp)(hb:Yp "__init__" q st ps)(hr:ZZ (k+1) X.A)(ha:IPA X (e::es) t)(hg:Gl X x:=by rfl)(hdb:(x == ("__debug__" : Str))=false:=by decide) 
  (he:starEach (e::es) X.env=(false,eval e X.env)::starEach es X.env:=by rfl) (hpl:(backTo pos (starEach es X.env)).any (·.1)=false:=by rfl):IPE X (.Call (.Name x p) (e::es) [] pos) (Fm C sp [] E0 t):=by
 obtain⟨f,fd,F,U,M,g⟩:=D.ex
 rw[Zr];exact ED M F hr hg g (U.bindsM hb) .nil Kd ha.get hdb he hpl
end
section
variable {X:Cx}{k:Nat}{C:Addr}{ps:List Str}{sp:Sp}{m q:Str}{st:Stmt}
theorem UP{A:Around}{f:Addr}{fd:FuncData}{pins:List (Addr×Obj)}{σ:St}{H:Hp}{s:Shared}{Q:VK}{us:List Value}{vs:List V}(F:Xc X.prog X.w X.K X.mg X.base UC k f fd ps sp)(hr:ZZ k A)(he:VI X.prog X.w X.K X.mg X.base A X.stack s H)(hb:XE X.K fd ps []) 
  (I:Zu X pins σ H s) (r:ZH vs us) (h:sp vs H Q E0):wpAny (model X.prog X.w) A (call (.ref f) us) (EP X pins σ Q) X.xe s:=by
 have hl:us.length=ps.length:=by rw[<- r.length];exact F.len _ _ _ _ h
 have hb2:=hb s us I.kIn (by rw[uT];exact hl)
 rw[uT]at hb2
 refine uU (uV (F.run A X.stack s H ⟨us,[]⟩ us vs Q E0 hr he hb2 r h) λr s' hq=>?_)
 cases r with
 | error e=>exact Kd pins σ H s e s' I hq
 | ok fl=>
  cases fl with
  | ret u=>exact I.after hq
  | next=>exact hq.elim
  | brk=>exact hq.elim
  | cont=>exact hq.elim
def Jv(C:Addr)(sp:Sp)(ok:V->Prop):List V->Hp->VK->Prop:=λxs H Q=>∃a dx fs,xs=[.ref a]/\H a=some (.ins C dx fs)/\sp [.ref a] H (λv H2=>ok v/\Q v H2) E0
def HV(v:V):Prop:=∃n:Int,v=.int n/\0≤n/\n<2 ^ 63
def L_(v:V):Prop:=∃x,v=.str x
theorem FW(D:U4 X.prog X.w X.K X.mg X.base k C "__len__" q st ps sp)(hb:Yp "__len__" q st ps)(hr:ZZ (k+1) X.A):Y0 X (.builtin "len") (Jv C sp HV):=by
 intro pins s σ H xs us Q I r h
 obtain⟨a,dx,fs,rfl,ea,z⟩:=h
 obtain⟨f,fd,F,U,M⟩:=D.ex
 obtain⟨mA,O,_⟩:=YU I.hok ea
 obtain⟨od,J,_⟩:=O.look
 obtain⟨mm,fr⟩:=I.fr
 obtain⟨u,rfl,ru⟩:=r.one
 obtain rfl:u=.ref a:=ru
 refine PySem.W.len_K fr I.ok.mod.kin J M.at_ M.fn (vW (UP F hr.in1 I.env0.in1 (U.bindsM hb) I (.cons (show ZI (V.ref a) (Value.ref a) from rfl) .nil) z) (λu s' hq=>?_) λ_ _ z=>z)
 obtain⟨v,H',I',rv,⟨n,rfl,h0,h1⟩,hq⟩:=hq
 obtain⟨t,rfl⟩:=rv
 exact⟨⟨h0,h1⟩,.int n,H',I'.tok _,⟨_,rfl⟩,hq⟩
theorem JN(D:U4 X.prog X.w X.K X.mg X.base k C "__repr__" q st ps sp)(hb:Yp "__repr__" q st ps)(hr:ZZ (k+1) X.A):Y0 X (.builtin "repr") (Jv C sp L_):=by
 intro pins s σ H xs us Q I r h
 obtain⟨a,dx,fs,rfl,ea,z⟩:=h
 obtain⟨f,fd,F,U,M⟩:=D.ex
 obtain⟨mA,O,_⟩:=YU I.hok ea
 obtain⟨od,J,_⟩:=O.look
 obtain⟨mm,fr⟩:=I.fr
 obtain⟨u,rfl,ru⟩:=r.one
 obtain rfl:u=.ref a:=ru
 refine PySem.W.repr_K hr.in1.units0 fr I.ok.mod.kin J M.at_ M.fn (vW (UP F hr.in1 I.env0.in1 (U.bindsM hb) I (.cons (show ZI (V.ref a) (Value.ref a) from rfl) .nil) z) (λu s' hq=>?_) λ_ _ z=>z)
 obtain⟨v,H',I',rv,⟨x,rfl⟩,hq⟩:=hq
 obtain⟨t,rfl⟩:=rv
 exact⟨.str x,H',I',⟨_,rfl⟩,hq⟩
theorem Lu(D:U4 X.prog X.w X.K X.mg X.base k C "__str__" q st ps sp)(hb:Yp "__str__" q st ps)(hr:ZZ (k+2) X.A):Y0 X (.type "str") (Jv C sp L_):=by
 intro pins s σ H xs us Q I r h
 obtain⟨a,dx,fs,rfl,ea,z⟩:=h
 obtain⟨f,fd,F,U,M⟩:=D.ex
 obtain⟨mA,O,_⟩:=YU I.hok ea
 obtain⟨od,J,_⟩:=O.look
 obtain⟨u,rfl,ru⟩:=r.one
 obtain rfl:u=.ref a:=ru
 refine PySem.W.kso_call hr.in1.in1.units0 I.kIn J M.at_ M.fn (vW (UP F hr.in1.in1 I.env0.in1.in1 (U.bindsM hb) I (.cons (show ZI (V.ref a) (Value.ref a) from rfl) .nil) z) (λu s' hq=>?_) λ_ _ z=>z)
 obtain⟨v,H',I',rv,⟨x,rfl⟩,hq⟩:=hq
 obtain⟨t,rfl⟩:=rv
 exact⟨.str x,H',I',⟨_,rfl⟩,hq⟩
def G8(C:Addr)(sp:Sp):V->Hp->(Bool->Hp->Prop)->Prop:=λx H Q=>∃a dx fs,x=.ref a/\H a=some (.ins C dx fs)/\sp [.ref a] H (λv H2=>∃n:Int,v=.int n/\(0≤n/\n<2 ^ 63)/\Q (n != 0) H2) E0
theorem AA(D:U4 X.prog X.w X.K X.mg X.base k C "__len__" q st ps sp)(hb:Yp "__len__" q st ps)(hr:ZZ (k+1) X.A)(nb:PySem.W.findIn X.K (.ref C) "__bool__" = some none):Zbr X (G8 C sp):=by
 intro pins s σ H x v Q I r h
 obtain⟨a,dx,fs,rfl,ea,z⟩:=h
 obtain⟨f,fd,F,U,M⟩:=D.ex
 obtain⟨mA,O,_⟩:=YU I.hok ea
 obtain⟨od,J,_⟩:=O.look
 obtain rfl:v=.ref a:=r
 unfold truthy
 refine zW (m:=callSpecial? (Value.ref a) (Str.ofString "__bool__")) ?_
 refine zW ?_
 refine zW ?_
 refine J.type.here ?_
 refine(uN I.kIn nb).here ?_
 refine zX ?_
 refine zW ?_
 refine zW ?_
 refine J.type.here ?_
 refine(uN I.kIn M.at_).here ?_
 rw[wT (by simp)]
 refine zW (wpAny_runValue (zZ entry_len ?_))
 rw[sI (by decide +kernel) _]
 unfold Builtin.«len»
 refine zW (m:=oneArg "len" _) (zX (zW (m:=callSpecial? (Value.ref a) (Str.ofString "__len__")) (PySem.W.special_fn I.kIn J M.at_ (uL.mp M.fn) (vW (UP F hr.in1 I.env0.in1 (U.bindsM hb) I (.cons (show ZI (V.ref a) (Value.ref a) from rfl) .nil) z) (λu s' hq=>?_) λ_ _ z=>z))))
 obtain⟨v,H',I',rv,n,rfl,⟨h0,h1⟩,hq⟩:=hq
 obtain⟨t,rfl⟩:=rv
 refine zW (zY (zX (zW (xL ?_))))
 have e1:¬n<0:=by omega
 have e2:¬n≥2 ^ 63:=by omega
 simp only[wT e1,wT e2]
 exact zW (wpAny_mkInt (zX (zX ⟨H',I'.tok _,hq⟩)))
end
section
variable {X:Cx}{k:Nat}{C:Addr}{ps:List Str}{sp:Sp}{m q:Str}{st:Stmt}
theorem HM{pins:List (Addr×Obj)}{σ:St}{H:Hp}{s:Shared}{x:V}{u t:Value}(I:Zu X pins σ H s)(r:ZI x u)(T:TyD X.K H x t):PySem.W.Looks (model X.prog X.w) s.heap (typeOf u) t:=by
 cases T with
 | non=>cases (show u=Value.none from r);exact λA Q E s k q=>zX q
 | bl y=>cases (show u=Value.bool y from r);exact λA Q E s k q=>zX q
 | int i=>obtain⟨t,z⟩:=(show ∃t,u=Value.int i t from r);cases z;exact λA Q E s k q=>zX q
 | str y=>obtain⟨t,z⟩:=(show ∃t,u=Value.str y t from r);cases z;exact λA Q E s k q=>zX q
 | @lst a xs ha=>
  cases (show u=Value.ref a from r)
  obtain⟨its,_,ht,_⟩:=I.list ha
  obtain⟨o,g1,g2,_⟩:=ht.isList
  exact λA Q E s k q=>wpAny_typeOf_ref (k _ _ g1) (by rw[g2];exact q)
 | @tup a xs ha=>
  cases (show u=Value.ref a from r)
  obtain⟨its,_,ht,_⟩:=I.tuple ha
  obtain⟨o,g1,g2,_⟩:=ht
  exact λA Q E s k q=>wpAny_typeOf_ref (k _ _ g1) (by rw[g2];exact q)
def Zap(K:Frag)(C:Addr)(H:Hp)(y:V):Prop:=(∃b dy gs,y=.ref b/\H b=some (.ins C dy gs))\/∃t,TyD K H y t/\PySem.W.subIn K t (.ref C)=some false
def Zb0(K:Frag)(C:Addr)(sp:Sp):R2:=λx y H Q=>∃a dx fs,x=.ref a/\H a=some (.ins C dx fs)/\Zap K C H y/\sp [.ref a,y] H (λv H2=>(∃b,v=.bl b)/\Q v H2) E0
theorem IE{A:Around}(D:U4 X.prog X.w X.K X.mg X.base k C "__eq__" q st ps sp)(hb:Yp "__eq__" q st ps){pins:List (Addr×Obj)}{s:Shared}{σ:St}{H:Hp}{y:V}{u:Value}{Q:VK}{a dx:Addr}{fs:List (Str×V)}(hr:ZZ k A)(he:VI X.prog X.w X.K X.mg X.base A X.stack s H) 
  (I:Zu X pins σ H s) (ry:ZI y u) (ea:H a=some (.ins C dx fs)) (ot:Zap X.K C H y) (z:sp [.ref a,y] H (λv H2=>(∃b,v=.bl b)/\Q v H2) E0):wpAny (model X.prog X.w) A (richCompare .Eq (.ref a) u) (EP X pins σ Q) X.xe s:=by
 obtain⟨f,fd,F,U,M⟩:=D.ex
 obtain⟨mA,O,_⟩:=YU I.hok ea
 obtain⟨od,J,_⟩:=O.look
 obtain⟨mm,fr⟩:=I.fr
 have fin:∀u' s',EP X pins σ (λv H2=>(∃b,v=.bl b)/\Q v H2) u' s'->PySem.W.CmpBack (EP X pins σ Q) u' s':=λu' s' ⟨v,H',I',rv,⟨b,e⟩,hq⟩=>by
  subst e
  obtain rfl:u'=.bool b:=rv
  exact⟨.bl b,H',I',rfl,hq⟩
 have run:=vW (UP (us:=[.ref a,u]) F hr he (U.bindsM hb) I (.cons (show ZI (V.ref a) (Value.ref a) from rfl) (.cons ry .nil)) z) fin λ_ _ z=>z
 rcases ot with ⟨b,dy,gs,rfl,eb⟩|⟨t,T,hs⟩
 ·obtain rfl:u=.ref b:=ry
  obtain⟨mB,O2,_⟩:=YU I.hok eb
  obtain⟨od2,J2,_⟩:=O2.look
  exact PySem.W.cmp_K hr.units0 fr I.ok.mod.kin J J2.type (by unfold PySem.W.notFirst;simp) M.at_ M.fn run
 ·exact PySem.W.cmp_K hr.units0 fr I.ok.mod.kin J (HM I ry T) (by unfold PySem.W.notFirst;rw[hs];simp) M.at_ M.fn run
theorem MN(D:U4 X.prog X.w X.K X.mg X.base k C "__eq__" q st ps sp)(hb:Yp "__eq__" q st ps)(hr:ZZ k X.A):WX X (compareOp .Eq) (Zb0 X.K C sp):=by
 intro pins s σ H x y v u Q I rx ry h
 obtain⟨a,dx,fs,rfl,ea,ot,z⟩:=h
 obtain rfl:v=.ref a:=rx
 exact PySem.W.cmp_ofEq (IE D hb hr I.env0 I ry ea ot z)
structure C2(K:Frag)(C f:Addr):Prop where
 ex:∃(nm q:Str) (N:Addr) (bs:List Value) (sn:List Str) (sub:List Value) (ab:Bool) (col:Option Bool) (dd:Option Addr) (k0 k1 k2 k3 k5:Option Value) (newId:String) (mN:Str->Option Value) (of:Obj),
  K.lookup C=some (excClassObj nm q C N bs [.type "object"] true sn sub ab col dd k0 k1 k2 k3 k5 newId)/\(∀h:Heap,K.In h->h.Ns N mN)/\mN "__eq__" = some (.ref f)/\mN "__ne__" = none/\K.lookup f=some of/\of.cls=.type "function"
def Zb4(C:Addr)(sp:Sp):R2:=λx y H Q=>∃a dx fs b dy gs,x=.ref a/\y=.ref b/\H a=some (.ins C dx fs)/\H b=some (.ins C dy gs)/\sp [.ref a,.ref b] H (λv H2=>∃c,v=.bl c/\Q (.bl (!c)) H2) E0
theorem B8(D:U4 X.prog X.w X.K X.mg X.base k C "__eq__" q st ps sp)(hb:Yp "__eq__" q st ps)(hr:ZZ (k+1) X.A)(hn:∀f,PySem.W.findIn X.K (.ref C) "__eq__" = some (some (.ref f))->C2 X.K C f)(hl:typeLookup (.type "object") "__eq__" = pure (some (.builtin "object.__eq__")))(hm:mroOf (.type "object")=pure [.type "object"]):WX X (compareOp .NotEq) (Zb4 C sp):=by
 intro pins s σ H x y v u Q I rx ry h
 obtain⟨a,dx,fs,b,dy,gs,rfl,rfl,ea,eb,z⟩:=h
 obtain rfl:v=.ref a:=rx
 obtain rfl:u=.ref b:=ry
 obtain⟨f,fd,F,U,M⟩:=D.ex
 obtain⟨mA,O,_⟩:=YU I.hok ea
 obtain⟨mB,O2,_⟩:=YU I.hok eb
 obtain⟨nm,q',N,bs,sn,sub,ab,col,dd,k0,k1,k2,k3,k5,newId,mN,of,c1,c2,c3,c4,c5,c6⟩:=(hn f M.at_).ex
 have Ow:s.heap.OwnEqNoNe a C f "object" [.type "object"]:=⟨_,of,nm,q',N,bs,true,sn,sub,ab,col,dd,k0,k1,k2,k3,k5,newId,mN,_,O.obj,rfl,I.kIn _ _ c1,c2 _ I.kIn,c3,I.kIn _ _ c5,c6,hm,hl,c4⟩
 refine compareOp_ne_ownEq PySem.F.cmp_object Ow O2.obj rfl (by have:=hr.un;omega) (vW (UP (us:=[.ref a,.ref b]) F hr.in1 I.env0.in1 (U.bindsM hb) I (.cons (show ZI (V.ref a) (Value.ref a) from rfl) (.cons (show ZI (V.ref b) (Value.ref b) from rfl) .nil)) z) (λu' s' hq=>?_) λ_ _ z=>z)
 obtain⟨v,H',I',rv,c,rfl,hq⟩:=hq
 obtain rfl:u'=.bool c:=rv
 exact⟨c,rfl,.bl (!c),H',I',rfl,hq⟩
end
theorem Fh(K:Frag)(C:Addr)(d:PyData)(h:d.hasDict=false):PySem.W.subIn K (.type (UQ d)) (.ref C)=some false:=by
 cases d with
 | dict kvs=>rw[PyData.hasDict]at h;cases h
 | _=>exact rfl
section
variable {K:Frag}{G H:Hp}{s:DS}{σ:St}{C:Addr}{f:Xb}
theorem Yu.insW{a:Addr}{fs:List (Str×Val)}(r:Yu K G s σ H)(h:s.w a=some (insW C fs)):∃dx us,H a=some (.ins C dx us):=let ⟨dx,us,q,_⟩:=Tf (r.own a _ h).2;⟨dx,us,q⟩
def PN(C:Addr)(f:Xb)(ok:Val->Prop):Val->ZE:=λv s k=>match v with
 | .own a=>(∃fs,s.w a=some (insW C fs))/\f [.own a] s.w λr w'=>ok r/\k r ⟨s.e,w'⟩
 | _=>False
def HW(v:Val):Prop:=∃n:Int,v=.d (.int n)/\0≤n/\n<2 ^ 63
def HY(v:Val):Prop:=∃x,v=.d (.str x)
theorem HX{v:Val}{x:V}(h:VR K G v x)(o:HW v):HV x:=let ⟨n,e,h0,h1⟩:=o;⟨n,by subst e;exact Yj h,h0,h1⟩
theorem HZ{v:Val}{x:V}(h:VR K G v x)(o:HY v):L_ x:=let ⟨n,e⟩:=o;⟨n,by subst e;exact YR h⟩
theorem GA{okd:Val->Prop}{ok:V->Prop}(hm:VJ f)(ho:∀{G v x},VR K G v x->okd v->ok x):RC K (Jv C (Wc K f) ok) (f1 (PN C f okd)):=by
 refine ES (λv s Q Q' h q=>?_) (λG s σ H x v Q r v1 h=>?_)
 ·unfold PN at q |-;split at q
  ·exact⟨q.1,hm _ _ _ _ (λv w' z=>⟨z.1,h _ _ z.2⟩) q.2⟩
  ·exact q.elim
 ·unfold PN at h;split at h
  ·next a=>
   obtain⟨⟨fs,h1⟩,q⟩:=h
   obtain⟨dx,us,e⟩:=r.insW h1
   obtain rfl:x=.ref a:=v1
   refine⟨a,dx,us,rfl,e,G,s.w,[.own a],r.sub,r.own,.cons rfl .nil,hm _ _ _ _ (λv w' z G' H' y e2 u2 o2 vy=>?_) q⟩
   exact⟨ho vy z.1,z.2 G' H' y e2 ⟨u2,o2,r.sl.same e2⟩ vy⟩
  ·exact h.elim
theorem EU(hm:VJ f):RC K (Jv C (Wc K f) HV) (f1 (PN C f HW)):=GA hm HX
theorem Oc(hm:VJ f):RC K (Jv C (Wc K f) L_) (f1 (PN C f HY)):=GA hm HZ
def PF(C:Addr)(f:Xb):Val->Val->ZE:=λv w s k=>match v with
 | .own a=>(∃fs,s.w a=some (insW C fs))/\(match w with | .own b=>∃gs,s.w b=some (insW C gs) | .d x=>x.hasDict=false|_=>False)/\f [.own a,w] s.w λr w'=>(∃b,r=.d (.bool b))/\k r ⟨s.e,w'⟩
 | _=>False
theorem MV(hm:VJ f):RO K (Zb0 K C (Wc K f)) (PF C f):=by
 refine⟨λv w s Q Q' h q=>?_,λG s σ H x y v w Q r v1 v2 h=>?_⟩
 ·unfold PF at q |-;split at q
  ·exact⟨q.1,q.2.1,hm _ _ _ _ (λv w' z=>⟨z.1,h _ _ z.2⟩) q.2.2⟩
  ·exact q.elim
 ·unfold PF at h;split at h
  ·next a=>
   obtain⟨⟨fs,h1⟩,h2,q⟩:=h
   obtain⟨dx,us,e⟩:=r.insW h1
   obtain rfl:x=.ref a:=v1
   refine⟨a,dx,us,rfl,e,?_,G,s.w,[.own a,w],r.sub,r.own,.cons rfl (.cons v2 .nil),hm _ _ _ _ (λv w' z G' H' y e2 u2 o2 vy=>?_) q⟩
   ·split at h2
    ·next b=>
     obtain⟨gs,h2⟩:=h2
     obtain⟨dy,us,e⟩:=r.insW h2
     exact .inl ⟨b,dy,us,v2,e⟩
    ·next x=>exact .inr ⟨_,AD r v2 h2,Fh K C x h2⟩
    ·exact h2.elim
   ·obtain⟨⟨b,rfl⟩,z⟩:=z
    exact⟨⟨b,WW vy⟩,z G' H' y e2 ⟨u2,o2,r.sl.same e2⟩ vy⟩
  ·exact h.elim
def OT(C:Addr)(f:Xb):Val->Val->ZE:=λv w s k=>match v,w with
 | .own a,.own b=>(∃fs,s.w a=some (insW C fs))/\(∃gs,s.w b=some (insW C gs))/\f [.own a,.own b] s.w λr w'=>∃c,r=.d (.bool c)/\k (.d (.bool (!c))) ⟨s.e,w'⟩
 | _,_=>False
theorem As(hm:VJ f):RO K (Zb4 C (Wc K f)) (OT C f):=by
 refine⟨λv w s Q Q' h q=>?_,λG s σ H x y v w Q r v1 v2 h=>?_⟩
 ·unfold OT at q |-;split at q
  ·exact⟨q.1,q.2.1,hm _ _ _ _ (λv w' ⟨c,e,z⟩=>⟨c,e,h _ _ z⟩) q.2.2⟩
  ·exact q.elim
 ·unfold OT at h;split at h
  ·next a b=>
   obtain⟨⟨fs,h1⟩,⟨gs,h2⟩,q⟩:=h
   obtain⟨dx,us,e⟩:=r.insW h1
   obtain⟨dy,ws,e'⟩:=r.insW h2
   obtain rfl:x=.ref a:=v1
   obtain rfl:y=.ref b:=v2
   refine⟨a,dx,us,b,dy,ws,rfl,rfl,e,e',G,s.w,[.own a,.own b],r.sub,r.own,.cons rfl (.cons rfl .nil),hm _ _ _ _ (λv w' z G' H' y e2 u2 o2 vy=>?_) q⟩
   obtain⟨c,rfl,z⟩:=z
   exact⟨c,WW vy,z G' H' _ e2 ⟨u2,o2,r.sl.same e2⟩ Xj⟩
  ·exact h.elim
def DM(C:Addr)(f:Xb)(d:ZE):Ux:=λs k=>d s λv s1=>match v with
 | .own a=>(∃fs,s1.w a=some (insW C fs))/\f [.own a] s1.w λr w'=>∃n:Int,r=.d (.int n)/\(0≤n/\n<2 ^ 63)/\k (n != 0) ⟨s1.e,w'⟩
 | _=>False
theorem Df{t:TE}{d:ZE}(hm:VJ f)(h:RE K t d):RT K (λσ H Q=>t σ H λx H'=>G8 C (Wc K f) x H' Q) (DM C f d):=by
 refine⟨λs Q Q' z q=>h.mo _ _ _ (λv s1 q=>?_) q,λG s σ H Q r q=>h.ok G s σ H _ r (h.mo _ _ _ (λv s1 q G1 H1 x e1 r1 v1=>?_) q)⟩
 ·split at q
  ·exact⟨q.1,hm _ _ _ _ (λv w' ⟨n,e,b,y⟩=>⟨n,e,b,z _ _ y⟩) q.2⟩
  ·exact q.elim
 ·split at q
  ·next a=>
   obtain⟨⟨fs,h1⟩,q⟩:=q
   obtain⟨dx,us,e⟩:=r1.insW h1
   obtain rfl:x=.ref a:=v1
   refine⟨a,dx,us,rfl,e,G1,s1.w,[.own a],r1.sub,r1.own,.cons rfl .nil,hm _ _ _ _ (λv w' z G' H' y e2 u2 o2 vy=>?_) q⟩
   obtain⟨n,rfl,hn,z⟩:=z
   exact⟨n,Yj vy,hn,z G' H' (e1.trans e2) ⟨u2,o2,r1.sl.same e2⟩⟩
  ·exact q.elim
end
section
variable {X:Cx}{k:Nat}{C:Addr}{ps:List Str}{sp:Sp}{q:Str}{st:Stmt}{a:Expr}{ta:TE}
theorem K_(D:U4 X.prog X.w X.K X.mg X.base k C "__len__" q st ps sp)(hb:Yp "__len__" q st ps)(hr:ZZ (k+1) X.A)(nb:PySem.W.findIn X.K (.ref C) "__bool__" = some none)(ha:IPE X a ta) 
  (he:∀whole,isTrue a X.env whole=(do let v <- whole;standAt a.pos;holding [v] (truthy v)):=by intro _;rfl):IPT X a (λσ H Q=>ta σ H λx H'=>G8 C sp x H' Q):=by
 rw[Z0]
 intro pins s σ H Q I h
 exact isTrue_plain (YB (ha.get pins s σ H _ I h) λv s1 ⟨x,H1,I1,r1,q1⟩=>AA D hb hr nb pins s1 σ H1 x v Q I1 r1 q1) (he _)
end
def Tn(vs:List Val):Own:=.oth λK G H a=>∃xs,H a=some (.lst xs)/\VRs K G vs xs
section
variable {K:Frag}{G H:Hp}{s:DS}{σ:St}{a:Addr}
theorem Em{vs:List Val}{xs:List V}(h:H a=some (.lst xs))(D:VRs K G vs xs):WK K G H a (Tn vs):=
 ⟨⟨xs,h,D⟩,⟨_,h,λxs z=>by cases z⟩,λG' H' e q=>⟨xs,q.trans h,D.same e⟩⟩
def nlV(vs:List Val)(s:DS)(k:DK):Prop:=∀l,s.w l=none->k (.own l) ⟨s.e,s.w.put l (Tn vs)⟩
theorem PZ{vs:List Val}{k k':DK}(h:∀v s,k v s->k' v s)(q:nlV vs s k):nlV vs s k':=λl hl=>h _ _ (q l hl)
theorem Yu.nlV{vs:List Val}{xs:List V}{Q:VK}(r:Yu K G s σ H)(D:VRs K G vs xs)(q:L2.nlV vs s (Po K G σ Q)):∀p,H p=none->Q (.ref p) (upd H p (.lst xs)):=λp hp=>
 q p (r.free hp) G _ (.ref p) (Z7.refl G) (r.newOwn hp (Em Z9 D)) rfl
def QO(da:XO):ZE:=λs k=>da s λvs s1=>vs.length≤sizeLine/\nlV vs s1 k
theorem EZ{t:TA}{da:XO}(ha:RA K t da):RE K (Dq t) (QO da):=by
 refine⟨λs Q Q' h q=>ha.mo _ _ _ (λv s1 q1=>⟨q1.1,PZ h q1.2⟩) q,λG s σ H Q r h=>ha.ok G s σ H _ r (ha.mo _ _ _ (λvs s1 q G1 H1 xs e1 r1 v1=>?_) h)⟩
 exact⟨by rw[<- v1.length];exact q.1,r1.nlV v1 (PZ (λv s' z=>z.same e1) q.2)⟩
def R6:Val->Val->ZE:=λv w s k=>match v,w with
 | .own l,.d (.int i)=>∃vs x,s.w l=some (Tn vs)/\atI vs i=some x/\k x s
 | _,_=>False
theorem FR{vs:List Val}{xs:List V}{i:Int}{v:Val}(D:VRs K G vs xs)(h:atI vs i=some v):∃x,atI xs i=some x/\VR K G v x:=by
 have hl:=D.length
 unfold atI at h |-
 rw[<- hl]
 have key:∀n:Nat,vs[n]? = some v->∃x,xs[n]? = some x/\VR K G v x:=λn e=>by
  rcases D.get n with ⟨v',x,e1,e2,q⟩|⟨e1,_⟩
  ·rw[e1]at e;cases e;exact⟨x,e2,q⟩
  ·rw[e1]at e;cases e
 cases q:Ei vs.length i with
 | none=>rw[q]at h;cases h
 | some j=>rw[q]at h;exact key j h
theorem V9:RO K (ER K) R6:=by
 refine⟨λv w s Q Q' h q=>?_,λG s σ H x y v w Q r v1 v2 h=>?_⟩
 ·unfold R6 at q |-;split at q
  ·obtain⟨vs,x,e,f,q⟩:=q;exact⟨vs,x,e,f,h _ _ q⟩
  ·exact q.elim
 ·unfold R6 at h;split at h
  ·next l i=>
   obtain⟨vs,z,e,f,h⟩:=h
   obtain⟨xs,h1,D⟩:=(r.own l _ e).2.1
   obtain⟨u,k1,k2⟩:=FR D f
   exact⟨l,xs,i,u,v1,Yj v2,.inl (.inl h1),k1,h G H u (Z7.refl G) r k2⟩
  ·exact h.elim
def AY(src:List PyData×(OW->Prop))(e0:List (Option Val))(dg:T7)(de:ZE)(k:List Val->DS->Prop)(I:Nat->List Val->OW->Prop):Prop:=
 (∀i acc w,I i acc w->src.2 w/\(i<src.1.length->acc.length<sizeLine)) /\
 (∀(i:Nat) d acc w,src.1[i]? = some d->I i acc w->dg (.d d) ⟨e0,w⟩ λs2=>de s2 λv s3=>L2.ext e0 s3.e/\I (i+1) (acc++[v]) s3.w) /\
 ∀acc w,I src.1.length acc w->k acc ⟨e0,w⟩
theorem VRs.app{vs ws:List Val}{xs ys:List V}(h:VRs K G vs xs)(q:VRs K G ws ys):VRs K G (vs++ws) (xs++ys):=by
 induction h with
 | nil=>exact q
 | cons a t ih=>exact .cons a ih
theorem Bx{J:It}{g:TG}{te:TE}{dg:T7}{de:ZE}{ds:List PyData}{P:OW->Prop}{e0:List (Option Val)}{Q:LK}{k:List Val->DS->Prop}{I:Nat->List Val->OW->Prop}{G1:Hp}(hg:RG K g dg)(he:RE K te de)(hJ:UR K J G1 P ds) 
  (hI:AY (ds,P) e0 dg de k I) (hQ:∀G s σ H acc ys,Z7 G1 G->Yu K G s σ H->VRs K G acc ys->k acc s->Q ys σ H) {w:OW}{σ:St}{H:Hp} (r:Yu K G1 ⟨e0,w⟩ σ H) (h0:I 0 [] w) :
  ∃W:Nat->List V->Nat->St->Hp->Prop,(∃m,W 0 [] m σ H)/\Lm J g Jz (S0 te) Q W:=by
 obtain⟨hI1,hI2,hI3⟩:=hI
 dsimp only at hI1 hI2 hI3
 refine⟨λi ys m σ H=>i+m=ds.length/\∃G w acc,Z7 G1 G/\Yu K G ⟨e0,w⟩ σ H/\VRs K G acc ys/\I i acc w,⟨ds.length,zero_add _,G1,w,[],Z7.refl _,r,.nil,h0⟩,?_⟩
 rintro i ys m σ H ⟨hm,G,w,acc,e,r,D,hi⟩
 obtain⟨hp,hz⟩:=hI1 i acc w hi
 cases m with
 | zero=>
  have:i=ds.length:=by omega
  subst this
  exact .inl ⟨(hJ G _ σ H _ e hp r).2 (zK _),hQ G _ σ H acc ys e r D (hI3 acc w hi)⟩
 | succ m=>
  have hlt:i<ds.length:=by omega
  have hd:=M4 hlt
  obtain⟨go,yl⟩:=(hJ G _ σ H i e hp r).1 _ hd
  refine .inr ⟨go,λys' σ' H'=>∃G' w' acc',Z7 G1 G'/\Yu K G' ⟨e0,w'⟩ σ' H'/\VRs K G' acc' ys'/\I (i+1) acc' w',λys' σ' H' ⟨G',s',acc',q⟩=>⟨m,uQ m,by omega,G',s',acc',q⟩,λx H' hy=>?_⟩
  obtain⟨G',e',r',dx⟩:=yl x H' hy
  have hs:=hI2 i _ acc w hd hi
  refine hg.ok G' _ σ H' (.d _) x _ r' dx (hg.mo _ _ _ _ (λs2 q G2 σ2 H2 e2 r2=>?_) hs)
  unfold Jz
  simp only[yJ]
  have D2:=D.same (e'.trans e2)
  refine⟨by rw[<- D.length];exact hz hlt,he.ok G2 s2 σ2 H2 _ r2 (he.mo _ _ _ (λv s3 q G3 H3 x e3 r3 v3=>?_) q)⟩
  exact⟨G3,s3.w,acc++[v],((e.trans e').trans e2).trans e3,r3.ext q.1,(D2.same e3).app (.cons v3 .nil),q.2⟩
def JW(di:SW)(cap:List (Option Nat))(dg:T7)(de:ZE):ZE:=λs k=>di s λsrc s1=>∃I,I 0 [] s1.w/\AY src (U8 cap s1.e) dg de (λacc s'=>nlV acc ⟨s1.e,s'.w⟩ k) I
theorem GG{wi:TI}{cap:List (Option Nat)}{g:TG}{te:TE}{di:SW}{dg:T7}{de:ZE}(hi:RI K wi di)(hg:RG K g dg)(he:RE K te de):RE K (Qq wi cap g Jz (S0 te)) (JW di cap dg de):=by
 refine⟨λs Q Q' z q=>hi.mo _ _ _ (λds s1 q=>?_) q,λG s σ H Q r q=>hi.ok G s σ H _ r (hi.mo _ _ _ (λds s1 q G1 H1 J e1 r1 hJ=>?_) q)⟩
 ·obtain⟨I,h0,h3,h1,h2⟩:=q
  exact⟨I,h0,h3,h1,λacc s h=>PZ z (h2 acc s h)⟩
 ·obtain⟨I,h0,hI⟩:=q
  refine Bx (w:=s1.w) hg he hJ hI (λG2 s2 σ2 H2 acc2 ys2 e2 r2 D2 k2=>?_) (r1.env (r1.sl.capt cap)) h0
  exact(r2.env (r1.sl.same e2):Yu K G2 ⟨s1.e,s2.w⟩ σ H2).nlV D2 (PZ (λv s' z=>z.same (e1.trans e2)) k2)
end
open PySem.MeetsSeq PySem.MeetsSeq2 PySem.SeqRoads2
open PySem.AutoSeq1 (wpAny_loadPart')
def N3(items:Array Value)(n:Nat)(dd:Option Addr)(sl:Array (Option Value)):Obj:={ cls:=.type "list",dict:=dd,data:=.seq items n,slots:=sl }
def QV(prog:Program)(w:World)(A:Around)(l:Addr)(items:Array Value)(x:Value)(Q:Bool->Shared->Prop)(E:Value->Shared->Prop):List Value->Shared->Prop
 | [],s=>Q false s
 | y::r,s=>wpAny (model prog w) A (eqBool y x) (λb s'=>(b=true/\Q true s')\/(b=false/\(∃n dd sl,s'.heap.get? l=some (N3 items n dd sl))/\QV prog w A l items x Q E r s')) E s
section
variable {prog:Program}{w:World}{l:Addr}{items:Array Value}{x:Value}
theorem GZ(k:Nat):∀i:Nat,items.size-i=k->MeetsIn prog w (Builtin.«list.__contains__.loop» ⟨[.ref l,x,rawInt i],[]⟩)
  (λA R s=>(∃n dd sl,s.heap.get? l=some (N3 items n dd sl))/\QV prog w A.in1 l items x (λb s'=>R (.ok (.ret (.bool b))) s') (λe s'=>R (.error e) s') (items.toList.drop i) s):=by
 induction k with
 | zero=>
  rintro i hk A R ⟨hp,g,d,tk,os⟩ ⟨⟨n,dd,sl,hl⟩,h⟩
  wp_walk using yI hl
  have hd:items.toList.drop i=[]:=by simp;omega
  rw[hd]at h
  have hi:items[((i:Nat):Int).toNat]? = none:=by simp;omega
  rw[hi]
  wp_walk
  exact h
 | succ k ih=>
  rintro i hk A R ⟨hp,g,d,tk,os⟩ ⟨⟨n,dd,sl,hl⟩,h⟩
  wp_walk using yI hl
  have hlt:i<items.size:=by omega
  have hd:items.toList.drop i=items[i]::items.toList.drop (i+1):=by simp[List.drop_eq_getElem_cons,hlt]
  rw[hd]at h
  have hi:items[((i:Nat):Int).toNat]? = some items[i]:=by simp[hlt]
  rw[hi]
  refine zW (vW h (λb s' h'=>?_) λ_ _ z=>z)
  rcases h' with ⟨rfl,h'⟩|⟨rfl,h1,h'⟩
  ·wp_walk
   exact h'
  ·obtain⟨hp',g',d',tk',os'⟩:=s'
   have hc:((i:Int)+1)=((i+1:Nat):Int):=by omega
   wp_walk
   rw[hc]
   refine⟨plainId_quiet plain_contains_loop _,zZ entry_contains_loop ?_⟩
   have e:=sI (A:=A) plain_contains_loop ⟨[.ref l,x,rawInt ((i+1:Nat):Int)],[]⟩
   rw[e]
   exact ih (i+1) (by omega) A R _ ⟨h1,h'⟩
theorem Dg:MeetsIn prog w (Builtin.«list.__contains__» ⟨[.ref l,x],[]⟩)
  (λA R s=>(∃n dd sl,s.heap.get? l=some (N3 items n dd sl))/\QV prog w A.in1 l items x (λb s'=>R (.ok (.ret (.bool b))) s') (λe s'=>R (.error e) s') items.toList s):=by
 rintro A R ⟨hp,g,d,tk,os⟩ ⟨h1,h⟩
 wp_walk
 refine⟨plainId_quiet plain_contains_loop _,zZ entry_contains_loop ?_⟩
 have e:=sI (A:=A) plain_contains_loop ⟨[.ref l,x,rawInt ((0:Nat):Int)],[]⟩
 rw[show((0:Int))=((0:Nat):Int) from rfl,e]
 exact GZ _ 0 rfl A R _ ⟨h1,h⟩
theorem Jl{A:Around}{s:Shared}{Q:Value->Shared->Prop}{E:Value->Shared->Prop}(hl:∃n dd sl,s.heap.get? l=some (N3 items n dd sl))(h:QV prog w A.in1 l items x (λb s'=>Q (.bool (!b)) s') E items.toList s):wpAny (model prog w) A (compareOp .NotIn x (.ref l)) Q E s:=by
 show wpAny _ A (contains (.ref l) x>>=λb=>pure (Value.bool (!b))) Q E s
 have hT:s.TypeIs (.ref l) "list":=let ⟨n,dd,sl,e⟩:=hl;⟨_,e,rfl⟩
 have key:∀(ys:List Value) (s:Shared),QV prog w A.in1 l items x (λb s'=>Q (.bool (!b)) s') E ys s->QV prog w A.in1 l items x (λb s'=>wants (λv s'=>∃c,v=.bool c/\Q (.bool (!c)) s') E (.ok (.ret (.bool b))) s') (λe s'=>wants (λv s'=>∃c,v=.bool c/\Q (.bool (!c)) s') E (.error e) s') ys s:=by
  intro ys
  induction ys with
  | nil=>intro s h;exact⟨_,rfl,h⟩
  | cons y r ih=>
   intro s h
   refine vW h (λb s' h'=>?_) λ_ _ z=>z
   rcases h' with ⟨e,h'⟩|⟨e,h1,h'⟩
   ·exact .inl ⟨e,_,rfl,h'⟩
   ·exact .inr ⟨e,h1,ih _ h'⟩
 refine zW (wpAny_contains_slot hT F.slot_list_contains (vW (call_meetsIn F.slot_list_contains hT F.entry_list_contains (F.args_list_contains_2 _ _) Dg ⟨hl,key _ _ h⟩) (λv s' hv=>?_) λ_ _ z=>z))
 obtain⟨c,rfl,hq⟩:=hv
 exact vY (zX hq)
end
end L2
namespace L2
open PySem PySem.Spec PyProof.Rows
section
variable {X:Cx}{k:Nat}{C:Addr}{ps:List Str}{sp:Sp}{q:Str}{st:Stmt}
theorem EY{A:Around}{f a:Addr}{s:Shared}{ox:Obj}{od:Option Obj}{Q:Value->Shared->Prop}{E:Value->Shared->Prop}{P:Program}{w:World}{K:Frag}(hu:A.units<cLine)(hk:K.In s.heap)(J:PySem.W.InstAt s.heap a ox C od)(hm:PySem.W.subIn K (.ref C) (.type "NoneType")=some false) 
  (hs:PySem.W.findIn K (.ref C) "__eq__" = some (some (.ref f))) (hf:PySem.W.isFn K (.ref f)=true) (h:wpAny (model P w) A (call (.ref f) [.ref a,.none]) (λv s'=>∃b,v=.bool b/\Q (.bool b) s') E s):wpAny (model P w) A (richCompare .Eq .none (.ref a)) Q E s:=by
 unfold richCompare
 refine zY (zW (m:=cRoomFor _ _) (wpAny_cRoomFor hu ?_))
 simp only[show oneThing? .Eq .none (.ref a)=none from rfl,cmpInfo_Eq]
 refine zW (m:=typeOf .none) (zX (zW (J.type.here ?_)))
 simp only[show((Value.type "NoneType" != Value.ref C)=true) from rfl,yJ]
 refine zW ((PySem.W.looks_subIn hk hm).here ?_)
 simp only[vE,vF,sJ,yJ]
 refine zW (m:=tryCompare _ _ _) ?_
 unfold tryCompare
 refine zW (wpAny_callSpecialIfBound?_slot (T:="NoneType") rfl F.slot_NoneType_eq (call_gives F.slot_NoneType_eq rfl F.entry_NoneType_eq (F.args_NoneType_eq_2 _ _) (PySem.SeqAt.NoneType___eq___none_ref_0 a) ?_))
 refine zX (zW (zW (PySem.W.ifBound_K hk J hs hf (vW h (λv s' hv=>?_) λ_ _ z=>z))))
 obtain⟨b,rfl,hq⟩:=hv
 exact zX (zX hq)
def Zb5(C:Addr)(sp:Sp):R2:=λx y H Q=>∃a dx fs b dy gs l,x=.ref a/\y=.ref l/\H a=some (.ins C dx fs)/\H b=some (.ins C dy gs)/\H l=some (.lst [.non,.ref b])/\a≠b /\
 sp [.ref a,.non] H (λv H2=>v=.bl false/\(∃dx fs,H2 a=some (.ins C dx fs))/\(∃dy gs,H2 b=some (.ins C dy gs))/\H2 l=some (.lst [.non,.ref b])/\sp [.ref b,.ref a] H2 (λv H3=>(∃c,v=.bl c)/\∃c,v=.bl c/\H3 l=some (.lst [.non,.ref b])/\Q (.bl (!c)) H3) E0) E0
theorem MF{pins:List (Addr×Obj)}{σ:St}{H:Hp}{s:Shared}{l b:Addr}(I:Zu X pins σ H s)(h:H l=some (.lst [.non,.ref b])):∃n dd sl,s.heap.get? l=some (N3 #[.none,.ref b] n dd sl):=by
 obtain⟨its,r,ht,_⟩:=I.list (.inl (.inl h))
 obtain⟨⟨c,dd,da,sl⟩,e,rfl,n,rfl⟩:=ht.isList
 have e1:its=[.none,.ref b]:=by
  cases r with
  | cons r1 r=>
   cases r with
   | cons r2 r=>
    cases r
    obtain rfl:=(show _=Value.none from r1)
    obtain rfl:=(show _=Value.ref b from r2)
    rfl
 subst e1
 exact⟨n,dd,sl,e⟩
theorem B9(D:U4 X.prog X.w X.K X.mg X.base k C "__eq__" q st ps sp)(hb:Yp "__eq__" q st ps)(hr:ZZ (k+1) X.A)(hm:PySem.W.subIn X.K (.ref C) (.type "NoneType")=some false):WX X (compareOp .NotIn) (Zb5 C sp):=by
 intro pins s σ H x y v u Q I rx ry h
 obtain⟨a,dx,fs,b,dy,gs,l,rfl,rfl,ea,eb,el,ne,z⟩:=h
 obtain rfl:v=.ref a:=rx
 obtain rfl:u=.ref l:=ry
 obtain⟨f,fd,F,U,M⟩:=D.ex
 obtain⟨mA,O,_⟩:=YU I.hok ea
 obtain⟨od,J,_⟩:=O.look
 have h1:=hr.in1
 refine Jl (MF I el) ?_
 show wpAny (model X.prog X.w) X.A.in1 (eqBool .none (.ref a)) _ _ s
 unfold eqBool
 refine zY ?_
 simp only[show((Value.none == Value.ref a)=false) from rfl,vE,vF]
 refine zW (EY h1.units0 I.kIn J hm M.at_ M.fn (vW (UP (us:=[.ref a,.none]) F h1 I.env0.in1 (U.bindsM hb) I (.cons (show ZI (V.ref a) (Value.ref a) from rfl) (.cons (show ZI V.non Value.none from rfl) .nil)) z) (λu' s' hq=>?_) λ_ _ z=>z))
 obtain⟨v,H',I',rv,rfl,⟨dx',fs',ea'⟩,⟨dy',gs',eb'⟩,el',z'⟩:=hq
 obtain rfl:u'=.bool false:=rv
 refine⟨false,rfl,vY (.inr ⟨rfl,MF I' el',?_⟩)⟩
 show wpAny (model X.prog X.w) X.A.in1 (eqBool (.ref b) (.ref a)) _ _ s'
 unfold eqBool
 refine zY ?_
 simp only[show((Value.ref b == Value.ref a)=false) from vI.mpr λw=>ne (by cases w;rfl),vE,vF]
 refine zW (vW (IE (Q:=λv H3=>∃c,v=.bl c/\H3 l=some (.lst [.non,.ref b])/\Q (.bl (!c)) H3) D hb h1 I'.env0.in1 I' (show ZI (V.ref a) (Value.ref a) from rfl) eb' (.inl ⟨a,dx',fs',rfl,ea'⟩) z') (λu' s2 hq=>?_) λ_ _ z=>z)
 obtain⟨v,H3,I3,rv,c,rfl,el3,hq⟩:=hq
 obtain rfl:u'=.bool c:=rv
 refine vY ?_
 cases c with
 | true=>exact .inl ⟨rfl,.bl false,H3,I3,rfl,hq⟩
 | false=>exact .inr ⟨rfl,MF I3 el3,.bl true,H3,I3,rfl,hq⟩
end
section
variable {K:Frag}{C:Addr}{f:Xb}
def OU(C:Addr)(f:Xb):Val->Val->ZE:=λv w s k=>match v,w with
 | .own a,.own l=>∃b,a≠b/\s.w l=some (Tn [.d .none,.own b])/\(∃fs,s.w a=some (insW C fs))/\(∃fs,s.w b=some (insW C fs)) /\
  f [.own a,.d .none] s.w λr w1=>r=.d (.bool false)/\w1 l=some (Tn [.d .none,.own b])/\(∃fs,w1 a=some (insW C fs))/\(∃fs,w1 b=some (insW C fs)) /\
   f [.own b,.own a] w1 λr w2=>∃c,r=.d (.bool c)/\w2 l=some (Tn [.d .none,.own b])/\k (.d (.bool (!c))) ⟨s.e,w2⟩
 | _,_=>False
theorem RV{G H:Hp}{s:DS}{σ:St}{l b:Addr}(r:Yu K G s σ H)(h:s.w l=some (Tn [.d .none,.own b])):H l=some (.lst [.non,.ref b]):=by
 obtain⟨xs,e,D⟩:=(r.own l _ h).2.1
 cases D with
 | cons d1 D=>
  cases D with
  | cons d2 D=>
   cases D
   rw[e,(show DW K G .none _ from d1).none_inv,show _=V.ref b from d2]
theorem Au(hm:VJ f):RO K (Zb5 C (Wc K f)) (OU C f):=by
 refine⟨λv w s Q Q' h q=>?_,λG s σ H x y v w Q r v1 v2 h=>?_⟩
 ·unfold OU at q |-;split at q
  ·obtain⟨b,h1,h2,h3,h4,q⟩:=q
   exact⟨b,h1,h2,h3,h4,hm _ _ _ _ (λv w' ⟨e1,e2,e3,e4,z⟩=>⟨e1,e2,e3,e4,hm _ _ _ _ (λv w' ⟨c,e,e5,z⟩=>⟨c,e,e5,h _ _ z⟩) z⟩) q⟩
  ·exact q.elim
 ·unfold OU at h;split at h
  ·next a l=>
   obtain⟨b,ne,h2,⟨fs,h3⟩,⟨gs,h4⟩,q⟩:=h
   obtain⟨dx,us,e⟩:=r.insW h3
   obtain⟨dy,ws,e'⟩:=r.insW h4
   obtain rfl:x=.ref a:=v1
   obtain rfl:y=.ref l:=v2
   refine⟨a,dx,us,b,dy,ws,l,rfl,rfl,e,e',RV r h2,ne,G,s.w,[.own a,.d .none],r.sub,r.own,.cons rfl (.cons Vg .nil),hm _ _ _ _ (λv w' z G' H' y e2 u2 o2 vy=>?_) q⟩
   obtain⟨rfl,z1,⟨fs',z2⟩,⟨gs',z3⟩,z⟩:=z
   have r':Yu K G' ⟨s.e,w'⟩ σ H':=⟨u2,o2,r.sl.same e2⟩
   refine⟨WW vy,r'.insW (s:=⟨s.e,w'⟩) z2 |>.elim (λp q=>⟨p,q⟩),r'.insW (s:=⟨s.e,w'⟩) z3 |>.elim (λp q=>⟨p,q⟩),RV r' z1,G',w',[.own b,.own a],u2,o2,.cons rfl (.cons rfl .nil),hm _ _ _ _ (λv w2 z G2 H2 y e3 u3 o3 vy=>?_) z⟩
   obtain⟨c,rfl,z1,z⟩:=z
   have r2:Yu K G2 ⟨s.e,w2⟩ σ H2:=⟨u3,o3,r'.sl.same e3⟩
   exact⟨⟨c,WW vy⟩,c,WW vy,RV r2 z1,z G2 H2 _ (e2.trans e3) r2 Xj⟩
  ·exact h.elim
end
structure K0(P:Program)(w:World)(K:Frag)(mg:Str->Option Value)(base:Heap)(k:Nat)(C:Addr)(m q:Str)(st:Stmt)(ps:List Str)(sp:Sp):Prop where
 ex:∃f fd,Xc P w K mg base (Ma P w) k f fd ps sp/\Ws K m q st f fd/\Vw K C m f
section
variable {X:Cx}{k:Nat}{C C0:Addr}{ps:List Str}{sp:Sp}{j:Nat}{m q cn n z:Str}{st:Stmt}{o e:Expr}{ta:TE}{t:TA}{ts:Addr->Addr->TS}{b₀:Stmt}{suite:List Stmt}{zp cp hp mpos cpos tpos apos pos:Pos}{B initId fld:String}{fI:Addr}{x1 x2:Nat}
def Fu(j:Nat)(z m:Str)(sp:Sp)(C0 C:Addr)(ta:TE)(t:TA)(ts:Addr->Addr->TS):TS:=λD σ H=>ta σ H λx H0=>∃a dx fs,x=.ref a/\H0 a=some (.ins C0 dx fs)/\fs.lookup m=none/\t σ H0 λvs H1=>
 sp (.ref a::vs) H1 (λv H2=>∀p,H2 p=none->D.rt (.ref p) (upd H2 p (.tup [.str z,v]))) λcv dx H2=>∃d,cv=.ref C/\dx=some d /\
 ∀e oe,H2 e=none->AL C d oe->ts e d ⟨λσ' H'=>D.nx (σ'.set j none) H',D.rt,λσ' H'=>D.bk (σ'.set j none) H',λσ' H'=>D.ct (σ'.set j none) H'⟩ (σ.set j (some (.ref e))) (upd H2 e (.frz oe (Mb C e d)))
theorem Js{pl:Sem Bool}(c:EC X.K C B initId fld fI)(hgC:Gl X cn)(hmC:X.mg cn=some (.ref C))(D0:K0 X.prog X.w X.K X.mg X.base k C0 m q st ps sp)(cc:Me X.K C0)(hb:Yp m q st ps)(hr:ZZ k X.A)(ho:PE X.still o ta)(ha:PA X.still [e] t) 
  (hs:∀e d,U6 (X.suite e) (b₀::suite) (ts e d)) (hN:X.N.Nodup) (hj:X.N[j]? = some n) (hn:X.env.scope.names.lookup n=some .local)
  (hst:X.stack=X.env::X.outer) (hfr:X.env.frame=some X.env.locals) (hfn:∀x,X.fn x=true) (hex:X.ex=[]) (hdbC:(cn == ("__debug__" : Str))=false:=by decide)
  (h1:starEach [.Constant (.str z) x2 zp,.Call (.Attribute o m mpos) [e] [] cpos] X.env=(false,eval (.Constant (.str z) x2 zp) X.env)::starEach [.Call (.Attribute o m mpos) [e] [] cpos] X.env:=by rfl)
  (h2:starEach [.Call (.Attribute o m mpos) [e] [] cpos] X.env=(false,eval (.Call (.Attribute o m mpos) [e] [] cpos) X.env)::starEach [] X.env:=by rfl)
  (he:starEach [e] X.env=(false,eval e X.env)::starEach [] X.env:=by rfl) (hpl:(backTo cpos (starEach [] X.env)).any (·.1)=false:=by rfl)
  (ht:eval (.Call (.Attribute o m mpos) [e] [] cpos) X.env=(do
   let ov <- eval o X.env
   standAt mpos.atName
   let (f,first) <- holding [ov] (getMethod ov m pl)
   callWith cpos f first (backTo cpos (starEach [e] X.env)) (backToKw cpos (keywordEach [] X.env))):=by rfl) :
  PS X (.Try [.Return (some (.Tuple [.Constant (.str z) x2 zp,.Call (.Attribute o m mpos) [e] [] cpos] x1 tpos)) apos] [.ExceptHandler (some (.Name cn cp)) (some n) (b₀::suite) hp] [] [] pos) (Fu j z m sp C0 C ta t ts):=by
 intro pins s σ H D I h
 obtain⟨f,fd,F,U,M⟩:=D0.ex
 refine wpAny_Try_except (uB (wpAny_Return_some (wpAny_Tuple_spliced ?_)))
 rw[h1]
 show wpAny _ _ (spliced ((false,eval (.Constant (.str z) x2 zp) X.env)::backTo tpos (starEach [.Call (.Attribute o m mpos) [e] [] cpos] X.env))) _ _ s
 refine uS (vX ?_)
 rw[h2]
 show wpAny _ _ (spliced ((false,eval (.Call (.Attribute o m mpos) [e] [] cpos) X.env)::backTo tpos (starEach [] X.env))) _ _ _
 refine uS ?_
 have I':=I.tok (s.toks+1)
 refine methodCall_KW (pl:=pl) (vW (ho pins _ σ H _ I'.still h) (λu s1 ⟨x,H1,I0,rx,a,dx,fs,ex,ea,l,q⟩=>?_) λ_ _ z=>z.elim) ht
 subst ex
 obtain rfl:u=Value.ref a:=rx
 have I1:=I0.live
 refine R9 I1 ea cc M l ?_
 refine uX (first:=[.ref a]) (h₀:=X.base) I.ok.mod.kin M.kp (vW (ha cpos pins s1 σ H1 _ I0 q) (λus s2 ⟨vs,H2,I2,r,q2⟩=>⟨I2.kIn,?_⟩) λ_ _ z=>z.elim) he hpl
 have I3:=I2.live
 have r2:ZH (V.ref a::vs) (Value.ref a::us):=.cons rfl r
 have hl:(Value.ref a::us++[]).length=ps.length:=by rw[uT,<- r2.length];exact F.len _ _ _ _ q2
 have bb:=U.bindsM hb s2 (Value.ref a::us) I3.kIn hl
 rw[uT]at bb
 refine uU (uV (F.run X.A X.stack s2 H2 ⟨Value.ref a::us,[]⟩ (Value.ref a::us) (V.ref a::vs) _ _ hr I3.env0 bb r2 q2) λr s3 hq=>?_)
 cases r with
 | ok fl=>
  cases fl with
  | ret u=>
   obtain⟨v,H3,I4,rv,q3⟩:=I3.after hq
   refine Calls.spliced_nil ⟨L2.sz2,?_⟩
   have hf:H3 s3.heap.objs.size=none:=I4.hok.fresh (zK _)
   refine⟨.ref s3.heap.objs.size,σ,upd H3 s3.heap.objs.size (.tup [.str z,v]),I4.laid (t':=s3.toks) (λb u e=>wJ _ e) (zK _) ?_,rfl,q3 _ hf⟩
   exact⟨L2.sz2,_,.cons ⟨_,rfl⟩ (.cons rv .nil),⟨_,wK _ rfl,rfl,_,rfl,rfl⟩⟩
  | next=>exact False.elim hq
  | brk=>exact False.elim hq
  | cont=>exact False.elim hq
 | error ev=>exact Dv c hgC hmC hs hN hj hn hst hfr hfn hex hdbC I3 hq
theorem Nr{pl:Sem Bool}(c:EC X.K C B initId fld fI)(hmC:X.mg cn=some (.ref C))(D0:K0 X.prog X.w X.K X.mg X.base k C0 m q st ps sp)(cc:Me X.K C0)(hb:Yp m q st ps)(hr:ZZ k X.A)(ho:IPE X.still o ta)(ha:IPA X.still [e] t) 
  (hs:∀e d,IPSs (X.suite e) (b₀::suite) (ts e d)) (hN:X.N.Nodup) (hj:X.N[j]? = some n:=by rfl) (hn:X.env.scope.names.lookup n=some .local:=by rfl)
  (hst:X.stack=X.env::X.outer:=by rfl) (hfr:X.env.frame=some X.env.locals:=by rfl) (hfn:∀x,X.fn x=true:=by intro _;rfl) (hex:X.ex=[]:=by rfl) (hgC:Gl X cn:=by rfl) (hdbC:(cn == ("__debug__" : Str))=false:=by decide)
  (h1:starEach [.Constant (.str z) x2 zp,.Call (.Attribute o m mpos) [e] [] cpos] X.env=(false,eval (.Constant (.str z) x2 zp) X.env)::starEach [.Call (.Attribute o m mpos) [e] [] cpos] X.env:=by rfl)
  (h2:starEach [.Call (.Attribute o m mpos) [e] [] cpos] X.env=(false,eval (.Call (.Attribute o m mpos) [e] [] cpos) X.env)::starEach [] X.env:=by rfl)
  (he:starEach [e] X.env=(false,eval e X.env)::starEach [] X.env:=by rfl) (hpl:(backTo cpos (starEach [] X.env)).any (·.1)=false:=by rfl)
  (ht:eval (.Call (.Attribute o m mpos) [e] [] cpos) X.env=(do
   let ov <- eval o X.env
   standAt mpos.atName
   let (f,first) <- holding [ov] (getMethod ov m pl)
   callWith cpos f first (backTo cpos (starEach [e] X.env)) (backToKw cpos (keywordEach [] X.env))):=by rfl) :
  IPS X (.Try [.Return (some (.Tuple [.Constant (.str z) x2 zp,.Call (.Attribute o m mpos) [e] [] cpos] x1 tpos)) apos] [.ExceptHandler (some (.Name cn cp)) (some n) (b₀::suite) hp] [] [] pos) (Fu j z m sp C0 C ta t ts):=by
 rw[Zx];exact Js c hgC hmC D0 cc hb hr ho.get ha.get (λe d=>(hs e d).get) hN hj hn hst hfr hfn hex hdbC h1 h2 he hpl ht
end
section
variable {K:Frag}{C C0:Addr}{fld zs m:Str}{f:S1}{ta:TE}{da:ZE}{t:TA}{das:XO}
def DN(j:Nat)(zs m:Str)(C0 C:Addr)(fld:Str)(f:S1)(da:ZE)(das:XO)(ds:Addr->Addr->Vh):Vh:=λE s=>da s λo s1=>match o with
 | .own a=>(∃fs,s1.w a=some (insW C0 fs)/\fs.lookup m=none)/\das s1 λvs s2=>f (.own a::vs) s2.w (λv w'=>∃x,v=.d x/\E.rt (.d (.tuple [.str zs,x])) ⟨s2.e,w'⟩) (λx w'=>∀e d,ds e d (Mp j E) ⟨s2.e.set j (some (.exc e C d [(fld,x)])),w'⟩)
 | _=>False
theorem Dd{j:Nat}{ts:Addr->Addr->TS}{ds:Addr->Addr->Vh}(hm:MoX f)(hb:RE K ta da)(ha:RA K t das)(hs:∀e d,RS K (ts e d) (ds e d)):RS K (Fu j zs m (spX K C fld f) C0 C ta t ts) (DN j zs m C0 C fld f da das ds):=by
 intro G s σ H D E r po h
 refine hb.ok G s σ H _ r (hb.mo _ _ _ (λo s1 y G1 H1 x e1 r1 v1=>?_) h)
 cases o with
 | own a=>
  obtain⟨⟨fs,h1,h2⟩,y⟩:=y
  obtain⟨dx,us,h4,h5,h6⟩:=Tf (r1.own a _ h1).2
  refine⟨a,dx,us,v1,h4,HL h5 h2,ha.ok G1 s1 σ H1 _ r1 (ha.mo _ _ _ (λvs s2 y G2 H2 xs e2 r2 v2=>?_) y)⟩
  refine⟨G2,s2.w,.own a::vs,r2.sub,r2.own,.cons rfl v2,hm _ _ _ _ _ _ (λv w' z G' H' x e3 u2 o2 vx=>?_) (λx w' z G' H' u d e3 u2 o2 hd dw=>?_) y⟩
  ·obtain⟨x',rfl,z⟩:=z
   intro p hp
   have r3:Yu K G' ⟨s2.e,w'⟩ σ H':=⟨u2,o2,r2.sl.same e3⟩
   have r4:=r3.new hp (.tup [.str zs,x])
   have e4:Z7 G' (upd G' p (.tup [.str zs,x])):=λb o q=>by
    rw[Zk λw=>by rw[w]at q;rw[u2 _ _ q]at hp;cases hp];exact q
   refine po.rt _ ⟨s2.e,w'⟩ _ σ _ (.ref p) (((e1.trans e2).trans e3).trans e4) r4 ?_ z
   show DW K _ (.tuple [.str zs,x']) (.ref p)
   unfold DW
   exact⟨p,[.str zs,x],rfl,.inl Z9,ZT.cons (show VR K (upd G' p (.tup [.str zs,x])) (.d (.str zs)) (.str zs) from XC (K:=K) (G:=upd G' p (.tup [.str zs,x]))) (ZT.cons (DW.same e4 vx) ZT.nil)⟩
  ·refine⟨d,rfl,rfl,λe oe he ho=>?_⟩
   have r2:Yu K G' ⟨s2.e,w'⟩ σ H':=⟨u2,o2,r2.sl.same e3⟩
   have r3:=r2.new he (.frz oe (Mb C e d))
   have hge:G' e=none:=by
    cases q:G' e with
    | none=>rfl
    | some o=>rw[u2 _ _ q]at he;cases he
   have hde:d≠e:=λq=>by rw[q,hge]at hd;cases hd
   have e5:Z7 G' (upd G' e (.frz oe (Mb C e d))):=λb o q=>by
    rw[Zk λw=>by rw[w,hge]at q;cases q];exact q
   have vx:VR K (upd G' e (.frz oe (Mb C e d))) (.exc e C d [(fld,x)]) (.ref e):=⟨rfl,oe,[(fld,u)],Z9 ..,by rw[Zk hde];exact hd,ho,rfl,ZT.cons (dw.same e5) ZT.nil⟩
   refine hs e d _ _ _ _ _ (Mp j E) (r3.set vx j) ?_ (z e d)
   have e4:=((e1.trans e2).trans e3).trans e5
   exact⟨λs' G3 σ' H3 q r q2=>po.nx _ G3 _ H3 (e4.trans q) (r.unset j) q2,λv s' G3 σ' H3 x q r vr q2=>po.rt v s' G3 σ' H3 x (e4.trans q) r vr q2,λs' G3 σ' H3 q r q2=>po.bk _ G3 _ H3 (e4.trans q) (r.unset j) q2,λs' G3 σ' H3 q r q2=>po.ct _ G3 _ H3 (e4.trans q) (r.unset j) q2⟩
 | _=>exact y.elim
end
abbrev TJ:=St->Hp->Str->(Str->Hp->Prop)->Prop
def tJ0:TJ:=λ_ H acc Q=>Q acc H
def tJS(x:Str)(t:TJ):TJ:=λσ H acc Q=>(acc++x).length≤sizeLine/\t σ H (acc++x) Q
def tJI(te:TE)(t:TJ):TJ:=λσ H acc Q=>te σ H λv H1=>∃i:Int,v=.int i/\i.natAbs.log2<1920/\(acc++Str.ofString (toString i)).length≤sizeLine/\t σ H1 (acc++Str.ofString (toString i)) Q
def PJ(X:Cx)(es:List Expr)(t:TJ):Prop:=∀(pins:List (Addr×Obj)) (s:Shared) (σ:St) (H:Hp) (acc:Str) (Q:Str->Hp->Prop) (R:Str->Shared->Prop),Zu X pins σ H s->(∀out H1 s1,Zu X pins σ H1 s1->Q out H1->R out s1)->t σ H acc Q->Joins (model X.prog X.w) X.A X.xe (evalEach es X.env) acc R s
section
variable {X:Cx}{e:Expr}{es:List Expr}{te:TE}{t:TJ}{pos p2:Pos}{x:Str}{j:Nat}
theorem BU:PJ X [] tJ0:=λpins s σ H acc Q R I hR h=>hR _ _ _ I h
theorem MP(h:PJ X es t)(he:evalEach (.Constant (.str x) j pos::es) X.env=eval (.Constant (.str x) j pos) X.env::evalEach es X.env:=by rfl):PJ X (.Constant (.str x) j pos::es) (tJS x t):=by
 intro pins s σ H acc Q R I hR q
 rw[he]
 exact vX ⟨x,_,rfl,q.1,h pins _ σ H _ Q R (I.tok _) hR q.2⟩
theorem BS(ha:PE X e te)(h:PJ X es t)(he:evalEach (.FormattedValue e (-1) none pos::es) X.env=eval (.FormattedValue e (-1) none pos) X.env::evalEach es X.env:=by rfl):PJ X (.FormattedValue e (-1) none pos::es) (tJI te t):=by
 intro pins s σ H acc Q R I hR q
 rw[he]
 refine wpAny_FormattedValue_plain (YB (ha pins s σ H _ I q) λv s1 ⟨y,H1,I1,rv,i,e1,h1,h2,q1⟩=>?_)
 subst e1
 obtain⟨tk,rfl⟩:=rv
 exact wpAny_formatField_int h1 ⟨_,_,rfl,h2,h pins _ σ H1 _ Q R (I1.tok _) hR q1⟩
def Fl(t:TJ):TE:=λσ H Q=>t σ H Str.empty λout H1=>out.length≤sizeLine/\Q (.str out) H1
theorem EB{v1 v2:Expr}(h:PJ X (v1::v2::es) t):PE X (.JoinedStr (v1::v2::es) pos) (Fl t):=λpins s σ H Q I q=>
 wpAny_JoinedStr (h pins s σ H _ _ _ I (λout H1 s1 I1 z=>⟨z.1,.str out,H1,I1.tok _,⟨_,rfl⟩,z.2⟩) q)
theorem KW{v1 v2:Expr}(h:PJ X (v1::v2::es) t):IPE X (.JoinedStr (v1::v2::es) pos) (Fl t):=by rw[Zr];exact EB h
theorem Np(ha:IPE X e te)(h:PJ X es t)(he:evalEach (.FormattedValue e (-1) none pos::es) X.env=eval (.FormattedValue e (-1) none pos) X.env::evalEach es X.env:=by rfl):PJ X (.FormattedValue e (-1) none pos::es) (tJI te t):=BS ha.get h he
end
abbrev D5:=DS->Str->(Str->DS->Prop)->Prop
def dJ0:D5:=λs acc k=>k acc s
def dJS(x:Str)(d:D5):D5:=λs acc k=>(acc++x).length≤sizeLine/\d s (acc++x) k
def dJI(de:ZE)(d:D5):D5:=λs acc k=>de s λv s1=>match v with
 | .d (.int i)=>i.natAbs.log2<1920/\(acc++Str.ofString (toString i)).length≤sizeLine/\d s1 (acc++Str.ofString (toString i)) k
 | _=>False
structure RJ(K:Frag)(t:TJ)(d:D5):Prop where
 mo:∀s acc (k k':Str->DS->Prop),(∀o s',k o s'->k' o s')->d s acc k->d s acc k'
 ok:∀G s σ H acc (Q:Str->Hp->Prop),Yu K G s σ H->d s acc (λo s'=>∀G' H',Z7 G G'->Yu K G' s' σ H'->Q o H')->t σ H acc Q
section
variable {K:Frag}{te:TE}{de:ZE}{t:TJ}{d:D5}{x:Str}
theorem Ap:RJ K tJ0 dJ0:=⟨λs acc k k' h q=>h _ _ q,λG s σ H acc Q r q=>q G H (Z7.refl G) r⟩
theorem MU(h:RJ K t d):RJ K (tJS x t) (dJS x d):=⟨λs acc k k' z q=>⟨q.1,h.mo _ _ _ _ z q.2⟩,λG s σ H acc Q r q=>⟨q.1,h.ok G s σ H _ Q r q.2⟩⟩
theorem GL(he:RE K te de)(h:RJ K t d):RJ K (tJI te t) (dJI de d):=by
 refine⟨λs acc k k' z q=>he.mo _ _ _ (λv s1 q=>?_) q,λG s σ H acc Q r q=>he.ok G s σ H _ r (he.mo _ _ _ (λv s1 q G1 H1 x e1 r1 v1=>?_) q)⟩
 ·split at q
  ·exact⟨q.1,q.2.1,h.mo _ _ _ _ z q.2.2⟩
  ·exact q.elim
 ·split at q
  ·next i=>exact⟨i,Yj v1,q.1,q.2.1,h.ok G1 s1 σ H1 _ Q r1 (h.mo _ _ _ _ (λo s' z G2 H2 e2 r2=>z G2 H2 (e1.trans e2) r2) q.2.2)⟩
  ·exact q.elim
def Ie(d:D5):ZE:=λs k=>d s Str.empty λout s1=>out.length≤sizeLine/\k (.d (.str out)) s1
theorem GH(h:RJ K t d):RE K (Fl t) (Ie d):=⟨λs Q Q' z q=>h.mo _ _ _ _ (λo s' y=>⟨y.1,z _ _ y.2⟩) q,λG s σ H Q r q=>h.ok G s σ H _ _ r (h.mo _ _ _ _ (λo s' y G' H' e r'=>⟨y.1,y.2 G' H' _ e r' XC⟩) q)⟩
end
def FA(C:Addr):Own:=.oth λ_ _ H a=>H a=some (VH C a none)
def Rf(K:Frag)(C:Addr)(fld:Str)(f:Xb):Sp:=λvs H Q _=>∃(e:Addr) (v:V) (G:Hp) (w:OW) (x:PyData),vs=[.ref e,v]/\H e=some (VH C e none)/\Z7 G H/\G e=none/\w e=none/\YS K G w H/\DW K G x v /\
 (∀k:Val->OW->Prop,k (.d x) (w.put e (FA C))->f [.d x] (w.put e (FA C)) k)/\∀G' H' u d,Z7 G G'->Z7 G' H'->YS K G' w H'->DW K G' x u->H' e=some (VH C e none)->G' e=none->d≠e->H' d=none->Q .non (upd (upd H' d (.xd [(fld,u)])) e (VH C e (some d)))
theorem M_{K:Frag}{C:Addr}{fld:Str}{f:Xb}:∀vs H (Q Q':VK) E,(∀v H',Q v H'->Q' v H')->Rf K C fld f vs H Q E->Rf K C fld f vs H Q' E:=λvs H Q Q' E h ⟨e,v,G,w,x,h1,h2,h3,h4,h5,h6,h7,h8,h9⟩=>⟨e,v,G,w,x,h1,h2,h3,h4,h5,h6,h7,h8,λG' H' u d a1 a2 a3 a4 a5 a8 a6 a7=>h _ _ (h9 G' H' u d a1 a2 a3 a4 a5 a8 a6 a7)⟩
section
variable {P:Program}{w:World}{K:Frag}{mg:Str->Option Value}{base:Heap}{C fI:Addr}{fd:FuncData}{B initId:String}{fld q:Str}{st:Stmt}{k:Nat}{f:Xb}
theorem BB{G H:Hp}{o:OW}{e:Addr}(h:H e=some (VH C e none))(he:G e=none)(O:YS K G o H):YS K G (o.put e (FA C)) H:=λa u q=>by
 by_cases c:a=e
 ·subst c
  rw[OW.put_same]at q
  cases q
  exact⟨he,h,⟨_,h,λxs z=>by cases z⟩,λG' H' _ q=>q.trans h⟩
 ·rw[OW.put_ne c]at q
  exact O a u q
theorem E4{G H:Hp}{o:OW}{e:Addr}(he:o e=none)(O:YS K G (o.put e (FA C)) H):H e=some (VH C e none)/\YS K G o H:=⟨(O e _ OW.put_same).2.1,λa u q=>O a u (by rw[OW.put_ne λc=>by rw[c,he]at q;cases q];exact q)⟩
end
section
variable {K:Frag}{B:Hp}{C:Addr}{fld:Str}{f:Xb}
def CS(C:Addr)(kx:PyData->OW->Prop)(f:Xb)(da:XO):Vh:=λ_ s=>da s λvs s1=>match vs with
 | [.d x]=>kx x s1.w/\∀e (k:Val->OW->Prop),s1.w e=none->k (.d x) (s1.w.put e (FA C))->f [.d x] (s1.w.put e (FA C)) k
 | _=>False
theorem MW{E:XK}{kx:PyData->OW->Prop}{t:TA}{da:XO}(hE:PoX K C fld B E kx)(ha:RA K t da):D7 K B (tRz C (Rf K C fld f) E t) (CS C kx f da):=by
 intro G s σ H D DE b r p z
 refine ha.ok G s σ H _ r (ha.mo _ _ _ (λvs s1 y G1 H1 xs e1 r1 v1=>?_) z)
 split at y
 ·next x=>
  cases v1 with
  | cons v1 v2=>
   cases v2
   rename_i u
   obtain⟨y,yf⟩:=y
   refine⟨rfl,λe he=>?_⟩
   have hge:G1 e=none:=by
    cases q:G1 e with
    | none=>rfl
    | some o=>rw[r1.sub _ _ q]at he;cases he
   have hwe:=r1.free he
   have hs:Z7 G1 (upd H1 e (VH C e none)):=λc o q=>by
    rw[Zk λw=>by rw[w,hge]at q;cases q];exact r1.sub _ _ q
   refine⟨e,u,G1,s1.w,x,rfl,Z9 ..,hs,hge,hwe,YS.mono r1.own (Z7.refl G1) λa o q=>⟨(r1.own a o q).1,Zk λc=>by rw[c,hwe]at q;cases q⟩,v1,λk q=>yf e k hwe q,λG' H' u' d a1 a2 a3 a4 a5 a8 a6 a7=>⟨rfl,d,Z9 ..,?_⟩⟩
   have r2:Yu K G' ⟨[],s1.w⟩ [] H':=⟨a2,a3,rfl,λi v q=>by simp at q⟩
   have r3:=r2.new a7 (.xd [(fld,u')])
   have hgd:G' d=none:=by
    cases q:G' d with
    | none=>rfl
    | some o=>rw[a2 _ _ q]at a7;cases a7
   have e2:Z7 G' (upd G' d (.xd [(fld,u')])):=λc o q=>by
    rw[Zk λw=>by rw[w,hgd]at q;cases q];exact q
   have hH:TY (upd (upd H' d (.xd [(fld,u')])) e (VH C e (some d))) e=upd (TY H' e) d (.xd [(fld,u')]):=by
    funext c
    by_cases h1:c=e
    ·subst h1;rw[Um,Zk (wC a6),Um]
    ·rw[Xz h1,Zk h1]
     by_cases h2:c=d
     ·subst h2;rw[Z9,Z9]
     ·rw[Zk h2,Zk h2,Xz h1]
   have same:∀c,c≠e->upd (TY H' e) d (.xd [(fld,u')]) c=upd H' d (.xd [(fld,u')]) c:=λc hc=>by
    by_cases h2:c=d
    ·subst h2;rw[Z9,Z9]
    ·rw[Zk h2,Zk h2,Xz hc]
   rw[hH]
   refine hE x s1.w (upd G' d (.xd [(fld,u')])) _ u' d (((b.trans e1).trans a1).trans e2) (λc o q=>?_) (YS.mono r3.own (Z7.refl _) λa o q=>⟨(r3.own a o q).1,same a λc=>by rw[c,hwe]at q;cases q⟩) (Z9 ..) (a4.same e2) y
   rw[same c λw=>by rw[w,Zk (wC a6),a8]at q;cases q]
   exact r3.sub c o q
 ·exact y.elim
end
theorem U4.data{P:Program}{w:World}{K:Frag}{mg:Str->Option Value}{base:Heap}{C:Addr}{m q:Str}{st:Stmt}{N ps:List Str}{k:Nat}{f:Xb}(U:∃a fd,Ws K m q st a fd/\Vw K C m a)(S:Zv N ps (Zf st))(len:∀vs w k,f vs w k->vs.length=ps.length) 
  (hbody:∀(a:Addr) (cdv:Value) (A:Around) (outer:List Env) (s:Shared) (H:Hp) (E:XK),ZZ k (A.deeper (envOfC q (Zf st) s.heap.objs.size a cdv)) ->
   ∃t d,U6 (Xw UC P w K mg base N q (Zf st) a cdv A outer s H E).nox (ZR st) t/\RS K t d/\∀(as:List Val) (o:OW) (q:Val->OW->Prop),f as o q->d { nx:=λs=>∃w',OW.le w' s.w/\q (.d .none) w',rt:=λv s=>∃w',OW.le w' s.w/\q v w' } ⟨Yw N as,o⟩):U4 P w K mg base (k+1) C m q st ps (Wc K f):=by
 obtain⟨a,fd,F,M⟩:=U
 exact⟨a,fd,fnD F S len hbody,F,M⟩
theorem AS.data{P:Program}{w:World}{K:Frag}{mg:Str->Option Value}{base:Heap}{C:Addr}{x q:Str}{st:Stmt}{N ps:List Str}{k:Nat}{f:Xb}(U:∃a fd,Ws K "__init__" q st a fd/\Mk K C a/\mg x=some (.ref C))(S:Zv N ps (Zf st))(len:∀vs w k,f vs w k->vs.length=ps.length) 
  (hbody:∀(a:Addr) (cdv:Value) (A:Around) (outer:List Env) (s:Shared) (H:Hp) (E:XK),ZZ k (A.deeper (envOfC q (Zf st) s.heap.objs.size a cdv)) ->
   ∃t d,U6 (Xw UC P w K mg base N q (Zf st) a cdv A outer s H E).nox (ZR st) t/\RS K t d/\∀(as:List Val) (o:OW) (q:Val->OW->Prop),f as o q->d { nx:=λs=>∃w',OW.le w' s.w/\q (.d .none) w',rt:=λv s=>∃w',OW.le w' s.w/\q v w' } ⟨Yw N as,o⟩):AS P w K mg base (k+1) C x q st ps (Wc K f):=by
 obtain⟨a,fd,F,M⟩:=U
 exact⟨a,fd,fnD F S len hbody,F,M⟩
theorem K0.data{P:Program}{w:World}{K:Frag}{mg:Str->Option Value}{base:Heap}{C C0:Addr}{fld m qn:Str}{st:Stmt}{N ps:List Str}{k:Nat}{f:S1}(U:∃a fd,Ws K m qn st a fd/\Vw K C0 m a)(S:Zv N ps (Zf st))(len:∀vs w k kx,f vs w k kx->vs.length=ps.length) 
  (hbody:∀(a:Addr) (cdv:Value) (A:Around) (outer:List Env) (s:Shared) (H B:Hp) (E:XK) (kx:PyData->OW->Prop),ZZ k (A.deeper (envOfC qn (Zf st) s.heap.objs.size a cdv))->PoX K C fld B E kx ->
   ∃t d,U6 (Xw (Ma P w) P w K mg base N qn (Zf st) a cdv A outer s H E) (ZR st) t/\D7 K B t d/\∀(as:List Val) (o:OW) (q:Val->OW->Prop),f as o q kx->d { nx:=λs=>∃w',OW.le w' s.w/\q (.d .none) w',rt:=λv s=>∃w',OW.le w' s.w/\q v w' } ⟨Yw N as,o⟩):K0 P w K mg base (k+1) C0 m qn st ps (spX K C fld f):=by
 obtain⟨a,fd,F,M⟩:=U
 obtain⟨oc,od,kV,doc,pm,an,cdv,ct,osl,rfl,lk,hcd⟩:=F.ex
 refine⟨a,_,QR lk hcd S (λvs H Q E h=>?_) (λA outer s H vs Q E hr h=>?_),F,M⟩
 ·obtain⟨G,o,as,_,_,h1,h2⟩:=h
  rw[<- h1.length];exact len _ _ _ _ h2
 ·obtain⟨G,o,as,h1,h2,h3,h4⟩:=h
  obtain⟨t,d,q1,q2,q3⟩:=hbody a cdv A outer s H G E (kx:=λx w'=>∀G' H' u d,Z7 G G'->Z7 G' H'->YS K G' w' H'->G' d=some (.xd [(fld,u)])->DW K G' x u->E (.ref C) (some d) H') hr λx w' G' H' u d e1 e2 e3 e4 e5 z=>z G' H' u d e1 e2 e3 e4 e5
  refine⟨t,q1,q2 G ⟨Yw N as,o⟩ (YG N vs) H _ { nx:=λs=>∃w',OW.le w' s.w/\_,rt:=λv s=>∃w',OW.le w' s.w/\_ } (Z7.refl G) ⟨h1,h2,Wa h3⟩ ⟨λs' G' σ' H' e r z=>?_,λv s' G' σ' H' x e r v1 z=>?_,λ_ _ _ _ _ _ z=>False.elim z,λ_ _ _ _ _ _ z=>False.elim z⟩ (q3 as o _ h4)⟩
  ·obtain⟨w',l,z⟩:=z
   exact z G' H' .non e r.sub (r.own.le l) Vg
  ·obtain⟨w',l,z⟩:=z
   exact z G' H' x e r.sub (r.own.le l) v1
end L2
namespace L2
open PySem PySem.W PySem.W.X PySem.Spec PyProof.Rows
section
variable {K K':Frag}{C f c N:Addr}{m q:Str}{a:Arguments}{b:List Stmt}{sc:Scope}{st:Stmt}
def Eo(K:Frag)(C f c:Addr)(m q:Str):=(findIn K (.ref C) m,isFn K (.ref f),keepIn K (.ref f),codeIn K (.ref c) q,CZ (K.lookup f))
def En(f c:Addr)(m q:Str)(a:Arguments)(b:List Stmt)(sc:Scope):=((some (some (Value.ref f)):Option (Option Value)),true,true,true,some ((.type "function" : Value),m,q,a,FuncBody.stmts b,sc,mainGlobals,([]:List (Str×Addr)),Value.none,Value.ref c,builtinsNs))
theorem IY(e:CZ (K.lookup f)=some ((.type "function" : Value),m,q,a,FuncBody.stmts b,sc,mainGlobals,([]:List (Str×Addr)),Value.none,Value.ref c,builtinsNs)):∃o,K.lookup f=some o/\o.cls=.type "function"/\∃(oc:Value) (od an:Option Addr) (kV doc pm ct:Value) (osl:Array (Option Value)),o=⟨oc,od,.func (fnOf m q a b sc .none kV doc pm an (.ref c) ct),osl⟩:=by
 cases r:K.lookup f with
 | none=>rw[r]at e;cases e
 | some o=>
  rw[r]at e
  obtain⟨c,d,da,sl⟩:=o
  cases da with
  | func f=>
   obtain⟨n1,n2,n3,n4,n5,n6,n7,n8,n9,n10,n11,n12,n13,n14,n15⟩:=f
   simp only[CZ,tE,tR]at e
   obtain⟨rfl,rfl,rfl,rfl,rfl,rfl,rfl,rfl,rfl,rfl,rfl⟩:=e
   exact⟨_,rfl,rfl,_,_,_,_,_,_,_,_,rfl⟩
  | _=>cases e
theorem By(S:Rl K K')(e:Eo K C f c m q=En f c m q (Y7 st) (ZR st) (Zf st)):∃f fd,Ws K' m q st f fd/\Vw K' C m f:=by
 unfold Eo En at e
 simp only[tR]at e
 obtain⟨e1,e2,e3,e4,e5⟩:=e
 obtain⟨o,f1,f2,oc,od,an,kV,doc,pm,ct,osl,rfl⟩:=IY e5
 exact⟨f,_,PM (S _ _ f1) (TK S e4) (Up S e3),Yy S e1,LQ S e2,Up S e3⟩
theorem Bz{newId:String}(S:Rl K K')(e1:JJ (K.lookup C)=some (.type "type",[.ref C,.type "object"],N,true,false,6,some (some (.builtin newId))))(e2:nsOkIn K N=true)(e3:B2 K N "__eq__" = some (.ref f))(e4:B2 K N "__ne__" = none)(e5:∃o,K.lookup f=some o/\o.cls=.type "function"):C2 K' C f:=by
 obtain⟨nm,qn,bs,sn,sub,ab,col,dd,k0,k1,k2,k3,k5,c1⟩:=JL e1
 obtain⟨mN,n1,n2⟩:=Cn e2
 obtain⟨o,f1,f2⟩:=e5
 exact⟨nm,qn,N,bs,sn,sub,ab,col,dd,k0,k1,k2,k3,k5,newId,mN,o,S _ _ c1,λh X=>n2 h λa o z=>X _ _ (S _ _ z),(n1 _).symm.trans e3,(n1 _).symm.trans e4,S _ _ f1,f2⟩
def N7(K:Frag)(C:Addr)(ms:List (Str×Addr×Addr×Str)):=ms.map λx=>Eo K C x.2.1 x.2.2.1 x.1 x.2.2.2
def N6(ms:List (Str×Addr×Addr×Str))(sts:List Stmt):=(ms.zip sts).map λx=>En x.1.2.1 x.1.2.2.1 x.1.1 x.1.2.2.2 (JC x.2) (JF x.2) (MY x.2)
theorem X2{ms:List (Str×Addr×Addr×Str)}{sts:List Stmt}(S:Rl K K')(e:N7 K C ms=N6 ms sts)(i:Nat)(hm:ms[i]? = some (m,f,c,q))(hs:sts[i]? = some st):∃f fd,Ws K' m q st f fd/\Vw K' C m f:=by
 have h:=zR (·[i]?) e
 unfold N7 N6 at h
 have hz:(ms.zip sts)[i]? = some ((m,f,c,q),st):=xD.mpr ⟨hm,hs⟩
 simp only[yF,hm,hz,xA,tE]at h
 exact By S h
def Bg(K:Frag)(C N:Addr):=(JJ (K.lookup C),nsOkIn K N,([("__eq__" : Str),"__ne__"].map (B2 K N)),findIn K (.ref C) "__bool__",mroIn K C (.type "NoneType"))
def Bf(C N f:Addr):=(some ((.type "type" : Value),[Value.ref C,.type "object"],N,true,false,6,(some (some (Value.builtin "object.__new__")):Option (Option Value))),true,([some (Value.ref f),none]:List (Option Value)),(some none:Option (Option Value)),(some false:Option Bool))
end
end L2
namespace L2
open PySem PySem.Spec PyProof.Rows
section
variable {C:Addr}
theorem Hw{A:Around}{x:Addr}{s:Shared}{ox:Obj}{od:Option Obj}{Q:Value->Shared->Prop}{E:Value->Shared->Prop}{P:Program}{w:World}(I:PySem.W.InstAt s.heap x ox C od)(h:∀tk,Q (.bool true) { s with toks:=tk }):
  wpAny (model P w) A (call (.builtin "isinstance") [.ref x,.ref C]) Q E s:=
 call_isinstance (S:=λ_ R s=>PySem.W.InstAt s.heap x ox C od/\∀tk,R (.ok (.ret (.bool true))) { s with toks:=tk })
  (λprog w A R s hs=>isinstance_outer (by
   obtain⟨h0,g,d,tt,os⟩:=s
   obtain⟨p,hq⟩:=hs
   have LT:=p.type (M:=model prog w)
   unfold Builtin.«isinstance.nested»
   refine zW (LT.at ?_)
   rw[zU (yX _)]
   first
    | ((repeat lk);exact hq tt)
    | exact zW (wY (hq tt))
    | exact zW (wY (zX (hq tt)))) (λz=>nomatch z)) ⟨I,h⟩
def cKit(K:Frag)(C:Addr):Prop:=((PySem.W.clsIn K C).isSome&&PySem.W.typeIn K (.ref C) == some (.type "type"))=true
theorem C2.cKit{K:Frag}{f:Addr}(n:C2 K C f):L2.cKit K C:=by
 obtain⟨nm,q,N,bs,sn,sub,ab,col,dd,k0,k1,k2,k3,k5,newId,mN,of,e,_⟩:=n.ex
 have h1:(PySem.W.clsIn K C).isSome=true:=by unfold PySem.W.clsIn;rw[e];rfl
 have h2:PySem.W.typeIn K (.ref C)=some (.type "type"):=by
  show(K.lookup C).map (·.cls)=_
  rw[e];rfl
 unfold L2.cKit
 rw[h1,h2]
 rfl
theorem HC{K:Frag}(h:cKit K C)(d:PyData)(hd:d.hasDict=false):PySem.W.kitOne K (.type (UQ d)) (.ref C)=some false:=by
 unfold PySem.W.kitOne PySem.W.kitCls
 rw[wT (by simp)]
 show(if _ then _ else _)=_
 rw[zU (show((PySem.W.clsIn K C).isSome&&PySem.W.typeIn K (.ref C) == some (.type "type"))=true from h)]
 exact Fh K C d hd
def Zb2(K:Frag)(C:Addr):List V->Hp->VK->Prop:=λxs H Q=>∃x,xs=[x,.ref C]/\((∃a dx fs,x=.ref a/\H a=some (.ins C dx fs)/\Q (.bl true) H)\/∃t,TyW K H x t/\PySem.W.kitOne K t (.ref C)=some false/\Q (.bl false) H)
section
variable {X:Cx}
theorem JH:Y0 X (.builtin "isinstance") (Zb2 X.K C):=by
 rintro pins s σ H xs us Q I r ⟨x,rfl,h⟩
 obtain⟨u,w,rfl,rx,rc⟩:=N_ r
 cases (show w=Value.ref C from rc)
 rcases h with ⟨a,dx,fs,rfl,ea,q⟩|⟨t,ty,e,q⟩
 ·cases (show u=Value.ref a from rx)
  obtain⟨mA,O,_⟩:=YU I.hok ea
  obtain⟨od,J,_⟩:=O.look
  exact Hw J λtk=>⟨.bl true,H,I.tok _,rfl,q⟩
 ·rcases ty with ty|⟨a,ys,rfl,hs,rfl⟩
  ·exact QX I rx ty e λtk=>⟨.bl false,H,I.tok _,rfl,q⟩
  ·cases (show u=Value.ref a from rx)
   obtain⟨its,_,⟨o,h1,h2,_⟩,_⟩:=I.tuple hs
   exact uR kitx_tuple I.kIn ⟨o,h1,h2⟩ e (λz=>nomatch z) λtk=>⟨.bl false,H,I.tok _,rfl,q⟩
end
def Hc(C:Addr):List Val->ZE:=λvs s k=>match vs with
 | [.own a,.raw (.ref c)]=>c=C/\(∃fs,s.w a=some (insW C fs))/\k (.d (.bool true)) s
 | [.d d,.raw (.ref c)]=>c=C/\d.hasDict=false/\k (.d (.bool false)) s
 | _=>False
theorem Al{K:Frag}(h:cKit K C):RC K (Zb2 K C) (Hc C):=by
 refine⟨λvs s Q Q' z q=>?_,λG s σ H xs vs Q r vr q=>?_⟩
 ·unfold Hc at q |-;split at q
  ·exact⟨q.1,q.2.1,z _ _ q.2.2⟩
  ·exact⟨q.1,q.2.1,z _ _ q.2.2⟩
  ·exact q.elim
 ·unfold Hc at q;split at q
  ·obtain⟨rfl,⟨fs,h1⟩,q⟩:=q
   cases vr with
   | cons v1 v2=>
    cases v2 with
    | cons v2 v3=>
     cases v3
     rename_i x y
     obtain rfl:x=.ref _:=v1
     obtain rfl:y=.ref _:=v2
     obtain⟨dx,us,e⟩:=r.insW h1
     exact⟨_,rfl,.inl ⟨_,dx,us,rfl,e,q.here r Xj⟩⟩
  ·next d c=>
   obtain⟨rfl,hd,q⟩:=q
   cases vr with
   | cons v1 v2=>
    cases v2 with
    | cons v2 v3=>
     cases v3
     rename_i x y
     obtain rfl:y=.ref _:=v2
     exact⟨x,rfl,.inr ⟨_,F4 r v1 (by rfl),HC h d hd,q.here r Xj⟩⟩
  ·exact q.elim
end
def Cd:List Value:=[.type "KeyError",.type "LookupError",.type "Exception",.type "BaseException",.type "object"]
theorem P9:EX.ExF "KeyError" "LookupError.__new__" "KeyError.__init__" Cd where
 nw:=⟨_,_,_,PySem.F.excBase_LookupError,by decide +kernel⟩
 noA:=by decide +kernel
 noN:=by decide +kernel
 hasBase:=by decide +kernel
 hasB:=by decide +kernel
 mroIs:=by rw[mroOf_type];kernel_rfl
 init:=.of (owner:="KeyError") (n:="__init__") (by rw[sK,sL];kernel_rfl) (by decide +kernel) (by decide +kernel) (by decide +kernel)
  (by first|exact .inl (by decide +kernel)|exact .inr (by decide +kernel)) (by rw[isSubtype_type];kernel_rfl)
 initEntry:=entryFor_alias (id':="BaseException.__init__") (by rw[fastTable_eq_tree];kernel_rfl) (by first|rfl|decide +kernel) (by decide +kernel) (by rw[fastTable_eq_tree];kernel_rfl)
 initSplit:=by kernel_rfl
 initKind:=by kernel_rfl
 initRow:=by kernel_rfl
 noStar:=by decide +kernel
theorem Jd:typeLookup (.type "KeyError") "__setattr__" = pure (some (.builtin "object.__setattr__")):=by
 rw[sK,sL]
 kernel_rfl
theorem MC:isSubtype (.type "KeyError") (.type "object")=pure true:=by
 rw[isSubtype_type]
 kernel_rfl
theorem Ov:StoreFacts "KeyError" Cd "object.__setattr__" "object":=
 have V:=PySem.F.store_ValueError
 ⟨by kernel_rfl,Slot.of Jd V.split (by decide +kernel) (by decide +kernel) F3 MC,V.entry,V.kind,V.split,rfl,V.args,λ_=>by kernel_rfl⟩
theorem Et:typeLookup (.type "object") "__eq__" = pure (some (.builtin "object.__eq__")):=by
 rw[sK,sL]
 kernel_rfl
theorem Eu:mroOf (.type "object")=pure [.type "object"]:=by rw[mroOf_type];kernel_rfl
section
open PySem.W PySem.W.X
variable {K K':Frag}{C f c N:Addr}{q:Str}{st:Stmt}
theorem Bh{ms:List (Str×Addr×Addr×Str)}{sts:List Stmt}(S:Rl K K')(e:N7 K C ms=N6 ms sts)(eh:Bg K C N=Bf C N f)(i:Nat)(hm:ms[i]? = some (("__eq__" : Str),f,c,q))(hs:sts[i]? = some st):
  C2 K' C f/\findIn K' (.ref C) "__eq__" = some (some (.ref f))/\findIn K' (.ref C) "__bool__" = some none/\subIn K' (.ref C) (.type "NoneType")=some false:=by
 have h:=zR (·[i]?) e
 unfold N7 N6 at h
 have hz:(ms.zip sts)[i]? = some ((("__eq__" : Str),f,c,q),st):=xD.mpr ⟨hm,hs⟩
 simp only[yF,hm,hz,xA,tE]at h
 unfold Eo En at h
 simp only[tR]at h
 obtain⟨h1,h2,h3,h4,h5⟩:=h
 obtain⟨o,f1,f2,_⟩:=IY h5
 unfold Bg Bf at eh
 simp only[tR,uO,yQ,sE,sH]at eh
 obtain⟨e1,e2,⟨e3,e4⟩,e5,e6⟩:=eh
 exact⟨Bz S e1 e2 e3 e4 ⟨o,f1,f2⟩,Yy S h1,Yy S e5,NQ S e6⟩
end
end L2
set_option maxHeartbeats 0
local macro_rules
 | `(tactic| simp!) => `(tactic| simp! only [])
 | `(tactic| simp! only [$xs:simpLemma,*]) => `(tactic| ((try dsimp only [L2.KC, L2.Ij, L2.VO, L2.KD, L2.Iu, L2.NX, L2.nl, L2.Yw, L2.AN, L2.NU, L2.Qr, L2.NT, L2.DS.put, L2.DS.set, L2.Mv, L2.dC, L2.CQ, L2.DJ, L2.CK, L2.Zac, L2.AB, L2.rdA, L2.rdT, L2.rdL, L2.rdM, L2.rdD, L2.dUn, L2.fU, L2.dOp, L2.fI0, L2.fB0, L2.fI, L2.DQ, L2.II, L2.IK, L2.DP, L2.IH, L2.Zad, L2.IQ, L2.IT, L2.Iw, L2.Ik, L2.L5, L2.CH, L2.dOr, L2.CP, L2.JQ, L2.Za9, L2.Il, L2.dCB, L2.f1, L2.f2, L2.Nb, L2.R8, L2.LF, L2.Zai, L2.Hb, L2.Nd, L2.OR, L2.OS, L2.IP, L2.DT, L2.Ib, L2.CL, L2.CM, L2.Im, L2.Io, L2.CU, L2.Ic, L2.Om, L2.FX, L2.dSl, L2.CO, L2.dP, L2.IV, L2.IU, L2.Zaa, L2.QN, L2.JS, L2.JV, L2.LY, L2.U8, L2.ext, map_cons, map_nil, cons_append, nil_append, length_cons, length_nil, List.replicate_succ, List.replicate_zero, List.set_cons_zero, List.set_cons_succ, getElem?_cons_zero, getElem?_cons_succ, List.getElem?_nil, map_some, bind_some, Option.bind_none, Option.join_some, Option.join_none, Nat.reduceSub, Nat.reduceAdd, Nat.reduceLeDiff, false_eq_true, if_true, if_false, reduceIte, ite_true, ite_false, true_and, and_true, Bool.not_true, Bool.not_false, L2.OW.put_same, L2.OW.put_put, L2.Lv, L2.CI, L2.Ig, L2.Zaf, L2.Zag, L2.JT, L2.M5, L2.Mu, L2.Tg, L2.IM, L2.UQ, L2.rdK, L2.DB, L2.DI, L2.DG, L2.DD, L2.JR, L2.Hd, L2.DU, L2.DR, L2.Za6, L2.Za5, L2.Ia, L2.DF, L2.DH, L2.L6, L2.L3, L2.Ly, L2.dEz, L2.JX, L2.DA, L2.D9, L2.CJ, L2.Iv, L2.Nw, L2.Hi, L2.Hj, L2.Cc, L2.Cb, L2.JY, L2.DC, L2.J_, L2.Lx, L2.Lz, L2.Ii, L2.Zae, L2.Pz, L2.JZ, L2.P2, L2.SX, L2.DL, L2.Zab, L2.Ip, L2.Za3, L2.Ir, L2.Ih, L2.unK_kvK, decide_true, $xs,*]); (try simp only [L2.KC, L2.Ij, L2.VO, L2.KD, L2.Iu, L2.NX, L2.nl, L2.Yw, L2.AN, L2.NU, L2.Qr, L2.NT, L2.DS.put, L2.DS.set, L2.Mv, L2.dC, L2.CQ, L2.DJ, L2.CK, L2.Zac, L2.AB, L2.rdA, L2.rdT, L2.rdL, L2.rdM, L2.rdD, L2.dUn, L2.fU, L2.dOp, L2.fI0, L2.fB0, L2.fI, L2.DQ, L2.II, L2.IK, L2.DP, L2.IH, L2.Zad, L2.IQ, L2.IT, L2.Iw, L2.Ik, L2.L5, L2.CH, L2.dOr, L2.CP, L2.JQ, L2.Za9, L2.Il, L2.dCB, L2.f1, L2.f2, L2.Nb, L2.R8, L2.LF, L2.Zai, L2.Hb, L2.Nd, L2.OR, L2.OS, L2.IP, L2.DT, L2.Ib, L2.CL, L2.CM, L2.Im, L2.Io, L2.CU, L2.Ic, L2.Om, L2.FX, L2.dSl, L2.CO, L2.dP, L2.IV, L2.IU, L2.Zaa, L2.QN, L2.JS, L2.JV, L2.LY, L2.U8, L2.ext, map_cons, map_nil, cons_append, nil_append, length_cons, length_nil, List.replicate_succ, List.replicate_zero, List.set_cons_zero, List.set_cons_succ, getElem?_cons_zero, getElem?_cons_succ, List.getElem?_nil, map_some, bind_some, Option.bind_none, Option.join_some, Option.join_none, Nat.reduceSub, Nat.reduceAdd, Nat.reduceLeDiff, false_eq_true, if_true, if_false, reduceIte, ite_true, ite_false, true_and, and_true, Bool.not_true, Bool.not_false, L2.OW.put_same, L2.OW.put_put, L2.Lv, L2.CI, L2.Ig, L2.Zaf, L2.Zag, L2.JT, L2.M5, L2.Mu, L2.Tg, L2.IM, L2.UQ, L2.rdK, L2.DB, L2.DI, L2.DG, L2.DD, L2.JR, L2.Hd, L2.DU, L2.DR, L2.Za6, L2.Za5, L2.Ia, L2.DF, L2.DH, L2.L6, L2.L3, L2.Ly, L2.dEz, L2.JX, L2.DA, L2.D9, L2.CJ, L2.Iv, L2.Nw, L2.Hi, L2.Hj, L2.Cc, L2.Cb, L2.JY, L2.DC, L2.J_, L2.Lx, L2.Lz, L2.Ii, L2.Zae, L2.Pz, L2.JZ, L2.P2, L2.SX, L2.DL, L2.Zab, L2.Ip, L2.Za3, L2.Ir, L2.Ih, L2.unK_kvK, decide_true, $xs,*]); (try ((with_reducible refine L2.Jf ?_); (try simp! only [$xs,*])))))
local macro_rules
 | `(tactic| nofun) => `(tactic| repeat' first | (with_reducible first | apply Zb | apply Zg | apply Zh | apply Z8 | apply ZF | apply ZG | apply ZD | apply ZK | apply Ub | apply Y9 | apply ZQ | apply YQ | apply YO | apply XN | apply Yd | apply V8 | apply WT | apply YJ | apply Xo | apply YI false | apply Y4 | apply Qh | apply GN | apply X6 false | apply V7 | apply W9 | apply ZS | apply WB | apply XU | apply Tr | apply WA | apply NL | apply Od | apply Km | apply Vd | apply GK | apply Ts | apply Oh | apply Kn | apply Rc | apply GD | apply Zbb | apply Zc3 | apply Uc | apply Qf | apply Zba | apply GI | apply Kr | apply Ks | apply Zb9 | apply GX | apply Kj | apply GW | apply Qg | apply Ph | apply GU | apply Tu | apply Ve | apply Ob | apply E_ | apply Of false | apply Og | apply Kl | apply GV false | apply Tq | apply GO) | exact V_ | exact NA | exact N8 | exact Ep | apply XN | apply V8 | apply GN | apply V7 | apply W9 | apply Tr | apply WA | apply Km | apply Vd | apply GK | apply Ts | apply Kn | apply Rc | apply GD | apply Qf | apply GI | apply GW | apply Qg | apply Ph | apply Ve | apply Ob | apply Of false | apply Og | apply Kl | apply GV false | apply Tq | apply GO)
namespace Mine
open PySem PySem.W PySem.W.X PySem.Spec PyProof.Rows L2
def csL:List Addr:=[36,56,76,96,116,136,156,176,196,217,237,257,277]
def Zbt:List Str:=["NoHouse","NoBidder","NoBundle","NoPhase","NoPoints","NoWorths","NotAll","NoLast","NoMoney","TooMany","NoChoice","NoRow","NoLine"]
def Ek:List Value:=[.ref 36,.ref 56,.ref 76,.ref 96,.ref 116,.ref 136,.ref 156,.ref 176,.ref 196,.ref 217,.ref 237,.ref 257,.ref 277,.type "TypeError",.type "KeyError",.type "ValueError",.type "RuntimeError",.type "ArithmeticError",.type "LookupError",.type "OverflowError",.type "IndexError"]
def FU:List Bool:=[false,true,false,false,false,false,false,false,false,false,false,false,false,false,true,false,false,false,true,false,false]
def AM:List Addr:=[55,53,52,416,415,346,345,353,360,365,370,375,380,387,394,401,406,413,352,359,364,369,374,379,386,393,400,405,412]++csL
def D_:List (Str×Addr×Addr×Str):=[("kinds",353,352,"House.kinds"),("bidders",360,359,"House.bidders"),("amounts",365,364,"House.amounts"),("prices",370,369,"House.prices"),("steps",375,374,"House.steps"),("points",380,379,"House.points"),("place_of",387,386,"House.place_of"),("__eq__",394,393,"House.__eq__"),("__len__",401,400,"House.__len__"),("__str__",406,405,"House.__str__"),("__repr__",413,412,"House.__repr__")]
def LN:Stmt:=(CD (PySem.Challenge.pw_bundleclocks_k17_houses.main.body.getD 4 (.Pass ⟨0,0,0,0⟩))).getD 0 (.Pass ⟨0,0,0,0⟩)
def PR:Stmt:=(CD (PySem.Challenge.pw_bundleclocks_k17_houses.main.body.getD 31 (.Pass ⟨0,0,0,0⟩))).getD 0 (.Pass ⟨0,0,0,0⟩)
def SG:List Stmt:=(CD (PySem.Challenge.pw_bundleclocks_k17_houses.main.body.getD 31 (.Pass ⟨0,0,0,0⟩))).drop 1
def bmL:List Value:=[.type "KeyError",.type "LookupError",.type "Exception",.type "BaseException",.type "object"]
def Be:List Str:=["kind_rows","bidder_rows"]
def knL:List (List Int):=[[1,4],[0,999],[1,99],[0,9]]
def bnL:List (List Int):=[[0,99]]
def YX:Str:="abcdefghijklmnopqrstuvwxyz"
def yfL(s:Shared):=(exV (Sx AM s.heap) 56 55 53 "name" "NoBidder.__init__" 52,Zbz (Sx AM s.heap) s.heap 56 Zbt Ek,Bq (Sx AM s.heap) 416 346 345 "House.__init__" Be,N7 (Sx AM s.heap) 416 D_,Bg (Sx AM s.heap) 416 415,([("House" : Str)].map (s.heap.nsMap mainGlobals),A1 s.heap "LETTERS",GS s.heap "KIND_NUMBERS",GS s.heap "BIDDER_NUMBERS"))
def yaL:=(exG "KeyError" "LookupError.__new__" bmL 56 55 53 "NoBidder.__init__" 52 (JC LN) (JF LN) (MY LN),(csL.map λa=>some (Value.ref a),FU.map some),Bp 346 345 "House.__init__" Be (JC PR) (JF PR) (MY PR),N6 D_ SG,Bf 416 415 394,([(416:Addr)].map λa=>some (Value.ref a),some YX,some knL,some bnL))
def goodLA(p:Program):=DZ p ["TooMany"]
theorem goodEA:goodLA=goodLA:=rfl
name_quick goodQA for goodLA by goodEA
def goodLD(p:Program):=Zaj p ["TooMany"]
theorem goodED:goodLD=goodLD:=rfl
name_quick goodQD for goodLD by goodED
noncomputable def onceL1(p:Program)(w:World)(os:OsState):=W7 p (Cg p p yfL) 20000 w os
theorem onceE1:onceL1=onceL1:=rfl
name_quick onceQ1 for onceL1 by onceE1
theorem Zbf(w:World)(os:OsState):onceL1 PySem.Challenge.pw_bundleclocks_k17_houses w os=some (bltViewBooted,true,yaL):=(sP (sP (sP PySem.W.Fast.onceQ1_eq PySem.Challenge.pw_bundleclocks_k17_houses) w) os).trans (by kernel_rfl:PySem.W.Fast.onceQ1 PySem.Challenge.pw_bundleclocks_k17_houses w os=some (bltViewBooted,true,yaL))
noncomputable def onceLA(p:Program)(w:World)(os:OsState):=W7 p (Ci p p ["TooMany"]) 20000 w os
theorem onceEA:onceLA=onceLA:=rfl
name_quick onceQA for onceLA by onceEA
theorem Zbk(w:World)(os:OsState):onceLA PySem.Challenge.pw_bundleclocks_k17_houses w os=goodLA PySem.Challenge.pw_bundleclocks_k17_houses:=(sP (sP (sP PySem.W.Fast.onceQA_eq PySem.Challenge.pw_bundleclocks_k17_houses) w) os).trans ((by kernel_rfl:PySem.W.Fast.onceQA PySem.Challenge.pw_bundleclocks_k17_houses w os=PySem.W.Fast.goodQA PySem.Challenge.pw_bundleclocks_k17_houses).trans (sP PySem.W.Fast.goodQA_eq PySem.Challenge.pw_bundleclocks_k17_houses).symm)
noncomputable def onceLD(p:Program)(w:World)(os:OsState):=W7 p (N2 p ["TooMany"]) 20000 w os
theorem onceED:onceLD=onceLD:=rfl
name_quick onceQD for onceLD by onceED
theorem Kq(w:World)(os:OsState):onceLD PySem.Challenge.pw_bundleclocks_k17_houses w os=goodLD PySem.Challenge.pw_bundleclocks_k17_houses:=(sP (sP (sP PySem.W.Fast.onceQD_eq PySem.Challenge.pw_bundleclocks_k17_houses) w) os).trans ((by kernel_rfl:PySem.W.Fast.onceQD PySem.Challenge.pw_bundleclocks_k17_houses w os=PySem.W.Fast.goodQD PySem.Challenge.pw_bundleclocks_k17_houses).trans (sP PySem.W.Fast.goodQD_eq PySem.Challenge.pw_bundleclocks_k17_houses).symm)
theorem Zbg(w:World)(os:OsState):W7 PySem.Challenge.pw_bundleclocks_k17_houses (N1 PySem.Challenge.pw_bundleclocks_k17_houses ["TooMany"]) 20000 w os=some true:=Us (f:=N2 PySem.Challenge.pw_bundleclocks_k17_houses ["TooMany"]) (r:=(true,true,(pinGoodD (drecsOf PySem.Challenge.pw_bundleclocks_k17_houses),plainGoodE PySem.Challenge.pw_bundleclocks_k17_houses (looseW PySem.Challenge.pw_bundleclocks_k17_houses ["TooMany"])),(plainGoodD PySem.Challenge.pw_bundleclocks_k17_houses ["TooMany"],wideGood PySem.Challenge.pw_bundleclocks_k17_houses,clsGoodW PySem.Challenge.pw_bundleclocks_k17_houses ["TooMany"]))) (λz=>z.1) (Kq w os)
theorem Zbh(w:World)(os:OsState):W7 PySem.Challenge.pw_bundleclocks_k17_houses (HI PySem.Challenge.pw_bundleclocks_k17_houses) 20000 w os=some true:=Us (f:=N2 PySem.Challenge.pw_bundleclocks_k17_houses ["TooMany"]) (r:=(true,true,(pinGoodD (drecsOf PySem.Challenge.pw_bundleclocks_k17_houses),plainGoodE PySem.Challenge.pw_bundleclocks_k17_houses (looseW PySem.Challenge.pw_bundleclocks_k17_houses ["TooMany"])),(plainGoodD PySem.Challenge.pw_bundleclocks_k17_houses ["TooMany"],wideGood PySem.Challenge.pw_bundleclocks_k17_houses,clsGoodW PySem.Challenge.pw_bundleclocks_k17_houses ["TooMany"]))) (λz=>z.2.1) (Kq w os)
theorem Zbi(w:World)(os:OsState):W7 PySem.Challenge.pw_bundleclocks_k17_houses (HJ PySem.Challenge.pw_bundleclocks_k17_houses ["TooMany"]) 20000 w os=DX PySem.Challenge.pw_bundleclocks_k17_houses ["TooMany"]:=Us (f:=N2 PySem.Challenge.pw_bundleclocks_k17_houses ["TooMany"]) (r:=(true,true,(pinGoodD (drecsOf PySem.Challenge.pw_bundleclocks_k17_houses),plainGoodE PySem.Challenge.pw_bundleclocks_k17_houses (looseW PySem.Challenge.pw_bundleclocks_k17_houses ["TooMany"])),(plainGoodD PySem.Challenge.pw_bundleclocks_k17_houses ["TooMany"],wideGood PySem.Challenge.pw_bundleclocks_k17_houses,clsGoodW PySem.Challenge.pw_bundleclocks_k17_houses ["TooMany"]))) (λz=>z.2.2.1) (Kq w os)
theorem Zbj(w:World)(os:OsState):W7 PySem.Challenge.pw_bundleclocks_k17_houses (HK PySem.Challenge.pw_bundleclocks_k17_houses ["TooMany"]) 20000 w os=DY PySem.Challenge.pw_bundleclocks_k17_houses ["TooMany"]:=Us (f:=N2 PySem.Challenge.pw_bundleclocks_k17_houses ["TooMany"]) (r:=(true,true,(pinGoodD (drecsOf PySem.Challenge.pw_bundleclocks_k17_houses),plainGoodE PySem.Challenge.pw_bundleclocks_k17_houses (looseW PySem.Challenge.pw_bundleclocks_k17_houses ["TooMany"])),(plainGoodD PySem.Challenge.pw_bundleclocks_k17_houses ["TooMany"],wideGood PySem.Challenge.pw_bundleclocks_k17_houses,clsGoodW PySem.Challenge.pw_bundleclocks_k17_houses ["TooMany"]))) (λz=>z.2.2.2) (Kq w os)
theorem runs(w:World)(os:OsState):Ka PySem.Challenge.pw_bundleclocks_k17_houses PySem.Challenge.pw_bundleclocks_k17_houses ["TooMany"] yfL 20000 w os=LM PySem.Challenge.pw_bundleclocks_k17_houses ["TooMany"] yaL:=H_ (Zbk w os) (Zbf w os) (Zbg w os) (Zbh w os) (Zbi w os) (Zbj w os)
end Mine
namespace L2
open PySem PySem.Spec PyProof.Rows
structure AV(P:Program)(w:World)(K:Frag)(mg:Str->Option Value)(base:Heap)(k:Nat)(x:Str)(ps:List Str)(sp:Sp):Prop where
 ex:∃f fd,Xc P w K mg base (Ma P w) k f fd ps sp/\PySem.W.keepIn K (.ref f)=true/\XE K fd ps []/\mg x=some (.ref f)
def Ni(n:Nat)(pick:List (Nat×Nat)):Prop:=∀(d:Value) (us:List Value),us.length=n->M5 d n 0 pick us []=us
theorem O7.all{K:Frag}{x:Str}{st:Stmt}{ps:List Str}{n:Nat}{pick:List (Nat×Nat)}{f e:Addr}{fd:FuncData}(F:O7 K x st f fd e)(h:Pt x st ps [] n 0 pick)(hn:ps.length=n)(hp:Ni n pick):XE K fd ps []:=λs us kin hl=>by
 rw[uT]at hl |-
 have e:=hp (.ref e) us (hl.trans hn)
 have:=(F.kbinds h).to s us [] kin (by rw[e];exact hl)
 rw[e]at this
 exact this
theorem AV.data{P:Program}{w:World}{K:Frag}{mg:Str->Option Value}{base:Heap}{C:Addr}{fld x:Str}{st:Stmt}{N ps:List Str}{k n:Nat}{pick:List (Nat×Nat)}{em:Addr}{f:S1}(U:∃a fd,O7 K x st a fd em/\mg x=some (.ref a))(hk:Pt x st ps [] n 0 pick)(hn:ps.length=n)(hp:Ni n pick)(S:Zv N ps (Zf st))(len:∀vs w k kx,f vs w k kx->vs.length=ps.length) 
  (hbody:∀(a:Addr) (cdv:Value) (A:Around) (outer:List Env) (s:Shared) (H B:Hp) (E:XK) (kx:PyData->OW->Prop),ZZ k (A.deeper (envOfC x (Zf st) s.heap.objs.size a cdv))->PoX K C fld B E kx ->
   ∃t d,U6 (Xw (Ma P w) P w K mg base N x (Zf st) a cdv A outer s H E) (ZR st) t/\D7 K B t d/\∀(as:List Val) (o:OW) (q:Val->OW->Prop),f as o q kx->d { nx:=λs=>∃w',OW.le w' s.w/\q (.d .none) w',rt:=λv s=>∃w',OW.le w' s.w/\q v w' } ⟨Yw N as,o⟩):AV P w K mg base (k+1) x ps (spX K C fld f):=by
 obtain⟨a,fd,F,m⟩:=U
 have hB:=F.all hk hn hp
 have kp:=F.kp
 obtain⟨oc,od,T,kV,doc,pm,an,cdv,ct,osl,oT,nT,rfl,lk,hcd,hT,hd⟩:=F.ex
 refine⟨a,_,QR lk hcd S (λvs H Q E h=>?_) (λA outer s H vs Q E hr h=>?_),kp,hB,m⟩
 ·obtain⟨G,o,as,_,_,h1,h2⟩:=h
  rw[<- h1.length];exact len _ _ _ _ h2
 ·obtain⟨G,o,as,h1,h2,h3,h4⟩:=h
  obtain⟨t,d,q1,q2,q3⟩:=hbody a cdv A outer s H G E (kx:=λx w'=>∀G' H' u d,Z7 G G'->Z7 G' H'->YS K G' w' H'->G' d=some (.xd [(fld,u)])->DW K G' x u->E (.ref C) (some d) H') hr λx w' G' H' u d e1 e2 e3 e4 e5 z=>z G' H' u d e1 e2 e3 e4 e5
  refine⟨t,q1,q2 G ⟨Yw N as,o⟩ (YG N vs) H _ { nx:=λs=>∃w',OW.le w' s.w/\_,rt:=λv s=>∃w',OW.le w' s.w/\_ } (Z7.refl G) ⟨h1,h2,Wa h3⟩ ⟨λs' G' σ' H' e r z=>?_,λv s' G' σ' H' x e r v1 z=>?_,λ_ _ _ _ _ _ z=>False.elim z,λ_ _ _ _ _ _ z=>False.elim z⟩ (q3 as o _ h4)⟩
  ·obtain⟨w',l,z⟩:=z
   exact z G' H' .non e r.sub (r.own.le l) Vg
  ·obtain⟨w',l,z⟩:=z
   exact z G' H' x e r.sub (r.own.le l) v1
end L2
namespace L2
open PySem PySem.W PySem.W.X PySem.Spec PyProof.Rows
def FK(x:Str)(st:Stmt)(ps ks:List Str)(na nk:Nat)(pick:List (Nat×Nat)):Prop:=∀(T:Addr) (kV doc pm:Value) (an:Option Addr) (cdv ct:Value) (us ws:List Value),(M5 Value.none na nk pick us ws).length=ps.length ->
 ∃k:Option (Array Value)->Sem (List (Str×Value)),bindArgs (PySem.W.fnOf x x (Y7 st) (ZR st) (Zf st) (.ref T) kV doc pm an cdv ct) ⟨us,ks.zip ws⟩=seqItems? (.ref T)>>=k/\k (some #[.none])=pure (ps.zip (M5 Value.none na nk pick us ws))
structure FJ(K:Frag)(x:Str)(st:Stmt)(f:Addr)(fd:FuncData):Prop where
 ex:∃(oc:Value) (od:Option Addr) (T:Addr) (kV doc pm:Value) (an:Option Addr) (cdv ct:Value) (osl:Array (Option Value)) (oT:Obj) (n:Nat),
  fd=PySem.W.fnOf x x (Y7 st) (ZR st) (Zf st) (.ref T) kV doc pm an cdv ct/\K.lookup f=some ⟨oc,od,.func fd,osl⟩/\PySem.W.codeIn K cdv x=true/\K.lookup T=some oT/\oT.data=.seq #[.none] n
 kp:PySem.W.keepIn K (.ref f)=true
theorem FJ.kbinds{K:Frag}{x:Str}{st:Stmt}{ps ks:List Str}{na nk:Nat}{pick:List (Nat×Nat)}{f:Addr}{fd:FuncData}(F:FJ K x st f fd)(h:FK x st ps ks na nk pick):Mh K fd ps ks (M5 Value.none na nk pick) (M5 V.non na nk pick):=by
 obtain⟨oc,od,T,kV,doc,pm,an,cdv,ct,osl,oT,n,rfl,lk,hcd,hT,hd⟩:=F.ex
 refine⟨λs us ws kin hl=>?_,λr z=>LG (show ZI V.non Value.none from rfl) r z⟩
 obtain⟨k,h1,h2⟩:=h T kV doc pm an cdv ct us ws hl
 exact BindsTo.of_defaults (T:=T) rfl (kin T oT hT) hd h1 h2
structure DnN(P:Program)(w:World)(K:Frag)(mg:Str->Option Value)(base:Heap)(k:Nat)(x:Str)(st:Stmt)(ps:List Str)(sp:Sp):Prop where
 ex:∃f fd,Xc P w K mg base UC k f fd ps sp/\FJ K x st f fd/\mg x=some (.ref f)
theorem DnN.of{P:Program}{w:World}{K:Frag}{mg:Str->Option Value}{base:Heap}{x:Str}{st:Stmt}{N ps:List Str}{k:Nat}{sp:Sp}(U:∃f fd,FJ K x st f fd/\mg x=some (.ref f))(S:Zv N ps (Zf st))(len:∀vs H Q E,sp vs H Q E->vs.length=ps.length) 
  (hbody:∀(f:Addr) (cdv:Value) (A:Around) (outer:List Env) (s:Shared) (H:Hp) (vs:List V) (Q:VK) (E:XK),ZZ k (A.deeper (envOfC x (Zf st) s.heap.objs.size f cdv))->sp vs H Q E ->
   ∃t,U6 (Xw UC P w K mg base N x (Zf st) f cdv A outer s H E).nox (ZR st) t/\t { nx:=λ_ H'=>Q .non H',rt:=Q } (YG N vs) H):DnN P w K mg base (k+1) x st ps sp:=by
 obtain⟨f,fd,F,m⟩:=U
 refine⟨f,fd,?_,F,m⟩
 obtain⟨oc,od,T,kV,doc,pm,an,cdv,ct,osl,oT,n,rfl,lk,hcd,hT,hd⟩:=F.ex
 refine QR lk hcd S len λA outer s H vs Q E hr hsp=>?_
 obtain⟨t,h,q⟩:=hbody f cdv A outer s H vs Q E hr hsp
 exact⟨t,h.nox,q⟩
end L2
namespace L2
open PySem PySem.Spec PyProof.Rows
section
variable {X:Cx}{K:Frag}
theorem K4(hc:X.cold=true):Y0 X (.builtin "any") (λxs H Q=>∃(a:Addr) (bs:List Bool),xs=[.ref a]/\Xp X.K H a (bs.map V.bl)/\Q (.bl (bs.any id)) H):=by
 rintro pins s σ H xs us Q I r ⟨a,bs,rfl,h,q⟩
 obtain⟨u,rfl,rx⟩:=VF r
 cases (show u=Value.ref a from rx)
 obtain⟨its,rv,p,hz⟩:=I.list h
 refine call_any_walk (uE p.isList ?_)
 have hlt:a<s.heap.objs.size:=by obtain⟨o,e,_⟩:=p.isList;exact wM e
 have l2:=rv.length
 rw[Wb]at l2
 refine⟨s.heap.objs.size,_,_,_,_,_,λi=>bs.getD i true,rfl,Walks.list (A:=X.A.in1) (I.ok.cd hc) s.heap.objs.size a (vC hlt) its.toArray,⟨⟨_,wK _ rfl,rfl,rfl⟩,p.isList.push _⟩,?_,λh' tk hk=>?_⟩
 ·intro i v s' Q' E' hv hq
  have hv':its[i]? = some v:=by simpa using hv
  have hl:i<bs.length:=by
   have:=(vS.mp hv').1
   omega
  obtain⟨u2,h1,h2⟩:=rv.get (i:=i) (x:=.bl bs[i]) (by simp[hl])
  rw[hv']at h1;cases h1
  cases (show v=Value.bool bs[i] from h2)
  refine vY ?_
  dsimp only at hq
  rw[xR,M4 hl]at hq
  exact hq
 ·have e1:(List.range its.toArray.size).any (λi=>bs.getD i true)=bs.any id:=by
   rw[yK,<- l2,uJ,sQ,sQ]
   constructor
   ·rintro ⟨i,hi,e⟩
    have hi':i<bs.length:=by simpa using hi
    rw[xR,M4 hi']at e
    exact⟨_,xT hi',e⟩
   ·rintro ⟨x,hx,e⟩
    obtain⟨i,hi,rfl⟩:=xS.mp hx
    exact⟨i,by simpa using hi,by rw[xR,M4 hi];exact e⟩
  refine⟨.bl (bs.any id),H,I.kept (λb o e=>hk b o ?_ (wJ _ e)),by rw[e1];rfl,q⟩
  intro hb
  have:b=s.heap.objs.size:=by simpa using hb
  exact absurd (wM e) (by rw[this];exact vJ _)
def O_:Val->ZE:=λv s k=>match rdL s.w v with|some ds=>(match Le ds with|some ns=>k (.d (.bool (ns.any id))) s|none=>False)|none=>False
theorem Aj:RC K (λxs H Q=>∃(a:Addr) (bs:List Bool),xs=[.ref a]/\Xp K H a (bs.map V.bl)/\Q (.bl (bs.any id)) H) (f1 O_):=by
 refine ES (λv s Q Q' h q=>?_) (λG s σ H x v Q r v1 h=>?_)
 ·unfold O_ at q |-;split at q
  ·split at q
   ·exact h _ _ q
   ·exact q.elim
  ·exact q.elim
 ·unfold O_ at h;split at h
  ·next ds e=>
   split at h
   ·next ns z=>
    obtain⟨a,xs,rfl,h1,h2⟩:=r.rdL v1 e
    rw[Lf z]at h2
    rw[h2.bools_inv]at h1
    exact⟨a,ns,rfl,h1,h.here r Xj⟩
   ·exact h.elim
  ·exact h.elim
end
structure Za0(w:World)(K:Frag)(mg:Str->Option Value)(t:Str)(rows:List (Str×Addr)):Prop where
 ex:∃L o es ep,mg t=some (.ref L)/\(L == sysModules)=false/\K.lookup L=some o/\o.ExactDict/\o.data=.dict es ep/\(∀P,KeysOf (Yc P w) es)/\(∀P,Pairs (Yc P w) es.toList (rows.map λr=>((Sum.inr r.1:Xd),Value.ref r.2)))/\(rows.map (·.1)).Nodup
section
variable {X:Cx}{pins:List (Addr×Obj)}{σ:St}{H:Hp}{s:Shared}{t:Str}{rows:List (Str×Addr)}
theorem Za0.dict(T:Za0 X.w X.K X.mg t rows):∃L,X.mg t=some (.ref L)/\(L == sysModules)=false/\∀(pins:List (Addr×Obj)) (σ:St) (H:Hp) (s:Shared),Zu X pins σ H s->s.heap.DictOf (Yc X.prog X.w) L (rows.map λr=>((Sum.inr r.1:Xd),Value.ref r.2)):=by
 obtain⟨L,o,es,ep,h1,h2,h3,h4,h5,h6,h7,h8⟩:=T.ex
 refine⟨L,h1,h2,λpins σ H s I=>⟨o,es,ep,I.kIn _ _ h3,h4,h5,h6 _,h7 _,?_⟩⟩
 rw[tP]
 rw[show((λx=>x.1) ∘ λr:Str×Addr=>((Sum.inr r.1:Xd),Value.ref r.2))=λr=>(Sum.inr r.1:Xd) from rfl]
 have:(rows.map λr=>(Sum.inr r.1:Xd))=(rows.map (·.1)).map Sum.inr:=by rw[tP];rfl
 rw[this]
 exact h8.map Sum.inr λa b n e=>n (Sum.inr.inj e)
def FV(P:Program)(w:World)(K:Frag)(mg:Str->Option Value)(base:Heap)(k:Nat)(p:Addr×Xb):Prop:=∃fd ps x st,Xc P w K mg base UC k p.1 fd ps (Wc K p.2)/\Ws K x x st p.1 fd/\ZY x st ps
theorem FV.of{P:Program}{w:World}{K:Frag}{mg:Str->Option Value}{base:Heap}{k k':Nat}{x:Str}{st:Stmt}{ps:List Str}{d:Xb}{f:Addr}(D:Dn P w K mg base k x st ps (Wc K d))(hb:ZY x st ps)(m:mg x=some (.ref f))(hk:k≤k'):FV P w K mg base k' (f,d):=by
 obtain⟨f',fd,F,U,m'⟩:=D.ex
 rw[m]at m';cases m'
 exact⟨fd,ps,x,st,F.mono hk,U,hb⟩
end
def Bi(K:Frag)(tl:TE):TI:=λσ H R=>tl σ H λx H1=>∃a,x=.ref a/\(((∃xs,Xp K H1 a xs)/\R (AW K a) H1)\/((∃xs,WH K H1 a xs)/\R (Itt K a) H1))
theorem BO{X:Cx}{tg l:Expr}{tl:TE}(hl:PE X l tl)(hc:X.calm=true:=by rfl):PI X tg l (Bi X.K tl):=by
 intro pins s σ H R I h
 refine YB (hl pins s σ H _ I h) λv s1 ⟨x,H1,I1,r1,a,e,q1⟩=>?_
 subst e
 cases r1
 have fp:∀b∈[s1.heap.objs.size],Wk X pins H1 b:=λb hb=>by cases xQ.mp hb;exact I1.fpOk (zK _) (I1.hok.fresh (zK _))
 rcases q1 with ⟨⟨xs,hq⟩,q⟩|⟨⟨xs,hq⟩,q⟩
 ·obtain⟨its,rv,p,hz⟩:=I1.list hq
  exact uE p.isList ⟨s1.heap.objs.size,[s1.heap.objs.size],_,_,H1,rfl,I1.kept (t':=s1.toks) λb o e=>wJ _ e,Pn a _,⟨_,wK _ rfl,rfl,rfl⟩,fp,.inr ⟨rfl,hc⟩,q⟩
 ·obtain⟨its,rv,p,hz⟩:=I1.tuple hq
  exact uF (show s1.heap.IsTuple a its.toArray from p) ⟨s1.heap.objs.size,[s1.heap.objs.size],_,_,H1,rfl,I1.kept (t':=s1.toks) λb o e=>wJ _ e,Qs a _,⟨_,wK _ rfl,rfl,rfl⟩,fp,.inr ⟨rfl,hc⟩,q⟩
theorem Nn{X:Cx}{tg l:Expr}{tl:TE}(hl:IPE X l tl)(hc:X.calm=true:=by rfl):IPI X tg l (Bi X.K tl):=by
 rw[Zy];rw[Zr]at hl;exact BO hl hc
def Zbv(d:ZE):SW:=λs k=>d s λv s1=>match v with | .d (.list ds)=>k (ds,LY) s1 | .d (.tuple ds)=>k (ds,LY) s1|_=>False
theorem GJ{K:Frag}{t:TE}{d:ZE}(h:RE K t d):RI K (Bi K t) (Zbv d):=by
 refine⟨λs Q Q' z y=>h.mo _ _ _ (λv s1 y=>?_) y,λG s σ H R r y=>h.ok G s σ H _ r (h.mo _ _ _ (λv s1 y G1 H1 x e1 r1 v1=>?_) y)⟩
 ·split at y
  ·exact z _ _ y
  ·exact z _ _ y
  ·exact y.elim
 ·split at y
  ·obtain⟨a,xs,rfl,h1,h2⟩:=Ui v1
   exact⟨a,rfl,.inl ⟨⟨xs,Xp.of (r1.sub _ _ h1)⟩,y G1 H1 _ e1 r1 (UR.list h1 h2)⟩⟩
  ·obtain⟨a,xs,rfl,h1,h2⟩:=Uj v1
   exact⟨a,rfl,.inr ⟨⟨xs,r1.sub.tup h1⟩,y G1 H1 _ e1 r1 (UR.tup h1 h2)⟩⟩
  ·exact y.elim
theorem Gm{X:Cx}{x:Str}{v:V}{pos:Pos}(hg:Gl X x)(h:∃u,X.mg x=some u/\ZI v u)(hd:(x == ("__debug__" : Str))=false:=by decide):PE X (.Name x pos) (tC v):=by
 obtain⟨u,m,r⟩:=h
 exact EA hg m r hd
theorem ZM{X:Cx}{x:Str}{v:V}{pos:Pos}(hg:Gl X x)(h:∃u,X.mg x=some u/\ZI v u)(hd:(x == ("__debug__" : Str))=false:=by decide):IPE X (.Name x pos) (tC v):=by
 rw[Zr];exact Gm hg h hd
end L2
namespace L2
open PySem PySem.W PySem.W.X PySem.Spec PyProof.Rows
theorem SY{q:Program}{loose:List Str}{XP:(Str->Option Value)->Heap->Prop}{w:World}{s₀:Shared}{mg mb:Str->Option Value}{h:Heap}(G:Ground q loose [] XP w s₀ mg mb h){x:Str}{n:Int}(e:valOf q x=some (.int n)):∃u,mg x=some u/\ZI (.int n) u:=by
 obtain⟨v,h1,h2⟩:=G.T.const _ _ e
 refine⟨v,h1,?_⟩
 cases h2 h
 exact⟨_,rfl⟩
end L2
namespace L2
open PySem PySem.Spec PyProof.Rows
abbrev XD:=List Xd×List Xd
section
variable {prog:Program}{w:World}{A:Around}{E:Value->Shared->Prop}{s:Shared}
def Xk(prog:Program)(w:World)(h:Heap)(k:XD)(a:Addr):Prop:=∃o items n pre b,h.get? a=some o/\o.cls=.type "tuple"/\o.data=.seq items n/\items.toList=pre++[.ref b]/\ItemsAre (Yc prog w) k.1 pre/\IsTupleKey (Yc prog w) h k.2 b/\k.1.length=2
theorem Xk.typeIs{k:XD}{a:Addr}(x:Xk prog w s.heap k a):s.TypeIs (.ref a) "tuple":=let ⟨o,_,_,_,_,ho,hc,_⟩:=x;⟨o,ho,hc⟩
theorem Xk.inj{h:Heap}{a:Addr}{x y:XD}(hx:Xk prog w h x a)(hy:Xk prog w h y a):x=y:=by
 obtain⟨o,items,n,pre,b,ho,_,hd,hi,hp,hb,_⟩:=hx
 obtain⟨o',items',n',pre',b',ho',_,hd',hi',hp',hb',_⟩:=hy
 obtain rfl:o=o':=vV (ho.symm.trans ho')
 rw[hd]at hd'
 injection hd' with h1 _
 subst h1
 rw[hi]at hi'
 obtain⟨e1,e2⟩:=List.append_inj' hi' rfl
 subst e1
 injection e2 with e2 _
 injection e2 with e2
 subst e2
 exact zT (hp.inj hp') (hb.inj hb')
theorem Xk.keeps{h h':Heap}{k:XD}{a d:Addr}{o:Obj}{es ep}(x:Xk prog w h k a)(ho:h.get? d=some o)(hd:o.data=.dict es ep)(hs:Heap.SameBut d h h'):Xk prog w h' k a:=by
 obtain⟨o',items,n,pre,b,ho',hc,hd',hi,hp,hb,h2⟩:=x
 have hne:a≠d:=by
  rintro rfl
  obtain rfl:o'=o:=vV (ho'.symm.trans ho)
  rw[hd]at hd';exact nomatch hd'
 exact⟨o',items,n,pre,b,(hs.2 a hne).trans ho',hc,hd',hi,hp,hb.keeps ho hd hs,h2⟩
def Qo(w:World)(prog:Program)(k:XD):Int:=reduceHash (Builtin.Tuple.tupleHashOf (k.1.map (Yc prog w).hash++[tupleKeyHash (Yc prog w) k.2]))
theorem KQ{k:XD}{a:Addr}{Q:Int->Shared->Prop}(hu:A.units+8<cLine)(hk:Xk prog w s.heap k a)(h:Q (Qo w prog k) { s with toks:=s.toks+(k.1.length+(k.2.length+1)+1) }):
  wpAny (model prog w) A (pyHash (.ref a)) Q E s:=by
 have hT:=hk.typeIs
 obtain⟨o,items,n,pre,b0,ho,_,hd,hl,hi,hb,_⟩:=hk
 unfold pyHash
 first|unfold pyHashByItsType|skip
 first|refine zW (wpAny_cRoomFor_or (.inr (zH (zM ..) hu)) ?_)|skip
 refine zW (vD hT sR.lookup ?_)
 show wpAny _ _ (if(some (Value.builtin "tuple.__hash__") == some Value.none)=true then _ else _) Q E s
 rw[wT (by rw[beq_builtin_none];exact wU)]
 refine zW (vD hT sR.lookup ?_)
 show wpAny _ _ (callSpecialIfBoundUnlessNone? (.ref a) "__hash__" _>>=_) Q E s
 refine zW (wpAny_callSpecialIfBoundUnlessNone?_slot hT sR (wS sR hT F.entry_tuple_hash ?_ (F.args_tuple_hash_1 _)))
 show wpAny _ _ (Builtin.Tuple.tupleItemsOf (.ref a)>>=_) _ _ s
 refine zW (sS ho hd ?_)
 refine zW ?_
 rw[<- xN,hl]
 refine sT _
  (λrest (b:Array Int) s'=>(∃done left pre',k.1=done++left/\rest=pre'++[.ref b0]/\ItemsAre (Yc prog w) left pre'/\b.toList=done.map (Yc prog w).hash/\s' = { s with toks:=s.toks+done.length }) \/
   (rest=[]/\b.toList=k.1.map (Yc prog w).hash++[tupleKeyHash (Yc prog w) k.2]/\s' = { s with toks:=s.toks+(k.1.length+(k.2.length+1)) }))
  _ ?_ ?_ _ _ (.inl ⟨[],k.1,pre,rfl,rfl,hi,rfl,rfl⟩)
 ·rintro x rest b s' (⟨done,left,pre',e,er,hl',hb',rfl⟩|⟨e,_⟩)
  ·cases hl' with
   | nil=>
    injection er with e1 e2
    subst e1 e2
    rw[uT]at e
    refine zW (wpAny_pyHash_tuple (by show A.units+1<cLine;omega) hb ?_)
    first
     | exact zX (.inr ⟨rfl,by simp[hb',e],by rw[e];simp[zJ]⟩)
     | exact zW (zX (zX (.inr ⟨rfl,by simp[hb',e],by rw[e];simp[zJ]⟩)))
   | @cons k1 _ ks' vs' h1 hl2=>
    injection er with e1 e2
    subst e1
    refine zW ((Yc prog w).pyHash h1 ?_)
    first
     | exact zX (.inl ⟨done++[k1],ks',vs',by simp[e],e2,hl2,by simp[hb'],by simp[zJ]⟩)
     | exact zW (zX (zX (.inl ⟨done++[k1],ks',vs',by simp[e],e2,hl2,by simp[hb'],by simp[zJ]⟩)))
  ·cases e
 ·rintro b s' (⟨done,left,pre',_,er,_⟩|⟨_,hb',rfl⟩)
  ·cases pre'<;>cases er
  show wpAny _ _ (retInt (Builtin.Tuple.tupleHashOf b.toList)) _ _ _
  rw[hb']
  refine wpAny_ret_mkInt ?_
  unfold Qo reduceHash at h
  show wpAny _ _ (if(decide (-(2:Int) ^ 63≤Builtin.Tuple.tupleHashOf (k.1.map (Yc prog w).hash++[tupleKeyHash (Yc prog w) k.2]))&&decide (Builtin.Tuple.tupleHashOf (k.1.map (Yc prog w).hash++[tupleKeyHash (Yc prog w) k.2])<2 ^ 63))=true then _ else _) Q E _
  by_cases hr:(decide (-(2:Int) ^ 63≤Builtin.Tuple.tupleHashOf (k.1.map (Yc prog w).hash++[tupleKeyHash (Yc prog w) k.2]))&&decide (Builtin.Tuple.tupleHashOf (k.1.map (Yc prog w).hash++[tupleKeyHash (Yc prog w) k.2])<2 ^ 63))=true
  ·rw[zU hr]
   rw[zU hr]at h
   exact zX (by simpa[zJ]using h)
  ·rw[wT hr]
   rw[wT hr]at h
   exact zW (wY (zX (by simpa[zJ]using h)))
theorem Ou{x y:XD}{a b:Addr}{P:Fin->Shared->Prop}(hu:A.units+4<cLine)(hx:Xk prog w s.heap x a)(hy:Xk prog w s.heap y b)(h:P (.done (.ret (.bool (decide (x=y))))) s):
  wpAny (model prog w) A (Builtin.«tuple.__eq__» ⟨[.ref a,.ref b],[]⟩) P E s:=by
 have hTb:=hy.typeIs
 obtain⟨oa,xs,na,xp,a0,hoa,_,hda,hxl,hia,ha0,hx2⟩:=hx
 obtain⟨ob,ys,nb,yp,b0,hob,_,hdb,hyl,hib,hb0,hy2⟩:=hy
 have hl:x.1.length=y.1.length:=hx2.trans hy2.symm
 show wpAny _ _ (isInstance (.ref b) (.type "tuple")>>=_) _ _ s
 refine zW (vA hTb sU ?_)
 simp only[sN,vE,vF]
 refine zW (sS hoa hda ?_)
 refine zW (sS hob hdb ?_)
 have hsz:(xs.size == ys.size)=true:=by
  rw[<- vZ,<- vZ,hxl,hyl,yH,yH,<- hia.length,<- hib.length,hl]
  simp
 refine zW ?_
 refine sT _
  (λrest r s'=>r.1=none/\s'=s/\((∃x' y' xs' ys',rest=List.zip (xs'++[.ref a0]) (ys'++[.ref b0])/\ItemsAre (Yc prog w) x' xs'/\ItemsAre (Yc prog w) y' ys'/\x'.length=y'.length/\decide ((x',x.2)=(y',y.2))=decide (x=y)) \/
   (rest=[]/\decide (x=y)=true)))
  _ ?_ ?_ _ _ ⟨rfl,rfl,.inl ⟨x.1,y.1,xp,yp,by rw[hxl,hyl],hia,hib,hl,rfl⟩⟩
 ·rintro ⟨u,v⟩ rest r s' ⟨hr,rfl,⟨x',y',xs',ys',hz,hx',hy',hlen,hdec⟩|⟨e,_⟩⟩
  ·cases hx' with
   | nil=>
    have:y'=[]:=List.length_eq_zero_iff.mp hlen.symm
    subst this
    cases hy'
    simp only[sM,zip_cons_cons,List.zip_nil_right,sE,tR]at hz
    obtain⟨⟨rfl,rfl⟩,rfl⟩:=hz
    refine zW (wpAny_eqBool_tuple (by first|(show A.units+1<cLine;omega)|(show A.units<cLine;omega)) ha0 hb0 ?_)
    by_cases hk:x.2=y.2
    ·rw[yR hk]
     simp only[sN,vE,vF]
     refine zX ⟨rfl,rfl,.inr ⟨trivial,?_⟩⟩
     rw[<- hdec];simp[hk]
    ·rw[vH hk]
     simp only[sJ,yJ]
     have hf:decide (x=y)=false:=by rw[<- hdec];simp[hk]
     rw[hf]at h
     exact zW (zX (zX (zX h)))
   | @cons k1 u' x'' xs'' h1 hx''=>
    cases hy' with
    | nil=>simp at hlen
    | @cons k2 v' y'' ys'' h2 hy''=>
     simp only[yZ,zip_cons_cons,sE,tR]at hz
     obtain⟨⟨rfl,rfl⟩,rfl⟩:=hz
     refine zW ((Yc prog w).eqBool (a:=k1) (b:=k2) h1 h2 ?_)
     by_cases hk:k1=k2
     ·subst hk
      rw[yR rfl]
      simp only[sN,vE,vF]
      refine zX ⟨rfl,rfl,.inl ⟨x'',y'',xs'',ys'',rfl,hx'',hy'',by simpa using hlen,?_⟩⟩
      rw[<- hdec]
      exact decide_eq_decide.mpr (by simp)
     ·rw[vH hk]
      simp only[sJ,yJ]
      have hf:decide (x=y)=false:=by rw[<- hdec];simp[hk]
      rw[hf]at h
      exact zW (zX (zX (zX h)))
  ·cases e
 ·rintro ⟨r1,r2⟩ s' ⟨hr,rfl,⟨x',y',xs',ys',hz,_⟩|⟨_,hd'⟩⟩
  ·cases xs'<;>cases ys'<;>simp at hz
  simp only at hr
  subst hr
  refine zX ?_
  show P (.done (.ret (.bool (xs.size == ys.size)))) s'
  rw[hsz,<- hd'];exact h
theorem F_{x y:XD}{a b:Addr}{Q:Bool->Shared->Prop}(hu:A.units+8<cLine)(hx:Xk prog w s.heap x a)(hy:Xk prog w s.heap y b)(h:Q (decide (x=y)) s):
  wpAny (model prog w) A (eqBool (.ref a) (.ref b)) Q E s:=by
 unfold eqBool
 try with_reducible refine zY ?_
 show wpAny _ _ (if(Value.ref a == Value.ref b)=true then _ else _) Q E s
 by_cases hab:(Value.ref a == Value.ref b)=true
 ·rw[zU hab]
  have e:a=b:=by have:=eq_of_beq hab;injection this
  subst e
  obtain rfl:=hx.inj hy
  exact zW (wY (zX (by simpa using h)))
 ·rw[wT hab]
  exact zW (wpAny_richCompare_same_room (op:=.Eq) hx.typeIs hy.typeIs sV
   (wS sV hx.typeIs F.entry_tuple_eq (Ou (by first|(show A.units+1+4<cLine;omega)|(show A.units+2+4<cLine;omega)|(show A.units+4<cLine;omega)) hx hy ⟨_,rfl,(λe=>nomatch e),vY h⟩) (F.args_tuple_eq_2 _ _)) (zH (zM ..) hu))
theorem Ju{n:Nat}{ks:List Xd}{a:Addr}{Q:Bool->Shared->Prop}(hk:IsTupleKey (Yc prog w) s.heap ks a)(h:Q true s):wpAny (model prog w) A (eqIsQuiet (n+1) (.ref a)) Q E s:=by
 have hT:=hk.typeIs
 obtain⟨o,items,m,ho,_,hd,hi⟩:=hk
 unfold eqIsQuiet
 refine zW (vD hT sV.lookup ?_)
 show wpAny _ _ (isInstance (.ref a) (.type "tuple")>>=_) _ _ s
 refine zW (vA hT sU ?_)
 simp only[sN,vE,vF]
 refine zW (wV ho hd ?_)
 refine zW ?_
 show wpAny _ _ (forIn items _ _) _ _ s
 rw[<- xN]
 refine sT _ (λrest r s'=>r.1=none/\s'=s/\∀v∈rest,carriedByValue v=true) _ ?_ ?_ _ _ ⟨rfl,rfl,hi.byValue⟩
 ·rintro v rest r s' ⟨hr,rfl,hall⟩
  rw[eqIsQuiet_byValue _ (hall v vM)]
  refine zW (zX ?_)
  simp only[sN,vE,vF]
  exact zX ⟨rfl,rfl,λu hu'=>hall u (vN _ hu')⟩
 ·rintro ⟨r1,r2⟩ s' ⟨hr,rfl,_⟩
  simp only at hr
  subst hr
  exact zX h
theorem MS{k:XD}{a:Addr}{Q:Bool->Shared->Prop}(hk:Xk prog w s.heap k a)(h:Q true s):wpAny (model prog w) A (eqIsQuiet 8 (.ref a)) Q E s:=by
 have hT:=hk.typeIs
 obtain⟨o,items,m,pre,b0,ho,_,hd,hl,hi,hb,_⟩:=hk
 unfold eqIsQuiet
 refine zW (vD hT sV.lookup ?_)
 show wpAny _ _ (isInstance (.ref a) (.type "tuple")>>=_) _ _ s
 refine zW (vA hT sU ?_)
 simp only[sN,vE,vF]
 refine zW (wV ho hd ?_)
 refine zW ?_
 show wpAny _ _ (forIn items _ _) _ _ s
 rw[<- xN,hl]
 refine sT _ (λrest r s'=>r.1=none/\s'=s/\∀v∈rest,carriedByValue v=true\/v=.ref b0) _ ?_ ?_ _ _ ⟨rfl,rfl,λv hv=>(vQ.mp hv).imp (hi.byValue v) xQ.mp⟩
 ·rintro v rest r s' ⟨hr,rfl,hall⟩
  have go:∀{R:Bool->Shared->Prop},R true s'->wpAny (model prog w) A (eqIsQuiet 7 v) R E s':=λq=>by
   rcases hall v vM with hv|rfl
   ·rw[eqIsQuiet_byValue _ hv];exact zX q
   ·exact Ju hb q
  refine zW (go ?_)
  simp only[sN,vE,vF]
  exact zX ⟨rfl,rfl,λu hu'=>hall u (vN _ hu')⟩
 ·rintro ⟨r1,r2⟩ s' ⟨hr,rfl,_⟩
  simp only at hr
  subst hr
  exact zX h
end
def Fg(prog:Program)(w:World):HeapKind prog w XD where
 is:=Xk prog w
 hash:=Qo w prog
 draws:=λk=>k.1.length+(k.2.length+1)+1
 room:=λA=>A.units+8<cLine
 inj:=λhx hy=>hx.inj hy
 keeps:=λx ho hd hs=>x.keeps ho hd hs
 pyHash:=λhu hk h=>KQ hu hk h
 eqBool:=λhu hx hy h=>F_ hu hx hy h
 quiet:=λhk h=>MS hk h
def SD(P:Program)(w:World)(a:Addr)(kvs:List (XD×Addr×V))(h:Heap):Prop:=∃o es xs,h.get? a=some o/\o.ExactDict/\o.data=.dict es xs.length/\es.toList=xs.map (entryOfKey (Fg P w)) /\
 Paired (λ(p:XD×Addr×V) (q:XD×Addr×Value)=>p.1=q.1/\p.2.1=q.2.1/\ZI p.2.2 q.2.2) kvs xs/\(xs.map (·.1)).Nodup/\kvs.length≤sizeLine/\(a == sysModules)=false
def QH(H:Hp)(b:Addr)(k:XD):Prop:=k.1.length=2/\∃c,H b=some (.tup (k.1.map kV++[.ref c]))/\H c=some (.tup (k.2.map kV))
def O5(kvs:List (XD×Addr×V))(k:XD):Option V:=(kvs.find? λx=>decide (x.1=k)).map (·.2.2)
def Zax(kvs:List (XD×Addr×V))(k:XD)(b:Addr)(v:V):List (XD×Addr×V):=if(O5 kvs k).isSome=true then kvs.map (λx=>if x.1=k then(x.1,x.2.1,v) else x) else kvs++[(k,b,v)]
abbrev HOs(P:Program)(w:World)(a:Addr)(kvs:List (XD×Addr×V)):HO:=.ext (SD P w a kvs)
section
variable {P:Program}{w:World}{H:Hp}{h h':Heap}{a b:Addr}{k:XD}{kvs:List (XD×Addr×V)}
theorem QH.same{H':Hp}(q:QH H b k)(e:∀b xs,H b=some (.tup xs)->H' b=some (.tup xs)):QH H' b k:=let ⟨z,c,h1,h2⟩:=q;⟨z,c,e _ _ h1,e _ _ h2⟩
end
abbrev SK:=Str×Int×List Int
def TX(k:SK):XD:=([Sum.inr k.1,Sum.inl k.2.1],k.2.2.map Sum.inl)
def Br:Val->Option SK
 | .d (.tuple [.str w,.int i,.tuple (x::r)])=>(QF (x::r)).map λns=>(w,i,ns)
 | _=>none
def QD(kvs:List (SK×PyData))(k:SK):Option PyData:=(kvs.find? λp=>decide (p.1=k)).map (·.2)
def A0(kvs:List (SK×PyData))(k:SK)(v:PyData):List (SK×PyData):=if(QD kvs k).isSome=true then kvs.map (λp=>if p.1=k then(p.1,v) else p) else kvs++[(k,v)]
theorem OO{a b:SK}(h:TX a=TX b):a=b:=by
 obtain⟨w,i,ns⟩:=a
 obtain⟨w',i',ns'⟩:=b
 unfold TX at h
 injection h with h1 h2
 injection h1 with h3 h4
 injection h3 with h3
 injection h4 with h4 _
 injection h4 with h4
 have h5:ns=ns':=(tN λx y e=>by injection e).mp h2
 simp only at h3 h4
 rw[h3,h4,h5]
section
variable {K:Frag}{G G' H H':Hp}{s:DS}{σ:St}
def Lj(K:Frag)(G:Hp):List (SK×PyData)->List (XD×Addr×V)->Prop:=Paired λp q=>q.1=TX p.1/\QH G q.2.1 q.1/\DW K G p.2 q.2.2
theorem Lj.same{kvs:List (SK×PyData)}{ks:List (XD×Addr×V)}(e:Z7 G G')(h:Lj K G kvs ks):Lj K G' kvs ks:=Paired.mapP h λ_ _ ⟨a,b,c⟩=>⟨a,b.same λ_ _ z=>e _ _ z,DW.same e c⟩
theorem Lj.keys:∀{kvs:List (SK×PyData)}{ks:List (XD×Addr×V)},Lj K G kvs ks->∀x∈ks,QH G x.2.1 x.1
 | _,_,.nil=>λx hx=>nomatch hx
 | _,_,.cons a t=>λx hx=>(vP.mp hx).elim (λe=>e▸a.2.1) λhx=>Lj.keys t x hx
theorem Lj.get{kvs:List (SK×PyData)}{ks:List (XD×Addr×V)}(h:Lj K G kvs ks)(k:SK):(QD kvs k=none/\O5 ks (TX k)=none)\/∃d z,QD kvs k=some d/\O5 ks (TX k)=some z/\DW K G d z:=by
 unfold Lj at h
 induction h with
 | nil=>exact .inl ⟨rfl,rfl⟩
 | @cons p q ps qs a t ih=>
  obtain⟨h1,_,h2⟩:=a
  by_cases e:p.1=k
  ·exact .inr ⟨p.2,q.2.2,by simp[QD,xY,e],by simp[O5,xY,h1,e],h2⟩
  ·have e':¬q.1=TX k:=λz=>e (OO (h1.symm.trans z))
   have b:QD (p::ps) k=QD ps k:=by simp[QD,xY,e]
   have c:O5 (q::qs) (TX k)=O5 qs (TX k):=by simp[O5,xY,e']
   rw[b,c];exact ih
theorem Lj.put{kvs:List (SK×PyData)}{ks:List (XD×Addr×V)}(h:Lj K G kvs ks){k:SK}{b:Addr}{d:PyData}{z:V}(hb:QH G b (TX k))(hz:DW K G d z):Lj K G (A0 kvs k d) (Zax ks (TX k) b z):=by
 have e:(QD kvs k).isSome=(O5 ks (TX k)).isSome:=by
  rcases h.get k with ⟨h1,h2⟩|⟨d',z',h1,h2,_⟩<;>rw[h1,h2]<;>rfl
 unfold A0 Zax
 rw[e]
 unfold Lj at h |-
 by_cases q:(O5 ks (TX k)).isSome=true
 ·rw[zU q,zU q]
  clear e q
  induction h with
  | nil=>exact .nil
  | @cons p q ps qs a t ih=>
   rw[uO,uO]
   refine .cons ?_ ih
   obtain⟨h1,h2,h3⟩:=a
   by_cases e:p.1=k
   ·rw[zU e,zU (by rw[h1,e])];exact⟨h1,h2,hz⟩
   ·rw[wT e,wT (λz=>e (OO (h1.symm.trans z)))];exact⟨h1,h2,h3⟩
 ·rw[wT q,wT q];exact Paired.snoc h ⟨rfl,hb,hz⟩
def Zbq(P:Program)(w:World)(kvs:List (SK×PyData)):Frag->Hp->Hp->Addr->Prop:=λK G H a=>∃ks,H a=some (HOs P w a ks)/\Lj K G kvs ks
abbrev dcs(P:Program)(w:World)(kvs:List (SK×PyData)):Own:=.oth (Zbq P w kvs)
def DL(P:Program)(w:World)(da db:ZE):ZE:=λs k=>da s λv s1=>db s1 λu s2=>match v with
 | .own a=>∃kvs ns x,s2.w a=some (dcs P w kvs)/\Br u=some ns/\QD kvs ns=some x/\k (.d x) s2
 | _=>False
def Zab(P:Program)(w:World)(db da:ZE):ZE:=λs k=>db s λu s1=>da s1 λv s2=>match v with
 | .own a=>∃kvs ns,s2.w a=some (dcs P w kvs)/\Br u=some ns/\k (.d (.bool (QD kvs ns).isSome)) s2
 | _=>False
def Ip(P:Program)(w:World)(di:SW)(cap:List (Option Nat))(dg:T7)(dt:Ux)(dk dv:ZE):ZE:=λs k=>di s λsrc s1=>∀p,s1.w p=none->∃I:Nat->OW->Prop,I 0 (s1.w.put p (dcs P w []))/\(∀i w,I i w->src.2 w) /\
 (∀(i:Nat) d w',src.1[i]? = some d->I i w'->dg (.d d) ⟨U8 cap s1.e,w'⟩ λs2=>dt s2 λb s3=>if b=true then dk s3 (λkk s4=>dv s4 λvv s5=>match vv with
  | .d x=>∃kvs ns,s5.w p=some (dcs P w kvs)/\Br kk=some ns/\kvs.length<sizeLine/\L2.ext (U8 cap s1.e) s5.e/\I (i+1) (s5.w.put p (dcs P w (A0 kvs ns x)))
  | _=>False) else L2.ext (U8 cap s1.e) s3.e/\I (i+1) s3.w) /\
 ∀w',I src.1.length w'->k (.own p) ⟨s1.e,w'⟩
end
section
variable {X:Cx}{K:Frag}
def Za3(d:ZE)(da:XO):ZE:=λs k=>d s λv s1=>(rdL s1.w v).isSome=true/\da s1 λvs s2=>match vs with
 | [u]=>(match rdL s2.w v,rdD s2.w u with
  | some ds,some x=>(x.hasDict=false/\PyData.hasDictAll ds=false/\x.canLay0=true/\PyData.canLayAll0 ds=true/\x.depth≤30)/\k (.d (.int ((ds.countP λz=>PyData.eqv z x):Nat))) s2
  | _,_=>False)
 | _=>False
end
end L2
namespace Mine
open PySem PySem.Spec PyProof.Rows L2
def top(i:Nat):Stmt:=PySem.Challenge.pw_bundleclocks_k17_houses.main.body.getD i (.Pass ⟨0,0,0,0⟩)
abbrev Tv:Stmt:=top 2
abbrev Ud:Stmt:=top 19
abbrev YL:Stmt:=top 20
abbrev Tw:Stmt:=top 21
abbrev WE:Stmt:=top 22
abbrev XZ:Stmt:=top 28
abbrev XW:Stmt:=top 29
abbrev WC:Stmt:=top 30
abbrev Uw:Stmt:=top 33
abbrev Vr:Stmt:=top 34
abbrev Vt:Stmt:=top 35
abbrev Tz:Stmt:=top 36
abbrev Ue:Stmt:=top 37
abbrev Vs:Stmt:=top 38
abbrev YZ:Stmt:=top 39
abbrev YN:Stmt:=top 40
abbrev X_:Stmt:=top 41
abbrev Jw:Stmt:=top 42
abbrev UF(K:Frag)(mg:Str->Option Value)(x:Str)(st:Stmt):Prop:=∃f fd,Ws K x x st f fd/\mg x=some (.ref f)
structure Txt(K:Frag)(mg:Str->Option Value):Prop where
 f_copied:UF K mg "copied" Tv
 f_is_whole:UF K mg "is_whole" Ud
 f_is_whole_between:UF K mg "is_whole_between" YL
 f_is_name:UF K mg "is_name" Tw
 f_is_tuple_of:UF K mg "is_tuple_of" WE
 f_is_named_row:UF K mg "is_named_row" XZ
 f_first_wrong:UF K mg "first_wrong" XW
 f_check_part:UF K mg "check_part" WC
 f_law_urn:UF K mg "_law_urn" Uw
 f_law_draw:UF K mg "_law_draw" Vr
 f_law_which:UF K mg "_law_which" Vt
 f_law_odd:UF K mg "_law_odd" Tz
 f_law_name:UF K mg "_law_name" Ue
 f_law_names:UF K mg "_law_names" Vs
 f_law_house_parts:UF K mg "_law_house_parts" YZ
 f_law_place_told:UF K mg "_law_place_told" YN
 f_law_is_right:UF K mg "_law_is_right" X_
 f_law:UF K mg "law" Jw
 z_ArithmeticError:mg "ArithmeticError" = none
 z_IndexError:mg "IndexError" = none
 z_KeyError:mg "KeyError" = none
 z_LookupError:mg "LookupError" = none
 z_OverflowError:mg "OverflowError" = none
 z_RuntimeError:mg "RuntimeError" = none
 z_TypeError:mg "TypeError" = none
 z_ValueError:mg "ValueError" = none
 z_abs:mg "abs" = none
 z_all:mg "all" = none
 z_any:mg "any" = none
 z_bool:mg "bool" = none
 z_enumerate:mg "enumerate" = none
 z_int:mg "int" = none
 z_isinstance:mg "isinstance" = none
 z_len:mg "len" = none
 z_list:mg "list" = none
 z_max:mg "max" = none
 z_min:mg "min" = none
 z_range:mg "range" = none
 z_repr:mg "repr" = none
 z_str:mg "str" = none
 z_tuple:mg "tuple" = none
 z_zip:mg "zip" = none
 c_LONGEST_NAME:∃u,mg "LONGEST_NAME" = some u/\ZI (.int 8) u
 c_MOST_BIDDERS:∃u,mg "MOST_BIDDERS" = some u/\ZI (.int 6) u
 c_MOST_KINDS:∃u,mg "MOST_KINDS" = some u/\ZI (.int 3) u
 c_SEALED:∃u,mg "SEALED" = some u/\ZI (.int 8) u
theorem Pk:Zv ["thing"] ["thing"] (Zf Tv):=(⟨rfl,rfl,rfl,by decide +kernel,rfl,by decide +kernel,by decide +kernel⟩)
theorem TC:ZY "copied" Tv ["thing"]:=(λ_ _ _ _ _ _ us hl=>by obtain⟨_,rfl⟩:=L2.Wj hl;rfl)
theorem NN:Zv ["thing"] ["thing"] (Zf Ud):=(⟨rfl,rfl,rfl,by decide +kernel,rfl,by decide +kernel,by decide +kernel⟩)
theorem OA:ZY "is_whole" Ud ["thing"]:=(λ_ _ _ _ _ _ us hl=>by obtain⟨_,rfl⟩:=L2.Wj hl;rfl)
theorem U2:Zv ["thing","least","most"] ["thing","least","most"] (Zf YL):=(⟨rfl,rfl,rfl,by decide +kernel,rfl,by decide +kernel,by decide +kernel⟩)
theorem Uy:ZY "is_whole_between" YL ["thing","least","most"]:=(λ_ _ _ _ _ _ us hl=>by obtain⟨_,_,_,rfl⟩:=L2.Nx hl;rfl)
theorem MX:Zv ["thing"] ["thing"] (Zf Tw):=(⟨rfl,rfl,rfl,by decide +kernel,rfl,by decide +kernel,by decide +kernel⟩)
theorem Ml:ZY "is_name" Tw ["thing"]:=(λ_ _ _ _ _ _ us hl=>by obtain⟨_,rfl⟩:=L2.Wj hl;rfl)
theorem Qk:Zv ["thing","least","most"] ["thing","least","most"] (Zf WE):=(⟨rfl,rfl,rfl,by decide +kernel,rfl,by decide +kernel,by decide +kernel⟩)
theorem VM:ZY "is_tuple_of" WE ["thing","least","most"]:=(λ_ _ _ _ _ _ us hl=>by obtain⟨_,_,_,rfl⟩:=L2.Nx hl;rfl)
theorem VE:Zv ["thing","numbers","many"] ["thing","numbers"] (Zf XZ):=(⟨rfl,rfl,rfl,by decide +kernel,rfl,by decide +kernel,by decide +kernel⟩)
theorem S5:ZY "is_named_row" XZ ["thing","numbers"]:=(λ_ _ _ _ _ _ us hl=>by obtain⟨_,_,rfl⟩:=L2.VW hl;rfl)
theorem XA:Zv ["rows","numbers","names","place","row"] ["rows","numbers"] (Zf XW):=(⟨rfl,rfl,rfl,by decide +kernel,rfl,by decide +kernel,by decide +kernel⟩)
theorem Rq:ZY "first_wrong" XW ["rows","numbers"]:=(λ_ _ _ _ _ _ us hl=>by obtain⟨_,_,rfl⟩:=L2.VW hl;rfl)
theorem UB:Zv ["part","rows","most","numbers","place"] ["part","rows","most","numbers"] (Zf WC):=(⟨rfl,rfl,rfl,by decide +kernel,rfl,by decide +kernel,by decide +kernel⟩)
theorem U7:ZY "check_part" WC ["part","rows","most","numbers"]:=(λ_ _ _ _ _ _ us hl=>by obtain⟨_,_,_,_,rfl⟩:=L2.Zam hl;rfl)
theorem WG:Zv ["_law_script","_law_spot","_law_cell","_law_great"] ["_law_script","_law_spot"] (Zf Uw):=(⟨rfl,rfl,rfl,by decide +kernel,rfl,by decide +kernel,by decide +kernel⟩)
theorem Mn:ZY "_law_urn" Uw ["_law_script","_law_spot"]:=(λ_ _ _ _ _ _ us hl=>by obtain⟨_,_,rfl⟩:=L2.VW hl;rfl)
theorem Xu:Zv ["_law_urn_here","_law_wide","_law_digit","_law_primes","_law_step","_law_base","_law_mixed"] ["_law_urn_here","_law_wide"] (Zf Vr):=(⟨rfl,rfl,rfl,by decide +kernel,rfl,by decide +kernel,by decide +kernel⟩)
theorem ZL:ZY "_law_draw" Vr ["_law_urn_here","_law_wide"]:=(λ_ _ _ _ _ _ us hl=>by obtain⟨_,_,rfl⟩:=L2.VW hl;rfl)
theorem Wq:Zv ["_law_e","_law_some","_law_names_here","_law_right"] ["_law_e"] (Zf Vt):=(⟨rfl,rfl,rfl,by decide +kernel,rfl,by decide +kernel,by decide +kernel⟩)
theorem Pw:ZY "_law_which" Vt ["_law_e"]:=(λ_ _ _ _ _ _ us hl=>by obtain⟨_,rfl⟩:=L2.Wj hl;rfl)
theorem Ql:Zv ["_law_urn_here","_law_some"] ["_law_urn_here"] (Zf Tz):=(⟨rfl,rfl,rfl,by decide +kernel,rfl,by decide +kernel,by decide +kernel⟩)
theorem Mm:ZY "_law_odd" Tz ["_law_urn_here"]:=(λ_ _ _ _ _ _ us hl=>by obtain⟨_,rfl⟩:=L2.Wj hl;rfl)
theorem Ug:Zv ["_law_urn_here","_law_letters","_law_size"] ["_law_urn_here"] (Zf Ue):=(⟨rfl,rfl,rfl,by decide +kernel,rfl,by decide +kernel,by decide +kernel⟩)
theorem OB:ZY "_law_name" Ue ["_law_urn_here"]:=(λ_ _ _ _ _ _ us hl=>by obtain⟨_,rfl⟩:=L2.Wj hl;rfl)
theorem YK:Zv ["_law_urn_here","_law_many","_law_found","_law_spare","_law_k","_law_name_here","_law_others"] ["_law_urn_here","_law_many"] (Zf Vs):=(⟨rfl,rfl,rfl,by decide +kernel,rfl,by decide +kernel,by decide +kernel⟩)
theorem UX:ZY "_law_names" Vs ["_law_urn_here","_law_many"]:=(λ_ _ _ _ _ _ us hl=>by obtain⟨_,_,rfl⟩:=L2.VW hl;rfl)
theorem Yi:Zv ["_law_urn_here","_law_most","_law_several","_law_bidders","_law_name_here","_law_price","_law_step","_law_points"] ["_law_urn_here","_law_most"] (Zf YZ):=(⟨rfl,rfl,rfl,by decide +kernel,rfl,by decide +kernel,by decide +kernel⟩)
theorem Wt:ZY "_law_house_parts" YZ ["_law_urn_here","_law_most"]:=(λ_ _ _ _ _ _ us hl=>by obtain⟨_,_,rfl⟩:=L2.VW hl;rfl)
theorem WV:Zv ["_law_house","_law_name_here","_law_e"] ["_law_house","_law_name_here"] (Zf YN):=(⟨rfl,rfl,rfl,by decide +kernel,rfl,by decide +kernel,by decide +kernel⟩)
theorem WL:ZY "_law_place_told" YN ["_law_house","_law_name_here"]:=(λ_ _ _ _ _ _ us hl=>by obtain⟨_,_,rfl⟩:=L2.VW hl;rfl)
theorem Wg:Zv ["_law_house","_law_several","_law_bidders","_law_columns","_law_text"] ["_law_house","_law_several","_law_bidders"] (Zf X_):=(⟨rfl,rfl,rfl,by decide +kernel,rfl,by decide +kernel,by decide +kernel⟩)
theorem S6:ZY "_law_is_right" X_ ["_law_house","_law_several","_law_bidders"]:=(λ_ _ _ _ _ _ us hl=>by obtain⟨_,_,_,rfl⟩:=L2.Nx hl;rfl)
theorem Vf:Zv ["_law_script","_law_spot","_law_urn_here","_law_some","_law_houses","_law_again","_law_first","_law_odd_here","_law_k","_law_same"] ["_law_script"] (Zf Jw):=(⟨rfl,rfl,rfl,by decide +kernel,rfl,by decide +kernel,by decide +kernel⟩)
section
variable {P:Program}{w:World}{K:Frag}{mg:Str->Option Value}{base:Heap}
theorem Cm{i j:Int}(hi0:0≤i)(hi:i<2 ^ 200)(hj0:0≤j)(hj:j<2 ^ 200):IntMulOk i j:=HQ (n:=200) (by decide) (Sl hi0 hi) (Sl hj0 hj)
theorem CW(T:Txt K mg):Dn P w K mg base 1 "_law_urn" Uw ["_law_script","_law_spot"] (Cu K):=by
 refine Dn.of T.f_law_urn WG (λvs H Q E h=>?_) (λf cdv A outer s H vs Q E hr h=>?_)
 ·obtain⟨a,ns,k,rfl,_⟩:=h;rfl
 obtain⟨a,ns,k,rfl,hS,h0,h1,q⟩:=h
 refine⟨_,IPSs.get (Ze (ZN (i:=2) WG.nd rfl (yT rfl) Zd)
  (Ze (Yo (ZP Co (Zj 1) (Zi Yg rfl T.z_len sW (Za (Zj 0) Zc)) (Yq _)) (Zm (ZN (i:=2) WG.nd rfl (yT rfl) (Zq ZJ (Zj 0) (Zj 1) (λ_ _=>rfl)))) Z1)
  (Ze (ZN (i:=3) WG.nd rfl (yT rfl) (Zi JG rfl T.z_abs boot_abs (Za (Zj 2) Zc)))
  (Ze (Yo (ZP Co (Zj 3) (ZA Kc Zd Zd) (Yq _)) (Zm (ZN (i:=3) WG.nd rfl (yT rfl) Zd)) Z1)
  (Zm (Zw (ZV (Za (Zj 3) (Za (ZA Xn (ZA Xn (ZA Xn (ZA UO (Zj 2) Zd) (ZA WS (ZA WS Zd (Zj 1)) (Zj 1))) (ZA WS Zd (Zj 1))) Zd) (Za Zd Zc)))))))))),?_⟩
 have fin:∀(g c:Int) (p:Addr),0≤g->H p=none->Q (.ref p) (upd H p (.lst [.int g,.int (c % 1000000000000000003+97*k*k+31*k+1),.int 0])):=λg c p hg hp=>by
  refine q p _ (YF hp _) hp ⟨_,_,_,Z9,hg,?_,?_,by decide,by decide⟩
  ·have e1:=xU c (show(1000000000000000003:Int)≠0 by decide)
   have e2:0≤97*k*k:=sX (by omega) h0
   omega
  ·have e1:=xV c (show(0:Int)<1000000000000000003 by decide)
   have e2:97*k*k≤97*100*100:=sY (by omega) h1 h0 (by decide)
   omega
 have k2:97*k<2 ^ 200:=by omega
 have m1:IntMulOk 97 k:=Cm (by decide) (by decide) h0 (by omega)
 have m2:IntMulOk (97*k) k:=Cm (by omega) k2 h0 (by omega)
 have m3:IntMulOk 31 k:=Cm (by decide) (by decide) h0 (by omega)
 refine⟨_,rfl,_,rfl,a,_,rfl,.inl hS,_,_,rfl,rfl,_,rfl,?_⟩
 refine Nt (λc=>?_) (λc=>?_)
 ·have c':k<(((ns.map V.int).length:Nat):Int):=sZ c
  rw[Wb]at c'
  have hk:k.toNat<ns.length:=by omega
  have hv:atI (ns.map V.int) k=some (.int ns[k.toNat]):=by
   have z:=ZX (xs:=ns.map V.int) (j:=k.toNat) (v:=.int ns[k.toNat]) (by rw[yF,M4 hk];rfl)
   rwa [show((k.toNat:Nat):Int)=k by omega]at z
  refine⟨_,rfl,_,rfl,a,_,_,_,rfl,rfl,hS,hv,?_⟩
  refine⟨_,rfl,_,rfl,?_⟩
  refine⟨_,rfl,_,_,rfl,rfl,⟨by decide,by decide +kernel⟩,_,_,rfl,rfl,_,rfl,?_⟩
  refine Nt (λc2=>?_) (λc2=>?_)
  ·refine⟨_,rfl,_,rfl,_,_,rfl,rfl,(by show(0:Int)<1000000000000000003;decide),_,rfl,_,_,rfl,rfl,m1,_,rfl,_,_,rfl,rfl,m2,_,_,rfl,rfl,_,rfl,_,_,rfl,rfl,m3,_,_,rfl,rfl,_,_,rfl,rfl,(L2.sz3),λp hp=>?_⟩
   exact fin 0 _ p (by decide) hp
  ·refine⟨_,rfl,_,rfl,_,_,rfl,rfl,(by show(0:Int)<1000000000000000003;decide),_,rfl,_,_,rfl,rfl,m1,_,rfl,_,_,rfl,rfl,m2,_,_,rfl,rfl,_,rfl,_,_,rfl,rfl,m3,_,_,rfl,rfl,_,_,rfl,rfl,(L2.sz3),λp hp=>?_⟩
   exact fin _ _ p (by split<;>omega) hp
 ·refine⟨_,rfl,_,rfl,?_⟩
  refine⟨_,rfl,_,_,rfl,rfl,⟨by decide,by decide +kernel⟩,_,_,rfl,rfl,_,rfl,?_⟩
  refine Nt (λc2=>?_) (λc2=>?_)
  ·refine⟨_,rfl,_,rfl,_,_,rfl,rfl,(by show(0:Int)<1000000000000000003;decide),_,rfl,_,_,rfl,rfl,m1,_,rfl,_,_,rfl,rfl,m2,_,_,rfl,rfl,_,rfl,_,_,rfl,rfl,m3,_,_,rfl,rfl,_,_,rfl,rfl,(L2.sz3),λp hp=>?_⟩
   exact fin 0 _ p (by decide) hp
  ·refine⟨_,rfl,_,rfl,_,_,rfl,rfl,(by show(0:Int)<1000000000000000003;decide),_,rfl,_,_,rfl,rfl,m1,_,rfl,_,_,rfl,rfl,m2,_,_,rfl,rfl,_,rfl,_,_,rfl,rfl,m3,_,_,rfl,rfl,_,_,rfl,rfl,(L2.sz3),λp hp=>?_⟩
   exact fin _ _ p (by split<;>omega) hp
theorem FZ(T:Txt K mg):Dn P w K mg base 1 "_law_draw" Vr ["_law_urn_here","_law_wide"] Fe:=by
 refine Dn.of T.f_law_draw Xu (λvs H Q E h=>?_) (λf cdv A outer s H vs Q E hr h=>?_)
 ·obtain⟨u,wd,m,rfl,_⟩:=h;rfl
 obtain⟨u,wd,m,rfl,hU,hm,w0,w1,q⟩:=h
 obtain⟨g,c,n,hu,g0,c0,c1,n0,n1⟩:=hU
 refine⟨_,IPSs.get (Ze (Yo (ZP Zao (Zq ZJ (Zj 0) Zd (λ_ _=>rfl)) Zd (Yq _)) (Ze (ZN (i:=2) Xu.nd rfl (yT rfl) (ZA UO (Zq ZJ (Zj 0) Zd (λ_ _=>rfl)) (Zj 1)))
  (Ze (Te (ZA Qb (Zq ZJ (Zj 0) Zd (λ_ _=>rfl)) (Zj 1)) (Nk (Zj 0) Zd NO))
  (Zm (Zw (Zj 2))))) Z1)
  (Ze (ZN (i:=3) Xu.nd rfl (yT rfl) (ZC (Za Zd (Za Zd (Za Zd (Za Zd (Za Zd (Za Zd (Za Zd Zc)))))))))
  (Ze (Te (ZA Xn (Zq ZJ (Zj 0) Zd (λ_ _=>rfl)) Zd) (Nk (Zj 0) Zd NO))
  (Ze (ZN (i:=4) Xu.nd rfl (yT rfl) (Zq ZJ (Zj 0) Zd (λ_ _=>rfl)))
  (Ze (ZN (i:=5) Xu.nd rfl (yT rfl) (ZA Xn (ZA Xn (ZA WS (Zq ZJ (Zj 0) Zd (λ_ _=>rfl)) (ZA Xn (ZA WS Zd (Zj 4)) Zd)) (ZA WS (ZA WS Zd (Zj 4)) (Zj 4))) Zd))
  (Ze (ZN (i:=6) Xu.nd rfl (yT rfl) (ZA UO (ZA Kc (Zj 5) Zd) (Zq Xa (Zj 3) (ZA UO (Zj 4) Zd) (λ_ _=>rfl))))
  (Zm (Zw (ZA UO (ZA Qb (ZA UO (ZA WS (Zj 6) (ZA Xn (ZA Qb (Zj 6) Zd) (Zj 4))) (Zq Xa (Zj 3) (ZA UO (ZA Xn (Zj 4) Zd) Zd) (λ_ _=>rfl))) Zd) (Zj 1)))))))))),?_⟩
 refine⟨_,rfl,u,_,_,_,rfl,rfl,Xp.of hu,rfl,_,_,rfl,rfl,_,rfl,?_⟩
 refine Nt (λcg=>?_) (λcg=>?_)
 ·refine⟨_,rfl,u,_,_,_,rfl,rfl,Xp.of hu,rfl,_,rfl,_,_,rfl,rfl,w0,?_⟩
  refine⟨_,rfl,u,_,_,_,rfl,rfl,Xp.of hu,rfl,_,rfl,_,_,rfl,rfl,⟨w0,Int.lt_trans w1 (by decide)⟩,_,rfl,u,_,_,_,rfl,rfl,hu,rfl,?_⟩
  refine⟨_,rfl,?_⟩
  exact q _ _ (xU _ (by omega)) (xV _ w0) (SB.upd u H _) ⟨_,_,_,Z9,Int.ediv_nonneg g0 (by omega),c0,c1,n0,by omega⟩
 ·refine⟨(by show 7≤sizeLine;decide),λp hp=>?_⟩
  have pu:u≠p:=λz=>by rw[z,hp]at hu;cases hu
  have hu1:upd H p (.tup [V.int 2147483647,V.int 2147483629,V.int 2147483587,V.int 2147483579,V.int 2147483563,V.int 2147483549,V.int 2147483543]) u=some (.lst [.int g,.int c,.int n]):=by rw[Zk pu];exact hu
  refine⟨_,rfl,u,_,_,_,rfl,rfl,Xp.of hu1,rfl,_,_,rfl,rfl,_,rfl,u,_,_,_,rfl,rfl,hu1,rfl,?_⟩
  obtain⟨q1,e1,p1,p2⟩:=Gx (n+1)
  obtain⟨q2,e2,p3,p4⟩:=Gx (n+1+3)
  generalize hH2:upd (upd H p (.tup [V.int 2147483647,V.int 2147483629,V.int 2147483587,V.int 2147483579,V.int 2147483563,V.int 2147483549,V.int 2147483543])) u (.lst ([V.int g,V.int c,V.int n].set (Int.toNat 2) ((λi j=>V.int (i+j)) n 1)))=H2
  have hu2:H2 u=some (.lst [.int g,.int c,.int (n+1)]):=by rw[<- hH2];exact Z9
  have hp2:H2 p=some (.tup [V.int 2147483647,V.int 2147483629,V.int 2147483587,V.int 2147483579,V.int 2147483563,V.int 2147483549,V.int 2147483543]):=by rw[<- hH2,Zk (wC pu)];exact Z9
  have hSB:SB u H H2:=λb o nb e=>by rw[<- hH2,Zk nb,Zk (Xl e hp)];exact e
  have n9:n+1≤1000001:=by omega
  have b1:2*(n+1)+1≤2000003:=by omega
  have b2:c*(2*(n+1)+1)≤4000000000000000000*2000003:=sY c1 b1 (by omega) (by decide)
  have b2':0≤c*(2*(n+1)+1):=sX c0 (by omega)
  have b3:6007*(n+1)*(n+1)≤6007*1000001*1000001:=sY (by omega) n9 (by omega) (by decide)
  have b3':0≤6007*(n+1)*(n+1):=sX (by omega) (by omega)
  refine⟨_,rfl,u,_,_,_,rfl,rfl,Xp.of hu2,rfl,?_⟩
  refine⟨_,rfl,u,_,_,_,rfl,rfl,Xp.of hu2,rfl,_,rfl,_,_,rfl,rfl,Cm (by decide) (by decide) (by omega) (by omega),_,_,rfl,rfl,_,_,rfl,rfl,Cm c0 (by omega) (by omega) (by omega),_,rfl,_,_,rfl,rfl,Cm (by decide) (by decide) (by omega) (by omega),_,rfl,_,_,rfl,rfl,Cm (by omega) (by omega) (by omega) (by omega),_,_,rfl,rfl,_,_,rfl,rfl,?_⟩
  have bs0:0≤c*(2*(n+1)+1)+6007*(n+1)*(n+1)+53:=by omega
  have bs1:c*(2*(n+1)+1)+6007*(n+1)*(n+1)+53<2 ^ 200:=by omega
  have pw:Dz (c*(2*(n+1)+1)+6007*(n+1)*(n+1)+53) 3:=by
   refine⟨by decide,?_⟩
   have:=L2.UI (Sl bs0 bs1)
   omega
  refine⟨_,rfl,_,_,rfl,rfl,pw,_,rfl,_,rfl,_,_,rfl,rfl,(by show(0:Int)<7;decide),p,_,_,_,rfl,rfl,WH.of hp2,e1,_,_,rfl,rfl,p1,?_⟩
  obtain⟨mx,hmx⟩:∃mx,mx=(c*(2*(n+1)+1)+6007*(n+1)*(n+1)+53) ^ (3:Int).toNat % q1:=⟨_,rfl⟩
  have mx0:0≤mx:=by rw[hmx];exact xU _ (by omega)
  have mx1:mx<q1:=by rw[hmx];exact xV _ p1
  have d1:mx / 8191≤mx:=Int.ediv_le_self _ mx0
  have d0:0≤mx / 8191:=Int.ediv_nonneg mx0 (by decide)
  refine⟨_,rfl,_,rfl,_,_,rfl,rfl,⟨by decide,by decide⟩,_,rfl,_,_,rfl,rfl,_,_,rfl,rfl,(show IntMulOk ((c*(2*(n+1)+1)+6007*(n+1)*(n+1)+53) ^ (3:Int).toNat % q1) ((c*(2*(n+1)+1)+6007*(n+1)*(n+1)+53) ^ (3:Int).toNat % q1 / 8191+(n+1)) by rw[<- hmx];exact Cm mx0 (by omega) (by omega) (by omega)),_,rfl,_,rfl,_,_,rfl,rfl,_,_,rfl,rfl,(by show(0:Int)<7;decide),p,_,_,_,rfl,rfl,WH.of hp2,e2,_,_,rfl,rfl,p3,_,_,rfl,rfl,⟨by decide,by decide⟩,_,rfl,_,_,rfl,rfl,w0,?_⟩
  exact q _ _ (xU _ (by omega)) (xV _ w0) hSB ⟨_,_,_,hu2,g0,c0,c1,by omega,by omega⟩
abbrev Mz:=ON
abbrev WO:=TU
theorem Y_:VJ WO:=N8
theorem My(T:Txt K mg):Dn P w K mg base 1 "_law_urn" Uw ["_law_script","_law_spot"] (Wc K Mz):=(CW T).imp λ_ _ _ _ h=>Dx h
theorem XT(T:Txt K mg):Dn P w K mg base 1 "_law_draw" Vr ["_law_urn_here","_law_wide"] (Wc K WO):=(FZ T).imp λ_ _ _ _ h=>IB h
end
abbrev Pj:Stmt:=LN
abbrev Oq:Stmt:=PR
theorem Di:Zv ["self","name"] ["self","name"] (Zf Pj):=⟨rfl,rfl,rfl,by decide +kernel,rfl,by decide +kernel,by decide +kernel⟩
theorem FT:∀(kV doc pm:Value) (an:Option Addr) (cdv ct:Value) (us:List Value),us.length=(["self","name"]:List Str).length->bindArgs (PySem.W.fnOf "__init__" "NoBidder.__init__" (Y7 Pj) (ZR Pj) (Zf Pj) .none kV doc pm an cdv ct) ⟨us,[]⟩=pure ((["self","name"]:List Str).zip us):=λ_ _ _ _ _ _ us hl=>by
 obtain⟨a,b,rfl⟩:=L2.VW hl
 rfl
theorem Fb:Zv ["self","kinds","bidders"] ["self","kinds","bidders"] (Zf Oq):=⟨rfl,rfl,rfl,by decide +kernel,rfl,by decide +kernel,by decide +kernel⟩
theorem O9:Yp "__init__" "House.__init__" Oq ["self","kinds","bidders"]:=λ_ _ _ _ _ _ us hl=>by
 obtain⟨a,b,c,rfl⟩:=L2.Nx hl
 rfl
abbrev XX:Stmt:=SG.getD 0 (.Pass ⟨0,0,0,0⟩)
theorem Qi:Zv ["self"] ["self"] (Zf XX):=⟨rfl,rfl,rfl,by decide +kernel,rfl,by decide +kernel,by decide +kernel⟩
theorem Rn:Yp "kinds" "House.kinds" XX ["self"]:=λ_ _ _ _ _ _ us hl=>by obtain⟨_,rfl⟩:=L2.Wj hl;rfl
abbrev Xh:Stmt:=SG.getD 1 (.Pass ⟨0,0,0,0⟩)
theorem So:Zv ["self"] ["self"] (Zf Xh):=⟨rfl,rfl,rfl,by decide +kernel,rfl,by decide +kernel,by decide +kernel⟩
theorem TB:Yp "bidders" "House.bidders" Xh ["self"]:=λ_ _ _ _ _ _ us hl=>by obtain⟨_,rfl⟩:=L2.Wj hl;rfl
abbrev Xg:Stmt:=SG.getD 2 (.Pass ⟨0,0,0,0⟩)
theorem Sn:Zv ["self"] ["self"] (Zf Xg):=⟨rfl,rfl,rfl,by decide +kernel,rfl,by decide +kernel,by decide +kernel⟩
theorem T9:Yp "amounts" "House.amounts" Xg ["self"]:=λ_ _ _ _ _ _ us hl=>by obtain⟨_,rfl⟩:=L2.Wj hl;rfl
abbrev X8:Stmt:=SG.getD 3 (.Pass ⟨0,0,0,0⟩)
theorem SV:Zv ["self"] ["self"] (Zf X8):=⟨rfl,rfl,rfl,by decide +kernel,rfl,by decide +kernel,by decide +kernel⟩
theorem S4:Yp "prices" "House.prices" X8 ["self"]:=λ_ _ _ _ _ _ us hl=>by obtain⟨_,rfl⟩:=L2.Wj hl;rfl
abbrev XY:Stmt:=SG.getD 4 (.Pass ⟨0,0,0,0⟩)
theorem Qj:Zv ["self"] ["self"] (Zf XY):=⟨rfl,rfl,rfl,by decide +kernel,rfl,by decide +kernel,by decide +kernel⟩
theorem Ro:Yp "steps" "House.steps" XY ["self"]:=λ_ _ _ _ _ _ us hl=>by obtain⟨_,rfl⟩:=L2.Wj hl;rfl
abbrev X7:Stmt:=SG.getD 5 (.Pass ⟨0,0,0,0⟩)
theorem SU:Zv ["self"] ["self"] (Zf X7):=⟨rfl,rfl,rfl,by decide +kernel,rfl,by decide +kernel,by decide +kernel⟩
theorem S3:Yp "points" "House.points" X7 ["self"]:=λ_ _ _ _ _ _ us hl=>by obtain⟨_,rfl⟩:=L2.Wj hl;rfl
abbrev Xi:Stmt:=SG.getD 6 (.Pass ⟨0,0,0,0⟩)
theorem X9:Zv ["self","name","place","row"] ["self","name"] (Zf Xi):=⟨rfl,rfl,rfl,by decide +kernel,rfl,by decide +kernel,by decide +kernel⟩
theorem UU:Yp "place_of" "House.place_of" Xi ["self","name"]:=λ_ _ _ _ _ _ us hl=>by obtain⟨_,_,rfl⟩:=L2.VW hl;rfl
abbrev Vo:Stmt:=SG.getD 7 (.Pass ⟨0,0,0,0⟩)
theorem NM:Zv ["self","other"] ["self","other"] (Zf Vo):=⟨rfl,rfl,rfl,by decide +kernel,rfl,by decide +kernel,by decide +kernel⟩
theorem XS:Yp "__eq__" "House.__eq__" Vo ["self","other"]:=λ_ _ _ _ _ _ us hl=>by obtain⟨_,_,rfl⟩:=L2.VW hl;rfl
abbrev Vp:Stmt:=SG.getD 8 (.Pass ⟨0,0,0,0⟩)
theorem Oj:Zv ["self"] ["self"] (Zf Vp):=⟨rfl,rfl,rfl,by decide +kernel,rfl,by decide +kernel,by decide +kernel⟩
theorem UT:Yp "__len__" "House.__len__" Vp ["self"]:=λ_ _ _ _ _ _ us hl=>by obtain⟨_,rfl⟩:=L2.Wj hl;rfl
abbrev Vq:Stmt:=SG.getD 9 (.Pass ⟨0,0,0,0⟩)
theorem Ol:Zv ["self"] ["self"] (Zf Vq):=⟨rfl,rfl,rfl,by decide +kernel,rfl,by decide +kernel,by decide +kernel⟩
theorem UW:Yp "__str__" "House.__str__" Vq ["self"]:=λ_ _ _ _ _ _ us hl=>by obtain⟨_,rfl⟩:=L2.Wj hl;rfl
abbrev WD:Stmt:=SG.getD 10 (.Pass ⟨0,0,0,0⟩)
theorem QC:Zv ["self"] ["self"] (Zf WD):=⟨rfl,rfl,rfl,by decide +kernel,rfl,by decide +kernel,by decide +kernel⟩
theorem Qw:Yp "__repr__" "House.__repr__" WD ["self"]:=λ_ _ _ _ _ _ us hl=>by obtain⟨_,rfl⟩:=L2.Wj hl;rfl
def SI:V->Option Bool
 | .ref a=>(Ek.zip FU).lookup (.ref a)
 | .ty t=>(Ek.zip FU).lookup (.type t)
 | _=>none
theorem X5{K:Frag}{c:Addr}:RE K (tC (.ref c)) (dC (.raw (.ref c))):=MT λ_=>rfl
structure Xt(K:Frag)(mg:Str->Option Value):Prop where
 ex:ExU K 56 "KeyError" "KeyError.__init__" "name" "NoBidder.__init__" Pj
 kt:Ek.map (PySem.W.kitOne K (.ref 56))=FU.map some
 hs:InU K 416 "House.__init__" Be Oq
 nf:C2 K 416 394
 ea:PySem.W.findIn K (.ref 416) "__eq__" = some (some (.ref 394))
 nb:PySem.W.findIn K (.ref 416) "__bool__" = some none
 nn:PySem.W.subIn K (.ref 416) (.type "NoneType")=some false
 me_House_kinds:∃f fd,Ws K "kinds" "House.kinds" XX f fd/\Vw K 416 "kinds" f
 me_House_bidders:∃f fd,Ws K "bidders" "House.bidders" Xh f fd/\Vw K 416 "bidders" f
 me_House_amounts:∃f fd,Ws K "amounts" "House.amounts" Xg f fd/\Vw K 416 "amounts" f
 me_House_prices:∃f fd,Ws K "prices" "House.prices" X8 f fd/\Vw K 416 "prices" f
 me_House_steps:∃f fd,Ws K "steps" "House.steps" XY f fd/\Vw K 416 "steps" f
 me_House_points:∃f fd,Ws K "points" "House.points" X7 f fd/\Vw K 416 "points" f
 me_House_place_of:∃f fd,Ws K "place_of" "House.place_of" Xi f fd/\Vw K 416 "place_of" f
 me_House_eq:∃f fd,Ws K "__eq__" "House.__eq__" Vo f fd/\Vw K 416 "__eq__" f
 me_House_len:∃f fd,Ws K "__len__" "House.__len__" Vp f fd/\Vw K 416 "__len__" f
 me_House_str:∃f fd,Ws K "__str__" "House.__str__" Vq f fd/\Vw K 416 "__str__" f
 me_House_repr:∃f fd,Ws K "__repr__" "House.__repr__" WD f fd/\Vw K 416 "__repr__" f
 n_House:mg "House" = some (.ref 416)
 c_LETTERS:∃u,mg "LETTERS" = some u/\ZI (.str YX) u
 c_KIND:∃a,mg "KIND_NUMBERS" = some (.ref a)/\∀G,DW K G (.tuple (knL.map GQ)) (.ref a)
 c_BIDDER:∃a,mg "BIDDER_NUMBERS" = some (.ref a)/\∀G,DW K G (.tuple (bnL.map GQ)) (.ref a)
 n_NoHouse:mg "NoHouse" = some (.ref 36)
 n_NoBidder:mg "NoBidder" = some (.ref 56)
 n_NoBundle:mg "NoBundle" = some (.ref 76)
 n_NoPhase:mg "NoPhase" = some (.ref 96)
 n_NoPoints:mg "NoPoints" = some (.ref 116)
 n_NoWorths:mg "NoWorths" = some (.ref 136)
 n_NotAll:mg "NotAll" = some (.ref 156)
 n_NoLast:mg "NoLast" = some (.ref 176)
 n_NoMoney:mg "NoMoney" = some (.ref 196)
 n_TooMany:mg "TooMany" = some (.ref 217)
 n_NoChoice:mg "NoChoice" = some (.ref 237)
 n_NoRow:mg "NoRow" = some (.ref 257)
 n_NoLine:mg "NoLine" = some (.ref 277)
theorem Xt.hn{K:Frag}{mg:Str->Option Value}(X:Xt K mg):∀f,PySem.W.findIn K (.ref 416) "__eq__" = some (some (.ref f))->C2 K 416 f:=λf h=>by
 rw[X.ea]at h;cases h;exact X.nf
theorem Qu{K:Frag}:∀{ks:List Value}{bs:List Bool}{v:Value}{b:Bool},ks.map (PySem.W.kitOne K (.ref 56))=bs.map some->(ks.zip bs).lookup v=some b->PySem.W.kitOne K (.ref 56) v=some b
 | [],_,_,_,_,h=>by cases h
 | _::_,[],_,_,_,h=>by cases h
 | k::ks,c::bs,v,b,e,h=>by
  rw[uO,uO,sE]at e
  rw[zip_cons_cons,yY]at h
  split at h
  ·next z=>rw[uL.mp z,e.1,<- h]
  ·exact Qu e.2 h
theorem Xt.kits{K:Frag}{mg:Str->Option Value}(X:Xt K mg):∀c b,SI c=some b->∃cv,(∀u,ZI c u->u=cv)/\PySem.W.kitOne K (.ref 56) cv=some b:=by
 intro c b h
 cases c with
 | ref a=>exact⟨.ref a,λu z=>z,Qu X.kt h⟩
 | ty t=>exact⟨.type t,λu z=>z,Qu X.kt h⟩
 | _=>cases h
section
variable {P:Program}{w:World}{K:Frag}{mg:Str->Option Value}{base:Heap}
def J5:Nat->PyData->Bool
 | 0,_=>false
 | n+1,.list ds=>decide (ds.length≤1000)&&ds.all (J5 n)
 | n+1,.tuple ds=>decide (ds.length≤1000)&&ds.all (J5 n)
 | _+1,.dict _=>false
 | _+1,_=>true
def Vk:Nat->Xb
 | 0=>λ_ _ _=>False
 | n+1=>VD λvs r=>∃d,vs=[.d d]/\J5 (n+1) d=true/\r=d
theorem RY:∀{n:Nat},VJ (Vk n)
 | 0=>λ_ _ _ _ _ z=>False.elim z
 | _+1=>V_
theorem ME:∀{n:Nat},∀vs w k,Vk n vs w k->vs.length=1
 | 0=>λ_ _ _ z=>False.elim z
 | n+1=>X4 (by rintro vs r ⟨_,rfl,_⟩;rfl)
theorem TM{n:Nat}{d:PyData}{w:OW}{k:Val->OW->Prop}(h:J5 n d=true)(q:k (.d d) w):Vk n [.d d] w k:=by
 cases n with
 | zero=>cases h
 | succ n=>exact⟨d,⟨d,rfl,h,rfl⟩,q⟩
theorem QQ(T:Txt K mg):∀n,Dn P w K mg base (3+n) "copied" Tv ["thing"] (Wc K (Vk n))
| 0=>Dn.never T.f_copied Pk λvs w k h=>False.elim h
| n+1=>by
 have D_copied:=QQ T n
 refine Dn.data (k:=3+n) T.f_copied Pk ME (λa cdv A outer s H E hr=>⟨_,_,IPSs.get (Ze (Yo (YC (Zi Vi rfl T.z_isinstance rC (Za (Zj 0) (Za (Z_ (v:=.ty "list") rfl T.z_list (by decide +kernel) rfl) Zc)))) (Zm (Zw (by refine' Yk (Nc:=["part"]) (cap:=[none]) rfl ?i ?k ?g ?t ?e;(case k=>kernel_rfl);(case i=>exact(Nn (Zj 0)));(case g=>exact(λ_ _ _ _ _=>(Yb 0 (by show List.Nodup (["part"]:List Str);decide +kernel))));(case t=>exact(λ_ _ _ _ _=>Ye));(case e=>exact(λ_ _ _ _ _=>(Z2 D_copied TC (hr.mono (by omega)) (Za (YD 0) Zc) (hg:=XQ))))))) Z1)
  (Ze (Yo (YC (Zi Vi rfl T.z_isinstance rC (Za (Zj 0) (Za (Z_ (v:=.ty "tuple") rfl T.z_tuple (by decide +kernel) rfl) Zc)))) (Zm (Zw (Ym Yx rfl T.z_tuple (by decide +kernel) (Za (by refine' Yk (Nc:=["part"]) (cap:=[none]) rfl ?i ?k ?g ?t ?e;(case k=>kernel_rfl);(case i=>exact(Nn (Zj 0)));(case g=>exact(λ_ _ _ _ _=>(Yb 0 (by show List.Nodup (["part"]:List Str);decide +kernel))));(case t=>exact(λ_ _ _ _ _=>Ye));(case e=>exact(λ_ _ _ _ _=>(Z2 D_copied TC (hr.mono (by omega)) (Za (YD 0) Zc) (hg:=XQ))))) Zc)))) Z1)
  (Zm (Zw (Zj 0))))),(ZD (WB (NL (ZK Qf (Zb (Zg 0) (Zb XU Zh)))) (YQ (YI false (GJ (Zg 0)) (Z8 0) Xo (YJ (Y9 RY (Zb (Zg 0) Zh))))) Yd)
  (ZD (WB (NL (ZK Qf (Zb (Zg 0) (Zb XU Zh)))) (YQ (ZK W9 (Zb (YI false (GJ (Zg 0)) (Z8 0) Xo (YJ (Y9 RY (Zb (Zg 0) Zh)))) Zh))) Yd)
  (by nofun))),λas o q h=>?_⟩)
 have h:VD (λvs r=>∃d,vs=[.d d]/\J5 (n+1) d=true/\r=d) as o q:=h
 obtain⟨r,⟨d,rfl,hd,e⟩,hq⟩:=h
 rw[e]at hq
 clear e
 cases d with
 | list ds=>
  simp only[J5,yN,xX,xC]at hd
  simp! only[UQ]
  refine⟨true,λ_=>rfl,?_⟩
  simp!
  refine Y8 ds id id [] (by simp) trivial (Ys (by simp;omega)) (λx hx Q hQ=>?_) ?_
  ·simp!
   exact TM (hd.2 x hx) hQ
  ·simp! only[map_id,sM]
   exact⟨_,OW.le.refl _,hq⟩
 | tuple ds=>
  simp only[J5,yN,xX,xC]at hd
  simp! only[UQ]
  refine⟨false,λ_=>rfl,?_⟩
  simp!
  refine⟨true,λ_=>rfl,?_⟩
  simp!
  refine Y8 ds id id [] (by simp) trivial (Ys (by simp;omega)) (λx hx Q hQ=>?_) ?_
  ·simp!
   exact TM (hd.2 x hx) hQ
  ·simp! only[map_id,sM]
   exact⟨_,OW.le.refl _,hq⟩
 | dict kvs=>cases hd
 | _=>simp! only[UQ];exact⟨false,λ_=>rfl,⟨false,λ_=>rfl,_,OW.le.refl _,hq⟩⟩
theorem Bo{C fI:Addr}{fd:FuncData}{initId:String}(T:Txt K mg)(hz:mg "KeyError" = none)(hh:PySem.W.handedIn (.builtin initId)=true)(c:EC K C "KeyError" initId "name" fI)(F:Ws K "__init__" "NoBidder.__init__" Pj fI fd):Xc P w K mg base UC 14 fI fd ["self","name"] (Rf K C "name" (Vk 10)):=by
 have D_copied:=QQ (P:=P) (w:=w) (base:=base) T 10
 refine F.ok (k:=13) Di (λvs H Q E h=>?_) (λcdv A outer s H vs Q E hr h=>?_)
 ·obtain⟨e,v,G,o,x,rfl,_⟩:=h;rfl
 ·obtain⟨e,v,G,o,x,rfl,he,hs,hge,hwe,hO,hx,hf,q⟩:=h
  refine⟨_,Qe (Kf (NC c rfl hz rfl (P_ (Qd (i:=0) rfl (.inl rfl)) (P_ Gr Gf)) hh)) (Qe (BW c (Qd (i:=0) rfl (.inl rfl)) (Z2 D_copied TC hr (Za (Zj 1) Zc)).get) Kg),?_⟩
  refine⟨_,rfl,e,_,rfl,he,?_⟩
  refine⟨v,rfl,G,o.put e (L2.FA C),[.d x],hs,BB he hge hO,.cons hx .nil,hf _ λG' H' u e1 u2 o2 vu=>?_⟩
  have he':=E4 hwe o2
  exact⟨_,rfl,e,rfl,he'.1,λd hd hde=>q G' H' u d e1 u2 he'.2 vu he'.1 (o2 e _ OW.put_same).1 hde hd⟩
end
section
variable {P:Program}{w:World}{K:Frag}{mg:Str->Option Value}{base:Heap}
def V4:Xb:=VD λvs r=>∃e d x,vs=[.exc e 56 d x]/\r=.str "NoBidder"
theorem Q9:VJ V4:=V_
theorem Q7:∀vs w k,V4 vs w k->vs.length=1:=X4 (by rintro vs r ⟨_,_,_,rfl,_⟩;rfl)
def whL:List (Str×Bool×Bool):=[("NoHouse",false,false),("NoBidder",true,true),("NoBundle",false,false),("NoPhase",false,false),("NoPoints",false,false),("NoWorths",false,false),("NotAll",false,true),("NoLast",false,true),("NoMoney",false,false),("TooMany",false,false),("NoChoice",false,false),("NoRow",false,false),("NoLine",false,false)]
def ID(p:Str×Bool×Bool):PyData:=.tuple [.str p.1,.bool p.2.1,.bool p.2.2]
def isD(c:V):ZE:=dCB (Ec 56 SI) (VO (Mv 0) (VO (dC (.raw c)) KD))
def AH:List (Str×V×V)->XO
 | []=>KD
 | p::r=>VO (Iu (VO (dC (.d (.str p.1))) (VO (isD p.2.1) (VO (isD p.2.2) KD)))) (AH r)
def whR(p:Str×V×V):PyData:=.tuple [.str p.1,.bool ((SI p.2.1).getD false),.bool ((SI p.2.2).getD false)]
theorem Cw{e d:Addr}{x:List (Str×PyData)}{s:DS}(hs:s.e[0]? = some (some (.exc e 56 d x))):∀(L:List (Str×V×V)) (k:List Val->DS->Prop),(∀p∈L,(SI p.2.1).isSome=true/\(SI p.2.2).isSome=true)->k (L.map λp=>.d (whR p)) s->AH L s k
 | [],k,_,h=>h
 | p::r,k,hL,h=>by
  obtain⟨h1,h2⟩:=hL p (vM ..)
  have one:∀(c:V) (k:Val->DS->Prop),(SI c).isSome=true->k (.d (.bool ((SI c).getD false))) s->isD c s k:=λc k hc hk=>by
   obtain⟨b,hb⟩:=yB.mp hc
   rw[hb]at hk
   unfold isD dCB VO Mv
   rw[hs]
   exact⟨rfl,b,hb,hk⟩
  unfold AH VO Iu
  refine one p.2.1 _ h1 (one p.2.2 _ h2 ⟨L2.sz3,?_⟩)
  exact Cw hs r _ (λq hq=>hL q (vN _ hq)) h
theorem Zbm{α:Type}(f:α->PyData):∀l:List α,NX (l.map λp=>.d (f p))=some (l.map f)
 | []=>rfl
 | p::l=>by rw[uO,NX,Zbm f l];rfl
def Cv:List (Str×V×V):=[("NoHouse",.ref 36,.ty "TypeError"),("NoBidder",.ref 56,.ty "KeyError"),("NoBundle",.ref 76,.ty "ValueError"),("NoPhase",.ref 96,.ty "RuntimeError"),("NoPoints",.ref 116,.ty "ArithmeticError"),("NoWorths",.ref 136,.ty "ValueError"),("NotAll",.ref 156,.ty "LookupError"),("NoLast",.ref 176,.ty "LookupError"),("NoMoney",.ref 196,.ty "ValueError"),("TooMany",.ref 217,.ty "OverflowError"),("NoChoice",.ref 237,.ty "ValueError"),("NoRow",.ref 257,.ty "RuntimeError"),("NoLine",.ref 277,.ty "IndexError")]
theorem AJ:Cv.map whR=whL.map ID:=by kernel_rfl
theorem AI:∀p∈Cv,(SI p.2.1).isSome=true/\(SI p.2.2).isSome=true:=by
 have:Cv.all (λp=>(SI p.2.1).isSome&&(SI p.2.2).isSome)=true:=by kernel_rfl
 exact λp hp=>sG.mp (xC.mp this p hp)
theorem wh1:([]:List PyData)++(whL.filter λp=>p.2.1).map (λp=>.str p.1)=[.str "NoBidder"]:=rfl
theorem wh2:([]:List PyData)++(whL.filter λp=>p.2.1&&p.2.2).map (λp=>.str p.1)=[.str "NoBidder"]:=rfl
theorem P7(T:Txt K mg)(X:Xt K mg):FH P w K mg base 1 "_law_which" Vt ["_law_e"] (Wc K V4):=by
 refine FH.data (k:=0) T.f_law_which Wq Q7 (λa cdv A outer s H hr=>⟨_,_,IPSs.get (Ze (ZN (i:=1) Wq.nd rfl (yT rfl) (ZV (Zt (ZC (Za Zs (Za (Zi (ZU X.ex.cls) rfl T.z_isinstance rC (Za (Zj 0) (Za (ZM (v:=.ref 36) rfl ⟨_,X.n_NoHouse,rfl⟩) Zc))) (Za (Zi (ZU X.ex.cls) rfl T.z_isinstance rC (Za (Zj 0) (Za (Z_ (v:=.ty "TypeError") rfl T.z_TypeError (by decide +kernel) rfl) Zc))) Zc)))) (Zt (ZC (Za Zs (Za (Zi (ZU X.ex.cls) rfl T.z_isinstance rC (Za (Zj 0) (Za (ZM (v:=.ref 56) rfl ⟨_,X.n_NoBidder,rfl⟩) Zc))) (Za (Zi (ZU X.ex.cls) rfl T.z_isinstance rC (Za (Zj 0) (Za (Z_ (v:=.ty "KeyError") rfl T.z_KeyError (by decide +kernel) rfl) Zc))) Zc)))) (Zt (ZC (Za Zs (Za (Zi (ZU X.ex.cls) rfl T.z_isinstance rC (Za (Zj 0) (Za (ZM (v:=.ref 76) rfl ⟨_,X.n_NoBundle,rfl⟩) Zc))) (Za (Zi (ZU X.ex.cls) rfl T.z_isinstance rC (Za (Zj 0) (Za (Z_ (v:=.ty "ValueError") rfl T.z_ValueError (by decide +kernel) rfl) Zc))) Zc)))) (Zt (ZC (Za Zs (Za (Zi (ZU X.ex.cls) rfl T.z_isinstance rC (Za (Zj 0) (Za (ZM (v:=.ref 96) rfl ⟨_,X.n_NoPhase,rfl⟩) Zc))) (Za (Zi (ZU X.ex.cls) rfl T.z_isinstance rC (Za (Zj 0) (Za (Z_ (v:=.ty "RuntimeError") rfl T.z_RuntimeError (by decide +kernel) rfl) Zc))) Zc)))) (Zt (ZC (Za Zs (Za (Zi (ZU X.ex.cls) rfl T.z_isinstance rC (Za (Zj 0) (Za (ZM (v:=.ref 116) rfl ⟨_,X.n_NoPoints,rfl⟩) Zc))) (Za (Zi (ZU X.ex.cls) rfl T.z_isinstance rC (Za (Zj 0) (Za (Z_ (v:=.ty "ArithmeticError") rfl T.z_ArithmeticError (by decide +kernel) rfl) Zc))) Zc)))) (Zt (ZC (Za Zs (Za (Zi (ZU X.ex.cls) rfl T.z_isinstance rC (Za (Zj 0) (Za (ZM (v:=.ref 136) rfl ⟨_,X.n_NoWorths,rfl⟩) Zc))) (Za (Zi (ZU X.ex.cls) rfl T.z_isinstance rC (Za (Zj 0) (Za (Z_ (v:=.ty "ValueError") rfl T.z_ValueError (by decide +kernel) rfl) Zc))) Zc)))) (Zt (ZC (Za Zs (Za (Zi (ZU X.ex.cls) rfl T.z_isinstance rC (Za (Zj 0) (Za (ZM (v:=.ref 156) rfl ⟨_,X.n_NotAll,rfl⟩) Zc))) (Za (Zi (ZU X.ex.cls) rfl T.z_isinstance rC (Za (Zj 0) (Za (Z_ (v:=.ty "LookupError") rfl T.z_LookupError (by decide +kernel) rfl) Zc))) Zc)))) (Zt (ZC (Za Zs (Za (Zi (ZU X.ex.cls) rfl T.z_isinstance rC (Za (Zj 0) (Za (ZM (v:=.ref 176) rfl ⟨_,X.n_NoLast,rfl⟩) Zc))) (Za (Zi (ZU X.ex.cls) rfl T.z_isinstance rC (Za (Zj 0) (Za (Z_ (v:=.ty "LookupError") rfl T.z_LookupError (by decide +kernel) rfl) Zc))) Zc)))) (Zt (ZC (Za Zs (Za (Zi (ZU X.ex.cls) rfl T.z_isinstance rC (Za (Zj 0) (Za (ZM (v:=.ref 196) rfl ⟨_,X.n_NoMoney,rfl⟩) Zc))) (Za (Zi (ZU X.ex.cls) rfl T.z_isinstance rC (Za (Zj 0) (Za (Z_ (v:=.ty "ValueError") rfl T.z_ValueError (by decide +kernel) rfl) Zc))) Zc)))) (Zt (ZC (Za Zs (Za (Zi (ZU X.ex.cls) rfl T.z_isinstance rC (Za (Zj 0) (Za (ZM (v:=.ref 217) rfl ⟨_,X.n_TooMany,rfl⟩) Zc))) (Za (Zi (ZU X.ex.cls) rfl T.z_isinstance rC (Za (Zj 0) (Za (Z_ (v:=.ty "OverflowError") rfl T.z_OverflowError (by decide +kernel) rfl) Zc))) Zc)))) (Zt (ZC (Za Zs (Za (Zi (ZU X.ex.cls) rfl T.z_isinstance rC (Za (Zj 0) (Za (ZM (v:=.ref 237) rfl ⟨_,X.n_NoChoice,rfl⟩) Zc))) (Za (Zi (ZU X.ex.cls) rfl T.z_isinstance rC (Za (Zj 0) (Za (Z_ (v:=.ty "ValueError") rfl T.z_ValueError (by decide +kernel) rfl) Zc))) Zc)))) (Zt (ZC (Za Zs (Za (Zi (ZU X.ex.cls) rfl T.z_isinstance rC (Za (Zj 0) (Za (ZM (v:=.ref 257) rfl ⟨_,X.n_NoRow,rfl⟩) Zc))) (Za (Zi (ZU X.ex.cls) rfl T.z_isinstance rC (Za (Zj 0) (Za (Z_ (v:=.ty "RuntimeError") rfl T.z_RuntimeError (by decide +kernel) rfl) Zc))) Zc)))) (Zt (ZC (Za Zs (Za (Zi (ZU X.ex.cls) rfl T.z_isinstance rC (Za (Zj 0) (Za (ZM (v:=.ref 277) rfl ⟨_,X.n_NoLine,rfl⟩) Zc))) (Za (Zi (ZU X.ex.cls) rfl T.z_isinstance rC (Za (Zj 0) (Za (Z_ (v:=.ty "IndexError") rfl T.z_IndexError (by decide +kernel) rfl) Zc))) Zc)))) Zc)))))))))))))))
  (Ze (by refine' Wl (i:=2) Wq.nd rfl (yT rfl) (Nc:=["_law_name_here","_law_ours","_law_theirs"]) (cap:=[none,none,none]) rfl ?i ?k ?g ?t ?e;(case k=>kernel_rfl);(case i=>exact(Xs (Zj 1)));(case g=>exact(λ_ _ _ _ _=>(YM (K:=K) rfl (n:=3) rfl (Zl (Yb 0 (by show List.Nodup (["_law_name_here","_law_ours","_law_theirs"]:List Str);decide +kernel)) (Zl (Yb 1 (by show List.Nodup (["_law_name_here","_law_ours","_law_theirs"]:List Str);decide +kernel)) (Zl (Yb 2 (by show List.Nodup (["_law_name_here","_law_ours","_law_theirs"]:List Str);decide +kernel)) Yt))))));(case t=>exact(λ_ _ _ _ _=>(T_ (YC (YD 1)))));(case e=>exact(λ_ _ _ _ _=>(YD 0))))
  (Ze (by refine' Wl (i:=3) Wq.nd rfl (yT rfl) (Nc:=["_law_name_here","_law_ours","_law_theirs"]) (cap:=[none,none,none]) rfl ?i ?k ?g ?t ?e;(case k=>kernel_rfl);(case i=>exact(Xs (Zj 1)));(case g=>exact(λ_ _ _ _ _=>(YM (K:=K) rfl (n:=3) rfl (Zl (Yb 0 (by show List.Nodup (["_law_name_here","_law_ours","_law_theirs"]:List Str);decide +kernel)) (Zl (Yb 1 (by show List.Nodup (["_law_name_here","_law_ours","_law_theirs"]:List Str);decide +kernel)) (Zl (Yb 2 (by show List.Nodup (["_law_name_here","_law_ours","_law_theirs"]:List Str);decide +kernel)) Yt))))));(case t=>exact(λ_ _ _ _ _=>(T_ (IPW.pt (RM (YC (YD 1)) (Sa (YC (YD 2))))))));(case e=>exact(λ_ _ _ _ _=>(YD 0))))
  (Ze (Yo (IPW.pt (RM (ZP Gb (Zi Yg rfl T.z_len sW (Za (Zj 2) Zc)) Zd (Yq _)) (Sa (ZP (Sm hr.units) (Zj 3) (Zj 2) (Yq _))))) (Zm (Zw (Zq ZJ (Zj 2) Zd (λ_ _=>rfl)))) Z1)
  (Zm (Zw Zs)))))),(ZD (Ub (X6 false (Zb (YO (Zb ZS (Zb (ZK (Yr X.kits) (Zb (Zg 0) (Zb X5 Zh))) (Zb (ZK (Yr X.kits) (Zb (Zg 0) (Zb XU Zh))) Zh)))) (Zb (YO (Zb ZS (Zb (ZK (Yr X.kits) (Zb (Zg 0) (Zb X5 Zh))) (Zb (ZK (Yr X.kits) (Zb (Zg 0) (Zb XU Zh))) Zh)))) (Zb (YO (Zb ZS (Zb (ZK (Yr X.kits) (Zb (Zg 0) (Zb X5 Zh))) (Zb (ZK (Yr X.kits) (Zb (Zg 0) (Zb XU Zh))) Zh)))) (Zb (YO (Zb ZS (Zb (ZK (Yr X.kits) (Zb (Zg 0) (Zb X5 Zh))) (Zb (ZK (Yr X.kits) (Zb (Zg 0) (Zb XU Zh))) Zh)))) (Zb (YO (Zb ZS (Zb (ZK (Yr X.kits) (Zb (Zg 0) (Zb X5 Zh))) (Zb (ZK (Yr X.kits) (Zb (Zg 0) (Zb XU Zh))) Zh)))) (Zb (YO (Zb ZS (Zb (ZK (Yr X.kits) (Zb (Zg 0) (Zb X5 Zh))) (Zb (ZK (Yr X.kits) (Zb (Zg 0) (Zb XU Zh))) Zh)))) (Zb (YO (Zb ZS (Zb (ZK (Yr X.kits) (Zb (Zg 0) (Zb X5 Zh))) (Zb (ZK (Yr X.kits) (Zb (Zg 0) (Zb XU Zh))) Zh)))) (Zb (YO (Zb ZS (Zb (ZK (Yr X.kits) (Zb (Zg 0) (Zb X5 Zh))) (Zb (ZK (Yr X.kits) (Zb (Zg 0) (Zb XU Zh))) Zh)))) (Zb (YO (Zb ZS (Zb (ZK (Yr X.kits) (Zb (Zg 0) (Zb X5 Zh))) (Zb (ZK (Yr X.kits) (Zb (Zg 0) (Zb XU Zh))) Zh)))) (Zb (YO (Zb ZS (Zb (ZK (Yr X.kits) (Zb (Zg 0) (Zb X5 Zh))) (Zb (ZK (Yr X.kits) (Zb (Zg 0) (Zb XU Zh))) Zh)))) (Zb (YO (Zb ZS (Zb (ZK (Yr X.kits) (Zb (Zg 0) (Zb X5 Zh))) (Zb (ZK (Yr X.kits) (Zb (Zg 0) (Zb XU Zh))) Zh)))) (Zb (YO (Zb ZS (Zb (ZK (Yr X.kits) (Zb (Zg 0) (Zb X5 Zh))) (Zb (ZK (Yr X.kits) (Zb (Zg 0) (Zb XU Zh))) Zh)))) (Zb (YO (Zb ZS (Zb (ZK (Yr X.kits) (Zb (Zg 0) (Zb X5 Zh))) (Zb (ZK (Yr X.kits) (Zb (Zg 0) (Zb XU Zh))) Zh)))) Zh)))))))))))))) (Z8 1))
  (ZD (by nofun)
  (ZD (by nofun)
  (ZD (by nofun)
  (by nofun))))),λas o q h=>?_⟩)
 obtain⟨r,⟨e,d,x,rfl,rfl⟩,hq⟩:=h
 show Iq (KC (Ij false (AH Cv)) (AN 1)) _ _ _
 rw[show KC (Ij false (AH Cv)) (AN 1)=λ(E:WJ) (s:DS)=>AH Cv s λvs s1=>match NX vs with|some ds=>ds.length≤sizeLine/\nl false ds s1 (λv s2=>AN 1 v s2 E.nx)|none=>False from rfl]
 show AH Cv _ _
 refine Cw (e:=e) (d:=d) (x:=x) rfl Cv _ AI ?_
 rw[Zbm,AJ]
 simp!
 refine⟨by decide,?_⟩
 simp!
 refine UL whL ID (λp=>.str p.1) (λp=>p.2.1) [] rfl trivial (by decide) ?_ ?_
 ·rintro ⟨n,b,c⟩ _ Q hQ
  simp! only[ID]
  cases b<;>exact hQ
 rw[wh1]
 simp!
 refine UL whL ID (λp=>.str p.1) (λp=>p.2.1&&p.2.2) [] rfl trivial (by decide) ?_ ?_
 ·rintro ⟨n,b,c⟩ _ Q hQ
  simp! only[ID]
  cases b<;>cases c<;>exact hQ
 rw[wh2]
 simp!
 refine Zbx ⟨⟨by decide +kernel,by decide +kernel,by decide +kernel,by decide +kernel⟩,?_⟩
 rw[zU (by decide +kernel)]
 simp!
 exact⟨_,rfl,_,OW.le.refl _,hq⟩
end
section
variable {P:Program}{w:World}{K:Frag}{mg:Str->Option Value}{base:Heap}
def isI:PyData->Bool
 | .int _=>true
 | _=>false
def Sv:Xb:=VD λvs r=>∃d,vs=[.d d]/\r=.bool (isI d)
theorem PX:∀vs w k,Sv vs w k->vs.length=1:=X4 (by rintro vs r ⟨_,rfl,_⟩;rfl)
theorem OK(T:Txt K mg):Dn P w K mg base 1 "is_whole" Ud ["thing"] (Wc K Sv):=by
 refine Dn.data (k:=0) T.f_is_whole NN PX (λa cdv A outer s H E hr=>⟨_,_,IPSs.get (Ze (Zw (Tc (Zi Vi rfl T.z_isinstance rC (Za (Zj 0) (Za (Z_ (v:=.ty "int") rfl T.z_int (by decide +kernel) rfl) Zc))) (Td (Hq (Zi Vi rfl T.z_isinstance rC (Za (Zj 0) (Za (Z_ (v:=.ty "bool") rfl T.z_bool (by decide +kernel) rfl) Zc))))))) Z1),(by nofun),λas o q h=>?_⟩)
 obtain⟨r,⟨d,rfl,rfl⟩,hq⟩:=h
 cases d with
 | int n=>simp! only[UQ];exact⟨true,λ_=>rfl,⟨false,λ_=>rfl,_,OW.le.refl _,hq⟩⟩
 | bool n=>simp! only[UQ];exact⟨true,λ_=>rfl,⟨true,λ_=>rfl,_,OW.le.refl _,hq⟩⟩
 | none=>simp! only[UQ];exact⟨false,λ_=>rfl,_,OW.le.refl _,hq⟩
 | str n=>simp! only[UQ];exact⟨false,λ_=>rfl,_,OW.le.refl _,hq⟩
 | list n=>simp! only[UQ];exact⟨false,λ_=>rfl,_,OW.le.refl _,hq⟩
 | tuple n=>simp! only[UQ];exact⟨false,λ_=>rfl,_,OW.le.refl _,hq⟩
 | dict n=>simp! only[UQ];exact⟨false,λ_=>rfl,_,OW.le.refl _,hq⟩
def O3(d:PyData)(a b:Int):Bool:=match d with
 | .tuple ds=>decide (a≤ds.length/\(ds.length:Int)≤b)
 | _=>false
def Ww:Xb:=VD λvs r=>∃d a b,vs=[.d d,.d (.int a),.d (.int b)]/\r=.bool (O3 d a b)
theorem SS:VJ Ww:=V_
theorem SO:∀vs w k,Ww vs w k->vs.length=3:=X4 (by rintro vs r ⟨_,_,_,rfl,_⟩;rfl)
theorem VP(T:Txt K mg):Dn P w K mg base 1 "is_tuple_of" WE ["thing","least","most"] (Wc K Ww):=by
 refine Dn.data (k:=0) T.f_is_tuple_of Qk SO (λa cdv A outer s H E hr=>⟨_,_,IPSs.get (Ze (Zw (Tc (Zi Vi rfl T.z_isinstance rC (Za (Zj 0) (Za (Z_ (v:=.ty "tuple") rfl T.z_tuple (by decide +kernel) rfl) Zc))) (Td (RB Pe Pe (Zj 1) (Zi Yg rfl T.z_len sW (Za (Zj 0) Zc)) (Zj 2))))) Z1),(by nofun),λas o q h=>?_⟩)
 obtain⟨r,⟨d,a,b,rfl,rfl⟩,hq⟩:=h
 cases d with
 | tuple n=>
  simp! only[UQ]
  refine⟨true,λ_=>rfl,?_⟩
  simp!
  unfold O3 at hq
  simp only at hq
  refine Nt (λc=>?_) (λc=>?_)
  ·have e:decide (a≤n.length/\(n.length:Int)≤b)=decide ((n.length:Int)≤b):=by simp[sZ c]
   rw[e]at hq;exact⟨_,OW.le.refl _,hq⟩
  ·have c':¬a≤n.length:=by simpa using c
   have e:decide (a≤n.length/\(n.length:Int)≤b)=false:=by simp[c']
   rw[e]at hq;exact⟨_,OW.le.refl _,hq⟩
 | int n=>simp! only[UQ];exact⟨false,λ_=>rfl,_,OW.le.refl _,hq⟩
 | bool n=>simp! only[UQ];exact⟨false,λ_=>rfl,_,OW.le.refl _,hq⟩
 | none=>simp! only[UQ];exact⟨false,λ_=>rfl,_,OW.le.refl _,hq⟩
 | str n=>simp! only[UQ];exact⟨false,λ_=>rfl,_,OW.le.refl _,hq⟩
 | list n=>simp! only[UQ];exact⟨false,λ_=>rfl,_,OW.le.refl _,hq⟩
 | dict n=>simp! only[UQ];exact⟨false,λ_=>rfl,_,OW.le.refl _,hq⟩
def Mq(d:PyData)(a b:Int):Bool:=match d with
 | .int n=>decide (a≤n)&&decide (n≤b)
 | _=>false
def Wi:Xb:=VD λvs r=>∃d a b,vs=[.d d,.d (.int a),.d (.int b)]/\r=.bool (Mq d a b)
theorem VX:∀vs w k,Wi vs w k->vs.length=3:=X4 (by rintro vs r ⟨_,_,_,rfl,_⟩;rfl)
theorem Uz(T:Txt K mg):Dn P w K mg base 2 "is_whole_between" YL ["thing","least","most"] (Wc K Wi):=by
 have D_is_whole:=OK (P:=P) (w:=w) (base:=base) T
 refine Dn.data (k:=1) T.f_is_whole_between U2 VX (λa cdv A outer s H E hr=>⟨_,_,IPSs.get (Ze (Zw (Tc (Z2 D_is_whole OA (hr.mono (by decide)) (Za (Zj 0) Zc)) (Td (RB Pe Pe (Zj 1) (Zj 0) (Zj 2))))) Z1),(by nofun),λas o q h=>?_⟩)
 obtain⟨r,⟨d,a,b,rfl,rfl⟩,hq⟩:=h
 simp!
 refine⟨_,⟨d,rfl,rfl⟩,?_⟩
 cases d with
 | int n=>
  simp! only[isI]
  refine Nt (λc=>?_) (λc=>?_)
  ·have e:Mq (.int n) a b=decide (n≤b):=by show(decide (a≤n)&&decide (n≤b))=_;rw[c,zV]
   rw[e]at hq;exact⟨_,OW.le.refl _,hq⟩
  ·have e:Mq (.int n) a b=false:=by show(decide (a≤n)&&decide (n≤b))=_;rw[eq_false_iff.mpr c,uD]
   rw[e]at hq;exact⟨_,OW.le.refl _,hq⟩
 | _=>simp! only[isI];exact⟨_,OW.le.refl _,hq⟩
theorem JE{xs:List PyData}{i:Int}(h0:0≤i)(h1:i<xs.length):∃x,x∈xs/\atI xs i=some x:=by
 obtain⟨n,rfl⟩:=Int.eq_ofNat_of_zero_le h0
 have h2:n<xs.length:=by omega
 exact⟨xs[n],xT h2,ZX (M4 h2)⟩
end
section
variable {P:Program}{w:World}{K:Frag}{mg:Str->Option Value}{base:Heap}
def LX(z:Str):Bool:=decide ((1:Int)≤z.length)&&(decide ((z.length:Int)≤8)&&z.cps.toList.all λc=>PySem.Txt.contains YX (Fc c))
def R_:PyData->Bool
 | .str z=>LX z
 | _=>false
def Tx:PyData->Prop
 | .str z=>z.cps.all (· < 128)=true/\z.length≤64
 | _=>True
theorem Za1{n:Nat}(h:n≤64):n≤sizeLine:=zF h (by decide)
def R3:Xb:=VD λvs r=>∃d,vs=[.d d]/\Tx d/\r=.bool (R_ d)
theorem Ny:∀vs w k,R3 vs w k->vs.length=1:=X4 (by rintro vs r ⟨_,rfl,_⟩;rfl)
theorem Mw(T:Txt K mg)(X:Xt K mg):Dn P w K mg base 1 "is_name" Tw ["thing"] (Wc K R3):=by
 refine Dn.data (k:=0) T.f_is_name MX Ny (λa cdv A outer s H E hr=>⟨_,_,IPSs.get (Ze (Yo (IPW.pt (XR (Xf (YC (Zi Vi rfl T.z_isinstance rC (Za (Zj 0) (Za (Z_ (v:=.ty "str") rfl T.z_str (by decide +kernel) rfl) Zc))))) (W3 (Xf (MA Pe Pe Zd (Zi K5 rfl T.z_len sW (Za (Zj 0) Zc)) (ZM rfl T.c_LONGEST_NAME)))))) (Zm (Zw (YH))) Z1)
  (Zm (Zw (Zi (TH rfl) rfl T.z_all boot_all (Za (by refine' Yk (Nc:=["sign"]) (cap:=[none]) rfl ?i ?k ?g ?t ?e;(case k=>kernel_rfl);(case i=>exact(Hr (Zj 0)));(case g=>exact(λ_ _ _ _ _=>(Yb 0 (by show List.Nodup (["sign"]:List Str);decide +kernel))));(case t=>exact(λ_ _ _ _ _=>Ye));(case e=>exact(λ_ _ _ _ _=>(Xq B7 (YD 0) (ZM XQ X.c_LETTERS) rfl)))) Zc))))),(ZD (WB (Tu (Uc (NL (ZK Qf (Zb (Zg 0) (Zb XU Zh))))) (Uc (Y4 (Qg Km Km ZG (ZK ET (Zb (Zg 0) Zh)) ZG)))) (by nofun) Yd)
  (YQ (ZK Ob (Zb (YI false (Ao (Zg 0)) (Z8 0) Xo (YJ (ZF Ar (Zg 0) ZS))) Zh)))),λas o q h=>?_⟩)
 obtain⟨r,⟨d,rfl,hd,rfl⟩,hq⟩:=h
 cases d with
 | str z=>
  obtain⟨ha,hl⟩:=hd
  simp! only[UQ,LD]
  refine⟨true,λ_=>rfl,?_⟩
  simp!
  refine⟨Za1 hl,?_⟩
  refine Nt (λc1=>?_) (λc1=>?_)
  ·cases c2:decide ((z.length:Int)≤8)
   ·simp!
    have e:LX z=false:=by unfold LX;rw[c2];simp
    rw[show R_ (.str z)=false from e]at hq
    exact⟨_,OW.le.refl _,hq⟩
   ·simp! only[Za8,IL]
    refine⟨ha,?_⟩
    refine Y8 z.cps.toList (λc=>.str (Fc c)) (λc=>.bool (PySem.Txt.contains YX (Fc c))) [] rfl trivial (Ys (by have:z.cps.size=z.length:=rfl;simp;omega)) ?_ ?_
    ·rintro c hc Q hQ
     simp! only[IL]
     exact hQ
    ·simp! only[T2]
     refine⟨_,OW.le.refl _,?_⟩
     have e:LX z=(z.cps.toList.map λc=>PySem.Txt.contains YX (Fc c)).all id:=by
      unfold LX;rw[c1,c2,List.all_map];rfl
     rw[<- e];exact hq
  ·simp!
   have e:LX z=false:=by unfold LX;rw[eq_false_iff.mpr c1];rfl
   rw[show R_ (.str z)=false from e]at hq
   exact⟨_,OW.le.refl _,hq⟩
 | tuple n=>simp! only[UQ];exact⟨false,λ_=>rfl,_,OW.le.refl _,hq⟩
 | int n=>simp! only[UQ];exact⟨false,λ_=>rfl,_,OW.le.refl _,hq⟩
 | bool n=>simp! only[UQ];exact⟨false,λ_=>rfl,_,OW.le.refl _,hq⟩
 | none=>simp! only[UQ];exact⟨false,λ_=>rfl,_,OW.le.refl _,hq⟩
 | list n=>simp! only[UQ];exact⟨false,λ_=>rfl,_,OW.le.refl _,hq⟩
 | dict n=>simp! only[UQ];exact⟨false,λ_=>rfl,_,OW.le.refl _,hq⟩
def TV(p:Int×Int):PyData:=.tuple [.int p.1,.int p.2]
def Pg(L:List (Int×Int))(r:List PyData):Bool:=(r.zip L).all λp=>Mq p.1 p.2.1 p.2.2
def XM(L:List (Int×Int)):PyData->Bool
 | .tuple (x::r)=>decide (r.length=L.length)&&(R_ x&&Pg L r)
 | _=>false
def Rw:PyData->Prop
 | .tuple (x::r)=>Tx x/\r.length≤63
 | _=>True
theorem CG{x:PyData}{r:List PyData}:L2.TN (x::r) (some 1) none=r:=by
 have e:HT.sIx (x::r).length 0 (some 1)=1:=by
  rw[show(some (1:Int))=some ((1:Nat):Int) from rfl,HT.sIx_nat]
  simp
 unfold L2.TN
 rw[e,HT.sIx_none]
 simp
def VC:Xb:=VD λvs r=>∃d L,vs=[.d d,.d (.tuple (L.map TV))]/\L.length≤10/\Rw d/\r=.bool (XM L d)
theorem Sf:∀vs w k,VC vs w k->vs.length=2:=X4 (by rintro vs r ⟨_,_,rfl,_⟩;rfl)
theorem S9(T:Txt K mg)(X:Xt K mg):Dn P w K mg base 3 "is_named_row" XZ ["thing","numbers"] (Wc K VC):=by
 have D_is_name:=Mw (P:=P) (w:=w) (base:=base) T X
 have D_is_tuple_of:=VP (P:=P) (w:=w) (base:=base) T
 have D_is_whole_between:=Uz (P:=P) (w:=w) (base:=base) T
 refine Dn.data (k:=2) T.f_is_named_row VE Sf (λa cdv A outer s H E hr=>⟨_,_,IPSs.get (Ze (ZN (i:=2) VE.nd rfl (yT rfl) (ZA Xn Zd (Zi Yg rfl T.z_len sW (Za (Zj 1) Zc))))
  (Ze (Yo (IPW.pt (XR (Xf (YC (Z2 D_is_tuple_of VM (hr.mono (by decide)) (Za (Zj 0) (Za (Zj 2) (Za (Zj 2) Zc)))))) (W3 (Xf (YC (Z2 D_is_name Ml (hr.mono (by decide)) (Za (Zq Xa (Zj 0) Zd (λ_ _=>rfl)) Zc))))))) (Zm (Zw (YH))) Z1)
  (Zm (Zw (Zi (TH rfl) rfl T.z_all boot_all (Za (by refine' Yk (Nc:=["number","least","most"]) (cap:=[none,none,none]) rfl ?i ?k ?g ?t ?e;(case k=>kernel_rfl);(case i=>exact(Ht true true rfl T.z_zip (Za (RF Kt (Zj 0) (QU Zd) QT) (Za (Zj 1) Zc))));(case g=>exact(λ_ _ _ _ _=>(YM (K:=K) rfl (n:=2) rfl (Zl (Yb 0 (by show List.Nodup (["number","least","most"]:List Str);decide +kernel)) (Zl (YM (K:=K) rfl (n:=2) rfl (Zl (Yb 1 (by show List.Nodup (["number","least","most"]:List Str);decide +kernel)) (Zl (Yb 2 (by show List.Nodup (["number","least","most"]:List Str);decide +kernel)) Yt))) Yt)))));(case t=>exact(λ_ _ _ _ _=>Ye));(case e=>exact(λ_ _ _ _ _=>(Z2 D_is_whole_between Uy (hr.mono (by decide)) (Za (YD 0) (Za (YD 1) (Za (YD 2) Zc))) (hg:=XQ))))) Zc)))))),(by nofun),λas o q h=>?_⟩)
 obtain⟨r,⟨d,L,rfl,hL,hd,rfl⟩,hq⟩:=h
 simp!
 have no:O3 d (1+((L.map TV).length:Int)) (1+((L.map TV).length:Int))=false->XM L d=false:=by
  intro e
  cases d with
  | tuple ds=>
   cases ds with
   | nil=>rfl
   | cons x r=>
    simp only[O3,decide_eq_false_iff_not,uM,Wb]at e
    simp only[XM,Bool.and_eq_false_iff,decide_eq_false_iff_not]
    exact .inl (by omega)
  | _=>rfl
 refine⟨_,⟨d,_,_,rfl,rfl⟩,?_⟩
 cases c:O3 d (1+((L.map TV).length:Int)) (1+((L.map TV).length:Int))
 ·simp!
  rw[no c]at hq
  exact⟨_,OW.le.refl _,hq⟩
 cases d with
 | tuple ds=>
  cases ds with
  | nil=>
   simp only[O3,xX,sD,Wb]at c
   omega
  | cons x r=>
   obtain⟨hx,hr'⟩:=hd
   simp only[O3,xX,uM,Wb]at c
   have hl:r.length=L.length:=by omega
   simp!
   refine⟨x,ZX (j:=0) rfl,_,⟨x,rfl,hx,rfl⟩,?_⟩
   cases c2:R_ x
   ·simp!
    have e:XM L (.tuple (x::r))=false:=by simp[XM,c2]
    rw[e]at hq
    exact⟨_,OW.le.refl _,hq⟩
   ·simp!
    have ec:L2.TN (x::r) (some 1) none=r:=CG
    have ez:QG (L2.TN (x::r) (some 1) none) (L.map TV)=(r.zip L).map λp=>.tuple [p.1,TV p.2]:=by
     rw[ec]
     have z:=F8 r L id TV
     rw[map_id]at z
     exact z
    rw[ez]
    refine Y8 (r.zip L) (λp=>.tuple [p.1,TV p.2]) (λp=>.bool (Mq p.1 p.2.1 p.2.2)) [] rfl trivial (Ys (by simp;omega)) ?_ ?_
    ·rintro ⟨y,a,b⟩ hy Q hQ
     simp! only[TV]
     exact⟨_,⟨y,a,b,rfl,rfl⟩,by simp!;exact hQ⟩
    ·simp! only[T2]
     refine⟨_,OW.le.refl _,?_⟩
     have e:XM L (.tuple (x::r))=((r.zip L).map λp=>Mq p.1 p.2.1 p.2.2).all id:=by
      simp only[XM,Pg,c2,hl,sO,zV,List.all_map];rfl
     rw[<- e];exact hq
 | _=>cases c
end
section
variable {P:Program}{w:World}{K:Frag}{mg:Str->Option Value}{base:Heap}
def nmS:PyData->Str
 | .tuple (.str z::_)=>z
 | _=>⟨#[]⟩
def Vm(names:List Str)(z:Str):Bool:=(names.map PyData.str).any λy=>PyData.eqv y (.str z)
def fw(L:List (Int×Int)):List Str->Nat->List PyData->Option Nat
 | _,_,[]=>none
 | names,i,d::ds=>if(XM L d&&!(Vm names (nmS d)))=true then fw L (names++[nmS d]) (i+1) ds else some i
def fwD:Option Nat->PyData
 | none=>.none
 | some i=>.int i
def Rws(ds:List PyData):Prop:=ds.length≤64/\∀d∈ds,Rw d
theorem HR{L:List (Int×Int)}{d:PyData}(h:XM L d=true):∃z r,d=.tuple (.str z::r)/\R_ (.str z)=true/\r.length=L.length/\Pg L r=true:=by
 cases d with
 | tuple ds=>
  cases ds with
  | nil=>cases h
  | cons x r=>
   simp only[XM,yN,xX]at h
   obtain⟨h1,h2,h3⟩:=h
   cases x with
   | str z=>exact⟨z,r,rfl,h2,h1,h3⟩
   | _=>cases h2
 | _=>cases h
def FC(z:Str):Prop:=z.cps.all (· < 128)=true
theorem WY{z:Str}(h:FC z):PyData.strOk z=true:=by
 unfold FC at h;unfold PyData.strOk
 rw[Array.all_eq_true]at h |-
 intro i hi
 have:=sZ (h i hi)
 exact yR (by omega)
theorem Rg:∀names:List Str,(∀z∈names,FC z)->PyData.canLayAll0 (names.map PyData.str)=true/\PyData.hasDictAll (names.map PyData.str)=false
 | [],_=>⟨rfl,rfl⟩
 | z::r,h=>by
  obtain⟨h1,h2⟩:=Rg r λy hy=>h y (vN _ hy)
  simp only[uO]
  exact⟨by simp[PyData.canLayAll0,PyData.canLay0,h1,WY (h z (vM ..))],by simp[PyData.hasDictAll,PyData.hasDict,h2]⟩
theorem OM{α:Type}{l:List α}{i:Nat}{x:α}(h:l[i]? = some x):l.drop i=x::l.drop (i+1):=by
 obtain⟨hi,rfl⟩:=vS.mp h
 exact List.drop_eq_getElem_cons hi
theorem V5{α β:Type}{f:α->β}{l:List α}{i:Nat}{d:β}(h:(l.map f)[i]? = some d):∃r,l[i]? = some r/\f r=d:=by
 rw[yF]at h
 cases e:l[i]? with
 | none=>rw[e]at h;cases h
 | some r=>rw[e]at h;exact⟨r,rfl,vV h⟩
theorem OP{ds:List PyData}{i:Nat}{d:PyData}(h:(Wy ds)[i]? = some d):∃x,ds[i]? = some x/\d=.tuple [.int (i:Nat),x]:=by
 unfold Wy at h
 rw[tH]at h
 cases e:ds[i]? with
 | none=>rw[e]at h;cases h
 | some x=>rw[e]at h;cases h;exact⟨x,rfl,rfl⟩
theorem Rw.asc{z:Str}{r:List PyData}(h:Rw (.tuple (.str z::r))):FC z:=h.1.1
def VS:Xb:=VD λvs r=>∃ds L,vs=[.d (.tuple ds),.d (.tuple (L.map TV))]/\L.length≤10/\Rws ds/\r=fwD (fw L [] 0 ds)
theorem SN:∀vs w k,VS vs w k->vs.length=2:=X4 (by rintro vs r ⟨_,_,rfl,_⟩;rfl)
theorem R0(T:Txt K mg)(X:Xt K mg):Dn P w K mg base 4 "first_wrong" XW ["rows","numbers"] (Wc K VS):=by
 have D_is_named_row:=S9 (P:=P) (w:=w) (base:=base) T X
 refine Dn.data (k:=3) T.f_first_wrong XA SN (λa cdv A outer s H E hr=>⟨_,_,IPSs.get (Ze (ZN (i:=2) XA.nd rfl (yT rfl) (ZV Zc))
  (Ze (Wz rD rfl (TZ true rfl T.z_enumerate (Za (Zj 0) Zc)) (VT (n:=2) rfl (Zl (Yz (i:=3) XA.nd rfl (yT rfl)) (Zl (Yz (i:=4) XA.nd rfl (yT rfl)) Yt))) (Ze (Yo (IPW.pt (XR (Xf (YC (Z2 D_is_named_row S5 (hr.mono (by decide)) (Za (Zj 4) (Za (Zj 1) Zc))))) (W3 (ZP (Gd hr.units) (Zq Xa (Zj 4) Zd (λ_ _=>rfl)) (Zj 2) rfl)))) (Zm (Zw (Zj 3))) Z1)
  (Zm (Wr (WR rE rF rG Ur (Zj 2) (Za (Zq Xa (Zj 4) Zd (λ_ _=>rfl)) Zc))))))
  (Zm (Zw Vl)))),(ZD (Ub (X6 true Zh) (Z8 2))
  (ZD (by nofun)
  (by nofun))),λas o q h=>?_⟩)
 obtain⟨r,⟨ds,L,rfl,hL,⟨hl,hd⟩,rfl⟩,hq⟩:=h
 simp!
 refine⟨by decide,λp hp=>?_⟩
 simp!
 refine⟨λi s=>∃(names:List Str) (o3 o4:Option Val),s=⟨[some (.d (.tuple ds)),some (.d (.tuple (L.map TV))),some (.own p),o3,o4],o.put p (.lst (names.map .str))⟩/\names.length≤i/\(∀z∈names,FC z)/\fw L names i (ds.drop i)=fw L [] 0 ds,⟨[],_,_,rfl,zK _,(λ_ z=>by cases z),rfl⟩,λ_ _ _=>trivial,?_,?_⟩
 ·rintro i d s hi ⟨names,o3,o4,rfl,hn,hA,hf⟩
  obtain⟨x,hx,rfl⟩:=OP hi
  have hR:=hd x (yG hx)
  have hil:=(vS.mp hx).1
  rw[OM hx]at hf
  simp!
  refine⟨_,⟨x,L,rfl,hL,hR,rfl⟩,?_⟩
  cases c:XM L x
  ·simp!
   have e:fw L [] 0 ds=some i:=by rw[<- hf,fw,c];rfl
   rw[e]at hq
   exact⟨_,(OW.le.refl o).put hp _,hq⟩
  ·obtain⟨z,r,rfl,h1,h2,h3⟩:=HR c
   have hz:=Rw.asc hR
   have hl2:=Rg names hA
   simp!
   refine⟨_,ZX (j:=0) rfl,?_⟩
   simp!
   refine⟨⟨rfl,hl2.2,WY hz,hl2.1,by simp[PyData.depth]⟩,?_⟩
   cases c2:Vm names z
   ·have c3:(names.map PyData.str).any (λy=>PyData.eqv y (.str z))=false:=c2
    rw[c3]
    simp!
    refine⟨⟨_,rfl⟩,_,ZX (j:=0) rfl,_,rfl,Ys (by simp;omega),names++[z],_,_,by rw[tO];rfl,by simp;omega,λy hy=>?_,?_⟩
    ·rcases vQ.mp hy with hy|hy
     ·exact hA y hy
     ·rw[xQ.mp hy];exact hz
    ·rw[<- hf,fw,c,show nmS (.tuple (.str z::r))=z from rfl,c2];rfl
   ·have c3:(names.map PyData.str).any (λy=>PyData.eqv y (.str z))=true:=c2
    rw[c3]
    simp!
    have e:fw L [] 0 ds=some i:=by rw[<- hf,fw,c,show nmS (.tuple (.str z::r))=z from rfl,c2];rfl
    rw[e]at hq
    exact⟨_,(OW.le.refl o).put hp _,hq⟩
 ·rintro s ⟨names,o3,o4,rfl,hn,hA,hf⟩
  simp!
  have e:fw L [] 0 ds=none:=by rw[<- hf,show(Wy ds).length=ds.length by simp[Wy],List.drop_length];rfl
  rw[e]at hq
  exact⟨_,(OW.le.refl o).put hp _,hq⟩
end
section
variable {P:Program}{w:World}{K:Frag}{mg:Str->Option Value}{base:Heap}
def Pf(most:Int)(L:List (Int×Int))(d:PyData):Option PyData:=
 match d with
 | .tuple ds=>if 1≤ds.length/\(ds.length:Int)≤most then(match fw L [] 0 ds with|none=>none|some i=>some (.int i)) else some .none
 | _=>some .none
def FN(d:PyData):Prop:=∀ds,d=.tuple ds->Rws ds
def Va:Xb:=VD λvs r=>∃(z:Str) (d:PyData) (most:Int) (L:List (Int×Int)),vs=[.d (.str z),.d d,.d (.int most),.d (.tuple (L.map TV))]/\L.length≤10/\FN d/\Pf most L d=none/\r=.none
theorem VZ:VJ Va:=V_
theorem RR:∀vs w k,Va vs w k->vs.length=4:=X4 (by rintro vs r ⟨_,_,_,_,rfl,_⟩;rfl)
theorem Qz(T:Txt K mg)(X:Xt K mg):Dn P w K mg base 5 "check_part" WC ["part","rows","most","numbers"] (Wc K Va):=by
 have D_first_wrong:=R0 (P:=P) (w:=w) (base:=base) T X
 have D_is_tuple_of:=VP (P:=P) (w:=w) (base:=base) T
 refine Dn.data (k:=4) T.f_check_part UB RR (λa cdv A outer s H E hr=>⟨_,_,IPSs.get (Ze (Yo (Xf (YC (Z2 D_is_tuple_of VM (hr.mono (by decide)) (Za (Zj 1) (Za Zd (Za (Zj 2) Zc)))))) (Zm RH) Z1)
  (Ze (ZN (i:=4) UB.nd rfl (yT rfl) (Z2 D_first_wrong Rq (hr.mono (by decide)) (Za (Zj 1) (Za (Zj 3) Zc))))
  (Zm (Yo (ZP E1 (Zj 4) Vl (Yq _)) (Zm RH) Z1)))),(ZD (WB (Uc (NL (Y9 SS (Zb (Zg 1) (Zb ZG (Zb (Zg 2) Zh)))))) NK Yd)
  (ZD (by nofun)
  (WB (Y4 (ZF Og (Zg 4) Od)) NK Yd))),λas o q h=>?_⟩)
 obtain⟨r,⟨z,d,most,L,rfl,hL,hd,hn,rfl⟩,hq⟩:=h
 cases d with
 | tuple ds=>
  simp only[Pf]at hn
  split at hn
  ·next c=>
   have c1:O3 (.tuple ds) 1 most=true:=by simp only[O3,xX];exact⟨by omega,c.2⟩
   simp!
   refine⟨_,⟨.tuple ds,_,_,rfl,rfl⟩,?_⟩
   rw[c1]
   simp!
   refine⟨_,⟨ds,L,rfl,hL,hd ds rfl,rfl⟩,?_⟩
   have c2:fw L [] 0 ds=none:=by
    cases e:fw L [] 0 ds with
    | none=>rfl
    | some i=>rw[e]at hn;cases hn
   rw[c2]
   simp! only[fwD]
   exact⟨_,OW.le.refl _,hq⟩
  ·cases hn
 | _=>cases hn
def Nj(K B:PyData):Own:=insW 416 [("kind_rows",.d K),("bidder_rows",.d B)]
def Fit(d d':PyData):Prop:=FN d/\FN d'/\Pf 3 [(1,4),(0,999),(1,99),(0,9)] d=none/\Pf 6 [(0,99)] d'=none
def R1:Xb:=λvs w k=>∃(a:Addr) (d d':PyData),vs=[.own a,.d d,.d d']/\w a=some (insW 416 [])/\Fit d d'/\k (.d .none) (w.put a (Nj d d'))
theorem Pa:VJ R1:=λvs w k k' h ⟨a,d,d',h1,h2,h3,h4⟩=>⟨a,d,d',h1,h2,h3,h _ _ h4⟩
theorem Jh:∀vs w k,R1 vs w k->vs.length=3:=λvs w k ⟨_,_,_,h,_⟩=>by rw[h];rfl
theorem Iz(T:Txt K mg)(X:Xt K mg):AS P w K mg base 6 416 "House" "House.__init__" Oq ["self","kinds","bidders"] (Wc K R1):=by
 have D_check_part:=Qz (P:=P) (w:=w) (base:=base) T X
 obtain⟨fI,fdI,FI,MI⟩:=X.hs.ini
 obtain⟨ak,hk1,hk2⟩:=X.c_KIND
 obtain⟨ab,hb1,hb2⟩:=X.c_BIDDER
 have n1:=X.hs.att "kind_rows" (by decide)
 have n2:=X.hs.att "bidder_rows" (by decide)
 refine AS.data (k:=5) ⟨fI,fdI,FI,MI,X.n_House⟩ Fb Jh (λa cdv A outer s H E hr=>⟨_,_,IPSs.get
  (Ze (Wr (Z2 D_check_part U7 (hr.mono (by decide)) (Za Zs (Za (Zj 1) (Za (ZM rfl T.c_MOST_KINDS) (Za (ZM (v:=.ref ak) rfl ⟨_,hk1,rfl⟩) Zc))))))
  (Ze (Wr (Z2 D_check_part U7 (hr.mono (by decide)) (Za Zs (Za (Zj 2) (Za (ZM rfl T.c_MOST_BIDDERS) (Za (ZM (v:=.ref ab) rfl ⟨_,hb1,rfl⟩) Zc))))))
  (Ze (Nq (Zj 0) (Zj 1)) (Ze (Nq (Zj 0) (Zj 2)) Z1)))),
  (ZD (Oh (Y9 VZ (Zb ZS (Zb (Zg 1) (Zb ZG (Zb (Ct hk2) Zh))))))
  (ZD (Oh (Y9 VZ (Zb ZS (Zb (Zg 2) (Zb ZG (Zb (Ct hb2) Zh))))))
  (ZD (Ko X.hs.cls n1 (Zg 0) (Zg 1)) (ZD (Ko X.hs.cls n2 (Zg 0) (Zg 2)) Yd)))),λas o q h=>?_⟩)
 obtain⟨p,d,d',rfl,hw,⟨hd,hd',c,c2⟩,hq⟩:=h
 simp! only[OG]
 refine⟨_,⟨"kinds",d,3,[(1,4),(0,999),(1,99),(0,9)],rfl,by decide,hd,c,rfl⟩,?_⟩
 simp! only[OG]
 refine⟨_,⟨"bidders",d',6,[(0,99)],rfl,by decide,hd',c2,rfl⟩,?_⟩
 simp! only[OG]
 refine⟨[],hw,by decide,?_⟩
 simp! only[OG]
 refine⟨_,rfl,by show(1:Nat)<1000;decide,?_⟩
 simp!
 exact⟨_,OW.le.refl _,hq⟩
end
section
variable {P:Program}{w:World}{K:Frag}{mg:Str->Option Value}{base:Heap}
def N5(f:PyData->PyData->PyData->Prop):Xb:=λvs w k=>∃a K B r,vs=[.own a]/\w a=some (Nj K B)/\f K B r/\k (.d r) w
theorem Wo{f:PyData->PyData->PyData->Prop}:VJ (N5 f):=λvs w k k' h ⟨a,K,B,r,h1,h2,h3,h4⟩=>⟨a,K,B,r,h1,h2,h3,h _ _ h4⟩
theorem Wn{f:PyData->PyData->PyData->Prop}:∀vs w k,N5 f vs w k->vs.length=1:=λvs w k ⟨_,_,_,_,h,_⟩=>by rw[h];rfl
abbrev KR:=PyData×PyData×PyData×PyData×PyData
def R4(x:KR):PyData:=.tuple [x.1,x.2.1,x.2.2.1,x.2.2.2.1,x.2.2.2.2]
def JM(f:KR->PyData):Xb:=N5 λK _ r=>∃rows:List KR,K=.tuple (rows.map R4)/\rows.length≤64/\r=.tuple (rows.map f)
def Wu:Xb:=N5 λK _ r=>r=K
theorem SQ:VJ Wu:=Wo
theorem SJ:∀vs w k,Wu vs w k->vs.length=1:=Wn
theorem Ry(T:Txt K mg)(X:Xt K mg):U4 P w K mg base 1 416 "kinds" "House.kinds" XX ["self"] (Wc K Wu):=by
 refine U4.data (k:=0) X.me_House_kinds Qi SJ (λa cdv A outer s H E hr=>⟨_,_,IPSs.get (Ze (Zw (Yl (Zj 0))) Z1),(ZD (YQ (YA X.hs.cls (X.hs.att "kind_rows" (by decide)) (Zg 0))) Yd),λas o q h=>?_⟩)
 obtain⟨a,K,B,r,rfl,hw,rfl,hq⟩:=h
 simp! only[Xe]
 exact⟨_,_,hw,rfl,_,OW.le.refl _,hq⟩
def XJ:Xb:=N5 λ_ B r=>r=B
theorem Tp:VJ XJ:=Wo
theorem Tj:∀vs w k,XJ vs w k->vs.length=1:=Wn
theorem TR(T:Txt K mg)(X:Xt K mg):U4 P w K mg base 1 416 "bidders" "House.bidders" Xh ["self"] (Wc K XJ):=by
 refine U4.data (k:=0) X.me_House_bidders So Tj (λa cdv A outer s H E hr=>⟨_,_,IPSs.get (Ze (Zw (Yl (Zj 0))) Z1),(ZD (YQ (YA X.hs.cls (X.hs.att "bidder_rows" (by decide)) (Zg 0))) Yd),λas o q h=>?_⟩)
 obtain⟨a,K,B,r,rfl,hw,rfl,hq⟩:=h
 simp! only[Xe]
 exact⟨_,_,hw,rfl,_,OW.le.refl _,hq⟩
def XI:Xb:=JM λx=>x.2.1
theorem To:VJ XI:=Wo
theorem Ti:∀vs w k,XI vs w k->vs.length=1:=Wn
theorem TQ(T:Txt K mg)(X:Xt K mg):U4 P w K mg base 1 416 "amounts" "House.amounts" Xg ["self"] (Wc K XI):=by
 refine U4.data (k:=0) X.me_House_amounts Sn Ti (λa cdv A outer s H E hr=>⟨_,_,IPSs.get (Ze (Zw (Ym Yx rfl T.z_tuple (by decide +kernel) (Za (by refine' Yk (Nc:=["name","amount","price","step","points"]) (cap:=[none,none,none,none,none]) rfl ?i ?k ?g ?t ?e;(case k=>kernel_rfl);(case i=>exact(X0 (Yl (Zj 0))));(case g=>exact(λ_ _ _ _ _=>(YM (K:=K) rfl (n:=5) rfl (Zl (Yb 0 (by show List.Nodup (["name","amount","price","step","points"]:List Str);decide +kernel)) (Zl (Yb 1 (by show List.Nodup (["name","amount","price","step","points"]:List Str);decide +kernel)) (Zl (Yb 2 (by show List.Nodup (["name","amount","price","step","points"]:List Str);decide +kernel)) (Zl (Yb 3 (by show List.Nodup (["name","amount","price","step","points"]:List Str);decide +kernel)) (Zl (Yb 4 (by show List.Nodup (["name","amount","price","step","points"]:List Str);decide +kernel)) Yt))))))));(case t=>exact(λ_ _ _ _ _=>Ye));(case e=>exact(λ_ _ _ _ _=>(YD 1)))) Zc))) Z1),(ZD (YQ (ZK W9 (Zb (YI false (Vd (YA X.hs.cls (X.hs.att "kind_rows" (by decide)) (Zg 0))) (V8 (ZQ (Z8 0) (ZQ (Z8 1) (ZQ (Z8 2) (ZQ (Z8 3) (ZQ (Z8 4) WT)))))) Xo (YJ (Zg 1))) Zh))) Yd),λas o q h=>?_⟩)
 obtain⟨a,K,B,r,rfl,hw,⟨rows,rfl,hl,rfl⟩,hq⟩:=h
 simp! only[Xe]
 refine⟨_,_,hw,rfl,?_⟩
 simp!
 refine Y8 rows R4 (λx=>x.2.1) [] rfl trivial (Ys (by simp;omega)) (λx _ Q hQ=>?_) ?_
 ·simp! only[R4];exact hQ
 ·simp! only[sM];exact⟨_,OW.le.refl _,hq⟩
def We:Xb:=JM λx=>x.2.2.1
theorem Sj:VJ We:=Wo
theorem Se:∀vs w k,We vs w k->vs.length=1:=Wn
theorem S8(T:Txt K mg)(X:Xt K mg):U4 P w K mg base 1 416 "prices" "House.prices" X8 ["self"] (Wc K We):=by
 refine U4.data (k:=0) X.me_House_prices SV Se (λa cdv A outer s H E hr=>⟨_,_,IPSs.get (Ze (Zw (Ym Yx rfl T.z_tuple (by decide +kernel) (Za (by refine' Yk (Nc:=["name","amount","price","step","points"]) (cap:=[none,none,none,none,none]) rfl ?i ?k ?g ?t ?e;(case k=>kernel_rfl);(case i=>exact(X0 (Yl (Zj 0))));(case g=>exact(λ_ _ _ _ _=>(YM (K:=K) rfl (n:=5) rfl (Zl (Yb 0 (by show List.Nodup (["name","amount","price","step","points"]:List Str);decide +kernel)) (Zl (Yb 1 (by show List.Nodup (["name","amount","price","step","points"]:List Str);decide +kernel)) (Zl (Yb 2 (by show List.Nodup (["name","amount","price","step","points"]:List Str);decide +kernel)) (Zl (Yb 3 (by show List.Nodup (["name","amount","price","step","points"]:List Str);decide +kernel)) (Zl (Yb 4 (by show List.Nodup (["name","amount","price","step","points"]:List Str);decide +kernel)) Yt))))))));(case t=>exact(λ_ _ _ _ _=>Ye));(case e=>exact(λ_ _ _ _ _=>(YD 2)))) Zc))) Z1),(ZD (YQ (ZK W9 (Zb (YI false (Vd (YA X.hs.cls (X.hs.att "kind_rows" (by decide)) (Zg 0))) (V8 (ZQ (Z8 0) (ZQ (Z8 1) (ZQ (Z8 2) (ZQ (Z8 3) (ZQ (Z8 4) WT)))))) Xo (YJ (Zg 2))) Zh))) Yd),λas o q h=>?_⟩)
 obtain⟨a,K,B,r,rfl,hw,⟨rows,rfl,hl,rfl⟩,hq⟩:=h
 simp! only[Xe]
 refine⟨_,_,hw,rfl,?_⟩
 simp!
 refine Y8 rows R4 (λx=>x.2.2.1) [] rfl trivial (Ys (by simp;omega)) (λx _ Q hQ=>?_) ?_
 ·simp! only[R4];exact hQ
 ·simp! only[sM];exact⟨_,OW.le.refl _,hq⟩
def Wv:Xb:=JM λx=>x.2.2.2.1
theorem SR:VJ Wv:=Wo
theorem SM:∀vs w k,Wv vs w k->vs.length=1:=Wn
theorem Rz(T:Txt K mg)(X:Xt K mg):U4 P w K mg base 1 416 "steps" "House.steps" XY ["self"] (Wc K Wv):=by
 refine U4.data (k:=0) X.me_House_steps Qj SM (λa cdv A outer s H E hr=>⟨_,_,IPSs.get (Ze (Zw (Ym Yx rfl T.z_tuple (by decide +kernel) (Za (by refine' Yk (Nc:=["name","amount","price","step","points"]) (cap:=[none,none,none,none,none]) rfl ?i ?k ?g ?t ?e;(case k=>kernel_rfl);(case i=>exact(X0 (Yl (Zj 0))));(case g=>exact(λ_ _ _ _ _=>(YM (K:=K) rfl (n:=5) rfl (Zl (Yb 0 (by show List.Nodup (["name","amount","price","step","points"]:List Str);decide +kernel)) (Zl (Yb 1 (by show List.Nodup (["name","amount","price","step","points"]:List Str);decide +kernel)) (Zl (Yb 2 (by show List.Nodup (["name","amount","price","step","points"]:List Str);decide +kernel)) (Zl (Yb 3 (by show List.Nodup (["name","amount","price","step","points"]:List Str);decide +kernel)) (Zl (Yb 4 (by show List.Nodup (["name","amount","price","step","points"]:List Str);decide +kernel)) Yt))))))));(case t=>exact(λ_ _ _ _ _=>Ye));(case e=>exact(λ_ _ _ _ _=>(YD 3)))) Zc))) Z1),(ZD (YQ (ZK W9 (Zb (YI false (Vd (YA X.hs.cls (X.hs.att "kind_rows" (by decide)) (Zg 0))) (V8 (ZQ (Z8 0) (ZQ (Z8 1) (ZQ (Z8 2) (ZQ (Z8 3) (ZQ (Z8 4) WT)))))) Xo (YJ (Zg 3))) Zh))) Yd),λas o q h=>?_⟩)
 obtain⟨a,K,B,r,rfl,hw,⟨rows,rfl,hl,rfl⟩,hq⟩:=h
 simp! only[Xe]
 refine⟨_,_,hw,rfl,?_⟩
 simp!
 refine Y8 rows R4 (λx=>x.2.2.2.1) [] rfl trivial (Ys (by simp;omega)) (λx _ Q hQ=>?_) ?_
 ·simp! only[R4];exact hQ
 ·simp! only[sM];exact⟨_,OW.le.refl _,hq⟩
def Wd:Xb:=JM λx=>x.2.2.2.2
theorem Si:VJ Wd:=Wo
theorem Sd:∀vs w k,Wd vs w k->vs.length=1:=Wn
theorem S7(T:Txt K mg)(X:Xt K mg):U4 P w K mg base 1 416 "points" "House.points" X7 ["self"] (Wc K Wd):=by
 refine U4.data (k:=0) X.me_House_points SU Sd (λa cdv A outer s H E hr=>⟨_,_,IPSs.get (Ze (Zw (Ym Yx rfl T.z_tuple (by decide +kernel) (Za (by refine' Yk (Nc:=["name","amount","price","step","points"]) (cap:=[none,none,none,none,none]) rfl ?i ?k ?g ?t ?e;(case k=>kernel_rfl);(case i=>exact(X0 (Yl (Zj 0))));(case g=>exact(λ_ _ _ _ _=>(YM (K:=K) rfl (n:=5) rfl (Zl (Yb 0 (by show List.Nodup (["name","amount","price","step","points"]:List Str);decide +kernel)) (Zl (Yb 1 (by show List.Nodup (["name","amount","price","step","points"]:List Str);decide +kernel)) (Zl (Yb 2 (by show List.Nodup (["name","amount","price","step","points"]:List Str);decide +kernel)) (Zl (Yb 3 (by show List.Nodup (["name","amount","price","step","points"]:List Str);decide +kernel)) (Zl (Yb 4 (by show List.Nodup (["name","amount","price","step","points"]:List Str);decide +kernel)) Yt))))))));(case t=>exact(λ_ _ _ _ _=>Ye));(case e=>exact(λ_ _ _ _ _=>(YD 4)))) Zc))) Z1),(ZD (YQ (ZK W9 (Zb (YI false (Vd (YA X.hs.cls (X.hs.att "kind_rows" (by decide)) (Zg 0))) (V8 (ZQ (Z8 0) (ZQ (Z8 1) (ZQ (Z8 2) (ZQ (Z8 3) (ZQ (Z8 4) WT)))))) Xo (YJ (Zg 4))) Zh))) Yd),λas o q h=>?_⟩)
 obtain⟨a,K,B,r,rfl,hw,⟨rows,rfl,hl,rfl⟩,hq⟩:=h
 simp! only[Xe]
 refine⟨_,_,hw,rfl,?_⟩
 simp!
 refine Y8 rows R4 (λx=>x.2.2.2.2) [] rfl trivial (Ys (by simp;omega)) (λx _ Q hQ=>?_) ?_
 ·simp! only[R4];exact hQ
 ·simp! only[sM];exact⟨_,OW.le.refl _,hq⟩
def V0:Xb:=N5 λ_ B r=>∃bs,B=.tuple bs/\bs.length≤64/\r=.int bs.length
theorem U9:VJ V0:=Wo
theorem Q4:∀vs w k,V0 vs w k->vs.length=1:=Wn
theorem P5(T:Txt K mg)(X:Xt K mg):U4 P w K mg base 1 416 "__len__" "House.__len__" Vp ["self"] (Wc K V0):=by
 refine U4.data (k:=0) X.me_House_len Oj Q4 (λa cdv A outer s H E hr=>⟨_,_,IPSs.get (Ze (Zw (Zi Yg rfl T.z_len sW (Za (Yl (Zj 0)) Zc))) Z1),(ZD (YQ (ZK V7 (Zb (YA X.hs.cls (X.hs.att "bidder_rows" (by decide)) (Zg 0)) Zh))) Yd),λas o q h=>?_⟩)
 obtain⟨a,K,B,r,rfl,hw,⟨bs,rfl,hl,rfl⟩,hq⟩:=h
 simp! only[Xe]
 refine⟨_,_,hw,rfl,?_⟩
 simp!
 exact⟨_,OW.le.refl _,hq⟩
end
section
variable {P:Program}{w:World}{K:Frag}{mg:Str->Option Value}{base:Heap}
def P8(x y:PyData):Prop:=x.hasDict=false/\y.hasDict=false/\SeqAt.shaped x=true/\SeqAt.shaped y=true
def VQ:Xb:=λvs w k=>∃a K B,w a=some (Nj K B)/\((∃b K' B',vs=[.own a,.own b]/\w b=some (Nj K' B')/\P8 K K'/\P8 B B'/\k (.d (.bool (K.eqv K'&&B.eqv B'))) w)\/∃d,vs=[.own a,.d d]/\d.hasDict=false/\k (.d (.bool false)) w)
theorem X3:VJ VQ:=λvs w k k' h ⟨a,K,B,h1,h2⟩=>⟨a,K,B,h1,by
 rcases h2 with ⟨b,K',B',q1,q2,q3,q4,q5⟩|⟨d,q1,q2,q3⟩
 ·exact .inl ⟨b,K',B',q1,q2,q3,q4,h _ _ q5⟩
 ·exact .inr ⟨d,q1,q2,h _ _ q3⟩⟩
theorem PV:∀vs w k,VQ vs w k->vs.length=2:=by
 rintro vs w k ⟨a,K,B,_,⟨_,_,_,rfl,_⟩|⟨_,rfl,_⟩⟩<;>rfl
theorem OJ(T:Txt K mg)(X:Xt K mg):U4 P w K mg base 1 416 "__eq__" "House.__eq__" Vo ["self","other"] (Wc K VQ):=by
 refine U4.data (k:=0) X.me_House_eq NM PV (λa cdv A outer s H E hr=>⟨_,_,IPSs.get (Ze (Yo (Xf (YC (Zi JH rfl T.z_isinstance rC (Za (Zj 1) (Za (ZM (v:=.ref 416) rfl ⟨_,X.n_House,rfl⟩) Zc))))) (Zm (Zw (YH))) Z1)
  (Zm (Zw (Tc (Xq (Sm hr.units) (Yl (Zj 0)) (Yl (Zj 1)) (Yq _)) (Td (Xq (Sm hr.units) (Yl (Zj 0)) (Yl (Zj 1)) (Yq _))))))),(ZD (WB (Uc (NL (ZK (Al X.nf.cKit) (Zb (Zg 1) (Zb X5 Zh))))) (by nofun) Yd)
  (YQ (Kj (ZF Ve (YA X.hs.cls (X.hs.att "kind_rows" (by decide)) (Zg 0)) (YA X.hs.cls (X.hs.att "kind_rows" (by decide)) (Zg 1))) (ZF Ve (YA X.hs.cls (X.hs.att "bidder_rows" (by decide)) (Zg 0)) (YA X.hs.cls (X.hs.att "bidder_rows" (by decide)) (Zg 1)))))),λas o q h=>?_⟩)
 obtain⟨a,K,B,hw,⟨b,K',B',rfl,hb,e1,e2,hq⟩|⟨d,rfl,hd,hq⟩⟩:=h
 ·simp! only[Xe,Hc]
  refine⟨⟨_,hb⟩,?_⟩
  simp! only[Xe]
  refine⟨_,_,hw,rfl,_,_,hb,rfl,?_⟩
  simp! only[Xe]
  refine⟨e1,?_⟩
  cases c:K.eqv K'
  ·rw[c]at hq
   simp! only[Xe]
   exact⟨_,OW.le.refl _,hq⟩
  ·rw[c]at hq
   simp! only[Xe]
   refine⟨_,_,hw,rfl,_,_,hb,rfl,?_⟩
   simp!
   exact⟨e2,_,OW.le.refl _,hq⟩
 ·simp! only[Xe,Hc]
  refine⟨hd,?_⟩
  simp!
  exact⟨_,OW.le.refl _,hq⟩
def J6(x:Str×List PyData):PyData:=.tuple (.str x.1::x.2)
def Ox(ks bs:List (Str×List PyData)):List Str:=ks.map (·.1)++[(":" : Str)]++bs.map (·.1)
def V1:Xb:=N5 λK B r=>∃ks bs,K=.tuple (ks.map J6)/\B=.tuple (bs.map J6)/\ks.length≤64/\bs.length≤64/\JoinOk " " (Ox ks bs)=true/\r=.str (PySem.Txt.join " " (Ox ks bs))
theorem UA:VJ V1:=Wo
theorem Q5:∀vs w k,V1 vs w k->vs.length=1:=Wn
theorem Ta(T:Txt K mg)(X:Xt K mg):U4 P w K mg base 1 416 "__str__" "House.__str__" Vq ["self"] (Wc K V1):=by
 refine U4.data (k:=0) X.me_House_str Ol Q5 (λa cdv A outer s H E hr=>⟨_,_,IPSs.get (Ze (Zw (WR rH rJ rK Ra Zs (Za (ZA Ga (ZA Ga (by refine' Yk (Nc:=["row"]) (cap:=[none]) rfl ?i ?k ?g ?t ?e;(case k=>kernel_rfl);(case i=>exact(X0 (Yl (Zj 0))));(case g=>exact(λ_ _ _ _ _=>(Yb 0 (by show List.Nodup (["row"]:List Str);decide +kernel))));(case t=>exact(λ_ _ _ _ _=>Ye));(case e=>exact(λ_ _ _ _ _=>(Zq (Uo (K:=K) rfl) (YD 0) Zd (λ_ _=>rfl))))) (ZV (Za Zs Zc))) (by refine' Yk (Nc:=["row"]) (cap:=[none]) rfl ?i ?k ?g ?t ?e;(case k=>kernel_rfl);(case i=>exact(X0 (Yl (Zj 0))));(case g=>exact(λ_ _ _ _ _=>(Yb 0 (by show List.Nodup (["row"]:List Str);decide +kernel))));(case t=>exact(λ_ _ _ _ _=>Ye));(case e=>exact(λ_ _ _ _ _=>(Zq (Uo (K:=K) rfl) (YD 0) Zd (λ_ _=>rfl)))))) Zc))) Z1),(ZD (YQ (Rb ZS (Zb (ZF (Of false) (ZF (Of false) (YI false (Vd (YA X.hs.cls (X.hs.att "kind_rows" (by decide)) (Zg 0))) (Z8 0) Xo (YJ (ZF XN (Zg 0) ZG))) (X6 false (Zb ZS Zh))) (YI false (Vd (YA X.hs.cls (X.hs.att "bidder_rows" (by decide)) (Zg 0))) (Z8 0) Xo (YJ (ZF XN (Zg 0) ZG)))) Zh))) Yd),λas o q h=>?_⟩)
 obtain⟨a,K,B,r,rfl,hw,⟨ks,bs,rfl,rfl,hk,hb,hj,rfl⟩,hq⟩:=h
 simp! only[Xe,VB]
 refine⟨_,_,hw,rfl,?_⟩
 simp! only[Xe,VB]
 refine Y8 ks J6 (λx=>.str x.1) [] rfl trivial (Ys (by simp;omega)) (λx _ Q hQ=>?_) ?_
 ·simp! only[J6];exact⟨_,ZX (j:=0) rfl,hQ⟩
 simp! only[Xe,VB,sM]
 refine⟨by decide,?_⟩
 simp! only[Xe,VB]
 refine⟨by simp only[Wb];exact zF (by omega:ks.length+1≤65) (by decide),_,_,hw,rfl,?_⟩
 simp! only[Xe,VB]
 refine Y8 bs J6 (λx=>.str x.1) [] rfl trivial (Ys (by simp;omega)) (λx _ Q hQ=>?_) ?_
 ·simp! only[J6];exact⟨_,ZX (j:=0) rfl,hQ⟩
 simp! only[sM]
 exact⟨by simp only[yH,Wb,yP];exact zF (by omega:ks.length+1+bs.length≤129) (by decide),Ox ks bs,by simp[Ox,Function.comp_def],hj,_,OW.le.refl _,hq⟩
theorem FY:∀n,n<65->(Str.ofString (toString ((n:Nat):Int))).length≤2:=by decide +kernel
theorem Wm(a b:Str):(a++b).length=a.length+b.length:=wL
def W_:Xb:=N5 λK B r=>∃ks bs:List PyData,K=.tuple ks/\B=.tuple bs/\ks.length≤64/\bs.length≤64/\r=.str (((((Str.empty++"House(")++Str.ofString (toString (ks.length:Int)))++", ")++Str.ofString (toString (bs.length:Int)))++")")
theorem RW:VJ W_:=Wo
theorem RQ:∀vs w k,W_ vs w k->vs.length=1:=Wn
theorem Qy(T:Txt K mg)(X:Xt K mg):U4 P w K mg base 1 416 "__repr__" "House.__repr__" WD ["self"] (Wc K W_):=by
 refine U4.data (k:=0) X.me_House_repr QC RQ (λa cdv A outer s H E hr=>⟨_,_,IPSs.get (Ze (Zw (KW (MP (Np (Zi Yg rfl T.z_len sW (Za (Yl (Zj 0)) Zc)) (MP (Np (Zi Yg rfl T.z_len sW (Za (Yl (Zj 0)) Zc)) (MP BU))))))) Z1),(ZD (YQ (GH (MU (GL (ZK V7 (Zb (YA X.hs.cls (X.hs.att "kind_rows" (by decide)) (Zg 0)) Zh)) (MU (GL (ZK V7 (Zb (YA X.hs.cls (X.hs.att "bidder_rows" (by decide)) (Zg 0)) Zh)) (MU Ap))))))) Yd),λas o q h=>?_⟩)
 obtain⟨a,K,B,r,rfl,hw,⟨ks,bs,rfl,rfl,hk,hb,rfl⟩,hq⟩:=h
 have l1:=FY ks.length (by omega)
 have l2:=FY bs.length (by omega)
 have z:∀n,n≤100->n≤sizeLine:=λn h=>zF h (by decide)
 have a1:(Str.ofString "House(").length=6:=by decide +kernel
 have a2:(Str.ofString ", ").length=2:=by decide +kernel
 have a3:(Str.ofString ")").length=1:=by decide +kernel
 have a0:Str.empty.length=0:=rfl
 simp! only[Xe,Ie,dJS,dJI,dJ0]
 refine⟨z _ (by simp only[Wm,a0,a1,a2,a3];omega),_,_,hw,rfl,?_⟩
 simp!
 refine⟨zH (log2_le_self _) (by omega),z _ (by simp only[Wm,a0,a1,a2,a3];omega),z _ (by simp only[Wm,a0,a1,a2,a3];omega),_,_,hw,rfl,?_⟩
 simp!
 exact⟨zH (log2_le_self _) (by omega),z _ (by simp only[Wm,a0,a1,a2,a3];omega),z _ (by simp only[Wm,a0,a1,a2,a3];omega),z _ (by simp only[Wm,a0,a1,a2,a3];omega),_,OW.le.refl _,hq⟩
def NF(name:PyData):List (Str×List PyData)->Nat->Option Nat
 | [],_=>none
 | x::r,i=>if PyData.eqv (.str x.1) name=true then some i else NF name r (i+1)
def Xx:S1:=λvs w k kx=>∃a K bs name,vs=[.own a,.d name]/\w a=some (Nj K (.tuple (bs.map J6)))/\bs.length≤64/\(∀x∈bs,P8 (.str x.1) name)/\(match NF name bs 0 with|some i=>k (.d (.int i)) w|none=>J5 10 name=true/\kx name w)
theorem UM:MoX Xx:=λvs w k k' kx kx' h h' ⟨a,K,bs,name,h1,h2,h3,h4,h5⟩=>⟨a,K,bs,name,h1,h2,h3,h4,by
 split at h5
 ·exact h _ _ h5
 ·exact⟨h5.1,h' _ _ h5.2⟩⟩
theorem UJ:∀vs w k kx,Xx vs w k kx->vs.length=2:=λvs w k kx ⟨_,_,_,_,h,_⟩=>by rw[h];rfl
theorem U_(T:Txt K mg)(X:Xt K mg):K0 P w K mg base 16 416 "place_of" "House.place_of" Xi ["self","name"] (spX K 56 "name" Xx):=by
 obtain⟨fI,fdI,c,FI⟩:=X.ex.ini
 have F:=Bo (P:=P) (w:=w) (base:=base) T T.z_KeyError (by kernel_rfl) c FI
 have hbI:=FI.binds (ps:=["self","name"]) FT
 refine K0.data (k:=15) X.me_House_place_of X9 UJ (λa cdv A outer s H B E kx hr hE=>⟨_,_,IPSs.get (Ze (Wz PassesOwn.leaving rfl (TZ true rfl T.z_enumerate (Za (Yl (Zj 0)) Zc)) (VT (n:=2) rfl (Zl (Yz (i:=2) X9.nd rfl (yT rfl)) (Zl (Yz (i:=3) X9.nd rfl (yT rfl)) Yt))) (Zm (Yo (ZP (Sm hr.units) (Zq Xa (Zj 3) Zd (λ_ _=>rfl)) (Zj 1) (Yq _)) (Zm (Zw (Zj 2))) Z1)))
  (Zm (M9 c F M_ (hr.mono (by decide)) hbI X.n_NoBidder (Za (Zj 1) Zc)))),(De (Qh (Rc (Zb (YA X.hs.cls (X.hs.att "bidder_rows" (by decide)) (Zg 0)) Zh)) (V8 (ZQ (Z8 2) (ZQ (Z8 3) WT))) (by nofun)).b
  (MW hE (Zb (Zg 1) Zh))),λas o q h=>?_⟩)
 obtain⟨a,K,bs,name,rfl,hw,hl,he,hq⟩:=h
 simp! only[Xe,CS]
 refine⟨_,_,hw,rfl,?_⟩
 simp!
 refine⟨λi s=>∃o2 o3,s=⟨[some (.own a),some (.d name),o2,o3],o⟩/\NF name (bs.drop i) i=NF name bs 0,⟨none,none,rfl,rfl⟩,λ_ _ _=>trivial,?_,?_⟩
 ·rintro i d s hd ⟨o2,o3,rfl,hp⟩
  obtain⟨x,hx,rfl⟩:=OP hd
  obtain⟨y,hy,rfl⟩:=V5 hx
  rw[OM hy]at hp
  simp! only[J6]
  refine⟨_,ZX (j:=0) rfl,?_⟩
  simp!
  refine⟨he y (yG hy),?_⟩
  cases c:PyData.eqv (.str y.1) name
  ·simp!;exact⟨_,_,rfl,by rw[<- hp,NF,c];rfl⟩
  ·simp!
   have e:NF name bs 0=some i:=by rw[<- hp,NF,c];rfl
   rw[e]at hq
   exact⟨_,OW.le.refl _,hq⟩
 ·rintro s ⟨o2,o3,rfl,hp⟩
  have e:NF name bs 0=none:=by rw[<- hp,show(Wy (bs.map J6)).length=bs.length by simp[Wy],List.drop_length];rfl
  rw[e]at hq
  simp! only[CS]
  exact⟨hq.2,λe k _ z=>TM hq.1 z⟩
end
section
variable {P:Program}{w:World}{K:Frag}{mg:Str->Option Value}{base:Heap}
theorem Rj{c:Nat}{P:List Val->Prop}{R:List Val->PyData->Prop}{vs:List Val}{w:OW}{k:Val->OW->Prop}(h:Qt c P R vs w k):∃u as m,vs=.own u::as/\w=w.put u (.urn m)/\m+c≤1000000/\P as/\∀r m',R as r->m'≤m+c->∃w',w'.le (w.put u (.urn m'))/\k (.d r) w':=by
 unfold Qt at h
 split at h
 ·next u as=>
  obtain⟨m,hm,⟨h1,h2⟩,h3⟩:=h
  exact⟨u,as,m,rfl,(Ad hm).symm,h1,h2,λr m' hr hm'=>⟨_,OW.le.urn' (OW.le.refl w) hm',h3 r hr⟩⟩
 ·exact h.elim
theorem Y3{w:OW}{p u:Addr}{x y:Own}(h:p≠u):(w.put u x).put p y=(w.put p y).put u x:=by
 funext b;unfold OW.put
 by_cases e1:b=p
 ·have:¬b=u:=by rw[e1];exact h
  simp[e1,h]
 ·simp[e1]
theorem J4{α β:Type}{xs:List α}{ys:List β}(hl:ys.length=xs.length){P:α->β->Prop}(h:∀p∈xs.zip ys,P p.1 p.2):∀y∈ys,∃x∈xs,P x y:=λy hy=>by
 obtain⟨j,hj,rfl⟩:=List.getElem_of_mem hy
 exact⟨xs[j]'(by omega),xT _,h (xs[j]'(by omega),ys[j]) (xS.mpr ⟨j,by rw[length_zip];omega,by simp⟩)⟩
theorem C9{α:Type}{p:α->Bool}{P:α->Prop}{l:List α}(h:l.all p=true)(q:∀x,p x=true->P x):∀x∈l,P x:=λx hx=>q x (xC.mp h x hx)
def NB(d:PyData):Bool:=match d with
 | .str z=>!(LX z)
 | _=>true
def thB(d:PyData):Bool:=J5 10 d&&(NB d&&(d.canLay0&&(!d.hasDict&&(d.intsShort 101&&(d.showable&&(decide (d.depth≤10)&&decide (d.weight≤1000)))))))
def K2(d:PyData):Prop:=J5 10 d=true/\NB d=true/\Rp 10 1000 d
theorem Lc{d:PyData}(h:thB d=true):K2 d:=by
 unfold K2 Rp
 simpa[thB,yN]using h
def V3:Xb:=Qt 1 (λas=>as=[]) (λ_ r=>K2 r)
theorem N9:VJ V3:=NA
theorem Nz:∀vs w k,V3 vs w k->vs.length=1:=Ri (n:=0) (by rintro vs rfl;rfl)
theorem Mx(T:Txt K mg):Dn P w K mg base 2 "_law_odd" Tz ["_law_urn_here"] (Wc K V3):=by
 have D_law_draw:=XT (P:=P) (w:=w) (base:=base) T
 refine Dn.dataI (k:=1) T.f_law_odd Ql Nz (λa cdv A outer s H E hr=>⟨_,_,  (Ze (ZN (i:=1) Ql.nd rfl (yT rfl) (ZV (Zt Vl (Zt (YH) (Zt (YH) (Zt Zs (Zt Zs (Zt Zs (Zt (ZC Zc) (Zt (ZV Zc) (Zt (ZC (Za (ZV Zc) Zc)) (Zt (ZV (Za Zd Zc)) (Zt (ZC (Za (YH) Zc)) (Zt (ZC (Za Zd (Za (YH) (Za Zd Zc)))) (Zt (ZC (Za (Eh AF Zd) Zc)) (Zt (ZC (Za Zs Zc)) (Zt (ZC (Za (ZC Zc) Zc)) (Zt (ZC (Za (ZC (Za Zd Zc)) (Za (ZC (Za Zd Zc)) Zc))) (Zt (ZC (Za Vl Zc)) (Zt Zs (Zt (ZC (Za Zd (Za Zs Zc))) (Zt (ZV (Za (ZC (Za Zd (Za Zd Zc))) Zc)) Zc))))))))))))))))))))))
  (Zm (Zw (Zq ZJ (Zj 1) (Z2 D_law_draw ZL (hr.mono (by decide)) (Za (Zj 0) (Za Zd Zc))) (λ_ _=>rfl))))),(by nofun),λas o q h=>?_⟩)
 obtain⟨u,as,m,rfl,hw,hm,rfl,hq⟩:=Rj h
 rw[hw]
 simp!
 have z:∀n,n≤20->n≤sizeLine:=λn h=>zF h (by decide)
 iterate 19 refine xF (z _ (by decide)) ?_
 have hS:∀x∈[PyData.none,.bool true,.bool false,.str "",.str "A",.str "ab1",.tuple [],.list [],.tuple [.list []],.list [.int 0],.tuple [.bool true],.tuple [.int 0,.bool true,.int 0],.tuple [.int (-1)],.tuple [.str "a"],.tuple [.tuple []],.tuple [.tuple [.int 0],.tuple [.int 1]],.tuple [.none],.str "0",.tuple [.int 0,.str "1"],.list [.tuple [.int 0,.int 1]]],K2 x:=C9 (p:=thB) (by decide +kernel) λ_=>Lc
 generalize hL:[PyData.none,.bool true,.bool false,.str "",.str "A",.str "ab1",.tuple [],.list [],.tuple [.list []],.list [.int 0],.tuple [.bool true],.tuple [.int 0,.bool true,.int 0],.tuple [.int (-1)],.tuple [.str "a"],.tuple [.tuple []],.tuple [.tuple [.int 0],.tuple [.int 1]],.tuple [.none],.str "0",.tuple [.int 0,.str "1"],.list [.tuple [.int 0,.int 1]]]=L at *
 have hl:L.length=20:=by rw[<- hL];rfl
 simp!
 refine WN (by omega) (by decide) (by decide) λd h0 h3=>?_
 obtain⟨x,hx,ex⟩:=JE (xs:=L) h0 (by rw[hl];exact h3)
 refine⟨_,ex,?_⟩
 exact hq _ _ (hS x hx) (by omega)
def Ck(c:Nat):Bool:=decide (c<128)&&PySem.Txt.contains YX (Fc c)
def Lw(z:Str):Prop:=z.cps.all Ck=true
theorem Lw.asc{z:Str}(h:Lw z):FC z:=by
 unfold Lw at h;unfold FC
 rw[Array.all_eq_true]at h |-
 intro i hi
 have:=h i hi
 simp only[Ck,yN]at this
 exact this.1
theorem Lw.nm{z:Str}(h:Lw z)(h1:1≤z.length)(h8:z.length≤8):LX z=true:=by
 unfold LX
 rw[yR (by omega:(1:Int)≤z.length),yR (by omega:(z.length:Int)≤8),zV,zV,xC]
 intro c hc
 unfold Lw at h
 rw[<- rL,xC]at h
 have:=h c hc
 simp only[Ck,yN]at this
 exact this.2
def Nm(z:Str):Prop:=Lw z/\1≤z.length/\z.length≤8
def XB:List Str->Nat
 | []=>0
 | z::r=>z.length+XB r
theorem QY(sep:Str):∀(r:List Str) (acc:Array Nat),(∀z∈r,Lw z)->acc.all Ck=true->sep=⟨#[]⟩->(r.foldl (λacc p=>acc++sep.cps++p.cps) acc).all Ck=true/\(r.foldl (λacc p=>acc++sep.cps++p.cps) acc).size=acc.size+XB r
 | [],acc,_,ha,_=>⟨ha,rfl⟩
 | z::r,acc,hr,ha,hs=>by
  have hz:Lw z:=hr z (vM ..)
  obtain⟨h1,h2⟩:=QY sep r (acc++sep.cps++z.cps) (λy hy=>hr y (vN _ hy)) (by subst hs;rw[rM,rM,ha,hz];simp) hs
  refine⟨h1,?_⟩
  rw[rN,h2,XB]
  subst hs
  simp only[wL]
  show acc.size+0+z.cps.size+XB r=acc.size+(z.cps.size+XB r)
  omega
theorem H9{ts:List Str}(h:∀z∈ts,Lw z):Lw (PySem.Txt.join (Str.ofString "") ts)/\(PySem.Txt.join (Str.ofString "") ts).length=XB ts:=by
 cases ts with
 | nil=>exact⟨by unfold Lw;decide +kernel,by decide +kernel⟩
 | cons z r=>
  have hz:Lw z:=h z (vM ..)
  obtain⟨h1,h2⟩:=QY (Str.ofString "") r z.cps (λy hy=>h y (vN _ hy)) hz rfl
  exact⟨h1,h2⟩
theorem Ej{ts:List Str}(h:XB ts≤1000):JoinOk (Str.ofString "") ts=true:=by
 unfold JoinOk
 have key:∀(l:List Str) (n:Nat),l.foldl (λa z=>a+z.length+(Str.ofString "").length) n=n+XB l:=by
  intro l
  induction l with
  | nil=>intro n;rfl
  | cons z r ih=>
   intro n
   rw[rN,ih,XB]
   show n+z.length+0+XB r=_
   omega
 rw[<- Array.foldl_toList,List.toList_toArray,key]
 have:¬(0+XB ts > sizeLine):=by rw[uK];omega
 show(!decide (0+XB ts > sizeLine))=true
 rw[vH this];rfl
def AZ(z:Str):Prop:=Lw z/\z.length=1
theorem Kv:∀{ts:List Str},(∀z∈ts,AZ z)->XB ts=ts.length
 | [],_=>rfl
 | z::r,h=>by
  rw[XB,(h z (vM ..)).2,Kv λy hy=>h y (vN _ hy),uM];omega
theorem HG{i:Int}(h0:0≤i)(h1:i<26):∃c,atI YX.cps.toList i=some c/\AZ (Fc c):=by
 have hl:YX.cps.toList.length=26:=by decide +kernel
 obtain⟨n,rfl⟩:=Int.eq_ofNat_of_zero_le h0
 have h2:n<YX.cps.toList.length:=by omega
 refine⟨YX.cps.toList[n],ZX (M4 h2),?_,rfl⟩
 have ha:YX.cps.toList.all Ck=true:=by decide +kernel
 have:=xC.mp ha _ (xT h2)
 unfold Lw Fc
 rw[<- rL]
 simpa using this
def Sw:Xb:=Qt 10 (λas=>as=[]) (λ_ r=>∃z,r=.str z/\Nm z)
theorem PY:∀vs w k,Sw vs w k->vs.length=1:=Ri (n:=0) (by rintro vs rfl;rfl)
theorem OL(T:Txt K mg):Dn P w K mg base 2 "_law_name" Ue ["_law_urn_here"] (Wc K Sw):=by
 have D_law_draw:=XT (P:=P) (w:=w) (base:=base) T
 refine Dn.data (k:=1) T.f_law_name Ug PY (λa cdv A outer s H E hr=>⟨_,_,IPSs.get (Ze (Te (ZC (Za Zs (Za (ZA Xn Zd (Z2 D_law_draw ZL (hr.mono (by decide)) (Za (Zj 0) (Za (Zq ZJ (ZV (Za Zd (Za Zd (Za Zd Zc)))) (Z2 D_law_draw ZL (hr.mono (by decide)) (Za (Zj 0) (Za Zd Zc))) (λ_ _=>rfl)) Zc)))) Zc))) (VT (n:=2) rfl (Zl (Yz (i:=1) Ug.nd rfl (yU rfl)) (Zl (Yz (i:=2) Ug.nd rfl (yT rfl)) Yt))))
  (Zm (Zw (WR rH rJ rK Ra Zs (Za (by refine' Yk (Nc:=["_law_k","_law_letters","_law_urn_here"]) (cap:=[none,some 1,some 0]) rfl ?i ?k ?g ?t ?e;(case k=>kernel_rfl);(case i=>exact(VU rfl T.z_range (Za (Zj 2) Zc)));(case g=>exact(λ_ _ _ _ _=>(Yb 0 (by show List.Nodup (["_law_k","_law_letters","_law_urn_here"]:List Str);decide +kernel))));(case t=>exact(λ_ _ _ _ _=>Ye));(case e=>exact(λ_ _ _ _ _=>(Zq Hz (RK 1) (Z2 D_law_draw ZL (hr.mono (by decide)) (Za (RK 2) (Za Zd Zc)) (hg:=XQ)) (λ_ _=>rfl))))) Zc))))),(ZD (Kp (Zb ZS (Zb (ZF GN ZG (Y9 Y_ (Zb (Zg 0) (Zb (ZF WA (X6 false (Zb ZG (Zb ZG (Zb ZG Zh)))) (Y9 Y_ (Zb (Zg 0) (Zb ZG Zh)))) Zh)))) Zh)))
  (YQ (Rb ZS (Zb (YI false (Ts (Zb (Zg 2) Zh)) (Z8 0) Xo (YJ (ZF GP (Zg 1) (Y9 Y_ (Zb (Zg 2) (Zb ZG Zh)))))) Zh)))),λas o q h=>?_⟩)
 obtain⟨u,as,m,rfl,hw,hm,rfl,hq⟩:=Rj h
 rw[hw]
 simp!
 refine xF (by decide) ?_
 refine WN (by omega) (by decide) (by decide) λd h0 h3=>?_
 obtain⟨n,hn,n0,n1⟩:∃n:Int,atI [PyData.int 1,.int 3,.int 8] d=some (.int n)/\1≤n/\n≤8:=by
  rcases(by omega:d=0\/d=1\/d=2) with rfl|rfl|rfl
  ·exact⟨1,rfl,by decide,by decide⟩
  ·exact⟨3,rfl,by decide,by decide⟩
  ·exact⟨8,rfl,by decide,by decide⟩
 simp!
 refine⟨_,hn,?_⟩
 refine WN (by omega) (by omega) (by omega) λe g0 g1=>?_
 simp! only[VB]
 refine⟨⟨by omega,by omega⟩,?_⟩
 unfold QB
 refine HH (List.range (1+e).toNat) (λ(i:Nat)=>.int (0+(i:Int))) (λz:Str=>.str z) (λ_ z=>AZ z) 1 rfl (λ_=>trivial) (Ys (by rw[rO];omega)) ?_ ?_
 ·intro i hi m1 hm1 Q hQ
  simp!
  rw[rO]at hm1
  refine WN (by omega) (by decide) (by decide) λx hx0 hx4=>?_
  obtain⟨c,hc,h1⟩:=HG hx0 hx4
  simp! only[IS]
  refine⟨by decide +kernel,c,hc,?_⟩
  exact hQ _ _ h1 (zK _)
 ·intro ys m1 hl hP hm1
  have h1:∀z∈ys,AZ z:=λz hz=>(J4 (P:=λ_ z=>AZ z) hl hP z hz).choose_spec.2
  have hs:=Kv h1
  rw[rO]at hl hm1
  simp!
  have hj:=H9 (ts:=ys) λz hz=>(h1 z hz).1
  refine⟨ys,rfl,Ej (by omega),?_⟩
  exact hq _ _ ⟨_,rfl,hj.1,by rw[hj.2,hs];omega,by rw[hj.2,hs];omega⟩ (by omega)
end
section
variable {P:Program}{w:World}{K:Frag}{mg:Str->Option Value}{base:Heap}
def Nms(n:Nat)(ns:List Str):Prop:=ns.length=n/\(∀z∈ns,Nm z)/\ns.Nodup
theorem Zan{ns:List Str}{z:Str}(h:z∈ns):Vm ns z=true:=by
 unfold Vm
 rw[List.any_map]
 exact sQ.mpr ⟨z,h,(yX z:(z == z)=true)⟩
theorem B1{ns:List Str}{z:Str}(h:Vm ns z=false):z ∉ ns:=λq=>by rw[Zan q]at h;cases h
theorem Zbw:∀n,n<9->(Builtin.Str.strSliceIndices none (some 7) 1 n).length≤7:=by decide +kernel
theorem Zbu{y:Str}(h:y.length≤8):(UZ y none (some 7)).length≤7:=by
 have q:=Zbw y.length (by omega)
 unfold UZ
 split
 ·next c=>rw[<- uL.mp c];exact q
 ·show(((Builtin.Str.strSliceIndices none (some 7) 1 y.length).filterMap (y.cps[·]?)).toArray).size≤_
  rw[yK]
  exact zF (List.length_filterMap_le _ _) q
theorem QP:∀ns:List Str,PyData.depthAll (ns.map PyData.str)=0
 | []=>rfl
 | z::r=>by rw[uO,PyData.depthAll,QP r];simp[PyData.depth]
theorem El{ns:List Str}(h:∀z∈ns,FC z)(hl:ns.length≤1000):(PyData.list (ns.map PyData.str)).hasDict=false/\SeqAt.shaped (.list (ns.map PyData.str))=true:=by
 obtain⟨h1,h2⟩:=Rg ns h
 refine⟨by simpa[PyData.hasDict]using h2,?_⟩
 simp only[SeqAt.shaped,PyData.canLay0,PyData.depth,QP,yN]
 exact⟨h1,by decide⟩
theorem Ca{ns:List Str}{z:Str}(h:Vm ns z=true):z∈ns:=by
 unfold Vm at h
 rw[List.any_map]at h
 obtain⟨y,hy,e⟩:=sQ.mp h
 have e':(y == z)=true:=e
 rw[<- (uL.mp e')];exact hy
theorem Ku{α:Type}[DecidableEq α]:∀{xs ys:List α},xs.Nodup->(∀x∈xs,x∈ys)->xs.length≤ys.length
 | [],_,_,_=>zL _
 | x::xs,ys,hn,hs=>by
  obtain⟨h1,h2⟩:=uY.mp hn
  have hx:x∈ys:=hs x (vM ..)
  have:=Ku (ys:=ys.erase x) h2 λy hy=>(List.mem_erase_of_ne λe=>h1 (by rw[<- e];exact hy)).mpr (hs y (vN _ hy))
  rw[List.length_erase_of_mem hx]at this
  have:=List.length_pos_of_mem hx
  rw[uM];omega
def Wh:List Str:=["qa","qb","qc","qd","qe","qf","qg"]
theorem Qn:Wh.Nodup/\∀z∈Wh,Nm z:=by
 refine⟨by decide +kernel,λz hz=>?_⟩
 have h:Wh.all (λz=>z.cps.all Ck&&(decide (1≤z.length)&&decide (z.length≤8)))=true:=by decide +kernel
 have:=xC.mp h z hz
 simp only[yN,xX]at this
 exact this
theorem BA{ns:List Str}(h:ns.length≤6):∃z r,Wh.filter (λz=>!(Vm ns z))=z::r/\z∈Wh/\Vm ns z=false:=by
 cases e:Wh.filter (λz=>!(Vm ns z)) with
 | nil=>
  have:∀z∈Wh,z∈ns:=λz hz=>by
   have:=List.filter_eq_nil_iff.mp e z hz
   exact Ca (by simpa using this)
  have:=Ku Qn.1 this
  have:Wh.length=7:=rfl
  omega
 | cons z r=>
  have q:=mem_filter.mp (show z∈Wh.filter (λz=>!(Vm ns z)) by rw[e];exact vM ..)
  exact⟨z,r,rfl,q.1,by simpa using q.2⟩
def V2:Xb:=Qt 72 (λas=>∃n:Nat,as=[.d (.int n)]/\n≤6) (λas r=>∃(n:Nat) (ns:List Str),as=[.d (.int n)]/\r=.list (ns.map .str)/\Nms n ns)
theorem Q6:∀vs w k,V2 vs w k->vs.length=2:=Ri (n:=1) (by rintro vs ⟨n,rfl,_⟩;rfl)
theorem P6(T:Txt K mg):Dn P w K mg base 3 "_law_names" Vs ["_law_urn_here","_law_many"] (Wc K V2):=by
 have D_law_draw:=XT (P:=P) (w:=w) (base:=base) T
 have D_law_name:=OL (P:=P) (w:=w) (base:=base) T
 refine Dn.dataI (k:=2) T.f_law_names YK Q6 (λa cdv A outer s H E hr=>⟨_,_,  (Ze (Te (ZC (Za (ZV Zc) (Za (ZV (Za Zs (Za Zs (Za Zs (Za Zs (Za Zs (Za Zs (Za Zs Zc)))))))) Zc))) (VT (n:=2) rfl (Zl (Yz (i:=2) YK.nd rfl (yU rfl)) (Zl (Yz (i:=3) YK.nd rfl (yT rfl)) Yt))))
  (Ze (Wz rD rfl (VU rfl T.z_range (Za (Zj 1) Zc)) (Yz (i:=4) YK.nd rfl (yT rfl)) (Ze (ZN (i:=5) YK.nd rfl (yT rfl) (Z2 D_law_name OB (hr.mono (by decide)) (Za (Zj 0) Zc)))
  (Ze (Yo (IPW.pt (RM (ZP (Qc hr.units) (Zj 2) (ZV Zc) (Yq _)) (Sa (ZP Gb (Z2 D_law_draw ZL (hr.mono (by decide)) (Za (Zj 0) (Za Zd Zc))) Zd (Yq _))))) (Zm (ZN (i:=5) YK.nd rfl (yT rfl) (ZA YY (RF Ax (Zq ZJ (Zj 2) Zd (λ_ _=>rfl)) QT (QU Zd)) (Zq Hz Zs (Z2 D_law_draw ZL (hr.mono (by decide)) (Za (Zj 0) (Za Zd Zc))) (λ_ _=>rfl))))) Z1)
  (Ze (by refine' Wl (i:=6) YK.nd rfl (yT rfl) (Nc:=["_law_one","_law_found"]) (cap:=[none,some 2]) rfl ?i ?k ?g ?t ?e;(case k=>kernel_rfl);(case i=>exact(Xs (Zj 3)));(case g=>exact(λ_ _ _ _ _=>(Yb 0 (by show List.Nodup (["_law_one","_law_found"]:List Str);decide +kernel))));(case t=>exact(λ_ _ _ _ _=>(T_ (ZP (MO (K:=K) rfl hr.units) (YD 0) (RK 1) rfl))));(case e=>exact(λ_ _ _ _ _=>(YD 0))))
  (Zm (Wr (WR rE rF rG Ur (Zj 2) (Za (M8 (ZP (Gd hr.units) (Zj 5) (Zj 2) rfl) (Zq ZJ (Zj 6) Zd (λ_ _=>rfl)) (Zj 5)) Zc))))))))
  (Zm (Zw (Zj 2))))),(ZD (Kp (Zb (X6 true Zh) (Zb (X6 false (Zb ZS (Zb ZS (Zb ZS (Zb ZS (Zb ZS (Zb ZS (Zb ZS Zh)))))))) Zh)))
  (ZD (Qh (Ts (Zb (Zg 1) Zh)) (Z8 4) (ZD (by nofun)
  (ZD (WB (GX (Y4 (ZF Ve (Zg 2) (X6 false Zh))) (Y4 (ZF Kn (Y9 Y_ (Zb (Zg 0) (Zb ZG Zh))) ZG))) (Ub (ZF WU (GI Zbe (ZF WA (Zg 2) ZG) Kr (Ks ZG)) (ZF GP ZS (Y9 Y_ (Zb (Zg 0) (Zb ZG Zh))))) (Z8 5)) Yd)
  (ZD (by nofun)
  (by nofun)))))
  (YQ (An 2)))),λas o q h=>?_⟩)
 obtain⟨u,as,m,rfl,hw,hm,⟨n,rfl,hn⟩,hq⟩:=Rj h
 rw[hw]
 simp!
 refine⟨by decide,λp hp=>⟨by decide,?_⟩⟩
 have hpu:p≠u:=λe=>by rw[e,OW.put_same]at hp;cases hp
 have hpo:o p=none:=by rw[OW.put_ne hpu]at hp;exact hp
 simp!
 refine⟨⟨by omega,by omega⟩,?_⟩
 unfold QB
 refine⟨λi s=>∃(ns:List Str) (o4 o5 o6:Option Val) (m':Nat),s=⟨[some (.own u),some (.d (.int (n:Nat))),some (.own p),some (.d (.list (Wh.map .str))),o4,o5,o6],(o.put p (.lst (ns.map .str))).put u (.urn m')⟩/\Nms i ns/\i≤n/\m'≤m+12*i,⟨[],none,none,none,m,?_,⟨rfl,(λ_ z=>by cases z),List.nodup_nil⟩,zL _,zK _⟩,λ_ _ _=>trivial,?_,?_⟩
 ·rw[Y3 hpu];rfl
 ·rintro i d s hi ⟨ns,o4,o5,o6,m',rfl,hN,hin,hm'⟩
  obtain⟨j,hj,rfl⟩:=V5 hi
  obtain⟨hjl,hjj⟩:=vS.mp hj
  rw[rO]at hjl
  have hjn:i<n:=by omega
  simp!
  refine T3 (by omega) rfl ?_
  rintro r ⟨z,rfl,hz⟩
  simp!
  generalize hR:RP (Iq (KC (Lv _ _ _ _ _ _) _) _) _=R
  have key:∀(z:Str) (m2:Nat) (o4 o6:Option Val),Nm z->m2≤m+12*(i+1)->R ⟨[some (.own u),some (.d (.int (n:Nat))),some (.own p),some (.d (.list (Wh.map .str))),o4,some (.d (.str z)),o6],(o.put p (.lst (ns.map .str))).put u (.urn m2)⟩:=by
   intro z m2 o4 o6 hz1 hm2
   rw[<- hR]
   have hg:((o.put p (.lst (ns.map .str))).put u (.urn m2)) p=some (.lst (ns.map .str)):=by rw[OW.put_ne hpu,OW.put_same]
   have hl2:=Rg ns λz hz=>(hN.2.1 z hz).1.asc
   simp!
   refine UL Wh .str .str (λz=>!(Vm ns z)) [] rfl trivial (by decide) ?_ ?_
   ·intro y hy Q hQ
    simp! only[hg]
    refine⟨⟨rfl,hl2.2,WY (Qn.2 y hy).1.asc,hl2.1,by simp[PyData.depth]⟩,?_⟩
    have c:((ns.map PyData.str).any λw=>PyData.eqv w (.str y))=Vm ns y:=rfl
    rw[c]
    cases h:Vm ns y<;>rw[h]at hQ<;>exact hQ
   ·have hnl:=hN.1
    obtain⟨y,r,e,hy,hyn⟩:=BA (ns:=ns) (by omega)
    rw[sM,e]
    have fin:∀x:Str,Nm x->Vm ns x=false->Nms (i+1) (ns++[x])/\i+1≤n/\m2≤m+12*(i+1):=λx x1 x2=>by
     refine⟨⟨by simp[hnl],λw hw=>?_,?_⟩,by omega,hm2⟩
     ·rcases vQ.mp hw with hw|hw
      ·exact hN.2.1 w hw
      ·rw[xQ.mp hw];exact x1
     ·refine List.nodup_append.mpr ⟨hN.2.2,by simp,λa ha b hb=>?_⟩
      rw[xQ.mp hb]
      exact λe=>B1 x2 (e▸ha)
    have ep:∀x:Str,(((o.put p (.lst (ns.map .str))).put u (.urn m2)).put p (.lst (ns.map .str++[.str x])))=(o.put p (.lst ((ns++[x]).map .str))).put u (.urn m2):=λx=>by
     rw[Y3 hpu,OW.put_put,tO];rfl
    simp! only[hg]
    refine⟨⟨_,rfl⟩,⟨rfl,hl2.2,WY hz1.1.asc,hl2.1,by simp[PyData.depth]⟩,?_⟩
    have c:((ns.map PyData.str).any λw=>PyData.eqv w (.str z))=Vm ns z:=rfl
    rw[c]
    cases h:Vm ns z
    ·simp!
     refine⟨_,rfl,Ys (by rw[Wb];omega),ns++[z],_,_,_,m2,by rw[ep],fin z hz1 h⟩
    ·simp!
     refine⟨_,ZX (j:=0) rfl,_,rfl,Ys (by rw[Wb];omega),ns++[y],_,_,_,m2,by rw[ep],fin y (Qn.2 y hy) hyn⟩
  have hg:((o.put p (.lst (ns.map .str))).put u (.urn (m' + 10))) p=some (.lst (ns.map .str)):=by rw[OW.put_ne hpu,OW.put_same]
  have hok:=El (ns:=ns) (λz hz=>(hN.2.1 z hz).1.asc) (by have:=hN.1;omega)
  refine⟨by decide,?_⟩
  rw[hg]
  simp only
  refine⟨⟨hok.1,rfl,hok.2,by decide +kernel⟩,?_⟩
  have kz:=key z (m' + 10) (some (.d (.int (0+(j:Int))))) o6 hz (by omega)
  cases hns:ns with
  | nil=>
   rw[hns]at kz
   rw[show(PyData.list (List.map PyData.str [])).eqv (PyData.list [])=true from rfl]
   simp!
   exact kz
  | cons y r=>
   rw[show(PyData.list (List.map PyData.str (y::r))).eqv (PyData.list [])=false from rfl]
   simp!
   refine WN (by omega) (by decide) (by decide) λx x0 x1=>?_
   simp only
   have hg2:∀m2,((o.put p (.lst (.str y::r.map .str))).put u (.urn m2)) p=some (.lst (.str y::r.map .str)):=λm2=>by rw[OW.put_ne hpu,OW.put_same]
   obtain⟨ya,y1,y8⟩:=hN.2.1 y (by rw[hns];exact vM ..)
   refine Nt (λc=>?_) (λc=>?_)
   ·simp! only[hg2]
    refine⟨_,ZX (j:=0) rfl,?_⟩
    simp! only[Eb]
    refine⟨zF y8 (by decide),?_⟩
    simp!
    refine WN (by omega) (by decide) (by decide) λe e0 e1=>?_
    obtain⟨ch,hc,hone⟩:=HG e0 e1
    simp! only[IS]
    refine⟨by decide +kernel,ch,hc,?_⟩
    simp! only[Tb]
    have h1:(UZ y none (some 7)).length≤7:=Zbu y8
    have h2:({ cps:=#[ch] }:Str).length=1:=rfl
    have h3:(UZ y none (some 7)++({ cps:=#[ch] }:Str)).length=(UZ y none (some 7)).length+1:=wL
    have h4:Lw (UZ y none (some 7)++({ cps:=#[ch] }:Str)):=by
     show((UZ y none (some 7)).cps++#[ch]).all Ck=true
     rw[rM,yN]
     refine⟨?_,hone.1⟩
     rw[<- rL,xC]
     intro x hx
     have q:=JP hx
     have w:=ya
     unfold Lw at w
     rw[<- rL,xC]at w
     exact w x q
    refine⟨by rw[h2,uK];omega,?_⟩
    have kz2:=key _ (m' + 10+1+1) (some (.d (.int (0+(j:Int))))) o6 ⟨h4,by omega,by omega⟩ (by omega)
    rw[hns]at kz2
    exact kz2
   ·simp!
    have kz2:=key z (m' + 10+1) (some (.d (.int (0+(j:Int))))) o6 hz (by omega)
    rw[hns]at kz2
    exact kz2
 ·rintro s ⟨ns,o4,o5,o6,m',rfl,hN,hin,hm'⟩
  have hg:((o.put p (.lst (ns.map .str))).put u (.urn m')) p=some (.lst (ns.map .str)):=by rw[OW.put_ne hpu,OW.put_same]
  simp!
  refine⟨_,hg,?_⟩
  obtain⟨w',le,hk⟩:=hq _ m' ⟨n,ns,rfl,rfl,by simpa using hN⟩ (by rw[Wb,rO]at hm';omega)
  have hp':(o.put u (.urn m')) p=none:=by rw[OW.put_ne hpu];exact hpo
  refine⟨w',?_,hk⟩
  have h2:=(le.put (le.free hp') (.lst (ns.map .str))).del (le.free hp')
  rw[Y3 hpu]at h2
  exact h2
end
section
variable {P:Program}{w:World}{K:Frag}{mg:Str->Option Value}{base:Heap}
abbrev RI:=Str×List Int
def Y5(x:RI):PyData:=.tuple (.str x.1::x.2.map .int)
def KL:List (Int×Int):=[(1,4),(0,999),(1,99),(0,9)]
def BL:List (Int×Int):=[(0,99)]
def C3(L:List (Int×Int))(x:RI):Prop:=Nm x.1/\x.2.length=L.length/\Pg L (x.2.map .int)=true
def Hs(L:List (Int×Int))(n:Nat)(xs:List RI):Prop:=1≤xs.length/\xs.length≤n/\(∀x∈xs,C3 L x)/\(xs.map (·.1)).Nodup
theorem B0{z:Str}(h:Nm z):R_ (.str z)=true:=h.1.nm h.2.1 h.2.2
theorem Er{ns:List Str}{z:Str}(h:z ∉ ns):Vm ns z=false:=by
 cases e:Vm ns z with
 | false=>rfl
 | true=>exact absurd (Ca e) h
theorem LC{L:List (Int×Int)}:∀(xs:List RI) (names:List Str) (i:Nat),(∀x∈xs,C3 L x)->(names++xs.map (·.1)).Nodup->fw L names i (xs.map Y5)=none
 | [],_,_,_,_=>rfl
 | x::xs,names,i,h,hn=>by
  obtain⟨h1,h2,h3⟩:=h x (vM ..)
  have e1:XM L (Y5 x)=true:=by
   simp only[Y5,XM,Wb,h2,sO,zV,B0 h1,h3]
  have e2:Vm names (nmS (Y5 x))=false:=Er λq=>by
   rw[uO]at hn
   exact(List.nodup_append.mp hn).2.2 _ q _ (vM ..) rfl
  rw[uO,fw,e1,e2]
  refine LC xs _ _ (λy hy=>h y (vN _ hy)) ?_
  show((names++[x.1])++xs.map (·.1)).Nodup
  rw[yV]
  exact hn
theorem Hs.rws{L:List (Int×Int)}{n:Nat}{xs:List RI}(h:Hs L n xs)(hn:n≤6)(hL:L.length≤10):FN (.tuple (xs.map Y5)):=by
 rintro ds e
 cases e
 refine⟨by rw[Wb];have:=h.2.1;omega,λd hd=>?_⟩
 obtain⟨x,hx,rfl⟩:=rP.mp hd
 obtain⟨h1,h2,_⟩:=h.2.2.1 x hx
 exact⟨⟨h1.1.asc,by have:=h1.2.2;omega⟩,by rw[Wb,h2];omega⟩
theorem Hs.part{L:List (Int×Int)}{n:Nat}{xs:List RI}(h:Hs L n xs):Pf n L (.tuple (xs.map Y5))=none:=by
 have e:=LC xs [] 0 h.2.2.1 (by simpa using h.2.2.2)
 simp only[Pf,Wb]
 rw[zU ⟨h.1,by exact_mod_cast h.2.1⟩,e]
theorem M3{ks bs:List RI}(h1:Hs KL 3 ks)(h2:Hs BL 6 bs):Fit (.tuple (ks.map Y5)) (.tuple (bs.map Y5)):=⟨h1.rws (by decide) (by decide),h2.rws (by decide) (by decide),h1.part,h2.part⟩
def Wx:Xb:=Qt 200 (λas=>as=[.d (.int 6)]) (λ_ r=>∃A B,r=.tuple [.tuple (A.map Y5),.tuple (B.map Y5)]/\Hs KL 3 A/\Hs BL 6 B)
theorem U1:∀vs w k,Wx vs w k->vs.length=2:=Ri (n:=1) (by rintro vs rfl;rfl)
theorem Cp{M:Int}{a b c e:Int}{d:Int}(h0:0≤d)(h1:d<4)(ha:1≤a/\a≤M)(hb:1≤b/\b≤M)(hc:1≤c/\c≤M)(he:1≤e/\e≤M):∃n:Int,atI [PyData.int a,.int b,.int c,.int e] d=some (.int n)/\1≤n/\n≤M:=by
 rcases(by omega:d=0\/d=1\/d=2\/d=3) with rfl|rfl|rfl|rfl
 ·exact⟨a,rfl,ha⟩
 ·exact⟨b,rfl,hb⟩
 ·exact⟨c,rfl,hc⟩
 ·exact⟨e,rfl,he⟩
theorem Zav{M:Int}{a b c:Int}{d:Int}(h0:0≤d)(h1:d<3)(ha:1≤a/\a≤M)(hb:1≤b/\b≤M)(hc:1≤c/\c≤M):∃n:Int,atI [PyData.int a,.int b,.int c] d=some (.int n)/\1≤n/\n≤M:=by
 rcases(by omega:d=0\/d=1\/d=2) with rfl|rfl|rfl
 ·exact⟨a,rfl,ha⟩
 ·exact⟨b,rfl,hb⟩
 ·exact⟨c,rfl,hc⟩
theorem UH(T:Txt K mg):Dn P w K mg base 4 "_law_house_parts" YZ ["_law_urn_here","_law_most"] (Wc K Wx):=by
 have D_law_draw:=XT (P:=P) (w:=w) (base:=base) T
 have D_law_names:=P6 (P:=P) (w:=w) (base:=base) T
 refine Dn.dataI (k:=3) T.f_law_house_parts Yi U1 (λa cdv A outer s H E hr=>⟨_,_,  (Ze (KZ 2 3 rfl Yi.nd (Za (ZV Zc) (Za (ZV Zc) Zc)))
  (Ze (Wz rD rfl (Xs (Z2 D_law_names UX (hr.mono (by decide)) (Za (Zj 0) (Za (ZA Xn Zd (Z2 D_law_draw ZL (hr.mono (by decide)) (Za (Zj 0) (Za Zd Zc)))) Zc)))) (Yz (i:=4) Yi.nd rfl (yT rfl)) (Ze (ZN (i:=5) Yi.nd rfl (yT rfl) (Z2 D_law_draw ZL (hr.mono (by decide)) (Za (Zj 0) (Za (Zq ZJ (ZV (Za Zd (Za Zd (Za Zd (Za Zd Zc))))) (Z2 D_law_draw ZL (hr.mono (by decide)) (Za (Zj 0) (Za Zd Zc))) (λ_ _=>rfl)) Zc))))
  (Ze (ZN (i:=6) Yi.nd rfl (yT rfl) (ZA Xn Zd (Z2 D_law_draw ZL (hr.mono (by decide)) (Za (Zj 0) (Za (Zq ZJ (ZV (Za Zd (Za Zd (Za Zd (Za Zd Zc))))) (Z2 D_law_draw ZL (hr.mono (by decide)) (Za (Zj 0) (Za Zd Zc))) (λ_ _=>rfl)) Zc)))))
  (Ze (ZN (i:=7) Yi.nd rfl (yT rfl) (Z2 D_law_draw ZL (hr.mono (by decide)) (Za (Zj 0) (Za (Zq ZJ (ZV (Za Zd (Za Zd (Za Zd Zc)))) (Z2 D_law_draw ZL (hr.mono (by decide)) (Za (Zj 0) (Za Zd Zc))) (λ_ _=>rfl)) Zc))))
  (Zm (Wr (WR rE rF rG Ur (Zj 2) (Za (ZC (Za (Zj 4) (Za (ZA Xn Zd (Z2 D_law_draw ZL (hr.mono (by decide)) (Za (Zj 0) (Za Zd Zc)))) (Za (Zj 5) (Za (Zj 6) (Za (Zj 7) Zc)))))) Zc))))))))
  (Ze (Wz rD rfl (Xs (Z2 D_law_names UX (hr.mono (by decide)) (Za (Zj 0) (Za (ZA Xn Zd (Z2 D_law_draw ZL (hr.mono (by decide)) (Za (Zj 0) (Za (Zj 1) Zc)))) Zc)))) (Yz (i:=4) Yi.nd rfl (yT rfl)) (Zm (Wr (WR rE rF rG Ur (Zj 3) (Za (ZC (Za (Zj 4) (Za (Zq ZJ (ZV (Za Zd (Za Zd (Za Zd (Za (Z2 D_law_draw ZL (hr.mono (by decide)) (Za (Zj 0) (Za Zd Zc))) Zc))))) (Z2 D_law_draw ZL (hr.mono (by decide)) (Za (Zj 0) (Za Zd Zc))) (λ_ _=>rfl)) Zc))) Zc)))))
  (Zm (Zw (ZC (Za (Ym Yx rfl T.z_tuple (by decide +kernel) (Za (Zj 2) Zc)) (Za (Ym Yx rfl T.z_tuple (by decide +kernel) (Za (Zj 3) Zc)) Zc)))))))),(ZD (GU (Zb (X6 true Zh) (Zb (X6 true Zh) Zh)))
  (ZD (by nofun)
  (ZD (by nofun)
  (by nofun)))),λas o q h=>?_⟩)
 obtain⟨u,as,m,rfl,hw,hm,rfl,hq⟩:=Rj h
 rw[hw]
 simp!
 refine⟨by decide,λp1 hp1=>⟨by decide,λp2 hp2=>?_⟩⟩
 simp!
 have h1u:p1≠u:=λe=>by rw[e,OW.put_same]at hp1;cases hp1
 have h1o:o p1=none:=by rw[OW.put_ne h1u]at hp1;exact hp1
 have h21:p2≠p1:=λe=>by rw[e,OW.put_same]at hp2;cases hp2
 rw[OW.put_ne h21]at hp2
 have h2u:p2≠u:=λe=>by rw[e,OW.put_same]at hp2;cases hp2
 have h2o:o p2=none:=by rw[OW.put_ne h2u]at hp2;exact hp2
 obtain⟨W,hW⟩:∃W:List PyData->List PyData->Nat->OW,W=λA B m=>((o.put p1 (.lst A)).put p2 (.lst B)).put u (.urn m):=⟨_,rfl⟩
 have w1:∀A B m,W A B m p1=some (.lst A):=λA B m=>by rw[hW];simp only;rw[OW.put_ne h1u,OW.put_ne (wC h21),OW.put_same]
 have w2:∀A B m,W A B m p2=some (.lst B):=λA B m=>by rw[hW];simp only;rw[OW.put_ne h2u,OW.put_same]
 have aA:∀A B m A',(W A B m).put p1 (.lst A')=W A' B m:=λA B m A'=>by rw[hW];simp only;rw[Y3 h1u,Y3 (wC h21),OW.put_put]
 have a2:∀A B m B',(W A B m).put p2 (.lst B')=W A B' m:=λA B m B'=>by rw[hW];simp only;rw[Y3 h2u,OW.put_put]
 have dr:∀{A B:List PyData}{m:Nat}{wd:Int}{k:Val->OW->Prop},m≤1000000->0<wd->wd<1099511627776->(∀d:Int,0≤d->d<wd->k (.d (.int d)) (W A B (m+1)))->WO [.own u,.d (.int wd)] (W A B m) k:=λx1 x2 x3 x4=>by rw[hW]at x4 |-;exact WN x1 x2 x3 x4
 have w0:(((o.put u (.urn m)).put p1 (.lst [])).put p2 (.lst []))=W [] [] m:=by rw[hW];simp only;rw[Y3 h1u,Y3 h2u]
 have nm:∀{A B:List PyData}{m:Nat}{n:Nat}{k:Val->OW->Prop},m+72≤1000000->n≤6->(∀ns:List Str,Nms n ns->k (.d (.list (ns.map .str))) (W A B (m+72)))->V2 [.own u,.d (.int n)] (W A B m) k:=λx1 x2 x3=>by
  rw[hW]at x3 |-
  refine T3 x1 ⟨_,rfl,x2⟩ ?_
  rintro r ⟨n',ns,e,rfl,hN⟩
  have e2:=Int.ofNat_inj.mp (PyData.int.inj (Val.d.inj (List.cons.inj e).1))
  subst e2
  exact x3 ns hN
 rw[w0]
 refine dr (by omega) (by decide) (by decide) λd d0 d1=>?_
 obtain⟨k,hk⟩:∃k:Nat,1+d=k:=⟨(1+d).toNat,by omega⟩
 simp only
 rw[hk]
 refine nm (by omega) (by omega) λns hN=>?_
 simp!
 refine⟨λi s=>∃(A:List RI) (o4 o5 o6 o7:Option Val) (m':Nat),s=⟨[some (.own u),some (.d (.int 6)),some (.own p1),some (.own p2),o4,o5,o6,o7],W (A.map Y5) [] m'⟩/\A.map (·.1)=ns.take i/\(∀d∈A,C3 KL d)/\i≤k/\m'≤m+73+7*i,⟨[],none,none,none,none,_,rfl,rfl,(λ_ z=>by cases z),zL _,zK _⟩,λ_ _ _=>trivial,?_,?_⟩
 ·rintro i x s hi ⟨A,o4,o5,o6,o7,m',rfl,hA,hG,hik,hm'⟩
  obtain⟨z,hz,rfl⟩:=V5 hi
  have hzn:=hN.2.1 z (yG hz)
  have hil:=(vS.mp hz).1
  rw[hN.1]at hil
  simp!
  refine⟨by decide,dr (by omega) (by decide) (by decide) λa a0 a1=>?_⟩
  obtain⟨n,hn,n0,n1⟩:=Cp (M:=1000) (a:=1) (b:=5) (c:=30) (e:=1000) a0 a1 (by decide) (by decide) (by decide) (by decide)
  refine⟨_,hn,dr (by omega) (by omega) (by omega) λprice pr0 pr1=>?_⟩
  simp!
  refine⟨by decide,dr (by omega) (by decide) (by decide) λa a0 a1=>?_⟩
  obtain⟨n,hn,n0,n1⟩:=Cp (M:=99) (a:=1) (b:=5) (c:=20) (e:=99) a0 a1 (by decide) (by decide) (by decide) (by decide)
  refine⟨_,hn,dr (by omega) (by omega) (by omega) λstep st0 st1=>?_⟩
  simp!
  refine⟨by decide,dr (by omega) (by decide) (by decide) λa a0 a1=>?_⟩
  obtain⟨n,hn,n0,n1⟩:=Zav (M:=10) (a:=1) (b:=2) (c:=10) a0 a1 (by decide) (by decide) (by decide)
  refine⟨_,hn,dr (by omega) (by omega) (by omega) λpoints po0 po1=>?_⟩
  simp! only[w1]
  refine⟨⟨_,rfl⟩,dr (by omega) (by decide) (by decide) λam am0 am1=>?_⟩
  simp only
  refine⟨by decide,_,w1 _ _ _,Ys (by have:=zR List.length hA;rw[Wb,yC]at this;rw[Wb];omega),A++[(z,[1+am,price,1+step,points])],_,_,_,_,m' + 7,by rw[aA,tO];rfl,by rw[tO,hA,take_add_one,hz];rfl,λd hd=>?_,by omega,by omega⟩
  rcases vQ.mp hd with hd|hd
  ·exact hG d hd
  ·rw[xQ.mp hd]
   refine⟨hzn,rfl,?_⟩
   show(decide (1≤1+am)&&decide (1+am≤4)&&(decide (0≤price)&&decide (price≤999)&&(decide (1≤1+step)&&decide (1+step≤99)&&(decide (0≤points)&&decide (points≤9)&&true))))=true
   simp only[yN,xX,sH]
   omega
 ·rintro s ⟨A,o4,o5,o6,o7,m',rfl,hA,hG,hik,hm'⟩
  rw[Wb,hN.1]at hm'
  rw[Wb,tG]at hA
  have hAl:A.length=k:=by have:=zR List.length hA;rw[Wb,hN.1]at this;exact this
  simp!
  refine dr (by omega) (by decide) (by decide) λd2 e0 e1=>?_
  obtain⟨k2,hk2⟩:∃k:Nat,1+d2=k:=⟨(1+d2).toNat,by omega⟩
  simp only
  rw[hk2]
  refine nm (by omega) (by omega) λns2 hN2=>?_
  simp!
  refine⟨λi s=>∃(B:List RI) (o4:Option Val) (m2:Nat),s=⟨[some (.own u),some (.d (.int 6)),some (.own p1),some (.own p2),o4,o5,o6,o7],W (A.map Y5) (B.map Y5) m2⟩/\B.map (·.1)=ns2.take i/\(∀d∈B,C3 BL d)/\i≤k2/\m2≤m' + 73+2*i,⟨[],_,_,rfl,rfl,(λ_ z=>by cases z),zL _,zK _⟩,λ_ _ _=>trivial,?_,?_⟩
  ·rintro i x s hi ⟨B,o4,m2,rfl,hB,hGB,hik2,hm2⟩
   obtain⟨z,hz,rfl⟩:=V5 hi
   have hzn:=hN2.2.1 z (yG hz)
   have hil:=(vS.mp hz).1
   rw[hN2.1]at hil
   simp!
   refine⟨⟨_,w2 _ _ _⟩,dr (by omega) (by decide) (by decide) λv v0 v1=>?_⟩
   simp!
   refine⟨by decide,dr (by omega) (by decide) (by decide) λc c0 c1=>?_⟩
   obtain⟨x,ex,x0,x1⟩:∃x:Int,atI [PyData.int 99,.int 99,.int 99,.int v] c=some (.int x)/\0≤x/\x≤99:=by
    rcases(by omega:c=0\/c=1\/c=2\/c=3) with rfl|rfl|rfl|rfl
    ·exact⟨_,rfl,by decide,by decide⟩
    ·exact⟨_,rfl,by decide,by decide⟩
    ·exact⟨_,rfl,by decide,by decide⟩
    ·exact⟨_,rfl,v0,by omega⟩
   refine⟨_,ex,by decide,_,w2 _ _ _,Ys (by have:=zR List.length hB;rw[Wb,yC]at this;rw[Wb];omega),B++[(z,[x])],_,m2+2,by rw[a2,tO];rfl,by rw[tO,hB,take_add_one,hz];rfl,λd hd=>?_,by omega,by omega⟩
   rcases vQ.mp hd with hd|hd
   ·exact hGB d hd
   ·rw[xQ.mp hd]
    refine⟨hzn,rfl,?_⟩
    show(decide (0≤x)&&decide (x≤99)&&true)=true
    simp only[yN,xX,sH]
    omega
  ·rintro s ⟨B,o4,m2,rfl,hB,hGB,hik2,hm2⟩
   rw[Wb,hN2.1]at hm2
   rw[Wb,tG]at hB
   have hBl:B.length=k2:=by have:=zR List.length hB;rw[Wb,hN2.1]at this;exact this
   simp! only[w1,w2]
   obtain⟨w',le,hk'⟩:=hq _ m2 ⟨A,B,rfl,⟨by omega,by omega,hG,by rw[hA];exact hN.2.2⟩,⟨by omega,by omega,hGB,by rw[hB];exact hN2.2.2⟩⟩ (by omega)
   refine⟨by decide,w',?_,hk'⟩
   have q1:(o.put u (.urn m2)) p1=none:=by rw[OW.put_ne h1u];exact h1o
   have q2:(o.put u (.urn m2)) p2=none:=by rw[OW.put_ne h2u];exact h2o
   have e:W (A.map Y5) (B.map Y5) m2=((o.put u (.urn m2)).put p1 (.lst (A.map Y5))).put p2 (.lst (B.map Y5)):=by rw[hW];simp only;rw[Y3 h1u,Y3 h2u]
   rw[e]
   exact(le.put (le.free q1) _).put (le.free q2) _
end
section
variable {P:Program}{w:World}{K:Frag}{mg:Str->Option Value}{base:Heap}
def Pm(name:PyData)(bs:List (Str×List PyData)):PyData:=match NF name bs 0 with
 | some i=>.tuple [.str "place",.int i]
 | none=>.tuple [.str "NoBidder",name]
def Xy:Xb:=λvs w k=>∃a K bs name,vs=[.own a,.d name]/\w a=some (Nj K (.tuple (bs.map J6)))/\bs.length≤64/\(∀x∈bs,P8 (.str x.1) name)/\J5 10 name=true/\k (.d (Pm name bs)) w
theorem W5:VJ Xy:=λvs w k k' h ⟨a,K,bs,name,h1,h2,h3,h4,h5,h6⟩=>⟨a,K,bs,name,h1,h2,h3,h4,h5,h _ _ h6⟩
theorem UK:∀vs w k,Xy vs w k->vs.length=2:=λvs w k ⟨_,_,_,_,h,_⟩=>by rw[h];rfl
theorem WM(T:Txt K mg)(X:Xt K mg):Dn P w K mg base 17 "_law_place_told" YN ["_law_house","_law_name_here"] (Wc K Xy):=by
 have D_House_place_of:=U_ (P:=P) (w:=w) (base:=base) T X
 have D_law_which:=P7 (P:=P) (w:=w) (base:=base) T X
 obtain⟨fI,fdI,c,FI⟩:=X.ex.ini
 refine Dn.data (k:=16) T.f_law_place_told WV UK (λa cdv A outer s H E hr=>?_)
 have hrH:∀e,Xv 16 ((A.deeper (envOfC "_law_place_told" (Zf YN) s.heap.objs.size a cdv)).mark (some (.ref e))):=λe=>⟨rfl,hr.dp,hr.un,hr.gd⟩
 refine⟨_,_,IPSs.get (Ze (Nr (j:=2) c X.n_NoBidder D_House_place_of X.hs.cls UU (hr.mono (by decide)) (Zj 0) (Za (Zj 1) Zc) (λe d=>(Zm (Zw (ZC (Za (KU D_law_which Pw ((hrH e).mono (by decide)) (Za (Zj 2) Zc)) (Za (M7 X.ex.cls.toExGet X.ex.cls.hd X.ex.fld (Zj 2)) Zc)))))) WV.nd) Z1),(ZD (Dd UM (Zg 0) (Zb (Zg 1) Zh) (λe d=>(YQ (YO (Zb (GF rfl Q9 (Zb (Zg 2) Zh)) (Zb (Am (Zg 2)) Zh)))))) Yd),λas o q h=>?_⟩
 obtain⟨a,K,bs,name,rfl,hw,hl,he,hc,hq⟩:=h
 simp! only[DN]
 refine⟨⟨_,hw,rfl⟩,a,K,bs,name,rfl,hw,hl,he,?_⟩
 unfold Pm at hq
 cases c:NF name bs 0 with
 | some i=>
  rw[c]at hq
  exact⟨_,rfl,_,OW.le.refl _,hq⟩
 | none=>
  rw[c]at hq
  refine⟨hc,λe d=>?_⟩
  simp! only[JU,Za4,Mp]
  refine⟨⟨56,_,_,yG (i:=2) rfl⟩,_,⟨e,_,_,rfl,rfl⟩,?_⟩
  refine⟨name,rfl,by show(2:Nat)≤sizeLine;decide,?_⟩
  exact⟨_,OW.le.refl _,hq⟩
end
section
variable {P:Program}{w:World}{K:Frag}{mg:Str->Option Value}{base:Heap}
theorem YE{D W:Nat}{d:PyData}(h:Rp D W d)(hD:D≤64):d.hasDict=false/\SeqAt.shaped d=true:=by
 obtain⟨q1,q2,q3,q4,q5,q6⟩:=h
 exact⟨q2,by unfold SeqAt.shaped;rw[q1,yR (by omega)];rfl⟩
theorem Tt{D W:Nat}{d:PyData}(h:Rp D W d)(hD:D≤64):P8 d d/\d.eqv d=true:=by
 obtain⟨h1,h2⟩:=YE h hD
 exact⟨⟨h1,h1,h2,h2⟩,SeqAt.eqv_refl d h.1⟩
theorem Oe:∀{L:List (Int×Int)}{ns:List Int},(∀p∈L,0≤p.1/\p.2≤1000)->ns.length=L.length->Pg L (ns.map .int)=true->∀n∈ns,0≤n/\n≤1000
 | [],[],_,_,_=>λn h=>by cases h
 | [],_::_,_,h,_=>by cases h
 | _::_,[],_,h,_=>by cases h
 | (a,b)::L,m::ns,hp,hl,hr=>by
  have hr':(Mq (.int m) a b&&Pg L (ns.map .int))=true:=hr
  rw[yN]at hr'
  obtain⟨h1,h2⟩:=hr'
  have h1':(decide (a≤m)&&decide (m≤b))=true:=h1
  simp only[yN,xX]at h1'
  have hab:=hp _ (vM ..)
  intro n hn
  rcases vP.mp hn with rfl|hn
  ·exact⟨by have:=hab.1;simp only at this;omega,by have:=hab.2;simp only at this;omega⟩
  ·exact Oe (λp q=>hp p (vN _ q)) (tM hl) h2 n hn
theorem GR{L:List (Int×Int)}{x:RI}(h:C3 L x)(hp:∀p∈L,0≤p.1/\p.2≤1000)(hL:L.length≤4):Rp 1 500 (Y5 x):=by
 obtain⟨⟨h1,h2,h3⟩,h4,h5⟩:=h
 have hb:=Oe hp h4 h5
 refine Rp.tup (Vv.cons ((Rp.str (WY h1.asc)).mono (zK 0) (show x.1.cps.size≤8 from h3)) (Vv.map x.2 λn hn=>Rp.int ?_) ?_)
 ·have:=hb n hn
  exact zH (by omega:n.natAbs≤1000) (by decide)
 ·have:x.2.length≤4:=by omega
  have:=rQ 101 this
  omega
theorem Uv{L:List (Int×Int)}{n:Nat}{xs:List RI}(h:Hs L n xs)(hn:n≤6)(hp:∀p∈L,0≤p.1/\p.2≤1000)(hL:L.length≤4):Rp 2 3006 (.tuple (xs.map Y5)):=by
 refine(Rp.tup (Vv.map xs λx hx=>GR (h.2.2.1 x hx) hp hL)).mono (zK _) ?_
 have:xs.length≤6:=by have:=h.2.1;omega
 have:=rQ (500+1) this
 omega
theorem bdK:∀p∈KL,0≤p.1/\p.2≤1000:=by decide
theorem bdB:∀p∈BL,0≤p.1/\p.2≤1000:=by decide
def toK(x:RI):KR:=(.str x.1,.int (x.2.getD 0 0),.int (x.2.getD 1 0),.int (x.2.getD 2 0),.int (x.2.getD 3 0))
theorem Du{x:RI}(h:C3 KL x):R4 (toK x)=Y5 x:=by
 obtain⟨z,ns⟩:=x
 have hl:ns.length=4:=h.2.1
 obtain⟨a,b,c,d,rfl⟩:∃a b c d,ns=[a,b,c,d]:=by
  match ns,hl with
  | [a,b,c,d],_=>exact⟨a,b,c,d,rfl⟩
 rfl
theorem Fw{ks:List RI}{n:Nat}(h:Hs KL n ks):ks.map Y5=(ks.map toK).map R4:=by
 rw[tP]
 exact List.map_congr_left λx hx=>(Du (h.2.2.1 x hx)).symm
def col(ks:List RI)(i:Nat):PyData:=.tuple (ks.map λx=>.int (x.2.getD i 0))
theorem CA{x:RI}(h:C3 KL x){i:Nat}(hi:i<4):atI (PyData.str x.1::x.2.map .int) (1+(i:Int))=some (.int (x.2.getD i 0)):=by
 have hl:x.2.length=4:=h.2.1
 have e:(1+(i:Int))=((i+1:Nat):Int):=by omega
 rw[e]
 refine ZX ?_
 rw[tJ,yF,xR,M4 (by omega:i<x.2.length)]
 rfl
theorem CF{ks:List RI}{n:Nat}(h:Hs KL n ks)(hn:n≤6)(i:Nat):Rp 1 606 (col ks i):=by
 refine(Rp.tup (Vv.map ks λx hx=>Rp.int ?_)).mono (zK _) ?_
 ·obtain⟨h1,h2,h3⟩:=h.2.2.1 x hx
  have hb:=Oe bdK h2 h3
  rw[xR]
  cases e:x.2[i]? with
  | none=>decide
  | some v=>
   have:=hb v (yG e)
   exact zH (by show v.natAbs≤1000;omega) (by decide)
 ·have:ks.length≤6:=by have:=h.2.1;omega
  have:=rQ (100+1) this
  omega
theorem OX(sep:Str):∀(r:List Str) (a b:Array Nat),r.foldl (λacc p=>acc++sep.cps++p.cps) (a++b)=a++r.foldl (λacc p=>acc++sep.cps++p.cps) b
 | [],_,_=>rfl
 | z::r,a,b=>by
  rw[rN,rN,<- OX sep r a,vK,vK,vK]
theorem HA(z y:Str)(r t:List Str):PySem.Txt.join " " ((z::r)++[(":" : Str)]++(y::t))=PySem.Txt.join " " (z::r)++" : "++PySem.Txt.join " " (y::t):=by
 have l:PySem.Txt.join " " ((z::r)++[(":" : Str)]++(y::t))=⟨((r++[(":" : Str)])++(y::t)).foldl (λacc p=>acc++(Str.ofString " ").cps++p.cps) z.cps⟩:=rfl
 rw[l,List.foldl_append,rN,List.foldl_append,OX]
 have e:((" " : Str).cps++(":" : Str).cps++(" " : Str).cps)=(" : " : Str).cps:=by decide +kernel
 show(⟨_⟩:Str)=⟨(r.foldl _ z.cps++(" : " : Str).cps)++t.foldl _ y.cps⟩
 rw[<- e]
 simp only[rN,List.foldl_nil,vK]
theorem Oy{n:Nat}:∀{ts:List Str},(∀z∈ts,z.length≤n)->XB ts≤n*ts.length
 | [],_=>zL _
 | z::r,h=>by
  have h1:=h z (vM ..)
  have h2:=Oy (ts:=r) λy hy=>h y (vN _ hy)
  rw[XB,uM,Nat.mul_add,Nat.mul_one];omega
theorem RN{ts:List Str}(h:XB ts+ts.length≤1000):JoinOk (Str.ofString " ") ts=true:=by
 unfold JoinOk
 have key:∀(l:List Str) (n:Nat),l.foldl (λa z=>a+z.length+(Str.ofString " ").length) n=n+XB l+l.length:=by
  intro l
  induction l with
  | nil=>intro n;rfl
  | cons z r ih=>
   intro n
   rw[rN,ih,XB,uM]
   show n+z.length+1+XB r+r.length=_
   omega
 rw[<- Array.foldl_toList,List.toList_toArray,key]
 have:¬(0+XB ts+ts.length > sizeLine):=by rw[uK];omega
 show(!decide (0+XB ts+ts.length > sizeLine))=true
 rw[vH this];rfl
theorem OY(sep:Str):∀(r:List Str) (a:Array Nat),(r.foldl (λacc p=>acc++sep.cps++p.cps) a).size=a.size+XB r+r.length*sep.length
 | [],a=>by simp[XB]
 | z::r,a=>by
  rw[rN,OY sep r,XB,uM,Nat.add_mul,wL,wL]
  show a.size+sep.length+z.length+XB r+r.length*sep.length=_
  omega
theorem Nv{ts:List Str}:(PySem.Txt.join " " ts).length≤XB ts+ts.length:=by
 cases ts with
 | nil=>decide +kernel
 | cons z r=>
  show(r.foldl (λacc p=>acc++(Str.ofString " ").cps++p.cps) z.cps).size≤_
  rw[OY,XB,uM]
  show z.length+XB r+r.length*1≤_
  omega
def rk(x:RI):Str×List PyData:=(x.1,x.2.map .int)
theorem Uu(xs:List RI):xs.map Y5=(xs.map rk).map J6:=by rw[tP];rfl
theorem Dp(ks bs:List RI):Ox (ks.map rk) (bs.map rk)=ks.map (·.1)++[(":" : Str)]++bs.map (·.1):=by
 unfold Ox
 rw[tP,tP];rfl
theorem NP{L L':List (Int×Int)}{n n':Nat}{ks bs:List RI}(h:Hs L n ks)(h':Hs L' n' bs)(hn:n≤6)(hn':n'≤6):JoinOk " " (Ox (ks.map rk) (bs.map rk))=true/\PySem.Txt.join " " (Ox (ks.map rk) (bs.map rk))=PySem.Txt.join " " (ks.map (·.1))++" : "++PySem.Txt.join " " (bs.map (·.1)):=by
 rw[Dp]
 have h1:=h.1
 have h2:=h.2.1
 have h3:=h'.1
 have h4:=h'.2.1
 constructor
 ·refine RN ?_
  have q:∀z∈ks.map (·.1)++[(":" : Str)]++bs.map (·.1),z.length≤8:=λz hz=>by
   rcases vQ.mp hz with hz|hz
   ·rcases vQ.mp hz with hz|hz
    ·obtain⟨x,hx,rfl⟩:=rP.mp hz
     exact(h.2.2.1 x hx).1.2.2
    ·rw[xQ.mp hz];decide +kernel
   ·obtain⟨x,hx,rfl⟩:=rP.mp hz
    exact(h'.2.2.1 x hx).1.2.2
  have:=Oy q
  simp only[yH,Wb,yP]at this |-
  omega
 ·cases ks with
  | nil=>simp at h1
  | cons x r=>
   cases bs with
   | nil=>simp at h3
   | cons y t=>exact HA x.1 y.1 (r.map (·.1)) (t.map (·.1))
theorem Gw:∀{bs:List (Str×List PyData)}{k i:Nat}{x:Str×List PyData},bs[k]? = some x->(bs.map (·.1)).Nodup->NF (.str x.1) bs i=some (i+k)
 | [],_,_,_,h,_=>by cases h
 | y::r,0,i,x,h,_=>by
  cases h
  have q:PyData.eqv (.str y.1) (.str y.1)=true:=(yX y.1:(y.1 == y.1)=true)
  rw[NF,zU q];rfl
 | y::r,k+1,i,x,h,hn=>by
  rw[uO,uY]at hn
  have hx:x∈r:=yG (by simpa using h)
  have ne:¬(PyData.eqv (.str y.1) (.str x.1)=true):=λq=>by
   have q':(y.1 == x.1)=true:=q
   exact hn.1 (by rw[uL.mp q'];exact rP.mpr ⟨x,hx,rfl⟩)
  rw[NF,wT ne,Gw (k:=k) (i:=i+1) (by simpa using h) hn.2]
  congr 1;omega
theorem NG{name:PyData}:∀{bs:List (Str×List PyData)}{i:Nat},(∀x∈bs,PyData.eqv (.str x.1) name=false)->NF name bs i=none
 | [],_,_=>rfl
 | y::r,i,h=>by
  rw[NF,wT (by rw[h y (vM ..)];exact wU)]
  exact NG λx hx=>h x (vN _ hx)
end
section
variable {P:Program}{w:World}{K:Frag}{mg:Str->Option Value}{base:Heap}
def Wf:Xb:=λvs w k=>∃a ks bs,vs=[.own a,.d (.tuple (ks.map Y5)),.d (.tuple (bs.map Y5))]/\w a=some (Nj (.tuple (ks.map Y5)) (.tuple (bs.map Y5)))/\Hs KL 3 ks/\Hs BL 6 bs/\k (.d (.bool true)) w
theorem Sk:VJ Wf:=λvs w k k' h ⟨a,K,bs,h1,h2,h3,h4,h5⟩=>⟨a,K,bs,h1,h2,h3,h4,h _ _ h5⟩
theorem Sg:∀vs w k,Wf vs w k->vs.length=3:=λvs w k ⟨_,_,_,h,_⟩=>by rw[h];rfl
theorem SA(T:Txt K mg)(X:Xt K mg):Dn P w K mg base 18 "_law_is_right" X_ ["_law_house","_law_several","_law_bidders"] (Wc K Wf):=by
 have D_House_amounts:=TQ (P:=P) (w:=w) (base:=base) T X
 have D_House_bidders:=TR (P:=P) (w:=w) (base:=base) T X
 have D_House_kinds:=Ry (P:=P) (w:=w) (base:=base) T X
 have D_House_len:=P5 (P:=P) (w:=w) (base:=base) T X
 have D_House_points:=S7 (P:=P) (w:=w) (base:=base) T X
 have D_House_prices:=S8 (P:=P) (w:=w) (base:=base) T X
 have D_House_repr:=Qy (P:=P) (w:=w) (base:=base) T X
 have D_House_steps:=Rz (P:=P) (w:=w) (base:=base) T X
 have D_House_str:=Ta (P:=P) (w:=w) (base:=base) T X
 have D_law_place_told:=WM (P:=P) (w:=w) (base:=base) T X
 refine Dn.dataI (k:=17) T.f_law_is_right Wg Sg (λa cdv A outer s H E hr=>⟨_,_,  (Ze (by refine' Wl (i:=3) Wg.nd rfl (yT rfl) (Nc:=["_law_k","_law_several"]) (cap:=[none,some 1]) rfl ?i ?k ?g ?t ?e;(case k=>kernel_rfl);(case i=>exact(Nl rfl T.z_range (Za Zd (Za Zd Zc))));(case g=>exact(λ_ _ _ _ _=>(Zak 0 (by show List.Nodup (["_law_k","_law_several"]:List Str);decide +kernel))));(case t=>exact(λ_ _ _ _ _=>Ye));(case e=>exact(λ_ _ _ _ _=>(Ym (Rr (K:=K) rfl) XQ T.z_tuple (by decide +kernel) (Za (by refine' Yk (Nc:=["_law_one","_law_k"]) (cap:=[none,some 0]) rfl ?i ?k ?g ?t ?e;(case k=>kernel_rfl);(case i=>exact(KY (K:=K) rfl (RK 1)));(case g=>exact(λ_ _ _ _ _=>(Yb 0 (by show List.Nodup (["_law_one","_law_k"]:List Str);decide +kernel))));(case t=>exact(λ_ _ _ _ _=>Ye));(case e=>exact(λ_ _ _ _ _=>(Zq (Uo (K:=K) rfl) (YD 0) (RK 1) (λ_ _=>rfl))))) Zc)))))
  (Ze (Yo (ZP (Qc hr.units) (ZV (Za (Xr D_House_amounts X.hs.cls T9 (hr.mono (by decide)) (Zj 0)) (Za (Xr D_House_prices X.hs.cls S4 (hr.mono (by decide)) (Zj 0)) (Za (Xr D_House_steps X.hs.cls Ro (hr.mono (by decide)) (Zj 0)) (Za (Xr D_House_points X.hs.cls S3 (hr.mono (by decide)) (Zj 0)) Zc))))) (Zj 3) (Yq _)) (Zm (Zw (YH))) Z1)
  (Ze (Yo (IPW.pt (XR (ZP (Qc hr.units) (Xr D_House_kinds X.hs.cls Rn (hr.mono (by decide)) (Zj 0)) (Zj 1) (Yq _)) (XR (ZP (Qc hr.units) (Xr D_House_bidders X.hs.cls TB (hr.mono (by decide)) (Zj 0)) (Zj 2) (Yq _)) (XR (ZP Kb (Zi (FW D_House_len UT (hr.mono (by decide))) rfl T.z_len sW (Za (Zj 0) Zc)) (Zi Yg rfl T.z_len sW (Za (Zj 2) Zc)) (Yq _)) (W3 (Xf (K_ D_House_len UT (hr.mono (by decide)) X.nb (Zj 0)))))))) (Zm (Zw (YH))) Z1)
  (Ze (ZN (i:=4) Wg.nd rfl (yT rfl) (ZA YY (ZA YY (WR rH rJ rK Ra Zs (Za (by refine' Yk (Nc:=["_law_one"]) (cap:=[none]) rfl ?i ?k ?g ?t ?e;(case k=>kernel_rfl);(case i=>exact(X0 (Zj 1)));(case g=>exact(λ_ _ _ _ _=>(Yb 0 (by show List.Nodup (["_law_one"]:List Str);decide +kernel))));(case t=>exact(λ_ _ _ _ _=>Ye));(case e=>exact(λ_ _ _ _ _=>(Zq (Uo (K:=K) rfl) (YD 0) Zd (λ_ _=>rfl))))) Zc)) Zs) (WR rH rJ rK Ra Zs (Za (by refine' Yk (Nc:=["_law_one"]) (cap:=[none]) rfl ?i ?k ?g ?t ?e;(case k=>kernel_rfl);(case i=>exact(X0 (Zj 2)));(case g=>exact(λ_ _ _ _ _=>(Yb 0 (by show List.Nodup (["_law_one"]:List Str);decide +kernel))));(case t=>exact(λ_ _ _ _ _=>Ye));(case e=>exact(λ_ _ _ _ _=>(Zq (Uo (K:=K) rfl) (YD 0) Zd (λ_ _=>rfl))))) Zc))))
  (Ze (Yo (IPW.pt (XR (ZP Kb (Ym (Lu D_House_str UW (hr.mono (by decide))) rfl T.z_str (by decide +kernel) (Za (Zj 0) Zc)) (Zj 4) (Yq _)) (W3 (ZP Kb (Zi (JN D_House_repr Qw (hr.mono (by decide))) rfl T.z_repr boot_repr (Za (Zj 0) Zc)) (ZA YY (ZA YY (ZA YY (ZA YY Zs (Ym UY rfl T.z_str (by decide +kernel) (Za (Zi Yg rfl T.z_len sW (Za (Zj 1) Zc)) Zc))) Zs) (Ym UY rfl T.z_str (by decide +kernel) (Za (Zi Yg rfl T.z_len sW (Za (Zj 2) Zc)) Zc))) Zs) (Yq _))))) (Zm (Zw (YH))) Z1)
  (Zm (Zw (Zi (TH rfl) rfl T.z_all boot_all (Za (by refine' Yk (Nc:=["_law_k","_law_one","_law_house"]) (cap:=[none,none,some 0]) rfl ?i ?k ?g ?t ?e;(case k=>kernel_rfl);(case i=>exact(TZ true rfl T.z_enumerate (Za (Zj 2) Zc)));(case g=>exact(λ_ _ _ _ _=>(YM (K:=K) rfl (n:=2) rfl (Zl (Yb 0 (by show List.Nodup (["_law_k","_law_one","_law_house"]:List Str);decide +kernel)) (Zl (Yb 1 (by show List.Nodup (["_law_k","_law_one","_law_house"]:List Str);decide +kernel)) Yt)))));(case t=>exact(λ_ _ _ _ _=>Ye));(case e=>exact(λ_ _ _ _ _=>(Xq Gb (Zi (Ss (K:=K) rfl hr.gd hr.units) XQ T.z_repr boot_repr (Za (Z2 D_law_place_told WL (hr.mono (by decide)) (Za (RK 2) (Za (Zq (Uo (K:=K) rfl) (YD 1) Zd (λ_ _=>rfl)) Zc)) (hg:=XQ)) Zc)) (Zi (Ss (K:=K) rfl hr.gd hr.units) XQ T.z_repr boot_repr (Za (ZC (Za Zs (Za (YD 0) Zc))) Zc)) (Yq _))))) Zc))))))))),(ZD (by nofun)
  (ZD (WB (Y4 (ZF Ve (X6 false (Zb (Ut To (Zg 0) Zh) (Zb (Ut Sj (Zg 0) Zh) (Zb (Ut SR (Zg 0) Zh) (Zb (Ut Si (Zg 0) Zh) Zh))))) (Zg 3))) (by nofun) Yd)
  (ZD (WB (Tu (Y4 (ZF Ve (Ut SQ (Zg 0) Zh) (Zg 1))) (Tu (Y4 (ZF Ve (Ut Tp (Zg 0) Zh) (Zg 2))) (Tu (Y4 (ZF Ph (ZK (EU U9) (Zb (Zg 0) Zh)) (ZK V7 (Zb (Zg 2) Zh)))) (Uc (Df U9 (Zg 0)))))) (by nofun) Yd)
  (ZD (Ub (ZF WU (ZF WU (Rb ZS (Zb (YI false (Vd (Zg 1)) (Z8 0) Xo (YJ (ZF XN (Zg 0) ZG))) Zh)) ZS) (Rb ZS (Zb (YI false (Vd (Zg 2)) (Z8 0) Xo (YJ (ZF XN (Zg 0) ZG))) Zh))) (Z8 4))
  (ZD (WB (Tu (Y4 (ZF Ph (ZK (Oc UA) (Zb (Zg 0) Zh)) (Zg 4))) (Y4 (ZF Ph (ZK (Oc RW) (Zb (Zg 0) Zh)) (ZF WU (ZF WU (ZF WU (ZF WU ZS (ZK Ki (Zb (ZK V7 (Zb (Zg 1) Zh)) Zh))) ZS) (ZK Ki (Zb (ZK V7 (Zb (Zg 2) Zh)) Zh))) ZS)))) (by nofun) Yd)
  (YQ (ZK Ob (Zb (YI false (Rc (Zb (Zg 2) Zh)) (V8 (ZQ (Z8 0) (ZQ (Z8 1) WT))) Xo (YJ (ZF Kn (ZK Tq (Zb (Y9 W5 (Zb (Zg 2) (Zb (ZF XN (Zg 1) ZG) Zh))) Zh)) (ZK Tq (Zb (YO (Zb ZS (Zb (Zg 0) Zh))) Zh))))) Zh)))))))),λas o q h=>?_⟩)
 obtain⟨a,ks,bs,rfl,hw,hK,hB,hq⟩:=h
 have big:∀n,n≤5000->n≤sizeLine:=λn h=>zF h (by decide)
 have hk3:=hK.2.1
 have hb6:=hB.2.1
 simp!
 refine⟨⟨by decide,by decide,by decide,by decide⟩,?_⟩
 refine Y8 (List.range 4) (λi=>.int (1+(i:Int))) (λi=>col ks i) [] rfl trivial (by decide) ?_ ?_
 ·intro i hi Q hQ
  have hi4:=mem_range.mp hi
  simp!
  refine Y8 ks Y5 (λx=>.int (x.2.getD i 0)) [] rfl trivial (Ys (by simp;omega)) (λx hx Q hQ=>?_) ?_
  ·simp! only[Y5]
   exact⟨_,CA (hK.2.2.1 x hx) hi4,hQ⟩
  ·simp! only[sM]
   exact hQ
 rw[sM]
 have eK:=Fw hK
 have rp1:∀i,Rp 1 606 (col ks i):=CF hK (by decide)
 have cl:List.map (λi=>col ks i) (List.range 4)=[col ks 0,col ks 1,col ks 2,col ks 3]:=rfl
 have cr:Rp 2 2428 (.list [col ks 0,col ks 1,col ks 2,col ks 3]):=Rp.lst (Vv.cons (rp1 0) (Vv.cons (rp1 1) (Vv.cons (rp1 2) (Vv.cons (rp1 3) (Vv.nil (W:=0)) (zK _)) (zK _)) (zK _)) (by decide))
 obtain⟨c1,c2⟩:=Tt cr (by decide)
 obtain⟨k1,k2⟩:=Tt (Uv hK (by decide) bdK (by decide)) (by decide)
 obtain⟨b1,b2⟩:=Tt (Uv hB (by decide) bdB (by decide)) (by decide)
 have colm:∀(f:KR->PyData) (r:PyData),r=.tuple ((ks.map toK).map f)->∀(k:Val->OW->Prop),k (.d r) o->JM f [.own a] o k:=λf r e k hk=>⟨a,_,_,r,rfl,hw,⟨ks.map toK,by rw[eK],by rw[Wb];omega,e⟩,hk⟩
 rw[cl]
 simp! only[Rx]
 refine⟨⟨_,hw,rfl⟩,colm _ (col ks 0) (by rw[tP];rfl) _ ⟨⟨_,hw,rfl⟩,colm _ (col ks 1) (by rw[tP];rfl) _ ⟨⟨_,hw,rfl⟩,colm _ (col ks 2) (by rw[tP];rfl) _ ⟨⟨_,hw,rfl⟩,colm _ (col ks 3) (by rw[tP];rfl) _ ?_⟩⟩⟩⟩
 simp only[NX]
 refine⟨big _ (by show(4:Nat)≤5000;decide),c1,?_⟩
 rw[c2]
 simp! only[Rx]
 refine⟨⟨_,hw,rfl⟩,a,_,_,_,rfl,hw,rfl,?_⟩
 simp! only[Rx]
 refine⟨k1,?_⟩
 rw[k2]
 simp! only[Rx]
 refine⟨⟨_,hw,rfl⟩,a,_,_,_,rfl,hw,rfl,?_⟩
 simp! only[Rx]
 refine⟨b1,?_⟩
 rw[b2]
 have lb:(bs.map Y5).length=bs.length:=length_map _
 have lk:(ks.map Y5).length=ks.length:=length_map _
 have hb1:=hB.1
 simp! only[Rx,PN,DM,lb,lk]
 refine⟨⟨_,hw⟩,a,_,_,_,rfl,hw,⟨bs.map Y5,rfl,by omega,by rw[lb]⟩,⟨_,rfl,by omega,by omega⟩,?_⟩
 simp only
 rw[wT (by simp)]
 refine⟨⟨_,hw⟩,a,_,_,_,rfl,hw,⟨bs.map Y5,rfl,by omega,by rw[lb]⟩,_,rfl,⟨by omega,by omega⟩,?_⟩
 have hn0:((bs.length:Int) != 0)=true:=bne_iff_ne.mpr (by omega)
 rw[wT (by rw[hn0];simp)]
 simp! only[VB]
 have sk:∀z∈ks.map (·.1),z.length≤8:=λz hz=>by
  obtain⟨x,hx,rfl⟩:=rP.mp hz
  exact(hK.2.2.1 x hx).1.2.2
 have sb:∀z∈bs.map (·.1),z.length≤8:=λz hz=>by
  obtain⟨x,hx,rfl⟩:=rP.mp hz
  exact(hB.2.2.1 x hx).1.2.2
 have sk1:=Oy sk
 have sb1:=Oy sb
 rw[Wb]at sk1 sb1
 have jk:=Nv (ts:=ks.map (·.1))
 have jb:=Nv (ts:=bs.map (·.1))
 rw[Wb]at jk jb
 refine Y8 ks Y5 (λx=>.str x.1) [] rfl trivial (Ys (by simp;omega)) (λx _ Q hQ=>?_) ?_
 ·simp! only[Y5];exact⟨_,ZX (j:=0) rfl,hQ⟩
 simp! only[VB,sM]
 refine⟨ks.map (·.1),by rw[tP];rfl,RN (by rw[Wb];omega),?_⟩
 simp! only[VB,Tb]
 have l3:(Str.ofString " : ").length=3:=by decide +kernel
 refine⟨big _ (by omega),?_⟩
 simp! only[VB]
 refine Y8 bs Y5 (λx=>.str x.1) [] rfl trivial (Ys (by simp;omega)) (λx _ Q hQ=>?_) ?_
 ·simp! only[Y5];exact⟨_,ZX (j:=0) rfl,hQ⟩
 simp! only[VB,sM]
 refine⟨bs.map (·.1),by rw[tP];rfl,RN (by rw[Wb];omega),?_⟩
 simp! only[Tb]
 refine⟨big _ (by rw[Wm];omega),?_⟩
 obtain⟨sj,ej⟩:=NP hK hB (by decide) (by decide)
 have d2k:=FY ks.length (by omega)
 have d2b:=FY bs.length (by omega)
 have a1:(Str.ofString "House(").length=6:=by decide +kernel
 have a2:(Str.ofString ", ").length=2:=by decide +kernel
 have a3:(Str.ofString ")").length=1:=by decide +kernel
 have lg:∀n:Nat,n≤100->(n:Int).natAbs.log2<1920:=λn h=>zH (log2_le_self _) (by omega)
 simp! only[PN,Nf,Tb,lb,lk]
 refine⟨⟨_,hw⟩,a,_,_,_,rfl,hw,⟨ks.map rk,bs.map rk,by rw[Uu],by rw[Uu],by rw[Wb];omega,by rw[Wb];omega,sj,rfl⟩,⟨_,rfl⟩,?_⟩
 simp only
 rw[ej,wT (by simp)]
 refine⟨⟨_,hw⟩,a,_,_,_,rfl,hw,⟨ks.map Y5,bs.map Y5,rfl,rfl,by omega,by omega,rfl⟩,⟨_,rfl⟩,?_⟩
 simp! only[PN,Nf,Tb,lb,lk,Wm,a1,a2,a3]
 have e0:Str.empty++Str.ofString "House(" = Str.ofString "House(":=by decide +kernel
 refine⟨lg _ (by omega),big _ (by omega),big _ (by omega),lg _ (by omega),big _ (by omega),big _ (by omega),?_⟩
 rw[e0,wT (by simp)]
 simp!
 rw[KG]
 refine Y8 bs.zipIdx (λp=>.tuple [.int (p.2:Nat),Y5 p.1]) (λ_=>.bool true) [] rfl trivial (Ys (by simp;omega)) ?_ ?_
 ·rintro ⟨x,k⟩ hx Q hQ
  have hxk:bs[k]? = some x:=List.mem_zipIdx_iff_getElem?.mp hx
  have hxo:=hB.2.2.1 x (yG hxk)
  have hkl:k<bs.length:=(vS.mp hxk).1
  have hw':o a=some (Nj (.tuple (ks.map Y5)) (.tuple ((bs.map rk).map J6))):=by rw[hw,Uu bs]
  have eqs:∀y∈bs.map rk,P8 (.str y.1) (.str x.1):=λy hy=>by
   obtain⟨v,hv,rfl⟩:=rP.mp hy
   have s1:=YE (Rp.str (WY (hB.2.2.1 v hv).1.1.asc)) (by decide)
   have s2:=YE (Rp.str (WY hxo.1.1.asc)) (by decide)
   exact⟨s1.1,s2.1,s1.2,s2.2⟩
  have tp:Pm (.str x.1) (bs.map rk)=.tuple [.str "place",.int (k:Nat)]:=by
   have q:=Gw (i:=0) (k:=k) (bs:=bs.map rk) (x:=rk x) (by rw[yF,hxk];rfl) (by rw[tP];exact hB.2.2.2)
   rw[zero_add]at q
   unfold Pm
   rw[show NF (.str x.1) (bs.map rk) 0=some k from q]
  have rpp:Rp 1 300 (.tuple [.str "place",.int (k:Nat)]):=Rp.tup (Vv.cons ((Rp.str (by decide +kernel)).mono (zK 0) (by decide +kernel:_≤5)) (Vv.cons (Rp.int (by rw[Int.natAbs_natCast];exact zH (by omega:k≤100) (by decide))) (Vv.nil (W:=0)) (zK _)) (by decide))
  have okp:=rpp.ok (by decide) (by decide)
  simp! only[Y5]
  refine⟨_,ZX (j:=0) rfl,a,_,bs.map rk,.str x.1,rfl,hw',by rw[Wb];omega,eqs,rfl,?_⟩
  rw[tp]
  simp!
  exact⟨rfl,okp,by decide,rfl,okp,hQ⟩
 ·simp! only[T2,sM]
  have e:(List.map (λ_:RI×Nat=>true) bs.zipIdx).all id=true:=by simp
  rw[e]
  exact⟨_,OW.le.refl _,hq⟩
end
section
variable {P:Program}{w:World}{K:Frag}{mg:Str->Option Value}{base:Heap}
theorem HS{z:Str}{d:PyData}(h:Nm z)(q:NB d=true):PyData.eqv (.str z) d=false:=by
 cases d with
 | str y=>
  show(z == y)=false
  refine vI.mpr λe=>?_
  subst e
  have:LX z=true:=h.1.nm h.2.1 h.2.2
  simp only[NB,this]at q
  cases q
 | _=>rfl
theorem Fv{n:Nat}{bs:List RI}{d:PyData}(h:Hs BL n bs)(q:NB d=true):Pm d (bs.map rk)=.tuple [.str "NoBidder",d]:=by
 have e:NF d (bs.map rk) 0=none:=NG λx hx=>by
  obtain⟨y,hy,rfl⟩:=rP.mp hx
  exact HS (h.2.2.1 y hy).1 q
 unfold Pm
 rw[e]
theorem Ey{n:Nat}{bs:List RI}(h:Hs BL n bs){x:RI}(hx:x∈bs):K2 (Y5 x):=by
 refine⟨?_,rfl,(GR (h.2.2.1 x hx) bdB (by decide)).mono (by decide) (by decide)⟩
 have hl:x.2.length=1:=(h.2.2.1 x hx).2.1
 show(decide ((PyData.str x.1::x.2.map .int).length≤1000)&&(PyData.str x.1::x.2.map .int).all (J5 9))=true
 rw[yN,xX,xC]
 refine⟨by simp;omega,λd hd=>?_⟩
 rcases vP.mp hd with rfl|hd
 ·rfl
 ·obtain⟨i,_,rfl⟩:=rP.mp hd;rfl
theorem Ex{z:Str}(h:Nm z):K2 (.tuple [.str z]):=by
 refine⟨rfl,rfl,(Rp.tup (Vv.cons ((Rp.str (WY h.1.asc)).mono (zK 0) (show z.cps.size≤8 from h.2.2)) (Vv.nil (W:=0)) (zK _))).mono (by decide) (by decide)⟩
theorem HU{z:Str}(h:Nm z):K2 (.str (z++(Str.ofString "zzzzzzzz"))):=by
 have e8:(Str.ofString "zzzzzzzz").length=8:=by decide +kernel
 have l:(z++Str.ofString "zzzzzzzz").length=z.length+8:=by rw[Wm,e8]
 have hz:=h.2.1
 have hz8:=h.2.2
 refine⟨rfl,?_,(Rp.str (WY ?_)).mono (by decide) (show(z++Str.ofString "zzzzzzzz").length≤1000 by omega)⟩
 ·show(!(LX (z++Str.ofString "zzzzzzzz")))=true
  have:LX (z++Str.ofString "zzzzzzzz")=false:=by
   unfold LX
   rw[l,show decide (((z.length+8:Nat):Int)≤8)=false from vH (by omega),uD,tU]
  rw[this];rfl
 ·show(z.cps++(Str.ofString "zzzzzzzz").cps).all (· < 128)=true
  rw[rM,yN]
  exact⟨h.1.asc,by decide +kernel⟩
theorem LZ:K2 (.str "")/\K2 (.str "Abb"):=⟨Lc (by decide +kernel),Lc (by decide +kernel)⟩
theorem B4{d:PyData}(h:K2 d):okR (.tuple [.str "NoBidder",d]):=
 ((Rp.tup (Vv.cons ((Rp.str (by decide +kernel)).mono (by decide) (by decide +kernel:_≤8)) (Vv.cons h.2.2 (Vv.nil (W:=0)) (zK _)) (zK _))).mono (zK 11) (by decide:_≤2000)).ok (by decide) (by decide)
theorem Ew{n:Nat}{bs:List RI}{d:PyData}(h:Hs BL n bs)(q:K2 d):∀x∈bs.map rk,P8 (.str x.1) d:=λy hy=>by
 obtain⟨v,hv,rfl⟩:=rP.mp hy
 have s1:=YE (Rp.str (WY (h.2.2.1 v hv).1.1.asc)) (by decide)
 have s2:=YE q.2.2 (by decide)
 exact⟨s1.1,s2.1,s1.2,s2.2⟩
end
section
variable {P:Program}{w:World}{K:Frag}{mg:Str->Option Value}{base:Heap}
theorem LU{K K':Frag}(S:Rl K K'){C:Addr}:∀{cs:List Value}{bs:List Bool},cs.map (PySem.W.kitOne K (.ref C))=bs.map some->cs.map (PySem.W.kitOne K' (.ref C))=bs.map some
 | [],[],_=>rfl
 | [],_::_,e=>by cases e
 | _::_,[],e=>by cases e
 | c::cs,b::bs,e=>by
  rw[uO,uO,sE]at e |-
  exact⟨Je S e.1,LU S e.2⟩
theorem B5(T:Txt K mg)(X:Xt K mg){fa:Addr}{fd:FuncData}(F:Ws K "law" "law" Jw fa fd):Xc P w K mg base UC 40 fa fd ["_law_script"] (Ff K):=by
 have D_House_eq:=OJ (P:=P) (w:=w) (base:=base) T X
 have D_House_str:=Ta (P:=P) (w:=w) (base:=base) T X
 have D_law_draw:=XT (P:=P) (w:=w) (base:=base) T
 have D_law_house_parts:=UH (P:=P) (w:=w) (base:=base) T
 have D_law_is_right:=SA (P:=P) (w:=w) (base:=base) T X
 have D_law_odd:=Mx (P:=P) (w:=w) (base:=base) T
 have D_law_place_told:=WM (P:=P) (w:=w) (base:=base) T X
 have D_law_urn:=My (P:=P) (w:=w) (base:=base) T
 have D_House:=Iz (P:=P) (w:=w) (base:=base) T X
 refine HF F Vf (λcdv A outer s H E hr=>⟨_,_,IPSs.get (Ze (Wz rD rfl (VU rfl T.z_range (Za (Zi (K6 rfl) rfl T.z_max boot_max (Za Zd (Za (Zi (K7 rfl) rfl T.z_min boot_min (Za Zd (Za (Zi Yg rfl T.z_len sW (Za (Zj 0) Zc)) Zc))) Zc))) Zc)) (Yz (i:=1) Vf.nd rfl (yT rfl)) (Ze (ZN (i:=2) Vf.nd rfl (yT rfl) (Z2 D_law_urn Mn (hr.mono (by decide)) (Za (Zj 0) (Za (Zj 1) Zc))))
  (Ze (ZN (i:=3) Vf.nd rfl (yT rfl) (ZV (Za (Z2 D_law_house_parts Wt (hr.mono (by decide)) (Za (Zj 2) (Za Zd Zc))) (Za (Z2 D_law_house_parts Wt (hr.mono (by decide)) (Za (Zj 2) (Za Zd Zc))) Zc))))
  (Ze (ZN (i:=4) Vf.nd rfl (yU rfl) (by refine' Yk (Nc:=["_law_several","_law_bidders"]) (cap:=[none,none]) rfl ?i ?k ?g ?t ?e;(case k=>kernel_rfl);(case i=>exact(Xs (Zj 3)));(case g=>exact(λ_ _ _ _ _=>(YM (K:=K) rfl (n:=2) rfl (Zl (Yb 0 (by show List.Nodup (["_law_several","_law_bidders"]:List Str);decide +kernel)) (Zl (Yb 1 (by show List.Nodup (["_law_several","_law_bidders"]:List Str);decide +kernel)) Yt)))));(case t=>exact(λ_ _ _ _ _=>Ye));(case e=>exact(λ_ _ _ _ _=>(RD D_House O9 (hr.mono (by decide)) (Za (YD 0) (Za (YD 1) Zc)) (hg:=XQ))))))
  (Ze (ZN (i:=5) Vf.nd rfl (yT rfl) (RD D_House O9 (hr.mono (by decide)) (Za (Zq Xa (Zq ZJ (Zj 3) Zd (λ_ _=>rfl)) Zd (λ_ _=>rfl)) (Za (Zq Xa (Zq ZJ (Zj 3) Zd (λ_ _=>rfl)) Zd (λ_ _=>rfl)) Zc))))
  (Ze (ZN (i:=6) Vf.nd rfl (yT rfl) (Zq Xa (Zq Xa (Zq Xa (Zq ZJ (Zj 3) Zd (λ_ _=>rfl)) Zd (λ_ _=>rfl)) Zd (λ_ _=>rfl)) Zd (λ_ _=>rfl)))
  (Ze (ZN (i:=7) Vf.nd rfl (yT rfl) (Zq ZJ (ZV (Za (Z2 D_law_odd Mm (hr.mono (by decide)) (Za (Zj 2) Zc)) (Za Zs (Za Zs (Za (Zq Xa (Zq Xa (Zq ZJ (Zj 3) Zd (λ_ _=>rfl)) Zd (λ_ _=>rfl)) Zd (λ_ _=>rfl)) (Za (ZC (Za (Zj 6) Zc)) (Za (ZA YY (Zj 6) Zs) Zc))))))) (Z2 D_law_draw ZL (hr.mono (by decide)) (Za (Zj 2) (Za Zd Zc))) (λ_ _=>rfl)))
  (Ze (Wz rD rfl (Xs (ZV (Za Zd (Za Zd (Za Zd Zc))))) (Yz (i:=8) Vf.nd rfl (yT rfl)) (Ze (Yo (Xf (YC (Z2 D_law_is_right S6 (hr.mono (by decide)) (Za (Zq ZJ (Zj 4) (Zj 8) (λ_ _=>rfl)) (Za (Zq Xa (Zq ZJ (Zj 3) (Zj 8) (λ_ _=>rfl)) Zd (λ_ _=>rfl)) (Za (Zq Xa (Zq ZJ (Zj 3) (Zj 8) (λ_ _=>rfl)) Zd (λ_ _=>rfl)) Zc)))))) (Zm (Zw (YH))) Z1)
  (Zm (Yo (ZP Kb (Zi (Ms hr.gd hr.units) rfl T.z_repr boot_repr (Za (Z2 D_law_place_told WL (hr.mono (by decide)) (Za (Zq ZJ (Zj 4) (Zj 8) (λ_ _=>rfl)) (Za (Zj 7) Zc))) Zc)) (Zi (UE hr.gd hr.units) rfl T.z_repr boot_repr (Za (ZC (Za Zs (Za (Zj 7) Zc))) Zc)) (Yq _)) (Zm (Zw (YH))) Z1))))
  (Ze (ZN (i:=9) Vf.nd rfl (yT rfl) (Xq (Sm hr.units) (Zq ZJ (Zj 3) Zd (λ_ _=>rfl)) (Zq ZJ (Zj 3) Zd (λ_ _=>rfl)) (Yq _)))
  (Ze (Yo (IPW.pt (XR (ZP (Qc hr.units) (Xq (MN D_House_eq XS (hr.mono (by decide))) (Zq ZJ (Zj 4) Zd (λ_ _=>rfl)) (Zq ZJ (Zj 4) Zd (λ_ _=>rfl)) (Yq _)) (Zj 9) (Yq _)) (XR (ZP (Sm hr.units) (Xq (B8 D_House_eq XS (hr.mono (by decide)) X.hn Et Eu) (Zq ZJ (Zj 4) Zd (λ_ _=>rfl)) (Zq ZJ (Zj 4) Zd (λ_ _=>rfl)) (Yq _)) (Zj 9) (Yq _)) (W3 (Xf (ZP (MN D_House_eq XS (hr.mono (by decide))) (Zq ZJ (Zj 4) Zd (λ_ _=>rfl)) (Zj 5) (Yq _))))))) (Zm (Zw (YH))) Z1)
  (Zm (Yo (IPW.pt (XR (ZP (B9 D_House_eq XS (hr.mono (by decide)) X.nn) (Zj 5) (ZV (Za Vl (Za (Zq ZJ (Zj 4) Zd (λ_ _=>rfl)) Zc))) rfl) (W3 (YC (Zi (K4 rfl) rfl T.z_any boot_any (Za (by refine' Yk (Nc:=["_law_thing","_law_houses"]) (cap:=[none,some 4]) rfl ?i ?k ?g ?t ?e;(case k=>kernel_rfl);(case i=>exact(Xs (ZV (Za (Zq ZJ (Zj 3) Zd (λ_ _=>rfl)) (Za (Ym (Lu D_House_str UW (hr.mono (by decide))) rfl T.z_str (by decide +kernel) (Za (Zj 5) Zc)) (Za Vl (Za Zd Zc)))))));(case g=>exact(λ_ _ _ _ _=>(Yb 0 (by show List.Nodup (["_law_thing","_law_houses"]:List Str);decide +kernel))));(case t=>exact(λ_ _ _ _ _=>Ye));(case e=>exact(λ_ _ _ _ _=>(Xq (MN D_House_eq XS (hr.mono (by decide))) (Zq (Hy (K:=K) rfl) (RK 1) Zd (λ_ _=>rfl)) (YD 0) (Yq _))))) Zc)))))) (Zm (Zw (YH))) Z1))))))))))))
  (Zm (Zw (YH)))),(ZD (Qh (Ts (Zb (ZK EV (Zb ZG (Zb (ZK EW (Zb ZG (Zb (ZK V7 (Zb (Zg 0) Zh)) Zh))) Zh))) Zh)) (Z8 1) (ZD (by nofun)
  (ZD (by nofun)
  (ZD (Ub (GG (Tr (Zg 3)) (V8 (ZQ (Z8 0) (ZQ (Z8 1) WT))) (Kk Pa (Zb (Zg 0) (Zb (Zg 1) Zh)))) (Z8 4))
  (ZD (Ub (Kk Pa (Zb (ZF XN (ZF WA (Zg 3) ZG) ZG) (Zb (ZF XN (ZF WA (Zg 3) ZG) ZG) Zh))) (Z8 5))
  (ZD (by nofun)
  (ZD (Ub (ZF WA (X6 false (Zb (Y9 N9 (Zb (Zg 2) Zh)) (Zb ZS (Zb ZS (Zb (ZF XN (ZF XN (ZF WA (Zg 3) ZG) ZG) ZG) (Zb (YO (Zb (Zg 6) Zh)) (Zb (ZF WU (Zg 6) ZS) Zh))))))) (Y9 Y_ (Zb (Zg 2) (Zb ZG Zh)))) (Z8 7))
  (ZD (Qh (Tr (X6 false (Zb ZG (Zb ZG (Zb ZG Zh))))) (Z8 8) (ZD (WB (Uc (NL (Y9 Sk (Zb (ZF V9 (Zg 4) (Zg 8)) (Zb (ZF XN (ZF WA (Zg 3) (Zg 8)) ZG) (Zb (ZF XN (ZF WA (Zg 3) (Zg 8)) ZG) Zh)))))) (by nofun) Yd)
  (WB (Y4 (ZF Ph (ZK GB (Zb (Y9 W5 (Zb (ZF V9 (Zg 4) (Zg 8)) (Zb (Zg 7) Zh))) Zh)) (ZK Tq (Zb (YO (Zb ZS (Zb (Zg 7) Zh))) Zh)))) (by nofun) Yd)))
  (ZD (by nofun)
  (ZD (WB (Tu (Y4 (ZF Ve (ZF (MV X3) (ZF V9 (Zg 4) ZG) (ZF V9 (Zg 4) ZG)) (Zg 9))) (Tu (Y4 (ZF Ve (ZF (As X3) (ZF V9 (Zg 4) ZG) (ZF V9 (Zg 4) ZG)) (Zg 9))) (Uc (Y4 (ZF (MV X3) (ZF V9 (Zg 4) ZG) (Zg 5)))))) (by nofun) Yd)
  (WB (Tu (Y4 (ZF (Au X3) (Zg 5) (EZ (Zb Od (Zb (ZF V9 (Zg 4) ZG) Zh))))) (NL (ZK Aj (Zb (YI false (Tr (X6 false (Zb (ZF WA (Zg 3) ZG) (Zb (ZK (Oc UA) (Zb (Zg 5) Zh)) (Zb Od (Zb ZG Zh)))))) (Z8 0) Xo (YJ (ZF (MV X3) (ZF V9 (Zg 1) ZG) (Zg 0)))) Zh)))) (by nofun) Yd)))))))))))
  (by nofun)),λns h63=>?_⟩)
 simp!
 refine⟨⟨by omega,by omega⟩,?_⟩
 refine⟨λi s=>∃(o1 o2 o3 o4 o5 o6 o7 o8 o9:Option Val) (w:OW),s=⟨[some (.scr ns),o1,o2,o3,o4,o5,o6,o7,o8,o9],w⟩,⟨none,none,none,none,none,none,none,none,none,_,rfl⟩,λ_ _ _=>trivial,?_,?_⟩
 ·rintro i d s hd ⟨o1,o2,o3,o4,o5,o6,o7,o8,o9,o,rfl⟩
  have hi3:i<3/\d=.int (0+(i:Int)):=by
   unfold QB at hd
   obtain⟨r,hr,rfl⟩:=V5 hd
   obtain⟨h1,h2⟩:=vS.mp hr
   rw[rO]at h1
   rw[List.getElem_range]at h2
   subst h2
   exact⟨by omega,rfl⟩
  obtain⟨hi3,rfl⟩:=hi3
  simp!
  refine⟨⟨by omega,by omega⟩,λu hu=>?_⟩
  simp!
  refine T3 (by omega) rfl ?_
  rintro r ⟨A,B,rfl,hA,hB⟩
  simp!
  refine T3 (by omega) rfl ?_
  rintro r ⟨A',B',rfl,hA',hB'⟩
  simp! only[NX,Option.map]
  refine⟨by decide,?_⟩
  obtain⟨H0,hH0⟩:∃h:Own,h=Nj (.tuple (A.map Y5)) (.tuple (B.map Y5)):=⟨_,rfl⟩
  obtain⟨H1,hH1⟩:∃h:Own,h=Nj (.tuple (A'.map Y5)) (.tuple (B'.map Y5)):=⟨_,rfl⟩
  simp! only[JW]
  generalize hW0:o.put u (.urn 400)=W0
  refine⟨λi acc w=>(i=0/\acc=[]/\w=W0)\/(i=1/\∃a0,W0 a0=none/\acc=[.own a0]/\w=W0.put a0 H0)\/(i=2/\∃a0 a1,W0 a0=none/\(W0.put a0 H0) a1=none/\acc=[.own a0,.own a1]/\w=(W0.put a0 H0).put a1 H1),.inl ⟨rfl,rfl,rfl⟩,?_,?_,?_⟩
  ·rintro i acc w hI
   refine⟨trivial,λ_=>?_⟩
   rcases hI with ⟨_,rfl,_⟩|⟨_,_,_,rfl,_⟩|⟨_,_,_,_,_,rfl,_⟩<;>exact zH (show _≤2 from by simp) (by decide)
  ·rintro i d acc w hi hI
   rcases hI with ⟨rfl,rfl,rfl⟩|⟨rfl,a0,ha0,rfl,rfl⟩|⟨rfl,_⟩
   ·cases hi
    simp! only[L4]
    intro a ha
    refine⟨a,_,_,rfl,OW.put_same,M3 hA hB,rfl,?_⟩
    exact .inr (.inl ⟨a,ha,rfl,by rw[OW.put_put,hH0]⟩)
   ·cases hi
    simp! only[L4]
    intro a ha
    refine⟨a,_,_,rfl,OW.put_same,M3 hA' hB',rfl,?_⟩
    exact .inr (.inr ⟨a0,a,ha0,ha,rfl,by rw[OW.put_put,hH1]⟩)
   ·cases hi
  ·rintro acc w hI
   rcases hI with ⟨h,_⟩|⟨h,_⟩|⟨_,a0,a1,h0,h1,rfl,rfl⟩
   ·cases h
   ·cases h
   intro l hl
   have hl:((W0.put a0 H0).put a1 H1) l=none:=hl
   simp! only[L4]
   refine⟨_,ZX (j:=0) rfl,?_⟩
   simp only
   refine⟨_,ZX (j:=0) rfl,_,ZX (j:=0) rfl,?_⟩
   simp only
   refine⟨_,ZX (j:=1) rfl,λa2 h2=>⟨a2,_,_,rfl,OW.put_same,M3 hA hB,rfl,?_⟩⟩
   have h2:(((W0.put a0 H0).put a1 H1).put l (Tn [.own a0,.own a1])) a2=none:=h2
   have u0:a0≠u:=λe=>by rw[e,<- hW0,OW.put_same]at h0;cases h0
   have n10:a1≠a0:=λe=>by rw[e,OW.put_same]at h1;cases h1
   rw[OW.put_ne n10]at h1
   have u1:a1≠u:=λe=>by rw[e,<- hW0,OW.put_same]at h1;cases h1
   have nl1:l≠a1:=λe=>by rw[e,OW.put_same]at hl;cases hl
   rw[OW.put_ne nl1]at hl
   have nl0:l≠a0:=λe=>by rw[e,OW.put_same]at hl;cases hl
   rw[OW.put_ne nl0]at hl
   have ul:l≠u:=λe=>by rw[e,<- hW0,OW.put_same]at hl;cases hl
   have n2l:a2≠l:=λe=>by rw[e,OW.put_same]at h2;cases h2
   rw[OW.put_ne n2l]at h2
   have n21:a2≠a1:=λe=>by rw[e,OW.put_same]at h2;cases h2
   rw[OW.put_ne n21]at h2
   have n20:a2≠a0:=λe=>by rw[e,OW.put_same]at h2;cases h2
   rw[OW.put_ne n20]at h2
   have u2:a2≠u:=λe=>by rw[e,<- hW0,OW.put_same]at h2;cases h2
   obtain⟨W,hW⟩:∃W:Nat->OW,W=λm=>((((o.put a0 H0).put a1 H1).put l (Tn [.own a0,.own a1])).put a2 H0).put u (.urn m):=⟨_,rfl⟩
   have w0:∀m,W m a0=some H0:=λm=>by rw[hW];simp only;rw[OW.put_ne u0,OW.put_ne (wC n20),OW.put_ne (wC nl0),OW.put_ne (wC n10),OW.put_same]
   have w1:∀m,W m a1=some H1:=λm=>by rw[hW];simp only;rw[OW.put_ne u1,OW.put_ne (wC n21),OW.put_ne (wC nl1),OW.put_same]
   have wl:∀m,W m l=some (Tn [.own a0,.own a1]):=λm=>by rw[hW];simp only;rw[OW.put_ne ul,OW.put_ne (wC n2l),OW.put_same]
   have w2:∀m,W m a2=some H0:=λm=>by rw[hW];simp only;rw[OW.put_ne u2,OW.put_same]
   have wW:((((W0.put a0 H0).put a1 H1).put l (Tn [.own a0,.own a1])).put a2 (insW 416 [])).put a2 (Nj (.tuple (A.map Y5)) (.tuple (B.map Y5)))=W 400:=by
    rw[OW.put_put,<- hH0,<- hW0,hW,Y3 u0,Y3 u1,Y3 ul,Y3 u2]
   have dr:∀{m:Nat}{wd:Int}{k:Val->OW->Prop},m≤1000000->0<wd->wd<1099511627776->(∀d:Int,0≤d->d<wd->k (.d (.int d)) (W (m+1)))->WO [.own u,.d (.int wd)] (W m) k:=λx1 x2 x3 x4=>by rw[hW]at x4 |-;exact WN x1 x2 x3 x4
   have od:∀{m:Nat}{k:Val->OW->Prop},m+1≤1000000->(∀d,K2 d->k (.d d) (W (m+1)))->V3 [.own u] (W m) k:=λx1 x2=>by rw[hW]at x2 |-;exact T3 x1 rfl x2
   rw[wW]
   clear wW hW h0 h1 h2 hl
   simp!
   obtain⟨y,yt,eB⟩:∃y yt,B=y::yt:=by
    cases B with
    | nil=>exact absurd hB.1 (by simp)
    | cons y yt=>exact⟨y,yt,rfl⟩
   have aB:atI (B.map Y5) 0=some (Y5 y):=ZX (j:=0) (by rw[eB];rfl)
   have hy:y∈B:=by rw[eB];exact vM ..
   have hyo:=hB.2.2.1 y hy
   refine⟨_,ZX (j:=0) rfl,?_⟩
   simp only
   refine⟨_,ZX (j:=1) rfl,?_⟩
   simp only
   refine⟨_,aB,?_⟩
   simp only[Y5]
   refine⟨_,ZX (j:=0) rfl,?_⟩
   simp!
   refine od (by decide) λd hd=>?_
   simp! only[Tb]
   have l8:(Str.ofString "zzzzzzzz").length=8:=by decide +kernel
   have y8:=hyo.1.2.2
   refine⟨_,ZX (j:=0) rfl,?_⟩
   simp only
   refine⟨_,ZX (j:=1) rfl,?_⟩
   simp only
   refine⟨_,aB,by decide,zF (by omega:_≤100) (by decide),by decide,dr (by omega) (by decide) (by decide) λc c0 c1=>?_⟩
   simp only
   obtain⟨D,hDm,eD⟩:=JE (xs:=[d,PyData.str (Str.ofString ""),PyData.str (Str.ofString "Abb"),Y5 y,PyData.tuple [PyData.str y.1],PyData.str (y.1++Str.ofString "zzzzzzzz")]) c0 c1
   have oD:K2 D:=by
    simp only[vP,xO,xP]at hDm
    rcases hDm with rfl|rfl|rfl|rfl|rfl|rfl
    ·exact hd
    ·exact LZ.1
    ·exact LZ.2
    ·exact Ey hB hy
    ·exact Ex hyo.1
    ·exact HU hyo.1
   refine⟨D,eD,?_⟩
   clear hDm eD hd c0 c1
   simp!
   obtain⟨LL,hLL⟩:∃LL,LL=[PyData.tuple [.tuple (A.map Y5),.tuple (B.map Y5)],PyData.tuple [.tuple (A'.map Y5),.tuple (B'.map Y5)]]:=⟨_,rfl⟩
   rw[<- hLL]
   refine⟨by decide,?_⟩
   refine⟨λj s=>∃(p8:Option Val),s=⟨[some (.scr ns),some (.d (.int (0+(i:Int)))),some (.own u),some (.d (.list LL)),some (.own l),some (.own a2),some (.d (.str y.1)),some (.d D),p8,o9],W 402⟩,⟨_,rfl⟩,λ_ _ _=>trivial,?_,?_⟩
   ·rintro j x s hj ⟨p8,rfl⟩
    obtain⟨k,ak,Ak,Bk,rfl,e1,e2,e3,hAk,hBk⟩:∃(k:Int) (ak:Addr) (Ak Bk:List RI),x=.int k/\atI [Val.own a0,.own a1] k=some (.own ak)/\W 402 ak=some (Nj (.tuple (Ak.map Y5)) (.tuple (Bk.map Y5)))/\atI LL k=some (.tuple [.tuple (Ak.map Y5),.tuple (Bk.map Y5)])/\Hs KL 3 Ak/\Hs BL 6 Bk:=by
     have hx:=yG hj
     simp only[vP,xO,xP]at hx
     rcases hx with rfl|rfl|rfl
     ·exact⟨0,a0,A,B,rfl,rfl,(w0 _).trans (zR some hH0),by rw[hLL];rfl,hA,hB⟩
     ·exact⟨1,a1,A',B',rfl,rfl,(w1 _).trans (zR some hH1),by rw[hLL];rfl,hA',hB'⟩
     ·exact⟨0,a0,A,B,rfl,rfl,(w0 _).trans (zR some hH0),by rw[hLL];rfl,hA,hB⟩
    simp! only[R6]
    refine⟨_,_,wl _,e1,_,e3,?_⟩
    simp only
    refine⟨_,ZX (j:=0) rfl,_,e3,?_⟩
    simp only
    refine⟨_,ZX (j:=1) rfl,ak,Ak,Bk,rfl,e2,hAk,hBk,?_⟩
    simp! only[R6,R7]
    have hBk6:=hBk.2.1
    refine⟨_,_,wl _,e1,ak,_,Bk.map rk,D,rfl,by rw[e2,Uu Bk],by rw[Wb];omega,Ew hBk oD,oD.1,?_⟩
    rw[Fv hBk oD.2.1]
    simp! only[R7]
    have ok:=B4 oD
    refine⟨.inl ⟨rfl,ok⟩,by decide,rfl,ok,?_⟩
    simp!
    exact⟨_,rfl⟩
   ·rintro s ⟨p8,rfl⟩
    obtain⟨P0,hP0⟩:∃p,p=PyData.tuple [.tuple (A.map Y5),.tuple (B.map Y5)]:=⟨_,rfl⟩
    obtain⟨P1,hP1⟩:∃p,p=PyData.tuple [.tuple (A'.map Y5),.tuple (B'.map Y5)]:=⟨_,rfl⟩
    rw[<- hP0,<- hP1]at hLL
    have rA:=Uv hA (by decide) bdK (by decide)
    have rB:=Uv hB (by decide) bdB (by decide)
    have rA':=Uv hA' (by decide) bdK (by decide)
    have rB':=Uv hB' (by decide) bdB (by decide)
    have p0:Rp 3 6014 P0:=by rw[hP0];exact Rp.tup (Vv.cons rA (Vv.cons rB (Vv.nil (W:=0)) (zK _)) (by decide))
    have p1:Rp 3 6014 P1:=by rw[hP1];exact Rp.tup (Vv.cons rA' (Vv.cons rB' (Vv.nil (W:=0)) (zK _)) (by decide))
    have s0:=YE p0 (by decide)
    have s1:=YE p1 (by decide)
    have sA:=YE rA (by decide)
    have sB:=YE rB (by decide)
    have sA':=YE rA' (by decide)
    have sB':=YE rB' (by decide)
    have at0:atI LL 0=some P0:=by rw[hLL];exact ZX (j:=0) rfl
    have at1:atI LL 1=some P1:=by rw[hLL];exact ZX (j:=1) rfl
    have ev:P0.eqv P1=((PyData.tuple (A.map Y5)).eqv (.tuple (A'.map Y5))&&(PyData.tuple (B.map Y5)).eqv (.tuple (B'.map Y5))):=by
     rw[hP0,hP1]
     show(_&&(_&&true))=_
     rw[Bool.and_true]
    have h0:atI [Val.own a0,.own a1] 0=some (.own a0):=rfl
    have h1:atI [Val.own a0,.own a1] 1=some (.own a1):=rfl
    have fa0:W 402 a0=some (Nj (.tuple (A.map Y5)) (.tuple (B.map Y5))):=(w0 _).trans (zR some hH0)
    have fa1:W 402 a1=some (Nj (.tuple (A'.map Y5)) (.tuple (B'.map Y5))):=(w1 _).trans (zR some hH1)
    have fa2:W 402 a2=some (Nj (.tuple (A.map Y5)) (.tuple (B.map Y5))):=(w2 _).trans (zR some hH0)
    simp! only[R6,PF,OT,OU,O_,QO]
    refine⟨_,at0,_,at1,⟨s0.1,s1.1,s0.2,s1.2⟩,?_⟩
    rw[ev]
    generalize hb:((PyData.tuple (A.map Y5)).eqv (.tuple (A'.map Y5))&&(PyData.tuple (B.map Y5)).eqv (.tuple (B'.map Y5)))=bb
    have bs:∀b:Bool,(PyData.bool b).hasDict=false/\SeqAt.shaped (.bool b)=true:=λb=>by cases b<;>exact⟨rfl,by decide +kernel⟩
    have ekk:P8 (.tuple (A.map Y5)) (.tuple (A'.map Y5)):=⟨sA.1,sA'.1,sA.2,sA'.2⟩
    have ebb:P8 (.tuple (B.map Y5)) (.tuple (B'.map Y5)):=⟨sB.1,sB'.1,sB.2,sB'.2⟩
    have qA:=Tt rA (by decide)
    have qB:=Tt rB (by decide)
    have t1:(PyData.bool bb).eqv (.bool bb)=true:=by cases bb<;>rfl
    have t2:(PyData.bool (!bb)).eqv (.bool bb)=false:=by cases bb<;>rfl
    simp! only[R6,PF,OT,OU,O_,QO]
    refine⟨_,_,wl _,h0,_,_,wl _,h1,?_⟩
    try simp only
    refine⟨⟨_,fa0⟩,⟨_,fa1⟩,a0,_,_,fa0,.inl ⟨a1,_,_,rfl,fa1,ekk,ebb,⟨_,rfl⟩,?_⟩⟩
    rw[hb]
    try simp only
    refine⟨⟨(bs _).1,(bs _).1,(bs _).2,(bs _).2⟩,?_⟩
    rw[t1]
    simp only[sN,vE,vF]
    refine⟨_,_,wl _,h0,_,_,wl _,h1,?_⟩
    try simp only
    refine⟨⟨_,fa0⟩,⟨_,fa1⟩,a0,_,_,fa0,.inl ⟨a1,_,_,rfl,fa1,ekk,ebb,_,rfl,?_⟩⟩
    rw[hb]
    try simp only
    refine⟨⟨(bs _).1,(bs _).1,(bs _).2,(bs _).2⟩,?_⟩
    rw[t2]
    simp only[vE,vF]
    refine⟨_,_,wl _,h0,?_⟩
    try simp only
    refine⟨⟨_,fa0⟩,⟨_,fa2⟩,a0,_,_,fa0,.inl ⟨a2,_,_,rfl,fa2,qA.1,qB.1,⟨_,rfl⟩,?_⟩⟩
    rw[qA.2,qB.2,show(true&&true)=true from rfl]
    simp! only[R6,PF,OT,OU,O_,QO]
    refine⟨_,_,wl _,h0,by decide,?_⟩
    intro l2 hl2
    have hl2:W 402 l2=none:=hl2
    have x0:a0≠l2:=λe=>by rw[<- e,fa0]at hl2;cases hl2
    have x2:a2≠l2:=λe=>by rw[<- e,fa2]at hl2;cases hl2
    have xl:l≠l2:=λe=>by rw[<- e,wl]at hl2;cases hl2
    obtain⟨W2,hW2⟩:∃w,w=(W 402).put l2 (Tn [.d .none,.own a0]):=⟨_,rfl⟩
    have z0:W2 a0=some (Nj (.tuple (A.map Y5)) (.tuple (B.map Y5))):=by rw[hW2,OW.put_ne x0,fa0]
    have z2:W2 a2=some (Nj (.tuple (A.map Y5)) (.tuple (B.map Y5))):=by rw[hW2,OW.put_ne x2,fa2]
    have zl:W2 l=some (Tn [.own a0,.own a1]):=by rw[hW2,OW.put_ne xl,wl]
    have y2:W2 l2=some (Tn [.d .none,.own a0]):=by rw[hW2,OW.put_same]
    rw[<- hW2]
    simp! only[R6,PF,OT,OU,O_,QO]
    refine⟨a0,n20,y2,⟨_,z2⟩,⟨_,z0⟩,a2,_,_,z2,.inr ⟨.none,rfl,rfl,rfl,y2,⟨_,z2⟩,⟨_,z0⟩,a0,_,_,z0,.inl ⟨a2,_,_,rfl,z2,qA.1,qB.1,_,rfl,y2,?_⟩⟩⟩
    rw[qA.2,qB.2,show(true&&true)=true from rfl]
    simp! only[R6,PF,OT,OU,O_,QO,PN]
    obtain⟨sj,_⟩:=NP hA hB (by decide) (by decide)
    have hA3:=hA.2.1
    have hB6:=hB.2.1
    refine⟨_,at0,⟨_,z2⟩,a2,_,_,_,rfl,z2,⟨A.map rk,B.map rk,by rw[Uu],by rw[Uu],by rw[Wb];omega,by rw[Wb];omega,sj,rfl⟩,⟨_,rfl⟩,?_⟩
    generalize PySem.Txt.join (Str.ofString " ") (Ox (A.map rk) (B.map rk))=tx
    simp only[NX,Option.map]
    refine⟨by show(4:Nat)≤sizeLine;decide,?_⟩
    refine Y8 [P0,.str tx,.none,.int 1] id (λ_=>.bool false) [] rfl trivial (show 0+4<sizeLine from by decide) (λx hx Q hQ=>?_) ?_
    ·have hxd:x.hasDict=false:=by
      simp only[vP,xO,xP]at hx
      rcases hx with rfl|rfl|rfl|rfl
      ·exact s0.1
      ·rfl
      ·rfl
      ·rfl
     simp! only[R6,PF,id]
     exact⟨_,_,zl,h0,⟨_,z0⟩,hxd,a0,_,_,z0,.inr ⟨x,rfl,hxd,⟨_,rfl⟩,by simp!;exact hQ⟩⟩
    ·rw[sM]
     simp only[T2]
     rw[wT (by simp)]
     simp!
     exact⟨_,_,_,_,_,_,_,_,_,_,rfl⟩
 ·rintro s ⟨o1,o2,o3,o4,o5,o6,o7,o8,o9,o,rfl⟩
  simp!
end
def Zbc:List DefRec:=[Vc "copied" Tv,Vc "is_whole" Ud,Vc "is_whole_between" YL,Vc "is_name" Tw,Vc "is_tuple_of" WE,Vc "is_named_row" XZ,Vc "first_wrong" XW,Vc "check_part" WC,Vc "_law_urn" Uw,Vc "_law_draw" Vr,Vc "_law_which" Vt,Vc "_law_odd" Tz,Vc "_law_name" Ue,Vc "_law_names" Vs,Vc "_law_house_parts" YZ,Vc "_law_place_told" YN,Vc "_law_is_right" X_,Vc "law" Jw]
theorem XG:recsOf PySem.Challenge.pw_bundleclocks_k17_houses=Zbc:=by kernel_rfl
def Za2:List Str:=["ArithmeticError","IndexError","KeyError","LookupError","OverflowError","RuntimeError","TypeError","ValueError","abs","all","any","bool","enumerate","int","isinstance","len","list","max","min","range","repr","str","tuple","zip"]
theorem YT:Za2.all (λx=>!(startupNames.contains x||(PySem.W.looseW PySem.Challenge.pw_bundleclocks_k17_houses ["TooMany"]).contains x||((recsOf PySem.Challenge.pw_bundleclocks_k17_houses).map (·.name)).contains x||((litsOf PySem.Challenge.pw_bundleclocks_k17_houses).map (·.1)).contains x||((clssOf PySem.Challenge.pw_bundleclocks_k17_houses (PySem.W.looseW PySem.Challenge.pw_bundleclocks_k17_houses ["TooMany"])).map (·.name)).contains x))=true:=by decide +kernel
theorem walk:PySem.W.WalkX PySem.Challenge.pw_bundleclocks_k17_houses ["TooMany"] (λ_ _=>True) yfL (λ_=>yaL) (PySem.Challenge.rw_bundleclocks_k17_houses).row.toRowW (Vc "law" Jw) [] (λf vs=>PySem.call f vs):=by
 refine Zbo (ev:=true) (l:=PySem.Challenge.rw_bundleclocks_k17_houses) (n:=63) (k:=40) (x:="_law_script") (CX:=UC) (sp:=λK=>Ff K) rfl (by decide) rfl ⟨rfl,by decide,by decide,rfl⟩ (λw s₀ mg mb fa h G y hmg=>?_) (λ_ _ a ns hl _ hS=>⟨a,ns,rfl,hS,hl,λ_=>rfl⟩) λ_ _ _ _ z=>z
 have T:Txt (OZ h true) mg:=⟨XF G XG 0 rfl,XF G XG 1 rfl,XF G XG 2 rfl,XF G XG 3 rfl,XF G XG 4 rfl,XF G XG 5 rfl,XF G XG 6 rfl,XF G XG 7 rfl,XF G XG 8 rfl,XF G XG 9 rfl,XF G XG 10 rfl,XF G XG 11 rfl,XF G XG 12 rfl,XF G XG 13 rfl,XF G XG 14 rfl,XF G XG 15 rfl,XF G XG 16 rfl,XF G XG 17 rfl,Yv G YT 0 rfl,Yv G YT 1 rfl,Yv G YT 2 rfl,Yv G YT 3 rfl,Yv G YT 4 rfl,Yv G YT 5 rfl,Yv G YT 6 rfl,Yv G YT 7 rfl,Yv G YT 8 rfl,Yv G YT 9 rfl,Yv G YT 10 rfl,Yv G YT 11 rfl,Yv G YT 12 rfl,Yv G YT 13 rfl,Yv G YT 14 rfl,Yv G YT 15 rfl,Yv G YT 16 rfl,Yv G YT 17 rfl,Yv G YT 18 rfl,Yv G YT 19 rfl,Yv G YT 20 rfl,Yv G YT 21 rfl,Yv G YT 22 rfl,Yv G YT 23 rfl,SY G (by kernel_rfl),SY G (by kernel_rfl),SY G (by kernel_rfl),SY G (by kernel_rfl)⟩
 obtain⟨s,y,yk⟩:=y
 have S:Rl (Sx AM s.heap) (OZ h true):=KP λa o e n=>by rw[YW];exact yk _ _ e
 have y1:=zR (λz=>z.1) y
 have y2:=zR (λz=>z.2.1.1) y
 have y3:=zR (λz=>z.2.1.2) y
 have y4:=zR (λz=>z.2.2.1) y
 have y5:=zR (λz=>z.2.2.2.1) y
 have y6:=zR (λz=>z.2.2.2.2.1) y
 have y7:=zR (λz=>z.2.2.2.2.2.1) y
 have y8:=zR (λz=>z.2.2.2.2.2.2.1) y
 have y9:=zR (λz=>z.2.2.2.2.2.2.2.1) y
 have y10:=zR (λz=>z.2.2.2.2.2.2.2.2) y
 have hv:=Bh (st:=Vo) S y5 y6 7 rfl (by kernel_rfl)
 have X:Xt (OZ h true) mg:=⟨CY (as:=[]) S y1 P9 Ov (by kernel_rfl) (λ_=>by kernel_rfl) (by kernel_rfl) (by kernel_rfl) (by decide +kernel) (λ_=>by kernel_rfl) (λ_=>by kernel_rfl) (λ_=>by kernel_rfl),LU S y3,Bm S y4,hv.1,hv.2.1,hv.2.2.1,hv.2.2.2,X2 (st:=XX) S y5 0 rfl (by kernel_rfl),X2 (st:=Xh) S y5 1 rfl (by kernel_rfl),X2 (st:=Xg) S y5 2 rfl (by kernel_rfl),X2 (st:=X8) S y5 3 rfl (by kernel_rfl),X2 (st:=XY) S y5 4 rfl (by kernel_rfl),X2 (st:=X7) S y5 5 rfl (by kernel_rfl),X2 (st:=Xi) S y5 6 rfl (by kernel_rfl),X2 (st:=Vo) S y5 7 rfl (by kernel_rfl),X2 (st:=Vp) S y5 8 rfl (by kernel_rfl),X2 (st:=Vq) S y5 9 rfl (by kernel_rfl),X2 (st:=WD) S y5 10 rfl (by kernel_rfl),Y2 G.T.g yk y7 0 rfl rfl,Dm G.T.g yk y8,NJ G.T.g yk y9,NJ G.T.g yk y10,Y2 G.T.g yk y2 0 rfl rfl,Y2 G.T.g yk y2 1 rfl rfl,Y2 G.T.g yk y2 2 rfl rfl,Y2 G.T.g yk y2 3 rfl rfl,Y2 G.T.g yk y2 4 rfl rfl,Y2 G.T.g yk y2 5 rfl rfl,Y2 G.T.g yk y2 6 rfl rfl,Y2 G.T.g yk y2 7 rfl rfl,Y2 G.T.g yk y2 8 rfl rfl,Y2 G.T.g yk y2 9 rfl rfl,Y2 G.T.g yk y2 10 rfl rfl,Y2 G.T.g yk y2 11 rfl rfl,Y2 G.T.g yk y2 12 rfl rfl⟩
 obtain⟨f,fd,F,m⟩:=T.f_law
 cases hmg.symm.trans m
 have F2:=F
 obtain⟨oc,od,kV,doc,pm,an,cdv,ct,osl,rfl,_,_⟩:=F.ex
 exact⟨_,λs u=>.of_eq rfl,λbase=>B5 T X F2⟩
def wellL(l:PySem.W.OpenLaw):Bool:=l.wellSaid
theorem wellE:wellL=wellL:=rfl
name_quick wellQ for wellL by wellE
theorem Zc5:PySem.W.OpenLaw.wellSaid PySem.Challenge.rw_bundleclocks_k17_houses=true:=(sP PySem.W.Fast.wellQ_eq PySem.Challenge.rw_bundleclocks_k17_houses).trans (by kernel_rfl:PySem.W.Fast.wellQ PySem.Challenge.rw_bundleclocks_k17_houses=true)
end Mine
open PySem PySem.W PyProof.Rows
set_option maxRecDepth 100000 in
set_option maxHeartbeats 0 in
theorem PySem.Challenge.cw_bundleclocks_k17_houses_holds : PySem.Challenge.rw_bundleclocks_k17_houses.Holds := by
 w_on;refine PySem.W.holds_law Mine.Zc5 λsaid=>?_
 refine PySem.W.holds_openX (q:=PySem.Challenge.pw_bundleclocks_k17_houses) (loose:=["TooMany"]) (Xt:=λ_=>true) (XP:=λ_ _=>True) (Yf:=Mine.yfL) (Ya:=λ_=>Mine.yaL) (d:=L2.Vc "law" Mine.Jw) (kwd:=[]) (N:=20000) (L2.MD (by kernel_rfl) (by decide) (λs=>by kernel_rfl) Mine.runs) (λ_ _=>trivial) (λ_ _ _ _ _=>trivial) (by kernel_rfl) (by kernel_rfl) (by kernel_rfl) (λ_ _=>recFacts_nil rfl) (by rfl) (by assumption) (by decide +kernel) ⟨rfl,rfl,rfl,rfl,rfl,by decide +kernel⟩ ?hw Mine.walk
 w_witness2
