import PyProof.Rows.All
import Wide.All
import OpenK.AllK
import PySem.Challenge.RW_bundleclocks_k18_no_houses
open List (all_eq_true all_map any_cons append_assoc append_nil cons_append contains_cons drop_length drop_zero filterMap_cons flatMap_append flatten_cons foldl_cons forIn_cons forIn_nil getD_eq_getElem?_getD getElem?_append_left getElem?_cons_succ getElem?_cons_zero getElem?_map getElem?_mapIdx getElem?_set_ne getElem?_set_self getElem?_zip_eq_some getElem_mem length_append length_cons length_drop length_eq_zero_iff length_nil length_range length_singleton length_take length_zip lookup_cons map_append map_cons map_map map_nil mem_append mem_append_left mem_append_right mem_cons mem_cons_of_mem mem_cons_self mem_filter mem_filterMap mem_of_getElem? mem_singleton nil_append nodup_cons not_mem_nil of_mem_zip replicate_succ reverse_cons size_toArray take_length take_of_length_le zip_cons_cons)
open Nat (add_assoc le_add_right le_of_eq le_of_lt le_refl le_succ le_trans lt_irrefl lt_of_le_of_lt lt_of_lt_of_le lt_succ_of_lt lt_succ_self ne_of_gt ne_of_lt not_lt sub_zero zero_le)
open PySem.Heap (get?_none_of_le get?_push_of_some get?_push_size get?_update_other get?_update_self lt_size size_push)
open Option (bind_eq_some_iff bind_some isSome_iff_exists map_eq_some_iff map_some)
open Bool (and_eq_true and_eq_true_iff eq_false_iff false_eq_true not_eq_true' or_eq_false_iff)
open PySem.F (args_tuple_add_2 entry_tuple_add plainAttrs_list slot_tuple_add slot_tuple_mul)
open PySem.W (Frag callWith_K cellsFrom_some)
abbrev zF:=@Option.map_eq_some_iff
abbrev zG:=@congrArg
abbrev zH:=@Prod.mk.inj
abbrev zI:=@Prod.ext
abbrev zJ:=@if_pos
abbrev zK:=@Bool.true_and
abbrev zL:=@PySem.wpAny_bind
abbrev zM:=@PySem.wpAny_pure
abbrev zN:=@PySem.wpAny_holding
abbrev zO:=@PySem.wpAny_field
abbrev zP:=@PySem.Heap.get?_update_other
abbrev zQ:=@Ne.symm
abbrev zR:=@PySem.Heap.get?_update_self
abbrev zS:=@PySem.Obj.isFreed_of_fields
abbrev zT:=@PySem.Obj.data_mapFields
abbrev zU:=@PySem.Obj.cls_mapFields
abbrev zV:=@PySem.wpAny_newObj_type
abbrev zW:=@PySem.wpAny_of_eq
abbrev zX:=@PySem.Heap.get?_push_of_some
abbrev zY:=@PySem.Heap.get?_push_size
abbrev zZ:=@Array.size_append
abbrev wA:=@PySem.Heap.lt_size
abbrev wB:=@PySem.Heap.size_push
abbrev wC:=@Nat.le_succ
abbrev wD:=@PySem.wpAny_attempt
abbrev wE:=@PySem.wpAny_callSpecial?_slot
abbrev wF:=@PySem.slot_listiter_next
abbrev wG:=@PySem.wpAny_call_entry
abbrev wH:=@if_neg
abbrev wI:=@Bool.false_ne_true
abbrev wJ:=@PySem.wpAny_seqItems
abbrev wK:=@Int.toNat_natCast
abbrev wL:=@PySem.wpAny_rule
abbrev wM:=@PySem.wpAny_setField
abbrev wN:=@PySem.wpAny_isInstance
abbrev wO:=@PySem.isSubtype_stop
abbrev wP:=@Nat.ne_of_lt
abbrev wQ:=@PySem.wpAny_specialOf
abbrev wR:=@Bool.false_eq_true
abbrev wS:=@if_false
abbrev wT:=@List.take_of_length_le
abbrev wU:=@PySem.wpAny_standAt
abbrev wV:=@decide_eq_false
abbrev wW:=@beq_eq_false_iff_ne
abbrev wX:=@Nat.lt_of_lt_of_le
abbrev wY:=@Nat.lt_irrefl
abbrev wZ:=@Nat.le_trans
abbrev vA:=@List.filterMap_cons
abbrev vB:=@List.mem_cons_self
abbrev vC:=@List.mem_cons_of_mem
abbrev vD:=@PySem.Heap.get?_none_of_le
abbrev vE:=@List.mem_cons
abbrev vF:=@List.mem_append
abbrev vG:=@List.mem_append_left
abbrev vH:=@List.getElem?_eq_some_iff
abbrev vI:=@List.getElem?_set_self
abbrev vJ:=@List.getElem?_set_ne
abbrev vK:=@Option.some.inj
abbrev vL:=@PySem.wpAny_mono
abbrev vM:=@PySem.wpAny_truthy_bool
abbrev vN:=@Array.length_toList
abbrev vO:=@PySem.wpAny_execs_nil
abbrev vP:=@PySem.wpAny_execs_cons
abbrev vQ:=@PyProof.Rows.assignInOrder_cons
abbrev vS:=@Nat.ne_of_gt
abbrev vT:=@PySem.wpAny_pyIter_list
abbrev vU:=@Nat.le_refl
abbrev vV:=@PyProof.Rows.callWith_type1
abbrev vW:=@List.mem_append_right
abbrev vX:=@PySem.wpAny_passesOwn
abbrev vY:=@Bool.eq_iff_iff
abbrev vZ:=@PySem.sizeLine_eq
abbrev uA:=@PySem.wpAny_lookBehind
abbrev uB:=@PySem.pastItsLine_dict
abbrev uC:=@List.length_cons
abbrev uD:=@beq_iff_eq
abbrev uE:=@List.map_cons
abbrev uF:=@True.intro
abbrev uG:=@Nat.lt_succ_self
abbrev uH:=@Nat.zero_le
abbrev uI:=@PySem.plainObj_wpAny_Assign_Attribute
abbrev uJ:=@PySem.W.kia_one
abbrev uK:=@List.append_nil
abbrev uL:=@PySem.wpAny_call
abbrev uM:=@PySem.codeAny_mono
abbrev uN:=@PySem.wpAny_Call_Name_kw
abbrev uO:=@List.nodup_cons
abbrev uP:=@List.of_mem_zip
abbrev uQ:=@PySem.W.cellsFrom_some
abbrev uR:=@Option.isSome_iff_exists
abbrev uS:=@List.length_take
abbrev uT:=@PySem.mem_of_lookup
abbrev uU:=@List.getElem?_append_left
abbrev uV:=@List.getElem?_map
abbrev uW:=@List.mem_of_getElem?
abbrev uX:=@List.length_append
abbrev uY:=@PySem.wpAny_loadPart'
abbrev uZ:=@PySem.noFill_tuple_add
abbrev yA:=@PySem.F.entry_tuple_add
abbrev yB:=@PySem.F.args_tuple_add_2
abbrev yC:=@List.size_toArray
abbrev yD:=@if_true
abbrev yE:=@List.length_drop
abbrev yF:=@PyProof.Rows.slot_tuple_getitem
abbrev yG:=@Bool.and_eq_true
abbrev yH:=@List.reverse_cons
abbrev yI:=@List.replicate_succ
abbrev yJ:=@List.flatten_cons
abbrev yK:=@List.append_assoc
abbrev yL:=@List.foldl_cons
abbrev yM:=@PySem.call_meets
abbrev yN:=@List.length_singleton
abbrev yO:=@decide_eq_true
abbrev yP:=@List.Pairwise.nil
abbrev yQ:=@Or.inl
abbrev yR:=@Or.inr
abbrev yS:=@List.forIn_cons
abbrev yT:=@beq_self_eq_true
abbrev yU:=@List.lookup_cons
abbrev yV:=@List.cons_append
abbrev yW:=@Option.map_some
abbrev yX:=@List.forIn_nil
abbrev yY:=@List.all_eq_true
abbrev yZ:=@List.getElem?_zip_eq_some
abbrev xA:=@PySem.pushCells_keeps
abbrev xB:=@Nat.le_add_right
abbrev xC:=@And.intro
abbrev xD:=@PySem.F.slot_tuple_iterator_next
abbrev xE:=@PySem.wpAny_setField_rec
abbrev xF:=@PySem.F.slot_zip_next
abbrev xG:=@PySem.wpAny_onRaise
abbrev xH:=@PySem.wpAny_updateSeq_pair
abbrev xI:=@PySem.wpAny_letGo
abbrev xJ:=@PySem.wpAny_newTuple
abbrev xK:=@Array.forIn_toList
abbrev xL:=@List.not_mem_nil
abbrev xM:=@or_false
abbrev xN:=@List.mem_singleton
abbrev xO:=@List.getD_eq_getElem?_getD
abbrev xP:=@List.getElem_mem
abbrev xQ:=@PySem.F.slot_tuple_mul
abbrev xR:=@PySem.AutoSeq1.idx_int
abbrev xS:=@PySem.AutoSeq1.sub_tuple_tuple
abbrev xT:=@Bool.or_eq_false_iff
abbrev xU:=@PySem.wpAny_ite_false
abbrev xV:=@Int.emod_nonneg
abbrev xW:=@Int.emod_lt_of_pos
abbrev xX:=@PySem.F.slot_enumerate_next
abbrev xY:=@decide_eq_true_eq
abbrev xZ:=@List.find?_cons
abbrev tD:=@List.any_cons
abbrev tE:=@Option.some.injEq
abbrev tF:=@Option.bind_some
abbrev tG:=@List.length_eq_zero_iff
abbrev tH:=@List.nil_append
abbrev tJ:=@List.getElem?_mapIdx
abbrev tK:=@List.getElem?_cons_succ
abbrev tL:=@List.getElem?_cons_zero
abbrev tM:=@List.flatMap_append
abbrev tN:=@Nat.succ.inj
abbrev tO:=@List.map_inj_right
abbrev tP:=@Nat.lt_of_le_of_lt
abbrev tQ:=@List.map_append
abbrev tR:=@Option.map_none
abbrev tS:=@Bool.not_eq_true'
abbrev tT:=@Prod.mk.injEq
abbrev tU:=@PySem.codeAny_call_builtin
abbrev tV:=@PySem.W.looks_findIn
abbrev tW:=@Bool.eq_false_iff
abbrev tX:=@Array.getElem?_eq_some_iff
abbrev tY:=@List.length_nil
abbrev tZ:=@PySem.wpAny_loadPart_at
abbrev sA:=@PySem.wpAny_typeLookup_exc
abbrev sB:=@List.cons.injEq
abbrev sC:=@Option.bind_eq_some_iff
abbrev sD:=@Bool.and_eq_true_iff
abbrev sE:=@Bool.not_true
abbrev sF:=@Bool.not_false
abbrev sG:=@decide_true
abbrev sH:=@congrFun
abbrev sI:=@PySem.F.slot_tuple_hash
abbrev sJ:=@PySem.wpAny_tupleItemsOf
abbrev sK:=@PySem.wpAny_forIn_list
abbrev sL:=@Nat.add_assoc
abbrev sM:=@PySem.isSubtype_tuple_tuple
abbrev sN:=@PySem.F.slot_tuple_eq
abbrev sO:=@PySem.boot_len
abbrev sP:=@Int.mul_nonneg
abbrev sQ:=@Int.mul_le_mul
abbrev sR:=@of_decide_eq_true
abbrev sS:=@PyProof.Rows.boot_isinstance
abbrev sT:=@Int.eq_ofNat_of_zero_le
abbrev sU:=@decide_eq_false_iff_not
abbrev sV:=@PySem.PassesOwn.never
abbrev sW:=@PySem.F.plainAttrs_list
abbrev sX:=@PySem.F.slot_list_append
abbrev sY:=@PySem.F.type_list_append
abbrev sZ:=@Array.all_append
abbrev rA:=@Array.all_toList
abbrev rB:=@List.length_range
theorem L2.sz1:1≤PySem.sizeLine:=by decide
theorem L2.sz2:2≤PySem.sizeLine:=by decide
theorem L2.sz3:3≤PySem.sizeLine:=by decide
theorem L2.sz4:4≤PySem.sizeLine:=by decide
theorem L2.sz5:5≤PySem.sizeLine:=by decide
theorem L2.sz6:6≤PySem.sizeLine:=by decide
theorem Uh{α β:Type _}{as:List α}(f:α->β):(as.map f).length=as.length:=List.length_map f
theorem JP{α:Type _}{l:List α}{i:Nat}(h:i<l.length):l[i]? = some l[i]:=List.getElem?_eq_getElem h
set_option bootstrap.genMatcherCode false
set_option compiler.extract_closed false
set_option hygiene false
local macro_rules
 | `(tactic| omega) => `(tactic| first | lia | omega (config := {}))
set_option Elab.async false
set_option linter.all false
set_option maxRecDepth 100000
set_option maxHeartbeats 4000000
namespace L2
open PySem PySem.W PySem.W.X PySem.Spec PyProof.Rows
def JB(p:Program)(w:World)(n:Nat)(an:Option Value):Nat->SharedT->Thread->Option SharedT
 | 0,_,_=>none
 | N+1,s,t=>match through t with
  | true=>some s
  | false=>match stepOk n an t with
   | false=>none
   | true=>match stepT (denote treeTable) p w s t with
    | some (s',t')=>JB p w n an N s' t'
    | none=>none
theorem NY{p:Program}{w:World}{n:Nat}{an:Option Value}:∀{N:Nat}{s s':SharedT}{t:Thread},JB p w n an N s t=some s'->topRun treeTable p w n an N s.abs t=some s'.abs
 | 0,_,_,_,h=>by cases h
 | N+1,s,s',t,h=>by
  unfold JB at h
  unfold topRun
  cases he:through t with
  | true=>rw[he]at h;cases h;rfl
  | false=>
   rw[he]at h
   cases hk:stepOk n an t with
   | false=>rw[hk]at h;cases h
   | true=>
    rw[hk]at h
    cases hs:stepT (denote treeTable) p w s t with
    | none=>rw[hs]at h;cases h
    | some r=>obtain⟨s₂,t₂⟩:=r;rw[hs]at h;rw[stepT_spec hs];exact NY h
def JC:List Obj->Nat->BT->BT
 | [],_,t=>t
 | o::l,i,t=>JC l (i+1) (t.ins i o)
noncomputable def Nh(P:Params):BT:=JC (boot_heap P).objs.toList 0 .nil
def Ng:Life:={ debug:=0,thresholds:=[2000,10,10] }
def Fx(p q:Program)(loose:List Str)(H:Heap)(s:Shared):=
 (staticsOk (importedModules p.main.body) H s.heap&&namesBound p s.heap&&gensDone s&&laidKept H s.heap,openSeen q loose (importedModules p.main.body) (λ_=>true) true s)
section
variable {α β:Type}
noncomputable def NC(p q:Program)(loose:List Str)(Yf:Shared->α)(N:Nat)(w:World)(os:OsState):=(JB p w 11 (some (.ref 6)) N ⟨Nh w.params,11,Ng,Array.mk [],boot_drawn,boot_toks,os⟩ (topStub p)).map λs=>(Fx p q loose (boot_heap w.params) s.abs,Yf s.abs)
def N3(q:Program)(loose:List Str)(y:α):=some ((true,openGood q loose),y)
noncomputable def XE(p:Program)(f:Heap->Shared->β)(N:Nat)(w:World)(os:OsState):=(JB p w 11 (some (.ref 6)) N ⟨Nh w.params,11,Ng,Array.mk [],boot_drawn,boot_toks,os⟩ (topStub p)).map λs=>f (boot_heap w.params) s.abs
def Gi(p q:Program)(loose:List Str)(H:Heap)(s:Shared):=
 (staticsOk (importedModules p.main.body) H s.heap&&namesBound p s.heap&&gensDone s&&laidKept H s.heap,(openSeen q loose (importedModules p.main.body) (λ_=>true) true s).1)
def Ga(q:Program)(loose:List Str):=some (true,(openGood q loose).1)
def Gh(p q:Program)(Yf:Shared->α)(_:Heap)(s:Shared):=
 (s.heap.bltView,s.heap.accountedOkI (importedModules p.main.body)&&s.heap.isNs mainGlobals&&s.heap.isNs builtinsNs&&tablesOk q s.heap&&s.gens.size == 0,Yf s)
def Pw(q:Program)(loose:List Str)(_:Heap)(s:Shared):=s.heap.keysOk (looseW q loose) ((recsOf q).map (·.name)) ((litsOf q).map (·.1)) ((clssOf q (looseW q loose)).map (·.name))
def K3(q:Program)(_:Heap)(s:Shared):=tabsOk q s
def K4(q:Program)(loose:List Str)(_:Heap)(s:Shared):=(pinSeenD q (drecsOf q) s,plainSeenE q (looseW q loose) s)
def HZ(q:Program)(loose:List Str):=some (pinGoodD (drecsOf q),plainGoodE q (looseW q loose))
def K5(q:Program)(loose:List Str)(_:Heap)(s:Shared):=(plainSeenD q loose s,wideSeen q s,clsSeenW q loose s)
def H_(q:Program)(loose:List Str):=some (plainGoodD q loose,wideGood q,clsGoodW q loose)
end
section
variable {α:Type}
theorem Vl{β γ:Type}{p:Program}{f:Heap->Shared->β}(g:β->γ){N:Nat}{w:World}{os:OsState}{r:β}(h:XE p f N w os=some r):XE p (λH s=>g (f H s)) N w os=some (g r):=by
 obtain⟨s,e1,e2⟩:=zF.mp h
 exact zF.mpr ⟨s,e1,zG g e2⟩
def Px(q:Program)(loose:List Str)(H:Heap)(s:Shared):=(Pw q loose H s,K3 q H s,K4 q loose H s,K5 q loose H s)
def Ds(q:Program)(loose:List Str):=some (true,true,(pinGoodD (drecsOf q),plainGoodE q (looseW q loose)),(plainGoodD q loose,wideGood q,clsGoodW q loose))
theorem KA{p q:Program}{loose:List Str}{Yf:Shared->α}{y:α}{N:Nat}{w:World}{os:OsState}(a:XE p (Gi p q loose) N w os=Ga q loose)(b:XE p (Gh p q Yf) N w os=some (bltViewBooted,true,y)) 
  (c2:XE p (Pw q loose) N w os=some true) (c4:XE p (K3 q) N w os=some true) (c5:XE p (K4 q loose) N w os=HZ q loose) (c6:XE p (K5 q loose) N w os=H_ q loose):NC p q loose Yf N w os=N3 q loose y:=by
 obtain⟨s,e1,e2⟩:=zF.mp a
 obtain⟨s',f1,f2⟩:=zF.mp b
 rw[e1]at f1;cases f1
 obtain⟨s',f1,g2⟩:=zF.mp c2
 rw[e1]at f1;cases f1
 obtain⟨s',f1,g4⟩:=zF.mp c4
 rw[e1]at f1;cases f1
 obtain⟨s',f1,g5⟩:=zF.mp c5
 rw[e1]at f1;cases f1
 obtain⟨s',f1,g6⟩:=zF.mp c6
 rw[e1]at f1;cases f1
 unfold NC N3
 rw[e1]
 obtain⟨z1,z2⟩:=zH e2
 obtain⟨y1,y2⟩:=zH f2
 obtain⟨y2,y3⟩:=zH y2
 obtain⟨x1,x2⟩:=zH g5
 obtain⟨v1,v2⟩:=zH g6
 obtain⟨v2,v3⟩:=zH v2
 refine zG some (zI (zI z1 (zI z2 (zI y1 (zI ?_ (zI g4 (zI x1 (zI x2 (zI v1 (zI v2 v3))))))))) y3)
 have h2:Pw q loose (boot_heap w.params) s.abs=true:=g2
 unfold Pw at h2
 show(s.abs.heap.keysOk (looseW q loose) ((recsOf q).map (·.name)) ((litsOf q).map (·.1)) ((clssOf q (looseW q loose)).map (·.name))&&s.abs.heap.accountedOkI (importedModules p.main.body)&&s.abs.heap.isNs mainGlobals&&s.abs.heap.isNs builtinsNs&&tablesOk q s.abs.heap&&true&&(if true then s.abs.gens.size == 0 else _))=true
 rw[h2,zJ rfl,zK,Bool.and_true]
 exact y2
end
end L2
namespace L2
open PySem PySem.Spec PyProof.Rows
def WI(A:Around)(h:Heap):Prop:=A.handled=none\/∃e oe vs,A.handled=some (.ref e)/\h.get? e=some oe/\oe.data=.fields vs/\vs[2]? = some .none
theorem S9:entryFor table "proto.unchain" = some Builtin.«proto.unchain»:=entryFor_of_tree (by kernel_rfl)
section
variable {prog:Program}{w:World}{A:Around}{E:Value->Shared->Prop}{s:Shared}
theorem WI.keep{h h':Heap}(x:WI A h)(k:∀e o,A.handled=some (.ref e)->h.get? e=some o->h'.get? e=some o):WI A h':=by
 rcases x with x|⟨e,oe,vs,x1,x2,x3,x4⟩
 ·exact .inl x
 ·exact .inr ⟨e,oe,vs,x1,k e oe x1 x2,x3,x4⟩
theorem Jc{α:Type}{x:Addr}{ox:Obj}{vx:Array Value}{Q:α->Shared->Prop}(hh:WI A s.heap)(hx:s.heap.get? x=some ox)(hd:ox.data=.fields vx)(hz:2<vx.size)(hxe:∀e,A.handled=some (.ref e)->e≠x) 
  (hE:∀h',(∀b o,b≠x->s.heap.get? b=some o->h'.get? b=some o)->(∃o,h'.get? x=some o/\o.cls=ox.cls)->E (.ref x) { s with heap:=h' }):wpAny (model prog w) A (raiseNew (.ref x):Sem α) Q E s:=by
 unfold raiseNew
 refine zL (wpAny_handled ?_)
 rcases hh with hn|⟨e,oe,vs,h1,h2,h3,h4⟩
 ·rw[hn]
  exact zL (zM (wpAny_throw (hE s.heap (λ_ _ _ q=>q) ⟨_,hx,rfl⟩)))
 ·rw[h1]
  have ne:=hxe e h1
  dsimp only
  rw[zJ (show(Value.ref e != Value.ref x)=true by simp[ne])]
  refine zL (zN (wpAny_runValue (codeAny_builtin S9 ?_)))
  show wpAny _ _ (field (.ref e) 2>>=_) _ _ _
  refine zL (zO h2 h3 h4 ?_)
  rw[zJ (show(Value.none == Value.none)=true from rfl)]
  refine zL (zM ?_)
  refine zM ?_
  show wpAny _ _ (updateField x 2 (.ref e)>>=_) _ _ _
  unfold updateField
  refine zL (zL (wpAny_load hx ?_))
  rw[hd]
  dsimp only
  rw[zJ hz]
  refine wpAny_update hx (wpAny_throw (hE _ (λb o nb q=>(zP _ _ (zQ nb)).trans q) ⟨_,zR _ hx (zS (zT hd _)),zU ..⟩))
theorem XF{α:Type}{Q:α->Shared->Prop}(hh:WI A s.heap)(hE:∀h' x,(∀b o,s.heap.get? b=some o->h'.get? b=some o)->(∃o,h'.get? x=some o/\o.cls=.type "StopIteration")->E (.ref x) { s with heap:=h' }):
  wpAny (model prog w) A (do let e <- newExc (.type "StopIteration") [];raiseNew e:Sem α) Q E s:=by
 refine zL ?_
 simp only[newExc,newTuple]
 refine zL (zV ?_ (by size_fits))
 refine zL (m:=firstArgMember _ _) (zW (a:=Value.none) (by first|rfl|(simp only[firstArgMember];rfl)) ?_)
 refine zV ?_ (by size_fits)
 have old:∀e o,s.heap.get? e=some o->∀a b,((s.heap.push a).push b).get? e=some o:=λe o q a b=>zX _ (zX _ q)
 refine Jc (hh.keep λe o _ q=>old e o q _ _) (zY _ rfl) rfl (by rw[zZ];exact Nat.lt_add_right _ (show 2<6 by decide)) (λe he z=>?_) λh' k1 k2=>hE h' _ (λb o q=>k1 b o (λz=>?_) (old b o q _ _)) k2
 ·rcases hh with hn|⟨e',oe,vs,h1,h2,h3,h4⟩
  ·rw[hn]at he;cases he
  ·rw[he]at h1;cases h1
   have:=wA h2
   rw[z,wB]at this;exact absurd this (not_lt.mpr (wC _))
 ·have:=wA q
  rw[z,wB]at this;exact absurd this (not_lt.mpr (wC _))
theorem NA{it l:Addr}{i:Nat}{items:Array Value}{Q:Option Value->Shared->Prop}(hh:WI A s.heap)(hne:∀e,A.handled=some (.ref e)->e≠it)(hit:s.heap.IsListIter it l i)(hl:s.heap.IsList l items)(hx:items[i]? = none) 
  (hQ:∀h',Heap.ExtBut it s.heap h'->Q none { s with heap:=h' }):wpAny (model prog w) A (pyNext (.ref it)) Q E s:=by
 obtain⟨o,ho,hc,hd⟩:=id hit
 obtain⟨ol,hol,_,nl,hdl⟩:=hl
 unfold pyNext
 refine zL (wD (wE (name:=Str.ofString "__next__") hit.typeIs wF (wG wF hit.typeIs entry_listiter_next ?_ (args_listiter_next _))))
 show wpAny _ _ (field (.ref it) 0>>=_) _ _ s;refine zL (zO ho hd (x:=.ref l) rfl ?_)
 show wpAny _ _ (if(Value.ref l == Value.none)=true then _ else _) _ _ s;rw[wH (show ¬((Value.ref l == Value.none)=true) from wI)]
 show wpAny _ _ (field (.ref it) 1>>=_) _ _ s;refine zL (zO ho hd (x:=.int i 0) rfl ?_)
 show wpAny _ _ (seqItems? (.ref l)>>=_) _ _ s;refine zL (wJ hol hdl ?_)
 simp only[wK,hx]
 refine zL (wL (zL (wM ho hd (by simp) ?_)))
 refine XF (A:=A.in1) (hh.keep λe o he q=>(zP _ _ (zQ (hne e he))).trans q) λh' x k hk=>?_
 refine zL (wN (T:="StopIteration") (b:=true) hk wO ?_)
 exact zM (hQ _ λb o nb q=>k b o ((zP _ _ (zQ nb)).trans q))
theorem Ez{it l:Addr}{i:Nat}{items:Array Value}{Q:Option Value->Shared->Prop}(hh:WI A s.heap)(hne:∀e,A.handled=some (.ref e)->e≠it)(hit:IsTupIter s.heap it l i)(hl:IsTup s.heap l items)(hx:items[i]? = none) 
  (hQ:∀h',Heap.ExtBut it s.heap h'->Q none { s with heap:=h' }):wpAny (model prog w) A (pyNext (.ref it)) Q E s:=by
 obtain⟨o,ho,hc,hd⟩:=id hit
 obtain⟨ol,hol,_,nl,hdl⟩:=hl
 unfold pyNext
 refine zL (wD (wE (name:=Str.ofString "__next__") hit.typeIs slot_tupleiter_next (wG slot_tupleiter_next hit.typeIs entry_tupleiter_next ?_ (args_tupleiter_next _))))
 show wpAny _ _ (field (.ref it) 0>>=_) _ _ s;refine zL (zO ho hd (x:=.ref l) rfl ?_)
 show wpAny _ _ (if(Value.ref l == Value.none)=true then _ else _) _ _ s;rw[wH (show ¬((Value.ref l == Value.none)=true) from wI)]
 show wpAny _ _ (field (.ref it) 1>>=_) _ _ s;refine zL (zO ho hd (x:=.int i 0) rfl ?_)
 show wpAny _ _ (seqItems? (.ref l)>>=_) _ _ s;refine zL (wJ hol hdl ?_)
 simp only[wK,hx]
 refine zL (wL (zL (wM ho hd (by simp) ?_)))
 refine XF (A:=A.in1) (hh.keep λe o he q=>(zP _ _ (zQ (hne e he))).trans q) λh' x k hk=>?_
 refine zL (wN (T:="StopIteration") (b:=true) hk wO ?_)
 exact zM (hQ _ λb o nb q=>k b o ((zP _ _ (zQ nb)).trans q))
theorem PV{t:Addr}{items:Array Value}{Q:List Value->Shared->Prop}(hh:WI A s.heap)(ht:IsTup s.heap t items) 
  (hQ:∀h',Heap.ExtBut s.heap.objs.size s.heap h'->Q items.toList { s with heap:=h' }):wpAny (model prog w) A (unpackItems (.ref t) items.size none) Q E s:=by
 have hlt:t≠s.heap.objs.size:=by obtain⟨o,ho,_⟩:=ht;exact wP (wA ho)
 have hne:∀e,A.handled=some (.ref e)->e≠s.heap.objs.size:=λe he z=>by
  rcases hh with hn|⟨e',oe,vs,h1,h2,_⟩
  ·rw[hn]at he;cases he
  ·rw[he]at h1;cases h1
   exact wP (wA h2) z
 unfold unpackItems notIterableAtAll
 refine zL (zL (wQ ht.typeIs slot_tuple_iter.lookup (zM ?_)))
 simp only[wR,wS]
 refine zL (zN (iter_tuple ht (zL (zN (draw_tuple hlt items.size 0 _ _ ⟨_,zY _ rfl,rfl,rfl⟩ (ht.push _) (by omega) λh1 i1 s1=>?_)))))
 rw[drop_zero,wT (by simp),wH (by simp)]
 have t1:IsTup h1 t items:=(ht.push _).extBut s1.extBut hlt
 refine zL (zN (Ez (hh.keep λe o he q=>s1.extBut e o (hne e he) (zX _ q)) hne i1 t1 (by simp) λh2 e2=>?_))
 simp only[Option.isSome_none,wR,wS]
 exact zM (hQ h2 λb o hb q=>e2 b o hb (s1.extBut b o hb (zX _ q)))
theorem Le{env:Env}{elts:List Expr}{k}{pos:Pos}{t:Addr}{items:Array Value}{Q:Unit->Shared->Prop}(hh:WI A s.heap)(ht:IsTup s.heap t items)(hn:(assignEach elts env).length=items.size)(hs:(assignEach elts env).findIdx? (·.1)=none) 
  (h:∀h',Heap.ExtBut s.heap.objs.size s.heap h'->wpAny (model prog w) A (assignInOrder ((assignEach elts env).map (·.2)) items.toList) Q E { s with heap:=h' }):wpAny (model prog w) A (assign (.Tuple elts k pos) env (.ref t)) Q E s:=by
 rw[assign_Tuple]
 unfold unpack
 rw[hn,hs]
 exact zL (wU (zL (zN (PV hh ht h))))
theorem Ec{it:Addr}{x left step:Int}{Q:Option Value->Shared->Prop}(hh:WI A s.heap)(hit:IsRangeIter s.heap it x left step)(hleft:left≤0) 
  (hQ:∀h',Heap.ExtBut it s.heap h'->Q none { s with heap:=h' }):wpAny (model prog w) A (pyNext (.ref it)) Q E s:=by
 have hT:s.TypeIs (.ref it) "range_iterator":=⟨_,hit,rfl⟩
 unfold pyNext
 refine zL (wD (wE (name:=Str.ofString "__next__") hT F.slot_range_iterator_next (wG F.slot_range_iterator_next hT F.entry_range_iterator_next ?_ (F.args_range_iterator_next_1 _))))
 show wpAny _ _ (field (.ref it) 0>>=_) _ _ s;refine zL (zO hit rfl (x:=rawInt x) rfl ?_)
 show wpAny _ _ (field (.ref it) 1>>=_) _ _ s;refine zL (zO hit rfl (x:=rawInt left) rfl ?_)
 show wpAny _ _ (field (.ref it) 2>>=_) _ _ s;refine zL (zO hit rfl (x:=rawInt step) rfl ?_)
 show wpAny _ _ (if left≤0 then _ else _) _ _ s;rw[zJ hleft]
 refine zL (wL (zL ?_))
 refine XF (A:=A.in1) hh λh' x k hk=>?_
 refine zL (wN (T:="StopIteration") (b:=true) hk wO ?_)
 exact zM (hQ _ λb o _ q=>k b o q)
theorem Hf{it:Addr}{lo:Int}{n i:Nat}{Q:Option Value->Shared->Prop}(hi:i<n)(st:IsRangeIter s.heap it (lo+(i:Nat)*1) ((n:Int)-(i:Nat)) 1) 
  (hQ:∀v h' tk,(∃t,v=.int (lo+(i:Nat)*1) t)->IsRangeIter h' it (lo+((i+1:Nat):Int)*1) ((n:Int)-((i+1:Nat):Int)) 1->(∀b o,b ∉ [it]->s.heap.get? b=some o->h'.get? b=some o)->Q (some v) { s with heap:=h',toks:=tk }):wpAny (model prog w) A (pyNext (.ref it)) Q E s:=by
 refine wpAny_pyNext_range_item st (by omega) λh' hit' hs'=>?_
 refine hQ _ h' _ ⟨_,rfl⟩ ?_ λb o hb e=>hs'.extBut b o (λh=>hb (by simp[h])) e
 have e1:lo+((i+1:Nat):Int)*1=lo+(i:Int)*1+1:=by push_cast;omega
 have e2:(n:Int)-((i+1:Nat):Int)=(n:Int)-(i:Int)-1:=by push_cast;omega
 rw[e1,e2];exact hit'
end
abbrev YM:=Sum Int Str
def Gf:YM->Value->Bool
 | .inl k,v=>Value.isInt k v
 | .inr x,v=>Value.isStrOf x v
def CW(w:World):YM->Int
 | .inl k=>hashInt k
 | .inr x=>hashStr w x
theorem Ym:∀{k:YM}{v:Value},Gf k v=true->(∃i t,k=Sum.inl i/\v=Value.int i t)\/(∃x t,k=Sum.inr x/\v=Value.str x t)
 | .inl i,v,h=>by
  obtain⟨t,e⟩:=Value.isInt_shape (k:=i) (v:=v) h
  exact .inl ⟨i,t,rfl,e⟩
 | .inr x,v,h=>by
  obtain⟨t,e⟩:=Value.isStrOf_shape (x:=x) (v:=v) h
  exact .inr ⟨x,t,rfl,e⟩
theorem Ft(a b:Int):decide ((Sum.inl a:YM)=Sum.inl b)=(a == b):=by
 by_cases e:a=b
 ·subst e;simp
 ·have h:¬(Sum.inl a:YM)=Sum.inl b:=λq=>e (Sum.inl.inj q)
  rw[wV h]
  exact(wW.mpr e).symm
theorem Fw(a b:Str):decide ((Sum.inr a:YM)=Sum.inr b)=decide (a=b):=by
 by_cases e:a=b
 ·subst e;simp
 ·have h:¬(Sum.inr a:YM)=Sum.inr b:=λq=>e (Sum.inr.inj q)
  rw[wV h,wV e]
theorem Fu(a:Int)(b:Str):decide ((Sum.inl a:YM)=Sum.inr b)=false:=wV (λq=>nomatch q)
theorem Fv(a:Str)(b:Int):decide ((Sum.inr a:YM)=Sum.inl b)=false:=wV (λq=>nomatch q)
def ZS(prog:Program)(w:World):PySem.KeyKind prog w YM where
 is:=Gf
 hash:=CW w
 inj:=λv a b ha hb=>by
  rcases Ym ha with ⟨i,t,rfl,rfl⟩|⟨x,t,rfl,rfl⟩
  ·rcases Ym hb with ⟨j,u,rfl,e⟩|⟨y,u,rfl,e⟩
   ·injection e with e1 _;rw[e1]
   ·exact nomatch e
  ·rcases Ym hb with ⟨j,u,rfl,e⟩|⟨y,u,rfl,e⟩
   ·exact nomatch e
   ·injection e with e1 _;rw[e1]
 byValue:=λk v h=>by
  rcases Ym h with ⟨i,t,rfl,rfl⟩|⟨x,t,rfl,rfl⟩<;>rfl
 pyHash:=λhv h=>by
  rcases Ym hv with ⟨i,t,rfl,rfl⟩|⟨x,t,rfl,rfl⟩
  ·exact wpAny_pyHash_int h
  ·exact wpAny_pyHash_str h
 eqBool:=λhu hv h=>by
  rcases Ym hu with ⟨i,t,rfl,rfl⟩|⟨x,t,rfl,rfl⟩
  ·rcases Ym hv with ⟨j,u,rfl,rfl⟩|⟨y,u,rfl,rfl⟩
   ·rw[Ft]at h;exact wpAny_eqBool_int h
   ·rw[Fu]at h;exact SeqAt.EqAt.int_str i t y u _ _ _ _ h
  ·rcases Ym hv with ⟨j,u,rfl,rfl⟩|⟨y,u,rfl,rfl⟩
   ·rw[Fv]at h;exact SeqAt.EqAt.str_int x t j u _ _ _ _ h
   ·rw[Fw]at h;exact wpAny_eqBool_str h
 «strs»:=λk x t v h=>by
  rcases Ym h with ⟨i,u,rfl,e⟩|⟨y,u,rfl,e⟩
  ·exact nomatch e
  ·injection e with e1 _
   subst e1
   cases v<;>rfl
inductive V where
 | non|bl (b:Bool)|int (i:Int)|str (x:Str)|byt (b:Array UInt8)|flt (b:UInt64)|ref (a:Addr)|ty (n:String)
 deriving DecidableEq
def ZL:V->Value->Prop
 | .non,u=>u=Value.none
 | .bl b,u=>u=Value.bool b
 | .int i,u=>∃t,u=Value.int i t
 | .str x,u=>∃t,u=Value.str x t
 | .byt b,u=>∃t,u=Value.bytes b t
 | .flt b,u=>∃t,u=Value.float b t
 | .ref a,u=>u=Value.ref a
 | .ty n,u=>u=Value.type n
abbrev ZD:List V->List Value->Prop:=Paired ZL
theorem ZD.length{xs:List V}{us:List Value}(r:ZD xs us):xs.length=us.length:=Paired.length r
theorem ZD.get:∀{xs:List V}{us:List Value}{i:Nat}{x:V},ZD xs us->xs[i]? = some x->∃u,us[i]? = some u/\ZL x u
 | _,_,_,_,.nil,e=>by simp at e
 | _,_,0,_,.cons r _,e=>by simp at e;subst e;exact⟨_,rfl,r⟩
 | _,_,i+1,x,.cons _ t,e=>by
  obtain⟨u,h1,h2⟩:=ZD.get (i:=i) (x:=x) t (by simpa using e)
  exact⟨u,by simpa using h1,h2⟩
theorem ZD.set{x:V}{u:Value}(r:ZL x u):∀{xs:List V}{us:List Value} (i:Nat),ZD xs us->ZD (xs.set i x) (us.set i u)
 | _,_,_,.nil=>.nil
 | _,_,0,.cons _ t=>.cons r t
 | _,_,i+1,.cons q t=>.cons q (ZD.set r i t)
theorem ZD.append:∀{xs ys:List V}{us ws:List Value},ZD xs us->ZD ys ws->ZD (xs++ys) (us++ws)
 | _,_,_,_,.nil,s=>s
 | _,_,_,_,.cons r t,s=>.cons r (ZD.append t s)
theorem ZD.take:∀{xs:List V}{us:List Value} (n:Nat),ZD xs us->ZD (xs.take n) (us.take n)
 | _,_,0,_=>.nil
 | _,_,_+1,.nil=>.nil
 | _,_,n+1,.cons r t=>.cons r (ZD.take n t)
theorem ZD.drop:∀{xs:List V}{us:List Value} (n:Nat),ZD xs us->ZD (xs.drop n) (us.drop n)
 | _,_,0,r=>r
 | _,_,_+1,.nil=>.nil
 | _,_,n+1,.cons _ t=>ZD.drop n t
theorem ZD.none_of:∀{xs:List V}{us:List Value}{i:Nat},ZD xs us->xs[i]? = none->us[i]? = none:=λ{xs us i} r e=>by
 have h1:=r.length
 have h2:xs.length≤i:=List.getElem?_eq_none_iff.mp e
 exact List.getElem?_eq_none_iff.mpr (by omega)
def Ww:Option V->Option Value->Prop
 | some v,some u=>ZL v u
 | none,none=>True
 | _,_=>False
def KV{κ:Type}:List (κ×V)->List (κ×Value)->Prop:=Paired λ(p:κ×V) (q:κ×Value)=>p.1=q.1/\ZL p.2 q.2
def kV:YM->V
 | .inl i=>.int i
 | .inr x=>.str x
inductive HO where
 /-- a list -/
 | lst (xs:List V)
 /-- a tuple (never changes) -/
 | tup (xs:List V)
 /-- a dict whose keys are ints and texts;one whose keys are tuples of ints and texts (the empty one is both) -/
 | dK (kvs:List (YM×V))|dT (kvs:List (List YM×V))
 /-- a set of ints: its members,its size -/
 | set (S:Int->Bool) (n:Nat)
 /-- an instance of the class at C,its dict at dx,its attributes -/
 | ins (C dx:Addr) (fs:List (Str×V))
 /-- the dict of the instance at x -/
 | own (x:Addr)
 /-- the dict of an exception -/
 | xd (fs:List (Str×V))
 /-- a bound method,f of x -/
 | met (f x:Addr)
 /-- a range object lo,lo+1,.. below hi -/
 | rng (lo hi:Int)
 /-- a thing that is known to the object (the script;a dict while a loop walks it): read,never written while it is so -/
 | frz (o:Obj) (u:HO)
 /-- a code object's table -/
 | tbl (ps:Array Value)
 /-- any other thing,by what is true of its one object (a def of one's own: SetO a S n:=HO.ext λh=>..) -/
 | ext (φ:Heap->Prop)
abbrev Hp:=Addr->Option HO
def upd(H:Hp)(a:Addr)(o:HO):Hp:=λb=>if b=a then some o else H b
theorem Zw{H:Hp}{a:Addr}{o:HO}:upd H a o a=some o:=by unfold upd;rw[zJ rfl]
theorem Zi{H:Hp}{a b:Addr}{o:HO}(h:b≠a):upd H a o b=H b:=by unfold upd;rw[wH h]
theorem YS{H:Hp}{a b:Addr}{o:HO}(h:H a=some o)(h':H b=none):a≠b:=by
 intro e;subst e;rw[h]at h';cases h'
def R8(h:Heap)(a:Addr)(its:Array Value):Prop:=∃o,h.get? a=some o/\o.cls=.type "tuple"/\∃n,o.data=.seq its n/\o.dict=none
theorem R8.tup{h:Heap}{a:Addr}{its:Array Value}(x:R8 h a its):IsTup h a its:=by obtain⟨o,e,c,n,d,_⟩:=x;exact⟨o,e,c,n,d⟩
theorem R8.new(h:Heap)(its:Array Value):R8 (h.push { cls:=.type "tuple",data:=.seq its }) h.objs.size its:=⟨_,zY _ rfl,rfl,0,rfl,rfl⟩
section
variable (P:Program) (w:World)
def Yx(H:Hp)(h:Heap)(a:Addr):HO->Prop
 | .lst xs=>xs.length≤sizeLine/\∃(its:List Value) (n:Nat),ZD xs its/\h.get? a=some { cls:=.type "list",data:=.seq its.toArray n }
 | .tup xs=>xs.length≤sizeLine/\∃its:List Value,ZD xs its/\R8 h a its.toArray
 | .dK kvs=>kvs.length≤sizeLine/\(a == sysModules)=false/\∃vs,KV kvs vs/\h.DictOf (ZS P w) a vs
 | .dT kvs=>kvs.length≤sizeLine/\(a == sysModules)=false/\∃xs:List (List YM×Addr×Value),
   Paired (λ(p:List YM×V) (q:List YM×Addr×Value)=>p.1=q.1/\H q.2.1=some (.tup (p.1.map kV))/\ZL p.2 q.2.2) kvs xs /\
   ∃o es ep,h.get? a=some o/\o.ExactDict/\o.data=.dict es ep/\es.toList=xs.map (entryOfKey (tupleKind (ZS P w)))/\(xs.map (·.1)).Nodup/\ep=xs.length
 | .set S n=>h.SetOf (intKind P w) a S n
 | .ins C dx fs=>H dx=some (.own a)/\fs.length≤1000/\dx≠a/\h.get? a=some (PySem.W.instObj C dx) /\
   ∃mA,h.Ns1 dx mA/\(∀f,Ww (fs.lookup f) (mA f))/\PySem.Within mA (fs.map (·.1))
 | .own _=>∃o,h.get? a=some o
 | .xd fs=>∃mA,h.Ns1 a mA/\∀f,Ww (fs.lookup f) (mA f)
 | .rng lo hi=>∃t u v,h.get? a=some { cls:=.type "range",data:=.fields #[.int lo t,.int hi u,.int 1 v] }
 | .frz o u=>h.get? a=some o/\Yx H h a u
 | .tbl ps=>h.get? a=some { cls:=.none,data:=.fields ps }
 | .met f x=>h.get? a=some (PySem.W.methodObj (.ref f) (.ref x))
 | .ext φ=>φ h/\(∃o,h.get? a=some o)/\∀h1 h2:Heap,φ h1->(∀o,h1.get? a=some o->h2.get? a=some o)->φ h2
def V1(H:Hp)(h:Heap):Prop:=∀a o,H a=some o->Yx P w H h a o
end
section
variable {P:Program}{w:World}{H H':Hp}{h h':Heap}{a:Addr}{o:HO}
theorem Yx.lt(x:Yx P w H h a o):a<h.objs.size:=by
 cases o with
 | lst xs=>obtain⟨_,_,_,_,e⟩:=x;exact wA e
 | tup xs=>obtain⟨_,_,_,p⟩:=x;exact p.tup.lt
 | dK kvs=>obtain⟨_,_,_,_,o,_,_,e,_⟩:=x;exact wA e
 | dT kvs=>obtain⟨_,_,_,_,o,_,_,e,_⟩:=x;exact wA e
 | set S n=>obtain⟨o,_,_,_,e,_⟩:=x;exact wA e
 | ins C dx fs=>obtain⟨_,_,_,e,_⟩:=x;exact wA e
 | own y=>obtain⟨_,e⟩:=x;exact wA e
 | xd fs=>obtain⟨_,⟨_,_,_,e,_⟩,_⟩:=x;exact wA e
 | rng lo hi=>obtain⟨_,_,_,e⟩:=x;exact wA e
 | frz ob u=>obtain⟨e,_⟩:=x;exact wA e
 | tbl ps=>exact wA (show h.get? a=some _ from x)
 | met f y=>exact wA (show h.get? a=some _ from x)
 | ext φ=>obtain⟨_,⟨_,e⟩,_⟩:=x;exact wA e
theorem Paired.mapP{α β:Type}{F G:α->β->Prop}:∀{l₁:List α}{l₂:List β},Paired F l₁ l₂->(∀a b,F a b->G a b)->Paired G l₁ l₂
 | _,_,.nil,_=>.nil
 | _,_,.cons r t,f=>.cons (f _ _ r) (Paired.mapP t f)
theorem Yx.stay(x:Yx P w H h a o)(k:∀b u,(b=a\/H b=some (.own a))->h.get? b=some u->h'.get? b=some u) 
  (ho:∀b,H b=some (.own a)->H' b=some (.own a)) (ht:∀b xs,H b=some (.tup xs)->H' b=some (.tup xs)):Yx P w H' h' a o:=by
 induction o with
 | lst xs=>obtain⟨z,its,n,r,e⟩:=x;exact⟨z,its,n,r,k _ _ (.inl rfl) e⟩
 | tup xs=>obtain⟨z,its,r,ob,e,c⟩:=x;exact⟨z,its,r,ob,k _ _ (.inl rfl) e,c⟩
 | dK kvs=>obtain⟨z,y,vs,r,ob,es,ep,e,c⟩:=x;exact⟨z,y,vs,r,ob,es,ep,k _ _ (.inl rfl) e,c⟩
 | dT kvs=>
  obtain⟨z,y,xs,r,ob,es,ep,e,c⟩:=x
  exact⟨z,y,xs,Paired.mapP r λp q z=>⟨z.1,ht _ _ z.2.1,z.2.2⟩,ob,es,ep,k _ _ (.inl rfl) e,c⟩
 | set S n=>obtain⟨ob,es,ep,t,e,c⟩:=x;exact⟨ob,es,ep,t,k _ _ (.inl rfl) e,c⟩
 | ins C dx fs=>
  obtain⟨d,z,ne,e,mA,⟨od,es,ep,e2,c⟩,r⟩:=x
  exact⟨ho _ d,z,ne,k _ _ (.inl rfl) e,mA,⟨od,es,ep,k _ _ (.inr d) e2,c⟩,r⟩
 | own y=>obtain⟨ob,e⟩:=x;exact⟨ob,k _ _ (.inl rfl) e⟩
 | xd fs=>obtain⟨mA,⟨od,es,ep,e,c⟩,r⟩:=x;exact⟨mA,⟨od,es,ep,k _ _ (.inl rfl) e,c⟩,r⟩
 | rng lo hi=>obtain⟨t,u,v,e⟩:=x;exact⟨t,u,v,k _ _ (.inl rfl) e⟩
 | frz ob u ih=>obtain⟨e,q⟩:=x;exact⟨k _ _ (.inl rfl) e,ih q⟩
 | tbl ps=>
  have e:h.get? a=some { cls:=.none,data:=.fields ps }:=x
  show h'.get? a=some { cls:=.none,data:=.fields ps }
  exact k a _ (.inl rfl) e
 | met f y=>
  have e:h.get? a=some (PySem.W.methodObj (.ref f) (.ref y)):=x
  show h'.get? a=some (PySem.W.methodObj (.ref f) (.ref y))
  exact k a _ (.inl rfl) e
 | ext φ=>obtain⟨p,⟨o,e⟩,st⟩:=x;exact⟨st _ _ p λo q=>k _ _ (.inl rfl) q,⟨o,k _ _ (.inl rfl) e⟩,st⟩
theorem V1.lt(x:V1 P w H h)(e:H a=some o):a<h.objs.size:=(x a o e).lt
theorem V1.fresh(x:V1 P w H h)(e:h.objs.size≤a):H a=none:=by
 cases q:H a with
 | none=>rfl
 | some u=>exact absurd (wX (x.lt q) e) (wY _)
theorem V1.kept(x:V1 P w H h)(k:∀b u,h.get? b=some u->h'.get? b=some u):V1 P w H h':=λa o e=>
 (x a o e).stay (λb u _ q=>k b u q) (λ_ q=>q) λ_ _ q=>q
theorem V1.laid(x:V1 P w H h)(k:∀b u,h.get? b=some u->h'.get? b=some u)(hp:h.objs.size≤a)(new:Yx P w (upd H a o) h' a o):V1 P w (upd H a o) h':=λb u e=>by
 have hn:=x.fresh hp
 by_cases hb:b=a
 ·subst hb;rw[Zw]at e;cases e;exact new
 ·rw[Zi hb]at e
  exact(x b u e).stay (λc v _ q=>k c v q) (λc q=>by rw[Zi (YS q hn)];exact q) λc xs q=>by rw[Zi (YS q hn)];exact q
end
def Rd(H:Hp)(a:Addr)(u:HO):Prop:=H a=some u\/∃o,H a=some (.frz o u)
theorem Rd.of{H:Hp}{a:Addr}{u:HO}(h:H a=some u):Rd H a u:=.inl h
theorem Rd.ok{P:Program}{w:World}{H:Hp}{h:Heap}{a:Addr}{u:HO}(r:Rd H a u)(x:V1 P w H h):Yx P w H h a u:=by
 rcases r with r|⟨o,r⟩
 ·exact x a u r
 ·obtain⟨_,q⟩:=x a _ r
  exact q
def Co:Option HO->Prop
 | some (.lst _)=>True
 | some (.dK _)=>True
 | some (.dT _)=>True
 | some (.set _ _)=>True
 | some (.ins _ _ _)=>True
 | some (.ext _)=>True
 | _=>False
section
variable {P:Program}{w:World}{H:Hp}{h h':Heap}{x e:Addr}{o':HO}
theorem V1.write(ok:V1 P w H h)(mu:Co (H x))(he:e=x\/H e=some (.own x))(k:∀b u,b≠e->h.get? b=some u->h'.get? b=some u)(heo:∃u,h'.get? e=some u) 
  (new:Yx P w (upd H x o') h' x o'):V1 P w (upd H x o') h':=λb u q=>by
 have nown:∀c y,H c=some (.own y)->c≠x:=λc y r z=>by subst z;rw[r]at mu;exact mu
 have ntup:∀c xs,H c=some (.tup xs)->c≠x:=λc xs r z=>by subst z;rw[r]at mu;exact mu
 by_cases hb:b=x
 ·subst hb;rw[Zw]at q;cases q;exact new
 ·rw[Zi hb]at q
  by_cases hbe:b=e
  ·have q':H b=some (.own x):=by
    rcases he with z|z
    ·exact absurd (hbe.trans z) hb
    ·rw[hbe];exact z
   rw[q]at q';cases q'
   obtain⟨v,hv⟩:=heo
   exact⟨v,by rw[hbe];exact hv⟩
  ·refine(ok b u q).stay (λc v hc r=>k c v ?_ r) (λc r=>by rw[Zi (nown c b r)];exact r) λc xs r=>by rw[Zi (ntup c xs r)];exact r
   rcases hc with rfl|hc
   ·exact hbe
   ·rintro rfl
    rcases he with z|z
    ·exact nown c b hc z
    ·rw[hc]at z;cases z;exact hb rfl
end
structure Un(fs ex:List Addr)(H H':Hp)(h h':Heap):Prop where
 keep:∀b o,h.get? b=some o->H b=none->b ∉ fs->b ∉ ex->h'.get? b=some o
 slot:∀b o,h.get? b=some o->H b=none->b∈fs->b ∉ ex->∃sl,h'.get? b=some { o with slots:=sl }
 free:∀b o,h.get? b=some o->H b=none->b ∉ ex->H' b=none
 there:∀b o,h.get? b=some o->b ∉ ex->∃o',h'.get? b=some o'
 tups:∀b xs,H b=some (.tup xs)->H' b=some (.tup xs)
 frzs:∀b o u,H b=some (.frz o u)->H' b=some (.frz o u)
 tbls:∀b ps,H b=some (.tbl ps)->∃more,H' b=some (.tbl (ps++more))
section
variable {fs fs' ex ex':List Addr}{H H1 H2:Hp}{h h1 h2 h':Heap}{a x e:Addr}{o:HO}
theorem Un.any(u:Un fs ex H H1 h h1){b:Addr}{ob:Obj}(q:h.get? b=some ob)(n:H b=none)(hx:b ∉ ex):∃sl,h1.get? b=some { ob with slots:=sl }:=by
 by_cases hb:b∈fs
 ·exact u.slot b ob q n hb hx
 ·exact⟨ob.slots,u.keep b ob q n hb hx⟩
theorem Un.trans(a:Un fs ex H H1 h h1)(b:Un fs ex H1 H2 h1 h2):Un fs ex H H2 h h2 where
 keep:=λc ob q n hc hx=>b.keep c ob (a.keep c ob q n hc hx) (a.free c ob q n hx) hc hx
 slot:=λc ob q n hc hx=>by
  obtain⟨sl,e1⟩:=a.slot c ob q n hc hx
  obtain⟨sl',e2⟩:=b.slot c _ e1 (a.free c ob q n hx) hc hx
  exact⟨sl',e2⟩
 free:=λc ob q n hx=>by
  obtain⟨o',e1⟩:=a.there c ob q hx
  exact b.free c o' e1 (a.free c ob q n hx) hx
 there:=λc ob q hx=>by
  obtain⟨o',e1⟩:=a.there c ob q hx
  exact b.there c o' e1 hx
 tups:=λc xs q=>b.tups c xs (a.tups c xs q)
 frzs:=λc ob xs q=>b.frzs c ob xs (a.frzs c ob xs q)
 tbls:=λc ps q=>by
  obtain⟨m1,e1⟩:=a.tbls c ps q
  obtain⟨m2,e2⟩:=b.tbls c _ e1
  exact⟨m1++m2,by rw[e2,Array.append_assoc]⟩
theorem Un.kept(k:∀b u,h.get? b=some u->h'.get? b=some u):Un fs ex H H h h':=
 ⟨λb ob q _ _ _=>k b ob q,λb ob q _ _ _=>⟨ob.slots,k b ob q⟩,λ_ _ _ n _=>n,λb ob q _=>⟨ob,k b ob q⟩,λ_ _ q=>q,λ_ _ _ q=>q,λ_ ps q=>⟨#[],by rw[q];simp⟩⟩
theorem Un.refl:Un fs ex H H h h:=Un.kept λ_ _ q=>q
theorem Un.laid(k:∀b u,h.get? b=some u->h'.get? b=some u)(hp:h.objs.size≤a)(hn:H a=none):Un fs ex H (upd H a o) h h' where
 keep:=λb u q _ _ _=>k b u q
 slot:=λb u q _ _ _=>⟨u.slots,k b u q⟩
 free:=λb u q n _=>by rw[Zi (wP (wX (wA q) hp))];exact n
 there:=λb u q _=>⟨u,k b u q⟩
 tups:=λb xs q=>by rw[Zi (YS q hn)];exact q
 frzs:=λb u xs q=>by rw[Zi (YS q hn)];exact q
 tbls:=λb ps q=>⟨#[],by rw[Zi (YS q hn),q];simp⟩
theorem Un.write(mu:Co (H x))(he:e=x\/H e=some (.own x))(k:∀b u,b≠e->h.get? b=some u->h'.get? b=some u)(heo:∃u,h'.get? e=some u):Un fs ex H (upd H x o) h h':=by
 have hx:∀b,H b=none->b≠x:=λb n z=>by subst z;rw[n]at mu;exact mu
 have hb:∀b,H b=none->b≠e:=λb n z=>by
  subst z
  rcases he with r|r
  ·exact hx b n r
  ·rw[n]at r;cases r
 have hm:∀b u,H b=some u->¬Co (some u)->b≠x:=λb u q nm z=>by subst z;rw[q]at mu;exact nm mu
 refine⟨λb u q n _ _=>k b u (hb b n) q,λb u q n _ _=>⟨u.slots,k b u (hb b n) q⟩,λb u q n _=>by rw[Zi (hx b n)];exact n,λb u q _=>?_,
  λb xs q=>by rw[Zi (hm b _ q λz=>z)];exact q,λb u xs q=>by rw[Zi (hm b _ q λz=>z)];exact q,λb ps q=>⟨#[],by rw[Zi (hm b _ q λz=>z),q];simp⟩⟩
 by_cases hbe:b=e
 ·subst hbe;exact heo
 ·exact⟨u,k b u hbe q⟩
theorem Un.mono(u:Un fs ex H H1 h h1)(hs:∀b∈fs,b∈fs')(hx:∀b∈ex,b∈ex'):Un fs' ex' H H1 h h1:=
 ⟨λb ob q n hb he=>u.keep b ob q n (λz=>hb (hs b z)) λz=>he (hx b z),λ_ _ q n _ he=>u.any q n λz=>he (hx _ z),λb ob q n he=>u.free b ob q n λz=>he (hx b z),λb ob q he=>u.there b ob q λz=>he (hx b z),u.tups,u.frzs,u.tbls⟩
end
def C9(h:Heap)(H:Hp):List Addr:=(List.range h.objs.size).filter λa=>(H a).isSome
def Qd(h:Heap)(H:Hp):Heap:=PySem.W.hideAll h (C9 h H)
theorem Mw(h:Heap)(H:Hp):(Qd h H).objs.size=h.objs.size:=PySem.W.hideAll_size _ _
theorem Ko{h:Heap}{H:Hp}{b:Addr}{o:Obj}(e:h.get? b=some o)(n:H b=none):(Qd h H).get? b=some o:=
 PySem.W.hideAll_get _ e λhm=>by
  have q:(H b).isSome=true:=(mem_filter.mp hm).2
  rw[n]at q;simp at q
theorem IE{h:Heap}{H:Hp}{b:Addr}{o:Obj}(e:(Qd h H).get? b=some o):h.get? b=some o/\H b=none:=by
 have e':h.get? b=some o:=PySem.W.of_hideAll (C9 h H) e
 refine⟨e',?_⟩
 cases q:H b with
 | none=>rfl
 | some x=>
  have hm:b∈C9 h H:=mem_filter.mpr ⟨List.mem_range.mpr (wA e'),by simp[q]⟩
  have z:(Qd h H).get? b=none:=PySem.W.hideAll_none (C9 h H) hm
  rw[z]at e;cases e
def JZ(g h:Heap)(L:Addr):List (Addr×Obj):=(List.range h.objs.size).filterMap λa=>if a=L\/(g.get? a).isSome=true then none else(h.get? a).map λo=>(a,o)
def rest(g h:Heap)(L d:Addr):List (Addr×Obj):=(JZ g h L).filter λp=>decide (p.1≠d)
structure Mod(K:Frag)(mg:Str->Option Value)(base:Heap):Prop where
 kin:K.In base
 glob:base.Ns mainGlobals mg
 blt:∃mb,base.Ns builtinsNs mb/\∀x:Str,x≠"__name__"->mb x=bootBuiltins x
 nolimit:base.NoLimit
structure Cx where
 prog:Program
 w:World
 K:Frag
 mg:Str->Option Value
 base:Heap
 A:Around
 N:List Str
 s₀:Shared
 H₀:Hp
 env:Env
 outer:List Env
 stack:List Env
 ex:List Addr
 fn:Str->Bool
 calm:Bool
 cold:Bool
 pn:List (Addr×Obj)
 xe:Value->Shared->Prop
def N0(l:List Env):List Addr:=l.filterMap (·.frame)
abbrev Cx.fs(X:Cx):List Addr:=N0 X.outer
def GJ(sc:Scope)(x:Str):Prop:=sc.names.lookup x=some .local \/ sc.names.lookup x=some .cell\/sc.names.lookup x=some .free
def HB(sc:Scope)(x:Str):Prop:=sc.names.lookup x=some .local \/ sc.names.lookup x=some .cell
def CG(env:Env)(h:Heap)(m:Str->Option Value)(x:Str)(u:Value):Prop:=
 (env.kindOf x=some .local/\m x=some u)\/((env.kindOf x=some .cell\/env.kindOf x=some .free)/\∃c,env.cells.lookup x=some c/\h.IsCell c (some u))
def T2(A:Around)(H:Hp):Prop:=∃e oe u vs,A.handled=some (.ref e)/\H e=some (HO.frz oe u)/\oe.data=.fields vs/\vs[2]? = some Value.none
structure Cx.Ok(X:Cx):Prop where
 mod:Mod X.K X.mg X.base
 kind:X.env.scope.kind=.function
 glob:X.env.globals=mainGlobals
 blt:X.env.builtins=builtinsNs
 above:X.s₀.heap.objs.size≤X.env.locals
 inj:∀x y c,X.env.cells.lookup x=some c->X.env.cells.lookup y=some c->x=y
 has:∀x,(X.env.kindOf x=some .cell\/X.env.kindOf x=some .free)->∃c,X.env.cells.lookup x=some c
 cab:∀x c,X.fn x=true->X.env.cells.lookup x=some c->X.s₀.heap.objs.size≤c
 hd:X.calm=true->X.A.handled=none\/T2 X.A X.H₀
 cd:X.cold=true->X.A.handled=none
 frames:X.A.frames=some X.stack
 stk:X.stack=X.outer\/(X.stack=X.env::X.outer/\X.env.frame=some X.env.locals)
 exf:∀b∈X.ex,b≠X.env.locals/\∀x c,X.env.cells.lookup x=some c->c≠b
 bs:∀b o,X.base.get? b=some o->X.s₀.heap.get? b=some o/\X.H₀ b=none
 bsz:X.base.objs.size≤X.s₀.heap.objs.size
 noex:∀b o,X.base.get? b=some o->b ∉ X.ex
 exfs:∀b∈X.ex,b ∉ X.fs
 funs:X.s₀.heap.FunFrames X.base X.outer
 frf:∀b∈X.fs,X.H₀ b=none
structure Zv(X:Cx)(pins:List (Addr×Obj))(σ:List (Option V))(H:Hp)(s:Shared):Prop where
 ok:X.Ok
 os:s.os=X.s₀.os
 bare:AllBare s.gens
 base:Un X.fs X.ex X.H₀ H X.s₀.heap s.heap
 loc:∃m,s.heap.Ns X.env.locals m/\∀(i:Nat) (x:Str) (v:V),X.N[i]? = some x->σ[i]? = some (some v)->GJ X.env.scope x->∃u,ZL v u/\CG X.env s.heap m x u
 cell:∀x c,X.env.cells.lookup x=some c->∃v,s.heap.IsCell c v
 free:H X.env.locals=none
 freeC:∀x c,X.env.cells.lookup x=some c->H c=none
 pin:∀p∈X.pn++pins,s.heap.get? p.1=some p.2/\H p.1=none/\p.1≠X.env.locals/\p.1 ∉ X.fs/\∀v,p.2.data≠.cell v
 hok:V1 X.prog X.w H s.heap
 len:σ.length=X.N.length
section
variable {X:Cx}{pins:List (Addr×Obj)}{σ:List (Option V)}{H H':Hp}{s:Shared}{h':Heap}
theorem Cx.Ok.nofr(ok:X.Ok){b:Addr}{o:Obj}(e:X.base.get? b=some o):b ∉ X.fs:=λhb=>by
 have:=(ok.funs.mem hb).1
 rw[e]at this;cases this
theorem Zv.bs(I:Zv X pins σ H s):∀b o,X.base.get? b=some o->s.heap.get? b=some o/\H b=none:=λb o e=>
 ⟨I.base.keep b o (I.ok.bs b o e).1 (I.ok.bs b o e).2 (I.ok.nofr e) (I.ok.noex b o e),I.base.free b o (I.ok.bs b o e).1 (I.ok.bs b o e).2 (I.ok.noex b o e)⟩
theorem Zv.bk(I:Zv X pins σ H s):∀b o,X.base.get? b=some o->s.heap.get? b=some o:=λb o e=>(I.bs b o e).1
theorem Zv.mod(I:Zv X pins σ H s):Mod X.K X.mg X.base:=I.ok.mod
theorem Zv.kIn(I:Zv X pins σ H s):X.K.In s.heap:=I.ok.mod.kin.keeps I.bk
theorem Zv.nolimit(I:Zv X pins σ H s):s.heap.NoLimit:=I.ok.mod.nolimit.keeps I.bk
theorem Zv.fr(I:Zv X pins σ H s):∃m,Fr X.base X.env.locals s.heap m:=
 let ⟨m,hn,_⟩:=I.loc
 ⟨m,hn,I.bk,wZ I.ok.bsz I.ok.above⟩
theorem Zv.lt(I:Zv X pins σ H s):X.env.locals<s.heap.objs.size:=let ⟨_,hn,_⟩:=I.loc;hn.lt
theorem Zv.sz(I:Zv X pins σ H s):X.s₀.heap.objs.size≤s.heap.objs.size:=wZ I.ok.above (le_of_lt I.lt)
theorem Zv.nofs(I:Zv X pins σ H s){a:Addr}(h:s.heap.objs.size≤a):a ∉ X.fs:=λhb=>by
 obtain⟨_,o,ho,_⟩:=I.ok.funs.mem hb
 exact absurd (wX (wA ho) (wZ I.sz h)) (wY _)
theorem Zv.cne(I:Zv X pins σ H s):∀x c,X.env.cells.lookup x=some c->c≠X.env.locals:=λx c e z=>by
 obtain⟨v,o,ho,hd⟩:=I.cell x c e
 obtain⟨m,⟨o',es,ep,ho',hd',_⟩,_⟩:=I.loc
 rw[z,ho']at ho;cases ho;rw[hd']at hd;cases hd
theorem Zv.funs(I:Zv X pins σ H s):s.heap.FunFrames X.base X.outer:=by
 have all:∀(l:List Env),(∀b∈N0 l,b∈X.fs)->X.s₀.heap.FunFrames X.base l->s.heap.FunFrames X.base l:=by
  intro l
  induction l with
  | nil=>intro _ _;trivial
  | cons env r ih=>
   intro hs hl
   obtain⟨hk,⟨L,o,hf,hn,ho,hd⟩,hr⟩:=hl
   have hL:L∈X.fs:=hs L (by unfold N0;rw[vA,hf];exact vB)
   obtain⟨sl,e⟩:=I.base.slot L o ho (I.ok.frf L hL) hL λz=>I.ok.exfs L z hL
   exact⟨hk,⟨L,_,hf,hn,e,hd⟩,ih (λb hb=>hs b (by unfold N0;rw[vA,hf];exact vC _ hb)) hr⟩
 exact all X.outer (λ_ hb=>hb) I.ok.funs
theorem Zv.stack(I:Zv X pins σ H s):s.heap.FunFrames X.base X.stack:=by
 rcases I.ok.stk with e|⟨e,hf⟩
 ·rw[e];exact I.funs
 ·rw[e]
  obtain⟨m,hn,_⟩:=I.loc
  refine .cons (by rw[I.ok.kind];decide) hf hn ?_ I.funs
  exact vD (wZ I.ok.bsz I.ok.above)
theorem Zv.stkSub(I:Zv X pins σ H s):∀b∈N0 X.stack,b∈X.env.locals::X.fs:=λb hb=>by
 rcases I.ok.stk with e|⟨e,hf⟩
 ·rw[e]at hb;exact vC _ hb
 ·rw[e]at hb
  unfold N0 at hb
  rw[vA,hf]at hb
  exact hb
theorem Zv.stkFree(I:Zv X pins σ H s):∀b∈N0 X.stack,H b=none:=λb hb=>by
 rcases vE.mp (I.stkSub b hb) with e|hb
 ·rw[e];exact I.free
 ·obtain⟨_,o,ho,_⟩:=I.ok.funs.mem hb
  exact I.base.free b o ho (I.ok.frf b hb) λz=>I.ok.exfs b z hb
theorem Zv.step{g':Array GenState}{t':Nat}{d':Drawn}{ch:List Addr}(I:Zv X pins σ H s) 
  (hch:∀b∈ch,(b∈X.ex\/X.s₀.heap.objs.size≤b)/\b≠X.env.locals/\(∀x c,X.env.cells.lookup x=some c->c≠b)/\∀p∈X.pn++pins,p.1≠b)
  (keep:∀b o,b≠X.env.locals->b ∉ X.fs->b ∉ ch->s.heap.get? b=some o->H b=none->h'.get? b=some o)
  (slot:∀b o,b≠X.env.locals->b∈X.fs->b ∉ ch->s.heap.get? b=some o->H b=none->∃sl,h'.get? b=some { o with slots:=sl }) (free:∀b o,b ∉ ch->s.heap.get? b=some o->H b=none->H' b=none)
  (there:∀b o,b ∉ ch->s.heap.get? b=some o->∃o',h'.get? b=some o')
  (tups:∀b xs,H b=some (.tup xs)->H' b=some (.tup xs)) (frzs:∀b o u,H b=some (.frz o u)->H' b=some (.frz o u)) (tbls:∀b ps,H b=some (.tbl ps)->∃more,H' b=some (.tbl (ps++more)))
  (ns:∀m,s.heap.Ns X.env.locals m->h'.Ns X.env.locals m) (hok:V1 X.prog X.w H' h') (hg:AllBare g') :
  Zv X pins σ H' { s with heap:=h',gens:=g',drawn:=d',toks:=t' }:=by
 have neL:∀b o,X.s₀.heap.get? b=some o->b≠X.env.locals:=λb o e=>wP (wX (wA e) I.ok.above)
 have neC:∀b o,X.s₀.heap.get? b=some o->b ∉ X.ex->b ∉ ch:=λb o e hx hb=>by
  rcases(hch b hb).1 with z|z
  ·exact hx z
  ·exact absurd (wX (wA e) z) (wY _)
 have cellK:∀x c,X.env.cells.lookup x=some c->∀v,s.heap.IsCell c v->h'.IsCell c v:=λx c e v ⟨o,ho,hd⟩=>by
  have nch:c ∉ ch:=λz=>(hch c z).2.2.1 x c e rfl
  by_cases hc:c∈X.fs
  ·obtain⟨sl,q⟩:=slot c o (I.cne x c e) hc nch ho (I.freeC x c e)
   exact⟨_,q,hd⟩
  ·exact⟨o,keep c o (I.cne x c e) hc nch ho (I.freeC x c e),hd⟩
 refine⟨I.ok,I.os,hg,⟨λb o e n hb hx=>?_,λb o e n hb hx=>?_,λb o e n hx=>?_,λb o e hx=>?_,λb xs e=>tups b xs (I.base.tups b xs e),λb o xs e=>frzs b o xs (I.base.frzs b o xs e),λb ps e=>?_⟩,?_,λx c e=>?_,?_,λx c e=>?_,λp hp=>?_,hok,I.len⟩
 ·exact keep b o (neL b o e) hb (neC b o e hx) (I.base.keep b o e n hb hx) (I.base.free b o e n hx)
 ·obtain⟨sl,e1⟩:=I.base.slot b o e n hb hx
  obtain⟨sl',e2⟩:=slot b _ (neL b o e) hb (neC b o e hx) e1 (I.base.free b o e n hx)
  exact⟨sl',e2⟩
 ·obtain⟨o',e1⟩:=I.base.there b o e hx
  exact free b o' (neC b o e hx) e1 (I.base.free b o e n hx)
 ·obtain⟨o',e1⟩:=I.base.there b o e hx
  exact there b o' (neC b o e hx) e1
 ·obtain⟨m1,e1⟩:=I.base.tbls b ps e
  obtain⟨m2,e2⟩:=tbls b _ e1
  exact⟨m1++m2,by rw[e2,Array.append_assoc]⟩
 ·obtain⟨m,hn,hl⟩:=I.loc
  refine⟨m,ns m hn,λi x v e1 e2 e3=>?_⟩
  obtain⟨u,r,l⟩:=hl i x v e1 e2 e3
  refine⟨u,r,?_⟩
  rcases l with l|⟨k,c,e,z⟩
  ·exact .inl l
  ·exact .inr ⟨k,c,e,cellK x c e _ z⟩
 ·obtain⟨v,z⟩:=I.cell x c e
  exact⟨v,cellK x c e v z⟩
 ·obtain⟨m,⟨o,_,_,ho,_⟩,_⟩:=I.loc
  exact free _ o (λz=>(hch _ z).2.1 rfl) ho I.free
 ·obtain⟨v,o,ho,hd⟩:=I.cell x c e
  exact free c o (λz=>(hch c z).2.2.1 x c e rfl) ho (I.freeC x c e)
 ·obtain⟨e,n,ne,nf,d⟩:=I.pin p hp
  have nch:p.1 ∉ ch:=λz=>(hch p.1 z).2.2.2 p hp rfl
  exact⟨keep p.1 p.2 ne nf nch e n,free p.1 p.2 nch e n,ne,nf,d⟩
theorem Zv.un{t':Nat}(I:Zv X pins σ H s)(u:Un X.fs [] H H' s.heap h')(hok:V1 X.prog X.w H' h'):Zv X pins σ H' { s with heap:=h',toks:=t' }:=by
 obtain⟨m,⟨o,es,ep,ho,r⟩,_⟩:=id I.loc
 obtain⟨sl,hL⟩:=u.any ho I.free (by simp)
 exact I.step (g':=s.gens) (d':=s.drawn) (ch:=[]) (λ_ z=>nomatch z) (λb o _ hb _ e n=>u.keep b o e n hb (by simp)) (λb o _ hb _ e n=>u.slot b o e n hb (by simp)) (λb o _ e n=>u.free b o e n (by simp)) (λb o _ e=>u.there b o e (by simp)) u.tups u.frzs u.tbls (λm' hm=>by
  obtain⟨o',es',ep',ho',r'⟩:=hm
  rw[ho]at ho';cases ho'
  exact⟨_,es',ep',hL,r'⟩) hok I.bare
theorem Zv.call{g':Array GenState}{t':Nat}{d':Drawn}{ch:List Addr}(I:Zv X pins σ H s)(u:Un (N0 X.stack) ch H H' s.heap h')(hok:V1 X.prog X.w H' h')(hg:AllBare g') 
  (hch:∀b∈ch,(b∈X.ex\/X.s₀.heap.objs.size≤b)/\b≠X.env.locals/\(∀x c,X.env.cells.lookup x=some c->c≠b)/\∀p∈X.pn++pins,p.1≠b) :
  Zv X pins σ H' { s with heap:=h',gens:=g',drawn:=d',toks:=t' }:=by
 obtain⟨m,⟨o,es,ep,ho,r⟩,_⟩:=id I.loc
 obtain⟨sl,hL⟩:=u.any ho I.free λz=>(hch _ z).2.1 rfl
 exact I.step (ch:=ch) hch (λb o hL hb hc e n=>u.keep b o e n (λz=>(vE.mp (I.stkSub b z)).elim hL hb) hc) (λb o _ _ hc e n=>u.any e n hc) (λb o hc e n=>u.free b o e n hc) (λb o hc e=>u.there b o e hc) u.tups u.frzs u.tbls (λm' hm=>by
  obtain⟨o',es',ep',ho',r'⟩:=hm
  rw[ho]at ho';cases ho'
  exact⟨_,es',ep',hL,r'⟩) hok hg
theorem Zv.turned{t':Nat}{it:Addr}(I:Zv X pins σ H s)(k:∀b o,b≠it->s.heap.get? b=some o->h'.get? b=some o)(hn:H it=none)(hL:it≠X.env.locals) 
  (h1:it∈X.ex\/X.s₀.heap.objs.size≤it) (h2:∀x c,X.env.cells.lookup x=some c->c≠it) (h3:∀p∈X.pn++pins,p.1≠it):Zv X pins σ H { s with heap:=h',toks:=t' }:=by
 have nit:∀b u,H b=some u->b≠it:=λb u e z=>by rw[z,hn]at e;cases e
 refine I.step (g':=s.gens) (d':=s.drawn) (ch:=[it]) (λb hb=>?_) (λb o _ _ hc e _=>k b o (λz=>hc (by simp[z])) e) (λb o _ _ hc e _=>⟨o.slots,k b o (λz=>hc (by simp[z])) e⟩) (λ_ _ _ _ n=>n)
  (λb o hc e=>⟨o,k b o (λz=>hc (by simp[z])) e⟩) (λ_ _ e=>e) (λ_ _ _ e=>e) (λb ps e=>⟨#[],by rw[e];simp⟩) (λm hm=>?_) (λb u e=>?_) I.bare
 ·have e:b=it:=by simpa using hb
  subst e
  exact⟨h1,hL,h2,h3⟩
 ·obtain⟨o,es,ep,ho,r⟩:=hm
  exact⟨o,es,ep,k _ o (zQ hL) ho,r⟩
 ·refine(I.hok b u e).stay (λc v hc q=>k c v ?_ q) (λ_ q=>q) λ_ _ q=>q
  rcases hc with z|z
  ·rw[z];exact nit b u e
  ·exact nit c _ z
theorem Zv.tok(I:Zv X pins σ H s)(t:Nat):Zv X pins σ H { s with toks:=t }:=I.un (h':=s.heap) (t':=t) Un.refl I.hok
theorem Zv.kept{t':Nat}(I:Zv X pins σ H s)(k:∀b u,s.heap.get? b=some u->h'.get? b=some u):Zv X pins σ H { s with heap:=h',toks:=t' }:=I.un (Un.kept k) (I.hok.kept k)
theorem Zv.laid{a:Addr}{o:HO}{t':Nat}(I:Zv X pins σ H s)(k:∀b u,s.heap.get? b=some u->h'.get? b=some u)(hp:s.heap.objs.size≤a)(new:Yx X.prog X.w (upd H a o) h' a o):
  Zv X pins σ (upd H a o) { s with heap:=h',toks:=t' }:=I.un (Un.laid k hp (I.hok.fresh hp)) (I.hok.laid k hp new)
theorem Zv.write{x e:Addr}{o:HO}{t':Nat}(I:Zv X pins σ H s)(mu:Co (H x))(he:e=x\/H e=some (.own x))(k:∀b u,b≠e->s.heap.get? b=some u->h'.get? b=some u)(heo:∃u,h'.get? e=some u) 
  (new:Yx X.prog X.w (upd H x o) h' x o):Zv X pins σ (upd H x o) { s with heap:=h',toks:=t' }:=I.un (Un.write mu he k heo) (I.hok.write mu he k heo new)
theorem Zv.pins_of{pins':List (Addr×Obj)}(I:Zv X pins σ H s)(h:∀p∈pins',s.heap.get? p.1=some p.2/\H p.1=none/\p.1≠X.env.locals/\p.1 ∉ X.fs/\∀v,p.2.data≠.cell v):Zv X pins' σ H s:=
 ⟨I.ok,I.os,I.bare,I.base,I.loc,I.cell,I.free,I.freeC,λp hp=>(vF.mp hp).elim (λz=>I.pin p (vG _ z)) (h p),I.hok,I.len⟩
theorem Sd{N:List Str}(hN:N.Nodup){i j:Nat}{x:Str}(a:N[i]? = some x)(b:N[j]? = some x):i=j:=by
 obtain⟨h1,e1⟩:=vH.mp a
 obtain⟨h2,e2⟩:=vH.mp b
 exact(List.getElem_inj hN).mp (e1.trans e2.symm)
theorem R1{M:Model}{A:Around}{E:Value->Shared->Prop}{i:Nat}{x:Str}{v:V}{u:Value}{Q:Unit->Shared->Prop}(I:Zv X pins σ H s)(hN:X.N.Nodup)(hi:X.N[i]? = some x)(hx:HB X.env.scope x)(r:ZL v u) 
  (h:∀s',Zv X pins (σ.set i (some v)) H s'->(∃a,Heap.SameBut a s.heap s'.heap/\(a=X.env.locals\/X.env.cells.lookup x=some a))->Q () s') (hf:X.fn x=true\/X.env.scope.names.lookup x=some .local:=by first|exact .inl rfl|exact .inr rfl|assumption):wpAny M A (storeName X.env x u) Q E s:=by
 obtain⟨m,hn,hl⟩:=id I.loc
 have hcls:(X.env.scope.kind == .class||(X.env.scope.kind == .module&&X.env.locals != X.env.globals))=false:=by rw[I.ok.kind];rfl
 have hiσ:i<σ.length:=by rw[I.len];exact(vH.mp hi).1
 have cne:=I.cne
 have tracked:∀{a:Addr}{h':Heap},(∃o,s.heap.get? a=some o/\H a=none)->Heap.SameBut a s.heap h'->V1 X.prog X.w H h':=λ{a h'} ha hs b ob e=>by
  obtain⟨_,_,hfree⟩:=ha
  refine(I.hok b ob e).stay (λc w' hc q=>(hs.2 c ?_).trans q) (λ_ q=>q) λ_ _ q=>q
  rintro rfl
  rcases hc with rfl|hc
  ·rw[hfree]at e;cases e
  ·rw[hfree]at hc;cases hc
 rcases hx with hk|hk
 ·refine wpAny_storeName_local hk hn (λh' hn' hs=>?_) hcls
  obtain⟨oL,_,_,hoL,_⟩:=id hn
  refine h _ ⟨I.ok,I.os,I.bare,⟨λb o e n hb hx=>?_,λb o e n hb hx=>?_,I.base.free,λb o e hx=>?_,I.base.tups,I.base.frzs,I.base.tbls⟩,⟨_,hn',λj y v' e1 e2 e3=>?_⟩,λy c e=>?_,I.free,I.freeC,λp hp=>?_,tracked ⟨oL,hoL,I.free⟩ hs,by simpa using I.len⟩ ⟨_,hs,.inl rfl⟩
  ·exact(hs.2 b (wP (wX (wA e) I.ok.above))).trans (I.base.keep b o e n hb hx)
  ·obtain⟨sl,e1⟩:=I.base.slot b o e n hb hx
   exact⟨sl,(hs.2 b (wP (wX (wA e) I.ok.above))).trans e1⟩
  ·obtain⟨o',e1⟩:=I.base.there b o e hx
   exact⟨o',(hs.2 b (wP (wX (wA e) I.ok.above))).trans e1⟩
  ·by_cases hj:j=i
   ·subst hj
    rw[hi]at e1;cases e1
    rw[vI hiσ]at e2
    cases e2
    exact⟨u,r,.inl ⟨hk,by simp⟩⟩
   ·rw[vJ (zQ hj)]at e2
    obtain⟨u',r',q⟩:=hl j y v' e1 e2 e3
    refine⟨u',r',?_⟩
    rcases q with ⟨k,e⟩|⟨k,c,e,z⟩
    ·refine .inl ⟨k,?_⟩
     have:y≠x:=λe=>hj (Sd hN e1 (e▸hi))
     simp[this,e]
    ·exact .inr ⟨k,c,e,z.sameBut hs (cne y c e)⟩
  ·obtain⟨w',z⟩:=I.cell y c e
   exact⟨w',z.sameBut hs (cne y c e)⟩
  ·obtain⟨e,n,ne,nf,d⟩:=I.pin p hp
   exact⟨(hs.2 p.1 ne).trans e,n,ne,nf,d⟩
 ·have hfn:X.fn x=true:=by
   rcases hf with z|z
   ·exact z
   ·rw[z]at hk;cases hk
  obtain⟨c,hc⟩:=I.ok.has x (.inl hk)
  obtain⟨w',z⟩:=I.cell x c hc
  refine wpAny_storeName_cell I.ok.kind hk hc z (λh' hc' hs=>?_)
  obtain⟨oc,hoc,hocd⟩:=id z
  refine h { s with heap:=h' } ⟨I.ok,I.os,I.bare,⟨λb o e n hb hx=>?_,λb o e n hb hx=>?_,I.base.free,λb o e hx=>?_,I.base.tups,I.base.frzs,I.base.tbls⟩,⟨m,hn.sameBut hs (zQ (cne x c hc)),λj y v' e1 e2 e3=>?_⟩,λy c' e=>?_,I.free,I.freeC,λp hp=>?_,tracked ⟨oc,hoc,I.freeC x c hc⟩ hs,by simpa using I.len⟩ ⟨c,hs,.inr hc⟩
  ·exact(hs.2 b (wP (wX (wA e) (I.ok.cab x c hfn hc)))).trans (I.base.keep b o e n hb hx)
  ·obtain⟨sl,e1⟩:=I.base.slot b o e n hb hx
   exact⟨sl,(hs.2 b (wP (wX (wA e) (I.ok.cab x c hfn hc)))).trans e1⟩
  ·obtain⟨o',e1⟩:=I.base.there b o e hx
   exact⟨o',(hs.2 b (wP (wX (wA e) (I.ok.cab x c hfn hc)))).trans e1⟩
  ·by_cases hj:j=i
   ·subst hj
    rw[hi]at e1;cases e1
    rw[vI hiσ]at e2
    cases e2
    exact⟨u,r,.inr ⟨.inl hk,c,hc,hc'⟩⟩
   ·rw[vJ (zQ hj)]at e2
    obtain⟨u',r',q⟩:=hl j y v' e1 e2 e3
    refine⟨u',r',?_⟩
    rcases q with q|⟨k,c',e,z'⟩
    ·exact .inl q
    ·refine .inr ⟨k,c',e,z'.sameBut hs ?_⟩
     rintro rfl
     exact hj (Sd hN e1 (I.ok.inj _ _ _ e hc▸hi))
  ·by_cases hcc:c'=c
   ·subst hcc;exact⟨_,hc'⟩
   ·obtain⟨w2,z2⟩:=I.cell y c' e
    exact⟨w2,z2.sameBut hs hcc⟩
  ·obtain⟨e,n,ne,nf,d⟩:=I.pin p hp
   refine⟨(hs.2 p.1 ?_).trans e,n,ne,nf,d⟩
   intro q
   rw[q,hoc]at e
   have q':oc=p.2:=vK e
   exact d w' (by rw[<- q'];exact hocd)
theorem Ve{M:Model}{A:Around}{E:Value->Shared->Prop}{i:Nat}{x:Str}{v:V}{u:Value}{Q:Unit->Shared->Prop}(I:Zv X pins σ H s)(hN:X.N.Nodup)(hi:X.N[i]? = some x)(hx:HB X.env.scope x)(r:ZL v u) 
  (h:∀s',Zv X pins (σ.set i (some v)) H s'->Q () s') (hf:X.fn x=true\/X.env.scope.names.lookup x=some .local:=by first|exact .inl rfl|exact .inr rfl|assumption):wpAny M A (storeName X.env x u) Q E s:=
 R1 I hN hi hx r (λs' I' _=>h s' I') hf
theorem Zv.call'{s':Shared}{ch:List Addr}(I:Zv X pins σ H s)(ho:s'.os=s.os)(u:Un (N0 X.stack) ch H H' s.heap s'.heap)(hok:V1 X.prog X.w H' s'.heap)(hg:AllBare s'.gens) 
  (hch:∀b∈ch,(b∈X.ex\/X.s₀.heap.objs.size≤b)/\b≠X.env.locals/\(∀x c,X.env.cells.lookup x=some c->c≠b)/\∀p∈X.pn++pins,p.1≠b):Zv X pins σ H' s':=by
 obtain⟨h',g',d',t',o'⟩:=s'
 have e:o'=s.os:=ho
 subst e
 exact I.call (g':=g') (t':=t') (d':=d') u hok hg hch
end
abbrev XK:=Value->Option Addr->Hp->Prop
abbrev St:=List (Option V)
abbrev VK:=V->Hp->Prop
abbrev TE:=St->Hp->VK->Prop
abbrev TT:=St->Hp->(Bool->Hp->Prop)->Prop
abbrev TA:=St->Hp->(List V->Hp->Prop)->Prop
structure QA where
 nx:St->Hp->Prop
 rt:VK
 bk:St->Hp->Prop:=λ_ _=>False
 ct:St->Hp->Prop:=λ_ _=>False
abbrev TS:=QA->St->Hp->Prop
def EP(X:Cx)(pins:List (Addr×Obj))(σ:St)(Q:VK)(u:Value)(s':Shared):Prop:=∃v H',Zv X pins σ H' s'/\ZL v u/\Q v H'
def TP(X:Cx)(pins:List (Addr×Obj))(σ:St)(Q:Bool->Hp->Prop)(b:Bool)(s':Shared):Prop:=∃H',Zv X pins σ H' s'/\Q b H'
def AP(X:Cx)(pins:List (Addr×Obj))(σ:St)(Q:List V->Hp->Prop)(us:List Value)(s':Shared):Prop:=∃vs H',Zv X pins σ H' s'/\ZD vs us/\Q vs H'
def SP(X:Cx)(pins:List (Addr×Obj))(D:QA)(f:Flow)(s':Shared):Prop:=
 match f with
 | .next=>∃σ' H',Zv X pins σ' H' s'/\D.nx σ' H'
 | .brk=>∃σ' H',Zv X pins σ' H' s'/\D.bk σ' H'
 | .cont=>∃σ' H',Zv X pins σ' H' s'/\D.ct σ' H'
 | .ret u=>∃v σ' H',Zv X pins σ' H' s'/\ZL v u/\D.rt v H'
def PE(X:Cx)(e:Expr)(t:TE):Prop:=
 ∀(pins:List (Addr×Obj)) (s:Shared) (σ:St) (H:Hp) (Q:VK),Zv X pins σ H s->t σ H Q->wpAny (model X.prog X.w) X.A (eval e X.env) (EP X pins σ Q) X.xe s
def PT(X:Cx)(e:Expr)(t:TT):Prop:=
 ∀(pins:List (Addr×Obj)) (s:Shared) (σ:St) (H:Hp) (Q:Bool->Hp->Prop),Zv X pins σ H s->t σ H Q->wpAny (model X.prog X.w) X.A (isTrue e X.env (eval e X.env)) (TP X pins σ Q) X.xe s
def PW(X:Cx)(e:Expr)(t:TT):Prop:=
 ∀(whole:Sem Value) (pins:List (Addr×Obj)) (s:Shared) (σ:St) (H:Hp) (Q:Bool->Hp->Prop),Zv X pins σ H s->t σ H Q->wpAny (model X.prog X.w) X.A (isTrue e X.env whole) (TP X pins σ Q) X.xe s
theorem PW.pt{X:Cx}{e:Expr}{t:TT}(h:PW X e t):PT X e t:=h _
def PA(X:Cx)(es:List Expr)(t:TA):Prop:=
 ∀(pos:Pos) (pins:List (Addr×Obj)) (s:Shared) (σ:St) (H:Hp) (Q:List V->Hp->Prop),Zv X pins σ H s->t σ H Q->wpAny (model X.prog X.w) X.A (spliced (backTo pos (starEach es X.env))) (AP X pins σ Q) X.xe s
def PS(X:Cx)(st:Stmt)(t:TS):Prop:=
 ∀(pins:List (Addr×Obj)) (s:Shared) (σ:St) (H:Hp) (D:QA),Zv X pins σ H s->t D σ H->wpAny (model X.prog X.w) X.A (exec st X.env) (SP X pins D) X.xe s
def VS(X:Cx)(st:List Stmt)(t:TS):Prop:=
 ∀(pins:List (Addr×Obj)) (s:Shared) (σ:St) (H:Hp) (D:QA),Zv X pins σ H s->t D σ H->wpAny (model X.prog X.w) X.A (execs st X.env) (SP X pins D) X.xe s
theorem Y2{α:Type}{t:Sem α}{Q Q':α->Shared->Prop}{M:Model}{A:Around}{E:Value->Shared->Prop}{s:Shared}(h:wpAny M A t Q E s)(hQ:∀a s,Q a s->Q' a s):wpAny M A t Q' E s:=vL h hQ λ_ _ x=>x
section
variable {X:Cx}
def Q5(i:Nat):TE:=λσ H Q=>∃v,σ[i]? = some (some v)/\Q v H
def tC(v:V):TE:=λ_ H Q=>Q v H
theorem WZ{i:Nat}{x:Str}{pos:Pos}(hN:X.N[i]? = some x)(hv:GJ X.env.scope x)(hd:(x == ("__debug__" : Str))=false:=by decide)(hcd:(x == ("__classdict__" : Str))=false:=by decide):PE X (.Name x pos) (Q5 i):=by
 intro pins s σ H Q I h
 obtain⟨v,e,h⟩:=h
 obtain⟨m,hn,hl⟩:=I.loc
 obtain⟨u,r,l⟩:=hl i x v hN e hv
 have fin:EP X pins σ Q u s:=⟨v,H,I,r,h⟩
 rcases l with ⟨hk,hm⟩|⟨hk,c,hc,hcell⟩
 ·exact wpAny_Name (wpAny_loadName_local I.ok.kind hk hn hm fin) hd
 ·rcases hk with hk|hk
  ·exact wpAny_Name (wpAny_loadName_cell I.ok.kind hk hc hcell fin) hd
  ·exact wpAny_Name (wpAny_loadName_free I.ok.kind hk hc hcell fin hcd) hd
theorem F7{i j pos}:PE X (.Constant (.int i) j pos) (tC (.int i)):=λ_ _ _ H _ I h=>wpAny_Constant_int ⟨.int i,H,I.tok _,⟨_,rfl⟩,h⟩
theorem D0{b j pos}:PE X (.Constant (.bool b) j pos) (tC (.bl b)):=λ_ _ _ H _ I h=>Constant_bool ⟨.bl b,H,I,rfl,h⟩
theorem F9{j pos}:PE X (.Constant .none j pos) (tC .non):=λ_ _ _ H _ I h=>Constant_none ⟨.non,H,I,rfl,h⟩
theorem KS{x j pos}:PE X (.Constant (.str x) j pos) (tC (.str x)):=λ_ _ _ H _ I h=>Calls.Constant_str ⟨.str x,H,I.tok _,⟨_,rfl⟩,h⟩
def Gl(X:Cx)(x:Str):Prop:=X.env.kindOf x=some .globalImplicit
theorem Vk{E:Value->Shared->Prop}{pins:List (Addr×Obj)}{s:Shared}{σ:St}{H:Hp}{x:Str}{u:Value}{pos:Pos}{Q:Value->Shared->Prop}(I:Zv X pins σ H s)(hg:Gl X x)(hm:X.mg x=some u)(h:Q u s) 
  (hd:(x == ("__debug__" : Str))=false:=by decide):wpAny (model X.prog X.w) X.A (eval (.Name x pos) X.env) Q E s:=
 Calls.Name_function_global I.ok.kind hg (Calls.loadGlobal_global (by rw[I.ok.glob];exact I.mod.glob.keeps I.bk) hm h) hd
theorem VJ{E:Value->Shared->Prop}{pins:List (Addr×Obj)}{s:Shared}{σ:St}{H:Hp}{x:Str}{u:Value}{pos:Pos}{Q:Value->Shared->Prop}(I:Zv X pins σ H s)(hg:Gl X x)(hm:X.mg x=none)(hv:bootBuiltins x=some u)(h:Q u s) 
  (hn:x≠"__name__":=by decide) (hd:(x == ("__debug__" : Str))=false:=by decide):wpAny (model X.prog X.w) X.A (eval (.Name x pos) X.env) Q E s:=by
 obtain⟨mb,h1,h2⟩:=I.mod.blt
 exact Calls.Name_function_global I.ok.kind hg (Calls.loadGlobal_builtin (by rw[I.ok.glob];exact I.mod.glob.keeps I.bk) hm (by rw[I.ok.blt];exact h1.keeps I.bk) ((h2 x hn).trans hv) h) hd
theorem IL{x:Str}{v:V}{u:Value}{pos:Pos}(hg:Gl X x)(hm:X.mg x=some u)(r:ZL v u)(hd:(x == ("__debug__" : Str))=false:=by decide):PE X (.Name x pos) (tC v):=
 λ_ _ _ H _ I h=>Vk I hg hm ⟨v,H,I,r,h⟩ hd
theorem IH{x:Str}{v:V}{u:Value}{pos:Pos}(hg:Gl X x)(hm:X.mg x=none)(hv:bootBuiltins x=some u)(r:ZL v u)(hn:x≠"__name__":=by decide)(hd:(x == ("__debug__" : Str))=false:=by decide):PE X (.Name x pos) (tC v):=
 λ_ _ _ H _ I h=>VJ I hg hm hv ⟨v,H,I,r,h⟩ hn hd
variable {a b:Expr}{ta tb:TE}{pos:Pos}
def tB(t:TE):TT:=λσ H Q=>t σ H λx H1=>∃c,x=.bl c/\Q c H1
theorem FW{e:Expr}{t:TE}(h:PE X e t)(he:∀whole,isTrue e X.env whole=(do let v <- whole;standAt e.pos;holding [v] (truthy v)):=by intro _;rfl):PT X e (tB t):=by
 intro pins s σ H Q I hw
 refine isTrue_plain (Y2 (h pins s σ H _ I hw) λv s1 ⟨x,H1,I1,r1,q1⟩=>?_) (he _)
 obtain⟨d,rfl,q⟩:=q1
 cases r1
 exact vM ⟨H1,I1,q⟩
variable {tA tB':TT}{rest:List Expr}
def Em(t u:TT):TT:=λσ H Q=>t σ H λc H1=>if c=true then u σ H1 Q else Q false H1
def Bi(t u:TT):TT:=λσ H Q=>t σ H λc H1=>if c=true then Q true H1 else u σ H1 Q
def Es(t:TT):TT:=λσ H Q=>t σ H λc H1=>Q (!c) H1
theorem I_(ha:PT X a tA):PW X (.BoolOp .And [a] pos) tA:=by
 intro wh pins s σ H Q I h
 refine isTrue_and (Y2 (ha pins s σ H Q I h) λc s1 e=>?_)
 cases c with
 | true=>exact isTrue_and_nil e
 | false=>exact e
theorem FZ(ha:PT X a tA):PW X (.BoolOp .Or [a] pos) tA:=by
 intro wh pins s σ H Q I h
 refine isTrue_or (Y2 (ha pins s σ H Q I h) λc s1 e=>?_)
 cases c with
 | false=>exact isTrue_or_nil e
 | true=>exact e
theorem FY(ha:PT X a tA)(hb:PW X (.BoolOp .And (b::rest) pos) tB'):PW X (.BoolOp .And (a::b::rest) pos) (Em tA tB'):=by
 intro wh pins s σ H Q I h
 refine isTrue_and (Y2 (ha pins s σ H _ I h) λc s1 ⟨H1,I1,q1⟩=>?_)
 cases c with
 | true=>exact hb wh pins s1 σ H1 Q I1 q1
 | false=>exact⟨H1,I1,q1⟩
theorem DC(ha:PT X a tA)(hb:PW X (.BoolOp .Or (b::rest) pos) tB'):PW X (.BoolOp .Or (a::b::rest) pos) (Bi tA tB'):=by
 intro wh pins s σ H Q I h
 refine isTrue_or (Y2 (ha pins s σ H _ I h) λc s1 ⟨H1,I1,q1⟩=>?_)
 cases c with
 | true=>exact⟨H1,I1,q1⟩
 | false=>exact hb wh pins s1 σ H1 Q I1 q1
theorem FT(ha:PT X a tA):PT X (.UnaryOp .Not a pos) (Es tA):=by
 intro pins s σ H Q I h
 exact isTrue_not (ha pins s σ H (λc H1=>Q (!c) H1) I h)
def J5(ta tb:TE):TE:=λσ H Q=>ta σ H λx H1=>∃c,x=.bl c/\if c=true then tb σ H1 Q else Q (.bl false) H1
def J7(ta:TE):TE:=λσ H Q=>ta σ H λx H1=>∃c,x=.bl c/\Q (.bl (!c)) H1
theorem FC{op}{t:TE}(h:PE X a t):PE X (.BoolOp op [a] pos) t:=λpins s σ H Q I hw=>BoolOp_one (h pins s σ H Q I hw)
theorem F5(ha:PE X a ta)(hb:PE X (.BoolOp .And (b::rest) pos) tb):PE X (.BoolOp .And (a::b::rest) pos) (J5 ta tb):=by
 intro pins s σ H Q I h
 refine BoolOp_and (Y2 (ha pins s σ H _ I h) λv s1 ⟨x,H1,I1,r1,q1⟩=>?_)
 obtain⟨c,rfl,q1⟩:=q1
 cases r1
 refine vM ?_
 cases c with
 | true=>exact hb pins s1 σ H1 Q I1 q1
 | false=>exact⟨.bl false,H1,I1,rfl,q1⟩
theorem FA(ha:PE X a ta):PE X (.UnaryOp .Not a pos) (J7 ta):=by
 intro pins s σ H Q I h
 refine UnaryOp_ (Y2 (ha pins s σ H _ I h) λv s1 ⟨x,H1,I1,r1,q1⟩=>?_)
 obtain⟨c,rfl,q1⟩:=q1
 cases r1
 exact not_of (vM ⟨.bl (!c),H1,I1,rfl,q1⟩)
def Bh(t:TT)(ta tb:TE):TE:=λσ H Q=>t σ H λc H1=>if c=true then ta σ H1 Q else tb σ H1 Q
theorem KQ{c:Expr}(hc:PT X c tA)(ha:PE X a ta)(hb:PE X b tb):PE X (.IfExp c a b pos) (Bh tA ta tb):=by
 intro pins s σ H Q I h
 refine wpAny_IfExp (Y2 (hc pins s σ H _ I h) λd s1 ⟨H1,I1,q1⟩=>?_)
 cases d with
 | true=>exact ha pins s1 σ H1 Q I1 q1
 | false=>exact hb pins s1 σ H1 Q I1 q1
end
def Xg(K:Frag)(H:Hp)(a:Addr)(xs:List V):Prop:=
 Rd H a (.lst xs) \/
  ∃(o:Obj) (its:Array Value) (n:Nat),K.lookup a=some o/\o.cls=.type "list"/\o.dict=none/\o.data=.seq its n/\its.size≤sizeLine/\ZD xs its.toList
def X7(K:Frag)(H:Hp)(a:Addr)(xs:List V):Prop:=
 Rd H a (.tup xs) \/
  ∃(o:Obj) (its:Array Value) (n:Nat),K.lookup a=some o/\o.cls=.type "tuple"/\o.data=.seq its n/\its.size≤sizeLine/\ZD xs its.toList
def CK:Value->Option V
 | .none=>some .non
 | .bool b=>some (.bl b)
 | .int i _=>some (.int i)
 | .str x _=>some (.str x)
 | .bytes b _=>some (.byt b)
 | .float b _=>some (.flt b)
 | .ref a=>some (.ref a)
 | .type n=>some (.ty n)
 | _=>none
theorem ZL.abs{x:V}{u:Value}(r:ZL x u):CK u=some x:=by
 cases x with
 | non=>cases r;rfl
 | bl _=>cases r;rfl
 | int _=>obtain⟨t,rfl⟩:=r;rfl
 | str _=>obtain⟨t,rfl⟩:=r;rfl
 | byt _=>obtain⟨t,rfl⟩:=r;rfl
 | flt _=>obtain⟨t,rfl⟩:=r;rfl
 | ref _=>cases r;rfl
 | ty _=>cases r;rfl
theorem ZL.inj{x y:V}{u:Value}(r:ZL x u)(q:ZL y u):x=y:=vK (r.abs.symm.trans q.abs)
theorem ZD.inj:∀{xs ys:List V}{us:List Value},ZD xs us->ZD ys us->xs=ys
 | _,_,_,.nil,.nil=>rfl
 | _,_,_,.cons r t,.cons r' t'=>by rw[r.inj r',ZD.inj t t']
section
variable {X:Cx}{pins:List (Addr×Obj)}{σ:St}{H:Hp}{s:Shared}{a:Addr}{xs ys:List V}
theorem Xg.of{K:Frag}(h:H a=some (.lst xs)):Xg K H a xs:=.inl (.inl h)
theorem X7.of{K:Frag}(h:H a=some (.tup xs)):X7 K H a xs:=.inl (.inl h)
theorem Zv.list(I:Zv X pins σ H s)(h:Xg X.K H a xs):∃its:List Value,ZD xs its/\PlainL s.heap a its.toArray/\xs.length≤sizeLine:=by
 rcases h with h|⟨o,its,n,hk,hc,hd,hs,hz,r⟩
 ·obtain⟨z,its,n,r,e⟩:=h.ok I.hok
  exact⟨its,r,⟨_,n,e,rfl,rfl,rfl⟩,z⟩
 ·refine⟨its.toList,r,⟨o,n,I.kIn a o hk,hc,hd,by simpa using hs⟩,?_⟩
  have e:=r.length
  simp only[vN]at e
  omega
theorem Zv.tuple(I:Zv X pins σ H s)(h:X7 X.K H a xs):∃its:List Value,ZD xs its/\IsTup s.heap a its.toArray/\xs.length≤sizeLine:=by
 rcases h with h|⟨o,its,n,hk,hc,hs,hz,r⟩
 ·obtain⟨z,its,r,p⟩:=h.ok I.hok
  exact⟨its,r,p.tup,z⟩
 ·refine⟨its.toList,r,⟨o,I.kIn a o hk,hc,n,by simpa using hs⟩,?_⟩
  have e:=r.length
  simp only[vN]at e
  omega
theorem Zv.list_inj(I:Zv X pins σ H s)(h:Xg X.K H a xs)(h':Xg X.K H a ys):xs=ys:=by
 obtain⟨its,r,⟨o,n,e,_,_,d⟩,_⟩:=I.list h
 obtain⟨its',r',⟨o',n',e',_,_,d'⟩,_⟩:=I.list h'
 rw[e]at e';cases e'
 rw[d]at d'
 injection d' with d1 _
 have:its=its':=by simpa using zG Array.toList d1
 subst this
 exact r.inj r'
theorem Zv.tuple_inj(I:Zv X pins σ H s)(h:X7 X.K H a xs)(h':X7 X.K H a ys):xs=ys:=by
 obtain⟨its,r,⟨o,e,_,n,d⟩,_⟩:=I.tuple h
 obtain⟨its',r',⟨o',e',_,n',d'⟩,_⟩:=I.tuple h'
 rw[e]at e';cases e'
 rw[d]at d'
 injection d' with d1 _
 have:its=its':=by simpa using zG Array.toList d1
 subst this
 exact r.inj r'
end
abbrev Cx.wish(X:Cx)(E:Value->Shared->Prop):Cx:={ X with xe:=E }
abbrev Cx.nox(X:Cx):Cx:=X.wish λ_ _=>False
theorem Cx.Ok.wish{X:Cx}(ok:X.Ok)(E:Value->Shared->Prop):(X.wish E).Ok:=
 ⟨ok.mod,ok.kind,ok.glob,ok.blt,ok.above,ok.inj,ok.has,ok.cab,ok.hd,ok.cd,ok.frames,ok.stk,ok.exf,ok.bs,ok.bsz,ok.noex,ok.exfs,ok.funs,ok.frf⟩
theorem Cx.Ok.unwish{X:Cx}{E:Value->Shared->Prop}(ok:(X.wish E).Ok):X.Ok:=
 ⟨ok.mod,ok.kind,ok.glob,ok.blt,ok.above,ok.inj,ok.has,ok.cab,ok.hd,ok.cd,ok.frames,ok.stk,ok.exf,ok.bs,ok.bsz,ok.noex,ok.exfs,ok.funs,ok.frf⟩
section
variable {X:Cx}{pins:List (Addr×Obj)}{σ:St}{H:Hp}{s:Shared}{E:Value->Shared->Prop}
theorem Zv.wish(I:Zv X pins σ H s)(E:Value->Shared->Prop):Zv (X.wish E) pins σ H s:=⟨I.ok.wish E,I.os,I.bare,I.base,I.loc,I.cell,I.free,I.freeC,I.pin,I.hok,I.len⟩
theorem Zv.unwish(I:Zv (X.wish E) pins σ H s):Zv X pins σ H s:=⟨I.ok.unwish,I.os,I.bare,I.base,I.loc,I.cell,I.free,I.freeC,I.pin,I.hok,I.len⟩
theorem SP.unwish{D:QA}{f:Flow}{s':Shared}(h:SP (X.wish E) pins D f s'):SP X pins D f s':=by
 cases f with
 | next=>obtain⟨σ',H',I,q⟩:=h;exact⟨σ',H',I.unwish,q⟩
 | brk=>obtain⟨σ',H',I,q⟩:=h;exact⟨σ',H',I.unwish,q⟩
 | cont=>obtain⟨σ',H',I,q⟩:=h;exact⟨σ',H',I.unwish,q⟩
 | ret u=>obtain⟨v,σ',H',I,r,q⟩:=h;exact⟨v,σ',H',I.unwish,r,q⟩
theorem PE.nox{e:Expr}{t:TE}(h:PE X.nox e t):PE X e t:=λpins s σ H Q I hw=>
 vL (h pins s σ H Q (I.wish _) hw) (λ_ _ ⟨v,H',I',r,q⟩=>⟨v,H',I'.unwish,r,q⟩) λ_ _ z=>False.elim z
theorem PT.nox{e:Expr}{t:TT}(h:PT X.nox e t):PT X e t:=λpins s σ H Q I hw=>
 vL (h pins s σ H Q (I.wish _) hw) (λ_ _ ⟨H',I',q⟩=>⟨H',I'.unwish,q⟩) λ_ _ z=>False.elim z
theorem VS.nox{st:List Stmt}{t:TS}(h:VS X.nox st t):VS X st t:=λpins s σ H D I hw=>
 vL (h pins s σ H D (I.wish _) hw) (λ_ _ q=>q.unwish) λ_ _ z=>False.elim z
end
section
variable {X:Cx}{st:Stmt}{rest:List Stmt}{t u:TS}{e:Expr}{te:TE}{pos:Pos}
def J6:TS:=λD σ H=>D.nx σ H
def Hv(t u:TS):TS:=λD σ H=>t { D with nx:=u D } σ H
theorem NJ:VS X [] J6:=λ_ _ σ H _ I h=>vO ⟨σ,H,I,h⟩
theorem Ul(h1:PS X st t)(h2:VS X rest u):VS X (st::rest) (Hv t u):=by
 intro pins s σ H D I h
 refine vP (Y2 (h1 pins s σ H { D with nx:=u D } I h) λf s1 q=>?_)
 cases f with
 | next=>
  obtain⟨σ',H',I',q⟩:=q
  exact h2 pins s1 σ' H' D I' q
 | ret v=>exact q
 | brk=>exact q
 | cont=>exact q
theorem IV(h1:PS X st t):VS X [st] t:=by
 intro pins s σ H D I h
 refine vP (Y2 (h1 pins s σ H D I h) λf s1 q=>?_)
 cases f with
 | next=>exact vO q
 | ret v=>exact q
 | brk=>exact q
 | cont=>exact q
theorem Zv.quiet{pins:List (Addr×Obj)}{σ:St}{H:Hp}{s:Shared}(I:Zv X pins σ H s):interactive X.env=false:=by simp[interactive,I.ok.kind]
def NX(te:TE):TS:=λD σ H=>te σ H λ_ H1=>D.nx σ H1
theorem NI(he:PE X e te)(hs:swapsWith e none pos.line X.env=pure false:=by rfl):PS X (.Expr e pos) (NX te):=by
 intro pins s σ H D I h
 exact wpAny_Expr_any (Y2 (he pins s σ H _ I h) λv s1 ⟨x,H1,I1,r1,q1⟩=>⟨σ,H1,I1,q1⟩) I.quiet hs
def Eu(te:TE):TS:=λD σ H=>te σ H D.rt
theorem FQ(he:PE X e te):PS X (.Return (some e) pos) (Eu te):=by
 intro pins s σ H D I h
 exact wpAny_Return_some (Y2 (he pins s σ H _ I h) λv s1 ⟨x,H1,I1,r1,q1⟩=>⟨x,σ,H1,I1,r1,q1⟩)
def Ht(c:TT)(t u:TS):TS:=λD σ H=>c σ H λb H1=>if b=true then t D σ H1 else u D σ H1
theorem DA{c:Expr}{a b:List Stmt}{tc:TT}(hc:PT X c tc)(ha:VS X a t)(hb:VS X b u):PS X (.If c a b pos) (Ht tc t u):=by
 intro pins s σ H D I h
 refine wpAny_If (Y2 (hc pins s σ H _ I h) λd s1 ⟨H1,I1,q1⟩=>?_)
 cases d with
 | true=>exact ha pins s1 σ H1 D I1 q1
 | false=>exact hb pins s1 σ H1 D I1 q1
end
abbrev TG:=V->St->Hp->(St->Hp->Prop)->Prop
abbrev P_:=List V->St->Hp->(St->Hp->Prop)->Prop
def PG(X:Cx)(target:Expr)(t:TG):Prop:=
 ∀(pins:List (Addr×Obj)) (s:Shared) (σ:St) (H:Hp) (v:V) (u:Value) (Q:St->Hp->Prop),Zv X pins σ H s->ZL v u->t v σ H Q ->
  wpAny (model X.prog X.w) X.A (assign target X.env u) (λ_ s'=>∃σ' H',Zv X pins σ' H' s'/\Q σ' H') X.xe s
def GG(X:Cx)(ts:List Expr)(t:P_):Prop:=
 ∀(pins:List (Addr×Obj)) (s:Shared) (σ:St) (H:Hp) (vs:List V) (us:List Value) (Q:St->Hp->Prop),Zv X pins σ H s->ZD vs us->t vs σ H Q ->
  wpAny (model X.prog X.w) X.A (assignInOrder ((assignEach ts X.env).map (·.2)) us) (λ_ s'=>∃σ' H',Zv X pins σ' H' s'/\Q σ' H') X.xe s
abbrev JX:=V->V->V->Hp->(Hp->Prop)->Prop
def GH(X:Cx)(t:JX):Prop:=
 ∀(pins:List (Addr×Obj)) (s:Shared) (σ:St) (H:Hp) (o i v:V) (ov iv u:Value) (Q:Hp->Prop),Zv X pins σ H s->ZL o ov->ZL i iv->ZL v u->t o i v H Q ->
  wpAny (model X.prog X.w) X.A (setItem ov iv u) (λ_ s'=>∃H',Zv X pins σ H' s'/\Q H') X.xe s
section
variable {X:Cx}{pos:Pos}
def WC(i:Nat):TG:=λv σ H Q=>Q (σ.set i (some v)) H
theorem NG{i:Nat}{x:Str}(hN:X.N.Nodup)(hi:X.N[i]? = some x)(hx:HB X.env.scope x)(hf:X.fn x=true\/X.env.scope.names.lookup x=some .local:=by first|exact .inl rfl|exact .inr rfl|assumption):PG X (.Name x pos) (WC i):=by
 intro pins s σ H v u Q I r h
 exact wpAny_assign_Name (Ve I hN hi hx r (λs' I'=>⟨_,H,I',h⟩) hf)
def Im:P_:=λvs σ H Q=>vs=[]/\Q σ H
def QZ(t:TG)(u:P_):P_:=λvs σ H Q=>∃v r,vs=v::r/\t v σ H λσ' H'=>u r σ' H' Q
theorem IM:GG X [] Im:=by
 intro pins s σ H vs us Q I r h
 obtain⟨e,h⟩:=h
 subst e
 cases r
 exact assignInOrder_nil ⟨σ,H,I,h⟩
theorem KU{e:Expr}{es:List Expr}{t:TG}{u:P_}(h1:PG X e t)(h2:GG X es u) 
  (hs:(assignEach (e::es) X.env).map (·.2)=assign e X.env::(assignEach es X.env).map (·.2):=by rfl):GG X (e::es) (QZ t u):=by
 intro pins s σ H vs us Q I r h
 obtain⟨v,vr,e1,h⟩:=h
 subst e1
 cases r with
 | cons r rr=>
  rw[hs]
  refine vQ (Y2 (h1 pins s σ H _ _ _ I r h) λ_ s1 ⟨σ1,H1,I1,q1⟩=>?_)
  exact h2 pins s1 σ1 H1 _ _ Q I1 rr q1
theorem T2.at{X:Cx}{pins:List (Addr×Obj)}{σ:List (Option V)}{H:Hp}{s:Shared}(I:Zv X pins σ H s)(h:X.A.handled=none\/T2 X.A X.H₀):X.A.handled=none\/T2 X.A H:=h.imp id λ⟨e,oe,u,vs,h1,h2,h3,h4⟩=>⟨e,oe,u,vs,h1,I.base.frzs e oe u h2,h3,h4⟩
theorem Zv.hdOk{X:Cx}{pins:List (Addr×Obj)}{σ:List (Option V)}{H:Hp}{s:Shared}(I:Zv X pins σ H s)(h:X.calm=true):WI X.A s.heap/\∀e,X.A.handled=some (.ref e)->H e≠none:=by
 rcases T2.at I (I.ok.hd h) with h|⟨e,oe,u,vs,h1,z,h3,h4⟩
 ·exact⟨.inl h,λe q=>by rw[h]at q;cases q⟩
 ·refine⟨.inr ⟨e,oe,vs,h1,(I.hok e _ z).1,h3,h4⟩,λe' q=>?_⟩
  rw[h1]at q;cases q;rw[z];exact λq=>nomatch q
theorem Zv.hdOkW{X:Cx}{m:Bool}{pins:List (Addr×Obj)}{σ:List (Option V)}{H:Hp}{s:Shared}(I:Zv X pins σ H s)(h:X.cold=true\/(m=true/\X.calm=true)):WI X.A s.heap/\∀e,X.A.handled=some (.ref e)->H e≠none:=by
 rcases h with h|h
 ·exact⟨.inl (I.ok.cd h),λe q=>by rw[I.ok.cd h]at q;cases q⟩
 ·exact I.hdOk h.2
theorem GN{p q:Prop}(h:p\/(false=true/\q)):p:=h.resolve_right λz=>nomatch z.1
def Kh(K:Frag)(n:Nat)(t:P_):TG:=λv σ H Q=>∃a xs,v=.ref a/\X7 K H a xs/\xs.length=n/\t xs σ H Q
theorem FG{es:List Expr}{k:Nat}{t:P_}{n:Nat}(hc:X.calm=true)(h:GG X es t) 
  (hn:(assignEach es X.env).length=n:=by rfl) (hst:(assignEach es X.env).findIdx? (·.1)=none:=by rfl):PG X (.Tuple es k pos) (Kh X.K n t):=by
 intro pins s σ H v u Q I r hw
 obtain⟨a,xs,e1,hq,hl,hw⟩:=hw
 subst e1
 cases r
 obtain⟨its,rv,ht,hz⟩:=I.tuple hq
 refine Le (I.hdOk hc).1 ht (by simp[hn,<- hl,rv.length]) hst λh' hx=>?_
 have I1:Zv X pins σ H { s with heap:=h' }:=I.kept (t':=s.toks) λb o e=>hx b o (wP (wA e)) e
 exact h pins _ σ H xs _ Q I1 (by simpa using rv) hw
def Dq(to ti:TE)(t:JX):TG:=λv σ H Q=>to σ H λo H1=>ti σ H1 λi H2=>t o i v H2 λH3=>Q σ H3
theorem FE{o i:Expr}{to ti:TE}{t:JX}(ho:PE X o to)(hi:PE X i ti)(hs:GH X t) 
  (ha:∀v,assign (.Subscript o i pos) X.env v=(do
   let ov <- holding [v] (eval o X.env)
   let iv <- holding [v,ov] (eval i X.env)
   standAt pos
   holding [v,ov,iv] (setItem ov iv v)
   release [v,ov,iv] []):=by intro _;rfl):PG X (.Subscript o i pos) (Dq to ti t):=by
 intro pins s σ H v u Q I r h
 rw[ha]
 refine zL (zN (Y2 (ho pins s σ H _ I h) λov s1 ⟨x,H1,I1,r1,q1⟩=>?_))
 refine zL (zN (Y2 (hi pins s1 σ H1 _ I1 q1) λiv s2 ⟨y,H2,I2,r2,q2⟩=>?_))
 refine zL (wU (zL (zN (Y2 (hs pins s2 σ H2 x y v ov iv u _ I2 r1 r2 r q2) λ_ s3 ⟨H3,I3,q3⟩=>?_))))
 exact wpAny_release ⟨σ,H3,I3,q3⟩
def PH(te:TE)(g:TG):TS:=λD σ H=>te σ H λx H1=>g x σ H1 D.nx
theorem FK{tg e:Expr}{te:TE}{g:TG}(he:PE X e te)(hg:PG X tg g)(hs:swapsWithSole [tg] e pos.line X.env=pure false:=by rfl)(hw:swappedStores [tg] e X.env=pure none:=by rfl) 
  (h1:(assignEach [tg] X.env).map (·.2)=[assign tg X.env]:=by rfl):PS X (.Assign [tg] e pos) (PH te g):=by
 intro pins s σ H D I h
 refine wpAny_Assign_stores (Y2 (he pins s σ H _ I h) λv s1 ⟨x,H1,I1,r1,q1⟩=>?_) hs hw
 rw[h1]
 exact Y2 (hg pins s1 σ H1 x v _ I1 r1 q1) λ_ s2 q=>q
theorem FR{i:Nat}{x:Str}{e:Expr}{te:TE}{pos':Pos}(hN:X.N.Nodup)(hi:X.N[i]? = some x)(hx:HB X.env.scope x)(he:PE X e te)(hs:swapsWith e (some (.Name x pos')) pos.line X.env=pure false:=by rfl)(hf:X.fn x=true\/X.env.scope.names.lookup x=some .local:=by first|exact .inl rfl|exact .inr rfl|assumption):
  PS X (.Assign [.Name x pos'] e pos) (PH te (WC i)):=by
 intro pins s σ H D I h
 refine wpAny_Assign_Name (Y2 (he pins s σ H _ I h) λv s1 ⟨y,H1,I1,r1,q1⟩=>?_) hs
 exact Ve I1 hN hi hx r1 (λs2 I2=>⟨_,H1,I2,q1⟩) hf
def Et(i j:Nat)(ta:TA):TS:=λD σ H=>ta σ H λvs H1=>∃v w,vs=[v,w]/\D.nx ((σ.set i (some v)).set j (some w)) H1
theorem FP{i j:Nat}{x y:Str}{a b:Expr}{ta:TA}{px py pt:Pos}{kt k2 pt2}(hc:X.calm=true)(hN:X.N.Nodup)(hi:X.N[i]? = some x)(hj:X.N[j]? = some y)(hij:i≠j) 
  (hx:X.env.scope.names.lookup x=some .local) (hy:X.env.scope.names.lookup y=some .local) (ha:PA X [a,b] ta)
  (hw:swappedStores [.Tuple [.Name x px,.Name y py] kt pt] (.Tuple [a,b] k2 pt2) X.env=pure (some [x,y]))
  (hs:swapsWithSole [.Tuple [.Name x px,.Name y py] kt pt] (.Tuple [a,b] k2 pt2) pos.line X.env=pure false:=by rfl) :
  PS X (.Assign [.Tuple [.Name x px,.Name y py] kt pt] (.Tuple [a,b] k2 pt2) pos) (Et i j ta):=by
 intro pins s σ H D I h
 rw[exec_Assign_arm]
 refine zL (wU ?_)
 rw[hs]
 refine zL (zM ?_)
 rw[wH (by decide)]
 refine zL (Tuple_ (Y2 (ha _ pins s σ H _ I h) λus s1 ⟨vs,H1,I1,r1,q1⟩=>?_))
 obtain⟨v,w,e1,q1⟩:=q1
 subst e1
 obtain⟨u1,u2,rfl,rv,rw'⟩:∃u1 u2,us=[u1,u2]/\ZL v u1/\ZL w u2:=by
  cases r1 with
  | cons p q=>
   cases q with
   | cons p' q'=>
    cases q'
    exact⟨_,_,rfl,p,p'⟩
 refine zV ?_ (L2.sz2)
 have I2:Zv X pins σ H1 { s1 with heap:=s1.heap.push { cls:=.type "tuple",data:=.seq [u1,u2].toArray } }:=I1.kept (t':=s1.toks) λb o e=>zX _ e
 rw[hw]
 refine zL (zM ?_)
 show wpAny (model X.prog X.w) X.A (do rule "assign.swapped-stores";let items <- unpackItems (.ref s1.heap.objs.size) 2 none;assignInOrder [λv=>bindName X.env y v,λv=>bindName X.env x v] items.reverse;pure Flow.next) _ _ _
 refine zL (wL (zL (PV (items:=#[u1,u2]) (I2.hdOk hc).1 (IsTup.new s1.heap _) λh' hx'=>?_)))
 have I3:=I2.kept (h':=h') (t':=s1.toks) λb o e=>hx' b o (wP (wA e)) e
 show wpAny _ _ (assignInOrder [λv=>bindName X.env y v,λv=>bindName X.env x v] [u2,u1]>>=λ_=>pure Flow.next) _ _ _
 refine zL (vQ (wpAny_bindName (Ve I3 hN hj (.inl hy) rw' (λs2 I4=>?_) (.inr hy))))
 refine vQ (wpAny_bindName (Ve I4 hN hi (.inl hx) rv (λs3 I5=>assignInOrder_nil (zM ?_)) (.inr hx)))
 rw[List.set_comm _ _ (zQ hij)]at I5
 exact⟨_,H1,I5,q1⟩
end
structure It where
 go:Nat->Hp->Prop
 yld:Nat->Hp->V->Hp->Prop
 stop:Nat->Hp->Prop
 mild:Bool
def X6(X:Cx)(pins:List (Addr×Obj))(H:Hp)(b:Addr):Prop:=
 H b=none/\b≠X.env.locals/\b ∉ X.fs/\(b∈X.ex\/X.s₀.heap.objs.size≤b)/\(∀x c,X.env.cells.lookup x=some c->c≠b)/\∀p∈X.pn++pins,p.1≠b
theorem Zv.fpOk{X:Cx}{pins:List (Addr×Obj)}{σ:St}{H H':Hp}{s:Shared}{b:Addr}(I:Zv X pins σ H s)(hb:s.heap.objs.size≤b)(hn:H' b=none):X6 X pins H' b:=by
 refine⟨hn,vS (wX I.lt hb),I.nofs hb,.inr (wZ I.sz hb),λx c e z=>?_,λp hp z=>?_⟩
 ·obtain⟨v,q⟩:=I.cell x c e
  exact absurd (wX q.lt (by rw[z];exact hb)) (wY _)
 ·exact absurd (wX (wA (I.pin p hp).1) (by rw[z];exact hb)) (wY _)
structure Oe(P:Program)(w:World)(K:Frag)(tg:Expr)(J:It)(fp:List Addr)(it:Addr)(tn:Nat->Heap->Prop):Prop where
 mem:it∈fp
 obj:∀i h,tn i h->∀b∈fp,∃o,h.get? b=some o/\∀v,o.data≠.cell v
 keep:∀i h h',tn i h->(∀b∈fp,∀o,h.get? b=some o->h'.get? b=some o)->tn i h'
 item:∀(X:Cx),X.prog=P->X.w=w->X.K=K->(X.cold=true\/(J.mild=true/\X.calm=true))->∀(i:Nat) (pins:List (Addr×Obj)) (s:Shared) (σ:St) (H:Hp) (E:Value->Shared->Prop),Zv X pins σ H s->(∀b∈fp,X6 X pins H b)->tn i s.heap->J.go i H ->
  wpAny (model P w) X.A (pyNext (.ref it)) (λr s1=>∃u,r=some u /\
   wpAny (model P w) X.A (letOwnedTupleGo tg (.ref it) u) (λ_ s2=>∃x H',Zv X pins σ H' s2/\ZL x u/\J.yld i H x H'/\tn (i+1) s2.heap/\∀b∈fp,H' b=none) E s1) E s
 done:∀(X:Cx),X.prog=P->X.w=w->X.K=K->(X.cold=true\/(J.mild=true/\X.calm=true))->∀(i:Nat) (pins:List (Addr×Obj)) (s:Shared) (σ:St) (H:Hp) (E:Value->Shared->Prop),Zv X pins σ H s->(∀b∈fp,X6 X pins H b)->tn i s.heap->J.stop i H ->
  wpAny (model P w) X.A (pyNext (.ref it)) (λr s1=>r=none/\Zv X pins σ H s1) E s
 self:∀(A:Around) (i:Nat) (s:Shared) (Q:Value->Shared->Prop) (E:Value->Shared->Prop),tn i s.heap->Q (.ref it) s->wpAny (model P w) A (pyIter (.ref it)) Q E s
abbrev TI:=St->Hp->(It->Hp->Prop)->Prop
def Bo(X:Cx)(pins:List (Addr×Obj))(σ:St)(tg:Expr)(R:It->Hp->Prop)(itv:Value)(s2:Shared):Prop:=
 ∃(it:Addr) (fp:List Addr) (tn:Nat->Heap->Prop) (J:It) (H':Hp),itv=.ref it/\Zv X pins σ H' s2/\Oe X.prog X.w X.K tg J fp it tn/\tn 0 s2.heap/\(∀b∈fp,X6 X pins H' b)/\(X.cold=true\/(J.mild=true/\X.calm=true))/\R J H'
def PI(X:Cx)(tg iter:Expr)(wi:TI):Prop:=
 ∀(pins:List (Addr×Obj)) (s:Shared) (σ:St) (H:Hp) (R:It->Hp->Prop),Zv X pins σ H s->wi σ H R ->
  wpAny (model X.prog X.w) X.A (eval iter X.env) (λv s1=>wpAny (model X.prog X.w) X.A (pyIter v) (Bo X pins σ tg R) X.xe s1) X.xe s
theorem Kn{M:Model}{A:Around}{E:Value->Shared->Prop}{s:Shared}{tg:Expr}{it:Addr}{u:Value}{o:Obj}{n:String}{vs:Array Value}{Q:Unit->Shared->Prop}(ho:s.heap.get? it=some o)(hc:o.cls=.type n)(hd:o.data=.fields vs) 
  (hn:["enumerate","zip","dict_itemiterator","dict_reverseitemiterator","odict_iterator","itertools.zip_longest","itertools.pairwise"].contains n=false) (hQ:Q () s):wpAny M A (letOwnedTupleGo tg (.ref it) u) Q E s:=by
 unfold letOwnedTupleGo
 cases tg<;>first
  | exact zM hQ
  | (cases u<;>first
    | exact zM hQ
    | (refine zL (wpAny_load ho ?_)
       rw[hc,hd]
       show wpAny M A (if(["enumerate","zip","dict_itemiterator","dict_reverseitemiterator","odict_iterator","itertools.zip_longest","itertools.pairwise"].contains n&&vs[0]? == some (rawInt _))=true then _ else _) Q E s
       rw[wH (by intro h;rw[hn,Bool.false_and]at h;cases h)]
       exact zM hQ))
def Ck(K:Frag)(a:Addr):It:=
 ⟨λi H=>∃xs x,Xg K H a xs/\xs[i]? = some x,λi H x H'=>H'=H/\∀xs,Xg K H a xs->xs[i]? = some x,λi H=>∃xs,Xg K H a xs/\xs.length≤i,true⟩
def B6(K:Frag)(a:Addr):It:=
 ⟨λi H=>∃xs x,X7 K H a xs/\xs[i]? = some x,λi H x H'=>H'=H/\∀xs,X7 K H a xs->xs[i]? = some x,λi H=>∃xs,X7 K H a xs/\xs.length≤i,true⟩
def Cm(lo:Int)(n:Nat):It:=⟨λi _=>i<n,λi H x H'=>H'=H/\x=.int (lo+i),λi _=>n≤i,true⟩
theorem MR{P:Program}{w:World}{K:Frag}{tg:Expr}(a it:Addr):Oe P w K tg (Ck K a) [it] it (λi h=>h.IsListIter it a i) where
 mem:=by simp
 obj:=λi h st b hb=>by
  have e:b=it:=by simpa using hb
  subst e
  obtain⟨o,e,c,d⟩:=st
  exact⟨o,e,λv z=>by rw[d]at z;cases z⟩
 keep:=λi h h' st k=>st.at λo e=>k it (by simp) o e
 item:=by
  intro X hP hw hK hc i pins s σ H E I hf st hg
  subst hP hw hK
  obtain⟨xs,x,hq,hx⟩:=hg
  obtain⟨its,rv,p,hz⟩:=I.list hq
  obtain⟨u,hu,ru⟩:=rv.get hx
  obtain⟨f0,f1,f2,f3,f4,f5⟩:=hf it (by simp)
  refine wpAny_pyNext_list_item st p.isList (x:=u) (by simpa using hu) λh' st' sb=>?_
  have I1:Zv X pins σ H { s with heap:=h' }:=I.turned (t':=s.toks) (λb o hb e=>(sb.2 b hb).trans e) f0 f1 f3 f4 f5
  obtain⟨o,e,c,d⟩:=id st'
  exact⟨u,rfl,Kn (s:={ s with heap:=h' }) e c d (by decide) ⟨x,H,I1,ru,⟨rfl,λys hy=>by rw[I.list_inj hy hq];exact hx⟩,st',λb hb=>(hf b hb).1⟩⟩
 done:=by
  intro X hP hw hK hc i pins s σ H E I hf st hg
  subst hP hw hK
  obtain⟨xs,hq,hx⟩:=hg
  obtain⟨its,rv,p,hz⟩:=I.list hq
  obtain⟨f0,f1,f2,f3,f4,f5⟩:=hf it (by simp)
  have hl:=rv.length
  exact NA (I.hdOkW hc).1 (λe he z=>(I.hdOkW hc).2 e he (by rw[z];exact f0)) st p.isList (by simp;omega) λh' eb=>⟨rfl,I.turned (t':=s.toks) (λb o hb e=>eb b o hb e) f0 f1 f3 f4 f5⟩
 self:=λ_ _ _ _ _ st h=>wpAny_pyIter_listiter st h
theorem OV{P:Program}{w:World}{K:Frag}{tg:Expr}(it:Addr)(lo:Int)(n:Nat):Oe P w K tg (Cm lo n) [it] it (λi h=>IsRangeIter h it (lo+(i:Nat)*1) ((n:Int)-(i:Nat)) 1) where
 mem:=by simp
 obj:=λi h st b hb=>by
  have e:b=it:=by simpa using hb
  subst e
  exact⟨_,st,λv z=>by
   have z':Data.fields _=Data.cell v:=z
   cases z'⟩
 keep:=λi h h' st k=>k it (by simp) _ st
 item:=by
  intro X hP hw hK hc i pins s σ H E I hf st hg
  subst hP hw hK
  obtain⟨f0,f1,f2,f3,f4,f5⟩:=hf it (by simp)
  refine Hf (lo:=lo) hg st λv h' tk hv st' kk=>?_
  obtain⟨t,rfl⟩:=hv
  have I1:Zv X pins σ H { s with heap:=h',toks:=tk }:=I.turned (λb o hb e=>kk b o (by simpa using hb) e) f0 f1 f3 f4 f5
  refine⟨_,rfl,Kn (s:={ s with heap:=h',toks:=tk }) (n:="range_iterator") st' rfl rfl (by decide) ⟨.int (lo+i),H,I1,⟨t,?_⟩,⟨rfl,rfl⟩,st',λb hb=>(hf b hb).1⟩⟩
  rw[Int.mul_one]
 done:=by
  intro X hP hw hK hc i pins s σ H E I hf st hg
  subst hP hw hK
  obtain⟨f0,f1,f2,f3,f4,f5⟩:=hf it (by simp)
  exact Ec (I.hdOkW hc).1 st (by have:n≤i:=hg;omega) λh' eb=>⟨rfl,I.turned (t':=s.toks) (λb o hb e=>eb b o hb e) f0 f1 f3 f4 f5⟩
 self:=λ_ _ _ _ _ st h=>wpAny_pyIter_rangeiter st h
section
variable {X:Cx}{tg:Expr}
def Kq(K:Frag)(tl:TE):TI:=λσ H R=>tl σ H λx H1=>∃a,x=.ref a/\(∃xs,Xg K H1 a xs)/\R (Ck K a) H1
theorem IQ{l:Expr}{tl:TE}(hl:PE X l tl)(hc:X.calm=true:=by rfl):PI X tg l (Kq X.K tl):=by
 intro pins s σ H R I h
 refine Y2 (hl pins s σ H _ I h) λv s1 ⟨x,H1,I1,r1,q1⟩=>?_
 obtain⟨a,e,⟨xs,hq⟩,q⟩:=q1
 subst e
 cases r1
 obtain⟨its,rv,p,hz⟩:=I1.list hq
 refine vT p.isList ?_
 refine⟨s1.heap.objs.size,[s1.heap.objs.size],_,_,H1,rfl,I1.kept (t':=s1.toks) λb o e=>zX _ e,MR a _,⟨_,zY _ rfl,rfl,rfl⟩,λb hb=>?_,.inr ⟨rfl,hc⟩,q⟩
 have e:b=s1.heap.objs.size:=by simpa using hb
 subst e
 exact I1.fpOk (vU _) (I1.hok.fresh (vU _))
theorem Jd{pins:List (Addr×Obj)}{σ:St}{H:Hp}{s:Shared}{R:It->Hp->Prop}{E:Value->Shared->Prop}{lo hi:Int}{t u v:Tok}{tk:Nat}(hc:X.calm=true)(I:Zv X pins σ H s)(h1:-(2 ^ 62)≤lo)(h2:lo<2 ^ 62)(h3:-(2 ^ 62)≤hi)(h4:hi<2 ^ 62) 
  (q:R (Cm lo (hi-lo).toNat) H):wpAny (model X.prog X.w) X.A (pyIter (.ref s.heap.objs.size)) (Bo X pins σ tg R) E { s with heap:=s.heap.push { cls:=.type "range",data:=.fields #[.int lo t,.int hi u,.int 1 v] },toks:=tk }:=by
 refine wpAny_pyIter_range (IsRange.new ..) (small_one h1 h2 h3 h4) ?_
 have I1:Zv X pins σ H { s with heap:=s.heap.push { cls:=.type "range",data:=.fields #[.int lo t,.int hi u,.int 1 v] },toks:=tk }:=I.kept λb o e=>zX _ e
 refine⟨(s.heap.push { cls:=.type "range",data:=.fields #[.int lo t,.int hi u,.int 1 v] }).objs.size,[(s.heap.push { cls:=.type "range",data:=.fields #[.int lo t,.int hi u,.int 1 v] }).objs.size],_,_,H,rfl,
  I1.kept (t':=tk) λb o e=>zX _ e,OV _ lo (hi-lo).toNat,?_,λb hb=>?_,.inr ⟨rfl,hc⟩,q⟩
 ·have e1:lo+((0:Nat):Int)*1=lo:=by simp
  have e2:(((hi-lo).toNat:Nat):Int)-((0:Nat):Int)=Builtin.Range.rangeSize lo hi 1:=by rw[rangeSize_one];split<;>omega
  show IsRangeIter _ _ (lo+((0:Nat):Int)*1) ((((hi-lo).toNat:Nat):Int)-((0:Nat):Int)) 1
  rw[e1,e2]
  exact zY _ rfl
 ·have e:b=(s.heap.push { cls:=.type "range",data:=.fields #[.int lo t,.int hi u,.int 1 v] }).objs.size:=by simpa using hb
  subst e
  exact I1.fpOk (vU _) (I1.hok.fresh (vU _))
def Kr(ta:TA):TI:=λσ H R=>ta σ H λvs H1=>∃j:Int,vs=[.int j]/\-(2 ^ 62)≤j/\j<2 ^ 62/\R (Cm 0 j.toNat) H1
theorem MG{a:Expr}{ta:TA}{p pos:Pos}(hg:Gl X "range")(hm:X.mg "range" = none)(ha:PA X [a] ta)(hs:starEach [a] X.env=[(false,eval a X.env)]:=by rfl)(hc:X.calm=true:=by rfl):PI X tg (.Call (.Name "range" p) [a] [] pos) (Kr ta):=by
 intro pins s σ H R I h
 refine Call_ (VJ I hg hm boot_range (vV (Y2 (ha pos pins s σ H _ I h) λus s1 ⟨vs,H1,I1,r1,q1⟩=>?_) hs rfl))
 obtain⟨j,e,q1,q2,q⟩:=q1
 subst e
 cases r1 with
 | cons r rr=>
  cases rr
  obtain⟨t,rfl⟩:=r
  exact call_range_1 (Jd hc I1 (by omega) (by omega) q1 q2 (by simpa using q))
def Eo(wi:TI)(g:TG)(tb:TS):TS:=λD σ H=>wi σ H λJ H1=>∃W:Nat->Nat->St->Hp->Prop,(∃m,W 0 m σ H1)/\∀i m σ H,W i m σ H ->
 (J.stop i H/\D.nx σ H)\/(J.go i H/\∃N:St->Hp->Prop,(∀σ' H',N σ' H'->∃m',m' < m/\W (i+1) m' σ' H')/\∀x H',J.yld i H x H'->g x σ H' λσ2 H2=>tb { D with nx:=N,ct:=N,bk:=D.nx } σ2 H2)
def W_(fp:List Addr)(h:Heap):List (Addr×Obj):=fp.filterMap λb=>(h.get? b).map λo=>(b,o)
theorem W3{fp:List Addr}{h:Heap}{b:Addr}{o:Obj}(hb:b∈fp)(e:h.get? b=some o):(b,o)∈W_ fp h:=mem_filterMap.mpr ⟨b,hb,by rw[e];rfl⟩
theorem Rv{fp:List Addr}{h:Heap}{p:Addr×Obj}(hp:p∈W_ fp h):p.1∈fp/\h.get? p.1=some p.2:=by
 obtain⟨b,hb,e⟩:=mem_filterMap.mp hp
 cases q:h.get? b with
 | none=>rw[q]at e;cases e
 | some o=>
  rw[q]at e
  have e':(b,o)=p:=vK e
  subst e'
  exact⟨hb,q⟩
theorem Zv.pinned{pins:List (Addr×Obj)}{σ:St}{H:Hp}{s:Shared}{fp:List Addr}(I:Zv X pins σ H s)(hf:∀b∈fp,X6 X pins H b)(ho:∀b∈fp,∃o,s.heap.get? b=some o/\∀v,o.data≠.cell v):Zv X (pins++W_ fp s.heap) σ H s:=
 I.pins_of λp hp=>(vF.mp hp).elim (λz=>I.pin p (vW _ z)) λz=>by
  obtain⟨hb,e⟩:=Rv z
  obtain⟨f0,f1,f2,_⟩:=hf p.1 hb
  obtain⟨o,e',d⟩:=ho p.1 hb
  rw[e]at e';cases e'
  exact⟨e,f0,f1,f2,d⟩
theorem Zv.unpinned{pins pl:List (Addr×Obj)}{σ:St}{H:Hp}{s:Shared}(I:Zv X (pins++pl) σ H s):Zv X pins σ H s:=I.pins_of λp hp=>I.pin p (vW _ (vG _ hp))
theorem FO{iter:Expr}{body:List Stmt}{wi:TI}{g:TG}{tb:TS}{pos:Pos}(hp:PassesOwn (model X.prog X.w) X.A X.env X.xe)(hc:X.calm=true)(hi:PI X tg iter wi)(hg:PG X tg g)(hb:VS X body tb) 
  (hs:∀x,foldedSetIterable iter X.env x=pure x:=by intro _;rfl):PS X (.For tg iter body [] pos) (Eo wi g tb):=by
 intro pins s σ H D I h
 refine wpAny_For (Y2 (hi pins s σ H _ I h) λv s1 h1=>Y2 h1 λitv s2 h2=>?_) hs
 obtain⟨it,fp,tn,J,H2,e,I2,T,st2,f2,hm,W,⟨m0,w0⟩,turn⟩:=h2
 subst e
 -- what stays true of the iterator's objects through the loop
 have stat:∀{H':Hp},(∀b∈fp,H' b=none)->∀b∈fp,X6 X pins H' b:=λhn b hb=>⟨hn b hb,(f2 b hb).2⟩
 refine codeAny_forLoop_any (λn s'=>∃i σ' H',Zv X pins σ' H' s'/\tn i s'.heap/\(∀b∈fp,H' b=none)/\W i n σ' H') ?_ m0 ⟨0,σ,H2,I2,st2,λb hb=>(f2 b hb).1,w0⟩
 rintro n s3 ⟨i,σ3,H3,I3,st3,fr3,w3⟩
 rcases turn i n σ3 H3 w3 with ⟨stop,qn⟩|⟨go,N,hN,step⟩
 ·refine vX hp (Y2 (T.done X rfl rfl rfl hm i pins s3 σ3 H3 X.xe I3 (stat fr3) st3 stop) λr s4 ⟨hr,I4⟩=>?_)
  subst hr
  exact vO ⟨σ3,H3,I4,qn⟩
 ·refine vX hp (Y2 (T.item X rfl rfl rfl hm i pins s3 σ3 H3 X.xe I3 (stat fr3) st3 go) λr s4 ⟨u,hr,h4⟩=>?_)
  subst hr
  refine vX hp (Y2 h4 λ_ s5 ⟨x,H5,I5,r5,y5,st5,fr5⟩=>?_)
  have I5':=I5.pinned (stat fr5) (T.obj _ _ st5)
  refine vX hp (Y2 (hg _ s5 σ3 H5 x u _ I5' r5 (step x H5 y5)) λ_ s6 ⟨σ6,H6,I6,q6⟩=>?_)
  refine vX hp (Y2 (hb _ s6 σ6 H6 _ I6 q6) λf s7 q7=>?_)
  have again:∀{σ7:St}{H7:Hp},Zv X (pins++W_ fp s5.heap) σ7 H7 s7->N σ7 H7->∃m,m<n/\∃i σ' H',Zv X pins σ' H' s7/\tn i s7.heap/\(∀b∈fp,H' b=none)/\W i m σ' H':=λ{σ7 H7} I7 n7=>by
   obtain⟨m',hm,w7⟩:=hN σ7 H7 n7
   refine⟨m',hm,i+1,σ7,H7,I7.unpinned,T.keep _ _ _ st5 λb hb o e=>(I7.pin (b,o) (vW _ (vW _ (W3 hb e)))).1,λb hb=>?_,w7⟩
   obtain⟨o,e,d⟩:=T.obj _ _ st5 b hb
   exact(I7.pin (b,o) (vW _ (vW _ (W3 hb e)))).2.1
  cases f with
  | next=>obtain⟨σ7,H7,I7,n7⟩:=q7;exact again I7 n7
  | cont=>obtain⟨σ7,H7,I7,n7⟩:=q7;exact again I7 n7
  | brk=>obtain⟨σ7,H7,I7,q7⟩:=q7;exact⟨σ7,H7,I7.unpinned,q7⟩
  | ret v=>obtain⟨x7,σ7,H7,I7,r7,q7⟩:=q7;exact⟨x7,σ7,H7,I7.unpinned,r7,q7⟩
end
abbrev R2:=V->V->Hp->VK->Prop
def XZ(X:Cx)(f:Value->Value->Sem Value)(r:R2):Prop:=
 ∀(pins:List (Addr×Obj)) (s:Shared) (σ:St) (H:Hp) (x y:V) (v u:Value) (Q:VK),Zv X pins σ H s->ZL x v->ZL y u->r x y H Q ->
  wpAny (model X.prog X.w) X.A (f v u) (EP X pins σ Q) X.xe s
def Cv(X:Cx)(f:Value->Sem Value)(r:V->Hp->VK->Prop):Prop:=
 ∀(pins:List (Addr×Obj)) (s:Shared) (σ:St) (H:Hp) (x:V) (v:Value) (Q:VK),Zv X pins σ H s->ZL x v->r x H Q ->
  wpAny (model X.prog X.w) X.A (f v) (EP X pins σ Q) X.xe s
def YE(X:Cx)(f:Value)(r:List V->Hp->VK->Prop):Prop:=
 ∀(pins:List (Addr×Obj)) (s:Shared) (σ:St) (H:Hp) (xs:List V) (us:List Value) (Q:VK),Zv X pins σ H s->ZD xs us->r xs H Q ->
  wpAny (model X.prog X.w) X.A (call f us) (EP X pins σ Q) X.xe s
def Hu(r:R2)(ta tb:TE):TE:=λσ H Q=>ta σ H λx H1=>tb σ H1 λy H2=>r x y H2 Q
def Bk(r:V->Hp->VK->Prop)(ta:TE):TE:=λσ H Q=>ta σ H λx H1=>r x H1 Q
def rI(C:Int->Int->Prop)(g:Int->Int->V):R2:=λx y H Q=>∃i j,x=.int i/\y=.int j/\C i j/\Q (g i j) H
def Gu(g:Int->Int->V):R2:=λx y H Q=>∃i j,x=.int i/\y=.int j/\Q (g i j) H
def rU(g:Int->V):V->Hp->VK->Prop:=λx H Q=>∃i,x=.int i/\Q (g i) H
section
variable {X:Cx}{a b c:Expr}{ta tb tc:TE}{pos:Pos}
theorem GL(ha:PE X a ta)(hb:PE X b tb){pins:List (Addr×Obj)}{s:Shared}{σ:St}{H:Hp}{R:V->V->Hp->Prop}(I:Zv X pins σ H s) 
  (h:ta σ H λx H1=>tb σ H1 λy H2=>R x y H2) {Q:Value->Shared->Prop}{f:Value->Value->Sem Value}
  (hf:∀v u s2 x y H2,Zv X pins σ H2 s2->ZL x v->ZL y u->R x y H2->wpAny (model X.prog X.w) X.A (f v u) Q X.xe s2) :
  wpAny (model X.prog X.w) X.A (eval a X.env) (λv s₁=>wpAny (model X.prog X.w) X.A (eval b X.env) (λu s₂=>wpAny (model X.prog X.w) X.A (f v u) Q X.xe s₂) X.xe s₁) X.xe s:=by
 refine Y2 (ha pins s σ H _ I h) λv s1 ⟨x,H1,I1,r1,q1⟩=>?_
 refine Y2 (hb pins s1 σ H1 _ I1 q1) λu s2 ⟨y,H2,I2,r2,q2⟩=>?_
 exact hf v u s2 x y H2 I2 r1 r2 q2
theorem D7{op:Operator}{r:R2}(ho:XZ X (binaryOp op) r)(ha:PE X a ta)(hb:PE X b tb):PE X (.BinOp a op b pos) (Hu r ta tb):=by
 intro pins s σ H Q I h
 exact wpAny_BinOp (GL ha hb I h λv u s2 x y H2 I2 rx ry q=>ho pins s2 σ H2 x y v u Q I2 rx ry q)
theorem D8{op:UnaryOp}{r:V->Hp->VK->Prop}(ho:Cv X (unaryOp op) r)(ha:PE X a ta):PE X (.UnaryOp op a pos) (Bk r ta):=by
 intro pins s σ H Q I h
 exact UnaryOp_ (Y2 (ha pins s σ H _ I h) λv s1 ⟨x,H1,I1,r1,q1⟩=>ho pins s1 σ H1 x v Q I1 r1 q1)
theorem C6{f:Value->Value->Sem Value}{C:Int->Int->Prop}{g:Int->Int->Int} 
  (rule:∀(i j:Int) (t u:Tok) (s:Shared) (Q:Value->Shared->Prop) (E:Value->Shared->Prop),C i j->Q (.int (g i j) s.toks) { s with toks:=s.toks+1 }->wpAny (model X.prog X.w) X.A (f (.int i t) (.int j u)) Q E s) :
  XZ X f (rI C λi j=>.int (g i j)):=by
 intro pins s σ H x y v u Q I rx ry h
 obtain⟨i,j,rfl,rfl,hc,q⟩:=h
 obtain⟨t,rfl⟩:=rx
 obtain⟨t',rfl⟩:=ry
 exact rule i j t t' s _ _ hc ⟨.int (g i j),H,I.tok _,⟨_,rfl⟩,q⟩
theorem Bb{f:Value->Value->Sem Value}{g:Int->Int->Int} 
  (rule:∀(i j:Int) (t u:Tok) (s:Shared) (Q:Value->Shared->Prop) (E:Value->Shared->Prop),Q (.int (g i j) s.toks) { s with toks:=s.toks+1 }->wpAny (model X.prog X.w) X.A (f (.int i t) (.int j u)) Q E s) :
  XZ X f (Gu λi j=>.int (g i j)):=by
 intro pins s σ H x y v u Q I rx ry h
 obtain⟨i,j,rfl,rfl,q⟩:=h
 obtain⟨t,rfl⟩:=rx
 obtain⟨t',rfl⟩:=ry
 exact rule i j t t' s _ _ ⟨.int (g i j),H,I.tok _,⟨_,rfl⟩,q⟩
theorem F0{f:Value->Value->Sem Value}{g:Int->Int->Bool} 
  (rule:∀(i j:Int) (t u:Tok) (s:Shared) (Q:Value->Shared->Prop) (E:Value->Shared->Prop),Q (.bool (g i j)) s->wpAny (model X.prog X.w) X.A (f (.int i t) (.int j u)) Q E s) :
  XZ X f (Gu λi j=>.bl (g i j)):=by
 intro pins s σ H x y v u Q I rx ry h
 obtain⟨i,j,rfl,rfl,q⟩:=h
 obtain⟨t,rfl⟩:=rx
 obtain⟨t',rfl⟩:=ry
 exact rule i j t t' s _ _ ⟨.bl (g i j),H,I,rfl,q⟩
def EH(i j:Int):Prop:=(-(2 ^ 64)<i/\i<2 ^ 64)\/(-(2 ^ 64)<j/\j<2 ^ 64)
theorem EH.ok{i j:Int}(h:EH i j):IntMulOk i j:=by
 rcases h with ⟨h1,h2⟩|⟨h1,h2⟩
 ·exact .of_left (intBits_le_64 h1 h2)
 ·exact .of_right (intBits_le_64 h1 h2)
theorem Yr:XZ X (binaryOp .Add) (Gu λi j=>.int (i+j)):=Bb λ_ _ _ _ _ _ _ q=>add_int q
theorem VN:XZ X (binaryOp .Mod) (rI (λ_ j=>0<j) λi j=>.int (i % j)):=C6 λi j _ _ _ _ _ hc q=>by
 have h1:(0:Int)<j:=hc
 exact mod_int' (by omega) (by rw[Int.fmod_eq_emod_of_nonneg i (by omega)];exact q)
theorem BE{f:Value->Sem Value}{g:Int->Int} 
  (rule:∀(i:Int) (t:Tok) (s:Shared) (Q:Value->Shared->Prop) (E:Value->Shared->Prop),Q (.int (g i) s.toks) { s with toks:=s.toks+1 }->wpAny (model X.prog X.w) X.A (f (.int i t)) Q E s) :
  Cv X f (rU λi=>.int (g i)):=by
 intro pins s σ H x v Q I rx h
 obtain⟨i,rfl,q⟩:=h
 obtain⟨t,rfl⟩:=rx
 exact rule i t s _ _ ⟨.int (g i),H,I.tok _,⟨_,rfl⟩,q⟩
theorem JM:Cv X (unaryOp .USub) (rU λi=>.int (-i)):=BE λ_ _ _ _ _ q=>neg_int q
end
def Cb:V->V->Bool
 | .non,.non=>true | .non,.int _=>true | .int _,.non=>true | .non,.bl _=>true | .bl _,.non=>true | .non,.str _=>true | .str _,.non=>true
 | .int _,.int _=>true | .bl _,.bl _=>true | .str _,.str _=>true | .byt _,.byt _=>true
 | .int _,.str _=>true | .str _,.int _=>true | .bl _,.str _=>true | .str _,.bl _=>true
 | _,_=>false
def By:R2:=λx y H Q=>Cb x y=true/\Q (.bl (decide (x=y))) H
def Bz:R2:=λx y H Q=>Cb x y=true/\Q (.bl (!decide (x=y))) H
theorem Nu{i j:Int}:decide (V.int i=V.int j)=(i == j):=by
 rw[vY]
 simp
theorem LG{i j:Bool}:decide (V.bl i=V.bl j)=(i == j):=by
 rw[vY]
 simp
theorem Nv{i j:Str}:decide (V.str i=V.str j)=(i == j):=by
 rw[vY]
 simp
theorem Nt{i j:Array UInt8}:decide (V.byt i=V.byt j)=(i.toList == j.toList):=by
 rw[vY]
 cases i
 cases j
 simp
section
variable {X:Cx}{a b c:Expr}{ta tb tc:TE}{pos:Pos}
theorem ZT{pins:List (Addr×Obj)}{σ:St}{H:Hp}{s:Shared}{Q:VK}{k k':Bool}(I:Zv X pins σ H s)(q:Q (.bl k) H)(e:k=k'):EP X pins σ Q (.bool k') s:=by
 subst e
 exact⟨.bl k,H,I,rfl,q⟩
theorem Gk:XZ X (compareOp .Eq) By:=by
 intro pins s σ H x y v u Q I rx ry h
 obtain⟨hs,q⟩:=h
 cases x with
 | non=>
  cases rx
  cases y with
  | non=>cases ry;exact PySem.EqNone.eq_none_none (ZT I q (by simp))
  | bl j=>cases ry;exact PySem.EqNone.eq_none_bool (ZT I q (by simp))
  | int j=>obtain⟨t',rfl⟩:=ry;exact PySem.EqNone.eq_none_int (ZT I q (by simp))
  | str j=>obtain⟨t',rfl⟩:=ry;exact PySem.EqNone.eq_none_str (ZT I q (by simp))
  | _=>exact absurd (show false=true from hs) wI
 | bl i=>
  cases rx
  cases y with
  | non=>cases ry;exact PySem.EqNone.eq_bool_none (ZT I q (by simp))
  | bl j=>cases ry;exact eq_bool (ZT I q LG)
  | str j=>obtain⟨t',rfl⟩:=ry;exact PySem.EqMixed.eq_bool_str (ZT I q (by simp))
  | _=>exact absurd (show false=true from hs) wI
 | int i=>
  obtain⟨t,rfl⟩:=rx
  cases y with
  | non=>cases ry;exact PySem.EqNone.eq_int_none (ZT I q (by simp))
  | int j=>obtain⟨t',rfl⟩:=ry;exact eq_int (ZT I q Nu)
  | str j=>obtain⟨t',rfl⟩:=ry;exact PySem.EqMixed.eq_int_str (ZT I q (by simp))
  | _=>exact absurd (show false=true from hs) wI
 | str i=>
  obtain⟨t,rfl⟩:=rx
  cases y with
  | non=>cases ry;exact PySem.EqNone.eq_str_none (ZT I q (by simp))
  | bl j=>cases ry;exact PySem.EqMixed.eq_str_bool (ZT I q (by simp))
  | int j=>obtain⟨t',rfl⟩:=ry;exact PySem.EqMixed.eq_str_int (ZT I q (by simp))
  | str j=>obtain⟨t',rfl⟩:=ry;exact eq_str (ZT I q Nv)
  | _=>exact absurd (show false=true from hs) wI
 | byt i=>
  obtain⟨t,rfl⟩:=rx
  cases y with
  | byt j=>obtain⟨t',rfl⟩:=ry;exact PySem.W.eq_bytes (ZT I q Nt)
  | _=>exact absurd (show false=true from hs) wI
 | _=>cases y<;>exact absurd (show false=true from hs) wI
theorem Gn:XZ X (compareOp .NotEq) Bz:=by
 intro pins s σ H x y v u Q I rx ry h
 obtain⟨hs,q⟩:=h
 cases x with
 | non=>
  cases rx
  cases y with
  | non=>cases ry;exact PySem.EqNone.ne_none_none (ZT I q (by simp))
  | bl j=>cases ry;exact PySem.EqNone.ne_none_bool (ZT I q (by simp))
  | int j=>obtain⟨t',rfl⟩:=ry;exact PySem.EqNone.ne_none_int (ZT I q (by simp))
  | str j=>obtain⟨t',rfl⟩:=ry;exact PySem.EqNone.ne_none_str (ZT I q (by simp))
  | _=>exact absurd (show false=true from hs) wI
 | bl i=>
  cases rx
  cases y with
  | non=>cases ry;exact PySem.EqNone.ne_bool_none (ZT I q (by simp))
  | bl j=>cases ry;exact ne_bool (ZT I q (zG not LG))
  | str j=>obtain⟨t',rfl⟩:=ry;exact PySem.EqMixed.ne_bool_str (ZT I q (by simp))
  | _=>exact absurd (show false=true from hs) wI
 | int i=>
  obtain⟨t,rfl⟩:=rx
  cases y with
  | non=>cases ry;exact PySem.EqNone.ne_int_none (ZT I q (by simp))
  | int j=>obtain⟨t',rfl⟩:=ry;exact ne_int (ZT I q (zG not Nu))
  | str j=>obtain⟨t',rfl⟩:=ry;exact PySem.EqMixed.ne_int_str (ZT I q (by simp))
  | _=>exact absurd (show false=true from hs) wI
 | str i=>
  obtain⟨t,rfl⟩:=rx
  cases y with
  | non=>cases ry;exact PySem.EqNone.ne_str_none (ZT I q (by simp))
  | bl j=>cases ry;exact PySem.EqMixed.ne_str_bool (ZT I q (by simp))
  | int j=>obtain⟨t',rfl⟩:=ry;exact PySem.EqMixed.ne_str_int (ZT I q (by simp))
  | str j=>obtain⟨t',rfl⟩:=ry;exact ne_str (ZT I q (zG not Nv))
  | _=>exact absurd (show false=true from hs) wI
 | byt i=>
  obtain⟨t,rfl⟩:=rx
  cases y with
  | byt j=>obtain⟨t',rfl⟩:=ry;exact PySem.W.ne_bytes (ZT I q (zG not Nt))
  | _=>exact absurd (show false=true from hs) wI
 | _=>cases y<;>exact absurd (show false=true from hs) wI
theorem Gm:XZ X (compareOp .Lt) (Gu λi j=>.bl (decide (i<j))):=F0 λ_ _ _ _ _ _ _ q=>lt_int q
theorem WE:XZ X (compareOp .LtE) (Gu λi j=>.bl (decide (i≤j))):=F0 λ_ _ _ _ _ _ _ q=>le_int q
theorem Dy:XZ X (compareOp .Gt) (Gu λi j=>.bl (decide (j<i))):=F0 λ_ _ _ _ _ _ _ q=>gt_int q
theorem F3:XZ X (compareOp .Is) (λx y H Q=>y=.non/\Q (.bl (decide (x=.non))) H):=by
 intro pins s σ H x y v u Q I rx ry h
 obtain⟨rfl,q⟩:=h
 cases ry
 refine is_none_gen (ZT I q ?_)
 cases x<;>first
  | (cases rx;rfl)
  | (obtain⟨t,rfl⟩:=rx;rfl)
theorem IF:XZ X (compareOp .IsNot) (λx y H Q=>y=.non/\Q (.bl (!decide (x=.non))) H):=by
 intro pins s σ H x y v u Q I rx ry h
 obtain⟨rfl,q⟩:=h
 cases ry
 refine isnot_none_gen (ZT I q ?_)
 cases x<;>first
  | (cases rx;rfl)
  | (obtain⟨t,rfl⟩:=rx;rfl)
theorem XZ.or{f:Value->Value->Sem Value}{r r':R2}(h:XZ X f r)(h':XZ X f r'):XZ X f (λx y H Q=>r x y H Q\/r' x y H Q):=by
 intro pins s σ H x y v u Q I rx ry q
 rcases q with q|q
 ·exact h pins s σ H x y v u Q I rx ry q
 ·exact h' pins s σ H x y v u Q I rx ry q
theorem Xl(b:Expr){op:CmpOp}(h:op≠.In:=by decide)(h2:op≠.NotIn:=by decide):behindInMarks op b=false:=by
 have e1:(op == CmpOp.In)=false:=by cases op<;>first|rfl|exact absurd rfl h
 have e2:(op == CmpOp.NotIn)=false:=by cases op<;>first|rfl|exact absurd rfl h2
 cases b<;>simp[behindInMarks,e1,e2]
theorem II{op:CmpOp}{r:R2}(ho:XZ X (compareOp op) r)(ha:PE X a ta)(hb:PE X b tb)(hm:behindInMarks op b=false):PE X (.Compare a [op] [b] pos) (Hu r ta tb):=by
 intro pins s σ H Q I h
 exact wpAny_Compare1 (GL ha hb I h λv u s2 x y H2 I2 rx ry q=>ho pins s2 σ H2 x y v u Q I2 rx ry q) hm
def PJ(t:TE):TT:=λσ H Q=>t σ H λx H'=>∃k,x=.bl k/\Q k H'
theorem IW{op:CmpOp}{r:R2}(ho:XZ X (compareOp op) r)(ha:PE X a ta)(hb:PE X b tb)(hm:behindInMarks op b=false):PT X (.Compare a [op] [b] pos) (PJ (Hu r ta tb)):=by
 intro pins s σ H Q I h
 refine wpAny_isTrue_Compare1 (Y2 (ha pins s σ H _ I h) λv s1 ⟨x,H1,I1,r1,q1⟩=>Y2 (hb pins s1 σ H1 _ I1 q1) λu s2 ⟨y,H2,I2,r2,q2⟩=>
  Y2 (ho pins s2 σ H2 x y v u _ I2 r1 r2 q2) λc s3 ⟨z,H3,I3,r3,k,e,q3⟩=>?_) hm
 subst e
 cases r3
 exact vM ⟨H3,I3,q3⟩
def Ss(r r':R2)(ta tb tc:TE):TE:=λσ H Q=>ta σ H λx H1=>tb σ H1 λy H2=>r x y H2 λz H3=>∃k,z=.bl k /\
 (if k=true then tc σ H3 λw' H4=>r' y w' H4 Q else Q (.bl false) H3)
theorem KN{op op':CmpOp}{r r':R2}(ho:XZ X (compareOp op) r)(ho':XZ X (compareOp op') r')(ha:PE X a ta)(hb:PE X b tb)(hc:PE X c tc) 
  (hm:lastMarks [op,op'] [b,c]=false:=by with_unfolding_all rfl):PE X (.Compare a [op,op'] [b,c] pos) (Ss r r' ta tb tc):=by
 intro pins s σ H Q I h
 refine Compare_chain (Y2 (ha pins s σ H _ I h) λv s1 ⟨x,H1,I1,r1,q1⟩=>chain_link (Y2 (hb pins s1 σ H1 _ I1 q1) λu s2 ⟨y,H2,I2,r2,q2⟩=>
  Y2 (ho pins s2 σ H2 x y v u _ I2 r1 r2 q2) λd s3 ⟨z,H3,I3,r3,k,e,q3⟩=>?_)) hm
 subst e
 cases r3
 refine vM ?_
 cases k with
 | false=>exact ite_ff ⟨.bl false,H3,I3,rfl,q3⟩
 | true=>exact ite_tt (chain_last (Y2 (hc pins s3 σ H3 _ I3 q3) λw' s4 ⟨z',H4,I4,r4,q4⟩=>ho' pins s4 σ H4 y z' u w' Q I4 r2 r4 q4))
theorem K_{op op':CmpOp}{r r':R2}(ho:XZ X (compareOp op) r)(ho':XZ X (compareOp op') r')(ha:PE X a ta)(hb:PE X b tb)(hc:PE X c tc) 
  (hm:lastMarks [op,op'] [b,c]=false:=by with_unfolding_all rfl):PT X (.Compare a [op,op'] [b,c] pos) (PJ (Ss r r' ta tb tc)):=by
 intro pins s σ H Q I h
 refine isTrue_chain (Y2 (ha pins s σ H _ I h) λv s1 ⟨x,H1,I1,r1,q1⟩=>test_link (Y2 (hb pins s1 σ H1 _ I1 q1) λu s2 ⟨y,H2,I2,r2,q2⟩=>
  Y2 (ho pins s2 σ H2 x y v u _ I2 r1 r2 q2) λd s3 ⟨z,H3,I3,r3,k,e,q3⟩=>?_)) hm
 subst e
 cases r3
 refine vM ?_
 cases k with
 | false=>
  obtain⟨k',e',q'⟩:=q3
  cases e'
  exact ite_ff ⟨H3,I3,q'⟩
 | true=>
  refine ite_tt (test_last (Y2 (hc pins s3 σ H3 _ I3 q3) λw' s4 ⟨z',H4,I4,r4,q4⟩=>Y2 (ho' pins s4 σ H4 y z' u w' _ I4 r2 r4 q4) λd' s5 ⟨z2,H5,I5,r5,k2,e2,q5⟩=>?_))
  subst e2
  cases r5
  exact vM ⟨H5,I5,q5⟩
theorem UH:(sizeLine:Nat)<2 ^ 63:=by rw[vZ];decide
theorem OE:XZ X (binaryOp .Add) (λx y H Q=>∃i j,x=.str i/\y=.str j/\i.length+j.length≤sizeLine/\Q (.str (i++j)) H):=by
 intro pins s σ H x y v u Q I rx ry h
 obtain⟨i,j,rfl,rfl,hz,q⟩:=h
 obtain⟨t,rfl⟩:=rx
 obtain⟨t',rfl⟩:=ry
 exact add_str (λt' tk=>⟨.str (i++j),H,I.tok _,⟨_,rfl⟩,q⟩) hz
theorem Vf{x:V}{us:List Value}(r:ZD [x] us):∃u,us=[u]/\ZL x u:=by
 cases r with
 | cons r1 r2=>cases r2;exact⟨_,rfl,r1⟩
theorem Mb{x y:V}{us:List Value}(r:ZD [x,y] us):∃u w',us=[u,w']/\ZL x u/\ZL y w':=by
 cases r with
 | cons r1 r2=>
  cases r2 with
  | cons r3 r4=>cases r4;exact⟨_,_,rfl,r1,r3⟩
theorem Lh:YE X (.builtin "abs") (λxs H Q=>∃i,xs=[.int i]/\Q (.int (if i<0 then -i else i)) H):=by
 intro pins s σ H xs us Q I r h
 obtain⟨i,rfl,q⟩:=h
 obtain⟨u,rfl,t,rfl⟩:=Vf r
 exact call_abs_int λu tk=>⟨.int (if i<0 then -i else i),H,I.tok _,⟨_,rfl⟩,q⟩
theorem Mf(hc:X.cold=true):YE X (.builtin "max") (λxs H Q=>∃i j,xs=[.int i,.int j]/\Q (.int (if j > i then j else i)) H):=by
 intro pins s σ H xs us Q I r h
 obtain⟨i,j,rfl,q⟩:=h
 obtain⟨u,w',rfl,⟨t,rfl⟩,⟨t',rfl⟩⟩:=Mb r
 refine max_two_ints (I.ok.cd hc) λh' tk k=>⟨_,H,I.kept k,?_,q⟩
 by_cases hj:j > i
 ·rw[zJ hj,zJ hj];exact⟨_,rfl⟩
 ·rw[wH hj,wH hj];exact⟨_,rfl⟩
theorem Mg(hc:X.cold=true):YE X (.builtin "min") (λxs H Q=>∃i j,xs=[.int i,.int j]/\Q (.int (if j<i then j else i)) H):=by
 intro pins s σ H xs us Q I r h
 obtain⟨i,j,rfl,q⟩:=h
 obtain⟨u,w',rfl,⟨t,rfl⟩,⟨t',rfl⟩⟩:=Mb r
 refine min_two_ints (I.ok.cd hc) λh' tk k=>⟨_,H,I.kept k,?_,q⟩
 by_cases hj:j<i
 ·rw[zJ hj,zJ hj];exact⟨_,rfl⟩
 ·rw[wH hj,wH hj];exact⟨_,rfl⟩
end
structure M_(h:Heap)(x dx C:Addr)(mA:Str->Option Value):Prop where
 obj:h.get? x=some (PySem.W.instObj C dx)
 ns:h.Ns1 dx mA
 ne:dx≠x
theorem Rt{h:Heap}{dx:Addr}{mA:Str->Option Value}(n:h.Ns1 dx mA):∃od,h.get? dx=some od/\∀name,PySem.W.lookIn name od=some (mA name):=by
 obtain⟨o,es,ep,ho,hd,hk,_,hm⟩:=n
 refine⟨o,ho,λname=>?_⟩
 have e:=hm name
 unfold nsFind findBy at e
 rw[<- Array.find?_toList]at e
 unfold PySem.W.lookIn
 rw[hd]
 dsimp only
 split
 ·rename_i y q
  rw[q]at e
  exact zG some e
 ·rename_i q
  rw[q]at e
  have a:es.toList.any (·.refKey)=false:=by
   rw[List.any_eq_false]
   intro y hy
   obtain⟨z,t,hkey⟩:=hk y (Array.mem_toList_iff.mp hy)
   simp[DictEntry.refKey,hkey]
  have a':¬es.toList.any (·.refKey)=true:=by rw[a];exact wI
  rw[wH a']
  exact zG some e
theorem M_.look{h:Heap}{x dx C:Addr}{mA:Str->Option Value}(I:M_ h x dx C mA):∃od,PySem.W.InstAt h x (PySem.W.instObj C dx) C (some od)/\∀name,PySem.W.lookIn name od=some (mA name):=
 let ⟨od,ho,hl⟩:=Rt I.ns
 ⟨od,⟨I.obj,rfl,rfl,ho⟩,hl⟩
section
variable {prog:Program}{w:World}{A:Around}{E:Value->Shared->Prop}{s:Shared}{K:Frag}{x dx C f:Addr}{mA:Str->Option Value}{name:Str}{v:Value}
theorem Hn{ns:List Str}{Q:Unit->Shared->Prop}(X:K.In s.heap)(I:M_ s.heap x dx C mA) 
  (hs:PySem.W.findIn K (.ref C) "__setattr__" = some (some (.builtin "object.__setattr__"))) (hp:PySem.W.plainOver K C=true) (ht:PySem.W.takerIn K C name=some none) (hh:PySem.W.hasDictIn K C=true)
  (hw:PySem.Within mA ns) (hsz:ns.length≤sizeLine)
  (h:∀h',M_ h' x dx C (λy=>if y=name then some v else mA y)->Heap.SameBut dx s.heap h'->Q () { s with heap:=h',toks:=s.toks+2 }) :
  wpAny (model prog w) A (setAttr (.ref x) name v) Q E s:=by
 obtain⟨od,J,hl⟩:=I.look
 refine PySem.W.set_plain X J hs (PySem.W.osa_open (s:={ s with toks:=s.toks+1 }) (r:=none) X J hp ht λb=>?_)
 obtain⟨cd,hc,hd'⟩:=PySem.W.any_some hh
 have hx:s.heap.get? x=some ⟨.ref C,some dx,.plain,#[]⟩:=I.obj
 refine zL (zM (zL (zL (wpAny_loadPart hx (zL (PySem.W.Looks.here (s:={ s with toks:=s.toks+1 }) (PySem.W.looks_clsIn X hc) ?_))))))
 rw[hd']
 refine zM (a:=some dx) (zL (zM (zL ?_)))
 refine wpAny_nsSet1 (s:={ s with toks:=s.toks+1 }) I.ns λh' hn2 hs2=>?_
 obtain⟨oD,esD,epD,hoD,hdD,hcD⟩:=hn2.count (PySem.Within.cons name v hw)
 refine zL (uA hoD (by rw[hdD];exact uB (wZ hcD (by rw[uC];omega))) ?_)
 exact zM (h _ ⟨(hs2.2 _ (zQ I.ne)).trans I.obj,hn2,I.ne⟩ hs2)
theorem K7{R:Result->Shared->Prop}{vs:List Value}{kw:List (Str×Value)}(X:K.In s.heap)(hm:PySem.W.makesIn K C=true) 
  (hi:PySem.W.findIn K (.ref C) "__init__" = some (some (.ref f))) (hf:PySem.W.typeIn K (.ref f)=some (.type "function"))
  (h:codeAny (model prog w) (A.under (.builtin "type.__call__" ⟨.ref C::vs,kw⟩)) (.call (.ref f) ⟨.ref (s.heap.objs.size+1)::vs,kw⟩) (PySem.W.InitBack (s.heap.objs.size+1) R)
   { s with heap:=(s.heap.push PySem.W.emptyDict).push (PySem.W.instObj C s.heap.objs.size) }) :
  codeAny (model prog w) A (.call (.ref C) ⟨vs,kw⟩) R s:=by
 obtain⟨hh,g,d,t,os⟩:=s
 exact PySem.W.make_core (PySem.W.makes_of X hm) (PySem.W.looks_findIn X hi) (λself=>PySem.W.bind_fn X self hf) (.inl rfl) h
end
def Wl(f:Str)(v:V):List (Str×V)->List (Str×V)
 | []=>[(f,v)]
 | (g,x)::r=>if g=f then(g,v)::r else(g,x)::Wl f v r
theorem UX(f g:Str)(v:V):∀fs:List (Str×V),(Wl f v fs).lookup g=if g=f then some v else fs.lookup g
 | []=>by
  show List.lookup g [(f,v)]=_
  by_cases h:g=f
  ·have hb:(g == f)=true:=uD.mpr h
   simp only[List.lookup,hb,zJ h]
  ·have hb:(g == f)=false:=wW.mpr h
   simp only[List.lookup,hb,wH h]
 | (k,x)::r=>by
  have ih:=UX f g v r
  rw[show Wl f v ((k,x)::r)=(if k=f then(k,v)::r else(k,x)::Wl f v r) from rfl]
  by_cases hk:k=f
  ·rw[zJ hk]
   by_cases h:g=k
   ·have hb:(g == k)=true:=uD.mpr h
    simp only[List.lookup,hb,zJ (h.trans hk)]
   ·have hb:(g == k)=false:=wW.mpr h
    simp only[List.lookup,hb,wH (λe:g=f=>h (e.trans hk.symm))]
  ·rw[wH hk]
   by_cases h:g=k
   ·have hb:(g == k)=true:=uD.mpr h
    simp only[List.lookup,hb,wH (λe:g=f=>hk (h.symm.trans e))]
   ·have hb:(g == k)=false:=wW.mpr h
    simp only[List.lookup,hb]
    exact ih
theorem UE(f:Str)(v:V):∀fs:List (Str×V),f∈(Wl f v fs).map (·.1)/\∀g,g∈fs.map (·.1)->g∈(Wl f v fs).map (·.1)
 | []=>⟨by simp[Wl],λg h=>by simp at h⟩
 | (k,x)::r=>by
  obtain⟨i1,i2⟩:=UE f v r
  rw[show Wl f v ((k,x)::r)=(if k=f then(k,v)::r else(k,x)::Wl f v r) from rfl]
  by_cases hk:k=f
  ·rw[zJ hk]
   subst hk
   exact⟨by simp,λg h=>by simpa using h⟩
  ·rw[wH hk]
   refine⟨?_,λg h=>?_⟩
   ·rw[uE]
    exact vC _ i1
   ·rw[uE]at h |-
    rcases vE.mp h with e|e
    ·exact vE.mpr (.inl e)
    ·exact vC _ (i2 g e)
theorem UW(f:Str)(v:V):∀fs:List (Str×V),(Wl f v fs).length≤fs.length+1
 | []=>by simp[Wl]
 | (k,x)::r=>by
  have ih:=UW f v r
  rw[show Wl f v ((k,x)::r)=(if k=f then(k,v)::r else(k,x)::Wl f v r) from rfl]
  by_cases hk:k=f
  ·rw[zJ hk,uC,uC];omega
  ·rw[wH hk,uC,uC];omega
theorem Ww.some_of{v:V}{o:Option Value}(r:Ww (some v) o):∃u,o=some u/\ZL v u:=by
 cases o with
 | none=>exact(show False from r).elim
 | some u=>exact⟨u,rfl,r⟩
theorem Ww.none_of{o:Option Value}(r:Ww none o):o=none:=by
 cases o with
 | none=>rfl
 | some u=>exact(show False from r).elim
theorem Mt{v:V}{u:Value}(r:ZL v u):PySem.W.handedIn u=true:=by
 cases v with
 | non=>cases (show u=Value.none from r);rfl
 | bl b=>cases (show u=Value.bool b from r);rfl
 | int i=>obtain⟨t,e⟩:=(show ∃t,u=Value.int i t from r);cases e;rfl
 | str x=>obtain⟨t,e⟩:=(show ∃t,u=Value.str x t from r);cases e;rfl
 | byt b=>obtain⟨t,e⟩:=(show ∃t,u=Value.bytes b t from r);cases e;rfl
 | flt b=>obtain⟨t,e⟩:=(show ∃t,u=Value.float b t from r);cases e;rfl
 | ref a=>cases (show u=Value.ref a from r);rfl
 | ty n=>cases (show u=Value.type n from r);rfl
section
variable {P:Program}{w:World}{H H':Hp}{h h':Heap}{a C dx:Addr}{fs fs':List (Str×V)}
theorem N7(hok:V1 P w H h)(e:H a=some (.ins C dx fs)):∃mA,M_ h a dx C mA/\(∀f,Ww (fs.lookup f) (mA f))/\PySem.Within mA (fs.map (·.1))/\fs.length≤1000/\H dx=some (.own a):=by
 obtain⟨d,z,ne,ob,mA,n,r,q⟩:=(show Yx P w H h a (.ins C dx fs) from hok a _ e)
 exact⟨mA,⟨ob,n,ne⟩,r,q,z,d⟩
end
structure GA(K:Frag)(C:Addr):Prop where
 pg:PySem.W.plainGet K C Str.empty=true
 hd:PySem.W.hasDictIn K C=true
 po:PySem.W.plainOver K C=true
 sa:PySem.W.findIn K (.ref C) "__setattr__" = some (some (.builtin "object.__setattr__"))
theorem GA.get{K:Frag}{C:Addr}(c:GA K C)(f:Str):PySem.W.plainGet K C f=true:=c.pg
def Uz(K:Frag)(C:Addr)(f:Str):Prop:=PySem.W.findIn K (.ref C) f=some none
theorem Uz.taker{K:Frag}{C:Addr}{f:Str}(n:Uz K C f):PySem.W.takerIn K C f=some none:=by
 unfold PySem.W.takerIn
 rw[show PySem.W.findIn K (.ref C) f=some none from n]
 rfl
section
variable {X:Cx}{pins:List (Addr×Obj)}{σ:St}{H:Hp}{s:Shared}{a C dx:Addr}{fs:List (Str×V)}{f:Str}{v:V}{A:Around}{E:Value->Shared->Prop}
theorem OS{y:V}{u:Value}{Q:Unit->Shared->Prop}(I:Zv X pins σ H s)(e:H a=some (.ins C dx fs))(c:GA X.K C)(n:Uz X.K C f)(hl:fs.length<1000)(ry:ZL y u) 
  (h:∀s',Zv X pins σ (upd H a (.ins C dx (Wl f y fs))) s'->Q () s'):wpAny (model X.prog X.w) A (setAttr (.ref a) f u) Q E s:=by
 obtain⟨mA,O,r,wi,_,ho⟩:=N7 I.hok e
 have hz:(fs.map (·.1)).length≤sizeLine:=by rw[Uh,vZ];omega
 refine Hn I.kIn O c.sa c.po n.taker c.hd wi hz λh' O' sb=>h _ ?_
 have hd:∃o,h'.get? dx=some o:=let ⟨o,_,_,e',_⟩:=O'.ns;⟨o,e'⟩
 refine I.write (x:=a) (e:=dx) (by rw[e];exact uF) (.inr ho) (λb q hb z=>(sb.2 b hb).trans z) hd ?_
 refine⟨by rw[Zi O.ne];exact ho,?_,O.ne,O'.obj,_,O'.ns,λg=>?_,λg hg=>?_⟩
 ·have:=UW f y fs;omega
 ·show Ww ((Wl f y fs).lookup g) (if g=f then some u else mA g)
  rw[UX]
  by_cases q:g=f
  ·rw[zJ q,zJ q];exact ry
  ·rw[wH q,wH q];exact r g
 ·by_cases q:g=f
  ·rw[q];exact(UE f y fs).1
  ·refine(UE f y fs).2 g (wi g λz=>hg ?_)
   show(if g=f then some u else mA g)=none
   rw[wH q];exact z
theorem Zv.made(I:Zv X pins σ H s):Zv X pins σ (upd (upd H s.heap.objs.size (.own (s.heap.objs.size+1))) (s.heap.objs.size+1) (.ins C s.heap.objs.size []))
  { s with heap:=(s.heap.push PySem.W.emptyDict).push (PySem.W.instObj C s.heap.objs.size) }:=by
 have e1:(s.heap.push PySem.W.emptyDict).get? s.heap.objs.size=some PySem.W.emptyDict:=zY s.heap rfl
 have e2:((s.heap.push PySem.W.emptyDict).push (PySem.W.instObj C s.heap.objs.size)).get? (s.heap.objs.size+1)=some (PySem.W.instObj C s.heap.objs.size):=by
  have:=zY (s.heap.push PySem.W.emptyDict) (o:=PySem.W.instObj C s.heap.objs.size) rfl
  rwa [wB]at this
 have e3:(s.heap.push PySem.W.emptyDict).Ns s.heap.objs.size (λ_=>none):=⟨PySem.W.emptyDict,#[],_,e1,rfl,(λe he=>absurd he (by simp)),λ_=>rfl⟩
 have I1:=I.laid (a:=s.heap.objs.size) (o:=.own (s.heap.objs.size+1)) (h':=s.heap.push PySem.W.emptyDict) (t':=s.toks) (λb u q=>zX _ q) (vU _) ⟨_,e1⟩
 refine I1.laid (a:=s.heap.objs.size+1) (o:=.ins C s.heap.objs.size []) (t':=s.toks) (λb u q=>zX _ q) (le_of_eq (wB _ _)) ?_
 have ne:s.heap.objs.size≠s.heap.objs.size+1:=wP (uG _)
 refine⟨by rw[Zi ne,Zw],uH _,ne,e2,λ_=>none,(Heap.Ns1.of_empty e3).at λo q=>zX _ q,λ_=>uF,λy hy=>absurd rfl hy⟩
theorem J_{prog:Program}{w:World}{env:Env}{e:Expr}{f:Str}{pos:Pos}{s:Shared}{Q:Value->Shared->Prop}(hb:attributeBase e f env (eval e env)=eval e env) 
  (h:wpAny (model prog w) A (eval e env) (λo s₁=>wpAny (model prog w) A (getAttr o f true) Q E s₁) E s):wpAny (model prog w) A (eval (.Attribute e f pos) env) Q E s:=
 Attribute_any_ h (by rw[arm_eval_Attribute,hb])
end
def Ef(K:Frag)(ta tv:TE)(f:Str):TS:=λD σ H=>tv σ H λy H1=>ta σ H1 λx H2=>∃a C dx fs,x=.ref a/\H2 a=some (.ins C dx fs)/\GA K C/\Uz K C f/\fs.length<1000 /\
 D.nx σ (upd H2 a (.ins C dx (Wl f y fs)))
section
variable {X:Cx}{o e value:Expr}{f:Str}{pos pos' tpos:Pos}{ta tv:TE}
theorem FN(ha:PE X o ta)(hv:PE X value tv)(hs:swapsWith value (some (.Attribute o f pos')) pos.line X.env=pure false):PS X (.Assign [.Attribute o f pos'] value pos) (Ef X.K ta tv f):=by
 intro pins s σ H D I h
 refine uI (Y2 (hv pins s σ H _ I h) λu s1 ⟨y,H1,I1,ry,q⟩=>Y2 (ha pins s1 σ H1 _ I1 q) λov s2 ⟨x,H2,I2,rx,a,C,dx,fs,ex,ea,c,n,l,q2⟩=>?_) hs
 subst ex
 obtain rfl:ov=Value.ref a:=rx
 exact OS I2 ea c n l ry λs3 I3=>⟨σ,_,I3,q2⟩
end
section
variable {X:Cx}{pins:List (Addr×Obj)}{σ:St}{H:Hp}{s:Shared}{A:Around}{E:Value->Shared->Prop}{Q:Value->Shared->Prop}{c:Value}{b:Bool}
inductive TyOf(K:Frag)(H:Hp):V->Value->Prop where
 | non:TyOf K H .non (.type "NoneType")
 | bl (x:Bool):TyOf K H (.bl x) (.type "bool")
 | int (i:Int):TyOf K H (.int i) (.type "int")
 | str (x:Str):TyOf K H (.str x) (.type "str")
 | flt (x:UInt64):TyOf K H (.flt x) (.type "float")
 | lst {a:Addr}{xs:List V} (e:H a=some (.lst xs)):TyOf K H (.ref a) (.type "list")
 | frz {a:Addr}{o:Obj}{xs:List V} (e:H a=some (.frz o (.lst xs))):TyOf K H (.ref a) (.type "list")
 | tup {a:Addr}{xs:List V} (e:H a=some (.tup xs)):TyOf K H (.ref a) (.type "tuple")
 | dK {a:Addr}{kvs:List (YM×V)} (e:H a=some (.dK kvs)):TyOf K H (.ref a) (.type "dict")
 | dT {a:Addr}{kvs:List (List YM×V)} (e:H a=some (.dT kvs)):TyOf K H (.ref a) (.type "dict")
 | ins {a C dx:Addr}{fs:List (Str×V)} (e:H a=some (.ins C dx fs)) (cl:GA K C) (ha:PySem.W.findIn K (.ref C) "__class__" = some (some (.builtin "object.__class__")))
   (hn:PySem.W.specialIn K (.builtin "object.__class__") "__get__" = some (some (.builtin "getset_descriptor.__get__"))) (htk:PySem.W.takesIn K (.builtin "object.__class__")=some true)
   (hm:PySem.W.mroIn K C (.type "object")=some true):TyOf K H (.ref a) (.ref C)
theorem M0{x:V}{u t:Value}(I:Zv X pins σ H s)(rx:ZL x u)(ty:TyOf X.K H x t)(e:PySem.W.kitOne X.K t c=some b)(h:∀tk,Q (.bool b) { s with toks:=tk }):
  wpAny (model X.prog X.w) A (call (.builtin "isinstance") [u,c]) Q E s:=by
 cases ty with
 | non=>cases (show u=Value.none from rx);exact uJ PySem.W.kitx_none I.kIn uF e (λz=>nomatch z) h
 | bl y=>cases (show u=Value.bool y from rx);exact uJ PySem.W.kitx_bool I.kIn uF e (λz=>nomatch z) h
 | int i=>obtain⟨t,q⟩:=(show ∃t,u=Value.int i t from rx);cases q;exact uJ PySem.W.kitx_int I.kIn uF e (λz=>nomatch z) h
 | str y=>obtain⟨t,q⟩:=(show ∃t,u=Value.str y t from rx);cases q;exact uJ PySem.W.kitx_str I.kIn uF e (λz=>nomatch z) h
 | flt y=>obtain⟨t,q⟩:=(show ∃t,u=Value.float y t from rx);cases q;exact uJ PySem.W.kitx_float I.kIn uF e (λz=>nomatch z) h
 | @lst a xs ea=>
  cases (show u=Value.ref a from rx)
  obtain⟨_,_,n,_,h1⟩:=(show Yx X.prog X.w H s.heap a (.lst xs) from I.hok a _ ea)
  exact uJ PySem.W.kitx_list I.kIn ⟨_,h1,rfl⟩ e (λz=>nomatch z) h
 | @frz a ob xs ea=>
  cases (show u=Value.ref a from rx)
  obtain⟨_,_,_,n,_,h1⟩:=(show Yx X.prog X.w H s.heap a (.frz ob (.lst xs)) from I.hok a _ ea)
  exact uJ PySem.W.kitx_list I.kIn ⟨_,h1,rfl⟩ e (λz=>nomatch z) h
 | @tup a xs ea=>
  cases (show u=Value.ref a from rx)
  obtain⟨_,_,_,p⟩:=(show Yx X.prog X.w H s.heap a (.tup xs) from I.hok a _ ea)
  obtain⟨o,h1,h2,_⟩:=p
  exact uJ PySem.W.kitx_tuple I.kIn ⟨o,h1,h2⟩ e (λz=>nomatch z) h
 | @dK a kvs ea=>
  cases (show u=Value.ref a from rx)
  obtain⟨_,_,vs,_,p⟩:=(show Yx X.prog X.w H s.heap a (.dK kvs) from I.hok a _ ea)
  obtain⟨o,es,ep,h1,h2,_⟩:=p
  exact uJ PySem.W.kitx_dict I.kIn ⟨o,h1,h2.1⟩ e (λz=>nomatch z) h
 | @dT a kvs ea=>
  cases (show u=Value.ref a from rx)
  obtain⟨_,_,xs,_,o,es,ep,h1,h2,_⟩:=(show Yx X.prog X.w H s.heap a (.dT kvs) from I.hok a _ ea)
  exact uJ PySem.W.kitx_dict I.kIn ⟨o,h1,h2.1⟩ e (λz=>nomatch z) h
 | @ins a C dx fs ea cl ha hn htk hm=>
  cases (show u=Value.ref a from rx)
  obtain⟨mA,O,_⟩:=N7 I.hok ea
  obtain⟨od,J,_⟩:=O.look
  exact uJ (PySem.W.kitx_own (cl.get _) cl.hd ha hn htk hm) I.kIn J e (λz=>nomatch z) h
end
structure Yg(k:Nat)(A:Around):Prop where
 hd:A.handled=none
 dp:A.depth+3*k+5<recursionLimit
 un:A.units+16*k+200<cLine
 gd:A.guards=some []
theorem Yg.mono{j k:Nat}{A:Around}(r:Yg k A)(h:j≤k):Yg j A:=⟨r.hd,by have:=r.dp;omega,by have:=r.un;omega,r.gd⟩
theorem Yg.deeper{k:Nat}{A:Around}(r:Yg (k+1) A)(env:Env):Yg k (A.deeper env):=
 ⟨r.hd,by have:=r.dp;show A.depth+1+3*k+5<_;omega,by have:=r.un;show A.units+3+16*k+200<_;omega,r.gd⟩
theorem O7{A:Around}{C:Addr}{us:List Value}{kw:List (Str×Value)}:(A.under (.builtin "type.__call__" ⟨.ref C::us,kw⟩)).depth=A.depth+1:=by
 first|rfl|simp[Around.under,Code.weight,Code.isCreation,Code.isGuard,Code.isCaller,Code.frames,Code.isFrame,guardIds]
theorem O8{A:Around}{C:Addr}{us:List Value}{kw:List (Str×Value)}:(A.under (.builtin "type.__call__" ⟨.ref C::us,kw⟩)).units=A.units+1:=by
 first|rfl|simp[Around.under,Code.cUnits,Code.frames,Code.isFrame]
theorem Yg.make{k:Nat}{A:Around}(r:Yg (k+1) A)(C:Addr)(us:List Value)(kw:List (Str×Value)):Yg k (A.under (.builtin "type.__call__" ⟨.ref C::us,kw⟩)):=
 ⟨r.hd,by have:=r.dp;rw[O7];omega,by have:=r.un;rw[O8];omega,by have:=r.gd;simp[Around.under,this,pushGuards,Code.guards,Code.isGuard,guardIds]⟩
theorem Yg.depth{k:Nat}{A:Around}(r:Yg k A):A.depth<recursionLimit:=by have:=r.dp;omega
theorem Yg.units{k:Nat}{A:Around}(r:Yg k A):A.units+64<cLine:=by have:=r.un;omega
def Er:TA:=λ_ H Q=>Q [] H
def NW(ta:TE)(tr:TA):TA:=λσ H Q=>ta σ H λx H1=>tr σ H1 λxs H2=>Q (x::xs) H2
section
variable {X:Cx}{e:Expr}{es:List Expr}{te:TE}{t:TA}{pos:Pos}
theorem KH:PA X [] Er:=λ_ _ _ _ H Q I h=>Calls.spliced_nil ⟨[],H,I,.nil,h⟩
theorem Ql(ha:PE X e te)(hr:PA X es t)(hs:starEach (e::es) X.env=(false,eval e X.env)::starEach es X.env:=by rfl):PA X (e::es) (NW te t):=by
 intro pos pins s σ H Q I h
 rw[hs]
 show wpAny _ _ (spliced ((false,eval e X.env)::backTo pos (starEach es X.env))) _ _ s
 refine Calls.spliced_cons (Y2 (ha pins s σ H _ I h) λu s1 ⟨x,H1,I1,r1,q1⟩=>?_)
 exact Y2 (hr pos pins s1 σ H1 _ I1 q1) λus s2 ⟨xs,H2,I2,r2,q2⟩=>⟨x::xs,H2,I2,.cons r1 r2,q2⟩
def Hw(t:TA):TE:=λσ H Q=>t σ H λxs H1=>xs.length≤sizeLine/\∀p,H1 p=none->Q (.ref p) (upd H1 p (.tup xs))
def Ep(t:TA):TE:=λσ H Q=>t σ H λxs H1=>xs.length≤sizeLine/\∀p,H1 p=none->Q (.ref p) (upd H1 p (.lst xs))
theorem FD{x1}(h:PA X es t):PE X (.Tuple es x1 pos) (Hw t):=by
 intro pins s σ H Q I hq
 refine wpAny_Tuple_spliced (Y2 (h pos pins s σ H _ I hq) λus s1 ⟨xs,H1,I1,r,z,q⟩=>⟨by rw[<- r.length];exact z,?_⟩)
 have hf:H1 s1.heap.objs.size=none:=I1.hok.fresh (vU _)
 refine⟨.ref s1.heap.objs.size,upd H1 s1.heap.objs.size (.tup xs),I1.laid (t':=s1.toks) (λb u e=>zX _ e) (vU _) ?_,rfl,q _ hf⟩
 exact⟨z,us,r,⟨_,zY _ rfl,rfl,_,rfl,rfl⟩⟩
theorem F8(h:PA X es t):PE X (.List es pos) (Ep t):=by
 intro pins s σ H Q I hq
 refine wpAny_List_spliced (Y2 (h pos pins s σ H _ I hq) λus s1 ⟨xs,H1,I1,r,z,q⟩=>⟨by rw[<- r.length];exact z,?_⟩)
 have hf:H1 s1.heap.objs.size=none:=I1.hok.fresh (vU _)
 refine⟨.ref s1.heap.objs.size,upd H1 s1.heap.objs.size (.lst xs),I1.laid (t':=s1.toks) (λb u e=>zX _ e) (vU _) ?_,rfl,q _ hf⟩
 exact⟨z,us,0,r,zY _ rfl⟩
end
abbrev Sp:=List V->Hp->VK->XK->Prop
abbrev Ob:=List Env->Hp->Shared->XK->Value->Shared->Prop
structure Ta(P:Program)(w:World)(K:Frag)(mg:Str->Option Value)(base:Heap)(A:Around)(outer:List Env)(s:Shared)(H:Hp):Prop where
 frames:A.frames=some outer
 mod:Mod K mg base
 bs:∀b o,base.get? b=some o->s.heap.get? b=some o/\H b=none
 bsz:base.objs.size≤s.heap.objs.size
 funs:s.heap.FunFrames base outer
 frf:∀b∈N0 outer,H b=none
 hok:V1 P w H s.heap
 bare:AllBare s.gens
def CE(outer:List Env)(P:Program)(w:World)(H:Hp)(s:Shared)(Q:VK)(u:Value)(s':Shared):Prop:=
 ∃v H',s'.os=s.os/\AllBare s'.gens/\Un (N0 outer) [] H H' s.heap s'.heap/\V1 P w H' s'.heap/\ZL v u/\Q v H'
def CR(CX:Ob)(outer:List Env)(P:Program)(w:World)(H:Hp)(s:Shared)(Q:VK)(E:XK)(r:Result)(s':Shared):Prop:=
 match r with
 | .ok (.ret u)=>CE outer P w H s Q u s'
 | .ok _=>False
 | .error e=>CX outer H s E e s'
structure Xv(P:Program)(w:World)(K:Frag)(mg:Str->Option Value)(base:Heap)(CX:Ob)(k:Nat)(f:Addr)(fd:FuncData)(ps:List Str)(sp:Sp):Prop where
 len:∀vs H Q E,sp vs H Q E->vs.length=ps.length
 run:∀(A:Around) (outer:List Env) (s:Shared) (H:Hp) (args:Args) (us:List Value) (vs:List V) (Q:VK) (E:XK),Yg k A->Ta P w K mg base A outer s H->BindsTo s fd args (ps.zip us)->ZD vs us->sp vs H Q E ->
  codeAny (model P w) A (.call (.ref f) args) (CR CX outer P w H s Q E) s
theorem Xv.mono{P:Program}{w:World}{K:Frag}{mg:Str->Option Value}{base:Heap}{CX:Ob}{j k:Nat}{f:Addr}{fd:FuncData}{ps:List Str}{sp:Sp}(F:Xv P w K mg base CX j f fd ps sp)(h:j≤k):
  Xv P w K mg base CX k f fd ps sp:=⟨F.len,λA outer s H args us vs Q E hr=>F.run A outer s H args us vs Q E (hr.mono h)⟩
theorem Xv.imp{P:Program}{w:World}{K:Frag}{mg:Str->Option Value}{base:Heap}{CX:Ob}{k:Nat}{f:Addr}{fd:FuncData}{ps:List Str}{sp sp':Sp}(F:Xv P w K mg base CX k f fd ps sp) 
  (h:∀vs H Q E,sp' vs H Q E->sp vs H Q E):Xv P w K mg base CX k f fd ps sp':=
 ⟨λvs H Q E q=>F.len vs H Q E (h _ _ _ _ q),λA outer s H args us vs Q E hr he hb hv hs=>F.run A outer s H args us vs Q E hr he hb hv (h _ _ _ _ hs)⟩
theorem Ta.make{P:Program}{w:World}{K:Frag}{mg:Str->Option Value}{base:Heap}{A:Around}{outer:List Env}{s:Shared}{H:Hp}(e:Ta P w K mg base A outer s H)(C:Addr)(us:List Value)(kw:List (Str×Value)):
  Ta P w K mg base (A.under (.builtin "type.__call__" ⟨.ref C::us,kw⟩)) outer s H:=⟨by first|exact e.frames|(simpa[Around.under,Code.envs,Code.isFrame,pushEnvs]using e.frames),e.mod,e.bs,e.bsz,e.funs,e.frf,e.hok,e.bare⟩
section
variable {X:Cx}{pins:List (Addr×Obj)}{σ:St}{H:Hp}{s s':Shared}
theorem Zv.env0(I:Zv X pins σ H s):Ta X.prog X.w X.K X.mg X.base X.A X.stack s H:=
 ⟨I.ok.frames,I.ok.mod,I.bs,wZ I.ok.bsz I.sz,I.stack,I.stkFree,I.hok,I.bare⟩
theorem Zv.after{Q:VK}{u:Value}(I:Zv X pins σ H s)(h:CE X.stack X.prog X.w H s Q u s'):EP X pins σ Q u s':=by
 obtain⟨v,H',os,bare,un,hok,r,q⟩:=h
 obtain⟨hh,g,d,t,os'⟩:=s'
 obtain rfl:os'=s.os:=os
 exact⟨v,H',I.call (h':=hh) (g':=g) (d':=d) (t':=t) (ch:=[]) un hok bare (λb z=>absurd z (by simp)),r,q⟩
end
def R3(sp:Sp)(dvs:List V)(E:XK)(t:TA):TE:=λσ H Q=>t σ H λvs H1=>sp (vs++dvs) H1 Q E
def XQ(K:Frag)(fd:FuncData)(ps:List Str)(ds:List Value):Prop:=
 ∀(s:Shared) (us:List Value),K.In s.heap->(us++ds).length=ps.length->BindsTo s fd ⟨us,[]⟩ (ps.zip (us++ds))
theorem XQ.all{K:Frag}{fd:FuncData}{ps:List Str}(h:∀us:List Value,us.length=ps.length->bindArgs fd ⟨us,[]⟩=pure (ps.zip us)):XQ K fd ps []:=λs us _ hl=>by
 rw[uK]at hl |-
 exact .of_eq (h us hl)
def T3(CX:Ob)(X:Cx)(E:XK):Prop:=∀(pins:List (Addr×Obj)) (σ:St) (H:Hp) (s:Shared) (e:Value) (s':Shared),Zv X pins σ H s->CX X.stack H s E e s'->X.xe e s'
section
variable {X:Cx}{CX:Ob}{k:Nat}{f C:Addr}{fd:FuncData}{ps:List Str}{sp:Sp}{dvs:List V}{ds:List Value}{E:XK}{x m:Str}{p pos apos:Pos}{e o:Expr}{es:List Expr}{ta:TE}{t:TA}
theorem Ee{pins:List (Addr×Obj)}{σ:St}{H:Hp}{s:Shared}{Q:VK}{us:List Value}{vs:List V}(F:Xv X.prog X.w X.K X.mg X.base CX k f fd ps sp)(hr:Yg k X.A)(hb:XQ X.K fd ps ds)(hd:ZD dvs ds)(hx:T3 CX X E) 
  (I:Zv X pins σ H s) (r:ZD vs us) (h:sp (vs++dvs) H Q E):wpAny (model X.prog X.w) X.A (call (.ref f) us) (EP X pins σ Q) X.xe s:=by
 have r2:ZD (vs++dvs) (us++ds):=r.append hd
 have hl:(us++ds).length=ps.length:=by rw[<- r2.length];exact F.len _ _ _ _ h
 refine uL (uM (F.run X.A X.stack s H ⟨us,[]⟩ (us++ds) (vs++dvs) Q E hr I.env0 (hb s us I.kIn hl) r2 h) λr s' hq=>?_)
 cases r with
 | error e=>exact hx pins σ H s e s' I hq
 | ok fl=>
  cases fl with
  | ret u=>exact I.after hq
  | next=>exact False.elim hq
  | brk=>exact False.elim hq
  | cont=>exact False.elim hq
theorem NF(F:Xv X.prog X.w X.K X.mg X.base CX k f fd ps sp)(hr:Yg k X.A)(hg:Gl X x)(hm:X.mg x=some (.ref f))(hk:PySem.W.keepIn X.K (.ref f)=true)(hb:XQ X.K fd ps ds)(hd:ZD dvs ds)(hx:T3 CX X E) 
  (ha:PA X (e::es) t) (hdb:(x == ("__debug__" : Str))=false:=by decide) (he:starEach (e::es) X.env=(false,eval e X.env)::starEach es X.env:=by rfl) (hpl:(backTo pos (starEach es X.env)).any (·.1)=false:=by rfl) :
  PE X (.Call (.Name x p) (e::es) [] pos) (R3 sp dvs E t):=by
 intro pins s σ H Q I h
 refine uN (Vk I hg hm ?_ hdb)
 refine callWith_K (h₀:=X.base) I.ok.mod.kin hk (Y2 (ha pos pins s σ H _ I h) λus s1 ⟨vs,H1,I1,r,q⟩=>⟨I1.kIn,?_⟩) he hpl
 exact Ee F hr hb hd hx I1 r q
structure Mk(K:Frag)(C f:Addr):Prop where
 makes:PySem.W.makesIn K C=true
 init:PySem.W.findIn K (.ref C) "__init__" = some (some (.ref f))
 fn:PySem.W.isFn K (.ref f)=true
 kp:PySem.W.keepIn K (.ref C)=true
end
def PK(X:Cx)(kws:List Keyword)(t:TA):Prop:=
 ∀(pos:Pos) (pins:List (Addr×Obj)) (s:Shared) (σ:St) (H:Hp) (Q:List V->Hp->Prop),Zv X pins σ H s->t σ H Q->wpAny (model X.prog X.w) X.A (evalAll ((backToKw pos (keywordEach kws X.env)).map (·.2))) (AP X pins σ Q) X.xe s
section
variable {X:Cx}{CX:Ob}{k:Nat}{f C:Addr}{fd:FuncData}{ps ks:List Str}{sp:Sp}{E:XK}{x m:Str}{p pos apos kpos:Pos}{e o:Expr}{es:List Expr}{kws:List Keyword}{te ta:TE}{t tk:TA}{nm:Option Str}
structure MX(K:Frag)(fd:FuncData)(ps ks:List Str)(g:List Value->List Value->List Value)(gV:List V->List V->List V):Prop where
 to:∀(s:Shared) (us ws:List Value),K.In s.heap->(g us ws).length=ps.length->BindsTo s fd ⟨us,ks.zip ws⟩ (ps.zip (g us ws))
 rel:∀{vs:List V}{us:List Value}{zs:List V}{ws:List Value},ZD vs us->ZD zs ws->ZD (gV vs zs) (g us ws)
variable {g:List Value->List Value->List Value}{gV:List V->List V->List V}
end
structure Z8(N P:List Str)(sc:Scope):Prop where
 kind:sc.kind=.function
 co:sc.isCoroutine=false
 gen:sc.isGenerator=false
 nd:N.Nodup
 pre:N.take P.length=P
 par:∀x∈P,sc.names.lookup x=some .local \/ sc.names.lookup x=some .cell
 nofree:∀y∈sc.names,y.2≠.free
theorem Ra{kindOf:Str->Option NameKind}{x:Str}:∀{binds:List (Str×Value)}{m:Str->Option Value},(∀v,(x,v) ∉ binds)->bindL kindOf binds m x=m x
 | [],_,_=>rfl
 | (n,v)::r,m,h=>by
  unfold bindL
  rw[Ra λw hw=>h w (vC _ hw)]
  split
  ·have:x≠n:=by rintro rfl;exact h v vB
   simp[this]
  ·rfl
theorem SY{kindOf:Str->Option NameKind}{x:Str}:∀{binds:List (Str×Value)}{m:Str->Option Value},(∀v,(x,v) ∉ binds)->bindC kindOf binds m x=m x
 | [],_,_=>rfl
 | (n,v)::r,m,h=>by
  unfold bindC
  rw[SY λw hw=>h w (vC _ hw)]
  split
  ·rfl
  ·have:x≠n:=by rintro rfl;exact h v vB
   simp[this]
theorem S_{kindOf:Str->Option NameKind}{x:Str}{v:Value}:∀{P:List Str}{vs:List Value}{i:Nat}{m:Str->Option Value},P.Nodup->P[i]? = some x->vs[i]? = some v->kindOf x=some .local ->
  bindL kindOf (P.zip vs) m x=some v
 | [],_,_,_,_,h,_,_=>by simp at h
 | _::_,[],_,_,_,_,h,_=>by simp at h
 | p::P,w::vs,0,m,nd,h1,h2,hk=>by
  simp at h1 h2;subst h1;subst h2
  show bindL kindOf ((p,w)::P.zip vs) m p=_
  unfold bindL
  rw[Ra λv hv=>(uO.mp nd).1 (uP hv).1,zJ hk]
  simp
 | p::P,w::vs,i+1,m,nd,h1,h2,hk=>by
  show bindL kindOf ((p,w)::P.zip vs) m x=_
  unfold bindL
  exact S_ (i:=i) (uO.mp nd).2 (by simpa using h1) (by simpa using h2) hk
theorem SX{kindOf:Str->Option NameKind}{x:Str}{v:Value}:∀{P:List Str}{vs:List Value}{i:Nat}{m:Str->Option Value},P.Nodup->P[i]? = some x->vs[i]? = some v->kindOf x≠some .local ->
  bindC kindOf (P.zip vs) m x=some v
 | [],_,_,_,_,h,_,_=>by simp at h
 | _::_,[],_,_,_,_,h,_=>by simp at h
 | p::P,w::vs,0,m,nd,h1,h2,hk=>by
  simp at h1 h2;subst h1;subst h2
  show bindC kindOf ((p,w)::P.zip vs) m p=_
  unfold bindC
  rw[SY λv hv=>(uO.mp nd).1 (uP hv).1,wH hk]
  simp
 | p::P,w::vs,i+1,m,nd,h1,h2,hk=>by
  show bindC kindOf ((p,w)::P.zip vs) m x=_
  unfold bindC
  exact SX (i:=i) (uO.mp nd).2 (by simpa using h1) (by simpa using h2) hk
def YA(N:List Str)(vs:List V):St:=vs.map some++List.replicate (N.length-vs.length) none
def Xi(CX:Ob)(P:Program)(w:World)(K:Frag)(mg:Str->Option Value)(base:Heap)(N:List Str)(qual:Str)(scope:Scope)(f:Addr)(cd:Value)(A:Around)(outer:List Env)(s:Shared)(H:Hp)(E:XK):Cx where
 prog:=P
 w:=w
 K:=K
 mg:=mg
 base:=base
 A:=A.deeper (envOfC qual scope s.heap.objs.size f cd)
 N:=N
 s₀:=s
 H₀:=H
 env:=envOfC qual scope s.heap.objs.size f cd
 outer:=outer
 stack:=envOfC qual scope s.heap.objs.size f cd::outer
 ex:=[]
 calm:=true
 cold:=true
 fn:=λ_=>true
 pn:=[]
 xe:=λe s'=>wpAny (model P w) (A.deeper (envOfC qual scope s.heap.objs.size f cd)) (leaving (envOfC qual scope s.heap.objs.size f cd) e) (λ_ s''=>CX outer H s E e s'') (λe' s''=>CX outer H s E e' s'') s'
theorem QE{sc:Scope}{n:Nat}{x:Str}(h:sc.names.lookup x=some .cell):∃c,(cellsFrom n sc.names []).lookup x=some c:=by
 have q:=uQ sc.names n [] (.inl h)
 exact uR.mp q
theorem Rn{CX:Ob}{P:Program}{w:World}{K:Frag}{mg:Str->Option Value}{base:Heap}{N ps:List Str}{qual:Str}{scope:Scope}{f:Addr}{cd:Value}{A:Around}{outer:List Env}{s s1:Shared}{H:Hp}{E:XK}{us:List Value}{vs:List V} 
  (S:Z8 N ps scope) (hd:A.handled=none) (e0:Ta P w K mg base A outer s H) (hl:vs.length=ps.length) (r:ZD vs us)
  (x:InCallC s s.heap.objs.size (bindL (envOfC qual scope s.heap.objs.size f cd).kindOf (ps.zip us) λ_=>none) (cellsFrom (s.heap.objs.size+1) scope.names []) (bindC (envOfC qual scope s.heap.objs.size f cd).kindOf (ps.zip us) λ_=>none) s1) :
  Zv (Xi CX P w K mg base N qual scope f cd A outer s H E) [] (YA N vs) H s1:=by
 have hpl:ps.length≤N.length:=by have:=zG List.length S.pre;rw[uS]at this;omega
 obtain⟨h1,tk,rfl,hk⟩:=x.done
 have noA:∀b:Addr,b ∉ (Xi CX P w K mg base N qual scope f cd A outer s H E).ex:=λb z=>absurd (show b∈([]:List Addr) from z) (by simp)
 refine⟨⟨e0.mod,S.kind,rfl,rfl,vU _,λy z c h1 h2=>?_,λy hy=>?_,λy c _ h=>?_,λ_=>.inl hd,λ_=>hd,Around.frames_deeper e0.frames,.inr ⟨rfl,rfl⟩,λb z=>absurd z (noA b),e0.bs,e0.bsz,λb _ _=>noA b,λb z=>absurd z (noA b),e0.funs,e0.frf⟩,
  rfl,e0.bare,Un.kept hk,⟨_,x.toInCall.ns,λi y v h1 h2 h3=>?_⟩,λy c h=>⟨_,x.cell y c h⟩,e0.hok.fresh (vU _),λy c h=>?_,λp hp=>absurd (show p∈([]:List (Addr×Obj)) from hp) (by simp),e0.hok.kept hk,?_⟩
 ·exact name_of_addr x.apart (uT h1) (uT h2)
 ·have hy:scope.names.lookup y=some .cell\/scope.names.lookup y=some .free:=hy
  rcases hy with hy|hy
  ·exact QE hy
  ·exact absurd rfl (S.nofree _ (uT hy))
 ·exact le_of_lt (x.above y c (uT h))
 ·have hi:i<vs.length:=by
   unfold YA at h2
   by_cases hi:i<vs.length
   ·exact hi
   ·rw[List.getElem?_append_right (by simpa using hi)]at h2
    rw[List.getElem?_replicate]at h2
    split at h2<;>cases h2
  have ha:vs[i]? = some v:=by
   unfold YA at h2
   rw[uU (by simpa using hi),uV]at h2
   cases e:vs[i]? with
   | none=>rw[e]at h2;cases h2
   | some a=>rw[e]at h2;cases h2;rfl
  obtain⟨u,hu,rv⟩:=r.get ha
  have hp:ps[i]? = some y:=by
   rw[<- S.pre,List.getElem?_take_of_lt (by omega)];exact h1
  have ndP:ps.Nodup:=by rw[<- S.pre];exact S.nd.sublist (List.take_sublist _ _)
  refine⟨u,rv,?_⟩
  rcases S.par y (uW hp) with k|k
  ·exact .inl ⟨k,S_ ndP hp hu k⟩
  ·obtain⟨c,e⟩:=QE (n:=s.heap.objs.size+1) k
   refine .inr ⟨.inl k,c,e,?_⟩
   have q:=x.cell y c e
   rw[SX ndP hp hu (by show scope.names.lookup y≠_;rw[k];decide)]at q
   exact q
 ·exact e0.hok.fresh (le_of_lt (x.above y c (uT h)))
 ·unfold YA
  show _=N.length
  rw[uX,Uh,List.length_replicate]
  omega
theorem Ri{CX:Ob}{P:Program}{w:World}{K:Frag}{mg:Str->Option Value}{base:Heap}{k:Nat}{f:Addr}{name qual:Str}{params:Arguments}{body:List Stmt}{scope:Scope}{dV kV doc pm cdv ct oc:Value}{an od:Option Addr} 
  {osl:Array (Option Value)}{N ps:List Str}{sp:Sp} (lk:K.lookup f=some ⟨oc,od,.func (PySem.W.fnOf name qual params body scope dV kV doc pm an cdv ct),osl⟩) (hcd:PySem.W.codeIn K cdv qual=true) (S:Z8 N ps scope)
  (len:∀vs H Q E,sp vs H Q E->vs.length=ps.length)
  (hbody:∀(A:Around) (outer:List Env) (s:Shared) (H:Hp) (vs:List V) (Q:VK) (E:XK),Yg k (A.deeper (envOfC qual scope s.heap.objs.size f cdv))->sp vs H Q E ->
   ∃t,VS (Xi CX P w K mg base N qual scope f cdv A outer s H E) body t/\t { nx:=λ_ H'=>Q .non H',rt:=Q } (YA N vs) H) :
  Xv P w K mg base CX (k+1) f (PySem.W.fnOf name qual params body scope dV kV doc pm an cdv ct) ps sp:=by
 refine⟨len,λA outer s H args us vs Q E hr e0 hb r hsp=>?_⟩
 have hl:=len _ _ _ _ hsp
 have KX:K.In s.heap:=e0.mod.kin.keeps λb o e=>(e0.bs b o e).1
 have lim:s.heap.NoLimit:=e0.mod.nolimit.keeps λb o e=>(e0.bs b o e).1
 have hkind:∀y∈ps.zip us,scope.names.lookup y.1=some .local \/ (scope.names.lookup y.1=some .cell/\((cellsFrom (s.heap.objs.size+1) scope.names []).lookup y.1).isSome=true):=λ⟨n,v⟩ hy=>by
  rcases S.par n (uP hy).1 with q|q
  ·exact .inl q
  ·exact .inr ⟨q,uQ _ _ _ (.inl q)⟩
 refine codeAny_call_function hr.depth (KX _ _ lk) rfl S.co S.gen rfl (PySem.W.codeRec_of KX hcd) (hb _ _ _ _ ?_)
 refine wpAny_newFunctionEnv_cells S.kind hkind λenv he s1 x=>?_
 subst he
 refine⟨lim.keeps x.toInCall.keep,codeAny_func ?_⟩
 obtain⟨t,ht,hq⟩:=hbody A outer s H vs Q E (hr.deeper _) hsp
 have I:Zv (Xi CX P w K mg base N qual scope f cdv A outer s H E) [] (YA N vs) H s1:=Rn S hr.hd e0 hl r x
 refine vL (ht [] s1 (YA N vs) H _ I hq) (λfl s' hs=>?_) λe s' hs=>hs
 have fin:∀{σ':St}{H':Hp}{v:V}{u:Value},Zv (Xi CX P w K mg base N qual scope f cdv A outer s H E) [] σ' H' s'->ZL v u->Q v H'->CE outer P w H s Q u s':=
  λ{σ' H' v u} J rv q=>⟨v,H',J.os,J.bare,J.base,J.hok,rv,q⟩
 cases fl with
 | ret u=>
  obtain⟨v,σ',H',J,rv,q⟩:=hs
  exact fin J rv q
 | next=>
  obtain⟨σ',H',J,q⟩:=hs
  exact fin (v:=V.non) (u:=Value.none) J rfl q
 | brk=>
  obtain⟨_,_,_,q⟩:=hs
  exact False.elim q
 | cont=>
  obtain⟨_,_,_,q⟩:=hs
  exact False.elim q
section
variable {X:Cx}{x:Str}{p pos:Pos}{e:Expr}{es:List Expr}{t:TA}{id T:String}{r:List V->Hp->VK->Prop}
def Cc(r:List V->Hp->VK->Prop)(t:TA):TE:=λσ H Q=>t σ H λvs H1=>r vs H1 Q
theorem KI(hc:YE X (.builtin id) r)(hg:Gl X x)(hm:X.mg x=none)(hv:bootBuiltins x=some (.builtin id))(ha:PA X (e::es) t)(hn:x≠"__name__":=by decide)(hdb:(x == ("__debug__" : Str))=false:=by decide) 
  (he:starEach (e::es) X.env=(false,eval e X.env)::starEach es X.env:=by rfl) (hpl:(backTo pos (starEach es X.env)).any (·.1)=false:=by rfl):PE X (.Call (.Name x p) (e::es) [] pos) (Cc r t):=by
 intro pins s σ H Q I h
 refine uN (VJ I hg hm hv ?_ hn hdb)
 exact PyProof.Rows.callWith_builtin1 (Y2 (ha pos pins s σ H _ I h) λus s1 ⟨vs,H1,I1,r1,q1⟩=>hc pins s1 σ H1 vs us Q I1 r1 q1) he hpl
theorem MF(hc:YE X (.type T) r)(hg:Gl X x)(hm:X.mg x=none)(hv:bootBuiltins x=some (.type T))(ha:PA X (e::es) t)(hn:x≠"__name__":=by decide)(hdb:(x == ("__debug__" : Str))=false:=by decide) 
  (he:starEach (e::es) X.env=(false,eval e X.env)::starEach es X.env:=by rfl) (hpl:(backTo pos (starEach es X.env)).any (·.1)=false:=by rfl):PE X (.Call (.Name x p) (e::es) [] pos) (Cc r t):=by
 intro pins s σ H Q I h
 refine uN (VJ I hg hm hv ?_ hn hdb)
 exact vV (Y2 (ha pos pins s σ H _ I h) λus s1 ⟨vs,H1,I1,r1,q1⟩=>hc pins s1 σ H1 vs us Q I1 r1 q1) he hpl
end
end L2
namespace HT
open PySem PyProof.Rows
def Pt:List Int->List Int->Bool
 | [],[]=>false
 | [],_::_=>true
 | _::_,[]=>false
 | x::xs,y::ys=>if x=y then Pt xs ys else decide (x<y)
section
open PySem.SeqAt
open PySem.AutoSeq1 (wpAny_loadPart')
open PySem.MeetsSeq PySem.MeetsSeq2 PySem.MeetsSeq3
end
section
variable {prog:Program}{w:World}{A:Around}{E:Value->Shared->Prop}{s:Shared}
theorem cat_tup{t b:Addr}{vs ws:List Value}{Q:Value->Shared->Prop}(ht:IsTup s.heap t vs.toArray)(hb:IsTup s.heap b ws.toArray)(hv:vs≠[]) 
  (h1:ws=[]->Q (.ref t) s) (h2:ws≠[]->Q (.ref s.heap.objs.size) { s with heap:=s.heap.push { cls:=.type "tuple",data:=.seq (vs++ws).toArray } })
  (hsz:vs.length+ws.length≤sizeLine):wpAny (model prog w) A (binaryOp .Add (.ref t) (.ref b)) Q E s:=by
 obtain⟨⟨cls,dd,data,sl⟩,ho,hc,n,hd⟩:=id ht
 obtain⟨⟨cls2,dd2,data2,sl2⟩,ho2,hc2,n2,hd2⟩:=id hb
 simp only at hc hd hc2 hd2
 subst hc hd hc2 hd2
 have e:vs.toArray++ws.toArray=(vs++ws).toArray:=by simp
 by_cases hw:ws=[]
 ·exact concat_meets ⟨_,ho,rfl⟩ ⟨_,ho2,rfl⟩ uZ seq_tuple_add slot_tuple_add yA (yB _ _)
   (tuple_addW1 t b vs.toArray ws.toArray n n2 dd dd2 sl sl2 (by simpa using hv) (by simp[hw])) ⟨ho,ho2,h1 hw⟩
 ·refine concat_meets ⟨_,ho,rfl⟩ ⟨_,ho2,rfl⟩ uZ seq_tuple_add slot_tuple_add yA (yB _ _)
   (tuple_addW2 t b vs.toArray ws.toArray n n2 dd dd2 sl sl2 (by simpa using hv) (by simpa using hw) (by rw[yC,yC];exact hsz)) ⟨ho,ho2,?_⟩
  rw[e]
  exact h2 hw
def sIx(n d:Nat):Option Int->Nat
 | none=>d
 | some v=>if v<0 then(v+(n:Int)).toNat else min v.toNat n
theorem sIx_none(n d:Nat):sIx n d none=d:=rfl
theorem sIx_nat(n d k:Nat):sIx n d (some (k:Int))=min k n:=by
 show(if(k:Int)<0 then((k:Int)+(n:Int)).toNat else min (k:Int).toNat n)=min k n
 rw[wH (by omega),wK]
theorem Eg(n d:Nat)(hd:d≤n)(o:Option Int):sIx n d o≤n:=by
 cases o with
 | none=>exact hd
 | some v=>
  show(if v<0 then(v+(n:Int)).toNat else min v.toNat n)≤n
  by_cases hv:v<0
  ·rw[zJ hv];omega
  ·rw[wH hv];exact Nat.min_le_right _ _
theorem Ni(v:Int)(n d:Nat):(if v<0 then max (v+(n:Int)) 0 else min v (n:Int))=((sIx n d (some v):Nat):Int):=by
 show(if v<0 then max (v+(n:Int)) 0 else min v (n:Int))=(((if v<0 then(v+(n:Int)).toNat else min v.toNat n):Nat):Int)
 by_cases hv:v<0
 ·simp only[zJ hv];omega
 ·simp only[wH hv];omega
theorem Of(lo hi:Option Int)(n:Nat):Builtin.Slice.sliceAdjust lo hi 1 (n:Int)=(((sIx n 0 lo:Nat):Int),((sIx n n hi:Nat):Int)):=by
 have h1:¬((1:Int)<0):=by omega
 unfold Builtin.Slice.sliceAdjust
 simp only[h1,wS]
 refine zI ?_ ?_
 ·cases lo with
  | none=>rfl
  | some v=>exact Ni v n 0
 ·cases hi with
  | none=>rfl
  | some v=>exact Ni v n n
theorem OI(i j:Nat):Builtin.Slice.slicePlaces (i:Int) (j:Int) 1=j-i:=by
 unfold Builtin.Slice.slicePlaces
 have h1:(1:Int) > 0:=by omega
 simp only[h1,yD,Int.ediv_one]
 split<;>omega
theorem So{v:Value}{o:Option Int}{Q:Option Int->Shared->Prop}(p:IsPart v o)(h:Q o s):wpAny (model prog w) A (Builtin.Slice.slicePartIndex v) Q E s:=by
 cases p with
 | none=>exact slicePart_none h
 | int i t=>exact slicePart_int h
theorem Wu{sl:Addr}{vl vu:Value}{lo hi:Option Int}{n:Nat}{Q:Int×Int×Nat->Shared->Prop}(hs:s.heap.IsSliceOf sl vl vu .none)(pl:IsPart vl lo)(pu:IsPart vu hi) 
  (h:Q (((sIx n 0 lo:Nat):Int),1,sIx n n hi-sIx n 0 lo) s):wpAny (model prog w) A (Builtin.Slice.sliceApplied (.ref sl) (pure (n:Int))) Q E s:=by
 obtain⟨os,hos,hcs,hds⟩:=id hs
 unfold Builtin.Slice.sliceApplied Builtin.Slice.sliceFields
 refine zL (zL (zO hos hds (x:=vl) rfl (zL (zO hos hds (x:=vu) rfl (zL (zO hos hds (x:=.none) rfl (zM ?_)))))))
 refine zL (slicePart_none ?_)
 show wpAny _ _ (if((1:Int) == 0)=true then _ else _) _ _ s
 rw[wH (by decide)]
 refine zL (So pl (zL (So pu (zL (zM ?_)))))
 show wpAny _ _ (match Builtin.Slice.sliceAdjust lo hi 1 (n:Int) with|(lo,hi)=>pure (lo,(1:Int),Builtin.Slice.slicePlaces lo hi 1)) _ _ s
 rw[Of lo hi n]
 show wpAny _ _ (pure (((sIx n 0 lo:Nat):Int),(1:Int),Builtin.Slice.slicePlaces ((sIx n 0 lo:Nat):Int) ((sIx n n hi:Nat):Int) 1)) _ _ s
 rw[OI]
 exact zM h
theorem KW(xs:Array Value)(i k:Nat):((List.range k).filterMap λ(m:Nat)=>xs[((i:Int)+(m:Int)*1).toNat]?).toArray=((xs.toList.drop i).take k).toArray:=by
 have e:(λ(m:Nat)=>xs[((i:Int)+(m:Int)*1).toNat]?)=λm=>xs[i+m]?:=by
  funext m
  have:((i:Int)+(m:Int)*1).toNat=i+m:=by omega
  rw[this]
 rw[e]
 have:=pick_run xs i k
 rw[List.filterMap_map]at this
 have e2:((λx=>xs[x]?) ∘ λx=>i+x)=λm=>xs[i+m]?:=rfl
 rw[e2]at this
 rw[this]
theorem getItem_tuple_cut{t sl:Addr}{items:Array Value}{vl vu:Value}{lo hi:Option Int}{Q:Value->Shared->Prop}(ht:IsTup s.heap t items)(hs:s.heap.IsSliceOf sl vl vu .none)(pl:IsPart vl lo)(pu:IsPart vu hi) 
  (hw:¬(sIx items.size 0 lo=0/\sIx items.size items.size hi=items.size))
  (h:Q (.ref s.heap.objs.size) { s with heap:=s.heap.push { cls:=.type "tuple",data:=.seq ((items.toList.drop (sIx items.size 0 lo)).take (sIx items.size items.size hi-sIx items.size 0 lo)).toArray } })
  (hsz:items.size≤sizeLine):wpAny (model prog w) A (getItem (.ref t) (.ref sl)) Q E s:=by
 have htake:sizeOk (.seq ((items.toList.drop (sIx items.size 0 lo)).take (sIx items.size items.size hi-sIx items.size 0 lo)).toArray):=by
  show((items.toList.drop (sIx items.size 0 lo)).take (sIx items.size items.size hi-sIx items.size 0 lo)).toArray.size≤sizeLine
  rw[yC,uS,yE,vN]
  omega
 have hj:sIx items.size items.size hi≤items.size:=Eg _ _ (vU _) hi
 obtain⟨os,hos,hcs,hds⟩:=id hs
 have hTs:s.TypeIs (.ref sl) "slice":=⟨os,hos,hcs⟩
 unfold getItem
 try with_reducible refine zN ?_
 first|refine zL (zM ?_)|skip
 refine zL (wpAny_sequenceKey ht.typeIs (by decide) ?_)
 refine zL (wE (name:=Str.ofString "__getitem__") ht.typeIs yF
  (wG yF ht.typeIs entry_tuple_getitem ?_ (args_tuple_getitem _ _)))
 show wpAny _ _ (Builtin.Tuple.tupleItemsOf (.ref t)>>=_) _ _ s
 refine zL (tupleItemsOf_ ht ?_)
 refine zL (wpAny_typeOf hTs ?_)
 rw[zJ (by decide)]
 refine zL (Wu hs pl pu ?_)
 have hno:¬((((sIx items.size 0 lo:Nat):Int) == 0&&(1:Int) == 1&&(sIx items.size items.size hi-sIx items.size 0 lo) == items.size)=true):=by
  intro q
  rw[yG,yG]at q
  have q1:((sIx items.size 0 lo:Nat):Int)=0:=eq_of_beq q.1.1
  have q2:sIx items.size items.size hi-sIx items.size 0 lo=items.size:=eq_of_beq q.2
  exact hw ⟨by omega,by omega⟩
 show wpAny _ _ (if(((sIx items.size 0 lo:Nat):Int) == 0&&(1:Int) == 1&&(sIx items.size items.size hi-sIx items.size 0 lo) == items.size)=true then _ else _) _ _ s
 rw[wH hno,KW]
 first
  | exact zL (m:=Builtin.Tuple.tupleExact _) (zV (zM ⟨_,rfl,zM h⟩) htake)
  | exact zL (m:=Builtin.Tuple.tupleExact _) (zV (zL (zM (zM ⟨_,rfl,zM h⟩))) htake)
  | exact zL (zL (m:=Builtin.Tuple.tupleExact _) (zV (zM (zM ⟨_,rfl,zM h⟩)) htake))
  | exact zL (zL (m:=Builtin.Tuple.tupleExact _) (zV (zM ⟨_,rfl,zM h⟩) htake))
end
end HT
namespace L2
open PySem PySem.Spec PyProof.Rows
abbrev TO:=St->Hp->(Option Int->Hp->Prop)->Prop
def PO(X:Cx)(e:Option Expr)(t:TO):Prop:=
 ∀(pins:List (Addr×Obj)) (s:Shared) (σ:St) (H:Hp) (Q:Option Int->Hp->Prop),Zv X pins σ H s->t σ H Q ->
  wpAny (model X.prog X.w) X.A (evalPart e X.env) (λu s'=>∃o H',Zv X pins σ H' s'/\IsPart u o/\Q o H') X.xe s
def Q4:TO:=λ_ H Q=>Q none H
def J8(t:TE):TO:=λσ H Q=>t σ H λx H1=>∃i,x=.int i/\Q (some i) H1
section
variable {X:Cx}{e:Expr}{te:TE}{lo hi:Option Expr}{tl th:TO}{pos p2:Pos}
theorem IS:PO X none Q4:=by
 intro pins s σ H Q I h
 rw[evalPart_none]
 exact zM ⟨none,H,I,.none,h⟩
theorem IT(h:PE X e te):PO X (some e) (J8 te):=by
 intro pins s σ H Q I hw
 rw[evalPart_some]
 refine Y2 (h pins s σ H _ I hw) λu s1 ⟨x,H1,I1,r1,q1⟩=>?_
 obtain⟨i,rfl,q⟩:=q1
 obtain⟨t,rfl⟩:=r1
 exact⟨some i,H1,I1,.int i t,q⟩
def La(X:Cx)(r:V->Option Int->Option Int->Hp->VK->Prop):Prop:=
 ∀(pins:List (Addr×Obj)) (s:Shared) (σ:St) (H:Hp) (x:V) (v vl vu:Value) (lo hi:Option Int) (sl:Addr) (Q:VK),Zv X pins σ H s->ZL x v->s.heap.IsSliceOf sl vl vu .none->IsPart vl lo->IsPart vu hi->r x lo hi H Q ->
  ∃T id,typeLookup (.type T) "__getitem__" = pure (some (.builtin id))/\s.TypeIs v T/\wpAny (model X.prog X.w) X.A (getItem v (.ref sl)) (EP X pins σ Q) X.xe s
theorem La.or{r r':V->Option Int->Option Int->Hp->VK->Prop}(h:La X r)(h':La X r'):La X (λx lo hi H Q=>r x lo hi H Q\/r' x lo hi H Q):=by
 intro pins s σ H x v vl vu lo hi sl Q I rx hs pl pu q
 rcases q with q|q
 ·exact h pins s σ H x v vl vu lo hi sl Q I rx hs pl pu q
 ·exact h' pins s σ H x v vl vu lo hi sl Q I rx hs pl pu q
def Bj(r:V->Option Int->Option Int->Hp->VK->Prop)(te:TE)(tl th:TO):TE:=λσ H Q=>te σ H λx H1=>tl σ H1 λl H2=>th σ H2 λu H3=>r x l u H3 Q
theorem KR{r:V->Option Int->Option Int->Hp->VK->Prop}(hr:La X r)(he:PE X e te)(hl:PO X lo tl)(hu:PO X hi th):PE X (.Subscript e (.Slice lo hi none p2) pos) (Bj r te tl th):=by
 intro pins s σ H Q I h
 refine Subscript_ (Y2 (he pins s σ H _ I h) λv s1 ⟨x,H1,I1,r1,q1⟩=>?_)
 refine wpAny_Slice (Y2 (hl pins s1 σ H1 _ I1 q1) λvl s2 ⟨l,H2,I2,pl,q2⟩=>Y2 (hu pins s2 σ H2 _ I2 q2) λvu s3 ⟨u,H3,I3,pu,q3⟩=>?_)
 rw[evalPart_none]
 refine zM ?_
 have I4:Zv X pins σ H3 { s3 with heap:=s3.heap.push { cls:=.type "slice",data:=.fields #[vl,vu,.none] } }:=I3.kept (t':=s3.toks) λb ob q=>zX _ q
 obtain⟨T,id,hT,ht,hg⟩:=hr pins { s3 with heap:=s3.heap.push { cls:=.type "slice",data:=.fields #[vl,vu,.none] } } σ H3 x v vl vu l u s3.heap.objs.size Q I4 r1 (Heap.IsSliceOf.new ..) pl pu q3
 show wpAny (model X.prog X.w) X.A (subscriptTail e (.Slice lo hi none p2) v (.ref s3.heap.objs.size)) (EP X pins σ Q) X.xe { s3 with heap:=s3.heap.push { cls:=.type "slice",data:=.fields #[vl,vu,.none] } }
 exact tail_any (ops:=[.ref s3.heap.objs.size,v]) ht hT hg (by with_unfolding_all rfl)
def TC(xs:List V)(lo hi:Option Int):List V:=(xs.drop (HT.sIx xs.length 0 lo)).take (HT.sIx xs.length xs.length hi-HT.sIx xs.length 0 lo)
theorem UQ(xs:List V)(lo hi:Option Int):(TC xs lo hi).length≤xs.length:=by
 unfold TC
 rw[uS,yE]
 omega
def Bd(K:Frag):V->Option Int->Option Int->Hp->VK->Prop:=λx lo hi H Q=>∃a xs,x=.ref a/\X7 K H a xs /\
 ¬(HT.sIx xs.length 0 lo=0/\HT.sIx xs.length xs.length hi=xs.length)/\∀p,H p=none->Q (.ref p) (upd H p (.tup (TC xs lo hi)))
theorem Ej:La X (Bd X.K):=by
 intro pins s σ H x v vl vu lo hi sl Q I rx hs pl pu h
 obtain⟨a,xs,rfl,hx,hw,q⟩:=h
 cases rx
 obtain⟨its,r,ht,hz⟩:=I.tuple hx
 have hlen:its.toArray.size=xs.length:=by rw[yC];exact r.length.symm
 refine⟨"tuple",_,yF.lookup,ht.typeIs,?_⟩
 refine HT.getItem_tuple_cut ht hs pl pu (by rw[hlen];exact hw) ?_ (by rw[hlen];exact hz)
 rw[hlen]
 refine⟨.ref s.heap.objs.size,_,I.laid (t':=s.toks) (o:=.tup (TC xs lo hi)) (λb ob q=>zX _ q) (vU _) ?_,rfl,q _ (I.hok.fresh (vU _))⟩
 exact⟨wZ (UQ xs lo hi) hz,_,(r.drop (HT.sIx xs.length 0 lo)).take (HT.sIx xs.length xs.length hi-HT.sIx xs.length 0 lo),R8.new _ _⟩
end
def Ge(n:Nat)(i:Int):Option Nat:=if 0≤i then(if i<n then some i.toNat else none) else if -(n:Int)≤i then some (i+n).toNat else none
def atI{α:Type}(xs:List α)(i:Int):Option α:=(Ge xs.length i).bind λj=>xs[j]?
theorem N8{n:Nat}{i:Int}{j:Nat}(h:Ge n i=some j):seqIndex? i n=some j/\j<n/\-(n:Int)≤i/\i<n:=by
 unfold Ge at h
 by_cases h0:0≤i
 ·rw[zJ h0]at h
  by_cases h1:i<n
  ·rw[zJ h1]at h
   have e:i.toNat=j:=vK h
   exact⟨by rw[seqIndex_of h0 h1,e],by omega,by omega,h1⟩
  ·rw[wH h1]at h;cases h
 ·rw[wH h0]at h
  by_cases h1:-(n:Int)≤i
  ·rw[zJ h1]at h
   have e:(i+n).toNat=j:=vK h
   exact⟨by rw[seqIndex_neg (by omega) h1,e],by omega,h1,by omega⟩
  ·rw[wH h1]at h;cases h
theorem RB{α:Type}{xs:List α}{i:Int}{v:α}(h:atI xs i=some v):∃j,seqIndex? i xs.length=some j/\xs[j]? = some v/\j<xs.length/\-(xs.length:Int)≤i/\i<xs.length:=by
 unfold atI at h
 cases e:Ge xs.length i with
 | none=>rw[e]at h;cases h
 | some j=>
  rw[e]at h
  obtain⟨h1,h2,h3,h4⟩:=N8 e
  exact⟨j,h1,h,h2,h3,h4⟩
theorem Yj{α:Type}{xs:List α}{j:Nat}{v:α}(h:xs[j]? = some v):atI xs (j:Int)=some v:=by
 have hj:j<xs.length:=(vH.mp h).1
 have e:Ge xs.length (j:Int)=some j:=by
  unfold Ge
  rw[zJ (by omega),zJ (by omega)];simp
 unfold atI;rw[e];exact h
def Nd(b:Expr):Prop:=∀o i,subscripted b false o i=operate [o,i] (getItem o i)
def JU(X:Cx)(r:R2):Prop:=
 ∀(value slice:Expr) (pins:List (Addr×Obj)) (s:Shared) (σ:St) (H:Hp) (x y:V) (v u:Value) (Q:VK),Zv X pins σ H s->ZL x v->ZL y u->r x y H Q ->
  subscripted slice false v u=operate [v,u] (getItem v u)->wpAny (model X.prog X.w) X.A (subscriptTail value slice v u) (EP X pins σ Q) X.xe s
def GD(X:Cx)(id:String)(r:V->List V->Hp->VK->Prop):Prop:=
 ∀(pins:List (Addr×Obj)) (s:Shared) (σ:St) (H:Hp) (x:V) (xs:List V) (v:Value) (us:List Value) (Q:VK),Zv X pins σ H s->ZL x v->ZD xs us->r x xs H Q ->
  wpAny (model X.prog X.w) X.A (call (.builtin id) (v::us)) (EP X pins σ Q) X.xe s
section
variable {X:Cx}{a b:Expr}{ta tb:TE}{pos:Pos}
theorem JU.or{r r':R2}(h:JU X r)(h':JU X r'):JU X (λx y H Q=>r x y H Q\/r' x y H Q):=by
 intro value slice pins s σ H x y v u Q I rx ry q hs
 rcases q with q|q
 ·exact h value slice pins s σ H x y v u Q I rx ry q hs
 ·exact h' value slice pins s σ H x y v u Q I rx ry q hs
theorem GD.or{id:String}{r r':V->List V->Hp->VK->Prop}(h:GD X id r)(h':GD X id r'):GD X id (λx xs H Q=>r x xs H Q\/r' x xs H Q):=by
 intro pins s σ H x xs v us Q I rx rs q
 rcases q with q|q
 ·exact h pins s σ H x xs v us Q I rx rs q
 ·exact h' pins s σ H x xs v us Q I rx rs q
theorem D6{r:R2}(hr:JU X r)(ha:PE X a ta)(hb:PE X b tb)(hs:Nd b):PE X (.Subscript a b pos) (Hu r ta tb):=by
 intro pins s σ H Q I h
 exact Subscript_ (GL ha hb I h λv u s2 x y H2 I2 rx ry q=>hr a b pins s2 σ H2 x y v u Q I2 rx ry q (hs _ _))
def DG(K:Frag):R2:=λx y H Q=>∃p xs i v,x=.ref p/\y=.int i/\Xg K H p xs/\atI xs i=some v/\Q v H
def DI(K:Frag):R2:=λx y H Q=>∃p xs i v,x=.ref p/\y=.int i/\X7 K H p xs/\atI xs i=some v/\Q v H
def DH:R2:=λx y H Q=>∃z i c,x=.str z/\y=.int i/\z.length≤sizeLine/\atI z.cps.toList i=some c/\Q (.str ⟨#[c]⟩) H
theorem Yb:JU X (DG X.K):=by
 intro value slice pins s σ H x y v u Q I rx ry h hs
 obtain⟨p,xs,i,z,rfl,rfl,hq,he,q⟩:=h
 cases rx
 obtain⟨t,rfl⟩:=ry
 obtain⟨its,r,pl,hz⟩:=I.list hq
 obtain⟨j,h1,h2,h3,h4,h5⟩:=RB he
 obtain⟨w,ew,rw'⟩:=r.get h2
 have hl:=r.length
 have hn:=UH
 have fin:EP X pins σ Q w s:=⟨z,H,I,rw',q⟩
 by_cases h0:0≤i
 ·have hj:i.toNat=j:=by
   rw[seqIndex_of h0 h5]at h1
   exact vK h1
  exact item_listR pl.isList h0 (by omega) (by rw[hj];simpa using ew) fin hs
 ·have hj:(i+(its.toArray.size:Int)).toNat=j:=by
   rw[seqIndex_neg (by omega) h4]at h1
   rw[yC,<- hl]
   exact vK h1
  exact subscriptTail_builtinR (x:=w) pl.isList.typeIs slot_list_getitem.lookup
   (wpAny_getItem_list_neg (Q:=λr s'=>r=w/\EP X pins σ Q r s') pl.isList (by omega) (by rw[yC]<;>omega) (by omega) (by rw[hj];simpa using ew) ⟨rfl,fin⟩) hs
theorem Xb:JU X (DI X.K):=by
 intro value slice pins s σ H x y v u Q I rx ry h hs
 obtain⟨p,xs,i,z,rfl,rfl,hq,he,q⟩:=h
 cases rx
 obtain⟨t,rfl⟩:=ry
 obtain⟨its,r,pl,hz⟩:=I.tuple hq
 obtain⟨j,h1,h2,h3,h4,h5⟩:=RB he
 obtain⟨w,ew,rw'⟩:=r.get h2
 have hl:=r.length
 have hn:=UH
 have fin:EP X pins σ Q w s:=⟨z,H,I,rw',q⟩
 exact subscriptTail_builtinR (x:=w) pl.typeIs slot_tuple_getitem.lookup
  (getItem_tuple (j:=j) (Q:=λr s'=>r=w/\EP X pins σ Q r s') pl (by omega) (by omega) (by rw[yC,<- hl];exact h1) (by simpa using ew) ⟨rfl,fin⟩) hs
theorem Kv:JU X DH:=by
 intro value slice pins s σ H x y v u Q I rx ry h hs
 obtain⟨z,i,c,rfl,rfl,hz,he,q⟩:=h
 obtain⟨t,rfl⟩:=rx
 obtain⟨t',rfl⟩:=ry
 obtain⟨j,h1,h2,h3,h4,h5⟩:=RB he
 have hl:z.cps.toList.length=z.length:=by simp[Str.length]
 rw[hl]at h1 h4 h5
 have hn:=UH
 exact tail_any (typeIs_str s z t) slot_str_getitem.lookup (getItem_str (c:=c) (by
  have e1:decide (i < -(2 ^ 63:Int))=false:=wV (by omega)
  have e2:decide (i≥2 ^ 63)=false:=wV (by omega)
  rw[e1,e2,Bool.or_false]) (by rw[h1];simpa using h2) ⟨.str ⟨#[c]⟩,H,I.tok _,⟨_,rfl⟩,q⟩) hs
theorem OA(its:List Value)(n j:Nat)(u:Value):Obj.mapSeq (·.setIfInBounds j u) { cls:=.type "list",data:=.seq its.toArray n } = { cls:=.type "list",data:=.seq (its.set j u).toArray n }:=by
 simp[Obj.mapSeq]
theorem Zv.lst{pins:List (Addr×Obj)}{σ:St}{H:Hp}{s:Shared}{p:Addr}{xs:List V}(I:Zv X pins σ H s)(h:H p=some (.lst xs)):
  ∃(its:List Value) (n:Nat),ZD xs its/\s.heap.get? p=some { cls:=.type "list",data:=.seq its.toArray n }/\xs.length≤sizeLine:=by
 obtain⟨z,its,n,r,e⟩:=I.hok p _ h
 exact⟨its,n,r,e,z⟩
theorem Zv.lstUpd{pins:List (Addr×Obj)}{σ:St}{H:Hp}{s:Shared}{p:Addr}{xs ys:List V}{its its':List Value}{n n':Nat}{f:Obj->Obj}(I:Zv X pins σ H s)(h:H p=some (.lst xs)) 
  (ho:s.heap.get? p=some { cls:=.type "list",data:=.seq its.toArray n }) (hf:f { cls:=.type "list",data:=.seq its.toArray n } = { cls:=.type "list",data:=.seq its'.toArray n' }) (r:ZD ys its') (hz:ys.length≤sizeLine) (t:Nat) :
  Zv X pins σ (upd H p (.lst ys)) { s with heap:=s.heap.update p f,toks:=t }:=by
 have e:(s.heap.update p f).get? p=some { cls:=.type "list",data:=.seq its'.toArray n' }:=by
  rw[zR f ho (by rw[hf]<;>rfl),hf]
 refine I.write (x:=p) (e:=p) (by rw[h];trivial) (.inl rfl) (λb u hb q=>(zP _ _ (zQ hb)).trans q) ⟨_,e⟩ ?_
 exact⟨hz,its',n',r,e⟩
def DJ:V->V->V->Hp->(Hp->Prop)->Prop:=λo i v H Q=>∃p xs k j,o=.ref p/\i=.int k/\H p=some (.lst xs)/\Ge xs.length k=some j/\Q (upd H p (.lst (xs.set j v)))
theorem PD:GH X DJ:=by
 intro pins s σ H o i v ov iv u Q I ro ri rv h
 obtain⟨p,xs,k,j,rfl,rfl,hp,hj,q⟩:=h
 cases ro
 obtain⟨t,rfl⟩:=ri
 obtain⟨its,n,r,ho,hz⟩:=I.lst hp
 obtain⟨h1,h2,h3,h4⟩:=N8 hj
 have hl:=r.length
 have hn:=UH
 have I':Zv X pins σ (upd H p (.lst (xs.set j v))) { s with heap:=s.heap.update p (Obj.mapSeq (·.setIfInBounds j u)) }:=
  I.lstUpd hp ho (OA its n j u) (r.set rv j) (by rw[List.length_set];exact hz) s.toks
 by_cases h0:0≤k
 ·have hk:k.toNat=j:=by
   rw[seqIndex_of h0 h4]at h1
   exact vK h1
  exact PySem.W.ki_setAt ho h0 (by omega) (by rw[yC,<- hl];exact h4) (by rw[hk];exact⟨_,I',q⟩)
 ·have hk:(k+(its.toArray.size:Int)).toNat=j:=by
   rw[seqIndex_neg (by omega) h3]at h1
   rw[yC,<- hl]
   exact vK h1
  exact PySem.W.ki_setBack ho (by omega) (by rw[yC,<- hl];exact h3) (by omega) (by rw[hk];exact⟨_,I',q⟩)
theorem Qz(lo hi:Option Int)(n:Nat):(sliceBounds lo hi none n).1=((HT.sIx n 0 lo:Nat):Int)/\(sliceBounds lo hi none n).2.1=((HT.sIx n n hi:Nat):Int)/\(sliceBounds lo hi none n).2.2=1:=by
 refine⟨?_,?_,rfl⟩
 ·cases lo with
  | none=>simp[sliceBounds,HT.sIx]
  | some i=>
   simp only[sliceBounds,HT.sIx,Option.getD_none,show(1:Int) > 0 by decide,yD]
   by_cases h:i<0
   ·simp only[h,yD]<;>omega
   ·simp only[h,wS]<;>omega
 ·cases hi with
  | none=>simp[sliceBounds,HT.sIx]
  | some i=>
   simp only[sliceBounds,HT.sIx,Option.getD_none,show(1:Int) > 0 by decide,yD]
   by_cases h:i<0
   ·simp only[h,yD]<;>omega
   ·simp only[h,wS]<;>omega
theorem SR(its:List Value)(lo hi:Option Int):slicePick its.toArray lo hi none=((its.drop (HT.sIx its.length 0 lo)).take (HT.sIx its.length its.length hi-HT.sIx its.length 0 lo)).toArray:=by
 obtain⟨h1,h2,h3⟩:=Qz lo hi its.toArray.size
 unfold slicePick
 rw[h1,h2,h3]
 simp only[sliceRange_one,pick_run,yC]<;>rfl
def Ea(K:Frag):V->Option Int->Option Int->Hp->VK->Prop:=λx lo hi H Q=>∃a xs,x=.ref a/\Xg K H a xs/\∀p,H p=none->Q (.ref p) (upd H p (.lst (TC xs lo hi)))
theorem Hq:La X (Ea X.K):=by
 intro pins s σ H x v vl vu lo hi sl Q I rx hs pl pu h
 obtain⟨a,xs,rfl,hx,q⟩:=h
 cases rx
 obtain⟨its,r,ht,hz⟩:=I.list hx
 have hlen:=r.length
 refine⟨"list",_,slot_list_getitem.lookup,ht.isList.typeIs,?_⟩
 refine wpAny_getItem_list_slice ht.isList hs pl pu .none (by simp) ?_ (by rw[yC]<;>omega)
 rw[SR,<- hlen]
 refine⟨.ref s.heap.objs.size,_,I.laid (t':=s.toks) (o:=.lst (TC xs lo hi)) (λb ob q=>zX _ q) (vU _) ?_,rfl,q _ (I.hok.fresh (vU _))⟩
 exact⟨wZ (UQ xs lo hi) hz,_,0,(r.drop (HT.sIx xs.length 0 lo)).take (HT.sIx xs.length xs.length hi-HT.sIx xs.length 0 lo),zY _ rfl⟩
theorem ZY:YE X (.builtin "len") (λxs H Q=>∃p ys,xs=[.ref p]/\(Xg X.K H p ys\/X7 X.K H p ys)/\Q (.int ys.length) H):=by
 intro pins s σ H xs us Q I r h
 obtain⟨p,ys,rfl,hq,q⟩:=h
 obtain⟨u,rfl,rx⟩:=Vf r
 cases rx
 have hn:=UH
 rcases hq with hq|hq
 ·obtain⟨its,r',pl,hz⟩:=I.list hq
  have hlen:=r'.length
  exact Calls.call_len_list pl.isList (by simp only[yC]<;>omega) ⟨.int ys.length,H,I.tok _,⟨s.toks+1,by rw[yC,hlen]⟩,q⟩
 ·obtain⟨its,r',pl,hz⟩:=I.tuple hq
  have hlen:=r'.length
  exact len_tuple pl (by simp only[yC]<;>omega) ⟨.int ys.length,H,I.tok _,⟨s.toks+1,by rw[yC,hlen]⟩,q⟩
theorem RJ:YE X (.builtin "len") (λxs H Q=>∃z,xs=[.str z]/\z.length≤sizeLine/\Q (.int z.length) H):=by
 intro pins s σ H xs us Q I r h
 obtain⟨z,rfl,hz,q⟩:=h
 obtain⟨u,rfl,t,rfl⟩:=Vf r
 have hn:=UH
 exact len_str (by omega) ⟨.int z.length,H,I.tok _,⟨_,rfl⟩,q⟩
theorem YE.or{f:Value}{r r':List V->Hp->VK->Prop}(h:YE X f r)(h':YE X f r'):YE X f (λxs H Q=>r xs H Q\/r' xs H Q):=by
 intro pins s σ H xs us Q I rs q
 rcases q with q|q
 ·exact h pins s σ H xs us Q I rs q
 ·exact h' pins s σ H xs us Q I rs q
theorem VX:YE X (.type "list") (λxs H Q=>∃p ys,xs=[.ref p]/\(Xg X.K H p ys\/X7 X.K H p ys)/\∀l,H l=none->Q (.ref l) (upd H l (.lst ys))):=by
 intro pins s σ H xs us Q I r h
 obtain⟨p,ys,rfl,hq,q⟩:=h
 obtain⟨u,rfl,rx⟩:=Vf r
 cases rx
 have fin:∀(its:List Value),ZD ys its->ys.length≤sizeLine->∀(h':Heap) (c':Nat),(∀b o',s.heap.get? b=some o'->h'.get? b=some o') ->
   h'.get? s.heap.objs.size=some { cls:=.type "list",dict:=none,data:=.seq its.toArray c',slots:=#[] }->EP X pins σ Q (.ref s.heap.objs.size) { s with heap:=h' }:=λits r' hz h' c' kp e=>
  ⟨.ref s.heap.objs.size,_,I.laid (t':=s.toks) kp (vU _) (show Yx X.prog X.w _ h' _ (.lst ys) from⟨hz,its,c',r',e⟩),rfl,q _ (I.hok.fresh (vU _))⟩
 rcases hq with hq|hq
 ·obtain⟨its,r',pl,hz⟩:=I.list hq
  have hlen:=r'.length
  obtain⟨o,ho,hc,n,hd⟩:=pl.isList
  exact call_list_seq p (.inl rfl) ho hc hd (λh' c' kp e=>fin its r' hz h' c' kp e) (by simp only[yC]<;>omega)
 ·obtain⟨its,r',pl,hz⟩:=I.tuple hq
  have hlen:=r'.length
  obtain⟨o,ho,hc,n,hd⟩:=pl
  exact call_list_seq p (.inr rfl) ho hc hd (λh' c' kp e=>fin its r' hz h' c' kp e) (by simp only[yC]<;>omega)
theorem V3:YE X (.type "tuple") (λxs H Q=>∃p ys,xs=[.ref p]/\((Xg X.K H p ys/\∀l,H l=none->Q (.ref l) (upd H l (.tup ys)))\/(X7 X.K H p ys/\Q (.ref p) H))):=by
 intro pins s σ H xs us Q I r h
 obtain⟨p,ys,rfl,h⟩:=h
 obtain⟨u,rfl,rx⟩:=Vf r
 cases rx
 rcases h with ⟨hq,q⟩|⟨hq,q⟩
 ·obtain⟨its,r',pl,hz⟩:=I.list hq
  have hlen:=r'.length
  refine call_tuple_list pl.isList (λh' kp=>?_) (by simp only[yC]<;>omega)
  have I1:Zv X pins σ H { s with heap:=h' }:=I.kept (t':=s.toks) kp
  have I2:Zv X pins σ (upd H h'.objs.size (.tup ys)) { s with heap:=h'.push { cls:=.type "tuple",data:=.seq its.toArray } }:=
   I1.laid (t':=s.toks) (λb o e=>zX _ e) (vU _) (show Yx X.prog X.w _ _ _ (.tup ys) from⟨hz,its,r',R8.new _ _⟩)
  exact⟨.ref h'.objs.size,_,I2,rfl,q _ (I1.hok.fresh (vU _))⟩
 ·obtain⟨its,r',pl,hz⟩:=I.tuple hq
  exact call_tuple_same pl ⟨.ref p,H,I,rfl,q⟩
def Bl(K:Frag)(T:String)(x:V)(H:Hp):Prop:=match x with
 | .str _=>T = "str"
 | .int _=>T = "int"
 | .ref p=>(T = "list"/\∃xs,Xg K H p xs)\/(T = "tuple"/\∃o,K.lookup p=some o/\o.cls=.type "tuple"/\o.dict=none) \/
   (T = "dict"/\((∃kvs,H p=some (.dK kvs))\/∃kvs,H p=some (.dT kvs)))\/(T = "set"/\∃S n,H p=some (.set S n))
 | _=>False
theorem E1{pins:List (Addr×Obj)}{σ:St}{H:Hp}{s:Shared}{T:String}{x:V}{v:Value}(I:Zv X pins σ H s)(r:ZL x v)(ty:Bl X.K T x H):
  s.TypeIs v T/\∀a,v=.ref a->∃ob,s.heap.get? a=some ob/\ob.dict=none:=by
 cases x with
 | str z=>
  obtain⟨t,rfl⟩:=r
  cases (show T = "str" from ty)
  exact⟨typeIs_str s z t,λ_ e=>nomatch e⟩
 | int i=>
  obtain⟨t,rfl⟩:=r
  cases (show T = "int" from ty)
  exact⟨typeIs_int s i t,λ_ e=>nomatch e⟩
 | ref p=>
  cases r
  rcases ty with ⟨rfl,xs,hq⟩|⟨rfl,o,hk,hc,hd⟩|⟨rfl,hk⟩|⟨rfl,S,n,hk⟩
  ·obtain⟨its,_,pl,_⟩:=I.list hq
   refine⟨pl.isList.typeIs,λa e=>?_⟩
   cases e
   obtain⟨o,n,e,c,hd,_⟩:=pl
   exact⟨o,e,hd⟩
  ·refine⟨⟨o,I.kIn p o hk,hc⟩,λa e=>?_⟩
   cases e
   exact⟨o,I.kIn _ o hk,hd⟩
  ·have z:∃o,s.heap.get? p=some o/\o.ExactDict:=by
    rcases hk with ⟨kvs,hk⟩|⟨kvs,hk⟩
    ·obtain⟨_,_,_,_,o,_,_,e,ex,_⟩:=I.hok p _ hk
     exact⟨o,e,ex⟩
    ·obtain⟨_,_,_,_,o,_,_,e,ex,_⟩:=I.hok p _ hk
     exact⟨o,e,ex⟩
   obtain⟨o,e,ex⟩:=z
   refine⟨⟨o,e,ex.1⟩,λa e2=>?_⟩
   cases e2
   exact⟨o,e,ex.2.1⟩
  ·obtain⟨o,_,_,_,e,ex,_⟩:=I.hok p _ hk
   refine⟨⟨o,e,ex.1⟩,λa e2=>?_⟩
   cases e2
   exact⟨o,e,ex.2.1⟩
 | _=>exact False.elim ty
def C8(K:Frag)(T:String)(r:V->List V->Hp->VK->Prop)(to:TE)(t:TA):TE:=λσ H Q=>to σ H λx H1=>Bl K T x H1/\t σ H1 λxs H2=>r x xs H2 Q
variable {o e:Expr}{es:List Expr}{to:TE}{t:TA}{name:Str}{apos cpos:Pos}{T id:String}{r:V->List V->Hp->VK->Prop}
theorem D5(pa:PlainAttrs T)(slot:Slot T name id)(hty:typeOf (.builtin id)=pure (.type "method_descriptor"))(hm:GD X id r)(ho:PE X o to)(ha:PA X (e::es) t) 
  (hbase:attributeBase o name X.env (eval o X.env)=eval o X.env:=by rfl)
  (hfew:((backTo cpos (starEach (e::es) X.env)).all (λx=>!x.1)&&(backToKw cpos (keywordEach [] X.env)).all (λx=>x.1.isSome)
  &&decide ((e::es).length+([]:List Keyword).length+(if([]:List Keyword).isEmpty then 0 else 1)<30))=true:=by rfl)
  (hline:(apos.endLine == cpos.line)=true:=by rfl) (hs:starEach (e::es) X.env=(false,eval e X.env)::starEach es X.env:=by rfl) (hplain:(backTo cpos (starEach es X.env)).any (·.1)=false:=by rfl) :
  PE X (.Call (.Attribute o name apos) (e::es) [] cpos) (C8 X.K T r to t):=by
 intro pins s σ H Q I h
 refine wpAny_Call_method_late hbase hfew hline rfl (Y2 (ho pins s σ H _ I h) λv s1 ⟨x,H1,I1,r1,ty,q1⟩=>?_)
 obtain⟨h1,h2⟩:=E1 I1 r1 ty
 refine⟨T,id,pa,slot,hty,h1,h2,?_⟩
 have hA:=ha cpos pins s1 σ H1 _ I1 q1
 rw[hs]at hA |-
 refine Calls.callWith_builtin (by show(false||(backTo cpos (starEach es X.env)).any (·.1))=false;rw[hplain]<;>rfl) (Calls.evalArgs_plain ?_)
 exact Y2 hA λus s2 ⟨vs,H2,I2,r2,q2⟩=>hm pins s2 σ H2 x vs v us Q I2 r1 r2 q2
end
def B7(X:Cx)(id:String)(r:V->List V->Hp->VK->Prop):Prop:=
 ∀(pins:List (Addr×Obj)) (s:Shared) (σ:St) (H:Hp) (x:V) (xs:List V) (v:Value) (us:List Value) (Q:VK),Zv X pins σ H s->ZL x v->ZD xs us->r x xs H Q ->
  wpAny (model X.prog X.w) X.A (call (.builtin id) (v::us)) (EP X pins σ Q) X.xe s
theorem ZD.one:∀{x:V}{us:List Value},ZD [x] us->∃u,us=[u]/\ZL x u
 | _,_,.cons r .nil=>⟨_,rfl,r⟩
theorem ZD.zero:∀{us:List Value},ZD [] us->us=[]
 | _,.nil=>rfl
theorem ZD.reverse{xs:List V}{us:List Value}(h:ZD xs us):ZD xs.reverse us.reverse:=by
 induction h with
 | nil=>exact .nil
 | cons r t ih=>rw[yH,yH];exact ZD.append ih (.cons r .nil)
theorem ZD.rep{xs:List V}{us:List Value}(h:ZD xs us):∀k:Nat,ZD (List.replicate k xs).flatten (List.replicate k us).flatten
 | 0=>.nil
 | k+1=>by
  rw[yI,yI,yJ,yJ]
  exact ZD.append h (ZD.rep h k)
theorem Rj(its:List Value):∀(k:Nat) (acc:List Value),
  List.foldl (λx1 x2=>x1++x2) acc.toArray (List.replicate k its.toArray)=(acc++(List.replicate k its).flatten).toArray
 | 0,acc=>by simp
 | k+1,acc=>by
  have e:acc.toArray++its.toArray=(acc++its).toArray:=by simp
  have e2:(acc++its)++(List.replicate k its).flatten=acc++(List.replicate (k+1) its).flatten:=by
   rw[yI,yJ,yK]
  rw[<- e2,<- Rj its k (acc++its),<- e,yI,yL]
section
variable {X:Cx}{pins:List (Addr×Obj)}{σ:St}{H:Hp}{s:Shared}{l b:Addr}{xs ys zs:List V}
theorem Zv.lset{its its':List Value}{n:Nat}{f:Array Value->Array Value}{t':Nat}(I:Zv X pins σ H s)(hH:H l=some (.lst xs)) 
  (e:s.heap.get? l=some { cls:=.type "list",data:=.seq its.toArray n }) (hf:f its.toArray=its'.toArray) (hv:ZD ys its') (hz:ys.length≤sizeLine) :
  Zv X pins σ (upd H l (.lst ys)) { s with heap:=s.heap.update l (Obj.mapSeq f),toks:=t' }:=by
 have q:=PySem.IsL.update e f
 rw[hf]at q
 refine I.write (x:=l) (e:=l) (by rw[hH];exact trivial) (.inl rfl) (λb' u hb hu=>(zP s.heap (Obj.mapSeq f) (zQ hb)).trans hu) ⟨_,q⟩ ?_
 exact⟨hz,its',_,hv,q⟩
theorem Zv.lnew{its:List Value}{t':Nat}(I:Zv X pins σ H s)(hv:ZD ys its)(hz:ys.length≤sizeLine):
  Zv X pins σ (upd H s.heap.objs.size (.lst ys)) { s with heap:=s.heap.push { cls:=.type "list",data:=.seq its.toArray },toks:=t' }:=
 I.laid (λ_ _ q=>zX _ q) (vU _) ⟨hz,its,0,hv,zY _ rfl⟩
theorem Zv.fresh(I:Zv X pins σ H s):H s.heap.objs.size=none:=I.hok.fresh (vU _)
theorem Zv.lstM(I:Zv X pins σ H s)(hH:H l=some (.lst xs)):xs.length≤sizeLine/\∃(its:List Value) (n:Nat),ZD xs its/\xs.length=its.length/\s.heap.get? l=some { cls:=.type "list",data:=.seq its.toArray n }:=by
 obtain⟨z,its,n,r,e⟩:=I.hok l _ hH
 exact⟨z,its,n,r,r.length,e⟩
end
section
variable {X:Cx}
def NK:V->List V->Hp->VK->Prop:=λx vs H Q=>∃l xs y,x=.ref l/\vs=[y]/\H l=some (.lst xs)/\xs.length<sizeLine/\Q .non (upd H l (.lst (xs++[y])))
theorem X5:B7 X "list.append" NK:=by
 intro pins s σ H x vs v us Q I rx rv h
 obtain⟨l,xs,y,rfl,rfl,hH,hz,q⟩:=h
 cases rx
 obtain⟨u,rfl,ru⟩:=rv.one
 obtain⟨z,its,n,r,hl,e⟩:=I.lstM hH
 refine yM F.slot_list_append ⟨_,e,rfl⟩ F.entry_list_append (F.args_list_append_2 _ _) (PySem.list_append l its.toArray n u (by rw[yC];omega)) ⟨e,?_⟩
 refine⟨.non,_,I.lset (its':=its++[u]) hH e (by simp) (r.append (.cons ru .nil)) ?_,rfl,q⟩
 rw[uX,yN]
 omega
def DD:R2:=λx y H Q=>∃l b xs zs,x=.ref l/\y=.ref b/\H l=some (.lst xs)/\H b=some (.lst zs)/\xs.length+zs.length≤sizeLine/\∀p,H p=none->Q (.ref p) (upd H p (.lst (xs++zs)))
theorem KC:XZ X (binaryOp .Add) DD:=by
 intro pins s σ H x y v u Q I rx ry h
 obtain⟨l,b,xs,zs,rfl,rfl,hH,hB,hz,q⟩:=h
 cases rx
 cases ry
 obtain⟨z,its,n,r,hl,e⟩:=I.lstM hH
 obtain⟨z2,its2,n2,r2,hl2,e2⟩:=I.lstM hB
 refine PySem.P.add_list e e2 ?_ (by rw[yC,yC];omega)
 have ea:its.toArray++its2.toArray=(its++its2).toArray:=by simp
 rw[ea]
 exact⟨.ref _,_,I.lnew (t':=s.toks) (r.append r2) (by rw[uX];omega),rfl,q _ I.fresh⟩
theorem Iy{α:Type}(xs:List α)(k:Nat):(List.replicate k xs).flatten.length=k*xs.length:=by
 induction k with
 | zero=>simp
 | succ k ih=>rw[yI,yJ,uX,ih,Nat.succ_mul,Nat.add_comm]
end
section
variable {prog:Program}{w:World}{A:Around}{E:Value->Shared->Prop}{s:Shared}
set_option maxRecDepth 100000 in
end
end L2
namespace Att
open PySem PySem.W PySem.Calls PyProof.Rows
theorem Tf{P:Params}{h:Heap}:∀(ns:List Int) (vs:List Value),WellAll P h vs (ns.map WData.int)->IntsAre vs ns:=by
 intro ns
 induction ns with
 | nil=>
  intro vs w
  rw[map_nil]at w
  cases w
  exact .nil
 | cons n ns ih=>
  intro vs w
  rw[uE]at w
  cases w with
  | cons a b=>
   cases a
   exact .cons _ _ (ih _ b)
theorem MN{l:OpenLaw}{n:Nat}(hn:l.most=some n){P:Params}{h:Heap}{args:List WData}{vals:List Value} 
  (hpre:l.row.toRowW.claim.pre args=true) (hwl:WellAll P h vals args) :
  ∃a vs ns,vals=[Value.ref a]/\args=[WData.list (ns.map WData.int)]/\h.get? a=some { cls:=.type "list",data:=.seq vs.toArray }/\IntsAre vs ns/\ns.length≤n:=by
 have hsh:WShape.hasAll [] args [.list .int]=true:=(pre_splitW hpre).1
 have hc:l.pre.holds [] { args:=args }=true:=(pre_splitW hpre).2
 obtain⟨d,r,rfl,h1,h2⟩:=hasAllW_cons hsh
 obtain rfl:=hasAllW_nil h2
 obtain⟨xs,rfl,h3⟩:=hasW_list h1
 obtain⟨ns,rfl⟩:=items_int h3
 have hlen:ns.length≤n:=by
  unfold OpenLaw.pre at hc
  have h4:(WTm.not (.lt (.lit (.int (n:Int))) (.len (.arg 0)))).holds [] { args:=[.list (ns.map .int)] }=true:=by
   have h4:=(holds_andW hc).1
   rw[hn]at h4
   exact h4
  have h5:=condW_of h4 (w_not (w_lt w_lit (w_len_list (w_arg rfl))))
  rw[Uh]at h5
  refine Nat.le_of_not_lt λq=>?_
  have q':(n:Int)<((ns.length:Nat):Int):=by omega
  first
   | (rw[yO q']at h5;exact absurd h5 (by decide))
   | (simp at h5;omega)
 cases hwl with
 | cons w1 w2=>
  cases w2
  cases w1 with
  | list ho hall=>exact⟨_,_,ns,rfl,rfl,ho,Tf ns _ hall,hlen⟩
theorem MH(l:OpenLaw)(args:List WData):l.row.toRowW.claim.post args (.bool true) args=true:=
 postW_of (r:=l.row.toRowW) (X:=(true == true))
  (show WShape.has [] (.bool true) .bool=true by first|rfl|decide|simp[WShape.has,WShape.arms,WShape.armsAll])
  (show(WTm.eq .res (.lit (.bool true))).value [] { args:=args,res:=some (.bool true),after:=args }=some (.bool (true == true)) from w_eq_bool (w_res rfl) w_lit) rfl
theorem attach_call{l:OpenLaw}{n:Nat}{q:Program}{loose:List Str}{XP:(Str->Option Value)->Heap->Prop}{YP:World->Heap->Prop}{d:DefRec} 
  (hn:l.most=some n) (hdf:d.params.defaults=[])
  (call:∀(w:World) (s₀ s₁:Shared) (mg mb:Str->Option Value) (fa:Addr) (o:Obj) (pm cd doc:Value) (a:Addr) (vs:List Value) (ns:List Int),
   Ground q loose [] XP w s₀ mg mb s₁.heap->YP w s₁.heap ->
   s₁.heap.get? fa=some o->o.data=.func (docDef d.name d.params d.body d.scope pm cd doc)->s₁.heap.CodeRec cd d.name->mg d.name=some (.ref fa) ->
   s₁.heap.get? a=some { cls:=.type "list",data:=.seq vs.toArray }->IntsAre vs ns->ns.length≤n->s₁.gens = #[] ->
   codeAny (model l.prog w) callerA (.call (.ref fa) ⟨[.ref a],[]⟩) (λr s'=>r=.ok (.ret (.bool true))/\OldK s₁.heap s'.heap/\s'.os=s₁.os/\AllBare s'.gens) s₁) :
  WalkO q loose XP YP l.row.toRowW d [] (λf vs=>PySem.call f vs):=by
 intro w s₀ s₁ mg mb G Y fa o pm cd doc dV kV ho hd hcd hD hmg hg args vals as hpre hlay hrd hwl hlo
 obtain rfl:dV=.none:=Dflts.none hD hdf
 obtain rfl:kV=.none:=Dflts.noKw hD
 obtain⟨a,vs,ns,rfl,rfl,hobj,hints,hlen⟩:=MN hn hpre hwl
 refine enter_call (uM (call w s₀ s₁ mg mb fa o pm cd doc a vs ns G Y ho (fd_plain hd) hcd hmg hobj hints hlen hg) λr s' hq=>?_)
 obtain⟨rfl,h2,h3,h4⟩:=hq
 exact⟨.inl ⟨.bool true,.bool true,[],rfl,λ_=>rfl,.bool true,MH l _,λ_=>⟨yP,λ_ hm=>(nomatch hm)⟩⟩,h2,h3,h4⟩
end Att
namespace L2
open PySem PySem.Spec PyProof.Rows
theorem R7:∀{vs:List Value}{ns:List Int},IntsAre vs ns->ZD (ns.map V.int) vs
 | _,_,.nil=>.nil
 | _,_,.cons n t h=>.cons ⟨t,rfl⟩ (R7 h)
def GF(H:Hp):Prop:=∀b,H b=none\/∃o xs,H b=some (.frz o (.lst xs))
theorem Kz{P:Program}{w:World}{K:Frag}{mg mb:Str->Option Value}{CX:Ob}{k:Nat}{fa a:Addr}{fd:FuncData}{x:Str}{sp:Sp}{s₁:Shared}{vs:List Value}{ns:List Int} 
  (KX:K.In s₁.heap) (hns:s₁.heap.Ns mainGlobals mg) (hb:s₁.heap.Ns builtinsNs mb) (hbb:∀x:Str,x≠"__name__"->mb x=bootBuiltins x) (hlim:s₁.heap.NoLimit) (hg:s₁.gens = #[])
  (ha:s₁.heap.get? a=some { cls:=.type "list",data:=.seq vs.toArray }) (hi:IntsAre vs ns) (hl:ns.length≤sizeLine) (hr:Yg k callerA)
  (F:∀base:Heap,K.In base->base.Ns mainGlobals mg->Xv P w K mg base CX k fa fd [x] sp) (hbind:∀(s:Shared) (u:Value),BindsTo s fd ⟨[u],[]⟩ [(x,u)])
  (hsp:∀H:Hp,GF H->Xg K H a (ns.map V.int)->sp [.ref a] H (λv _=>v=.bl true) λ_ _ _=>False)
  (hCX:∀H e s',CX [] H s₁ (λ_ _ _=>False) e s'->False) :
  codeAny (model P w) callerA (.call (.ref fa) ⟨[.ref a],[]⟩) (λr s'=>r=.ok (.ret (.bool true))/\OldK s₁.heap s'.heap/\s'.os=s₁.os/\AllBare s'.gens) s₁:=by
 have rv:=R7 hi
 have lenV:=hi.length
 -- from an abstract heap in which nothing but the script may be tracked
 have core:∀H:Hp,GF H->Xg K H a (ns.map V.int)->V1 P w H s₁.heap->(∀b,H b≠none->b=a)->(H a≠none->K.lookup a=none) ->
   codeAny (model P w) callerA (.call (.ref fa) ⟨[.ref a],[]⟩) (λr s'=>r=.ok (.ret (.bool true))/\OldK s₁.heap s'.heap/\s'.os=s₁.os/\AllBare s'.gens) s₁:=by
  intro H hO hS hok hA hK
  have base_of:∀{b:Addr}{o:Obj},s₁.heap.get? b=some o->H b=none->(Qd s₁.heap H).get? b=some o:=λe n=>Ko e n
  have noA:∀{b:Addr}{o:Obj}{es:Array DictEntry}{ep:Nat},s₁.heap.get? b=some o->o.data=.dict es ep->H b=none:=λ{b o es ep} e d=>by
   cases q:H b with
   | none=>rfl
   | some u=>
    have e':b=a:=hA b (by rw[q];simp)
    subst e'
    rw[ha]at e;cases e
    have d':Data.seq vs.toArray _=Data.dict es ep:=d
    cases d'
  have nsK:∀{b:Addr}{m:Str->Option Value},s₁.heap.Ns b m->(Qd s₁.heap H).Ns b m:=λ{b m} ⟨o,es,ep,e,d,r⟩=>⟨o,es,ep,base_of e (noA e d),d,r⟩
  have hKb:K.In (Qd s₁.heap H):=λb o e=>base_of (KX b o e) (by
   cases q:H b with
   | none=>rfl
   | some u=>
    have e':b=a:=hA b (by rw[q];simp)
    subst e'
    rw[hK (by rw[q];simp)]at e;cases e)
  have hM:Mod K mg (Qd s₁.heap H):=⟨hKb,nsK hns,⟨mb,nsK hb,hbb⟩,let ⟨mc,h1,h2⟩:=hlim;⟨mc,nsK h1,h2⟩⟩
  have e0:Ta P w K mg (Qd s₁.heap H) callerA [] s₁ H:=⟨rfl,hM,λb o e=>IE e,le_of_eq (Mw _ _),trivial,λb hb=>absurd (show b∈([]:List Addr) from hb) (by simp),hok,.of_eq hg⟩
  refine uM ((F _ hKb (nsK hns)).run callerA [] s₁ H ⟨[.ref a],[]⟩ [.ref a] [.ref a] _ _ hr e0 (hbind s₁ (.ref a)) (.cons rfl .nil) (hsp H hO hS)) λr s' h=>?_
  cases r with
  | error e=>exact(hCX H e s' h).elim
  | ok fl=>
   cases fl with
   | next=>exact False.elim h
   | brk=>exact False.elim h
   | cont=>exact False.elim h
   | ret u=>
    obtain⟨v,H',os,bare,un,hok',r',q⟩:=h
    have q':v=.bl true:=q
    subst q'
    obtain rfl:u=Value.bool true:=r'
    refine⟨rfl,OldK.of_keep λb o e=>?_,os,bare⟩
    cases q:H b with
    | none=>exact un.keep b o e q (by intro z;exact absurd (show b∈([]:List Addr) from z) (by simp)) (by simp)
    | some u=>
     rcases hO b with z|⟨ob,xs,z⟩
     ·rw[q]at z;cases z
     ·have z2:=un.frzs b ob _ z
      obtain⟨e1,_⟩:=hok b _ z
      obtain⟨e2,_⟩:=hok' b _ z2
      rw[e]at e1;cases e1
      exact e2
 cases hk:K.lookup a with
 | some o=>
  -- the script is one of the module's own objects
  have e:=KX a o hk
  rw[ha]at e
  cases e
  refine core (λ_=>none) (λ_=>.inl rfl) (.inr ⟨_,vs.toArray,_,hk,rfl,rfl,rfl,by rw[yC,lenV];exact hl,by simpa using rv⟩) (λb u z=>by have z':(none:Option HO)=some u:=z;cases z') (λb z=>absurd rfl z) λz=>absurd rfl z
 | none=>
  refine core (λb=>if b=a then some (.frz { cls:=.type "list",data:=.seq vs.toArray } (.lst (ns.map V.int))) else none) (λb=>?_) (.inl (.inr ⟨{ cls:=.type "list",data:=.seq vs.toArray },zJ rfl⟩)) (λb u z=>?_) (λb z=>?_) λ_=>hk
  ·by_cases hb:b=a
   ·exact .inr ⟨_,_,zJ hb⟩
   ·exact .inl (wH hb)
  ·by_cases hb:b=a
   ·have z':=(zJ hb).symm.trans z
    cases z'
    subst hb
    exact⟨ha,by rw[Uh];exact hl,vs,_,rv,ha⟩
   ·have z':=(wH hb).symm.trans z
    cases z'
  ·by_cases hb:b=a
   ·exact hb
   ·exact absurd (wH hb) z
def YB(s:Stmt):Arguments:=match s with
 | .FunctionDef _ a _ _ _ _ _ _ _ _=>a
 | _=>{ posonlyargs:=[],args:=[],vararg:=none,kwonlyargs:=[],kw_defaults:=[],kwarg:=none,defaults:=[] }
def ZQ(s:Stmt):List Stmt:=match s with
 | .FunctionDef _ _ b _ _ _ _ _ _ _=>b
 | _=>[]
def Zg(s:Stmt):Scope:=match s with
 | .FunctionDef _ _ _ _ _ _ sc _ _ _=>sc
 | _=>{ kind:=.function,names:=[],isGenerator:=false,isCoroutine:=false }
abbrev S0:Ob:=λ_ _ _ _ _ _=>False
abbrev E0:XK:=λ_ _ _=>False
theorem Dz{X:Cx}:T3 S0 X E0:=λ_ _ _ _ _ _ _ h=>h.elim
structure VQ(K:Frag)(x qual:Str)(st:Stmt)(f:Addr)(fd:FuncData):Prop where
 ex:∃(oc:Value) (od:Option Addr) (kV doc pm:Value) (an:Option Addr) (cdv ct:Value) (osl:Array (Option Value)),
  fd=PySem.W.fnOf x qual (YB st) (ZQ st) (Zg st) .none kV doc pm an cdv ct/\K.lookup f=some ⟨oc,od,.func fd,osl⟩/\PySem.W.codeIn K cdv qual=true
 kp:PySem.W.keepIn K (.ref f)=true
section
variable {P:Program}{w:World}{K:Frag}{mg:Str->Option Value}{base:Heap}
theorem VQ.ok{x qual:Str}{st:Stmt}{f:Addr}{fd:FuncData}{N ps:List Str}{k:Nat}{sp:Sp}(F:VQ K x qual st f fd)(S:Z8 N ps (Zg st))(len:∀vs H Q E,sp vs H Q E->vs.length=ps.length) 
  (hbody:∀(cdv:Value) (A:Around) (outer:List Env) (s:Shared) (H:Hp) (vs:List V) (Q:VK) (E:XK),Yg k (A.deeper (envOfC qual (Zg st) s.heap.objs.size f cdv))->sp vs H Q E ->
   ∃t,VS (Xi S0 P w K mg base N qual (Zg st) f cdv A outer s H E).nox (ZQ st) t/\t { nx:=λ_ H'=>Q .non H',rt:=Q } (YA N vs) H):Xv P w K mg base S0 (k+1) f fd ps sp:=by
 obtain⟨oc,od,kV,doc,pm,an,cdv,ct,osl,rfl,lk,hcd⟩:=F.ex
 refine Ri lk hcd S len λA outer s H vs Q E hr hsp=>?_
 obtain⟨t,h,q⟩:=hbody cdv A outer s H vs Q E hr hsp
 exact⟨t,h.nox,q⟩
theorem VQ.binds{x qual:Str}{st:Stmt}{f:Addr}{fd:FuncData}{ps:List Str}(F:VQ K x qual st f fd) 
  (h:∀(kV doc pm:Value) (an:Option Addr) (cdv ct:Value) (us:List Value),us.length=ps.length->bindArgs (PySem.W.fnOf x qual (YB st) (ZQ st) (Zg st) .none kV doc pm an cdv ct) ⟨us,[]⟩=pure (ps.zip us)):XQ K fd ps []:=by
 obtain⟨oc,od,kV,doc,pm,an,cdv,ct,osl,rfl,lk,hcd⟩:=F.ex
 exact .all (h kV doc pm an cdv ct)
theorem O4{x qual:Str}{st:Stmt}{f:Addr}{oc:Value}{od an:Option Addr}{osl:Array (Option Value)}{kV doc pm cdv ct:Value}(l:K.lookup f=some ⟨oc,od,.func (PySem.W.fnOf x qual (YB st) (ZQ st) (Zg st) .none kV doc pm an cdv ct),osl⟩) 
  (c:PySem.W.codeIn K cdv qual=true) (k:PySem.W.keepIn K (.ref f)=true):VQ K x qual st f (PySem.W.fnOf x qual (YB st) (ZQ st) (Zg st) .none kV doc pm an cdv ct):=⟨⟨oc,od,kV,doc,pm,an,cdv,ct,osl,rfl,l,c⟩,k⟩
end
section
variable {X:Cx}
theorem pv(i:Nat){x:Str}{pos:Pos}(hN:X.N[i]? = some x:=by rfl)(hv:GJ X.env.scope x:=by first|exact yQ rfl|exact yR (yQ rfl)|exact yR (yR rfl))(hd:(x == ("__debug__" : Str))=false:=by decide) 
  (hcd:(x == ("__classdict__" : Str))=false:=by decide):PE X (.Name x pos) (Q5 i):=WZ hN hv hd hcd
end
theorem CV{A B:Prop}(h:A):if true=true then A else B:=by
 rw[zJ rfl]
 exact h
theorem Th{c A B:Prop}[Decidable c](h1:c->A)(h2:¬c->B):if c then A else B:=by
 by_cases h:c
 ·rw[zJ h]
  exact h1 h
 ·rw[wH h]
  exact h2 h
def Z5(H H':Hp):Prop:=∀b o,H b=some o->H' b=some o
theorem Z5.refl(H:Hp):Z5 H H:=λ_ _ h=>h
theorem Z5.trans{H H1 H2:Hp}(a:Z5 H H1)(b:Z5 H1 H2):Z5 H H2:=λc o h=>b c o (a c o h)
theorem Z5.free{H H':Hp}(e:Z5 H H'){l:Addr}(h:H' l=Option.none):H l=Option.none:=by
 cases q:H l with
 | none=>rfl
 | some o=>
  rw[e l o q]at h
  cases h
theorem Z5.seq{K:Frag}{H H':Hp}{a:Addr}{xs:List V}(e:Z5 H H')(h:Xg K H a xs):Xg K H' a xs:=by
 rcases h with (h|⟨o,h⟩)|h
 ·exact .inl (.inl (e _ _ h))
 ·exact .inl (.inr ⟨o,e _ _ h⟩)
 ·exact .inr h
abbrev WX(us:List Value):Obj:={ cls:=.type "list",data:=.seq us.toArray us.length }
def ZR(X:Cx)(Nc:List Str)(scope:Scope)(cs:List (Str×Addr))(C:Addr)(s:Shared)(H:Hp)(fp:List Addr):Cx where
 prog:=X.prog
 w:=X.w
 K:=X.K
 mg:=X.mg
 base:=X.base
 A:=X.A
 N:=Nc
 s₀:=s
 H₀:=H
 env:=compEnvC scope cs C X.env
 outer:=X.stack
 stack:=X.stack
 ex:=fp
 fn:=λx=>scope.names.lookup x == some .cell
 calm:=X.calm
 cold:=X.cold
 pn:=[]
 xe:=λ_ _=>False
def XO(cells:List (Str×Addr)):List (Str×NameKind)->List (Str×Addr)->List (Str×Addr)
 | [],acc=>acc
 | (n,k)::r,acc=>if k == .free then XO cells r ((n,(cells.lookup n).getD 0)::acc) else XO cells r acc
theorem Wf(cells:List (Str×Addr)):∀(names:List (Str×NameKind)) (acc:List (Str×Addr)),XO cells names acc=XO cells names []++acc
 | [],acc=>rfl
 | (n,k)::r,acc=>by
  unfold XO
  split
  ·rw[Wf cells r (_::acc),Wf cells r [_],yK];rfl
  ·exact Wf cells r acc
theorem Wx{env:Env}:∀(names:List (Str×NameKind)) (acc:List (Str×Addr)),(∀p∈names,p.2=.free->∃c,env.cells.lookup p.1=some c) ->
  (forIn names acc λ(p:Str×NameKind) (cs:List (Str×Addr))=>(if p.2 == .free then(do let c <- cellOf env p.1;pure (ForInStep.yield ((p.1,c)::cs))) else pure (ForInStep.yield cs):Sem _))=pure (XO env.cells names acc)
 | [],acc,_=>rfl
 | (n,k)::r,acc,h=>by
  rw[yS]
  have hr:∀p∈r,p.2=.free->∃c,env.cells.lookup p.1=some c:=λp hp=>h p (vC _ hp)
  unfold XO
  by_cases hk:k=.free
  ·subst hk
   obtain⟨c,hc⟩:=h (n,.free) vB rfl
   have hc':env.cells.lookup n=some c:=hc
   simp only[yT,yD,cellOf,hc',pure_bind,Option.getD_some]
   exact Wx r _ hr
  ·have hb:(k == NameKind.free)=false:=by simpa using hk
   simp only[hb,wR,wS,pure_bind]
   exact Wx r _ hr
theorem S6{scope:Scope}{env:Env}(h:∀p∈scope.names,p.2=.free->∃c,env.cells.lookup p.1=some c):closureFor scope env=pure (XO env.cells scope.names []):=by
 have e:closureFor scope env=(forIn scope.names [] λ(p:Str×NameKind) (cs:List (Str×Addr))=>(if p.2 == .free then(do let c <- cellOf env p.1;pure (ForInStep.yield ((p.1,c)::cs))) else pure (ForInStep.yield cs):Sem _)):=by
  simp only[closureFor]
  rw[bind_pure]
 rw[e];exact Wx _ _ h
theorem WM{cells:List (Str×Addr)}:∀{names:List (Str×NameKind)}{x:Str}{c:Addr},(∀p∈names,p.2=.free->∃c,cells.lookup p.1=some c)->(x,c)∈XO cells names []->(x,.free)∈names/\cells.lookup x=some c
 | [],_,_,_,h=>nomatch h
 | (n,k)::r,x,c,hf,h=>by
  have hr:∀p∈r,p.2=.free->∃c,cells.lookup p.1=some c:=λp hp=>hf p (vC _ hp)
  unfold XO at h
  by_cases hk:k=.free
  ·subst hk
   obtain⟨c0,hc⟩:=hf (n,.free) vB rfl
   have hc':cells.lookup n=some c0:=hc
   rw[zJ (by simp),Wf,hc']at h
   rcases vF.mp h with h|h
   ·obtain⟨a,b⟩:=WM hr h
    exact⟨vC _ a,b⟩
   ·have e:(x,c)=(n,c0):=by simpa using h
    cases e
    exact⟨vB,hc'⟩
  ·rw[wH (by simpa using hk)]at h
   obtain⟨a,b⟩:=WM hr h
   exact⟨vC _ a,b⟩
theorem QF{cells:List (Str×Addr)}:∀{names:List (Str×NameKind)}{x:Str},(x,.free)∈names->∃c,(x,c)∈XO cells names []
 | [],_,h=>nomatch h
 | (n,k)::r,x,h=>by
  unfold XO
  rcases vE.mp h with e|h
  ·cases e
   rw[zJ (by simp),Wf]
   exact⟨_,vW _ vB⟩
  ·obtain⟨c,hc⟩:=QF (cells:=cells) h
   split
   ·rw[Wf];exact⟨c,vG _ hc⟩
   ·exact⟨c,hc⟩
theorem Wb{α:Type}:∀{l:List (Str×α)}{x:Str}{c:α},(x,c)∈l->∃c',l.lookup x=some c'
 | [],_,_,h=>nomatch h
 | (k,v)::r,x,c,h=>by
  rw[yU]
  cases hb:x == k with
  | true=>exact⟨v,rfl⟩
  | false=>
   rcases vE.mp h with e|h
   ·cases e;simp at hb
   ·exact Wb h
theorem lookup_append{α:Type}:∀{l r:List (Str×α)}{x:Str}{c:α},(l++r).lookup x=some c->l.lookup x=some c\/(l.lookup x=none/\r.lookup x=some c)
 | [],r,x,c,h=>.inr ⟨rfl,h⟩
 | (k,v)::l,r,x,c,h=>by
  rw[yV,yU]at h
  rw[yU]
  cases hb:x == k with
  | true=>rw[hb]at h;exact .inl h
  | false=>rw[hb]at h;exact lookup_append h
theorem Yc:∀(names:List (Str×NameKind)) (n:Nat) (acc:List (Str×Addr)),cellsFrom n names acc=cellsFrom n names []++acc
 | [],_,_=>rfl
 | (x,k)::r,n,acc=>by
  unfold cellsFrom
  split
  ·rw[Yc r (n+1) (_::acc),Yc r (n+1) [_],yK];rfl
  ·exact Yc r n acc
theorem X_:∀{names:List (Str×NameKind)}{n:Nat}{x:Str}{c:Addr},(x,c)∈cellsFrom n names []->(x,.cell)∈names
 | [],_,_,_,h=>nomatch h
 | (y,k)::r,n,x,c,h=>by
  unfold cellsFrom at h
  by_cases hk:k=.cell
  ·subst hk
   rw[zJ (by simp),Yc]at h
   rcases vF.mp h with h|h
   ·exact vC _ (X_ h)
   ·have e:(x,c)=(y,n):=by simpa using h
    cases e
    exact vB
  ·rw[wH (by simpa using hk)]at h
   exact vC _ (X_ h)
theorem XC{env:Env}:∀{names:List (Str×NameKind)}{x:Str},
  (names.map λ(p:Str×NameKind)=>if(p.2 == NameKind.free&&env.scope.kind == .function&&env.kindOf p.1 == some .cell) then(p.1,NameKind.cell) else(p.1,p.2)).lookup x =
   (names.lookup x).map λk=>if(k == NameKind.free&&env.scope.kind == .function&&env.kindOf x == some .cell) then .cell else k
 | [],_=>rfl
 | (n,k)::r,x=>by
  have ih:=@XC env r x
  rw[uE]
  by_cases hc:(k == NameKind.free&&env.scope.kind == .function&&env.kindOf n == some .cell)=true
  ·rw[zJ hc]
   cases hx:x == n with
   | true=>
    have e:x=n:=by simpa using hx
    subst e
    rw[yU,yU,hx]
    simp only[yW,zJ hc]
   | false=>rw[yU,yU,hx];exact ih
  ·rw[wH hc]
   cases hx:x == n with
   | true=>
    have e:x=n:=by simpa using hx
    subst e
    rw[yU,yU,hx]
    simp only[yW,wH hc]
   | false=>rw[yU,yU,hx];exact ih
theorem UO{M:Model}{A:Around}{E:Value->Shared->Prop}{s:Shared}{scope:Scope}{cl:List (Str×Addr)}{env:Env}{Q:Env->Shared->Prop} 
  (hQ:Q (newEnv scope s.heap.objs.size env.globals (cellsFrom (s.heap.objs.size+1) scope.names cl) env.qual none .none (some env) builtinsNs) { s with heap:=pushCells (s.heap.push { cls:=.type "dict",data:=.dict #[] }) scope.names }) :
  wpAny M A (newFunctionEnv scope env.globals cl [] env.qual none .none (some env)) Q E s:=by
 simp only[newFunctionEnv,Option.isSome_some,yD]
 refine zL (wpAny_alloc ?_)
 refine zL (wpAny_layCells _ (λname kind cells=>by cases hkc:kind == NameKind.cell<;>simp[hkc]) _ _ _ _ ?_)
 rw[show({ s with heap:=s.heap.push { cls:=.type "dict",data:=.dict #[] } }:Shared).heap.objs.size=s.heap.objs.size+1 from wB ..]
 refine zL ?_
 rw[yX]
 exact zM (zM hQ)
def T9(X:Cx)(Nc:List Str)(cap:List (Option Nat))(scope:Scope):Bool:=
 (scope.names.all λp=>(p.2 != .free||(X.env.scope.names.lookup p.1 == some .cell||X.env.scope.names.lookup p.1 == some .free))&&(scope.names.lookup p.1 == some p.2)) &&
 (Nc.length == cap.length) &&
 ((Nc.zip cap).all λp=>match p.2 with|none=>true|some j=>(X.N[j]? == some p.1)&&(scope.names.lookup p.1 == some .free))
def capt(cap:List (Option Nat))(σ:St):St:=cap.map λo=>o.bind λj=>(σ[j]?).join
structure OZ(X:Cx)(Nc:List Str)(cap:List (Option Nat))(scope:Scope):Prop where
 free:∀p∈scope.names,p.2=.free->X.env.kindOf p.1=some .cell\/X.env.kindOf p.1=some .free
 look:∀p∈scope.names,scope.names.lookup p.1=some p.2
 len:Nc.length=cap.length
 take:∀(i:Nat) (x:Str) (j:Nat),Nc[i]? = some x->cap[i]? = some (some j)->X.N[j]? = some x/\scope.names.lookup x=some .free
theorem OZ.of{X:Cx}{Nc:List Str}{cap:List (Option Nat)}{scope:Scope}(h:T9 X Nc cap scope=true):OZ X Nc cap scope:=by
 unfold T9 at h
 simp only[yG]at h
 obtain⟨⟨h1,h2⟩,h3⟩:=h
 rw[yY]at h1 h3
 refine⟨λp hp hf=>?_,λp hp=>?_,by simpa using h2,λi x j e1 e2=>?_⟩
 ·have q:=h1 p hp
  simp only[yG,Bool.or_eq_true]at q
  rcases q.1 with q|q|q
  ·rw[hf]at q;simp at q
  ·exact .inl (uD.mp q)
  ·exact .inr (uD.mp q)
 ·have q:=h1 p hp
  simp only[yG]at q
  simpa using q.2
 ·have q:=h3 (x,some j) (by
   refine uW (i:=i) ?_
   rw[yZ]
   exact⟨e1,e2⟩)
  simp only[yG]at q
  exact⟨by simpa using q.1,by simpa using q.2⟩
theorem Zv.track{X:Cx}{pins:List (Addr×Obj)}{σ:St}{H:Hp}{s:Shared}{D:Addr}{o:HO}(I:Zv X pins σ H s)(f:X6 X pins H D)(new:Yx X.prog X.w (upd H D o) s.heap D o):Zv X pins σ (upd H D o) s:=by
 obtain⟨f0,f1,f2,f3,f4,f5⟩:=f
 have ne:∀b u,H b=some u->b≠D:=λb u e z=>by rw[z,f0]at e;cases e
 exact I.step (g':=s.gens) (d':=s.drawn) (t':=s.toks) (h':=s.heap) (ch:=[D]) (λb hb=>by
   have e:b=D:=by simpa using hb
   subst e
   exact⟨f3,f1,f4,f5⟩) (λb o _ _ _ e _=>e) (λb o _ _ _ e _=>⟨o.slots,e⟩) (λb o hc _ n=>by rw[Zi (λz=>hc (by simp[z]))];exact n) (λb o _ e=>⟨o,e⟩)
  (λb xs e=>by rw[Zi (ne b _ e)];exact e) (λb o u e=>by rw[Zi (ne b _ e)];exact e) (λb ps e=>⟨#[],by rw[Zi (ne b _ e),e];simp⟩) (λm hm=>hm)
  (λb u e=>by
   by_cases hb:b=D
   ·subst hb;rw[Zw]at e;cases e;exact new
   ·rw[Zi hb]at e
    exact(I.hok b u e).stay (λc v _ q=>q) (λc q=>by rw[Zi (ne c _ q)];exact q) λc xs q=>by rw[Zi (ne c _ q)];exact q) I.bare
theorem QH{oA:Obj}(hoA:oA.isFreed=false){X:Cx}{pins:List (Addr×Obj)}{σ:St}{H:Hp}{s:Shared}{fp:List Addr}{Nc:List Str}{cap:List (Option Nat)}{scope:Scope}(I:Zv X pins σ H s)(hf:∀b∈fp,X6 X pins H b)(hlt:∀b∈fp,b<s.heap.objs.size) 
  (ok:OZ X Nc cap scope) (hk:scope.kind=.function) :
  Zv (ZR X Nc scope (cellsFrom (s.heap.objs.size+2) scope.names (XO X.env.cells scope.names [])) (s.heap.objs.size+1) s H fp) [] (capt cap σ) H
   { s with heap:=pushCells ((s.heap.push oA).push { cls:=.type "dict",data:=.dict #[] }) scope.names } /\
  (pushCells ((s.heap.push oA).push { cls:=.type "dict",data:=.dict #[] }) scope.names).get? s.heap.objs.size=some oA:=by
 generalize hh1:(s.heap.push oA)=h1
 have z1:h1.objs.size=s.heap.objs.size+1:=by rw[<- hh1,wB]
 generalize hh2:(h1.push { cls:=.type "dict",data:=.dict #[] })=h2
 have z2:h2.objs.size=s.heap.objs.size+2:=by rw[<- hh2,wB,z1]
 have up:∀b o,s.heap.get? b=some o->(pushCells h2 scope.names).get? b=some o:=λb o e=>xA _ _ b o (by rw[<- hh2,<- hh1];exact zX _ (zX _ e))
 have hD:(pushCells h2 scope.names).get? s.heap.objs.size=some oA:=xA _ _ _ _ (by rw[<- hh2,<- hh1];exact zX _ (zY _ hoA))
 refine⟨?_,hD⟩
 have hns:(pushCells h2 scope.names).Ns (s.heap.objs.size+1) (λ_=>none):=by
  have q:=Heap.Ns.new h1 (.type "dict")
  rw[hh2,z1]at q
  exact q.keeps λb o e=>xA _ _ b o e
 have okc:=cellsFrom_ok scope.names h2 (s.heap.objs.size+2) [] ⟨λ_ _ hm=>(nomatch hm),yP⟩ (by rw[z2];exact vU _)
 rw[z2]at okc
 have hcl:∀p∈scope.names,p.2=.free->∃c,X.env.cells.lookup p.1=some c:=λp hp e=>I.ok.has p.1 (ok.free p hp e)
 -- a name of the block's cells: its own,or one that is taken
 have cse:∀x c,(cellsFrom (s.heap.objs.size+2) scope.names (XO X.env.cells scope.names [])).lookup x=some c ->
   ((x,c)∈cellsFrom (s.heap.objs.size+2) scope.names []/\scope.names.lookup x=some .cell/\s.heap.objs.size+2≤c)\/(scope.names.lookup x=some .free/\X.env.cells.lookup x=some c/\c<s.heap.objs.size):=λx c e=>by
  rw[Yc]at e
  rcases lookup_append e with e|⟨_,e⟩
  ·have m:=uT e
   exact .inl ⟨m,ok.look _ (X_ m),(okc.empty x c m).2⟩
  ·obtain⟨a,b⟩:=WM hcl (uT e)
   obtain⟨v,q⟩:=I.cell x c b
   exact .inr ⟨ok.look _ a,b,q.lt⟩
 have kn:∀x,(compEnvC scope (cellsFrom (s.heap.objs.size+2) scope.names (XO X.env.cells scope.names [])) (s.heap.objs.size+1) X.env).kindOf x=(scope.names.lookup x).map λk=>if(k == NameKind.free&&X.env.scope.kind == .function&&X.env.kindOf x == some .cell) then .cell else k:=λx=>XC
 have has:∀x,scope.names.lookup x=some .cell\/scope.names.lookup x=some .free->∃c,(cellsFrom (s.heap.objs.size+2) scope.names (XO X.env.cells scope.names [])).lookup x=some c:=λx h=>by
  rw[Yc]
  rcases h with h|h
  ·obtain⟨c,hc⟩:=uR.mp (uQ scope.names (s.heap.objs.size+2) [] (.inl h))
   exact Wb (vG _ (uT hc))
  ·obtain⟨c,hc⟩:=QF (cells:=X.env.cells) (uT h)
   exact Wb (vW _ hc)
 have kfree:∀x,scope.names.lookup x=some .free->(compEnvC scope (cellsFrom (s.heap.objs.size+2) scope.names (XO X.env.cells scope.names [])) (s.heap.objs.size+1) X.env).kindOf x=some .cell\/(compEnvC scope (cellsFrom (s.heap.objs.size+2) scope.names (XO X.env.cells scope.names [])) (s.heap.objs.size+1) X.env).kindOf x=some .free:=λx h=>by
  rw[kn x,h]
  simp only[yW]
  split
  ·exact .inl rfl
  ·exact .inr rfl
 refine⟨⟨I.ok.mod,hk,I.ok.glob,I.ok.blt,wC _,λx y c h1 h2=>?_,λx h=>?_,λx c h1 h2=>?_,λh=>T2.at (X:=X) I (I.ok.hd h),I.ok.cd,I.ok.frames,.inl rfl,λb hb=>⟨wP (lt_succ_of_lt (hlt b hb)),λx c e=>?_⟩,I.bs,wZ I.ok.bsz I.sz,λb o e hb=>?_,λb hb hm=>?_,I.stack,I.stkFree⟩,
  rfl,I.bare,Un.kept up,⟨λ_=>none,hns,λi x v e1 e2 e3=>?_⟩,λx c e=>?_,I.hok.fresh (wC _),λx c e=>?_,λp hp=>absurd (show p∈([]:List (Addr×Obj)) from hp) (by simp),I.hok.kept up,?_⟩
 ·rcases cse x c h1 with ⟨m1,_,l1⟩|⟨_,b1,l1⟩<;>rcases cse y c h2 with ⟨m2,_,l2⟩|⟨_,b2,l2⟩
  ·exact name_of_addr okc.apart m1 m2
  ·exact absurd (wX l2 (wZ (xB _ 2) l1)) (wY _)
  ·exact absurd (wX l1 (wZ (xB _ 2) l2)) (wY _)
  ·exact I.ok.inj x y c b1 b2
 ·refine has x ?_
  have h':(compEnvC scope (cellsFrom (s.heap.objs.size+2) scope.names (XO X.env.cells scope.names [])) (s.heap.objs.size+1) X.env).kindOf x=some .cell\/(compEnvC scope (cellsFrom (s.heap.objs.size+2) scope.names (XO X.env.cells scope.names [])) (s.heap.objs.size+1) X.env).kindOf x=some .free:=h
  rw[kn x]at h'
  cases q:scope.names.lookup x with
  | none=>rw[q]at h';rcases h' with h' | h'<;>cases h'
  | some k=>
   rw[q]at h'
   simp only[yW]at h'
   cases k<;>simp_all
 ·have h1':(scope.names.lookup x == some NameKind.cell)=true:=h1
  rcases cse x c h2 with ⟨_,_,l⟩|⟨q,_,_⟩
  ·exact wZ (xB _ 2) l
  ·rw[q]at h1';cases h1'
 ·rcases cse x c e with ⟨_,_,l⟩|⟨_,q,_⟩
  ·have h3:=hlt b hb
   exact λz=>absurd (wX h3 (wZ (xB _ 2) (z▸l))) (wY _)
  ·exact(hf b hb).2.2.2.2.1 x c q
 ·rcases(hf b hb).2.2.2.1 with z|z
  ·exact I.ok.noex b o e z
  ·exact absurd (wX (wX (wA e) I.ok.bsz) z) (wY _)
 ·rcases vE.mp (I.stkSub b hm) with z|z
  ·exact(hf b hb).2.1 z
  ·exact(hf b hb).2.2.1 z
 ·-- the names that are taken
  have e2':(cap[i]?).map (λo=>o.bind λj=>(σ[j]?).join)=some (some v):=by
   have:(capt cap σ)[i]? = some (some v):=e2
   unfold capt at this
   rwa [uV]at this
  cases q:cap[i]? with
  | none=>rw[q]at e2';cases e2'
  | some o=>
   rw[q]at e2'
   cases o with
   | none=>cases e2'
   | some j=>
    obtain⟨n1,n2⟩:=ok.take i x j e1 q
    have hj:σ[j]? = some (some v):=by
     have w:(σ[j]?).join=some v:=vK e2'
     cases r:σ[j]? with
     | none=>rw[r]at w;cases w
     | some o=>rw[r]at w;rw[show o=some v from w]
    have vis:GJ X.env.scope x:=by
     rcases ok.free _ (uT n2) rfl with z|z
     ·exact .inr (.inl z)
     ·exact .inr (.inr z)
    obtain⟨m,hn,hl⟩:=I.loc
    obtain⟨u,ru,lk⟩:=hl j x v n1 hj vis
    refine⟨u,ru,.inr ⟨kfree x n2,?_⟩⟩
    obtain⟨c,hc⟩:=has x (.inr n2)
    rcases cse x c hc with ⟨_,w,_⟩|⟨_,w,_⟩
    ·rw[n2]at w;cases w
    ·rcases lk with ⟨k,_⟩|⟨_,c',w',ic⟩
     ·rcases ok.free _ (uT n2) rfl with z|z<;>(have z':X.env.kindOf x=_:=z;rw[k]at z';cases z')
     ·rw[w]at w';cases w'
      obtain⟨oc,ho,hd⟩:=ic
      exact⟨c,hc,oc,up _ _ ho,hd⟩
 ·rcases cse x c e with ⟨m,_,_⟩|⟨_,q,_⟩
  ·exact⟨_,(okc.empty x c m).1⟩
  ·obtain⟨v,oc,ho,hd⟩:=I.cell x c q
   exact⟨v,oc,up _ _ ho,hd⟩
 ·rcases cse x c e with ⟨m,_,l⟩|⟨_,q,_⟩
  ·exact I.hok.fresh (wZ (xB _ 2) l)
  ·exact I.freeC x c q
 ·show(capt cap σ).length=Nc.length
  unfold capt
  rw[Uh,ok.len]
def V0(Y:Cx)(pins:List (Addr×Obj))(D:Addr)(ys:List V)(H:Hp)(s:Shared):Prop:=X6 Y pins H D/\ys.length≤sizeLine/\∃us,ZD ys us/\s.heap.get? D=some (WX us)
abbrev LK:=List V->St->Hp->Prop
abbrev TL:=List V->St->Hp->LK->Prop
def LP(Y:Cx)(pins:List (Addr×Obj))(D:Addr)(Q:LK)(s':Shared):Prop:=∃ys σ H,Zv Y pins σ H s'/\V0 Y pins D ys H s'/\Q ys σ H
def PL(Y:Cx)(body:Value->Sem Unit)(t:TL):Prop:=
 ∀(D:Addr) (pins:List (Addr×Obj)) (s:Shared) (σ:St) (H:Hp) (ys:List V) (Q:LK),Zv Y pins σ H s->V0 Y pins D ys H s->t ys σ H Q ->
  wpAny (model Y.prog Y.w) Y.A (body (.ref D)) (λ_ s'=>LP Y pins D Q s') Y.xe s
def Tz(ifs:List Expr)(env:Env):Sem Bool:=forIn ifs true λc r=>if r=true then do let ok <- isTrue c env (eval c env);pure (ForInStep.yield ok) else pure (ForInStep.yield r)
def JV(Y:Cx)(ifs:List Expr)(t:TT):Prop:=
 ∀(pins:List (Addr×Obj)) (s:Shared) (σ:St) (H:Hp) (Q:Bool->Hp->Prop),Zv Y pins σ H s->t σ H Q->wpAny (model Y.prog Y.w) Y.A (Tz ifs Y.env) (TP Y pins σ Q) Y.xe s
def Ex:TT:=λ_ H Q=>Q true H
section
variable {Y:Cx}
theorem IY:JV Y [] Ex:=λpins s σ H Q I h=>zM ⟨H,I,h⟩
theorem IZ{c:Expr}{t:TT}(h:PT Y c t):JV Y [c] t:=λpins s σ H Q I hw=>wpAny_tests_one (h pins s σ H Q I hw)
theorem V0.pin{pins:List (Addr×Obj)}{D:Addr}{ys:List V}{σ:St}{H:Hp}{s:Shared}{us:List Value}(I:Zv Y pins σ H s)(f:X6 Y pins H D)(e:s.heap.get? D=some (WX us)):Zv Y (pins++[(D,WX us)]) σ H s:=
 I.pins_of λp hp=>(vF.mp hp).elim (λz=>I.pin p (vW _ z)) λz=>by
  have z':p=(D,WX us):=by simpa using z
  subst z'
  exact⟨e,f.1,f.2.1,f.2.2.1,λv q=>by cases q⟩
def R5(te:TE):TL:=λys σ H Q=>ys.length<sizeLine/\te σ H λv H'=>Q (ys++[v]) σ H'
def LJ(elt:Expr)(env:Env)(acc:Value):Sem Unit:=eval elt env>>=λx=>call (.builtin "list.append") [acc,x]>>=λ_=>pure ()
theorem NH{elt:Expr}{te:TE}(he:PE Y elt te):PL Y (LJ elt Y.env) (R5 te):=by
 rintro D pins s σ H ys Q I ⟨f,hz,us,r,e⟩ ⟨hl,h⟩
 have I':=V0.pin (ys:=ys) I f e
 refine zL (Y2 (he _ s σ H _ I' h) λu s1 ⟨v,H1,I1,rv,q⟩=>?_)
 obtain⟨p1,p2,p3,p4,p5⟩:=I1.pin (D,WX us) (by simp)
 have hlen:=r.length
 refine zL (append_at (hsz:=by rw[yC];omega) p1 λh' sb hD=>zM ⟨ys++[v],σ,H1,?_,⟨⟨p2,f.2⟩,?_,us++[u],r.append (.cons rv .nil),?_⟩,q⟩)
 ·exact I1.unpinned.turned (t':=s1.toks) (λb o hb e=>sb.extBut b o hb e) p2 f.2.1 f.2.2.2.1 f.2.2.2.2.1 f.2.2.2.2.2
 ·rw[uX,yN];omega
 ·show h'.get? D=_
  rw[hD]
  show some ({ cls:=.type "list",data:=.seq (us.toArray.push u) (us.length+1) }:Obj)=some { cls:=.type "list",data:=.seq (us++[u]).toArray (us++[u]).length }
  rw[uX,yN,List.push_toArray]
def Q7(tg iter:Expr)(ifs:List Expr)(body:Value->Sem Unit)(c:Code)(it acc:Value)(env:Env):Sem Fin:=
 standAt iter.pos>>=λ_=>pyNext it>>=λr=>match r with
  | none=>pure (.done .next)
  | some v=>letOwnedTupleGo tg it v>>=λ_=>assign tg env v>>=λ_=>Tz ifs env>>=λok=>if ok=true then(body acc>>=λ_=>again c) else again c
def MY(J:It)(g:TG)(tt:TT)(tb:TL)(Q:LK)(W:Nat->List V->Nat->St->Hp->Prop):Prop:=∀i ys m σ H,W i ys m σ H ->
 (J.stop i H/\Q ys σ H)\/(J.go i H/\∃N:LK,(∀ys' σ' H',N ys' σ' H'->∃m',m' < m/\W (i+1) ys' m' σ' H')/\∀x H',J.yld i H x H'->g x σ H' λσ2 H2=>tt σ2 H2 λb H3=>if b=true then tb ys σ2 H3 N else N ys σ2 H3)
theorem Mi{tg iter:Expr}{ifs:List Expr}{elt:Expr}{gens:List Comprehension}{scope:Scope}{pos:Pos}{d:Nat}{body:Value->Sem Unit}{g:TG}{tt:TT}{tb:TL}{J:It}{fp:List Addr}{it:Addr}{tn:Nat->Heap->Prop}{D:Addr}{Q:LK} 
  {R:Result->Shared->Prop}{W:Nat->List V->Nat->St->Hp->Prop}{pins:List (Addr×Obj)}{s:Shared}{σ:St}{H:Hp}{ys:List V}{m:Nat}
  (hx:∀v s,Y.xe v s->False) (hc:Y.cold=true\/(J.mild=true/\Y.calm=true)) (T:Oe Y.prog Y.w Y.K tg J fp it tn) (hg:PG Y tg g) (ht:JV Y ifs tt) (hb:PL Y body tb)
  (hturn:compTurn (.ListComp elt gens scope pos) d (.ref it) (.ref D) Y.env=Q7 tg iter ifs body (.compLoop (.ListComp elt gens scope pos) d (.ref it) (.ref D) Y.env) (.ref it) (.ref D) Y.env)
  (I:Zv Y pins σ H s) (a:V0 Y pins D ys H s) (st:tn 0 s.heap) (hf:∀b∈fp,X6 Y pins H b) (hD:D ∉ fp) (w0:W 0 ys m σ H) (turn:MY J g tt tb Q W) (hR:∀s',LP Y pins D Q s'->R (.ok .next) s') :
  codeAny (model Y.prog Y.w) Y.A (.compLoop (.ListComp elt gens scope pos) d (.ref it) (.ref D) Y.env) R s:=by
 refine codeAny_loop rfl (λn s'=>∃i ys σ' H',Zv Y pins σ' H' s'/\V0 Y pins D ys H' s'/\tn i s'.heap/\(∀b∈fp,H' b=none)/\W i ys n σ' H') ?_ m ⟨0,ys,σ,H,I,a,st,λb hb=>(hf b hb).1,w0⟩
 rintro n s3 ⟨i,ys3,σ3,H3,I3,⟨f3,hz3,us,r3,e3⟩,st3,fr3,w3⟩
 show wpAny _ Y.A ((compTurn (.ListComp elt gens scope pos) d (.ref it) (.ref D) Y.env).onRaise (λx=>do noteFrame x Y.env;theTreesLotGoes x)) _ _ s3
 refine wpAny_noted ?_
 rw[hturn]
 have I3':=V0.pin (ys:=ys3) I3 f3 e3
 -- the iterator's records are apart from D
 have stat:∀{H':Hp},(∀b∈fp,H' b=none)->∀b∈fp,X6 Y (pins++[(D,WX us)]) H' b:=λhn b hb=>by
  obtain⟨_,q1,q2,q3,q4,q5⟩:=hf b hb
  refine⟨hn b hb,q1,q2,q3,q4,λp hp=>?_⟩
  rcases vF.mp hp with z|z
  ·exact q5 p (vG _ z)
  ·rcases vF.mp z with z|z
   ·exact q5 p (vW _ z)
   ·have z':p=(D,WX us):=by simpa using z
    subst z'
    exact λy=>hD ((show D=b from y).symm▸hb)
 have no:∀{α:Type}{t:Sem α}{Q1 Q2:α->Shared->Prop}{E:Value->Shared->Prop}{s':Shared},wpAny (model Y.prog Y.w) Y.A t Q1 Y.xe s'->(∀a s,Q1 a s->Q2 a s)->wpAny (model Y.prog Y.w) Y.A t Q2 E s':=λh q=>vL h q λv s x=>(hx v s x).elim
 rcases turn i ys3 n σ3 H3 w3 with ⟨stop,qn⟩|⟨go,N,hN,step⟩
 ·refine zL (wU (zL (no (T.done Y rfl rfl rfl hc i _ s3 σ3 H3 Y.xe I3' (stat fr3) st3 stop) λr s4 ⟨hr,I4⟩=>?_)))
  subst hr
  obtain⟨p1,p2,_⟩:=I4.pin (D,WX us) (by simp)
  exact zM (hR _ ⟨ys3,σ3,H3,I4.unpinned,⟨f3,hz3,us,r3,p1⟩,qn⟩)
 ·refine zL (wU (zL (no (T.item Y rfl rfl rfl hc i _ s3 σ3 H3 Y.xe I3' (stat fr3) st3 go) λr s4 ⟨u,hr,h4⟩=>?_)))
  subst hr
  refine zL (no h4 λ_ s5 ⟨x,H5,I5,r5,y5,st5,fr5⟩=>?_)
  have I5':=I5.pinned (stat fr5) (T.obj _ _ st5)
  refine zL (no (hg _ s5 σ3 H5 x u _ I5' r5 (step x H5 y5)) λ_ s6 ⟨σ6,H6,I6,q6⟩=>?_)
  refine zL (no (ht _ s6 σ6 H6 _ I6 q6) λok s7 ⟨H7,I7,q7⟩=>?_)
  have pD:=I7.pin (D,WX us) (by simp)
  have I7':Zv Y (pins++W_ fp s5.heap) σ6 H7 s7:=I7.pins_of λp hp=>by
   rcases vF.mp hp with z|z
   ·exact I7.pin p (vW _ (vG _ (vG _ z)))
   ·exact I7.pin p (vW _ (vW _ z))
  have a7:V0 Y (pins++W_ fp s5.heap) D ys3 H7 s7:=by
   refine⟨⟨pD.2.1,f3.2.1,f3.2.2.1,f3.2.2.2.1,f3.2.2.2.2.1,λp hp=>?_⟩,hz3,us,r3,pD.1⟩
   rcases vF.mp hp with z|z
   ·exact f3.2.2.2.2.2 p (vG _ z)
   ·rcases vF.mp z with z|z
    ·exact f3.2.2.2.2.2 p (vW _ z)
    ·exact λy=>hD (y▸(Rv z).1)
  have fin:∀{ys8:List V}{σ8:St}{H8:Hp}{s8:Shared},Zv Y (pins++W_ fp s5.heap) σ8 H8 s8->V0 Y (pins++W_ fp s5.heap) D ys8 H8 s8->(∃m',m' < n/\W (i+1) ys8 m' σ8 H8) ->
    ∃m,m<n/\∃i ys σ' H',Zv Y pins σ' H' s8/\V0 Y pins D ys H' s8/\tn i s8.heap/\(∀b∈fp,H' b=none)/\W i ys m σ' H':=λ{ys8 σ8 H8 s8} I8 a8 ⟨m',hm,w8⟩=>by
   refine⟨m',hm,i+1,ys8,σ8,H8,I8.unpinned,⟨⟨a8.1.1,f3.2⟩,a8.2⟩,T.keep _ _ _ st5 λb hb o e=>(I8.pin (b,o) (vW _ (vW _ (W3 hb e)))).1,λb hb=>?_,w8⟩
   obtain⟨o,e,_⟩:=T.obj _ _ st5 b hb
   exact(I8.pin (b,o) (vW _ (vW _ (W3 hb e)))).2.1
  cases ok with
  | true=>
   rw[zJ rfl]at q7 |-
   refine zL (no (hb D _ s7 σ6 H7 ys3 _ I7' a7 q7) λ_ s8 ⟨ys8,σ8,H8,I8,a8,q8⟩=>?_)
   exact zM ⟨rfl,fin I8 a8 (hN _ _ _ q8)⟩
  | false=>
   rw[wH wI]at q7 |-
   exact zM ⟨rfl,fin I7' a7 (hN _ _ _ q7)⟩
theorem RK{elt tg iter:Expr}{ifs:List Expr}{gens:List Comprehension}{scope:Scope}{pos:Pos}{d:Nat}{it acc:Value}{env:Env}{R:Result->Shared->Prop}{prog:Program}{w:World}{A:Around}{s:Shared}(hd:gens[d]? = some ⟨tg,iter,ifs,0⟩) 
  (h0:codeAny (model prog w) A (.compLoop (.ListComp elt gens scope pos) d it acc env) R s)
  (h:wpAny (model prog w) A (pyIter it) (λit' s'=>codeAny (model prog w) A (.compLoop (.ListComp elt gens scope pos) d it' acc env) R s') (notedBy (model prog w) A env λx s'=>R (.error x) s') s) :
  codeAny (model prog w) A (.compStart (.ListComp elt gens scope pos) d it acc env) R s:=by
 refine codeAny_of_tree ?_
 show wpAny _ _ ((compStart (.ListComp elt gens scope pos) d it acc env).onRaise (λx=>do noteFrame x env;standAt theWindowsPlace)) _ _ s
 refine wpAny_notedAt ?_
 unfold compStart
 simp only[clausesOf,hd,Option.elim]
 show wpAny _ _ (ask>>=_) _ _ s
 refine zL (wpAny_askSetting (wpAny_ite ?_))
 split
 ·first
   | exact zL (zM (zM (xC rfl h0)))
   | exact zM (xC rfl h0)
 ·first
   | exact zL (wL (zL (wU (zL (vL h (λit' s' h'=>zM (xC rfl h')) λ_ _ x=>x)))))
   | (refine zL (wL ?_);show wpAny _ _ (standAt iter.pos>>=_) _ _ s;exact zL (wU (zL (vL h (λit' s' h'=>zM (xC rfl h')) λ_ _ x=>x))))
end
section
variable {X:Cx}
def R4(wi:TI)(cap:List (Option Nat))(g:TG)(tt:TT)(tb:TL):TE:=λσ H Q=>wi σ H λJ H1=>∃W:Nat->List V->Nat->St->Hp->Prop,(∃m,W 0 [] m (capt cap σ) H1)/\MY J g tt tb (λys _ H'=>∀p,H' p=none->Q (.ref p) (upd H' p (.lst ys))) W
theorem Oo{pins:List (Addr×Obj)}{σ:St}{H2:Hp}{s2:Shared}{fp:List Addr}{Nc:List Str}{scope:Scope}{cs Y}(I2:Zv X pins σ H2 s2)(f2:∀b∈fp,X6 X pins H2 b)(hlt:∀b∈fp,b<s2.heap.objs.size)(hcl:∀p∈scope.names,p.2=.free->∃c,X.env.cells.lookup p.1=some c) 
  (hcs:cellsFrom (s2.heap.objs.size+2) scope.names (XO X.env.cells scope.names [])=cs) (hY:ZR X Nc scope cs (s2.heap.objs.size+1) s2 H2 fp=Y):X6 Y [] H2 s2.heap.objs.size/\∀b∈fp,X6 Y [] H2 b:=by
 have fD:X6 X pins H2 s2.heap.objs.size:=I2.fpOk (vU _) (I2.hok.fresh (vU _))
 have cse:∀x c,cs.lookup x=some c->c<s2.heap.objs.size\/s2.heap.objs.size+2≤c:=λx c e=>by
  rw[<- hcs,Yc]at e
  have okz:=cellsFrom_ok scope.names ((s2.heap.push (WX [])).push { cls:=.type "dict",data:=.dict #[] }) (s2.heap.objs.size+2) [] ⟨λ_ _ hm=>(nomatch hm),yP⟩ (by rw[wB,wB];exact vU _)
  rw[wB,wB]at okz
  rcases lookup_append e with e|⟨_,e⟩
  ·exact .inr (okz.empty x c (uT e)).2
  ·obtain⟨_,b⟩:=WM hcl (uT e)
   obtain⟨v,q⟩:=I2.cell x c b
   exact .inl q.lt
 constructor
 ·rw[<- hY]
  refine⟨fD.1,wP (uG _),λhm=>?_,.inr (vU _),λx c e q=>?_,λp hp=>absurd (show p∈([]:List (Addr×Obj)) from hp) (by simp)⟩
  ·rcases vE.mp (I2.stkSub _ hm) with q|q
   ·exact fD.2.1 q
   ·exact fD.2.2.1 q
  ·rcases cse x c e with l|l
   ·rw[q]at l;exact absurd l (wY _)
   ·rw[q]at l;exact absurd (wX (lt_succ_of_lt (uG _)) l) (wY _)
 ·intro b hb
  rw[<- hY]
  obtain⟨q0,q1,q2,q3,q4,q5⟩:=f2 b hb
  have hb':=hlt b hb
  refine⟨q0,wP (lt_succ_of_lt hb'),λhm=>?_,.inl hb,λx c e q=>?_,λp hp=>absurd (show p∈([]:List (Addr×Obj)) from hp) (by simp)⟩
  ·rcases vE.mp (I2.stkSub _ hm) with q|q
   ·exact q1 q
   ·exact q2 q
  ·rw[<- hcs,Yc]at e
   rcases cse x c (by rw[<- hcs,Yc];exact e) with l|l
   ·rcases lookup_append e with e|⟨_,e⟩
    ·have okz:=cellsFrom_ok scope.names ((s2.heap.push (WX [])).push { cls:=.type "dict",data:=.dict #[] }) (s2.heap.objs.size+2) [] ⟨λ_ _ hm=>(nomatch hm),yP⟩ (by rw[wB,wB];exact vU _)
     rw[wB,wB]at okz
     have l2:=(okz.empty x c (uT e)).2
     exact absurd (wX l (wZ (xB _ 2) l2)) (wY _)
    ·obtain⟨_,b2⟩:=WM hcl (uT e)
     exact q4 x c b2 q
   ·rw[q]at l;exact absurd (wX hb' (wZ (xB _ 2) l)) (wY _)
theorem Rf{elt tg iter:Expr}{ifs:List Expr}{rest:List Comprehension}{scope:Scope}{pos p0:Pos}{Nc:List Str}{cap:List (Option Nat)}{body:Env->Value->Sem Unit}{wi:TI}{g:TG}{tt:TT}{tb:TL}{use:Option (Value->Sem Unit)}{Q:Value->Shared->Prop} 
  {pins:List (Addr×Obj)}{s:Shared}{σ:St}{H:Hp}{P:VK}
  (hk:scope.kind=.function) (hc:X.calm=true) (hi:PI X tg iter wi) (ok:T9 X Nc cap scope=true)
  (hg:∀cs C s H fp,PG (ZR X Nc scope cs C s H fp) tg g) (ht:∀cs C s H fp,JV (ZR X Nc scope cs C s H fp) ifs tt) (hb:∀cs C s H fp,PL (ZR X Nc scope cs C s H fp) (body (compEnvC scope cs C X.env)) tb)
  (hturn:∀it acc env,compTurn (.ListComp elt (⟨tg,iter,ifs,0⟩::rest) scope pos) 0 it acc env=Q7 tg iter ifs (body env) (.compLoop (.ListComp elt (⟨tg,iter,ifs,0⟩::rest) scope pos) 0 it acc env) it acc env)
  (hs:∀x,foldedSetIterable iter X.env x=pure x) (I:Zv X pins σ H s) (h:R4 wi cap g tt tb σ H P)
  (hend:∀(D C:Addr) (H':Hp) (s':Shared),Zv X pins σ H' s'->X6 X pins H' D->X6 X pins H' C->C≠D->(∃m,s'.heap.Ns C m)->(∃ys us,ZD ys us/\ys.length≤sizeLine/\s'.heap.get? D=some (WX us)/\P (.ref D) (upd H' D (.lst ys))) ->
   compPost (model X.prog X.w) X.A X.xe use Q (.ref D) C (.ok .next) s') :
  wpAny (model X.prog X.w) X.A (comprehension (.ListComp elt (⟨tg,iter,ifs,0⟩::rest) scope pos) scope X.env p0 (newList []) false (eval iter X.env) use) Q X.xe s:=by
 have okc:=OZ.of ok
 have hcl:∀p∈scope.names,p.2=.free->∃c,X.env.cells.lookup p.1=some c:=λp hp e=>I.ok.has p.1 (okc.free p hp e)
 refine wpAny_comprehension_free rfl hs (S6 hcl) hk (λp hp e=>by rw[okc.look p hp,e]) (Y2 (hi pins s σ H _ I h) λv s1 h1=>Y2 h1 λitv s2 h2=>?_)
 obtain⟨it,fp,tn,J,H2,e2,I2,T,st2,f2,hm,W,⟨m0,w0⟩,turn⟩:=h2
 subst e2
 refine zV (UO ?_)
 dsimp only
 have z:(s2.heap.push { cls:=.type "list",dict:=none,data:=.seq ([]:List Value).toArray }).objs.size=s2.heap.objs.size+1:=wB ..
 rw[z]
 have hlt:∀b∈fp,b<s2.heap.objs.size:=λb hb=>by obtain⟨o,e,_⟩:=T.obj _ _ st2 b hb;exact wA e
 obtain⟨J3,hD⟩:=QH (oA:=WX []) rfl I2 f2 hlt okc hk
 generalize hcs:cellsFrom (s2.heap.objs.size+2) scope.names (XO X.env.cells scope.names [])=cs at J3
 generalize hY:ZR X Nc scope cs (s2.heap.objs.size+1) s2 H2 fp=Y at J3
 have up:∀b o,s2.heap.get? b=some o->(pushCells ((s2.heap.push (WX [])).push { cls:=.type "dict",data:=.dict #[] }) scope.names).get? b=some o:=λb o e=>xA _ _ b o (zX _ (zX _ e))
 have st3:tn 0 (pushCells ((s2.heap.push (WX [])).push { cls:=.type "dict",data:=.dict #[] }) scope.names):=T.keep _ _ _ st2 λb _ o e=>up b o e
 -- the new list's place
 have fD:X6 X pins H2 s2.heap.objs.size:=I2.fpOk (vU _) (I2.hok.fresh (vU _))
 have fC:X6 X pins H2 (s2.heap.objs.size+1):=I2.fpOk (wC _) (I2.hok.fresh (wC _))
 obtain⟨fDY,fpY⟩:=Oo I2 f2 hlt hcl hcs hY
 have hYe:Y.env=compEnvC scope cs (s2.heap.objs.size+1) X.env:=by rw[<- hY];rfl
 have fin:∀s',LP Y [] s2.heap.objs.size (λys _ H'=>∀p,H' p=none->P (.ref p) (upd H' p (.lst ys))) s'->compPost (model X.prog X.w) X.A X.xe use Q (.ref s2.heap.objs.size) (s2.heap.objs.size+1) (.ok .next) s':=by
  rintro s' ⟨ys,σ',H',J',⟨fD',hz,us,rv,eD⟩,q⟩
  have ub:Un (N0 X.stack) fp H2 H' s2.heap s'.heap:=by have b:=J'.base;rw[<- hY]at b;exact b
  have os:s'.os=s2.os:=by have b:=J'.os;rw[<- hY]at b;exact b
  have hokX:V1 X.prog X.w H' s'.heap:=by have b:=J'.hok;rw[<- hY]at b;exact b
  have hCn:H' (s2.heap.objs.size+1)=none:=by have b:=J'.free;rw[<- hY]at b;exact b
  have hns:∃m,s'.heap.Ns (s2.heap.objs.size+1) m:=by obtain⟨m,b,_⟩:=J'.loc;rw[<- hY]at b;exact⟨m,b⟩
  have IX:Zv X pins σ H' s':=I2.call' os ub hokX J'.bare λb hb=>by
   obtain⟨q0,q1,q2,q3,q4,q5⟩:=f2 b hb
   exact⟨q3,q1,q4,q5⟩
  exact hend _ _ H' s' IX ⟨fD'.1,fD.2⟩ ⟨hCn,fC.2⟩ (vS (uG _)) hns ⟨ys,us,rv,hz,eD,q _ fD'.1⟩
 have loop:codeAny (model X.prog X.w) X.A (.compLoop (.ListComp elt (⟨tg,iter,ifs,0⟩::rest) scope pos) 0 (.ref it) (.ref s2.heap.objs.size) (compEnvC scope cs (s2.heap.objs.size+1) X.env)) (compPost (model X.prog X.w) X.A X.xe use Q (.ref s2.heap.objs.size) (s2.heap.objs.size+1))
   { s2 with heap:=pushCells ((s2.heap.push (WX [])).push { cls:=.type "dict",data:=.dict #[] }) scope.names }:=by
  subst hY
  exact Mi (Y:=ZR X Nc scope cs (s2.heap.objs.size+1) s2 H2 fp) (λ_ _ f=>f) hm T (hg _ _ _ _ _) (ht _ _ _ _ _) (hb _ _ _ _ _) (hturn _ _ _) J3 ⟨fDY,uH _,[],.nil,hD⟩ st3 fpY (λhm=>absurd (hlt _ hm) (wY _)) w0 turn fin
 exact RK rfl loop (T.self _ 0 _ _ _ st3 loop)
theorem QG{pins:List (Addr×Obj)}{σ:St}{H':Hp}{s':Shared}{D C:Addr}{P:VK}(I:Zv X pins σ H' s')(fD:X6 X pins H' D)(fC:X6 X pins H' C)(ne:C≠D) 
  (q:∃ys us,ZD ys us/\ys.length≤sizeLine/\s'.heap.get? D=some (WX us)/\P (.ref D) (upd H' D (.lst ys))):∃H1,Zv X pins σ H1 s'/\P (.ref D) H1/\X6 X pins H1 C:=by
 obtain⟨ys,us,rv,hz,eD,q⟩:=q
 exact⟨_,I.track (o:=.lst ys) fD ⟨hz,us,_,rv,eD⟩,q,by rw[Zi ne];exact fC.1,fC.2⟩
theorem IJ{elt tg iter:Expr}{ifs:List Expr}{scope:Scope}{pos:Pos}{Nc:List Str}{cap:List (Option Nat)}{wi:TI}{g:TG}{tt:TT}{te:TE} 
  (hc:X.calm=true) (hi:PI X tg iter wi) (ok:T9 X Nc cap scope=true) (hg:∀cs C s H fp,PG (ZR X Nc scope cs C s H fp) tg g) (ht:∀cs C s H fp,JV (ZR X Nc scope cs C s H fp) ifs tt)
  (he:∀cs C s H fp,PE (ZR X Nc scope cs C s H fp) elt te) (hk:scope.kind=.function:=by rfl) (hs:∀x,foldedSetIterable iter X.env x=pure x:=by intro _;rfl) :
  PE X (.ListComp elt [⟨tg,iter,ifs,0⟩] scope pos) (R4 wi cap g tt (R5 te)):=by
 intro pins s σ H P I h
 rw[eval_ListComp]
 refine Rf (body:=λenv=>LJ elt env) hk hc hi ok hg ht (λcs C s H fp=>NH (he cs C s H fp)) (λit acc env=>?_) hs I h λD C H' s' I' fD fC ne hn q=>?_
 ·rw[compTurn_list]
  unfold Q7 Tz LJ
  congr 1
 ·obtain⟨H1,I1,q1,f1⟩:=QG I' fD fC ne q
  obtain⟨m,hm⟩:=hn
  exact⟨m,hm,λh'' sb=>⟨.ref D,H1,I1.turned (t':=s'.toks) (λb o hb e=>sb.extBut b o hb e) f1.1 f1.2.1 f1.2.2.2.1 f1.2.2.2.2.1 f1.2.2.2.2.2,rfl,q1⟩⟩
theorem OJ{i:Nat}{x:Str}{elt tg iter:Expr}{ifs:List Expr}{scope:Scope}{pos pos' spos:Pos}{Nc:List Str}{cap:List (Option Nat)}{wi:TI}{g:TG}{tt:TT}{te:TE} 
  (hN:X.N.Nodup) (hx:X.N[i]? = some x) (hl:HB X.env.scope x)
  (hc:X.calm=true) (hi:PI X tg iter wi) (ok:T9 X Nc cap scope=true) (hg:∀cs C s H fp,PG (ZR X Nc scope cs C s H fp) tg g) (ht:∀cs C s H fp,JV (ZR X Nc scope cs C s H fp) ifs tt)
  (he:∀cs C s H fp,PE (ZR X Nc scope cs C s H fp) elt te) (hsw:swapsWith (.ListComp elt [⟨tg,iter,ifs,0⟩] scope pos) (some (.Name x pos')) spos.line X.env=pure true:=by rfl)
  (hk:scope.kind=.function:=by rfl) (hs:∀x,foldedSetIterable iter X.env x=pure x:=by intro _;rfl)
  (hf:X.fn x=true\/X.env.scope.names.lookup x=some .local:=by first|exact .inl rfl|exact .inr rfl|assumption) :
  PS X (.Assign [.Name x pos'] (.ListComp elt [⟨tg,iter,ifs,0⟩] scope pos) spos) (PH (R4 wi cap g tt (R5 te)) (WC i)):=by
 intro pins s σ H D I h
 rw[exec_Assign_Name_used _ _ _ _ hsw]
 refine zL (wU (zL ?_))
 show wpAny _ X.A (do let _ <- comprehension (.ListComp elt [⟨tg,iter,ifs,0⟩] scope pos) scope X.env _ (newList []) false (eval iter X.env) (some (assign (.Name x pos') X.env))) _ _ s
 refine zL (Y2 (Rf (use:=some (assign (.Name x pos') X.env)) (Q:=λ_ s'=>SP X pins D .next s') (body:=λenv=>LJ elt env) hk hc hi ok hg ht (λcs C s H fp=>NH (he cs C s H fp)) (λit acc env=>?_) hs I h λL C H' s' I' fD fC ne hn q=>?_) λ_ s' q=>zM (zM q))
 ·rw[compTurn_list]
  unfold Q7 Tz LJ
  congr 1
 ·obtain⟨H1,I1,q1,f1⟩:=QG (P:=λv H=>WC i v σ H D.nx) I' fD fC ne q
  obtain⟨m,hm⟩:=hn
  show wpAny _ X.A (assign (.Name x pos') X.env (.ref L)) _ _ _
  refine wpAny_assign_Name (R1 I1 hN hx hl (v:=.ref L) rfl (λs2 I2 ⟨a,sb,ha⟩=>?_) hf)
  have ca:C≠a:=by
   rcases ha with z|z
   ·rw[z];exact f1.2.1
   ·exact λy=>f1.2.2.2.2.1 x a z y.symm
  exact⟨m,hm.sameBut sb ca,λh'' sb2=>⟨_,H1,I2.turned (t':=s2.toks) (λb o hb e=>sb2.extBut b o hb e) f1.1 f1.2.1 f1.2.2.2.1 f1.2.2.2.2.1 f1.2.2.2.2.2,q1⟩⟩
end
def WK(t:Bool)(h:Heap)(i l:Addr)(k:Nat):Prop:=match t with|true=>h.IsTupleIter i l k|false=>h.IsListIter i l k
def VT(t:Bool)(h:Heap)(l:Addr)(xs:Array Value):Prop:=match t with|true=>h.IsTuple l xs|false=>h.IsList l xs
def Qv(t:Bool)(l:Addr):Obj:={ cls:=.type (if t then "tuple_iterator" else "list_iterator"),data:=.fields #[.ref l,.int 0 0] }
theorem WK.obj{t:Bool}{h:Heap}{i l:Addr}{k:Nat}(x:WK t h i l k):∃o,h.get? i=some o/\∀v,o.data≠.cell v:=by
 cases t<;>(obtain⟨o,e,c,d⟩:=x;exact⟨o,e,λv z=>by rw[d]at z;cases z⟩)
theorem WK.at{t:Bool}{h h':Heap}{i l:Addr}{k:Nat}(x:WK t h i l k)(q:∀o,h.get? i=some o->h'.get? i=some o):WK t h' i l k:=by
 cases t
 ·exact Heap.IsListIter.at x q
 ·exact Heap.IsTupleIter.at x q
theorem VT.at{t:Bool}{h h':Heap}{l:Addr}{xs:Array Value}(x:VT t h l xs)(q:∀o,h.get? l=some o->h'.get? l=some o):VT t h' l xs:=by
 cases t<;>(obtain⟨o,e,c,d⟩:=x;exact⟨o,q o e,c,d⟩)
theorem VT.lt{t:Bool}{h:Heap}{l:Addr}{xs:Array Value}(x:VT t h l xs):l<h.objs.size:=by
 cases t<;>(obtain⟨o,e,c,d⟩:=x;exact wA e)
section
variable {prog:Program}{w:World}{A:Around}{E:Value->Shared->Prop}{s:Shared}
theorem OC{it l:Addr}{i:Nat}{items:Array Value}{x:Value}{Q:Value->Shared->Prop}(hit:s.heap.IsTupleIter it l i)(hl:s.heap.IsTuple l items)(hx:items[i]? = some x) 
  (hQ:∀h',h'.IsTupleIter it l (i+1)->Heap.SameBut it s.heap h'->Q x { s with heap:=h' }):wpAny (model prog w) A (Builtin.SmallTypes.nextOf (.ref it)) Q E s:=by
 obtain⟨o,ho,hc,hd⟩:=id hit
 obtain⟨ol,hol,_,nl,hdl⟩:=hl
 unfold Builtin.SmallTypes.nextOf
 refine zL (wE (name:=Str.ofString "__next__") hit.typeIs xD (wG xD hit.typeIs F.entry_tuple_iterator_next ?_ (F.args_tuple_iterator_next_1 _)))
 show wpAny _ _ (field (.ref it) 0>>=_) _ _ s;refine zL (zO ho hd (x:=.ref l) rfl ?_)
 show wpAny _ _ (if(Value.ref l == Value.none)=true then _ else _) _ _ s;rw[wH (show ¬((Value.ref l == Value.none)=true) from wI)]
 show wpAny _ _ (field (.ref it) 1>>=_) _ _ s;refine zL (zO ho hd (x:=.int i 0) rfl ?_)
 show wpAny _ _ (seqItems? (.ref l)>>=_) _ _ s;refine zL (wJ hol hdl ?_)
 simp only[wK,hx]
 refine zL (wM ho hd (by simp) (zM ⟨x,rfl,zM (hQ _ ?_ (Heap.SameBut.update ..))⟩))
 exact⟨_,zR _ ho (zS (zT hd _)),(zU ..).trans hc,by rw[zT hd];simp[rawInt]⟩
theorem MC{it l:Addr}{i:Nat}{items:Array Value}{Q:Value->Shared->Prop}(hh:WI A s.heap)(hne:∀e,A.handled=some (.ref e)->e≠it)(hit:s.heap.IsTupleIter it l i)(hl:s.heap.IsTuple l items)(hx:items[i]? = none) 
  (hE:∀h' e,Heap.ExtBut it s.heap h'->(∃o,h'.get? e=some o/\o.cls=.type "StopIteration")->E (.ref e) { s with heap:=h' }):wpAny (model prog w) A (Builtin.SmallTypes.nextOf (.ref it)) Q E s:=by
 obtain⟨o,ho,hc,hd⟩:=id hit
 obtain⟨ol,hol,_,nl,hdl⟩:=hl
 unfold Builtin.SmallTypes.nextOf
 refine zL (wE (name:=Str.ofString "__next__") hit.typeIs xD (wG xD hit.typeIs F.entry_tuple_iterator_next ?_ (F.args_tuple_iterator_next_1 _)))
 show wpAny _ _ (field (.ref it) 0>>=_) _ _ s;refine zL (zO ho hd (x:=.ref l) rfl ?_)
 show wpAny _ _ (if(Value.ref l == Value.none)=true then _ else _) _ _ s;rw[wH (show ¬((Value.ref l == Value.none)=true) from wI)]
 show wpAny _ _ (field (.ref it) 1>>=_) _ _ s;refine zL (zO ho hd (x:=.int i 0) rfl ?_)
 show wpAny _ _ (seqItems? (.ref l)>>=_) _ _ s;refine zL (wJ hol hdl ?_)
 simp only[wK,hx]
 refine zL (wL (zL (wM ho hd (by simp) ?_)))
 exact XF (A:=A.in1) (hh.keep λe o he q=>(zP _ _ (zQ (hne e he))).trans q) λh' x k hk=>hE _ _ (λb o nb q=>k b o ((zP _ _ (zQ nb)).trans q)) hk
theorem MA{it l:Addr}{i:Nat}{items:Array Value}{Q:Value->Shared->Prop}(hh:WI A s.heap)(hne:∀e,A.handled=some (.ref e)->e≠it)(hit:s.heap.IsListIter it l i)(hl:s.heap.IsList l items)(hx:items[i]? = none) 
  (hE:∀h' e,Heap.ExtBut it s.heap h'->(∃o,h'.get? e=some o/\o.cls=.type "StopIteration")->E (.ref e) { s with heap:=h' }):wpAny (model prog w) A (Builtin.SmallTypes.nextOf (.ref it)) Q E s:=by
 obtain⟨o,ho,hc,hd⟩:=id hit
 obtain⟨ol,hol,_,nl,hdl⟩:=hl
 unfold Builtin.SmallTypes.nextOf
 refine zL (wE (name:=Str.ofString "__next__") hit.typeIs wF (wG wF hit.typeIs entry_listiter_next ?_ (args_listiter_next _)))
 show wpAny _ _ (field (.ref it) 0>>=_) _ _ s;refine zL (zO ho hd (x:=.ref l) rfl ?_)
 show wpAny _ _ (if(Value.ref l == Value.none)=true then _ else _) _ _ s;rw[wH (show ¬((Value.ref l == Value.none)=true) from wI)]
 show wpAny _ _ (field (.ref it) 1>>=_) _ _ s;refine zL (zO ho hd (x:=.int i 0) rfl ?_)
 show wpAny _ _ (seqItems? (.ref l)>>=_) _ _ s;refine zL (wJ hol hdl ?_)
 simp only[wK,hx]
 refine zL (wL (zL (wM ho hd (by simp) ?_)))
 exact XF (A:=A.in1) (hh.keep λe o he q=>(zP _ _ (zQ (hne e he))).trans q) λh' x k hk=>hE _ _ (λb o nb q=>k b o ((zP _ _ (zQ nb)).trans q)) hk
theorem YT{t:Bool}{it l:Addr}{i:Nat}{items:Array Value}{x:Value}{Q:Value->Shared->Prop}(hit:WK t s.heap it l i)(hl:VT t s.heap l items)(hx:items[i]? = some x) 
  (hQ:∀h',WK t h' it l (i+1)->Heap.SameBut it s.heap h'->Q x { s with heap:=h' }):wpAny (model prog w) A (Builtin.SmallTypes.nextOf (.ref it)) Q E s:=by
 cases t
 ·exact wpAny_nextOf_list_item hit hl hx hQ
 ·exact OC hit hl hx hQ
theorem XD{t:Bool}{it l:Addr}{i:Nat}{items:Array Value}{Q:Value->Shared->Prop}(hh:WI A s.heap)(hne:∀e,A.handled=some (.ref e)->e≠it)(hit:WK t s.heap it l i)(hl:VT t s.heap l items)(hx:items[i]? = none) 
  (hE:∀h' e,Heap.ExtBut it s.heap h'->(∃o,h'.get? e=some o/\o.cls=.type "StopIteration")->E (.ref e) { s with heap:=h' }):wpAny (model prog w) A (Builtin.SmallTypes.nextOf (.ref it)) Q E s:=by
 cases t
 ·exact MA hh hne hit hl hx hE
 ·exact MC hh hne hit hl hx hE
theorem MB{t:Bool}{it l:Addr}{i:Nat}{items:Array Value}{Q:Value->Shared->Prop}(hh:A.handled=none)(hit:WK t s.heap it l i)(hl:VT t s.heap l items)(hx:items[i]? = none) 
  (hE:∀h' e,Heap.ExtBut it s.heap h'->(∃o,h'.get? e=some o/\o.cls=.type "StopIteration")->E (.ref e) { s with heap:=h' }):wpAny (model prog w) A (Builtin.SmallTypes.nextOf (.ref it)) Q E s:=XD (.inl hh) (λe he=>by rw[hh]at he;cases he) hit hl hx hE
theorem Pl{t:Bool}{l:Addr}{items:Array Value}{Q:Value->Shared->Prop}(hl:VT t s.heap l items)(h:Q (.ref s.heap.objs.size) { s with heap:=s.heap.push (Qv t l) }):wpAny (model prog w) A (pyIter (.ref l)) Q E s:=by
 cases t
 ·exact vT hl h
 ·exact wpAny_pyIter_tuple hl h
def ZO(f0 f1:Value)(TI TO:Addr):Obj:={ cls:=.type "zip",data:=.fields #[f0,f1,.bool false,.ref TI,.ref TO] }
def Nf(f0:Value):Prop:=f0=.none\/∃p:Nat,f0=rawInt (p:Int)
theorem Lb{a:Addr}{Q:Option Obj->Shared->Prop}(h:Q (s.heap.get? a) s):wpAny (model prog w) A (loadIfAlive a) Q E s:=by
 exact λ_ _ _=>h
theorem Nz{z TI TO:Addr}{f0 f1:Value}{Q:Bool->Shared->Prop}(hz:s.heap.get? z=some (ZO f0 f1 TI TO))(hf:Nf f0) 
  (h1:Q true s) (h2:f0≠.none->∀h' g1,h'.get? z=some (ZO f0 g1 TI TO)->Heap.SameBut z s.heap h'->Q false { s with heap:=h' }):wpAny (model prog w) A (Builtin.SmallTypes.ownedTupleIsFree (.ref z)) Q E s:=by
 unfold Builtin.SmallTypes.ownedTupleIsFree
 refine zL (zO hz rfl (x:=f0) rfl ?_)
 rcases hf with rfl|⟨p,rfl⟩
 ·exact zM h1
 ·show wpAny _ _ (loadIfAlive ((p:Int).toNat)>>=_) _ _ _
  refine zL (Lb ?_)
  cases s.heap.get? ((p:Int).toNat) with
  | none=>exact zM h1
  | some o=>
   show wpAny _ _ (field (.ref z) 1>>=_) _ _ _
   refine zL (zO hz rfl (x:=f1) rfl ?_)
   by_cases hb:(f1 != .bool true)=true
   ·rw[zJ hb]
    refine zL (xE hz (by simp) λh' e x=>zM (h2 nofun h' (.bool true) e x))
   ·rw[wH hb]
    exact zM (h2 nofun s.heap f1 hz ⟨rfl,λ_ _=>rfl⟩)
theorem H9{t1 t2:Bool}{z TI TO i1 i2 l1 l2:Addr}{k1 k2:Nat}{xs ys:Array Value}{x y a b f0 f1:Value}{Q:Option Value->Shared->Prop}(D:ZipApart z TI TO i1 i2 l1 l2) 
  (hz:s.heap.get? z=some (ZO f0 f1 TI TO)) (hf:Nf f0) (hTI:IsPair s.heap TI (.ref i1) (.ref i2)) (hTO:IsPair s.heap TO a b) (h1:WK t1 s.heap i1 l1 k1) (h2:WK t2 s.heap i2 l2 k2) (hl1:VT t1 s.heap l1 xs) (hl2:VT t2 s.heap l2 ys) (hx:xs[k1]? = some x) (hy:ys[k2]? = some y)
  (hQ:∀h' g0 g1 a' b',h'.get? z=some (ZO g0 g1 TI TO)->Nf g0->(f0=.none->f1=.bool false->g0=rawInt s.heap.objs.size/\g1=.bool false/\a'=x/\b'=y)->IsPair h' TO a' b'->WK t1 h' i1 l1 (k1+1)->WK t2 h' i2 l2 (k2+1)->IsPair h' s.heap.objs.size x y->h'.objs.size=s.heap.objs.size+1 ->
   (∀c o,c≠z->c≠TO->c≠i1->c≠i2->s.heap.get? c=some o->h'.get? c=some o)->Q (some (.ref s.heap.objs.size)) { s with heap:=h' }):wpAny (model prog w) A (callSpecial? (.ref z) "__next__") Q E s:=by
 have hT:s.TypeIs (.ref z) "zip":=⟨_,hz,rfl⟩
 refine wE (name:=Str.ofString "__next__") hT xF (wG xF hT F.entry_zip_next ?_ (F.args_zip_next_1 _))
 show wpAny _ _ (field (.ref z) 2>>=_) _ _ _;refine zL (zO hz rfl (x:=.bool false) rfl ?_)
 show wpAny _ _ (field (.ref z) 3>>=_) _ _ _;refine zL (zO hz rfl (x:=.ref TI) rfl (zL (wJ hTI rfl ?_)))
 show wpAny _ _ (Builtin.SmallTypes.ownedTupleIsFree (.ref z)>>=_) _ _ _;refine zL (Nz hz hf ?_ ?_)
 ·simp only[yD]
  refine zL (wL (zL (zO hz rfl (x:=.ref TO) rfl (zL (xE hz (by simp) λha hza hsa=>?_)))))
  have hzA:ha.get? z=some (ZO .ellipsis f1 TI TO):=hza
  refine zL ?_
  simp only[List.zipIdx_cons,List.zipIdx_nil,yS,yX]
  refine zL (zL (xG ?_))
  show wpAny _ _ (Builtin.SmallTypes.nextOf (.ref i1)>>=_) _ _ _
  refine zL (YT (h1.at λo e=>hsa.extBut _ o D.i1z e) (hl1.at λo e=>hsa.extBut _ o D.l1z e) hx λhb h1b hsb=>zM ?_)
  have hTOb:IsPair hb TO a b:=hsb.extBut _ _ D.TOi1 (hsa.extBut _ _ D.TOz hTO)
  refine zL (wJ hTOb rfl (zL (xH hTOb λhc hTOc hsc=>zL (xI (zM ?_)))))
  have hTOc':IsPair hc TO x b:=hTOc
  refine zL (zL (xG ?_))
  show wpAny _ _ (Builtin.SmallTypes.nextOf (.ref i2)>>=_) _ _ _
  have abc:∀c o,c≠z->c≠i1->c≠TO->s.heap.get? c=some o->hc.get? c=some o:=λc o n1 n2 n3 e=>hsc.extBut _ _ n3 (hsb.extBut _ _ n2 (hsa.extBut _ _ n1 e))
  refine zL (YT (h2.at λo e=>abc _ o D.i2z D.i12.symm D.TOi2.symm e) (hl2.at λo e=>abc _ o D.l2z D.l2i1 D.l2TO e) hy λhd h2d hsd=>zM ?_)
  have hTOd:IsPair hd TO x b:=hsd.extBut _ _ D.TOi2 hTOc'
  refine zL (wJ hTOd rfl (zL (xH hTOd λhe hTOe hse=>zL (xI (zM (zM ?_))))))
  have hTOe':IsPair he TO x y:=hTOe
  refine zL (wJ hTOe' rfl (zL (xJ ?_)))
  have hsz:he.objs.size=s.heap.objs.size:=by rw[hse.1,hsd.1,hsc.1,hsb.1,hsa.1]
  have hze:he.get? z=some (ZO .ellipsis f1 TI TO):=hse.extBut _ _ D.TOz.symm (hsd.extBut _ _ D.i2z.symm (hsc.extBut _ _ D.TOz.symm (hsb.extBut _ _ D.i1z.symm hzA)))
  have all:∀c o,c≠z->c≠TO->c≠i1->c≠i2->s.heap.get? c=some o->he.get? c=some o:=λc o n1 n2 n3 n4 e=>hse.extBut _ _ n2 (hsd.extBut _ _ n4 (abc c o n1 n3 n2 e))
  have h1e:WK t1 he i1 l1 (k1+1):=h1b.at λo e=>hse.extBut _ o D.TOi1.symm (hsd.extBut _ o D.i12 (hsc.extBut _ o D.TOi1.symm e))
  have h2e:WK t2 he i2 l2 (k2+1):=h2d.at λo e=>hse.extBut _ o D.TOi2.symm e
  show wpAny _ _ (Builtin.SmallTypes.ownedTupleHandOut (.ref z) (.ref he.objs.size)>>=_) _ _ _;refine zL ?_
  unfold Builtin.SmallTypes.ownedTupleHandOut
  have hzf:(he.push { cls:=.type "tuple",data:=.seq #[x,y] }).get? z=some (ZO .ellipsis f1 TI TO):=zX _ hze
  refine zL (xE hzf (by simp) λhg hzg hsg=>?_)
  have hzg':hg.get? z=some (ZO (rawInt he.objs.size) f1 TI TO):=hzg
  refine xE hzg' (by simp) λhh hzh hsh=>?_
  have hzh':hh.get? z=some (ZO (rawInt he.objs.size) (.bool false) TI TO):=hzh
  have up:∀c o,c≠z->he.get? c=some o->hh.get? c=some o:=λc o n1 e=>hsh.extBut _ _ n1 (hsg.extBut _ _ n1 (zX _ e))
  have zlt:he.objs.size≠z:=vS (wA hze)
  have hTh:IsPair hh he.objs.size x y:=hsh.extBut _ _ zlt (hsg.extBut _ _ zlt (zY _ rfl))
  have hsz2:hh.objs.size=he.objs.size+1:=by rw[hsh.1,hsg.1,wB]
  rw[hsz]at hzh' hTh hsz2
  refine zM ⟨_,rfl,?_⟩
  rw[hsz]
  exact(hQ hh _ _ _ _ hzh' (.inr ⟨_,rfl⟩) (λ_ _=>⟨rfl,rfl,rfl,rfl⟩) (up _ _ D.TOz hTOe') (h1e.at λo e=>up _ o D.i1z e) (h2e.at λo e=>up _ o D.i2z e) hTh hsz2 λc o n1 n2 n3 n4 e=>up c o n1 (all c o n1 n2 n3 n4 e))
 ·intro nf ha g1 hza hsa
  simp only[wR,wS]
  rw[<- xK]
  refine zL ?_
  simp only[yS,yX]
  have hTIa:IsPair ha TI (.ref i1) (.ref i2):=hsa.extBut _ _ D.TIz hTI
  refine zL (zL (zN ?_))
  show wpAny _ _ (Builtin.SmallTypes.nextOf (.ref i1)>>=_) _ _ _
  refine zL (YT (h1.at λo e=>hsa.extBut _ o D.i1z e) (hl1.at λo e=>hsa.extBut _ o D.l1z e) hx λhb h1b hsb=>zM (zM ?_))
  refine zL (zL (zN ?_))
  show wpAny _ _ (Builtin.SmallTypes.nextOf (.ref i2)>>=_) _ _ _
  have ab:∀c o,c≠z->c≠i1->s.heap.get? c=some o->hb.get? c=some o:=λc o n1 n2 e=>hsb.extBut _ _ n2 (hsa.extBut _ _ n1 e)
  refine zL (YT (h2.at λo e=>ab _ o D.i2z D.i12.symm e) (hl2.at λo e=>ab _ o D.l2z D.l2i1 e) hy λhc h2c hsc=>zM (zM (zM ?_)))
  have hsz:hc.objs.size=s.heap.objs.size:=by rw[hsc.1,hsb.1,hsa.1]
  show wpAny _ _ (newTuple [x,y]>>=_) _ _ _
  refine zL (xJ ?_)
  have hzc:hc.get? z=some (ZO f0 g1 TI TO):=hsc.extBut _ _ D.i2z.symm (hsb.extBut _ _ D.i1z.symm hza)
  have all:∀c o,c≠z->c≠i1->c≠i2->s.heap.get? c=some o->(hc.push { cls:=.type "tuple",data:=.seq #[x,y] }).get? c=some o:=λc o n1 n2 n3 e=>zX _ (hsc.extBut _ _ n3 (ab c o n1 n2 e))
  have hQ':=hQ (hc.push { cls:=.type "tuple",data:=.seq #[x,y] }) f0 g1 a b (zX _ hzc) hf (λe1 _=>(nf e1).elim) (all _ _ D.TOz D.TOi1 D.TOi2 hTO) (h1b.at λo e=>zX _ (hsc.extBut _ o D.i12 e)) (h2c.at λo e=>zX _ e) (by rw[<- hsz];exact zY _ rfl) (by rw[wB,hsz]) λc o n1 _ n3 n4 e=>all c o n1 n3 n4 e
  refine zM ⟨_,rfl,?_⟩
  rw[<- hsz]at hQ'
  exact hQ'
theorem E9{t1 t2:Bool}{z TI TO i1 i2 l1 l2:Addr}{k1 k2:Nat}{xs ys:Array Value}{a b f0 f1:Value}{Q:Option Value->Shared->Prop}(hh:WI A s.heap)(hne:∀e,A.handled=some (.ref e)->e≠z/\e≠TO/\e≠i1/\e≠i2)(D:ZipApart z TI TO i1 i2 l1 l2) 
  (hz:s.heap.get? z=some (ZO f0 f1 TI TO)) (hf:Nf f0) (hTI:IsPair s.heap TI (.ref i1) (.ref i2)) (hTO:IsPair s.heap TO a b) (h1:WK t1 s.heap i1 l1 k1) (h2:WK t2 s.heap i2 l2 k2) (hl1:VT t1 s.heap l1 xs) (hl2:VT t2 s.heap l2 ys) (hend:xs[k1]? = none\/ys[k2]? = none)
  (hE:∀h' e,(∀c o,c≠z->c≠TO->c≠i1->c≠i2->s.heap.get? c=some o->h'.get? c=some o)->(∃o,h'.get? e=some o/\o.cls=.type "StopIteration")->E (.ref e) { s with heap:=h' }):wpAny (model prog w) A (callSpecial? (.ref z) "__next__") Q E s:=by
 have hT:s.TypeIs (.ref z) "zip":=⟨_,hz,rfl⟩
 refine wE (name:=Str.ofString "__next__") hT xF (wG xF hT F.entry_zip_next ?_ (F.args_zip_next_1 _))
 show wpAny _ _ (field (.ref z) 2>>=_) _ _ _;refine zL (zO hz rfl (x:=.bool false) rfl ?_)
 show wpAny _ _ (field (.ref z) 3>>=_) _ _ _;refine zL (zO hz rfl (x:=.ref TI) rfl (zL (wJ hTI rfl ?_)))
 show wpAny _ _ (Builtin.SmallTypes.ownedTupleIsFree (.ref z)>>=_) _ _ _;refine zL (Nz hz hf ?_ ?_)
 ·simp only[yD]
  refine zL (wL (zL (zO hz rfl (x:=.ref TO) rfl (zL (xE hz (by simp) λha hza hsa=>?_)))))
  have hzA:ha.get? z=some (ZO .ellipsis f1 TI TO):=hza
  refine zL ?_
  simp only[List.zipIdx_cons,List.zipIdx_nil,yS,yX]
  refine zL (zL (xG ?_))
  show wpAny _ _ (Builtin.SmallTypes.nextOf (.ref i1)>>=_) _ _ _
  cases hx:xs[k1]? with
  | none=>
   refine zL (XD (A:=A.in1) (hh.keep λe o he q=>hsa.extBut _ _ (hne e he).1 q) (λe he=>(hne e he).2.2.1) (h1.at λo e=>hsa.extBut _ o D.i1z e) (hl1.at λo e=>hsa.extBut _ o D.l1z e) hx λhb e hsb he=>?_)
   obtain⟨oe,hoe,hce⟩:=he
   have hzb:hb.get? z=some (ZO .ellipsis f1 TI TO):=hsb _ _ D.i1z.symm hzA
   have hez:e≠z:=λx=>by subst x;rw[hzb]at hoe;cases hoe;simp[ZO]at hce
   exact xE hzb (by simp) λhc _ hsc=>hE hc e (λc o n1 _ n3 _ x=>hsc.extBut _ _ n1 (hsb _ _ n3 (hsa.extBut _ _ n1 x))) ⟨oe,hsc.extBut _ _ hez hoe,hce⟩
  | some x=>
   have hy:ys[k2]? = none:=by rcases hend with h|h;rw[hx]at h;cases h;exact h
   refine zL (YT (h1.at λo e=>hsa.extBut _ o D.i1z e) (hl1.at λo e=>hsa.extBut _ o D.l1z e) hx λhb h1b hsb=>zM ?_)
   have hTOb:IsPair hb TO a b:=hsb.extBut _ _ D.TOi1 (hsa.extBut _ _ D.TOz hTO)
   refine zL (wJ hTOb rfl (zL (xH hTOb λhc hTOc hsc=>zL (xI (zM ?_)))))
   refine zL (zL (xG ?_))
   show wpAny _ _ (Builtin.SmallTypes.nextOf (.ref i2)>>=_) _ _ _
   have abc:∀c o,c≠z->c≠i1->c≠TO->s.heap.get? c=some o->hc.get? c=some o:=λc o n1 n2 n3 e=>hsc.extBut _ _ n3 (hsb.extBut _ _ n2 (hsa.extBut _ _ n1 e))
   refine zL (XD (A:=A.in1) (hh.keep λe o he q=>abc e o (hne e he).1 (hne e he).2.2.1 (hne e he).2.1 q) (λe he=>(hne e he).2.2.2) (h2.at λo e=>abc _ o D.i2z D.i12.symm D.TOi2.symm e) (hl2.at λo e=>abc _ o D.l2z D.l2i1 D.l2TO e) hy λhd e hsd he=>?_)
   obtain⟨oe,hoe,hce⟩:=he
   have hzd:hd.get? z=some (ZO .ellipsis f1 TI TO):=hsd _ _ D.i2z.symm (hsc.extBut _ _ D.TOz.symm (hsb.extBut _ _ D.i1z.symm hzA))
   have hez:e≠z:=λx=>by subst x;rw[hzd]at hoe;cases hoe;simp[ZO]at hce
   exact xE hzd (by simp) λhf _ hsf=>hE hf e (λc o n1 n2 n3 n4 x=>hsf.extBut _ _ n1 (hsd _ _ n4 (abc c o n1 n3 n2 x))) ⟨oe,hsf.extBut _ _ hez hoe,hce⟩
 ·intro _ ha g1 hza hsa
  simp only[wR,wS]
  rw[<- xK]
  refine zL ?_
  simp only[yS,yX]
  refine zL (zL (zN ?_))
  show wpAny _ _ (Builtin.SmallTypes.nextOf (.ref i1)>>=_) _ _ _
  cases hx:xs[k1]? with
  | none=>
   refine zL (XD (A:=A.in1) (hh.keep λe o he q=>hsa.extBut _ _ (hne e he).1 q) (λe he=>(hne e he).2.2.1) (h1.at λo e=>hsa.extBut _ o D.i1z e) (hl1.at λo e=>hsa.extBut _ o D.l1z e) hx λhb e hsb he=>?_)
   exact hE hb e (λc o n1 _ n3 _ x=>hsb _ _ n3 (hsa.extBut _ _ n1 x)) he
  | some x=>
   have hy:ys[k2]? = none:=by rcases hend with h|h;rw[hx]at h;cases h;exact h
   refine zL (YT (h1.at λo e=>hsa.extBut _ o D.i1z e) (hl1.at λo e=>hsa.extBut _ o D.l1z e) hx λhb h1b hsb=>zM (zM ?_))
   refine zL (zL (zN ?_))
   show wpAny _ _ (Builtin.SmallTypes.nextOf (.ref i2)>>=_) _ _ _
   have ab:∀c o,c≠z->c≠i1->s.heap.get? c=some o->hb.get? c=some o:=λc o n1 n2 e=>hsb.extBut _ _ n2 (hsa.extBut _ _ n1 e)
   refine zL (XD (A:=A.in1) (hh.keep λe o he q=>ab e o (hne e he).1 (hne e he).2.2.1 q) (λe he=>(hne e he).2.2.2) (h2.at λo e=>ab _ o D.i2z D.i12.symm e) (hl2.at λo e=>ab _ o D.l2z D.l2i1 e) hy λhd e hsd he=>?_)
   exact hE hd e (λc o n1 _ n3 n4 x=>hsd _ _ n4 (ab c o n1 n3 x)) he
theorem MT{t1 t2:Bool}{z TI TO i1 i2 l1 l2:Addr}{k1 k2:Nat}{xs ys:Array Value}{x y a b:Value}{Q:Option Value->Shared->Prop}(D:ZipApart z TI TO i1 i2 l1 l2) 
  (hz:IsZip s.heap z TI TO .none) (hTI:IsPair s.heap TI (.ref i1) (.ref i2)) (hTO:IsPair s.heap TO a b) (h1:WK t1 s.heap i1 l1 k1) (h2:WK t2 s.heap i2 l2 k2) (hl1:VT t1 s.heap l1 xs) (hl2:VT t2 s.heap l2 ys) (hx:xs[k1]? = some x) (hy:ys[k2]? = some y)
  (hQ:∀h',IsZip h' z TI TO (rawInt s.heap.objs.size)->IsPair h' TO x y->WK t1 h' i1 l1 (k1+1)->WK t2 h' i2 l2 (k2+1)->IsPair h' s.heap.objs.size x y->h'.objs.size=s.heap.objs.size+1 ->
   (∀c o,c≠z->c≠TO->c≠i1->c≠i2->s.heap.get? c=some o->h'.get? c=some o)->Q (some (.ref s.heap.objs.size)) { s with heap:=h' }):wpAny (model prog w) A (pyNext (.ref z)) Q E s:=by
 unfold pyNext
 exact zL (wD (H9 D hz (.inl rfl) hTI hTO h1 h2 hl1 hl2 hx hy λh' g0 g1 a' b' z1 _ z2 z3 z4 z5 z6 z7 z8=>by
  obtain⟨rfl,rfl,rfl,rfl⟩:=z2 rfl rfl
  exact zM (hQ h' z1 z3 z4 z5 z6 z7 z8)))
theorem JO{t1 t2:Bool}{z TI TO i1 i2 l1 l2:Addr}{k1 k2:Nat}{xs ys:Array Value}{a b:Value}{Q:Option Value->Shared->Prop}(hh:WI A s.heap)(hne:∀e,A.handled=some (.ref e)->e≠z/\e≠TO/\e≠i1/\e≠i2)(D:ZipApart z TI TO i1 i2 l1 l2) 
  (hz:IsZip s.heap z TI TO .none) (hTI:IsPair s.heap TI (.ref i1) (.ref i2)) (hTO:IsPair s.heap TO a b) (h1:WK t1 s.heap i1 l1 k1) (h2:WK t2 s.heap i2 l2 k2) (hl1:VT t1 s.heap l1 xs) (hl2:VT t2 s.heap l2 ys) (hend:xs[k1]? = none\/ys[k2]? = none)
  (hQ:∀h',(∀c o,c≠z->c≠TO->c≠i1->c≠i2->s.heap.get? c=some o->h'.get? c=some o)->Q none { s with heap:=h' }):wpAny (model prog w) A (pyNext (.ref z)) Q E s:=by
 have fin:∀(h':Heap) (e:Addr),(∀c o,c≠z->c≠TO->c≠i1->c≠i2->s.heap.get? c=some o->h'.get? c=some o)->(∃o,h'.get? e=some o/\o.cls=.type "StopIteration") ->
   wpAny (model prog w) A (do if <- isInstance (.ref e) (.type "StopIteration") then pure none else throw (.ref e):Sem (Option Value)) Q E { s with heap:=h' }:=λh' e hk ⟨o,ho,hc⟩=>
  zL (wN (T:="StopIteration") (b:=true) ⟨o,ho,hc⟩ wO (zM (hQ _ hk)))
 unfold pyNext
 exact zL (wD (E9 hh hne D hz (.inl rfl) hTI hTO h1 h2 hl1 hl2 hend fin))
abbrev zA(h:Heap)(t1:Bool)(l1:Addr):Heap:=h.push (Qv t1 l1)
abbrev zB(h:Heap)(t1 t2:Bool)(l1 l2:Addr):Heap:=(zA h t1 l1).push (Qv t2 l2)
abbrev zC(h:Heap)(t1 t2:Bool)(l1 l2:Addr):Heap:=(zB h t1 t2 l1 l2).push { cls:=.type "tuple",data:=.seq #[.ref h.objs.size,.ref (zA h t1 l1).objs.size] }
abbrev zD(h:Heap)(t1 t2:Bool)(l1 l2:Addr):Heap:=(zC h t1 t2 l1 l2).push { cls:=.type "tuple",data:=.seq #[.none,.none] }
abbrev zE(h:Heap)(t1 t2:Bool)(l1 l2:Addr):Heap:=(zD h t1 t2 l1 l2).push { cls:=.type "zip",data:=.fields #[.none,.bool false,.bool false,.ref (zB h t1 t2 l1 l2).objs.size,.ref (zC h t1 t2 l1 l2).objs.size] }
theorem OB(t1 t2:Bool)(l1 l2:Addr)(xs ys:Array Value):
  Meets (Builtin.«zip.__new__» ⟨[.type "zip",.ref l1,.ref l2],[]⟩) (λ_ R s=>VT t1 s.heap l1 xs/\VT t2 s.heap l2 ys/\R (.ok (.ret (.ref (zD s.heap t1 t2 l1 l2).objs.size))) { s with heap:=zE s.heap t1 t2 l1 l2 }):=
 .of_wp λprog w A R s h=>by
  obtain⟨hp,g,d,tk,os⟩:=s;obtain⟨hl1,hl2,h⟩:=h
  have hsub:=sub_zip
  have hL1:VT t1 (Shared.heap ⟨hp,g,d,tk,os⟩) l1 xs:=hl1
  have hL2:VT t2 (Shared.heap ⟨hp.push (Qv t1 l1),g,d,tk,os⟩) l2 ys:=VT.at hl2 λo e=>zX _ e
  wp_walk using Pl hL1,Pl hL2
  exact⟨_,rfl,h⟩
theorem Mh{t1 t2:Bool}{l1 l2:Addr}{xs ys:Array Value}{Q:Value->Shared->Prop}(hl1:VT t1 s.heap l1 xs)(hl2:VT t2 s.heap l2 ys) 
  (h:∀h',IsZip h' (s.heap.objs.size+4) (s.heap.objs.size+2) (s.heap.objs.size+3) .none->IsPair h' (s.heap.objs.size+2) (.ref s.heap.objs.size) (.ref (s.heap.objs.size+1))->IsPair h' (s.heap.objs.size+3) .none .none ->
   WK t1 h' s.heap.objs.size l1 0->WK t2 h' (s.heap.objs.size+1) l2 0->(∀c o,s.heap.get? c=some o->h'.get? c=some o)->Q (.ref (s.heap.objs.size+4)) { s with heap:=h' }) :
  wpAny (model prog w) A (call (.type "zip") [.ref l1,.ref l2]) Q E s:=by
 refine callType_new F.called_zip (by decide) (F.typeCall_zip_2 _ _) (F.newCall_zip_2 _ _) (λobj=>F.args_object_init_3 obj _ _) F.entry_zip_new (OB t1 t2 l1 l2 xs ys) ⟨hl1,hl2,?_⟩
 have z1:(zA s.heap t1 l1).objs.size=s.heap.objs.size+1:=wB ..
 have z2:(zB s.heap t1 t2 l1 l2).objs.size=s.heap.objs.size+2:=by rw[wB,z1]
 have z3:(zC s.heap t1 t2 l1 l2).objs.size=s.heap.objs.size+3:=by rw[wB,z2]
 have z4:(zD s.heap t1 t2 l1 l2).objs.size=s.heap.objs.size+4:=by rw[wB,z3]
 have g5:(zE s.heap t1 t2 l1 l2).get? (zD s.heap t1 t2 l1 l2).objs.size=some _:=zY _ rfl
 have g4:(zE s.heap t1 t2 l1 l2).get? (zC s.heap t1 t2 l1 l2).objs.size=some _:=zX _ (zY _ rfl)
 have g3:(zE s.heap t1 t2 l1 l2).get? (zB s.heap t1 t2 l1 l2).objs.size=some _:=zX _ (zX _ (zY _ rfl))
 have g2:(zE s.heap t1 t2 l1 l2).get? (zA s.heap t1 l1).objs.size=some (Qv t2 l2):=zX _ (zX _ (zX _ (zY _ (by cases t2<;>rfl))))
 have g1:(zE s.heap t1 t2 l1 l2).get? s.heap.objs.size=some (Qv t1 l1):=zX _ (zX _ (zX _ (zX _ (zY _ (by cases t1<;>rfl)))))
 show _/\_
 rw[z2,z3,z4]at g5
 rw[z1,z2]at g3
 rw[z3]at g4
 rw[z1]at g2
 rw[z4]
 have mk:∀(t:Bool) (a l:Addr),(zE s.heap t1 t2 l1 l2).get? a=some (Qv t l)->WK t (zE s.heap t1 t2 l1 l2) a l 0:=λt a l e=>by
  cases t<;>exact⟨_,e,rfl,rfl⟩
 exact⟨⟨_,g5,rfl⟩,h _ g5 g3 g4 (mk _ _ _ g1) (mk _ _ _ g2) λc o x=>zX _ (zX _ (zX _ (zX _ (zX _ x))))⟩
end
def S3(K:Frag)(t:Bool)(H:Hp)(a:Addr)(xs:List V):Prop:=match t with|true=>X7 K H a xs|false=>Xg K H a xs
theorem Zv.sq{X:Cx}{pins:List (Addr×Obj)}{σ:St}{H:Hp}{s:Shared}{t:Bool}{a:Addr}{xs:List V}(I:Zv X pins σ H s)(h:S3 X.K t H a xs):∃its:List Value,ZD xs its/\VT t s.heap a its.toArray/\xs.length≤sizeLine:=by
 cases t
 ·obtain⟨its,r,p,z⟩:=I.list h
  exact⟨its,r,p.isList,z⟩
 ·obtain⟨its,r,p,z⟩:=I.tuple h
  exact⟨its,r,p,z⟩
theorem Zv.sq_inj{X:Cx}{pins:List (Addr×Obj)}{σ:St}{H:Hp}{s:Shared}{t:Bool}{a:Addr}{xs ys:List V}(I:Zv X pins σ H s)(h:S3 X.K t H a xs)(h':S3 X.K t H a ys):xs=ys:=by
 cases t
 ·exact I.list_inj h h'
 ·exact I.tuple_inj h h'
def CF(K:Frag)(t1 t2:Bool)(a b:Addr):It:=
 ⟨λi H=>∃xs ys x y,S3 K t1 H a xs/\S3 K t2 H b ys/\xs[i]? = some x/\ys[i]? = some y,
   λi H v H'=>∃p x y,v=.ref p/\H p=none/\H'=upd H p (.tup [x,y])/\∀xs ys,S3 K t1 H a xs->S3 K t2 H b ys->xs[i]? = some x/\ys[i]? = some y,
   λi H=>∃xs ys,S3 K t1 H a xs/\S3 K t2 H b ys/\(xs.length≤i\/ys.length≤i),true⟩
def B8(t1 t2:Bool)(z TI TO i1 i2 l1 l2:Addr)(i:Nat)(h:Heap):Prop:=ZipApart z TI TO i1 i2 l1 l2/\IsZip h z TI TO .none/\IsPair h TI (.ref i1) (.ref i2)/\(∃a b,IsPair h TO a b)/\WK t1 h i1 l1 i/\WK t2 h i2 l2 i
theorem JF{P:Program}{w:World}{K:Frag}{elts:List Expr}{kk:Nat}{pos:Pos}(t1 t2:Bool)(z TI TO i1 i2 l1 l2:Addr):Oe P w K (.Tuple elts kk pos) (CF K t1 t2 l1 l2) [z,TI,TO,i1,i2] z (B8 t1 t2 z TI TO i1 i2 l1 l2) where
 mem:=by simp
 obj:=λi h st b hb=>by
  obtain⟨_,hz,hTI,⟨x,y,hTO⟩,h1,h2⟩:=st
  simp only[vE,xL,xM]at hb
  rcases hb with e|e|e|e|e
  ·subst e;exact⟨_,hz,λv q=>by cases q⟩
  ·subst e;exact⟨_,hTI,λv q=>by cases q⟩
  ·subst e;exact⟨_,hTO,λv q=>by cases q⟩
  ·subst e;exact h1.obj
  ·subst e;exact h2.obj
 keep:=λi h h' st k=>by
  obtain⟨D,hz,hTI,⟨x,y,hTO⟩,h1,h2⟩:=st
  exact⟨D,k z (by simp) _ hz,k TI (by simp) _ hTI,⟨x,y,k TO (by simp) _ hTO⟩,h1.at λo e=>k i1 (by simp) o e,h2.at λo e=>k i2 (by simp) o e⟩
 item:=by
  intro X hP hw hK hc i pins s σ H E I hf st hg
  subst hP hw hK
  obtain⟨xs,ys,x,y,q1,q2,gx,gy⟩:=hg
  obtain⟨D,hz,hTI,⟨a,b,hTO⟩,h1,h2⟩:=st
  obtain⟨us,ru,su,_⟩:=I.sq q1
  obtain⟨vs,rv,sv,_⟩:=I.sq q2
  obtain⟨u,hu,rx⟩:=ru.get gx
  obtain⟨v,hv,ry⟩:=rv.get gy
  refine MT D hz hTI hTO h1 h2 su sv (x:=u) (y:=v) (by simpa using hu) (by simpa using hv) λh' z1 z2 z3 z4 z5 z6 z7=>⟨_,rfl,?_⟩
  have szn:s.heap.objs.size≠z:=vS (wA hz)
  refine wpAny_letOwnedTupleGo_zip z1 λh'' w1 w2=>?_
  have hall:∀c o,c≠z->c≠TO->c≠i1->c≠i2->s.heap.get? c=some o->h''.get? c=some o:=λc o n1 n2 n3 n4 e=>w2.extBut _ _ n1 (z7 c o n1 n2 n3 n4 e)
  have hn:H s.heap.objs.size=none:=I.hok.fresh (vU _)
  have f:=λb hb=>hf b hb
  have ch:∀b,b ∉ [z,TO,i1,i2]->b≠z/\b≠TO/\b≠i1/\b≠i2:=λb hb=>by
   simp only[vE,xL,xM,not_or]at hb
   exact hb
  have inf:∀b∈[z,TO,i1,i2],b∈[z,TI,TO,i1,i2]:=λb hb=>by
   simp only[vE,xL,xM]at hb |-
   rcases hb with e|e|e|e<;>simp[e]
  have tr:∀b o,H b=some o->b ∉ [z,TO,i1,i2]:=λb o e hb=>by rw[(f b (inf b hb)).1]at e;cases e
  have nsz:∀b o,H b=some o->b≠s.heap.objs.size:=λb o e q=>by rw[q,hn]at e;cases e
  have pair:h''.get? s.heap.objs.size=some { cls:=.type "tuple",data:=.seq #[u,v] }:=w2.extBut _ _ szn z5
  refine⟨.ref s.heap.objs.size,upd H s.heap.objs.size (.tup [x,y]),Zv.step (s:=s) (h':=h'') (g':=s.gens) (d':=s.drawn) (t':=s.toks) (ch:=[z,TO,i1,i2]) I (λb hb=>?_) (λb o _ _ hb e _=>?_) (λb o _ _ hb e _=>⟨o.slots,?_⟩) (λb o hb e n=>?_) (λb o hb e=>⟨o,?_⟩) (λb zs e=>?_) (λb o zs e=>?_) (λb ps e=>⟨#[],?_⟩) (λm hm=>?_) (λb o e=>?_) I.bare,rfl,⟨s.heap.objs.size,x,y,rfl,hn,rfl,λxs' ys' p1 p2=>?_⟩,?_,λb hb=>?_⟩
  ·obtain⟨_,f1,f2,f3,f4,f5⟩:=f b (inf b hb)
   exact⟨f3,f1,f4,f5⟩
  ·obtain⟨n1,n2,n3,n4⟩:=ch b hb;exact hall b o n1 n2 n3 n4 e
  ·obtain⟨n1,n2,n3,n4⟩:=ch b hb;exact hall b o n1 n2 n3 n4 e
  ·rw[Zi (wP (wA e))];exact n
  ·obtain⟨n1,n2,n3,n4⟩:=ch b hb;exact hall b o n1 n2 n3 n4 e
  ·rw[Zi (nsz b _ e)];exact e
  ·rw[Zi (nsz b _ e)];exact e
  ·rw[Zi (nsz b _ e),e];simp
  ·obtain⟨o,es,ep,ho,r⟩:=hm
   have nl:X.env.locals ∉ [z,TO,i1,i2]:=λhb=>(f _ (inf _ hb)).2.1 rfl
   obtain⟨n1,n2,n3,n4⟩:=ch _ nl
   exact⟨o,es,ep,hall _ o n1 n2 n3 n4 ho,r⟩
  ·by_cases hb:b=s.heap.objs.size
   ·subst hb;rw[Zw]at e;cases e
    exact⟨L2.sz2,[u,v],.cons rx (.cons ry .nil),_,pair,rfl,_,rfl,rfl⟩
   ·rw[Zi hb]at e
    refine(I.hok b o e).stay (λc o' hc q=>?_) (λc q=>by rw[Zi (nsz c _ q)];exact q) λc zs q=>by rw[Zi (nsz c _ q)];exact q
    have nc:c ∉ [z,TO,i1,i2]:=by
     rcases hc with hc|hc
     ·rw[hc];exact tr b o e
     ·exact tr c _ hc
    obtain⟨n1,n2,n3,n4⟩:=ch c nc
    exact hall c o' n1 n2 n3 n4 q
  ·rw[I.sq_inj p1 q1,I.sq_inj p2 q2];exact⟨gx,gy⟩
  ·exact⟨D,w1,hall _ _ D.TIz D.TITO D.TIi1 D.TIi2 hTI,⟨_,_,w2.extBut _ _ D.TOz z2⟩,z3.at λo e=>w2.extBut _ o D.i1z e,z4.at λo e=>w2.extBut _ o D.i2z e⟩
  ·obtain⟨o,e,_⟩:=(show ∃o,s.heap.get? b=some o/\∀v,o.data≠.cell v from by
    simp only[vE,xL,xM]at hb
    rcases hb with q|q|q|q|q
    ·subst q;exact⟨_,hz,λv q=>by cases q⟩
    ·subst q;exact⟨_,hTI,λv q=>by cases q⟩
    ·subst q;exact⟨_,hTO,λv q=>by cases q⟩
    ·subst q;exact h1.obj
    ·subst q;exact h2.obj)
   rw[Zi (wP (wA e))];exact(f b hb).1
 done:=by
  intro X hP hw hK hc i pins s σ H E I hf st hg
  subst hP hw hK
  obtain⟨xs,ys,q1,q2,ge⟩:=hg
  obtain⟨D,hz,hTI,⟨a,b,hTO⟩,h1,h2⟩:=st
  obtain⟨us,ru,su,_⟩:=I.sq q1
  obtain⟨vs,rv,sv,_⟩:=I.sq q2
  have lu:=ru.length
  have lv:=rv.length
  refine JO (I.hdOkW hc).1 (λe he=>⟨λz=>(I.hdOkW hc).2 e he (by rw[z];exact(hf _ (by simp)).1),λz=>(I.hdOkW hc).2 e he (by rw[z];exact(hf _ (by simp)).1),λz=>(I.hdOkW hc).2 e he (by rw[z];exact(hf _ (by simp)).1),λz=>(I.hdOkW hc).2 e he (by rw[z];exact(hf _ (by simp)).1)⟩) D hz hTI hTO h1 h2 su sv (by
   rcases ge with e|e
   ·exact .inl (by simp;omega)
   ·exact .inr (by simp;omega)) λh' hk=>⟨rfl,?_⟩
  have f:=λb hb=>hf b hb
  have ch:∀b,b ∉ [z,TO,i1,i2]->b≠z/\b≠TO/\b≠i1/\b≠i2:=λb hb=>by
   simp only[vE,xL,xM,not_or]at hb
   exact hb
  have inf:∀b∈[z,TO,i1,i2],b∈[z,TI,TO,i1,i2]:=λb hb=>by
   simp only[vE,xL,xM]at hb |-
   rcases hb with e|e|e|e<;>simp[e]
  have tr:∀b o,H b=some o->b ∉ [z,TO,i1,i2]:=λb o e hb=>by rw[(f b (inf b hb)).1]at e;cases e
  have kk:∀b o,b ∉ [z,TO,i1,i2]->s.heap.get? b=some o->h'.get? b=some o:=λb o hb e=>by obtain⟨n1,n2,n3,n4⟩:=ch b hb;exact hk b o n1 n2 n3 n4 e
  refine I.step (g':=s.gens) (d':=s.drawn) (t':=s.toks) (ch:=[z,TO,i1,i2]) (λb hb=>?_) (λb o _ _ hb e _=>kk b o hb e) (λb o _ _ hb e _=>⟨o.slots,kk b o hb e⟩) (λb o hb e n=>n) (λb o hb e=>⟨o,kk b o hb e⟩) (λb zs e=>e) (λb o zs e=>e) (λb ps e=>⟨#[],by rw[e];simp⟩) (λm hm=>?_) (λb o e=>?_) I.bare
  ·obtain⟨_,f1,f2,f3,f4,f5⟩:=f b (inf b hb)
   exact⟨f3,f1,f4,f5⟩
  ·obtain⟨o,es,ep,ho,r⟩:=hm
   exact⟨o,es,ep,kk _ o (λhb=>(f _ (inf _ hb)).2.1 rfl) ho,r⟩
  ·refine(I.hok b o e).stay (λc o' hc q=>kk c o' ?_ q) (λc q=>q) λc zs q=>q
   rcases hc with hc|hc
   ·rw[hc];exact tr b o e
   ·exact tr c _ hc
 self:=λ_ _ _ _ _ st h=>wpAny_pyIter_zip st.2.1 h
section
variable {X:Cx}
def Fm(K:Frag)(t1 t2:Bool)(ta:TA):TI:=λσ H R=>ta σ H λvs H1=>∃a b xs ys,vs=[.ref a,.ref b]/\S3 K t1 H1 a xs/\S3 K t2 H1 b ys/\R (CF K t1 t2 a b) H1
theorem FJ{elts:List Expr}{kk:Nat}{tp:Pos}{a b:Expr}{ta:TA}{p pos:Pos}(t1 t2:Bool)(hg:Gl X "zip")(hm:X.mg "zip" = none)(ha:PA X [a,b] ta)(hs:starEach [a,b] X.env=[(false,eval a X.env),(false,eval b X.env)]:=by rfl)(hs2:starEach [b] X.env=[(false,eval b X.env)]:=by rfl)(hc:X.calm=true:=by rfl):
  PI X (.Tuple elts kk tp) (.Call (.Name "zip" p) [a,b] [] pos) (Fm X.K t1 t2 ta):=by
 intro pins s σ H R I h
 refine Call_ (VJ I hg hm boot_zip (vV (Y2 (ha pos pins s σ H _ I h) λus s1 ⟨vs,H1,I1,r1,q1⟩=>?_) (by rw[hs,hs2]) (by rw[hs2];rfl)))
 obtain⟨l1,l2,xs,ys,e,q1,q2,q⟩:=q1
 subst e
 cases r1 with
 | cons r rr=>
  cases rr with
  | cons r' rr=>
   cases rr
   cases r
   cases r'
   obtain⟨us,_,su,_⟩:=I1.sq q1
   obtain⟨vs,_,sv,_⟩:=I1.sq q2
   refine Mh su sv λh' z1 z2 z3 z4 z5 z6=>?_
   have I2:Zv X pins σ H1 { s1 with heap:=h' }:=I1.kept (t':=s1.toks) z6
   refine wpAny_pyIter_zip z1 ⟨_,[s1.heap.objs.size+4,s1.heap.objs.size+2,s1.heap.objs.size+3,s1.heap.objs.size,s1.heap.objs.size+1],_,_,H1,rfl,I2,JF t1 t2 _ _ _ _ _ l1 l2,⟨zipApart_new su.lt sv.lt,z1,z2,⟨_,_,z3⟩,z4,z5⟩,λb hb=>?_,.inr ⟨rfl,hc⟩,q⟩
   have le:s1.heap.objs.size≤b:=by
    simp only[vE,xL,xM]at hb
    rcases hb with e|e|e|e|e<;>rw[e]<;>first|exact vU _|exact xB _ _
   have fo:=I1.fpOk le (I1.hok.fresh le)
   exact fo
end
mutual
def DV(K:Frag)(H:Hp):PyData->V->Prop
 | .none,v=>v=.non
 | .bool b,v=>v=.bl b
 | .int i,v=>v=.int i
 | .str x,v=>v=.str x
 | .list ds,v=>∃a xs,v=.ref a/\Xg K H a xs/\Y3 K H ds xs
 | .tuple ds,v=>∃a xs,v=.ref a/\X7 K H a xs/\Y3 K H ds xs
 | .dict _,_=>False
def Y3(K:Frag)(H:Hp):List PyData->List V->Prop
 | [],xs=>xs=[]
 | d::ds,xs=>∃x r,xs=x::r/\DV K H d x/\Y3 K H ds r
end
theorem Z5.tup{K:Frag}{H H':Hp}{a:Addr}{xs:List V}(e:Z5 H H')(h:X7 K H a xs):X7 K H' a xs:=by
 rcases h with (h|⟨o,h⟩)|h
 ·exact .inl (.inl (e _ _ h))
 ·exact .inl (.inr ⟨o,e _ _ h⟩)
 ·exact .inr h
mutual
theorem DV.same{K:Frag}{H H':Hp}(e:Z5 H H'):∀{d:PyData}{v:V},DV K H d v->DV K H' d v
 | .none,_,h=>by unfold DV at h |-;exact h
 | .bool _,_,h=>by unfold DV at h |-;exact h
 | .int _,_,h=>by unfold DV at h |-;exact h
 | .str _,_,h=>by unfold DV at h |-;exact h
 | .list ds,_,h=>by
  unfold DV at h |-
  obtain⟨a,xs,q1,q2,q3⟩:=h
  exact⟨a,xs,q1,e.seq q2,Y3.same e q3⟩
 | .tuple ds,_,h=>by
  unfold DV at h |-
  obtain⟨a,xs,q1,q2,q3⟩:=h
  exact⟨a,xs,q1,e.tup q2,Y3.same e q3⟩
 | .dict _,_,h=>by unfold DV at h;exact h.elim
theorem Y3.same{K:Frag}{H H':Hp}(e:Z5 H H'):∀{ds:List PyData}{xs:List V},Y3 K H ds xs->Y3 K H' ds xs
 | [],_,h=>by unfold Y3 at h |-;exact h
 | d::ds,_,h=>by
  unfold Y3 at h |-
  obtain⟨x,r,q1,q2,q3⟩:=h
  exact⟨x,r,q1,DV.same e q2,Y3.same e q3⟩
end
theorem Y3.ints{K:Frag}{H:Hp}:∀ns:List Int,Y3 K H (ns.map .int) (ns.map .int)
 | []=>by unfold Y3;rfl
 | n::r=>by unfold Y3;exact⟨_,_,rfl,by unfold DV;rfl,Y3.ints r⟩
theorem Y3.nil{K:Frag}{H:Hp}:Y3 K H [] []:=by unfold Y3;rfl
theorem Y3.cons{K:Frag}{H:Hp}{d:PyData}{ds:List PyData}{x:V}{xs:List V}(h:DV K H d x)(t:Y3 K H ds xs):Y3 K H (d::ds) (x::xs):=by unfold Y3;exact⟨x,xs,rfl,h,t⟩
theorem DV.int{K:Frag}{H:Hp}(i:Int):DV K H (.int i) (.int i):=by unfold DV;rfl
theorem DV.bool{K:Frag}{H:Hp}(i:Bool):DV K H (.bool i) (.bl i):=by unfold DV;rfl
theorem DV.list{K:Frag}{H:Hp}{a:Addr}{xs:List V}{ds:List PyData}(h:Xg K H a xs)(t:Y3 K H ds xs):DV K H (.list ds) (.ref a):=by unfold DV;exact⟨a,xs,rfl,h,t⟩
theorem DV.tup{K:Frag}{H:Hp}{a:Addr}{xs:List V}{ds:List PyData}(h:X7 K H a xs)(t:Y3 K H ds xs):DV K H (.tuple ds) (.ref a):=by unfold DV;exact⟨a,xs,rfl,h,t⟩
theorem Y3.append{K:Frag}{H:Hp}:∀{ds es:List PyData}{xs ys:List V},Y3 K H ds xs->Y3 K H es ys->Y3 K H (ds++es) (xs++ys)
 | [],_,_,_,h,t=>by unfold Y3 at h;subst h;exact t
 | d::ds,es,_,ys,h,t=>by
  unfold Y3 at h
  obtain⟨x,r,q1,q2,q3⟩:=h
  subst q1
  exact Y3.cons q2 (Y3.append q3 t)
theorem Y3.length{K:Frag}{H:Hp}:∀{ds:List PyData}{xs:List V},Y3 K H ds xs->ds.length=xs.length
 | [],_,h=>by unfold Y3 at h;subst h;rfl
 | d::ds,_,h=>by
  unfold Y3 at h
  obtain⟨x,r,q1,q2,q3⟩:=h
  subst q1
  rw[uC,uC,Y3.length q3]
theorem Y3.get{K:Frag}{H:Hp}:∀{ds:List PyData}{xs:List V}{i:Nat}{x:V},Y3 K H ds xs->xs[i]? = some x->∃d,ds[i]? = some d/\DV K H d x
 | [],_,i,x,h,e=>by unfold Y3 at h;subst h;simp at e
 | d::ds,_,0,x,h,e=>by
  unfold Y3 at h
  obtain⟨y,r,q1,q2,q3⟩:=h
  subst q1
  simp at e;subst e
  exact⟨d,rfl,q2⟩
 | d::ds,_,i+1,x,h,e=>by
  unfold Y3 at h
  obtain⟨y,r,q1,q2,q3⟩:=h
  subst q1
  obtain⟨d',h1,h2⟩:=Y3.get (i:=i) (x:=x) q3 (by simpa using e)
  exact⟨d',by simpa using h1,h2⟩
section
variable {X:Cx}{pins:List (Addr×Obj)}{σ:St}{H:Hp}{s:Shared}
mutual
theorem Zv.reads(I:Zv X pins σ H s):∀{d:PyData}{v:V}{u:Value},DV X.K H d v->ZL v u->∃as,Reads s.heap u d as
 | .none,_,u,h,r=>by unfold DV at h;subst h;cases (show u=Value.none from r);exact⟨_,.none⟩
 | .bool b,_,u,h,r=>by unfold DV at h;subst h;cases (show u=Value.bool b from r);exact⟨_,.bool b⟩
 | .int i,_,u,h,r=>by unfold DV at h;subst h;obtain⟨t,q⟩:=(show ∃t,u=Value.int i t from r);cases q;exact⟨_,.int i t⟩
 | .str x,_,u,h,r=>by unfold DV at h;subst h;obtain⟨t,q⟩:=(show ∃t,u=Value.str x t from r);cases q;exact⟨_,.str x t⟩
 | .list ds,_,u,h,r=>by
  unfold DV at h
  obtain⟨a,xs,q1,q2,q3⟩:=h
  subst q1
  cases (show u=Value.ref a from r)
  obtain⟨its,rv,p,_⟩:=I.list q2
  obtain⟨as,ra⟩:=Zv.readsAll I q3 rv
  obtain⟨o,e,c,n,d⟩:=p.isList
  exact⟨_,.list e c d (by simpa using ra)⟩
 | .tuple ds,_,u,h,r=>by
  unfold DV at h
  obtain⟨a,xs,q1,q2,q3⟩:=h
  subst q1
  cases (show u=Value.ref a from r)
  obtain⟨its,rv,p,_⟩:=I.tuple q2
  obtain⟨as,ra⟩:=Zv.readsAll I q3 rv
  obtain⟨o,e,c,n,d⟩:=p
  exact⟨_,.tuple e c d (by simpa using ra)⟩
 | .dict _,_,_,h,_=>by unfold DV at h;exact h.elim
theorem Zv.readsAll(I:Zv X pins σ H s):∀{ds:List PyData}{xs:List V}{us:List Value},Y3 X.K H ds xs->ZD xs us->∃as,ReadsAll s.heap us ds as
 | [],_,_,h,r=>by unfold Y3 at h;subst h;cases r;exact⟨_,.nil⟩
 | d::ds,_,us,h,r=>by
  unfold Y3 at h
  obtain⟨x,t,q1,q2,q3⟩:=h
  subst q1
  cases r with
  | cons r1 r2=>
   obtain⟨as,ra⟩:=Zv.reads I q2 r1
   obtain⟨bs,rb⟩:=Zv.readsAll I q3 r2
   exact⟨_,.cons ra rb⟩
end
end
section
variable {X:Cx}
def F_(K:Frag)(neg:Bool):R2:=λx y H Q=>∃da db,DV K H da x/\DV K H db y/\SeqAt.shaped da=true/\SeqAt.shaped db=true/\Q (.bl (if neg then !PyData.eqv da db else PyData.eqv da db)) H
theorem F1(hu:X.A.units+64<cLine):XZ X (compareOp .Eq) (F_ X.K false):=by
 rintro pins s σ H x y v u Q I rx ry ⟨da,db,h1,h2,s1,s2,q⟩
 obtain⟨as,ra⟩:=I.reads h1 rx
 obtain⟨bs,rb⟩:=I.reads h2 ry
 exact SeqAt.compareEq_shaped ra rb s1 s2 hu ⟨.bl (PyData.eqv da db),H,I,rfl,q⟩
theorem OG(hu:X.A.units+64<cLine):XZ X (compareOp .NotEq) (F_ X.K true):=by
 rintro pins s σ H x y v u Q I rx ry ⟨da,db,h1,h2,s1,s2,q⟩
 obtain⟨as,ra⟩:=I.reads h1 rx
 obtain⟨bs,rb⟩:=I.reads h2 ry
 exact SeqAt.compareNe_shaped ra rb s1 s2 hu ⟨.bl (!PyData.eqv da db),H,I,rfl,q⟩
theorem Om(hg:X.A.guards=some [])(hu:X.A.units+64<cLine):YE X (.builtin "repr") (λxs H Q=>∃a d,xs=[.ref a]/\DV X.K H d (.ref a)/\d.showable=true/\d.hasDict=false/\d.depth≤40/\d.shown.length≤sizeLine/\Q (.str d.shown) H):=by
 rintro pins s σ H xs us Q I r ⟨a,d,rfl,h,h1,h2,h3,h4,q⟩
 obtain⟨u,rfl,rx⟩:=Vf r
 cases (show u=Value.ref a from rx)
 obtain⟨as,ra⟩:=I.reads h rx
 exact repr_of_reads' ra h1 (PyData.noDict_hsm h2) hg (by omega) (λ_ _ e=>e) (λh' u tk hk=>⟨.str d.shown,H,I.kept hk,⟨u,rfl⟩,q⟩) h4
def hdL(A:Around):List Addr:=match A.handled with|some (.ref e)=>[e]|_=>[]
theorem Ce{prog:Program}{w:World}{A:Around}(I ax:Addr)(hne:ax≠I)(hI:∀e,A.handled=some (.ref e)->e≠I)(items:Array Value):
  Walks prog w A I (I::ax::hdL A) [I] items.size (λi v=>items[i]? = some v) (λi h=>h.IsListIter I ax i/\h.IsList ax items/\WI A h) where
 sub:=λb hb=>by simp at hb;simp[hb]
 frame:=λ_ _ _ st hk=>⟨st.1.at λo e=>hk I (by simp) o e,st.2.1.at λo e=>hk ax (by simp) o e,st.2.2.keep λe o he q=>hk e (by unfold hdL;rw[he];simp) o q⟩
 item:=λi s Q E hi st hQ=>by
  refine wpAny_pyNext_list_item st.1 st.2.1 (x:=items[i]) (by simp[hi]) λh' hit' hs'=>?_
  exact hQ _ h' s.toks (by simp[hi]) ⟨hit',st.2.1.extBut hs'.extBut hne,st.2.2.keep λe o he q=>hs'.extBut e o (hI e he) q⟩ λb o hb e=>hs'.extBut b o (λh=>hb (by simp[h])) e
 done:=λs Q E st hQ=>NA st.2.2 hI st.1 st.2.1 (by simp) λh' he'=>hQ h' s.toks λb o hb e=>he' b o (λh=>hb (by simp[h])) e
 self:=λ_ _ _ _ st hQ=>wpAny_pyIter_listiter st.1 hQ
theorem Zv.hdL{X:Cx}{pins:List (Addr×Obj)}{σ:St}{H:Hp}{s:Shared}(I:Zv X pins σ H s)(hc:X.calm=true):(∀e,X.A.handled=some (.ref e)->e<s.heap.objs.size)/\∀b∈L2.hdL X.A,b<s.heap.objs.size:=by
 have h1:∀e,X.A.handled=some (.ref e)->e<s.heap.objs.size:=λe he=>by
  rcases(I.hdOk hc).1 with h|⟨e',oe,vs,h1,h2,_⟩
  ·rw[h]at he;cases he
  ·rw[he]at h1;cases h1;exact wA h2
 refine⟨h1,λb hb=>?_⟩
 unfold L2.hdL at hb
 split at hb
 ·next e he=>rw[xN.mp hb];exact h1 e he
 ·cases hb
theorem U3(hc:X.calm=true):YE X (.builtin "all") (λxs H Q=>∃(a:Addr) (bs:List Bool),xs=[.ref a]/\Xg X.K H a (bs.map V.bl)/\Q (.bl (bs.all id)) H):=by
 rintro pins s σ H xs us Q I r ⟨a,bs,rfl,h,q⟩
 obtain⟨u,rfl,rx⟩:=Vf r
 cases (show u=Value.ref a from rx)
 obtain⟨its,rv,p,hz⟩:=I.list h
 refine call_all_walk (vT p.isList ?_)
 have hlt:a<s.heap.objs.size:=by obtain⟨o,e,_⟩:=p.isList;exact wA e
 have l2:=rv.length
 rw[Uh]at l2
 refine⟨s.heap.objs.size,_,_,_,_,_,λi=>bs.getD i true,rfl,Ce (A:=X.A.in1) s.heap.objs.size a (wP hlt) (λe he=>wP ((I.hdL hc).1 e he)) its.toArray,⟨⟨_,zY _ rfl,rfl,rfl⟩,p.isList.push _,(I.hdOk hc).1.keep λe o _ q=>zX _ q⟩,?_,λh' tk hk=>?_⟩
 ·intro i v s' Q' E' hv hq
  have hv':its[i]? = some v:=by simpa using hv
  have hl:i<bs.length:=by
   have:=(vH.mp hv').1
   omega
  obtain⟨u2,h1,h2⟩:=rv.get (i:=i) (x:=.bl bs[i]) (by simp[hl])
  rw[hv']at h1;cases h1
  cases (show v=Value.bool bs[i] from h2)
  refine vM ?_
  dsimp only at hq
  rw[xO,JP hl]at hq
  exact hq
 ·have e1:(List.range its.toArray.size).all (λi=>bs.getD i true)=bs.all id:=by
   rw[yC,<- l2,vY,yY,yY]
   constructor
   ·intro h x hx
    obtain⟨i,hi,e⟩:=List.mem_iff_getElem.mp hx
    have:=h i (by simpa using hi)
    rw[xO,JP hi]at this
    simpa[e]using this
   ·intro h i hi
    have hi':i<bs.length:=by simpa using hi
    rw[xO,JP hi']
    simpa using h _ (xP hi')
  refine⟨.bl (bs.all id),H,I.kept (λb o e=>hk b o ?_ (zX _ e)),by rw[e1];rfl,q⟩
  intro hb
  have:b=s.heap.objs.size:=by simpa using hb
  exact absurd (wA e) (by rw[this];exact wY _)
theorem Li:YE X (.builtin "isinstance") (λxs H Q=>∃x t c b,xs=[x,.ty c]/\TyOf X.K H x t/\PySem.W.kitOne X.K t (.type c)=some b/\Q (.bl b) H):=by
 rintro pins s σ H xs us Q I r ⟨x,t,c,b,rfl,ty,e,q⟩
 obtain⟨u,w,rfl,rx,rc⟩:=Mb r
 cases (show w=Value.type c from rc)
 exact M0 I rx ty e λtk=>⟨.bl b,H,I.tok _,rfl,q⟩
def HA(i j:Int):Prop:=0≤j/\(Builtin.Int.intBits i:Int)*j≤2 ^ 27
theorem ND:XZ X (binaryOp .Pow) (rI HA λi j=>.int (i ^ j.toNat)):=C6 λ_ _ _ _ _ _ _ hc q=>pow_int hc.1 hc.2 q
end
open AutoSeq1 (wpAny_loadPart')
open MeetsSeq MeetsSeq2 MeetsSeq3 SeqRoads2
theorem Uk:fillsNumberSlot (.type "tuple") "mul" = pure false:=
 PySem.fillsNumberSlot_seq (id:="tuple.__mul__") (r:=some (.builtin "tuple.__rmul__")) xQ.lookup (by decide +kernel) PySem.F.slot_tuple_rmul.lookup (by decide +kernel)
theorem SO:seqRepeat? (.type "tuple")=pure (some (.builtin "tuple.__mul__")):=by
 unfold seqRepeat?;rw[PySem.seqSlot_of (T:="tuple") (name:="__mul__") (id:="tuple.__mul__") xQ.lookup (by decide +kernel),PySem.seqSlot_of (T:="tuple") (name:="__rmul__") (id:="tuple.__rmul__") PySem.F.slot_tuple_rmul.lookup (by decide +kernel)];rfl
theorem Qh(a:Int)(t:Tok)(l:Addr)(items:Array Value)(n:Nat)(dd:Option Addr)(sl:Array (Option Value)):Meets (Builtin.«int.__rmul__» ⟨[.int a t,.ref l],[]⟩) (λ_ R s=>s.heap.get? l=some { cls:=.type "tuple",dict:=dd,data:=.seq items n,slots:=sl }/\R (.ok (.ret Value.notImplemented)) s):=
 .of_wp λprog w A R s h=>by obtain⟨hp,g,d,tk,os⟩:=s;obtain⟨hl,h⟩:=h;wp_walk;exact⟨_,rfl,h⟩
theorem Q6(l:Addr)(items:Array Value)(n:Nat)(dd:Option Addr)(sl:Array (Option Value))(t:Tok):
  Meets (Builtin.«tuple.__mul__» ⟨[.ref l,.int 1 t],[]⟩) (λ_ R s=>s.heap.get? l=some { cls:=.type "tuple",dict:=dd,data:=.seq items n,slots:=sl }/\R (.ok (.ret (.ref l))) s):=
 .of_wp λprog w A R s h=>by
  obtain⟨hp,g,d,tk,os⟩:=s;obtain⟨hl,h⟩:=h;have f1:=xR;have f2:=xS
  wp_walk using uY hl
  exact⟨_,rfl,h⟩
theorem PU(l:Addr)(items:Array Value)(n:Nat)(dd:Option Addr)(sl:Array (Option Value))(t:Tok)(k:Int)(h1:1<k)(h2:k<2 ^ 63)(he:items.isEmpty=false)(hz:items.size*k.toNat≤sizeLine):
  Meets (Builtin.«tuple.__mul__» ⟨[.ref l,.int k t],[]⟩) (λ_ R s=>s.heap.get? l=some { cls:=.type "tuple",dict:=dd,data:=.seq items n,slots:=sl }/\R (.ok (.ret (.ref s.heap.objs.size))) { s with heap:=s.heap.push { cls:=.type "tuple",data:=.seq ((List.replicate k.toNat items).foldl (·++·) #[]) } }):=
 .of_wp λprog w A R s h=>by
  obtain⟨hp,g,d,tk,os⟩:=s;obtain⟨hl,h⟩:=h;have f1:=xR;have f2:=xS
  have c1:(decide (k < -2 ^ 63)||decide (k≥2 ^ 63))=false:=by
   rw[xT];exact⟨wV (by omega),wV (by omega)⟩
  have c2:(items.isEmpty||k == 1)=false:=by rw[he,Bool.false_or];exact wW.mpr (by omega)
  have c3:(decide (k≤0)||items.isEmpty)=false:=by rw[he,Bool.or_false];exact wV (by omega)
  have kn:((k.toNat:Nat):Int)=k:=by omega
  have hz':(items.size:Int)*k≤(sizeLine:Int):=by rw[<- kn];exact_mod_cast hz
  have c4:¬((items.size:Int)*k > (2 ^ 63-1) / 8):=by
   have:(sizeLine:Int)≤(2 ^ 63-1) / 8:=by decide
   omega
  have c5:Builtin.Tuple.tupleTooMany ((items.size:Int)*k)=false:=wV (by omega)
  have cc:∀{b:Bool},b=false->decide (b=true)=false:=λh=>by rw[h];rfl
  wp_walk using uY hl
  refine xU (cc c1) ?_
  wp_walk using uY hl
  refine xU (cc c2) ?_
  wp_walk using uY hl
  refine xU (cc c3) ?_
  wp_walk using uY hl
  refine xU (wV c4) ?_
  wp_walk using uY hl
  have fit:(List.foldl (λx1 x2=>x1++x2) #[] (List.replicate k.toNat items)).size≤sizeLine:=by
   have all:∀(m:Nat) (acc:Array Value),(List.foldl (λx1 x2=>x1++x2) acc (List.replicate m items)).size=acc.size+items.size*m:=by
    intro m
    induction m with
    | zero=>intro acc;simp
    | succ m ih=>intro acc;rw[yI,yL,ih,zZ,Nat.mul_succ];omega
   rw[all];simpa using hz
  refine xU (wV (not_lt.mpr fit)) ?_
  wp_walk using uY hl
  exact⟨_,rfl,h⟩
section
variable {X:Cx}
theorem Yv{H:Hp}{p:Addr}(h:H p=none)(o:HO):Z5 H (upd H p o):=λb u q=>by rw[Zi (YS q h)];exact q
theorem JD(l b:Addr)(items items2:Array Value)(n n2:Nat)(dd dd2:Option Addr)(sl sl2:Array (Option Value))(hc0:items.isEmpty=true):
  Meets (Builtin.«tuple.__add__» ⟨[.ref l,.ref b],[]⟩) (λ_ R s=>s.heap.get? l=some { cls:=.type "tuple",dict:=dd,data:=.seq items n,slots:=sl }/\s.heap.get? b=some { cls:=.type "tuple",dict:=dd2,data:=.seq items2 n2,slots:=sl2 }/\R (.ok (.ret (Value.ref b))) s):=
 .of_wp λprog w A R s h=>by obtain⟨hp,g,d,tk,os⟩:=s;obtain⟨hl,hb,h⟩:=h;have f1:=xR;have f2:=xS;wp_walk using uY hl,uY hb;exact⟨_,rfl,h⟩
end
end L2
namespace L2
open PySem PySem.Spec PyProof.Rows
section
variable {X:Cx}
theorem XW:XZ X (binaryOp .Mult) (rI IntMulOk λi j=>.int (i*j)):=C6 λ_ _ _ _ _ _ _ hc q=>mul_int q hc
theorem VI{i:Int}{n:Nat}(h:i.natAbs<2 ^ n):Builtin.Int.intBits i≤n:=by
 unfold Builtin.Int.intBits
 split
 ·exact uH _
 ·rename_i hne
  have h0:i.natAbs≠0:=by
   intro z
   exact hne (by simpa using z)
  have:=(Nat.log2_lt h0).mpr h
  omega
theorem K8{i j:Int}{n:Nat}(hn:n≤2 ^ 20)(hi:i.natAbs<2 ^ n)(hj:j.natAbs<2 ^ n):IntMulOk i j:=IntMulOk.of_bits (wZ (VI hi) hn) (wZ (VI hj) hn)
end
def SB(u:Addr)(H H':Hp):Prop:=∀b o,b≠u->H b=some o->H' b=some o
theorem SB.trans{u:Addr}{H H1 H2:Hp}(a:SB u H H1)(b:SB u H1 H2):SB u H H2:=λc o n h=>b c o n (a c o n h)
theorem Z5.sb{H H':Hp}(e:Z5 H H')(u:Addr):SB u H H':=λb o _ h=>e b o h
theorem SB.upd(u:Addr)(H:Hp)(o:HO):SB u H (upd H u o):=λb v n h=>by rw[Zi n];exact h
theorem SB.seq{K:Frag}{u:Addr}{H H':Hp}{a:Addr}{xs:List V}(e:SB u H H')(n:a≠u)(h:Xg K H a xs):Xg K H' a xs:=by
 rcases h with (h|⟨o,h⟩)|h
 ·exact .inl (.inl (e _ _ n h))
 ·exact .inl (.inr ⟨o,e _ _ n h⟩)
 ·exact .inr h
theorem SB.tup{K:Frag}{u:Addr}{H H':Hp}{a:Addr}{xs:List V}(e:SB u H H')(n:a≠u)(h:X7 K H a xs):X7 K H' a xs:=by
 rcases h with (h|⟨o,h⟩)|h
 ·exact .inl (.inl (e _ _ n h))
 ·exact .inl (.inr ⟨o,e _ _ n h⟩)
 ·exact .inr h
theorem SB.get{u:Addr}{H H':Hp}(e:SB u H H'){b:Addr}{o:HO}(h:H b=some o)(n:b≠u):H' b=some o:=e b o n h
def ZF(x:Str)(st:Stmt)(ps:List Str):Prop:=∀(kV doc pm:Value) (an:Option Addr) (cdv ct:Value) (us:List Value),us.length=ps.length->bindArgs (PySem.W.fnOf x x (YB st) (ZQ st) (Zg st) .none kV doc pm an cdv ct) ⟨us,[]⟩=pure (ps.zip us)
def Ki(na nk:Nat)(pick:List (Bool×Nat)){α:Type}(us ws:List α):List α:=if us.length=na/\ws.length=nk then pick.filterMap (λp=>if p.1=true then us[p.2]? else ws[p.2]?) else []
def Mc(x:Str)(st:Stmt)(ps ks:List Str)(na nk:Nat)(pick:List (Bool×Nat)):Prop:=∀(kV doc pm:Value) (an:Option Addr) (cdv ct:Value) (us ws:List Value),(Ki na nk pick us ws).length=ps.length ->
 bindArgs (PySem.W.fnOf x x (YB st) (ZQ st) (Zg st) .none kV doc pm an cdv ct) ⟨us,ks.zip ws⟩=pure (ps.zip (Ki na nk pick us ws))
theorem Io{na nk:Nat}{pick:List (Bool×Nat)}{vs:List V}{us:List Value}{zs:List V}{ws:List Value}(r:ZD vs us)(z:ZD zs ws):ZD (Ki na nk pick vs zs) (Ki na nk pick us ws):=by
 unfold Ki
 rw[r.length,z.length]
 split
 ·induction pick with
  | nil=>exact .nil
  | cons p t ih=>
   have look:∀{as:List V}{bs:List Value},ZD as bs->∀i:Nat,(∃a b,as[i]? = some a/\bs[i]? = some b/\ZL a b)\/(as[i]? = none/\bs[i]? = none):=λ{as bs} q i=>by
    cases e:as[i]? with
    | none=>exact .inr ⟨rfl,q.none_of e⟩
    | some a=>obtain⟨b,h1,h2⟩:=q.get e;exact .inl ⟨a,b,rfl,h1,h2⟩
   rw[vA,vA]
   cases p.1 with
   | true=>
    rcases look r p.2 with ⟨a,b,e1,e2,q⟩|⟨e1,e2⟩
    ·simp only[yD,e1,e2];exact .cons q ih
    ·simp only[yD,e1,e2];exact ih
   | false=>
    rcases look z p.2 with ⟨a,b,e1,e2,q⟩|⟨e1,e2⟩
    ·simp only[wR,wS,e1,e2];exact .cons q ih
    ·simp only[wR,wS,e1,e2];exact ih
 ·exact .nil
structure Dn(P:Program)(w:World)(K:Frag)(mg:Str->Option Value)(base:Heap)(k:Nat)(x:Str)(st:Stmt)(ps:List Str)(sp:Sp):Prop where
 ex:∃f fd,Xv P w K mg base S0 k f fd ps sp/\VQ K x x st f fd/\mg x=some (.ref f)
section
variable {X:Cx}{k:Nat}{x:Str}{st:Stmt}{ps ks:List Str}{sp:Sp}{p pos:Pos}{e:Expr}{es:List Expr}{kws:List Keyword}{t tk:TA}{na nk:Nat}{pick:List (Bool×Nat)}
theorem F6(D:Dn X.prog X.w X.K X.mg X.base k x st ps sp)(hb:ZF x st ps)(hr:Yg k X.A)(ha:PA X (e::es) t)(hg:Gl X x:=by rfl)(hs:starEach (e::es) X.env=(false,eval e X.env)::starEach es X.env:=by rfl)(hpl:(backTo pos (starEach es X.env)).any (·.1)=false:=by rfl) 
  (hdb:(x == ("__debug__" : Str))=false:=by decide):PE X (.Call (.Name x p) (e::es) [] pos) (R3 sp [] E0 t):=by
 obtain⟨f,fd,F,U,m⟩:=D.ex
 exact NF F hr hg m U.kp (U.binds hb) .nil Dz ha (hdb:=hdb) (he:=hs) (hpl:=hpl)
theorem VQ.kbinds{K:Frag}{f:Addr}{fd:FuncData}(F:VQ K x x st f fd)(h:Mc x st ps ks na nk pick):MX K fd ps ks (Ki na nk pick) (Ki na nk pick):=by
 obtain⟨oc,od,kV,doc,pm,an,cdv,ct,osl,rfl,lk,hcd⟩:=F.ex
 exact⟨λs us ws _ hl=>.of_eq (h kV doc pm an cdv ct us ws hl),λr z=>Io r z⟩
end
theorem Dn.of{P:Program}{w:World}{K:Frag}{mg:Str->Option Value}{base:Heap}{x:Str}{st:Stmt}{N ps:List Str}{k:Nat}{sp:Sp}(U:∃f fd,VQ K x x st f fd/\mg x=some (.ref f))(S:Z8 N ps (Zg st))(len:∀vs H Q E,sp vs H Q E->vs.length=ps.length) 
  (hbody:∀(f:Addr) (cdv:Value) (A:Around) (outer:List Env) (s:Shared) (H:Hp) (vs:List V) (Q:VK) (E:XK),Yg k (A.deeper (envOfC x (Zg st) s.heap.objs.size f cdv))->sp vs H Q E ->
   ∃t,VS (Xi S0 P w K mg base N x (Zg st) f cdv A outer s H E).nox (ZQ st) t/\t { nx:=λ_ H'=>Q .non H',rt:=Q } (YA N vs) H):Dn P w K mg base (k+1) x st ps sp:=by
 obtain⟨f,fd,F,m⟩:=U
 exact⟨f,fd,F.ok S len λcdv A outer s H vs Q E hr h=>hbody f cdv A outer s H vs Q E hr h,F,m⟩
def Me(H:Hp)(u:Addr)(m:Nat):Prop:=∃g c n:Int,H u=some (.lst [.int g,.int c,.int n])/\0≤g/\0≤c/\c≤4000000000000000000/\0≤n/\n≤m
theorem Me.mono{H:Hp}{u:Addr}{m m':Nat}(h:Me H u m)(le:m≤m'):Me H u m':=by
 obtain⟨g,c,n,e,h1,h2,h3,h4,h5⟩:=h
 exact⟨g,c,n,e,h1,h2,h3,h4,by omega⟩
theorem Me.same{H H':Hp}{u:Addr}{m:Nat}(h:Me H u m)(s:Z5 H H'):Me H' u m:=by
 obtain⟨g,c,n,e,r⟩:=h
 exact⟨g,c,n,s _ _ e,r⟩
theorem Me.ne{H:Hp}{u p:Addr}{m:Nat}(h:Me H u m)(e:H p=none):p≠u:=by
 obtain⟨g,c,n,q,_⟩:=h
 exact λz=>by rw[z,q]at e;cases e
def G6(K:Frag):Sp:=λvs H Q _=>∃(a:Addr) (ns:List Int) (k:Int),vs=[.ref a,.int k]/\Xg K H a (ns.map V.int)/\0≤k/\k≤100 /\
 ∀(r:Addr) (H':Hp),Z5 H H'->H r=none->Me H' r 0->Q (.ref r) H'
def J0:Sp:=λvs H Q _=>∃(u:Addr) (wd:Int) (m:Nat),vs=[.ref u,.int wd]/\Me H u m/\m≤1000000/\0<wd/\wd<1099511627776 /\
 ∀(d:Int) (H':Hp),0≤d->d<wd->SB u H H'->Me H' u (m+1)->Q (.int d) H'
theorem UI{i:Int}{n:Nat}(h0:0≤i)(h:i<2 ^ n):i.natAbs<2 ^ n:=by
 have e:((i.natAbs:Nat):Int)=i:=Int.natAbs_of_nonneg h0
 have:((i.natAbs:Nat):Int)<((2 ^ n:Nat):Int):=by rw[e];simpa using h
 exact_mod_cast this
theorem KZ(j:Int):∃q:Int,atI [V.int 2147483647,V.int 2147483629,V.int 2147483587,V.int 2147483579,V.int 2147483563,V.int 2147483549,V.int 2147483543] (j % 7)=some (.int q)/\0<q/\q≤2147483647:=by
 have h0:=xV j (show(7:Int)≠0 by decide)
 have h1:=xW j (show(0:Int)<7 by decide)
 have:j % 7=0\/j % 7=1\/j % 7=2\/j % 7=3\/j % 7=4\/j % 7=5\/j % 7=6:=by omega
 rcases this with e|e|e|e|e|e|e<;>rw[e]<;>exact⟨_,rfl,by decide,by decide⟩
section
variable {X:Cx}{Nc:List Str}{scope:Scope}{cs:List (Str×Addr)}{C:Addr}{s:Shared}{H:Hp}{fp:List Addr}{x:Str}{pos:Pos}
theorem U4:(ZR X Nc scope cs C s H fp).env.scope.names.lookup x=(scope.names.lookup x).map λk=>if(k == NameKind.free&&X.env.scope.kind == .function&&X.env.kindOf x == some .cell) then .cell else k:=XC
theorem VB(h:scope.names.lookup x=some .local):(ZR X Nc scope cs C s H fp).env.scope.names.lookup x=some .local:=by rw[U4,h];rfl
theorem Qc(h:scope.names.lookup x=some .globalImplicit:=by rfl):Gl (ZR X Nc scope cs C s H fp) x:=by
 show(ZR X Nc scope cs C s H fp).env.scope.names.lookup x=_
 rw[U4,h];rfl
theorem JN(h:scope.names.lookup x=some .free):GJ (ZR X Nc scope cs C s H fp).env.scope x:=by
 unfold GJ
 rw[U4,h]
 simp only[yW]
 split
 ·exact .inr (.inl rfl)
 ·exact .inr (.inr rfl)
theorem BC(i:Nat)(hN:Nc[i]? = some x:=by rfl)(hk:scope.names.lookup x=some .local:=by rfl)(hd:(x == ("__debug__" : Str))=false:=by decide)(hcd:(x == ("__classdict__" : Str))=false:=by decide):PE (ZR X Nc scope cs C s H fp) (.Name x pos) (Q5 i):=
 WZ (X:=ZR X Nc scope cs C s H fp) hN (.inl (VB hk)) hd hcd
theorem BB(i:Nat)(hN:Nc[i]? = some x:=by rfl)(hk:scope.names.lookup x=some .free:=by rfl)(hd:(x == ("__debug__" : Str))=false:=by decide)(hcd:(x == ("__classdict__" : Str))=false:=by decide):PE (ZR X Nc scope cs C s H fp) (.Name x pos) (Q5 i):=
 WZ (X:=ZR X Nc scope cs C s H fp) hN (JN hk) hd hcd
theorem BA(i:Nat)(hN:Nc.Nodup)(hi:Nc[i]? = some x:=by rfl)(hk:scope.names.lookup x=some .local:=by rfl):PG (ZR X Nc scope cs C s H fp) (.Name x pos) (WC i):=
 NG (X:=ZR X Nc scope cs C s H fp) hN hi (.inl (VB hk)) (.inr (VB hk))
end
@[irreducible] def IPE(X:Cx)(e:Expr)(t:TE):Prop:=PE X e t
theorem Zt{X:Cx}{e:Expr}{t:TE}:IPE X e t=PE X e t:=by unfold IPE;rfl
@[irreducible] def IPT(X:Cx)(e:Expr)(t:TT):Prop:=PT X e t
theorem Z0{X:Cx}{e:Expr}{t:TT}:IPT X e t=PT X e t:=by unfold IPT;rfl
@[irreducible] def IPW(X:Cx)(e:Expr)(t:TT):Prop:=PW X e t
theorem Z2{X:Cx}{e:Expr}{t:TT}:IPW X e t=PW X e t:=by unfold IPW;rfl
@[irreducible] def IPA(X:Cx)(e:List Expr)(t:TA):Prop:=PA X e t
theorem Zy{X:Cx}{e:List Expr}{t:TA}:IPA X e t=PA X e t:=by unfold IPA;rfl
@[irreducible] def IPK(X:Cx)(e:List Keyword)(t:TA):Prop:=PK X e t
theorem Z3{X:Cx}{e:List Keyword}{t:TA}:IPK X e t=PK X e t:=by unfold IPK;rfl
@[irreducible] def IPS(X:Cx)(e:Stmt)(t:TS):Prop:=PS X e t
theorem Zx{X:Cx}{e:Stmt}{t:TS}:IPS X e t=PS X e t:=by unfold IPS;rfl
@[irreducible] def IPSs(X:Cx)(e:List Stmt)(t:TS):Prop:=VS X e t
theorem Zp{X:Cx}{e:List Stmt}{t:TS}:IPSs X e t=VS X e t:=by unfold IPSs;rfl
@[irreducible] def IPG(X:Cx)(e:Expr)(t:TG):Prop:=PG X e t
theorem Z1{X:Cx}{e:Expr}{t:TG}:IPG X e t=PG X e t:=by unfold IPG;rfl
@[irreducible] def IPGs(X:Cx)(e:List Expr)(t:P_):Prop:=GG X e t
theorem Zo{X:Cx}{e:List Expr}{t:P_}:IPGs X e t=GG X e t:=by unfold IPGs;rfl
@[irreducible] def IPI(X:Cx)(tg e:Expr)(t:TI):Prop:=PI X tg e t
theorem Zz{X:Cx}{tg e:Expr}{t:TI}:IPI X tg e t=PI X tg e t:=by unfold IPI;rfl
@[irreducible] def IPO(X:Cx)(e:Option Expr)(t:TO):Prop:=PO X e t
theorem Z4{X:Cx}{e:Option Expr}{t:TO}:IPO X e t=PO X e t:=by unfold IPO;rfl
@[irreducible] def IPTs(X:Cx)(e:List Expr)(t:TT):Prop:=JV X e t
theorem Zq{X:Cx}{e:List Expr}{t:TT}:IPTs X e t=JV X e t:=by unfold IPTs;rfl
theorem IPSs.get{X:Cx}{e:List Stmt}{t:TS}(h:IPSs X e t):VS X e t:=by rw[<- Zp];exact h
theorem IPW.pt{X:Cx}{e:Expr}{t:TT}(h:IPW X e t):IPT X e t:=by rw[Z0];rw[Z2]at h;exact h.pt
theorem Zd{X:Cx}{i j pos}:IPE X (.Constant (.int i) j pos) (tC (.int i)):=by
 simp only[Zt,Z0,Z2,Zy,Z3,Zx,Zp,Z1,Zo,Zz,Z4,Zq]at *
 exact F7 
theorem X1{X:Cx}{b j pos}:IPE X (.Constant (.bool b) j pos) (tC (.bl b)):=by
 simp only[Zt,Z0,Z2,Zy,Z3,Zx,Zp,Z1,Zo,Zz,Z4,Zq]at *
 exact D0 
theorem Y4{X:Cx}{j pos}:IPE X (.Constant .none j pos) (tC .non):=by
 simp only[Zt,Z0,Z2,Zy,Z3,Zx,Zp,Z1,Zo,Zz,Z4,Zq]at *
 exact F9 
theorem Zr{X:Cx}{x j pos}:IPE X (.Constant (.str x) j pos) (tC (.str x)):=by
 simp only[Zt,Z0,Z2,Zy,Z3,Zx,Zp,Z1,Zo,Zz,Z4,Zq]at *
 exact KS 
theorem N4{X:Cx}{op:UnaryOp}{r:V->Hp->VK->Prop}(ho:Cv X (unaryOp op) r)(ha:IPE X a ta):IPE X (.UnaryOp op a pos) (Bk r ta):=by
 simp only[Zt,Z0,Z2,Zy,Z3,Zx,Zp,Z1,Zo,Zz,Z4,Zq]at *
 exact D8 (ho:=ho) (ha:=ha)
theorem Pe{X:Cx}(ha:IPE X a ta):IPE X (.UnaryOp .Not a pos) (J7 ta):=by
 simp only[Zt,Z0,Z2,Zy,Z3,Zx,Zp,Z1,Zo,Zz,Z4,Zq]at *
 exact FA (ha:=ha)
theorem Zu{X:Cx}{op:Operator}{r:R2}(ho:XZ X (binaryOp op) r)(ha:IPE X a ta)(hb:IPE X b tb):IPE X (.BinOp a op b pos) (Hu r ta tb):=by
 simp only[Zt,Z0,Z2,Zy,Z3,Zx,Zp,Z1,Zo,Zz,Z4,Zq]at *
 exact D7 (ho:=ho) (ha:=ha) (hb:=hb)
theorem Rk{X:Cx}{op:CmpOp}{r:R2}(ho:XZ X (compareOp op) r)(ha:IPE X a ta)(hb:IPE X b tb)(hm:behindInMarks op b=false):IPE X (.Compare a [op] [b] pos) (Hu r ta tb):=by
 simp only[Zt,Z0,Z2,Zy,Z3,Zx,Zp,Z1,Zo,Zz,Z4,Zq]at *
 exact II (ho:=ho) (ha:=ha) (hb:=hb) (hm:=hm)
theorem Wi{X:Cx}{rest:List Expr}(ha:IPE X a ta)(hb:IPE X (.BoolOp .And (b::rest) pos) tb):IPE X (.BoolOp .And (a::b::rest) pos) (J5 ta tb):=by
 simp only[Zt,Z0,Z2,Zy,Z3,Zx,Zp,Z1,Zo,Zz,Z4,Zq]at *
 exact F5 (ha:=ha) (hb:=hb)
theorem WT{X:Cx}{op}{t:TE}(h:IPE X a t):IPE X (.BoolOp op [a] pos) t:=by
 simp only[Zt,Z0,Z2,Zy,Z3,Zx,Zp,Z1,Zo,Zz,Z4,Zq]at *
 exact FC (h:=h)
theorem VG{X:Cx}{c:Expr}(hc:IPT X c tA)(ha:IPE X a ta)(hb:IPE X b tb):IPE X (.IfExp c a b pos) (Bh tA ta tb):=by
 simp only[Zt,Z0,Z2,Zy,Z3,Zx,Zp,Z1,Zo,Zz,Z4,Zq]at *
 exact KQ (hc:=hc) (ha:=ha) (hb:=hb)
theorem ZH{X:Cx}(h:IPA X es t):IPE X (.List es pos) (Ep t):=by
 simp only[Zt,Z0,Z2,Zy,Z3,Zx,Zp,Z1,Zo,Zz,Z4,Zq]at *
 exact F8 (h:=h)
theorem Zl{X:Cx}{x1}(h:IPA X es t):IPE X (.Tuple es x1 pos) (Hw t):=by
 simp only[Zt,Z0,Z2,Zy,Z3,Zx,Zp,Z1,Zo,Zz,Z4,Zq]at *
 exact FD (h:=h)
theorem Yi{X:Cx}{lo:Option Expr}{hi:Option Expr}{th:TO}{tl:TO}{r:V->Option Int->Option Int->Hp->VK->Prop}(hr:La X r)(he:IPE X e te)(hl:IPO X lo tl)(hu:IPO X hi th):IPE X (.Subscript e (.Slice lo hi none p2) pos) (Bj r te tl th):=by
 simp only[Zt,Z0,Z2,Zy,Z3,Zx,Zp,Z1,Zo,Zz,Z4,Zq]at *
 exact KR (hr:=hr) (he:=he) (hl:=hl) (hu:=hu)
theorem Yp{X:Cx}:IPO X none Q4:=by
 simp only[Zt,Z0,Z2,Zy,Z3,Zx,Zp,Z1,Zo,Zz,Z4,Zq]at *
 exact IS 
theorem Yq{X:Cx}(h:IPE X e te):IPO X (some e) (J8 te):=by
 simp only[Zt,Z0,Z2,Zy,Z3,Zx,Zp,Z1,Zo,Zz,Z4,Zq]at *
 exact IT (h:=h)
theorem ZC{X:Cx}{r:R2}(hr:JU X r)(ha:IPE X a ta)(hb:IPE X b tb)(hs:Nd b):IPE X (.Subscript a b pos) (Hu r ta tb):=by
 simp only[Zt,Z0,Z2,Zy,Z3,Zx,Zp,Z1,Zo,Zz,Z4,Zq]at *
 exact D6 (hr:=hr) (ha:=ha) (hb:=hb) (hs:=hs)
theorem Zh{X:Cx}{id:String}(hc:YE X (.builtin id) r)(hg:Gl X x)(hm:X.mg x=none)(hv:bootBuiltins x=some (.builtin id))(ha:IPA X (e::es) t)(hn:x≠"__name__":=by decide)(hdb:(x == ("__debug__" : Str))=false:=by decide) 
  (he:starEach (e::es) X.env=(false,eval e X.env)::starEach es X.env:=by rfl) (hpl:(backTo pos (starEach es X.env)).any (·.1)=false:=by rfl):IPE X (.Call (.Name x p) (e::es) [] pos) (Cc r t):=by
 simp only[Zt,Z0,Z2,Zy,Z3,Zx,Zp,Z1,Zo,Zz,Z4,Zq]at *
 exact KI (hc:=hc) (hg:=hg) (hm:=hm) (hv:=hv) (ha:=ha) (hn:=hn) (hdb:=hdb) (he:=he) (hpl:=hpl)
theorem XS{X:Cx}{T:String}(hc:YE X (.type T) r)(hg:Gl X x)(hm:X.mg x=none)(hv:bootBuiltins x=some (.type T))(ha:IPA X (e::es) t)(hn:x≠"__name__":=by decide)(hdb:(x == ("__debug__" : Str))=false:=by decide) 
  (he:starEach (e::es) X.env=(false,eval e X.env)::starEach es X.env:=by rfl) (hpl:(backTo pos (starEach es X.env)).any (·.1)=false:=by rfl):IPE X (.Call (.Name x p) (e::es) [] pos) (Cc r t):=by
 simp only[Zt,Z0,Z2,Zy,Z3,Zx,Zp,Z1,Zo,Zz,Z4,Zq]at *
 exact MF (hc:=hc) (hg:=hg) (hm:=hm) (hv:=hv) (ha:=ha) (hn:=hn) (hdb:=hdb) (he:=he) (hpl:=hpl)
theorem Zs{X:Cx}{st:Stmt}{sp:Sp}{ps:List Str}(D:Dn X.prog X.w X.K X.mg X.base k x st ps sp)(hb:ZF x st ps)(hr:Yg k X.A)(ha:IPA X (e::es) t)(hg:Gl X x:=by rfl)(hs:starEach (e::es) X.env=(false,eval e X.env)::starEach es X.env:=by rfl)(hpl:(backTo pos (starEach es X.env)).any (·.1)=false:=by rfl) 
  (hdb:(x == ("__debug__" : Str))=false:=by decide):IPE X (.Call (.Name x p) (e::es) [] pos) (R3 sp [] E0 t):=by
 simp only[Zt,Z0,Z2,Zy,Z3,Zx,Zp,Z1,Zo,Zz,Z4,Zq]at *
 exact F6 (D:=D) (hb:=hb) (hr:=hr) (ha:=ha) (hg:=hg) (hs:=hs) (hpl:=hpl) (hdb:=hdb)
theorem W0{X:Cx}{id:String}{T:String}{name:Str}{to:TE}(pa:PlainAttrs T)(slot:Slot T name id)(hty:typeOf (.builtin id)=pure (.type "method_descriptor"))(hm:GD X id r)(ho:IPE X o to)(ha:IPA X (e::es) t) 
  (hbase:attributeBase o name X.env (eval o X.env)=eval o X.env:=by rfl)
  (hfew:((backTo cpos (starEach (e::es) X.env)).all (λx=>!x.1)&&(backToKw cpos (keywordEach [] X.env)).all (λx=>x.1.isSome)
  &&decide ((e::es).length+([]:List Keyword).length+(if([]:List Keyword).isEmpty then 0 else 1)<30))=true:=by rfl)
  (hline:(apos.endLine == cpos.line)=true:=by rfl) (hs:starEach (e::es) X.env=(false,eval e X.env)::starEach es X.env:=by rfl) (hplain:(backTo cpos (starEach es X.env)).any (·.1)=false:=by rfl) :
  IPE X (.Call (.Attribute o name apos) (e::es) [] cpos) (C8 X.K T r to t):=by
 simp only[Zt,Z0,Z2,Zy,Z3,Zx,Zp,Z1,Zo,Zz,Z4,Zq]at *
 exact D5 (pa:=pa) (slot:=slot) (hty:=hty) (hm:=hm) (ho:=ho) (ha:=ha) (hbase:=hbase) (hfew:=hfew) (hline:=hline) (hs:=hs) (hplain:=hplain)
theorem ZJ{X:Cx}{x:Str}{v:V}{u:Value}{pos:Pos}(hg:Gl X x)(hm:X.mg x=none)(hv:bootBuiltins x=some u)(r:ZL v u)(hn:x≠"__name__":=by decide)(hd:(x == ("__debug__" : Str))=false:=by decide):IPE X (.Name x pos) (tC v):=by
 simp only[Zt,Z0,Z2,Zy,Z3,Zx,Zp,Z1,Zo,Zz,Z4,Zq]at *
 exact IH (hg:=hg) (hm:=hm) (hv:=hv) (r:=r) (hn:=hn) (hd:=hd)
theorem Vh{X:Cx}{elt tg iter:Expr}{ifs:List Expr}{scope:Scope}{pos:Pos}{Nc:List Str}{cap:List (Option Nat)}{wi:TI}{g:TG}{tt:TT}{te:TE} 
  (hc:X.calm=true) (hi:IPI X tg iter wi) (ok:T9 X Nc cap scope=true) (hg:∀cs C s H fp,IPG (ZR X Nc scope cs C s H fp) tg g) (ht:∀cs C s H fp,IPTs (ZR X Nc scope cs C s H fp) ifs tt)
  (he:∀cs C s H fp,IPE (ZR X Nc scope cs C s H fp) elt te) (hk:scope.kind=.function:=by rfl) (hs:∀x,foldedSetIterable iter X.env x=pure x:=by intro _;rfl) :
  IPE X (.ListComp elt [⟨tg,iter,ifs,0⟩] scope pos) (R4 wi cap g tt (R5 te)):=by
 simp only[Zt,Z0,Z2,Zy,Z3,Zx,Zp,Z1,Zo,Zz,Z4,Zq]at *
 exact IJ (hc:=hc) (hi:=hi) (ok:=ok) (hg:=hg) (ht:=ht) (he:=he) (hk:=hk) (hs:=hs)
theorem W2{X:Cx}{i:Nat}{x:Str}{elt tg iter:Expr}{ifs:List Expr}{scope:Scope}{pos pos' spos:Pos}{Nc:List Str}{cap:List (Option Nat)}{wi:TI}{g:TG}{tt:TT}{te:TE} 
  (hN:X.N.Nodup) (hx:X.N[i]? = some x) (hl:HB X.env.scope x)
  (hc:X.calm=true) (hi:IPI X tg iter wi) (ok:T9 X Nc cap scope=true) (hg:∀cs C s H fp,IPG (ZR X Nc scope cs C s H fp) tg g) (ht:∀cs C s H fp,IPTs (ZR X Nc scope cs C s H fp) ifs tt)
  (he:∀cs C s H fp,IPE (ZR X Nc scope cs C s H fp) elt te) (hsw:swapsWith (.ListComp elt [⟨tg,iter,ifs,0⟩] scope pos) (some (.Name x pos')) spos.line X.env=pure true:=by rfl)
  (hk:scope.kind=.function:=by rfl) (hs:∀x,foldedSetIterable iter X.env x=pure x:=by intro _;rfl)
  (hf:X.fn x=true\/X.env.scope.names.lookup x=some .local:=by first|exact .inl rfl|exact .inr rfl|assumption) :
  IPS X (.Assign [.Name x pos'] (.ListComp elt [⟨tg,iter,ifs,0⟩] scope pos) spos) (PH (R4 wi cap g tt (R5 te)) (WC i)):=by
 simp only[Zt,Z0,Z2,Zy,Z3,Zx,Zp,Z1,Zo,Zz,Z4,Zq]at *
 exact OJ (hN:=hN) (hx:=hx) (hl:=hl) (hc:=hc) (hi:=hi) (ok:=ok) (hg:=hg) (ht:=ht) (he:=he) (hsw:=hsw) (hk:=hk) (hs:=hs) (hf:=hf)
theorem ZW{X:Cx}{op:CmpOp}{r:R2}(ho:XZ X (compareOp op) r)(ha:IPE X a ta)(hb:IPE X b tb)(hm:behindInMarks op b=false):IPT X (.Compare a [op] [b] pos) (PJ (Hu r ta tb)):=by
 simp only[Zt,Z0,Z2,Zy,Z3,Zx,Zp,Z1,Zo,Zz,Z4,Zq]at *
 exact IW (ho:=ho) (ha:=ha) (hb:=hb) (hm:=hm)
theorem Y5{X:Cx}(ha:IPT X a tA):IPT X (.UnaryOp .Not a pos) (Es tA):=by
 simp only[Zt,Z0,Z2,Zy,Z3,Zx,Zp,Z1,Zo,Zz,Z4,Zq]at *
 exact FT (ha:=ha)
theorem TX{X:Cx}{rest:List Expr}(ha:IPT X a tA)(hb:IPW X (.BoolOp .And (b::rest) pos) tB'):IPW X (.BoolOp .And (a::b::rest) pos) (Em tA tB'):=by
 simp only[Zt,Z0,Z2,Zy,Z3,Zx,Zp,Z1,Zo,Zz,Z4,Zq]at *
 exact FY (ha:=ha) (hb:=hb)
theorem UC{X:Cx}(ha:IPT X a tA):IPW X (.BoolOp .And [a] pos) tA:=by
 simp only[Zt,Z0,Z2,Zy,Z3,Zx,Zp,Z1,Zo,Zz,Z4,Zq]at *
 exact I_ (ha:=ha)
theorem XU{X:Cx}{rest:List Expr}(ha:IPT X a tA)(hb:IPW X (.BoolOp .Or (b::rest) pos) tB'):IPW X (.BoolOp .Or (a::b::rest) pos) (Bi tA tB'):=by
 simp only[Zt,Z0,Z2,Zy,Z3,Zx,Zp,Z1,Zo,Zz,Z4,Zq]at *
 exact DC (ha:=ha) (hb:=hb)
theorem Wk{X:Cx}(ha:IPT X a tA):IPW X (.BoolOp .Or [a] pos) tA:=by
 simp only[Zt,Z0,Z2,Zy,Z3,Zx,Zp,Z1,Zo,Zz,Z4,Zq]at *
 exact FZ (ha:=ha)
theorem Y6{X:Cx}{e:Expr}{t:TE}(h:IPE X e t)(he:∀whole,isTrue e X.env whole=(do let v <- whole;standAt e.pos;holding [v] (truthy v)):=by intro _;rfl):IPT X e (tB t):=by
 simp only[Zt,Z0,Z2,Zy,Z3,Zx,Zp,Z1,Zo,Zz,Z4,Zq]at *
 exact FW (h:=h) (he:=he)
theorem Zb{X:Cx}:IPA X [] Er:=by
 simp only[Zt,Z0,Z2,Zy,Z3,Zx,Zp,Z1,Zo,Zz,Z4,Zq]at *
 exact KH 
theorem Za{X:Cx}(ha:IPE X e te)(hr:IPA X es t)(hs:starEach (e::es) X.env=(false,eval e X.env)::starEach es X.env:=by rfl):IPA X (e::es) (NW te t):=by
 simp only[Zt,Z0,Z2,Zy,Z3,Zx,Zp,Z1,Zo,Zz,Z4,Zq]at *
 exact Ql (ha:=ha) (hr:=hr) (hs:=hs)
theorem XT{X:Cx}{a:Expr}{ta:TA}{p pos:Pos}(hg:Gl X "range")(hm:X.mg "range" = none)(ha:IPA X [a] ta)(hs:starEach [a] X.env=[(false,eval a X.env)]:=by rfl)(hc:X.calm=true:=by rfl):IPI X tg (.Call (.Name "range" p) [a] [] pos) (Kr ta):=by
 simp only[Zt,Z0,Z2,Zy,Z3,Zx,Zp,Z1,Zo,Zz,Z4,Zq]at *
 exact MG (hg:=hg) (hm:=hm) (ha:=ha) (hs:=hs) (hc:=hc)
theorem X4{X:Cx}{l:Expr}{tl:TE}(hl:IPE X l tl)(hc:X.calm=true:=by rfl):IPI X tg l (Kq X.K tl):=by
 simp only[Zt,Z0,Z2,Zy,Z3,Zx,Zp,Z1,Zo,Zz,Z4,Zq]at *
 exact IQ (hl:=hl) (hc:=hc)
theorem Ph{X:Cx}{elts:List Expr}{kk:Nat}{tp:Pos}{a b:Expr}{ta:TA}{p pos:Pos}(t1 t2:Bool)(hg:Gl X "zip")(hm:X.mg "zip" = none)(ha:IPA X [a,b] ta)(hs:starEach [a,b] X.env=[(false,eval a X.env),(false,eval b X.env)]:=by rfl)(hs2:starEach [b] X.env=[(false,eval b X.env)]:=by rfl)(hc:X.calm=true:=by rfl):
  IPI X (.Tuple elts kk tp) (.Call (.Name "zip" p) [a,b] [] pos) (Fm X.K t1 t2 ta):=by
 simp only[Zt,Z0,Z2,Zy,Z3,Zx,Zp,Z1,Zo,Zz,Z4,Zq]at *
 exact FJ (t1:=t1) (t2:=t2) (hg:=hg) (hm:=hm) (ha:=ha) (hs:=hs) (hs2:=hs2) (hc:=hc)
theorem ZN{X:Cx}{i:Nat}{x:Str}(hN:X.N.Nodup)(hi:X.N[i]? = some x)(hx:HB X.env.scope x)(hf:X.fn x=true\/X.env.scope.names.lookup x=some .local:=by first|exact .inl rfl|exact .inr rfl|assumption):IPG X (.Name x pos) (WC i):=by
 simp only[Zt,Z0,Z2,Zy,Z3,Zx,Zp,Z1,Zo,Zz,Z4,Zq]at *
 exact NG (hN:=hN) (hi:=hi) (hx:=hx) (hf:=hf)
theorem Wj{X:Cx}(i:Nat)(hN:Nc.Nodup)(hi:Nc[i]? = some x:=by rfl)(hk:scope.names.lookup x=some .local:=by rfl):IPG (ZR X Nc scope cs C s H fp) (.Name x pos) (WC i):=by
 simp only[Zt,Z0,Z2,Zy,Z3,Zx,Zp,Z1,Zo,Zz,Z4,Zq]at *
 exact BA (i:=i) (hN:=hN) (hi:=hi) (hk:=hk)
theorem WD{X:Cx}(i:Nat)(hN:Nc[i]? = some x:=by rfl)(hk:scope.names.lookup x=some .local:=by rfl)(hd:(x == ("__debug__" : Str))=false:=by decide)(hcd:(x == ("__classdict__" : Str))=false:=by decide):IPE (ZR X Nc scope cs C s H fp) (.Name x pos) (Q5 i):=by
 simp only[Zt,Z0,Z2,Zy,Z3,Zx,Zp,Z1,Zo,Zz,Z4,Zq]at *
 exact BC (i:=i) (hN:=hN) (hk:=hk) (hd:=hd) (hcd:=hcd)
theorem N5{X:Cx}(i:Nat)(hN:Nc[i]? = some x:=by rfl)(hk:scope.names.lookup x=some .free:=by rfl)(hd:(x == ("__debug__" : Str))=false:=by decide)(hcd:(x == ("__classdict__" : Str))=false:=by decide):IPE (ZR X Nc scope cs C s H fp) (.Name x pos) (Q5 i):=by
 simp only[Zt,Z0,Z2,Zy,Z3,Zx,Zp,Z1,Zo,Zz,Z4,Zq]at *
 exact BB (i:=i) (hN:=hN) (hk:=hk) (hd:=hd) (hcd:=hcd)
theorem Zf{X:Cx}(i:Nat){x:Str}{pos:Pos}(hN:X.N[i]? = some x:=by rfl)(hv:GJ X.env.scope x:=by first|exact yQ rfl|exact yR (yQ rfl)|exact yR (yR rfl))(hd:(x == ("__debug__" : Str))=false:=by decide) 
  (hcd:(x == ("__classdict__" : Str))=false:=by decide):IPE X (.Name x pos) (Q5 i):=by
 simp only[Zt,Z0,Z2,Zy,Z3,Zx,Zp,Z1,Zo,Zz,Z4,Zq]at *
 exact pv (i:=i) (hN:=hN) (hv:=hv) (hd:=hd) (hcd:=hcd)
theorem Y_{X:Cx}{es:List Expr}{k:Nat}{t:P_}{n:Nat}(hc:X.calm=true)(h:IPGs X es t) 
  (hn:(assignEach es X.env).length=n:=by rfl) (hst:(assignEach es X.env).findIdx? (·.1)=none:=by rfl):IPG X (.Tuple es k pos) (Kh X.K n t):=by
 simp only[Zt,Z0,Z2,Zy,Z3,Zx,Zp,Z1,Zo,Zz,Z4,Zq]at *
 exact FG (hc:=hc) (h:=h) (hn:=hn) (hst:=hst)
theorem Yl{X:Cx}:IPGs X [] Im:=by
 simp only[Zt,Z0,Z2,Zy,Z3,Zx,Zp,Z1,Zo,Zz,Z4,Zq]at *
 exact IM 
theorem Z6{X:Cx}{e:Expr}{es:List Expr}{t:TG}{u:P_}(h1:IPG X e t)(h2:IPGs X es u) 
  (hs:(assignEach (e::es) X.env).map (·.2)=assign e X.env::(assignEach es X.env).map (·.2):=by rfl):IPGs X (e::es) (QZ t u):=by
 simp only[Zt,Z0,Z2,Zy,Z3,Zx,Zp,Z1,Zo,Zz,Z4,Zq]at *
 exact KU (h1:=h1) (h2:=h2) (hs:=hs)
theorem Pf{X:Cx}{o i:Expr}{to ti:TE}{t:JX}(ho:IPE X o to)(hi:IPE X i ti)(hs:GH X t) 
  (ha:∀v,assign (.Subscript o i pos) X.env v=(do
   let ov <- holding [v] (eval o X.env)
   let iv <- holding [v,ov] (eval i X.env)
   standAt pos
   holding [v,ov,iv] (setItem ov iv v)
   release [v,ov,iv] []):=by intro _;rfl):IPG X (.Subscript o i pos) (Dq to ti t):=by
 simp only[Zt,Z0,Z2,Zy,Z3,Zx,Zp,Z1,Zo,Zz,Z4,Zq]at *
 exact FE (ho:=ho) (hi:=hi) (hs:=hs) (ha:=ha)
theorem ZP{X:Cx}:IPSs X [] J6:=by
 simp only[Zt,Z0,Z2,Zy,Z3,Zx,Zp,Z1,Zo,Zz,Z4,Zq]at *
 exact NJ 
theorem Ze{X:Cx}{rest:List Stmt}{st:Stmt}(h1:IPS X st t)(h2:IPSs X rest u):IPSs X (st::rest) (Hv t u):=by
 simp only[Zt,Z0,Z2,Zy,Z3,Zx,Zp,Z1,Zo,Zz,Z4,Zq]at *
 exact Ul (h1:=h1) (h2:=h2)
theorem Zn{X:Cx}{st:Stmt}(h1:IPS X st t):IPSs X [st] t:=by
 simp only[Zt,Z0,Z2,Zy,Z3,Zx,Zp,Z1,Zo,Zz,Z4,Zq]at *
 exact IV (h1:=h1)
theorem Z7{X:Cx}{i:Nat}{x:Str}{e:Expr}{te:TE}{pos':Pos}(hN:X.N.Nodup)(hi:X.N[i]? = some x)(hx:HB X.env.scope x)(he:IPE X e te)(hs:swapsWith e (some (.Name x pos')) pos.line X.env=pure false:=by rfl)(hf:X.fn x=true\/X.env.scope.names.lookup x=some .local:=by first|exact .inl rfl|exact .inr rfl|assumption):
  IPS X (.Assign [.Name x pos'] e pos) (PH te (WC i)):=by
 simp only[Zt,Z0,Z2,Zy,Z3,Zx,Zp,Z1,Zo,Zz,Z4,Zq]at *
 exact FR (hN:=hN) (hi:=hi) (hx:=hx) (he:=he) (hs:=hs) (hf:=hf)
theorem WU{X:Cx}{tg e:Expr}{te:TE}{g:TG}(he:IPE X e te)(hg:IPG X tg g)(hs:swapsWithSole [tg] e pos.line X.env=pure false:=by rfl)(hw:swappedStores [tg] e X.env=pure none:=by rfl) 
  (h1:(assignEach [tg] X.env).map (·.2)=[assign tg X.env]:=by rfl):IPS X (.Assign [tg] e pos) (PH te g):=by
 simp only[Zt,Z0,Z2,Zy,Z3,Zx,Zp,Z1,Zo,Zz,Z4,Zq]at *
 exact FK (he:=he) (hg:=hg) (hs:=hs) (hw:=hw) (h1:=h1)
theorem Yy{X:Cx}{c:Expr}{a b:List Stmt}{tc:TT}(hc:IPT X c tc)(ha:IPSs X a t)(hb:IPSs X b u):IPS X (.If c a b pos) (Ht tc t u):=by
 simp only[Zt,Z0,Z2,Zy,Z3,Zx,Zp,Z1,Zo,Zz,Z4,Zq]at *
 exact DA (hc:=hc) (ha:=ha) (hb:=hb)
theorem ZA{X:Cx}(he:IPE X e te):IPS X (.Return (some e) pos) (Eu te):=by
 simp only[Zt,Z0,Z2,Zy,Z3,Zx,Zp,Z1,Zo,Zz,Z4,Zq]at *
 exact FQ (he:=he)
theorem YV{X:Cx}(he:IPE X e te)(hs:swapsWith e none pos.line X.env=pure false:=by rfl):IPS X (.Expr e pos) (NX te):=by
 simp only[Zt,Z0,Z2,Zy,Z3,Zx,Zp,Z1,Zo,Zz,Z4,Zq]at *
 exact NI (he:=he) (hs:=hs)
theorem Xa{X:Cx}{iter:Expr}{body:List Stmt}{wi:TI}{g:TG}{tb:TS}{pos:Pos}(hp:PassesOwn (model X.prog X.w) X.A X.env X.xe)(hc:X.calm=true)(hi:IPI X tg iter wi)(hg:IPG X tg g)(hb:IPSs X body tb) 
  (hs:∀x,foldedSetIterable iter X.env x=pure x:=by intro _;rfl):IPS X (.For tg iter body [] pos) (Eo wi g tb):=by
 simp only[Zt,Z0,Z2,Zy,Z3,Zx,Zp,Z1,Zo,Zz,Z4,Zq]at *
 exact FO (hp:=hp) (hc:=hc) (hi:=hi) (hg:=hg) (hb:=hb) (hs:=hs)
theorem Vj{Y:Cx}:IPTs Y [] Ex:=by
 simp only[Zt,Z0,Z2,Zy,Z3,Zx,Zp,Z1,Zo,Zz,Z4,Zq]at *
 exact IY 
theorem UB{Y:Cx}{c:Expr}{t:TT}(h:IPT Y c t):IPTs Y [c] t:=by
 simp only[Zt,Z0,Z2,Zy,Z3,Zx,Zp,Z1,Zo,Zz,Z4,Zq]at *
 exact IZ (h:=h)
open AutoSeq1 (wpAny_loadPart')
section
variable {prog:Program}{w:World}{A:Around}{E:Value->Shared->Prop}{s:Shared}
theorem O2{t:Bool}{e it l:Addr}{i:Nat}{items:Array Value}{x old:Value}{Q:Option Value->Shared->Prop}(he:IsEnum s.heap e it i old)(hit:WK t s.heap it l i)(hl:VT t s.heap l items)(hx:items[i]? = some x)(hne:e≠it) 
  (hQ:∀h',IsEnumOut h' e it ((i:Int)+1) x s.heap.objs.size->WK t h' it l (i+1)->h'.get? s.heap.objs.size=some { cls:=.type "tuple",data:=.seq #[.int i s.toks,x] } ->
   (∀b o,b≠e->b≠it->s.heap.get? b=some o->h'.get? b=some o)->Q (some (.ref s.heap.objs.size)) { s with heap:=h',toks:=s.toks+1 }):wpAny (model prog w) A (pyNext (.ref e)) Q E s:=by
 obtain⟨hp,g,d,tk,os⟩:=s
 have hT:Shared.TypeIs ⟨hp,g,d,tk,os⟩ (.ref e) "enumerate":=⟨_,he,rfl⟩
 have hel:e<hp.objs.size:=wA he
 unfold pyNext
 refine zL (wD (wE (name:=Str.ofString "__next__") hT xX (wG xX hT F.entry_enumerate_next ?_ (F.args_enumerate_next_1 _))))
 show wpAny _ _ (field (.ref e) 2>>=_) _ _ _;refine zL (zO he rfl (x:=.ref it) rfl (zL (YT hit hl hx λha hita hsa=>?_)))
 have hsa':Heap.SameBut it hp ha:=hsa
 have hea:IsEnum ha e it i old:=(hsa'.2 e hne).trans he
 show wpAny _ _ (field (.ref e) 3>>=_) _ _ ⟨ha,g,d,tk,os⟩;refine zL (zO hea rfl (x:=rawInt i) rfl ?_)
 show wpAny _ _ (field (.ref e) 4>>=_) _ _ ⟨ha,g,d,tk,os⟩;refine zL (zO hea rfl (x:=.none) rfl ?_)
 show wpAny _ _ (mkInt i>>=_) _ _ ⟨ha,g,d,tk,os⟩;refine zL (wpAny_mkInt ?_)
 show wpAny _ _ (setField (.ref e) 3 (rawInt ((i:Int)+1))>>=_) _ _ ⟨ha,g,d,tk+1,os⟩
 refine zL (xE hea (by simp) λhb heb hsb=>?_)
 have hsb':Heap.SameBut e ha hb:=hsb
 have heb':IsEnum hb e it ((i:Int)+1) old:=heb
 show wpAny _ _ (setField (.ref e) 4 .none>>=_) _ _ ⟨hb,g,d,tk+1,os⟩
 refine zL (xE heb' (by simp) λhc hec hsc=>?_)
 have hsc':Heap.SameBut e hb hc:=hsc
 have hec':IsEnum hc e it ((i:Int)+1) old:=hec
 show wpAny _ _ (newTuple [.int i tk,x]>>=_) _ _ ⟨hc,g,d,tk+1,os⟩
 refine zL (xJ ?_)
 have hsz:hc.objs.size=hp.objs.size:=by rw[hsc'.1,hsb'.1,hsa'.1]
 obtain⟨hd,ehd⟩:∃hd,hd=hc.push { cls:=.type "tuple",data:=.seq #[.int i tk,x] }:=⟨_,rfl⟩
 have hed:IsEnum hd e it ((i:Int)+1) old:=by rw[ehd];exact zX _ hec'
 have htd:hd.get? hp.objs.size=some { cls:=.type "tuple",data:=.seq #[.int i tk,x] }:=by rw[ehd,<- hsz];exact zY _ rfl
 have hkd:∀b o,b≠e->b≠it->hp.get? b=some o->hd.get? b=some o:=λb o n1 n2 q=>by rw[ehd];exact zX _ (hsc'.extBut b o n1 (hsb'.extBut b o n1 (hsa'.extBut b o n2 q)))
 have hitd:WK t hd it l (i+1):=hita.at λo q=>by rw[ehd];exact zX _ (hsc'.extBut _ _ (zQ hne) (hsb'.extBut _ _ (zQ hne) q))
 show wpAny _ _ (Builtin.SmallTypes.ownedTupleIsFree (.ref e)>>=_) _ _ ⟨hc.push { cls:=.type "tuple",data:=.seq #[.int i tk,x] },g,d,tk+1,os⟩
 rw[hsz,<- ehd]
 refine zL ?_
 unfold Builtin.SmallTypes.ownedTupleIsFree
 refine zL (zO hed rfl (x:=.none) rfl (zM ?_))
 simp only[yD]
 refine zL (wL (zL (zO hed rfl (x:=old) rfl (zL (xE hed (by simp) λhf hef hsf=>?_)))))
 have hsf':Heap.SameBut e hd hf:=hsf
 have hef':IsEnum hf e it ((i:Int)+1) x:=hef
 show wpAny _ _ (Builtin.SmallTypes.ownedTupleHandOut (.ref e) (.ref hp.objs.size)>>=_) _ _ ⟨hf,g,d,tk+1,os⟩
 refine zL ?_
 unfold Builtin.SmallTypes.ownedTupleHandOut
 refine zL (xE hef' (by simp) λhg heg hsg=>?_)
 have hsg':Heap.SameBut e hf hg:=hsg
 have heg':IsEnumOut hg e it ((i:Int)+1) x hp.objs.size:=heg
 refine xE heg' (by simp) λhh heh hsh=>?_
 have hsh':Heap.SameBut e hg hh:=hsh
 have heh':IsEnumOut hh e it ((i:Int)+1) x hp.objs.size:=heh
 have up:∀b o,b≠e->hd.get? b=some o->hh.get? b=some o:=λb o n q=>hsh'.extBut b o n (hsg'.extBut b o n (hsf'.extBut b o n q))
 exact zL (xI (zM ⟨_,rfl,zM (hQ hh heh' (hitd.at λo q=>up _ o (zQ hne) q) (up _ _ (vS hel) htd) λb o n1 n2 q=>up b o n1 (hkd b o n1 n2 q))⟩))
theorem Mn{t:Bool}{e it l:Addr}{i:Nat}{items:Array Value}{old:Value}{Q:Option Value->Shared->Prop}(hh:A.handled=none)(he:IsEnum s.heap e it i old)(hit:WK t s.heap it l i)(hl:VT t s.heap l items)(hx:items[i]? = none) 
  (hQ:∀h',Heap.ExtBut it s.heap h'->Q none { s with heap:=h' }):wpAny (model prog w) A (pyNext (.ref e)) Q E s:=by
 have hT:s.TypeIs (.ref e) "enumerate":=⟨_,he,rfl⟩
 unfold pyNext
 refine zL (wD (wE (name:=Str.ofString "__next__") hT xX (wG xX hT F.entry_enumerate_next ?_ (F.args_enumerate_next_1 _))))
 show wpAny _ _ (field (.ref e) 2>>=_) _ _ _;refine zL (zO he rfl (x:=.ref it) rfl (zL (MB hh hit hl hx λh' x he' ⟨o,ho,hc⟩=>?_)))
 exact zL (wN (T:="StopIteration") (b:=true) ⟨o,ho,hc⟩ wO (zM (hQ _ he')))
end
end L2
namespace L2
open PySem PySem.Spec PyProof.Rows
open AutoSeq1 (wpAny_loadPart')
abbrev Cz(h:Heap)(t:Bool)(l:Addr):Heap:=h.push (Qv t l)
abbrev C1(h:Heap)(t:Bool)(l:Addr):Heap:=(Cz h t l).push { cls:=.type "enumerate",data:=.fields #[.none,.bool false,.ref h.objs.size,rawInt 0,.none,.none] }
theorem Py(t:Bool)(l:Addr)(items:Array Value)(n:Nat)(dct:Option Addr)(sl:Array (Option Value)):
  Meets (Builtin.«enumerate.__new__» ⟨[.type "enumerate",.ref l],[]⟩) (λ_ R s=>s.heap.get? l=some { cls:=.type (if t then "tuple" else "list"),dict:=dct,data:=.seq items n,slots:=sl } /\
   R (.ok (.ret (.ref (Cz s.heap t l).objs.size))) { s with heap:=C1 s.heap t l }):=
 .of_wp λprog w A R s h=>by
  obtain⟨hp,g,d,tk,os⟩:=s;obtain⟨hl,h⟩:=h
  have hsub:=sub_enumerate
  have hL:VT t (Shared.heap ⟨hp,g,d,tk,os⟩) l items:=by cases t<;>exact⟨_,hl,rfl,n,rfl⟩
  wp_walk using uY hl
  refine wpAny_stack_any λst=>zM ?_
  split
  ·rename_i c _ _ _ _ _
   cases (c == Value.type "enumerate")
   ·wp_walk using uY hl,Pl hL
    exact⟨_,rfl,h⟩
   ·wp_walk using uY hl,Pl hL
    exact⟨_,rfl,h⟩
  ·wp_walk using uY hl,Pl hL
   exact⟨_,rfl,h⟩
section
variable {prog:Program}{w:World}{A:Around}{E:Value->Shared->Prop}{s:Shared}
theorem Ol{t:Bool}{l:Addr}{items:Array Value}{Q:Value->Shared->Prop}(hL:VT t s.heap l items) 
  (h:∀h',IsEnum h' (s.heap.objs.size+1) s.heap.objs.size 0 .none->WK t h' s.heap.objs.size l 0 ->
   (∀b o,s.heap.get? b=some o->h'.get? b=some o)->Q (.ref (s.heap.objs.size+1)) { s with heap:=h' }) :
  wpAny (model prog w) A (call (.type "enumerate") [.ref l]) Q E s:=by
 obtain⟨dct,n,sl,hl⟩:∃dct n sl,s.heap.get? l=some { cls:=.type (if t then "tuple" else "list"),dict:=dct,data:=.seq items n,slots:=sl }:=by
  cases t<;>(obtain⟨⟨c,dct,dt,sl⟩,hl,hc,n,hd⟩:=hL;simp only at hc hd;subst hc hd;exact⟨dct,n,sl,hl⟩)
 refine callType_new F.called_enumerate (by decide) (F.typeCall_enumerate_1 _) (F.newCall_enumerate_1 _) (λobj=>F.args_object_init_2 obj _) F.entry_enumerate_new
  (Py t l items n dct sl) ⟨hl,?_⟩
 have hz:(Cz s.heap t l).objs.size=s.heap.objs.size+1:=wB ..
 have he:IsEnum (C1 s.heap t l) (s.heap.objs.size+1) s.heap.objs.size 0 .none:=by
  have:=zY (Cz s.heap t l) (o:={ cls:=.type "enumerate",data:=.fields #[.none,.bool false,.ref s.heap.objs.size,rawInt 0,.none,.none] }) rfl
  rw[hz]at this;exact this
 have g1:(C1 s.heap t l).get? s.heap.objs.size=some (Qv t l):=zX _ (zY _ (by cases t<;>rfl))
 have mk:WK t (C1 s.heap t l) s.heap.objs.size l 0:=by cases t<;>exact⟨_,g1,rfl,rfl⟩
 show _/\_
 rw[hz]
 exact⟨⟨_,he,rfl⟩,h _ he mk λb o x=>zX _ (zX _ x)⟩
end
def CC(K:Frag)(t:Bool)(a:Addr):It:=
 ⟨λi H=>∃xs x,S3 K t H a xs/\xs[i]? = some x,
   λi H v H'=>∃p x,v=.ref p/\H p=none/\H'=upd H p (.tup [.int i,x])/\∀xs,S3 K t H a xs->xs[i]? = some x,
   λi H=>∃xs,S3 K t H a xs/\xs.length≤i,false⟩
def B3(t:Bool)(e it l:Addr)(i:Nat)(h:Heap):Prop:=e≠it/\(∃old,IsEnum h e it i old)/\WK t h it l i
theorem MQ{P:Program}{w:World}{K:Frag}{elts:List Expr}{kk:Nat}{pos:Pos}(t:Bool)(z i1 l1:Addr):Oe P w K (.Tuple elts kk pos) (CC K t l1) [z,i1] z (B3 t z i1 l1) where
 mem:=by simp
 obj:=λi h st b hb=>by
  obtain⟨_,⟨old,hz⟩,h1⟩:=st
  simp only[vE,xL,xM]at hb
  rcases hb with e|e
  ·subst e;exact⟨_,hz,λv q=>by cases q⟩
  ·subst e;exact h1.obj
 keep:=λi h h' st k=>by
  obtain⟨D,⟨old,hz⟩,h1⟩:=st
  exact⟨D,⟨old,k z (by simp) _ hz⟩,h1.at λo e=>k i1 (by simp) o e⟩
 item:=by
  intro X hP hw hK hc i pins s σ H E I hf st hg
  subst hP hw hK
  obtain⟨xs,x,q1,gx⟩:=hg
  obtain⟨D,⟨old,hz⟩,h1⟩:=st
  obtain⟨us,ru,su,_⟩:=I.sq q1
  obtain⟨u,hu,rx⟩:=ru.get gx
  refine O2 hz h1 su (x:=u) (by simpa using hu) D λh' z1 z3 z5 z7=>⟨_,rfl,?_⟩
  have szn:s.heap.objs.size≠z:=vS (wA hz)
  refine wpAny_letOwnedTupleGo_enum (s:={ s with heap:=h',toks:=s.toks+1 }) z1 λh'' w1 w2=>?_
  have w2':Heap.SameBut z h' h'':=w2
  have hall:∀c o,c≠z->c≠i1->s.heap.get? c=some o->h''.get? c=some o:=λc o n1 n3 e=>w2'.extBut _ _ n1 (z7 c o n1 n3 e)
  have hn:H s.heap.objs.size=none:=I.hok.fresh (vU _)
  have f:=λb hb=>hf b hb
  have ch:∀b,b ∉ [z,i1]->b≠z/\b≠i1:=λb hb=>by
   simp only[vE,xL,xM,not_or]at hb
   exact hb
  have tr:∀b o,H b=some o->b ∉ [z,i1]:=λb o e hb=>by rw[(f b hb).1]at e;cases e
  have nsz:∀b o,H b=some o->b≠s.heap.objs.size:=λb o e q=>by rw[q,hn]at e;cases e
  have pair:h''.get? s.heap.objs.size=some { cls:=.type "tuple",data:=.seq #[.int i s.toks,u] }:=w2'.extBut _ _ szn z5
  refine⟨.ref s.heap.objs.size,upd H s.heap.objs.size (.tup [.int i,x]),Zv.step (s:=s) (h':=h'') (g':=s.gens) (d':=s.drawn) (t':=s.toks+1) (ch:=[z,i1]) I (λb hb=>?_) (λb o _ _ hb e _=>?_) (λb o _ _ hb e _=>⟨o.slots,?_⟩) (λb o hb e n=>?_) (λb o hb e=>⟨o,?_⟩) (λb zs e=>?_) (λb o zs e=>?_) (λb ps e=>⟨#[],?_⟩) (λm hm=>?_) (λb o e=>?_) I.bare,rfl,⟨s.heap.objs.size,x,rfl,hn,rfl,λxs' p1=>?_⟩,?_,λb hb=>?_⟩
  ·obtain⟨_,f1,f2,f3,f4,f5⟩:=f b hb
   exact⟨f3,f1,f4,f5⟩
  ·obtain⟨n1,n2⟩:=ch b hb;exact hall b o n1 n2 e
  ·obtain⟨n1,n2⟩:=ch b hb;exact hall b o n1 n2 e
  ·rw[Zi (wP (wA e))];exact n
  ·obtain⟨n1,n2⟩:=ch b hb;exact hall b o n1 n2 e
  ·rw[Zi (nsz b _ e)];exact e
  ·rw[Zi (nsz b _ e)];exact e
  ·rw[Zi (nsz b _ e),e];simp
  ·obtain⟨o,es,ep,ho,r⟩:=hm
   have nl:X.env.locals ∉ [z,i1]:=λhb=>(f _ hb).2.1 rfl
   obtain⟨n1,n2⟩:=ch _ nl
   exact⟨o,es,ep,hall _ o n1 n2 ho,r⟩
  ·by_cases hb:b=s.heap.objs.size
   ·subst hb;rw[Zw]at e;cases e
    exact⟨L2.sz2,[.int i s.toks,u],.cons ⟨_,rfl⟩ (.cons rx .nil),_,pair,rfl,_,rfl,rfl⟩
   ·rw[Zi hb]at e
    refine(I.hok b o e).stay (λc o' hc q=>?_) (λc q=>by rw[Zi (nsz c _ q)];exact q) λc zs q=>by rw[Zi (nsz c _ q)];exact q
    have nc:c ∉ [z,i1]:=by
     rcases hc with hc|hc
     ·rw[hc];exact tr b o e
     ·exact tr c _ hc
    obtain⟨n1,n2⟩:=ch c nc
    exact hall c o' n1 n2 q
  ·rw[I.sq_inj p1 q1];exact gx
  ·exact⟨D,⟨u,by have:=w1;exact_mod_cast this⟩,z3.at λo e=>w2'.extBut _ o (zQ D) e⟩
  ·obtain⟨o,e,_⟩:=(show ∃o,s.heap.get? b=some o/\∀v,o.data≠.cell v from by
    simp only[vE,xL,xM]at hb
    rcases hb with q|q
    ·subst q;exact⟨_,hz,λv q=>by cases q⟩
    ·subst q;exact h1.obj)
   rw[Zi (wP (wA e))];exact(f b hb).1
 done:=by
  intro X hP hw hK hc i pins s σ H E I hf st hg
  subst hP hw hK
  obtain⟨xs,q1,ge⟩:=hg
  obtain⟨D,⟨old,hz⟩,h1⟩:=st
  obtain⟨us,ru,su,_⟩:=I.sq q1
  have lu:=ru.length
  refine Mn (I.ok.cd (GN hc)) hz h1 su (by simp;omega) λh' hk=>⟨rfl,?_⟩
  have f:=λb hb=>hf b hb
  have tr:∀b o,H b=some o->b ∉ [i1]:=λb o e hb=>by rw[(f b (by simp at hb;simp[hb])).1]at e;cases e
  have kk:∀b o,b ∉ [i1]->s.heap.get? b=some o->h'.get? b=some o:=λb o hb e=>hk b o (by simpa using hb) e
  refine I.step (g':=s.gens) (d':=s.drawn) (t':=s.toks) (ch:=[i1]) (λb hb=>?_) (λb o _ _ hb e _=>kk b o hb e) (λb o _ _ hb e _=>⟨o.slots,kk b o hb e⟩) (λb o hb e n=>n) (λb o hb e=>⟨o,kk b o hb e⟩) (λb zs e=>e) (λb o zs e=>e) (λb ps e=>⟨#[],by rw[e];simp⟩) (λm hm=>?_) (λb o e=>?_) I.bare
  ·obtain⟨_,f1,f2,f3,f4,f5⟩:=f b (by simp at hb;simp[hb])
   exact⟨f3,f1,f4,f5⟩
  ·obtain⟨o,es,ep,ho,r⟩:=hm
   exact⟨o,es,ep,kk _ o (λhb=>(f _ (by simp at hb;simp[hb])).2.1 rfl) ho,r⟩
  ·refine(I.hok b o e).stay (λc o' hc q=>kk c o' ?_ q) (λc q=>q) λc zs q=>q
   rcases hc with hc|hc
   ·rw[hc];exact tr b o e
   ·exact tr c _ hc
 self:=λ_ _ _ _ _ st h=>by
  obtain⟨D,⟨old,hz⟩,h1⟩:=st
  exact wpAny_pyIter_enum hz h
section
variable {X:Cx}
def Kp(K:Frag)(t:Bool)(ta:TA):TI:=λσ H R=>ta σ H λvs H1=>∃a xs,vs=[.ref a]/\S3 K t H1 a xs/\R (CC K t a) H1
theorem IP{elts:List Expr}{kk:Nat}{tp:Pos}{a:Expr}{ta:TA}{p pos:Pos}(t:Bool)(hg:Gl X "enumerate")(hm:X.mg "enumerate" = none)(ha:PA X [a] ta)(hs:starEach [a] X.env=[(false,eval a X.env)]:=by rfl)(hc:X.cold=true:=by rfl):
  PI X (.Tuple elts kk tp) (.Call (.Name "enumerate" p) [a] [] pos) (Kp X.K t ta):=by
 intro pins s σ H R I h
 refine Call_ (VJ I hg hm boot_enumerate (vV (Y2 (ha pos pins s σ H _ I h) λus s1 ⟨vs,H1,I1,r1,q1⟩=>?_) (by rw[hs];rfl) rfl))
 obtain⟨l1,xs,e,q1,q⟩:=q1
 subst e
 cases r1 with
 | cons r rr=>
  cases rr
  cases r
  obtain⟨us,_,su,_⟩:=I1.sq q1
  refine Ol su λh' z1 z4 z6=>?_
  have I2:Zv X pins σ H1 { s1 with heap:=h' }:=I1.kept (t':=s1.toks) z6
  refine wpAny_pyIter_enum z1 ⟨_,[s1.heap.objs.size+1,s1.heap.objs.size],_,_,H1,rfl,I2,MQ t _ _ l1,⟨Nat.succ_ne_self _,⟨_,z1⟩,z4⟩,λb hb=>?_,.inl hc,q⟩
  have le:s1.heap.objs.size≤b:=by
   simp only[vE,xL,xM]at hb
   rcases hb with e|e<;>rw[e]<;>first|exact vU _|exact xB _ _
  exact I1.fpOk le (I1.hok.fresh le)
end
theorem Rm{X:Cx}{elts:List Expr}{kk:Nat}{tp:Pos}{a:Expr}{ta:TA}{p pos:Pos}(t:Bool)(hg:Gl X "enumerate")(hm:X.mg "enumerate" = none)(ha:IPA X [a] ta)(hs:starEach [a] X.env=[(false,eval a X.env)]:=by rfl)(hc:X.cold=true:=by rfl):
  IPI X (.Tuple elts kk tp) (.Call (.Name "enumerate" p) [a] [] pos) (Kp X.K t ta):=by
 rw[Zz];rw[Zy]at ha;exact IP t hg hm ha hs hc
end L2
namespace L2
open PySem PySem.Spec PyProof.Rows
section
variable {X:Cx}
def Ha(K:Frag)(neg:Bool):R2:=λx y H Q=>∃d ds p ys,DV K H d x/\y=.ref p/\(Xg K H p ys\/X7 K H p ys)/\Y3 K H ds ys/\d.canLay0=true/\PyData.canLayAll0 ds=true/\d.depth≤30/\Q (.bl (if neg then !ds.any (λy=>PyData.eqv y d) else ds.any (λy=>PyData.eqv y d))) H
theorem OF(hu:X.A.units+64<cLine):XZ X (compareOp .In) (Ha X.K false):=by
 rintro pins s σ H x y v u Q I rx ry ⟨d,ds,p,ys,h1,rfl,hq,h2,c1,c2,dp,q⟩
 obtain⟨bs,rb⟩:=I.reads h1 rx
 have hm:X.A.units+1+min (PyData.depthAll ds) d.depth<cLine:=by omega
 rcases hq with hq|hq
 ·obtain⟨as,ra⟩:=I.reads (DV.list hq h2) ry
  exact SeqAt.in_list_reads ra rb c2 c1 hm ⟨.bl _,H,I,rfl,q⟩
 ·obtain⟨as,ra⟩:=I.reads (DV.tup hq h2) ry
  exact SeqAt.in_tuple_reads ra rb c2 c1 hm ⟨.bl _,H,I,rfl,q⟩
theorem ME(hu:X.A.units+64<cLine):XZ X (compareOp .NotIn) (Ha X.K true):=by
 rintro pins s σ H x y v u Q I rx ry ⟨d,ds,p,ys,h1,rfl,hq,h2,c1,c2,dp,q⟩
 obtain⟨bs,rb⟩:=I.reads h1 rx
 have hm:X.A.units+1+min (PyData.depthAll ds) d.depth<cLine:=by omega
 rcases hq with hq|hq
 ·obtain⟨as,ra⟩:=I.reads (DV.list hq h2) ry
  exact SeqAt.notIn_list_reads ra rb c2 c1 hm ⟨.bl _,H,I,rfl,q⟩
 ·obtain⟨as,ra⟩:=I.reads (DV.tup hq h2) ry
  exact SeqAt.notIn_tuple_reads ra rb c2 c1 hm ⟨.bl _,H,I,rfl,q⟩
end
def tI(ns:List Int):PyData:=.tuple (ns.map .int)
def lT(rows:List (List Int)):PyData:=.list (rows.map tI)
theorem Jz{d:PyData}(hc:d.canLay0=true)(hi:d.intsShort 101=true)(hw:d.weight≤100000):d.shown.length≤sizeLine:=by
 have h:=PyData.shown_le 101 (by decide) d (PyData.leavesShort_of_canLay0 101 d hc hi)
 have e:sizeLine=16777216:=by decide
 omega
theorem Ts{i:Int}{w:Nat}(hw:0<w)(h:i.natAbs<2 ^ w):i.natAbs.log2<w:=by
 by_cases h0:i.natAbs=0
 ·rw[h0];simpa using hw
 ·exact(Nat.log2_lt h0).mpr h
section
variable {X:Cx}
def EG(i j:Int):Prop:=0<j/\j<2 ^ 250
theorem Se:XZ X (binaryOp .FloorDiv) (rI EG λi j=>.int (i / j)):=C6 λi j _ _ _ _ _ hc q=>by
 have h1:(0:Int)<j:=hc.1
 have h2:j<2 ^ 250:=hc.2
 refine floordiv_int (by omega) (by rw[Int.fdiv_eq_ediv_of_nonneg i (by omega)];exact q) (.inl (PyProof.noPylong_of_log2 ?_))
 exact Nat.lt_trans (Ts (w:=250) (by decide) (show j.natAbs<2 ^ 250 by omega)) (by decide)
end
theorem MP{i:Int}{w:Nat}(hw:0<w)(hw2:w≤100)(h:i.natAbs<2 ^ w):(PyData.int i).intsShort 101=true:=by
 have e:=int_text_length_le (a:=i) (k:=w) hw (Ts hw h)
 simp only[PyData.intsShort,xY]
 show(Str.ofString (toString i)).length≤101
 rw[PySem.ofString_length]
 omega
theorem OY{i:Int}{w:Nat}(hw:0<w)(h:i.natAbs<2 ^ w):(PyData.int i).weight≤w:=by
 have:=Ts hw h
 simp only[PyData.weight]
 split<;>omega
theorem DV.tI{K:Frag}{H:Hp}{a:Addr}{ns:List Int}(h:X7 K H a (ns.map V.int)):DV K H (tI ns) (.ref a):=DV.tup h (Y3.ints ns)
def LR(K:Frag)(H:Hp)(l:Addr)(rows:List (List Int)):Prop:=∃xs,Xg K H l xs/\Y3 K H (rows.map tI) xs
theorem LR.dv{K:Frag}{H:Hp}{l:Addr}{rows:List (List Int)}(h:LR K H l rows):DV K H (lT rows) (.ref l):=by
 obtain⟨xs,h1,h2⟩:=h
 exact DV.list h1 h2
theorem LR.same{K:Frag}{H H':Hp}{l:Addr}{rows:List (List Int)}(h:LR K H l rows)(e:Z5 H H'):LR K H' l rows:=by
 obtain⟨xs,h1,h2⟩:=h
 exact⟨xs,e.seq h1,Y3.same e h2⟩
theorem Y3.snoc{K:Frag}{H:Hp}{ds:List PyData}{d:PyData}{xs:List V}{x:V}(h:Y3 K H ds xs)(t:DV K H d x):Y3 K H (ds++[d]) (xs++[x]):=Y3.append h (Y3.cons t Y3.nil)
theorem Y3.take{K:Frag}{H:Hp}:∀{ds:List PyData}{xs:List V} (k:Nat),Y3 K H ds xs->Y3 K H (ds.take k) (xs.take k)
 | [],xs,k,h=>by unfold Y3 at h;subst h;simp;exact Y3.nil
 | d::ds,xs,0,h=>by simp;exact Y3.nil
 | d::ds,xs,k+1,h=>by
  unfold Y3 at h
  obtain⟨x,r,rfl,h1,h2⟩:=h
  exact Y3.cons h1 (Y3.take k h2)
theorem Y3.reverse{K:Frag}{H:Hp}:∀{ds:List PyData}{xs:List V},Y3 K H ds xs->Y3 K H ds.reverse xs.reverse
 | [],xs,h=>by unfold Y3 at h;subst h;exact Y3.nil
 | d::ds,xs,h=>by
  unfold Y3 at h
  obtain⟨x,r,rfl,h1,h2⟩:=h
  rw[yH,yH]
  exact Y3.snoc (Y3.reverse h2) h1
section
variable {X:Cx}{K:Frag}
theorem OH(h:X.K=K)(hu:X.A.units+64<cLine):XZ X (compareOp .NotIn) (Ha K true):=h▸ME hu
end
def Pt:List Int->List Int->Bool
 | x::xs,y::ys=>decide (x<y)||(decide (x=y)&&Pt xs ys)
 | _,_=>false
def JY(h:Heap)(v:Value)(ns:List Int):Prop:=∃a o vs n,v=.ref a/\h.get? a=some o/\o.cls=.type "tuple"/\o.data=.seq (List.toArray vs) n/\IntsAre vs ns
theorem JY.keep{h h':Heap}{v:Value}{ns:List Int}(x:JY h v ns)(k:∀b o,o.cls=.type "tuple"->h.get? b=some o->h'.get? b=some o):JY h' v ns:=by
 obtain⟨a,o,vs,n,e,h1,h2,h3,h4⟩:=x
 exact⟨a,o,vs,n,e,k _ _ h2 h1,h2,h3,h4⟩
section
variable {prog:Program}{w:World}{A:Around}{E:Value->Shared->Prop}{s:Shared}
def UP(h:Heap)(xs:Array Keyed):Prop:=∀i,i+1<xs.size->∃x y p q ns ms,xs[i]? = some (y,q)/\xs[i+1]? = some (x,p)/\JY h x ns/\JY h y ms/\ns.length=ms.length/\Pt ms ns=true
def G9(h:Heap)(vs:List Value):Prop:=(∀v∈vs,∃ns,JY h v ns/\1≤ns.length)/\∀i x y,vs[i]? = some y->vs[i+1]? = some x->∃ns ms,JY h x ns/\JY h y ms/\ns.length=ms.length/\Pt ms ns=true
theorem G9.keep{h h':Heap}{vs:List Value}(x:G9 h vs)(k:∀b o,o.cls=.type "tuple"->h.get? b=some o->h'.get? b=some o):G9 h' vs:=by
 refine⟨λv hv=>?_,λi a b e1 e2=>?_⟩
 ·obtain⟨ns,h1,h2⟩:=x.1 v hv
  exact⟨ns,h1.keep k,h2⟩
 ·obtain⟨ns,ms,h1,h2,h3,h4⟩:=x.2 i a b e1 e2
  exact⟨ns,ms,h1.keep k,h2.keep k,h3,h4⟩
end
theorem My{X:Cx}{x y:Str}{a b:Expr}{ta:TA}{px py pt pos:Pos}{kt k2:Nat}{pt2:Pos}(i j:Nat)(hc:X.calm=true)(hN:X.N.Nodup)(ha:IPA X [a,b] ta)(hi:X.N[i]? = some x:=by rfl)(hj:X.N[j]? = some y:=by rfl)(hij:i≠j:=by decide) 
  (hx:X.env.scope.names.lookup x=some .local:=by rfl) (hy:X.env.scope.names.lookup y=some .local:=by rfl)
  (hw:swappedStores [.Tuple [.Name x px,.Name y py] kt pt] (.Tuple [a,b] k2 pt2) X.env=pure (some [x,y]):=by rfl)
  (hs:swapsWithSole [.Tuple [.Name x px,.Name y py] kt pt] (.Tuple [a,b] k2 pt2) pos.line X.env=pure false:=by rfl) :
  IPS X (.Assign [.Tuple [.Name x px,.Name y py] kt pt] (.Tuple [a,b] k2 pt2) pos) (Et i j ta):=by
 rw[Zx]
 rw[Zy]at ha
 exact FP hc hN hi hj hij hx hy ha hw hs
def Kj{α:Type}(d:α)(na nk:Nat)(pick:List (Nat×Nat))(us ws:List α):List α:=if us.length=na/\ws.length=nk then pick.filterMap (λp=>if p.1=0 then us[p.2]? else if p.1=1 then ws[p.2]? else some d) else []
theorem Ip{na nk:Nat}{pick:List (Nat×Nat)}{dv:V}{du:Value}(hd:ZL dv du){vs:List V}{us:List Value}{zs:List V}{ws:List Value}(r:ZD vs us)(z:ZD zs ws):ZD (Kj dv na nk pick vs zs) (Kj du na nk pick us ws):=by
 unfold Kj
 rw[r.length,z.length]
 split
 ·induction pick with
  | nil=>exact .nil
  | cons p t ih=>
   have look:∀{as:List V}{bs:List Value},ZD as bs->∀i:Nat,(∃a b,as[i]? = some a/\bs[i]? = some b/\ZL a b)\/(as[i]? = none/\bs[i]? = none):=λ{as bs} q i=>by
    cases e:as[i]? with
    | none=>exact .inr ⟨rfl,q.none_of e⟩
    | some a=>obtain⟨b,h1,h2⟩:=q.get e;exact .inl ⟨a,b,rfl,h1,h2⟩
   rw[vA,vA]
   by_cases c0:p.1=0
   ·rcases look r p.2 with ⟨a,b,e1,e2,q⟩|⟨e1,e2⟩
    ·simp only[c0,yD,e1,e2];exact .cons q ih
    ·simp only[c0,yD,e1,e2];exact ih
   ·by_cases c1:p.1=1
    ·rcases look z p.2 with ⟨a,b,e1,e2,q⟩|⟨e1,e2⟩
     ·simp only[c0,c1,wS,yD,e1,e2];exact .cons q ih
     ·simp only[c0,c1,wS,yD,e1,e2];exact ih
    ·simp only[c0,c1,wS];exact .cons hd ih
 ·exact .nil
def R9(x:Str)(st:Stmt)(ps ks:List Str)(na nk:Nat)(pick:List (Nat×Nat)):Prop:=∀(T e:Addr) (kV doc pm:Value) (an:Option Addr) (cdv ct:Value) (us ws:List Value),(Kj (Value.ref e) na nk pick us ws).length=ps.length ->
 ∃k:Option (Array Value)->Sem (List (Str×Value)),bindArgs (PySem.W.fnOf x x (YB st) (ZQ st) (Zg st) (.ref T) kV doc pm an cdv ct) ⟨us,ks.zip ws⟩=seqItems? (.ref T)>>=k/\k (some #[.ref e])=pure (ps.zip (Kj (Value.ref e) na nk pick us ws))
structure QB(K:Frag)(x:Str)(st:Stmt)(f:Addr)(fd:FuncData)(e:Addr):Prop where
 ex:∃(oc:Value) (od:Option Addr) (T:Addr) (kV doc pm:Value) (an:Option Addr) (cdv ct:Value) (osl:Array (Option Value)) (oT:Obj) (n:Nat),
  fd=PySem.W.fnOf x x (YB st) (ZQ st) (Zg st) (.ref T) kV doc pm an cdv ct/\K.lookup f=some ⟨oc,od,.func fd,osl⟩/\PySem.W.codeIn K cdv x=true/\K.lookup T=some oT/\oT.data=.seq #[.ref e] n
 kp:PySem.W.keepIn K (.ref f)=true
def Na(K:Frag)(e:Addr):Prop:=∃(o:Obj) (n:Nat),K.lookup e=some o/\o.cls=.type "tuple"/\o.data=.seq #[] n
theorem Na.tup{K:Frag}{e:Addr}(h:Na K e)(H:Hp):X7 K H e []:=by
 obtain⟨o,n,h1,h2,h3⟩:=h
 exact .inr ⟨o,#[],n,h1,h2,h3,by decide,.nil⟩
theorem QB.kbinds{K:Frag}{x:Str}{st:Stmt}{ps ks:List Str}{na nk:Nat}{pick:List (Nat×Nat)}{f e:Addr}{fd:FuncData}(F:QB K x st f fd e)(h:R9 x st ps ks na nk pick):MX K fd ps ks (Kj (Value.ref e) na nk pick) (Kj (V.ref e) na nk pick):=by
 obtain⟨oc,od,T,kV,doc,pm,an,cdv,ct,osl,oT,n,rfl,lk,hcd,hT,hd⟩:=F.ex
 refine⟨λs us ws kin hl=>?_,λr z=>Ip (show ZL (V.ref e) (Value.ref e) from rfl) r z⟩
 obtain⟨k,h1,h2⟩:=h T e kV doc pm an cdv ct us ws hl
 exact BindsTo.of_defaults (T:=T) rfl (kin T oT hT) hd h1 h2
structure EI(P:Program)(w:World)(K:Frag)(mg:Str->Option Value)(base:Heap)(k:Nat)(x:Str)(st:Stmt)(ps:List Str)(sp:Sp)(e:Addr):Prop where
 ex:∃f fd,Xv P w K mg base S0 k f fd ps sp/\QB K x st f fd e/\mg x=some (.ref f)
theorem EI.of{P:Program}{w:World}{K:Frag}{mg:Str->Option Value}{base:Heap}{x:Str}{st:Stmt}{N ps:List Str}{k:Nat}{sp:Sp}{e:Addr}(U:∃f fd,QB K x st f fd e/\mg x=some (.ref f))(S:Z8 N ps (Zg st))(len:∀vs H Q E,sp vs H Q E->vs.length=ps.length) 
  (hbody:∀(f:Addr) (cdv:Value) (A:Around) (outer:List Env) (s:Shared) (H:Hp) (vs:List V) (Q:VK) (E:XK),Yg k (A.deeper (envOfC x (Zg st) s.heap.objs.size f cdv))->sp vs H Q E ->
   ∃t,VS (Xi S0 P w K mg base N x (Zg st) f cdv A outer s H E).nox (ZQ st) t/\t { nx:=λ_ H'=>Q .non H',rt:=Q } (YA N vs) H):EI P w K mg base (k+1) x st ps sp e:=by
 obtain⟨f,fd,F,m⟩:=U
 refine⟨f,fd,?_,F,m⟩
 obtain⟨oc,od,T,kV,doc,pm,an,cdv,ct,osl,oT,n,rfl,lk,hcd,hT,hd⟩:=F.ex
 refine Ri lk hcd S len λA outer s H vs Q E hr hsp=>?_
 obtain⟨t,h,q⟩:=hbody f cdv A outer s H vs Q E hr hsp
 exact⟨t,h.nox,q⟩
section
variable {prog:Program}{w:World}{A:Around}{E:Value->Shared->Prop}{s:Shared}
open HT in
theorem Vw{t sl:Addr}{items:Array Value}{vl vu:Value}{lo hi:Option Int}{Q:Value->Shared->Prop}(ht:IsTup s.heap t items)(hs:s.heap.IsSliceOf sl vl vu .none)(pl:IsPart vl lo)(pu:IsPart vu hi) 
  (hw:sIx items.size 0 lo=0/\sIx items.size items.size hi=items.size) (h:Q (.ref t) s):wpAny (model prog w) A (getItem (.ref t) (.ref sl)) Q E s:=by
 obtain⟨os,hos,hcs,hds⟩:=id hs
 have hTs:s.TypeIs (.ref sl) "slice":=⟨os,hos,hcs⟩
 unfold getItem
 try with_reducible refine zN ?_
 first|refine zL (zM ?_)|skip
 refine zL (wpAny_sequenceKey ht.typeIs (by decide) ?_)
 refine zL (wE (name:=Str.ofString "__getitem__") ht.typeIs yF
  (wG yF ht.typeIs entry_tuple_getitem ?_ (args_tuple_getitem _ _)))
 show wpAny _ _ (Builtin.Tuple.tupleItemsOf (.ref t)>>=_) _ _ s
 refine zL (tupleItemsOf_ ht ?_)
 refine zL (wpAny_typeOf hTs ?_)
 rw[zJ (by decide)]
 refine zL (Wu hs pl pu ?_)
 show wpAny _ _ (if(((sIx items.size 0 lo:Nat):Int) == 0&&(1:Int) == 1&&(sIx items.size items.size hi-sIx items.size 0 lo) == items.size)=true then _ else _) _ _ s
 rw[zJ (by rw[hw.1,hw.2];simp)]
 refine zL ?_
 unfold Builtin.Tuple.tupleIsExact
 refine zL (wpAny_typeOf ht.typeIs (zM ?_))
 rw[zJ (by decide)]
 exact zL (wL (zM ⟨_,rfl,zM h⟩))
end
section
variable {prog:Program}{w:World}{κ:Type} [DecidableEq κ] {knd:HeapKind prog w κ}{A:Around}{E:Value->Shared->Prop}{s:Shared}{d a:Addr}{xs:List (κ×Addr×Value)}{k:κ}{v:Value}{Q:Unit->Shared->Prop}
def MW(knd:HeapKind prog w κ)(h:Heap)(d:Addr)(xs:List (κ×Addr×Value)):Prop:=
 ∃o es,h.get? d=some o/\o.ExactDict/\o.data=.dict es xs.length/\es.toList=xs.map (entryOfKey knd)/\(∀x∈xs,knd.is h x.1 x.2.1)/\(xs.map (·.1)).Nodup
theorem MW.of{h:Heap}(q:MW knd h d xs):h.DictOfH knd d xs:=by
 obtain⟨o,es,h1,h2,h3,h4⟩:=q
 exact⟨o,es,_,h1,h2,h3,h4⟩
end
section
variable {κ:Type} [DecidableEq κ]
def Uw(kvs:List (κ×V))(k:κ):Option V:=(kvs.find? λkv=>decide (kv.1=k)).map (·.2)
def SN(kvs:List (κ×V))(k:κ)(v:V):List (κ×V):=
 if(kvs.any λkv=>decide (kv.1=k))=true then kvs.map (λkv=>if kv.1=k then(kv.1,v) else kv) else kvs++[(k,v)]
theorem Uy{p:κ×V}{r:List (κ×V)}{k:κ}(e:p.1=k):Uw (p::r) k=some p.2:=by simp[Uw,xZ,e]
theorem Ux{p:κ×V}{r:List (κ×V)}{k:κ}(e:¬p.1=k):Uw (p::r) k=Uw r k:=by simp[Uw,xZ,e]
theorem PX(k:κ):∀kvs:List (κ×V),(kvs.any λkv=>decide (kv.1=k))=(Uw kvs k).isSome
 | []=>rfl
 | p::r=>by
  rw[tD]
  by_cases e:p.1=k
  ·simp only[Uy e,yO e,Bool.true_or,Option.isSome_some]
  ·rw[Ux e,wV e,Bool.false_or];exact PX k r
theorem Ww.isSome_eq{o:Option V}{u:Option Value}(r:Ww o u):o.isSome=u.isSome:=by
 cases o with
 | none=>cases u with
  | none=>rfl
  | some _=>exact(show False from r).elim
 | some _=>cases u with
  | none=>exact(show False from r).elim
  | some _=>rfl
theorem Ww.getD{o:Option V}{u:Option Value}{d:V}{d':Value}(r:Ww o u)(rd:ZL d d'):ZL (o.getD d) (u.getD d'):=by
 cases o with
 | none=>cases u with
  | none=>exact rd
  | some _=>exact(show False from r).elim
 | some _=>cases u with
  | none=>exact(show False from r).elim
  | some _=>exact r
theorem KV.val{kvs:List (κ×V)}{vs:List (κ×Value)}(r:KV kvs vs)(k:κ):Ww (Uw kvs k) (valueAt vs k):=by
 unfold KV at r
 induction r with
 | nil=>exact uF
 | @cons p q ps qs h t ih=>
  obtain⟨h1,h2⟩:=h
  by_cases e:p.1=k
  ·have e':q.1=k:=h1.symm.trans e
   have b:valueAt (q::qs) k=some q.2:=by simp[valueAt,xZ,e']
   rw[Uy e,b];exact h2
  ·have e':¬q.1=k:=λz=>e (h1.trans z)
   have b:valueAt (q::qs) k=valueAt qs k:=by simp[valueAt,xZ,e']
   rw[Ux e,b];exact ih
theorem KV.any{kvs:List (κ×V)}{vs:List (κ×Value)}(r:KV kvs vs)(k:κ):(kvs.any λkv=>decide (kv.1=k))=vs.any λkv=>decide (kv.1=k):=by
 unfold KV at r
 induction r with
 | nil=>rfl
 | cons h t ih=>rw[tD,tD,ih,h.1]
theorem KV.repl{kvs:List (κ×V)}{vs:List (κ×Value)}(r:KV kvs vs)(k:κ){y:V}{u:Value}(ry:ZL y u):
  KV (kvs.map λkv=>if kv.1=k then(kv.1,y) else kv) (vs.map λkv=>if kv.1=k then(kv.1,u) else kv):=by
 unfold KV at r |-
 induction r with
 | nil=>exact .nil
 | @cons p q ps qs h t ih=>
  rw[uE,uE]
  refine .cons ?_ ih
  obtain⟨h1,h2⟩:=h
  by_cases e:p.1=k
  ·rw[zJ e,zJ (h1.symm.trans e)];exact⟨h1,ry⟩
  ·rw[wH e,wH (λz=>e (h1.trans z))];exact⟨h1,h2⟩
theorem KV.put{kvs:List (κ×V)}{vs:List (κ×Value)}(r:KV kvs vs)(k:κ){y:V}{u:Value}(ry:ZL y u):KV (SN kvs k y) (stored vs k u):=by
 unfold SN stored
 rw[r.any k]
 by_cases e:(vs.any λkv=>decide (kv.1=k))=true
 ·rw[zJ e,zJ e];exact r.repl k ry
 ·rw[wH e,wH e];exact Paired.snoc r ⟨rfl,ry⟩
theorem KV.keys{kvs:List (κ×V)}{vs:List (κ×Value)}(r:KV kvs vs):kvs.map (·.1)=vs.map (·.1):=by
 unfold KV at r
 induction r with
 | nil=>rfl
 | cons h t ih=>rw[uE,uE,ih,h.1]
theorem KV.length{kvs:List (κ×V)}{vs:List (κ×Value)}(r:KV kvs vs):kvs.length=vs.length:=Paired.length r
end
abbrev KT(H:Hp):List (List YM×V)->List (List YM×Addr×Value)->Prop:=Paired λp q=>p.1=q.1/\H q.2.1=some (.tup (p.1.map kV))/\ZL p.2 q.2.2
theorem KT.val{H:Hp}{kvs:List (List YM×V)}{xs:List (List YM×Addr×Value)}(r:KT H kvs xs)(k:List YM):Ww (Uw kvs k) ((atKey xs k).map (·.2)):=by
 induction r with
 | nil=>exact uF
 | @cons p q ps qs h t ih=>
  obtain⟨h1,_,h2⟩:=h
  by_cases e:p.1=k
  ·have e':q.1=k:=h1.symm.trans e
   have b:atKey (q::qs) k=some q.2:=by simp[atKey,xZ,e']
   rw[Uy e,b];exact h2
  ·have e':¬q.1=k:=λz=>e (h1.trans z)
   have b:atKey (q::qs) k=atKey qs k:=by simp[atKey,xZ,e']
   rw[Ux e,b];exact ih
theorem KT.repl{H:Hp}{kvs:List (List YM×V)}{xs:List (List YM×Addr×Value)}(r:KT H kvs xs)(k:List YM){y:V}{u:Value}(ry:ZL y u):
  KT H (kvs.map λkv=>if kv.1=k then(kv.1,y) else kv) (xs.map (putAt k u)):=by
 induction r with
 | nil=>exact .nil
 | @cons p q ps qs h t ih=>
  rw[uE,uE]
  refine .cons ?_ ih
  obtain⟨h1,h2,h3⟩:=h
  unfold putAt
  by_cases e:p.1=k
  ·rw[zJ e,zJ (h1.symm.trans e)];exact⟨h1,h2,ry⟩
  ·rw[wH e,wH (λz=>e (h1.trans z))];exact⟨h1,h2,h3⟩
theorem KT.put{H:Hp}{kvs:List (List YM×V)}{xs:List (List YM×Addr×Value)}(r:KT H kvs xs)(k:List YM){b:Addr}{y:V}{u:Value}(hb:H b=some (.tup (k.map kV)))(ry:ZL y u):
  KT H (SN kvs k y) (storedH xs k b u):=by
 have e:(kvs.any λkv=>decide (kv.1=k))=(atKey xs k).isSome:=by
  rw[PX,(r.val k).isSome_eq,Option.isSome_map]
 unfold SN storedH
 rw[e]
 by_cases q:(atKey xs k).isSome=true
 ·rw[zJ q,zJ q];exact r.repl k ry
 ·rw[wH q,wH q];exact Paired.snoc r ⟨rfl,hb,ry⟩
theorem KT.keeps{H H':Hp}{kvs:List (List YM×V)}{xs:List (List YM×Addr×Value)}(r:KT H kvs xs)(ht:∀b ys,H b=some (.tup ys)->H' b=some (.tup ys)):KT H' kvs xs:=
 Paired.mapP r λ_ _ z=>⟨z.1,ht _ _ z.2.1,z.2.2⟩
def JQ(H:Hp)(a:Addr)(y:V)(r:Option V):Prop:=
 (∃kvs k,Rd H a (.dK kvs)/\y=kV k/\r=Uw kvs k)\/∃kvs k b,Rd H a (.dT kvs)/\y=.ref b/\H b=some (.tup (k.map kV))/\r=Uw kvs k
def JR(H:Hp)(a:Addr)(y v:V)(H':Hp):Prop:=
 (∃kvs k,H a=some (.dK kvs)/\y=kV k/\kvs.length<sizeLine/\H'=upd H a (.dK (SN kvs k v))) \/
 ∃kvs k b,H a=some (.dT kvs)/\y=.ref b/\H b=some (.tup (k.map kV))/\kvs.length<sizeLine/\H'=upd H a (.dT (SN kvs k v))
theorem JQ.k{H:Hp}{a:Addr}{kvs:List (YM×V)}{k:YM}(e:H a=some (.dK kvs)):JQ H a (kV k) (Uw kvs k):=.inl ⟨kvs,k,.inl e,rfl,rfl⟩
theorem JQ.t{H:Hp}{a b:Addr}{kvs:List (List YM×V)}{k:List YM}(e:H a=some (.dT kvs))(eb:H b=some (.tup (k.map kV))):JQ H a (.ref b) (Uw kvs k):=.inr ⟨kvs,k,b,.inl e,rfl,eb,rfl⟩
theorem JR.k{H:Hp}{a:Addr}{kvs:List (YM×V)}{k:YM}{v:V}(e:H a=some (.dK kvs))(hl:kvs.length<sizeLine):JR H a (kV k) v (upd H a (.dK (SN kvs k v))):=.inl ⟨kvs,k,e,rfl,hl,rfl⟩
theorem JR.t{H:Hp}{a b:Addr}{kvs:List (List YM×V)}{k:List YM}{v:V}(e:H a=some (.dT kvs))(eb:H b=some (.tup (k.map kV)))(hl:kvs.length<sizeLine):
  JR H a (.ref b) v (upd H a (.dT (SN kvs k v))):=.inr ⟨kvs,k,b,e,rfl,eb,hl,rfl⟩
structure EA(C d:Addr)(oe:Obj):Prop where
 cls:oe.cls=.ref C
 dict:oe.dict=some d
 fl:∃vs:Array Value,oe.data=.fields vs/\vs[2]? = some .none
def PZ(C e d:Addr):HO:=.ext λh=>∃oe,h.get? e=some oe/\EA C d oe
theorem PZ.ok{P:Program}{w:World}{H:Hp}{h:Heap}{C e d:Addr}{oe:Obj}(q:h.get? e=some oe)(o:EA C d oe):Yx P w H h e (PZ C e d):=
 ⟨⟨oe,q,o⟩,⟨_,q⟩,λh1 h2 ⟨oe,a,o⟩ k=>⟨oe,k _ a,o⟩⟩
theorem PZ.get{P:Program}{w:World}{H:Hp}{h:Heap}{C e d:Addr}(x:V1 P w H h)(q:H e=some (PZ C e d)):∃oe,h.get? e=some oe/\EA C d oe:=(x e _ q).1
def CT(K:Frag):Prop:=K≠[]/\K.length % 2=0
def QS(K:Frag):Frag:=if K.length % 2=0 then K else K++K.take 1
theorem M8{K:Frag}{a:Addr}:(K++K.take 1).lookup a=K.lookup a:=by
 cases K with
 | nil=>rfl
 | cons p r=>
  show((p::r)++[p]).lookup a=(p::r).lookup a
  rw[List.lookup_append]
  cases h:(p::r).lookup a with
  | some o=>rfl
  | none=>
   rw[yU]at h
   split at h
   ·cases h
   ·next z=>simp[List.lookup,z]
theorem TN{K:Frag}{a:Addr}:(QS K).lookup a=K.lookup a:=by
 unfold QS;split
 ·rfl
 ·exact M8
theorem LN{K:Frag}(h:K≠[]):CT (QS K):=by
 unfold QS;split
 ·next z=>exact⟨h,z⟩
 ·next z=>
  refine⟨by simp[h],?_⟩
  cases K with
  | nil=>exact absurd rfl h
  | cons p r=>
   show((p::r)++[p]).length % 2=0
   rw[uX,yN]
   omega
def Cj(K:Frag)(a:Addr)(xs:List V):Prop:=
 (xs=[]\/CT K)/\∃(o:Obj) (its:Array Value) (n:Nat),K.lookup a=some o/\o.cls=.type "tuple"/\o.data=.seq its n/\its.size≤sizeLine/\ZD xs its.toList
class NoC (K:Frag):Prop where
 no:¬CT K
theorem NoC.out{K:Frag}[c:NoC K](a:Addr)(xs:List V)(h:Cj K a xs):xs=[]:=h.1.resolve_right c.no
theorem Cj.sq{K:Frag}{a:Addr}{xs:List V}(h:Cj K a xs)(H:Hp):X7 K H a xs:=.inr h.2
mutual
def DW(K:Frag)(G:Hp):PyData->V->Prop
 | .none,v=>v=.non
 | .bool b,v=>v=.bl b
 | .int i,v=>v=.int i
 | .str x,v=>v=.str x
 | .list ds,v=>∃a xs,v=.ref a/\G a=some (.lst xs)/\ZE K G ds xs
 | .tuple ds,v=>∃a xs,v=.ref a/\(G a=some (.tup xs)\/Cj K a xs)/\ZE K G ds xs
 | .dict kvs,v=>∃a ks,v=.ref a/\G a=some (.dT ks)/\Xj K G kvs ks
def ZE(K:Frag)(G:Hp):List PyData->List V->Prop
 | [],xs=>xs=[]
 | d::ds,xs=>∃x r,xs=x::r/\DW K G d x/\ZE K G ds r
def Xj(K:Frag)(G:Hp):List (PyData×PyData)->List (List YM×V)->Prop
 | [],ks=>ks=[]
 | (k,d)::r,ks=>∃(ns:List Int) (x:V) (t:List (List YM×V)),ks=(ns.map Sum.inl,x)::t/\k=tI ns/\DW K G d x/\Xj K G r t
end
section
variable {K:Frag}{G G' H H':Hp}
mutual
theorem DW.same(e:Z5 G G'):∀{d:PyData}{v:V},DW K G d v->DW K G' d v
 | .none,_,h=>by unfold DW at h |-;exact h
 | .bool _,_,h=>by unfold DW at h |-;exact h
 | .int _,_,h=>by unfold DW at h |-;exact h
 | .str _,_,h=>by unfold DW at h |-;exact h
 | .list ds,_,h=>by
  unfold DW at h |-
  obtain⟨a,xs,q1,q2,q3⟩:=h
  exact⟨a,xs,q1,e _ _ q2,ZE.same e q3⟩
 | .tuple ds,_,h=>by
  unfold DW at h |-
  obtain⟨a,xs,q1,q2,q3⟩:=h
  exact⟨a,xs,q1,q2.imp (e _ _) id,ZE.same e q3⟩
 | .dict kvs,_,h=>by
  unfold DW at h |-
  obtain⟨a,ks,q1,q2,q3⟩:=h
  exact⟨a,ks,q1,e _ _ q2,Xj.same e q3⟩
theorem ZE.same(e:Z5 G G'):∀{ds:List PyData}{xs:List V},ZE K G ds xs->ZE K G' ds xs
 | [],_,h=>by unfold ZE at h |-;exact h
 | d::ds,_,h=>by
  unfold ZE at h |-
  obtain⟨x,r,q1,q2,q3⟩:=h
  exact⟨x,r,q1,DW.same e q2,ZE.same e q3⟩
theorem Xj.same(e:Z5 G G'):∀{kvs:List (PyData×PyData)}{ks:List (List YM×V)},Xj K G kvs ks->Xj K G' kvs ks
 | [],_,h=>by unfold Xj at h |-;exact h
 | (k,d)::r,_,h=>by
  unfold Xj at h |-
  obtain⟨ns,x,t,q0,q1,q2,q3⟩:=h
  exact⟨ns,x,t,q0,q1,DW.same e q2,Xj.same e q3⟩
end
mutual
theorem DW.dv(e:Z5 G H):∀{d:PyData}{v:V},d.hasDict=false->DW K G d v->DV K H d v
 | .none,_,_,h=>by unfold DW at h;unfold DV;exact h
 | .bool _,_,_,h=>by unfold DW at h;unfold DV;exact h
 | .int _,_,_,h=>by unfold DW at h;unfold DV;exact h
 | .str _,_,_,h=>by unfold DW at h;unfold DV;exact h
 | .list ds,_,n,h=>by
  unfold DW at h;unfold DV
  obtain⟨a,xs,q1,q2,q3⟩:=h
  exact⟨a,xs,q1,Xg.of (e _ _ q2),ZE.dv e (by simpa[PyData.hasDict]using n) q3⟩
 | .tuple ds,_,n,h=>by
  unfold DW at h;unfold DV
  obtain⟨a,xs,q1,q2,q3⟩:=h
  refine⟨a,xs,q1,?_,ZE.dv e (by simpa[PyData.hasDict]using n) q3⟩
  rcases q2 with q2|q2
  ·exact X7.of (e _ _ q2)
  ·exact q2.sq _
 | .dict kvs,_,n,h=>by simp[PyData.hasDict]at n
theorem ZE.dv(e:Z5 G H):∀{ds:List PyData}{xs:List V},PyData.hasDictAll ds=false->ZE K G ds xs->Y3 K H ds xs
 | [],_,_,h=>by unfold ZE at h;unfold Y3;exact h
 | d::ds,_,n,h=>by
  unfold ZE at h;unfold Y3
  obtain⟨x,r,q1,q2,q3⟩:=h
  simp only[PyData.hasDictAll,xT]at n
  exact⟨x,r,q1,DW.dv e n.1 q2,ZE.dv e n.2 q3⟩
end
theorem ZE.nil:ZE K G [] []:=by unfold ZE;rfl
theorem ZE.cons{d:PyData}{ds:List PyData}{x:V}{xs:List V}(h:DW K G d x)(t:ZE K G ds xs):ZE K G (d::ds) (x::xs):=by unfold ZE;exact⟨x,xs,rfl,h,t⟩
theorem ZE.append:∀{ds es:List PyData}{xs ys:List V},ZE K G ds xs->ZE K G es ys->ZE K G (ds++es) (xs++ys)
 | [],_,_,_,h,t=>by unfold ZE at h;subst h;exact t
 | d::ds,es,_,ys,h,t=>by
  unfold ZE at h
  obtain⟨x,r,q1,q2,q3⟩:=h
  subst q1
  exact ZE.cons q2 (ZE.append q3 t)
theorem ZE.snoc{ds:List PyData}{d:PyData}{xs:List V}{x:V}(h:ZE K G ds xs)(t:DW K G d x):ZE K G (ds++[d]) (xs++[x]):=ZE.append h (ZE.cons t ZE.nil)
theorem ZE.length:∀{ds:List PyData}{xs:List V},ZE K G ds xs->ds.length=xs.length
 | [],_,h=>by unfold ZE at h;subst h;rfl
 | d::ds,_,h=>by
  unfold ZE at h
  obtain⟨x,r,q1,q2,q3⟩:=h
  subst q1
  rw[uC,uC,ZE.length q3]
theorem ZE.get:∀{ds:List PyData}{xs:List V}{i:Nat}{x:V},ZE K G ds xs->xs[i]? = some x->∃d,ds[i]? = some d/\DW K G d x
 | [],_,i,x,h,e=>by unfold ZE at h;subst h;simp at e
 | d::ds,_,0,x,h,e=>by
  unfold ZE at h
  obtain⟨y,r,q1,q2,q3⟩:=h
  subst q1
  simp at e;subst e
  exact⟨d,rfl,q2⟩
 | d::ds,_,i+1,x,h,e=>by
  unfold ZE at h
  obtain⟨y,r,q1,q2,q3⟩:=h
  subst q1
  obtain⟨d',h1,h2⟩:=ZE.get (i:=i) (x:=x) q3 (by simpa using e)
  exact⟨d',by simpa using h1,h2⟩
theorem ZE.get':∀{ds:List PyData}{xs:List V}{i:Nat}{d:PyData},ZE K G ds xs->ds[i]? = some d->∃x,xs[i]? = some x/\DW K G d x:=by
 intro ds xs i d h e
 have hi:i<xs.length:=by rw[<- h.length];exact(vH.mp e).1
 obtain⟨d',e1,e2⟩:=h.get (JP hi)
 rw[e]at e1;cases e1
 exact⟨_,JP hi,e2⟩
theorem ZE.take:∀{ds:List PyData}{xs:List V} (k:Nat),ZE K G ds xs->ZE K G (ds.take k) (xs.take k)
 | [],xs,k,h=>by unfold ZE at h;subst h;simp;exact ZE.nil
 | d::ds,xs,0,h=>by simp;exact ZE.nil
 | d::ds,xs,k+1,h=>by
  unfold ZE at h
  obtain⟨x,r,rfl,h1,h2⟩:=h
  exact ZE.cons h1 (ZE.take k h2)
theorem ZE.drop:∀{ds:List PyData}{xs:List V} (k:Nat),ZE K G ds xs->ZE K G (ds.drop k) (xs.drop k)
 | [],xs,k,h=>by unfold ZE at h;subst h;simp;exact ZE.nil
 | d::ds,xs,0,h=>h
 | d::ds,xs,k+1,h=>by
  unfold ZE at h
  obtain⟨x,r,rfl,h1,h2⟩:=h
  exact ZE.drop k h2
theorem ZE.reverse:∀{ds:List PyData}{xs:List V},ZE K G ds xs->ZE K G ds.reverse xs.reverse
 | [],xs,h=>by unfold ZE at h;subst h;exact ZE.nil
 | d::ds,xs,h=>by
  unfold ZE at h
  obtain⟨x,r,rfl,h1,h2⟩:=h
  rw[yH,yH]
  exact ZE.snoc (ZE.reverse h2) h1
theorem ZE.ints:∀ns:List Int,ZE K G (ns.map .int) (ns.map .int)
 | []=>by unfold ZE;rfl
 | n::r=>by unfold ZE;exact⟨_,_,rfl,by unfold DW;rfl,ZE.ints r⟩
theorem ZE.bools_inv:∀{ns:List Bool}{xs:List V},ZE K G (ns.map .bool) xs->xs=ns.map V.bl
 | [],xs,h=>by unfold ZE at h;exact h
 | n::r,xs,h=>by
  rw[uE]at h
  unfold ZE at h
  obtain⟨x,t,rfl,h1,h2⟩:=h
  unfold DW at h1
  rw[h1,ZE.bools_inv h2];rfl
theorem DW.list{a:Addr}{xs:List V}{ds:List PyData}(h:G a=some (.lst xs))(t:ZE K G ds xs):DW K G (.list ds) (.ref a):=by unfold DW;exact⟨a,xs,rfl,h,t⟩
theorem DW.tup{a:Addr}{xs:List V}{ds:List PyData}(h:G a=some (.tup xs))(t:ZE K G ds xs):DW K G (.tuple ds) (.ref a):=by unfold DW;exact⟨a,xs,rfl,.inl h,t⟩
theorem DW.tup_inv{v:V}{ds:List PyData}(h:DW K G (.tuple ds) v):∃a xs,v=.ref a/\X7 K G a xs/\ZE K G ds xs:=by
 unfold DW at h
 obtain⟨a,xs,q1,q2,q3⟩:=h
 refine⟨a,xs,q1,?_,q3⟩
 rcases q2 with q2|q2
 ·exact X7.of q2
 ·exact q2.sq _
theorem DW.list_inv{v:V}{ds:List PyData}(h:DW K G (.list ds) v):∃a xs,v=.ref a/\G a=some (.lst xs)/\ZE K G ds xs:=by
 unfold DW at h;exact h
theorem DW.int{i:Int}:DW K G (.int i) (.int i):=by unfold DW;rfl
theorem DW.bool{i:Bool}:DW K G (.bool i) (.bl i):=by unfold DW;rfl
theorem DW.str{i:Str}:DW K G (.str i) (.str i):=by unfold DW;rfl
theorem DW.none:DW K G .none .non:=by unfold DW;rfl
theorem DW.int_inv{i:Int}{v:V}(h:DW K G (.int i) v):v=.int i:=by unfold DW at h;exact h
theorem DW.bool_inv{i:Bool}{v:V}(h:DW K G (.bool i) v):v=.bl i:=by unfold DW at h;exact h
theorem DW.str_inv{i:Str}{v:V}(h:DW K G (.str i) v):v=.str i:=by unfold DW at h;exact h
theorem DW.none_inv{v:V}(h:DW K G .none v):v=.non:=by unfold DW at h;exact h
end
inductive Val where
 | d (x:PyData)|own (a:Addr)|raw (v:V)|scr (ns:List Int)
 /-- a caught exception of the class C: its dict,its fields -/
 | exc (e C d:Addr) (fs:List (Str×PyData))
inductive Own where
 | lst (ds:List PyData)|urn (m:Nat)|dct (kvs:List (List Int×PyData))
 /-- the table of a def that makes a lambda: empty,or with the one lambda's code object (its line,its column,its name) -/
 | tab (l c:Nat) (x:Str) (t:Option Addr)
 /-- any other,by what it says of its address -/
 | oth (φ:Frag->Hp->Hp->Addr->Prop)
abbrev OW:=Addr->Option Own
def OW.put(w:OW)(a:Addr)(o:Own):OW:=λb=>if b=a then some o else w b
theorem OW.put_same{w:OW}{a:Addr}{o:Own}:w.put a o a=some o:=by simp[OW.put]
theorem OW.put_ne{w:OW}{a b:Addr}{o:Own}(h:b≠a):w.put a o b=w b:=by simp[OW.put,h]
theorem OW.put_put{w:OW}{a:Addr}{o u:Own}:(w.put a o).put a u=w.put a u:=by
 funext b;unfold OW.put;split<;>rfl
structure DS where
 e:List (Option Val)
 w:OW
def DS.put(s:DS)(a:Addr)(o:Own):DS:=⟨s.e,s.w.put a o⟩
def DS.set(s:DS)(i:Nat)(v:Val):DS:=⟨s.e.set i (some v),s.w⟩
def VR(K:Frag)(G:Hp):Val->V->Prop
 | .d x,v=>DW K G x v
 | .own a,v=>v=.ref a
 | .raw u,v=>v=u
 | .scr ns,v=>∃a,v=.ref a/\Xg K G a (ns.map V.int)
 | .exc e C d fs,v=>v=.ref e/\∃oe us,G e=some (.frz oe (PZ C e d))/\G d=some (.xd us)/\EA C d oe/\us.map (·.1)=fs.map (·.1)/\ZE K G (fs.map (·.2)) (us.map (·.2))
def Ue(kvs:List (List Int×PyData)):List (PyData×PyData):=kvs.map λp=>(tI p.1,p.2)
def We(K:Frag)(G H:Hp)(a:Addr):Own->Prop
 | .lst ds=>∃xs,H a=some (.lst xs)/\ZE K G ds xs
 | .urn m=>Me H a m
 | .dct kvs=>∃ks,H a=some (.dT ks)/\Xj K G (Ue kvs) ks
 | .tab l c x t=>∃ps,H a=some (.tbl ps)/\((t=none/\ps = #[])\/∃k oc u vs n,t=some k/\ps = #[rawInt l,rawInt c,.ref k]/\G k=some (.frz oc u)/\oc.data=.fields vs/\vs[1]? = some (.str x n))
 | .oth φ=>φ K G H a/\(∃u,H a=some u/\∀xs,u≠.tup xs)/\∀G' H',Z5 G G'->H' a=H a->φ K G' H' a
def YN(K:Frag)(G:Hp)(w:OW)(H:Hp):Prop:=∀a o,w a=some o->G a=none/\We K G H a o
def SL(K:Frag)(G:Hp)(e:List (Option Val))(σ:St):Prop:=e.length=σ.length/\∀(i:Nat) (v:Val),e[i]? = some (some v)->∃x,σ[i]? = some (some x)/\VR K G v x
structure Yw(K:Frag)(G:Hp)(s:DS)(σ:St)(H:Hp):Prop where
 sub:Z5 G H
 own:YN K G s.w H
 sl:SL K G s.e σ
section
variable {K:Frag}{G G' H H':Hp}{s:DS}{σ:St}
theorem VR.same(e:Z5 G G'):∀{v:Val}{x:V},VR K G v x->VR K G' v x
 | .d _,_,h=>DW.same e h
 | .own _,_,h=>h
 | .raw _,_,h=>h
 | .scr _,_,⟨a,h1,h2⟩=>⟨a,h1,e.seq h2⟩
 | .exc _ _ _ _,_,⟨h1,oe,u,h2,h3,h4,h6,h5⟩=>⟨h1,oe,u,e _ _ h2,e _ _ h3,h4,h6,ZE.same e h5⟩
theorem SL.same{e:List (Option Val)}(q:Z5 G G')(h:SL K G e σ):SL K G' e σ:=⟨h.1,λi v z=>by
 obtain⟨x,h1,h2⟩:=h.2 i v z
 exact⟨x,h1,h2.same q⟩⟩
theorem SL.set{e:List (Option Val)}{v:Val}{x:V}(h:SL K G e σ)(r:VR K G v x)(i:Nat):SL K G (e.set i (some v)) (σ.set i (some x)):=by
 refine⟨by simp[h.1],λj u z=>?_⟩
 by_cases hj:i=j
 ·subst hj
  have hl:i<e.length:=by
   have:=(vH.mp z).1
   simpa using this
  rw[vI hl]at z
  cases z
  exact⟨x,by rw[vI (by rw[<- h.1];exact hl)],r⟩
 ·rw[vJ hj]at z |-
  exact h.2 j u z
theorem We.there{a:Addr}:∀{o:Own},We K G H a o->∃u,H a=some u
 | .lst _,⟨xs,h,_⟩=>⟨_,h⟩
 | .urn _,⟨_,_,_,h,_⟩=>⟨_,h⟩
 | .dct _,⟨ks,h,_⟩=>⟨_,h⟩
 | .tab _ _ _ _,⟨ps,h,_⟩=>⟨_,h⟩
 | .oth _,⟨_,⟨u,h,_⟩,_⟩=>⟨u,h⟩
theorem We.mono{a:Addr}(e:Z5 G G')(q:H' a=H a):∀{o:Own},We K G H a o->We K G' H' a o
 | .lst _,⟨xs,h,d⟩=>⟨xs,q▸h,d.same e⟩
 | .urn _,⟨g,c,n,h,r⟩=>⟨g,c,n,q▸h,r⟩
 | .dct _,⟨ks,h,d⟩=>⟨ks,q▸h,Xj.same e d⟩
 | .tab _ _ _ _,⟨ps,h,d⟩=>⟨ps,q▸h,d.imp_right λ⟨k,oc,u,vs,n,h1,h2,h3,h4⟩=>⟨k,oc,u,vs,n,h1,h2,e _ _ h3,h4⟩⟩
 | .oth _,⟨_,h,d⟩=>⟨d _ _ e q,q▸h,λG2 H2 e2 q2=>d _ _ (e.trans e2) (q2.trans q)⟩
theorem Yw.free(r:Yw K G s σ H){p:Addr}(h:H p=none):s.w p=none:=by
 cases e:s.w p with
 | none=>rfl
 | some o=>
  obtain⟨u,hu⟩:=(r.own p o e).2.there
  rw[h]at hu;cases hu
theorem YN.mono{w:OW}(h:YN K G w H)(e:Z5 G G')(k:∀a o,w a=some o->G' a=none/\H' a=H a):YN K G' w H':=λa o q=>⟨(k a o q).1,(h a o q).2.mono e (k a o q).2⟩
theorem Yw.new(r:Yw K G s σ H){p:Addr}(h:H p=none)(o:HO):Yw K (upd G p o) s σ (upd H p o):=by
 have hg:G p=none:=r.sub.free h
 refine⟨λb u q=>?_,r.own.mono (Yv hg o) λa u q=>?_,r.sl.same (Yv hg o)⟩
 ·by_cases z:b=p
  ·subst z;rw[Zw]at q |-;exact q
  ·rw[Zi z]at q |-;exact r.sub _ _ q
 ·have na:a≠p:=λz=>by
   obtain⟨v,hv⟩:=(r.own a u q).2.there
   rw[z,h]at hv;cases hv
  exact⟨by rw[Zi na];exact(r.own a u q).1,Zi na⟩
theorem Yw.newOwn(r:Yw K G s σ H){p:Addr}(h:H p=none){o:HO}{u:Own}(at':We K G (upd H p o) p u):Yw K G (s.put p u) σ (upd H p o):=by
 refine⟨λb v q=>?_,λa v q=>?_,r.sl⟩
 ·have nb:b≠p:=λz=>by rw[z]at q;rw[r.sub.free h]at q;cases q
  rw[Zi nb];exact r.sub _ _ q
 ·by_cases z:a=p
  ·subst z
   have q':s.w.put a u a=some v:=q
   rw[OW.put_same]at q';cases q'
   exact⟨r.sub.free h,at'⟩
  ·have q':s.w.put p u a=some v:=q
   rw[OW.put_ne z]at q'
   exact⟨(r.own a v q').1,(r.own a v q').2.mono (Z5.refl G) (Zi z)⟩
theorem Yw.chg(r:Yw K G s σ H){p:Addr}{o0:Own}(h:s.w p=some o0){o:HO}{u:Own}(at':We K G (upd H p o) p u):Yw K G (s.put p u) σ (upd H p o):=by
 refine⟨λb v q=>?_,λa v q=>?_,r.sl⟩
 ·have nb:b≠p:=λz=>by rw[z]at q;rw[(r.own p o0 h).1]at q;cases q
  rw[Zi nb];exact r.sub _ _ q
 ·by_cases z:a=p
  ·subst z
   have q':s.w.put a u a=some v:=q
   rw[OW.put_same]at q';cases q'
   exact⟨(r.own a o0 h).1,at'⟩
  ·have q':s.w.put p u a=some v:=q
   rw[OW.put_ne z]at q'
   exact⟨(r.own a v q').1,(r.own a v q').2.mono (Z5.refl G) (Zi z)⟩
theorem Yw.set(r:Yw K G s σ H){v:Val}{x:V}(q:VR K G v x)(i:Nat):Yw K G (s.set i v) (σ.set i (some x)) H:=⟨r.sub,r.own,r.sl.set q i⟩
theorem Yw.env(r:Yw K G s σ H){e:List (Option Val)}{σ':St}(q:SL K G e σ'):Yw K G ⟨e,s.w⟩ σ' H:=⟨r.sub,r.own,q⟩
theorem SL.capt{e:List (Option Val)}(h:SL K G e σ)(cap:List (Option Nat)):SL K G (cap.map λo=>o.bind λj=>(e[j]?).join) (capt cap σ):=by
 refine⟨by simp[L2.capt],λi v z=>?_⟩
 rw[uV]at z
 cases q:cap[i]? with
 | none=>rw[q]at z;cases z
 | some o=>
  rw[q]at z
  simp only[yW,tE]at z
  cases o with
  | none=>cases z
  | some j=>
   simp only[tF]at z
   have z':e[j]? = some (some v):=by
    cases q2:e[j]? with
    | none=>rw[q2]at z;cases z
    | some u=>rw[q2]at z;simp at z;rw[z]
   obtain⟨x,h1,h2⟩:=h.2 j v z'
   refine⟨x,?_,h2⟩
   unfold L2.capt
   rw[uV,q]
   simp[h1]
end
def VY(cap:List (Option Nat))(e:List (Option Val)):List (Option Val):=cap.map λo=>o.bind λj=>(e[j]?).join
abbrev DK:=Val->DS->Prop
abbrev ZG:=DS->DK->Prop
abbrev Vt:=DS->(Bool->DS->Prop)->Prop
abbrev XN:=DS->(List Val->DS->Prop)->Prop
abbrev S4:=DS->(List PyData×(OW->Prop)->DS->Prop)->Prop
abbrev T1:=Val->DS->(DS->Prop)->Prop
abbrev JS:=List PyData->DS->(List PyData->DS->Prop)->Prop
def Po(K:Frag)(G:Hp)(σ:St)(Q:VK):DK:=λv s=>∀G' H' x,Z5 G G'->Yw K G' s σ H'->VR K G' v x->Q x H'
def Cr(K:Frag)(G:Hp)(σ:St)(Q:Bool->Hp->Prop):Bool->DS->Prop:=λb s=>∀G' H',Z5 G G'->Yw K G' s σ H'->Q b H'
inductive VRs(K:Frag)(G:Hp):List Val->List V->Prop
 | nil:VRs K G [] []
 | cons {v x vs xs}:VR K G v x->VRs K G vs xs->VRs K G (v::vs) (x::xs)
theorem VRs.same{K:Frag}{G G':Hp}(e:Z5 G G'):∀{vs:List Val}{xs:List V},VRs K G vs xs->VRs K G' vs xs
 | _,_,.nil=>.nil
 | _,_,.cons h t=>.cons (h.same e) (VRs.same e t)
theorem VRs.length{K:Frag}{G:Hp}:∀{vs:List Val}{xs:List V},VRs K G vs xs->vs.length=xs.length
 | _,_,.nil=>rfl
 | _,_,.cons h t=>by rw[uC,uC,VRs.length t]
def Cq(K:Frag)(G:Hp)(σ:St)(Q:List V->Hp->Prop):List Val->DS->Prop:=λvs s=>∀G' H' xs,Z5 G G'->Yw K G' s σ H'->VRs K G' vs xs->Q xs H'
def Mo{α:Type}(d:DS->(α->DS->Prop)->Prop):Prop:=∀s Q Q',(∀v s',Q v s'->Q' v s')->d s Q->d s Q'
structure RE(K:Frag)(t:TE)(d:ZG):Prop where
 mo:Mo d
 ok:∀G s σ H Q,Yw K G s σ H->d s (Po K G σ Q)->t σ H Q
structure RT(K:Frag)(t:TT)(d:Vt):Prop where
 mo:Mo d
 ok:∀G s σ H Q,Yw K G s σ H->d s (Cr K G σ Q)->t σ H Q
structure RA(K:Frag)(t:TA)(d:XN):Prop where
 mo:Mo d
 ok:∀G s σ H Q,Yw K G s σ H->d s (Cq K G σ Q)->t σ H Q
structure XR where
 nx:DS->Prop
 rt:DK
 bk:DS->Prop:=λ_=>False
 ct:DS->Prop:=λ_=>False
abbrev Wd:=XR->DS->Prop
structure EN(K:Frag)(G:Hp)(D:QA)(E:XR):Prop where
 nx:∀s' G' σ' H',Z5 G G'->Yw K G' s' σ' H'->E.nx s'->D.nx σ' H'
 rt:∀v s' G' σ' H' x,Z5 G G'->Yw K G' s' σ' H'->VR K G' v x->E.rt v s'->D.rt x H'
 bk:∀s' G' σ' H',Z5 G G'->Yw K G' s' σ' H'->E.bk s'->D.bk σ' H'
 ct:∀s' G' σ' H',Z5 G G'->Yw K G' s' σ' H'->E.ct s'->D.ct σ' H'
theorem EN.same{K:Frag}{G G':Hp}{D:QA}{E:XR}(h:EN K G D E)(e:Z5 G G'):EN K G' D E:=
 ⟨λs' G2 σ' H' q=>h.nx s' G2 σ' H' (e.trans q),λv s' G2 σ' H' x q=>h.rt v s' G2 σ' H' x (e.trans q),λs' G2 σ' H' q=>h.bk s' G2 σ' H' (e.trans q),λs' G2 σ' H' q=>h.ct s' G2 σ' H' (e.trans q)⟩
def RS(K:Frag)(t:TS)(d:Wd):Prop:=∀G s σ H D E,Yw K G s σ H->EN K G D E->d E s->t D σ H
structure RG(K:Frag)(g:TG)(d:T1):Prop where
 mo:∀v s (Q Q':DS->Prop),(∀s',Q s'->Q' s')->d v s Q->d v s Q'
 ok:∀G s σ H v x Q,Yw K G s σ H->VR K G v x->d v s (λs'=>∀G' σ' H',Z5 G G'->Yw K G' s' σ' H'->Q σ' H')->g x σ H Q
def Tp(K:Frag)(J:It)(G0:Hp)(P:OW->Prop)(ds:List PyData):Prop:=∀G s σ H i,Z5 G0 G->P s.w->Yw K G s σ H ->
 (∀d,ds[i]? = some d->J.go i H/\∀x H',J.yld i H x H'->∃G',Z5 G G'/\Yw K G' s σ H'/\DW K G' d x)/\(ds.length≤i->J.stop i H)
structure RI(K:Frag)(t:TI)(d:S4):Prop where
 mo:Mo d
 ok:∀G s σ H (R:It->Hp->Prop),Yw K G s σ H->d s (λds s'=>∀G' H' J,Z5 G G'->Yw K G' s' σ H'->Tp K J G' ds.2 ds.1->R J H')->t σ H R
structure RL(K:Frag)(t:TL)(d:JS):Prop where
 mo:∀acc s (Q Q':List PyData->DS->Prop),(∀v s',Q v s'->Q' v s')->d acc s Q->d acc s Q'
 ok:∀G s σ H acc ys (Q:LK),Yw K G s σ H->ZE K G acc ys->acc.length<sizeLine->d acc s (λacc' s'=>∀G' σ' H' ys',Z5 G G'->Yw K G' s' σ' H'->ZE K G' acc' ys'->Q ys' σ' H')->t ys σ H Q
section
variable {K:Frag}{G G' H H':Hp}{s:DS}{σ:St}
theorem Po.same{Q:VK}{v:Val}(h:Po K G σ Q v s)(e:Z5 G G'):Po K G' σ Q v s:=λG2 H2 x e2=>h G2 H2 x (e.trans e2)
theorem Cr.same{Q:Bool->Hp->Prop}{v:Bool}(h:Cr K G σ Q v s)(e:Z5 G G'):Cr K G' σ Q v s:=λG2 H2 e2=>h G2 H2 (e.trans e2)
theorem Cq.same{Q:List V->Hp->Prop}{v:List Val}(h:Cq K G σ Q v s)(e:Z5 G G'):Cq K G' σ Q v s:=λG2 H2 x e2=>h G2 H2 x (e.trans e2)
theorem Po.here{Q:VK}{v:Val}{x:V}(h:Po K G σ Q v s)(r:Yw K G s σ H)(q:VR K G v x):Q x H:=h G H x (Z5.refl G) r q
theorem W9{i:Int}:VR K G (.d (.int i)) (.int i):=by unfold VR;exact DW.int
theorem Xu{i:Bool}:VR K G (.d (.bool i)) (.bl i):=by unfold VR;exact DW.bool
theorem Wc{i:Str}:VR K G (.d (.str i)) (.str i):=by unfold VR;exact DW.str
theorem WA:VR K G (.d .none) .non:=by unfold VR;exact DW.none
theorem Ye{i:Int}{x:V}(h:VR K G (.d (.int i)) x):x=.int i:=by unfold VR at h;exact DW.int_inv h
theorem U_{i:Bool}{x:V}(h:VR K G (.d (.bool i)) x):x=.bl i:=by unfold VR at h;exact DW.bool_inv h
theorem YL{i:Str}{x:V}(h:VR K G (.d (.str i)) x):x=.str i:=by unfold VR at h;exact DW.str_inv h
theorem UN{ds:List PyData}{v:V}(h:VR K G (.d (.list ds)) v):∃a xs,v=.ref a/\G a=some (.lst xs)/\ZE K G ds xs:=by unfold VR at h;exact DW.list_inv h
theorem Sx{ds:List PyData}{v:V}(h:VR K G (.d (.tuple ds)) v):∃a xs,v=.ref a/\X7 K G a xs/\ZE K G ds xs:=by unfold VR at h;exact DW.tup_inv h
def Ov(i:Nat):ZG:=λs k=>match s.e[i]? with|some (some v)=>k v s|_=>False
theorem Zm(i:Nat):RE K (Q5 i) (Ov i):=by
 refine⟨λs Q Q' h q=>?_,λG s σ H Q r h=>?_⟩
 ·unfold Ov at q |-
  split at q
  ·exact h _ _ q
  ·exact q.elim
 ·unfold Ov at h
  split at h
  ·next v e=>
   obtain⟨x,h1,h2⟩:=r.sl.2 i v e
   exact⟨x,h1,h.here r h2⟩
  ·exact h.elim
def dC(v:Val):ZG:=λs k=>k v s
theorem ON{v:Val}{x:V}(h:∀G,VR K G v x):RE K (tC x) (dC v):=⟨λs Q Q' h q=>h _ _ q,λG s σ H Q r q=>Po.here q r (h G)⟩
theorem ZZ{i:Int}:RE K (tC (.int i)) (dC (.d (.int i))):=ON λ_=>W9
theorem DN{i:Bool}:RE K (tC (.bl i)) (dC (.d (.bool i))):=ON λ_=>Xu
theorem Z_{i:Str}:RE K (tC (.str i)) (dC (.d (.str i))):=ON λ_=>Wc
theorem Qp:RE K (tC .non) (dC (.d .none)):=ON λ_=>WA
theorem Xy{n:String}:RE K (tC (.ty n)) (dC (.raw (.ty n))):=ON λ_=>rfl
structure RO(K:Frag)(r:R2)(f:Val->Val->ZG):Prop where
 mo:∀v w,Mo (f v w)
 ok:∀G s σ H x y v w Q,Yw K G s σ H->VR K G v x->VR K G w y->f v w s (Po K G σ Q)->r x y H Q
def CM(f:Val->Val->ZG)(da db:ZG):ZG:=λs k=>da s λv s1=>db s1 λw s2=>f v w s2 k
theorem YO{r:R2}{f:Val->Val->ZG}{ta tb:TE}{da db:ZG}(ho:RO K r f)(ha:RE K ta da)(hb:RE K tb db):RE K (Hu r ta tb) (CM f da db):=by
 refine⟨λs Q Q' h q=>ha.mo _ _ _ (λv s1 q1=>hb.mo _ _ _ (λw s2 q2=>ho.mo v w _ _ _ h q2) q1) q,λG s σ H Q r h=>?_⟩
 refine ha.ok G s σ H _ r (ha.mo _ _ _ (λv s1 q G1 H1 x e1 r1 v1=>?_) h)
 refine hb.ok G1 s1 σ H1 _ r1 (hb.mo _ _ _ (λw s2 q2 G2 H2 y e2 r2 v2=>?_) q)
 exact ho.ok G2 s2 σ H2 x y v w Q r2 (v1.same e2) v2 (ho.mo v w _ _ _ (λu s3 q3=>q3.same (e1.trans e2)) q2)
structure RU(K:Frag)(r:V->Hp->VK->Prop)(f:Val->ZG):Prop where
 mo:∀v,Mo (f v)
 ok:∀G s σ H x v Q,Yw K G s σ H->VR K G v x->f v s (Po K G σ Q)->r x H Q
def CP(f:Val->ZG)(da:ZG):ZG:=λs k=>da s λv s1=>f v s1 k
theorem DP{r:V->Hp->VK->Prop}{f:Val->ZG}{ta:TE}{da:ZG}(ho:RU K r f)(ha:RE K ta da):RE K (Bk r ta) (CP f da):=by
 refine⟨λs Q Q' h q=>ha.mo _ _ _ (λv s1 q1=>ho.mo v _ _ _ h q1) q,λG s σ H Q r h=>?_⟩
 refine ha.ok G s σ H _ r (ha.mo _ _ _ (λv s1 q G1 H1 x e1 r1 v1=>?_) h)
 exact ho.ok G1 s1 σ H1 x v Q r1 v1 (ho.mo v _ _ _ (λu s3 q3=>q3.same e1) q)
def fU(g:Int->Int):Val->ZG:=λv s k=>match v with | .d (.int i)=>k (.d (.int (g i))) s|_=>False
theorem Bf{g:Int->Int}:RU K (rU λi=>.int (g i)) (fU g):=by
 refine⟨λv s Q Q' h q=>?_,λG s σ H x v Q r v1 h=>?_⟩
 ·unfold fU at q |-;split at q
  ·exact h _ _ q
  ·exact q.elim
 ·unfold fU at h;split at h
  ·next i=>exact⟨i,Ye v1,h.here r W9⟩
  ·exact h.elim
def fI(C:Int->Int->Prop)(g:Int->Int->Int):Val->Val->ZG:=λv w s k=>match v,w with | .d (.int i),.d (.int j)=>C i j/\k (.d (.int (g i j))) s|_,_=>False
def Dj(g:Int->Int->Int):Val->Val->ZG:=λv w s k=>match v,w with | .d (.int i),.d (.int j)=>k (.d (.int (g i j))) s|_,_=>False
def Di(g:Int->Int->Bool):Val->Val->ZG:=λv w s k=>match v,w with | .d (.int i),.d (.int j)=>k (.d (.bool (g i j))) s|_,_=>False
theorem Rz{g:Int->Int->Int}:RO K (Gu λi j=>.int (g i j)) (Dj g):=by
 refine⟨λv w s Q Q' h q=>?_,λG s σ H x y v w Q r v1 v2 h=>?_⟩
 ·unfold Dj at q |-;split at q
  ·exact h _ _ q
  ·exact q.elim
 ·unfold Dj at h;split at h
  ·next i j=>exact⟨i,j,Ye v1,Ye v2,h.here r W9⟩
  ·exact h.elim
theorem Ry{g:Int->Int->Bool}:RO K (Gu λi j=>.bl (g i j)) (Di g):=by
 refine⟨λv w s Q Q' h q=>?_,λG s σ H x y v w Q r v1 v2 h=>?_⟩
 ·unfold Di at q |-;split at q
  ·exact h _ _ q
  ·exact q.elim
 ·unfold Di at h;split at h
  ·next i j=>exact⟨i,j,Ye v1,Ye v2,h.here r Xu⟩
  ·exact h.elim
def HU(neg:Bool):Val->Val->ZG:=λv w s k=>match v,w with
 | .d (.int i),.d (.int j)=>k (.d (.bool (if neg then !decide (i=j) else decide (i=j)))) s
 | .d (.str i),.d (.str j)=>k (.d (.bool (if neg then !decide (i=j) else decide (i=j)))) s
 | _,_=>False
theorem LU(neg:Bool)(v w:Val):Mo (HU neg v w):=by
 intro s Q Q' h q
 unfold HU at q |-;split at q
 ·exact h _ _ q
 ·exact h _ _ q
 ·exact q.elim
theorem QK{i j:Int}:decide (V.int i=V.int j)=decide (i=j):=by simp
theorem QL{i j:Str}:decide (V.str i=V.str j)=decide (i=j):=by simp
theorem Jk:RO K By (HU false):=by
 refine⟨LU false,λG s σ H x y v w Q r v1 v2 h=>?_⟩
 unfold HU at h;split at h
 ·next i j=>
  rw[Ye v1,Ye v2]
  exact⟨rfl,by rw[QK];exact h.here r Xu⟩
 ·next i j=>
  rw[YL v1,YL v2]
  exact⟨rfl,by rw[QL];exact h.here r Xu⟩
 ·exact h.elim
theorem Jq:RO K Bz (HU true):=by
 refine⟨LU true,λG s σ H x y v w Q r v1 v2 h=>?_⟩
 unfold HU at h;split at h
 ·next i j=>
  rw[Ye v1,Ye v2]
  exact⟨rfl,by rw[QK];exact h.here r Xu⟩
 ·next i j=>
  rw[YL v1,YL v2]
  exact⟨rfl,by rw[QL];exact h.here r Xu⟩
 ·exact h.elim
def rdL(w:OW):Val->Option (List PyData)
 | .d (.list ds)=>some ds
 | .own a=>match w a with|some (.lst ds)=>some ds|_=>none
 | .scr ns=>some (ns.map .int)
 | _=>none
def rdT:Val->Option (List PyData)
 | .d (.tuple ds)=>some ds
 | _=>none
def rdA(w:OW)(v:Val):Option (List PyData):=match rdT v with|some ds=>some ds|none=>rdL w v
theorem Yw.rdL(r:Yw K G s σ H){v:Val}{x:V}{ds:List PyData}(q:VR K G v x)(h:L2.rdL s.w v=some ds):∃a xs,x=.ref a/\Xg K H a xs/\ZE K G ds xs:=by
 unfold L2.rdL at h
 split at h
 ·cases h
  obtain⟨a,xs,rfl,h1,h2⟩:=UN q
  exact⟨a,xs,rfl,Xg.of (r.sub _ _ h1),h2⟩
 ·next a=>
  cases (show x=.ref a from q)
  split at h
  ·next z=>
   cases h
   obtain⟨_,xs,h1,h2⟩:=r.own a _ z
   exact⟨a,xs,rfl,Xg.of h1,h2⟩
  ·cases h
 ·next ns=>
  cases h
  obtain⟨a,e,h1⟩:=q
  exact⟨a,_,e,r.sub.seq h1,ZE.ints ns⟩
 ·cases h
theorem Yw.rdT(r:Yw K G s σ H){v:Val}{x:V}{ds:List PyData}(q:VR K G v x)(h:L2.rdT v=some ds):∃a xs,x=.ref a/\X7 K H a xs/\ZE K G ds xs:=by
 unfold L2.rdT at h
 split at h
 ·cases h
  obtain⟨a,xs,rfl,h1,h2⟩:=Sx q
  exact⟨a,xs,rfl,r.sub.tup h1,h2⟩
 ·cases h
theorem Yw.rdA(r:Yw K G s σ H){v:Val}{x:V}{ds:List PyData}(q:VR K G v x)(h:L2.rdA s.w v=some ds):∃a xs,x=.ref a/\(Xg K H a xs\/X7 K H a xs)/\ZE K G ds xs:=by
 unfold L2.rdA at h
 split at h
 ·next z=>
  cases h
  obtain⟨a,xs,e,h1,h2⟩:=r.rdT q z
  exact⟨a,xs,e,.inr h1,h2⟩
 ·obtain⟨a,xs,e,h1,h2⟩:=r.rdL q h
  exact⟨a,xs,e,.inl h1,h2⟩
def rdD(w:OW)(v:Val):Option PyData:=match v with | .d x=>some x | .own a=>(match w a with|some (.lst ds)=>some (.list ds)|_=>none)|_=>none
theorem Yw.rdD(r:Yw K G s σ H){v:Val}{x:V}{d:PyData}(q:VR K G v x)(h:L2.rdD s.w v=some d)(n:d.hasDict=false):DV K H d x:=by
 unfold L2.rdD at h
 split at h
 ·cases h;exact DW.dv r.sub n q
 ·next a=>
  split at h
  ·next z=>
   cases h
   cases (show x=.ref a from q)
   obtain⟨_,xs,h1,h2⟩:=r.own a _ z
   exact DV.list (Xg.of h1) (ZE.dv r.sub (by simpa[PyData.hasDict]using n) h2)
  ·cases h
 ·cases h
def LS(neg:Bool):Val->Val->ZG:=λv w s k=>match rdD s.w v,rdD s.w w with
 | some x,some y=>(x.hasDict=false/\y.hasDict=false/\SeqAt.shaped x=true/\SeqAt.shaped y=true)/\k (.d (.bool (if neg then !PyData.eqv x y else PyData.eqv x y))) s
 | _,_=>False
theorem OP{neg:Bool}:RO K (F_ K neg) (LS neg):=by
 refine⟨λv w s Q Q' h q=>?_,λG s σ H x y v w Q r v1 v2 h=>?_⟩
 ·unfold LS at q |-;split at q
  ·exact⟨q.1,h _ _ q.2⟩
  ·exact q.elim
 ·unfold LS at h;split at h
  ·next a b e1 e2=>
   obtain⟨⟨n1,n2,s1,s2⟩,h⟩:=h
   exact⟨a,b,r.rdD v1 e1 n1,r.rdD v2 e2 n2,s1,s2,h.here r Xu⟩
  ·exact h.elim
def LV(neg:Bool):Val->Val->ZG:=λv w s k=>match rdD s.w v,rdA s.w w with
 | some x,some ds=>(x.hasDict=false/\PyData.hasDictAll ds=false/\x.canLay0=true/\PyData.canLayAll0 ds=true/\x.depth≤30)/\k (.d (.bool (if neg then !ds.any (λy=>PyData.eqv y x) else ds.any (λy=>PyData.eqv y x)))) s
 | _,_=>False
theorem Jl{neg:Bool}:RO K (Ha K neg) (LV neg):=by
 refine⟨λv w s Q Q' h q=>?_,λG s σ H x y v w Q r v1 v2 h=>?_⟩
 ·unfold LV at q |-;split at q
  ·exact⟨q.1,h _ _ q.2⟩
  ·exact q.elim
 ·unfold LV at h;split at h
  ·next a ds e1 e2=>
   obtain⟨⟨n1,n2,s1,s2,s3⟩,h⟩:=h
   obtain⟨p,ys,rfl,h1,h2⟩:=r.rdA v2 e2
   exact⟨a,ds,p,ys,r.rdD v1 e1 n1,rfl,h1,ZE.dv r.sub n2 h2,s1,s2,s3,h.here r Xu⟩
  ·exact h.elim
theorem ZE.atI{ds:List PyData}{xs:List V}{i:Int}{d:PyData}(h:ZE K G ds xs)(e:L2.atI ds i=some d):∃x,L2.atI xs i=some x/\DW K G d x:=by
 unfold L2.atI at e |-
 rw[h.length]at e
 cases q:Ge xs.length i with
 | none=>rw[q]at e;cases e
 | some j=>
  rw[q]at e
  obtain⟨x,h1,h2⟩:=h.get' (i:=j) (d:=d) e
  exact⟨x,h1,h2⟩
def LX:Val->Val->ZG:=λv w s k=>match rdL s.w v,w with
 | some ds,.d (.int i)=>∃d,atI ds i=some d/\k (.d d) s
 | _,_=>False
def LZ:Val->Val->ZG:=λv w s k=>match rdT v,w with
 | some ds,.d (.int i)=>∃d,atI ds i=some d/\k (.d d) s
 | _,_=>False
theorem Qr:RO K (DG K) LX:=by
 refine⟨λv w s Q Q' h q=>?_,λG s σ H x y v w Q r v1 v2 h=>?_⟩
 ·unfold LX at q |-;split at q
  ·obtain⟨d,e,q⟩:=q;exact⟨d,e,h _ _ q⟩
  ·exact q.elim
 ·unfold LX at h;split at h
  ·next ds i e1=>
   obtain⟨d,e,h⟩:=h
   obtain⟨p,ys,rfl,h1,h2⟩:=r.rdL v1 e1
   obtain⟨z,h3,h4⟩:=h2.atI e
   exact⟨p,ys,i,z,rfl,Ye v2,h1,h3,h.here r h4⟩
  ·exact h.elim
theorem Jp:RO K (DI K) LZ:=by
 refine⟨λv w s Q Q' h q=>?_,λG s σ H x y v w Q r v1 v2 h=>?_⟩
 ·unfold LZ at q |-;split at q
  ·obtain⟨d,e,q⟩:=q;exact⟨d,e,h _ _ q⟩
  ·exact q.elim
 ·unfold LZ at h;split at h
  ·next ds i e1=>
   obtain⟨d,e,h⟩:=h
   obtain⟨p,ys,rfl,h1,h2⟩:=r.rdT v1 e1
   obtain⟨z,h3,h4⟩:=h2.atI e
   exact⟨p,ys,i,z,rfl,Ye v2,h1,h3,h.here r h4⟩
  ·exact h.elim
def nl(o:Bool)(ds:List PyData)(s:DS)(k:DK):Prop:=match o with
 | true=>∀p,s.w p=none->k (.own p) (s.put p (.lst ds))
 | false=>k (.d (.list ds)) s
theorem Sb{o:Bool}{ds:List PyData}{s:DS}{k k':DK}(h:∀v s',k v s'->k' v s')(q:nl o ds s k):nl o ds s k':=by
 cases o
 ·exact h _ _ q
 ·exact λp hp=>h _ _ (q p hp)
theorem Yw.nl(r:Yw K G s σ H){o:Bool}{ds:List PyData}{xs:List V}{Q:VK}(D:ZE K G ds xs)(h:L2.nl o ds s (Po K G σ Q)):∀p,H p=none->Q (.ref p) (upd H p (.lst xs)):=by
 intro p hp
 have hg:G p=none:=r.sub.free hp
 have S:=Yv hg (.lst xs)
 cases o
 ·exact h (upd G p (.lst xs)) (upd H p (.lst xs)) (.ref p) S (r.new hp _) (DW.list Zw (D.same S))
 ·exact h p (r.free hp) G (upd H p (.lst xs)) (.ref p) (Z5.refl G) (r.newOwn hp ⟨xs,Zw,D⟩) rfl
theorem Yw.nt(r:Yw K G s σ H){ds:List PyData}{xs:List V}{Q:VK}(D:ZE K G ds xs)(h:Po K G σ Q (.d (.tuple ds)) s):∀p,H p=none->Q (.ref p) (upd H p (.tup xs)):=by
 intro p hp
 have hg:G p=none:=r.sub.free hp
 have S:=Yv hg (.tup xs)
 exact h (upd G p (.tup xs)) (upd H p (.tup xs)) (.ref p) S (r.new hp _) (DW.tup Zw (D.same S))
def rdM(w:OW):Val->Option (List PyData)
 | .d (.list ds)=>some ds
 | .own a=>match w a with|some (.lst ds)=>some ds|_=>none
 | _=>none
theorem Yw.rdM(r:Yw K G s σ H){v:Val}{x:V}{ds:List PyData}(q:VR K G v x)(h:L2.rdM s.w v=some ds):∃a xs,x=.ref a/\H a=some (.lst xs)/\ZE K G ds xs:=by
 unfold L2.rdM at h
 split at h
 ·cases h
  obtain⟨a,xs,rfl,h1,h2⟩:=UN q
  exact⟨a,xs,rfl,r.sub _ _ h1,h2⟩
 ·next a=>
  cases (show x=.ref a from q)
  split at h
  ·next z=>
   cases h
   obtain⟨_,xs,h1,h2⟩:=r.own a _ z
   exact⟨a,xs,rfl,h1,h2⟩
  ·cases h
 ·cases h
def LQ(o:Bool):Val->Val->ZG:=λv w s k=>match rdM s.w v,rdM s.w w with
 | some ds,some es=>ds.length+es.length≤sizeLine/\nl o (ds++es) s k
 | _,_=>False
theorem Jj(o:Bool):RO K DD (LQ o):=by
 refine⟨λv w s Q Q' h q=>?_,λG s σ H x y v w Q r v1 v2 h=>?_⟩
 ·unfold LQ at q |-;split at q
  ·exact⟨q.1,Sb h q.2⟩
  ·exact q.elim
 ·unfold LQ at h;split at h
  ·next ds es e1 e2=>
   obtain⟨a,xs,rfl,h1,h2⟩:=r.rdM v1 e1
   obtain⟨b,ys,rfl,h3,h4⟩:=r.rdM v2 e2
   exact⟨a,b,xs,ys,rfl,rfl,h1,h3,by rw[<- h2.length,<- h4.length];exact h.1,r.nl (h2.append h4) h.2⟩
  ·exact h.elim
def P8(k:Nat)(ds:List PyData):List PyData:=(List.replicate k ds).flatten
theorem ZE.rep{ds:List PyData}{xs:List V}(h:ZE K G ds xs):∀k:Nat,ZE K G (P8 k ds) (List.replicate k xs).flatten
 | 0=>ZE.nil
 | k+1=>by unfold P8;rw[yI,yI,yJ,yJ];exact ZE.append h (ZE.rep h k)
def Dk(o:Bool):Val->Val->ZG:=λv w s k=>match rdM s.w v,w with
 | some ds,.d (.int i)=>(-(2 ^ 63)≤i/\i<2 ^ 63/\ds.length*i.toNat≤sizeLine)/\nl o (P8 i.toNat ds) s k
 | _,_=>False
def Gs(K:Frag):R2:=λx y H Q=>∃a b xs ys,x=.ref a/\y=.ref b/\X7 K H a xs/\X7 K H b ys/\xs.length+ys.length≤sizeLine/\(xs=[]->Q (.ref b) H)/\(ys=[]->Q (.ref a) H)/\∀p,H p=none->Q (.ref p) (upd H p (.tup (xs++ys)))
theorem W4{X:Cx}:XZ X (binaryOp .Add) (Gs X.K):=by
 rintro pins s σ H x y v u Q I rx ry ⟨a,b,xs,ys,rfl,rfl,h1,h2,hz,q1,q2,q3⟩
 cases (show v=Value.ref a from rx)
 cases (show u=Value.ref b from ry)
 obtain⟨us,ru,hu,_⟩:=I.tuple h1
 obtain⟨ws,rw',hw,_⟩:=I.tuple h2
 have lu:=ru.length
 have lw:=rw'.length
 by_cases e:us=[]
 ·subst e
  have ex:xs=[]:=by cases xs with|nil=>rfl|cons a r=>cases ru
  obtain⟨⟨cls,dd,data,sl⟩,ho,hc,n,hd⟩:=id hu
  obtain⟨⟨cls2,dd2,data2,sl2⟩,ho2,hc2,n2,hd2⟩:=id hw
  simp only at hc hd hc2 hd2
  subst hc hd hc2 hd2
  exact concat_meets ⟨_,ho,rfl⟩ ⟨_,ho2,rfl⟩ uZ seq_tuple_add slot_tuple_add yA (yB _ _) (JD a b _ ws.toArray n n2 dd dd2 sl sl2 rfl) ⟨ho,ho2,⟨.ref b,H,I,rfl,q1 ex⟩⟩
 ·refine HT.cat_tup hu hw e (λew=>⟨.ref a,H,I,rfl,q2 ?_⟩) (λew=>?_) (by omega)
  ·cases ys with|nil=>rfl|cons a r=>subst ew;cases rw'
  ·exact⟨.ref s.heap.objs.size,upd H s.heap.objs.size (.tup (xs++ys)),I.laid (t':=s.toks) (λb o e=>zX _ e) (vU _) (show Yx X.prog X.w _ _ _ (.tup _) from⟨by rw[uX];exact hz,_,ru.append rw',R8.new _ _⟩),rfl,q3 _ I.fresh⟩
def QT:Val->Val->ZG:=λv w s k=>match rdT v,rdT w with
 | some ds,some es=>ds.length+es.length≤sizeLine/\k (.d (.tuple (ds++es))) s
 | _,_=>False
theorem Sg{v:Val}{ds:List PyData}(h:rdT v=some ds):v=.d (.tuple ds):=by
 unfold rdT at h;split at h<;>cases h;rfl
theorem ZE.nil_of{ds:List PyData}{xs:List V}(h:ZE K G ds xs)(e:xs=[]):ds=[]:=by
 have:=h.length
 rw[e]at this
 exact tG.mp this
theorem Vo:RO K (Gs K) QT:=by
 refine⟨λv w s Q Q' h q=>?_,λG s σ H x y v w Q r v1 v2 h=>?_⟩
 ·unfold QT at q |-;split at q
  ·exact⟨q.1,h _ _ q.2⟩
  ·exact q.elim
 ·unfold QT at h;split at h
  ·next ds es e1 e2=>
   obtain⟨a,xs,rfl,h1,h2⟩:=r.rdT v1 e1
   obtain⟨b,ys,rfl,h3,h4⟩:=r.rdT v2 e2
   refine⟨a,b,xs,ys,rfl,rfl,h1,h3,by rw[<- h2.length,<- h4.length];exact h.1,λe=>h.2.here r ?_,λe=>h.2.here r ?_,r.nt (h2.append h4) h.2⟩
   ·rw[h2.nil_of e,tH,<- Sg e2];exact v2
   ·rw[h4.nil_of e,uK,<- Sg e1];exact v1
  ·exact h.elim
def Jb(K:Frag):V->Option Int->Option Int->Hp->VK->Prop:=λx lo hi H Q=>∃a xs,x=.ref a/\X7 K H a xs/\(TC xs lo hi=xs->Q (.ref a) H)/\∀p,H p=none->Q (.ref p) (upd H p (.tup (TC xs lo hi)))
theorem Xf{X:Cx}:La X (Jb X.K):=by
 intro pins s σ H x v vl vu lo hi sl Q I rx hs pl pu h
 obtain⟨a,xs,rfl,hx,q1,q2⟩:=h
 by_cases hw:HT.sIx xs.length 0 lo=0/\HT.sIx xs.length xs.length hi=xs.length
 ·cases rx
  obtain⟨its,r,ht,hz⟩:=I.tuple hx
  have hlen:its.toArray.size=xs.length:=by rw[yC];exact r.length.symm
  refine⟨"tuple",_,yF.lookup,ht.typeIs,?_⟩
  refine Vw ht hs pl pu (by rw[hlen];exact hw) ⟨.ref a,H,I,rfl,q1 ?_⟩
  unfold TC;rw[hw.1,hw.2,drop_zero,sub_zero,take_length]
 ·exact Ej pins s σ H _ v vl vu lo hi sl Q I rx hs pl pu ⟨a,xs,rfl,hx,hw,q2⟩
def Xz(xs:List PyData)(lo hi:Option Int):List PyData:=(xs.drop (HT.sIx xs.length 0 lo)).take (HT.sIx xs.length xs.length hi-HT.sIx xs.length 0 lo)
theorem ZE.cut{ds:List PyData}{xs:List V}(h:ZE K G ds xs)(lo hi:Option Int):ZE K G (Xz ds lo hi) (TC xs lo hi):=by
 unfold Xz TC;rw[h.length];exact(h.drop _).take _
structure RX(K:Frag)(t:TO)(d:DS->(Option Int->DS->Prop)->Prop):Prop where
 mo:Mo d
 ok:∀G s σ H (Q:Option Int->Hp->Prop),Yw K G s σ H->d s (λo s'=>∀G' H',Z5 G G'->Yw K G' s' σ H'->Q o H')->t σ H Q
def GY:DS->(Option Int->DS->Prop)->Prop:=λs k=>k none s
def dP(d:ZG):DS->(Option Int->DS->Prop)->Prop:=λs k=>d s λv s'=>match v with | .d (.int i)=>k (some i) s' | _=>False
theorem W7:RX K Q4 GY:=⟨λs Q Q' h q=>h _ _ q,λG s σ H Q r h=>h G H (Z5.refl G) r⟩
theorem W8{t:TE}{d:ZG}(h:RE K t d):RX K (J8 t) (dP d):=by
 refine⟨λs Q Q' z q=>h.mo _ _ _ (λv s' q=>?_) q,λG s σ H Q r q=>h.ok G s σ H _ r (h.mo _ _ _ (λv s' q G' H' x e r' v'=>?_) q)⟩
 ·split at q
  ·exact z _ _ q
  ·exact q.elim
 ·split at q
  ·next i=>exact⟨i,Ye v',q G' H' e r'⟩
  ·exact q.elim
structure Ct(K:Frag)(r:V->Option Int->Option Int->Hp->VK->Prop)(f:Val->Option Int->Option Int->ZG):Prop where
 mo:∀v lo hi,Mo (f v lo hi)
 ok:∀G s σ H x v lo hi Q,Yw K G s σ H->VR K G v x->f v lo hi s (Po K G σ Q)->r x lo hi H Q
def Ka:Val->Option Int->Option Int->ZG:=λv lo hi s k=>match rdT v with|some ds=>k (.d (.tuple (Xz ds lo hi))) s|none=>False
def L_(o:Bool):Val->Option Int->Option Int->ZG:=λv lo hi s k=>match rdL s.w v with|some ds=>nl o (Xz ds lo hi) s k|none=>False
theorem UZ:Ct K (Jb K) Ka:=by
 refine⟨λv lo hi s Q Q' h q=>?_,λG s σ H x v lo hi Q r v1 h=>?_⟩
 ·unfold Ka at q |-;split at q
  ·exact h _ _ q
  ·exact q.elim
 ·unfold Ka at h;split at h
  ·next ds e=>
   obtain⟨a,xs,rfl,h1,h2⟩:=r.rdT v1 e
   refine⟨a,xs,rfl,h1,λz=>?_,r.nt (h2.cut lo hi) h⟩
   have v1':VR K G (.d (.tuple ds)) (.ref a):=by rw[<- Sg e];exact v1
   have e2:Xz ds lo hi=ds:=by
    have hc:=h2.cut lo hi
    rw[z]at hc
    have hl:(Xz ds lo hi).length=ds.length:=by rw[hc.length,h2.length]
    unfold Xz at hl |-
    rw[uS,yE]at hl
    by_cases h0:HT.sIx ds.length 0 lo=0
    ·rw[h0,sub_zero]at hl |-
     rw[drop_zero]
     exact wT (by omega)
    ·have:ds.length=0:=by omega
     rw[tG.mp this];simp
   exact h.here r (by rw[e2];exact v1')
  ·exact h.elim
theorem Jv(o:Bool):Ct K (Ea K) (L_ o):=by
 refine⟨λv lo hi s Q Q' h q=>?_,λG s σ H x v lo hi Q r v1 h=>?_⟩
 ·unfold L_ at q |-;split at q
  ·exact Sb h q
  ·exact q.elim
 ·unfold L_ at h;split at h
  ·next ds e=>
   obtain⟨a,xs,rfl,h1,h2⟩:=r.rdL v1 e
   exact⟨a,xs,rfl,h1,r.nl (h2.cut lo hi) h⟩
  ·exact h.elim
def CO(f:Val->Option Int->Option Int->ZG)(de:ZG)(dl dh:DS->(Option Int->DS->Prop)->Prop):ZG:=λs k=>de s λv s1=>dl s1 λl s2=>dh s2 λu s3=>f v l u s3 k
theorem UY{r:V->Option Int->Option Int->Hp->VK->Prop}{f:Val->Option Int->Option Int->ZG}{te:TE}{tl th:TO}{de:ZG}{dl dh:DS->(Option Int->DS->Prop)->Prop}(hr:Ct K r f)(he:RE K te de)(hl:RX K tl dl)(hh:RX K th dh):RE K (Bj r te tl th) (CO f de dl dh):=by
 refine⟨λs Q Q' h q=>he.mo _ _ _ (λv s1 q1=>hl.mo _ _ _ (λl s2 q2=>hh.mo _ _ _ (λu s3 q3=>hr.mo v l u _ _ _ h q3) q2) q1) q,λG s σ H Q r h=>?_⟩
 refine he.ok G s σ H _ r (he.mo _ _ _ (λv s1 q G1 H1 x e1 r1 v1=>?_) h)
 refine hl.ok G1 s1 σ H1 _ r1 (hl.mo _ _ _ (λl s2 q2 G2 H2 e2 r2=>?_) q)
 refine hh.ok G2 s2 σ H2 _ r2 (hh.mo _ _ _ (λu s3 q3 G3 H3 e3 r3=>?_) q2)
 exact hr.ok G3 s3 σ H3 x v l u Q r3 (v1.same (e2.trans e3)) (hr.mo v l u _ _ _ (λz s4 q4=>q4.same ((e1.trans e2).trans e3)) q3)
def Dc(o:Bool)(de:ZG):ZG:=λs k=>de s λv s1=>match rdL s1.w v with|some ds=>nl o ds.reverse s1 k|none=>False
def Ml:XN:=λs k=>k [] s
def WN(de:ZG)(da:XN):XN:=λs k=>de s λv s1=>da s1 λvs s2=>k (v::vs) s2
theorem Zk:RA K Er Ml:=⟨λs Q Q' h q=>h _ _ q,λG s σ H Q r h=>h G H [] (Z5.refl G) r .nil⟩
theorem Zc{te:TE}{t:TA}{de:ZG}{da:XN}(he:RE K te de)(ha:RA K t da):RA K (NW te t) (WN de da):=by
 refine⟨λs Q Q' h q=>he.mo _ _ _ (λv s1 q1=>ha.mo _ _ _ (λvs s2 q2=>h _ _ q2) q1) q,λG s σ H Q r h=>?_⟩
 refine he.ok G s σ H _ r (he.mo _ _ _ (λv s1 q G1 H1 x e1 r1 v1=>?_) h)
 exact ha.ok G1 s1 σ H1 _ r1 (ha.mo _ _ _ (λvs s2 q2 G2 H2 xs e2 r2 v2=>q2 G2 H2 _ (e1.trans e2) r2 (.cons (v1.same e2) v2)) q)
def N_:List Val->Option (List PyData)
 | []=>some []
 | .d x::r=>(N_ r).map (x::·)
 | _::_=>none
theorem OX:∀{vs:List Val}{ds:List PyData}{xs:List V},N_ vs=some ds->VRs K G vs xs->ZE K G ds xs
 | [],_,_,e,.nil=>by cases e;exact ZE.nil
 | .d x::r,ds,_,e,.cons h t=>by
  simp only[N_]at e
  cases q:N_ r with
  | none=>rw[q]at e;cases e
  | some es=>rw[q]at e;cases e;exact ZE.cons h (OX q t)
 | .own _::_,_,_,e,_=>by simp[N_]at e
 | .raw _::_,_,_,e,_=>by simp[N_]at e
 | .scr _::_,_,_,e,_=>by simp[N_]at e
def L5(o:Bool)(da:XN):ZG:=λs k=>da s λvs s1=>match N_ vs with|some ds=>ds.length≤sizeLine/\nl o ds s1 k|none=>False
def LC(da:XN):ZG:=λs k=>da s λvs s1=>match N_ vs with|some ds=>ds.length≤sizeLine/\k (.d (.tuple ds)) s1|none=>False
theorem Xw(o:Bool){t:TA}{da:XN}(ha:RA K t da):RE K (Ep t) (L5 o da):=by
 refine⟨λs Q Q' h q=>ha.mo _ _ _ (λv s1 q1=>?_) q,λG s σ H Q r h=>ha.ok G s σ H _ r (ha.mo _ _ _ (λvs s1 q G1 H1 xs e1 r1 v1=>?_) h)⟩
 ·split at q1
  ·exact⟨q1.1,Sb h q1.2⟩
  ·exact q1.elim
 ·split at q
  ·next ds e=>
   have D:=OX e v1
   exact⟨by rw[<- D.length];exact q.1,r1.nl D (Sb (λv s' z=>z.same e1) q.2)⟩
  ·exact q.elim
theorem Yu{t:TA}{da:XN}(ha:RA K t da):RE K (Hw t) (LC da):=by
 refine⟨λs Q Q' h q=>ha.mo _ _ _ (λv s1 q1=>?_) q,λG s σ H Q r h=>ha.ok G s σ H _ r (ha.mo _ _ _ (λvs s1 q G1 H1 xs e1 r1 v1=>?_) h)⟩
 ·split at q1
  ·exact⟨q1.1,h _ _ q1.2⟩
  ·exact q1.elim
 ·split at q
  ·next ds e=>
   have D:=OX e v1
   exact⟨by rw[<- D.length];exact q.1,r1.nt D (q.2.same e1)⟩
  ·exact q.elim
structure RC(K:Frag)(r:List V->Hp->VK->Prop)(f:List Val->ZG):Prop where
 mo:∀vs,Mo (f vs)
 ok:∀G s σ H xs vs Q,Yw K G s σ H->VRs K G vs xs->f vs s (Po K G σ Q)->r xs H Q
def EU(f:List Val->ZG)(da:XN):ZG:=λs k=>da s λvs s1=>f vs s1 k
theorem ZX{r:List V->Hp->VK->Prop}{f:List Val->ZG}{t:TA}{da:XN}(hc:RC K r f)(ha:RA K t da):RE K (Cc r t) (EU f da):=
 ⟨λs Q Q' h q=>ha.mo _ _ _ (λvs s1 q1=>hc.mo vs _ _ _ h q1) q,λG s σ H Q r h=>ha.ok G s σ H _ r (ha.mo _ _ _ (λvs s1 q G1 H1 xs e1 r1 v1=>hc.ok G1 s1 σ H1 xs vs Q r1 v1 (hc.mo vs _ _ _ (λv s' z=>z.same e1) q)) h)⟩
theorem VRs.one{v:Val}{xs:List V}(h:VRs K G [v] xs):∃x,xs=[x]/\VR K G v x:=by
 cases h with|cons a t=>cases t;exact⟨_,rfl,a⟩
theorem VRs.two{v u:Val}{xs:List V}(h:VRs K G [v,u] xs):∃x y,xs=[x,y]/\VR K G v x/\VR K G u y:=by
 cases h with|cons a t=>cases t with|cons b t=>cases t;exact⟨_,_,rfl,a,b⟩
def f1(g:Val->ZG):List Val->ZG:=λvs s k=>match vs with | [v]=>g v s k|_=>False
def f2(g:Val->Val->ZG):List Val->ZG:=λvs s k=>match vs with | [v,w]=>g v w s k|_=>False
theorem EE{r:List V->Hp->VK->Prop}{g:Val->ZG}(mo:∀v,Mo (g v))(ok:∀G s σ H x v Q,Yw K G s σ H->VR K G v x->g v s (Po K G σ Q)->r [x] H Q):RC K r (f1 g):=by
 refine⟨λvs s Q Q' h q=>?_,λG s σ H xs vs Q r v1 h=>?_⟩
 ·unfold f1 at q |-;split at q
  ·exact mo _ _ _ _ h q
  ·exact q.elim
 ·unfold f1 at h;split at h
  ·obtain⟨x,rfl,v2⟩:=v1.one
   exact ok G s σ H x _ Q r v2 h
  ·exact h.elim
theorem Be{r:List V->Hp->VK->Prop}{g:Val->Val->ZG}(mo:∀v w,Mo (g v w))(ok:∀G s σ H x y v w Q,Yw K G s σ H->VR K G v x->VR K G w y->g v w s (Po K G σ Q)->r [x,y] H Q):RC K r (f2 g):=by
 refine⟨λvs s Q Q' h q=>?_,λG s σ H xs vs Q r v1 h=>?_⟩
 ·unfold f2 at q |-;split at q
  ·exact mo _ _ _ _ _ h q
  ·exact q.elim
 ·unfold f2 at h;split at h
  ·obtain⟨x,y,rfl,v2,v3⟩:=v1.two
   exact ok G s σ H x y _ _ Q r v2 v3 h
  ·exact h.elim
def Q_:Val->ZG:=λv s k=>match rdA s.w v with|some ds=>k (.d (.int ds.length)) s|none=>False
theorem OM:RC K (λxs H Q=>∃p ys,xs=[.ref p]/\(Xg K H p ys\/X7 K H p ys)/\Q (.int ys.length) H) (f1 Q_):=by
 refine EE (λv s Q Q' h q=>?_) (λG s σ H x v Q r v1 h=>?_)
 ·unfold Q_ at q |-;split at q
  ·exact h _ _ q
  ·exact q.elim
 ·unfold Q_ at h;split at h
  ·next ds e=>
   obtain⟨a,xs,rfl,h1,h2⟩:=r.rdA v1 e
   exact⟨a,xs,rfl,h1,by rw[<- h2.length];exact h.here r W9⟩
  ·exact h.elim
def TR:Val->ZG:=λv s k=>match rdA s.w v with|some ds=>k (.d (.tuple ds)) s|none=>False
theorem P7:RC K (λxs H Q=>∃p ys,xs=[.ref p]/\((Xg K H p ys/\∀l,H l=none->Q (.ref l) (upd H l (.tup ys)))\/(X7 K H p ys/\Q (.ref p) H))) (f1 TR):=by
 refine EE (λv s Q Q' h q=>?_) (λG s σ H x v Q r v1 h=>?_)
 ·unfold TR at q |-;split at q
  ·exact h _ _ q
  ·exact q.elim
 ·unfold TR rdA at h
  split at h
  ·next ds e=>
   split at e
   ·next es z=>
    cases e
    obtain⟨a,xs,rfl,h1,h2⟩:=r.rdT v1 z
    exact⟨a,xs,rfl,.inr ⟨h1,h.here r (by rw[<- Sg z];exact v1)⟩⟩
   ·obtain⟨a,xs,rfl,h1,h2⟩:=r.rdL v1 e
    exact⟨a,xs,rfl,.inl ⟨h1,r.nt h2 h⟩⟩
  ·exact h.elim
def Ub(o:Bool):Val->ZG:=λv s k=>match rdA s.w v with|some ds=>nl o ds s k|none=>False
theorem NM(o:Bool):RC K (λxs H Q=>∃p ys,xs=[.ref p]/\(Xg K H p ys\/X7 K H p ys)/\∀l,H l=none->Q (.ref l) (upd H l (.lst ys))) (f1 (Ub o)):=by
 refine EE (λv s Q Q' h q=>?_) (λG s σ H x v Q r v1 h=>?_)
 ·unfold Ub at q |-;split at q
  ·exact Sb h q
  ·exact q.elim
 ·unfold Ub at h;split at h
  ·next ds e=>
   obtain⟨a,xs,rfl,h1,h2⟩:=r.rdA v1 e
   exact⟨a,xs,rfl,h1,r.nl h2 h⟩
  ·exact h.elim
def SU:List PyData->Option (List Int)
 | []=>some []
 | .int i::r=>(SU r).map (i::·)
 | _::_=>none
theorem JK:∀{ds:List PyData}{ns:List Int},SU ds=some ns->ds=ns.map .int
 | [],_,e=>by cases e;rfl
 | .int i::r,ns,e=>by
  simp only[SU]at e
  cases q:SU r with
  | none=>rw[q]at e;cases e
  | some ms=>rw[q]at e;cases e;rw[JK q];rfl
 | .none::_,_,e=>by simp[SU]at e
 | .bool _::_,_,e=>by simp[SU]at e
 | .str _::_,_,e=>by simp[SU]at e
 | .list _::_,_,e=>by simp[SU]at e
 | .tuple _::_,_,e=>by simp[SU]at e
 | .dict _::_,_,e=>by simp[SU]at e
@[simp] theorem uIs_map(ns:List Int):SU (ns.map .int)=some ns:=by
 induction ns with
 | nil=>rfl
 | cons n r ih=>simp[SU,ih]
def NZ:List PyData->Option (List Bool)
 | []=>some []
 | .bool i::r=>(NZ r).map (i::·)
 | _::_=>none
theorem JJ:∀{ds:List PyData}{ns:List Bool},NZ ds=some ns->ds=ns.map .bool
 | [],_,e=>by cases e;rfl
 | .bool i::r,ns,e=>by
  simp only[NZ]at e
  cases q:NZ r with
  | none=>rw[q]at e;cases e
  | some ms=>rw[q]at e;cases e;rw[JJ q];rfl
 | .none::_,_,e=>by simp[NZ]at e
 | .int _::_,_,e=>by simp[NZ]at e
 | .str _::_,_,e=>by simp[NZ]at e
 | .list _::_,_,e=>by simp[NZ]at e
 | .tuple _::_,_,e=>by simp[NZ]at e
 | .dict _::_,_,e=>by simp[NZ]at e
@[simp] theorem uBs_map(ns:List Bool):NZ (ns.map .bool)=some ns:=by
 induction ns with
 | nil=>rfl
 | cons n r ih=>simp[NZ,ih]
def Dr:Val->ZG:=λv s k=>match rdL s.w v with|some ds=>(match SU ds with|some ns=>k (.d (.int ns.sum)) s|none=>False)|none=>False
def Kf:Val->ZG:=λv s k=>match rdL s.w v with|some ds=>(match NZ ds with|some ns=>k (.d (.bool (ns.all id))) s|none=>False)|none=>False
theorem Qm:RC K (λxs H Q=>∃(a:Addr) (bs:List Bool),xs=[.ref a]/\Xg K H a (bs.map V.bl)/\Q (.bl (bs.all id)) H) (f1 Kf):=by
 refine EE (λv s Q Q' h q=>?_) (λG s σ H x v Q r v1 h=>?_)
 ·unfold Kf at q |-;split at q
  ·split at q
   ·exact h _ _ q
   ·exact q.elim
  ·exact q.elim
 ·unfold Kf at h;split at h
  ·next ds e=>
   split at h
   ·next ns z=>
    obtain⟨a,xs,rfl,h1,h2⟩:=r.rdL v1 e
    rw[JJ z]at h2
    rw[h2.bools_inv]at h1
    exact⟨a,ns,rfl,h1,h.here r Xu⟩
   ·exact h.elim
  ·exact h.elim
def Ba(d:PyData):Prop:=d.showable=true/\d.hasDict=false/\d.depth≤40/\d.shown.length≤sizeLine
def CU:PyData->Bool
 | .list _=>true
 | .tuple _=>true
 | _=>false
def HY:Val->ZG:=λv s k=>match rdD s.w v with|some d=>CU d=true/\Ba d/\k (.d (.str d.shown)) s|none=>False
def QV:Val->Val->ZG:=λv w s k=>match v,w with | .d (.int i),.d (.int j)=>k (.d (.int (max i j))) s|_,_=>False
def QW:Val->Val->ZG:=λv w s k=>match v,w with | .d (.int i),.d (.int j)=>k (.d (.int (min i j))) s|_,_=>False
theorem Hb:RC K (λxs H Q=>∃i j,xs=[.int i,.int j]/\Q (.int (if j > i then j else i)) H) (f2 QV):=by
 refine Be (λv w s Q Q' h q=>?_) (λG s σ H x y v w Q r v1 v2 h=>?_)
 ·unfold QV at q |-;split at q
  ·exact h _ _ q
  ·exact q.elim
 ·unfold QV at h;split at h
  ·next i j=>
   refine⟨i,j,by rw[Ye v1,Ye v2],?_⟩
   have e:(if j > i then j else i)=max i j:=by split<;>omega
   rw[e];exact h.here r W9
  ·exact h.elim
theorem Hc:RC K (λxs H Q=>∃i j,xs=[.int i,.int j]/\Q (.int (if j<i then j else i)) H) (f2 QW):=by
 refine Be (λv w s Q Q' h q=>?_) (λG s σ H x y v w Q r v1 v2 h=>?_)
 ·unfold QW at q |-;split at q
  ·exact h _ _ q
  ·exact q.elim
 ·unfold QW at h;split at h
  ·next i j=>
   refine⟨i,j,by rw[Ye v1,Ye v2],?_⟩
   have e:(if j<i then j else i)=min i j:=by split<;>omega
   rw[e];exact h.here r W9
  ·exact h.elim
def Xs:PyData->String
 | .none=>"NoneType" | .bool _=>"bool" | .int _=>"int" | .str _=>"str" | .list _=>"list" | .tuple _=>"tuple" | .dict _=>"dict"
def LW:Val->Val->ZG:=λv w s k=>match rdD s.w v,w with
 | some d,.raw (.ty c)=>∃b,(∀K,PySem.W.kitOne K (.type (Xs d)) (.type c)=some b)/\k (.d (.bool b)) s
 | _,_=>False
end
section
variable {K:Frag}{G G' H H':Hp}{s:DS}{σ:St}
def Nq(d:ZG):Vt:=λs k=>d s λv s1=>match v with | .d (.bool b)=>k b s1|_=>False
theorem W6{t:TE}{d:ZG}(h:RE K t d):RT K (PJ t) (Nq d):=by
 refine⟨λs Q Q' z q=>h.mo _ _ _ (λv s1 q=>?_) q,λG s σ H Q r q=>h.ok G s σ H _ r (h.mo _ _ _ (λv s1 q G1 H1 x e1 r1 v1=>?_) q)⟩
 ·split at q
  ·exact z _ _ q
  ·exact q.elim
 ·split at q
  ·next b=>exact⟨b,U_ v1,q G1 H1 e1 r1⟩
  ·exact q.elim
theorem Ed{t:TE}{d:ZG}(h:RE K t d):RT K (tB t) (Nq d):=W6 h
def Ey(w:OW)(v:Val):Option Bool:=match v with
 | .d .none=>some false
 | .d (.bool b)=>some b
 | .d (.int i)=>some (i != 0)
 | _=>(rdA w v).map λds=>!ds.isEmpty
def De(d:ZG):Vt:=λs k=>d s λv s1=>match Ey s1.w v with|some b=>k b s1|none=>False
theorem ZE.empty{ds:List PyData}{xs:List V}(h:ZE K G ds xs):xs.isEmpty=ds.isEmpty:=by
 cases ds with
 | nil=>unfold ZE at h;rw[h];rfl
 | cons d ds=>unfold ZE at h;obtain⟨x,r,rfl,_⟩:=h;rfl
def GQ(t u:Vt):Vt:=λs k=>t s λc s1=>if c=true then u s1 k else k false s1
def CN(t u:Vt):Vt:=λs k=>t s λc s1=>if c=true then k true s1 else u s1 k
def GZ(t:Vt):Vt:=λs k=>t s λc s1=>k (!c) s1
theorem Jw{t u:TT}{d e:Vt}(h:RT K t d)(q:RT K u e):RT K (Em t u) (GQ d e):=by
 refine⟨λs Q Q' z y=>h.mo _ _ _ (λc s1 y=>?_) y,λG s σ H Q r y=>h.ok G s σ H _ r (h.mo _ _ _ (λc s1 y G1 H1 e1 r1=>?_) y)⟩
 ·cases c
  ·exact z _ _ y
  ·exact q.mo _ _ _ z y
 ·cases c
  ·exact y G1 H1 e1 r1
  ·exact q.ok G1 s1 σ H1 _ r1 (q.mo _ _ _ (λc s2 z=>z.same e1) y)
theorem Gz{t u:TT}{d e:Vt}(h:RT K t d)(q:RT K u e):RT K (Bi t u) (CN d e):=by
 refine⟨λs Q Q' z y=>h.mo _ _ _ (λc s1 y=>?_) y,λG s σ H Q r y=>h.ok G s σ H _ r (h.mo _ _ _ (λc s1 y G1 H1 e1 r1=>?_) y)⟩
 ·cases c
  ·exact q.mo _ _ _ z y
  ·exact z _ _ y
 ·cases c
  ·exact q.ok G1 s1 σ H1 _ r1 (q.mo _ _ _ (λc s2 z=>z.same e1) y)
  ·exact y G1 H1 e1 r1
theorem Qt{t:TT}{d:Vt}(h:RT K t d):RT K (Es t) (GZ d):=
 ⟨λs Q Q' z y=>h.mo _ _ _ (λc s1 y=>z _ _ y) y,λG s σ H Q r y=>h.ok G s σ H _ r (h.mo _ _ _ (λc s1 y G1 H1 e1 r1=>y G1 H1 e1 r1) y)⟩
def LF:Vt:=λs k=>k true s
theorem Qu:RT K Ex LF:=⟨λs Q Q' z y=>z _ _ y,λG s σ H Q r y=>y G H (Z5.refl G) r⟩
def GV(t:Vt)(a b:ZG):ZG:=λs k=>t s λc s1=>if c=true then a s1 k else b s1 k
theorem DO{t:TT}{ta tb:TE}{d:Vt}{da db:ZG}(h:RT K t d)(ha:RE K ta da)(hb:RE K tb db):RE K (Bh t ta tb) (GV d da db):=by
 refine⟨λs Q Q' z y=>h.mo _ _ _ (λc s1 y=>?_) y,λG s σ H Q r y=>h.ok G s σ H _ r (h.mo _ _ _ (λc s1 y G1 H1 e1 r1=>?_) y)⟩
 ·cases c
  ·exact hb.mo _ _ _ z y
  ·exact ha.mo _ _ _ z y
 ·cases c
  ·exact hb.ok G1 s1 σ H1 _ r1 (hb.mo _ _ _ (λc s2 z=>z.same e1) y)
  ·exact ha.ok G1 s1 σ H1 _ r1 (ha.mo _ _ _ (λc s2 z=>z.same e1) y)
def Lm(a b:ZG):ZG:=λs k=>a s λv s1=>match v with | .d (.bool c)=>(if c=true then b s1 k else k (.d (.bool false)) s1)|_=>False
def E_(a b:ZG):ZG:=λs k=>a s λv s1=>match v with | .d (.bool c)=>(if c=true then k (.d (.bool true)) s1 else b s1 k)|_=>False
def L7(a:ZG):ZG:=λs k=>a s λv s1=>match v with | .d (.bool c)=>k (.d (.bool (!c))) s1|_=>False
theorem Qo{ta tb:TE}{da db:ZG}(ha:RE K ta da)(hb:RE K tb db):RE K (J5 ta tb) (Lm da db):=by
 refine⟨λs Q Q' z y=>ha.mo _ _ _ (λv s1 y=>?_) y,λG s σ H Q r y=>ha.ok G s σ H _ r (ha.mo _ _ _ (λv s1 y G1 H1 x e1 r1 v1=>?_) y)⟩
 ·split at y
  ·next c=>cases c;exact z _ _ y;exact hb.mo _ _ _ z y
  ·exact y.elim
 ·split at y
  ·next c=>
   refine⟨c,U_ v1,?_⟩
   cases c
   ·exact y G1 H1 _ e1 r1 Xu
   ·exact hb.ok G1 s1 σ H1 _ r1 (hb.mo _ _ _ (λc s2 z=>z.same e1) y)
  ·exact y.elim
theorem He{ta:TE}{da:ZG}(ha:RE K ta da):RE K (J7 ta) (L7 da):=by
 refine⟨λs Q Q' z y=>ha.mo _ _ _ (λv s1 y=>?_) y,λG s σ H Q r y=>ha.ok G s σ H _ r (ha.mo _ _ _ (λv s1 y G1 H1 x e1 r1 v1=>?_) y)⟩
 ·split at y
  ·exact z _ _ y
  ·exact y.elim
 ·split at y
  ·next c=>exact⟨c,U_ v1,y G1 H1 _ e1 r1 Xu⟩
  ·exact y.elim
theorem Tp.list{a:Addr}{xs:List V}{ds:List PyData}(h:G a=some (.lst xs))(D:ZE K G ds xs):Tp K (Ck K a) G (λ_=>True) ds:=by
 intro G1 s σ H i e _ r
 have hs:Xg K H a xs:=Xg.of (r.sub _ _ (e _ _ h))
 refine⟨λd hd=>?_,λhl=>⟨xs,hs,by rw[<- D.length];exact hl⟩⟩
 obtain⟨x,h1,h2⟩:=D.get' hd
 refine⟨⟨xs,x,hs,h1⟩,λy H' hy=>?_⟩
 obtain⟨rfl,hy⟩:=hy
 have:=hy xs hs
 rw[h1]at this;cases this
 exact⟨G1,Z5.refl _,r,h2.same e⟩
theorem Tp.tup{a:Addr}{xs:List V}{ds:List PyData}(h:X7 K G a xs)(D:ZE K G ds xs):Tp K (B6 K a) G (λ_=>True) ds:=by
 intro G1 s σ H i e _ r
 have hs:X7 K H a xs:=r.sub.tup (e.tup h)
 refine⟨λd hd=>?_,λhl=>⟨xs,hs,by rw[<- D.length];exact hl⟩⟩
 obtain⟨x,h1,h2⟩:=D.get' hd
 refine⟨⟨xs,x,hs,h1⟩,λy H' hy=>?_⟩
 obtain⟨rfl,hy⟩:=hy
 have:=hy xs hs
 rw[h1]at this;cases this
 exact⟨G1,Z5.refl _,r,h2.same e⟩
def Si(lo:Int)(n:Nat):List PyData:=(List.range n).map λi=>.int (lo+(i:Nat))
theorem Tp.rng{lo:Int}{n:Nat}:Tp K (Cm lo n) G (λ_=>True) (Si lo n):=by
 intro G1 s σ H i e _ r
 refine⟨λd hd=>?_,λhl=>by show n≤i;simpa[Si]using hl⟩
 have hi:i<n:=by
  have:=(vH.mp hd).1
  simpa[Si]using this
 refine⟨hi,λy H' hy=>?_⟩
 obtain⟨rfl,rfl⟩:=hy
 refine⟨G1,Z5.refl _,r,?_⟩
 have hd':d=.int (lo+(i:Nat)):=by
  unfold Si at hd
  rw[uV,List.getElem?_range hi]at hd
  exact(vK hd).symm
 rw[hd'];exact DW.int
def HC(K:Frag)(t:Bool)(G:Hp)(a:Addr)(xs:List V):Prop:=match t with|true=>X7 K G a xs|false=>G a=some (.lst xs)
theorem HC.sq{t:Bool}{a:Addr}{xs:List V}(h:HC K t G a xs)(e:Z5 G G'):S3 K t G' a xs:=by
 cases t
 ·exact Xg.of (e _ _ h)
 ·exact e.tup h
def Sy(ds es:List PyData):List PyData:=(ds.zip es).map λp=>.tuple [p.1,p.2]
theorem Tp.zip{t1 t2:Bool}{a b:Addr}{xs ys:List V}{ds es:List PyData}(h:HC K t1 G a xs)(h':HC K t2 G b ys)(D:ZE K G ds xs)(D':ZE K G es ys):Tp K (CF K t1 t2 a b) G (λ_=>True) (Sy ds es):=by
 intro G1 s σ H i e _ r
 have hs:=h.sq (e.trans r.sub)
 have hs':=h'.sq (e.trans r.sub)
 refine⟨λd hd=>?_,λhl=>⟨xs,ys,hs,hs',?_⟩⟩
 ·unfold Sy at hd
  rw[uV]at hd
  cases q:(ds.zip es)[i]? with
  | none=>rw[q]at hd;cases hd
  | some p=>
   rw[q]at hd
   cases hd
   obtain⟨q1,q2⟩:=yZ.mp q
   obtain⟨x,h1,h2⟩:=D.get' q1
   obtain⟨y,h3,h4⟩:=D'.get' q2
   refine⟨⟨xs,ys,x,y,hs,hs',h1,h3⟩,λv H' hy=>?_⟩
   obtain⟨p',x',y',rfl,hp,rfl,hxy⟩:=hy
   obtain⟨z1,z2⟩:=hxy xs ys hs hs'
   rw[h1]at z1;cases z1
   rw[h3]at z2;cases z2
   have hg:=r.sub.free hp
   have S:=Yv hg (.tup [x,y])
   exact⟨_,S,r.new hp _,DW.tup Zw (ZE.cons (h2.same (e.trans S)) (ZE.cons (h4.same (e.trans S)) ZE.nil))⟩
 ·unfold Sy at hl
  rw[Uh,length_zip,D.length,D'.length]at hl
  omega
def Wh(ds:List PyData):List PyData:=ds.mapIdx λi d=>.tuple [.int (i:Nat),d]
theorem Tp.enum{t:Bool}{a:Addr}{xs:List V}{ds:List PyData}(h:HC K t G a xs)(D:ZE K G ds xs):Tp K (CC K t a) G (λ_=>True) (Wh ds):=by
 intro G1 s σ H i e _ r
 have hs:=h.sq (e.trans r.sub)
 refine⟨λd hd=>?_,λhl=>⟨xs,hs,by rw[<- D.length];simpa[Wh]using hl⟩⟩
 unfold Wh at hd
 rw[tJ]at hd
 cases q:ds[i]? with
 | none=>rw[q]at hd;cases hd
 | some d'=>
  rw[q]at hd
  cases hd
  obtain⟨x,h1,h2⟩:=D.get' q
  refine⟨⟨xs,x,hs,h1⟩,λv H' hy=>?_⟩
  obtain⟨p',x',rfl,hp,rfl,hxy⟩:=hy
  have z1:=hxy xs hs
  rw[h1]at z1;cases z1
  have hg:=r.sub.free hp
  have S:=Yv hg (.tup [.int (i:Nat),x])
  exact⟨_,S,r.new hp _,DW.tup Zw (ZE.cons DW.int (ZE.cons (h2.same (e.trans S)) ZE.nil))⟩
def MV:OW->Prop:=λ_=>True
def GW(d:ZG):S4:=λs k=>d s λv s1=>match v with | .d (.list ds)=>k (ds,MV) s1 | .own a=>∃ds,s1.w a=some (.lst ds)/\k (ds,λw=>w a=some (.lst ds)) s1|_=>False
def EZ(d:ZG):S4:=λs k=>d s λv s1=>match v with | .d (.tuple ds)=>k (ds,MV) s1|_=>False
theorem Tp.own{a:Addr}{ds:List PyData}:Tp K (Ck K a) G (λw=>w a=some (.lst ds)) ds:=by
 intro G1 s σ H i e p r
 obtain⟨_,xs,h1,D⟩:=r.own a _ p
 have hs:Xg K H a xs:=Xg.of h1
 refine⟨λd hd=>?_,λhl=>⟨xs,hs,by rw[<- D.length];exact hl⟩⟩
 obtain⟨x,h4,h2⟩:=D.get' hd
 refine⟨⟨xs,x,hs,h4⟩,λy H' hy=>?_⟩
 obtain⟨rfl,hy⟩:=hy
 have:=hy xs hs
 rw[h4]at this;cases this
 exact⟨G1,Z5.refl _,r,h2⟩
theorem Qq{t:TE}{d:ZG}(h:RE K t d):RI K (Kq K t) (GW d):=by
 refine⟨λs Q Q' z y=>h.mo _ _ _ (λv s1 y=>?_) y,λG s σ H R r y=>h.ok G s σ H _ r (h.mo _ _ _ (λv s1 y G1 H1 x e1 r1 v1=>?_) y)⟩
 ·split at y
  ·exact z _ _ y
  ·obtain⟨ds,h1,y⟩:=y;exact⟨ds,h1,z _ _ y⟩
  ·exact y.elim
 ·split at y
  ·obtain⟨a,xs,rfl,h1,h2⟩:=UN v1
   exact⟨a,rfl,⟨xs,Xg.of (r1.sub _ _ h1)⟩,y G1 H1 _ e1 r1 (Tp.list h1 h2)⟩
  ·next a=>
   obtain⟨ds,h1,y⟩:=y
   cases (show x=.ref a from v1)
   obtain⟨_,xs,h2,_⟩:=r1.own a _ h1
   exact⟨a,rfl,⟨xs,Xg.of h2⟩,y G1 H1 _ e1 r1 Tp.own⟩
  ·exact y.elim
def L8(d:XN):S4:=λs k=>d s λvs s1=>match vs with | [.d (.int j)]=>(-(2 ^ 62)≤j/\j<2 ^ 62)/\k (Si 0 j.toNat,MV) s1|_=>False
def HQ(d:XN):S4:=λs k=>d s λvs s1=>match vs with | [.d (.int i),.d (.int j)]=>(-(2 ^ 62)≤i/\i<2 ^ 62/\-(2 ^ 62)≤j/\j<2 ^ 62)/\k (Si i (j-i).toNat,MV) s1|_=>False
theorem Vn{t:TA}{d:XN}(h:RA K t d):RI K (Kr t) (L8 d):=by
 refine⟨λs Q Q' z y=>h.mo _ _ _ (λv s1 y=>?_) y,λG s σ H R r y=>h.ok G s σ H _ r (h.mo _ _ _ (λv s1 y G1 H1 x e1 r1 v1=>?_) y)⟩
 ·split at y
  ·exact⟨y.1,z _ _ y.2⟩
  ·exact y.elim
 ·split at y
  ·next j=>
   obtain⟨u,rfl,v2⟩:=v1.one
   exact⟨j,by rw[Ye v2],y.1.1,y.1.2,y.2 G1 H1 _ e1 r1 Tp.rng⟩
  ·exact y.elim
def Qx(t:Bool):Val->Option (List PyData)
 | .d (.list ds)=>if t then none else some ds
 | .d (.tuple ds)=>if t then some ds else none
 | _=>none
theorem Qy{t:Bool}{v:Val}{x:V}{ds:List PyData}(h:VR K G v x)(e:Qx t v=some ds):∃a xs,x=.ref a/\HC K t G a xs/\ZE K G ds xs:=by
 unfold Qx at e
 split at e
 ·cases t
  ·cases e
   obtain⟨a,xs,rfl,h1,h2⟩:=UN h
   exact⟨a,xs,rfl,h1,h2⟩
  ·cases e
 ·cases t
  ·cases e
  ·cases e
   obtain⟨a,xs,rfl,h1,h2⟩:=Sx h
   exact⟨a,xs,rfl,h1,h2⟩
 ·cases e
def Fb(t1 t2:Bool)(d:XN):S4:=λs k=>d s λvs s1=>match vs with | [v,w]=>(match Qx t1 v,Qx t2 w with|some ds,some es=>k (Sy ds es,MV) s1|_,_=>False)|_=>False
def Ly(t:Bool)(d:XN):S4:=λs k=>d s λvs s1=>match vs with | [v]=>(match Qx t v with|some ds=>k (Wh ds,MV) s1|_=>False)|_=>False
theorem Ji{t1 t2:Bool}{t:TA}{d:XN}(h:RA K t d):RI K (Fm K t1 t2 t) (Fb t1 t2 d):=by
 refine⟨λs Q Q' z y=>h.mo _ _ _ (λv s1 y=>?_) y,λG s σ H R r y=>h.ok G s σ H _ r (h.mo _ _ _ (λv s1 y G1 H1 x e1 r1 v1=>?_) y)⟩
 ·split at y
  ·split at y
   ·exact z _ _ y
   ·exact y.elim
  ·exact y.elim
 ·split at y
  ·split at y
   ·next ds es q1 q2=>
    obtain⟨u,w,rfl,v2,v3⟩:=v1.two
    obtain⟨a,xs,rfl,h1,h2⟩:=Qy v2 q1
    obtain⟨b,ys,rfl,h3,h4⟩:=Qy v3 q2
    exact⟨a,b,xs,ys,rfl,h1.sq r1.sub,h3.sq r1.sub,y G1 H1 _ e1 r1 (Tp.zip h1 h3 h2 h4)⟩
   ·exact y.elim
  ·exact y.elim
theorem NO{t1:Bool}{t:TA}{d:XN}(h:RA K t d):RI K (Kp K t1 t) (Ly t1 d):=by
 refine⟨λs Q Q' z y=>h.mo _ _ _ (λv s1 y=>?_) y,λG s σ H R r y=>h.ok G s σ H _ r (h.mo _ _ _ (λv s1 y G1 H1 x e1 r1 v1=>?_) y)⟩
 ·split at y
  ·split at y
   ·exact z _ _ y
   ·exact y.elim
  ·exact y.elim
 ·split at y
  ·split at y
   ·next ds q1=>
    obtain⟨u,rfl,v2⟩:=v1.one
    obtain⟨a,xs,rfl,h1,h2⟩:=Qy v2 q1
    exact⟨a,xs,rfl,h1.sq r1.sub,y G1 H1 _ e1 r1 (Tp.enum h1 h2)⟩
   ·exact y.elim
  ·exact y.elim
def EF(i:Nat):T1:=λv s k=>k (s.set i v)
theorem Y0(i:Nat):RG K (WC i) (EF i):=⟨λv s Q Q' h q=>h _ q,λG s σ H v x Q r q h=>h G _ H (Z5.refl G) (r.set q i)⟩
abbrev Oc:=List PyData->DS->(DS->Prop)->Prop
structure Cs(K:Frag)(g:P_)(d:Oc):Prop where
 mo:∀v s (Q Q':DS->Prop),(∀s',Q s'->Q' s')->d v s Q->d v s Q'
 ok:∀G s σ H ds xs Q,Yw K G s σ H->ZE K G ds xs->d ds s (λs'=>∀G' σ' H',Z5 G G'->Yw K G' s' σ' H'->Q σ' H')->g xs σ H Q
def PM:Oc:=λds s k=>match ds with | []=>k s|_=>False
def Su(g:T1)(r:Oc):Oc:=λds s k=>match ds with|d::t=>g (.d d) s (λs1=>r t s1 k) | []=>False
theorem NN:Cs K Im PM:=by
 refine⟨λv s Q Q' h q=>?_,λG s σ H ds xs Q r D h=>?_⟩
 ·unfold PM at q |-;split at q
  ·exact h _ q
  ·exact q.elim
 ·unfold PM at h;split at h
  ·unfold ZE at D;exact⟨D,h G σ H (Z5.refl G) r⟩
  ·exact h.elim
theorem Sh{t:TG}{u:P_}{g:T1}{r:Oc}(h1:RG K t g)(h2:Cs K u r):Cs K (QZ t u) (Su g r):=by
 refine⟨λv s Q Q' h q=>?_,λG s σ H ds xs Q rl D h=>?_⟩
 ·unfold Su at q |-;split at q
  ·exact h1.mo _ _ _ _ (λs1 q=>h2.mo _ _ _ _ h q) q
  ·exact q.elim
 ·unfold Su at h;split at h
  ·unfold ZE at D
   obtain⟨x,t',rfl,D1,D2⟩:=D
   refine⟨x,t',rfl,h1.ok G s σ H (.d _) x _ rl D1 (h1.mo _ _ _ _ (λs1 q G1 σ1 H1 e1 r1=>?_) h)⟩
   exact h2.ok G1 s1 σ1 H1 _ t' _ r1 (D2.same e1) (h2.mo _ _ _ _ (λs2 q G2 σ2 H2 e2 r2=>q G2 σ2 H2 (e1.trans e2) r2) q)
  ·exact h.elim
def PN(n:Nat)(g:Oc):T1:=λv s k=>match v with | .d (.tuple ds)=>ds.length=n/\g ds s k|_=>False
theorem OO{n:Nat}{t:P_}{g:Oc}(h:Cs K t g):RG K (Kh K n t) (PN n g):=by
 refine⟨λv s Q Q' z q=>?_,λG s σ H v x Q r q z=>?_⟩
 ·unfold PN at q |-;split at q
  ·exact⟨q.1,h.mo _ _ _ _ z q.2⟩
  ·exact q.elim
 ·unfold PN at z;split at z
  ·obtain⟨a,xs,rfl,h1,h2⟩:=Sx q
   exact⟨a,xs,rfl,r.sub.tup h1,by rw[<- h2.length];exact z.1,h.ok G s σ H _ xs Q r h2 z.2⟩
  ·exact z.elim
def Rg(de:ZG):JS:=λacc s k=>de s λv s1=>match v with | .d x=>k (acc++[x]) s1|_=>False
theorem Tv{te:TE}{de:ZG}(h:RE K te de):RL K (R5 te) (Rg de):=by
 refine⟨λacc s Q Q' z q=>h.mo _ _ _ (λv s1 q=>?_) q,λG s σ H acc ys Q r D hl q=>⟨by rw[<- D.length];exact hl,h.ok G s σ H _ r (h.mo _ _ _ (λv s1 q G1 H1 x e1 r1 v1=>?_) q)⟩⟩
 ·split at q
  ·exact z _ _ q
  ·exact q.elim
 ·split at q
  ·exact q G1 σ H1 _ e1 r1 ((D.same e1).snoc v1)
  ·exact q.elim
def ext:List (Option Val)->List (Option Val)->Prop
 | [],[]=>True
 | none::r,_::t=>ext r t
 | some v::r,some u::t=>v=u/\ext r t
 | _,_=>False
theorem RZ:∀{e e':List (Option Val)}{i:Nat}{v:Val},ext e e'->e[i]? = some (some v)->e'[i]? = some (some v)
 | [],_,i,v,_,h=>by simp at h
 | none::r,[],i,v,h,_=>by simp[ext]at h
 | none::r,_::t,0,v,_,h=>by simp at h
 | none::r,_::t,i+1,v,h,q=>by
  simp only[tK]at q |-
  exact RZ (e:=r) h q
 | some u::r,[],i,v,h,_=>by simp[ext]at h
 | some u::r,none::t,i,v,h,_=>by simp[ext]at h
 | some u::r,some u'::t,0,v,h,q=>by
  simp only[tL]at q |-
  rw[<- h.1];exact q
 | some u::r,some u'::t,i+1,v,h,q=>by
  simp only[tK]at q |-
  exact RZ (e:=r) h.2 q
theorem R_:∀{e e':List (Option Val)},ext e e'->e.length=e'.length
 | [],[],_=>rfl
 | [],_::_,h=>by simp[ext]at h
 | none::r,[],h=>by simp[ext]at h
 | none::r,_::t,h=>by rw[uC,uC,R_ (e:=r) h]
 | some _::r,[],h=>by simp[ext]at h
 | some _::r,none::t,h=>by simp[ext]at h
 | some _::r,some _::t,h=>by rw[uC,uC,R_ (e:=r) h.2]
theorem Yw.ext{e:List (Option Val)}(r:Yw K G s σ H)(h:L2.ext e s.e):Yw K G ⟨e,s.w⟩ σ H:=
 ⟨r.sub,r.own,by rw[R_ h];exact r.sl.1,λi v q=>r.sl.2 i v (RZ h q)⟩
def GC(src:List PyData×(OW->Prop))(e0:List (Option Val))(dg:T1)(dt:Vt)(dl:JS)(k:List PyData->DS->Prop)(I:Nat->List PyData->OW->Prop):Prop:=
 (∀i acc w,I i acc w->src.2 w/\(i<src.1.length->acc.length<sizeLine)) /\
 (∀(i:Nat) d acc w,src.1[i]? = some d->I i acc w->dg (.d d) ⟨e0,w⟩ λs2=>dt s2 λb s3=>if b=true then dl acc s3 (λacc' s'=>L2.ext e0 s'.e/\I (i+1) acc' s'.w) else L2.ext e0 s3.e/\I (i+1) acc s3.w) /\
 ∀acc w,I src.1.length acc w->k acc ⟨e0,w⟩
theorem K6{J:It}{g:TG}{tt:TT}{tb:TL}{dg:T1}{dt:Vt}{dl:JS}{ds:List PyData}{P:OW->Prop}{e0:List (Option Val)}{Q:LK}{k:List PyData->DS->Prop}{I:Nat->List PyData->OW->Prop}{G1:Hp}(hg:RG K g dg)(ht:RT K tt dt)(hl:RL K tb dl)(hJ:Tp K J G1 P ds) 
  (hI:GC (ds,P) e0 dg dt dl k I) (hQ:∀G s σ H acc ys,Z5 G1 G->Yw K G s σ H->ZE K G acc ys->k acc s->Q ys σ H) {w:OW}{σ:St}{H:Hp}{acc:List PyData}{ys:List V} (r:Yw K G1 ⟨e0,w⟩ σ H) (D:ZE K G1 acc ys) (h0:I 0 acc w) :
  ∃W:Nat->List V->Nat->St->Hp->Prop,(∃m,W 0 ys m σ H)/\MY J g tt tb Q W:=by
 obtain⟨hI1,hI2,hI3⟩:=hI
 dsimp only at hI1 hI2 hI3
 refine⟨λi ys m σ H=>i+m=ds.length/\∃G w acc,Z5 G1 G/\Yw K G ⟨e0,w⟩ σ H/\ZE K G acc ys/\I i acc w,⟨ds.length,Nat.zero_add _,G1,w,acc,Z5.refl _,r,D,h0⟩,?_⟩
 rintro i ys m σ H ⟨hm,G,w,acc,e,r,D,hi⟩
 obtain⟨hp,hz⟩:=hI1 i acc w hi
 cases m with
 | zero=>
  have:i=ds.length:=by omega
  subst this
  exact .inl ⟨(hJ G _ σ H _ e hp r).2 (vU _),hQ G _ σ H acc ys e r D (hI3 acc w hi)⟩
 | succ m=>
  have hlt:i<ds.length:=by omega
  have hd:=JP hlt
  obtain⟨go,yl⟩:=(hJ G _ σ H i e hp r).1 _ hd
  refine .inr ⟨go,λys' σ' H'=>∃G' w' acc',Z5 G1 G'/\Yw K G' ⟨e0,w'⟩ σ' H'/\ZE K G' acc' ys'/\I (i+1) acc' w',λys' σ' H' ⟨G',s',acc',q⟩=>⟨m,uG m,by omega,G',s',acc',q⟩,λx H' hy=>?_⟩
  obtain⟨G',e',r',dx⟩:=yl x H' hy
  have hs:=hI2 i _ acc w hd hi
  refine hg.ok G' _ σ H' (.d _) x _ r' dx (hg.mo _ _ _ _ (λs2 q G2 σ2 H2 e2 r2=>?_) hs)
  refine ht.ok G2 s2 σ2 H2 _ r2 (ht.mo _ _ _ (λb s3 q G3 H3 e3 r3=>?_) q)
  have D3:=D.same ((e'.trans e2).trans e3)
  have E3:=((e.trans e').trans e2).trans e3
  cases b
  ·exact⟨G3,s3.w,acc,E3,r3.ext q.1,D3,q.2⟩
  ·exact hl.ok G3 s3 σ2 H3 acc ys _ r3 D3 (hz hlt) (hl.mo _ _ _ _ (λacc' s4 q G4 σ4 H4 ys4 e4 r4 D4=>⟨G4,s4.w,acc',E3.trans e4,r4.ext q.1,D4,q.2⟩) q)
def HN(di:S4)(dg:T1)(dt:Vt)(dl:JS):JS:=λacc s k=>di s λsrc s1=>∃I,I 0 acc s1.w/\GC src s1.e dg dt dl k I
def Nj(o:Bool)(di:S4)(cap:List (Option Nat))(dg:T1)(dt:Vt)(dl:JS):ZG:=λs k=>di s λsrc s1=>∃I,I 0 [] s1.w/\GC src (VY cap s1.e) dg dt dl (λacc s'=>nl o acc ⟨s1.e,s'.w⟩ k) I
theorem Tu(o:Bool){wi:TI}{cap:List (Option Nat)}{g:TG}{tt:TT}{tb:TL}{di:S4}{dg:T1}{dt:Vt}{dl:JS}(hi:RI K wi di)(hg:RG K g dg)(ht:RT K tt dt)(hl:RL K tb dl):RE K (R4 wi cap g tt tb) (Nj o di cap dg dt dl):=by
 refine⟨λs Q Q' z q=>hi.mo _ _ _ (λds s1 q=>?_) q,λG s σ H Q r q=>hi.ok G s σ H _ r (hi.mo _ _ _ (λds s1 q G1 H1 J e1 r1 hJ=>?_) q)⟩
 ·obtain⟨I,h0,h3,h1,h2⟩:=q
  exact⟨I,h0,h3,h1,λacc s h=>Sb z (h2 acc s h)⟩
 ·obtain⟨I,h0,hI⟩:=q
  refine K6 (w:=s1.w) hg ht hl hJ hI (λG2 s2 σ2 H2 acc2 ys2 e2 r2 D2 k2=>?_) (r1.env (r1.sl.capt cap)) ZE.nil h0
  exact(r2.env (r1.sl.same e2):Yw K G2 ⟨s1.e,s2.w⟩ σ H2).nl D2 (Sb (λv s' z=>z.same (e1.trans e2)) k2)
theorem NB{src:List PyData×(OW->Prop)}{e0:List (Option Val)}{dg:T1}{dt:Vt}{dl:JS}{k:List PyData->DS->Prop}{w:OW}{α:Type}(xs:List α)(enc:α->PyData)(g:α->List PyData)(acc0:List PyData)(hsrc:src.1=xs.map enc)(hp:src.2 w) 
  (hl:acc0.length+(xs.flatMap g).length<sizeLine)
  (hs:∀x∈xs,∀acc:List PyData,acc.length+(g x).length<sizeLine->∀Q:List PyData->OW->Prop,Q (acc++g x) w->dg (.d (enc x)) ⟨e0,w⟩ λs2=>dt s2 λb s3=>if b=true then dl acc s3 (λacc' s'=>L2.ext e0 s'.e/\Q acc' s'.w) else L2.ext e0 s3.e/\Q acc s3.w)
  (hk:k (acc0++xs.flatMap g) ⟨e0,w⟩):∃I:Nat->List PyData->OW->Prop,I 0 acc0 w/\GC src e0 dg dt dl k I:=by
 refine⟨λi acc w'=>acc=acc0++(xs.take i).flatMap g/\w'=w,⟨by simp,rfl⟩,?_,?_,?_⟩
 ·rintro i acc w' ⟨rfl,rfl⟩
  refine⟨hp,λhi=>?_⟩
  have hle:((xs.take i).flatMap g).length≤(xs.flatMap g).length:=by
   have:xs.flatMap g=(xs.take i).flatMap g++(xs.drop i).flatMap g:=by rw[<- tM,List.take_append_drop]
   rw[this,uX];omega
  rw[uX];omega
 ·rintro i d acc w' hd ⟨rfl,rfl⟩
  rw[hsrc,uV]at hd
  cases q:xs[i]? with
  | none=>rw[q]at hd;cases hd
  | some x=>
   rw[q]at hd;cases hd
   obtain⟨hi,hx⟩:=vH.mp q
   have ht:xs.take (i+1)=xs.take i++[x]:=by rw[List.take_add_one,q];rfl
   refine hs x (by rw[<- hx];exact xP hi) _ ?_ (λacc' w''=>acc'=acc0++(xs.take (i+1)).flatMap g/\w''=w') ⟨?_,rfl⟩
   ·have hle:((xs.take (i+1)).flatMap g).length≤(xs.flatMap g).length:=by
     have:xs.flatMap g=(xs.take (i+1)).flatMap g++(xs.drop (i+1)).flatMap g:=by rw[<- tM,List.take_append_drop]
     rw[this,uX];omega
    rw[ht,tM,uX]at hle
    simp only[List.flatMap_cons,List.flatMap_nil,uK]at hle
    rw[uX];omega
   ·rw[ht,tM,yK];simp
 ·rintro acc w' ⟨rfl,rfl⟩
  rw[hsrc,Uh,take_length]
  exact hk
def L6:Wd:=λE s=>E.nx s
def LA(t u:Wd):Wd:=λE s=>t { E with nx:=u E } s
theorem W5:RS K J6 L6:=λG s σ H D E r p q=>p.nx s G σ H (Z5.refl G) r q
theorem ZM{t u:TS}{d e:Wd}(h:RS K t d)(q:RS K u e):RS K (Hv t u) (LA d e):=by
 intro G s σ H D E r p z
 refine h G s σ H _ { E with nx:=e E } r ⟨λs' G' σ' H' e1 r1 z1=>?_,p.rt,p.bk,p.ct⟩ z
 exact q G' s' σ' H' D E r1 (p.same e1) z1
def Ln:Wd:=λE s=>E.bk s
def HF:Wd:=λE s=>E.ct s
def Lx(d:ZG):Wd:=λE s=>d s λ_ s1=>E.nx s1
theorem Hi{t:TE}{d:ZG}(h:RE K t d):RS K (NX t) (Lx d):=λG s σ H D E r p q=>
 h.ok G s σ H _ r (h.mo _ _ _ (λv s1 q G1 H1 x e1 r1 v1=>p.nx s1 G1 σ H1 e1 r1 q) q)
def G_(d:ZG):Wd:=λE s=>d s E.rt
theorem UJ{t:TE}{d:ZG}(h:RE K t d):RS K (Eu t) (G_ d):=λG s σ H D E r p q=>
 h.ok G s σ H _ r (h.mo _ _ _ (λv s1 q G1 H1 x e1 r1 v1=>p.rt v s1 G1 σ H1 x e1 r1 v1 q) q)
def HP:Wd:=λE s=>E.rt (.d .none) s
def Ic(c:Vt)(t u:Wd):Wd:=λE s=>c s λb s1=>if b=true then t E s1 else u E s1
theorem NQ{c:TT}{t u:TS}{dc:Vt}{d e:Wd}(hc:RT K c dc)(h:RS K t d)(q:RS K u e):RS K (Ht c t u) (Ic dc d e):=by
 intro G s σ H D E r p z
 refine hc.ok G s σ H _ r (hc.mo _ _ _ (λb s1 z G1 H1 e1 r1=>?_) z)
 cases b
 ·exact q G1 s1 σ H1 D E r1 (p.same e1) z
 ·exact h G1 s1 σ H1 D E r1 (p.same e1) z
def Mj(d:ZG)(g:T1):Wd:=λE s=>d s λv s1=>g v s1 E.nx
theorem VO{t:TE}{g:TG}{d:ZG}{dg:T1}(h:RE K t d)(hg:RG K g dg):RS K (PH t g) (Mj d dg):=λG s σ H D E r p q=>
 h.ok G s σ H _ r (h.mo _ _ _ (λv s1 q G1 H1 x e1 r1 v1=>hg.ok G1 s1 σ H1 v x _ r1 v1 (hg.mo _ _ _ _ (λs2 q G2 σ2 H2 e2 r2=>p.nx s2 G2 σ2 H2 (e1.trans e2) r2 q) q)) q)
def Ie(i j:Nat)(d:XN):Wd:=λE s=>d s λvs s1=>match vs with | [v,w]=>E.nx ((s1.set i v).set j w)|_=>False
theorem Jt{i j:Nat}{t:TA}{d:XN}(h:RA K t d):RS K (Et i j t) (Ie i j d):=λG s σ H D E r p q=>
 h.ok G s σ H _ r (h.mo _ _ _ (λvs s1 q G1 H1 xs e1 r1 v1=>by
  split at q
  ·obtain⟨x,y,rfl,v2,v3⟩:=v1.two
   exact⟨x,y,rfl,p.nx _ G1 _ H1 e1 ((r1.set v2 i).set v3 j) q⟩
  ·exact q.elim) q)
theorem Du{α:Type _}{l:List α}(h:l.length=0):l=[]:=List.eq_nil_of_length_eq_zero h
theorem UU{α:Type _}{l:List α}(h:l.length=1):∃a0,l=[a0]:=by
 cases l with
 | nil=>cases h
 | cons a t=>have:=Du (tN h);exact⟨a,by rw[this]⟩
theorem V4{α:Type _}{l:List α}(h:l.length=2):∃a0 a1,l=[a0,a1]:=by
 cases l with
 | nil=>cases h
 | cons a t=>obtain⟨b0,rfl⟩:=UU (tN h);exact⟨a,b0,rfl⟩
theorem TZ{α:Type _}{l:List α}(h:l.length=3):∃a0 a1 a2,l=[a0,a1,a2]:=by
 cases l with
 | nil=>cases h
 | cons a t=>obtain⟨b0,b1,rfl⟩:=V4 (tN h);exact⟨a,b0,b1,rfl⟩
theorem Dv{α:Type _}{l:List α}(h:l.length=4):∃a0 a1 a2 a3,l=[a0,a1,a2,a3]:=by
 cases l with
 | nil=>cases h
 | cons a t=>obtain⟨b0,b1,b2,rfl⟩:=TZ (tN h);exact⟨a,b0,b1,b2,rfl⟩
def WV(u:Wd)(E:XR)(s:DS):Prop:=u E s
theorem M4{u:Wd}{E:XR}{s:DS}(h:u E s):WV u E s:=h
theorem L3(c:Vt)(t u:Wd)(E:XR)(s:DS):Ic c t u E s=c s λb s1=>if b=true then WV t E s1 else WV u E s1:=rfl
theorem LB(t u:Wd)(E:XR)(s:DS):LA t u E s=t { E with nx:=WV u E } s:=rfl
def Gg(f:DS->Prop)(s:DS):Prop:=f s
theorem Pm(f:DS->Prop)(e:List (Option Val))(w:OW):Gg f ⟨e,w⟩=f ⟨e,w⟩:=rfl
def Bv(dg:T1)(v:Val)(db:Wd)(E:XR)(s:DS):Prop:=dg v s (db E)
theorem Kl(dg:T1)(v:Val)(db:Wd)(E:XR)(e:List (Option Val))(w:OW):Bv dg v db E ⟨e,w⟩=dg v ⟨e,w⟩ (db E):=rfl
def Bw(c:Vt)(db:Wd)(E F:XR)(s:DS):Prop:=c s λb s1=>if b=true then db F s1 else E.nx s1
theorem Km(c:Vt)(db:Wd)(E F:XR)(e:List (Option Val))(w:OW):Bw c db E F ⟨e,w⟩=c ⟨e,w⟩ λb s1=>if b=true then db F s1 else E.nx s1:=rfl
theorem Gd{α:Sort _}(a b:α):(if true=true then a else b)=a:=rfl
theorem Gb{α:Sort _}(a b:α):(if false=true then a else b)=b:=rfl
def GU(di:S4)(dg:T1)(db:Wd):Wd:=λE s=>di s λsrc s1=>∃I:Nat->DS->Prop,I 0 s1/\(∀i s,I i s->src.2 s.w) /\
 (∀(i:Nat) d s,src.1[i]? = some d->I i s->Bv dg (.d d) db { E with nx:=I (i+1),ct:=I (i+1),bk:=E.nx } s)/\∀s,I src.1.length s->Gg E.nx s
theorem Sj{wi:TI}{g:TG}{tb:TS}{di:S4}{dg:T1}{db:Wd}(hi:RI K wi di)(hg:RG K g dg)(hb:RS K tb db):RS K (Eo wi g tb) (GU di dg db):=by
 intro G s σ H D E r p z
 refine hi.ok G s σ H _ r (hi.mo _ _ _ (λsrc s1 z G1 H1 J e1 r1 hJ=>?_) z)
 obtain⟨ds,P⟩:=src
 obtain⟨I,h0,h3,h1,h2⟩:=z
 dsimp only at hJ h3 h1 h2
 refine⟨λi m σ H=>i+m=ds.length/\∃G s,Z5 G1 G/\Yw K G s σ H/\I i s,⟨ds.length,Nat.zero_add _,G1,s1,Z5.refl _,r1,h0⟩,?_⟩
 rintro i m σ H ⟨hm,G,s,e,r,hI⟩
 cases m with
 | zero=>
  have:i=ds.length:=by omega
  subst this
  exact .inl ⟨(hJ G s σ H _ e (h3 _ _ hI) r).2 (vU _),p.nx s G σ H (e1.trans e) r (h2 s hI)⟩
 | succ m=>
  have hlt:i<ds.length:=by omega
  have hd:=JP hlt
  obtain⟨go,yl⟩:=(hJ G s σ H i e (h3 _ _ hI) r).1 _ hd
  refine .inr ⟨go,λσ' H'=>∃G' s',Z5 G1 G'/\Yw K G' s' σ' H'/\I (i+1) s',λσ' H' ⟨G',s',q⟩=>⟨m,uG m,by omega,G',s',q⟩,λx H' hy=>?_⟩
  obtain⟨G',e',r',dx⟩:=yl x H' hy
  refine hg.ok G' s σ H' (.d _) x _ r' dx (hg.mo _ _ _ _ (λs2 q G2 σ2 H2 e2 r2=>?_) (h1 i _ s hd hI))
  have E2:=(e.trans e').trans e2
  exact hb G2 s2 σ2 H2 _ { E with nx:=I (i+1),ct:=I (i+1),bk:=E.nx } r2 ⟨λs' G3 σ3 H3 e3 r3 z=>⟨G3,s',E2.trans e3,r3,z⟩,λv s' G3 σ3 H3 x e3=>p.rt v s' G3 σ3 H3 x ((e1.trans E2).trans e3),λs' G3 σ3 H3 e3=>p.nx s' G3 σ3 H3 ((e1.trans E2).trans e3),λs' G3 σ3 H3 e3 r3 z=>⟨G3,s',E2.trans e3,r3,z⟩⟩ q
def LD(c:Vt)(db:Wd):Wd:=λE s=>∃I:Nat->DS->Prop,(∃m,I m s)/\∀m s,I m s->Bw c db E { E with nx:=λs'=>∃m',m' < m/\I m' s',ct:=λs'=>∃m',m' < m/\I m' s',bk:=E.nx } s
abbrev WH:=List Val->OW->(Val->OW->Prop)->Prop
def V7(K:Frag)(f:WH):Sp:=λvs H Q _=>∃(G:Hp) (w:OW) (as:List Val),Z5 G H/\YN K G w H/\VRs K G as vs/\f as w (λv w'=>∀G' H' x,Z5 G G'->Z5 G' H'->YN K G' w' H'->VR K G' v x->Q x H')
def Lo(f:WH)(da:XN):ZG:=λs k=>da s λvs s1=>f vs s1.w (λv w'=>k v ⟨s1.e,w'⟩)
def MZ(f:WH):Prop:=∀vs w (k k':Val->OW->Prop),(∀v w',k v w'->k' v w')->f vs w k->f vs w k'
theorem X2{f:WH}{t:TA}{da:XN}(hm:MZ f)(ha:RA K t da):RE K (R3 (V7 K f) [] E0 t) (Lo f da):=by
 refine⟨λs Q Q' z q=>ha.mo _ _ _ (λvs s1 q=>hm vs s1.w _ _ (λv w' q=>z _ _ q) q) q,λG s σ H Q r q=>ha.ok G s σ H _ r (ha.mo _ _ _ (λvs s1 q G1 H1 xs e1 r1 v1=>?_) q)⟩
 refine⟨G1,s1.w,vs,r1.sub,r1.own,by rw[uK];exact v1,hm vs s1.w _ _ (λv w' q G2 H2 x e2 s2 o2 x2=>?_) q⟩
 exact q G2 H2 x (e1.trans e2) ⟨s2,o2,r1.sl.same e2⟩ x2
theorem VRs.get{vs:List Val}{xs:List V}(h:VRs K G vs xs)(i:Nat):(∃v x,vs[i]? = some v/\xs[i]? = some x/\VR K G v x)\/(vs[i]? = none/\xs[i]? = none):=by
 induction h generalizing i with
 | nil=>exact .inr ⟨rfl,rfl⟩
 | cons a t ih=>
  cases i with
  | zero=>exact .inl ⟨_,_,rfl,rfl,a⟩
  | succ i=>simpa using ih i
theorem VRs.pick{na nk:Nat}{pick:List (Bool×Nat)}{vs us:List Val}{xs ys:List V}(h:VRs K G vs xs)(q:VRs K G us ys):VRs K G (Ki na nk pick vs us) (Ki na nk pick xs ys):=by
 unfold Ki
 rw[h.length,q.length]
 split
 ·induction pick with
  | nil=>exact .nil
  | cons p t ih=>
   rw[vA,vA]
   cases p.1 with
   | true=>
    rcases h.get p.2 with ⟨a,b,e1,e2,z⟩|⟨e1,e2⟩
    ·simp only[yD,e1,e2];exact .cons z ih
    ·simp only[yD,e1,e2];exact ih
   | false=>
    rcases q.get p.2 with ⟨a,b,e1,e2,z⟩|⟨e1,e2⟩
    ·simp only[wR,wS,e1,e2];exact .cons z ih
    ·simp only[wR,wS,e1,e2];exact ih
 ·exact .nil
def Lq(f:WH)(na nk:Nat)(pick:List (Bool×Nat))(da dk:XN):ZG:=λs k=>da s λvs s1=>dk s1 λus s2=>f (Ki na nk pick vs us) s2.w (λv w'=>k v ⟨s2.e,w'⟩)
def Yk(N:List Str)(as:List Val):List (Option Val):=as.map some++List.replicate (N.length-as.length) none
theorem Xr{N:List Str}{as:List Val}{vs:List V}(h:VRs K G as vs):SL K G (Yk N as) (YA N vs):=by
 refine⟨by simp[Yk,YA,h.length],λi v e=>?_⟩
 unfold Yk at e
 have hl:i<as.length:=by
  refine Decidable.byContradiction λhn=>?_
  rw[List.getElem?_append_right (by simpa using Nat.le_of_not_lt hn)]at e
  obtain⟨_,e2⟩:=vH.mp e
  rw[List.getElem_replicate]at e2
  cases e2
 rw[uU (by simpa using hl),uV]at e
 rcases h.get i with ⟨a,x,e1,e2,r⟩|⟨e1,e2⟩
 ·rw[e1]at e
  cases e
  refine⟨x,?_,r⟩
  unfold YA
  rw[uU (by rw[Uh,<- h.length];exact hl),uV,e2];rfl
 ·rw[e1]at e;cases e
def Own.up:Own->Own->Prop
 | .urn m',.urn m=>m'≤m
 | o',o=>o'=o
theorem Own.up.refl(o:Own):Own.up o o:=by cases o<;>simp[Own.up]
theorem Own.up.trans{a b c:Own}(h:Own.up a b)(q:Own.up b c):Own.up a c:=by
 cases a<;>cases b<;>cases c<;>simp_all [Own.up]
 omega
def OW.le(w w':OW):Prop:=∀a o,w a=some o->∃o',w' a=some o'/\Own.up o' o
theorem OW.le.refl(w:OW):w.le w:=λ_ o h=>⟨o,h,Own.up.refl o⟩
theorem OW.le.trans{a b c:OW}(h:a.le b)(q:b.le c):a.le c:=λx o e=>by
 obtain⟨o1,e1,u1⟩:=h x o e
 obtain⟨o2,e2,u2⟩:=q x o1 e1
 exact⟨o2,e2,u2.trans u1⟩
theorem OW.le.free{w w':OW}(h:w.le w'){p:Addr}(q:w' p=none):w p=none:=by
 cases e:w p with
 | none=>rfl
 | some o=>obtain⟨o',e1,_⟩:=h p o e;rw[e1]at q;cases q
theorem OW.le.put{w w':OW}(h:w.le w'){p:Addr}(q:w p=none)(o:Own):w.le (w'.put p o):=λa u e=>by
 have n:a≠p:=λz=>by rw[z,q]at e;cases e
 rw[OW.put_ne n];exact h a u e
theorem OW.le.new{w w':OW}(h:w.le w'){p:Addr}(q:w' p=none)(o:Own):w.le (w'.put p o):=h.put (h.free q) o
theorem OW.le.urn{w w':OW}{u:Addr}{m m':Nat}(h:(w.put u (.urn m)).le w')(le:m≤m'):(w.put u (.urn m')).le w':=λa o e=>by
 by_cases z:a=u
 ·subst z
  rw[OW.put_same]at e;cases e
  obtain⟨o1,e1,u1⟩:=h a _ OW.put_same
  refine⟨o1,e1,?_⟩
  cases o1<;>simp[Own.up]at u1 |-
  omega
 ·rw[OW.put_ne z]at e
  exact h a o (by rw[OW.put_ne z];exact e)
theorem OW.le.urn'{w w':OW}{u:Addr}{m m':Nat}(h:w.le w')(le:m≤m'):(w.put u (.urn m')).le (w'.put u (.urn m)):=λa o e=>by
 by_cases z:a=u
 ·subst z
  rw[OW.put_same]at e;cases e
  exact⟨_,OW.put_same,le⟩
 ·rw[OW.put_ne z]at e |-
  exact h a o e
def OW.del(w:OW)(a:Addr):OW:=λb=>if b=a then none else w b
theorem OW.del_ne{w:OW}{a b:Addr}(h:b≠a):w.del a b=w b:=by simp[OW.del,h]
theorem OW.le.del{w w':OW}(h:w.le w'){p:Addr}(q:w p=none):w.le (w'.del p):=λa u e=>by
 have n:a≠p:=λz=>by rw[z,q]at e;cases e
 rw[OW.del_ne n];exact h a u e
theorem We.up{a:Addr}{o o':Own}(h:We K G H a o')(u:Own.up o' o):We K G H a o:=by
 cases o'<;>cases o<;>simp only[Own.up]at u<;>first|exact Me.mono h u|(cases u;exact h)|cases u
theorem YN.le{w w':OW}(h:YN K G w' H)(q:w.le w'):YN K G w H:=λa o e=>by
 obtain⟨o',e1,u⟩:=q a o e
 exact⟨(h a o' e1).1,(h a o' e1).2.up u⟩
theorem Dn.data{P:Program}{w:World}{mg:Str->Option Value}{base:Heap}{x:Str}{st:Stmt}{N ps:List Str}{k:Nat}{f:WH}(U:∃a fd,VQ K x x st a fd/\mg x=some (.ref a))(S:Z8 N ps (Zg st))(len:∀vs w k,f vs w k->vs.length=ps.length) 
  (hbody:∀(a:Addr) (cdv:Value) (A:Around) (outer:List Env) (s:Shared) (H:Hp) (E:XK),Yg k (A.deeper (envOfC x (Zg st) s.heap.objs.size a cdv)) ->
   ∃t d,VS (Xi S0 P w K mg base N x (Zg st) a cdv A outer s H E).nox (ZQ st) t/\RS K t d/\∀(as:List Val) (o:OW) (q:Val->OW->Prop),f as o q->d { nx:=λs=>∃w',OW.le w' s.w/\q (.d .none) w',rt:=λv s=>∃w',OW.le w' s.w/\q v w' } ⟨Yk N as,o⟩):Dn P w K mg base (k+1) x st ps (V7 K f):=by
 refine Dn.of U S (λvs H Q E h=>?_) (λa cdv A outer s H vs Q E hr h=>?_)
 ·obtain⟨G,o,as,_,_,h1,h2⟩:=h
  rw[<- h1.length];exact len _ _ _ h2
 ·obtain⟨G,o,as,h1,h2,h3,h4⟩:=h
  obtain⟨t,d,q1,q2,q3⟩:=hbody a cdv A outer s H E hr
  refine⟨t,q1,q2 G ⟨Yk N as,o⟩ (YA N vs) H _ { nx:=λs=>∃w',OW.le w' s.w/\_,rt:=λv s=>∃w',OW.le w' s.w/\_ } ⟨h1,h2,Xr h3⟩ ⟨λs' G' σ' H' e r z=>?_,λv s' G' σ' H' x e r v1 z=>?_,λ_ _ _ _ _ _ z=>False.elim z,λ_ _ _ _ _ _ z=>False.elim z⟩ (q3 as o _ h4)⟩
  ·obtain⟨w',l,z⟩:=z
   exact z G' H' .non e r.sub (r.own.le l) WA
  ·obtain⟨w',l,z⟩:=z
   exact z G' H' x e r.sub (r.own.le l) v1
end
section
variable {X:Cx}{K:Frag}{G G' H H':Hp}{s:DS}{σ:St}
def CJ(K:Frag)(H:Hp)(x:V)(t:Value):Prop:=TyOf K H x t\/∃a ys,x=.ref a/\X7 K H a ys/\t=.type "tuple"
theorem YZ:YE X (.builtin "isinstance") (λxs H Q=>∃x t c b,xs=[x,.ty c]/\CJ X.K H x t/\PySem.W.kitOne X.K t (.type c)=some b/\Q (.bl b) H):=by
 rintro pins s σ H xs us Q I r ⟨x,t,c,b,rfl,ty,e,q⟩
 rcases ty with ty|⟨a,ys,rfl,hs,rfl⟩
 ·exact Li pins s σ H _ us Q I r ⟨x,t,c,b,rfl,ty,e,q⟩
 ·obtain⟨u,w,rfl,rx,rc⟩:=Mb r
  cases (show w=Value.type c from rc)
  cases (show u=Value.ref a from rx)
  obtain⟨its,_,⟨o,h1,h2,_⟩,_⟩:=I.tuple hs
  exact uJ PySem.W.kitx_tuple I.kIn ⟨o,h1,h2⟩ e (λz=>nomatch z) λtk=>⟨.bl b,H,I.tok _,rfl,q⟩
theorem E4(r:Yw K G s σ H){v:Val}{x:V}{d:PyData}(q:VR K G v x)(e:rdD s.w v=some d):CJ K H x (.type (Xs d)):=by
 unfold rdD at e
 split at e
 ·cases e
  cases d with
  | none=>rw[show x=.non from by unfold VR at q;exact DW.none_inv q];exact .inl .non
  | bool b=>rw[U_ q];exact .inl (.bl b)
  | int i=>rw[Ye q];exact .inl (.int i)
  | str x=>rw[YL q];exact .inl (.str x)
  | list ds=>obtain⟨a,xs,rfl,h1,_⟩:=UN q;exact .inl (.lst (r.sub _ _ h1))
  | tuple ds=>obtain⟨a,xs,rfl,h1,_⟩:=Sx q;exact .inr ⟨a,xs,rfl,r.sub.tup h1,rfl⟩
  | dict kvs=>
   unfold VR DW at q
   obtain⟨a,ks,rfl,h1,_⟩:=q
   exact .inl (.dT (r.sub _ _ h1))
 ·next a=>
  split at e
  ·next z=>
   cases e
   cases (show x=.ref a from q)
   obtain⟨_,xs,h1,_⟩:=r.own a _ z
   exact .inl (.lst h1)
  ·cases e
 ·cases e
theorem Qn:RC K (λxs H Q=>∃x t c b,xs=[x,.ty c]/\CJ K H x t/\PySem.W.kitOne K t (.type c)=some b/\Q (.bl b) H) (f2 LW):=by
 refine Be (λv w s Q Q' h q=>?_) (λG s σ H x y v w Q r v1 v2 h=>?_)
 ·unfold LW at q |-;split at q
  ·obtain⟨b,h1,h2⟩:=q;exact⟨b,h1,h _ _ h2⟩
  ·exact q.elim
 ·unfold LW at h;split at h
  ·next d c e=>
   obtain⟨b,h1,h2⟩:=h
   cases (show y=.ty c from v2)
   exact⟨x,_,c,b,rfl,E4 r v1 e,h1 K,h2.here r Xu⟩
  ·exact h.elim
theorem Hz(r:Yw K G s σ H){a:Addr}{ds:List PyData}(h:s.w a=some (.lst ds)):Bl K "list" (.ref a) H:=by
 obtain⟨_,xs,h1,_⟩:=r.own a _ h
 exact .inl ⟨rfl,xs,Xg.of h1⟩
def GR(d:ZG)(da:XN):ZG:=λs k=>d s λv s1=>match v with
 | .own a=>(∃ds,s1.w a=some (.lst ds))/\da s1 λvs s2=>match vs with
  | [.d y]=>∃ds,s2.w a=some (.lst ds)/\ds.length<sizeLine/\k (.d .none) (s2.put a (.lst (ds++[y])))
  | _=>False
 | _=>False
theorem Je{to:TE}{t:TA}{d:ZG}{da:XN}(h:RE K to d)(ha:RA K t da):RE K (C8 K "list" NK to t) (GR d da):=by
 refine⟨λs Q Q' z q=>h.mo _ _ _ (λv s1 q=>?_) q,λG s σ H Q r q=>h.ok G s σ H _ r (h.mo _ _ _ (λv s1 q G1 H1 x e1 r1 v1=>?_) q)⟩
 ·split at q
  ·refine⟨q.1,ha.mo _ _ _ (λvs s2 q=>?_) q.2⟩
   split at q
   ·obtain⟨ds,h1,h2,h3⟩:=q;exact⟨ds,h1,h2,z _ _ h3⟩
   ·exact q.elim
  ·exact q.elim
 ·split at q
  ·next a=>
   cases (show x=.ref a from v1)
   obtain⟨⟨ds0,h0⟩,q⟩:=q
   refine⟨Hz r1 h0,ha.ok G1 s1 σ H1 _ r1 (ha.mo _ _ _ (λvs s2 q G2 H2 xs e2 r2 v2=>?_) q)⟩
   split at q
   ·next y=>
    obtain⟨u,rfl,vy⟩:=v2.one
    obtain⟨ds,h1,h2,h3⟩:=q
    obtain⟨_,ys,h4,h5⟩:=r2.own a _ h1
    refine⟨a,ys,u,rfl,rfl,h4,by rw[<- h5.length];exact h2,h3 G2 _ .non (e1.trans e2) (r2.chg h1 ?_) WA⟩
    exact⟨ys++[u],Zw,h5.snoc vy⟩
   ·exact q.elim
  ·exact q.elim
def EW(d:ZG)(da:XN):ZG:=λs k=>d s λv s1=>match v with
 | .own a=>(∃ds,s1.w a=some (.lst ds))/\da s1 λvs s2=>match vs with
  | [u]=>∃ds es,s2.w a=some (.lst ds)/\rdM s2.w u=some es/\ds.length+es.length≤sizeLine/\k (.d .none) (s2.put a (.lst (ds++es)))
  | _=>False
 | _=>False
def HE(f:Int->Int->Int)(i:Nat)(d:ZG):Wd:=λE s=>match s.e[i]? with
 | some (some (.d (.int a)))=>d s λv s1=>match v with | .d (.int b)=>E.nx (s1.set i (.d (.int (f a b))))|_=>False
 | _=>False
def Lz(i:Nat):ZG:=λs k=>match s.e[i]? with
 | some (some (.own a))=>∃ds,s.w a=some (.lst ds)/\k (.d (.list ds)) ⟨s.e.set i (some (.d (.list ds))),s.w.del a⟩
 | _=>False
theorem SJ{α:Type}{l:List α}{i:Nat}{x:α}(h:l[i]? = some x):l.set i x=l:=by
 obtain⟨hi,e⟩:=vH.mp h
 rw[<- e];exact List.set_getElem_self hi
theorem Eb(i:Nat):RE K (Q5 i) (Lz i):=by
 refine⟨λs Q Q' h q=>?_,λG s σ H Q r h=>?_⟩
 ·unfold Lz at q |-;split at q
  ·obtain⟨ds,h1,h2⟩:=q;exact⟨ds,h1,h _ _ h2⟩
  ·exact q.elim
 ·unfold Lz at h;split at h
  ·next a z=>
   obtain⟨ds,h1,h2⟩:=h
   obtain⟨x,hx,vx⟩:=r.sl.2 i _ z
   cases (show x=.ref a from vx)
   obtain⟨g0,xs,h3,h4⟩:=r.own a _ h1
   have S:=Yv g0 (.lst xs)
   have D:DW K (upd G a (.lst xs)) (.list ds) (.ref a):=DW.list Zw (h4.same S)
   refine⟨_,hx,h2 (upd G a (.lst xs)) H (.ref a) S ⟨λb o q=>?_,λb o q=>?_,?_⟩ D⟩
   ·by_cases e:b=a
    ·subst e;rw[Zw]at q;cases q;exact h3
    ·rw[Zi e]at q;exact r.sub _ _ q
   ·have nb:b≠a:=λe=>by
     have q':(if b=a then none else s.w b)=some o:=q
     rw[zJ e]at q';cases q'
    have q':s.w b=some o:=by
     have q':(if b=a then none else s.w b)=some o:=q
     rwa [wH nb]at q'
    exact⟨by rw[Zi nb];exact(r.own b o q').1,(r.own b o q').2.mono S rfl⟩
   ·have:=(r.sl.same S).set (v:=.d (.list ds)) (x:=.ref a) D i
    rwa [SJ hx]at this
  ·exact h.elim
theorem Vi{es:List Expr}{k:Nat}{t:P_}{n:Nat}{pos:Pos}(h:X.K=K)(hc:X.calm=true)(hh:IPGs X es t)(hn:(assignEach es X.env).length=n:=by rfl)(hst:(assignEach es X.env).findIdx? (·.1)=none:=by rfl):IPG X (.Tuple es k pos) (Kh K n t):=h▸Y_ hc hh hn hst
def Dm(t:Bool):Val->ZG:=λv s k=>match (if t then rdT v else rdL s.w v) with|some ds=>(match SU ds with|some ns=>ns≠[]/\∀m,m∈ns->(∀x∈ns,x≤m)->k (.d (.int m)) s|none=>False)|none=>False
def Dp(t:Bool):Val->ZG:=λv s k=>match (if t then rdT v else rdL s.w v) with|some ds=>(match SU ds with|some ns=>ns≠[]/\∀m,m∈ns->(∀x∈ns,m≤x)->k (.d (.int m)) s|none=>False)|none=>False
def HW:Val->ZG:=λv s k=>match v with | .d (.int i)=>k (.d (.int i)) s | .d (.bool b)=>k (.d (.int (if b then 1 else 0))) s|_=>False
def XX(P:List Val->PyData->Prop):WH:=λvs w k=>∃r,P vs r/\k (.d r) w
theorem Uj{P:List Val->PyData->Prop}:MZ (XX P):=λvs w k k' h ⟨r,p,q⟩=>⟨r,p,h _ _ q⟩
def UM(c:Nat)(P:List Val->Prop)(R:List Val->PyData->Prop):WH:=λvs w k=>match vs with
 | .own u::as=>∃m,w u=some (.urn m)/\(m+c≤1000000/\P as)/\∀r,R as r->k (.d r) (w.put u (.urn (m+c)))
 | _=>False
theorem P1{c:Nat}{P:List Val->Prop}{R:List Val->PyData->Prop}:MZ (UM c P R):=λvs w k k' h q=>by
 unfold UM at q |-;split at q
 ·obtain⟨m,h1,h2,h3⟩:=q;exact⟨m,h1,h2,λr hr=>h _ _ (h3 r hr)⟩
 ·exact q.elim
theorem Y8{P:List Val->PyData->Prop}{n:Nat}(h:∀vs r,P vs r->vs.length=n):∀vs w k,XX P vs w k->vs.length=n:=λvs w k ⟨r,p,_⟩=>h vs r p
theorem Vr{c:Nat}{P:List Val->Prop}{R:List Val->PyData->Prop}{n:Nat}(h:∀vs,P vs->vs.length=n):∀vs w k,UM c P R vs w k->vs.length=n+1:=λvs w k q=>by
 unfold UM at q;split at q
 ·obtain⟨m,_,⟨_,p⟩,_⟩:=q;simp[h _ p]
 ·exact q.elim
def J1(K:Frag):Sp:=λvs H Q _=>∃(a:Addr) (ns:List Int),vs=[.ref a]/\Xg K H a (ns.map V.int)/\ns.length≤63/\∀H',Q (.bl true) H'
theorem K0{P:Program}{w:World}{mg:Str->Option Value}{base:Heap}{st:Stmt}{N:List Str}{fa:Addr}{fd:FuncData}(F:VQ K "law" "law" st fa fd)(S:Z8 N ["_law_script"] (Zg st)) 
  (hbody:∀(cdv:Value) (A:Around) (outer:List Env) (s:Shared) (H:Hp) (E:XK),Yg 39 (A.deeper (envOfC "law" (Zg st) s.heap.objs.size fa cdv)) ->
   ∃t d,VS (Xi S0 P w K mg base N "law" (Zg st) fa cdv A outer s H E).nox (ZQ st) t/\RS K t d/\∀ns:List Int,ns.length≤63->d { nx:=λ_=>False,rt:=λv _=>v=.d (.bool true) } ⟨Yk N [.scr ns],λ_=>none⟩):Xv P w K mg base S0 40 fa fd ["_law_script"] (J1 K):=by
 refine F.ok (k:=39) S (λvs H Q E h=>?_) (λcdv A outer s H vs Q E hr h=>?_)
 ·obtain⟨a,ns,rfl,_⟩:=h;rfl
 ·obtain⟨a,ns,rfl,hS,h63,q⟩:=h
  obtain⟨t,d,q1,q2,q3⟩:=hbody cdv A outer s H E hr
  refine⟨t,q1,q2 H ⟨Yk N [.scr ns],λ_=>none⟩ (YA N [.ref a]) H _ { nx:=λ_=>False,rt:=λv _=>v=.d (.bool true) } ⟨Z5.refl H,(λ_ _ z=>nomatch z),Xr (VRs.cons (v:=.scr ns) (show VR K H (.scr ns) (.ref a) from⟨a,rfl,hS⟩) .nil)⟩ ⟨λ_ _ _ _ _ _ z=>False.elim z,λv s' G' σ' H' x e r v1 z=>?_,λ_ _ _ _ _ _ z=>False.elim z,λ_ _ _ _ _ _ z=>False.elim z⟩ (q3 ns h63)⟩
  have z':v=.d (.bool true):=z
  subst z'
  rw[U_ v1]
  exact q H'
def QP:WH:=λvs w k=>match vs with
 | [.scr ns,.d (.int i)]=>(0≤i/\i≤100)/\∀r,w r=none->k (.own r) (w.put r (.urn 0))
 | _=>False
def U8:WH:=λvs w k=>match vs with
 | [.own u,.d (.int wd)]=>∃m,w u=some (.urn m)/\(m≤1000000/\0<wd/\wd<1099511627776)/\∀d:Int,0≤d->d<wd->k (.d (.int d)) (w.put u (.urn (m+1)))
 | _=>False
theorem IA:MZ QP:=λvs w k k' h q=>by
 unfold QP at q |-;split at q
 ·exact⟨q.1,λr hr=>h _ _ (q.2 r hr)⟩
 ·exact q.elim
theorem Pz:MZ U8:=λvs w k k' h q=>by
 unfold U8 at q |-;split at q
 ·obtain⟨m,h1,h2,h3⟩:=q;exact⟨m,h1,h2,λd a b=>h _ _ (h3 d a b)⟩
 ·exact q.elim
theorem H0{vs:List V}{Q:VK}{E:XK}(h:V7 K QP vs H Q E):G6 K vs H Q E:=by
 obtain⟨G,w,as,h1,h2,h3,h4⟩:=h
 unfold QP at h4
 split at h4
 ·next ns i=>
  obtain⟨x,y,rfl,v1,v2⟩:=h3.two
  obtain⟨a,rfl,hs⟩:=v1
  refine⟨a,ns,i,by rw[Ye v2],h1.seq hs,h4.1.1,h4.1.2,λr H' s' hr U=>?_⟩
  have r0:Yw K G ⟨[],w⟩ [] H:=⟨h1,h2,⟨rfl,λi v e=>by simp at e⟩⟩
  have wr:w r=none:=r0.free hr
  refine h4.2 r wr G H' (.ref r) (Z5.refl G) (h1.trans s') (λb o q=>?_) rfl
  by_cases e:b=r
  ·subst e
   rw[OW.put_same]at q;cases q
   exact⟨h1.free hr,U⟩
  ·rw[OW.put_ne e]at q
   obtain⟨u,hu⟩:=(h2 b o q).2.there
   exact⟨(h2 b o q).1,(h2 b o q).2.mono (Z5.refl G) (by rw[s' _ _ hu,hu])⟩
 ·exact h4.elim
theorem LI{vs:List V}{Q:VK}{E:XK}(h:V7 K U8 vs H Q E):J0 vs H Q E:=by
 obtain⟨G,w,as,h1,h2,h3,h4⟩:=h
 unfold U8 at h4
 split at h4
 ·next u wd=>
  obtain⟨x,y,rfl,v1,v2⟩:=h3.two
  cases (show x=.ref u from v1)
  obtain⟨m,hm,⟨m1,m2,m3⟩,q⟩:=h4
  obtain⟨gu,U⟩:=h2 u _ hm
  refine⟨u,wd,m,by rw[Ye v2],U,m1,m2,m3,λd H' d0 d1 sb U'=>?_⟩
  refine q d d0 d1 G H' (.int d) (Z5.refl G) (λb o z=>?_) (λb o z=>?_) W9
  ·exact sb b o (λe=>by rw[e,gu]at z;cases z) (h1 _ _ z)
  ·by_cases e:b=u
   ·subst e
    rw[OW.put_same]at z;cases z
    exact⟨gu,U'⟩
   ·rw[OW.put_ne e]at z
    obtain⟨v,hv⟩:=(h2 b o z).2.there
    exact⟨(h2 b o z).1,(h2 b o z).2.mono (Z5.refl G) (by rw[sb b v e hv,hv])⟩
 ·exact h4.elim
theorem Dn.imp{P:Program}{w:World}{mg:Str->Option Value}{base:Heap}{k:Nat}{x:Str}{st:Stmt}{ps:List Str}{sp sp':Sp}(D:Dn P w K mg base k x st ps sp)(h:∀vs H Q E,sp' vs H Q E->sp vs H Q E):Dn P w K mg base k x st ps sp':=by
 obtain⟨f,fd,F,U,m⟩:=D.ex
 exact⟨f,fd,F.imp h,U,m⟩
theorem Dn.mono{P:Program}{w:World}{mg:Str->Option Value}{base:Heap}{j k:Nat}{x:Str}{st:Stmt}{ps:List Str}{sp:Sp}(D:Dn P w K mg base j x st ps sp)(h:j≤k):Dn P w K mg base k x st ps sp:=by
 obtain⟨f,fd,F,U,m⟩:=D.ex
 exact⟨f,fd,F.mono h,U,m⟩
end
def RP(kvs:List (List Int×PyData))(k:List Int):Option PyData:=(kvs.find? λp=>decide (p.1=k)).map (·.2)
def LH(kvs:List (List Int×PyData))(k:List Int)(v:PyData):List (List Int×PyData):=
 if(kvs.any λp=>decide (p.1=k))=true then kvs.map (λp=>if p.1=k then(p.1,v) else p) else kvs++[(k,v)]
section
variable {K:Frag}{G G' H H':Hp}{s:DS}{σ:St}
theorem Qg{a b:List Int}:a.map (Sum.inl:Int->YM)=b.map Sum.inl↔a=b:=
 ⟨λh=>tO (λ_ _ e=>Sum.inl.inj e) |>.mp h,λh=>by rw[h]⟩
theorem Xc:∀{kvs:List (List Int×PyData)}{ks:List (List YM×V)},Xj K G (Ue kvs) ks ->
  (kvs=[]/\ks=[])\/∃k d r x t,kvs=(k,d)::r/\ks=(k.map Sum.inl,x)::t/\DW K G d x/\Xj K G (Ue r) t
 | [],ks,h=>by
  unfold Ue at h
  rw[map_nil]at h
  unfold Xj at h
  exact .inl ⟨rfl,h⟩
 | (k,d)::r,ks,h=>by
  unfold Ue at h
  rw[uE]at h
  unfold Xj at h
  obtain⟨ns,x,t,e1,e2,h1,h2⟩:=h
  have e:k=ns:=by
   unfold tI at e2
   have:=PyData.tuple.inj e2
   exact(tO (λ_ _ e=>PyData.int.inj e)).mp this
  subst e
  exact .inr ⟨k,d,r,x,t,rfl,e1,h1,h2⟩
theorem Xj.cons'{k:List Int}{d:PyData}{r:List (List Int×PyData)}{x:V}{t:List (List YM×V)}(h1:DW K G d x)(h2:Xj K G (Ue r) t):Xj K G (Ue ((k,d)::r)) ((k.map Sum.inl,x)::t):=by
 show Xj K G ((tI k,d)::Ue r) _
 unfold Xj
 exact⟨k,x,t,rfl,rfl,h1,h2⟩
theorem Xj.nil':Xj K G (Ue []) []:=by
 show Xj K G [] []
 unfold Xj;rfl
theorem Xj.get:∀{kvs:List (List Int×PyData)}{ks:List (List YM×V)}{k:List Int},Xj K G (Ue kvs) ks ->
  (RP kvs k=none/\Uw ks (k.map Sum.inl)=none)\/∃d x,RP kvs k=some d/\Uw ks (k.map Sum.inl)=some x/\DW K G d x
 | [],ks,k,h=>by
  rcases Xc h with ⟨_,rfl⟩|⟨_,_,_,_,_,e,_⟩
  ·exact .inl ⟨rfl,rfl⟩
  ·cases e
 | (k0,d)::r,ks,k,h=>by
  rcases Xc h with ⟨e,_⟩|⟨k1,d1,r1,x,t,e,rfl,h1,h2⟩
  ·cases e
  ·cases e
   by_cases c:k0=k
   ·subst c
    exact .inr ⟨d,x,by simp[RP],Uy rfl,h1⟩
   ·have c':¬(k0.map (Sum.inl:Int->YM))=k.map Sum.inl:=λz=>c (Qg.mp z)
    rw[Ux (p:=(k0.map Sum.inl,x)) c']
    have e:RP ((k0,d)::r) k=RP r k:=by simp[RP,c]
    rw[e]
    exact Xj.get h2
theorem Xj.any:∀{kvs:List (List Int×PyData)}{ks:List (List YM×V)} (k:List Int),Xj K G (Ue kvs) ks->(kvs.any λp=>decide (p.1=k))=ks.any λp=>decide (p.1=k.map Sum.inl)
 | [],ks,k,h=>by
  rcases Xc h with ⟨_,rfl⟩|⟨_,_,_,_,_,e,_⟩
  ·rfl
  ·cases e
 | (k0,d)::r,ks,k,h=>by
  rcases Xc h with ⟨e,_⟩|⟨k1,d1,r1,x,t,e,rfl,h1,h2⟩
  ·cases e
  ·cases e
   rw[tD,tD,Xj.any k h2]
   have:decide (k0=k)=decide ((k0.map (Sum.inl:Int->YM))=k.map Sum.inl):=by
    by_cases c:k0=k
    ·subst c;simp
    ·rw[wV c,wV λz=>c (Qg.mp z)]
   rw[this]
theorem Xj.repl{k:List Int}{d:PyData}{x:V}(hd:DW K G d x):∀{kvs:List (List Int×PyData)}{ks:List (List YM×V)},Xj K G (Ue kvs) ks ->
  Xj K G (Ue (kvs.map λp=>if p.1=k then(p.1,d) else p)) (ks.map λp=>if p.1=k.map Sum.inl then(p.1,x) else p)
 | [],ks,h=>by
  rcases Xc h with ⟨_,rfl⟩|⟨_,_,_,_,_,e,_⟩
  ·exact Xj.nil'
  ·cases e
 | (k0,d0)::r,ks,h=>by
  rcases Xc h with ⟨e,_⟩|⟨k1,d1,r1,y,t,e,rfl,h1,h2⟩
  ·cases e
  ·cases e
   rw[uE,uE]
   by_cases c:k0=k
   ·subst c
    rw[zJ rfl,zJ rfl]
    exact Xj.cons' hd (Xj.repl hd h2)
   ·rw[wH c,wH λz=>c (Qg.mp z)]
    exact Xj.cons' h1 (Xj.repl hd h2)
theorem Xj.snoc{k:List Int}{d:PyData}{x:V}(hd:DW K G d x):∀{kvs:List (List Int×PyData)}{ks:List (List YM×V)},Xj K G (Ue kvs) ks->Xj K G (Ue (kvs++[(k,d)])) (ks++[(k.map Sum.inl,x)])
 | [],ks,h=>by
  rcases Xc h with ⟨_,rfl⟩|⟨_,_,_,_,_,e,_⟩
  ·exact Xj.cons' hd Xj.nil'
  ·cases e
 | (k0,d0)::r,ks,h=>by
  rcases Xc h with ⟨e,_⟩|⟨k1,d1,r1,y,t,e,rfl,h1,h2⟩
  ·cases e
  ·cases e
   exact Xj.cons' h1 (Xj.snoc hd h2)
theorem Xj.put{kvs:List (List Int×PyData)}{ks:List (List YM×V)}{k:List Int}{d:PyData}{x:V}(h:Xj K G (Ue kvs) ks)(hd:DW K G d x):Xj K G (Ue (LH kvs k d)) (SN ks (k.map Sum.inl) x):=by
 unfold LH SN
 rw[h.any k]
 split
 ·exact h.repl hd
 ·exact h.snoc hd
theorem Xj.len:∀{kvs:List (List Int×PyData)}{ks:List (List YM×V)},Xj K G (Ue kvs) ks->kvs.length=ks.length
 | [],ks,h=>by
  rcases Xc h with ⟨_,rfl⟩|⟨_,_,_,_,_,e,_⟩
  ·rfl
  ·cases e
 | (k0,d)::r,ks,h=>by
  rcases Xc h with ⟨e,_⟩|⟨k1,d1,r1,x,t,e,rfl,h1,h2⟩
  ·cases e
  ·cases e
   rw[uC,uC,Xj.len h2]
def Ma:List (PyData×PyData)->Option (List (List Int×PyData))
 | []=>some []
 | (.tuple ks,d)::r=>match SU ks,Ma r with|some ns,some t=>some ((ns,d)::t)|_,_=>none
 | _::_=>none
@[simp] theorem unK_kvK(kvs:List (List Int×PyData)):Ma (Ue kvs)=some kvs:=by
 induction kvs with
 | nil=>rfl
 | cons p r ih=>
  show Ma ((tI p.1,p.2)::Ue r)=_
  simp[Ma,tI,ih]
theorem JL:∀{l:List (PyData×PyData)}{kvs:List (List Int×PyData)},Ma l=some kvs->l=Ue kvs
 | [],kvs,h=>by cases h;rfl
 | (.tuple ks,d)::r,kvs,h=>by
  simp only[Ma]at h
  split at h
  ·next ns t e1 e2=>
   cases h
   rw[JL e2,JK e1];rfl
  ·cases h
 | (.none,_)::_,_,h=>by simp[Ma]at h
 | (.bool _,_)::_,_,h=>by simp[Ma]at h
 | (.int _,_)::_,_,h=>by simp[Ma]at h
 | (.str _,_)::_,_,h=>by simp[Ma]at h
 | (.list _,_)::_,_,h=>by simp[Ma]at h
 | (.dict _,_)::_,_,h=>by simp[Ma]at h
def rdK(w:OW):Val->Option (List (List Int×PyData))
 | .d (.dict l)=>Ma l
 | .own a=>match w a with|some (.dct kvs)=>some kvs|_=>none
 | _=>none
theorem Yw.rdK(r:Yw K G s σ H){v:Val}{x:V}{kvs:List (List Int×PyData)}(q:VR K G v x)(h:L2.rdK s.w v=some kvs):∃a ks,x=.ref a/\H a=some (.dT ks)/\Xj K G (Ue kvs) ks:=by
 unfold L2.rdK at h
 split at h
 ·rw[JL h]at q
  unfold VR DW at q
  obtain⟨a,ks,e,h1,h2⟩:=q
  exact⟨a,ks,e,r.sub _ _ h1,h2⟩
 ·next a=>
  cases (show x=.ref a from q)
  split at h
  ·next z=>
   cases h
   obtain⟨_,ks,h1,h2⟩:=r.own a _ z
   exact⟨a,ks,rfl,h1,h2⟩
  ·cases h
 ·cases h
def Kx:Val->Option (List Int)
 | .d (.tuple (x::r))=>SU (x::r)
 | _=>none
@[simp] theorem keyD_tI(x:Int)(r:List Int):Kx (.d (tI (x::r)))=some (x::r):=by
 show SU ((x::r).map .int)=_
 exact uIs_map _
def RM(j:Val->Option (List Int))(da db:ZG):ZG:=λs k=>da s λv s1=>db s1 λu s2=>∃kvs ns x,rdK s2.w v=some kvs/\j u=some ns/\RP kvs ns=some x/\k (.d x) s2
def HG(da db:ZG):ZG:=RM Kx da db
def Lu(j:Val->Option (List Int))(neg:Bool)(db da:ZG):ZG:=λs k=>db s λu s1=>da s1 λv s2=>∃kvs ns,rdK s2.w v=some kvs/\j u=some ns/\k (.d (.bool (if neg then !(RP kvs ns).isSome else(RP kvs ns).isSome))) s2
def HI(o:Bool):ZG:=λs k=>match o with
 | true=>∀p,s.w p=none->k (.own p) (s.put p (.dct []))
 | false=>k (.d (.dict [])) s
def RN(j:Val->Option (List Int))(da dk dv:ZG):Wd:=λE s=>dv s λv s1=>da s1 λu s2=>dk s2 λkk s3=>match u,v with
 | .own a,.d x=>∃kvs ns,s3.w a=some (.dct kvs)/\j kk=some ns/\kvs.length<sizeLine/\E.nx (s3.put a (.dct (LH kvs ns x)))
 | _,_=>False
def HJ(da dk dv:ZG):Wd:=RN Kx da dk dv
def Tq(j:Val->Option (List Int))(o:Bool)(di:S4)(cap:List (Option Nat))(dg:T1)(dt:Vt)(dk dv:ZG):ZG:=λs k=>di s λsrc s1=>∀p,s1.w p=none->∃I:Nat->OW->Prop,I 0 (s1.w.put p (.dct []))/\(∀i w,I i w->src.2 w) /\
 (∀(i:Nat) d w,src.1[i]? = some d->I i w->dg (.d d) ⟨VY cap s1.e,w⟩ λs2=>dt s2 λb s3=>if b=true then dk s3 (λkk s4=>dv s4 λvv s5=>match vv with
  | .d x=>∃kvs ns,s5.w p=some (.dct kvs)/\j kk=some ns/\kvs.length<sizeLine/\L2.ext (VY cap s1.e) s5.e/\I (i+1) (s5.w.put p (.dct (LH kvs ns x)))
  | _=>False) else L2.ext (VY cap s1.e) s3.e/\I (i+1) s3.w) /\
 ∀w,I src.1.length w->∃kvs,w p=some (.dct kvs)/\(match o with|true=>k (.own p) ⟨s1.e,w⟩|false=>k (.d (.dict (Ue kvs))) ⟨s1.e,w.del p⟩)
def Lr(o:Bool)(di:S4)(cap:List (Option Nat))(dg:T1)(dt:Vt)(dk dv:ZG):ZG:=Tq Kx o di cap dg dt dk dv
end
section
variable {X:Cx}{K:Frag}{G G' H H':Hp}{s:DS}{σ:St}
def Ud(w:OW):Val->Option Bool
 | .d .none=>some true
 | .d _=>some false
 | .own _=>some false
 | _=>none
def QU(neg:Bool):Val->Val->ZG:=λv u s k=>match Ud s.w v,u with
 | some b,.d .none=>k (.d (.bool (if neg then !b else b))) s
 | _,_=>False
theorem Ro{v:Val}{x:V}{b:Bool}(h:VR K G v x)(e:Ud s.w v=some b):decide (x=.non)=b:=by
 unfold Ud at e
 split at e
 ·cases e
  rw[show x=.non from by unfold VR at h;exact DW.none_inv h];rfl
 ·next d hd=>
  cases e
  cases d with
  | none=>exact absurd rfl hd
  | bool b=>rw[U_ h];rfl
  | int i=>rw[Ye h];rfl
  | str i=>rw[YL h];rfl
  | list ds=>obtain⟨a,_,rfl,_⟩:=UN h;rfl
  | tuple ds=>obtain⟨a,_,rfl,_⟩:=Sx h;rfl
  | dict l=>unfold VR DW at h;obtain⟨a,_,rfl,_⟩:=h;rfl
 ·cases e
  rw[show x=.ref _ from h];rfl
 ·cases e
theorem Jn:RO K (λx y H Q=>y=.non/\Q (.bl (decide (x=.non))) H) (QU false):=by
 refine⟨λv w s Q Q' h q=>?_,λG s σ H x y v w Q r v1 v2 h=>?_⟩
 ·unfold QU at q |-;split at q
  ·exact h _ _ q
  ·exact q.elim
 ·unfold QU at h;split at h
  ·next b e=>
   refine⟨by unfold VR at v2;exact DW.none_inv v2,?_⟩
   rw[Ro v1 e];exact h.here r Xu
  ·exact h.elim
theorem Qs:RO K (λx y H Q=>y=.non/\Q (.bl (!decide (x=.non))) H) (QU true):=by
 refine⟨λv w s Q Q' h q=>?_,λG s σ H x y v w Q r v1 v2 h=>?_⟩
 ·unfold QU at q |-;split at q
  ·exact h _ _ q
  ·exact q.elim
 ·unfold QU at h;split at h
  ·next b e=>
   refine⟨by unfold VR at v2;exact DW.none_inv v2,?_⟩
   rw[Ro v1 e];exact h.here r Xu
  ·exact h.elim
def Gx(K:Frag):R2:=λx y H Q=>∃l k xs,x=.ref l/\y=.int k/\X7 K H l xs/\xs≠[]/\1≤k/\k<2 ^ 63/\xs.length*k.toNat≤sizeLine /\
 (k=1->Q (.ref l) H)/\∀p,H p=none->Q (.ref p) (upd H p (.tup (List.replicate k.toNat xs).flatten))
theorem IG:XZ X (binaryOp .Mult) (Gx X.K):=by
 rintro pins s σ H x y v u Q I rx ry ⟨l,k,xs,rfl,rfl,hq,hne,h1,h2,hz,q1,q2⟩
 cases (show v=Value.ref l from rx)
 obtain⟨t,rfl⟩:=(show ∃t,u=Value.int k t from ry)
 obtain⟨its,rv,ht,hzz⟩:=I.tuple hq
 obtain⟨⟨cls,dd,data,sl⟩,ho,hc,n,hd⟩:=id ht
 simp only at hc hd
 subst hc hd
 have hl:=rv.length
 refine wpAny_binaryOp_repeat_ref (T:="tuple") (U:="int") (by decide) ⟨_,ho,rfl⟩ (λs'=>typeIs_int s' k t) Uk PySem.F.fills_int_mul PySem.F.slot_int_rmul SO PySem.F.slot_int_index.lookup
  (yM PySem.F.slot_int_rmul (typeIs_int s k t) PySem.F.entry_int_rmul (PySem.F.args_int_rmul_2 _ _) (Qh k t l its.toArray n dd sl) ⟨ho,rfl,⟨_,ho,rfl⟩,?_⟩)
 by_cases e1:k=1
 ·subst e1
  exact yM xQ ⟨_,ho,rfl⟩ PySem.F.entry_tuple_mul (PySem.F.args_tuple_mul_2 _ _) (Q6 l its.toArray n dd sl t) ⟨ho,⟨.ref l,H,I,rfl,q1 rfl⟩⟩
 ·refine yM xQ ⟨_,ho,rfl⟩ PySem.F.entry_tuple_mul (PySem.F.args_tuple_mul_2 _ _) (PU l its.toArray n dd sl t k (by omega) h2 (by
    cases its with
    | nil=>cases rv;exact absurd rfl hne
    | cons a r=>rfl) (by rw[yC,<- hl];exact hz)) ⟨ho,?_⟩
  have e:List.foldl (λx1 x2=>x1++x2) #[] (List.replicate k.toNat its.toArray)=(List.replicate k.toNat its).flatten.toArray:=by
   have:=Rj its k.toNat []
   rw[tH]at this
   exact this
  rw[e]
  exact⟨.ref s.heap.objs.size,upd H s.heap.objs.size (.tup (List.replicate k.toNat xs).flatten),I.laid (t':=s.toks) (λb o e=>zX _ e) (vU _) (show Yx X.prog X.w _ _ _ (.tup _) from⟨by rw[Iy,Nat.mul_comm];exact hz,_,rv.rep k.toNat,R8.new _ _⟩),rfl,q2 _ I.fresh⟩
def QX:Val->Val->ZG:=λv w s k=>match rdT v,w with
 | some ds,.d (.int i)=>(ds≠[]/\1≤i/\i<2 ^ 63/\ds.length*i.toNat≤sizeLine)/\k (.d (.tuple (P8 i.toNat ds))) s
 | _,_=>False
theorem Hh:RO K (Gx K) QX:=by
 refine⟨λv w s Q Q' h q=>?_,λG s σ H x y v w Q r v1 v2 h=>?_⟩
 ·unfold QX at q |-;split at q
  ·exact⟨q.1,h _ _ q.2⟩
  ·exact q.elim
 ·unfold QX at h;split at h
  ·next ds i e=>
   obtain⟨⟨h1,h2,h3,h4⟩,h⟩:=h
   obtain⟨a,xs,rfl,h5,h6⟩:=r.rdT v1 e
   refine⟨a,i,xs,rfl,Ye v2,h5,λz=>h1 (h6.nil_of z),h2,h3,by rw[<- h6.length];exact h4,λz=>?_,r.nt (h6.rep _) h⟩
   subst z
   have e1:P8 (1:Int).toNat ds=ds:=by show(List.replicate 1 ds).flatten=ds;simp
   rw[e1]at h
   exact h.here r (by rw[<- Sg e];exact v1)
  ·exact h.elim
def Kg(o:Bool):Val->ZG:=λv s k=>match rdL s.w v with
 | some ds=>(match SU ds with|some ns=>ns.length<64/\∀ns':List Int,ns'.Perm ns->ns'.Pairwise (·≤·)->nl o (ns'.map .int) s k|none=>False)
 | none=>False
def Lw(o:Bool)(dk dv:ZG):ZG:=λs k=>∀p,s.w p=none->dk (s.put p (.dct [])) λkk s1=>dv s1 λvv s2=>match vv with
 | .d x=>∃ns,Kx kk=some ns/\s2.w p=some (.dct [])/\(match o with|true=>k (.own p) (s2.put p (.dct [(ns,x)]))|false=>k (.d (.dict (Ue [(ns,x)]))) ⟨s2.e,s2.w.del p⟩)
 | _=>False
def EY(d:ZG)(da:XN):ZG:=λs k=>d s λv s1=>(rdL s1.w v).isSome=true/\da s1 λvs s2=>match vs with
 | [u]=>(match rdL s2.w v,rdD s2.w u with
  | some ds,some x=>(x.hasDict=false/\PyData.hasDictAll ds=false/\x.canLay0=true/\PyData.canLayAll0 ds=true/\x.depth≤30)/\∃j,ds.findIdx? (λz=>PyData.eqv z x)=some j/\k (.d (.int (j:Nat))) s2
  | _,_=>False)
 | _=>False
def HK(i:Nat):ZG:=λs k=>match s.e[i]? with
 | some (some (.own a))=>∃kvs,s.w a=some (.dct kvs)/\k (.d (.dict (Ue kvs))) ⟨s.e.set i (some (.d (.dict (Ue kvs)))),s.w.del a⟩
 | _=>False
def Lp(f:WH)(na nk:Nat)(pick:List (Nat×Nat))(da dk:XN):ZG:=λs k=>da s λvs s1=>dk s1 λus s2=>f (Kj (.d (.tuple [])) na nk pick vs us) s2.w (λv w'=>k v ⟨s2.e,w'⟩)
theorem EI.data{P:Program}{w:World}{mg:Str->Option Value}{base:Heap}{x:Str}{st:Stmt}{N ps:List Str}{k:Nat}{f:WH}{em:Addr}(U:∃a fd,QB K x st a fd em/\mg x=some (.ref a))(S:Z8 N ps (Zg st))(len:∀vs w k,f vs w k->vs.length=ps.length) 
  (hbody:∀(a:Addr) (cdv:Value) (A:Around) (outer:List Env) (s:Shared) (H:Hp) (E:XK),Yg k (A.deeper (envOfC x (Zg st) s.heap.objs.size a cdv)) ->
   ∃t d,VS (Xi S0 P w K mg base N x (Zg st) a cdv A outer s H E).nox (ZQ st) t/\RS K t d/\∀(as:List Val) (o:OW) (q:Val->OW->Prop),f as o q->d { nx:=λs=>∃w',OW.le w' s.w/\q (.d .none) w',rt:=λv s=>∃w',OW.le w' s.w/\q v w' } ⟨Yk N as,o⟩):EI P w K mg base (k+1) x st ps (V7 K f) em:=by
 refine EI.of U S (λvs H Q E h=>?_) (λa cdv A outer s H vs Q E hr h=>?_)
 ·obtain⟨G,o,as,_,_,h1,h2⟩:=h
  rw[<- h1.length];exact len _ _ _ h2
 ·obtain⟨G,o,as,h1,h2,h3,h4⟩:=h
  obtain⟨t,d,q1,q2,q3⟩:=hbody a cdv A outer s H E hr
  refine⟨t,q1,q2 G ⟨Yk N as,o⟩ (YA N vs) H _ { nx:=λs=>∃w',OW.le w' s.w/\_,rt:=λv s=>∃w',OW.le w' s.w/\_ } ⟨h1,h2,Xr h3⟩ ⟨λs' G' σ' H' e r z=>?_,λv s' G' σ' H' x e r v1 z=>?_,λ_ _ _ _ _ _ z=>False.elim z,λ_ _ _ _ _ _ z=>False.elim z⟩ (q3 as o _ h4)⟩
  ·obtain⟨w',l,z⟩:=z
   exact z G' H' .non e r.sub (r.own.le l) WA
  ·obtain⟨w',l,z⟩:=z
   exact z G' H' x e r.sub (r.own.le l) v1
end
section
variable {src:List PyData×(OW->Prop)}{e0:List (Option Val)}{dg:T1}{dt:Vt}{de:ZG}{k:List PyData->DS->Prop}{w:OW}{α:Type}
theorem Qk(xs:List α)(enc f:α->PyData)(acc0:List PyData)(hsrc:src.1=xs.map enc)(hp:src.2 w)(hl:acc0.length+xs.length<sizeLine) 
  (hs:∀x∈xs,∀Q:PyData->OW->Prop,Q (f x) w->dg (.d (enc x)) ⟨e0,w⟩ λs2=>de s2 λv s1=>match v with | .d y=>ext e0 s1.e/\Q y s1.w|_=>False)
  (hk:k (acc0++xs.map f) ⟨e0,w⟩):∃I:Nat->List PyData->OW->Prop,I 0 acc0 w/\GC src e0 dg LF (Rg de) k I:=by
 refine NB xs enc (λx=>[f x]) acc0 hsrc hp (by rw[<- List.map_eq_flatMap,Uh];exact hl) (λx hx acc _ Q hQ=>?_) (by rw[<- List.map_eq_flatMap];exact hk)
 exact hs x hx (λy w=>Q (acc++[y]) w) hQ
theorem VL(xs:List α)(enc f:α->PyData)(c:α->Bool)(acc0:List PyData)(hsrc:src.1=xs.map enc)(hp:src.2 w)(hl:acc0.length+xs.length<sizeLine) 
  (hs:∀x∈xs,∀Q:Option PyData->OW->Prop,Q (if c x=true then some (f x) else none) w->dg (.d (enc x)) ⟨e0,w⟩ λs2=>dt s2 λb s3=>if b=true then de s3 (λv s1=>match v with | .d y=>ext e0 s1.e/\Q (some y) s1.w|_=>False) else ext e0 s3.e/\Q none s3.w)
  (hk:k (acc0++(xs.filter c).map f) ⟨e0,w⟩):∃I:Nat->List PyData->OW->Prop,I 0 acc0 w/\GC src e0 dg dt (Rg de) k I:=by
 have e:∀l:List α,(l.flatMap λx=>if c x=true then [f x] else [])=(l.filter c).map f:=by
  intro l
  induction l with
  | nil=>rfl
  | cons x r ih=>
   rw[List.flatMap_cons,ih]
   cases h:c x
   ·simp[List.filter_cons,h]
   ·simp[List.filter_cons,h]
 refine NB xs enc (λx=>if c x=true then [f x] else []) acc0 hsrc hp ?_ (λx hx acc _ Q hQ=>?_) (by rw[e];exact hk)
 ·rw[e,Uh]
  have:=List.length_filter_le c xs
  omega
 ·refine hs x hx (λy w=>Q (match y with|some z=>acc++[z]|none=>acc) w) ?_
  cases h:c x
  ·simp only[h]at hQ
   simpa using hQ
  ·simp only[h]at hQ
   simpa using hQ
end
theorem FX{w:OW}{a:Addr}{o:Own}(h:w a=some o):w.put a o=w:=by
 funext b;unfold OW.put;split
 ·next z=>rw[z,h]
 ·rfl
theorem YQ{o:OW}{u:Addr}{m:Nat}{wd:Int}{k:Val->OW->Prop}(h1:m≤1000000)(h2:0<wd)(h3:wd<1099511627776)(h:∀d:Int,0≤d->d<wd->k (.d (.int d)) (o.put u (.urn (m+1)))):U8 [.own u,.d (.int wd)] (o.put u (.urn m)) k:=
 ⟨m,OW.put_same,⟨h1,h2,h3⟩,λd a b=>by rw[OW.put_put];exact h d a b⟩
theorem XY{c:Nat}{P:List Val->Prop}{R:List Val->PyData->Prop}{o:OW}{u:Addr}{m:Nat}{as:List Val}{k:Val->OW->Prop}(h1:m+c≤1000000)(h2:P as)(h:∀r,R as r->k (.d r) (o.put u (.urn (m+c)))):UM c P R (.own u::as) (o.put u (.urn m)) k:=
 ⟨m,OW.put_same,⟨h1,h2⟩,λr hr=>by rw[OW.put_put];exact h r hr⟩
theorem K2{src:List PyData×(OW->Prop)}{e0:List (Option Val)}{dg:T1}{de:ZG}{k:List PyData->DS->Prop}{o:OW}{u:Addr}{m0:Nat}{α β:Type}(xs:List α)(enc:α->PyData)(f:β->PyData)(P:α->β->Prop)(c:Nat)(hsrc:src.1=xs.map enc)(hp:∀w,src.2 w)(hl:xs.length<sizeLine) 
  (hs:∀x∈xs,∀m,m+c≤m0+xs.length*c->∀Q:PyData->OW->Prop,(∀y m',P x y->m'≤m+c->Q (f y) (o.put u (.urn m')))->dg (.d (enc x)) ⟨e0,o.put u (.urn m)⟩ λs2=>de s2 λv s1=>match v with | .d y=>ext e0 s1.e/\Q y s1.w|_=>False)
  (hk:∀(ys:List β) (m':Nat),ys.length=xs.length->(∀p∈xs.zip ys,P p.1 p.2)->m'≤m0+xs.length*c->k (ys.map f) ⟨e0,o.put u (.urn m')⟩) :
  ∃I:Nat->List PyData->OW->Prop,I 0 [] (o.put u (.urn m0))/\GC src e0 dg LF (Rg de) k I:=by
 refine⟨λi acc w=>∃(ys:List β) (m':Nat),acc=ys.map f/\ys.length=i/\i≤xs.length/\(∀p∈xs.zip ys,P p.1 p.2)/\m'≤m0+i*c/\w=o.put u (.urn m'),⟨[],m0,rfl,rfl,uH _,by simp,by simp,rfl⟩,?_,?_,?_⟩
 ·rintro i acc w ⟨ys,m',rfl,hi,hle,_,_,rfl⟩
  exact⟨hp _,λ_=>by rw[Uh,hi];exact tP hle hl⟩
 ·rintro i d acc w hd ⟨ys,m',rfl,hi,hle,hP,hm,rfl⟩
  rw[hsrc,uV]at hd
  cases q:xs[i]? with
  | none=>rw[q]at hd;cases hd
  | some x=>
   rw[q]at hd;cases hd
   obtain⟨hlt,hx⟩:=vH.mp q
   have hmul:(i+1)*c≤xs.length*c:=Nat.mul_le_mul_right _ hlt
   have hmul':(i+1)*c=i*c+c:=by rw[Nat.add_mul,Nat.one_mul]
   refine hs x (by rw[<- hx];exact xP hlt) m' (by omega) (λy w=>∃(zs:List β) (m2:Nat),ys.map f++[y]=zs.map f/\zs.length=i+1/\i+1≤xs.length/\(∀p∈xs.zip zs,P p.1 p.2)/\m2≤m0+(i+1)*c/\w=o.put u (.urn m2)) λy m2 hy hm2=>⟨ys++[y],m2,by rw[tQ];rfl,by rw[uX,hi];rfl,hlt,λp hp=>?_,by omega,rfl⟩
   have ez:xs.zip (ys++[y])=xs.zip ys++[(x,y)]:=by
    have e1:xs=xs.take i++x::xs.drop (i+1):=by rw[<- hx];simp
    have hti:(xs.take i).length=ys.length:=by rw[uS,hi];omega
    conv=>lhs;rw[e1]
    rw[List.zip_append hti]
    have e2:xs.zip ys=(xs.take i).zip ys:=by
     conv=>lhs;rw[e1,<- uK ys]
     rw[List.zip_append hti];simp
    rw[e2];simp
   rw[ez]at hp
   rcases vF.mp hp with z|z
   ·exact hP p z
   ·have:p=(x,y):=by simpa using z
    rw[this];exact hy
 ·rintro acc w ⟨ys,m',rfl,hi,_,hP,hm,rfl⟩
  rw[hsrc,Uh]at hi hm
  exact hk ys m' hi hP hm
theorem PY{α β:Type}(xs:List α)(ys:List β)(f:α->PyData)(g:β->PyData):Sy (xs.map f) (ys.map g)=(xs.zip ys).map λp=>.tuple [f p.1,g p.2]:=by
 unfold Sy
 rw[List.zip_map,map_map];rfl
theorem Sw{α:Type}(xs:List α)(f:α->Bool):NZ (xs.map λx=>.bool (f x))=some (xs.map f):=by
 have:=uBs_map (xs.map f)
 rw[map_map]at this
 exact this
theorem YY{n:Nat}(h:n≤100000):n<sizeLine:=tP h (by decide)
def Rp(D W:Nat)(d:PyData):Prop:=d.canLay0=true/\d.hasDict=false/\d.intsShort 101=true/\d.showable=true/\d.depth≤D/\d.weight≤W
def SW(D W:Nat)(ds:List PyData):Prop:=PyData.canLayAll0 ds=true/\PyData.hasDictAll ds=false/\PyData.intsShortAll 101 ds=true/\PyData.showableAll ds=true/\PyData.depthAll ds≤D/\PyData.weightAll ds≤W
theorem SW.nil{D W:Nat}:SW D W []:=by simp[SW,PyData.canLayAll0,PyData.depthAll,PyData.hasDictAll,PyData.intsShortAll,PyData.showableAll,PyData.weightAll]
theorem SW.cons{D a b W:Nat}{d:PyData}{ds:List PyData}(h:Rp D a d)(q:SW D b ds)(hW:a+1+b≤W):SW D W (d::ds):=by
 obtain⟨h1,h2,h3,h4,h5,h6⟩:=h
 obtain⟨q1,q2,q3,q4,q5,q6⟩:=q
 refine⟨by rw[PyData.canLayAll0,h1,q1];rfl,by rw[PyData.hasDictAll,h2,q2];rfl,by rw[PyData.intsShortAll,h3,q3];rfl,by rw[PyData.showableAll,h4,q4];rfl,by rw[PyData.depthAll];omega,by rw[PyData.weightAll];omega⟩
theorem SW.map{D W:Nat}{α:Type}{f:α->PyData}:∀l:List α,(∀x∈l,Rp D W (f x))->SW D ((W+1)*l.length) (l.map f)
 | [],_=>SW.nil
 | x::l,h=>by
  refine SW.cons (h x (vB ..)) (SW.map l λy hy=>h y (vC _ hy)) ?_
  rw[uC,Nat.mul_add,Nat.mul_one];omega
theorem SW.mono{D W D' W':Nat}{ds:List PyData}(h:SW D W ds)(hD:D≤D')(hW:W≤W'):SW D' W' ds:=by
 obtain⟨q1,q2,q3,q4,q5,q6⟩:=h
 exact⟨q1,q2,q3,q4,by omega,by omega⟩
theorem Rp.mono{D W D' W':Nat}{d:PyData}(h:Rp D W d)(hD:D≤D')(hW:W≤W'):Rp D' W' d:=by
 obtain⟨q1,q2,q3,q4,q5,q6⟩:=h
 exact⟨q1,q2,q3,q4,by omega,by omega⟩
theorem Rp.tup{D W:Nat}{ds:List PyData}(h:SW D W ds):Rp (D+1) W (.tuple ds):=by
 obtain⟨q1,q2,q3,q4,q5,q6⟩:=h
 exact⟨by rw[PyData.canLay0];exact q1,by rw[PyData.hasDict];exact q2,by rw[PyData.intsShort];exact q3,by rw[PyData.showable];exact q4,by rw[PyData.depth];omega,by rw[PyData.weight];exact q6⟩
theorem Rp.lst{D W:Nat}{ds:List PyData}(h:SW D W ds):Rp (D+1) W (.list ds):=by
 obtain⟨q1,q2,q3,q4,q5,q6⟩:=h
 exact⟨by rw[PyData.canLay0];exact q1,by rw[PyData.hasDict];exact q2,by rw[PyData.intsShort];exact q3,by rw[PyData.showable];exact q4,by rw[PyData.depth];omega,by rw[PyData.weight];exact q6⟩
theorem Rp.int{n:Int}(h:n.natAbs<2 ^ 100):Rp 0 100 (.int n):=by
 have h1:=Ts (w:=100) (by decide) h
 exact⟨by rw[PyData.canLay0],by rw[PyData.hasDict],MP (w:=100) (by decide) (by decide) h,by rw[PyData.showable];simp;omega,by rw[PyData.depth];omega,OY (by decide) h⟩
theorem Rp.str{s:Str}(h:PyData.strOk s=true):Rp 0 s.cps.size (.str s):=⟨by rw[PyData.canLay0];exact h,by rw[PyData.hasDict],by rw[PyData.intsShort],by rw[PyData.showable],by rw[PyData.depth];omega,by rw[PyData.weight];exact vU _⟩
theorem Rp.tI{ns:List Int}(h:∀x∈ns,x.natAbs<2 ^ 100):Rp 1 (101*ns.length) (tI ns):=Rp.tup (SW.map ns λx hx=>Rp.int (h x hx))
theorem Rp.ok{D W:Nat}{d:PyData}(h:Rp D W d)(hD:D≤40)(hW:W≤100000):Ba d:=by
 obtain⟨q1,q2,q3,q4,q5,q6⟩:=h
 exact⟨q4,q2,by omega,Jz q1 q3 (by omega)⟩
section
variable {X:Cx}{a b c:Expr}{pos:Pos}{ta tb tc:TE}
theorem VF{op op':CmpOp}{r r':R2}(ho:XZ X (compareOp op) r)(ho':XZ X (compareOp op') r')(ha:IPE X a ta)(hb:IPE X b tb)(hc:IPE X c tc) 
  (hm:lastMarks [op,op'] [b,c]=false:=by with_unfolding_all rfl):IPE X (.Compare a [op,op'] [b,c] pos) (Ss r r' ta tb tc):=by
 simp only[Zt]at *
 exact KN ho ho' ha hb hc hm
theorem VH{op op':CmpOp}{r r':R2}(ho:XZ X (compareOp op) r)(ho':XZ X (compareOp op') r')(ha:IPE X a ta)(hb:IPE X b tb)(hc:IPE X c tc) 
  (hm:lastMarks [op,op'] [b,c]=false:=by with_unfolding_all rfl):IPT X (.Compare a [op,op'] [b,c] pos) (PJ (Ss r r' ta tb tc)):=by
 simp only[Zt,Z0]at *
 exact K_ ho ho' ha hb hc hm
end
section
variable {K:Frag}
def Ou(f g:Val->Val->ZG)(da db dc:ZG):ZG:=λs k=>da s λv s1=>db s1 λw s2=>f v w s2 λu s3=>match u with
 | .d (.bool c)=>if c=true then dc s3 λw' s4=>g w w' s4 k else k (.d (.bool false)) s3
 | _=>False
theorem Um{r r':R2}{f g:Val->Val->ZG}{ta tb tc:TE}{da db dc:ZG}(hf:RO K r f)(hg:RO K r' g)(ha:RE K ta da)(hb:RE K tb db)(hc:RE K tc dc):RE K (Ss r r' ta tb tc) (Ou f g da db dc):=by
 refine⟨λs Q Q' h q=>ha.mo _ _ _ (λv s1 q1=>hb.mo _ _ _ (λw s2 q2=>hf.mo v w _ _ _ (λu s3 q3=>?_) q2) q1) q,λG s σ H Q r h=>?_⟩
 ·split at q3
  ·split at q3
   ·next c=>exact(zJ c).symm▸hc.mo _ _ _ (λw' s4 q4=>hg.mo _ _ _ _ _ h q4) q3
   ·next c=>exact(wH c).symm▸h _ _ q3
  ·exact q3.elim
 refine ha.ok G s σ H _ r (ha.mo _ _ _ (λv s1 q G1 H1 x e1 r1 v1=>?_) h)
 refine hb.ok G1 s1 σ H1 _ r1 (hb.mo _ _ _ (λw s2 q2 G2 H2 y e2 r2 v2=>?_) q)
 refine hf.ok G2 s2 σ H2 x y v w _ r2 (v1.same e2) v2 (hf.mo v w _ _ _ (λu s3 q3 G3 H3 z e3 r3 v3=>?_) q2)
 split at q3
 ·next k=>
  refine⟨k,U_ v3,?_⟩
  split at q3
  ·next c=>
   rw[zJ c]
   exact hc.ok G3 s3 σ H3 _ r3 (hc.mo _ _ _ (λw' s4 q4 G4 H4 y' e4 r4 v4=>hg.ok G4 s4 σ H4 y y' w w' Q r4 ((v2.same e3).same e4) v4 (hg.mo _ _ _ _ _ (λu s5 q5=>q5.same (((e1.trans e2).trans e3).trans e4)) q4)) q3)
  ·next c=>
   rw[wH c]
   exact q3 G3 H3 (.bl false) ((e1.trans e2).trans e3) r3 Xu
 ·exact q3.elim
end
section
variable {K:Frag}
def HX:Val->ZG:=λv s k=>match rdK s.w v with|some kvs=>k (.d (.int kvs.length)) s|none=>False
end
variable {K:Frag}
theorem NR{i j:Nat}{t:TA}{d:XN}(h:RA K t d):RS K (PH (Hw t) (Kh K 2 (QZ (WC i) (QZ (WC j) Im)))) (Ie i j d):=λG s σ H D E r p q=>
 h.ok G s σ H _ r (h.mo _ _ _ (λvs s1 q G1 H1 xs e1 r1 v1=>by
  split at q
  ·obtain⟨x,y,rfl,v2,v3⟩:=v1.two
   refine⟨show 2≤sizeLine by decide,λpp hpp=>?_⟩
   have r2:=r1.new hpp (.tup [x,y])
   have e2:Z5 G1 (upd G1 pp (.tup [x,y])):=Yv (r1.sub.free hpp) _
   exact⟨pp,[x,y],rfl,X7.of Zw,rfl,x,[y],rfl,y,[],rfl,rfl,p.nx _ _ _ _ (e1.trans e2) ((r2.set (v2.same e2) i).set (v3.same e2) j) q⟩
  ·exact q.elim) q)
end L2
namespace L2
open PySem PySem.Spec PyProof.Rows
end L2
namespace L2
open PySem PySem.W PySem.W.X PySem.Spec PyProof.Rows
theorem Fi(P:Params):absHeap (Nh P) 11 Ng=boot_heap P:=by kernel_rfl
theorem Iq(P:Params):((boot_heap P).isNs mainGlobals,(boot_heap P).objs.size,(boot_heap P).nsMap mainGlobals "__annotations__")=(true,11,some (.ref 6)):=by kernel_rfl
def Oa(h:Heap):Frag:=QS ((List.range h.objs.size).filterMap λa=>(h.get? a).map λo=>(a,o))
theorem Qa{h:Heap}{a:Addr}:∀l:List Nat,((l.filterMap λa=>(h.get? a).map λo=>(a,o)):List (Addr×Obj)).lookup a=if a∈l then h.get? a else none
 | []=>rfl
 | b::l=>by
  rw[vA]
  by_cases e:a=b
  ·subst e
   cases q:h.get? a with
   | none=>
    simp only[q,tR,vE,true_or,yD]
    rw[Qa l,q]
    split<;>rfl
   | some o=>simp[List.lookup]
  ·have hb:(a == b)=false:=wW.mpr e
   cases q:h.get? b with
   | none=>simp only[tR];rw[Qa l];simp[e]
   | some o=>simp only[yW,List.lookup,hb];rw[Qa l];simp[e]
theorem YG{h:Heap}{a:Addr}:(Oa h).lookup a=h.get? a:=by
 unfold Oa
 rw[TN,Qa]
 simp only[List.mem_range]
 split
 ·rfl
 ·rename_i n
  cases q:h.get? a with
  | none=>rfl
  | some o=>exact absurd (wA q) n
theorem Ff{h:Heap}{a:Addr}{o:Obj}(e:h.get? a=some o):CT (Oa h):=by
 refine LN λz=>?_
 have:=YG (h:=h) (a:=a)
 unfold Oa at this
 rw[TN,z,e]at this
 cases this
theorem Fg(h:Heap):(Oa h).In h:=λa o e=>by rwa [YG]at e
theorem Kc{h:Heap}{cd:Value}{x:Str}(c:h.CodeRec cd x):codeIn (Oa h) cd x=true:=by
 obtain⟨c,o,vs,t,rfl,hc,hd,hv⟩:=c
 obtain⟨oc,od,dd,os⟩:=o
 cases hd
 unfold codeIn
 simp only[YG,hc]
 obtain⟨l⟩:=vs
 match l,hv with
 | a::b::l,hv=>
  have:b=.str x t:=by simpa using hv
  subst this
  simp
theorem Kd{h:Heap}{a:Addr}{oc:Value}{od:Option Addr}{fd:FuncData}{sl:Array (Option Value)}(e:h.get? a=some ⟨oc,od,.func fd,sl⟩):keepIn (Oa h) (.ref a)=true:=by
 unfold keepIn
 simp only[YG,e]
def Fc(s:Stmt):Pos:=match s with
 | .FunctionDef _ _ _ _ _ _ _ _ _ p=>p
 | _=>⟨0,0,0,0⟩
def Xn(x:Str)(s:Stmt):DefRec:=⟨x,YB s,ZQ s,Zg s,Fc s⟩
section
variable {q:Program}{loose:List Str}{XP:(Str->Option Value)->Heap->Prop}{w:World}{s₀:Shared}{mg mb:Str->Option Value}{h:Heap}
theorem YC(G:Ground q loose [] XP w s₀ mg mb h){L:List DefRec}(hL:recsOf q=L)(i:Nat){x:Str}{st:Stmt}(hi:L[i]? = some (Xn x st)):∃f fd,VQ (Oa h) x x st f fd/\mg x=some (.ref f):=by
 subst hL
 obtain⟨a,⟨oc,od,dd,sl⟩,pm,cd,doc,h1,h2,h3,h4⟩:=G.T.fn _ (uW hi)
 cases h3
 exact⟨a,_,O4 (st:=st) (kV:=.none) (doc:=doc) (pm:=pm) (cdv:=cd) (by rw[YG];exact h2) (Kc h4) (Kd h2),h1⟩
theorem Yh(G:Ground q loose [] XP w s₀ mg mb h){B:List Str}(hB:B.all (λx=>!(startupNames.contains x||(looseW q loose).contains x||((recsOf q).map (·.name)).contains x||((litsOf q).map (·.1)).contains x||((clssOf q (looseW q loose)).map (·.name)).contains x))=true) 
  (i:Nat) {x:Str} (hi:B[i]? = some x):mg x=none:=by
 have e:=yY.mp hB x (uW hi)
 simp only[tS,xT]at e
 obtain⟨⟨⟨⟨e1,e2⟩,e3⟩,e4⟩,e5⟩:=e
 have no:∀{l:List Str},l.contains x=false->x ∉ l:=λe m=>by rw[List.contains_iff_mem.mpr m]at e;cases e
 exact G.T.free x (no e1) (no e2) (no e3) (no e4) (no e5)
end
section
variable {α:Type}
theorem O6{p q:Program}{loose:List Str}{Yf:Shared->α}{Ya:World->α}{N:Nat}(e:opening p=plainProg p.main.scope.names)(hN:Nat.ble 600 N=true)(f:∀s,fenceModules? p s=some s) 
  (run:∀w os,NC p q loose Yf N w os=N3 q loose (Ya w)):LeftO p q loose (λ_=>true) Yf Ya N:=λw=>by
 obtain⟨⟨h,gs,d,k,os⟩,e1,e2⟩:=zF.mp (boot_open e hN f w)
 obtain⟨rfl,rfl,rfl,rfl⟩:h=boot_heap w.params/\gs=Array.mk []/\d=boot_drawn/\k=boot_toks:=by simpa using e2
 obtain⟨z1,z2,z3⟩:_/\_/\_:=by simpa only[tT]using Iq w.params
 obtain⟨s,r1,r2⟩:=zF.mp (run w os)
 obtain⟨r2,l3⟩:=zH r2
 obtain⟨l1,l2⟩:=zH r2
 have r:=NY r1
 have eb:SharedT.abs ⟨Nh w.params,11,Ng,Array.mk [],boot_drawn,boot_toks,os⟩=⟨boot_heap w.params,Array.mk [],boot_drawn,boot_toks,os⟩:=by
  show Shared.mk (absHeap _ _ _) _ _ _ _=_
  rw[Fi]
 rw[eb]at r
 have t:topFrom treeTable p w N ⟨boot_heap w.params,Array.mk [],boot_drawn,boot_toks,os⟩=some s.abs:=by
  unfold topFrom
  dsimp only
  rw[z1,z2,z3,r]
  show(match staticsOk (importedModules p.main.body) (boot_heap w.params) s.abs.heap&&namesBound p s.abs.heap&&gensDone s.abs&&laidKept (boot_heap w.params) s.abs.heap with|true=>_|false=>_)=_
  rw[l1]
 unfold openEnds
 rw[e1]
 show(topFrom treeTable p w N _).map _=_
 rw[t]
 exact zG some (zI l2 l3)
theorem Cf{l:OpenLaw}{n k:Nat}{q:Program}{loose:List Str}{XP:(Str->Option Value)->Heap->Prop}{Yf:Shared->α}{Ya:World->α}{d:DefRec}{CX:Ob}{sp:Frag->Sp}{x:Str} 
  (hn:l.most=some n) (hn2:n≤sizeLine) (hdf:d.params.defaults=[]) (hr:Yg k callerA)
  (F:∀(w:World) (s₀:Shared) (mg mb:Str->Option Value) (fa:Addr) (h:Heap),Ground q loose [] XP w s₀ mg mb h->(∃s:Shared,Yf s=Ya w/\∀b o,s.heap.get? b=some o->h.get? b=some o)->mg d.name=some (.ref fa) ->
   ∃fd:FuncData,(∀(s:Shared) (u:Value),BindsTo s fd ⟨[u],[]⟩ [(x,u)])/\∀base:Heap,Xv l.prog w (Oa h) mg base CX k fa fd [x] (sp (Oa h)))
  (hsp:∀(K:Frag) (H:Hp) (a:Addr) (ns:List Int),ns.length≤n->GF H->Xg K H a (ns.map V.int)->sp K [.ref a] H (λv _=>v=.bl true) λ_ _ _=>False)
  (hCX:∀(H:Hp) (s:Shared) (e:Value) (s':Shared),CX [] H s (λ_ _ _=>False) e s'->False) :
  WalkX q loose XP Yf Ya l.row.toRowW d [] (λf vs=>PySem.call f vs):=by
 intro w s₀ s₁ mg mb G y a o pm cd doc dV kV ho hd hcd hD hmg hg args vals as' L hpre hlay hrd hwl hlo
 have W:WalkO q loose XP (λw h=>∃s:Shared,Yf s=Ya w/\∀b o,s.heap.get? b=some o->h.get? b=some o) l.row.toRowW d [] (λf vs=>PySem.call f vs):=by
  refine Att.attach_call hn hdf λw s₀ s₁ mg mb fa o pm cd doc a vs ns G Y ho hd hcd hmg hobj hints hlen hg=>?_
  obtain⟨fd,hb,hF⟩:=F w s₀ mg mb fa _ G Y hmg
  exact Kz (Fg _) G.T.g G.T.b G.T.builtins G.T.nolimit hg hobj hints (wZ hlen hn2) hr (λbase _ _=>hF base) hb (λH hO hS=>hsp _ H a ns hlen hO hS) λH e s'=>hCX H s₁ e s'
 exact W w s₀ s₁ mg mb G ⟨s₀,y,L.keeps⟩ a o pm cd doc dV kV ho hd hcd hD hmg hg args vals as' hpre hlay hrd hwl hlo
end
theorem VM{h h':Heap}{a:Addr}{x:Str}{v:Value}(k:∀b o,h.get? b=some o->h'.get? b=some o)(e:h.nsMap a x=some v):h'.nsMap a x=some v:=by
 unfold Heap.nsMap at e |-
 cases q:h.get? a with
 | none=>rw[q]at e;cases e
 | some o=>rw[q]at e;rw[k _ _ q];exact e
end L2
set_option maxHeartbeats 400000
namespace EX
open PySem PySem.W PySem.Spec PyProof.Rows
section
variable {prog:Program}{w:World}{A:Around}{E:Value->Shared->Prop}{s:Shared}{K:Frag}{x C:Addr}{ox:Obj}{od:Option Obj}{name:Str}{expr:Bool}
theorem N1(self:Value):bindSpecial (.builtin "BaseException.__getattribute__") self=pure (.builtin "BaseException.__getattribute__",[self]):=by kernel_rfl
theorem Pb:plainId "BaseException.__getattribute__" = true:=by decide +kernel
theorem N2:builtinKind "BaseException.__getattribute__" = some .slot:=by decide +kernel
theorem Pc:splitId "BaseException.__getattribute__" = some ("BaseException","__getattribute__"):=by decide +kernel
structure ExGet(K:Frag)(C:Addr):Prop where
 ga:findIn K (.ref C) "__getattribute__" = some (some (.builtin "BaseException.__getattribute__"))
 gt:findIn K (.ref C) "__getattr__" = some none
 mro:mroIn K C (.type "BaseException")=some true
theorem Kk{tk:Tok}{v:Value}{R:Result->Shared->Prop}(X:K.In s.heap)(I:InstAt s.heap x ox C od)(G:ExGet K C)(hf:findObj K C od name=some (.value v))(h:R (.ok (.ret v)) s):
  codeAny (model prog w) A (.call (.builtin "BaseException.__getattribute__") ⟨[.ref x,.str name tk],[]⟩) R s:=by
 have L0:=I.type (M:=model prog w)
 have L1:=looks_find (M:=model prog w) X I hf
 have L2:Looks (model prog w) s.heap (isInstance (.ref x) (.type "BaseException")) true:=L0.andThen (looks_mroIn X G.mro)
 refine tU Pb PySem.F.entry_bexc_ga (@check_slot (model prog w) _ _ s "BaseException.__getattribute__" "BaseException" "__getattribute__" (.ref x) [.str name tk] [] _ N2 Pc L2 (PySem.F.args_bexc_ga (.ref x) (.str name tk)) ?_)
 unfold Builtin.«object.__getattribute__»
 refine zL (zW (a:=(Value.ref x,[Value.str name tk])) (by rfl) ?_)
 dsimp only
 refine zL (zW (a:=name) (by rfl) ?_)
 refine zL (L0.here (zL (L1.here ?_)))
 dsimp only
 exact zM h
theorem Fh{tk:Tok}{fill:Bool}{v:Value}{Q:Value->Shared->Prop}(X:K.In s.heap)(I:InstAt s.heap x ox C od)(G:ExGet K C)(hf:findObj K C od name=some (.value v))(hh:handedIn v=true)(h:Q v s):
  wpAny (model prog w) A (getAttrBy (.ref x) (.str name tk) fill expr) Q E s:=by
 have L0:=I.type (M:=model prog w)
 have L1:=tV (M:=model prog w) X G.ga
 have L2:=tV (M:=model prog w) X G.gt
 have hx2:(Value.builtin "BaseException.__getattribute__" == Value.builtin "object.__getattribute__")=false:=by decide +kernel
 unfold getAttrBy
 refine zN (zL (L0.here (zL (L1.here ?_))))
 show wpAny _ _ (if(onTheHeap (Value.ref C)&&Value.builtin "BaseException.__getattribute__" == Value.builtin "object.__getattribute__")=true then _ else _) _ _ _
 rw[hx2,Bool.and_false,wH wI]
 unfold getAttrByItsOwn
 refine zL (L2.here (zL (wD (zN ?_))))
 unfold callGetattribute
 rw[wH (show ¬(expr&&onTheHeap (Value.builtin "BaseException.__getattribute__"))=true from by cases expr<;>exact wI)]
 unfold boundAndCalled
 rw[N1]
 refine zL (zM (uL (Kk X I G hf ?_)))
 show wpAny _ _ (handedOut v) _ _ _
 rw[handedOut_of hh]
 exact zM h
theorem exc_get{v:Value}{Q:Value->Shared->Prop}(X:K.In s.heap)(I:InstAt s.heap x ox C od)(G:ExGet K C)(hf:findObj K C od name=some (.value v))(hh:handedIn v=true)(h:Q v { s with toks:=s.toks+1 }):
  wpAny (model prog w) A (getAttr (.ref x) name expr) Q E s:=by
 unfold getAttr
 obtain⟨hh',g,d,t,os⟩:=s
 exact zL (wpAny_mkText (Fh (s:=⟨hh',g,d,t+1,os⟩) X I G hf hh h))
theorem find_own{o:Obj}{v:Value}(hd:hasDictIn K C=true)(hn:findIn K (.ref C) name=some none)(hl:lookIn name o=some (some v)):findObj K C (some o) name=some (.value v):=by
 obtain⟨cd,hc,hh⟩:=any_some hd
 unfold findObj
 rw[hc,tF,hn,tF]
 simp only[tF,PySem.W.ownOf,hh,yD,hl]
structure ExCls(K:Frag)(C:Addr):Prop extends ExGet K C where
 hd:hasDictIn K C=true
 ha:findIn K (.ref C) "__class__" = some (some (.builtin "object.__class__"))
 hn:specialIn K (.builtin "object.__class__") "__get__" = some (some (.builtin "getset_descriptor.__get__"))
 ht:takesIn K (.builtin "object.__class__")=some true
 ho:mroIn K C (.type "object")=some true
theorem Lj{tk:Tok}{o:Obj}{R:Result->Shared->Prop}(X:K.In s.heap)(I:InstAt s.heap x ox C (some o))(G:ExCls K C)(h:R (.ok (.ret (.ref C))) s):
  codeAny (model prog w) A (.call (.builtin "BaseException.__getattribute__") ⟨[.ref x,.str "__class__" tk],[]⟩) R s:=by
 have hf:findObj K C (some o) "__class__" = some (.bind (.builtin "getset_descriptor.__get__") (.builtin "object.__class__")):=findObj_data (by obtain⟨cd,hc,_⟩:=any_some G.hd;rw[hc];rfl) G.ha G.hn G.ht
 have L0:=I.type (M:=model prog w)
 have L1:=looks_find (M:=model prog w) X I hf
 have L2:Looks (model prog w) s.heap (isInstance (.ref x) (.type "BaseException")) true:=L0.andThen (looks_mroIn X G.mro)
 refine tU Pb PySem.F.entry_bexc_ga (@check_slot (model prog w) _ _ s "BaseException.__getattribute__" "BaseException" "__getattribute__" (.ref x) [.str "__class__" tk] [] _ N2 Pc L2 (PySem.F.args_bexc_ga (.ref x) (.str "__class__" tk)) ?_)
 unfold Builtin.«object.__getattribute__»
 refine zL (zW (a:=(Value.ref x,[Value.str "__class__" tk])) (by rfl) ?_)
 dsimp only
 refine zL (zW (a:=("__class__" : Str)) (by rfl) ?_)
 refine zL (L0.here (zL (L1.here ?_)))
 dsimp only
 exact zL (zN (uL (class_get X I G.ho (zM h))))
theorem Mq{o:Obj}{Q:Option Value->Shared->Prop}(X:K.In s.heap)(I:InstAt s.heap x ox C (some o))(G:ExCls K C)(h:Q (some (.ref C)) { s with toks:=s.toks+1 }):wpAny (model prog w) A (getAttr? (.ref x) "__class__") Q E s:=by
 obtain⟨hh',g,d,t,os⟩:=s
 have L0:=I.type (M:=model prog w)
 have L1:=tV (M:=model prog w) X G.ga
 have L2:=tV (M:=model prog w) X G.gt
 have hx2:(Value.builtin "BaseException.__getattribute__" == Value.builtin "object.__getattribute__")=false:=by decide +kernel
 unfold getAttr? getAttrBy? getAttrBy
 refine zL (wpAny_mkText (zL (wD (zN (zL (L0.at (zL (L1.at ?_))))))))
 show wpAny _ _ (if(onTheHeap (Value.ref C)&&Value.builtin "BaseException.__getattribute__" == Value.builtin "object.__getattribute__")=true then _ else _) _ _ _
 rw[hx2,Bool.and_false,wH wI]
 unfold getAttrByItsOwn
 refine zL (L2.at (zL (wD (zN ?_))))
 unfold callGetattribute
 rw[wH (show ¬(false&&onTheHeap (Value.builtin "BaseException.__getattribute__"))=true from wI)]
 unfold boundAndCalled
 rw[N1]
 exact zL (zM (uL (Lj (s:=⟨hh',g,d,t+1,os⟩) X I G (zM (zM h)))))
theorem Ky{o:Obj}(G:ExCls K C):KitX K (.ref x) (.ref C) (λh=>InstAt h x ox C (some o)) where
 ty:=λ_ _ _ I=>I.type
 it:=λ_ _ X _=>by
  obtain⟨cdD,hcD,_⟩:=any_some G.hd
  unfold clsIn at hcD
  split at hcD
  ·rename_i c' d' cd' sl' ho
   intro A' Q' E' s' k q
   unfold isType loadHead
   exact zL (wpAny_loadPart (k _ _ (X _ _ ho)) (zM q))
  ·cases hcD
 ne:=λh tp dd its n sl X htp=>by
  obtain⟨cdD,hcD,_⟩:=any_some G.hd
  refine tW.mpr λq=>?_
  have e:C=tp:=Value.ref.inj (uD.mp q)
  subst e
  unfold clsIn at hcD
  split at hcD
  ·rename_i c' d' cd' sl' ho
   have z:=(X _ _ ho).symm.trans htp
   cases z
  ·cases hcD
 ca:=λX I k=>Mq X I G k
theorem exc_isi{o:Obj}{c:Value}{b:Bool}{Q:Value->Shared->Prop}(X:K.In s.heap)(I:InstAt s.heap x ox C (some o))(G:ExCls K C)(e:kitOne K (.ref C) c=some b)(h:∀tk,Q (.bool b) { s with toks:=tk }):
  wpAny (model prog w) A (call (.builtin "isinstance") [.ref x,c]) Q E s:=kia_one (Ky G) X I e (λz=>nomatch z) h
end
end EX
set_option maxHeartbeats 1000000
namespace EX
open PySem PySem.W PySem.Spec PyProof.Rows
section
variable {prog:Program}{w:World}{A:Around}{E:Value->Shared->Prop}{h:Heap}{g:Array GenState}{d:Drawn}{t:Nat}{os:OsState}
variable {nm q:Str}{C N:Addr}{bs bm:List Value}{hdct:Bool}{sn:List Str}{sub:List Value}{ab:Bool}{col:Option Bool}{dd:Option Addr}{k0 k1 k2 k3 k5:Option Value}{B newId initId:String}
abbrev Bu(C t0:Addr):Obj:={ cls:=.ref C,data:=.fields #[.ref t0,.none,.none,.none,.bool false,.none] }
theorem exc_init(F:ExcBaseFacts B newId initId bm){e t0:Addr}{rest:List Value}{Q:Value->Shared->Prop}(hC:h.get? C=some (excClassObj nm q C N bs bm hdct sn sub ab col dd k0 k1 k2 k3 k5 newId))(he:h.get? e=some (Bu C t0)) 
  (hq:∀h' t',(∀b o,b≠e->h.get? b=some o->h'.get? b=some o)->h'.get? e=some (Bu C t')->Q .none ⟨h',g,d,t,os⟩) (hrest:rest.length≤sizeLine:=by size_fits) :
  wpAny (model prog w) A (call (.builtin initId) (.ref e::rest)) Q E ⟨h,g,d,t,os⟩:=by
 refine uL (tU F.init.plain F.initEntry (wpAny_check_init_sub F hC he rfl ?_))
 wp_walk
 refine hq _ h.objs.size (λb o hb ho=>?_) ?_
 ·rw[zP _ _ (zQ hb)]
  exact zX _ ho
 ·rw[zR _ (zX _ he) rfl]
  rfl
end
section
variable {M:Model}{A:Around}{E:Value->Shared->Prop}{s:Shared}
structure ExAt(h:Heap)(e:Addr)(cls:Value)(dx:Option Addr)(hd:Value):Prop where
 ex:∃oe vs,h.get? e=some oe/\oe.cls=cls/\oe.dict=dx/\oe.data=.fields vs/\vs[1]? = some hd/\vs[2]? = some .none
def TbAt(h:Heap)(T:Addr)(fl:Value):Prop:=∃oT ts,h.get? T=some oT/\oT.data=.fields ts/\ts[3]? = some fl
abbrev frsA(l:List Env):List Addr:=l.filterMap (·.frame)
structure ExKeep(l:List Env)(e:Addr)(ch:List Addr)(h h':Heap):Prop where
 old:∀b o,b≠e->b ∉ ch->b ∉ frsA l->h.get? b=some o->h'.get? b=some o
 slot:∀b o,b∈frsA l->h.get? b=some o->∃sl,h'.get? b=some { o with slots:=sl }
theorem Ru{base:Heap}{env:Env}{outer:List Env}{L e:Addr}{cls hd:Value}{dx:Option Addr}{head:Value}{hadNext:Bool}{Q:Unit->Shared->Prop} 
  (hfr:A.frames=some (env::outer)) (hl:s.heap.FunFrames base (env::outer)) (hf:env.frame=some L) (he:ExAt s.heap e cls dx hd)
  (h:∀h' T,s.heap.objs.size≤T->ExAt h' e cls dx (.ref T)->TbAt h' T .none->ExKeep (env::outer) e [] s.heap h'->Q () { s with heap:=h' }) :
  wpAny M A (do let a <- frameOf env;let pl <- entryPlaceOf L hadNext;let b <- EntryCells.newEntry head a .none (rawInt L) .none pl;setField (.ref e) 1 b) (λ_ s'=>wpAny M A (setFlight (.ref e) none) Q E s') E s:=by
 obtain⟨oe,vs,he,hc,hdx,hd,h1,h2⟩:=he
 have hsz:1<vs.size:=(tX.mp h1).1
 have hene:e ∉ (env::outer).filterMap (·.frame):=λhm=>by
  obtain⟨_,o,ho,hnf⟩:=hl.mem hm
  rw[he]at ho;injection ho with ho;subst ho;exact hnf vs hd
 refine zL (wpAny_frameOf_fun hfr hl hf λh₁ hs₁=>?_)
 refine zL (wpAny_entryPlaceOf λpl hpl=>?_)
 unfold EntryCells.newEntry newFields
 refine zL (zV ?_ (hpl.sizeOk5 _ _ _ _ _))
 have he₁:h₁.get? e=some oe:=(hs₁.2.1 e hene).trans he
 generalize hob:({ cls:=.type "traceback",dict:=none,data:=.fields ([head,.ref L,.none,rawInt L,.none]++(if pl.isEmpty then List.replicate 6 Value.none else pl)).toArray }:Obj)=ob
 have hobd:∃ts,ob.data=.fields ts/\3<ts.size:=by
  rw[<- hob]
  exact⟨_,rfl,by simp only[yC,uX,uC,tY]<;>omega⟩
 have hobf:ob.isFreed=false:=by rw[<- hob];rfl
 obtain⟨ts,hts,hts3⟩:=hobd
 have he₂:=zX (h:=h₁) ob he₁
 refine wM he₂ hd hsz ?_
 have hTe:h₁.objs.size≠e:=vS (wA he₁)
 have hd₃:=zT hd (·.setIfInBounds 1 (Value.ref h₁.objs.size))
 have he₃:=zR (Obj.mapFields (·.setIfInBounds 1 (Value.ref h₁.objs.size))) he₂ (zS hd₃)
 have hT₃:=(zP (h₁.push ob) (Obj.mapFields (·.setIfInBounds 1 (Value.ref h₁.objs.size))) (zQ hTe)).trans (zY h₁ hobf)
 unfold setFlight
 refine zL (zO he₃ hd₃ (x:=.ref h₁.objs.size) (by simp[hsz]) ?_)
 rw[zJ (show(Value.ref h₁.objs.size != Value.none)=true from by simp)]
 refine wM hT₃ hts hts3 ?_
 have hge:s.heap.objs.size≤h₁.objs.size:=le_of_eq hs₁.1.symm
 refine h _ h₁.objs.size hge ⟨_,_,(zP _ _ hTe).trans he₃,(zU _ _).trans hc,?_,hd₃,by simp[hsz],?_⟩ ?_ ⟨λb o hb _ hbf ho=>?_,λb o hb ho=>?_⟩
 ·obtain⟨oc,od,oda,osl⟩:=oe
  cases hd
  exact hdx
 ·rw[Array.getElem?_setIfInBounds_ne (by decide)];exact h2
 ·exact⟨_,_,zR _ hT₃ (zS (zT hts _)),zT hts _,by simp[hts3]⟩
 ·have hb1:h₁.get? b=some o:=(hs₁.2.1 b hbf).trans ho
  rw[zP _ _ (vS (wA hb1)),zP _ _ (zQ hb)]
  exact zX _ hb1
 ·obtain⟨sl,hs⟩:=hs₁.2.2 b o ho
  refine⟨sl,?_⟩
  rw[zP _ _ (vS (wA hs)),zP _ _ (λz=>hene (by rw[z];exact hb))]
  exact zX _ hs
theorem note_first{base:Heap}{env:Env}{outer:List Env}{L e:Addr}{cls:Value}{dx:Option Addr}{Q:Unit->Shared->Prop} 
  (hfr:A.frames=some (env::outer)) (hl:s.heap.FunFrames base (env::outer)) (hf:env.frame=some L) (he:ExAt s.heap e cls dx .none)
  (h:∀h' T,s.heap.objs.size≤T->ExAt h' e cls dx (.ref T)->TbAt h' T .none->ExKeep (env::outer) e [] s.heap h'->Q () { s with heap:=h' }) :
  wpAny M A (noteFrame (.ref e) env) (λ_ s'=>wpAny M A (setFlight (.ref e) none) Q E s') E s:=by
 obtain⟨oe,vs,he',hc,hdx,hd,h1,h2⟩:=id he
 unfold noteFrame
 simp only[hf]
 refine zL (zO he' hd h1 ?_)
 rw[wH (by decide)]
 exact Ru hfr hl hf he h
theorem note_next{base:Heap}{env:Env}{outer:List Env}{L e T:Addr}{cls:Value}{dx:Option Addr}{Q:Unit->Shared->Prop} 
  (hfr:A.frames=some (env::outer)) (hl:s.heap.FunFrames base (env::outer)) (hf:env.frame=some L) (he:ExAt s.heap e cls dx (.ref T)) (hT:TbAt s.heap T .none) (hTe:T≠e)
  (h:∀h' T',s.heap.objs.size≤T'->ExAt h' e cls dx (.ref T')->TbAt h' T' .none->ExKeep (env::outer) e [T] s.heap h'->Q () { s with heap:=h' }) :
  wpAny M A (noteFrame (.ref e) env) (λ_ s'=>wpAny M A (setFlight (.ref e) none) Q E s') E s:=by
 obtain⟨oe,vs,he',hc,hdx,hd,h1,h2⟩:=id he
 obtain⟨oT,ts,hoT,hdT,h3⟩:=hT
 unfold noteFrame
 simp only[hf]
 refine zL (zO he' hd h1 ?_)
 rw[zJ (show(Value.ref T != Value.none)=true from by simp)]
 refine zL (zO hoT hdT h3 ?_)
 rw[wH (show ¬((Value.none == rawInt L)=true) from by simp[rawInt])]
 refine zL (wM hoT hdT (tX.mp h3).1 ?_)
 have other:∀b,b≠T->(s.heap.update T (Obj.mapFields (·.setIfInBounds 3 Value.none))).get? b=s.heap.get? b:=λb hb=>zP _ _ (zQ hb)
 have noRecord:∀b o,s.heap.get? b=some o->(∀vs,o.data≠.fields vs)->b≠T:=λb o hb hnf q=>by
  rw[q,hoT]at hb;injection hb with hb;subst hb;exact hnf ts hdT
 refine Ru (s:={ s with heap:=s.heap.update T (Obj.mapFields (·.setIfInBounds 3 Value.none)) }) hfr (hl.of_keeps λb o hb hnf=>⟨o,(other b (noRecord b o hb hnf)).trans hb,rfl⟩) hf
  ⟨oe,vs,(other e (zQ hTe)).trans he',hc,hdx,hd,h1,h2⟩ λh' T' hge x1 x2 x3=>h h' T' (wZ (le_of_eq (by simp[Heap.update])) hge) x1 x2 ⟨λb o hb hc' hbf ho=>x3.old b o hb (by simp) hbf ((other b (λz=>hc' (by simp[z]))).trans ho),λb o hb ho=>x3.slot b o hb ((other b ?_).trans ho)⟩
 obtain⟨_,o2,ho2,hnf⟩:=hl.mem hb
 rw[ho]at ho2;cases ho2
 exact noRecord b o ho hnf
end
end EX
namespace EX
open PySem PySem.W PySem.Spec PyProof.Rows
section
variable {prog:Program}{w:World}{A:Around}{E:Value->Shared->Prop}{h:Heap}{g:Array GenState}{d:Drawn}{t:Nat}{os:OsState}
variable {nm q:Str}{C N x:Addr}{bs bm:List Value}{sn:List Str}{sub:List Value}{ab:Bool}{col:Option Bool}{dd:Option Addr}{k0 k1 k2 k3 k5:Option Value}{B newId sa owner:String}{name:Str}{v:Value}{mN:Str->Option Value}{o:Obj}
abbrev exD(C t0:Addr)(dx:Option Addr):Obj:={ cls:=.ref C,dict:=dx,data:=.fields #[.ref t0,.none,.none,.none,.bool false,.none] }
theorem QY{tk:Tok}{Q:Fin->Shared->Prop}(SF:StoreFacts B bm sa owner)(hC:h.get? C=some (excClassObj nm q C N bs bm true sn sub ab col dd k0 k1 k2 k3 k5 newId))(hn:h.Ns N mN)(hna:mN name=none) 
  (hB:typeLookup (.type B) name=pure none) (hx:h.get? x=some o) (hc:o.cls=.ref C) (hnc:∀c,o.data≠.cls c) (hdn:o.dict=none)
  (hq:∀h' tk',h'.Ns1 h.objs.size (λy=>if y=name then some v else none)->(∀b o,b≠x->h.get? b=some o->h'.get? b=some o)->h'.get? x=some { o with dict:=some h.objs.size }->Q (.done (.ret .none)) ⟨h',g,d,tk',os⟩) :
  wpAny (model prog w) A (Builtin.«object.__setattr__» ⟨[.ref x,.str name tk,v],[]⟩) Q E ⟨h,g,d,t,os⟩:=by
 have hpass:=SF.passes (.ref x)
 unfold Builtin.«object.__setattr__»;repeat (first|rw[refuse_eq]|(rw[refuseLoop_ref,hpass])|(with_reducible refine tZ hx ?_;rw[hc])|with_reducible refine wpAny_mroOf_exc hC ?_|(with_reducible refine sA hC hn SF.mro hB ?_;rw[hna])|wp_step)
 rw[hdn,wH (by simp[typeHasDict])];split
 ·rename_i hcd;cases hcd
 split
 ·rename_i c hcd;exact absurd hcd (hnc c)
 have h1:(h.push { cls:=.type "dict",data:=.dict #[] }).get? x=some o:=zX _ hx
 have hs:x≠h.objs.size:=wP (wA hx)
 refine zL (wpAny_alloc' (zL (wpAny_update' h1 (zM ?_))))
 generalize hu:((h.push { cls:=.type "dict",data:=.dict #[] }).update x λo=>{ cls:=o.cls,dict:=some h.objs.size,data:=o.data,slots:=o.slots })=hp
 have hd:hp.Ns h.objs.size (λ_=>none):=by
  rw[<- hu];exact⟨_,#[],_,(Heap.get?_update_ne _ _ _ _ hs.symm).trans (Heap.get?_push_at rfl rfl),rfl,λe he=>absurd he (by simp),λ_=>rfl⟩
 have hpx:hp.get? x=some { o with dict:=some h.objs.size }:=by
  rw[<- hu,zR _ h1 ?_]
  have hf:=(Heap.get?_some_iff.mp hx).2
  obtain⟨oc,od,odt,osl⟩:=o;cases odt<;>first|rfl|exact hf
 have hpb:∀b o,b≠x->h.get? b=some o->hp.get? b=some o:=λb ob hb e=>by rw[<- hu];exact(Heap.get?_update_ne _ _ _ _ hb).trans (zX _ e)
 show wpAny _ _ (Builtin.ObjectAttr.storeInDict h.objs.size (.str name tk) name v) _ _ _;unfold Builtin.ObjectAttr.storeInDict Builtin.ObjectAttr.newKeyGuard
 refine zL (zM (zL (wpAny_nsSet1 (Heap.Ns1.of_empty hd) λh' hn' he=>?_)))
 obtain⟨oD,esD,epD,hoD,hdD,hcD⟩:=hn'.count (Within.cons name v Within.nil);refine zL (uA hoD (by rw[hdD];exact uB (wZ hcD (by rw[uC,tY,vZ];omega))) ?_)
 wp_walk
 refine hq h' _ ?_ (λb ob hb e=>(he.2 b (wP (wA e))).trans (hpb b ob hb e)) ((he.2 x hs).trans hpx)
 obtain⟨o',es,ep,e1,e2,e3,eu,e4⟩:=hn';exact⟨o',es,ep,e1,e2,e3,eu,λy=>by rw[e4 y]⟩
theorem first_attr{Q:Unit->Shared->Prop}(SF:StoreFacts B bm sa owner)(hC:h.get? C=some (excClassObj nm q C N bs bm true sn sub ab col dd k0 k1 k2 k3 k5 newId))(hn:h.Ns N mN)(hns:mN "__setattr__" = none)(hna:mN name=none) 
  (hB:typeLookup (.type B) name=pure none) (hx:h.get? x=some o) (hc:o.cls=.ref C) (hnc:∀c,o.data≠.cls c) (hdn:o.dict=none)
  (hq:∀h' tk',h'.Ns1 h.objs.size (λy=>if y=name then some v else none)->(∀b o,b≠x->h.get? b=some o->h'.get? b=some o)->h'.get? x=some { o with dict:=some h.objs.size }->Q () ⟨h',g,d,tk',os⟩) :
  wpAny (model prog w) A (setAttr (.ref x) name v) Q E ⟨h,g,d,t,os⟩:=by
 have f3:=SF.slot.bind (.ref x)
 unfold setAttr callSpecial? specialOf;repeat (any_goals (first|assumption|(with_reducible refine tZ hx ?_;rw[hc])|(with_reducible refine sA hC hn SF.mro SF.slot.lookup ?_;rw[hns])|wp_step))
 refine tU SF.slot.plain SF.entry (wpAny_check_sa SF hC hx hc (QY SF hC hn hna hB hx hc hnc hdn λh' tk' a b c=>?_))
 repeat (any_goals (first|assumption|wp_step))
 exact hq h' tk' a b c
theorem raise_own{s:Shared}{env:Env}{hdct:Bool}{X:Sem Value}{Q:Flow->Shared->Prop}(hbase:bm.contains (.type "BaseException")=true)(hh:A.handled=none) 
  (k:wpAny (model prog w) A X (λv s₁=>∃e t dx,v=.ref e/\s₁.heap.get? C=some (excClassObj nm q C N bs bm hdct sn sub ab col dd k0 k1 k2 k3 k5 newId)/\s₁.heap.get? e=some (exD C t dx)/\E (.ref e) s₁) E s):wpAny (model prog w) A (raiseStmt env (some X) none) Q E s:=by
 have hcB:(Value.ref C::bm).contains (.type "BaseException")=true:=by rw[contains_cons,hbase,Bool.or_true]
 unfold raiseStmt;refine zL (vL k (λv s₁ h₁=>?_) λ_ _ x=>x)
 obtain⟨e,t,dx,rfl,hC,he,hE⟩:=h₁
 obtain⟨hp,g,d,tk,os⟩:=s₁
 repeat (first|with_reducible refine tZ he ?_|with_reducible refine tZ hC ?_|(with_reducible refine wpAny_isSubtype_exc hC ?_;rw[hcB])|wp_step)
 exact wpAny_raiseNew_none hh hE
end
end EX
namespace L2
open PySem PySem.Spec PyProof.Rows
def WJ(C e:Addr)(dx:Option Addr):HO:=.ext λh=>∃t,h.get? e=some (EX.exD C t dx)
theorem WJ.ok{P:Program}{w:World}{H:Hp}{h:Heap}{C e t:Addr}{dx:Option Addr}(q:h.get? e=some (EX.exD C t dx)):Yx P w H h e (WJ C e dx):=
 ⟨⟨t,q⟩,⟨_,q⟩,λh1 h2 ⟨t,a⟩ k=>⟨t,k _ a⟩⟩
theorem WJ.get{P:Program}{w:World}{H:Hp}{h:Heap}{C e:Addr}{dx:Option Addr}(x:V1 P w H h)(q:H e=some (WJ C e dx)):∃t,h.get? e=some (EX.exD C t dx):=(x e _ q).1
structure EC(K:Frag)(C:Addr)(B initId:String)(fld:Str)(fI:Addr):Prop where
 ex:∃nm q N bs bm sn sub ab col dd k0 k1 k2 k3 k5 newId sa owner mN oI,K.lookup C=some (excClassObj nm q C N bs bm true sn sub ab col dd k0 k1 k2 k3 k5 newId)/\(∀h:Heap,K.In h->h.Ns N mN)/\mN "__init__" = some (.ref fI)/\mN "__setattr__" = none/\mN fld=none /\
  ExcBaseFacts B newId initId bm/\StoreFacts B bm sa owner/\typeLookup (.type B) fld=pure none/\K.lookup fI=some oI/\oI.cls=.type "function"
 fi:PySem.W.findCls K (.type B) (.type "type") "__init__" = some (.val (.builtin initId))
 ty:typeOf (.type B)=pure (.type "type")
 st:Manifest.isStub B=false
 kp:PySem.W.keepIn K (.ref C)=true
section
variable {X:Cx}{C fI:Addr}{B initId:String}{fld x:Str}{a b o value:Expr}{t:TA}{ta tv:TE}{p apos pos pos':Pos}
def BD(C:Addr)(t:TA):TE:=λσ H Q=>t σ H λvs H1=>∃e m,vs=[.ref e,m]/\H1 e=some (WJ C e none)/\Q .non H1
theorem E5{H:Hp}{a:Addr}{o:HO}(h:H a=some o):upd H a o=H:=by
 funext c;unfold upd;split
 ·next e=>rw[e,h]
 ·rfl
theorem P2{pl:Sem Bool}(c:EC X.K C B initId fld fI)(hg:Gl X x)(hm:X.mg x=none)(hv:bootBuiltins x=some (.type B))(ha:PA X [a,b] t)(hh:PySem.W.handedIn (.builtin initId)=true:=by rfl)(hn:x≠"__name__":=by decide)(hdb:(x == ("__debug__" : Str))=false:=by decide) 
  (hst:starEach [a,b] X.env=(false,eval a X.env)::starEach [b] X.env:=by rfl) (hpl:(backTo pos (starEach [b] X.env)).any (·.1)=false:=by rfl)
  (ht:eval (.Call (.Attribute (.Name x p) "__init__" apos) [a,b] [] pos) X.env=(do
   let ov <- eval (.Name x p) X.env
   standAt apos.atName
   let (f,first) <- holding [ov] (getMethod ov "__init__" pl)
   callWith pos f first (backTo pos (starEach [a,b] X.env)) (backToKw pos (keywordEach [] X.env))):=by rfl):PE X (.Call (.Attribute (.Name x p) "__init__" apos) [a,b] [] pos) (BD C t):=by
 intro pins s σ H Q I h
 refine PySem.W.methodCall_KW (pl:=pl) (VJ I hg hm hv ?_ hn hdb) ht
 obtain⟨m,F⟩:=I.fr
 refine PySem.W.method_type F I.ok.mod.kin c.ty c.st c.fi hh ?_
 refine PyProof.Rows.callWith_builtin1 (Y2 (ha pos pins _ σ H _ (I.tok _) h) λus s1 ⟨vs,H1,I1,r1,e,mv,ev,he,q⟩=>?_) hst hpl
 subst ev
 obtain⟨nm,qn,N,bs,bm,sn,sub,ab,col,dd,k0,k1,k2,k3,k5,newId,sa,owner,mN,oI,hC,hN,hi,hs,hf,FF,SF,hB,hfI,hfc⟩:=c.ex
 cases r1 with
 | cons r1 r2=>
  cases r2 with
  | cons r2 r3=>
   cases r3
   cases r1
   obtain⟨t0,e0⟩:=WJ.get I1.hok he
   obtain⟨h1,g1,d1,tk1,os1⟩:=s1
   refine EX.exc_init FF (I1.kIn _ _ hC) e0 λh' t' k e'=>?_
   have I2:=I1.write (h':=h') (t':=tk1) (x:=e) (e:=e) (o:=WJ C e none) (by rw[he];trivial) (.inl rfl) (λb u nb q=>k b u nb q) ⟨_,e'⟩ (WJ.ok e')
   rw[E5 he]at I2
   exact⟨.non,H1,I2,rfl,q⟩
theorem Zv.exStore{pins:List (Addr×Obj)}{σ:St}{H:Hp}{h h':Heap}{g:Array GenState}{dr:Drawn}{tk tk':Nat}{os:OsState}{e t0:Addr}{v:V}{u:Value}(I:Zv X pins σ H ⟨h,g,dr,tk,os⟩)(he:H e=some (WJ C e none))(hde:h.objs.size≠e)(e0:h.get? e=some (EX.exD C t0 none))(rv:ZL v u) 
  (n1:h'.Ns1 h.objs.size (λy=>if y=fld then some u else none)) (kb:∀b o,b≠e->h.get? b=some o->h'.get? b=some o) (ex:h'.get? e=some { EX.exD C t0 none with dict:=some h.objs.size }) :
  Zv X pins σ (upd (upd H h.objs.size (.xd [(fld,v)])) e (WJ C e (some h.objs.size))) ⟨h',g,dr,tk',os⟩:=by
 have hd:H h.objs.size=none:=I.hok.fresh (vU _)
 have ne:∀b,H b=none->b≠e:=λb q z=>by rw[z,he]at q;cases q
 have nd:∀b o,h.get? b=some o->b≠h.objs.size:=λb o q=>wP (wA q)
 have at':∀b,b≠e->b≠h.objs.size->upd (upd H h.objs.size (.xd [(fld,v)])) e (WJ C e (some h.objs.size)) b=H b:=λb x1 x2=>by rw[Zi x1,Zi x2]
 have tr:∀b o,H b=some o->b≠h.objs.size:=λb o q z=>by rw[z,hd]at q;cases q
 have kk:∀b o,b≠e->H b=some o->upd (upd H h.objs.size (.xd [(fld,v)])) e (WJ C e (some h.objs.size)) b=some o:=λb o x1 q=>by rw[at' b x1 (tr b o q)];exact q
 have net:∀b xs,H b=some (.tup xs)->b≠e:=λb xs q z=>by rw[z,he]at q;cases q
 have neo:∀b y,H b=some (.own y)->b≠e:=λb xs q z=>by rw[z,he]at q;cases q
 refine I.un (s:=⟨h,g,dr,tk,os⟩) (h':=h') (t':=tk') ⟨λb o q n _ _=>kb b o (ne b n) q,λb o q n _ _=>⟨o.slots,kb b o (ne b n) q⟩,λb o q n _=>?_,λb o q _=>?_,λb xs q=>kk b _ (net b xs q) q,λb o u q=>kk b _ (λz=>by rw[z,he]at q;cases q) q,λb ps q=>⟨#[],?_⟩⟩ λb o q=>?_
 ·rw[at' b (ne b n) (nd b o q)];exact n
 ·by_cases z:b=e
  ·rw[z];exact⟨_,ex⟩
  ·exact⟨o,kb b o z q⟩
 ·rw[kk b _ (λz=>by rw[z,he]at q;cases q) q];simp
 ·by_cases z:b=e
  ·rw[z,Zw]at q;cases q
   rw[z];exact WJ.ok (t:=t0) ex
  ·by_cases z2:b=h.objs.size
   ·rw[Zi z,z2,Zw]at q;cases q
    rw[z2]
    refine⟨_,n1,λf=>?_⟩
    by_cases hf:f=fld
    ·subst hf;simp[List.lookup,Ww,rv]
    ·have:(f == fld)=false:=wW.mpr hf
     simp[List.lookup,this,hf,Ww]
   ·rw[at' b z z2]at q
    refine(I.hok b o q).stay (λc u hc r=>kb c u ?_ r) (λc r=>kk c _ (neo c _ r) r) λc xs r=>kk c _ (net c xs r) r
    rcases hc with hc|hc
    ·rw[hc];exact z
    ·exact neo c _ hc
def Bg(C:Addr)(fld:Str)(ta tv:TE):TS:=λD σ H=>tv σ H λv H1=>ta σ H1 λy H2=>∃e,y=.ref e/\H2 e=some (WJ C e none)/\∀d,H2 d=none->d≠e->D.nx σ (upd (upd H2 d (.xd [(fld,v)])) e (WJ C e (some d)))
theorem FL(c:EC X.K C B initId fld fI)(ha:PE X o ta)(hv:PE X value tv)(hs:swapsWith value (some (.Attribute o fld pos')) pos.line X.env=pure false:=by rfl):PS X (.Assign [.Attribute o fld pos'] value pos) (Bg C fld ta tv):=by
 intro pins s σ H D I h
 refine uI (Y2 (hv pins s σ H _ I h) λu s1 ⟨v,H1,I1,rv,q⟩=>Y2 (ha pins s1 σ H1 _ I1 q) λov s2 ⟨y,H2,I2,ry,e,ey,he,q2⟩=>?_) hs
 subst ey
 obtain rfl:ov=Value.ref e:=ry
 obtain⟨nm,qn,N,bs,bm,sn,sub,ab,col,dd,k0,k1,k2,k3,k5,newId,sa,owner,mN,oI,hC,hN,hi,hs,hf,FF,SF,hB,hfI,hfc⟩:=c.ex
 obtain⟨t0,e0⟩:=WJ.get I2.hok he
 have hd:H2 s2.heap.objs.size=none:=I2.hok.fresh (vU _)
 have hde:s2.heap.objs.size≠e:=vS (wA e0)
 obtain⟨h2,g2,d2,tk2,os2⟩:=s2
 refine EX.first_attr SF (I2.kIn _ _ hC) (hN _ I2.kIn) hs hf hB e0 rfl (λc z=>nomatch z) rfl λh' tk' n1 kb ex=>?_
 exact⟨σ,_,I2.exStore he hde e0 rv n1 kb ex,q2 _ hd hde⟩
end
def TU(H:Hp)(e:Addr):Hp:=λb=>if b=e then none else H b
theorem UA{H:Hp}{e:Addr}:TU H e e=none:=by simp[TU]
theorem X0{H:Hp}{e b:Addr}(h:b≠e):TU H e b=H b:=by simp[TU,h]
section
variable {X:Cx}{pins:List (Addr×Obj)}{σ:St}{H:Hp}{s:Shared}{C fI e:Addr}{B initId:String}{fld x:Str}
theorem V1.none{P:Program}{w:World}{H:Hp}{h:Heap}{a:Addr}(x:V1 P w H h)(q:h.get? a=none):H a=none:=by
 cases r:H a with
 | none=>rfl
 | some o=>
  have lt:=(x a o r).lt
  exfalso
  cases o with
  | lst xs=>obtain⟨_,_,_,_,z⟩:=x a _ r;rw[q]at z;cases z
  | tup xs=>obtain⟨_,_,_,_,z,_⟩:=x a _ r;rw[q]at z;cases z
  | dK kvs=>obtain⟨_,_,_,_,o,_,_,z,_⟩:=x a _ r;rw[q]at z;cases z
  | dT kvs=>obtain⟨_,_,_,_,o,_,_,z,_⟩:=x a _ r;rw[q]at z;cases z
  | set S n=>obtain⟨o,_,_,_,z,_⟩:=x a _ r;rw[q]at z;cases z
  | ins C dx fs=>obtain⟨_,_,_,z,_⟩:=x a _ r;rw[q]at z;cases z
  | own y=>obtain⟨_,z⟩:=x a _ r;rw[q]at z;cases z
  | xd fs=>obtain⟨_,⟨_,_,_,z,_⟩,_⟩:=x a _ r;rw[q]at z;cases z
  | rng lo hi=>obtain⟨_,_,_,z⟩:=x a _ r;rw[q]at z;cases z
  | frz ob u=>obtain⟨z,_⟩:=x a _ r;rw[q]at z;cases z
  | tbl ps=>have z:h.get? a=some _:=x a _ r;rw[q]at z;cases z
  | met f y=>have z:h.get? a=some _:=x a _ r;rw[q]at z;cases z
  | ext φ=>obtain⟨_,⟨_,z⟩,_⟩:=x a _ r;rw[q]at z;cases z
theorem Zv.exNew{h':Heap}{us:List Value}{t':Nat}(I:Zv X pins σ H s)(m:Heap.MadeExcOf s.heap h' e (.ref C) us):Zv X pins σ (upd H e (WJ C e none)) { s with heap:=h',toks:=t' }:=by
 have hn:H e=none:=I.hok.none m.new
 obtain⟨t,ht,_,_⟩:=m.there
 have nb:∀b o,s.heap.get? b=some o->b≠e:=λb o q z=>by rw[z,m.new]at q;cases q
 have nt:∀b o,H b=some o->b≠e:=λb o q z=>by rw[z,hn]at q;cases q
 refine I.un (h':=h') ⟨λb o q _ _ _=>m.keeps b o q,λb o q _ _ _=>⟨o.slots,m.keeps b o q⟩,λb o q n _=>by rw[Zi (nb b o q)];exact n,λb o q _=>⟨o,m.keeps b o q⟩,λb xs q=>by rw[Zi (nt b _ q)];exact q,λb o u q=>by rw[Zi (nt b _ q)];exact q,λb ps q=>⟨#[],by rw[Zi (nt b _ q),q];simp⟩⟩ λb o q=>?_
 by_cases z:b=e
 ·rw[z,Zw]at q;cases q
  rw[z];exact WJ.ok ht
 ·rw[Zi z]at q
  exact(I.hok b o q).stay (λc u _ r=>m.keeps c u r) (λc r=>by rw[Zi (nt c _ r)];exact r) λc xs r=>by rw[Zi (nt c _ r)];exact r
theorem Hk{k:Nat}{fd:FuncData}{ps:List Str}{sp:Sp}{Q:VK}{vs:List V}{us:List Value}(c:EC X.K C B initId fld fI)(F:Xv X.prog X.w X.K X.mg X.base S0 k fI fd ps sp)(hr:Yg (k+1) X.A)(hb:XQ X.K fd ps [])(I:Zv X pins σ H s)(r:ZD vs us)(hl:us.length≤sizeLine) 
  (h:∀e,H e=none->s.heap.get? e=none->sp (.ref e::vs) (upd H e (WJ C e none)) (λv H2=>v=.non/\Q (.ref e) H2) E0):wpAny (model X.prog X.w) X.A (call (.ref C) us) (EP X pins σ Q) X.xe s:=by
 obtain⟨nm,qn,N,bs,bm,sn,sub,ab,col,dd,k0,k1,k2,k3,k5,newId,sa,owner,mN,oI,hC,hN,hi,hs,hf,FF,SF,hB,hfI,hfc⟩:=c.ex
 obtain⟨hp,g,d,tk,os⟩:=s
 refine wpAny_call_exc_init FF (I.kIn _ _ hC) (hN _ I.kIn) hi (I.kIn _ _ hfI) hfc (λh' e m=>?_) hl
 have I2:Zv X pins σ (upd H e (WJ C e none)) ⟨h',g,d,tk,os⟩:=Zv.exNew (t':=tk) I m
 have hq:=h e (I.hok.none m.new) m.new
 have r2:ZD (V.ref e::vs) (Value.ref e::us):=.cons rfl r
 have hlen:(Value.ref e::us++[]).length=ps.length:=by
  rw[uK,<- r2.length];exact F.len _ _ _ _ hq
 have bb:=hb _ (Value.ref e::us) I2.kIn hlen
 rw[uK]at bb
 refine uL (uM (F.run _ X.stack _ _ ⟨Value.ref e::us,[]⟩ (Value.ref e::us) _ _ E0 (hr.make C us []) (I2.env0.make C us []) bb r2 hq) λr s' hq'=>?_)
 cases r with
 | error e=>exact hq'.elim
 | ok fl=>
  cases fl with
  | ret u=>
   obtain⟨v,H',I3,rv,ev,q3⟩:=I2.after hq'
   subst ev
   exact⟨rv,⟨V.ref e,H',I3,rfl,q3⟩⟩
  | next=>exact False.elim hq'
  | brk=>exact False.elim hq'
  | cont=>exact False.elim hq'
end
def S1(P:Program)(w:World):Ob:=λouter H s E ev s'=>∃(e C d T:Addr) (H':Hp),ev=.ref e/\s'.os=s.os/\AllBare s'.gens/\Un (N0 outer) [] H H' s.heap s'.heap/\V1 P w H' s'.heap /\
 EX.ExAt s'.heap e (.ref C) (some d) (.ref T)/\EX.TbAt s'.heap T .none/\T≠e/\s.heap.get? e=none/\s.heap.get? T=none/\H' e=none/\H' T=none/\E (.ref C) (some d) H'
section
variable {X:Cx}{pins:List (Addr×Obj)}{σ:St}{H:Hp}{s:Shared}{C e d:Addr}
theorem WJ.at'{h:Heap}{t:Addr}{dx:Option Addr}(q:h.get? e=some (EX.exD C t dx)):EX.ExAt h e (.ref C) dx .none:=⟨_,_,q,rfl,rfl,rfl,rfl,rfl⟩
theorem Un.old{fs ex:List Addr}{H H':Hp}{h h':Heap}{b:Addr}(u:Un fs ex H H' h h')(hx:b ∉ ex)(q:h'.get? b=none):h.get? b=none:=by
 cases r:h.get? b with
 | none=>rfl
 | some o=>
  obtain⟨o',z⟩:=u.there b o r hx
  rw[q]at z;cases z
theorem Mp{l:List Env}{fs:List Addr}{H₀:Hp}{h₀ h h':Heap}(u:Un fs [] H₀ H h₀ h)(k:EX.ExKeep l e [] h h')(he:∃φ,H e=some (.ext φ))(h0:h₀.get? e=none)(hl:∀b∈EX.frsA l,b∈fs\/h₀.get? b=none)(hsz:∀b o,h.get? b=some o->∃o',h'.get? b=some o'):Un fs [] H₀ (TU H e) h₀ h':=by
 have n0:∀b o,h₀.get? b=some o->b≠e:=λb o q z=>by rw[z,h0]at q;cases q
 have hne:∀b o,H b=some o->(∀φ,o≠.ext φ)->b≠e:=λb o q n z=>by
  obtain⟨φ,hφ⟩:=he
  rw[z,hφ]at q;cases q;exact n φ rfl
 refine⟨λb o q n hb hx=>?_,λb o q n hb hx=>?_,λb o q n hx=>by rw[X0 (n0 b o q)];exact u.free b o q n hx,λb o q hx=>?_,λb xs q=>?_,λb o x q=>?_,λb ps q=>?_⟩
 ·have h1:=u.keep b o q n hb hx
  refine k.old b o (n0 b o q) (by simp) (λz=>?_) h1
  rcases hl b z with y|y
  ·exact hb y
  ·rw[q]at y;cases y
 ·obtain⟨sl,h1⟩:=u.slot b o q n hb hx
  by_cases z:b∈EX.frsA l
  ·obtain⟨sl',h2⟩:=k.slot b _ z h1
   exact⟨sl',h2⟩
  ·exact⟨sl,k.old b _ (n0 b o q) (by simp) z h1⟩
 ·obtain⟨o',z⟩:=u.there b o q hx
  exact hsz b o' z
 ·have z:=u.tups b xs q
  rw[X0 (hne b _ z λφ y=>by cases y)];exact z
 ·have z:=u.frzs b o x q
  rw[X0 (hne b _ z λφ y=>by cases y)];exact z
 ·obtain⟨more,z⟩:=u.tbls b ps q
  exact⟨more,by rw[X0 (hne b _ z λφ y=>by cases y)];exact z⟩
theorem O3{P:Program}{w:World}{l:List Env}{h h':Heap}(ok:V1 P w H h)(k:EX.ExKeep l e [] h h')(he:∃φ,H e=some (.ext φ))(hf:∀b∈EX.frsA l,H b=none):V1 P w (TU H e) h':=λb o q=>by
 have be:b≠e:=λz=>by rw[z,UA]at q;cases q
 rw[X0 be]at q
 obtain⟨φ,hφ⟩:=he
 have tr:∀c u,H c=some u->c ∉ EX.frsA l:=λc u z y=>by rw[hf c y]at z;cases z
 have ce:∀c u,H c=some u->u≠.ext φ->c≠e:=λc u z n y=>by rw[y,hφ]at z;cases z;exact n rfl
 refine(ok b o q).stay (λc u hc r=>k.old c u ?_ (by simp) ?_ r) (λc r=>by rw[X0 (ce c _ r λz=>by cases z)];exact r) λc xs r=>by rw[X0 (ce c _ r λz=>by cases z)];exact r
 ·rcases hc with hc|hc
  ·rw[hc];exact be
  ·exact ce c _ hc λz=>by cases z
 ·rcases hc with hc|hc
  ·rw[hc];exact tr b o q
  ·exact tr c _ hc
end
section
variable {P:Program}{w:World}{K:Frag}{mg:Str->Option Value}{base:Heap}{N:List Str}{qual:Str}{scope:Scope}{f:Addr}{cdv:Value}{A:Around}{outer:List Env}{s₀ s:Shared}{H₀ H:Hp}{E:XK}{pins:List (Addr×Obj)}{σ:St}{C e d:Addr}
theorem M5(I:Zv (Xi (S1 P w) P w K mg base N qual scope f cdv A outer s₀ H₀ E) pins σ H s)(he:H e=some (WJ C e (some d)))(h0:s₀.heap.get? e=none)(h:E (.ref C) (some d) (TU H e)):(Xi (S1 P w) P w K mg base N qual scope f cdv A outer s₀ H₀ E).xe (.ref e) s:=by
 obtain⟨t,e0⟩:=WJ.get I.hok he
 have hst:=I.stack
 have hfr:=I.ok.frames
 have hlf:EX.frsA (envOfC qual scope s₀.heap.objs.size f cdv::outer)=s₀.heap.objs.size::N0 outer:=rfl
 show wpAny _ _ (leaving _ _) _ _ _
 unfold leaving
 refine zL ?_
 refine EX.note_first hfr hst rfl (WJ.at' e0) λh' T hT x1 x2 x3=>?_
 have hext:∃φ,H e=some (.ext φ):=⟨_,he⟩
 have hTn:s.heap.get? T=none:=vD hT
 have hsz:∀b o,s.heap.get? b=some o->∃o',h'.get? b=some o':=λb o q=>by
  by_cases z:b=e
  ·obtain⟨oe,_,z1,_⟩:=x1;rw[z];exact⟨_,z1⟩
  ·by_cases y:b∈EX.frsA (envOfC qual scope s₀.heap.objs.size f cdv::outer)
   ·obtain⟨sl,z1⟩:=x3.slot b o y q;exact⟨_,z1⟩
   ·exact⟨o,x3.old b o z (by simp) y q⟩
 have hstk:∀b∈EX.frsA (envOfC qual scope s₀.heap.objs.size f cdv::outer),H b=none:=I.stkFree
 refine⟨e,C,d,T,TU H e,rfl,I.os,I.bare,Mp I.base x3 hext h0 (λb hb=>?_) hsz,O3 I.hok x3 hext hstk,x1,x2,?_,h0,I.base.old (by exact λz=>nomatch z) hTn,UA,?_,h⟩
 ·rw[hlf]at hb
  rcases vE.mp hb with z|z
  ·right;rw[z];exact vD (vU _)
  ·left;exact z
 ·intro z;rw[z,e0]at hTn;cases hTn
 ·rw[X0 λz=>by rw[z,e0]at hTn;cases hTn];exact I.hok.none hTn
end
section
variable {X:Cx}{pins:List (Addr×Obj)}{σ:St}{H:Hp}{s:Shared}{C e d:Addr}
theorem Zv.exPass{h':Heap}{ch:List Addr}{t':Nat}(I:Zv X pins σ H s)(hst:X.stack=X.env::X.outer)(hfr:X.env.frame=some X.env.locals)(hfn:∀x,X.fn x=true)(hex:X.ex=[])(k:EX.ExKeep (X.env::X.outer) e ch s.heap h') 
  (hn:∀b,b=e\/b∈ch->H b=none/\X.s₀.heap.get? b=none/\b≠X.env.locals/\(∀x c,X.env.cells.lookup x=some c->c≠b)/\∀p∈X.pn++pins,p.1≠b):Zv X pins σ H { s with heap:=h',toks:=t' }:=by
 have hf:EX.frsA (X.env::X.outer)=X.env.locals::X.fs:=by
  show(X.env::X.outer).filterMap _=_
  rw[vA,hfr];rfl
 have in0:∀b o,X.s₀.heap.get? b=some o->b≠e/\b ∉ ch:=λb o q=>⟨λz=>(by have:=(hn b (.inl z)).2.1;rw[q]at this;cases this),λz=>(by have:=(hn b (.inr z)).2.1;rw[q]at this;cases this)⟩
 have nl:∀b o,X.s₀.heap.get? b=some o->b≠X.env.locals:=λb o q=>wP (wX (wA q) I.ok.above)
 have kp:∀b o,b≠e->b ∉ ch->b≠X.env.locals->b ∉ X.fs->s.heap.get? b=some o->h'.get? b=some o:=λb o z1 z2 z3 z4 q=>k.old b o z1 z2 (by rw[hf];exact λz=>(vE.mp z).elim z3 z4) q
 have fs0:∀b∈X.fs,b<X.s₀.heap.objs.size:=λb hb=>by
  obtain⟨_,o,ho,_⟩:=I.ok.funs.mem hb
  exact wA ho
 have th:∀b o,b≠e->b ∉ ch->s.heap.get? b=some o->∃sl,h'.get? b=some { o with slots:=sl }:=λb o z1 z2 q=>by
  by_cases z:b∈EX.frsA (X.env::X.outer)
  ·exact k.slot b o z q
  ·exact⟨o.slots,k.old b o z1 z2 z q⟩
 have tr:∀b o,H b=some o->b≠e/\b ∉ ch/\b ∉ EX.frsA (X.env::X.outer):=λb o q=>⟨λz=>(by rw[(hn b (.inl z)).1]at q;cases q),λz=>(by rw[(hn b (.inr z)).1]at q;cases q),λz=>(by have:=I.stkFree b (by rw[hst];exact z);rw[q]at this;cases this)⟩
 refine⟨I.ok,I.os,I.bare,⟨λb o q n hb hx=>?_,λb o q n hb hx=>?_,I.base.free,λb o q hx=>?_,I.base.tups,I.base.frzs,I.base.tbls⟩,?_,λx c q=>?_,I.free,I.freeC,λp hp=>?_,λb o q=>?_,I.len⟩
 ·exact kp b o (in0 b o q).1 (in0 b o q).2 (nl b o q) hb (I.base.keep b o q n hb hx)
 ·obtain⟨sl,e1⟩:=I.base.slot b o q n hb hx
  obtain⟨sl',e2⟩:=th b _ (in0 b o q).1 (in0 b o q).2 e1
  exact⟨sl',e2⟩
 ·obtain⟨o',e1⟩:=I.base.there b o q hx
  obtain⟨sl,e2⟩:=th b _ (in0 b o q).1 (in0 b o q).2 e1
  exact⟨_,e2⟩
 ·obtain⟨m,⟨o,es,ep,ho,hr⟩,hl⟩:=I.loc
  have z1:X.env.locals≠e:=λz=>(hn _ (.inl rfl)).2.2.1 z.symm
  have z2:X.env.locals ∉ ch:=λz=>(hn _ (.inr z)).2.2.1 rfl
  obtain⟨sl,e2⟩:=th _ _ z1 z2 ho
  refine⟨m,⟨_,es,ep,e2,hr⟩,λi x v a1 a2 a3=>?_⟩
  obtain⟨u,ru,lk⟩:=hl i x v a1 a2 a3
  refine⟨u,ru,lk.imp id λ⟨hk,c,hc,hcell⟩=>⟨hk,c,hc,?_⟩⟩
  obtain⟨oc,hoc,hd⟩:=hcell
  refine⟨oc,kp c oc (λz=>(hn c (.inl z)).2.2.2.1 x c hc rfl) (λz=>(hn c (.inr z)).2.2.2.1 x c hc rfl) (I.cne x c hc) (λz=>?_) hoc,hd⟩
  exact absurd (wX (fs0 c z) (I.ok.cab x c (hfn x) hc)) (wY _)
 ·obtain⟨v,oc,hoc,hd⟩:=I.cell x c q
  refine⟨v,oc,kp c oc (λz=>(hn c (.inl z)).2.2.2.1 x c q rfl) (λz=>(hn c (.inr z)).2.2.2.1 x c q rfl) (I.cne x c q) (λz=>?_) hoc,hd⟩
  exact absurd (wX (fs0 c z) (I.ok.cab x c (hfn x) q)) (wY _)
 ·obtain⟨p1,p2,p3,p4,p5⟩:=I.pin p hp
  exact⟨kp p.1 p.2 (λz=>(hn _ (.inl z)).2.2.2.2 p hp rfl) (λz=>(hn _ (.inr z)).2.2.2.2 p hp rfl) p3 p4 p1,p2,p3,p4,p5⟩
 ·obtain⟨t1,t2,t3⟩:=tr b o q
  refine(I.hok b o q).stay (λc u hc r=>?_) (λ_ r=>r) λ_ _ r=>r
  rcases hc with hc|hc
  ·rw[hc]at r |-;exact k.old b u t1 t2 t3 r
  ·obtain⟨w1,w2,w3⟩:=tr c _ hc
   exact k.old c u w1 w2 w3 r
theorem Vg{M:Model}{A:Around}{E:Value->Shared->Prop}{i:Nat}{x:Str}{pos:Pos}{Q:Unit->Shared->Prop}(I:Zv X pins σ H s)(hN:X.N.Nodup)(hi:X.N[i]? = some x)(hx:X.env.scope.names.lookup x=some .local) 
  (h:∀s',Zv X pins (σ.set i none) H s'->Q () s'):wpAny M A (do bindName X.env x .none;unbindBehindTheSuite X.env x pos) Q E s:=by
 obtain⟨m,hn,hl⟩:=id I.loc
 have hcls:(X.env.scope.kind == .class||(X.env.scope.kind == .module&&X.env.locals != X.env.globals))=false:=by rw[I.ok.kind];rfl
 refine wpAny_nameGoes_keeps hx hn hcls λh' v hn' hs=>?_
 have nl:∀b o,X.s₀.heap.get? b=some o->b≠X.env.locals:=λb o q=>wP (wX (wA q) I.ok.above)
 have tr:∀b o,H b=some o->b≠X.env.locals:=λb o q z=>by rw[z,I.free]at q;cases q
 refine h _ ⟨I.ok,I.os,I.bare,⟨λb o q n hb hx=>(hs.2 b (nl b o q)).trans (I.base.keep b o q n hb hx),λb o q n hb hx=>?_,I.base.free,λb o q hx=>?_,I.base.tups,I.base.frzs,I.base.tbls⟩,⟨_,hn',λj y w a1 a2 a3=>?_⟩,λy c q=>?_,I.free,I.freeC,λp hp=>?_,λb o q=>?_,by simpa using I.len⟩
 ·obtain⟨sl,e1⟩:=I.base.slot b o q n hb hx
  exact⟨sl,(hs.2 b (nl b o q)).trans e1⟩
 ·obtain⟨o',e1⟩:=I.base.there b o q hx
  exact⟨o',(hs.2 b (nl b o q)).trans e1⟩
 ·have hj:j≠i:=λz=>by
   rw[z]at a2
   have:i<σ.length:=by rw[I.len];exact(vH.mp hi).1
   rw[vI this]at a2;cases a2
  rw[vJ (zQ hj)]at a2
  obtain⟨u,ru,lk⟩:=hl j y w a1 a2 a3
  have hy:y≠x:=λz=>hj (Sd hN (by rw[<- z];exact a1) hi)
  refine⟨u,ru,?_⟩
  rcases lk with ⟨hk,hm⟩|⟨hk,c,hc,oc,hoc,hd⟩
  ·exact .inl ⟨hk,by show(if y=x then _ else _)=_;rw[wH hy];exact hm⟩
  ·exact .inr ⟨hk,c,hc,oc,(hs.2 c (I.cne y c hc)).trans hoc,hd⟩
 ·obtain⟨w,oc,hoc,hd⟩:=I.cell y c q
  exact⟨w,oc,(hs.2 c (I.cne y c q)).trans hoc,hd⟩
 ·obtain⟨p1,p2,p3,p4,p5⟩:=I.pin p hp
  exact⟨(hs.2 _ p3).trans p1,p2,p3,p4,p5⟩
 ·refine(I.hok b o q).stay (λc u hc r=>(hs.2 c ?_).trans r) (λ_ r=>r) λ_ _ r=>r
  rcases hc with hc|hc
  ·rw[hc];exact tr b o q
  ·exact tr c _ hc
end
abbrev Cx.still(X:Cx):Cx:={ X with xe:=λ_ _=>False }
abbrev Cx.suite(X:Cx)(e:Addr):Cx:={ X with A:=X.A.mark (some (.ref e)),calm:=false,cold:=false,xe:=λ_ _=>False }
section
variable {X:Cx}{pins:List (Addr×Obj)}{σ:St}{H:Hp}{s:Shared}{C e d:Addr}{oe:Obj}
theorem Zv.still(I:Zv X pins σ H s):Zv X.still pins σ H s:=
 ⟨⟨I.ok.mod,I.ok.kind,I.ok.glob,I.ok.blt,I.ok.above,I.ok.inj,I.ok.has,I.ok.cab,I.ok.hd,I.ok.cd,I.ok.frames,I.ok.stk,I.ok.exf,I.ok.bs,I.ok.bsz,I.ok.noex,I.ok.exfs,I.ok.funs,I.ok.frf⟩,I.os,I.bare,I.base,I.loc,I.cell,I.free,I.freeC,I.pin,I.hok,I.len⟩
theorem Zv.live(I:Zv X.still pins σ H s):Zv X pins σ H s:=
 ⟨⟨I.ok.mod,I.ok.kind,I.ok.glob,I.ok.blt,I.ok.above,I.ok.inj,I.ok.has,I.ok.cab,I.ok.hd,I.ok.cd,I.ok.frames,I.ok.stk,I.ok.exf,I.ok.bs,I.ok.bsz,I.ok.noex,I.ok.exfs,I.ok.funs,I.ok.frf⟩,I.os,I.bare,I.base,I.loc,I.cell,I.free,I.freeC,I.pin,I.hok,I.len⟩
theorem Zv.suite(I:Zv X pins σ H s):Zv (X.suite e) pins σ H s:=
 ⟨⟨I.ok.mod,I.ok.kind,I.ok.glob,I.ok.blt,I.ok.above,I.ok.inj,I.ok.has,I.ok.cab,(λh=>(by cases h)),(λh=>(by cases h)),I.ok.frames,I.ok.stk,I.ok.exf,I.ok.bs,I.ok.bsz,I.ok.noex,I.ok.exfs,I.ok.funs,I.ok.frf⟩,I.os,I.bare,I.base,I.loc,I.cell,I.free,I.freeC,I.pin,I.hok,I.len⟩
theorem Zv.leave(I:Zv (X.suite e) pins σ H s)(O:X.Ok):Zv X pins σ H s:=
 ⟨⟨I.ok.mod,I.ok.kind,I.ok.glob,I.ok.blt,I.ok.above,I.ok.inj,I.ok.has,I.ok.cab,O.hd,O.cd,I.ok.frames,I.ok.stk,I.ok.exf,I.ok.bs,I.ok.bsz,I.ok.noex,I.ok.exfs,I.ok.funs,I.ok.frf⟩,I.os,I.bare,I.base,I.loc,I.cell,I.free,I.freeC,I.pin,I.hok,I.len⟩
theorem Zv.trackX{o:HO}(I:Zv X pins σ H s)(hH:H e=none)(h0:X.s₀.heap.get? e=none/\e≠X.env.locals/\(∀x c,X.env.cells.lookup x=some c->c≠e)/\∀p∈X.pn++pins,p.1≠e)(ok:Yx X.prog X.w H s.heap e o):Zv X pins σ (upd H e o) s:=by
 obtain⟨h0,hl,hc,hp⟩:=h0
 have nt:∀b o,H b=some o->b≠e:=λb o q z=>by rw[z,hH]at q;cases q
 refine⟨I.ok,I.os,I.bare,⟨I.base.keep,I.base.slot,λb o q n hx=>?_,I.base.there,λb xs q=>?_,λb o u q=>?_,λb ps q=>?_⟩,I.loc,I.cell,?_,λx c q=>?_,λp q=>?_,λb ob q=>?_,I.len⟩
 ·rw[Zi λz=>by rw[z,h0]at q;cases q];exact I.base.free b o q n hx
 ·have z:=I.base.tups b xs q;rw[Zi (nt b _ z)];exact z
 ·have z:=I.base.frzs b o u q;rw[Zi (nt b _ z)];exact z
 ·obtain⟨more,z⟩:=I.base.tbls b ps q;exact⟨more,by rw[Zi (nt b _ z)];exact z⟩
 ·rw[Zi (zQ hl)];exact I.free
 ·rw[Zi (hc x c q)];exact I.freeC x c q
 ·obtain⟨p1,p2,p3⟩:=I.pin p q
  exact⟨p1,by rw[Zi (hp p q)];exact p2,p3⟩
 ·by_cases z:b=e
  ·subst z
   rw[Zw]at q;cases q
   exact ok.stay (λ_ _ _ r=>r) (λc r=>by rw[Zi (nt c _ r)];exact r) λc xs r=>by rw[Zi (nt c _ r)];exact r
  ·rw[Zi z]at q
   exact(I.hok b ob q).stay (λ_ _ _ r=>r) (λc r=>by rw[Zi (nt c _ r)];exact r) λc xs r=>by rw[Zi (nt c _ r)];exact r
theorem Zv.notThere{b:Addr}(I:Zv X pins σ H s)(hex:X.ex=[])(h:s.heap.get? b=none):X.s₀.heap.get? b=none/\b≠X.env.locals/\(∀x c,X.env.cells.lookup x=some c->c≠b)/\∀p∈X.pn++pins,p.1≠b:=by
 refine⟨I.base.old (by rw[hex];exact λz=>nomatch z) h,λz=>?_,λx c q z=>?_,λp hp z=>?_⟩
 ·obtain⟨m,⟨o,_,_,ho,_⟩,_⟩:=I.loc
  rw[<- z,h]at ho;cases ho
 ·obtain⟨v,o,ho,_⟩:=I.cell x c q
  rw[z,h]at ho;cases ho
 ·have:=(I.pin p hp).1
  rw[z,h]at this;cases this
end
section
variable {prog:Program}{w:World}{A:Around}{E:Value->Shared->Prop}{s:Shared}{env:Env}
theorem Te{e C:Addr}{t:Expr}{n:Str}{b₀:Stmt}{suite:List Stmt}{pos:Pos}{rest:List ExceptHandler}{Q:Flow->Shared->Prop}{nm q N bs bm hdct sn sub ab col dd k0 k1 k2 k3 k5 newId}(hbase:bm.contains (.type "BaseException")=true) 
  (h:wpAny (model prog w) (A.mark (some (.ref e))) (eval t env) (λc s₁=>c=.ref C/\s₁.heap.get? C=some (excClassObj nm q C N bs bm hdct sn sub ab col dd k0 k1 k2 k3 k5 newId)/\(∃oe,s₁.heap.get? e=some oe/\oe.cls=.ref C) /\
   wpAny (model prog w) (A.mark (some (.ref e))) (setFlight (.ref e) none) (λ_ s₂=>
    wpAny (model prog w) (A.mark (some (.ref e))) (storeName env n (.ref e)) (λ_ s₃=>
     wpAny (model prog w) (A.mark (some (.ref e))) (execs (b₀::suite) env)
      (λf s₄=>wpAny (model prog w) A (do bindName env n .none;unbindBehindTheSuite env n pos) (λ_ s₅=>Q f s₅) E s₄)
      (λ_ _=>False) s₃) (λ_ _=>False) s₂) (λ_ _=>False) s₁) (λ_ _=>False) s) :
  wpAny (model prog w) A (handleBy (.ref e) env (.ExceptHandler (some t) (some n) (b₀::suite) pos::rest)) Q E s:=by
 refine wpAny_handleBy_cons (codeAny_handlers_test (vL h (λc s₁ h₁=>?_) λ_ _ x=>x.elim)) (by intro q;cases q)
 obtain⟨rfl,hC,⟨oe,he,hcls⟩,hk⟩:=h₁
 obtain⟨h1,g1,d1,t1,o1⟩:=s₁
 refine wpAny_excMatches_sub_self hC he hcls hbase ?_
 exact codeAny_handlers_suite_as (vL hk (λ_ s₂ h₂=>vL h₂ (λ_ s₃ h₃=>vL h₃ (λf s₄ h₄=>h₄) λ_ _ x=>x.elim) λ_ _ x=>x.elim) λ_ _ x=>x.elim)
end
section
variable {X:Cx}{k:Nat}{f C:Addr}{fd:FuncData}{ps:List Str}{sp:Sp}{dvs:List V}{ds:List Value}{i j:Nat}{x y cn n:Str}{e:Expr}{es:List Expr}{t:TA}{ts:Addr->Addr->TS}{b₀:Stmt}{suite:List Stmt}{np fp cp hp cpos apos pos:Pos}{B initId:String}{fld:Str}{fI:Addr}
theorem Hy(c:EC X.K C B initId fld fI)(hgC:Gl X cn)(hmC:X.mg cn=some (.ref C))(hs:∀e d,VS (X.suite e) (b₀::suite) (ts e d))(hN:X.N.Nodup)(hj:X.N[j]? = some n)(hn:X.env.scope.names.lookup n=some .local) 
  (hst:X.stack=X.env::X.outer) (hfr:X.env.frame=some X.env.locals) (hfn:∀x,X.fn x=true) (hex:X.ex=[]) (hdbC:(cn == ("__debug__" : Str))=false) {pins:List (Addr×Obj)}{σ:St}{H1:Hp}{s1 s2:Shared}{D:QA}{ev:Value} (I1:Zv X pins σ H1 s1)
  (hq:S1 X.prog X.w X.stack H1 s1 (λcv dx H2=>∃d,cv=.ref C/\dx=some d/\∀e oe,H2 e=none->EA C d oe->ts e d ⟨λσ' H'=>D.nx (σ'.set j none) H',D.rt,λσ' H'=>D.bk (σ'.set j none) H',λσ' H'=>D.ct (σ'.set j none) H'⟩ (σ.set j (some (.ref e))) (upd H2 e (.frz oe (PZ C e d)))) ev s2) :
  wpAny (model X.prog X.w) X.A (noteFrame ev X.env) (λ_ s₂=>wpAny (model X.prog X.w) X.A (setFlight ev none) (λ_ s₃=>wpAny (model X.prog X.w) X.A (handleBy ev X.env [.ExceptHandler (some (.Name cn cp)) (some n) (b₀::suite) hp]) (SP X pins D) X.xe s₃) X.xe s₂) X.xe s2:=by
 obtain⟨e,C',d,T,H2,rfl,ho,hbare,un,hok,x1,x2,hTe,n1,n2,m1,m2,d',hC',hd',q2⟩:=hq
 cases hC';cases hd'
 obtain⟨nm,qn,N',bs,bm,sn,sub,ab,col,dd,k0,k1,k2,k3,k5,newId,sa,owner,mN,oI,hC,hN',hi',hs',hf',FF,SF,hB,hfI,hfc⟩:=c.ex
 have I2:=I1.call' (ch:=[]) ho un hok hbare (λb z=>nomatch z)
 have ne:=I1.notThere hex n1
 have nT:=I1.notThere hex n2
 have hstk:s2.heap.FunFrames X.base (X.env::X.outer):=by rw[<- hst];exact I2.stack
 refine EX.note_next (T:=T) (by rw[I2.ok.frames,hst]) hstk hfr x1 x2 hTe λh' T' hT' y1 y2 y3=>?_
 have I3:=I2.exPass (ch:=[T]) (h':=h') (t':=s2.toks) hst hfr hfn hex y3 (λb z=>by
  rcases z with rfl|z
  ·exact⟨m1,ne⟩
  ·rw[xN]at z;rw[z];exact⟨m2,nT⟩)
 obtain⟨oe,vs',he',hc',hdx',hd',f1,f2⟩:=y1.ex
 obtain⟨oT,tv,hoT,hdT,f3⟩:=y2
 have heT:e≠T':=λz=>by
  obtain⟨o1,_,z1,_⟩:=x1.ex
  have:=wA z1
  rw[z]at this;exact absurd (wX this hT') (wY _)
 have I4:=I3.suite (e:=e)
 refine Te (C:=C) (nm:=nm) (q:=qn) (N:=N') (bs:=bs) (sn:=sn) (sub:=sub) (ab:=ab) (col:=col) (dd:=dd) (k0:=k0) (k1:=k1) (k2:=k2) (k3:=k3) (k5:=k5) (newId:=newId) (hdct:=true) FF.hasBase ?_
 refine Vk (X:=X.suite e) I4 hgC hmC ⟨rfl,I4.kIn _ _ hC,⟨oe,he',hc'⟩,?_⟩ hdbC
 refine wpAny_setFlight_none he' hd' f1 hoT hdT (tX.mp f3).1 ?_
 have other:∀b,b≠T'->(h'.update T' (Obj.mapFields (·.setIfInBounds 3 Value.none))).get? b=h'.get? b:=λb hb=>zP _ _ (zQ hb)
 have nT':=I2.notThere hex (vD hT')
 have I5:=I3.exPass (ch:=[T']) (h':=h'.update T' (Obj.mapFields (·.setIfInBounds 3 Value.none))) (t':=s2.toks) hst hfr hfn hex ⟨λb o z1 z2 z3 z4=>(other b λz=>z2 (by rw[z];exact xN.mpr rfl)).trans z4,λb o z1 z2=>⟨o.slots,(other b λz=>by
   obtain⟨_,o',ho',_⟩:=hstk.mem z1
   have:=wA ho'
   rw[z]at this;exact absurd (wX this hT') (wY _)).trans z2⟩⟩ (λb z=>by
  rcases z with rfl|z
  ·exact⟨m1,ne⟩
  ·rw[xN]at z;rw[z];exact⟨I2.hok.fresh hT',nT'⟩)
 have I6:=(I5.trackX (o:=.frz oe (PZ C e d)) m1 ne ⟨(other e heT).trans he',PZ.ok ((other e heT).trans he') ⟨hc',hdx',vs',hd',f2⟩⟩).suite (e:=e)
 refine Ve (X:=X.suite e) (v:=.ref e) I6 hN hj (.inl hn) rfl (λs6 I7=>?_) (.inr hn)
 refine Y2 (hs e d pins s6 _ _ _ I7 (q2 e oe m1 ⟨hc',hdx',vs',hd',f2⟩)) λfl s7 z=>?_
 cases fl with
 | next=>
  obtain⟨σ',H',I8,q⟩:=z
  exact Vg (I8.leave I1.ok) hN hj hn λs8 I9=>⟨_,_,I9,q⟩
 | brk=>
  obtain⟨σ',H',I8,q⟩:=z
  exact Vg (I8.leave I1.ok) hN hj hn λs8 I9=>⟨_,_,I9,q⟩
 | cont=>
  obtain⟨σ',H',I8,q⟩:=z
  exact Vg (I8.leave I1.ok) hN hj hn λs8 I9=>⟨_,_,I9,q⟩
 | ret u=>
  obtain⟨v,σ',H',I8,rv,q⟩:=z
  exact Vg (I8.leave I1.ok) hN hj hn λs8 I9=>⟨v,_,_,I9,rv,q⟩
end
section
variable {X:Cx}{pins:List (Addr×Obj)}{σ:St}{H:Hp}{s:Shared}{C e d:Addr}{oe:Obj}{fs:List (Str×V)}{fld:Str}{ex:Expr}{ta:TE}{pos:Pos}
theorem LO(I:Zv X pins σ H s)(he:H e=some (.frz oe (PZ C e d)))(hd:H d=some (.xd fs)):∃od,PySem.W.InstAt s.heap e oe C (some od)/\∀f v,fs.lookup f=some v->∃u,PySem.W.lookIn f od=some (some u)/\ZL v u:=by
 obtain⟨h1,⟨oe',h2,x⟩,_⟩:=I.hok e _ he
 rw[h1]at h2;cases h2
 obtain⟨mA,n,r⟩:=I.hok d _ hd
 obtain⟨od,ho,hl⟩:=Rt n
 obtain⟨vs,hf,_⟩:=x.fl
 refine⟨od,⟨h1,x.cls,by unfold PySem.W.notCls;rw[hf],by rw[x.dict];exact ho⟩,λf v q=>?_⟩
 obtain⟨u,hu,ru⟩:=Ww.some_of (v:=v) (o:=mA f) (by rw[<- q];exact r f)
 exact⟨u,by rw[hl,hu],ru⟩
def En(C:Addr)(fld:Str)(ta:TE):TE:=λσ H Q=>ta σ H λx H1=>∃e d oe fs v,x=.ref e/\H1 e=some (.frz oe (PZ C e d))/\H1 d=some (.xd fs)/\fs.lookup fld=some v/\Q v H1
theorem KO(G:EX.ExGet X.K C)(hD:PySem.W.hasDictIn X.K C=true)(hn:PySem.W.findIn X.K (.ref C) fld=some none)(he:PE X ex ta)(hb:attributeBase ex fld X.env (eval ex X.env)=eval ex X.env):PE X (.Attribute ex fld pos) (En C fld ta):=by
 intro pins s σ H Q I h
 refine J_ hb (Y2 (he pins s σ H _ I h) λu s1 ⟨x,H1,I1,rx,e,d,oe,fs,v,ev,z1,z2,z3,q⟩=>?_)
 subst ev
 obtain rfl:u=Value.ref e:=rx
 obtain⟨od,J,l⟩:=LO I1 z1 z2
 obtain⟨u,hu,ru⟩:=l _ _ z3
 exact EX.exc_get I1.kIn J G (EX.find_own hD hn hu) (Mt ru) ⟨v,H1,I1.tok _,ru,q⟩
theorem ZI(G:EX.ExCls X.K C):YE X (.builtin "isinstance") (λxs H Q=>∃e d oe fs c cv b,xs=[.ref e,c]/\(∀u,ZL c u->u=cv)/\H e=some (.frz oe (PZ C e d))/\H d=some (.xd fs)/\PySem.W.kitOne X.K (.ref C) cv=some b/\Q (.bl b) H):=by
 intro pins s σ H xs us Q I r ⟨e,d,oe,fs,c,cv,b,ex,rc,z1,z2,z3,q⟩
 subst ex
 cases r with
 | cons r1 r2=>
  cases r2 with
  | cons r2 r3=>
   cases r3
   rename_i u1 u2
   obtain rfl:u1=Value.ref e:=r1
   obtain⟨od,J,_⟩:=LO I z1 z2
   obtain rfl:=rc _ r2
   exact EX.exc_isi I.kIn J G z3 λtk=>⟨.bl b,H,I.tok _,rfl,q⟩
end
def YX(k:Nat)(A:Around):Prop:=Yg k { A with handled:=none }
theorem YX.mono{j k:Nat}{A:Around}(r:YX k A)(h:j≤k):YX j A:=Yg.mono (A:={ A with handled:=none }) r h
theorem Yg.H{k:Nat}{A:Around}(r:Yg k A):YX k A:=⟨rfl,r.dp,r.un,r.gd⟩
theorem YX.gd{k:Nat}{A:Around}(r:YX k A):A.guards=some []:=Yg.gd (A:={ A with handled:=none }) r
theorem YX.units{k:Nat}{A:Around}(r:YX k A):A.units+64<cLine:=Yg.units (A:={ A with handled:=none }) r
theorem YX.un{k:Nat}{A:Around}(r:YX k A):A.units+16*k+200<cLine:=Yg.un (A:={ A with handled:=none }) r
structure Nb(P:Program)(w:World)(K:Frag)(mg:Str->Option Value)(base:Heap)(k:Nat)(f:Addr)(fd:FuncData)(ps:List Str)(sp:Sp):Prop where
 len:∀vs H Q E,sp vs H Q E->vs.length=ps.length
 run:∀(A:Around) (outer:List Env) (s:Shared) (H:Hp) (args:Args) (us:List Value) (vs:List V) (Q:VK),YX k A->A.handled=none\/T2 A H->Ta P w K mg base A outer s H->BindsTo s fd args (ps.zip us)->ZD vs us->sp vs H Q E0 ->
  codeAny (model P w) A (.call (.ref f) args) (CR S0 outer P w H s Q E0) s
abbrev Cy(P:Program)(w:World)(K:Frag)(mg:Str->Option Value)(base:Heap)(N:List Str)(qual:Str)(scope:Scope)(f:Addr)(cd:Value)(A:Around)(outer:List Env)(s:Shared)(H:Hp):Cx:={ Xi S0 P w K mg base N qual scope f cd A outer s H E0 with cold:=false,xe:=λ_ _=>False }
section
variable {P:Program}{w:World}{K:Frag}{mg:Str->Option Value}{base:Heap}{N ps:List Str}{qual:Str}{scope:Scope}{f:Addr}{cd:Value}{A:Around}{outer:List Env}{s s1:Shared}{H:Hp}{us:List Value}{vs:List V}
theorem Ta.cool(e:Ta P w K mg base A outer s H):Ta P w K mg base { A with handled:=none } outer s H:=⟨e.frames,e.mod,e.bs,e.bsz,e.funs,e.frf,e.hok,e.bare⟩
theorem O5(S:Z8 N ps scope)(hot:A.handled=none\/T2 A H)(e0:Ta P w K mg base A outer s H)(hl:vs.length=ps.length)(r:ZD vs us) 
  (x:InCallC s s.heap.objs.size (bindL (envOfC qual scope s.heap.objs.size f cd).kindOf (ps.zip us) λ_=>none) (cellsFrom (s.heap.objs.size+1) scope.names []) (bindC (envOfC qual scope s.heap.objs.size f cd).kindOf (ps.zip us) λ_=>none) s1) :
  Zv (Cy P w K mg base N qual scope f cd A outer s H) [] (YA N vs) H s1:=by
 have I:=Rn (CX:=S0) (A:={ A with handled:=none }) (E:=E0) S rfl e0.cool hl r x
 exact⟨⟨I.ok.mod,I.ok.kind,I.ok.glob,I.ok.blt,I.ok.above,I.ok.inj,I.ok.has,I.ok.cab,λ_=>hot,(λh=>(by cases h)),Around.frames_deeper e0.frames,I.ok.stk,I.ok.exf,I.ok.bs,I.ok.bsz,I.ok.noex,I.ok.exfs,I.ok.funs,I.ok.frf⟩,I.os,I.bare,I.base,I.loc,I.cell,I.free,I.freeC,I.pin,I.hok,I.len⟩
end
theorem Fe{P:Program}{w:World}{K:Frag}{mg:Str->Option Value}{base:Heap}{k:Nat}{f:Addr}{name qual:Str}{params:Arguments}{body:List Stmt}{scope:Scope}{dV kV doc pm cdv ct oc:Value}{an od:Option Addr} 
  {osl:Array (Option Value)}{N ps:List Str}{sp:Sp} (lk:K.lookup f=some ⟨oc,od,.func (PySem.W.fnOf name qual params body scope dV kV doc pm an cdv ct),osl⟩) (hcd:PySem.W.codeIn K cdv qual=true) (S:Z8 N ps scope)
  (len:∀vs H Q E,sp vs H Q E->vs.length=ps.length)
  (hbody:∀(A:Around) (outer:List Env) (s:Shared) (H:Hp) (vs:List V) (Q:VK),YX k (A.deeper (envOfC qual scope s.heap.objs.size f cdv))->sp vs H Q E0 ->
   ∃t,VS (Cy P w K mg base N qual scope f cdv A outer s H) body t/\t { nx:=λ_ H'=>Q .non H',rt:=Q } (YA N vs) H) :
  Nb P w K mg base (k+1) f (PySem.W.fnOf name qual params body scope dV kV doc pm an cdv ct) ps sp:=by
 refine⟨len,λA outer s H args us vs Q hr hot e0 hb r hsp=>?_⟩
 have hl:=len _ _ _ _ hsp
 have KX:K.In s.heap:=e0.mod.kin.keeps λb o e=>(e0.bs b o e).1
 have lim:s.heap.NoLimit:=e0.mod.nolimit.keeps λb o e=>(e0.bs b o e).1
 have hkind:∀y∈ps.zip us,scope.names.lookup y.1=some .local \/ (scope.names.lookup y.1=some .cell/\((cellsFrom (s.heap.objs.size+1) scope.names []).lookup y.1).isSome=true):=λ⟨n,v⟩ hy=>(S.par n (uP hy).1).imp id λq=>⟨q,uQ _ _ _ (.inl q)⟩
 refine codeAny_call_function (show A.depth<recursionLimit from Yg.depth (A:={ A with handled:=none }) hr) (KX _ _ lk) rfl S.co S.gen rfl (PySem.W.codeRec_of KX hcd) (hb _ _ _ _ ?_)
 refine wpAny_newFunctionEnv_cells S.kind hkind λenv he s1 x=>?_
 subst he
 refine⟨lim.keeps x.toInCall.keep,codeAny_func ?_⟩
 obtain⟨t,ht,hq⟩:=hbody A outer s H vs Q (Yg.deeper (A:={ A with handled:=none }) hr _) hsp
 refine vL (ht [] s1 (YA N vs) H _ (O5 S hot e0 hl r x) hq) (λfl s' hs=>?_) λe s' hs=>hs.elim
 cases fl with
 | ret u=>
  obtain⟨v,σ',H',J,rv,q⟩:=hs
  exact⟨v,H',J.os,J.bare,J.base,J.hok,rv,q⟩
 | next=>
  obtain⟨σ',H',J,q⟩:=hs
  exact⟨.non,H',J.os,J.bare,J.base,J.hok,rfl,q⟩
 | brk=>
  obtain⟨_,_,_,q⟩:=hs
  exact False.elim q
 | cont=>
  obtain⟨_,_,_,q⟩:=hs
  exact False.elim q
section
variable {X:Cx}{k:Nat}{f:Addr}{fd:FuncData}{ps:List Str}{sp:Sp}{x:Str}{p pos:Pos}{e:Expr}{es:List Expr}{t:TA}
def Q3(A:Around)(sp:Sp)(t:TA):TE:=λσ H Q=>t σ H λvs H1=>T2 A H1/\sp vs H1 Q E0
theorem KJ{R:List V->Hp->VK->Prop}(hR:∀pins s σ H vs Q,Zv X pins σ H s->R vs H Q->(X.A.handled=none\/T2 X.A H)/\sp vs H Q E0)(F:Nb X.prog X.w X.K X.mg X.base k f fd ps sp)(hr:YX k X.A)(hg:Gl X x)(hm:X.mg x=some (.ref f))(hk:PySem.W.keepIn X.K (.ref f)=true)(hb:XQ X.K fd ps [])(ha:PA X (e::es) t)(hdb:(x == ("__debug__" : Str))=false:=by decide) 
  (he:starEach (e::es) X.env=(false,eval e X.env)::starEach es X.env:=by rfl) (hpl:(backTo pos (starEach es X.env)).any (·.1)=false:=by rfl):PE X (.Call (.Name x p) (e::es) [] pos) (λσ H Q=>t σ H λvs H1=>R vs H1 Q):=by
 intro pins s σ H Q I h
 refine uN (Vk I hg hm ?_ hdb)
 refine callWith_K (h₀:=X.base) I.ok.mod.kin hk (Y2 (ha pos pins s σ H _ I h) λus s1 ⟨vs,H1,I1,r,hq⟩=>⟨I1.kIn,?_⟩) he hpl
 obtain⟨hot,q⟩:=hR _ _ _ _ _ _ I1 hq
 have hl:(us++[]).length=ps.length:=by rw[uK,<- r.length];exact F.len _ _ _ _ q
 have hb1:=hb s1 us I1.kIn hl
 rw[uK]at hb1
 refine uL (uM (F.run X.A X.stack s1 H1 ⟨us,[]⟩ us vs Q hr hot I1.env0 hb1 r q) λr s' hq=>?_)
 cases r with
 | error e=>exact False.elim hq
 | ok fl=>
  cases fl with
  | ret u=>exact I1.after hq
  | next=>exact False.elim hq
  | brk=>exact False.elim hq
  | cont=>exact False.elim hq
theorem KL(F:Nb X.prog X.w X.K X.mg X.base k f fd ps sp)(hr:YX k X.A)(hg:Gl X x)(hm:X.mg x=some (.ref f))(hk:PySem.W.keepIn X.K (.ref f)=true)(hb:XQ X.K fd ps [])(ha:PA X (e::es) t)(hdb:(x == ("__debug__" : Str))=false:=by decide) 
  (he:starEach (e::es) X.env=(false,eval e X.env)::starEach es X.env:=by rfl) (hpl:(backTo pos (starEach es X.env)).any (·.1)=false:=by rfl):PE X (.Call (.Name x p) (e::es) [] pos) (Q3 X.A sp t):=
 KJ (R:=λvs H Q=>T2 X.A H/\sp vs H Q E0) (λ_ _ _ _ _ _ _ z=>⟨.inr z.1,z.2⟩) F hr hg hm hk hb ha hdb he hpl
end
section
variable {K:Frag}
theorem Ke{G:Hp}{fld:Str}{x:PyData}:∀{us:List (Str×V)}{fs:List (Str×PyData)},us.map (·.1)=fs.map (·.1)->ZE K G (fs.map (·.2)) (us.map (·.2))->fs.lookup fld=some x->∃u,us.lookup fld=some u/\DW K G x u
 | [],[],_,_,h=>by cases h
 | [],_::_,e,_,_=>by cases e
 | _::_,[],e,_,_=>by cases e
 | (a,u)::us,(b,y)::fs,e,d,h=>by
  simp only[uE,sB]at e
  rw[uE,uE]at d
  unfold ZE at d
  obtain⟨v,r,q,d1,d2⟩:=d
  cases q
  obtain⟨rfl,e⟩:=e
  rw[yU]at h |-
  split at h
  ·cases h;exact⟨u,rfl,d1⟩
  ·exact Ke e d2 h
def GS(C:Addr)(fld:Str)(da:ZG):ZG:=λs k=>da s λv s1=>match v with | .exc _ C' _ fs=>C'=C/\∃x,fs.lookup fld=some x/\k (.d x) s1|_=>False
theorem Jg{C:Addr}{fld:Str}{ta:TE}{da:ZG}(ha:RE K ta da):RE K (En C fld ta) (GS C fld da):=by
 refine⟨λs Q Q' h q=>ha.mo _ _ _ (λv s1 q=>?_) q,λG s σ H Q r q=>ha.ok G s σ H _ r (ha.mo _ _ _ (λv s1 y G1 H1 x e1 r1 v1=>?_) q)⟩
 ·split at q
  ·obtain⟨q1,x,q2,q3⟩:=q;exact⟨q1,x,q2,h _ _ q3⟩
  ·exact q.elim
 ·split at y
  ·obtain⟨rfl,z,hz,y⟩:=y
   obtain⟨rfl,oe,us,h1,h2,h3,h5,h4⟩:=v1
   obtain⟨u,hu,d⟩:=Ke h5 h4 hz
   exact⟨_,_,oe,_,u,rfl,r1.sub _ _ h1,r1.sub _ _ h2,hu,y G1 H1 u e1 r1 d⟩
  ·exact y.elim
def Il(C:Addr)(isx:V->Option Bool):List Val->ZG:=λvs s k=>match vs with
 | [.exc _ C' _ _,.raw c]=>C'=C/\∃b,isx c=some b/\k (.d (.bool b)) s
 | _=>False
theorem Yd{C:Addr}{isx:V->Option Bool}(hi:∀c b,isx c=some b->∃cv,(∀u,ZL c u->u=cv)/\PySem.W.kitOne K (.ref C) cv=some b):
  RC K (λxs H Q=>∃e d oe fs c cv b,xs=[.ref e,c]/\(∀u,ZL c u->u=cv)/\H e=some (.frz oe (PZ C e d))/\H d=some (.xd fs)/\PySem.W.kitOne K (.ref C) cv=some b/\Q (.bl b) H) (Il C isx):=by
 refine⟨λvs s Q Q' h q=>?_,λG s σ H xs vs Q r vr q=>?_⟩
 ·unfold Il at q |-;split at q
  ·obtain⟨h1,b,h2,q⟩:=q;exact⟨h1,b,h2,h _ _ q⟩
  ·exact q.elim
 ·unfold Il at q;split at q
  ·obtain⟨rfl,b,h2,q⟩:=q
   cases vr with
   | cons v1 v2=>
    cases v2 with
    | cons v2 v3=>
     cases v3
     obtain⟨rfl,oe,u,g1,g2,g3,g5,g4⟩:=v1
     cases v2
     obtain⟨cv,z1,z2⟩:=hi _ _ h2
     exact⟨_,_,oe,_,_,cv,b,rfl,z1,r.sub _ _ g1,r.sub _ _ g2,z2,q.here r Xu⟩
  ·exact q.elim
end
abbrev V8:=List Val->OW->(Val->OW->Prop)->(PyData->OW->Prop)->Prop
def Cn(f:V8):Prop:=∀vs w (k k':Val->OW->Prop) (x x':PyData->OW->Prop),(∀v w',k v w'->k' v w')->(∀v w',x v w'->x' v w')->f vs w k x->f vs w k' x'
def B0(K:Frag)(C:Addr)(fld:Str)(f:V8):Sp:=λvs H Q E=>∃(G:Hp) (w:OW) (as:List Val),Z5 G H/\YN K G w H/\VRs K G as vs /\
 f as w (λv w'=>∀G' H' x,Z5 G G'->Z5 G' H'->YN K G' w' H'->VR K G' v x->Q x H') (λx w'=>∀G' H' u d,Z5 G G'->Z5 G' H'->YN K G' w' H'->G' d=some (.xd [(fld,u)])->DW K G' x u->E (.ref C) (some d) H')
section
variable {K:Frag}{C:Addr}{fld:Str}
theorem Yw.unset{G H:Hp}{s:DS}{σ:St}(r:Yw K G s σ H)(j:Nat):Yw K G ⟨s.e.set j none,s.w⟩ (σ.set j none) H:=by
 refine r.env ⟨by simpa using r.sl.1,λi v z=>?_⟩
 by_cases h:i=j
 ·subst h
  rw[List.getElem?_set]at z
  simp at z
 ·rw[vJ (zQ h)]at z |-
  exact r.sl.2 i v z
def RH(j:Nat)(E:XR):XR:={ nx:=λs=>E.nx ⟨s.e.set j none,s.w⟩,rt:=E.rt,bk:=λs=>E.bk ⟨s.e.set j none,s.w⟩,ct:=λs=>E.ct ⟨s.e.set j none,s.w⟩ }
end
structure JT(P:Program)(w:World)(K:Frag)(mg:Str->Option Value)(base:Heap)(k:Nat)(x:Str)(st:Stmt)(ps:List Str)(sp:Sp):Prop where
 ex:∃f fd,Nb P w K mg base k f fd ps sp/\VQ K x x st f fd/\mg x=some (.ref f)
section
variable {P:Program}{w:World}{K:Frag}{mg:Str->Option Value}{base:Heap}
theorem JT.of{x:Str}{st:Stmt}{N ps:List Str}{k:Nat}{sp:Sp}(U:∃f fd,VQ K x x st f fd/\mg x=some (.ref f))(S:Z8 N ps (Zg st))(len:∀vs H Q E,sp vs H Q E->vs.length=ps.length) 
  (hbody:∀(f:Addr) (cdv:Value) (A:Around) (outer:List Env) (s:Shared) (H:Hp) (vs:List V) (Q:VK),YX k (A.deeper (envOfC x (Zg st) s.heap.objs.size f cdv))->sp vs H Q E0 ->
   ∃t,VS (Cy P w K mg base N x (Zg st) f cdv A outer s H) (ZQ st) t/\t { nx:=λ_ H'=>Q .non H',rt:=Q } (YA N vs) H):JT P w K mg base (k+1) x st ps sp:=by
 obtain⟨f,fd,F,m⟩:=U
 obtain⟨oc,od,kV,doc,pm,an,cdv,ct,osl,rfl,lk,hcd⟩:=F.ex
 exact⟨f,_,Fe lk hcd S len λA outer s H vs Q hr hsp=>hbody f cdv A outer s H vs Q hr hsp,F,m⟩
theorem JT.data{x:Str}{st:Stmt}{N ps:List Str}{k:Nat}{f:WH}(U:∃a fd,VQ K x x st a fd/\mg x=some (.ref a))(S:Z8 N ps (Zg st))(len:∀vs w k,f vs w k->vs.length=ps.length) 
  (hbody:∀(a:Addr) (cdv:Value) (A:Around) (outer:List Env) (s:Shared) (H:Hp),YX k (A.deeper (envOfC x (Zg st) s.heap.objs.size a cdv)) ->
   ∃t d,VS (Cy P w K mg base N x (Zg st) a cdv A outer s H) (ZQ st) t/\RS K t d/\∀(as:List Val) (o:OW) (q:Val->OW->Prop),f as o q->d { nx:=λs=>∃w',OW.le w' s.w/\q (.d .none) w',rt:=λv s=>∃w',OW.le w' s.w/\q v w' } ⟨Yk N as,o⟩):JT P w K mg base (k+1) x st ps (V7 K f):=by
 refine JT.of U S (λvs H Q E h=>?_) (λa cdv A outer s H vs Q hr h=>?_)
 ·obtain⟨G,o,as,_,_,h1,h2⟩:=h
  rw[<- h1.length];exact len _ _ _ h2
 ·obtain⟨G,o,as,h1,h2,h3,h4⟩:=h
  obtain⟨t,d,q1,q2,q3⟩:=hbody a cdv A outer s H hr
  refine⟨t,q1,q2 G ⟨Yk N as,o⟩ (YA N vs) H _ { nx:=λs=>∃w',OW.le w' s.w/\_,rt:=λv s=>∃w',OW.le w' s.w/\_ } ⟨h1,h2,Xr h3⟩ ⟨λs' G' σ' H' e r z=>?_,λv s' G' σ' H' x e r v1 z=>?_,λ_ _ _ _ _ _ z=>False.elim z,λ_ _ _ _ _ _ z=>False.elim z⟩ (q3 as o _ h4)⟩
  ·obtain⟨w',l,z⟩:=z
   exact z G' H' .non e r.sub (r.own.le l) WA
  ·obtain⟨w',l,z⟩:=z
   exact z G' H' x e r.sub (r.own.le l) v1
end
section
variable {X:Cx}{K:Frag}{k:Nat}{x:Str}{st:Stmt}{ps:List Str}{sp:Sp}{p pos:Pos}{e:Expr}{es:List Expr}{t:TA}
theorem IK(D:JT X.prog X.w X.K X.mg X.base k x st ps sp)(hb:ZF x st ps)(hr:YX k X.A)(ha:PA X (e::es) t)(hg:Gl X x:=by rfl)(hs:starEach (e::es) X.env=(false,eval e X.env)::starEach es X.env:=by rfl)(hpl:(backTo pos (starEach es X.env)).any (·.1)=false:=by rfl) 
  (hdb:(x == ("__debug__" : Str))=false:=by decide):PE X (.Call (.Name x p) (e::es) [] pos) (Q3 X.A sp t):=by
 obtain⟨f,fd,F,U,m⟩:=D.ex
 exact KL F hr hg m U.kp (U.binds hb) ha hdb hs hpl
def Oq(e:Addr)(f:WH)(da:XN):ZG:=λs k=>da s λvs s1=>(∃C d fs,some (Val.exc e C d fs)∈s1.e)/\f vs s1.w (λv w'=>k v ⟨s1.e,w'⟩)
theorem Jf{A:Around}{a:Addr}{f:WH}{da:XN}(hA:A.handled=some (.ref a))(hm:MZ f)(ha:RA K t da):RE K (Q3 A (V7 K f) t) (Oq a f da):=by
 refine⟨λs Q Q' h q=>ha.mo _ _ _ (λvs s1 q1=>⟨q1.1,hm _ _ _ _ (λv w' z=>h _ _ z) q1.2⟩) q,λG s σ H Q r h=>ha.ok G s σ H _ r (ha.mo _ _ _ (λvs s1 y G1 H1 xs e1 r1 v1=>?_) h)⟩
 obtain⟨⟨C,d,fs,m⟩,y⟩:=y
 obtain⟨i,hi⟩:=List.mem_iff_getElem?.mp m
 obtain⟨_,_,_,oe,u,g1,_,g3,_⟩:=r1.sl.2 i _ hi
 obtain⟨fl,h1,h2⟩:=g3.fl
 refine⟨⟨a,oe,_,fl,hA,r1.sub _ _ g1,h1,h2⟩,G1,s1.w,vs,r1.sub,r1.own,v1,hm _ _ _ _ (λv w' z G' H' x e2 u2 o2 vx=>?_) y⟩
 exact z G' H' x (e1.trans e2) ⟨u2,o2,r1.sl.same e2⟩ vx
end
def Md(K:Frag)(B:Hp)(t:TS)(d:Wd):Prop:=∀G s σ H D E,Z5 B G->Yw K G s σ H->EN K G D E->d E s->t D σ H
def Bp(K:Frag)(C:Addr)(fld:Str)(B:Hp)(E:XK)(kx:PyData->OW->Prop):Prop:=∀x w' G' H' u d,Z5 B G'->Z5 G' H'->YN K G' w' H'->G' d=some (.xd [(fld,u)])->DW K G' x u->kx x w'->E (.ref C) (some d) H'
section
variable {K:Frag}{B:Hp}{C:Addr}{fld:Str}
theorem RS.b{t:TS}{d:Wd}(h:RS K t d):Md K B t d:=λG s σ H D E _ r p q=>h G s σ H D E r p q
theorem Vp{t u:TS}{d e:Wd}(h:Md K B t d)(q:Md K B u e):Md K B (Hv t u) (LA d e):=by
 intro G s σ H D E b r p z
 refine h G s σ H _ { E with nx:=e E } b r ⟨λs' G' σ' H' e1 r1 z1=>?_,p.rt,p.bk,p.ct⟩ z
 exact q G' s' σ' H' D E (b.trans e1) r1 (p.same e1) z1
theorem Ju{c:TT}{t u:TS}{dc:Vt}{d e:Wd}(hc:RT K c dc)(h:Md K B t d)(q:Md K B u e):Md K B (Ht c t u) (Ic dc d e):=by
 intro G s σ H D E b r p z
 refine hc.ok G s σ H _ r (hc.mo _ _ _ (λy s1 z G1 H1 e1 r1=>?_) z)
 cases y
 ·exact q G1 s1 σ H1 D E (b.trans e1) r1 (p.same e1) z
 ·exact h G1 s1 σ H1 D E (b.trans e1) r1 (p.same e1) z
end
structure GB(P:Program)(w:World)(K:Frag)(mg:Str->Option Value)(base:Heap)(k:Nat)(x:Str)(st:Stmt)(ps:List Str)(sp:Sp):Prop where
 ex:∃f fd,Xv P w K mg base (S1 P w) k f fd ps sp/\VQ K x x st f fd/\mg x=some (.ref f)
theorem GB.data{P:Program}{w:World}{K:Frag}{mg:Str->Option Value}{base:Heap}{C:Addr}{fld x:Str}{st:Stmt}{N ps:List Str}{k:Nat}{f:V8}(U:∃a fd,VQ K x x st a fd/\mg x=some (.ref a))(S:Z8 N ps (Zg st))(len:∀vs w k kx,f vs w k kx->vs.length=ps.length) 
  (hbody:∀(a:Addr) (cdv:Value) (A:Around) (outer:List Env) (s:Shared) (H B:Hp) (E:XK) (kx:PyData->OW->Prop),Yg k (A.deeper (envOfC x (Zg st) s.heap.objs.size a cdv))->Bp K C fld B E kx ->
   ∃t d,VS (Xi (S1 P w) P w K mg base N x (Zg st) a cdv A outer s H E) (ZQ st) t/\Md K B t d/\∀(as:List Val) (o:OW) (q:Val->OW->Prop),f as o q kx->d { nx:=λs=>∃w',OW.le w' s.w/\q (.d .none) w',rt:=λv s=>∃w',OW.le w' s.w/\q v w' } ⟨Yk N as,o⟩):GB P w K mg base (k+1) x st ps (B0 K C fld f):=by
 obtain⟨a,fd,F,m⟩:=U
 obtain⟨oc,od,kV,doc,pm,an,cdv,ct,osl,rfl,lk,hcd⟩:=F.ex
 refine⟨a,_,Ri lk hcd S (λvs H Q E h=>?_) (λA outer s H vs Q E hr h=>?_),F,m⟩
 ·obtain⟨G,o,as,_,_,h1,h2⟩:=h
  rw[<- h1.length];exact len _ _ _ _ h2
 ·obtain⟨G,o,as,h1,h2,h3,h4⟩:=h
  obtain⟨t,d,q1,q2,q3⟩:=hbody a cdv A outer s H G E (kx:=λx w'=>∀G' H' u d,Z5 G G'->Z5 G' H'->YN K G' w' H'->G' d=some (.xd [(fld,u)])->DW K G' x u->E (.ref C) (some d) H') hr λx w' G' H' u d e1 e2 e3 e4 e5 z=>z G' H' u d e1 e2 e3 e4 e5
  refine⟨t,q1,q2 G ⟨Yk N as,o⟩ (YA N vs) H _ { nx:=λs=>∃w',OW.le w' s.w/\_,rt:=λv s=>∃w',OW.le w' s.w/\_ } (Z5.refl G) ⟨h1,h2,Xr h3⟩ ⟨λs' G' σ' H' e r z=>?_,λv s' G' σ' H' x e r v1 z=>?_,λ_ _ _ _ _ _ z=>False.elim z,λ_ _ _ _ _ _ z=>False.elim z⟩ (q3 as o _ h4)⟩
  ·obtain⟨w',l,z⟩:=z
   exact z G' H' .non e r.sub (r.own.le l) WA
  ·obtain⟨w',l,z⟩:=z
   exact z G' H' x e r.sub (r.own.le l) v1
theorem IPA.get{X:Cx}{e:List Expr}{t:TA}(h:IPA X e t):PA X e t:=by rw[<- Zy];exact h
theorem IPE.get{X:Cx}{e:Expr}{t:TE}(h:IPE X e t):PE X e t:=by rw[<- Zt];exact h
theorem IPG.get{X:Cx}{e:Expr}{t:TG}(h:IPG X e t):PG X e t:=by rw[<- Z1];exact h
theorem IPGs.get{X:Cx}{e:List Expr}{t:P_}(h:IPGs X e t):GG X e t:=by rw[<- Zo];exact h
theorem IPI.get{X:Cx}{a b:Expr}{t:TI}(h:IPI X a b t):PI X a b t:=by rw[<- Zz];exact h
theorem IPTs.get{X:Cx}{e:List Expr}{t:TT}(h:IPTs X e t):JV X e t:=by rw[<- Zq];exact h
section
variable {X:Cx}{k:Nat}{f C:Addr}{fd:FuncData}{ps:List Str}{sp:Sp}{i j:Nat}{x y cn n:Str}{e:Expr}{es:List Expr}{t:TA}{ts:Addr->Addr->TS}{b₀:Stmt}{suite:List Stmt}{np fp cp hp cpos apos pos p:Pos}{B initId:String}{fld:Str}{fI:Addr}{st:Stmt}{ta:TE}
theorem TV(G:EX.ExGet X.K C)(hD:PySem.W.hasDictIn X.K C=true)(hn:PySem.W.findIn X.K (.ref C) fld=some none)(he:IPE X e ta)(hb:attributeBase e fld X.env (eval e X.env)=eval e X.env:=by rfl):IPE X (.Attribute e fld pos) (En C fld ta):=by
 rw[Zt];exact KO G hD hn he.get hb
theorem Mx(D:JT X.prog X.w X.K X.mg X.base k x st ps sp)(hb:ZF x st ps)(hr:YX k X.A)(ha:IPA X (e::es) t)(hg:Gl X x:=by rfl)(hs:starEach (e::es) X.env=(false,eval e X.env)::starEach es X.env:=by rfl)(hpl:(backTo pos (starEach es X.env)).any (·.1)=false:=by rfl)(hdb:(x == ("__debug__" : Str))=false:=by decide):IPE X (.Call (.Name x p) (e::es) [] pos) (Q3 X.A sp t):=by
 rw[Zt];exact IK D hb hr ha.get hg hs hpl hdb
end
section
variable {P:Program}{w:World}{K:Frag}{mg:Str->Option Value}{base:Heap}{N:List Str}{qual:Str}{scope:Scope}{f:Addr}{cdv:Value}{A:Around}{outer:List Env}{s₀:Shared}{H₀:Hp}{E:XK}
theorem Gp:T3 (S1 P w) (Xi (S1 P w) P w K mg base N qual scope f cdv A outer s₀ H₀ E) E:=by
 intro pins σ H s ev s2 I1 hq
 obtain⟨e,C,d,T,H2,rfl,ho,hbare,un,hok,x1,x2,hTe,n1,n2,m1,m2,q2⟩:=hq
 have I2:=I1.call' (ch:=[]) ho un hok hbare (λb z=>nomatch z)
 have ne:=I1.notThere rfl n1
 have nT:=I1.notThere rfl n2
 show wpAny _ _ (leaving _ _) _ _ _
 unfold leaving
 refine zL ?_
 refine EX.note_next (T:=T) I2.ok.frames I2.stack rfl x1 x2 hTe λh' T' hT' y1 y2 y3=>?_
 have I3:=I2.exPass (ch:=[T]) (h':=h') (t':=s2.toks) rfl rfl (λ_=>rfl) rfl y3 (λb z=>by
  rcases z with rfl|z
  ·exact⟨m1,ne⟩
  ·rw[xN]at z;rw[z];exact⟨m2,nT⟩)
 have nT':=I2.notThere rfl (vD hT')
 have heT:T'≠e:=λz=>by
  obtain⟨o1,_,z1,_⟩:=x1.ex
  have:=wA z1
  rw[<- z]at this;exact absurd (wX this hT') (wY _)
 exact⟨e,C,d,T',H2,rfl,I3.os,I3.bare,I3.base,I3.hok,y1,y2,heT,ne.1,nT'.1,m1,I2.hok.fresh hT',q2⟩
end
section
variable {X:Cx}{k:Nat}{C:Addr}{ps:List Str}{sp:Sp}{j:Nat}{x y cn n:Str}{e:Expr}{es:List Expr}{t:TA}{ts:Addr->Addr->TS}{b₀:Stmt}{suite:List Stmt}{np fp cp hp cpos apos pos p:Pos}{B initId:String}{fld:Str}{fI:Addr}{st:Stmt}{E:XK}
theorem Rl(D:GB X.prog X.w X.K X.mg X.base k x st ps sp)(hx:T3 (S1 X.prog X.w) X E)(hb:ZF x st ps)(hr:Yg k X.A)(ha:IPA X (e::es) t)(hg:Gl X x:=by rfl)(hs:starEach (e::es) X.env=(false,eval e X.env)::starEach es X.env:=by rfl)(hpl:(backTo pos (starEach es X.env)).any (·.1)=false:=by rfl)(hdb:(x == ("__debug__" : Str))=false:=by decide):IPE X (.Call (.Name x p) (e::es) [] pos) (R3 sp [] E t):=by
 obtain⟨f,fd,F,U,m⟩:=D.ex
 rw[Zt];exact NF F hr hg m U.kp (U.binds hb) .nil hx ha.get (hdb:=hdb) (he:=hs) (hpl:=hpl)
end
section
variable {K:Frag}{B:Hp}{C:Addr}{fld:Str}{f:V8}{t:TA}{da:XN}
def Ot(kx:PyData->OW->Prop)(f:V8)(da:XN):Wd:=λE s=>da s λvs s1=>f vs s1.w (λv w'=>E.nx ⟨s1.e,w'⟩) kx
end
end L2
namespace L2
open PySem PySem.W PySem.W.ZRun PySem.W.X PySem.Spec PyProof.Rows
end L2
namespace L2
open PySem PySem.Spec PyProof.Rows
open AutoSeq1 (wpAny_loadPart')
section
variable {K:Frag}{G G' H H':Hp}{s:DS}{σ:St}
def HL(d:XN):S4:=λs k=>d s λvs s1=>match vs with | [.d (.tuple ds)]=>k (ds.reverse,MV) s1|_=>False
end
end L2
namespace L2
open PySem PySem.Spec PyProof.Rows
open AutoSeq1 (wpAny_loadPart')
section
variable {K:Frag}
def Nr(d:XN):ZG:=λs k=>d s λvs s1=>match vs with | [v]=>(match rdL s1.w v with|some ds=>k (.d (.tuple ds.reverse)) s1|none=>False)|_=>False
end
end L2
namespace L2
open PySem PySem.Spec PyProof.Rows
open AutoSeq1 (wpAny_loadPart')
end L2
namespace L2
open PySem PySem.Spec PyProof.Rows
open AutoSeq1 (wpAny_loadPart')
def B5(K:Frag)(t1 t2:Bool)(a b:Addr):It:=
 ⟨λi H=>∃xs ys x y,S3 K t1 H a xs/\S3 K t2 H b ys/\xs[i]? = some x/\ys[i]? = some y,
   λi H v H'=>∃p q x y,v=.ref q/\H p=none/\H q=none/\q≠p/\H'=upd (upd H p (.tup [x,y])) q (.tup [.int i,.ref p])/\∀xs ys,S3 K t1 H a xs->S3 K t2 H b ys->xs[i]? = some x/\ys[i]? = some y,
   λi H=>∃xs ys,S3 K t1 H a xs/\S3 K t2 H b ys/\(xs.length≤i\/ys.length≤i),false⟩
section
variable {K:Frag}{G G' H H':Hp}{s:DS}{σ:St}
def C2(ds es:List PyData):List PyData:=Wh (Sy ds es)
theorem Tp.ez{t1 t2:Bool}{a b:Addr}{xs ys:List V}{ds es:List PyData}(h:HC K t1 G a xs)(h':HC K t2 G b ys)(D:ZE K G ds xs)(D':ZE K G es ys):Tp K (B5 K t1 t2 a b) G (λ_=>True) (C2 ds es):=by
 intro G1 s σ H i e _ r
 have hs:=h.sq (e.trans r.sub)
 have hs':=h'.sq (e.trans r.sub)
 refine⟨λd hd=>?_,λhl=>⟨xs,ys,hs,hs',?_⟩⟩
 ·unfold C2 Wh Sy at hd
  rw[tJ,uV]at hd
  cases q:(ds.zip es)[i]? with
  | none=>rw[q]at hd;cases hd
  | some p=>
   rw[q]at hd
   cases hd
   obtain⟨q1,q2⟩:=yZ.mp q
   obtain⟨x,h1,h2⟩:=D.get' q1
   obtain⟨y,h3,h4⟩:=D'.get' q2
   refine⟨⟨xs,ys,x,y,hs,hs',h1,h3⟩,λv H' hy=>?_⟩
   obtain⟨p',q',x',y',rfl,hp,hq,hne,rfl,hxy⟩:=hy
   obtain⟨z1,z2⟩:=hxy xs ys hs hs'
   rw[h1]at z1;cases z1
   rw[h3]at z2;cases z2
   have hg:=r.sub.free hp
   have S:=Yv hg (.tup [x,y])
   have r1:=r.new hp (.tup [x,y])
   have hq1:upd H p' (.tup [x,y]) q'=none:=by rw[Zi hne];exact hq
   have hg2:=r1.sub.free hq1
   have S2:=Yv hg2 (.tup [.int (i:Nat),.ref p'])
   refine⟨_,S.trans S2,r1.new hq1 _,DW.tup Zw (ZE.cons DW.int (ZE.cons ?_ ZE.nil))⟩
   exact(DW.tup Zw (ZE.cons (h2.same (e.trans S)) (ZE.cons (h4.same (e.trans S)) ZE.nil))).same S2
 ·unfold C2 Wh Sy at hl
  rw[List.length_mapIdx,Uh,length_zip,D.length,D'.length]at hl
  omega
def Bt(t1 t2:Bool)(d:XN):S4:=λs k=>d s λvs s1=>match vs with | [v,w]=>(match Qx t1 v,Qx t2 w with|some ds,some es=>k (C2 ds es,MV) s1|_,_=>False)|_=>False
end
end L2
namespace L2
open PySem PySem.Spec PyProof.Rows
section
variable {K:Frag}{G:Hp}
def Np(o:Bool)(d:XN):ZG:=λs k=>d s λvs s1=>match vs with | [.d (.int j)]=>(-(2 ^ 62)≤j/\j≤100000)/\nl o (Si 0 j.toNat) s1 k|_=>False
end
open AutoSeq1 (wpAny_loadPart')
end L2
namespace L2
open PySem PySem.Spec PyProof.Rows
open AutoSeq1 (wpAny_loadPart')
end L2
namespace L2
open PySem PySem.Spec PyProof.Rows
open AutoSeq1 (wpAny_loadPart')
end L2
namespace L2
open PySem PySem.Spec PyProof.Rows
section
variable {K:Frag}
def B9(l:List (List Int×PyData)):List (List Int×PyData):=l.foldl (λd q=>LH d q.1 q.2) []
def Nl(di:S4):ZG:=λs k=>di s λsrc s1=>∃l:List (List Int×PyData),(∀w,src.2 w)/\src.1=l.map (λq=>.tuple [tI q.1,q.2])/\(∀q∈l,q.1≠[])/\l.length<sizeLine/\k (.d (.dict (Ue (B9 l)))) s1
end
def KY:Expr->Bool
 | .Starred ..=>false
 | _=>true
theorem OU{e:Expr}{es:List Expr}{env:Env}(h:KY e=true):starEach (e::es) env=(false,eval e env)::starEach es env:=by
 cases e<;>first|rfl|cases h
theorem Zj{X:Cx}{e:Expr}{te:TE}{es:List Expr}{t:TA}(ha:IPE X e te)(hr:IPA X es t)(h:KY e=true:=by rfl):IPA X (e::es) (NW te t):=Za ha hr (OU h)
theorem Dn.dataI{K:W.Frag}{P:Program}{w:World}{mg:Str->Option Value}{base:Heap}{x:Str}{st:Stmt}{N ps:List Str}{k:Nat}{f:WH}(U:∃a fd,VQ K x x st a fd/\mg x=some (.ref a))(S:Z8 N ps (Zg st))(len:∀vs w k,f vs w k->vs.length=ps.length) 
  (hbody:∀(a:Addr) (cdv:Value) (A:Around) (outer:List Env) (s:Shared) (H:Hp) (E:XK),Yg k (A.deeper (envOfC x (Zg st) s.heap.objs.size a cdv)) ->
   ∃t d,IPSs (Xi S0 P w K mg base N x (Zg st) a cdv A outer s H E).nox (ZQ st) t/\RS K t d/\∀(as:List Val) (o:OW) (q:Val->OW->Prop),f as o q->d { nx:=λs=>∃w',OW.le w' s.w/\q (.d .none) w',rt:=λv s=>∃w',OW.le w' s.w/\q v w' } ⟨Yk N as,o⟩):Dn P w K mg base (k+1) x st ps (V7 K f):=
 Dn.data U S len λa cdv A outer s H E hr=>(hbody a cdv A outer s H E hr).elim λt h=>h.elim λd h=>⟨t,d,IPSs.get h.1,h.2⟩
section
variable {X:Cx}{K:W.Frag}{G:Hp}
theorem VA(hg:X.A.guards=some [])(hu:X.A.units+64<cLine):YE X (.builtin "repr") (λxs H Q=>(∃a d,xs=[.ref a]/\DV X.K H d (.ref a)/\d.showable=true/\d.hasDict=false/\d.depth≤40/\d.shown.length≤sizeLine/\Q (.str d.shown) H)\/(xs=[.non]/\Q (.str "None") H)\/∃i:Int,xs=[.int i]/\i.natAbs.log2<1920/\Q (.str (Str.ofString (toString i))) H):=by
 rintro pins s σ H xs us Q I r (h|⟨rfl,q⟩|⟨i,rfl,h,q⟩)
 ·exact Om hg hu pins s σ H xs us Q I r h
 ·obtain⟨u,rfl,rx⟩:=Vf r
  cases (show u=Value.none from rx)
  exact P.repr_of_none ⟨.str "None",H,I.tok _,⟨_,rfl⟩,q⟩
 ·obtain⟨u,rfl,t,rfl⟩:=Vf r
  exact P.repr_of_int h ⟨.str _,H,I.tok _,⟨_,rfl⟩,q⟩
end
end L2
namespace Tim
open PySem PySem.W PyProof.Rows
variable {lt:Nat->Nat->Bool}{N:Nat}{α β α' β':Type}
end Tim
namespace L2
open PySem PySem.Spec PyProof.Rows
abbrev Pr:=Int×List Int
def Cu(h:Heap)(v:Value)(x:Pr):Prop:=∃a o t y k,v=.ref a/\h.get? a=some o/\o.cls=.type "tuple"/\o.data=.seq (List.toArray [.int x.1 t,y]) k/\JY h y x.2
theorem Cu.keep{h h':Heap}{v:Value}{x:Pr}(q:Cu h v x)(k:∀b o,o.cls=.type "tuple"->h.get? b=some o->h'.get? b=some o):Cu h' v x:=by
 obtain⟨a,o,t,y,n,e,h1,h2,h3,h4⟩:=q
 exact⟨a,o,t,y,n,e,k _ _ h2 h1,h2,h3,h4.keep k⟩
section
variable {prog:Program}{w:World}{A:Around}{E:Value->Shared->Prop}{s:Shared}
def GI(h:Heap)(vs:List Value)(prs:List Pr):Prop:=vs.length=prs.length/\∀(i:Nat) v,vs[i]? = some v->∃x,prs[i]? = some x/\Cu h v x
theorem GI.keep{h h':Heap}{vs:List Value}{prs:List Pr}(q:GI h vs prs)(k:∀b o,o.cls=.type "tuple"->h.get? b=some o->h'.get? b=some o):GI h' vs prs:=
 ⟨q.1,λi v e=>by obtain⟨x,h1,h2⟩:=q.2 i v e;exact⟨x,h1,h2.keep k⟩⟩
end
open AutoSeq1 (wpAny_loadPart')
end L2
namespace L2
open PySem PySem.Spec PyProof.Rows
section
variable {K:Frag}{G G' H H':Hp}{s:DS}{σ:St}
def M1:Val->Option (List Int)
 | .d (.tuple l)=>SU l
 | _=>none
@[simp] theorem keyE_tI(ns:List Int):M1 (.d (tI ns))=some ns:=uIs_map _
def Ls(da db:ZG):ZG:=RM M1 da db
def HH(neg:Bool)(db da:ZG):ZG:=Lu M1 neg db da
def Lv(da dk dv:ZG):Wd:=RN M1 da dk dv
def Nk(o:Bool)(di:S4)(cap:List (Option Nat))(dg:T1)(dt:Vt)(dk dv:ZG):ZG:=Tq M1 o di cap dg dt dk dv
def Nn(o:Bool)(dk dv:ZG):ZG:=λs k=>∀p,s.w p=none->dk (s.put p (.dct [])) λkk s1=>dv s1 λvv s2=>match vv with
 | .d x=>∃ns,M1 kk=some ns/\s2.w p=some (.dct [])/\(match o with|true=>k (.own p) (s2.put p (.dct [(ns,x)]))|false=>k (.d (.dict (Ue [(ns,x)]))) ⟨s2.e,s2.w.del p⟩)
 | _=>False
end
section
variable {K:Frag}{G G' H H':Hp}{s:DS}{σ:St}
def Ku(kvs:List (List Int×PyData)):List PyData:=kvs.map λp=>.tuple [tI p.1,p.2]
theorem Xj.at':∀{kvs:List (List Int×PyData)}{ks:List (List YM×V)}{i:Nat}{p:List Int×PyData},Xj K G (Ue kvs) ks->kvs[i]? = some p->∃x,ks[i]? = some (p.1.map Sum.inl,x)/\DW K G p.2 x
 | [],ks,i,p,h,e=>by simp at e
 | (k0,d)::r,ks,i,p,h,e=>by
  rcases Xc h with ⟨z,_⟩|⟨k1,d1,r1,x,t,z,rfl,h1,h2⟩
  ·cases z
  ·cases z
   cases i with
   | zero=>simp at e;subst e;exact⟨x,rfl,h1⟩
   | succ i=>simpa using Xj.at' (i:=i) h2 (by simpa using e)
def L4(d:ZG):S4:=λs k=>d s λv s1=>match v with
 | .d (.dict l)=>∃kvs,Ma l=some kvs/\k (Ku kvs,MV) s1
 | .own a=>∃kvs,s1.w a=some (.dct kvs)/\k (Ku kvs,λw=>w a=some (.dct kvs)) s1
 | _=>False
end
end L2
namespace L2
open PySem PySem.W PySem.W.X PySem.Spec PyProof.Rows
def Dl:Val->ZG:=λv s k=>match v with | .d (.int i)=>k (.d (.int (if i<0 then -i else i))) s|_=>False
def Kt(o:Obj):Bool:=match o.data with
 | .seq _ _=>false
 | _=>true
def TQ(as:List Addr)(h:Heap):Frag:=as.filterMap λa=>((h.get? a).filter Kt).map λo=>(a,o)
def GO:Option Obj->Option (Value×List Value×Addr×Bool×Bool×Nat×Option (Option Value))
 | some ⟨c,_,.cls cd,sl⟩=>some (c,cd.mro,cd.ns,cd.hasDict,cd.hasDel,sl.toList.length,sl.toList[4]?)
 | _=>none
def C3:Option Obj->Option (Value×Str×Str×Arguments×FuncBody×Scope×Addr×List (Str×Addr)×Value×Value×Addr)
 | some ⟨c,_,.func f,_⟩=>some (c,f.name,f.qualname,f.params,f.body,f.scope,f.globals,f.closure,f.defaults,f.code,f.builtins)
 | _=>none
def C5(K:Frag)(N:Addr)(n:Str):Option Value:=match K.lookup N with
 | some ⟨_,_,.dict es _,_⟩=>nsFind es n
 | _=>none
def Dh(K:Frag)(C N fI:Addr)(fld q:Str)(cI:Addr):=(GO (K.lookup C),nsOkIn K N,([("__init__" : Str),"__setattr__",fld].map (C5 K N)),C3 (K.lookup fI),codeIn K (.ref cI) q,[("__getattribute__" : Str),"__getattr__","__class__",fld].map (findIn K (.ref C)))
def Dg(B newId:String)(bm:List Value)(C N fI:Addr)(q:Str)(cI:Addr)(a:Arguments)(b:List Stmt)(sc:Scope):=
 (some ((.type "type" : Value),Value.ref C::bm,N,true,false,6,some (some (Value.builtin newId))),true,[some (Value.ref fI),none,none],some ((.type "function" : Value),("__init__" : Str),q,a,FuncBody.stmts b,sc,mainGlobals,([]:List (Str×Addr)),Value.none,Value.ref cI,builtinsNs),true,
  [some (some (Value.builtin "BaseException.__getattribute__")),some none,some (some (Value.builtin "object.__class__")),some none])
def CY(K:Frag)(h:Heap)(C:Addr)(names:List Str)(cs:List Value):=(names.map (h.nsMap mainGlobals),cs.map (kitOne K (.ref C)))
def ET:Stmt->List Stmt
 | .ClassDef _ _ _ b ..=>b
 | _=>[]
def Ld:Stmt->Arguments
 | .FunctionDef _ a _ _ _ _ _ _ _ _=>a
 | _=>{ posonlyargs:=[],args:=[],vararg:=none,kwonlyargs:=[],kw_defaults:=[],kwarg:=none,defaults:=[] }
def Lg:Stmt->List Stmt
 | .FunctionDef _ _ b _ _ _ _ _ _ _=>b
 | _=>[]
def OR:Stmt->Scope
 | .FunctionDef _ _ _ _ _ _ sc _ _ _=>sc
 | _=>{ kind:=.function,names:=[],isGenerator:=false,isCoroutine:=false }
def Od(K K':Frag):Prop:=∀a o,K.lookup a=some o->K'.lookup a=some o
section
variable {K K':Frag} (S:Od K K')
include S
theorem IC{N:Addr}{n:Str}{r:Option Value}(e:nsIn K N n=some r):nsIn K' N n=some r:=by
 unfold nsIn at e |-
 cases q:K.lookup N with
 | none=>rw[q]at e;cases e
 | some o=>rw[q]at e;rw[S _ _ q];exact e
theorem KG{n:Str}{c:Value}{r:Option Value}(e:ownIn K n c=some r):ownIn K' n c=some r:=by
 cases c with
 | ref a=>
  unfold ownIn at e |-
  dsimp only at e |-
  cases q:K.lookup a with
  | none=>rw[q]at e;cases e
  | some o=>
   rw[q]at e;rw[S _ _ q]
   obtain⟨x,y,d,z⟩:=o
   cases d with
   | cls cd=>exact IC S e
   | _=>cases e
 | _=>exact e
theorem T4{n:Str}{r:Option Value}:∀{l:List Value},alongIn K n l=some r->alongIn K' n l=some r
 | [],e=>e
 | c::l,e=>by
  unfold alongIn at e |-
  cases q:ownIn K n c with
  | none=>rw[q]at e;cases e
  | some v=>
   rw[q]at e;rw[KG S q]
   cases v with
   | some v=>exact e
   | none=>exact T4 e
theorem Yo{t:Value}{n:Str}{r:Option Value}(e:findIn K t n=some r):findIn K' t n=some r:=by
 cases t with
 | ref a=>
  unfold findIn at e |-
  dsimp only at e |-
  cases q:K.lookup a with
  | none=>rw[q]at e;cases e
  | some o=>
   rw[q]at e;rw[S _ _ q]
   obtain⟨x,y,d,z⟩:=o
   cases d with
   | cls cd=>exact T4 S e
   | _=>cases e
 | _=>exact e
theorem TB{C:Addr}{cd:ClassData}(e:clsIn K C=some cd):clsIn K' C=some cd:=by
 unfold clsIn at e |-
 cases q:K.lookup C with
 | none=>rw[q]at e;cases e
 | some o=>rw[q]at e;rw[S _ _ q];exact e
theorem Sa{C:Addr}{b:Value}{r:Bool}(e:mroIn K C b=some r):mroIn K' C b=some r:=by
 obtain⟨cd,h1,h2⟩:=sC.mp e
 exact sC.mpr ⟨cd,TB S h1,h2⟩
theorem M3{C:Addr}{c:Value}{b:Bool}(e:kitOne K (.ref C) c=some b):kitOne K' (.ref C) c=some b:=by
 unfold kitOne at e |-
 split at e
 ·next h=>rw[zJ h];exact e
 ·next h=>
  rw[wH h]
  cases c with
  | ref D=>
   unfold kitCls at e |-
   dsimp only at e |-
   split at e
   ·next g=>
    obtain⟨g1,g2⟩:=sD.mp g
    obtain⟨cd,g1⟩:=uR.mp g1
    have t:typeIn K' (.ref D)=some (.type "type"):=by
     obtain⟨o,ho,z⟩:=zF.mp (uD.mp g2)
     exact zF.mpr ⟨o,S _ _ ho,z⟩
    rw[TB S g1,t]
    exact Sa S e
   ·cases e
  | type T=>
   unfold kitCls at e |-
   dsimp only at e |-
   split at e
   ·next g=>rw[zJ g];exact Sa S e
   ·cases e
  | _=>exact e
theorem Rc{c:Value}{q:Str}(e:codeIn K c q=true):codeIn K' c q=true:=by
 cases c with
 | ref a=>
  unfold codeIn at e |-
  dsimp only at e |-
  cases r:K.lookup a with
  | none=>rw[r]at e;cases e
  | some o=>rw[r]at e;rw[S _ _ r];exact e
 | _=>cases e
end
theorem Ms{as:List Addr}{h:Heap}{K:Frag}(k:∀a o,h.get? a=some o->Kt o=true->K.lookup a=some o):Od (TQ as h) K:=λa o e=>by
 unfold TQ at e
 have key:∀(l:List Addr),((l.filterMap λa=>((h.get? a).filter Kt).map λo=>(a,o)):List (Addr×Obj)).lookup a=some o->(h.get? a).filter Kt=some o:=by
  intro l
  induction l with
  | nil=>intro e;cases e
  | cons b l ih=>
   intro e
   rw[vA]at e
   cases q:(h.get? b).filter Kt with
   | none=>simp only[q,tR]at e;exact ih e
   | some ob=>
    simp only[q,yW,List.lookup]at e
    split at e
    ·next z=>cases e;rw[uD.mp z];exact q
    ·exact ih e
 obtain⟨h1,h2⟩:=Option.filter_eq_some_iff.mp (key as e)
 exact k _ _ h1 h2
section
variable {K K':Frag}{B newId:String}{bm:List Value}{C N fI cI:Addr}{fld q:Str}{a:Arguments}{b:List Stmt}{sc:Scope}
theorem CZ{l:List (Option Value)}{x:Option Value}(h:l.length=6)(e:l[4]? = some x):∃k0 k1 k2 k3 k5,l=[k0,k1,k2,k3,x,k5]:=by
 obtain⟨k0,k1,k2,k3,k4,k5,rfl⟩:∃k0 k1 k2 k3 k4 k5,l=[k0,k1,k2,k3,k4,k5]:=by
  match l,h with
  | [k0,k1,k2,k3,k4,k5],_=>exact⟨_,_,_,_,_,_,rfl⟩
 cases e;exact⟨_,_,_,_,_,rfl⟩
theorem GP(e:GO (K.lookup C)=some (.type "type",.ref C::bm,N,true,false,6,some (some (.builtin newId)))):∃nm q bs sn sub ab col dd k0 k1 k2 k3 k5,K.lookup C=some (excClassObj nm q C N bs bm true sn sub ab col dd k0 k1 k2 k3 k5 newId):=by
 cases r:K.lookup C with
 | none=>rw[r]at e;cases e
 | some o=>
  rw[r]at e
  obtain⟨c,d,da,sl⟩:=o
  cases da with
  | cls cd=>
   obtain⟨nm,bs,mro,ns,qn,hd,sn,sub,ab,col,del⟩:=cd
   simp only[GO,tE,tT]at e
   obtain⟨rfl,rfl,rfl,rfl,rfl,e1,e2⟩:=e
   obtain⟨k0,k1,k2,k3,k5,z⟩:=CZ e1 e2
   obtain⟨l⟩:=sl
   have z:l=_:=z
   subst z
   exact⟨_,_,_,_,_,_,_,_,_,_,_,_,_,rfl⟩
  | _=>cases e
theorem Dx(e:nsOkIn K N=true):∃mN,(∀n,C5 K N n=mN n)/\∀h:Heap,K.In h->h.Ns N mN:=by
 refine⟨C5 K N,λ_=>rfl,λh X=>?_⟩
 have z:=isNs_of_in X e
 have w:=Heap.Ns.of_isNs z
 obtain⟨o,es,ep,h1,h2,h3,h4⟩:=w
 refine⟨o,es,ep,h1,h2,h3,λn=>?_⟩
 cases r:K.lookup N with
 | none=>unfold nsOkIn at e;rw[r]at e;cases e
 | some o'=>
  have:=(X _ _ r).symm.trans h1
  cases this
  unfold C5
  rw[r]
  obtain⟨c,d,da,sl⟩:=o
  cases h2
  rfl
theorem Kb(e:C3 (K.lookup fI)=some ((.type "function" : Value),("__init__" : Str),q,a,FuncBody.stmts b,sc,mainGlobals,([]:List (Str×Addr)),Value.none,Value.ref cI,builtinsNs)):∃oI,K.lookup fI=some oI/\oI.cls=.type "function"/\∃(oc:Value) (od an:Option Addr) (kV doc pm ct:Value) (osl:Array (Option Value)),oI=⟨oc,od,.func (fnOf "__init__" q a b sc .none kV doc pm an (.ref cI) ct),osl⟩:=by
 cases r:K.lookup fI with
 | none=>rw[r]at e;cases e
 | some o=>
  rw[r]at e
  obtain⟨c,d,da,sl⟩:=o
  cases da with
  | func f=>
   obtain⟨n1,n2,n3,n4,n5,n6,n7,n8,n9,n10,n11,n12,n13,n14,n15⟩:=f
   simp only[C3,tE,tT]at e
   obtain⟨rfl,rfl,rfl,rfl,rfl,rfl,rfl,rfl,rfl,rfl,rfl⟩:=e
   exact⟨_,rfl,rfl,_,_,_,_,_,_,_,_,rfl⟩
  | _=>cases e
end
theorem Yn{s:Shared}{h:Heap}{mg:Str->Option Value}{names:List Str}{cs:List Addr}(g:h.Ns mainGlobals mg)(k:∀b o,s.heap.get? b=some o->h.get? b=some o)(e:names.map (s.heap.nsMap mainGlobals)=cs.map λa=>some (.ref a))(i:Nat){x:Str}{c:Addr}(hx:names[i]? = some x)(hc:cs[i]? = some c):mg x=some (.ref c):=by
 rw[g.eq_nsMap]
 refine VM k ?_
 have:=zG (·[i]?) e
 simp only[uV,hx,hc,yW,tE]at this
 exact this
end L2
namespace EX
open PySem PySem.W PySem.Spec PyProof.Rows
section
variable {prog:Program}{w:World}{A:Around}{E:Value->Shared->Prop}{h:Heap}{g:Array GenState}{d:Drawn}{t:Nat}{os:OsState}
variable {nm q:Str}{C N x dx:Addr}{bs bm:List Value}{sn:List Str}{sub:List Value}{ab:Bool}{col:Option Bool}{dd:Option Addr}{k0 k1 k2 k3 k5:Option Value}{B newId sa owner:String}{name:Str}{v:Value}{mN mD:Str->Option Value}{o:Obj}
theorem OD{ns:List Str}{tk:Tok}{Q:Fin->Shared->Prop}(SF:StoreFacts B bm sa owner)(hC:h.get? C=some (excClassObj nm q C N bs bm true sn sub ab col dd k0 k1 k2 k3 k5 newId))(hn:h.Ns N mN)(hna:mN name=none) 
  (hB:typeLookup (.type B) name=pure none) (hx:h.get? x=some o) (hc:o.cls=.ref C) (hnc:∀c,o.data≠.cls c) (hdn:o.dict=some dx) (hD:h.Ns1 dx mD) (hw:PySem.Within mD ns) (hsz:ns.length<sizeLine)
  (hq:∀h' tk',h'.Ns1 dx (λy=>if y=name then some v else mD y)->Heap.SameBut dx h h'->Q (.done (.ret .none)) ⟨h',g,d,tk',os⟩) :
  wpAny (model prog w) A (Builtin.«object.__setattr__» ⟨[.ref x,.str name tk,v],[]⟩) Q E ⟨h,g,d,t,os⟩:=by
 have hpass:=SF.passes (.ref x)
 unfold Builtin.«object.__setattr__»;repeat (first|rw[refuse_eq]|(rw[refuseLoop_ref,hpass])|(with_reducible refine tZ hx ?_;rw[hc])|with_reducible refine wpAny_mroOf_exc hC ?_|(with_reducible refine sA hC hn SF.mro hB ?_;rw[hna])|wp_step)
 rw[hdn]
 refine zM (a:=some dx) ?_
 show wpAny _ _ (Builtin.ObjectAttr.storeInDict dx (.str name tk) name v) _ _ _;unfold Builtin.ObjectAttr.storeInDict Builtin.ObjectAttr.newKeyGuard
 refine zL (zM (zL (wpAny_nsSet1 hD λh' hn' he=>?_)))
 obtain⟨oD,esD,epD,hoD,hdD,hcD⟩:=hn'.count (Within.cons name v hw);refine zL (uA hoD (by rw[hdD];exact uB (wZ hcD (by rw[uC];omega))) ?_)
 wp_walk
 exact hq h' _ hn' he
theorem next_attr{ns:List Str}{Q:Unit->Shared->Prop}(SF:StoreFacts B bm sa owner)(hC:h.get? C=some (excClassObj nm q C N bs bm true sn sub ab col dd k0 k1 k2 k3 k5 newId))(hn:h.Ns N mN)(hns:mN "__setattr__" = none)(hna:mN name=none) 
  (hB:typeLookup (.type B) name=pure none) (hx:h.get? x=some o) (hc:o.cls=.ref C) (hnc:∀c,o.data≠.cls c) (hdn:o.dict=some dx) (hD:h.Ns1 dx mD) (hw:PySem.Within mD ns) (hsz:ns.length<sizeLine)
  (hq:∀h' tk',h'.Ns1 dx (λy=>if y=name then some v else mD y)->Heap.SameBut dx h h'->Q () ⟨h',g,d,tk',os⟩) :
  wpAny (model prog w) A (setAttr (.ref x) name v) Q E ⟨h,g,d,t,os⟩:=by
 have f3:=SF.slot.bind (.ref x)
 unfold setAttr callSpecial? specialOf;repeat (any_goals (first|assumption|(with_reducible refine tZ hx ?_;rw[hc])|(with_reducible refine sA hC hn SF.mro SF.slot.lookup ?_;rw[hns])|wp_step))
 refine tU SF.slot.plain SF.entry (wpAny_check_sa SF hC hx hc (OD SF hC hn hna hB hx hc hnc hdn hD hw hsz λh' tk' a b=>?_))
 repeat (any_goals (first|assumption|wp_step))
 exact hq h' tk' a b
end
end EX
namespace L2
open PySem PySem.W PySem.W.X PySem.Spec PyProof.Rows
section
variable {X:Cx}{C fI:Addr}{B initId:String}{f1 f2 x:Str}{o value:Expr}{ta tv:TE}{p apos pos pos':Pos}
theorem Zv.exStore2{pins:List (Addr×Obj)}{σ:St}{H:Hp}{h h':Heap}{g:Array GenState}{dr:Drawn}{tk tk':Nat}{os:OsState}{d:Addr}{fs0 fs1:List (Str×V)}(I:Zv X pins σ H ⟨h,g,dr,tk,os⟩)(hd:H d=some (.xd fs0)) 
  (sb:Heap.SameBut d h h') (new:∃mA,h'.Ns1 d mA/\∀f,Ww (fs1.lookup f) (mA f)):Zv X pins σ (upd H d (.xd fs1)) ⟨h',g,dr,tk',os⟩:=by
 have ne:∀b,H b=none->b≠d:=λb q z=>by rw[z,hd]at q;cases q
 have net:∀b xs,H b=some (.tup xs)->b≠d:=λb xs q z=>by rw[z,hd]at q;cases q
 have neo:∀b y,H b=some (.own y)->b≠d:=λb xs q z=>by rw[z,hd]at q;cases q
 have kb:∀b o,b≠d->h.get? b=some o->h'.get? b=some o:=λb o z q=>(sb.2 b z).trans q
 have hex:∃o,h'.get? d=some o:=let ⟨_,⟨o,_,_,e,_⟩,_⟩:=new;⟨o,e⟩
 have up:∀b o,b≠d->H b=some o->upd H d (.xd fs1) b=some o:=λb o z q=>by rw[Zi z];exact q
 refine I.un (s:=⟨h,g,dr,tk,os⟩) (h':=h') (t':=tk') ⟨λb o q n _ _=>kb b o (ne b n) q,λb o q n _ _=>⟨o.slots,kb b o (ne b n) q⟩,λb o q n _=>by rw[Zi (ne b n)];exact n,λb o q _=>?_,λb xs q=>up b _ (net b xs q) q,λb o u q=>up b _ (λz=>by rw[z,hd]at q;cases q) q,λb ps q=>⟨#[],?_⟩⟩ λb o q=>?_
 ·by_cases z:b=d
  ·rw[z];exact hex
  ·exact⟨o,kb b o z q⟩
 ·rw[up b _ (λz=>by rw[z,hd]at q;cases q) q];simp
 ·by_cases z:b=d
  ·subst z;rw[Zw]at q;cases q
   exact new
  ·rw[Zi z]at q
   have other:∀c,c=b\/H c=some (.own b)->c≠d:=λc hc=>by
    rcases hc with hc|hc
    ·rw[hc];exact z
    ·exact neo c _ hc
   exact(I.hok b o q).stay (λc u hc r=>kb c u (other c hc) r) (λc r=>up c _ (neo c _ r) r) λc xs r=>up c _ (net c xs r) r
def Ca(C:Addr)(f1 f2:Str)(ta tv:TE):TS:=λD σ H=>tv σ H λv H1=>ta σ H1 λy H2=>∃e d u,y=.ref e/\H2 e=some (WJ C e (some d))/\H2 d=some (.xd [(f1,u)])/\D.nx σ (upd H2 d (.xd [(f1,u),(f2,v)]))
theorem IU(c:EC X.K C B initId f2 fI)(hf12:f1≠f2)(ha:PE X o ta)(hv:PE X value tv)(hs:swapsWith value (some (.Attribute o f2 pos')) pos.line X.env=pure false:=by rfl):PS X (.Assign [.Attribute o f2 pos'] value pos) (Ca C f1 f2 ta tv):=by
 intro pins s σ H D I h
 refine uI (Y2 (hv pins s σ H _ I h) λu s1 ⟨v,H1,I1,rv,q⟩=>Y2 (ha pins s1 σ H1 _ I1 q) λov s2 ⟨y,H2,I2,ry,e,d,u0,ey,he,hd,q2⟩=>?_) hs
 subst ey
 obtain rfl:ov=Value.ref e:=ry
 obtain⟨nm,qn,N,bs,bm,sn,sub,ab,col,dd,k0,k1,k2,k3,k5,newId,sa,owner,mN,oI,hC,hN,hi,hs,hf,FF,SF,hB,hfI,hfc⟩:=c.ex
 obtain⟨t0,e0⟩:=WJ.get I2.hok he
 obtain⟨mD,n1,r1⟩:=I2.hok d _ hd
 have none2:∀y,y≠f1->mD y=none:=λy hy=>by
  have:=r1 y
  have z:(y == f1)=false:=wW.mpr hy
  simp only[List.lookup,z]at this
  cases q:mD y with
  | none=>rfl
  | some w=>rw[q]at this;exact this.elim
 obtain⟨h2,g2,d2,tk2,os2⟩:=s2
 refine EX.next_attr (ns:=[f1]) SF (I2.kIn _ _ hC) (hN _ I2.kIn) hs hf hB e0 rfl (λc z=>nomatch z) rfl n1 (λy hy=>?_) (by rw[yN,vZ];omega) λh' tk' n2 sb=>?_
 ·by_cases z:y=f1
  ·rw[z];exact xN.mpr rfl
  ·exact absurd (none2 y z) hy
 ·refine⟨σ,_,I2.exStore2 (fs1:=[(f1,u0),(f2,v)]) hd sb ⟨_,n2,λf=>?_⟩,q2⟩
  by_cases z:f=f2
  ·subst z
   have y:(f == f1)=false:=wW.mpr (zQ hf12)
   simp[List.lookup,y,Ww,rv]
  ·have y:(f == f2)=false:=wW.mpr z
   have:=r1 f
   simp only[wH z]
   simp only[List.lookup]at this |-
   split
   ·next q=>rw[q]at this;exact this
   ·next q=>rw[y];rw[q]at this;exact this
end
section
variable {P:Program}{w:World}{K:Frag}{mg:Str->Option Value}{base:Heap}{N:List Str}{qual:Str}{scope:Scope}{f:Addr}{cdv:Value}{A:Around}{outer:List Env}{s₀:Shared}{H₀:Hp}{E:XK}{C fI:Addr}{B initId:String}{fld x:Str}{k:Nat}{fd:FuncData}{ps:List Str}{sp:Sp}{a b:Expr}{t:TA}{np cpos pos:Pos}
def Ew(C:Addr)(sp:Sp)(E:XK)(t:TA):TS:=λ_ σ H=>t σ H λvs H1=>vs.length=2/\∀e,H1 e=none->sp (.ref e::vs) (upd H1 e (WJ C e none)) (λv H2=>v=.non/\∃d,H2 e=some (WJ C e (some d))/\E (.ref C) (some d) (TU H2 e)) E0
theorem MJ{X:Cx}(hX:X=Xi (S1 P w) P w K mg base N qual scope f cdv A outer s₀ H₀ E)(c:EC X.K C B initId fld fI)(F:Xv X.prog X.w X.K X.mg X.base S0 k fI fd ps sp)(mos:∀vs H (Q Q':VK) E,(∀v H',Q v H'->Q' v H')->sp vs H Q E->sp vs H Q' E)(hr:Yg (k+1) X.A)(hb:XQ X.K fd ps [])(hg:Gl X x)(hm:X.mg x=some (.ref C))(ha:PA X [a,b] t)(hdb:(x == ("__debug__" : Str))=false:=by decide) 
  (he:starEach [a,b] X.env=(false,eval a X.env)::starEach [b] X.env:=by rfl) (hpl:(backTo cpos (starEach [b] X.env)).any (·.1)=false:=by rfl):PS X (.Raise (some (.Call (.Name x np) [a,b] [] cpos)) none pos) (Ew C sp E t):=by
 intro pins s σ H D I h
 obtain⟨nm,qn,N',bs,bm,sn,sub,ab,col,dd,k0,k1,k2,k3,k5,newId,sa,owner,mN,oI,hC,hN,hi,hs,hf,FF,SF,hB,hfI,hfc⟩:=c.ex
 have key:wpAny (model X.prog X.w) X.A (eval (.Call (.Name x np) [a,b] [] cpos) X.env) (λv s₁=>∃e t dx,v=.ref e/\s₁.heap.get? C=some (excClassObj nm qn C N' bs bm true sn sub ab col dd k0 k1 k2 k3 k5 newId)/\s₁.heap.get? e=some (EX.exD C t dx)/\X.xe (.ref e) s₁) X.xe s:=by
  refine uN (Vk I hg hm ?_ hdb)
  refine callWith_K (h₀:=X.base) I.ok.mod.kin c.kp (Y2 (ha cpos pins s σ H _ I h) λus s1 ⟨vs,H1,I1,r,hl,q⟩=>⟨I1.kIn,?_⟩) he hpl
  have h1:us.length≤sizeLine:=by rw[<- r.length,hl];decide
  have h2:∀e,s1.heap.get? e=none->X.s₀.heap.get? e=none:=by subst hX;exact λe z=>I1.base.old (by exact λz=>nomatch z) z
  have h3:=Hk (Q:=λv H2=>∃e d,v=.ref e/\X.s₀.heap.get? e=none/\H2 e=some (WJ C e (some d))/\E (.ref C) (some d) (TU H2 e)) c F hr hb I1 r h1 λe hn hg'=>mos _ _ _ _ _ (λv H2 ⟨ev,d,z1,z2⟩=>⟨ev,e,d,rfl,h2 e hg',z1,z2⟩) (q e hn)
  refine Y2 h3 λu s2 ⟨v,H2,I2,rv,e,d,ev,z0,z1,z2⟩=>?_
  subst ev
  obtain rfl:u=Value.ref e:=rv
  obtain⟨t,e0⟩:=WJ.get I2.hok z1
  refine⟨e,t,_,rfl,I2.kIn _ _ hC,e0,?_⟩
  subst hX
  exact M5 I2 z1 z0 z2
 have hh:X.A.handled=none:=hr.hd
 rw[arm_exec_Raise]
 refine zL (wU (EX.raise_own (C:=C) (nm:=nm) (q:=qn) (N:=N') (bs:=bs) (sn:=sn) (sub:=sub) (ab:=ab) (col:=col) (dd:=dd) (k0:=k0) (k1:=k1) (k2:=k2) (k3:=k3) (k5:=k5) (newId:=newId) (hdct:=true) FF.hasBase hh ?_))
 exact zL (Y2 key λv s₁ z=>zL (wU (zM z)))
end
abbrev FS:=PyData->List (Str×PyData)
def Cw(K:Frag)(fs:FS)(G:Hp)(d:Addr)(p:PyData):Prop:=∃us,G d=some (.xd us)/\us.map (·.1)=(fs p).map (·.1)/\ZE K G ((fs p).map (·.2)) (us.map (·.2))
def CQ(f1 f2:Str):FS:=λp=>match p with
 | .tuple [x,y]=>[(f1,x),(f2,y)]
 | _=>[]
def OT(K:Frag)(C:Addr)(fs:FS)(f:V8):Sp:=λvs H Q E=>∃(G:Hp) (w:OW) (as:List Val),Z5 G H/\YN K G w H/\VRs K G as vs /\
 f as w (λv w'=>∀G' H' x,Z5 G G'->Z5 G' H'->YN K G' w' H'->VR K G' v x->Q x H') (λp w'=>∀G' H' d,Z5 G G'->Z5 G' H'->YN K G' w' H'->Cw K fs G' d p->E (.ref C) (some d) H')
def Tw(C:Addr)(f1 f2:Str):Sp:=λvs H Q _=>∃e v w,vs=[.ref e,v,w]/\H e=some (WJ C e none)/\∀d,d≠e->H d=none->Q .non (upd (upd H d (.xd [(f1,v),(f2,w)])) e (WJ C e (some d)))
theorem Sq{C:Addr}{f1 f2:Str}:∀vs H (Q Q':VK) E,(∀v H',Q v H'->Q' v H')->Tw C f1 f2 vs H Q E->Tw C f1 f2 vs H Q' E:=λvs H Q Q' E h ⟨e,v,w,h1,h2,h3⟩=>⟨e,v,w,h1,h2,λd a b=>h _ _ (h3 d a b)⟩
def JW(K:Frag)(C:Addr)(fs:FS)(B:Hp)(E:XK)(kx:PyData->OW->Prop):Prop:=∀p w' G' H' d,Z5 B G'->Z5 G' H'->YN K G' w' H'->Cw K fs G' d p->kx p w'->E (.ref C) (some d) H'
section
variable {K:Frag}{B:Hp}{C:Addr}{fs:FS}{f1 f2:Str}{f:V8}{t:TA}{da:XN}
def Ig(kx:PyData->OW->Prop)(da:XN):Wd:=λ_ s=>da s λvs s1=>match vs with | [.d x,.d y]=>kx (.tuple [x,y]) s1.w|_=>False
theorem Sl{E:XK}{kx:PyData->OW->Prop}(hE:JW K C (CQ f1 f2) B E kx)(ha:RA K t da):Md K B (Ew C (Tw C f1 f2) E t) (Ig kx da):=by
 intro G s σ H D DE b r p z
 refine ha.ok G s σ H _ r (ha.mo _ _ _ (λvs s1 y G1 H1 xs e1 r1 v1=>?_) z)
 split at y
 ·next x x2=>
  obtain⟨u,u2,rfl,v1,v2⟩:=v1.two
  refine⟨rfl,λe he=>⟨e,u,u2,rfl,Zw ..,λd hde hd=>⟨rfl,d,Zw ..,?_⟩⟩⟩
  rw[Zi hde]at hd
  have r2:=r1.new hd (.xd [(f1,u),(f2,u2)])
  have hgd:G1 d=none:=by
   cases q:G1 d with
   | none=>rfl
   | some o=>rw[r1.sub _ _ q]at hd;cases hd
  have e2:Z5 G1 (upd G1 d (.xd [(f1,u),(f2,u2)])):=λc o q=>by
   rw[Zi λw=>by rw[w,hgd]at q;cases q];exact q
  have hH:TU (upd (upd (upd H1 e (WJ C e none)) d (.xd [(f1,u),(f2,u2)])) e (WJ C e (some d))) e=upd H1 d (.xd [(f1,u),(f2,u2)]):=by
   funext c
   by_cases h1:c=e
   ·subst h1;rw[UA,Zi (zQ hde),he]
   ·rw[X0 h1,Zi h1]
    by_cases h2:c=d
    ·subst h2;rw[Zw,Zw]
    ·rw[Zi h2,Zi h2,Zi h1]
  rw[hH]
  exact hE (.tuple [x,x2]) s1.w _ _ d ((b.trans e1).trans e2) r2.sub r2.own ⟨[(f1,u),(f2,u2)],Zw ..,rfl,ZE.cons (DW.same e2 v1) (ZE.cons (DW.same e2 v2) ZE.nil)⟩ y
 ·exact y.elim
theorem Sk{E:XK}{kx:PyData->OW->Prop}(hE:JW K C fs B E kx)(hm:Cn f)(ha:RA K t da):Md K B (NX (R3 (OT K C fs f) [] E t)) (Ot kx f da):=by
 intro G s σ H D DE b r p z
 refine ha.ok G s σ H _ r (ha.mo _ _ _ (λvs s1 y G1 H1 xs e1 r1 v1=>?_) z)
 show OT K C fs f (xs++[]) H1 _ _
 rw[uK]
 refine⟨G1,s1.w,vs,r1.sub,r1.own,v1,hm _ _ _ _ _ _ (λv w' z G' H' x e2 u2 o2 vx=>?_) (λx w' z G' H' d e2 u2 o2 hd=>?_) y⟩
 ·exact p.nx ⟨s1.e,w'⟩ G' _ H' (e1.trans e2) ⟨u2,o2,r1.sl.same e2⟩ z
 ·exact hE x w' G' H' d ((b.trans e1).trans e2) u2 o2 hd z
end
theorem GB.dataR{P:Program}{w:World}{K:Frag}{mg:Str->Option Value}{base:Heap}{C:Addr}{fs:FS}{x:Str}{st:Stmt}{N ps:List Str}{k:Nat}{f:V8}(U:∃a fd,VQ K x x st a fd/\mg x=some (.ref a))(S:Z8 N ps (Zg st))(len:∀vs w k kx,f vs w k kx->vs.length=ps.length) 
  (hbody:∀(a:Addr) (cdv:Value) (A:Around) (outer:List Env) (s:Shared) (H B:Hp) (E:XK) (kx:PyData->OW->Prop),Yg k (A.deeper (envOfC x (Zg st) s.heap.objs.size a cdv))->JW K C fs B E kx ->
   ∃t d,VS (Xi (S1 P w) P w K mg base N x (Zg st) a cdv A outer s H E) (ZQ st) t/\Md K B t d/\∀(as:List Val) (o:OW) (q:Val->OW->Prop),f as o q kx->d { nx:=λs=>∃w',OW.le w' s.w/\q (.d .none) w',rt:=λv s=>∃w',OW.le w' s.w/\q v w' } ⟨Yk N as,o⟩):GB P w K mg base (k+1) x st ps (OT K C fs f):=by
 obtain⟨a,fd,F,m⟩:=U
 obtain⟨oc,od,kV,doc,pm,an,cdv,ct,osl,rfl,lk,hcd⟩:=F.ex
 refine⟨a,_,Ri lk hcd S (λvs H Q E h=>?_) (λA outer s H vs Q E hr h=>?_),F,m⟩
 ·obtain⟨G,o,as,_,_,h1,h2⟩:=h
  rw[<- h1.length];exact len _ _ _ _ h2
 ·obtain⟨G,o,as,h1,h2,h3,h4⟩:=h
  obtain⟨t,d,q1,q2,q3⟩:=hbody a cdv A outer s H G E (kx:=λx w'=>∀G' H' d,Z5 G G'->Z5 G' H'->YN K G' w' H'->Cw K fs G' d x->E (.ref C) (some d) H') hr λx w' G' H' d e1 e2 e3 e4 z=>z G' H' d e1 e2 e3 e4
  refine⟨t,q1,q2 G ⟨Yk N as,o⟩ (YA N vs) H _ { nx:=λs=>∃w',OW.le w' s.w/\_,rt:=λv s=>∃w',OW.le w' s.w/\_ } (Z5.refl G) ⟨h1,h2,Xr h3⟩ ⟨λs' G' σ' H' e r z=>?_,λv s' G' σ' H' x e r v1 z=>?_,λ_ _ _ _ _ _ z=>False.elim z,λ_ _ _ _ _ _ z=>False.elim z⟩ (q3 as o _ h4)⟩
  ·obtain⟨w',l,z⟩:=z
   exact z G' H' .non e r.sub (r.own.le l) WA
  ·obtain⟨w',l,z⟩:=z
   exact z G' H' x e r.sub (r.own.le l) v1
def Pk(C:Addr)(fs:List (Str×PyData)):Own:=.oth λK G H a=>∃dx us,H a=some (.ins C dx us)/\us.map (·.1)=fs.map (·.1)/\ZE K G (fs.map (·.2)) (us.map (·.2))
def MK(f:Str)(x:PyData):List (Str×PyData)->List (Str×PyData)
 | []=>[(f,x)]
 | (g,y)::r=>if g=f then(g,x)::r else(g,y)::MK f x r
section
variable {K:Frag}{G H:Hp}{s:DS}{σ:St}{C a dx:Addr}{f:Str}
theorem P5{x:PyData}{u:V}(hx:DW K G x u):∀{fs:List (Str×PyData)}{us:List (Str×V)},us.map (·.1)=fs.map (·.1)->ZE K G (fs.map (·.2)) (us.map (·.2))->(Wl f u us).map (·.1)=(MK f x fs).map (·.1)/\ZE K G ((MK f x fs).map (·.2)) ((Wl f u us).map (·.2))
 | [],[],_,_=>⟨rfl,ZE.cons hx ZE.nil⟩
 | [],_::_,k,_=>by cases k
 | _::_,[],k,_=>by cases k
 | (g,y)::fs,(g',v)::us,k,D=>by
  simp only[uE,sB]at k
  obtain⟨k1,k⟩:=k
  subst k1
  simp only[uE]at D
  unfold ZE at D
  obtain⟨v',r',e,d1,D⟩:=D
  simp only[sB]at e
  obtain⟨rfl,rfl⟩:=e
  by_cases z:g'=f
  ·unfold Wl MK;rw[zJ z,zJ z]
   exact⟨by simp[k],ZE.cons hx D⟩
  ·unfold Wl MK;rw[wH z,wH z]
   obtain⟨h1,h2⟩:=P5 hx k D
   exact⟨by simp[h1],ZE.cons d1 h2⟩
theorem N6{us:List (Str×V)}{fs:List (Str×PyData)}(h:H a=some (.ins C dx us))(k:us.map (·.1)=fs.map (·.1))(D:ZE K G (fs.map (·.2)) (us.map (·.2))):We K G H a (Pk C fs):=
 ⟨⟨dx,us,h,k,D⟩,⟨_,h,λxs z=>by cases z⟩,λG' H' e q=>⟨dx,us,q.trans h,k,D.same e⟩⟩
theorem Ir{fs:List (Str×PyData)}(h:We K G H a (Pk C fs)):∃dx us,H a=some (.ins C dx us)/\us.map (·.1)=fs.map (·.1)/\ZE K G (fs.map (·.2)) (us.map (·.2)):=h.1
def QJ(C:Addr)(f:Str)(da dv:ZG):Wd:=λE s=>dv s λv s1=>da s1 λo s2=>match v,o with
 | .d x,.own a=>∃fs,s2.w a=some (Pk C fs)/\fs.length<1000/\E.nx (s2.put a (Pk C (MK f x fs)))
 | _,_=>False
theorem NP{ta tv:TE}{da dv:ZG}(c:GA K C)(n:Uz K C f)(ha:RE K ta da)(hv:RE K tv dv):RS K (Ef K ta tv f) (QJ C f da dv):=by
 intro G s σ H D E r po q
 refine hv.ok G s σ H _ r (hv.mo _ _ _ (λv s1 q1 G1 H1 y e1 r1 v1=>ha.ok G1 s1 σ H1 _ r1 (ha.mo _ _ _ (λo s2 q2 G2 H2 x e2 r2 v2=>?_) q1)) q)
 clear q q1
 revert q2
 intro q
 split at q
 ·next d a=>
  obtain⟨fs,h1,h2,h3⟩:=q
  obtain⟨dx,us,h4,h5,h6⟩:=Ir (r2.own a _ h1).2
  have hl:us.length<1000:=by
   have:=zG List.length h5
   rw[Uh,Uh]at this
   omega
  obtain⟨k1,k2⟩:=P5 (f:=f) (x:=d) (u:=y) (DW.same e2 v1) h5 h6
  exact⟨a,C,dx,us,v2,h4,c,n,hl,po.nx _ G2 _ _ (e1.trans e2) (r2.chg h1 (N6 Zw k1 k2)) h3⟩
 ·exact q.elim
end
structure EJ(P:Program)(w:World)(K:Frag)(mg:Str->Option Value)(base:Heap)(k:Nat)(C:Addr)(x q:Str)(st:Stmt)(ps:List Str)(sp:Sp):Prop where
 ex:∃f fd,Xv P w K mg base (S1 P w) k f fd ps sp/\VQ K "__init__" q st f fd/\Mk K C f/\mg x=some (.ref C)
section
variable {X:Cx}{k:Nat}{f C C0:Addr}{fd:FuncData}{ps:List Str}{sp:Sp}{j:Nat}{y cn n:Str}{e:Expr}{es:List Expr}{t:TA}{ts:Addr->Addr->TS}{b₀:Stmt}{suite:List Stmt}{fp cp hp cpos apos pos:Pos}{B initId:String}{fld:Str}{fI:Addr}
def J9(j:Nat)(sp:Sp)(C0 C:Addr)(t:TA)(ts:Addr->Addr->TS):TS:=λD σ H=>t σ H λvs H1=>∀x dx,H1 x=none->H1 dx=none->dx≠x->sp (.ref x::vs) (upd (upd H1 dx (.own x)) x (.ins C0 dx [])) (λv H2=>v=.non/\D.nx σ H2) λcv dx H2=>∃d,cv=.ref C/\dx=some d /\
 ∀e oe,H2 e=none->EA C d oe->ts e d ⟨λσ' H'=>D.nx (σ'.set j none) H',D.rt,λσ' H'=>D.bk (σ'.set j none) H',λσ' H'=>D.ct (σ'.set j none) H'⟩ (σ.set j (some (.ref e))) (upd H2 e (.frz oe (PZ C e d)))
theorem OK(c:EC X.K C B initId fld fI)(hgC:Gl X cn)(hmC:X.mg cn=some (.ref C))(M:Mk X.K C0 f)(F:Xv X.prog X.w X.K X.mg X.base (S1 X.prog X.w) k f fd ps sp)(hr:Yg (k+1) X.A)(hg:Gl X y)(hm:X.mg y=some (.ref C0))(hb:XQ X.K fd ps []) 
  (ha:PA X.still (e::es) t) (hs:∀e d,VS (X.suite e) (b₀::suite) (ts e d)) (hN:X.N.Nodup) (hj:X.N[j]? = some n) (hn:X.env.scope.names.lookup n=some .local)
  (hst:X.stack=X.env::X.outer) (hfr:X.env.frame=some X.env.locals) (hfn:∀x,X.fn x=true) (hex:X.ex=[]) (hdb:(y == ("__debug__" : Str))=false:=by decide) (hdbC:(cn == ("__debug__" : Str))=false:=by decide)
  (he:starEach (e::es) X.env=(false,eval e X.env)::starEach es X.env:=by rfl) (hpl:(backTo cpos (starEach es X.env)).any (·.1)=false:=by rfl) (hsw:swapsWith (.Call (.Name y fp) (e::es) [] cpos) none apos.line X.env=pure false:=by rfl) :
  PS X (.Try [.Expr (.Call (.Name y fp) (e::es) [] cpos) apos] [.ExceptHandler (some (.Name cn cp)) (some n) (b₀::suite) hp] [] [] pos) (J9 j sp C0 C t ts):=by
 intro pins s σ H D I h
 refine wpAny_Try_except (vP (wpAny_Expr_any ?_ I.quiet hsw))
 refine uN (Vk I hg hm ?_ hdb)
 refine callWith_K (h₀:=X.base) I.ok.mod.kin M.kp (vL (ha cpos pins s σ H _ I.still h) (λus s1 ⟨vs,H1,I0,r,q⟩=>⟨I0.kIn,?_⟩) λ_ _ z=>z.elim) he hpl
 have I1:=I0.live
 have q2:=q (s1.heap.objs.size+1) s1.heap.objs.size (I1.hok.fresh (wC _)) (I1.hok.fresh (vU _)) (wP (uG _))
 have I2:=Zv.made (C:=C0) I1
 have r2:ZD (V.ref (s1.heap.objs.size+1)::vs) (Value.ref (s1.heap.objs.size+1)::us):=.cons rfl r
 have hl:(Value.ref (s1.heap.objs.size+1)::us++[]).length=ps.length:=by
  rw[uK,<- r2.length];exact F.len _ _ _ _ q2
 have bb:=hb _ (Value.ref (s1.heap.objs.size+1)::us) I2.kIn hl
 rw[uK]at bb
 refine uL (K7 (f:=f) I1.kIn M.makes M.init (uD.mp M.fn) (uM (F.run _ X.stack _ _ ⟨Value.ref (s1.heap.objs.size+1)::us,[]⟩ (Value.ref (s1.heap.objs.size+1)::us) _ _ _ (hr.make C0 us [])
  (I2.env0.make C0 us []) bb r2 q2) λr s' hq'=>?_))
 cases r with
 | error ev=>exact Hy c hgC hmC hs hN hj hn hst hfr hfn hex hdbC I2 hq'
 | ok fl=>
  cases fl with
  | ret u=>
   obtain⟨v,H',I3,rv,ev,q3⟩:=I2.after hq'
   subst ev
   exact⟨rv,vO (vO ⟨σ,H',I3,q3⟩)⟩
  | next=>exact False.elim hq'
  | brk=>exact False.elim hq'
  | cont=>exact False.elim hq'
theorem Qf{q:Str}{st:Stmt}(c:EC X.K C B initId fld fI)(hmC:X.mg cn=some (.ref C))(D:EJ X.prog X.w X.K X.mg X.base k C0 y q st ps sp)(hb:∀fd fI,VQ X.K "__init__" q st fI fd->XQ X.K fd ps [])(hr:Yg (k+1) X.A)(ha:IPA X.still (e::es) t)(hs:∀e d,IPSs (X.suite e) (b₀::suite) (ts e d))(hN:X.N.Nodup)(hj:X.N[j]? = some n:=by rfl)(hn:X.env.scope.names.lookup n=some .local:=by rfl) 
  (hst:X.stack=X.env::X.outer:=by rfl) (hfr:X.env.frame=some X.env.locals:=by rfl) (hfn:∀x,X.fn x=true:=by intro _;rfl) (hex:X.ex=[]:=by rfl) (hg:Gl X y:=by rfl) (hgC:Gl X cn:=by rfl) (hdb:(y == ("__debug__" : Str))=false:=by decide) (hdbC:(cn == ("__debug__" : Str))=false:=by decide)
  (he:starEach (e::es) X.env=(false,eval e X.env)::starEach es X.env:=by rfl) (hpl:(backTo cpos (starEach es X.env)).any (·.1)=false:=by rfl) (hsw:swapsWith (.Call (.Name y fp) (e::es) [] cpos) none apos.line X.env=pure false:=by rfl) :
  IPS X (.Try [.Expr (.Call (.Name y fp) (e::es) [] cpos) apos] [.ExceptHandler (some (.Name cn cp)) (some n) (b₀::suite) hp] [] [] pos) (J9 j sp C0 C t ts):=by
 obtain⟨f,fd,F,U,M,m⟩:=D.ex
 rw[Zx];exact OK c hgC hmC M F hr hg m (hb _ _ U) ha.get (λe d=>(hs e d).get) hN hj hn hst hfr hfn hex hdb hdbC he hpl hsw
end
section
variable {K:Frag}{C C0:Addr}{fs:FS}{f:V8}{t:TA}{da:XN}
def HS(j:Nat)(C0 C:Addr)(fs:FS)(f:V8)(da:XN)(ds:Addr->Addr->Wd):Wd:=λE s=>da s λvs s1=>∀a,s1.w a=none->f (.own a::vs) (s1.w.put a (Pk C0 [])) (λv w'=>v=.d .none/\E.nx ⟨s1.e,w'⟩) (λp w'=>∀e d,ds e d (RH j E) ⟨s1.e.set j (some (.exc e C d (fs p))),w'⟩)
theorem Hj{j:Nat}{ts:Addr->Addr->TS}{ds:Addr->Addr->Wd}(hm:Cn f)(ha:RA K t da)(hs:∀e d,RS K (ts e d) (ds e d)):RS K (J9 j (OT K C fs f) C0 C t ts) (HS j C0 C fs f da ds):=by
 intro G s σ H D E r po h
 refine ha.ok G s σ H _ r (ha.mo _ _ _ (λvs s1 y G1 H1 xs e1 r1 v1=>?_) h)
 intro x dx hx hdx hne
 have hx2:upd H1 dx (.own x) x=none:=by rw[Zi (zQ hne)];exact hx
 have r2:=r1.new hdx (.own x)
 have r3:Yw K (upd G1 dx (.own x)) (s1.put x (Pk C0 [])) σ (upd (upd H1 dx (.own x)) x (.ins C0 dx [])):=r2.newOwn hx2 (N6 (us:=[]) Zw rfl ZE.nil)
 have hgd:G1 dx=none:=by
  cases q:G1 dx with
  | none=>rfl
  | some o=>rw[r1.sub _ _ q]at hdx;cases hdx
 have e2:Z5 G1 (upd G1 dx (.own x)):=λb o q=>by
  rw[Zi λw=>by rw[w,hgd]at q;cases q];exact q
 refine⟨_,_,.own x::vs,r3.sub,r3.own,.cons rfl (v1.same e2),hm _ _ _ _ _ _ (λv w' z G' H' x' e3 u2 o2 vx=>?_) (λp w' z G' H' d e3 u2 o2 hd=>?_) (y x (r1.free hx))⟩
 ·obtain⟨rfl,z⟩:=z
  exact⟨(show DW K G' .none x' from vx).none_inv,po.nx ⟨s1.e,w'⟩ G' _ H' ((e1.trans e2).trans e3) ⟨u2,o2,(r1.sl.same e2).same e3⟩ z⟩
 ·refine⟨d,rfl,rfl,λe oe he ho=>?_⟩
  have r4:Yw K G' ⟨s1.e,w'⟩ σ H':=⟨u2,o2,(r1.sl.same e2).same e3⟩
  have r5:=r4.new he (.frz oe (PZ C e d))
  have hge:G' e=none:=by
   cases q:G' e with
   | none=>rfl
   | some o=>rw[u2 _ _ q]at he;cases he
  obtain⟨us,hd,k1,k2⟩:=hd
  have hde:d≠e:=λq=>by rw[q,hge]at hd;cases hd
  have e4:Z5 G' (upd G' e (.frz oe (PZ C e d))):=λb o q=>by
   rw[Zi λw=>by rw[w,hge]at q;cases q];exact q
  have vx:VR K (upd G' e (.frz oe (PZ C e d))) (.exc e C d (fs p)) (.ref e):=⟨rfl,oe,us,Zw ..,by rw[Zi hde];exact hd,ho,k1,k2.same e4⟩
  refine hs e d _ _ _ _ _ (RH j E) (r5.set vx j) ?_ (z e d)
  have e5:=((e1.trans e2).trans e3).trans e4
  exact⟨λs' G3 σ' H3 q r q2=>po.nx _ G3 _ H3 (e5.trans q) (r.unset j) q2,λv s' G3 σ' H3 x q r vr q2=>po.rt v s' G3 σ' H3 x (e5.trans q) r vr q2,λs' G3 σ' H3 q r q2=>po.bk _ G3 _ H3 (e5.trans q) (r.unset j) q2,λs' G3 σ' H3 q r q2=>po.ct _ G3 _ H3 (e5.trans q) (r.unset j) q2⟩
end
theorem EJ.dataR{P:Program}{w:World}{K:Frag}{mg:Str->Option Value}{base:Heap}{C C0:Addr}{fs:FS}{x qn:Str}{st:Stmt}{N ps:List Str}{k:Nat}{f:V8}(U:∃a fd,VQ K "__init__" qn st a fd/\Mk K C0 a/\mg x=some (.ref C0))(S:Z8 N ps (Zg st))(len:∀vs w k kx,f vs w k kx->vs.length=ps.length) 
  (hbody:∀(a:Addr) (cdv:Value) (A:Around) (outer:List Env) (s:Shared) (H B:Hp) (E:XK) (kx:PyData->OW->Prop),Yg k (A.deeper (envOfC qn (Zg st) s.heap.objs.size a cdv))->JW K C fs B E kx ->
   ∃t d,VS (Xi (S1 P w) P w K mg base N qn (Zg st) a cdv A outer s H E) (ZQ st) t/\Md K B t d/\∀(as:List Val) (o:OW) (q:Val->OW->Prop),f as o q kx->d { nx:=λs=>∃w',OW.le w' s.w/\q (.d .none) w',rt:=λv s=>∃w',OW.le w' s.w/\q v w' } ⟨Yk N as,o⟩):EJ P w K mg base (k+1) C0 x qn st ps (OT K C fs f):=by
 obtain⟨a,fd,F,M,m⟩:=U
 obtain⟨oc,od,kV,doc,pm,an,cdv,ct,osl,rfl,lk,hcd⟩:=F.ex
 refine⟨a,_,Ri lk hcd S (λvs H Q E h=>?_) (λA outer s H vs Q E hr h=>?_),F,M,m⟩
 ·obtain⟨G,o,as,_,_,h1,h2⟩:=h
  rw[<- h1.length];exact len _ _ _ _ h2
 ·obtain⟨G,o,as,h1,h2,h3,h4⟩:=h
  obtain⟨t,d,q1,q2,q3⟩:=hbody a cdv A outer s H G E (kx:=λx w'=>∀G' H' d,Z5 G G'->Z5 G' H'->YN K G' w' H'->Cw K fs G' d x->E (.ref C) (some d) H') hr λx w' G' H' d e1 e2 e3 e4 z=>z G' H' d e1 e2 e3 e4
  refine⟨t,q1,q2 G ⟨Yk N as,o⟩ (YA N vs) H _ { nx:=λs=>∃w',OW.le w' s.w/\_,rt:=λv s=>∃w',OW.le w' s.w/\_ } (Z5.refl G) ⟨h1,h2,Xr h3⟩ ⟨λs' G' σ' H' e r z=>?_,λv s' G' σ' H' x e r v1 z=>?_,λ_ _ _ _ _ _ z=>False.elim z,λ_ _ _ _ _ _ z=>False.elim z⟩ (q3 as o _ h4)⟩
  ·obtain⟨w',l,z⟩:=z
   exact z G' H' .non e r.sub (r.own.le l) WA
  ·obtain⟨w',l,z⟩:=z
   exact z G' H' x e r.sub (r.own.le l) v1
section
variable {K K':Frag} (S:Od K K')
include S
theorem UL{v t:Value}(e:typeIn K v=some t):typeIn K' v=some t:=by
 cases v with
 | ref a=>
  obtain⟨o,ho,z⟩:=zF.mp e
  exact zF.mpr ⟨o,S _ _ ho,z⟩
 | _=>exact e
theorem Ut{v:Value}{n:Str}{r:Option Value}(e:specialIn K v n=some r):specialIn K' v n=some r:=by
 obtain⟨t,a,b⟩:=sC.mp e
 exact sC.mpr ⟨t,UL S a,Yo S b⟩
theorem J4{t b:Value}{r:Bool}(e:subIn K t b=some r):subIn K' t b=some r:=by
 cases t with
 | ref a=>exact Sa S e
 | _=>exact e
theorem Mz{v b:Value}{r:Bool}(e:instIn K v b=some r):instIn K' v b=some r:=by
 obtain⟨t,a,z⟩:=sC.mp e
 exact sC.mpr ⟨t,UL S a,J4 S z⟩
theorem U2{α:Type}[BEq α][LawfulBEq α]{x y:Option α}{z:α}(h:∀r,x=some r->y=some r)(e:(x == some z)=true):(y == some z)=true:=by
 rw[h _ (uD.mp e)];exact yT _
theorem O9{C:Addr}(e:makesIn K C=true):makesIn K' C=true:=by
 unfold makesIn at e |-
 cases r:K.lookup C with
 | none=>rw[r]at e;cases e
 | some o=>
  rw[r]at e;rw[S _ _ r]
  obtain⟨x,y,d,z⟩:=o
  cases d with
  | cls cd=>
   dsimp only at e |-
   simp only[yG]at e |-
   obtain⟨⟨e1,e2⟩,e3⟩:=e
   exact⟨⟨e1,U2 S (λ_=>Ut S) e2⟩,U2 S (λ_=>Mz S) e3⟩
  | _=>cases e
theorem Rr{v:Value}(e:keepIn K v=true):keepIn K' v=true:=by
 cases v with
 | ref a=>
  unfold keepIn at e |-
  dsimp only at e |-
  cases r:K.lookup a with
  | none=>rw[r]at e;cases e
  | some o=>
   rw[r]at e;rw[S _ _ r]
   obtain⟨x,y,d,z⟩:=o
   cases d with
   | func f=>rfl
   | cls cd=>exact U2 S (λ_=>Ut S) e
   | _=>cases e
 | _=>cases e
theorem Iu{v:Value}(e:isFn K v=true):isFn K' v=true:=U2 S (λ_=>UL S) e
theorem P4{C:Addr}{n:Str}(e:plainGet K C n=true):plainGet K' C n=true:=by
 unfold plainGet at e |-
 obtain⟨e1,e2⟩:=sD.mp e
 exact sD.mpr ⟨U2 S (λ_=>Yo S) e1,U2 S (λ_=>Yo S) e2⟩
theorem Lc{C:Addr}{f:ClassData->Bool}(e:(clsIn K C).any f=true):(clsIn K' C).any f=true:=by
 cases r:clsIn K C with
 | none=>rw[r]at e;cases e
 | some cd=>rw[TB S r];rw[r]at e;exact e
end
def Fq(K:Frag)(C fI cI:Addr)(q:Str)(fl:List Str):=(([makesIn K C,plainGet K C Str.empty,hasDictIn K C,plainOver K C,isFn K (.ref fI),keepIn K (.ref C),keepIn K (.ref fI),codeIn K (.ref cI) q],findIn K (.ref C) "__init__",findIn K (.ref C) "__setattr__",fl.map (findIn K (.ref C))),C3 (K.lookup fI))
def Fp(fI cI:Addr)(q:Str)(fl:List Str)(a:Arguments)(b:List Stmt)(sc:Scope):=((([true,true,true,true,true,true,true,true]:List Bool),(some (some (Value.ref fI)):Option (Option Value)),(some (some (Value.builtin "object.__setattr__")):Option (Option Value)),fl.map λ_=>(some none:Option (Option Value))),
 some ((.type "function" : Value),("__init__" : Str),q,a,FuncBody.stmts b,sc,mainGlobals,([]:List (Str×Addr)),Value.none,Value.ref cI,builtinsNs))
structure Bn(K:Frag)(C:Addr)(q:Str)(fl:List Str)(st:Stmt):Prop where
 cls:GA K C
 att:∀f∈fl,Uz K C f
 ini:∃fI fd,VQ K "__init__" q st fI fd/\Mk K C fI
theorem Fn{K K':Frag}{C fI cI:Addr}{q:Str}{fl:List Str}{st:Stmt}(S:Od K K')(e:Fq K C fI cI q fl=Fp fI cI q fl (YB st) (ZQ st) (Zg st)):Bn K' C q fl st:=by
 unfold Fq Fp at e
 simp only[tT,sB,and_true]at e
 obtain⟨⟨⟨e1,e2,e3,e4,e5,e6,e7,e8⟩,e9,e10,e11⟩,e12⟩:=e
 obtain⟨oI,f1,f2,oc,od,an,kV,doc,pm,ct,osl,rfl⟩:=Kb e12
 refine⟨⟨P4 S e2,Lc S e3,Lc S e4,Yo S e10⟩,λf hf=>?_,⟨fI,_,O4 (S _ _ f1) (Rc S e8) (Rr S e7),⟨O9 S e1,Yo S e9,Iu S e5,Rr S e6⟩⟩⟩
 have:∀l:List Str,l.map (findIn K (.ref C))=l.map (λ_=>(some none:Option (Option Value)))->f∈l->findIn K (.ref C) f=some none:=by
  intro l
  induction l with
  | nil=>intro _ h;cases h
  | cons a l ih=>
   intro h1 h2
   simp only[uE,sB]at h1
   rcases vE.mp h2 with rfl|h2
   ·exact h1.1
   ·exact ih h1.2 h2
 exact Yo S (this fl e11 hf)
structure EL(K:Frag)(C:Addr)(B initId:String)(g1 g2 q:Str)(st:Stmt):Prop where
 cls:EX.ExCls K C
 ini:∃fI fd,EC K C B initId g1 fI/\EC K C B initId g2 fI/\VQ K "__init__" q st fI fd
 fld1:findIn K (.ref C) g1=some none
 fld2:findIn K (.ref C) g2=some none
theorem Ij{K K':Frag}{B newId:String}{bm:List Value}{C N fI cI:Addr}{g1 g2 q:Str}{st:Stmt}{initId sa owner:String}{as:List Addr}(S:Od K K')(e:Dh K C N fI g1 q cI=Dg B newId bm C N fI q cI (YB st) (ZQ st) (Zg st))(e':Dh K C N fI g2 q cI=Dg B newId bm C N fI q cI (YB st) (ZQ st) (Zg st)) 
  (hB:ExcBaseFacts B newId initId bm) (hS:StoreFacts B bm sa owner) (hT:typeLookup (.type B) g1=pure none) (hT':typeLookup (.type B) g2=pure none)
  (hf:∀K,findCls K (.type B) (.type "type") "__init__" = some (.val (.builtin initId))) (ht:typeOf (.type B)=pure (.type "type")) (hs:Manifest.isStub B=false) (hb:bm.contains (.type "object")=true) (ho:∀K,specialIn K (.builtin "object.__class__") "__get__" = some (some (.builtin "getset_descriptor.__get__"))) (hk:∀K,takesIn K (.builtin "object.__class__")=some true) (hc:∀K,findIn K (.type "type") "__call__" = some (some (.builtin "type.__call__"))):EL K' C B initId g1 g2 q st:=by
 unfold Dh Dg at e e'
 simp only[tT,uE,map_nil,sB,and_true]at e e'
 obtain⟨e1,e2,⟨e3,e4,e5⟩,e6,e7,e8,e9,e10,e11⟩:=e
 obtain⟨-,-,⟨-,-,e5'⟩,-,-,-,-,-,e11'⟩:=e'
 obtain⟨nm,qn,bs,sn,sub,ab,col,dd,k0,k1,k2,k3,k5,c1⟩:=GP e1
 obtain⟨mN,n1,n2⟩:=Dx e2
 obtain⟨oI,f1,f2,oc,od,an,kV,doc,pm,ct,osl,rfl⟩:=Kb e6
 have inn:∀h:Heap,K'.In h->K.In h:=λh X a o z=>X _ _ (S _ _ z)
 have cl:=S _ _ c1
 have mro:∀v,(Value.ref C::bm).contains v=true->mroIn K' C v=some true:=λv z=>by
  unfold mroIn clsIn;rw[cl];exact zG some z
 have hd:hasDictIn K' C=true:=by unfold hasDictIn clsIn;rw[cl];rfl
 have kp:keepIn K' (.ref C)=true:=by
  unfold keepIn specialIn typeIn;dsimp only;rw[cl]
  show(((some (.type "type" : Value)).bind λt=>findIn K' t "__call__") == some (some (.builtin "type.__call__")))=true
  rw[tF,hc]
  exact yT _
 have fl:=S _ _ f1
 refine⟨⟨⟨Yo S e8,Yo S e9,mro _ ?_⟩,hd,Yo S e10,ho K',hk K',mro _ ?_⟩,⟨fI,_,⟨⟨nm,qn,N,bs,bm,sn,sub,ab,col,dd,k0,k1,k2,k3,k5,newId,sa,owner,mN,_,cl,λh X=>n2 h (inn h X),(n1 _).symm.trans e3,(n1 _).symm.trans e4,(n1 _).symm.trans e5,hB,hS,hT,fl,f2⟩,hf K',ht,hs,kp⟩,
  ⟨⟨nm,qn,N,bs,bm,sn,sub,ab,col,dd,k0,k1,k2,k3,k5,newId,sa,owner,mN,_,cl,λh X=>n2 h (inn h X),(n1 _).symm.trans e3,(n1 _).symm.trans e4,(n1 _).symm.trans e5',hB,hS,hT',fl,f2⟩,hf K',ht,hs,kp⟩,O4 fl (Rc S e7) (by unfold keepIn;dsimp only;rw[fl])⟩,Yo S e11,Yo S e11'⟩
 ·rw[contains_cons,hB.hasBase,Bool.or_true]
 ·rw[contains_cons,hb,Bool.or_true]
def El(h:Heap)(n:Str):Option Str:=match h.nsMap mainGlobals n with
 | some (.str x _)=>some x
 | _=>none
def PQ(h:Heap):Value->Option (List Value)
 | .ref a=>match h.get? a with
  | some ⟨.type "tuple",_,.seq its _,_⟩=>if its.size≤100 then some its.toList else none
  | _=>none
 | _=>none
def Ks:Value->Option Int
 | .int i _=>some i
 | _=>none
def Js(h:Heap)(n:Str):Option (List (List Int)):=(h.nsMap mainGlobals n).bind λv=>(PQ h v).bind λvs=>vs.mapM λu=>(PQ h u).bind λws=>ws.mapM Ks
theorem R6:∀{us:List Value}{ns:List Int},us.mapM Ks=some ns->ZD (ns.map V.int) us
 | [],ns,h=>by cases h;exact .nil
 | u::us,ns,h=>by
  rw[List.mapM_cons]at h
  obtain⟨i,h1,h⟩:=sC.mp h
  obtain⟨r,h2,h⟩:=sC.mp h
  cases h
  refine .cons ?_ (R6 h2)
  cases u with
  | int j t=>cases h1;exact⟨t,rfl⟩
  | _=>cases h1
theorem PR{h:Heap}{v:Value}{vs:List Value}(e:PQ h v=some vs):∃a o its n,v=.ref a/\h.get? a=some o/\o.cls=.type "tuple"/\o.data=.seq its n/\its.size≤100/\vs=its.toList:=by
 cases v with
 | ref a=>
  unfold PQ at e
  dsimp only at e
  split at e
  ·next d its n sl he=>
   split at e
   ·next z=>cases e;exact⟨a,_,its,n,rfl,he,rfl,rfl,z,rfl⟩
   ·cases e
  ·cases e
 | _=>cases e
def Jr(ns:List Int):PyData:=.tuple (ns.map .int)
theorem P9{s:Shared}{h:Heap}{mg:Str->Option Value}{n:Str}{L:List (List Int)}(g:h.Ns mainGlobals mg)(k:∀b o,s.heap.get? b=some o->h.get? b=some o)(e:Js s.heap n=some L):∃a,mg n=some (.ref a)/\∀G,DW (Oa h) G (.tuple (L.map Jr)) (.ref a):=by
 obtain⟨v,h1,e⟩:=sC.mp e
 obtain⟨vs,h2,e⟩:=sC.mp e
 obtain⟨a,o,its,m,rfl,ho,hc,hd,hz,rfl⟩:=PR h2
 have hm:mg n=some (.ref a):=by
  rw[g.eq_nsMap];exact VM k h1
 have ct:CT (Oa h):=Ff (k _ _ ho)
 refine⟨a,hm,λG=>?_⟩
 have key:∀{us:List Value}{L:List (List Int)},us.mapM (λu=>(PQ s.heap u).bind λws=>ws.mapM Ks)=some L->∃xs,ZD xs us/\ZE (Oa h) G (L.map Jr) xs:=by
  intro us
  induction us with
  | nil=>intro L e;cases e;exact⟨[],.nil,ZE.nil⟩
  | cons u us ih=>
   intro L e
   rw[List.mapM_cons]at e
   obtain⟨ns,q1,e⟩:=sC.mp e
   obtain⟨r,q2,e⟩:=sC.mp e
   cases e
   obtain⟨ws,q3,q4⟩:=sC.mp q1
   obtain⟨b,o',its',m',rfl,ho',hc',hd',hz',rfl⟩:=PR q3
   obtain⟨xs,r1,r2⟩:=ih q2
   refine⟨.ref b::xs,.cons rfl r1,ZE.cons ?_ r2⟩
   unfold Jr DW
   exact⟨b,ns.map V.int,rfl,.inr ⟨.inr ct,o',its',m',by rw[YG];exact k _ _ ho',hc',hd',by rw[vZ];omega,R6 q4⟩,ZE.ints ns⟩
 obtain⟨xs,r1,r2⟩:=key e
 unfold DW
 exact⟨a,xs,rfl,.inr ⟨.inr ct,o,its,m,by rw[YG];exact k _ _ ho,hc,hd,by rw[vZ];omega,r1⟩,r2⟩
theorem Hs{s:Shared}{h:Heap}{mg:Str->Option Value}{n x:Str}(g:h.Ns mainGlobals mg)(k:∀b o,s.heap.get? b=some o->h.get? b=some o)(e:El s.heap n=some x):∃u,mg n=some u/\ZL (.str x) u:=by
 unfold El at e
 split at e
 ·next y t z=>
  cases e
  exact⟨_,by rw[g.eq_nsMap];exact VM k z,⟨t,rfl⟩⟩
 ·cases e
theorem Gy{K:Frag}{v:V}{d:PyData}(h:∀G,DW K G d v):RE K (tC v) (dC (.d d)):=ON λG=>h G
theorem JI:typeLookup (.type "TypeError") "__setattr__" = pure (some (.builtin "object.__setattr__")):=by
 rw[typeLookup_type,builtinLookup_eq_fast]
 kernel_rfl
theorem JH:(Manifest.find? "object").bind (λt=>t.attrs.lookup "__setattr__")=some .slot\/(Manifest.find? "object").bind (λt=>t.attrs.lookup "__setattr__")=some .method:=by
 first|exact yQ (by decide +kernel)|exact yR (by decide +kernel)
theorem MS:isSubtype (.type "TypeError") (.type "object")=pure true:=by
 rw[isSubtype_type]
 kernel_rfl
theorem PF:StoreFacts "TypeError" [.type "TypeError",.type "Exception",.type "BaseException",.type "object"] "object.__setattr__" "object":=
 have V:=PySem.F.store_ValueError
 ⟨by kernel_rfl,Slot.of JI V.split (by decide +kernel) (by decide +kernel) JH MS,V.entry,V.kind,V.split,rfl,V.args,λ_=>by kernel_rfl⟩
end L2
set_option maxHeartbeats 0
local macro_rules
 | `(tactic| simp!) => `(tactic| simp! only [])
 | `(tactic| simp! only [$xs:simpLemma,*]) => `(tactic| ((try dsimp only [L2.Mj, L2.L5, L2.WN, L2.Ml, L2.LC, L2.N_, L2.nl, L2.Yk, L2.EF, L2.PN, L2.Su, L2.PM, L2.DS.put, L2.DS.set, L2.Ov, L2.dC, L2.G_, L2.HP, L2.GV, L2.De, L2.Ey, L2.rdA, L2.rdT, L2.rdL, L2.rdM, L2.rdD, L2.CP, L2.fU, L2.CM, L2.Dj, L2.Di, L2.fI, L2.HU, L2.LS, L2.LV, L2.QT, L2.LQ, L2.Dk, L2.LX, L2.LZ, L2.LF, L2.L6, L2.Nq, L2.GQ, L2.CN, L2.GZ, L2.Lm, L2.E_, L2.L7, L2.EU, L2.f1, L2.f2, L2.Q_, L2.TR, L2.Ub, L2.Dr, L2.Kf, L2.HY, L2.QV, L2.QW, L2.LW, L2.HW, L2.Lx, L2.GW, L2.EZ, L2.L8, L2.HQ, L2.Fb, L2.Ly, L2.Qx, L2.Ie, L2.CO, L2.GY, L2.dP, L2.Ka, L2.L_, L2.Dc, L2.Rg, L2.Lo, L2.Lq, L2.MV, L2.VY, L2.ext, map_cons, map_nil, cons_append, nil_append, length_cons, length_nil, replicate_succ, List.replicate_zero, List.set_cons_zero, List.set_cons_succ, getElem?_cons_zero, getElem?_cons_succ, List.getElem?_nil, map_some, bind_some, Option.bind_none, Option.join_some, Option.join_none, Nat.reduceSub, Nat.reduceAdd, Nat.reduceLeDiff, false_eq_true, if_true, if_false, reduceIte, ite_true, ite_false, true_and, and_true, Bool.not_true, Bool.not_false, L2.OW.put_same, L2.OW.put_put, L2.Nj, L2.GR, L2.Lz, L2.Dm, L2.Dp, L2.Lp, L2.Kj, L2.Ou, L2.Ud, L2.QU, L2.Xs, L2.rdK, L2.HG, L2.HN, L2.HK, L2.HI, L2.Ln, L2.Kg, L2.HX, L2.QX, L2.EY, L2.EW, L2.Lw, L2.HJ, L2.HL, L2.Nr, L2.Np, L2.Nl, L2.Bt, L2.Lr, L2.HF, L2.HE, L2.GU, L2.LD, L2.Pm, L2.Kl, L2.Km, L2.Gd, L2.Gb, L2.Ls, L2.HH, L2.Lv, L2.Nk, L2.Nn, L2.L4, L2.Dl, L2.RM, L2.Lu, L2.RN, L2.Tq, L2.HR, L2.Dd, L2.L9, L2.EV, L2.LB, L2.L3, L2.unK_kvK, decide_true, $xs,*]); (try simp only [L2.Mj, L2.L5, L2.WN, L2.Ml, L2.LC, L2.N_, L2.nl, L2.Yk, L2.EF, L2.PN, L2.Su, L2.PM, L2.DS.put, L2.DS.set, L2.Ov, L2.dC, L2.G_, L2.HP, L2.GV, L2.De, L2.Ey, L2.rdA, L2.rdT, L2.rdL, L2.rdM, L2.rdD, L2.CP, L2.fU, L2.CM, L2.Dj, L2.Di, L2.fI, L2.HU, L2.LS, L2.LV, L2.QT, L2.LQ, L2.Dk, L2.LX, L2.LZ, L2.LF, L2.L6, L2.Nq, L2.GQ, L2.CN, L2.GZ, L2.Lm, L2.E_, L2.L7, L2.EU, L2.f1, L2.f2, L2.Q_, L2.TR, L2.Ub, L2.Dr, L2.Kf, L2.HY, L2.QV, L2.QW, L2.LW, L2.HW, L2.Lx, L2.GW, L2.EZ, L2.L8, L2.HQ, L2.Fb, L2.Ly, L2.Qx, L2.Ie, L2.CO, L2.GY, L2.dP, L2.Ka, L2.L_, L2.Dc, L2.Rg, L2.Lo, L2.Lq, L2.MV, L2.VY, L2.ext, map_cons, map_nil, cons_append, nil_append, length_cons, length_nil, replicate_succ, List.replicate_zero, List.set_cons_zero, List.set_cons_succ, getElem?_cons_zero, getElem?_cons_succ, List.getElem?_nil, map_some, bind_some, Option.bind_none, Option.join_some, Option.join_none, Nat.reduceSub, Nat.reduceAdd, Nat.reduceLeDiff, false_eq_true, if_true, if_false, reduceIte, ite_true, ite_false, true_and, and_true, Bool.not_true, Bool.not_false, L2.OW.put_same, L2.OW.put_put, L2.Nj, L2.GR, L2.Lz, L2.Dm, L2.Dp, L2.Lp, L2.Kj, L2.Ou, L2.Ud, L2.QU, L2.Xs, L2.rdK, L2.HG, L2.HN, L2.HK, L2.HI, L2.Ln, L2.Kg, L2.HX, L2.QX, L2.EY, L2.EW, L2.Lw, L2.HJ, L2.HL, L2.Nr, L2.Np, L2.Nl, L2.Bt, L2.Lr, L2.HF, L2.HE, L2.GU, L2.LD, L2.Pm, L2.Kl, L2.Km, L2.Gd, L2.Gb, L2.Ls, L2.HH, L2.Lv, L2.Nk, L2.Nn, L2.L4, L2.Dl, L2.RM, L2.Lu, L2.RN, L2.Tq, L2.HR, L2.Dd, L2.L9, L2.EV, L2.LB, L2.L3, L2.unK_kvK, decide_true, $xs,*]); (try ((with_reducible refine L2.M4 ?_); (try simp! only [$xs,*])))))
local macro_rules
 | `(tactic| nofun) => `(tactic| repeat' first | (with_reducible first | apply Zc | apply Zm | apply Zk | apply Y0 | apply YO | apply ZZ | apply ZM | apply ZX | apply VO | apply X2 | apply Sh | apply UJ | apply Yu | apply Jp | apply W5 | apply OO | apply NN | apply Tv | apply Qu | apply Tu false | apply W6 | apply Sj | apply Rz | apply Xw false | apply OM | apply P7 | apply Z_ | apply NQ | apply Xy | apply Qq | apply Qr | apply Ed | apply Qp | apply Ry | apply Ji | apply Vn | apply Hi | apply Jk | apply NO | apply Je | apply DP | apply Bf | apply Vo | apply Qt | apply Qn | apply DO | apply Jn | apply UY | apply W7 | apply W8 | apply DN | apply Jw | apply Qo | apply UZ | apply Um | apply Jq | apply Jt | apply Gz | apply OP | apply Qm | apply He | apply Jj false | apply Qs | apply Jv false | apply Jl) | exact Uj | exact P1 | exact Pz | exact IA | apply Jp | apply OO | apply Rz | apply OM | apply P7 | apply Qq | apply Qr | apply Ry | apply Ji | apply Vn | apply Jk | apply NO | apply Je | apply Vo | apply Qn | apply Jn | apply UY | apply UZ | apply Um | apply Jq | apply OP | apply Qm | apply Jj false | apply Qs | apply Jv false | apply Jl)
namespace Mine
open PySem PySem.W PySem.W.X PySem.Spec PyProof.Rows L2
def Bs:List Addr:=[43,63,83,103,123,143,163,183,203,224,244,264,284]
def CL:List Str:=["NoHouse","NoBidder","NoBundle","NoPhase","NoPoints","NoWorths","NotAll","NoLast","NoMoney","TooMany","NoChoice","NoRow","NoLine"]
def Iw:List Value:=[.ref 43,.ref 63,.ref 83,.ref 103,.ref 123,.ref 143,.ref 163,.ref 183,.ref 203,.ref 224,.ref 244,.ref 264,.ref 284,.type "TypeError",.type "KeyError",.type "ValueError",.type "RuntimeError",.type "ArithmeticError",.type "LookupError",.type "OverflowError",.type "IndexError"]
def Ib:List Bool:=[true,false,false,false,false,false,false,false,false,false,false,false,false,true,false,false,false,false,false,false,false]
def ER:List Addr:=42::40::39::429::428::353::352::Bs
def TY:Stmt:=(ET (PySem.Challenge.pw_bundleclocks_k18_no_houses.main.body.getD 4 (.Pass ⟨0,0,0,0⟩))).getD 0 (.Pass ⟨0,0,0,0⟩)
def Qe:Stmt:=(ET (PySem.Challenge.pw_bundleclocks_k18_no_houses.main.body.getD 32 (.Pass ⟨0,0,0,0⟩))).getD 0 (.Pass ⟨0,0,0,0⟩)
def Bq:List Value:=[.type "TypeError",.type "Exception",.type "BaseException",.type "object"]
def Fj:List Str:=["kind_rows","bidder_rows"]
def Bx:List (List Int):=[[1,4],[0,999],[1,99],[0,9]]
def Br:List (List Int):=[[0,99]]
def Y7:Str:="abcdefghijklmnopqrstuvwxyz"
def CB(s:Shared):=((Dh (TQ ER s.heap) 43 42 40 "part" "NoHouse.__init__" 39,Dh (TQ ER s.heap) 43 42 40 "place" "NoHouse.__init__" 39),CY (TQ ER s.heap) s.heap 43 CL Iw,Fq (TQ ER s.heap) 429 353 352 "House.__init__" Fj,([("House" : Str)].map (s.heap.nsMap mainGlobals),El s.heap "LETTERS",Js s.heap "KIND_NUMBERS",Js s.heap "BIDDER_NUMBERS"))
def Ci:=((Dg "TypeError" "TypeError.__new__" Bq 43 42 40 "NoHouse.__init__" 39 (Ld TY) (Lg TY) (OR TY),Dg "TypeError" "TypeError.__new__" Bq 43 42 40 "NoHouse.__init__" 39 (Ld TY) (Lg TY) (OR TY)),(Bs.map λa=>some (Value.ref a),Ib.map some),Fp 353 352 "House.__init__" Fj (Ld Qe) (Lg Qe) (OR Qe),([(429:Addr)].map λa=>some (Value.ref a),some Y7,some Bx,some Br))
def goodLA(p:Program):=Ga p ["TooMany"]
theorem goodEA:goodLA=goodLA:=rfl
name_quick goodQA for goodLA by goodEA
def goodLD(p:Program):=Ds p ["TooMany"]
theorem goodED:goodLD=goodLD:=rfl
name_quick goodQD for goodLD by goodED
noncomputable def onceL1(p:Program)(w:World)(os:OsState):=XE p (Gh p p CB) 20000 w os
theorem onceE1:onceL1=onceL1:=rfl
name_quick onceQ1 for onceL1 by onceE1
theorem DT(w:World)(os:OsState):onceL1 PySem.Challenge.pw_bundleclocks_k18_no_houses w os=some (bltViewBooted,true,Ci):=(sH (sH (sH PySem.W.Fast.onceQ1_eq PySem.Challenge.pw_bundleclocks_k18_no_houses) w) os).trans (by kernel_rfl:PySem.W.Fast.onceQ1 PySem.Challenge.pw_bundleclocks_k18_no_houses w os=some (bltViewBooted,true,Ci))
noncomputable def onceLA(p:Program)(w:World)(os:OsState):=XE p (Gi p p ["TooMany"]) 20000 w os
theorem onceEA:onceLA=onceLA:=rfl
name_quick onceQA for onceLA by onceEA
theorem D_(w:World)(os:OsState):onceLA PySem.Challenge.pw_bundleclocks_k18_no_houses w os=goodLA PySem.Challenge.pw_bundleclocks_k18_no_houses:=(sH (sH (sH PySem.W.Fast.onceQA_eq PySem.Challenge.pw_bundleclocks_k18_no_houses) w) os).trans ((by kernel_rfl:PySem.W.Fast.onceQA PySem.Challenge.pw_bundleclocks_k18_no_houses w os=PySem.W.Fast.goodQA PySem.Challenge.pw_bundleclocks_k18_no_houses).trans (sH PySem.W.Fast.goodQA_eq PySem.Challenge.pw_bundleclocks_k18_no_houses).symm)
noncomputable def onceLD(p:Program)(w:World)(os:OsState):=XE p (Px p ["TooMany"]) 20000 w os
theorem onceED:onceLD=onceLD:=rfl
name_quick onceQD for onceLD by onceED
theorem NS(w:World)(os:OsState):onceLD PySem.Challenge.pw_bundleclocks_k18_no_houses w os=goodLD PySem.Challenge.pw_bundleclocks_k18_no_houses:=(sH (sH (sH PySem.W.Fast.onceQD_eq PySem.Challenge.pw_bundleclocks_k18_no_houses) w) os).trans ((by kernel_rfl:PySem.W.Fast.onceQD PySem.Challenge.pw_bundleclocks_k18_no_houses w os=PySem.W.Fast.goodQD PySem.Challenge.pw_bundleclocks_k18_no_houses).trans (sH PySem.W.Fast.goodQD_eq PySem.Challenge.pw_bundleclocks_k18_no_houses).symm)
theorem DU(w:World)(os:OsState):XE PySem.Challenge.pw_bundleclocks_k18_no_houses (Pw PySem.Challenge.pw_bundleclocks_k18_no_houses ["TooMany"]) 20000 w os=some true:=Vl (f:=Px PySem.Challenge.pw_bundleclocks_k18_no_houses ["TooMany"]) (r:=(true,true,(pinGoodD (drecsOf PySem.Challenge.pw_bundleclocks_k18_no_houses),plainGoodE PySem.Challenge.pw_bundleclocks_k18_no_houses (looseW PySem.Challenge.pw_bundleclocks_k18_no_houses ["TooMany"])),(plainGoodD PySem.Challenge.pw_bundleclocks_k18_no_houses ["TooMany"],wideGood PySem.Challenge.pw_bundleclocks_k18_no_houses,clsGoodW PySem.Challenge.pw_bundleclocks_k18_no_houses ["TooMany"]))) (λz=>z.1) (NS w os)
theorem DX(w:World)(os:OsState):XE PySem.Challenge.pw_bundleclocks_k18_no_houses (K3 PySem.Challenge.pw_bundleclocks_k18_no_houses) 20000 w os=some true:=Vl (f:=Px PySem.Challenge.pw_bundleclocks_k18_no_houses ["TooMany"]) (r:=(true,true,(pinGoodD (drecsOf PySem.Challenge.pw_bundleclocks_k18_no_houses),plainGoodE PySem.Challenge.pw_bundleclocks_k18_no_houses (looseW PySem.Challenge.pw_bundleclocks_k18_no_houses ["TooMany"])),(plainGoodD PySem.Challenge.pw_bundleclocks_k18_no_houses ["TooMany"],wideGood PySem.Challenge.pw_bundleclocks_k18_no_houses,clsGoodW PySem.Challenge.pw_bundleclocks_k18_no_houses ["TooMany"]))) (λz=>z.2.1) (NS w os)
theorem DY(w:World)(os:OsState):XE PySem.Challenge.pw_bundleclocks_k18_no_houses (K4 PySem.Challenge.pw_bundleclocks_k18_no_houses ["TooMany"]) 20000 w os=HZ PySem.Challenge.pw_bundleclocks_k18_no_houses ["TooMany"]:=Vl (f:=Px PySem.Challenge.pw_bundleclocks_k18_no_houses ["TooMany"]) (r:=(true,true,(pinGoodD (drecsOf PySem.Challenge.pw_bundleclocks_k18_no_houses),plainGoodE PySem.Challenge.pw_bundleclocks_k18_no_houses (looseW PySem.Challenge.pw_bundleclocks_k18_no_houses ["TooMany"])),(plainGoodD PySem.Challenge.pw_bundleclocks_k18_no_houses ["TooMany"],wideGood PySem.Challenge.pw_bundleclocks_k18_no_houses,clsGoodW PySem.Challenge.pw_bundleclocks_k18_no_houses ["TooMany"]))) (λz=>z.2.2.1) (NS w os)
theorem DZ(w:World)(os:OsState):XE PySem.Challenge.pw_bundleclocks_k18_no_houses (K5 PySem.Challenge.pw_bundleclocks_k18_no_houses ["TooMany"]) 20000 w os=H_ PySem.Challenge.pw_bundleclocks_k18_no_houses ["TooMany"]:=Vl (f:=Px PySem.Challenge.pw_bundleclocks_k18_no_houses ["TooMany"]) (r:=(true,true,(pinGoodD (drecsOf PySem.Challenge.pw_bundleclocks_k18_no_houses),plainGoodE PySem.Challenge.pw_bundleclocks_k18_no_houses (looseW PySem.Challenge.pw_bundleclocks_k18_no_houses ["TooMany"])),(plainGoodD PySem.Challenge.pw_bundleclocks_k18_no_houses ["TooMany"],wideGood PySem.Challenge.pw_bundleclocks_k18_no_houses,clsGoodW PySem.Challenge.pw_bundleclocks_k18_no_houses ["TooMany"]))) (λz=>z.2.2.2) (NS w os)
theorem runs(w:World)(os:OsState):NC PySem.Challenge.pw_bundleclocks_k18_no_houses PySem.Challenge.pw_bundleclocks_k18_no_houses ["TooMany"] CB 20000 w os=N3 PySem.Challenge.pw_bundleclocks_k18_no_houses ["TooMany"] Ci:=KA (D_ w os) (DT w os) (DU w os) (DX w os) (DY w os) (DZ w os)
end Mine
namespace L2
open PySem PySem.Spec PyProof.Rows
structure EK(P:Program)(w:World)(K:Frag)(mg:Str->Option Value)(base:Heap)(k:Nat)(x:Str)(ps:List Str)(sp:Sp):Prop where
 ex:∃f fd,Xv P w K mg base (S1 P w) k f fd ps sp/\PySem.W.keepIn K (.ref f)=true/\XQ K fd ps []/\mg x=some (.ref f)
def Pd(n:Nat)(pick:List (Nat×Nat)):Prop:=∀(d:Value) (us:List Value),us.length=n->Kj d n 0 pick us []=us
theorem QB.all{K:Frag}{x:Str}{st:Stmt}{ps:List Str}{n:Nat}{pick:List (Nat×Nat)}{f e:Addr}{fd:FuncData}(F:QB K x st f fd e)(h:R9 x st ps [] n 0 pick)(hn:ps.length=n)(hp:Pd n pick):XQ K fd ps []:=λs us kin hl=>by
 rw[uK]at hl |-
 have e:=hp (.ref e) us (hl.trans hn)
 have:=(F.kbinds h).to s us [] kin (by rw[e];exact hl)
 rw[e]at this
 exact this
theorem EK.data{P:Program}{w:World}{K:Frag}{mg:Str->Option Value}{base:Heap}{C:Addr}{fld x:Str}{st:Stmt}{N ps:List Str}{k n:Nat}{pick:List (Nat×Nat)}{em:Addr}{f:V8}(U:∃a fd,QB K x st a fd em/\mg x=some (.ref a))(hk:R9 x st ps [] n 0 pick)(hn:ps.length=n)(hp:Pd n pick)(S:Z8 N ps (Zg st))(len:∀vs w k kx,f vs w k kx->vs.length=ps.length) 
  (hbody:∀(a:Addr) (cdv:Value) (A:Around) (outer:List Env) (s:Shared) (H B:Hp) (E:XK) (kx:PyData->OW->Prop),Yg k (A.deeper (envOfC x (Zg st) s.heap.objs.size a cdv))->Bp K C fld B E kx ->
   ∃t d,VS (Xi (S1 P w) P w K mg base N x (Zg st) a cdv A outer s H E) (ZQ st) t/\Md K B t d/\∀(as:List Val) (o:OW) (q:Val->OW->Prop),f as o q kx->d { nx:=λs=>∃w',OW.le w' s.w/\q (.d .none) w',rt:=λv s=>∃w',OW.le w' s.w/\q v w' } ⟨Yk N as,o⟩):EK P w K mg base (k+1) x ps (B0 K C fld f):=by
 obtain⟨a,fd,F,m⟩:=U
 have hB:=F.all hk hn hp
 have kp:=F.kp
 obtain⟨oc,od,T,kV,doc,pm,an,cdv,ct,osl,oT,nT,rfl,lk,hcd,hT,hd⟩:=F.ex
 refine⟨a,_,Ri lk hcd S (λvs H Q E h=>?_) (λA outer s H vs Q E hr h=>?_),kp,hB,m⟩
 ·obtain⟨G,o,as,_,_,h1,h2⟩:=h
  rw[<- h1.length];exact len _ _ _ _ h2
 ·obtain⟨G,o,as,h1,h2,h3,h4⟩:=h
  obtain⟨t,d,q1,q2,q3⟩:=hbody a cdv A outer s H G E (kx:=λx w'=>∀G' H' u d,Z5 G G'->Z5 G' H'->YN K G' w' H'->G' d=some (.xd [(fld,u)])->DW K G' x u->E (.ref C) (some d) H') hr λx w' G' H' u d e1 e2 e3 e4 e5 z=>z G' H' u d e1 e2 e3 e4 e5
  refine⟨t,q1,q2 G ⟨Yk N as,o⟩ (YA N vs) H _ { nx:=λs=>∃w',OW.le w' s.w/\_,rt:=λv s=>∃w',OW.le w' s.w/\_ } (Z5.refl G) ⟨h1,h2,Xr h3⟩ ⟨λs' G' σ' H' e r z=>?_,λv s' G' σ' H' x e r v1 z=>?_,λ_ _ _ _ _ _ z=>False.elim z,λ_ _ _ _ _ _ z=>False.elim z⟩ (q3 as o _ h4)⟩
  ·obtain⟨w',l,z⟩:=z
   exact z G' H' .non e r.sub (r.own.le l) WA
  ·obtain⟨w',l,z⟩:=z
   exact z G' H' x e r.sub (r.own.le l) v1
section
variable {X:Cx}{K:Frag}
def Tc(z:Str)(lo hi:Option Int):Str:=if((Builtin.Str.strSliceIndices lo hi 1 z.length).length == z.length)=true then z else⟨((Builtin.Str.strSliceIndices lo hi 1 z.length).filterMap (z.cps[·]?)).toArray⟩
theorem Lk{z:Str}{lo hi:Option Int}{c:Nat}(h:c∈(Tc z lo hi).cps.toList):c∈z.cps.toList:=by
 unfold Tc at h
 split at h
 ·exact h
 ·obtain⟨i,_,e⟩:=mem_filterMap.mp (by simpa using h)
  have:=Array.mem_of_getElem? e
  simpa using this
theorem QI{z:Str}{lo hi:Option Int}:(Tc z lo hi).length≤z.length:=by
 unfold Tc
 split
 ·exact vU _
 ·have h:=indices_len_le lo hi z.length
  show(((Builtin.Str.strSliceIndices lo hi 1 z.length).filterMap (z.cps[·]?)).toArray).size≤_
  rw[yC]
  exact wZ (List.length_filterMap_le _ _) h
def DM:V->Option Int->Option Int->Hp->VK->Prop:=λx lo hi H Q=>∃z,x=.str z/\z.length≤sizeLine/\Q (.str (Tc z lo hi)) H
theorem Ei:La X DM:=by
 intro pins s σ H x v vl vu lo hi sl Q I rx hs pl pu h
 obtain⟨z,rfl,hz,q⟩:=h
 obtain⟨t,rfl⟩:=rx
 have hc:=wZ (QI (z:=z) (lo:=lo) (hi:=hi)) hz
 obtain⟨o,h1,h2,h3⟩:=hs
 obtain⟨l,rfl,rfl⟩:∃l:Option (Int×Tok),vl=partValue l/\l.map (·.1)=lo:=by
  cases pl with
  | none=>exact⟨none,rfl,rfl⟩
  | int i t=>exact⟨some (i,t),rfl,rfl⟩
 obtain⟨u,rfl,rfl⟩:∃l:Option (Int×Tok),vu=partValue l/\l.map (·.1)=hi:=by
  cases pu with
  | none=>exact⟨none,rfl,rfl⟩
  | int i t=>exact⟨some (i,t),rfl,rfl⟩
 refine⟨"str",_,PySem.F.slot_str_getitem.lookup,typeIs_str s z t,?_⟩
 refine wpAny_getItem_str_slice (l:=l) (u:=u) (st:=none) ⟨o,h1,h2,h3⟩ rfl ?_
 unfold Tc at q hc
 unfold sliceMade
 have e1:(((none:Option (Int×Tok)).map (·.1)).getD 1 == 1&&(slicePicked z l u none).length == z.length)=((Builtin.Str.strSliceIndices (l.map (·.1)) (u.map (·.1)) 1 z.length).length == z.length):=rfl
 rw[e1]
 split
 ·next c=>
  rw[zJ c]at q
  exact⟨.str z,H,I,⟨_,rfl⟩,q⟩
 ·next c=>
  rw[wH c]at q hc
  exact⟨hc,.str _,H,I.tok _,⟨_,rfl⟩,q⟩
def DL(K:Frag):V->Option Int->Option Int->Hp->VK->Prop:=λx lo hi H Q=>Jb K x lo hi H Q\/(λx lo hi H Q=>Ea K x lo hi H Q\/DM x lo hi H Q) x lo hi H Q
theorem Eh:La X (DL X.K):=Xf.or (Hq.or Ei)
def Ik:Val->Option Int->Option Int->ZG:=λv lo hi s k=>match v with
 | .d (.tuple ds)=>k (.d (.tuple (Xz ds lo hi))) s
 | .d (.list ds)=>k (.d (.list (Xz ds lo hi))) s
 | .d (.str z)=>z.length≤sizeLine/\k (.d (.str (Tc z lo hi))) s
 | _=>False
theorem DR:Ct K (DL K) Ik:=by
 refine⟨λv lo hi s Q Q' h q=>?_,λG s σ H x v lo hi Q r v1 h=>?_⟩
 ·unfold Ik at q |-;split at q
  ·exact h _ _ q
  ·exact h _ _ q
  ·exact⟨q.1,h _ _ q.2⟩
  ·exact q.elim
 ·unfold Ik at h;split at h
  ·exact .inl (UZ.ok G s σ H x _ lo hi Q r v1 h)
  ·exact .inr (.inl ((Jv false).ok G s σ H x _ lo hi Q r v1 h))
  ·exact .inr (.inr ⟨_,YL v1,h.1,h.2.here r Wc⟩)
  ·exact h.elim
def Gw(K:Frag):List V->Hp->VK->Prop:=λxs H Q=>(∃p ys,xs=[.ref p]/\(Xg K H p ys\/X7 K H p ys)/\Q (.int ys.length) H)\/(∃z,xs=[.str z]/\z.length≤sizeLine/\Q (.int z.length) H)
theorem Rb:YE X (.builtin "len") (Gw X.K):=ZY.or RJ
def Pa:Val->ZG:=λv s k=>match v with
 | .d (.str z)=>z.length≤sizeLine/\k (.d (.int z.length)) s
 | v=>Q_ v s k
theorem NL:RC K (Gw K) (f1 Pa):=by
 refine EE (λv s Q Q' h q=>?_) (λG s σ H x v Q r v1 h=>?_)
 ·unfold Pa at q |-;split at q
  ·exact⟨q.1,h _ _ q.2⟩
  ·unfold Q_ at q |-;split at q
   ·exact h _ _ q
   ·exact q.elim
 ·unfold Pa at h;split at h
  ·next z=>exact .inr ⟨z,by rw[YL v1],h.1,h.2.here r W9⟩
  ·refine .inl ?_
   unfold Q_ at h;split at h
   ·next ds e=>
    obtain⟨a,xs,rfl,h1,h2⟩:=r.rdA v1 e
    exact⟨a,xs,rfl,h1,by rw[<- h2.length];exact h.here r W9⟩
   ·exact h.elim
def LY:Val->Val->ZG:=λv w s k=>match v,w with
 | .d (.str z),.d (.int i)=>z.length≤sizeLine/\∃c,atI z.cps.toList i=some c/\k (.d (.str ⟨#[c]⟩)) s
 | _,_=>False
theorem Jo:RO K DH LY:=by
 refine⟨λv w s Q Q' h q=>?_,λG s σ H x y v w Q r v1 v2 h=>?_⟩
 ·unfold LY at q |-;split at q
  ·obtain⟨h1,c,h2,h3⟩:=q;exact⟨h1,c,h2,h _ _ h3⟩
  ·exact q.elim
 ·unfold LY at h;split at h
  ·next z i=>
   obtain⟨h1,c,h2,h3⟩:=h
   exact⟨z,i,c,YL v1,Ye v2,h1,h2,h3.here r Wc⟩
  ·exact h.elim
inductive TyD(K:Frag)(H:Hp):V->Value->Prop where
 | non:TyD K H .non (.type "NoneType")
 | bl (x:Bool):TyD K H (.bl x) (.type "bool")
 | int (i:Int):TyD K H (.int i) (.type "int")
 | str (x:Str):TyD K H (.str x) (.type "str")
 | lst {a:Addr}{xs:List V} (h:Xg K H a xs):TyD K H (.ref a) (.type "list")
 | tup {a:Addr}{xs:List V} (h:X7 K H a xs):TyD K H (.ref a) (.type "tuple")
end
section
variable {X:Cx}{K:W.Frag}{G:Hp}
def Ja(K:W.Frag):List V->Hp->VK->Prop:=λxs H Q=>(∃a d,xs=[.ref a]/\DV K H d (.ref a)/\d.showable=true/\d.hasDict=false/\d.depth≤40/\d.shown.length≤sizeLine/\Q (.str d.shown) H)\/(xs=[.non]/\Q (.str "None") H)\/(∃i:Int,xs=[.int i]/\i.natAbs.log2<1920/\Q (.str (toString i)) H) \/
 (∃b:Bool,xs=[.bl b]/\Q (.str (if b then "True" else "False")) H)\/∃z:Str,xs=[.str z]/\(reprText z).length≤sizeLine/\Q (.str (reprText z)) H
theorem T8(hg:X.A.guards=some [])(hu:X.A.units+64<cLine):YE X (.builtin "repr") (Ja X.K):=by
 rintro pins s σ H xs us Q I r (h|h|h|⟨b,rfl,q⟩|⟨z,rfl,h,q⟩)
 ·exact VA hg hu pins s σ H xs us Q I r (.inl h)
 ·exact VA hg hu pins s σ H xs us Q I r (.inr (.inl h))
 ·exact VA hg hu pins s σ H xs us Q I r (.inr (.inr h))
 ·obtain⟨u,rfl,rx⟩:=Vf r
  cases (show u=Value.bool b from rx)
  exact P.repr_of_bool ⟨.str (if b then "True" else "False"),H,I.tok _,⟨_,rfl⟩,q⟩
 ·obtain⟨u,rfl,t,rfl⟩:=Vf r
  exact P.repr_of_str ⟨.str _,H,I.tok _,⟨_,rfl⟩,q⟩ h
def C_(d:PyData):Prop:=(CU d=true/\Ba d)\/d=.none\/(∃i:Int,d=.int i/\i.natAbs.log2<1920)\/(∃b,d=.bool b)\/∃z:Str,d=.str z/\(reprText z).length≤sizeLine
def Qb:Val->ZG:=λv s k=>match v with | .d d=>C_ d/\k (.d (.str d.shown)) s|_=>False
theorem P6:RC K (Ja K) (f1 Qb):=by
 refine EE (λv s Q Q' h q=>?_) (λG s σ H x v Q r v1 h=>?_)
 ·unfold Qb at q |-;split at q
  ·exact⟨q.1,h _ _ q.2⟩
  ·exact q.elim
 ·unfold Qb at h;split at h
  ·next d=>
   obtain⟨h0,h⟩:=h
   rcases h0 with ⟨h0,h1,h2,h3,h4⟩|rfl|⟨i,rfl,hi⟩|⟨b,rfl⟩|⟨z,rfl,hz⟩
   ·have D:=r.rdD v1 rfl h2
    obtain⟨a,rfl⟩:∃a,x=.ref a:=by
     cases d<;>simp only[CU]at h0<;>try cases h0
     ·unfold DV at D;obtain⟨a,_,e,_⟩:=D;exact⟨a,e⟩
     ·unfold DV at D;obtain⟨a,_,e,_⟩:=D;exact⟨a,e⟩
    exact .inl ⟨a,d,rfl,D,h1,h2,h3,h4,h.here r Wc⟩
   ·have D:=r.rdD v1 rfl (by rfl)
    unfold DV at D
    subst D
    exact .inr (.inl ⟨rfl,h.here r Wc⟩)
   ·exact .inr (.inr (.inl ⟨i,by rw[Ye v1],hi,h.here r Wc⟩))
   ·exact .inr (.inr (.inr (.inl ⟨b,by rw[U_ v1],by cases b<;>exact h.here r Wc⟩)))
   ·exact .inr (.inr (.inr (.inr ⟨z,by rw[YL v1],hz,h.here r Wc⟩)))
  ·exact h.elim
end
theorem Dn.never{P:Program}{w:World}{K:Frag}{mg:Str->Option Value}{base:Heap}{x:Str}{st:Stmt}{N ps:List Str}{k:Nat}{f:WH}(U:∃a fd,VQ K x x st a fd/\mg x=some (.ref a))(S:Z8 N ps (Zg st))(h:∀vs w q,f vs w q->False):Dn P w K mg base (k+1) x st ps (V7 K f):=by
 have no:∀vs H Q E,V7 K f vs H Q E->False:=λvs H Q E ⟨G,o,as,_,_,_,z⟩=>h _ _ _ z
 exact Dn.of U S (λvs H Q E z=>(no _ _ _ _ z).elim) λa cdv A outer s H vs Q E hr z=>(no _ _ _ _ z).elim
def MO(c:Nat):Str:=⟨#[c]⟩
def CD(x:Str):It:=⟨λi _=>i<x.cps.size,λi H y H'=>H'=H/\∃c,x.cps[i]? = some c/\y=.str (MO c),λi _=>x.cps.size≤i,false⟩
theorem S8:entryFor table "str_ascii_iterator.__iter__" = some Builtin.«dict_keyiterator.__iter__»:=
 entryFor_alias (id':="dict_keyiterator.__iter__") (by kernel_rfl) (by first|rfl|decide +kernel|(unfold String.splitOn;simp +decide [String.splitOnAux])) (by decide +kernel) (by kernel_rfl)
theorem JE{P:Program}{w:World}{K:Frag}{tg:Expr}(x:Str)(t:Tok)(it:Addr):Oe P w K tg (CD x) [it] it (λi h=>h.IsStrIter it "str_ascii_iterator" x t i) where
 mem:=by simp
 obj:=λi h st b hb=>by
  have e:b=it:=by simpa using hb
  subst e
  obtain⟨o,e,c,d⟩:=st
  exact⟨o,e,λv z=>by rw[d]at z;cases z⟩
 keep:=λi h h' st k=>by
  obtain⟨o,e,r⟩:=st
  exact⟨o,k it (by simp) _ e,r⟩
 item:=by
  intro X hP hw hK hc i pins s σ H E I hf st hg
  subst hP hw hK
  have hi:i<x.cps.size:=hg
  obtain⟨f0,f1,f2,f3,f4,f5⟩:=hf it (by simp)
  refine wpAny_pyNext_ascii_item (c:=x.cps[i]) st (by simp[hi]) λh' st' sb=>?_
  have I1:Zv X pins σ H { s with heap:=h',toks:=s.toks+1 }:=I.turned (λb o hb e=>(sb.2 b hb).trans e) f0 f1 f3 f4 f5
  obtain⟨o,e,c,d⟩:=id st'
  exact⟨_,rfl,Kn (s:={ s with heap:=h',toks:=s.toks+1 }) e c d (by decide) ⟨.str (MO x.cps[i]),H,I1,⟨_,rfl⟩,⟨rfl,_,by simp[hi],rfl⟩,st',λb hb=>(hf b hb).1⟩⟩
 done:=by
  intro X hP hw hK hc i pins s σ H E I hf st hg
  subst hP hw hK
  have hi:x.cps.size≤i:=hg
  obtain⟨f0,f1,f2,f3,f4,f5⟩:=hf it (by simp)
  rcases hc with hc|⟨hc,_⟩
  ·exact wpAny_pyNext_ascii_end (I.ok.cd hc) st (by simp[hi]) λh' eb=>⟨rfl,I.turned (t':=s.toks) (λb o hb e=>eb b o hb e) f0 f1 f3 f4 f5⟩
  ·cases hc
 self:=λA i s Q E st h=>by
  refine wpAny_pyIter_slot st.typeIs PySem.F.slot_str_ascii_iterator_iter (wG PySem.F.slot_str_ascii_iterator_iter st.typeIs S8 ?_ (PySem.F.args_str_ascii_iterator_iter_1 _))
  show wpAny _ _ (ret (.ref it)) _ _ s
  exact zM ⟨_,rfl,"str_ascii_iterator",_,st.typeIs,PySem.F.slot_str_ascii_iterator_next.lookup,h⟩
section
variable {X:Cx}{K:Frag}{tg:Expr}
def Fl(tl:TE):TI:=λσ H R=>tl σ H λx H1=>∃z,x=.str z/\z.cps.all (· < 128)=true/\R (CD z) H1
theorem FH{l:Expr}{tl:TE}(hl:PE X l tl)(hc:X.cold=true:=by rfl):PI X tg l (Fl tl):=by
 intro pins s σ H R I h
 refine Y2 (hl pins s σ H _ I h) λv s1 ⟨x,H1,I1,r1,q1⟩=>?_
 obtain⟨z,e,ha,q⟩:=q1
 subst e
 obtain⟨t,rfl⟩:=r1
 refine wpAny_pyIter_ascii ha ?_
 refine⟨s1.heap.objs.size,[s1.heap.objs.size],_,_,H1,rfl,I1.kept (t':=s1.toks) λb o e=>zX _ e,JE z t _,⟨_,zY _ rfl,rfl,rfl⟩,λb hb=>?_,.inl hc,q⟩
 have e:b=s1.heap.objs.size:=by simpa using hb
 subst e
 exact I1.fpOk (vU _) (I1.hok.fresh (vU _))
theorem Pg{l:Expr}{tl:TE}(hl:IPE X l tl)(hc:X.cold=true:=by rfl):IPI X tg l (Fl tl):=by
 simp only[Zt,Zz]at *
 exact FH hl hc
def Ho(z:Str):List PyData:=z.cps.toList.map λc=>.str (MO c)
def GX(d:ZG):S4:=λs k=>d s λv s1=>match v with | .d (.str z)=>z.cps.all (· < 128)=true/\k (Ho z,MV) s1|_=>False
theorem Tp.str{z:Str}{G:Hp}:Tp K (CD z) G (λ_=>True) (Ho z):=by
 intro G1 s σ H i e _ r
 refine⟨λd hd=>?_,λhl=>by show z.cps.size≤i;simpa[Ho]using hl⟩
 obtain⟨c,h1,h2⟩:∃c,z.cps[i]? = some c/\d=.str (MO c):=by
  unfold Ho at hd
  rw[uV]at hd
  cases q:z.cps.toList[i]? with
  | none=>rw[q]at hd;cases hd
  | some c=>rw[q]at hd;cases hd;exact⟨c,by simpa using q,rfl⟩
 subst h2
 refine⟨(tX.mp h1).1,λy H' hy=>?_⟩
 obtain⟨rfl,c',h3,rfl⟩:=hy
 rw[h1]at h3;cases h3
 exact⟨G1,Z5.refl _,r,DW.str⟩
theorem Jh{t:TE}{d:ZG}(h:RE K t d):RI K (Fl t) (GX d):=by
 refine⟨λs Q Q' z y=>h.mo _ _ _ (λv s1 y=>?_) y,λG s σ H R r y=>h.ok G s σ H _ r (h.mo _ _ _ (λv s1 y G1 H1 x e1 r1 v1=>?_) y)⟩
 ·split at y
  ·exact⟨y.1,z _ _ y.2⟩
  ·exact y.elim
 ·split at y
  ·next z=>exact⟨z,YL v1,y.1,y.2 G1 H1 _ e1 r1 Tp.str⟩
  ·exact y.elim
def DF:R2:=λx y H Q=>∃i j,x=.str i/\y=.str j/\Q (.bl (PySem.Txt.contains j i)) H
theorem KD:XZ X (compareOp .In) DF:=by
 intro pins s σ H x y u v Q I rx ry h
 obtain⟨i,j,rfl,rfl,q⟩:=h
 obtain⟨t,rfl⟩:=rx
 obtain⟨t',rfl⟩:=ry
 exact P.in_str ⟨.bl _,H,I,rfl,q⟩
def Mr:Val->Val->ZG:=λv w s k=>match v,w with
 | .d (.str i),.d (.str j)=>k (.d (.bool (PySem.Txt.contains j i))) s
 | _,_=>False
theorem Jm:RO K DF Mr:=by
 refine⟨λv w s Q Q' h q=>?_,λG s σ H x y v w Q r v1 v2 h=>?_⟩
 ·unfold Mr at q |-;split at q
  ·exact h _ _ q
  ·exact q.elim
 ·unfold Mr at h;split at h
  ·next i j=>exact⟨i,j,YL v1,YL v2,h.here r Xu⟩
  ·exact h.elim
def Nw:Val->Val->ZG:=λv w s k=>match v,w with
 | .d (.str i),.d (.str j)=>i.length+j.length≤sizeLine/\k (.d (.str (i++j))) s
 | _,_=>False
theorem Hg:RO K (λx y H Q=>∃i j,x=.str i/\y=.str j/\i.length+j.length≤sizeLine/\Q (.str (i++j)) H) Nw:=by
 refine⟨λv w s Q Q' h q=>?_,λG s σ H x y v w Q r v1 v2 h=>?_⟩
 ·unfold Nw at q |-;split at q
  ·exact⟨q.1,h _ _ q.2⟩
  ·exact q.elim
 ·unfold Nw at h;split at h
  ·next i j=>exact⟨i,j,YL v1,YL v2,h.1,h.2.here r Wc⟩
  ·exact h.elim
def Gv(K:Frag):V->List V->Hp->VK->Prop:=λx vs H Q=>∃(z:Str) (l:Addr) (ts:List Str),x=.str z/\vs=[.ref l]/\Xg K H l (ts.map V.str)/\JoinOk z ts=true/\Q (.str (PySem.Txt.join z ts)) H
theorem strs_inv:∀{ts:List Str}{us:List Value},ZD (ts.map V.str) us->∃l:List (Str×Tok),us=strValues l/\l.map (·.1)=ts
 | [],us,h=>by cases h;exact⟨[],rfl,rfl⟩
 | x::ts,us,h=>by
  rw[uE]at h
  cases h with
  | cons h1 h2=>
   obtain⟨t,rfl⟩:=h1
   obtain⟨l,rfl,rfl⟩:=strs_inv h2
   exact⟨(x,t)::l,rfl,rfl⟩
theorem IB:GD X "str.join" (Gv X.K):=by
 intro pins s σ H x vs v us Q I rx rv h
 obtain⟨z,l,ts,rfl,rfl,hs,hj,q⟩:=h
 obtain⟨u,rfl,ru⟩:=rv.one
 obtain⟨t,rfl⟩:=rx
 cases (show u=Value.ref l from ru)
 obtain⟨its,rvs,pl,hz⟩:=I.list hs
 obtain⟨us,rfl,ht⟩:=strs_inv rvs
 exact SC.join pl.isList ht hj λt' k=>⟨.str _,H,I.tok _,⟨_,rfl⟩,q⟩
def HM(d:ZG)(da:XN):ZG:=λs k=>d s λv s1=>match v with
 | .d (.str z)=>da s1 λvs s2=>match vs with
  | [u]=>(match rdL s2.w u with
   | some ds=>∃ts:List Str,ds=ts.map .str/\JoinOk z ts=true/\k (.d (.str (PySem.Txt.join z ts))) s2
   | none=>False)
  | _=>False
 | _=>False
theorem ZE.strs_inv{G:Hp}:∀{ns:List Str}{xs:List V},ZE K G (ns.map .str) xs->xs=ns.map V.str
 | [],xs,h=>by unfold ZE at h;exact h
 | n::r,xs,h=>by
  rw[uE]at h
  unfold ZE at h
  obtain⟨x,t,rfl,h1,h2⟩:=h
  rw[h1.str_inv,ZE.strs_inv h2];rfl
theorem Hd{to:TE}{t:TA}{d:ZG}{da:XN}(h:RE K to d)(ha:RA K t da):RE K (C8 K "str" (Gv K) to t) (HM d da):=by
 refine⟨λs Q Q' z q=>h.mo _ _ _ (λv s1 q=>?_) q,λG s σ H Q r q=>h.ok G s σ H _ r (h.mo _ _ _ (λv s1 q G1 H1 x e1 r1 v1=>?_) q)⟩
 ·split at q
  ·refine ha.mo _ _ _ (λvs s2 q=>?_) q
   split at q
   ·split at q
    ·obtain⟨ts,h1,h2,q⟩:=q;exact⟨ts,h1,h2,z _ _ q⟩
    ·exact q.elim
   ·exact q.elim
  ·exact q.elim
 ·split at q
  ·next y=>
   cases YL v1
   refine⟨rfl,ha.ok G1 s1 σ H1 _ r1 (ha.mo _ _ _ (λvs s2 q G2 H2 xs e2 r2 v2=>?_) q)⟩
   split at q
   ·split at q
    ·next ds q1=>
     obtain⟨ts,rfl,hj,q⟩:=q
     obtain⟨u,rfl,v3⟩:=v2.one
     obtain⟨a,ys,rfl,h1,h2⟩:=r2.rdL v3 q1
     cases h2.strs_inv
     exact⟨y,a,ts,rfl,rfl,h1,hj,q G2 H2 _ (e1.trans e2) r2 Wc⟩
    ·exact q.elim
   ·exact q.elim
  ·exact q.elim
end
section
variable {P:Program}{w:World}{K:Frag}{mg:Str->Option Value}{base:Heap}{N:List Str}{qual:Str}{scope:Scope}{f:Addr}{cdv:Value}{A:Around}{outer:List Env}{s₀:Shared}{H₀:Hp}{E:XK}{C fI:Addr}{B initId:String}{fld x:Str}{k:Nat}{fd:FuncData}{ps:List Str}{sp:Sp}{a b:Expr}{t:TA}{np cpos pos:Pos}
theorem UT(c:EC K C B initId fld fI)(F:Xv P w K mg base S0 k fI fd ps sp)(mos:∀vs H (Q Q':VK) E,(∀v H',Q v H'->Q' v H')->sp vs H Q E->sp vs H Q' E)(hr:Yg (k+1) (A.deeper (envOfC qual scope s₀.heap.objs.size f cdv)))(hb:XQ K fd ps [])(hm:mg x=some (.ref C))(ha:IPA (Xi (S1 P w) P w K mg base N qual scope f cdv A outer s₀ H₀ E) [a,b] t) 
  (hg:Gl (Xi (S1 P w) P w K mg base N qual scope f cdv A outer s₀ H₀ E) x:=by rfl) (hdb:(x == ("__debug__" : Str))=false:=by decide) (he:starEach [a,b] (Xi (S1 P w) P w K mg base N qual scope f cdv A outer s₀ H₀ E).env=(false,eval a (Xi (S1 P w) P w K mg base N qual scope f cdv A outer s₀ H₀ E).env)::starEach [b] (Xi (S1 P w) P w K mg base N qual scope f cdv A outer s₀ H₀ E).env:=by rfl) (hpl:(backTo cpos (starEach [b] (Xi (S1 P w) P w K mg base N qual scope f cdv A outer s₀ H₀ E).env)).any (·.1)=false:=by rfl) :
  IPS (Xi (S1 P w) P w K mg base N qual scope f cdv A outer s₀ H₀ E) (.Raise (some (.Call (.Name x np) [a,b] [] cpos)) none pos) (Ew C sp E t):=by
 rw[Zx];exact MJ rfl c F mos hr hb hg hm ha.get hdb he hpl
end
theorem Pj{X:Cx}{o value:Expr}{f:Str}{ta tv:TE}{pos pos':Pos}(ha:IPE X o ta)(hv:IPE X value tv)(hs:swapsWith value (some (.Attribute o f pos')) pos.line X.env=pure false:=by rfl):IPS X (.Assign [.Attribute o f pos'] value pos) (Ef X.K ta tv f):=by
 rw[Zx];exact FN ha.get hv.get hs
structure EO(w:World)(K:Frag)(mg:Str->Option Value)(t:Str)(rows:List (Str×Addr)):Prop where
 ex:∃L o es ep,mg t=some (.ref L)/\(L == sysModules)=false/\K.lookup L=some o/\o.ExactDict/\o.data=.dict es ep/\(∀P,KeysOf (ZS P w) es)/\(∀P,Pairs (ZS P w) es.toList (rows.map λr=>((Sum.inr r.1:YM),Value.ref r.2)))/\(rows.map (·.1)).Nodup
section
variable {X:Cx}{pins:List (Addr×Obj)}{σ:St}{H:Hp}{s:Shared}{t:Str}{rows:List (Str×Addr)}
theorem EO.dict(T:EO X.w X.K X.mg t rows):∃L,X.mg t=some (.ref L)/\(L == sysModules)=false/\∀(pins:List (Addr×Obj)) (σ:St) (H:Hp) (s:Shared),Zv X pins σ H s->s.heap.DictOf (ZS X.prog X.w) L (rows.map λr=>((Sum.inr r.1:YM),Value.ref r.2)):=by
 obtain⟨L,o,es,ep,h1,h2,h3,h4,h5,h6,h7,h8⟩:=T.ex
 refine⟨L,h1,h2,λpins σ H s I=>⟨o,es,ep,I.kIn _ _ h3,h4,h5,h6 _,h7 _,?_⟩⟩
 rw[map_map]
 rw[show((λx=>x.1) ∘ λr:Str×Addr=>((Sum.inr r.1:YM),Value.ref r.2))=λr=>(Sum.inr r.1:YM) from rfl]
 have:(rows.map λr=>(Sum.inr r.1:YM))=(rows.map (·.1)).map Sum.inr:=by rw[map_map];rfl
 rw[this]
 exact h8.map Sum.inr λa b n e=>n (Sum.inr.inj e)
def FV(P:Program)(w:World)(K:Frag)(mg:Str->Option Value)(base:Heap)(k:Nat)(p:Addr×WH):Prop:=∃fd ps x st,Xv P w K mg base S0 k p.1 fd ps (V7 K p.2)/\VQ K x x st p.1 fd/\ZF x st ps
theorem FV.of{P:Program}{w:World}{K:Frag}{mg:Str->Option Value}{base:Heap}{k k':Nat}{x:Str}{st:Stmt}{ps:List Str}{d:WH}{f:Addr}(D:Dn P w K mg base k x st ps (V7 K d))(hb:ZF x st ps)(m:mg x=some (.ref f))(hk:k≤k'):FV P w K mg base k' (f,d):=by
 obtain⟨f',fd,F,U,m'⟩:=D.ex
 rw[m]at m';cases m'
 exact⟨fd,ps,x,st,F.mono hk,U,hb⟩
end
theorem KP{X:Cx}{x:Str}{v:V}{pos:Pos}(hg:Gl X x)(h:∃u,X.mg x=some u/\ZL v u)(hd:(x == ("__debug__" : Str))=false:=by decide):PE X (.Name x pos) (tC v):=by
 obtain⟨u,m,r⟩:=h
 exact IL hg m r hd
theorem ZK{X:Cx}{x:Str}{v:V}{pos:Pos}(hg:Gl X x)(h:∃u,X.mg x=some u/\ZL v u)(hd:(x == ("__debug__" : Str))=false:=by decide):IPE X (.Name x pos) (tC v):=by
 rw[Zt];exact KP hg h hd
end L2
namespace L2
open PySem PySem.W PySem.W.X PySem.Spec PyProof.Rows
theorem Tr{q:Program}{loose:List Str}{XP:(Str->Option Value)->Heap->Prop}{w:World}{s₀:Shared}{mg mb:Str->Option Value}{h:Heap}(G:Ground q loose [] XP w s₀ mg mb h){x:Str}{n:Int}(e:valOf q x=some (.int n)):∃u,mg x=some u/\ZL (.int n) u:=by
 obtain⟨v,h1,h2⟩:=G.T.const _ _ e
 refine⟨v,h1,?_⟩
 cases h2 h
 exact⟨_,rfl⟩
end L2
namespace L2
open PySem PySem.Spec PyProof.Rows
abbrev Xh:=List YM×List YM
section
variable {prog:Program}{w:World}{A:Around}{E:Value->Shared->Prop}{s:Shared}
def YR(prog:Program)(w:World)(h:Heap)(k:Xh)(a:Addr):Prop:=∃o items n pre b,h.get? a=some o/\o.cls=.type "tuple"/\o.data=.seq items n/\items.toList=pre++[.ref b]/\ItemsAre (ZS prog w) k.1 pre/\IsTupleKey (ZS prog w) h k.2 b/\k.1.length=2
theorem YR.typeIs{k:Xh}{a:Addr}(x:YR prog w s.heap k a):s.TypeIs (.ref a) "tuple":=let ⟨o,_,_,_,_,ho,hc,_⟩:=x;⟨o,ho,hc⟩
theorem YR.inj{h:Heap}{a:Addr}{x y:Xh}(hx:YR prog w h x a)(hy:YR prog w h y a):x=y:=by
 obtain⟨o,items,n,pre,b,ho,_,hd,hi,hp,hb,_⟩:=hx
 obtain⟨o',items',n',pre',b',ho',_,hd',hi',hp',hb',_⟩:=hy
 obtain rfl:o=o':=vK (ho.symm.trans ho')
 rw[hd]at hd'
 injection hd' with h1 _
 subst h1
 rw[hi]at hi'
 obtain⟨e1,e2⟩:=List.append_inj' hi' rfl
 subst e1
 injection e2 with e2 _
 injection e2 with e2
 subst e2
 exact zI (hp.inj hp') (hb.inj hb')
theorem YR.keeps{h h':Heap}{k:Xh}{a d:Addr}{o:Obj}{es ep}(x:YR prog w h k a)(ho:h.get? d=some o)(hd:o.data=.dict es ep)(hs:Heap.SameBut d h h'):YR prog w h' k a:=by
 obtain⟨o',items,n,pre,b,ho',hc,hd',hi,hp,hb,h2⟩:=x
 have hne:a≠d:=by
  rintro rfl
  obtain rfl:o'=o:=vK (ho'.symm.trans ho)
  rw[hd]at hd';exact nomatch hd'
 exact⟨o',items,n,pre,b,(hs.2 a hne).trans ho',hc,hd',hi,hp,hb.keeps ho hd hs,h2⟩
def Sr(w:World)(prog:Program)(k:Xh):Int:=reduceHash (Builtin.Tuple.tupleHashOf (k.1.map (ZS prog w).hash++[tupleKeyHash (ZS prog w) k.2]))
theorem Mu{k:Xh}{a:Addr}{Q:Int->Shared->Prop}(hu:A.units+8<cLine)(hk:YR prog w s.heap k a)(h:Q (Sr w prog k) { s with toks:=s.toks+(k.1.length+(k.2.length+1)+1) }):
  wpAny (model prog w) A (pyHash (.ref a)) Q E s:=by
 have hT:=hk.typeIs
 obtain⟨o,items,n,pre,b0,ho,_,hd,hl,hi,hb,_⟩:=hk
 unfold pyHash
 first|unfold pyHashByItsType|skip
 first|refine zL (wpAny_cRoomFor_or (.inr (tP (xB ..) hu)) ?_)|skip
 refine zL (wQ hT sI.lookup ?_)
 show wpAny _ _ (if(some (Value.builtin "tuple.__hash__") == some Value.none)=true then _ else _) Q E s
 rw[wH (by rw[beq_builtin_none];exact wI)]
 refine zL (wQ hT sI.lookup ?_)
 show wpAny _ _ (callSpecialIfBoundUnlessNone? (.ref a) "__hash__" _>>=_) Q E s
 refine zL (wpAny_callSpecialIfBoundUnlessNone?_slot hT sI (wG sI hT F.entry_tuple_hash ?_ (F.args_tuple_hash_1 _)))
 show wpAny _ _ (Builtin.Tuple.tupleItemsOf (.ref a)>>=_) _ _ s
 refine zL (sJ ho hd ?_)
 refine zL ?_
 rw[<- xK,hl]
 refine sK _
  (λrest (b:Array Int) s'=>(∃done left pre',k.1=done++left/\rest=pre'++[.ref b0]/\ItemsAre (ZS prog w) left pre'/\b.toList=done.map (ZS prog w).hash/\s' = { s with toks:=s.toks+done.length }) \/
   (rest=[]/\b.toList=k.1.map (ZS prog w).hash++[tupleKeyHash (ZS prog w) k.2]/\s' = { s with toks:=s.toks+(k.1.length+(k.2.length+1)) }))
  _ ?_ ?_ _ _ (.inl ⟨[],k.1,pre,rfl,rfl,hi,rfl,rfl⟩)
 ·rintro x rest b s' (⟨done,left,pre',e,er,hl',hb',rfl⟩|⟨e,_⟩)
  ·cases hl' with
   | nil=>
    injection er with e1 e2
    subst e1 e2
    rw[uK]at e
    refine zL (wpAny_pyHash_tuple (by show A.units+1<cLine;omega) hb ?_)
    first
     | exact zM (.inr ⟨rfl,by simp[hb',e],by rw[e];simp[sL]⟩)
     | exact zL (zM (zM (.inr ⟨rfl,by simp[hb',e],by rw[e];simp[sL]⟩)))
   | @cons k1 _ ks' vs' h1 hl2=>
    injection er with e1 e2
    subst e1
    refine zL ((ZS prog w).pyHash h1 ?_)
    first
     | exact zM (.inl ⟨done++[k1],ks',vs',by simp[e],e2,hl2,by simp[hb'],by simp[sL]⟩)
     | exact zL (zM (zM (.inl ⟨done++[k1],ks',vs',by simp[e],e2,hl2,by simp[hb'],by simp[sL]⟩)))
  ·cases e
 ·rintro b s' (⟨done,left,pre',_,er,_⟩|⟨_,hb',rfl⟩)
  ·cases pre'<;>cases er
  show wpAny _ _ (retInt (Builtin.Tuple.tupleHashOf b.toList)) _ _ _
  rw[hb']
  refine wpAny_ret_mkInt ?_
  unfold Sr reduceHash at h
  show wpAny _ _ (if(decide (-(2:Int) ^ 63≤Builtin.Tuple.tupleHashOf (k.1.map (ZS prog w).hash++[tupleKeyHash (ZS prog w) k.2]))&&decide (Builtin.Tuple.tupleHashOf (k.1.map (ZS prog w).hash++[tupleKeyHash (ZS prog w) k.2])<2 ^ 63))=true then _ else _) Q E _
  by_cases hr:(decide (-(2:Int) ^ 63≤Builtin.Tuple.tupleHashOf (k.1.map (ZS prog w).hash++[tupleKeyHash (ZS prog w) k.2]))&&decide (Builtin.Tuple.tupleHashOf (k.1.map (ZS prog w).hash++[tupleKeyHash (ZS prog w) k.2])<2 ^ 63))=true
  ·rw[zJ hr]
   rw[zJ hr]at h
   exact zM (by simpa[sL]using h)
  ·rw[wH hr]
   rw[wH hr]at h
   exact zL (wL (zM (by simpa[sL]using h)))
theorem Q0{x y:Xh}{a b:Addr}{P:Fin->Shared->Prop}(hu:A.units+4<cLine)(hx:YR prog w s.heap x a)(hy:YR prog w s.heap y b)(h:P (.done (.ret (.bool (decide (x=y))))) s):
  wpAny (model prog w) A (Builtin.«tuple.__eq__» ⟨[.ref a,.ref b],[]⟩) P E s:=by
 have hTb:=hy.typeIs
 obtain⟨oa,xs,na,xp,a0,hoa,_,hda,hxl,hia,ha0,hx2⟩:=hx
 obtain⟨ob,ys,nb,yp,b0,hob,_,hdb,hyl,hib,hb0,hy2⟩:=hy
 have hl:x.1.length=y.1.length:=hx2.trans hy2.symm
 show wpAny _ _ (isInstance (.ref b) (.type "tuple")>>=_) _ _ s
 refine zL (wN hTb sM ?_)
 simp only[sE,wR,wS]
 refine zL (sJ hoa hda ?_)
 refine zL (sJ hob hdb ?_)
 have hsz:(xs.size == ys.size)=true:=by
  rw[<- vN,<- vN,hxl,hyl,uX,uX,<- hia.length,<- hib.length,hl]
  simp
 refine zL ?_
 refine sK _
  (λrest r s'=>r.1=none/\s'=s/\((∃x' y' xs' ys',rest=List.zip (xs'++[.ref a0]) (ys'++[.ref b0])/\ItemsAre (ZS prog w) x' xs'/\ItemsAre (ZS prog w) y' ys'/\x'.length=y'.length/\decide ((x',x.2)=(y',y.2))=decide (x=y)) \/
   (rest=[]/\decide (x=y)=true)))
  _ ?_ ?_ _ _ ⟨rfl,rfl,.inl ⟨x.1,y.1,xp,yp,by rw[hxl,hyl],hia,hib,hl,rfl⟩⟩
 ·rintro ⟨u,v⟩ rest r s' ⟨hr,rfl,⟨x',y',xs',ys',hz,hx',hy',hlen,hdec⟩|⟨e,_⟩⟩
  ·cases hx' with
   | nil=>
    have:y'=[]:=tG.mp hlen.symm
    subst this
    cases hy'
    simp only[tH,zip_cons_cons,List.zip_nil_right,sB,tT]at hz
    obtain⟨⟨rfl,rfl⟩,rfl⟩:=hz
    refine zL (wpAny_eqBool_tuple (by first|(show A.units+1<cLine;omega)|(show A.units<cLine;omega)) ha0 hb0 ?_)
    by_cases hk:x.2=y.2
    ·rw[yO hk]
     simp only[sE,wR,wS]
     refine zM ⟨rfl,rfl,.inr ⟨trivial,?_⟩⟩
     rw[<- hdec];simp[hk]
    ·rw[wV hk]
     simp only[sF,yD]
     have hf:decide (x=y)=false:=by rw[<- hdec];simp[hk]
     rw[hf]at h
     exact zL (zM (zM (zM h)))
   | @cons k1 u' x'' xs'' h1 hx''=>
    cases hy' with
    | nil=>simp at hlen
    | @cons k2 v' y'' ys'' h2 hy''=>
     simp only[yV,zip_cons_cons,sB,tT]at hz
     obtain⟨⟨rfl,rfl⟩,rfl⟩:=hz
     refine zL ((ZS prog w).eqBool (a:=k1) (b:=k2) h1 h2 ?_)
     by_cases hk:k1=k2
     ·subst hk
      rw[yO rfl]
      simp only[sE,wR,wS]
      refine zM ⟨rfl,rfl,.inl ⟨x'',y'',xs'',ys'',rfl,hx'',hy'',by simpa using hlen,?_⟩⟩
      rw[<- hdec]
      exact decide_eq_decide.mpr (by simp)
     ·rw[wV hk]
      simp only[sF,yD]
      have hf:decide (x=y)=false:=by rw[<- hdec];simp[hk]
      rw[hf]at h
      exact zL (zM (zM (zM h)))
  ·cases e
 ·rintro ⟨r1,r2⟩ s' ⟨hr,rfl,⟨x',y',xs',ys',hz,_⟩|⟨_,hd'⟩⟩
  ·cases xs'<;>cases ys'<;>simp at hz
  simp only at hr
  subst hr
  refine zM ?_
  show P (.done (.ret (.bool (xs.size == ys.size)))) s'
  rw[hsz,<- hd'];exact h
theorem Ii{x y:Xh}{a b:Addr}{Q:Bool->Shared->Prop}(hu:A.units+8<cLine)(hx:YR prog w s.heap x a)(hy:YR prog w s.heap y b)(h:Q (decide (x=y)) s):
  wpAny (model prog w) A (eqBool (.ref a) (.ref b)) Q E s:=by
 unfold eqBool
 try with_reducible refine zN ?_
 show wpAny _ _ (if(Value.ref a == Value.ref b)=true then _ else _) Q E s
 by_cases hab:(Value.ref a == Value.ref b)=true
 ·rw[zJ hab]
  have e:a=b:=by have:=eq_of_beq hab;injection this
  subst e
  obtain rfl:=hx.inj hy
  exact zL (wL (zM (by simpa using h)))
 ·rw[wH hab]
  exact zL (wpAny_richCompare_same_room (op:=.Eq) hx.typeIs hy.typeIs sN
   (wG sN hx.typeIs F.entry_tuple_eq (Q0 (by first|(show A.units+1+4<cLine;omega)|(show A.units+2+4<cLine;omega)|(show A.units+4<cLine;omega)) hx hy ⟨_,rfl,(λe=>nomatch e),vM h⟩) (F.args_tuple_eq_2 _ _)) (tP (xB ..) hu))
theorem ML{n:Nat}{ks:List YM}{a:Addr}{Q:Bool->Shared->Prop}(hk:IsTupleKey (ZS prog w) s.heap ks a)(h:Q true s):wpAny (model prog w) A (eqIsQuiet (n+1) (.ref a)) Q E s:=by
 have hT:=hk.typeIs
 obtain⟨o,items,m,ho,_,hd,hi⟩:=hk
 unfold eqIsQuiet
 refine zL (wQ hT sN.lookup ?_)
 show wpAny _ _ (isInstance (.ref a) (.type "tuple")>>=_) _ _ s
 refine zL (wN hT sM ?_)
 simp only[sE,wR,wS]
 refine zL (wJ ho hd ?_)
 refine zL ?_
 show wpAny _ _ (forIn items _ _) _ _ s
 rw[<- xK]
 refine sK _ (λrest r s'=>r.1=none/\s'=s/\∀v∈rest,carriedByValue v=true) _ ?_ ?_ _ _ ⟨rfl,rfl,hi.byValue⟩
 ·rintro v rest r s' ⟨hr,rfl,hall⟩
  rw[eqIsQuiet_byValue _ (hall v vB)]
  refine zL (zM ?_)
  simp only[sE,wR,wS]
  exact zM ⟨rfl,rfl,λu hu'=>hall u (vC _ hu')⟩
 ·rintro ⟨r1,r2⟩ s' ⟨hr,rfl,_⟩
  simp only at hr
  subst hr
  exact zM h
theorem OL{k:Xh}{a:Addr}{Q:Bool->Shared->Prop}(hk:YR prog w s.heap k a)(h:Q true s):wpAny (model prog w) A (eqIsQuiet 8 (.ref a)) Q E s:=by
 have hT:=hk.typeIs
 obtain⟨o,items,m,pre,b0,ho,_,hd,hl,hi,hb,_⟩:=hk
 unfold eqIsQuiet
 refine zL (wQ hT sN.lookup ?_)
 show wpAny _ _ (isInstance (.ref a) (.type "tuple")>>=_) _ _ s
 refine zL (wN hT sM ?_)
 simp only[sE,wR,wS]
 refine zL (wJ ho hd ?_)
 refine zL ?_
 show wpAny _ _ (forIn items _ _) _ _ s
 rw[<- xK,hl]
 refine sK _ (λrest r s'=>r.1=none/\s'=s/\∀v∈rest,carriedByValue v=true\/v=.ref b0) _ ?_ ?_ _ _ ⟨rfl,rfl,λv hv=>(vF.mp hv).imp (hi.byValue v) xN.mp⟩
 ·rintro v rest r s' ⟨hr,rfl,hall⟩
  have go:∀{R:Bool->Shared->Prop},R true s'->wpAny (model prog w) A (eqIsQuiet 7 v) R E s':=λq=>by
   rcases hall v vB with hv|rfl
   ·rw[eqIsQuiet_byValue _ hv];exact zM q
   ·exact ML hb q
  refine zL (go ?_)
  simp only[sE,wR,wS]
  exact zM ⟨rfl,rfl,λu hu'=>hall u (vC _ hu')⟩
 ·rintro ⟨r1,r2⟩ s' ⟨hr,rfl,_⟩
  simp only at hr
  subst hr
  exact zM h
end
def J2(prog:Program)(w:World):HeapKind prog w Xh where
 is:=YR prog w
 hash:=Sr w prog
 draws:=λk=>k.1.length+(k.2.length+1)+1
 room:=λA=>A.units+8<cLine
 inj:=λhx hy=>hx.inj hy
 keeps:=λx ho hd hs=>x.keeps ho hd hs
 pyHash:=λhu hk h=>Mu hu hk h
 eqBool:=λhu hx hy h=>Ii hu hx hy h
 quiet:=λhk h=>OL hk h
def SD(P:Program)(w:World)(a:Addr)(kvs:List (Xh×Addr×V))(h:Heap):Prop:=∃o es xs,h.get? a=some o/\o.ExactDict/\o.data=.dict es xs.length/\es.toList=xs.map (entryOfKey (J2 P w)) /\
 Paired (λ(p:Xh×Addr×V) (q:Xh×Addr×Value)=>p.1=q.1/\p.2.1=q.2.1/\ZL p.2.2 q.2.2) kvs xs/\(xs.map (·.1)).Nodup/\kvs.length≤sizeLine/\(a == sysModules)=false
def SV(H:Hp)(b:Addr)(k:Xh):Prop:=k.1.length=2/\∃c,H b=some (.tup (k.1.map kV++[.ref c]))/\H c=some (.tup (k.2.map kV))
def Q9(kvs:List (Xh×Addr×V))(k:Xh):Option V:=(kvs.find? λx=>decide (x.1=k)).map (·.2.2)
def DB(kvs:List (Xh×Addr×V))(k:Xh)(b:Addr)(v:V):List (Xh×Addr×V):=if(Q9 kvs k).isSome=true then kvs.map (λx=>if x.1=k then(x.1,x.2.1,v) else x) else kvs++[(k,b,v)]
abbrev B4(P:Program)(w:World)(a:Addr)(kvs:List (Xh×Addr×V)):HO:=.ext (SD P w a kvs)
section
variable {P:Program}{w:World}{H:Hp}{h h':Heap}{a b:Addr}{k:Xh}{kvs:List (Xh×Addr×V)}
theorem SV.same{H':Hp}(q:SV H b k)(e:∀b xs,H b=some (.tup xs)->H' b=some (.tup xs)):SV H' b k:=let ⟨z,c,h1,h2⟩:=q;⟨z,c,e _ _ h1,e _ _ h2⟩
end
abbrev SK:=Str×Int×List Int
def U9(k:SK):Xh:=([Sum.inr k.1,Sum.inl k.2.1],k.2.2.map Sum.inl)
def Fs:Val->Option SK
 | .d (.tuple [.str w,.int i,.tuple (x::r)])=>(SU (x::r)).map λns=>(w,i,ns)
 | _=>none
def SQ(kvs:List (SK×PyData))(k:SK):Option PyData:=(kvs.find? λp=>decide (p.1=k)).map (·.2)
def Ek(kvs:List (SK×PyData))(k:SK)(v:PyData):List (SK×PyData):=if(SQ kvs k).isSome=true then kvs.map (λp=>if p.1=k then(p.1,v) else p) else kvs++[(k,v)]
theorem QQ{a b:SK}(h:U9 a=U9 b):a=b:=by
 obtain⟨w,i,ns⟩:=a
 obtain⟨w',i',ns'⟩:=b
 unfold U9 at h
 injection h with h1 h2
 injection h1 with h3 h4
 injection h3 with h3
 injection h4 with h4 _
 injection h4 with h4
 have h5:ns=ns':=(tO λx y e=>by injection e).mp h2
 simp only at h3 h4
 rw[h3,h4,h5]
section
variable {K:Frag}{G G' H H':Hp}{s:DS}{σ:St}
def O_(K:Frag)(G:Hp):List (SK×PyData)->List (Xh×Addr×V)->Prop:=Paired λp q=>q.1=U9 p.1/\SV G q.2.1 q.1/\DW K G p.2 q.2.2
theorem O_.same{kvs:List (SK×PyData)}{ks:List (Xh×Addr×V)}(e:Z5 G G')(h:O_ K G kvs ks):O_ K G' kvs ks:=Paired.mapP h λ_ _ ⟨a,b,c⟩=>⟨a,b.same λ_ _ z=>e _ _ z,DW.same e c⟩
theorem O_.keys:∀{kvs:List (SK×PyData)}{ks:List (Xh×Addr×V)},O_ K G kvs ks->∀x∈ks,SV G x.2.1 x.1
 | _,_,.nil=>λx hx=>nomatch hx
 | _,_,.cons a t=>λx hx=>(vE.mp hx).elim (λe=>e▸a.2.1) λhx=>O_.keys t x hx
theorem O_.get{kvs:List (SK×PyData)}{ks:List (Xh×Addr×V)}(h:O_ K G kvs ks)(k:SK):(SQ kvs k=none/\Q9 ks (U9 k)=none)\/∃d z,SQ kvs k=some d/\Q9 ks (U9 k)=some z/\DW K G d z:=by
 unfold O_ at h
 induction h with
 | nil=>exact .inl ⟨rfl,rfl⟩
 | @cons p q ps qs a t ih=>
  obtain⟨h1,_,h2⟩:=a
  by_cases e:p.1=k
  ·exact .inr ⟨p.2,q.2.2,by simp[SQ,xZ,e],by simp[Q9,xZ,h1,e],h2⟩
  ·have e':¬q.1=U9 k:=λz=>e (QQ (h1.symm.trans z))
   have b:SQ (p::ps) k=SQ ps k:=by simp[SQ,xZ,e]
   have c:Q9 (q::qs) (U9 k)=Q9 qs (U9 k):=by simp[Q9,xZ,e']
   rw[b,c];exact ih
theorem O_.put{kvs:List (SK×PyData)}{ks:List (Xh×Addr×V)}(h:O_ K G kvs ks){k:SK}{b:Addr}{d:PyData}{z:V}(hb:SV G b (U9 k))(hz:DW K G d z):O_ K G (Ek kvs k d) (DB ks (U9 k) b z):=by
 have e:(SQ kvs k).isSome=(Q9 ks (U9 k)).isSome:=by
  rcases h.get k with ⟨h1,h2⟩|⟨d',z',h1,h2,_⟩<;>rw[h1,h2]<;>rfl
 unfold Ek DB
 rw[e]
 unfold O_ at h |-
 by_cases q:(Q9 ks (U9 k)).isSome=true
 ·rw[zJ q,zJ q]
  clear e q
  induction h with
  | nil=>exact .nil
  | @cons p q ps qs a t ih=>
   rw[uE,uE]
   refine .cons ?_ ih
   obtain⟨h1,h2,h3⟩:=a
   by_cases e:p.1=k
   ·rw[zJ e,zJ (by rw[h1,e])];exact⟨h1,h2,hz⟩
   ·rw[wH e,wH (λz=>e (QQ (h1.symm.trans z)))];exact⟨h1,h2,h3⟩
 ·rw[wH q,wH q];exact Paired.snoc h ⟨rfl,hb,hz⟩
def CI(P:Program)(w:World)(kvs:List (SK×PyData)):Frag->Hp->Hp->Addr->Prop:=λK G H a=>∃ks,H a=some (B4 P w a ks)/\O_ K G kvs ks
abbrev Df(P:Program)(w:World)(kvs:List (SK×PyData)):Own:=.oth (CI P w kvs)
def HR(P:Program)(w:World)(da db:ZG):ZG:=λs k=>da s λv s1=>db s1 λu s2=>match v with
 | .own a=>∃kvs ns x,s2.w a=some (Df P w kvs)/\Fs u=some ns/\SQ kvs ns=some x/\k (.d x) s2
 | _=>False
def Dd(P:Program)(w:World)(db da:ZG):ZG:=λs k=>db s λu s1=>da s1 λv s2=>match v with
 | .own a=>∃kvs ns,s2.w a=some (Df P w kvs)/\Fs u=some ns/\k (.d (.bool (SQ kvs ns).isSome)) s2
 | _=>False
def L9(P:Program)(w:World)(di:S4)(cap:List (Option Nat))(dg:T1)(dt:Vt)(dk dv:ZG):ZG:=λs k=>di s λsrc s1=>∀p,s1.w p=none->∃I:Nat->OW->Prop,I 0 (s1.w.put p (Df P w []))/\(∀i w,I i w->src.2 w) /\
 (∀(i:Nat) d w',src.1[i]? = some d->I i w'->dg (.d d) ⟨VY cap s1.e,w'⟩ λs2=>dt s2 λb s3=>if b=true then dk s3 (λkk s4=>dv s4 λvv s5=>match vv with
  | .d x=>∃kvs ns,s5.w p=some (Df P w kvs)/\Fs kk=some ns/\kvs.length<sizeLine/\L2.ext (VY cap s1.e) s5.e/\I (i+1) (s5.w.put p (Df P w (Ek kvs ns x)))
  | _=>False) else L2.ext (VY cap s1.e) s3.e/\I (i+1) s3.w) /\
 ∀w',I src.1.length w'->k (.own p) ⟨s1.e,w'⟩
end
section
variable {X:Cx}{K:Frag}
def EV(d:ZG)(da:XN):ZG:=λs k=>d s λv s1=>(rdL s1.w v).isSome=true/\da s1 λvs s2=>match vs with
 | [u]=>(match rdL s2.w v,rdD s2.w u with
  | some ds,some x=>(x.hasDict=false/\PyData.hasDictAll ds=false/\x.canLay0=true/\PyData.canLayAll0 ds=true/\x.depth≤30)/\k (.d (.int ((ds.countP λz=>PyData.eqv z x):Nat))) s2
  | _,_=>False)
 | _=>False
end
end L2
namespace Mine
open PySem PySem.Spec PyProof.Rows L2
def top(i:Nat):Stmt:=PySem.Challenge.pw_bundleclocks_k18_no_houses.main.body.getD i (.Pass ⟨0,0,0,0⟩)
abbrev G5:Stmt:=top 0
abbrev NT:Stmt:=top 3
abbrev Va:Stmt:=top 20
abbrev Y9:Stmt:=top 21
abbrev Uo:Stmt:=top 22
abbrev XH:Stmt:=top 23
abbrev Xq:Stmt:=top 29
abbrev Xp:Stmt:=top 30
abbrev XG:Stmt:=top 31
abbrev Vq:Stmt:=top 34
abbrev Wm:Stmt:=top 35
abbrev Wr:Stmt:=top 36
abbrev Wq:Stmt:=top 37
abbrev Uq:Stmt:=top 38
abbrev Vb:Stmt:=top 39
abbrev Wn:Stmt:=top 40
abbrev YI:Stmt:=top 41
abbrev Ws:Stmt:=top 42
abbrev Wo:Stmt:=top 43
abbrev XI:Stmt:=top 44
abbrev YH:Stmt:=top 45
abbrev Up:Stmt:=top 46
abbrev YJ:Stmt:=top 47
abbrev MM:Stmt:=top 48
abbrev UF(K:Frag)(mg:Str->Option Value)(x:Str)(st:Stmt):Prop:=∃f fd,VQ K x x st f fd/\mg x=some (.ref f)
structure Txt(K:Frag)(mg:Str->Option Value):Prop where
 f_wall:UF K mg "_wall" G5
 f_copied:UF K mg "copied" NT
 f_is_whole:UF K mg "is_whole" Va
 f_is_whole_between:UF K mg "is_whole_between" Y9
 f_is_name:UF K mg "is_name" Uo
 f_is_tuple_of:UF K mg "is_tuple_of" XH
 f_is_named_row:UF K mg "is_named_row" Xq
 f_first_wrong:UF K mg "first_wrong" Xp
 f_check_part:UF K mg "check_part" XG
 f_law_urn:UF K mg "_law_urn" Vq
 f_law_draw:UF K mg "_law_draw" Wm
 f_law_whole:UF K mg "_law_whole" Wr
 f_law_which:UF K mg "_law_which" Wq
 f_law_odd:UF K mg "_law_odd" Uq
 f_law_name:UF K mg "_law_name" Vb
 f_law_names:UF K mg "_law_names" Wn
 f_law_house_parts:UF K mg "_law_house_parts" YI
 f_law_wrong:UF K mg "_law_wrong" Ws
 f_law_other:UF K mg "_law_other" Wo
 f_law_is_name:UF K mg "_law_is_name" XI
 f_law_first_wrong:UF K mg "_law_first_wrong" YH
 f_law_due:UF K mg "_law_due" Up
 f_law_told_part:UF K mg "_law_told_part" YJ
 f_law:UF K mg "law" MM
 z_ArithmeticError:mg "ArithmeticError" = none
 z_IndexError:mg "IndexError" = none
 z_KeyError:mg "KeyError" = none
 z_LookupError:mg "LookupError" = none
 z_OverflowError:mg "OverflowError" = none
 z_RuntimeError:mg "RuntimeError" = none
 z_TypeError:mg "TypeError" = none
 z_ValueError:mg "ValueError" = none
 z_abs:mg "abs" = none
 z_all:mg "all" = none
 z_bool:mg "bool" = none
 z_enumerate:mg "enumerate" = none
 z_int:mg "int" = none
 z_isinstance:mg "isinstance" = none
 z_len:mg "len" = none
 z_list:mg "list" = none
 z_max:mg "max" = none
 z_min:mg "min" = none
 z_range:mg "range" = none
 z_repr:mg "repr" = none
 z_str:mg "str" = none
 z_tuple:mg "tuple" = none
 z_zip:mg "zip" = none
 c_LONGEST_NAME:∃u,mg "LONGEST_NAME" = some u/\ZL (.int 8) u
 c_MOST_BIDDERS:∃u,mg "MOST_BIDDERS" = some u/\ZL (.int 6) u
 c_MOST_KINDS:∃u,mg "MOST_KINDS" = some u/\ZL (.int 3) u
 c_SEALED:∃u,mg "SEALED" = some u/\ZL (.int 8) u
theorem PC:Z8 ["thing"] ["thing"] (Zg Va):=(⟨rfl,rfl,rfl,by decide +kernel,rfl,by decide +kernel,by decide +kernel⟩)
theorem QC:ZF "is_whole" Va ["thing"]:=(λ_ _ _ _ _ _ us hl=>by obtain⟨_,rfl⟩:=L2.UU hl;rfl)
theorem Vz:Z8 ["thing","least","most"] ["thing","least","most"] (Zg Y9):=(⟨rfl,rfl,rfl,by decide +kernel,rfl,by decide +kernel,by decide +kernel⟩)
theorem Vu:ZF "is_whole_between" Y9 ["thing","least","most"]:=(λ_ _ _ _ _ _ us hl=>by obtain⟨_,_,_,rfl⟩:=L2.TZ hl;rfl)
theorem OQ:Z8 ["thing"] ["thing"] (Zg Uo):=(⟨rfl,rfl,rfl,by decide +kernel,rfl,by decide +kernel,by decide +kernel⟩)
theorem Og:ZF "is_name" Uo ["thing"]:=(λ_ _ _ _ _ _ us hl=>by obtain⟨_,rfl⟩:=L2.UU hl;rfl)
theorem Sm:Z8 ["thing","least","most"] ["thing","least","most"] (Zg XH):=(⟨rfl,rfl,rfl,by decide +kernel,rfl,by decide +kernel,by decide +kernel⟩)
theorem WL:ZF "is_tuple_of" XH ["thing","least","most"]:=(λ_ _ _ _ _ _ us hl=>by obtain⟨_,_,_,rfl⟩:=L2.TZ hl;rfl)
theorem WG:Z8 ["thing","numbers","many"] ["thing","numbers"] (Zg Xq):=(⟨rfl,rfl,rfl,by decide +kernel,rfl,by decide +kernel,by decide +kernel⟩)
theorem Tb:ZF "is_named_row" Xq ["thing","numbers"]:=(λ_ _ _ _ _ _ us hl=>by obtain⟨_,_,rfl⟩:=L2.V4 hl;rfl)
theorem Xe:Z8 ["rows","numbers","names","place","row"] ["rows","numbers"] (Zg Xp):=(⟨rfl,rfl,rfl,by decide +kernel,rfl,by decide +kernel,by decide +kernel⟩)
theorem T6:ZF "first_wrong" Xp ["rows","numbers"]:=(λ_ _ _ _ _ _ us hl=>by obtain⟨_,_,rfl⟩:=L2.V4 hl;rfl)
theorem V6:Z8 ["part","rows","most","numbers","place"] ["part","rows","most","numbers"] (Zg XG):=(⟨rfl,rfl,rfl,by decide +kernel,rfl,by decide +kernel,by decide +kernel⟩)
theorem V2:ZF "check_part" XG ["part","rows","most","numbers"]:=(λ_ _ _ _ _ _ us hl=>by obtain⟨_,_,_,_,rfl⟩:=L2.Dv hl;rfl)
theorem XJ:Z8 ["_law_script","_law_spot","_law_cell","_law_great"] ["_law_script","_law_spot"] (Zg Vq):=(⟨rfl,rfl,rfl,by decide +kernel,rfl,by decide +kernel,by decide +kernel⟩)
theorem Oj:ZF "_law_urn" Vq ["_law_script","_law_spot"]:=(λ_ _ _ _ _ _ us hl=>by obtain⟨_,_,rfl⟩:=L2.V4 hl;rfl)
theorem YW:Z8 ["_law_urn_here","_law_wide","_law_digit","_law_primes","_law_step","_law_base","_law_mixed"] ["_law_urn_here","_law_wide"] (Zg Wm):=(⟨rfl,rfl,rfl,by decide +kernel,rfl,by decide +kernel,by decide +kernel⟩)
theorem Z9:ZF "_law_draw" Wm ["_law_urn_here","_law_wide"]:=(λ_ _ _ _ _ _ us hl=>by obtain⟨_,_,rfl⟩:=L2.V4 hl;rfl)
theorem Qw:Z8 ["_law_thing"] ["_law_thing"] (Zg Wr):=(⟨rfl,rfl,rfl,by decide +kernel,rfl,by decide +kernel,by decide +kernel⟩)
theorem RF:ZF "_law_whole" Wr ["_law_thing"]:=(λ_ _ _ _ _ _ us hl=>by obtain⟨_,rfl⟩:=L2.UU hl;rfl)
theorem X3:Z8 ["_law_e","_law_some","_law_names_here","_law_right"] ["_law_e"] (Zg Wq):=(⟨rfl,rfl,rfl,by decide +kernel,rfl,by decide +kernel,by decide +kernel⟩)
theorem RD:ZF "_law_which" Wq ["_law_e"]:=(λ_ _ _ _ _ _ us hl=>by obtain⟨_,rfl⟩:=L2.UU hl;rfl)
theorem Sn:Z8 ["_law_urn_here","_law_some"] ["_law_urn_here"] (Zg Uq):=(⟨rfl,rfl,rfl,by decide +kernel,rfl,by decide +kernel,by decide +kernel⟩)
theorem Oi:ZF "_law_odd" Uq ["_law_urn_here"]:=(λ_ _ _ _ _ _ us hl=>by obtain⟨_,rfl⟩:=L2.UU hl;rfl)
theorem Vd:Z8 ["_law_urn_here","_law_letters","_law_size"] ["_law_urn_here"] (Zg Vb):=(⟨rfl,rfl,rfl,by decide +kernel,rfl,by decide +kernel,by decide +kernel⟩)
theorem QD:ZF "_law_name" Vb ["_law_urn_here"]:=(λ_ _ _ _ _ _ us hl=>by obtain⟨_,rfl⟩:=L2.UU hl;rfl)
theorem Y1:Z8 ["_law_urn_here","_law_many","_law_found","_law_spare","_law_k","_law_name_here","_law_others"] ["_law_urn_here","_law_many"] (Zg Wn):=(⟨rfl,rfl,rfl,by decide +kernel,rfl,by decide +kernel,by decide +kernel⟩)
theorem VU:ZF "_law_names" Wn ["_law_urn_here","_law_many"]:=(λ_ _ _ _ _ _ us hl=>by obtain⟨_,_,rfl⟩:=L2.V4 hl;rfl)
theorem ZV:Z8 ["_law_urn_here","_law_most","_law_several","_law_bidders","_law_name_here","_law_price","_law_step","_law_points"] ["_law_urn_here","_law_most"] (Zg YI):=(⟨rfl,rfl,rfl,by decide +kernel,rfl,by decide +kernel,by decide +kernel⟩)
theorem V9:ZF "_law_house_parts" YI ["_law_urn_here","_law_most"]:=(λ_ _ _ _ _ _ us hl=>by obtain⟨_,_,rfl⟩:=L2.V4 hl;rfl)
theorem YK:Z8 ["_law_urn_here","_law_rows","_law_spot","_law_one","_law_place","_law_odd_here","_law_some"] ["_law_urn_here","_law_rows"] (Zg Ws):=(⟨rfl,rfl,rfl,by decide +kernel,rfl,by decide +kernel,by decide +kernel⟩)
theorem VW:ZF "_law_wrong" Ws ["_law_urn_here","_law_rows"]:=(λ_ _ _ _ _ _ us hl=>by obtain⟨_,_,rfl⟩:=L2.V4 hl;rfl)
theorem Ur:Z8 ["_law_urn_here","_law_rows","_law_limit","_law_some"] ["_law_urn_here","_law_rows","_law_limit"] (Zg Wo):=(⟨rfl,rfl,rfl,by decide +kernel,rfl,by decide +kernel,by decide +kernel⟩)
theorem VV:ZF "_law_other" Wo ["_law_urn_here","_law_rows","_law_limit"]:=(λ_ _ _ _ _ _ us hl=>by obtain⟨_,_,_,rfl⟩:=L2.TZ hl;rfl)
theorem Vc:Z8 ["_law_thing","_law_letters"] ["_law_thing"] (Zg XI):=(⟨rfl,rfl,rfl,by decide +kernel,rfl,by decide +kernel,by decide +kernel⟩)
theorem T7:ZF "_law_is_name" XI ["_law_thing"]:=(λ_ _ _ _ _ _ us hl=>by obtain⟨_,rfl⟩:=L2.UU hl;rfl)
theorem ZU:Z8 ["_law_rows","_law_limit","_law_bounds_of","_law_names_here","_law_place","_law_one","_law_number","_law_least","_law_most"] ["_law_rows","_law_limit","_law_bounds_of"] (Zg YH):=(⟨rfl,rfl,rfl,by decide +kernel,rfl,by decide +kernel,by decide +kernel⟩)
theorem X8:ZF "_law_first_wrong" YH ["_law_rows","_law_limit","_law_bounds_of"]:=(λ_ _ _ _ _ _ us hl=>by obtain⟨_,_,_,rfl⟩:=L2.TZ hl;rfl)
theorem VP:Z8 ["_law_several","_law_bidders","_law_place"] ["_law_several","_law_bidders"] (Zg Up):=(⟨rfl,rfl,rfl,by decide +kernel,rfl,by decide +kernel,by decide +kernel⟩)
theorem Oh:ZF "_law_due" Up ["_law_several","_law_bidders"]:=(λ_ _ _ _ _ _ us hl=>by obtain⟨_,_,rfl⟩:=L2.V4 hl;rfl)
theorem Wt:Z8 ["_law_several","_law_bidders","_law_e"] ["_law_several","_law_bidders"] (Zg YJ):=(⟨rfl,rfl,rfl,by decide +kernel,rfl,by decide +kernel,by decide +kernel⟩)
theorem U1:ZF "_law_told_part" YJ ["_law_several","_law_bidders"]:=(λ_ _ _ _ _ _ us hl=>by obtain⟨_,_,rfl⟩:=L2.V4 hl;rfl)
theorem Xo:Z8 ["_law_script","_law_spot","_law_urn_here","_law_several","_law_bidders","_law_turn","_law_pairs","_law_one","_law_other_here","_law_due_here","_law_wanted"] ["_law_script"] (Zg MM):=(⟨rfl,rfl,rfl,by decide +kernel,rfl,by decide +kernel,by decide +kernel⟩)
section
variable {P:Program}{w:World}{K:Frag}{mg:Str->Option Value}{base:Heap}
theorem Gj{i j:Int}(hi0:0≤i)(hi:i<2 ^ 200)(hj0:0≤j)(hj:j<2 ^ 200):IntMulOk i j:=K8 (n:=200) (by decide) (UI hi0 hi) (UI hj0 hj)
theorem Fd(T:Txt K mg):Dn P w K mg base 1 "_law_urn" Vq ["_law_script","_law_spot"] (G6 K):=by
 refine Dn.of T.f_law_urn XJ (λvs H Q E h=>?_) (λf cdv A outer s H vs Q E hr h=>?_)
 ·obtain⟨a,ns,k,rfl,_⟩:=h;rfl
 obtain⟨a,ns,k,rfl,hS,h0,h1,q⟩:=h
 refine⟨_,IPSs.get (Ze (Z7 (i:=2) XJ.nd rfl (yQ rfl) Zd)
  (Ze (Yy (ZW Gm (Zf 1) (Zh ZY rfl T.z_len sO (Za (Zf 0) Zb)) (Xl _)) (Zn (Z7 (i:=2) XJ.nd rfl (yQ rfl) (ZC Yb (Zf 0) (Zf 1) (λ_ _=>rfl)))) ZP)
  (Ze (Z7 (i:=3) XJ.nd rfl (yQ rfl) (Zh Lh rfl T.z_abs boot_abs (Za (Zf 2) Zb)))
  (Ze (Yy (ZW Gm (Zf 3) (Zu ND Zd Zd) (Xl _)) (Zn (Z7 (i:=3) XJ.nd rfl (yQ rfl) Zd)) ZP)
  (Zn (ZA (ZH (Za (Zf 3) (Za (Zu Yr (Zu Yr (Zu Yr (Zu VN (Zf 2) Zd) (Zu XW (Zu XW Zd (Zf 1)) (Zf 1))) (Zu XW Zd (Zf 1))) Zd) (Za Zd Zb)))))))))),?_⟩
 have fin:∀(g c:Int) (p:Addr),0≤g->H p=none->Q (.ref p) (upd H p (.lst [.int g,.int (c % 1000000000000000003+97*k*k+31*k+1),.int 0])):=λg c p hg hp=>by
  refine q p _ (Yv hp _) hp ⟨_,_,_,Zw,hg,?_,?_,by decide,by decide⟩
  ·have e1:=xV c (show(1000000000000000003:Int)≠0 by decide)
   have e2:0≤97*k*k:=sP (by omega) h0
   omega
  ·have e1:=xW c (show(0:Int)<1000000000000000003 by decide)
   have e2:97*k*k≤97*100*100:=sQ (by omega) h1 h0 (by decide)
   omega
 have k2:97*k<2 ^ 200:=by omega
 have m1:IntMulOk 97 k:=Gj (by decide) (by decide) h0 (by omega)
 have m2:IntMulOk (97*k) k:=Gj (by omega) k2 h0 (by omega)
 have m3:IntMulOk 31 k:=Gj (by decide) (by decide) h0 (by omega)
 refine⟨_,rfl,_,rfl,a,_,rfl,.inl hS,_,_,rfl,rfl,_,rfl,?_⟩
 refine Th (λc=>?_) (λc=>?_)
 ·have c':k<(((ns.map V.int).length:Nat):Int):=sR c
  rw[Uh]at c'
  have hk:k.toNat<ns.length:=by omega
  have hv:atI (ns.map V.int) k=some (.int ns[k.toNat]):=by
   have z:=Yj (xs:=ns.map V.int) (j:=k.toNat) (v:=.int ns[k.toNat]) (by rw[uV,JP hk];rfl)
   rwa [show((k.toNat:Nat):Int)=k by omega]at z
  refine⟨_,rfl,_,rfl,a,_,_,_,rfl,rfl,hS,hv,?_⟩
  refine⟨_,rfl,_,rfl,?_⟩
  refine⟨_,rfl,_,_,rfl,rfl,⟨by decide,by decide +kernel⟩,_,_,rfl,rfl,_,rfl,?_⟩
  refine Th (λc2=>?_) (λc2=>?_)
  ·refine⟨_,rfl,_,rfl,_,_,rfl,rfl,(by show(0:Int)<1000000000000000003;decide),_,rfl,_,_,rfl,rfl,m1,_,rfl,_,_,rfl,rfl,m2,_,_,rfl,rfl,_,rfl,_,_,rfl,rfl,m3,_,_,rfl,rfl,_,_,rfl,rfl,(L2.sz3),λp hp=>?_⟩
   exact fin 0 _ p (by decide) hp
  ·refine⟨_,rfl,_,rfl,_,_,rfl,rfl,(by show(0:Int)<1000000000000000003;decide),_,rfl,_,_,rfl,rfl,m1,_,rfl,_,_,rfl,rfl,m2,_,_,rfl,rfl,_,rfl,_,_,rfl,rfl,m3,_,_,rfl,rfl,_,_,rfl,rfl,(L2.sz3),λp hp=>?_⟩
   exact fin _ _ p (by split<;>omega) hp
 ·refine⟨_,rfl,_,rfl,?_⟩
  refine⟨_,rfl,_,_,rfl,rfl,⟨by decide,by decide +kernel⟩,_,_,rfl,rfl,_,rfl,?_⟩
  refine Th (λc2=>?_) (λc2=>?_)
  ·refine⟨_,rfl,_,rfl,_,_,rfl,rfl,(by show(0:Int)<1000000000000000003;decide),_,rfl,_,_,rfl,rfl,m1,_,rfl,_,_,rfl,rfl,m2,_,_,rfl,rfl,_,rfl,_,_,rfl,rfl,m3,_,_,rfl,rfl,_,_,rfl,rfl,(L2.sz3),λp hp=>?_⟩
   exact fin 0 _ p (by decide) hp
  ·refine⟨_,rfl,_,rfl,_,_,rfl,rfl,(by show(0:Int)<1000000000000000003;decide),_,rfl,_,_,rfl,rfl,m1,_,rfl,_,_,rfl,rfl,m2,_,_,rfl,rfl,_,rfl,_,_,rfl,rfl,m3,_,_,rfl,rfl,_,_,rfl,rfl,(L2.sz3),λp hp=>?_⟩
   exact fin _ _ p (by split<;>omega) hp
theorem Ih(T:Txt K mg):Dn P w K mg base 1 "_law_draw" Wm ["_law_urn_here","_law_wide"] J0:=by
 refine Dn.of T.f_law_draw YW (λvs H Q E h=>?_) (λf cdv A outer s H vs Q E hr h=>?_)
 ·obtain⟨u,wd,m,rfl,_⟩:=h;rfl
 obtain⟨u,wd,m,rfl,hU,hm,w0,w1,q⟩:=h
 obtain⟨g,c,n,hu,g0,c0,c1,n0,n1⟩:=hU
 refine⟨_,IPSs.get (Ze (Yy (ZW Dy (ZC Yb (Zf 0) Zd (λ_ _=>rfl)) Zd (Xl _)) (Ze (Z7 (i:=2) YW.nd rfl (yQ rfl) (Zu VN (ZC Yb (Zf 0) Zd (λ_ _=>rfl)) (Zf 1)))
  (Ze (WU (Zu Se (ZC Yb (Zf 0) Zd (λ_ _=>rfl)) (Zf 1)) (Pf (Zf 0) Zd PD))
  (Zn (ZA (Zf 2))))) ZP)
  (Ze (Z7 (i:=3) YW.nd rfl (yQ rfl) (Zl (Za Zd (Za Zd (Za Zd (Za Zd (Za Zd (Za Zd (Za Zd Zb)))))))))
  (Ze (WU (Zu Yr (ZC Yb (Zf 0) Zd (λ_ _=>rfl)) Zd) (Pf (Zf 0) Zd PD))
  (Ze (Z7 (i:=4) YW.nd rfl (yQ rfl) (ZC Yb (Zf 0) Zd (λ_ _=>rfl)))
  (Ze (Z7 (i:=5) YW.nd rfl (yQ rfl) (Zu Yr (Zu Yr (Zu XW (ZC Yb (Zf 0) Zd (λ_ _=>rfl)) (Zu Yr (Zu XW Zd (Zf 4)) Zd)) (Zu XW (Zu XW Zd (Zf 4)) (Zf 4))) Zd))
  (Ze (Z7 (i:=6) YW.nd rfl (yQ rfl) (Zu VN (Zu ND (Zf 5) Zd) (ZC Xb (Zf 3) (Zu VN (Zf 4) Zd) (λ_ _=>rfl))))
  (Zn (ZA (Zu VN (Zu Se (Zu VN (Zu XW (Zf 6) (Zu Yr (Zu Se (Zf 6) Zd) (Zf 4))) (ZC Xb (Zf 3) (Zu VN (Zu Yr (Zf 4) Zd) Zd) (λ_ _=>rfl))) Zd) (Zf 1)))))))))),?_⟩
 refine⟨_,rfl,u,_,_,_,rfl,rfl,Xg.of hu,rfl,_,_,rfl,rfl,_,rfl,?_⟩
 refine Th (λcg=>?_) (λcg=>?_)
 ·refine⟨_,rfl,u,_,_,_,rfl,rfl,Xg.of hu,rfl,_,rfl,_,_,rfl,rfl,w0,?_⟩
  refine⟨_,rfl,u,_,_,_,rfl,rfl,Xg.of hu,rfl,_,rfl,_,_,rfl,rfl,⟨w0,Int.lt_trans w1 (by decide)⟩,_,rfl,u,_,_,_,rfl,rfl,hu,rfl,?_⟩
  refine⟨_,rfl,?_⟩
  exact q _ _ (xV _ (by omega)) (xW _ w0) (SB.upd u H _) ⟨_,_,_,Zw,Int.ediv_nonneg g0 (by omega),c0,c1,n0,by omega⟩
 ·refine⟨(by show 7≤sizeLine;decide),λp hp=>?_⟩
  have pu:u≠p:=λz=>by rw[z,hp]at hu;cases hu
  have hu1:upd H p (.tup [V.int 2147483647,V.int 2147483629,V.int 2147483587,V.int 2147483579,V.int 2147483563,V.int 2147483549,V.int 2147483543]) u=some (.lst [.int g,.int c,.int n]):=by rw[Zi pu];exact hu
  refine⟨_,rfl,u,_,_,_,rfl,rfl,Xg.of hu1,rfl,_,_,rfl,rfl,_,rfl,u,_,_,_,rfl,rfl,hu1,rfl,?_⟩
  obtain⟨q1,e1,p1,p2⟩:=KZ (n+1)
  obtain⟨q2,e2,p3,p4⟩:=KZ (n+1+3)
  generalize hH2:upd (upd H p (.tup [V.int 2147483647,V.int 2147483629,V.int 2147483587,V.int 2147483579,V.int 2147483563,V.int 2147483549,V.int 2147483543])) u (.lst ([V.int g,V.int c,V.int n].set (Int.toNat 2) ((λi j=>V.int (i+j)) n 1)))=H2
  have hu2:H2 u=some (.lst [.int g,.int c,.int (n+1)]):=by rw[<- hH2];exact Zw
  have hp2:H2 p=some (.tup [V.int 2147483647,V.int 2147483629,V.int 2147483587,V.int 2147483579,V.int 2147483563,V.int 2147483549,V.int 2147483543]):=by rw[<- hH2,Zi (zQ pu)];exact Zw
  have hSB:SB u H H2:=λb o nb e=>by rw[<- hH2,Zi nb,Zi (YS e hp)];exact e
  have n9:n+1≤1000001:=by omega
  have b1:2*(n+1)+1≤2000003:=by omega
  have b2:c*(2*(n+1)+1)≤4000000000000000000*2000003:=sQ c1 b1 (by omega) (by decide)
  have b2':0≤c*(2*(n+1)+1):=sP c0 (by omega)
  have b3:6007*(n+1)*(n+1)≤6007*1000001*1000001:=sQ (by omega) n9 (by omega) (by decide)
  have b3':0≤6007*(n+1)*(n+1):=sP (by omega) (by omega)
  refine⟨_,rfl,u,_,_,_,rfl,rfl,Xg.of hu2,rfl,?_⟩
  refine⟨_,rfl,u,_,_,_,rfl,rfl,Xg.of hu2,rfl,_,rfl,_,_,rfl,rfl,Gj (by decide) (by decide) (by omega) (by omega),_,_,rfl,rfl,_,_,rfl,rfl,Gj c0 (by omega) (by omega) (by omega),_,rfl,_,_,rfl,rfl,Gj (by decide) (by decide) (by omega) (by omega),_,rfl,_,_,rfl,rfl,Gj (by omega) (by omega) (by omega) (by omega),_,_,rfl,rfl,_,_,rfl,rfl,?_⟩
  have bs0:0≤c*(2*(n+1)+1)+6007*(n+1)*(n+1)+53:=by omega
  have bs1:c*(2*(n+1)+1)+6007*(n+1)*(n+1)+53<2 ^ 200:=by omega
  have pw:HA (c*(2*(n+1)+1)+6007*(n+1)*(n+1)+53) 3:=by
   refine⟨by decide,?_⟩
   have:=L2.VI (UI bs0 bs1)
   omega
  refine⟨_,rfl,_,_,rfl,rfl,pw,_,rfl,_,rfl,_,_,rfl,rfl,(by show(0:Int)<7;decide),p,_,_,_,rfl,rfl,X7.of hp2,e1,_,_,rfl,rfl,p1,?_⟩
  obtain⟨mx,hmx⟩:∃mx,mx=(c*(2*(n+1)+1)+6007*(n+1)*(n+1)+53) ^ (3:Int).toNat % q1:=⟨_,rfl⟩
  have mx0:0≤mx:=by rw[hmx];exact xV _ (by omega)
  have mx1:mx<q1:=by rw[hmx];exact xW _ p1
  have d1:mx / 8191≤mx:=Int.ediv_le_self _ mx0
  have d0:0≤mx / 8191:=Int.ediv_nonneg mx0 (by decide)
  refine⟨_,rfl,_,rfl,_,_,rfl,rfl,⟨by decide,by decide⟩,_,rfl,_,_,rfl,rfl,_,_,rfl,rfl,(show IntMulOk ((c*(2*(n+1)+1)+6007*(n+1)*(n+1)+53) ^ (3:Int).toNat % q1) ((c*(2*(n+1)+1)+6007*(n+1)*(n+1)+53) ^ (3:Int).toNat % q1 / 8191+(n+1)) by rw[<- hmx];exact Gj mx0 (by omega) (by omega) (by omega)),_,rfl,_,rfl,_,_,rfl,rfl,_,_,rfl,rfl,(by show(0:Int)<7;decide),p,_,_,_,rfl,rfl,X7.of hp2,e2,_,_,rfl,rfl,p3,_,_,rfl,rfl,⟨by decide,by decide⟩,_,rfl,_,_,rfl,rfl,w0,?_⟩
  exact q _ _ (xV _ (by omega)) (xW _ w0) hSB ⟨_,_,_,hu2,g0,c0,c1,by omega,by omega⟩
abbrev O0:=QP
abbrev WR:=U8
theorem Xd:MZ WR:=Pz
theorem Oz(T:Txt K mg):Dn P w K mg base 1 "_law_urn" Vq ["_law_script","_law_spot"] (V7 K O0):=(Fd T).imp λ_ _ _ _ h=>H0 h
theorem YU(T:Txt K mg):Dn P w K mg base 1 "_law_draw" Wm ["_law_urn_here","_law_wide"] (V7 K WR):=(Ih T).imp λ_ _ _ _ h=>LI h
end
abbrev R0:Stmt:=TY
abbrev UK:Stmt:=Qe
theorem Hl:Z8 ["self","part","place"] ["self","part","place"] (Zg R0):=⟨rfl,rfl,rfl,by decide +kernel,rfl,by decide +kernel,by decide +kernel⟩
theorem Ia:∀(kV doc pm:Value) (an:Option Addr) (cdv ct:Value) (us:List Value),us.length=(["self","part","place"]:List Str).length->bindArgs (PySem.W.fnOf "__init__" "NoHouse.__init__" (YB R0) (ZQ R0) (Zg R0) .none kV doc pm an cdv ct) ⟨us,[]⟩=pure ((["self","part","place"]:List Str).zip us):=λ_ _ _ _ _ _ us hl=>by
 obtain⟨a,b,c,rfl⟩:=L2.TZ hl
 rfl
theorem Jy:Z8 ["self","kinds","bidders"] ["self","kinds","bidders"] (Zg UK):=⟨rfl,rfl,rfl,by decide +kernel,rfl,by decide +kernel,by decide +kernel⟩
theorem Lf:∀(kV doc pm:Value) (an:Option Addr) (cdv ct:Value) (us:List Value),us.length=(["self","kinds","bidders"]:List Str).length->bindArgs (PySem.W.fnOf "__init__" "House.__init__" (YB UK) (ZQ UK) (Zg UK) .none kV doc pm an cdv ct) ⟨us,[]⟩=pure ((["self","kinds","bidders"]:List Str).zip us):=λ_ _ _ _ _ _ us hl=>by
 obtain⟨a,b,c,rfl⟩:=L2.TZ hl
 rfl
def Tg:V->Option Bool
 | .ref a=>(Iw.zip Ib).lookup (.ref a)
 | .ty t=>(Iw.zip Ib).lookup (.type t)
 | _=>none
theorem Xm{K:Frag}{c:Addr}:RE K (tC (.ref c)) (dC (.raw (.ref c))):=ON λ_=>rfl
structure Xt(K:Frag)(mg:Str->Option Value):Prop where
 ex:EL K 43 "TypeError" "TypeError.__init__" "part" "place" "NoHouse.__init__" R0
 kt:Iw.map (PySem.W.kitOne K (.ref 43))=Ib.map some
 hs:Bn K 429 "House.__init__" Fj UK
 n_House:mg "House" = some (.ref 429)
 c_LETTERS:∃u,mg "LETTERS" = some u/\ZL (.str Y7) u
 c_KIND:∃a,mg "KIND_NUMBERS" = some (.ref a)/\∀G,DW K G (.tuple (Bx.map Jr)) (.ref a)
 c_BIDDER:∃a,mg "BIDDER_NUMBERS" = some (.ref a)/\∀G,DW K G (.tuple (Br.map Jr)) (.ref a)
 n_NoHouse:mg "NoHouse" = some (.ref 43)
 n_NoBidder:mg "NoBidder" = some (.ref 63)
 n_NoBundle:mg "NoBundle" = some (.ref 83)
 n_NoPhase:mg "NoPhase" = some (.ref 103)
 n_NoPoints:mg "NoPoints" = some (.ref 123)
 n_NoWorths:mg "NoWorths" = some (.ref 143)
 n_NotAll:mg "NotAll" = some (.ref 163)
 n_NoLast:mg "NoLast" = some (.ref 183)
 n_NoMoney:mg "NoMoney" = some (.ref 203)
 n_TooMany:mg "TooMany" = some (.ref 224)
 n_NoChoice:mg "NoChoice" = some (.ref 244)
 n_NoRow:mg "NoRow" = some (.ref 264)
 n_NoLine:mg "NoLine" = some (.ref 284)
theorem Sz{K:Frag}:∀{ks:List Value}{bs:List Bool}{v:Value}{b:Bool},ks.map (PySem.W.kitOne K (.ref 43))=bs.map some->(ks.zip bs).lookup v=some b->PySem.W.kitOne K (.ref 43) v=some b
 | [],_,_,_,_,h=>by cases h
 | _::_,[],_,_,_,h=>by cases h
 | k::ks,c::bs,v,b,e,h=>by
  rw[uE,uE,sB]at e
  rw[zip_cons_cons,yU]at h
  split at h
  ·next z=>rw[uD.mp z,e.1,<- h]
  ·exact Sz e.2 h
theorem Xt.kits{K:Frag}{mg:Str->Option Value}(X:Xt K mg):∀c b,Tg c=some b->∃cv,(∀u,ZL c u->u=cv)/\PySem.W.kitOne K (.ref 43) cv=some b:=by
 intro c b h
 cases c with
 | ref a=>exact⟨.ref a,λu z=>z,Sz X.kt h⟩
 | ty t=>exact⟨.type t,λu z=>z,Sz X.kt h⟩
 | _=>cases h
section
variable {P:Program}{w:World}{K:Frag}{mg:Str->Option Value}{base:Heap}{C fI:Addr}{fd:FuncData}{initId:String}
theorem Fo(T:Txt K mg)(hz:mg "TypeError" = none)(hh:PySem.W.handedIn (.builtin initId)=true)(c:EC K C "TypeError" initId "part" fI)(c2:EC K C "TypeError" initId "place" fI)(F:VQ K "__init__" "NoHouse.__init__" R0 fI fd):Xv P w K mg base S0 1 fI fd ["self","part","place"] (Tw C "part" "place"):=by
 refine F.ok (k:=0) Hl (λvs H Q E h=>?_) (λcdv A outer s H vs Q E hr h=>?_)
 ·obtain⟨e,v,v2,rfl,_⟩:=h;rfl
 ·obtain⟨e,v,v2,rfl,he,q⟩:=h
  refine⟨_,Ul (NI (P2 c rfl hz rfl (Ql (WZ (i:=0) rfl (.inl rfl)) (Ql KS KH)) hh)) (Ul (FL c (WZ (i:=0) rfl (.inl rfl)) (WZ (i:=1) rfl (.inl rfl))) (Ul (IU (f1:="part") c2 (by decide) (WZ (i:=0) rfl (.inl rfl)) (WZ (i:=2) rfl (.inl rfl))) NJ)),?_⟩
  refine⟨_,rfl,e,_,rfl,he,?_⟩
  refine⟨v,rfl,_,rfl,e,rfl,he,λd hd hde=>?_⟩
  refine⟨v2,rfl,_,rfl,e,d,v,rfl,Zw ..,by rw[Zi hde,Zw],?_⟩
  have:=q d hde hd
  have hH:upd (upd (upd H d (.xd [("part",v)])) e (WJ C e (some d))) d (.xd [("part",v),("place",v2)])=upd (upd H d (.xd [("part",v),("place",v2)])) e (WJ C e (some d)):=by
   funext c
   by_cases h1:c=d
   ·subst h1;rw[Zw,Zi hde,Zw]
   ·rw[Zi h1]
    by_cases h2:c=e
    ·subst h2;rw[Zw,Zw]
    ·rw[Zi h2,Zi h2,Zi h1,Zi h1]
  rw[hH]
  exact this
end
section
variable {P:Program}{w:World}{K:Frag}{mg:Str->Option Value}{base:Heap}
def Wz:WH:=XX λvs r=>∃e d x,vs=[.exc e 43 d x]/\r=.str "NoHouse"
theorem SM:MZ Wz:=Uj
theorem SG:∀vs w k,Wz vs w k->vs.length=1:=Y8 (by rintro vs r ⟨_,_,_,rfl,_⟩;rfl)
def Cg:List (Str×Bool×Bool):=[("NoHouse",true,true),("NoBidder",false,false),("NoBundle",false,false),("NoPhase",false,false),("NoPoints",false,false),("NoWorths",false,false),("NotAll",false,false),("NoLast",false,false),("NoMoney",false,false),("TooMany",false,false),("NoChoice",false,false),("NoRow",false,false),("NoLine",false,false)]
def LM(p:Str×Bool×Bool):PyData:=.tuple [.str p.1,.bool p.2.1,.bool p.2.2]
def C4(c:V):ZG:=EU (Il 43 Tg) (WN (Ov 0) (WN (dC (.raw c)) Ml))
def E6:List (Str×V×V)->XN
 | []=>Ml
 | p::r=>WN (LC (WN (dC (.d (.str p.1))) (WN (C4 p.2.1) (WN (C4 p.2.2) Ml)))) (E6 r)
def B2(p:Str×V×V):PyData:=.tuple [.str p.1,.bool ((Tg p.2.1).getD false),.bool ((Tg p.2.2).getD false)]
theorem G8{e d:Addr}{x:List (Str×PyData)}{s:DS}(hs:s.e[0]? = some (some (.exc e 43 d x))):∀(L:List (Str×V×V)) (k:List Val->DS->Prop),(∀p∈L,(Tg p.2.1).isSome=true/\(Tg p.2.2).isSome=true)->k (L.map λp=>.d (B2 p)) s->E6 L s k
 | [],k,_,h=>h
 | p::r,k,hL,h=>by
  obtain⟨h1,h2⟩:=hL p (vB ..)
  have one:∀(c:V) (k:Val->DS->Prop),(Tg c).isSome=true->k (.d (.bool ((Tg c).getD false))) s->C4 c s k:=λc k hc hk=>by
   obtain⟨b,hb⟩:=uR.mp hc
   rw[hb]at hk
   unfold C4 EU WN Ov
   rw[hs]
   exact⟨rfl,b,hb,hk⟩
  unfold E6 WN LC
  refine one p.2.1 _ h1 (one p.2.2 _ h2 ⟨L2.sz3,?_⟩)
  exact G8 hs r _ (λq hq=>hL q (vC _ hq)) h
theorem Cd{α:Type}(f:α->PyData):∀l:List α,N_ (l.map λp=>.d (f p))=some (l.map f)
 | []=>rfl
 | p::l=>by rw[uE,N_,Cd f l];rfl
def G7:List (Str×V×V):=[("NoHouse",.ref 43,.ty "TypeError"),("NoBidder",.ref 63,.ty "KeyError"),("NoBundle",.ref 83,.ty "ValueError"),("NoPhase",.ref 103,.ty "RuntimeError"),("NoPoints",.ref 123,.ty "ArithmeticError"),("NoWorths",.ref 143,.ty "ValueError"),("NotAll",.ref 163,.ty "LookupError"),("NoLast",.ref 183,.ty "LookupError"),("NoMoney",.ref 203,.ty "ValueError"),("TooMany",.ref 224,.ty "OverflowError"),("NoChoice",.ref 244,.ty "ValueError"),("NoRow",.ref 264,.ty "RuntimeError"),("NoLine",.ref 284,.ty "IndexError")]
theorem E8:G7.map B2=Cg.map LM:=by kernel_rfl
theorem E7:∀p∈G7,(Tg p.2.1).isSome=true/\(Tg p.2.2).isSome=true:=by
 have:G7.all (λp=>(Tg p.2.1).isSome&&(Tg p.2.2).isSome)=true:=by kernel_rfl
 exact λp hp=>sD.mp (yY.mp this p hp)
theorem BF:([]:List PyData)++(Cg.filter λp=>p.2.1).map (λp=>.str p.1)=[.str "NoHouse"]:=rfl
theorem BG:([]:List PyData)++(Cg.filter λp=>p.2.1&&p.2.2).map (λp=>.str p.1)=[.str "NoHouse"]:=rfl
theorem RV(T:Txt K mg)(X:Xt K mg):JT P w K mg base 1 "_law_which" Wq ["_law_e"] (V7 K Wz):=by
 refine JT.data (k:=0) T.f_law_which X3 SG (λa cdv A outer s H hr=>⟨_,_,IPSs.get (Ze (Z7 (i:=1) X3.nd rfl (yQ rfl) (ZH (Zj (Zl (Za Zr (Za (Zh (ZI X.ex.cls) rfl T.z_isinstance sS (Za (Zf 0) (Za (ZK (v:=.ref 43) rfl ⟨_,X.n_NoHouse,rfl⟩) Zb))) (Za (Zh (ZI X.ex.cls) rfl T.z_isinstance sS (Za (Zf 0) (Za (ZJ (v:=.ty "TypeError") rfl T.z_TypeError (by decide +kernel) rfl) Zb))) Zb)))) (Zj (Zl (Za Zr (Za (Zh (ZI X.ex.cls) rfl T.z_isinstance sS (Za (Zf 0) (Za (ZK (v:=.ref 63) rfl ⟨_,X.n_NoBidder,rfl⟩) Zb))) (Za (Zh (ZI X.ex.cls) rfl T.z_isinstance sS (Za (Zf 0) (Za (ZJ (v:=.ty "KeyError") rfl T.z_KeyError (by decide +kernel) rfl) Zb))) Zb)))) (Zj (Zl (Za Zr (Za (Zh (ZI X.ex.cls) rfl T.z_isinstance sS (Za (Zf 0) (Za (ZK (v:=.ref 83) rfl ⟨_,X.n_NoBundle,rfl⟩) Zb))) (Za (Zh (ZI X.ex.cls) rfl T.z_isinstance sS (Za (Zf 0) (Za (ZJ (v:=.ty "ValueError") rfl T.z_ValueError (by decide +kernel) rfl) Zb))) Zb)))) (Zj (Zl (Za Zr (Za (Zh (ZI X.ex.cls) rfl T.z_isinstance sS (Za (Zf 0) (Za (ZK (v:=.ref 103) rfl ⟨_,X.n_NoPhase,rfl⟩) Zb))) (Za (Zh (ZI X.ex.cls) rfl T.z_isinstance sS (Za (Zf 0) (Za (ZJ (v:=.ty "RuntimeError") rfl T.z_RuntimeError (by decide +kernel) rfl) Zb))) Zb)))) (Zj (Zl (Za Zr (Za (Zh (ZI X.ex.cls) rfl T.z_isinstance sS (Za (Zf 0) (Za (ZK (v:=.ref 123) rfl ⟨_,X.n_NoPoints,rfl⟩) Zb))) (Za (Zh (ZI X.ex.cls) rfl T.z_isinstance sS (Za (Zf 0) (Za (ZJ (v:=.ty "ArithmeticError") rfl T.z_ArithmeticError (by decide +kernel) rfl) Zb))) Zb)))) (Zj (Zl (Za Zr (Za (Zh (ZI X.ex.cls) rfl T.z_isinstance sS (Za (Zf 0) (Za (ZK (v:=.ref 143) rfl ⟨_,X.n_NoWorths,rfl⟩) Zb))) (Za (Zh (ZI X.ex.cls) rfl T.z_isinstance sS (Za (Zf 0) (Za (ZJ (v:=.ty "ValueError") rfl T.z_ValueError (by decide +kernel) rfl) Zb))) Zb)))) (Zj (Zl (Za Zr (Za (Zh (ZI X.ex.cls) rfl T.z_isinstance sS (Za (Zf 0) (Za (ZK (v:=.ref 163) rfl ⟨_,X.n_NotAll,rfl⟩) Zb))) (Za (Zh (ZI X.ex.cls) rfl T.z_isinstance sS (Za (Zf 0) (Za (ZJ (v:=.ty "LookupError") rfl T.z_LookupError (by decide +kernel) rfl) Zb))) Zb)))) (Zj (Zl (Za Zr (Za (Zh (ZI X.ex.cls) rfl T.z_isinstance sS (Za (Zf 0) (Za (ZK (v:=.ref 183) rfl ⟨_,X.n_NoLast,rfl⟩) Zb))) (Za (Zh (ZI X.ex.cls) rfl T.z_isinstance sS (Za (Zf 0) (Za (ZJ (v:=.ty "LookupError") rfl T.z_LookupError (by decide +kernel) rfl) Zb))) Zb)))) (Zj (Zl (Za Zr (Za (Zh (ZI X.ex.cls) rfl T.z_isinstance sS (Za (Zf 0) (Za (ZK (v:=.ref 203) rfl ⟨_,X.n_NoMoney,rfl⟩) Zb))) (Za (Zh (ZI X.ex.cls) rfl T.z_isinstance sS (Za (Zf 0) (Za (ZJ (v:=.ty "ValueError") rfl T.z_ValueError (by decide +kernel) rfl) Zb))) Zb)))) (Zj (Zl (Za Zr (Za (Zh (ZI X.ex.cls) rfl T.z_isinstance sS (Za (Zf 0) (Za (ZK (v:=.ref 224) rfl ⟨_,X.n_TooMany,rfl⟩) Zb))) (Za (Zh (ZI X.ex.cls) rfl T.z_isinstance sS (Za (Zf 0) (Za (ZJ (v:=.ty "OverflowError") rfl T.z_OverflowError (by decide +kernel) rfl) Zb))) Zb)))) (Zj (Zl (Za Zr (Za (Zh (ZI X.ex.cls) rfl T.z_isinstance sS (Za (Zf 0) (Za (ZK (v:=.ref 244) rfl ⟨_,X.n_NoChoice,rfl⟩) Zb))) (Za (Zh (ZI X.ex.cls) rfl T.z_isinstance sS (Za (Zf 0) (Za (ZJ (v:=.ty "ValueError") rfl T.z_ValueError (by decide +kernel) rfl) Zb))) Zb)))) (Zj (Zl (Za Zr (Za (Zh (ZI X.ex.cls) rfl T.z_isinstance sS (Za (Zf 0) (Za (ZK (v:=.ref 264) rfl ⟨_,X.n_NoRow,rfl⟩) Zb))) (Za (Zh (ZI X.ex.cls) rfl T.z_isinstance sS (Za (Zf 0) (Za (ZJ (v:=.ty "RuntimeError") rfl T.z_RuntimeError (by decide +kernel) rfl) Zb))) Zb)))) (Zj (Zl (Za Zr (Za (Zh (ZI X.ex.cls) rfl T.z_isinstance sS (Za (Zf 0) (Za (ZK (v:=.ref 284) rfl ⟨_,X.n_NoLine,rfl⟩) Zb))) (Za (Zh (ZI X.ex.cls) rfl T.z_isinstance sS (Za (Zf 0) (Za (ZJ (v:=.ty "IndexError") rfl T.z_IndexError (by decide +kernel) rfl) Zb))) Zb)))) Zb)))))))))))))))
  (Ze (by refine' W2 (i:=2) X3.nd rfl (yQ rfl) (Nc:=["_law_name_here","_law_ours","_law_theirs"]) (cap:=[none,none,none]) rfl ?i ?k ?g ?t ?e;(case k=>kernel_rfl);(case i=>exact(X4 (Zf 1)));(case g=>exact(λ_ _ _ _ _=>(Vi (K:=K) rfl (n:=3) rfl (Z6 (Wj 0 (by show List.Nodup (["_law_name_here","_law_ours","_law_theirs"]:List Str);decide +kernel)) (Z6 (Wj 1 (by show List.Nodup (["_law_name_here","_law_ours","_law_theirs"]:List Str);decide +kernel)) (Z6 (Wj 2 (by show List.Nodup (["_law_name_here","_law_ours","_law_theirs"]:List Str);decide +kernel)) Yl))))));(case t=>exact(λ_ _ _ _ _=>(UB (Y6 (WD 1)))));(case e=>exact(λ_ _ _ _ _=>(WD 0))))
  (Ze (by refine' W2 (i:=3) X3.nd rfl (yQ rfl) (Nc:=["_law_name_here","_law_ours","_law_theirs"]) (cap:=[none,none,none]) rfl ?i ?k ?g ?t ?e;(case k=>kernel_rfl);(case i=>exact(X4 (Zf 1)));(case g=>exact(λ_ _ _ _ _=>(Vi (K:=K) rfl (n:=3) rfl (Z6 (Wj 0 (by show List.Nodup (["_law_name_here","_law_ours","_law_theirs"]:List Str);decide +kernel)) (Z6 (Wj 1 (by show List.Nodup (["_law_name_here","_law_ours","_law_theirs"]:List Str);decide +kernel)) (Z6 (Wj 2 (by show List.Nodup (["_law_name_here","_law_ours","_law_theirs"]:List Str);decide +kernel)) Yl))))));(case t=>exact(λ_ _ _ _ _=>(UB (IPW.pt (TX (Y6 (WD 1)) (UC (Y6 (WD 2))))))));(case e=>exact(λ_ _ _ _ _=>(WD 0))))
  (Ze (Yy (IPW.pt (TX (ZW Gk (Zh ZY rfl T.z_len sO (Za (Zf 2) Zb)) Zd (Xl _)) (UC (ZW (F1 hr.units) (Zf 3) (Zf 2) (Xl _))))) (Zn (ZA (ZC Yb (Zf 2) Zd (λ_ _=>rfl)))) ZP)
  (Zn (ZA Zr)))))),(ZM (VO (Xw false (Zc (Yu (Zc Z_ (Zc (ZX (Yd X.kits) (Zc (Zm 0) (Zc Xm Zk))) (Zc (ZX (Yd X.kits) (Zc (Zm 0) (Zc Xy Zk))) Zk)))) (Zc (Yu (Zc Z_ (Zc (ZX (Yd X.kits) (Zc (Zm 0) (Zc Xm Zk))) (Zc (ZX (Yd X.kits) (Zc (Zm 0) (Zc Xy Zk))) Zk)))) (Zc (Yu (Zc Z_ (Zc (ZX (Yd X.kits) (Zc (Zm 0) (Zc Xm Zk))) (Zc (ZX (Yd X.kits) (Zc (Zm 0) (Zc Xy Zk))) Zk)))) (Zc (Yu (Zc Z_ (Zc (ZX (Yd X.kits) (Zc (Zm 0) (Zc Xm Zk))) (Zc (ZX (Yd X.kits) (Zc (Zm 0) (Zc Xy Zk))) Zk)))) (Zc (Yu (Zc Z_ (Zc (ZX (Yd X.kits) (Zc (Zm 0) (Zc Xm Zk))) (Zc (ZX (Yd X.kits) (Zc (Zm 0) (Zc Xy Zk))) Zk)))) (Zc (Yu (Zc Z_ (Zc (ZX (Yd X.kits) (Zc (Zm 0) (Zc Xm Zk))) (Zc (ZX (Yd X.kits) (Zc (Zm 0) (Zc Xy Zk))) Zk)))) (Zc (Yu (Zc Z_ (Zc (ZX (Yd X.kits) (Zc (Zm 0) (Zc Xm Zk))) (Zc (ZX (Yd X.kits) (Zc (Zm 0) (Zc Xy Zk))) Zk)))) (Zc (Yu (Zc Z_ (Zc (ZX (Yd X.kits) (Zc (Zm 0) (Zc Xm Zk))) (Zc (ZX (Yd X.kits) (Zc (Zm 0) (Zc Xy Zk))) Zk)))) (Zc (Yu (Zc Z_ (Zc (ZX (Yd X.kits) (Zc (Zm 0) (Zc Xm Zk))) (Zc (ZX (Yd X.kits) (Zc (Zm 0) (Zc Xy Zk))) Zk)))) (Zc (Yu (Zc Z_ (Zc (ZX (Yd X.kits) (Zc (Zm 0) (Zc Xm Zk))) (Zc (ZX (Yd X.kits) (Zc (Zm 0) (Zc Xy Zk))) Zk)))) (Zc (Yu (Zc Z_ (Zc (ZX (Yd X.kits) (Zc (Zm 0) (Zc Xm Zk))) (Zc (ZX (Yd X.kits) (Zc (Zm 0) (Zc Xy Zk))) Zk)))) (Zc (Yu (Zc Z_ (Zc (ZX (Yd X.kits) (Zc (Zm 0) (Zc Xm Zk))) (Zc (ZX (Yd X.kits) (Zc (Zm 0) (Zc Xy Zk))) Zk)))) (Zc (Yu (Zc Z_ (Zc (ZX (Yd X.kits) (Zc (Zm 0) (Zc Xm Zk))) (Zc (ZX (Yd X.kits) (Zc (Zm 0) (Zc Xy Zk))) Zk)))) Zk)))))))))))))) (Y0 1))
  (ZM (by nofun)
  (ZM (by nofun)
  (ZM (by nofun)
  (by nofun))))),λas o q h=>?_⟩)
 obtain⟨r,⟨e,d,x,rfl,rfl⟩,hq⟩:=h
 show LA (Mj (L5 false (E6 G7)) (EF 1)) _ _ _
 rw[show Mj (L5 false (E6 G7)) (EF 1)=λ(E:XR) (s:DS)=>E6 G7 s λvs s1=>match N_ vs with|some ds=>ds.length≤sizeLine/\nl false ds s1 (λv s2=>EF 1 v s2 E.nx)|none=>False from rfl]
 show E6 G7 _ _
 refine G8 (e:=e) (d:=d) (x:=x) rfl G7 _ E7 ?_
 rw[Cd,E8]
 simp!
 refine⟨by decide,?_⟩
 simp!
 refine VL Cg LM (λp=>.str p.1) (λp=>p.2.1) [] rfl trivial (by decide) ?_ ?_
 ·rintro ⟨n,b,c⟩ _ Q hQ
  simp! only[LM]
  cases b<;>exact hQ
 rw[BF]
 simp!
 refine VL Cg LM (λp=>.str p.1) (λp=>p.2.1&&p.2.2) [] rfl trivial (by decide) ?_ ?_
 ·rintro ⟨n,b,c⟩ _ Q hQ
  simp! only[LM]
  cases b<;>cases c<;>exact hQ
 rw[BG]
 simp!
 refine CV ⟨⟨by decide +kernel,by decide +kernel,by decide +kernel,by decide +kernel⟩,?_⟩
 rw[zJ (by decide +kernel)]
 simp!
 exact⟨_,rfl,_,OW.le.refl _,hq⟩
end
section
variable {P:Program}{w:World}{K:Frag}{mg:Str->Option Value}{base:Heap}
def EB:PyData->Bool
 | .int _=>true
 | _=>false
def UR:WH:=XX λvs r=>∃d,vs=[.d d]/\r=.bool (EB d)
theorem Qi:∀vs w k,UR vs w k->vs.length=1:=Y8 (by rintro vs r ⟨_,rfl,_⟩;rfl)
theorem QM(T:Txt K mg):Dn P w K mg base 1 "is_whole" Va ["thing"] (V7 K UR):=by
 refine Dn.data (k:=0) T.f_is_whole PC Qi (λa cdv A outer s H E hr=>⟨_,_,IPSs.get (Ze (ZA (Wi (Zh YZ rfl T.z_isinstance sS (Za (Zf 0) (Za (ZJ (v:=.ty "int") rfl T.z_int (by decide +kernel) rfl) Zb))) (WT (Pe (Zh YZ rfl T.z_isinstance sS (Za (Zf 0) (Za (ZJ (v:=.ty "bool") rfl T.z_bool (by decide +kernel) rfl) Zb))))))) ZP),(by nofun),λas o q h=>?_⟩)
 obtain⟨r,⟨d,rfl,rfl⟩,hq⟩:=h
 cases d with
 | int n=>simp! only[Xs];exact⟨true,λ_=>rfl,⟨false,λ_=>rfl,_,OW.le.refl _,hq⟩⟩
 | bool n=>simp! only[Xs];exact⟨true,λ_=>rfl,⟨true,λ_=>rfl,_,OW.le.refl _,hq⟩⟩
 | none=>simp! only[Xs];exact⟨false,λ_=>rfl,_,OW.le.refl _,hq⟩
 | str n=>simp! only[Xs];exact⟨false,λ_=>rfl,_,OW.le.refl _,hq⟩
 | list n=>simp! only[Xs];exact⟨false,λ_=>rfl,_,OW.le.refl _,hq⟩
 | tuple n=>simp! only[Xs];exact⟨false,λ_=>rfl,_,OW.le.refl _,hq⟩
 | dict n=>simp! only[Xs];exact⟨false,λ_=>rfl,_,OW.le.refl _,hq⟩
def SS(d:PyData)(a b:Int):Bool:=match d with
 | .tuple ds=>decide (a≤ds.length/\(ds.length:Int)≤b)
 | _=>false
def X9:WH:=XX λvs r=>∃d a b,vs=[.d d,.d (.int a),.d (.int b)]/\r=.bool (SS d a b)
theorem To:MZ X9:=Uj
theorem Tj:∀vs w k,X9 vs w k->vs.length=3:=Y8 (by rintro vs r ⟨_,_,_,rfl,_⟩;rfl)
theorem WO(T:Txt K mg):Dn P w K mg base 1 "is_tuple_of" XH ["thing","least","most"] (V7 K X9):=by
 refine Dn.data (k:=0) T.f_is_tuple_of Sm Tj (λa cdv A outer s H E hr=>⟨_,_,IPSs.get (Ze (ZA (Wi (Zh YZ rfl T.z_isinstance sS (Za (Zf 0) (Za (ZJ (v:=.ty "tuple") rfl T.z_tuple (by decide +kernel) rfl) Zb))) (WT (VF WE WE (Zf 1) (Zh ZY rfl T.z_len sO (Za (Zf 0) Zb)) (Zf 2))))) ZP),(by nofun),λas o q h=>?_⟩)
 obtain⟨r,⟨d,a,b,rfl,rfl⟩,hq⟩:=h
 cases d with
 | tuple n=>
  simp! only[Xs]
  refine⟨true,λ_=>rfl,?_⟩
  simp!
  unfold SS at hq
  simp only at hq
  refine Th (λc=>?_) (λc=>?_)
  ·have e:decide (a≤n.length/\(n.length:Int)≤b)=decide ((n.length:Int)≤b):=by simp[sR c]
   rw[e]at hq;exact⟨_,OW.le.refl _,hq⟩
  ·have c':¬a≤n.length:=by simpa using c
   have e:decide (a≤n.length/\(n.length:Int)≤b)=false:=by simp[c']
   rw[e]at hq;exact⟨_,OW.le.refl _,hq⟩
 | int n=>simp! only[Xs];exact⟨false,λ_=>rfl,_,OW.le.refl _,hq⟩
 | bool n=>simp! only[Xs];exact⟨false,λ_=>rfl,_,OW.le.refl _,hq⟩
 | none=>simp! only[Xs];exact⟨false,λ_=>rfl,_,OW.le.refl _,hq⟩
 | str n=>simp! only[Xs];exact⟨false,λ_=>rfl,_,OW.le.refl _,hq⟩
 | list n=>simp! only[Xs];exact⟨false,λ_=>rfl,_,OW.le.refl _,hq⟩
 | dict n=>simp! only[Xs];exact⟨false,λ_=>rfl,_,OW.le.refl _,hq⟩
def S5(d:PyData)(a b:Int):Bool:=match d with
 | .int n=>decide (a≤n)&&decide (n≤b)
 | _=>false
def Xx:WH:=XX λvs r=>∃d a b,vs=[.d d,.d (.int a),.d (.int b)]/\r=.bool (S5 d a b)
theorem WW:∀vs w k,Xx vs w k->vs.length=3:=Y8 (by rintro vs r ⟨_,_,_,rfl,_⟩;rfl)
theorem Vv(T:Txt K mg):Dn P w K mg base 2 "is_whole_between" Y9 ["thing","least","most"] (V7 K Xx):=by
 have D_is_whole:=QM (P:=P) (w:=w) (base:=base) T
 refine Dn.data (k:=1) T.f_is_whole_between Vz WW (λa cdv A outer s H E hr=>⟨_,_,IPSs.get (Ze (ZA (Wi (Zs D_is_whole QC (hr.mono (by decide)) (Za (Zf 0) Zb)) (WT (VF WE WE (Zf 1) (Zf 0) (Zf 2))))) ZP),(by nofun),λas o q h=>?_⟩)
 obtain⟨r,⟨d,a,b,rfl,rfl⟩,hq⟩:=h
 simp!
 refine⟨_,⟨d,rfl,rfl⟩,?_⟩
 cases d with
 | int n=>
  simp! only[EB]
  refine Th (λc=>?_) (λc=>?_)
  ·have e:S5 (.int n) a b=decide (n≤b):=by show(decide (a≤n)&&decide (n≤b))=_;rw[c,zK]
   rw[e]at hq;exact⟨_,OW.le.refl _,hq⟩
  ·have e:S5 (.int n) a b=false:=by show(decide (a≤n)&&decide (n≤b))=_;rw[tW.mpr c,Bool.false_and]
   rw[e]at hq;exact⟨_,OW.le.refl _,hq⟩
 | _=>simp! only[EB];exact⟨_,OW.le.refl _,hq⟩
def V_:WH:=XX λvs r=>∃d,vs=[.d d]/\r=.bool (EB d)
theorem SH:∀vs w k,V_ vs w k->vs.length=1:=Y8 (by rintro vs r ⟨_,rfl,_⟩;rfl)
theorem RW(T:Txt K mg):Dn P w K mg base 1 "_law_whole" Wr ["_law_thing"] (V7 K V_):=by
 refine Dn.data (k:=0) T.f_law_whole Qw SH (λa cdv A outer s H E hr=>⟨_,_,IPSs.get (Ze (ZA (Wi (Zh YZ rfl T.z_isinstance sS (Za (Zf 0) (Za (ZJ (v:=.ty "int") rfl T.z_int (by decide +kernel) rfl) Zb))) (WT (Pe (Zh YZ rfl T.z_isinstance sS (Za (Zf 0) (Za (ZJ (v:=.ty "bool") rfl T.z_bool (by decide +kernel) rfl) Zb))))))) ZP),(by nofun),λas o q h=>?_⟩)
 obtain⟨r,⟨d,rfl,rfl⟩,hq⟩:=h
 cases d with
 | int n=>simp! only[Xs];exact⟨true,λ_=>rfl,⟨false,λ_=>rfl,_,OW.le.refl _,hq⟩⟩
 | bool n=>simp! only[Xs];exact⟨true,λ_=>rfl,⟨true,λ_=>rfl,_,OW.le.refl _,hq⟩⟩
 | none=>simp! only[Xs];exact⟨false,λ_=>rfl,_,OW.le.refl _,hq⟩
 | str n=>simp! only[Xs];exact⟨false,λ_=>rfl,_,OW.le.refl _,hq⟩
 | list n=>simp! only[Xs];exact⟨false,λ_=>rfl,_,OW.le.refl _,hq⟩
 | tuple n=>simp! only[Xs];exact⟨false,λ_=>rfl,_,OW.le.refl _,hq⟩
 | dict n=>simp! only[Xs];exact⟨false,λ_=>rfl,_,OW.le.refl _,hq⟩
theorem U0{xs:List PyData}{i:Int}(h0:0≤i)(h1:i<xs.length):∃x,x∈xs/\atI xs i=some x:=by
 obtain⟨n,rfl⟩:=sT h0
 have h2:n<xs.length:=by omega
 exact⟨xs[n],xP h2,Yj (JP h2)⟩
end
section
variable {P:Program}{w:World}{K:Frag}{mg:Str->Option Value}{base:Heap}
def MD(z:Str):Bool:=decide ((1:Int)≤z.length)&&(decide ((z.length:Int)≤8)&&z.cps.toList.all λc=>PySem.Txt.contains Y7 (MO c))
def V5:PyData->Bool
 | .str z=>MD z
 | _=>false
def Tx:PyData->Prop
 | .str z=>z.cps.all (· < 128)=true/\z.length≤64
 | _=>True
theorem HD{n:Nat}(h:n≤64):n≤sizeLine:=wZ h (by decide)
def TK:WH:=XX λvs r=>∃d,vs=[.d d]/\Tx d/\r=.bool (V5 d)
theorem Pn:∀vs w k,TK vs w k->vs.length=1:=Y8 (by rintro vs r ⟨_,rfl,_⟩;rfl)
theorem Ow(T:Txt K mg)(X:Xt K mg):Dn P w K mg base 1 "is_name" Uo ["thing"] (V7 K TK):=by
 refine Dn.data (k:=0) T.f_is_name OQ Pn (λa cdv A outer s H E hr=>⟨_,_,IPSs.get (Ze (Yy (IPW.pt (XU (Y5 (Y6 (Zh YZ rfl T.z_isinstance sS (Za (Zf 0) (Za (ZJ (v:=.ty "str") rfl T.z_str (by decide +kernel) rfl) Zb))))) (Wk (Y5 (VH WE WE Zd (Zh Rb rfl T.z_len sO (Za (Zf 0) Zb)) (ZK rfl T.c_LONGEST_NAME)))))) (Zn (ZA (X1))) ZP)
  (Zn (ZA (Zh (U3 rfl) rfl T.z_all boot_all (Za (by refine' Vh (Nc:=["sign"]) (cap:=[none]) rfl ?i ?k ?g ?t ?e;(case k=>kernel_rfl);(case i=>exact(Pg (Zf 0)));(case g=>exact(λ_ _ _ _ _=>(Wj 0 (by show List.Nodup (["sign"]:List Str);decide +kernel))));(case t=>exact(λ_ _ _ _ _=>Vj));(case e=>exact(λ_ _ _ _ _=>(Rk KD (WD 0) (ZK Qc X.c_LETTERS) rfl)))) Zb))))),(ZM (NQ (Gz (Qt (Ed (ZX Qn (Zc (Zm 0) (Zc Xy Zk))))) (Qt (W6 (Um Ry Ry ZZ (ZX NL (Zc (Zm 0) Zk)) ZZ)))) (by nofun) W5)
  (UJ (ZX Qm (Zc (Tu false (Jh (Zm 0)) (Y0 0) Qu (Tv (YO Jm (Zm 0) Z_))) Zk)))),λas o q h=>?_⟩)
 obtain⟨r,⟨d,rfl,hd,rfl⟩,hq⟩:=h
 cases d with
 | str z=>
  obtain⟨ha,hl⟩:=hd
  simp! only[Xs,Pa]
  refine⟨true,λ_=>rfl,?_⟩
  simp!
  refine⟨HD hl,?_⟩
  refine Th (λc1=>?_) (λc1=>?_)
  ·cases c2:decide ((z.length:Int)≤8)
   ·simp!
    have e:MD z=false:=by unfold MD;rw[c2];simp
    rw[show V5 (.str z)=false from e]at hq
    exact⟨_,OW.le.refl _,hq⟩
   ·simp! only[GX,Mr]
    refine⟨ha,?_⟩
    refine Qk z.cps.toList (λc=>.str (MO c)) (λc=>.bool (PySem.Txt.contains Y7 (MO c))) [] rfl trivial (YY (by have:z.cps.size=z.length:=rfl;simp;omega)) ?_ ?_
    ·rintro c hc Q hQ
     simp! only[Mr]
     exact hQ
    ·simp! only[Sw]
     refine⟨_,OW.le.refl _,?_⟩
     have e:MD z=(z.cps.toList.map λc=>PySem.Txt.contains Y7 (MO c)).all id:=by
      unfold MD;rw[c1,c2,all_map];rfl
     rw[<- e];exact hq
  ·simp!
   have e:MD z=false:=by unfold MD;rw[tW.mpr c1];rfl
   rw[show V5 (.str z)=false from e]at hq
   exact⟨_,OW.le.refl _,hq⟩
 | tuple n=>simp! only[Xs];exact⟨false,λ_=>rfl,_,OW.le.refl _,hq⟩
 | int n=>simp! only[Xs];exact⟨false,λ_=>rfl,_,OW.le.refl _,hq⟩
 | bool n=>simp! only[Xs];exact⟨false,λ_=>rfl,_,OW.le.refl _,hq⟩
 | none=>simp! only[Xs];exact⟨false,λ_=>rfl,_,OW.le.refl _,hq⟩
 | list n=>simp! only[Xs];exact⟨false,λ_=>rfl,_,OW.le.refl _,hq⟩
 | dict n=>simp! only[Xs];exact⟨false,λ_=>rfl,_,OW.le.refl _,hq⟩
def WS:WH:=XX λvs r=>∃d,vs=[.d d]/\Tx d/\r=.bool (V5 d)
theorem Tn:∀vs w k,WS vs w k->vs.length=1:=Y8 (by rintro vs r ⟨_,rfl,_⟩;rfl)
theorem TH(T:Txt K mg):Dn P w K mg base 1 "_law_is_name" XI ["_law_thing"] (V7 K WS):=by
 refine Dn.data (k:=0) T.f_law_is_name Vc Tn (λa cdv A outer s H E hr=>⟨_,_,IPSs.get (Ze (Z7 (i:=1) Vc.nd rfl (yR rfl) Zr)
  (Zn (ZA (Wi (Zh YZ rfl T.z_isinstance sS (Za (Zf 0) (Za (ZJ (v:=.ty "str") rfl T.z_str (by decide +kernel) rfl) Zb))) (Wi (VF WE WE Zd (Zh Rb rfl T.z_len sO (Za (Zf 0) Zb)) Zd) (WT (Zh (U3 rfl) rfl T.z_all boot_all (Za (by refine' Vh (Nc:=["_law_sign","_law_letters"]) (cap:=[none,some 1]) rfl ?i ?k ?g ?t ?e;(case k=>kernel_rfl);(case i=>exact(Pg (Zf 0)));(case g=>exact(λ_ _ _ _ _=>(Wj 0 (by show List.Nodup (["_law_sign","_law_letters"]:List Str);decide +kernel))));(case t=>exact(λ_ _ _ _ _=>Vj));(case e=>exact(λ_ _ _ _ _=>(Rk KD (WD 0) (N5 1) rfl)))) Zb)))))))),(ZM (by nofun)
  (UJ (Qo (ZX Qn (Zc (Zm 0) (Zc Xy Zk))) (Qo (Um Ry Ry ZZ (ZX NL (Zc (Zm 0) Zk)) ZZ) (ZX Qm (Zc (Tu false (Jh (Zm 0)) (Y0 0) Qu (Tv (YO Jm (Zm 0) (Zm 1)))) Zk)))))),λas o q h=>?_⟩)
 obtain⟨r,⟨d,rfl,hd,rfl⟩,hq⟩:=h
 cases d with
 | str z=>
  obtain⟨ha,hl⟩:=hd
  simp! only[Xs,Pa]
  refine⟨true,λ_=>rfl,?_⟩
  simp!
  refine⟨HD hl,?_⟩
  refine Th (λc1=>?_) (λc1=>?_)
  ·cases c2:decide ((z.length:Int)≤8)
   ·simp!
    have e:MD z=false:=by unfold MD;rw[c2];simp
    rw[show V5 (.str z)=false from e]at hq
    exact⟨_,OW.le.refl _,hq⟩
   ·simp! only[GX]
    refine⟨ha,?_⟩
    refine Qk z.cps.toList (λc=>.str (MO c)) (λc=>.bool (PySem.Txt.contains Y7 (MO c))) [] rfl trivial (YY (by have:z.cps.size=z.length:=rfl;simp;omega)) ?_ ?_
    ·rintro c hc Q hQ
     simp! only[Mr]
     exact hQ
    ·simp! only[Sw]
     refine⟨_,OW.le.refl _,?_⟩
     have e:MD z=(z.cps.toList.map λc=>PySem.Txt.contains Y7 (MO c)).all id:=by
      unfold MD;rw[c1,c2,all_map];rfl
     rw[<- e];exact hq
  ·have e:MD z=false:=by unfold MD;rw[tW.mpr c1];rfl
   rw[show V5 (.str z)=false from e]at hq
   exact⟨_,OW.le.refl _,hq⟩
 | tuple n=>simp! only[Xs];exact⟨false,λ_=>rfl,_,OW.le.refl _,hq⟩
 | int n=>simp! only[Xs];exact⟨false,λ_=>rfl,_,OW.le.refl _,hq⟩
 | bool n=>simp! only[Xs];exact⟨false,λ_=>rfl,_,OW.le.refl _,hq⟩
 | none=>simp! only[Xs];exact⟨false,λ_=>rfl,_,OW.le.refl _,hq⟩
 | list n=>simp! only[Xs];exact⟨false,λ_=>rfl,_,OW.le.refl _,hq⟩
 | dict n=>simp! only[Xs];exact⟨false,λ_=>rfl,_,OW.le.refl _,hq⟩
def Wg(p:Int×Int):PyData:=.tuple [.int p.1,.int p.2]
def Rx(L:List (Int×Int))(r:List PyData):Bool:=(r.zip L).all λp=>S5 p.1 p.2.1 p.2.2
def Yz(L:List (Int×Int)):PyData->Bool
 | .tuple (x::r)=>decide (r.length=L.length)&&(V5 x&&Rx L r)
 | _=>false
def Rw:PyData->Prop
 | .tuple (x::r)=>Tx x/\r.length≤63
 | _=>True
theorem Ll{x:PyData}{r:List PyData}:L2.Xz (x::r) (some 1) none=r:=by
 have e:HT.sIx (x::r).length 0 (some 1)=1:=by
  rw[show(some (1:Int))=some ((1:Nat):Int) from rfl,HT.sIx_nat]
  simp
 unfold L2.Xz
 rw[e,HT.sIx_none]
 simp
def WB:WH:=XX λvs r=>∃d L,vs=[.d d,.d (.tuple (L.map Wg))]/\L.length≤10/\Rw d/\r=.bool (Yz L d)
theorem UG:∀vs w k,WB vs w k->vs.length=2:=Y8 (by rintro vs r ⟨_,_,rfl,_⟩;rfl)
theorem Td(T:Txt K mg)(X:Xt K mg):Dn P w K mg base 3 "is_named_row" Xq ["thing","numbers"] (V7 K WB):=by
 have D_is_name:=Ow (P:=P) (w:=w) (base:=base) T X
 have D_is_tuple_of:=WO (P:=P) (w:=w) (base:=base) T
 have D_is_whole_between:=Vv (P:=P) (w:=w) (base:=base) T
 refine Dn.data (k:=2) T.f_is_named_row WG UG (λa cdv A outer s H E hr=>⟨_,_,IPSs.get (Ze (Z7 (i:=2) WG.nd rfl (yQ rfl) (Zu Yr Zd (Zh ZY rfl T.z_len sO (Za (Zf 1) Zb))))
  (Ze (Yy (IPW.pt (XU (Y5 (Y6 (Zs D_is_tuple_of WL (hr.mono (by decide)) (Za (Zf 0) (Za (Zf 2) (Za (Zf 2) Zb)))))) (Wk (Y5 (Y6 (Zs D_is_name Og (hr.mono (by decide)) (Za (ZC Xb (Zf 0) Zd (λ_ _=>rfl)) Zb))))))) (Zn (ZA (X1))) ZP)
  (Zn (ZA (Zh (U3 rfl) rfl T.z_all boot_all (Za (by refine' Vh (Nc:=["number","least","most"]) (cap:=[none,none,none]) rfl ?i ?k ?g ?t ?e;(case k=>kernel_rfl);(case i=>exact(Ph true true rfl T.z_zip (Za (Yi Xf (Zf 0) (Yq Zd) Yp) (Za (Zf 1) Zb))));(case g=>exact(λ_ _ _ _ _=>(Vi (K:=K) rfl (n:=2) rfl (Z6 (Wj 0 (by show List.Nodup (["number","least","most"]:List Str);decide +kernel)) (Z6 (Vi (K:=K) rfl (n:=2) rfl (Z6 (Wj 1 (by show List.Nodup (["number","least","most"]:List Str);decide +kernel)) (Z6 (Wj 2 (by show List.Nodup (["number","least","most"]:List Str);decide +kernel)) Yl))) Yl)))));(case t=>exact(λ_ _ _ _ _=>Vj));(case e=>exact(λ_ _ _ _ _=>(Zs D_is_whole_between Vu (hr.mono (by decide)) (Za (WD 0) (Za (WD 1) (Za (WD 2) Zb))) (hg:=Qc))))) Zb)))))),(by nofun),λas o q h=>?_⟩)
 obtain⟨r,⟨d,L,rfl,hL,hd,rfl⟩,hq⟩:=h
 simp!
 have no:SS d (1+((L.map Wg).length:Int)) (1+((L.map Wg).length:Int))=false->Yz L d=false:=by
  intro e
  cases d with
  | tuple ds=>
   cases ds with
   | nil=>rfl
   | cons x r=>
    simp only[SS,sU,uC,Uh]at e
    simp only[Yz,Bool.and_eq_false_iff,sU]
    exact .inl (by omega)
  | _=>rfl
 refine⟨_,⟨d,_,_,rfl,rfl⟩,?_⟩
 cases c:SS d (1+((L.map Wg).length:Int)) (1+((L.map Wg).length:Int))
 ·simp!
  rw[no c]at hq
  exact⟨_,OW.le.refl _,hq⟩
 cases d with
 | tuple ds=>
  cases ds with
  | nil=>
   simp only[SS,xY,tY,Uh]at c
   omega
  | cons x r=>
   obtain⟨hx,hr'⟩:=hd
   simp only[SS,xY,uC,Uh]at c
   have hl:r.length=L.length:=by omega
   simp!
   refine⟨x,Yj (j:=0) rfl,_,⟨x,rfl,hx,rfl⟩,?_⟩
   cases c2:V5 x
   ·simp!
    have e:Yz L (.tuple (x::r))=false:=by simp[Yz,c2]
    rw[e]at hq
    exact⟨_,OW.le.refl _,hq⟩
   ·simp!
    have ec:L2.Xz (x::r) (some 1) none=r:=Ll
    have ez:Sy (L2.Xz (x::r) (some 1) none) (L.map Wg)=(r.zip L).map λp=>.tuple [p.1,Wg p.2]:=by
     rw[ec]
     have z:=PY r L id Wg
     rw[List.map_id]at z
     exact z
    rw[ez]
    refine Qk (r.zip L) (λp=>.tuple [p.1,Wg p.2]) (λp=>.bool (S5 p.1 p.2.1 p.2.2)) [] rfl trivial (YY (by simp;omega)) ?_ ?_
    ·rintro ⟨y,a,b⟩ hy Q hQ
     simp! only[Wg]
     exact⟨_,⟨y,a,b,rfl,rfl⟩,by simp!;exact hQ⟩
    ·simp! only[Sw]
     refine⟨_,OW.le.refl _,?_⟩
     have e:Yz L (.tuple (x::r))=((r.zip L).map λp=>S5 p.1 p.2.1 p.2.2).all id:=by
      simp only[Yz,Rx,c2,hl,sG,zK,all_map];rfl
     rw[<- e];exact hq
 | _=>cases c
end
section
variable {P:Program}{w:World}{K:Frag}{mg:Str->Option Value}{base:Heap}
def ED:PyData->Str
 | .tuple (.str z::_)=>z
 | _=>⟨#[]⟩
def UD(names:List Str)(z:Str):Bool:=(names.map PyData.str).any λy=>PyData.eqv y (.str z)
def fw(L:List (Int×Int)):List Str->Nat->List PyData->Option Nat
 | _,_,[]=>none
 | names,i,d::ds=>if(Yz L d&&!(UD names (ED d)))=true then fw L (names++[ED d]) (i+1) ds else some i
def CS:Option Nat->PyData
 | none=>.none
 | some i=>.int i
def CH(ds:List PyData):Prop:=ds.length≤64/\∀d∈ds,Rw d
theorem K9{L:List (Int×Int)}{d:PyData}(h:Yz L d=true):∃z r,d=.tuple (.str z::r)/\V5 (.str z)=true/\r.length=L.length/\Rx L r=true:=by
 cases d with
 | tuple ds=>
  cases ds with
  | nil=>cases h
  | cons x r=>
   simp only[Yz,yG,xY]at h
   obtain⟨h1,h2,h3⟩:=h
   cases x with
   | str z=>exact⟨z,r,rfl,h2,h1,h3⟩
   | _=>cases h2
 | _=>cases h
def UP(z:Str):Prop:=z.cps.all (· < 128)=true
theorem T5{z:Str}(h:UP z):PyData.strOk z=true:=by
 unfold UP at h;unfold PyData.strOk
 rw[Array.all_eq_true]at h |-
 intro i hi
 have:=sR (h i hi)
 exact yO (by omega)
theorem Uu:∀names:List Str,(∀z∈names,UP z)->PyData.canLayAll0 (names.map PyData.str)=true/\PyData.hasDictAll (names.map PyData.str)=false
 | [],_=>⟨rfl,rfl⟩
 | z::r,h=>by
  obtain⟨h1,h2⟩:=Uu r λy hy=>h y (vC _ hy)
  simp only[uE]
  exact⟨by simp[PyData.canLayAll0,PyData.canLay0,h1,T5 (h z (vB ..))],by simp[PyData.hasDictAll,PyData.hasDict,h2]⟩
theorem QO{α:Type}{l:List α}{i:Nat}{x:α}(h:l[i]? = some x):l.drop i=x::l.drop (i+1):=by
 obtain⟨hi,rfl⟩:=vH.mp h
 exact List.drop_eq_getElem_cons hi
theorem Uc{α β:Type}{f:α->β}{l:List α}{i:Nat}{d:β}(h:(l.map f)[i]? = some d):∃r,l[i]? = some r/\f r=d:=by
 rw[uV]at h
 cases e:l[i]? with
 | none=>rw[e]at h;cases h
 | some r=>rw[e]at h;exact⟨r,rfl,vK h⟩
theorem QR{ds:List PyData}{i:Nat}{d:PyData}(h:(Wh ds)[i]? = some d):∃x,ds[i]? = some x/\d=.tuple [.int (i:Nat),x]:=by
 unfold Wh at h
 rw[tJ]at h
 cases e:ds[i]? with
 | none=>rw[e]at h;cases h
 | some x=>rw[e]at h;cases h;exact⟨x,rfl,rfl⟩
theorem Rw.asc{z:Str}{r:List PyData}(h:Rw (.tuple (.str z::r))):UP z:=h.1.1
def WQ:WH:=XX λvs r=>∃ds L,vs=[.d (.tuple ds),.d (.tuple (L.map Wg))]/\L.length≤10/\CH ds/\r=CS (fw L [] 0 ds)
theorem Ti:∀vs w k,WQ vs w k->vs.length=2:=Y8 (by rintro vs r ⟨_,_,rfl,_⟩;rfl)
theorem TF(T:Txt K mg)(X:Xt K mg):Dn P w K mg base 4 "first_wrong" Xp ["rows","numbers"] (V7 K WQ):=by
 have D_is_named_row:=Td (P:=P) (w:=w) (base:=base) T X
 refine Dn.data (k:=3) T.f_first_wrong Xe Ti (λa cdv A outer s H E hr=>⟨_,_,IPSs.get (Ze (Z7 (i:=2) Xe.nd rfl (yQ rfl) (ZH Zb))
  (Ze (Xa sV rfl (Rm true rfl T.z_enumerate (Za (Zf 0) Zb)) (Y_ (n:=2) rfl (Z6 (ZN (i:=3) Xe.nd rfl (yQ rfl)) (Z6 (ZN (i:=4) Xe.nd rfl (yQ rfl)) Yl))) (Ze (Yy (IPW.pt (XU (Y5 (Y6 (Zs D_is_named_row Tb (hr.mono (by decide)) (Za (Zf 4) (Za (Zf 1) Zb))))) (Wk (ZW (OF hr.units) (ZC Xb (Zf 4) Zd (λ_ _=>rfl)) (Zf 2) rfl)))) (Zn (ZA (Zf 3))) ZP)
  (Zn (YV (W0 sW sX sY X5 (Zf 2) (Za (ZC Xb (Zf 4) Zd (λ_ _=>rfl)) Zb))))))
  (Zn (ZA Y4)))),(ZM (VO (Xw true Zk) (Y0 2))
  (ZM (by nofun)
  (by nofun))),λas o q h=>?_⟩)
 obtain⟨r,⟨ds,L,rfl,hL,⟨hl,hd⟩,rfl⟩,hq⟩:=h
 simp!
 refine⟨by decide,λp hp=>?_⟩
 simp!
 refine⟨λi s=>∃(names:List Str) (o3 o4:Option Val),s=⟨[some (.d (.tuple ds)),some (.d (.tuple (L.map Wg))),some (.own p),o3,o4],o.put p (.lst (names.map .str))⟩/\names.length≤i/\(∀z∈names,UP z)/\fw L names i (ds.drop i)=fw L [] 0 ds,⟨[],_,_,rfl,vU _,(λ_ z=>by cases z),rfl⟩,λ_ _ _=>trivial,?_,?_⟩
 ·rintro i d s hi ⟨names,o3,o4,rfl,hn,hA,hf⟩
  obtain⟨x,hx,rfl⟩:=QR hi
  have hR:=hd x (uW hx)
  have hil:=(vH.mp hx).1
  rw[QO hx]at hf
  simp!
  refine⟨_,⟨x,L,rfl,hL,hR,rfl⟩,?_⟩
  cases c:Yz L x
  ·simp!
   have e:fw L [] 0 ds=some i:=by rw[<- hf,fw,c];rfl
   rw[e]at hq
   exact⟨_,(OW.le.refl o).put hp _,hq⟩
  ·obtain⟨z,r,rfl,h1,h2,h3⟩:=K9 c
   have hz:=Rw.asc hR
   have hl2:=Uu names hA
   simp!
   refine⟨_,Yj (j:=0) rfl,?_⟩
   simp!
   refine⟨⟨rfl,hl2.2,T5 hz,hl2.1,by simp[PyData.depth]⟩,?_⟩
   cases c2:UD names z
   ·have c3:(names.map PyData.str).any (λy=>PyData.eqv y (.str z))=false:=c2
    rw[c3]
    simp!
    refine⟨⟨_,rfl⟩,_,Yj (j:=0) rfl,_,rfl,YY (by simp;omega),names++[z],_,_,by rw[tQ];rfl,by simp;omega,λy hy=>?_,?_⟩
    ·rcases vF.mp hy with hy|hy
     ·exact hA y hy
     ·rw[xN.mp hy];exact hz
    ·rw[<- hf,fw,c,show ED (.tuple (.str z::r))=z from rfl,c2];rfl
   ·have c3:(names.map PyData.str).any (λy=>PyData.eqv y (.str z))=true:=c2
    rw[c3]
    simp!
    have e:fw L [] 0 ds=some i:=by rw[<- hf,fw,c,show ED (.tuple (.str z::r))=z from rfl,c2];rfl
    rw[e]at hq
    exact⟨_,(OW.le.refl o).put hp _,hq⟩
 ·rintro s ⟨names,o3,o4,rfl,hn,hA,hf⟩
  simp!
  have e:fw L [] 0 ds=none:=by rw[<- hf,show(Wh ds).length=ds.length by simp[Wh],drop_length];rfl
  rw[e]at hq
  exact⟨_,(OW.le.refl o).put hp _,hq⟩
def M7(lim:Int)(L:List (Int×Int))(d:PyData):PyData:=
 match d with
 | .tuple ds=>if 1≤ds.length/\(ds.length:Int)≤lim then(match fw L [] 0 ds with|none=>.str "none" | some i=>.int i) else .none
 | _=>.none
theorem HV{L:List (Int×Int)}:∀(ds:List PyData) (names:List Str) (i j:Nat),fw L names i ds=some j->j≤i+ds.length
 | [],_,_,_,h=>by cases h
 | d::ds,names,i,j,h=>by
  rw[fw]at h
  split at h
  ·have:=HV ds _ _ _ h
   rw[uC];omega
  ·cases h;omega
def XA:WH:=XX λvs r=>∃d lim L,vs=[.d d,.d (.int lim),.d (.list (L.map Wg))]/\L.length≤10/\(∀ds,d=.tuple ds->CH ds)/\r=M7 lim L d
theorem Vx:∀vs w k,XA vs w k->vs.length=3:=Y8 (by rintro vs r ⟨_,_,_,rfl,_⟩;rfl)
theorem VC(T:Txt K mg):Dn P w K mg base 2 "_law_first_wrong" YH ["_law_rows","_law_limit","_law_bounds_of"] (V7 K XA):=by
 have D_law_is_name:=TH (P:=P) (w:=w) (base:=base) T
 have D_law_whole:=RW (P:=P) (w:=w) (base:=base) T
 refine Dn.data (k:=1) T.f_law_first_wrong ZU Vx (λa cdv A outer s H E hr=>⟨_,_,IPSs.get (Ze (Yy (IPW.pt (XU (Y5 (Y6 (Zh YZ rfl T.z_isinstance sS (Za (Zf 0) (Za (ZJ (v:=.ty "tuple") rfl T.z_tuple (by decide +kernel) rfl) Zb))))) (Wk (Y5 (VH WE WE Zd (Zh ZY rfl T.z_len sO (Za (Zf 0) Zb)) (Zf 1)))))) (Zn (ZA Y4)) ZP)
  (Ze (Z7 (i:=3) ZU.nd rfl (yQ rfl) (ZH Zb))
  (Ze (Xa sV rfl (Rm true rfl T.z_enumerate (Za (Zf 0) Zb)) (Y_ (n:=2) rfl (Z6 (ZN (i:=4) ZU.nd rfl (yQ rfl)) (Z6 (ZN (i:=5) ZU.nd rfl (yQ rfl)) Yl))) (Ze (Yy (IPW.pt (XU (Y5 (Y6 (Zh YZ rfl T.z_isinstance sS (Za (Zf 5) (Za (ZJ (v:=.ty "tuple") rfl T.z_tuple (by decide +kernel) rfl) Zb))))) (XU (ZW Gn (Zh ZY rfl T.z_len sO (Za (Zf 5) Zb)) (Zu Yr Zd (Zh ZY rfl T.z_len sO (Za (Zf 2) Zb))) (Xl _)) (XU (Y5 (Y6 (Zs D_law_is_name T7 (hr.mono (by decide)) (Za (ZC Xb (Zf 5) Zd (λ_ _=>rfl)) Zb)))) (Wk (ZW (OF hr.units) (ZC Xb (Zf 5) Zd (λ_ _=>rfl)) (Zf 3) rfl)))))) (Zn (ZA (Zf 4))) ZP)
  (Ze (Xa sV rfl (Ph true false rfl T.z_zip (Za (Yi Xf (Zf 5) (Yq Zd) Yp) (Za (Zf 2) Zb))) (Y_ (n:=2) rfl (Z6 (ZN (i:=6) ZU.nd rfl (yQ rfl)) (Z6 (Y_ (n:=2) rfl (Z6 (ZN (i:=7) ZU.nd rfl (yQ rfl)) (Z6 (ZN (i:=8) ZU.nd rfl (yQ rfl)) Yl))) Yl))) (Zn (Yy (IPW.pt (XU (Y5 (Y6 (Zs D_law_whole RF (hr.mono (by decide)) (Za (Zf 6) Zb)))) (Wk (Y5 (VH WE WE (Zf 7) (Zf 6) (Zf 8)))))) (Zn (ZA (Zf 4))) ZP)))
  (Zn (YV (W0 sW sX sY X5 (Zf 3) (Za (ZC Xb (Zf 5) Zd (λ_ _=>rfl)) Zb)))))))
  (Zn (ZA Zr))))),(ZM (by nofun)
  (ZM (VO (Xw true Zk) (Y0 3))
  (ZM (by nofun)
  (by nofun)))),λas o q h=>?_⟩)
 obtain⟨r,⟨d,lim,L,rfl,hL,hd,rfl⟩,hq⟩:=h
 cases d with
 | tuple ds=>
  obtain⟨hl,hd⟩:=hd ds rfl
  simp only[M7]at hq
  simp! only[Xs]
  refine⟨true,λ_=>rfl,?_⟩
  simp!
  by_cases c1:1≤ds.length/\(ds.length:Int)≤lim
  rotate_left
  ·rw[wH c1]at hq
   refine Th (λc2=>?_) (λc2=>?_)
   ·refine Th (λc3=>?_) (λc3=>?_)
    ·simp!;exact⟨_,OW.le.refl _,hq⟩
    ·exfalso
     have:=sR c2
     simp only[tS,sU,Classical.not_not]at c3
     exact c1 ⟨by omega,c3⟩
   ·simp!;exact⟨_,OW.le.refl _,hq⟩
  rw[zJ c1]at hq
  rw[zJ (yO (by omega:(1:Int)≤ds.length)),wH (by simp[c1.2])]
  simp!
  refine⟨by decide,λp hp=>?_⟩
  simp!
  refine⟨λi s=>∃(names:List Str) (o4 o5 o6 o7 o8:Option Val),s=⟨[some (.d (.tuple ds)),some (.d (.int lim)),some (.d (.list (L.map Wg))),some (.own p),o4,o5,o6,o7,o8],o.put p (.lst (names.map .str))⟩/\names.length≤i/\(∀z∈names,UP z)/\fw L names i (ds.drop i)=fw L [] 0 ds,⟨[],_,_,_,_,_,rfl,vU _,(λ_ z=>by cases z),rfl⟩,λ_ _ _=>trivial,?_,?_⟩
  ·rintro i d s hi ⟨names,o4,o5,o6,o7,o8,rfl,hn,hA,hf⟩
   obtain⟨x,hx,rfl⟩:=QR hi
   have hR:=hd x (uW hx)
   have hil:=(vH.mp hx).1
   rw[QO hx]at hf
   have out:Yz L x=false\/UD names (ED x)=true->fw L [] 0 ds=some i:=λz=>by
    rw[<- hf,fw]
    rcases z with z|z
    ·rw[z];rfl
    ·rw[z];simp
   simp!
   cases x with
   | tuple ys=>
    simp! only[Xs]
    refine⟨true,λ_=>rfl,?_⟩
    simp!
    refine Th (λc2=>?_) (λc2=>?_)
    ·simp!
     have e:Yz L (.tuple ys)=false:=by
      cases ys with
      | nil=>rfl
      | cons y r=>
       simp only[tS,sU,uC,Uh]at c2
       simp only[Yz,Bool.and_eq_false_iff,sU]
       exact .inl (by omega)
     rw[out (.inl e)]at hq;exact⟨_,(OW.le.refl o).put hp _,hq⟩
    ·simp only[tS,sU,Classical.not_not,Uh]at c2
     cases ys with
     | nil=>simp only[tY]at c2;omega
     | cons y r=>
      have hl3:r.length=L.length:=by simp only[uC]at c2;omega
      refine⟨y,Yj (j:=0) rfl,_,⟨y,rfl,hR.1,rfl⟩,?_⟩
      cases c3:V5 y
      ·simp!
       have e:Yz L (.tuple (y::r))=false:=by simp[Yz,c3]
       rw[out (.inl e)]at hq;exact⟨_,(OW.le.refl o).put hp _,hq⟩
      ·simp!
       refine⟨_,Yj (j:=0) rfl,?_⟩
       obtain⟨z,rfl⟩:∃z,y=.str z:=by
        cases y with
        | str z=>exact⟨z,rfl⟩
        | _=>cases c3
       have hz:=Rw.asc hR
       have hl2:=Uu names hA
       simp!
       refine⟨⟨rfl,hl2.2,T5 hz,hl2.1,by simp[PyData.depth]⟩,?_⟩
       cases c4:UD names z
       ·have c5:(names.map PyData.str).any (λy=>PyData.eqv y (.str z))=false:=c4
        rw[c5]
        simp!
        have ez:Sy (L2.Xz (.str z::r) (some 1) none) (L.map Wg)=(r.zip L).map λp=>.tuple [p.1,Wg p.2]:=by
         rw[Ll]
         have z:=PY r L id Wg
         rw[List.map_id]at z
         exact z
        rw[ez]
        refine⟨λj s=>∃(o6 o7 o8:Option Val),s=⟨[some (.d (.tuple ds)),some (.d (.int lim)),some (.d (.list (L.map Wg))),some (.own p),some (.d (.int (i:Nat))),some (.d (.tuple (.str z::r))),o6,o7,o8],o.put p (.lst (names.map .str))⟩/\((r.zip L).take j).all (λp=>S5 p.1 p.2.1 p.2.2)=true,⟨_,_,_,rfl,rfl⟩,λ_ _ _=>trivial,?_,?_⟩
        ·rintro j d s hj ⟨o6,o7,o8,rfl,hb⟩
         obtain⟨⟨x,a,b⟩,hx2,rfl⟩:=Uc hj
         have hmem:=uW hx2
         have bad:S5 x a b=false->fw L [] 0 ds=some i:=λe=>out (.inl (by
          have:Rx L r=false:=by
           unfold Rx
           rw[tW]
           intro w
           have:=yY.mp w _ hmem
           rw[e]at this;cases this
          simp[Yz,this]))
         simp! only[Wg]
         refine⟨_,⟨x,rfl,rfl⟩,?_⟩
         have stay:S5 x a b=true->((r.zip L).take (j+1)).all (λp=>S5 p.1 p.2.1 p.2.2)=true:=λe=>by
          rw[List.take_add_one,hx2,List.all_append,hb];simp[e]
         cases x with
         | int n=>
          simp! only[EB]
          cases c6:decide (a≤n)
          ·simp!
           rw[bad (by show(decide _&&decide _)=_;rw[c6];rfl)]at hq;exact⟨_,(OW.le.refl o).put hp _,hq⟩
          ·cases c7:decide (n≤b)
           ·simp!
            rw[bad (by show(decide _&&decide _)=_;rw[c6,c7];rfl)]at hq;exact⟨_,(OW.le.refl o).put hp _,hq⟩
           ·simp!
            exact⟨_,_,_,rfl,stay (by show(decide _&&decide _)=_;rw[c6,c7];rfl)⟩
         | _=>simp! only[EB];rw[bad rfl]at hq;exact⟨_,(OW.le.refl o).put hp _,hq⟩
        ·rintro s ⟨o6,o7,o8,rfl,hb⟩
         rw[Uh,take_length]at hb
         have e:Yz L (.tuple (.str z::r))=true:=by
          simp only[Yz,Rx,c3,hl3,sG,zK];exact hb
         simp!
         refine⟨⟨_,rfl⟩,_,Yj (j:=0) rfl,_,rfl,YY (by simp;omega),names++[z],_,_,_,_,_,by rw[tQ];rfl,by simp;omega,λy hy=>?_,?_⟩
         ·rcases vF.mp hy with hy|hy
          ·exact hA y hy
          ·rw[xN.mp hy];exact hz
         ·rw[<- hf,fw,e,show ED (.tuple (.str z::r))=z from rfl,c4];rfl
       ·have c5:(names.map PyData.str).any (λy=>PyData.eqv y (.str z))=true:=c4
        rw[c5]
        simp!
        rw[out (.inr c4)]at hq;exact⟨_,(OW.le.refl o).put hp _,hq⟩
   | int n=>simp! only[Xs];rw[out (.inl rfl)]at hq;exact⟨false,λ_=>rfl,_,(OW.le.refl o).put hp _,hq⟩
   | bool n=>simp! only[Xs];rw[out (.inl rfl)]at hq;exact⟨false,λ_=>rfl,_,(OW.le.refl o).put hp _,hq⟩
   | none=>simp! only[Xs];rw[out (.inl rfl)]at hq;exact⟨false,λ_=>rfl,_,(OW.le.refl o).put hp _,hq⟩
   | list n=>simp! only[Xs];rw[out (.inl rfl)]at hq;exact⟨false,λ_=>rfl,_,(OW.le.refl o).put hp _,hq⟩
   | str n=>simp! only[Xs];rw[out (.inl rfl)]at hq;exact⟨false,λ_=>rfl,_,(OW.le.refl o).put hp _,hq⟩
   | dict n=>simp! only[Xs];rw[out (.inl rfl)]at hq;exact⟨false,λ_=>rfl,_,(OW.le.refl o).put hp _,hq⟩
  ·rintro s ⟨names,o4,o5,o6,o7,o8,rfl,hn,hA,hf⟩
   simp!
   have e:fw L [] 0 ds=none:=by rw[<- hf,show(Wh ds).length=ds.length by simp[Wh],drop_length];rfl
   rw[e]at hq
   exact⟨_,(OW.le.refl o).put hp _,hq⟩
 | int n=>simp! only[Xs];exact⟨false,λ_=>rfl,_,OW.le.refl _,hq⟩
 | bool n=>simp! only[Xs];exact⟨false,λ_=>rfl,_,OW.le.refl _,hq⟩
 | none=>simp! only[Xs];exact⟨false,λ_=>rfl,_,OW.le.refl _,hq⟩
 | list n=>simp! only[Xs];exact⟨false,λ_=>rfl,_,OW.le.refl _,hq⟩
 | str n=>simp! only[Xs];exact⟨false,λ_=>rfl,_,OW.le.refl _,hq⟩
 | dict n=>simp! only[Xs];exact⟨false,λ_=>rfl,_,OW.le.refl _,hq⟩
end
section
variable {P:Program}{w:World}{K:Frag}{mg:Str->Option Value}{base:Heap}
def Ys(most:Int)(L:List (Int×Int))(d:PyData):Option PyData:=
 match d with
 | .tuple ds=>if 1≤ds.length/\(ds.length:Int)≤most then(match fw L [] 0 ds with|none=>none|some i=>some (.int i)) else some .none
 | _=>some .none
def Wv(d:PyData):Prop:=∀ds,d=.tuple ds->CH ds
def Wa:V8:=λvs w k kx=>∃(z:Str) (d:PyData) (most:Int) (L:List (Int×Int)),vs=[.d (.str z),.d d,.d (.int most),.d (.tuple (L.map Wg))]/\L.length≤10/\Wv d /\
 (match Ys most L d with|none=>k (.d .none) w|some x=>kx (.tuple [.str z,x]) w)
theorem WY:Cn Wa:=λvs w k k' kx kx' h h' ⟨z,d,m,L,h1,h2,h3,h4⟩=>⟨z,d,m,L,h1,h2,h3,by
 split at h4
 ·exact h _ _ h4
 ·exact h' _ _ h4⟩
theorem T_:∀vs w k kx,Wa vs w k kx->vs.length=4:=λvs w k kx ⟨_,_,_,_,h,_⟩=>by rw[h];rfl
theorem S7(T:Txt K mg)(X:Xt K mg):GB P w K mg base 5 "check_part" XG ["part","rows","most","numbers"] (OT K 43 (CQ "part" "place") Wa):=by
 have D_first_wrong:=TF (P:=P) (w:=w) (base:=base) T X
 have D_is_tuple_of:=WO (P:=P) (w:=w) (base:=base) T
 obtain⟨fI,fdI,c,c2,FI⟩:=X.ex.ini
 have F:=Fo (P:=P) (w:=w) (base:=base) T T.z_TypeError (by kernel_rfl) c c2 FI
 have hbI:=FI.binds (ps:=["self","part","place"]) Ia
 refine GB.dataR (k:=4) T.f_check_part V6 T_ (λa cdv A outer s H B E kx hr hE=>⟨_,_,IPSs.get (Ze (Yy (Y5 (Y6 (Zs D_is_tuple_of WL (hr.mono (by decide)) (Za (Zf 1) (Za Zd (Za (Zf 2) Zb)))))) (Zn (UT c F Sq (hr.mono (by decide)) hbI X.n_NoHouse (Za (Zf 0) (Za Y4 Zb)))) ZP)
  (Ze (Z7 (i:=4) V6.nd rfl (yQ rfl) (Zs D_first_wrong T6 (hr.mono (by decide)) (Za (Zf 1) (Za (Zf 3) Zb))))
  (Zn (Yy (ZW IF (Zf 4) Y4 (Xl _)) (Zn (UT c F Sq (hr.mono (by decide)) hbI X.n_NoHouse (Za (Zf 0) (Za (Zf 4) Zb)))) ZP)))),(Vp (Ju (Qt (Ed (X2 To (Zc (Zm 1) (Zc ZZ (Zc (Zm 2) Zk)))))) (Sl hE (Zc (Zm 0) (Zc Qp Zk))) W5.b)
  (Vp (RS.b (by nofun))
  (Ju (W6 (YO Qs (Zm 4) Qp)) (Sl hE (Zc (Zm 0) (Zc (Zm 4) Zk))) W5.b))),λas o q h=>?_⟩)
 obtain⟨z,d,most,L,rfl,hL,hd,hq⟩:=h
 simp! only[Ig]
 refine⟨_,⟨d,_,_,rfl,rfl⟩,?_⟩
 cases c:SS d 1 most
 ·simp! only[Ig]
  have e:Ys most L d=some .none:=by
   cases d with
   | tuple ds=>
    simp only[SS,sU]at c
    simp only[Ys]
    rw[wH λz=>c ⟨by omega,z.2⟩]
   | _=>rfl
  rw[e]at hq
  exact hq
 ·cases d with
  | tuple ds=>
   simp only[SS,xY]at c
   have e:Ys most L (.tuple ds)=(match fw L [] 0 ds with|none=>none|some i=>some (.int i)):=by
    simp only[Ys]
    rw[zJ ⟨by omega,c.2⟩]
   rw[e]at hq
   simp!
   refine⟨_,⟨ds,L,rfl,hL,hd ds rfl,rfl⟩,?_⟩
   simp!
   cases c2:fw L [] 0 ds with
   | none=>
    rw[c2]at hq
    simp! only[CS]
    exact⟨_,OW.le.refl _,hq⟩
   | some i=>
    rw[c2]at hq
    simp! only[CS,Ig]
    exact hq
  | _=>cases c
def TJ:V8:=λvs w k kx=>∃(a:Addr) (d d':PyData),vs=[.own a,.d d,.d d']/\w a=some (Pk 429 [])/\Wv d/\Wv d' /\
 (match Ys 3 [(1,4),(0,999),(1,99),(0,9)] d with
  | some x=>kx (.tuple [.str "kinds",x]) w
  | none=>match Ys 6 [(0,99)] d' with
   | some x=>kx (.tuple [.str "bidders",x]) w
   | none=>k (.d .none) (w.put a (Pk 429 [("kind_rows",d),("bidder_rows",d')])))
theorem M9:Cn TJ:=λvs w k k' kx kx' h h' ⟨a,d,d',h1,h2,h3,h4,h5⟩=>⟨a,d,d',h1,h2,h3,h4,by
 split at h5
 ·exact h' _ _ h5
 ·split at h5
  ·exact h' _ _ h5
  ·exact h _ _ h5⟩
theorem M6:∀vs w k kx,TJ vs w k kx->vs.length=3:=λvs w k kx ⟨_,_,_,h,_⟩=>by rw[h];rfl
theorem Mm(T:Txt K mg)(X:Xt K mg):EJ P w K mg base 6 429 "House" "House.__init__" UK ["self","kinds","bidders"] (OT K 43 (CQ "part" "place") TJ):=by
 have D_check_part:=S7 (P:=P) (w:=w) (base:=base) T X
 obtain⟨fI,fdI,FI,MI⟩:=X.hs.ini
 obtain⟨ak,hk1,hk2⟩:=X.c_KIND
 obtain⟨ab,hb1,hb2⟩:=X.c_BIDDER
 have n1:=X.hs.att "kind_rows" (by decide)
 have n2:=X.hs.att "bidder_rows" (by decide)
 refine EJ.dataR (k:=5) ⟨fI,fdI,FI,MI,X.n_House⟩ Jy M6 (λa cdv A outer s H B E kx hr hE=>⟨_,_,IPSs.get
  (Ze (YV (Rl D_check_part Gp V2 (hr.mono (by decide)) (Za Zr (Za (Zf 1) (Za (ZK rfl T.c_MOST_KINDS) (Za (ZK (v:=.ref ak) rfl ⟨_,hk1,rfl⟩) Zb))))))
  (Ze (YV (Rl D_check_part Gp V2 (hr.mono (by decide)) (Za Zr (Za (Zf 2) (Za (ZK rfl T.c_MOST_BIDDERS) (Za (ZK (v:=.ref ab) rfl ⟨_,hb1,rfl⟩) Zb))))))
  (Ze (Pj (Zf 0) (Zf 1)) (Ze (Pj (Zf 0) (Zf 2)) ZP)))),
  (Vp (Sk hE WY (Zc Z_ (Zc (Zm 1) (Zc ZZ (Zc (Gy hk2) Zk)))))
  (Vp (Sk hE WY (Zc Z_ (Zc (Zm 2) (Zc ZZ (Zc (Gy hb2) Zk)))))
  (Vp (RS.b (NP X.hs.cls n1 (Zm 0) (Zm 1))) (Vp (RS.b (NP X.hs.cls n2 (Zm 0) (Zm 2))) W5.b)))),λas o q h=>?_⟩)
 obtain⟨p,d,d',rfl,hw,hd,hd',hq⟩:=h
 simp! only[Ot,QJ]
 refine⟨"kinds",d,3,[(1,4),(0,999),(1,99),(0,9)],rfl,by decide,hd,?_⟩
 cases c:Ys 3 [(1,4),(0,999),(1,99),(0,9)] d with
 | some x=>rw[c]at hq;exact hq
 | none=>
  rw[c]at hq
  simp! only[Ot,QJ]
  refine⟨"bidders",d',6,[(0,99)],rfl,by decide,hd',?_⟩
  cases c2:Ys 6 [(0,99)] d' with
  | some x=>rw[c2]at hq;exact hq
  | none=>
   rw[c2]at hq
   simp! only[QJ]
   refine⟨[],hw,by decide,?_⟩
   simp! only[QJ]
   refine⟨_,rfl,by show(1:Nat)<1000;decide,?_⟩
   simp!
   exact⟨_,OW.le.refl _,hq⟩
theorem Pu(d:PyData)(lim:Int)(L:List (Int×Int)):M7 lim L d=(match Ys lim L d with|none=>.str "none" | some x=>x):=by
 cases d with
 | tuple ds=>
  simp only[Ys,M7]
  split
  ·cases fw L [] 0 ds<;>rfl
  ·rfl
 | _=>rfl
theorem Vm{d x:PyData}{lim:Int}{L:List (Int×Int)}(hd:Wv d)(h:Ys lim L d=some x):x=.none\/∃i:Nat,x=.int i/\i≤64:=by
 cases d with
 | tuple ds=>
  simp only[Ys]at h
  split at h
  ·split at h
   ·cases h
   ·next i c=>
    cases h
    have:=HV ds _ _ _ c
    have:=(hd ds rfl).1
    exact .inr ⟨i,rfl,by omega⟩
  ·cases h;exact .inl rfl
 | _=>cases h;exact .inl rfl
theorem Nx{x:PyData}(h:x=.none\/∃i:Nat,x=.int i/\i≤64):(x.hasDict=false/\(PyData.str "none").hasDict=false/\SeqAt.shaped x=true/\SeqAt.shaped (PyData.str "none")=true)/\x.eqv (.str "none")=false:=by
 rcases h with rfl|⟨i,rfl,_⟩
 ·exact⟨⟨rfl,rfl,rfl,by decide +kernel⟩,rfl⟩
 ·exact⟨⟨rfl,rfl,rfl,by decide +kernel⟩,rfl⟩
theorem Tt:((PyData.str "none").hasDict=false/\(PyData.str "none").hasDict=false/\SeqAt.shaped (PyData.str "none")=true/\SeqAt.shaped (PyData.str "none")=true)/\(PyData.str "none").eqv (.str "none")=true:=by
 refine⟨⟨rfl,rfl,by decide +kernel,by decide +kernel⟩,?_⟩
 decide +kernel
def O1(d d':PyData):PyData:=
 match Ys 3 [(1,4),(0,999),(1,99),(0,9)] d with
 | some x=>.tuple [.str "kinds",x]
 | none=>match Ys 6 [(0,99)] d' with
  | some x=>.tuple [.str "bidders",x]
  | none=>.none
def TM:WH:=XX λvs r=>∃d d',vs=[.d d,.d d']/\Wv d/\Wv d'/\r=O1 d d'
theorem Pp:∀vs w k,TM vs w k->vs.length=2:=Y8 (by rintro vs r ⟨_,_,rfl,_⟩;rfl)
theorem Ox(T:Txt K mg):Dn P w K mg base 3 "_law_due" Up ["_law_several","_law_bidders"] (V7 K TM):=by
 have D_law_first_wrong:=VC (P:=P) (w:=w) (base:=base) T
 refine Dn.data (k:=2) T.f_law_due VP Pp (λa cdv A outer s H E hr=>⟨_,_,IPSs.get (Ze (Z7 (i:=2) VP.nd rfl (yQ rfl) (Zs D_law_first_wrong X8 (hr.mono (by decide)) (Za (Zf 0) (Za Zd (Za (ZH (Za (Zl (Za Zd (Za Zd Zb))) (Za (Zl (Za Zd (Za Zd Zb))) (Za (Zl (Za Zd (Za Zd Zb))) (Za (Zl (Za Zd (Za Zd Zb))) Zb))))) Zb)))))
  (Ze (Yy (ZW (OG hr.units) (Zf 2) Zr (Xl _)) (Zn (ZA (Zl (Za Zr (Za (Zf 2) Zb))))) ZP)
  (Ze (Z7 (i:=2) VP.nd rfl (yQ rfl) (Zs D_law_first_wrong X8 (hr.mono (by decide)) (Za (Zf 1) (Za Zd (Za (ZH (Za (Zl (Za Zd (Za Zd Zb))) Zb)) Zb)))))
  (Zn (ZA (VG (ZW (OG hr.units) (Zf 2) Zr (Xl _)) (Zl (Za Zr (Za (Zf 2) Zb))) Y4)))))),(by nofun),λas o q h=>?_⟩)
 obtain⟨r,⟨d,d',rfl,hd,hd',rfl⟩,hq⟩:=h
 simp!
 iterate 4 refine xC (by decide) ?_
 refine xC (by decide) ?_
 refine⟨_,⟨d,3,[(1,4),(0,999),(1,99),(0,9)],rfl,by decide,hd,rfl⟩,?_⟩
 show WV _ _ ⟨[_,_,some (.d (M7 3 [(1,4),(0,999),(1,99),(0,9)] d))],_⟩
 rw[Pu]
 unfold O1 at hq
 cases c:Ys 3 [(1,4),(0,999),(1,99),(0,9)] d with
 | some x=>
  rw[c]at hq
  simp only at hq
  obtain⟨e1,e2⟩:=Nx (Vm hd c)
  simp!
  refine⟨e1,?_⟩
  rw[e2]
  simp!
  exact⟨by decide,_,OW.le.refl _,hq⟩
 | none=>
  rw[c]at hq
  simp only at hq
  simp!
  refine⟨Tt.1,?_⟩
  rw[Tt.2]
  simp!
  refine xC (by decide) (xC (by decide) ?_)
  refine⟨_,⟨d',6,[(0,99)],rfl,by decide,hd',rfl⟩,?_⟩
  show WV _ _ ⟨[_,_,some (.d (M7 6 [(0,99)] d'))],_⟩
  rw[Pu]
  cases c2:Ys 6 [(0,99)] d' with
  | some x=>
   rw[c2]at hq
   simp only at hq
   obtain⟨e1,e2⟩:=Nx (Vm hd' c2)
   simp!
   refine⟨e1,?_⟩
   rw[e2]
   simp!
   exact⟨by decide,_,OW.le.refl _,hq⟩
  | none=>
   rw[c2]at hq
   simp only at hq
   simp!
   refine⟨Tt.1,?_⟩
   rw[Tt.2]
   simp!
   exact⟨_,OW.le.refl _,hq⟩
def Sv(d d':PyData):PyData:=
 match Ys 3 [(1,4),(0,999),(1,99),(0,9)] d with
 | some x=>.tuple [.str "NoHouse",.tuple [.str "kinds",x]]
 | none=>match Ys 6 [(0,99)] d' with
  | some x=>.tuple [.str "NoHouse",.tuple [.str "bidders",x]]
  | none=>.tuple [.str "none",.none]
def Xk:WH:=XX λvs r=>∃d d',vs=[.d d,.d d']/\Wv d/\Wv d'/\r=Sv d d'
theorem Ui:MZ Xk:=Uj
theorem Ug:∀vs w k,Xk vs w k->vs.length=2:=Y8 (by rintro vs r ⟨_,_,rfl,_⟩;rfl)
theorem U7(T:Txt K mg)(X:Xt K mg):Dn P w K mg base 8 "_law_told_part" YJ ["_law_several","_law_bidders"] (V7 K Xk):=by
 have D_law_which:=RV (P:=P) (w:=w) (base:=base) T X
 obtain⟨fI,fdI,c,c2,FI⟩:=X.ex.ini
 have D_House:=Mm (P:=P) (w:=w) (base:=base) T X
 refine Dn.data (k:=7) T.f_law_told_part Wt Ug (λa cdv A outer s H E hr=>?_)
 have hrH:∀e,YX 7 ((A.deeper (envOfC "_law_told_part" (Zg YJ) s.heap.objs.size a cdv)).mark (some (.ref e))):=λe=>⟨rfl,hr.dp,hr.un,hr.gd⟩
 refine⟨_,_,IPSs.get (Ze (Qf (j:=2) c X.n_NoHouse D_House (λ_ _ F=>F.binds Lf) (hr.mono (by decide)) (Za (Zf 0) (Za (Zf 1) Zb)) (λe d=>(Zn (ZA (Zl (Za (Mx D_law_which RD ((hrH e).mono (by decide)) (Za (Zf 2) Zb)) (Za (Zl (Za (TV X.ex.cls.toExGet X.ex.cls.hd X.ex.fld1 (Zf 2)) (Za (TV X.ex.cls.toExGet X.ex.cls.hd X.ex.fld2 (Zf 2)) Zb))) Zb)))))) Wt.nd)
  (Zn (ZA (Zl (Za Zr (Za Y4 Zb)))))),(ZM (Hj M9 (Zc (Zm 0) (Zc (Zm 1) Zk)) (λe d=>(UJ (Yu (Zc (Jf rfl SM (Zc (Zm 2) Zk)) (Zc (Yu (Zc (Jg (Zm 2)) (Zc (Jg (Zm 2)) Zk))) Zk))))))
  (by nofun)),λas o q h=>?_⟩
 obtain⟨r,⟨d,d',rfl,hd,hd',rfl⟩,hq⟩:=h
 simp! only[HS]
 intro p hp
 unfold Sv at hq
 refine⟨p,d,d',rfl,OW.put_same,hd,hd',?_⟩
 cases c:Ys 3 [(1,4),(0,999),(1,99),(0,9)] d with
 | some x=>
  rw[c]at hq
  simp only at hq
  intro e d
  simp! only[Oq,GS,RH]
  refine⟨⟨43,_,_,uW (i:=2) rfl⟩,_,⟨e,_,_,rfl,rfl⟩,?_⟩
  refine⟨.str "kinds",rfl,x,rfl,by decide,?_⟩
  simp!
  exact⟨by decide,_,(OW.le.refl o).put hp _,hq⟩
 | none=>
  rw[c]at hq
  simp only at hq
  cases c2:Ys 6 [(0,99)] d' with
  | some x=>
   rw[c2]at hq
   simp only at hq
   intro e d
   simp! only[Oq,GS,RH]
   refine⟨⟨43,_,_,uW (i:=2) rfl⟩,_,⟨e,_,_,rfl,rfl⟩,?_⟩
   refine⟨.str "bidders",rfl,x,rfl,by decide,?_⟩
   simp!
   exact⟨by decide,_,(OW.le.refl o).put hp _,hq⟩
  | none=>
   rw[c2]at hq
   simp only at hq
   refine⟨rfl,?_⟩
   simp!
   exact⟨by decide,_,(OW.le.refl o).put hp _,hq⟩
end
section
variable {P:Program}{w:World}{K:Frag}{mg:Str->Option Value}{base:Heap}
theorem Vs{c:Nat}{P:List Val->Prop}{R:List Val->PyData->Prop}{vs:List Val}{w:OW}{k:Val->OW->Prop}(h:UM c P R vs w k):∃u as m,vs=.own u::as/\w=w.put u (.urn m)/\m+c≤1000000/\P as/\∀r m',R as r->m'≤m+c->∃w',w'.le (w.put u (.urn m'))/\k (.d r) w':=by
 unfold UM at h
 split at h
 ·next u as=>
  obtain⟨m,hm,⟨h1,h2⟩,h3⟩:=h
  exact⟨u,as,m,rfl,(FX hm).symm,h1,h2,λr m' hr hm'=>⟨_,OW.le.urn' (OW.le.refl w) hm',h3 r hr⟩⟩
 ·exact h.elim
theorem Yt{w:OW}{p u:Addr}{x y:Own}(h:p≠u):(w.put u x).put p y=(w.put p y).put u x:=by
 funext b;unfold OW.put
 by_cases e1:b=p
 ·have:¬b=u:=by rw[e1];exact h
  simp[e1,h]
 ·simp[e1]
theorem MU{α β:Type}{xs:List α}{ys:List β}(hl:ys.length=xs.length){P:α->β->Prop}(h:∀p∈xs.zip ys,P p.1 p.2):∀y∈ys,∃x∈xs,P x y:=λy hy=>by
 obtain⟨j,hj,rfl⟩:=List.getElem_of_mem hy
 exact⟨xs[j]'(by omega),xP _,h (xs[j]'(by omega),ys[j]) (List.mem_iff_getElem.mpr ⟨j,by rw[length_zip];omega,by simp⟩)⟩
def CA:PyData->Bool
 | .str z=>z.cps.all (· < 128)&&decide (z.length≤64)
 | _=>true
def C7:PyData->Bool
 | .tuple (x::r)=>CA x&&decide (r.length≤63)
 | _=>true
def Bc:PyData->Bool
 | .tuple ds=>decide (ds.length≤64)&&ds.all C7
 | _=>true
theorem JG{d:PyData}(h:CA d=true):Tx d:=by
 cases d with
 | str z=>simp only[CA,yG,xY]at h;exact h
 | _=>exact trivial
theorem Jx{d:PyData}(h:C7 d=true):Rw d:=by
 cases d with
 | tuple ds=>
  cases ds with
  | nil=>exact trivial
  | cons x r=>simp only[C7,yG,xY]at h;exact⟨JG h.1,h.2⟩
 | _=>exact trivial
theorem Sf{d:PyData}(h:Bc d=true):Wv d:=by
 rintro ds rfl
 simp only[Bc,yG,xY,yY]at h
 exact⟨h.1,λx hx=>Jx (h.2 x hx)⟩
theorem GK{α:Type}{p:α->Bool}{P:α->Prop}{l:List α}(h:l.all p=true)(q:∀x,p x=true->P x):∀x∈l,P x:=λx hx=>q x (yY.mp h x hx)
def VE:WH:=UM 1 (λas=>as=[]) (λ_ r=>Wv r)
theorem P0:MZ VE:=P1
theorem Pq:∀vs w k,VE vs w k->vs.length=1:=Vr (n:=0) (by rintro vs rfl;rfl)
theorem Oy(T:Txt K mg):Dn P w K mg base 2 "_law_odd" Uq ["_law_urn_here"] (V7 K VE):=by
 have D_law_draw:=YU (P:=P) (w:=w) (base:=base) T
 refine Dn.dataI (k:=1) T.f_law_odd Sn Pq (λa cdv A outer s H E hr=>⟨_,_,  (Ze (Z7 (i:=1) Sn.nd rfl (yQ rfl) (ZH (Zj Y4 (Zj (X1) (Zj (X1) (Zj Zr (Zj Zr (Zj Zr (Zj (Zl Zb) (Zj (ZH Zb) (Zj (Zl (Za (ZH Zb) Zb)) (Zj (ZH (Za Zd Zb)) (Zj (Zl (Za (X1) Zb)) (Zj (Zl (Za Zd (Za (X1) (Za Zd Zb)))) (Zj (Zl (Za (N4 JM Zd) Zb)) (Zj (Zl (Za Zr Zb)) (Zj (Zl (Za (Zl Zb) Zb)) (Zj (Zl (Za (Zl (Za Zd Zb)) (Za (Zl (Za Zd Zb)) Zb))) (Zj (Zl (Za Y4 Zb)) (Zj Zr (Zj (Zl (Za Zd (Za Zr Zb))) (Zj (ZH (Za (Zl (Za Zd (Za Zd Zb))) Zb)) Zb))))))))))))))))))))))
  (Zn (ZA (ZC Yb (Zf 1) (Zs D_law_draw Z9 (hr.mono (by decide)) (Za (Zf 0) (Za Zd Zb))) (λ_ _=>rfl))))),(by nofun),λas o q h=>?_⟩)
 obtain⟨u,as,m,rfl,hw,hm,rfl,hq⟩:=Vs h
 rw[hw]
 simp!
 have z:∀n,n≤20->n≤sizeLine:=λn h=>wZ h (by decide)
 iterate 19 refine xC (z _ (by decide)) ?_
 have hS:∀x∈[PyData.none,.bool true,.bool false,.str "",.str "A",.str "ab1",.tuple [],.list [],.tuple [.list []],.list [.int 0],.tuple [.bool true],.tuple [.int 0,.bool true,.int 0],.tuple [.int (-1)],.tuple [.str "a"],.tuple [.tuple []],.tuple [.tuple [.int 0],.tuple [.int 1]],.tuple [.none],.str "0",.tuple [.int 0,.str "1"],.list [.tuple [.int 0,.int 1]]],Wv x:=GK (p:=Bc) (by decide +kernel) λ_=>Sf
 generalize hL:[PyData.none,.bool true,.bool false,.str "",.str "A",.str "ab1",.tuple [],.list [],.tuple [.list []],.list [.int 0],.tuple [.bool true],.tuple [.int 0,.bool true,.int 0],.tuple [.int (-1)],.tuple [.str "a"],.tuple [.tuple []],.tuple [.tuple [.int 0],.tuple [.int 1]],.tuple [.none],.str "0",.tuple [.int 0,.str "1"],.list [.tuple [.int 0,.int 1]]]=L at *
 have hl:L.length=20:=by rw[<- hL];rfl
 simp!
 refine YQ (by omega) (by decide) (by decide) λd h0 h3=>?_
 obtain⟨x,hx,ex⟩:=U0 (xs:=L) h0 (by rw[hl];exact h3)
 refine⟨_,ex,?_⟩
 exact hq _ _ (hS x hx) (by omega)
def Nm(z:Str):Prop:=UP z/\z.length≤8
def Uv:List Str->Nat
 | []=>0
 | z::r=>z.length+Uv r
theorem Rq(sep:Str):∀(r:List Str) (acc:Array Nat),(∀z∈r,UP z)->acc.all (· < 128)=true->sep=⟨#[]⟩->(r.foldl (λacc p=>acc++sep.cps++p.cps) acc).all (· < 128)=true/\(r.foldl (λacc p=>acc++sep.cps++p.cps) acc).size=acc.size+Uv r
 | [],acc,_,ha,_=>⟨ha,rfl⟩
 | z::r,acc,hr,ha,hs=>by
  have hz:UP z:=hr z (vB ..)
  obtain⟨h1,h2⟩:=Rq sep r (acc++sep.cps++z.cps) (λy hy=>hr y (vC _ hy)) (by subst hs;rw[sZ,sZ,ha,hz];simp) hs
  refine⟨h1,?_⟩
  rw[yL,h2,Uv]
  subst hs
  simp only[zZ]
  show acc.size+0+z.cps.size+Uv r=acc.size+(z.cps.size+Uv r)
  omega
theorem Kw{ts:List Str}(h:∀z∈ts,UP z):UP (PySem.Txt.join (Str.ofString "") ts)/\(PySem.Txt.join (Str.ofString "") ts).length=Uv ts:=by
 cases ts with
 | nil=>exact⟨by unfold UP;decide +kernel,by decide +kernel⟩
 | cons z r=>
  have hz:UP z:=h z (vB ..)
  obtain⟨h1,h2⟩:=Rq (Str.ofString "") r z.cps (λy hy=>h y (vC _ hy)) hz rfl
  exact⟨h1,h2⟩
theorem Iv{ts:List Str}(h:Uv ts≤1000):JoinOk (Str.ofString "") ts=true:=by
 unfold JoinOk
 have key:∀(l:List Str) (n:Nat),l.foldl (λa z=>a+z.length+(Str.ofString "").length) n=n+Uv l:=by
  intro l
  induction l with
  | nil=>intro n;rfl
  | cons z r ih=>
   intro n
   rw[yL,ih,Uv]
   show n+z.length+0+Uv r=_
   omega
 rw[<- Array.foldl_toList,List.toList_toArray,key]
 have:¬(0+Uv ts > sizeLine):=by rw[vZ];omega
 show(!decide (0+Uv ts > sizeLine))=true
 rw[wV this];rfl
def EM(z:Str):Prop:=UP z/\z.length=1
theorem NV:∀{ts:List Str},(∀z∈ts,EM z)->Uv ts=ts.length
 | [],_=>rfl
 | z::r,h=>by
  rw[Uv,(h z (vB ..)).2,NV λy hy=>h y (vC _ hy),uC];omega
theorem K1{i:Int}(h0:0≤i)(h1:i<26):∃c,atI Y7.cps.toList i=some c/\EM (MO c):=by
 have hl:Y7.cps.toList.length=26:=by decide +kernel
 obtain⟨n,rfl⟩:=sT h0
 have h2:n<Y7.cps.toList.length:=by omega
 refine⟨Y7.cps.toList[n],Yj (JP h2),?_,rfl⟩
 have ha:Y7.cps.toList.all (· < 128)=true:=by decide +kernel
 have:=yY.mp ha _ (xP h2)
 unfold UP MO
 rw[<- rA]
 simpa using this
def US:WH:=UM 10 (λas=>as=[]) (λ_ r=>∃z,r=.str z/\Nm z)
theorem Qj:∀vs w k,US vs w k->vs.length=1:=Vr (n:=0) (by rintro vs rfl;rfl)
theorem QN(T:Txt K mg):Dn P w K mg base 2 "_law_name" Vb ["_law_urn_here"] (V7 K US):=by
 have D_law_draw:=YU (P:=P) (w:=w) (base:=base) T
 refine Dn.data (k:=1) T.f_law_name Vd Qj (λa cdv A outer s H E hr=>⟨_,_,IPSs.get (Ze (WU (Zl (Za Zr (Za (Zu Yr Zd (Zs D_law_draw Z9 (hr.mono (by decide)) (Za (Zf 0) (Za (ZC Yb (ZH (Za Zd (Za Zd (Za Zd Zb)))) (Zs D_law_draw Z9 (hr.mono (by decide)) (Za (Zf 0) (Za Zd Zb))) (λ_ _=>rfl)) Zb)))) Zb))) (Y_ (n:=2) rfl (Z6 (ZN (i:=1) Vd.nd rfl (yR rfl)) (Z6 (ZN (i:=2) Vd.nd rfl (yQ rfl)) Yl))))
  (Zn (ZA (W0 PySem.F.plainAttrs_str PySem.F.slot_str_join PySem.F.type_str_join IB Zr (Za (by refine' Vh (Nc:=["_law_k","_law_letters","_law_urn_here"]) (cap:=[none,some 1,some 0]) rfl ?i ?k ?g ?t ?e;(case k=>kernel_rfl);(case i=>exact(XT rfl T.z_range (Za (Zf 2) Zb)));(case g=>exact(λ_ _ _ _ _=>(Wj 0 (by show List.Nodup (["_law_k","_law_letters","_law_urn_here"]:List Str);decide +kernel))));(case t=>exact(λ_ _ _ _ _=>Vj));(case e=>exact(λ_ _ _ _ _=>(ZC Kv (N5 1) (Zs D_law_draw Z9 (hr.mono (by decide)) (Za (N5 2) (Za Zd Zb)) (hg:=Qc)) (λ_ _=>rfl))))) Zb))))),(ZM (NR (Zc Z_ (Zc (YO Rz ZZ (X2 Xd (Zc (Zm 0) (Zc (YO Qr (Xw false (Zc ZZ (Zc ZZ (Zc ZZ Zk)))) (X2 Xd (Zc (Zm 0) (Zc ZZ Zk)))) Zk)))) Zk)))
  (UJ (Hd Z_ (Zc (Tu false (Vn (Zc (Zm 2) Zk)) (Y0 0) Qu (Tv (YO Jo (Zm 1) (X2 Xd (Zc (Zm 2) (Zc ZZ Zk)))))) Zk)))),λas o q h=>?_⟩)
 obtain⟨u,as,m,rfl,hw,hm,rfl,hq⟩:=Vs h
 rw[hw]
 simp!
 refine xC (by decide) ?_
 refine YQ (by omega) (by decide) (by decide) λd h0 h3=>?_
 obtain⟨n,hn,n0,n1⟩:∃n:Int,atI [PyData.int 1,.int 3,.int 8] d=some (.int n)/\1≤n/\n≤8:=by
  rcases(by omega:d=0\/d=1\/d=2) with rfl|rfl|rfl
  ·exact⟨1,rfl,by decide,by decide⟩
  ·exact⟨3,rfl,by decide,by decide⟩
  ·exact⟨8,rfl,by decide,by decide⟩
 simp!
 refine⟨_,hn,?_⟩
 refine YQ (by omega) (by omega) (by omega) λe g0 g1=>?_
 simp! only[HM]
 refine⟨⟨by omega,by omega⟩,?_⟩
 unfold Si
 refine K2 (List.range (1+e).toNat) (λ(i:Nat)=>.int (0+(i:Int))) (λz:Str=>.str z) (λ_ z=>EM z) 1 rfl (λ_=>trivial) (YY (by rw[rB];omega)) ?_ ?_
 ·intro i hi m1 hm1 Q hQ
  simp!
  rw[rB]at hm1
  refine YQ (by omega) (by decide) (by decide) λx hx0 hx4=>?_
  obtain⟨c,hc,h1⟩:=K1 hx0 hx4
  simp! only[LY]
  refine⟨by decide +kernel,c,hc,?_⟩
  exact hQ _ _ h1 (vU _)
 ·intro ys m1 hl hP hm1
  have h1:∀z∈ys,EM z:=λz hz=>(MU (P:=λ_ z=>EM z) hl hP z hz).choose_spec.2
  have hs:=NV h1
  rw[rB]at hl hm1
  simp!
  have hj:=Kw (ts:=ys) λz hz=>(h1 z hz).1
  refine⟨ys,rfl,Iv (by omega),?_⟩
  exact hq _ _ ⟨_,rfl,hj.1,by rw[hj.2,hs];omega⟩ (by omega)
end
section
variable {P:Program}{w:World}{K:Frag}{mg:Str->Option Value}{base:Heap}
def Cp(n:Nat)(ns:List Str):Prop:=ns.length=n/\∀z∈ns,UP z/\z.length≤9
theorem Rh:∀ns:List Str,PyData.depthAll (ns.map PyData.str)=0
 | []=>rfl
 | z::r=>by rw[uE,PyData.depthAll,Rh r];simp[PyData.depth]
theorem Iz{ns:List Str}(h:∀z∈ns,UP z)(hl:ns.length≤1000):(PyData.list (ns.map PyData.str)).hasDict=false/\SeqAt.shaped (.list (ns.map PyData.str))=true:=by
 obtain⟨h1,h2⟩:=Uu ns h
 refine⟨by simpa[PyData.hasDict]using h2,?_⟩
 simp only[SeqAt.shaped,PyData.canLay0,PyData.depth,Rh,yG]
 exact⟨h1,by decide⟩
theorem Dt{ns:List Str}{z:Str}(h:UD ns z=true):z∈ns:=by
 unfold UD at h
 rw[List.any_map]at h
 obtain⟨y,hy,e⟩:=List.any_eq_true.mp h
 have e':(y == z)=true:=e
 rw[<- (uD.mp e')];exact hy
theorem NU{α:Type}[DecidableEq α]:∀{xs ys:List α},xs.Nodup->(∀x∈xs,x∈ys)->xs.length≤ys.length
 | [],_,_,_=>uH _
 | x::xs,ys,hn,hs=>by
  obtain⟨h1,h2⟩:=uO.mp hn
  have hx:x∈ys:=hs x (vB ..)
  have:=NU (ys:=ys.erase x) h2 λy hy=>(List.mem_erase_of_ne λe=>h1 (by rw[<- e];exact hy)).mpr (hs y (vC _ hy))
  rw[List.length_erase_of_mem hx]at this
  have:=List.length_pos_of_mem hx
  rw[uC];omega
def XM:List Str:=["qa","qb","qc","qd","qe","qf","qg"]
theorem Us:XM.Nodup/\∀z∈XM,UP z/\z.length≤9:=by
 refine⟨by decide +kernel,λz hz=>?_⟩
 have h:XM.all (λz=>z.cps.all (· < 128)&&decide (z.length≤9))=true:=by decide +kernel
 have:=yY.mp h z hz
 simp only[yG,xY]at this
 exact this
theorem F4{ns:List Str}(h:ns.length≤6):∃z r,XM.filter (λz=>!(UD ns z))=z::r/\z∈XM:=by
 cases e:XM.filter (λz=>!(UD ns z)) with
 | nil=>
  have:∀z∈XM,z∈ns:=λz hz=>by
   have:=List.filter_eq_nil_iff.mp e z hz
   exact Dt (by simpa using this)
  have:=NU Us.1 this
  have:XM.length=7:=rfl
  omega
 | cons z r=>exact⟨z,r,rfl,(mem_filter.mp (by rw[e];exact vB ..)).1⟩
def Wy:WH:=UM 72 (λas=>∃n:Nat,as=[.d (.int n)]/\n≤6) (λas r=>∃(n:Nat) (ns:List Str),as=[.d (.int n)]/\r=.list (ns.map .str)/\Cp n ns)
theorem SA:∀vs w k,Wy vs w k->vs.length=2:=Vr (n:=1) (by rintro vs ⟨n,rfl,_⟩;rfl)
theorem RQ(T:Txt K mg):Dn P w K mg base 3 "_law_names" Wn ["_law_urn_here","_law_many"] (V7 K Wy):=by
 have D_law_draw:=YU (P:=P) (w:=w) (base:=base) T
 have D_law_name:=QN (P:=P) (w:=w) (base:=base) T
 refine Dn.dataI (k:=2) T.f_law_names Y1 SA (λa cdv A outer s H E hr=>⟨_,_,  (Ze (WU (Zl (Za (ZH Zb) (Za (ZH (Za Zr (Za Zr (Za Zr (Za Zr (Za Zr (Za Zr (Za Zr Zb)))))))) Zb))) (Y_ (n:=2) rfl (Z6 (ZN (i:=2) Y1.nd rfl (yR rfl)) (Z6 (ZN (i:=3) Y1.nd rfl (yQ rfl)) Yl))))
  (Ze (Xa sV rfl (XT rfl T.z_range (Za (Zf 1) Zb)) (ZN (i:=4) Y1.nd rfl (yQ rfl)) (Ze (Z7 (i:=5) Y1.nd rfl (yQ rfl) (Zs D_law_name QD (hr.mono (by decide)) (Za (Zf 0) Zb)))
  (Ze (Yy (IPW.pt (TX (ZW (OG hr.units) (Zf 2) (ZH Zb) (Xl _)) (UC (ZW Gk (Zs D_law_draw Z9 (hr.mono (by decide)) (Za (Zf 0) (Za Zd Zb))) Zd (Xl _))))) (Zn (Z7 (i:=5) Y1.nd rfl (yQ rfl) (Zu OE (Yi Eh (ZC Yb (Zf 2) Zd (λ_ _=>rfl)) Yp (Yq Zd)) (ZC Kv Zr (Zs D_law_draw Z9 (hr.mono (by decide)) (Za (Zf 0) (Za Zd Zb))) (λ_ _=>rfl))))) ZP)
  (Ze (by refine' W2 (i:=6) Y1.nd rfl (yQ rfl) (Nc:=["_law_one","_law_found"]) (cap:=[none,some 2]) rfl ?i ?k ?g ?t ?e;(case k=>kernel_rfl);(case i=>exact(X4 (Zf 3)));(case g=>exact(λ_ _ _ _ _=>(Wj 0 (by show List.Nodup (["_law_one","_law_found"]:List Str);decide +kernel))));(case t=>exact(λ_ _ _ _ _=>(UB (ZW (OH (K:=K) rfl hr.units) (WD 0) (N5 1) rfl))));(case e=>exact(λ_ _ _ _ _=>(WD 0))))
  (Zn (YV (W0 sW sX sY X5 (Zf 2) (Za (VG (ZW (OF hr.units) (Zf 5) (Zf 2) rfl) (ZC Yb (Zf 6) Zd (λ_ _=>rfl)) (Zf 5)) Zb))))))))
  (Zn (ZA (Zf 2))))),(ZM (NR (Zc (Xw true Zk) (Zc (Xw false (Zc Z_ (Zc Z_ (Zc Z_ (Zc Z_ (Zc Z_ (Zc Z_ (Zc Z_ Zk)))))))) Zk)))
  (ZM (Sj (Vn (Zc (Zm 1) Zk)) (Y0 4) (ZM (by nofun)
  (ZM (NQ (Jw (W6 (YO OP (Zm 2) (Xw false Zk))) (W6 (YO Jk (X2 Xd (Zc (Zm 0) (Zc ZZ Zk))) ZZ))) (VO (YO Hg (UY DR (YO Qr (Zm 2) ZZ) W7 (W8 ZZ)) (YO Jo Z_ (X2 Xd (Zc (Zm 0) (Zc ZZ Zk))))) (Y0 5)) W5)
  (ZM (by nofun)
  (by nofun)))))
  (UJ (Eb 2)))),λas o q h=>?_⟩)
 obtain⟨u,as,m,rfl,hw,hm,⟨n,rfl,hn⟩,hq⟩:=Vs h
 rw[hw]
 simp!
 refine⟨by decide,λp hp=>⟨by decide,?_⟩⟩
 have hpu:p≠u:=λe=>by rw[e,OW.put_same]at hp;cases hp
 have hpo:o p=none:=by rw[OW.put_ne hpu]at hp;exact hp
 simp!
 refine⟨⟨by omega,by omega⟩,?_⟩
 unfold Si
 refine⟨λi s=>∃(ns:List Str) (o4 o5 o6:Option Val) (m':Nat),s=⟨[some (.own u),some (.d (.int (n:Nat))),some (.own p),some (.d (.list (XM.map .str))),o4,o5,o6],(o.put p (.lst (ns.map .str))).put u (.urn m')⟩/\Cp i ns/\(∀z,ns[0]? = some z->z.length≤8)/\i≤n/\m'≤m+12*i,⟨[],none,none,none,m,?_,⟨rfl,(λ_ z=>by cases z)⟩,(λ_ z=>by cases z),uH _,vU _⟩,λ_ _ _=>trivial,?_,?_⟩
 ·rw[Yt hpu];rfl
 ·rintro i d s hi ⟨ns,o4,o5,o6,m',rfl,hN,h8,hin,hm'⟩
  obtain⟨j,hj,rfl⟩:=Uc hi
  obtain⟨hjl,hjj⟩:=vH.mp hj
  rw[rB]at hjl
  have hjn:i<n:=by omega
  simp!
  refine XY (by omega) rfl ?_
  rintro r ⟨z,rfl,hz⟩
  simp!
  generalize hR:WV (LA (Mj (Nj _ _ _ _ _ _) _) _) _=R
  have key:∀(z:Str) (m2:Nat) (o4 o6:Option Val),UP z->z.length≤9->(ns=[]->z.length≤8)->m2≤m+12*(i+1)->R ⟨[some (.own u),some (.d (.int (n:Nat))),some (.own p),some (.d (.list (XM.map .str))),o4,some (.d (.str z)),o6],(o.put p (.lst (ns.map .str))).put u (.urn m2)⟩:=by
   intro z m2 o4 o6 hz1 hz2 hz3 hm2
   rw[<- hR]
   have hg:((o.put p (.lst (ns.map .str))).put u (.urn m2)) p=some (.lst (ns.map .str)):=by rw[OW.put_ne hpu,OW.put_same]
   have hl2:=Uu ns λz hz=>(hN.2 z hz).1
   simp!
   refine VL XM .str .str (λz=>!(UD ns z)) [] rfl trivial (by decide) ?_ ?_
   ·intro y hy Q hQ
    simp! only[hg]
    refine⟨⟨rfl,hl2.2,T5 (Us.2 y hy).1,hl2.1,by simp[PyData.depth]⟩,?_⟩
    have c:((ns.map PyData.str).any λw=>PyData.eqv w (.str y))=UD ns y:=rfl
    rw[c]
    cases h:UD ns y<;>rw[h]at hQ<;>exact hQ
   ·have hnl:=hN.1
    obtain⟨y,r,e,hy⟩:=F4 (ns:=ns) (by omega)
    rw[tH,e]
    have fin:∀x:Str,UP x->x.length≤9->(ns=[]->x.length≤8)->Cp (i+1) (ns++[x])/\(∀z,(ns++[x])[0]? = some z->z.length≤8)/\i+1≤n/\m2≤m+12*(i+1):=λx x1 x2 x3=>by
     refine⟨⟨by simp[hnl],λw hw=>?_⟩,λw hw=>?_,by omega,hm2⟩
     ·rcases vF.mp hw with hw|hw
      ·exact hN.2 w hw
      ·rw[xN.mp hw];exact⟨x1,x2⟩
     ·cases ns with
      | nil=>simp at hw;rw[<- hw];exact x3 rfl
      | cons a l=>exact h8 w (by simpa using hw)
    have ep:∀x:Str,(((o.put p (.lst (ns.map .str))).put u (.urn m2)).put p (.lst (ns.map .str++[.str x])))=(o.put p (.lst ((ns++[x]).map .str))).put u (.urn m2):=λx=>by
     rw[Yt hpu,OW.put_put,tQ];rfl
    simp! only[hg]
    refine⟨⟨_,rfl⟩,⟨rfl,hl2.2,T5 hz1,hl2.1,by simp[PyData.depth]⟩,?_⟩
    have c:((ns.map PyData.str).any λw=>PyData.eqv w (.str z))=UD ns z:=rfl
    rw[c]
    cases h:UD ns z
    ·simp!
     refine⟨_,rfl,YY (by rw[Uh];omega),ns++[z],_,_,_,m2,by rw[ep],fin z hz1 hz2 hz3⟩
    ·simp!
     have hne:ns≠[]:=λe=>by rw[e]at h;cases h
     refine⟨_,Yj (j:=0) rfl,_,rfl,YY (by rw[Uh];omega),ns++[y],_,_,_,m2,by rw[ep],fin y (Us.2 y hy).1 (Us.2 y hy).2 λe=>absurd e hne⟩
  have hg:((o.put p (.lst (ns.map .str))).put u (.urn (m' + 10))) p=some (.lst (ns.map .str)):=by rw[OW.put_ne hpu,OW.put_same]
  have hok:=Iz (ns:=ns) (λz hz=>(hN.2 z hz).1) (by have:=hN.1;omega)
  refine⟨by decide,?_⟩
  rw[hg]
  simp only
  refine⟨⟨hok.1,rfl,hok.2,by decide +kernel⟩,?_⟩
  have kz:=key z (m' + 10) (some (.d (.int (0+(j:Int))))) o6 hz.1 (wZ hz.2 (by decide)) (λ_=>hz.2) (by omega)
  cases hns:ns with
  | nil=>
   rw[hns]at kz
   rw[show(PyData.list (List.map PyData.str [])).eqv (PyData.list [])=true from rfl]
   simp!
   exact kz
  | cons y r=>
   rw[show(PyData.list (List.map PyData.str (y::r))).eqv (PyData.list [])=false from rfl]
   simp!
   refine YQ (by omega) (by decide) (by decide) λx x0 x1=>?_
   simp only
   have hg2:∀m2,((o.put p (.lst (.str y::r.map .str))).put u (.urn m2)) p=some (.lst (.str y::r.map .str)):=λm2=>by rw[OW.put_ne hpu,OW.put_same]
   have y8:=h8 y (by rw[hns];rfl)
   have ya:=(hN.2 y (by rw[hns];exact vB ..)).1
   refine Th (λc=>?_) (λc=>?_)
   ·simp! only[hg2]
    refine⟨_,Yj (j:=0) rfl,?_⟩
    simp! only[Ik]
    refine⟨wZ y8 (by decide),?_⟩
    simp!
    refine YQ (by omega) (by decide) (by decide) λe e0 e1=>?_
    obtain⟨ch,hc,hone⟩:=K1 e0 e1
    simp! only[LY]
    refine⟨by decide +kernel,ch,hc,?_⟩
    simp! only[Nw]
    have h1:(Tc y none (some 7)).length≤8:=wZ QI y8
    have h2:({ cps:=#[ch] }:Str).length=1:=rfl
    have h3:(Tc y none (some 7)++({ cps:=#[ch] }:Str)).length=(Tc y none (some 7)).length+1:=zZ
    have h4:UP (Tc y none (some 7)++({ cps:=#[ch] }:Str)):=by
     show((Tc y none (some 7)).cps++#[ch]).all (· < 128)=true
     rw[sZ,yG]
     refine⟨?_,hone.1⟩
     rw[<- rA,yY]
     intro x hx
     have q:=Lk hx
     have w:=ya
     unfold UP at w
     rw[<- rA,yY]at w
     exact w x q
    refine⟨by rw[h2,vZ];omega,?_⟩
    have kz2:=key _ (m' + 10+1+1) (some (.d (.int (0+(j:Int))))) o6 h4 (by omega) (λe=>by rw[hns]at e;cases e) (by omega)
    rw[hns]at kz2
    exact kz2
   ·simp!
    have kz2:=key z (m' + 10+1) (some (.d (.int (0+(j:Int))))) o6 hz.1 (wZ hz.2 (by decide)) (λ_=>hz.2) (by omega)
    rw[hns]at kz2
    exact kz2
 ·rintro s ⟨ns,o4,o5,o6,m',rfl,hN,h8,hin,hm'⟩
  have hg:((o.put p (.lst (ns.map .str))).put u (.urn m')) p=some (.lst (ns.map .str)):=by rw[OW.put_ne hpu,OW.put_same]
  simp!
  refine⟨_,hg,?_⟩
  obtain⟨w',le,hk⟩:=hq _ m' ⟨n,ns,rfl,rfl,by simpa using hN⟩ (by rw[Uh,rB]at hm';omega)
  have hp':(o.put u (.urn m')) p=none:=by rw[OW.put_ne hpu];exact hpo
  refine⟨w',?_,hk⟩
  have h2:=(le.put (le.free hp') (.lst (ns.map .str))).del (le.free hp')
  rw[Yt hpu]at h2
  exact h2
end
section
variable {P:Program}{w:World}{K:Frag}{mg:Str->Option Value}{base:Heap}
def Gr(k:Nat)(d:PyData):Prop:=∃(z:Str) (ns:List Int),d=.tuple (.str z::ns.map .int)/\UP z/\z.length≤9/\ns.length=k
def Hr(k n:Nat)(A:List PyData):Prop:=1≤A.length/\A.length≤n/\∀d∈A,Gr k d
def XB:WH:=UM 200 (λas=>as=[.d (.int 6)]) (λ_ r=>∃A B,r=.tuple [.tuple A,.tuple B]/\Hr 4 3 A/\Hr 1 6 B)
theorem Vy:∀vs w k,XB vs w k->vs.length=2:=Vr (n:=1) (by rintro vs rfl;rfl)
theorem Gq{a b c e:Int}{d:Int}(h0:0≤d)(h1:d<4)(ha:1≤a/\a≤1000)(hb:1≤b/\b≤1000)(hc:1≤c/\c≤1000)(he:1≤e/\e≤1000):∃n:Int,atI [PyData.int a,.int b,.int c,.int e] d=some (.int n)/\1≤n/\n≤1000:=by
 rcases(by omega:d=0\/d=1\/d=2\/d=3) with rfl|rfl|rfl|rfl
 ·exact⟨a,rfl,ha⟩
 ·exact⟨b,rfl,hb⟩
 ·exact⟨c,rfl,hc⟩
 ·exact⟨e,rfl,he⟩
theorem D9{a b c:Int}{d:Int}(h0:0≤d)(h1:d<3)(ha:1≤a/\a≤1000)(hb:1≤b/\b≤1000)(hc:1≤c/\c≤1000):∃n:Int,atI [PyData.int a,.int b,.int c] d=some (.int n)/\1≤n/\n≤1000:=by
 rcases(by omega:d=0\/d=1\/d=2) with rfl|rfl|rfl
 ·exact⟨a,rfl,ha⟩
 ·exact⟨b,rfl,hb⟩
 ·exact⟨c,rfl,hc⟩
theorem VD(T:Txt K mg):Dn P w K mg base 4 "_law_house_parts" YI ["_law_urn_here","_law_most"] (V7 K XB):=by
 have D_law_draw:=YU (P:=P) (w:=w) (base:=base) T
 have D_law_names:=RQ (P:=P) (w:=w) (base:=base) T
 refine Dn.dataI (k:=3) T.f_law_house_parts ZV Vy (λa cdv A outer s H E hr=>⟨_,_,  (Ze (My 2 3 rfl ZV.nd (Za (ZH Zb) (Za (ZH Zb) Zb)))
  (Ze (Xa sV rfl (X4 (Zs D_law_names VU (hr.mono (by decide)) (Za (Zf 0) (Za (Zu Yr Zd (Zs D_law_draw Z9 (hr.mono (by decide)) (Za (Zf 0) (Za Zd Zb)))) Zb)))) (ZN (i:=4) ZV.nd rfl (yQ rfl)) (Ze (Z7 (i:=5) ZV.nd rfl (yQ rfl) (Zs D_law_draw Z9 (hr.mono (by decide)) (Za (Zf 0) (Za (ZC Yb (ZH (Za Zd (Za Zd (Za Zd (Za Zd Zb))))) (Zs D_law_draw Z9 (hr.mono (by decide)) (Za (Zf 0) (Za Zd Zb))) (λ_ _=>rfl)) Zb))))
  (Ze (Z7 (i:=6) ZV.nd rfl (yQ rfl) (Zu Yr Zd (Zs D_law_draw Z9 (hr.mono (by decide)) (Za (Zf 0) (Za (ZC Yb (ZH (Za Zd (Za Zd (Za Zd (Za Zd Zb))))) (Zs D_law_draw Z9 (hr.mono (by decide)) (Za (Zf 0) (Za Zd Zb))) (λ_ _=>rfl)) Zb)))))
  (Ze (Z7 (i:=7) ZV.nd rfl (yQ rfl) (Zs D_law_draw Z9 (hr.mono (by decide)) (Za (Zf 0) (Za (ZC Yb (ZH (Za Zd (Za Zd (Za Zd Zb)))) (Zs D_law_draw Z9 (hr.mono (by decide)) (Za (Zf 0) (Za Zd Zb))) (λ_ _=>rfl)) Zb))))
  (Zn (YV (W0 sW sX sY X5 (Zf 2) (Za (Zl (Za (Zf 4) (Za (Zu Yr Zd (Zs D_law_draw Z9 (hr.mono (by decide)) (Za (Zf 0) (Za Zd Zb)))) (Za (Zf 5) (Za (Zf 6) (Za (Zf 7) Zb)))))) Zb))))))))
  (Ze (Xa sV rfl (X4 (Zs D_law_names VU (hr.mono (by decide)) (Za (Zf 0) (Za (Zu Yr Zd (Zs D_law_draw Z9 (hr.mono (by decide)) (Za (Zf 0) (Za (Zf 1) Zb)))) Zb)))) (ZN (i:=4) ZV.nd rfl (yQ rfl)) (Zn (YV (W0 sW sX sY X5 (Zf 3) (Za (Zl (Za (Zf 4) (Za (ZC Yb (ZH (Za Zd (Za Zd (Za Zd (Za (Zs D_law_draw Z9 (hr.mono (by decide)) (Za (Zf 0) (Za Zd Zb))) Zb))))) (Zs D_law_draw Z9 (hr.mono (by decide)) (Za (Zf 0) (Za Zd Zb))) (λ_ _=>rfl)) Zb))) Zb)))))
  (Zn (ZA (Zl (Za (XS V3 rfl T.z_tuple (by decide +kernel) (Za (Zf 2) Zb)) (Za (XS V3 rfl T.z_tuple (by decide +kernel) (Za (Zf 3) Zb)) Zb)))))))),(ZM (Jt (Zc (Xw true Zk) (Zc (Xw true Zk) Zk)))
  (ZM (by nofun)
  (ZM (by nofun)
  (by nofun)))),λas o q h=>?_⟩)
 obtain⟨u,as,m,rfl,hw,hm,rfl,hq⟩:=Vs h
 rw[hw]
 simp!
 refine⟨by decide,λp1 hp1=>⟨by decide,λp2 hp2=>?_⟩⟩
 simp!
 have h1u:p1≠u:=λe=>by rw[e,OW.put_same]at hp1;cases hp1
 have h1o:o p1=none:=by rw[OW.put_ne h1u]at hp1;exact hp1
 have h21:p2≠p1:=λe=>by rw[e,OW.put_same]at hp2;cases hp2
 rw[OW.put_ne h21]at hp2
 have h2u:p2≠u:=λe=>by rw[e,OW.put_same]at hp2;cases hp2
 have h2o:o p2=none:=by rw[OW.put_ne h2u]at hp2;exact hp2
 obtain⟨W,hW⟩:∃W:List PyData->List PyData->Nat->OW,W=λA B m=>((o.put p1 (.lst A)).put p2 (.lst B)).put u (.urn m):=⟨_,rfl⟩
 have w1:∀A B m,W A B m p1=some (.lst A):=λA B m=>by rw[hW];simp only;rw[OW.put_ne h1u,OW.put_ne (zQ h21),OW.put_same]
 have w2:∀A B m,W A B m p2=some (.lst B):=λA B m=>by rw[hW];simp only;rw[OW.put_ne h2u,OW.put_same]
 have aA:∀A B m A',(W A B m).put p1 (.lst A')=W A' B m:=λA B m A'=>by rw[hW];simp only;rw[Yt h1u,Yt (zQ h21),OW.put_put]
 have a2:∀A B m B',(W A B m).put p2 (.lst B')=W A B' m:=λA B m B'=>by rw[hW];simp only;rw[Yt h2u,OW.put_put]
 have dr:∀{A B:List PyData}{m:Nat}{wd:Int}{k:Val->OW->Prop},m≤1000000->0<wd->wd<1099511627776->(∀d:Int,0≤d->d<wd->k (.d (.int d)) (W A B (m+1)))->WR [.own u,.d (.int wd)] (W A B m) k:=λx1 x2 x3 x4=>by rw[hW]at x4 |-;exact YQ x1 x2 x3 x4
 have w0:(((o.put u (.urn m)).put p1 (.lst [])).put p2 (.lst []))=W [] [] m:=by rw[hW];simp only;rw[Yt h1u,Yt h2u]
 have nm:∀{A B:List PyData}{m:Nat}{n:Nat}{k:Val->OW->Prop},m+72≤1000000->n≤6->(∀ns:List Str,Cp n ns->k (.d (.list (ns.map .str))) (W A B (m+72)))->Wy [.own u,.d (.int n)] (W A B m) k:=λx1 x2 x3=>by
  rw[hW]at x3 |-
  refine XY x1 ⟨_,rfl,x2⟩ ?_
  rintro r ⟨n',ns,e,rfl,hN⟩
  have e2:=Int.ofNat_inj.mp (PyData.int.inj (Val.d.inj (List.cons.inj e).1))
  subst e2
  exact x3 ns hN
 rw[w0]
 refine dr (by omega) (by decide) (by decide) λd d0 d1=>?_
 obtain⟨k,hk⟩:∃k:Nat,1+d=k:=⟨(1+d).toNat,by omega⟩
 simp only
 rw[hk]
 refine nm (by omega) (by omega) λns hN=>?_
 simp!
 refine⟨λi s=>∃(A:List PyData) (o4 o5 o6 o7:Option Val) (m':Nat),s=⟨[some (.own u),some (.d (.int 6)),some (.own p1),some (.own p2),o4,o5,o6,o7],W A [] m'⟩/\A.length=i/\(∀d∈A,Gr 4 d)/\i≤k/\m'≤m+73+7*i,⟨[],none,none,none,none,_,rfl,rfl,(λ_ z=>by cases z),uH _,vU _⟩,λ_ _ _=>trivial,?_,?_⟩
 ·rintro i x s hi ⟨A,o4,o5,o6,o7,m',rfl,hA,hG,hik,hm'⟩
  obtain⟨z,hz,rfl⟩:=Uc hi
  have hzn:=hN.2 z (uW hz)
  have hil:=(vH.mp hz).1
  rw[hN.1]at hil
  simp!
  refine⟨by decide,dr (by omega) (by decide) (by decide) λa a0 a1=>?_⟩
  obtain⟨n,hn,n0,n1⟩:=Gq (a:=1) (b:=5) (c:=30) (e:=1000) a0 a1 (by decide) (by decide) (by decide) (by decide)
  refine⟨_,hn,dr (by omega) (by omega) (by omega) λprice _ _=>?_⟩
  simp!
  refine⟨by decide,dr (by omega) (by decide) (by decide) λa a0 a1=>?_⟩
  obtain⟨n,hn,n0,n1⟩:=Gq (a:=1) (b:=5) (c:=20) (e:=99) a0 a1 (by decide) (by decide) (by decide) (by decide)
  refine⟨_,hn,dr (by omega) (by omega) (by omega) λstep _ _=>?_⟩
  simp!
  refine⟨by decide,dr (by omega) (by decide) (by decide) λa a0 a1=>?_⟩
  obtain⟨n,hn,n0,n1⟩:=D9 (a:=1) (b:=2) (c:=10) a0 a1 (by decide) (by decide) (by decide)
  refine⟨_,hn,dr (by omega) (by omega) (by omega) λpoints _ _=>?_⟩
  simp! only[w1]
  refine⟨⟨_,rfl⟩,dr (by omega) (by decide) (by decide) λam _ _=>?_⟩
  simp only
  refine⟨by decide,_,w1 _ _ _,YY (by omega),A++[_],_,_,_,_,m' + 7,by rw[aA],by simp[hA],λd hd=>?_,by omega,by omega⟩
  rcases vF.mp hd with hd|hd
  ·exact hG d hd
  ·rw[xN.mp hd];exact⟨z,[1+am,price,1+step,points],rfl,hzn.1,hzn.2,rfl⟩
 ·rintro s ⟨A,o4,o5,o6,o7,m',rfl,hA,hG,hik,hm'⟩
  rw[Uh,hN.1]at hA hm'
  simp!
  refine dr (by omega) (by decide) (by decide) λd2 e0 e1=>?_
  obtain⟨k2,hk2⟩:∃k:Nat,1+d2=k:=⟨(1+d2).toNat,by omega⟩
  simp only
  rw[hk2]
  refine nm (by omega) (by omega) λns2 hN2=>?_
  simp!
  refine⟨λi s=>∃(B:List PyData) (o4:Option Val) (m2:Nat),s=⟨[some (.own u),some (.d (.int 6)),some (.own p1),some (.own p2),o4,o5,o6,o7],W A B m2⟩/\B.length=i/\(∀d∈B,Gr 1 d)/\i≤k2/\m2≤m' + 73+2*i,⟨[],_,_,rfl,rfl,(λ_ z=>by cases z),uH _,vU _⟩,λ_ _ _=>trivial,?_,?_⟩
  ·rintro i x s hi ⟨B,o4,m2,rfl,hB,hGB,hik2,hm2⟩
   obtain⟨z,hz,rfl⟩:=Uc hi
   have hzn:=hN2.2 z (uW hz)
   have hil:=(vH.mp hz).1
   rw[hN2.1]at hil
   simp!
   refine⟨⟨_,w2 _ _ _⟩,dr (by omega) (by decide) (by decide) λv _ _=>?_⟩
   simp!
   refine⟨by decide,dr (by omega) (by decide) (by decide) λc c0 c1=>?_⟩
   obtain⟨x,ex⟩:∃x:Int,atI [PyData.int 99,.int 99,.int 99,.int v] c=some (.int x):=by
    rcases(by omega:c=0\/c=1\/c=2\/c=3) with rfl|rfl|rfl|rfl
    ·exact⟨_,rfl⟩
    ·exact⟨_,rfl⟩
    ·exact⟨_,rfl⟩
    ·exact⟨_,rfl⟩
   refine⟨_,ex,by decide,_,w2 _ _ _,YY (by omega),B++[_],_,m2+2,by rw[a2],by simp[hB],λd hd=>?_,by omega,by omega⟩
   rcases vF.mp hd with hd|hd
   ·exact hGB d hd
   ·rw[xN.mp hd];exact⟨z,[x],rfl,hzn.1,hzn.2,rfl⟩
  ·rintro s ⟨B,o4,m2,rfl,hB,hGB,hik2,hm2⟩
   rw[Uh,hN2.1]at hB hm2
   simp! only[w1,w2]
   obtain⟨w',le,hk'⟩:=hq _ m2 ⟨A,B,rfl,⟨by omega,by omega,hG⟩,⟨by omega,by omega,hGB⟩⟩ (by omega)
   refine⟨by decide,w',?_,hk'⟩
   have q1:(o.put u (.urn m2)) p1=none:=by rw[OW.put_ne h1u];exact h1o
   have q2:(o.put u (.urn m2)) p2=none:=by rw[OW.put_ne h2u];exact h2o
   have e:W A B m2=((o.put u (.urn m2)).put p1 (.lst A)).put p2 (.lst B):=by rw[hW];simp only;rw[Yt h1u,Yt h2u]
   rw[e]
   exact(le.put (le.free q1) _).put (le.free q2) _
end
section
variable {P:Program}{w:World}{K:Frag}{mg:Str->Option Value}{base:Heap}
def Hm(A:List PyData):Prop:=1≤A.length/\A.length≤6/\∀d∈A,∃(z:Str) (x:Int) (r:List PyData),d=.tuple (.str z::.int x::r)/\UP z/\z.length≤9/\r.length≤3
theorem Hr.hm{k n:Nat}{A:List PyData}(h:Hr k n A)(h1:1≤k)(h2:k≤4)(h3:n≤6):Hm A:=by
 refine⟨h.1,wZ h.2.1 h3,λd hd=>?_⟩
 obtain⟨z,ns,rfl,q1,q2,q3⟩:=h.2.2 d hd
 cases ns with
 | nil=>simp at q3;omega
 | cons x r=>exact⟨z,x,r.map .int,rfl,q1,q2,by rw[Uh];simp at q3;omega⟩
theorem Q8{z:Str}(h:UP z)(l:z.length≤9):Tx (.str z):=⟨h,by omega⟩
theorem PB{ds:List PyData}(h:∀x r,ds=x::r->Tx x)(l:ds.length≤60):Rw (.tuple ds):=by
 cases ds with
 | nil=>exact trivial
 | cons x r=>exact⟨h x r rfl,by rw[uC]at l;omega⟩
theorem Hm.rw{A:List PyData}(h:Hm A):∀d∈A,Rw d:=λd hd=>by
 obtain⟨z,x,r,rfl,q1,q2,q3⟩:=h.2.2 d hd
 exact⟨Q8 q1 q2,by rw[uC];omega⟩
theorem U6{xs:List PyData}{j:Int}(h:0≤j):L2.Xz xs none (some j)=xs.take j.toNat:=by
 obtain⟨n,rfl⟩:=sT h
 unfold L2.Xz
 rw[HT.sIx_none,HT.sIx_nat]
 simp only[drop_zero,sub_zero,wK]
 rw[<- List.take_eq_take_min]
theorem U5{xs:List PyData}{j:Int}(h:0≤j):L2.Xz xs (some j) none=xs.drop j.toNat:=by
 obtain⟨n,rfl⟩:=sT h
 unfold L2.Xz
 rw[HT.sIx_none,HT.sIx_nat]
 simp only[wK]
 rw[wT (by rw[yE];omega)]
 by_cases c:n≤xs.length
 ·rw[Nat.min_eq_left c]
 ·rw[Nat.min_eq_right (by omega),drop_length,List.drop_eq_nil_of_le (by omega)]
def Fy:List PyData:=[.none,.bool true,.str "",.str "A",.str "abcdefghi",.int (-1),.int 0,.int 1,.int 5,.int 10,.int 99,.int 100,.int 1000,.tuple [.int 1],.str "a1"]
theorem ID:∀x∈Fy,Tx x/\Rw x:=λx hx=>by
 have h:Fy.all (λx=>CA x&&C7 x)=true:=by decide +kernel
 have:=yY.mp h x hx
 rw[yG]at this
 exact⟨JG this.1,Jx this.2⟩
theorem Mv{ys t:List PyData}{y:PyData}{n:Nat}(hy:Tx y)(ht:∀x r,t=x::r->Tx x):∀x r,(y::ys).take n++t=x::r->Tx x:=by
 intro x r e
 cases n with
 | zero=>exact ht x r e
 | succ n=>
  rw[List.take_succ_cons,yV,sB]at e
  rw[<- e.1];exact hy
theorem FU{A:List PyData}{v:PyData}{i:Nat}(hA:Hm A)(hv:Rw v):Wv (.tuple (A.take i++[v]++A.drop (i+1))):=by
 rintro ds e
 cases e
 have h1:=hA.2.1
 refine⟨by simp;omega,λd hd=>?_⟩
 rcases vF.mp hd with hd|hd
 ·rcases vF.mp hd with hd|hd
  ·exact hA.rw d (List.mem_of_mem_take hd)
  ·rw[xN.mp hd];exact hv
 ·exact hA.rw d (List.mem_of_mem_drop hd)
def Ua:WH:=UM 4 (λas=>∃A,as=[.d (.tuple A)]/\Hm A) (λ_ r=>∃B,r=.tuple B/\Wv (.tuple B))
theorem SI:∀vs w k,Ua vs w k->vs.length=2:=Vr (n:=1) (by rintro vs ⟨A,rfl,_⟩;rfl)
theorem RY(T:Txt K mg):Dn P w K mg base 2 "_law_wrong" Ws ["_law_urn_here","_law_rows"] (V7 K Ua):=by
 have D_law_draw:=YU (P:=P) (w:=w) (base:=base) T
 refine Dn.dataI (k:=1) T.f_law_wrong YK SI (λa cdv A outer s H E hr=>⟨_,_,  (Ze (Z7 (i:=2) YK.nd rfl (yQ rfl) (Zs D_law_draw Z9 (hr.mono (by decide)) (Za (Zf 0) (Za (Zh ZY rfl T.z_len sO (Za (Zf 1) Zb)) Zb))))
  (Ze (Z7 (i:=3) YK.nd rfl (yQ rfl) (ZC Xb (Zf 1) (Zf 2) (λ_ _=>rfl)))
  (Ze (Z7 (i:=4) YK.nd rfl (yQ rfl) (Zs D_law_draw Z9 (hr.mono (by decide)) (Za (Zf 0) (Za (Zh ZY rfl T.z_len sO (Za (Zf 3) Zb)) Zb))))
  (Ze (Z7 (i:=5) YK.nd rfl (yQ rfl) (ZC Yb (ZH (Zj Y4 (Zj (X1) (Zj Zr (Zj Zr (Zj Zr (Zj (N4 JM Zd) (Zj Zd (Zj Zd (Zj Zd (Zj Zd (Zj Zd (Zj Zd (Zj Zd (Zj (Zl (Za Zd Zb)) (Zj Zr Zb)))))))))))))))) (Zs D_law_draw Z9 (hr.mono (by decide)) (Za (Zf 0) (Za Zd Zb))) (λ_ _=>rfl)))
  (Ze (Z7 (i:=6) YK.nd rfl (yQ rfl) (ZH (Za (Zu W4 (Zu W4 (Yi Xf (Zf 3) Yp (Yq (Zf 4))) (Zl (Za (Zf 5) Zb))) (Yi Xf (Zf 3) (Yq (Zu Yr (Zf 4) Zd)) Yp)) (Za (Zu W4 (Yi Xf (Zf 3) Yp (Yq (Zf 4))) (Yi Xf (Zf 3) (Yq (Zu Yr (Zf 4) Zd)) Yp)) (Za (Zu W4 (Zf 3) (Zl (Za Zd Zb))) (Za (XS VX rfl T.z_list (by decide +kernel) (Za (Zf 3) Zb)) (Za (Zf 5) Zb)))))))
  (Ze (YV (W0 sW sX sY X5 (Zf 6) (Za (Zu W4 (Zl (Za (ZC Xb (ZC Xb (Zf 1) Zd (λ_ _=>rfl)) Zd (λ_ _=>rfl)) Zb)) (Yi Xf (Zf 3) (Yq Zd) Yp)) Zb)))
  (Zn (ZA (Zu W4 (Zu W4 (Yi Xf (Zf 1) Yp (Yq (Zf 2))) (Zl (Za (ZC Yb (Zf 6) (Zs D_law_draw Z9 (hr.mono (by decide)) (Za (Zf 0) (Za Zd Zb))) (λ_ _=>rfl)) Zb))) (Yi Xf (Zf 1) (Yq (Zu Yr (Zf 2) Zd)) Yp)))))))))),(ZM (by nofun)
  (ZM (by nofun)
  (ZM (by nofun)
  (ZM (by nofun)
  (ZM (VO (Xw true (Zc (YO Vo (YO Vo (UY UZ (Zm 3) W7 (W8 (Zm 4))) (Yu (Zc (Zm 5) Zk))) (UY UZ (Zm 3) (W8 (YO Rz (Zm 4) ZZ)) W7)) (Zc (YO Vo (UY UZ (Zm 3) W7 (W8 (Zm 4))) (UY UZ (Zm 3) (W8 (YO Rz (Zm 4) ZZ)) W7)) (Zc (YO Vo (Zm 3) (Yu (Zc ZZ Zk))) (Zc (ZX (NM false) (Zc (Zm 3) Zk)) (Zc (Zm 5) Zk)))))) (Y0 6))
  (ZM (by nofun)
  (by nofun))))))),λas o q h=>?_⟩)
 obtain⟨u,as,m,rfl,hw,hm,⟨A,rfl,hA⟩,hq⟩:=Vs h
 rw[hw]
 simp!
 have hA1:=hA.1
 have hA2:=hA.2.1
 refine YQ (by omega) (by omega) (by omega) λsp s0 s1=>?_
 obtain⟨i,rfl⟩:=sT s0
 obtain⟨d,hd,ed⟩:=U0 (xs:=A) s0 s1
 obtain⟨z,x,r,rfl,q1,q2,q3⟩:=hA.2.2 d hd
 obtain⟨d0,hd0,ed0⟩:=U0 (xs:=A) (i:=0) (by decide) (by omega)
 obtain⟨z0,x0,r0,rfl,g1,g2,g3⟩:=hA.2.2 d0 hd0
 simp!
 refine⟨_,ed,?_⟩
 simp!
 refine YQ (by omega) (by omega) (by omega) λpl p0 p1=>?_
 obtain⟨j,rfl⟩:=sT p0
 simp!
 iterate 2 refine xC (by decide) ?_
 refine YQ (by omega) (by decide) (by decide) λod o0 o1=>?_
 obtain⟨y,hy,ey⟩:=U0 (xs:=Fy) o0 (by show od<15;exact o1)
 obtain⟨hy1,hy2⟩:=ID y hy
 refine⟨_,ey,?_⟩
 simp!
 obtain⟨ys,hys⟩:∃ys:List PyData,ys=.str z::.int x::r:=⟨_,rfl⟩
 have c1:L2.Xz ys none (some (j:Int))=ys.take j:=by rw[U6 (by omega),wK]
 have c2:L2.Xz ys (some ((j:Int)+1)) none=ys.drop (j+1):=by rw[U5 (by omega)];rfl
 have c3:L2.Xz ys (some 1) none=ys.drop 1:=U5 (by decide)
 have c4:L2.Xz A none (some (i:Int))=A.take i:=by rw[U6 (by omega),wK]
 have c5:L2.Xz A (some ((i:Int)+1)) none=A.drop (i+1):=by rw[U5 (by omega)];rfl
 rw[<- hys,c1,c2]
 have ly:ys.length≤5:=by rw[hys];simp;omega
 have l1:(ys.take j).length≤5:=by rw[uS];omega
 have l2:(ys.drop (j+1)).length≤5:=by rw[yE];omega
 have big:∀n,n≤100->n≤sizeLine:=λn h=>by rw[vZ];omega
 refine⟨by decide,big _ (by omega),big _ (by rw[uX,yN];omega),big _ (by omega),by decide,big _ (by omega),by decide,λp hp=>?_⟩
 have hpu:p≠u:=λe=>by rw[e,OW.put_same]at hp;cases hp
 have hpo:o p=none:=by rw[OW.put_ne hpu]at hp;exact hp
 rw[Yt hpu,show ∀t:List PyData,PyData.str z::.int x::(r++t)=ys++t from λt=>by rw[hys];rfl]
 have ty:Tx (.str z):=Q8 q1 q2
 have v1:Rw (.tuple (ys.take j++[y]++ys.drop (j+1))):=PB (by rw[hys,yK];exact Mv ty λa b e=>by simp at e;rw[<- e.1];exact hy1) (by simp;omega)
 have v2:Rw (.tuple (ys.take j++ys.drop (j+1))):=by
  refine PB ?_ (by simp;omega)
  rw[hys]
  cases j with
  | zero=>intro a b e;simp at e;rw[<- e.1];exact trivial
  | succ j=>intro a b e;simp at e;rw[<- e.1];exact ty
 have v3:Rw (.tuple (ys++[.int 1])):=PB (by rw[hys];intro a b e;simp at e;rw[<- e.1];exact ty) (by simp;omega)
 have v6:Rw (.tuple (.str z0::ys.drop 1)):=PB (λa b e=>by simp at e;rw[<- e.1];exact Q8 g1 g2) (by simp;omega)
 generalize ys.take j++[y]++ys.drop (j+1)=t1 at v1 |-
 generalize ys.take j++ys.drop (j+1)=t2 at v2 |-
 generalize ys++[PyData.int 1]=t3 at v3 |-
 have hg:∀(l:List PyData) (m:Nat),((o.put p (.lst l)).put u (.urn m)) p=some (.lst l):=λl m=>by rw[OW.put_ne hpu,OW.put_same]
 simp! only[hg,c3]
 refine⟨⟨_,rfl⟩,_,ed0,?_⟩
 simp only
 refine⟨_,Yj (j:=0) rfl,by decide,big _ (by rw[yE];omega),_,rfl,YY (by show 5≤100000;decide),?_⟩
 rw[Yt hpu,OW.put_put]
 simp! only[c4,c5,hg]
 refine YQ (by omega) (by decide) (by decide) λe e0 e1=>?_
 simp! only[c4,c5,hg]
 obtain⟨v,hv,ev⟩:=U0 (xs:=[PyData.tuple t1,.tuple t2,.tuple t3,.list ys,y,.tuple (.str z0::ys.drop 1)]) e0 e1
 have vR:Rw v:=by
  simp only[vE,xL,xM]at hv
  rcases hv with rfl|rfl|rfl|rfl|rfl|rfl
  ·exact v1
  ·exact v2
  ·exact v3
  ·exact trivial
  ·exact hy2
  ·exact v6
 refine⟨_,ev,?_⟩
 have la:(A.take i).length≤6:=by rw[uS];omega
 have lb:(A.drop (i+1)).length≤6:=by rw[yE];omega
 obtain⟨w',le,hk⟩:=hq (.tuple (A.take i++[v]++A.drop (i+1))) (m+4) ⟨_,rfl,FU hA vR⟩ (by omega)
 refine⟨by decide,big _ (by omega),big _ (by rw[uX,yN];omega),w',?_,hk⟩
 have q1:(o.put u (.urn (m+4))) p=none:=by rw[OW.put_ne hpu];exact hpo
 rw[<- Yt hpu]
 exact le.put (le.free q1) _
def VZ:WH:=UM 4 (λas=>∃A l,as=[.d (.tuple A),.d (.int l)]/\Hm A/\0≤l/\l≤6) (λ_ r=>Wv r)
theorem SE:∀vs w k,VZ vs w k->vs.length=3:=Vr (n:=2) (by rintro vs ⟨A,l,rfl,_⟩;rfl)
theorem RR(T:Txt K mg):Dn P w K mg base 3 "_law_other" Wo ["_law_urn_here","_law_rows","_law_limit"] (V7 K VZ):=by
 have D_law_draw:=YU (P:=P) (w:=w) (base:=base) T
 have D_law_odd:=Oy (P:=P) (w:=w) (base:=base) T
 refine Dn.dataI (k:=2) T.f_law_other Ur SE (λa cdv A outer s H E hr=>⟨_,_,  (Ze (Z7 (i:=3) Ur.nd rfl (yQ rfl) (ZH (Za Y4 (Za (Zl Zb) (Za (XS VX rfl T.z_list (by decide +kernel) (Za (Zf 1) Zb)) (Za (Zu IG (Yi Xf (Zf 1) Yp (Yq Zd)) (Zu Yr (Zf 2) Zd)) (Za Zr (Za (Zs D_law_odd Oi (hr.mono (by decide)) (Za (Zf 0) Zb)) (Za (Zl (Za (Zf 1) Zb)) (Za Zd Zb))))))))))
  (Zn (ZA (ZC Yb (Zf 3) (Zs D_law_draw Z9 (hr.mono (by decide)) (Za (Zf 0) (Za Zd Zb))) (λ_ _=>rfl))))),(ZM (VO (Xw false (Zc Qp (Zc (Yu Zk) (Zc (ZX (NM false) (Zc (Zm 1) Zk)) (Zc (YO Hh (UY UZ (Zm 1) W7 (W8 ZZ)) (YO Rz (Zm 2) ZZ)) (Zc Z_ (Zc (X2 P0 (Zc (Zm 0) Zk)) (Zc (Yu (Zc (Zm 1) Zk)) (Zc ZZ Zk))))))))) (Y0 3))
  (by nofun)),λas o q h=>?_⟩)
 obtain⟨u,as,m,rfl,hw,hm,⟨A,l,rfl,hA,l0,l1⟩,hq⟩:=Vs h
 rw[hw]
 simp!
 have hA1:=hA.1
 have hA2:=hA.2.1
 have c1:L2.Xz A none (some 1)=A.take 1:=U6 (by decide)
 rw[c1]
 have lt:(A.take 1).length=1:=by rw[uS];omega
 obtain⟨k,rfl⟩:=sT l0
 have e1:((k:Int)+1).toNat=k+1:=by omega
 refine⟨by decide,⟨(λe=>by rw[e]at lt;cases lt),by omega,by omega,?_⟩,?_⟩
 ·rw[lt,e1,vZ];omega
 refine XY (by omega) rfl ?_
 rintro r hr
 simp!
 refine⟨by decide,by decide,?_⟩
 simp!
 refine YQ (by omega) (by decide) (by decide) λe e0 e1=>?_
 simp!
 obtain⟨x,hx,ex⟩:=U0 (xs:=[PyData.none,.tuple [],.list A,.tuple (P8 ((k:Int)+1).toNat (A.take 1)),.str "ab",r,.tuple [.tuple A],.int 7]) e0 e1
 refine⟨_,ex,hq x _ ?_ (by omega)⟩
 simp only[vE,xL,xM]at hx
 rcases hx with rfl|rfl|rfl|rfl|rfl|rfl|rfl|rfl
 ·exact Sf rfl
 ·exact Sf rfl
 ·rintro ds e;cases e
 ·rintro ds e
  cases e
  refine⟨?_,λd hd=>?_⟩
  ·unfold P8
   rw[List.length_flatten,List.map_replicate,List.sum_replicate_nat,lt]
   omega
  ·unfold P8 at hd
   obtain⟨l,h1,h2⟩:=List.mem_flatten.mp hd
   rw[(List.mem_replicate.mp h1).2]at h2
   exact hA.rw d (List.mem_of_mem_take h2)
 ·exact Sf (by decide +kernel)
 ·exact hr
 ·rintro ds e
  cases e
  refine⟨(by show 1≤64;decide),λd hd=>?_⟩
  rw[xN.mp hd]
  refine PB (λy t e=>?_) (by omega)
  obtain⟨z,i,r,e2,_⟩:=hA.2.2 y (by rw[e];exact vB ..)
  rw[e2];exact trivial
 ·exact Sf rfl
end
section
variable {P:Program}{w:World}{K:Frag}{mg:Str->Option Value}{base:Heap}
theorem N9{K K':Frag}(S:Od K K'){C:Addr}:∀{cs:List Value}{bs:List Bool},cs.map (PySem.W.kitOne K (.ref C))=bs.map some->cs.map (PySem.W.kitOne K' (.ref C))=bs.map some
 | [],[],_=>rfl
 | [],_::_,e=>by cases e
 | _::_,[],e=>by cases e
 | c::cs,b::bs,e=>by
  rw[uE,uE,sB]at e |-
  exact⟨M3 S e.1,N9 S e.2⟩
theorem Hm.pt{A:List PyData}(h:Hm A):Wv (.tuple A):=by
 rintro ds e
 cases e
 exact⟨wZ h.2.1 (by decide),h.rw⟩
def Dw:PyData->Bool
 | .none=>true
 | _=>false
theorem JA(x y:PyData):Sv x y=(match Dw (O1 x y) with|true=>.tuple [.str "none",.none]|false=>.tuple [.str "NoHouse",O1 x y]):=by
 unfold Sv O1
 cases Ys 3 [(1,4),(0,999),(1,99),(0,9)] x with
 | some a=>rfl
 | none=>
  cases Ys 6 [(0,99)] y with
  | some a=>rfl
  | none=>rfl
theorem Ny{x:PyData}(h:x=.none\/∃i:Nat,x=.int i/\i≤64):Rp 0 100 x:=by
 rcases h with rfl|⟨i,rfl,hi⟩
 ·exact⟨rfl,rfl,rfl,rfl,by simp[PyData.depth],by simp[PyData.weight]⟩
 ·exact Rp.int (by rw[Int.natAbs_natCast];exact tP hi (by decide))
theorem Hx{x y:PyData}(hx:Wv x)(hy:Wv y):C_ (Sv x y):=by
 have st:∀z:Str,PyData.strOk z=true->z.cps.size≤100->Rp 0 100 (.str z):=λz h1 h2=>(Rp.str h1).mono (vU _) h2
 have two:∀{a b:PyData}{n m:Nat},Rp n m a->Rp n m b->Rp (n+1) (2*m+2) (.tuple [a,b]):=λh1 h2=>Rp.tup (SW.cons h1 (SW.cons h2 (SW.nil (W:=0)) (vU _)) (by omega))
 have out:∀z:Str,PyData.strOk z=true->z.cps.size≤100->∀a:PyData,(a=.none\/∃i:Nat,a=.int i/\i≤64)->C_ (.tuple [.str "NoHouse",.tuple [.str z,a]]):=λz h1 h2 a ha=>
  .inl ⟨rfl,(two ((st "NoHouse" (by decide +kernel) (by decide +kernel)).mono (by omega) (by omega)) (two (st z h1 h2) (Ny ha))).ok (by omega) (by omega)⟩
 unfold Sv
 cases c:Ys 3 [(1,4),(0,999),(1,99),(0,9)] x with
 | some a=>exact out "kinds" (by decide +kernel) (by decide +kernel) a (Vm hx c)
 | none=>
  cases c2:Ys 6 [(0,99)] y with
  | some a=>exact out "bidders" (by decide +kernel) (by decide +kernel) a (Vm hy c2)
  | none=>exact .inl ⟨rfl,(two (st "none" (by decide +kernel) (by decide +kernel)) (Ny (.inl rfl))).ok (by omega) (by omega)⟩
theorem Fz(T:Txt K mg)(X:Xt K mg){fa:Addr}{fd:FuncData}(F:VQ K "law" "law" MM fa fd):Xv P w K mg base S0 40 fa fd ["_law_script"] (J1 K):=by
 have D_law_due:=Ox (P:=P) (w:=w) (base:=base) T
 have D_law_house_parts:=VD (P:=P) (w:=w) (base:=base) T
 have D_law_other:=RR (P:=P) (w:=w) (base:=base) T
 have D_law_told_part:=U7 (P:=P) (w:=w) (base:=base) T X
 have D_law_urn:=Oz (P:=P) (w:=w) (base:=base) T
 have D_law_wrong:=RY (P:=P) (w:=w) (base:=base) T
 refine K0 F Xo (λcdv A outer s H E hr=>⟨_,_,IPSs.get (Ze (Xa sV rfl (XT rfl T.z_range (Za (Zh (Mf rfl) rfl T.z_max boot_max (Za Zd (Za (Zh (Mg rfl) rfl T.z_min boot_min (Za Zd (Za (Zh ZY rfl T.z_len sO (Za (Zf 0) Zb)) Zb))) Zb))) Zb)) (ZN (i:=1) Xo.nd rfl (yQ rfl)) (Ze (Z7 (i:=2) Xo.nd rfl (yQ rfl) (Zs D_law_urn Oj (hr.mono (by decide)) (Za (Zf 0) (Za (Zf 1) Zb))))
  (Ze (WU (Zs D_law_house_parts V9 (hr.mono (by decide)) (Za (Zf 2) (Za Zd Zb))) (Y_ (n:=2) rfl (Z6 (ZN (i:=3) Xo.nd rfl (yQ rfl)) (Z6 (ZN (i:=4) Xo.nd rfl (yQ rfl)) Yl))))
  (Zn (Xa sV rfl (XT rfl T.z_range (Za Zd Zb)) (ZN (i:=5) Xo.nd rfl (yQ rfl)) (Ze (Z7 (i:=6) Xo.nd rfl (yQ rfl) (ZH (Za (Zl (Za (Zs D_law_wrong VW (hr.mono (by decide)) (Za (Zf 2) (Za (Zf 3) Zb))) (Za (Zf 4) Zb))) (Za (Zl (Za (Zf 3) (Za (Zs D_law_wrong VW (hr.mono (by decide)) (Za (Zf 2) (Za (Zf 4) Zb))) Zb))) Zb))))
  (Ze (Z7 (i:=6) Xo.nd rfl (yQ rfl) (Zu KC (Zf 6) (ZH (Za (Zl (Za (ZC Xb (ZC Yb (Zf 6) Zd (λ_ _=>rfl)) Zd (λ_ _=>rfl)) (Za (ZC Xb (ZC Yb (Zf 6) Zd (λ_ _=>rfl)) Zd (λ_ _=>rfl)) Zb))) (Za (Zl (Za (Zs D_law_other VV (hr.mono (by decide)) (Za (Zf 2) (Za (Zf 3) (Za Zd Zb)))) (Za (ZC Xb (ZC Yb (Zf 6) Zd (λ_ _=>rfl)) Zd (λ_ _=>rfl)) Zb))) Zb)))))
  (Ze (Z7 (i:=6) Xo.nd rfl (yQ rfl) (Zu KC (Zf 6) (ZH (Za (Zl (Za (Zf 3) (Za (Zs D_law_other VV (hr.mono (by decide)) (Za (Zf 2) (Za (Zf 4) (Za Zd Zb)))) Zb))) (Za (Zl (Za (Zf 3) (Za (Zf 4) Zb))) Zb)))))
  (Zn (Xa sV rfl (X4 (Zf 6)) (Y_ (n:=2) rfl (Z6 (ZN (i:=7) Xo.nd rfl (yQ rfl)) (Z6 (ZN (i:=8) Xo.nd rfl (yQ rfl)) Yl))) (Ze (Z7 (i:=9) Xo.nd rfl (yQ rfl) (Zs D_law_due Oh (hr.mono (by decide)) (Za (Zf 7) (Za (Zf 8) Zb))))
  (Ze (Z7 (i:=10) Xo.nd rfl (yQ rfl) (VG (ZW F3 (Zf 9) Y4 (Xl _)) (Zl (Za Zr (Za Y4 Zb))) (Zl (Za Zr (Za (Zf 9) Zb)))))
  (Zn (Yy (ZW Gn (Zh (T8 hr.gd hr.units) rfl T.z_repr boot_repr (Za (Zs D_law_told_part U1 (hr.mono (by decide)) (Za (Zf 7) (Za (Zf 8) Zb))) Zb)) (Zh (T8 hr.gd hr.units) rfl T.z_repr boot_repr (Za (Zf 10) Zb)) (Xl _)) (Zn (ZA (X1))) ZP))))))))))))))
  (Zn (ZA (X1)))),(ZM (Sj (Vn (Zc (ZX Hb (Zc ZZ (Zc (ZX Hc (Zc ZZ (Zc (ZX OM (Zc (Zm 0) Zk)) Zk))) Zk))) Zk)) (Y0 1) (ZM (by nofun)
  (ZM (by nofun)
  (Sj (Vn (Zc ZZ Zk)) (Y0 5) (ZM (by nofun)
  (ZM (by nofun)
  (ZM (by nofun)
  (Sj (Qq (Zm 6)) (OO (Sh (Y0 7) (Sh (Y0 8) NN))) (ZM (by nofun)
  (ZM (by nofun)
  (NQ (W6 (YO Jq (ZX P6 (Zc (X2 Ui (Zc (Zm 7) (Zc (Zm 8) Zk))) Zk)) (ZX P6 (Zc (Zm 10) Zk)))) (by nofun) W5)))))))))))
  (by nofun)),λns h63=>?_⟩)
 simp!
 refine⟨⟨by omega,by omega⟩,?_⟩
 refine⟨λi s=>∃(o1 o2 o3 o4 o5 o6 o7 o8 o9 o10:Option Val) (w:OW),s=⟨[some (.scr ns),o1,o2,o3,o4,o5,o6,o7,o8,o9,o10],w⟩,⟨none,none,none,none,none,none,none,none,none,none,_,rfl⟩,λ_ _ _=>trivial,?_,?_⟩
 ·rintro i d s hd ⟨o1,o2,o3,o4,o5,o6,o7,o8,o9,o10,o,rfl⟩
  have hi3:i<3/\d=.int (0+(i:Int)):=by
   unfold Si at hd
   obtain⟨r,hr,rfl⟩:=Uc hd
   obtain⟨h1,h2⟩:=vH.mp hr
   rw[rB]at h1
   rw[List.getElem_range]at h2
   subst h2
   exact⟨by omega,rfl⟩
  obtain⟨hi3,rfl⟩:=hi3
  simp!
  refine⟨⟨by omega,by omega⟩,λu hu=>?_⟩
  simp!
  refine XY (by omega) rfl ?_
  rintro r ⟨A,B,rfl,hA,hB⟩
  have mA:=hA.hm (by decide) (by decide) (by decide)
  have mB:=hB.hm (by decide) (by decide) (by decide)
  simp!
  refine⟨⟨by decide,by decide⟩,?_⟩
  refine⟨λj s=>∃(o5 o6 o7 o8 o9 o10:Option Val) (m:Nat),s=⟨[some (.scr ns),some (.d (.int (0+(i:Int)))),some (.own u),some (.d (.tuple A)),some (.d (.tuple B)),o5,o6,o7,o8,o9,o10],o.put u (.urn m)⟩/\j≤4/\m≤200+16*j,⟨o5,o6,o7,o8,o9,o10,_,rfl,uH _,by omega⟩,λ_ _ _=>trivial,?_,?_⟩
  ·rintro j d s hd ⟨o5,o6,o7,o8,o9,o10,m,rfl,hj,hm⟩
   have hj4:j<4:=by
    have:=(vH.mp hd).1
    simpa[Si]using this
   simp!
   refine XY (by omega) ⟨A,rfl,mA⟩ ?_
   rintro r ⟨A1,rfl,pA1⟩
   simp!
   refine⟨by decide,XY (by omega) ⟨B,rfl,mB⟩ ?_⟩
   rintro r ⟨B1,rfl,pB1⟩
   simp!
   iterate 2 refine xC (by decide) ?_
   refine⟨_,Yj (j:=0) rfl,?_⟩
   simp!
   refine⟨_,Yj (j:=0) rfl,_,Yj (j:=1) rfl,?_⟩
   simp only
   refine⟨_,Yj (j:=1) rfl,by decide,?_⟩
   refine XY (by omega) ⟨A,3,rfl,mA,by decide,by decide⟩ ?_
   rintro X pX
   refine⟨_,Yj (j:=1) rfl,?_⟩
   simp only
   refine⟨_,Yj (j:=1) rfl,?_⟩
   simp!
   iterate 3 refine xC (by decide) ?_
   refine XY (by omega) ⟨B,6,rfl,mB,by decide,by decide⟩ ?_
   rintro Y pY
   simp!
   iterate 4 refine xC (by decide) ?_
   have hLL:∀x∈[PyData.tuple [.tuple A1,.tuple B],.tuple [.tuple A,.tuple B1],.tuple [.tuple A1,.tuple B1],.tuple [X,.tuple B1],.tuple [.tuple A,Y],.tuple [.tuple A,.tuple B]],∃a b,x=.tuple [a,b]/\Wv a/\Wv b:=by
    intro x hx
    simp only[vE,xL,xM]at hx
    rcases hx with rfl|rfl|rfl|rfl|rfl|rfl
    ·exact⟨_,_,rfl,pA1,mB.pt⟩
    ·exact⟨_,_,rfl,mA.pt,pB1⟩
    ·exact⟨_,_,rfl,pA1,pB1⟩
    ·exact⟨_,_,rfl,pX,pB1⟩
    ·exact⟨_,_,rfl,mA.pt,pY⟩
    ·exact⟨_,_,rfl,mA.pt,mB.pt⟩
   generalize [PyData.tuple [.tuple A1,.tuple B],.tuple [.tuple A,.tuple B1],.tuple [.tuple A1,.tuple B1],.tuple [X,.tuple B1],.tuple [.tuple A,Y],.tuple [.tuple A,.tuple B]]=LL at hLL |-
   simp!
   refine⟨λk s=>∃(o7 o8 o9 o10:Option Val),s=⟨[some (.scr ns),some (.d (.int (0+(i:Int)))),some (.own u),some (.d (.tuple A)),some (.d (.tuple B)),some (.d d),some (.d (.list LL)),o7,o8,o9,o10],o.put u (.urn (m+4+4+4+4))⟩,⟨o7,o8,o9,o10,rfl⟩,λ_ _ _=>trivial,?_,?_⟩
   ·rintro k x s hx ⟨o7,o8,o9,o10,rfl⟩
    obtain⟨a,b,rfl,ha,hb⟩:=hLL x (uW hx)
    simp!
    refine⟨_,⟨a,b,rfl,ha,hb,rfl⟩,?_⟩
    simp!
    have hk:=Hx ha hb
    have htd:=JA a b
    generalize hR:WV (Ic _ _ _) _=R
    have key:∀v9:PyData,R ⟨[some (.scr ns),some (.d (.int (0+(i:Int)))),some (.own u),some (.d (.tuple A)),some (.d (.tuple B)),some (.d d),some (.d (.list LL)),some (.d a),some (.d b),some (.d v9),some (.d (Sv a b))],o.put u (.urn (m+4+4+4+4))⟩:=by
     intro v9
     rw[<- hR]
     simp!
     refine⟨_,⟨a,b,rfl,ha,hb,rfl⟩,?_⟩
     simp! only[Qb]
     refine⟨hk,hk,?_⟩
     simp!
     exact⟨_,_,_,_,rfl⟩
    cases hD:O1 a b with
    | none=>
     rw[hD]at htd
     have kz:=key .none
     rw[htd]at kz
     exact⟨by decide,kz⟩
    | tuple n=>
     rw[hD]at htd
     have kz:=key (.tuple n)
     rw[htd]at kz
     exact⟨by decide,kz⟩
    | _=>
     exfalso
     unfold O1 at hD
     cases c:Ys 3 [(1,4),(0,999),(1,99),(0,9)] a with
     | some x=>rw[c]at hD;cases hD
     | none=>
      rw[c]at hD
      simp only at hD
      cases c2:Ys 6 [(0,99)] b with
      | some x=>rw[c2]at hD;cases hD
      | none=>rw[c2]at hD;cases hD
   ·rintro s ⟨o7,o8,o9,o10,rfl⟩
    exact⟨_,_,_,_,_,_,_,rfl,by omega,by omega⟩
  ·rintro s ⟨o5,o6,o7,o8,o9,o10,m,rfl,hj,hm⟩
   exact⟨_,_,_,_,_,_,_,_,_,_,_,rfl⟩
 ·rintro s ⟨o1,o2,o3,o4,o5,o6,o7,o8,o9,o10,o,rfl⟩
  simp!
end
def DQ:List DefRec:=[Xn "_wall" G5,Xn "copied" NT,Xn "is_whole" Va,Xn "is_whole_between" Y9,Xn "is_name" Uo,Xn "is_tuple_of" XH,Xn "is_named_row" Xq,Xn "first_wrong" Xp,Xn "check_part" XG,Xn "_law_urn" Vq,Xn "_law_draw" Wm,Xn "_law_whole" Wr,Xn "_law_which" Wq,Xn "_law_odd" Uq,Xn "_law_name" Vb,Xn "_law_names" Wn,Xn "_law_house_parts" YI,Xn "_law_wrong" Ws,Xn "_law_other" Wo,Xn "_law_is_name" XI,Xn "_law_first_wrong" YH,Xn "_law_due" Up,Xn "_law_told_part" YJ,Xn "law" MM]
theorem YD:recsOf PySem.Challenge.pw_bundleclocks_k18_no_houses=DQ:=by kernel_rfl
def ES:List Str:=["ArithmeticError","IndexError","KeyError","LookupError","OverflowError","RuntimeError","TypeError","ValueError","abs","all","bool","enumerate","int","isinstance","len","list","max","min","range","repr","str","tuple","zip"]
theorem YF:ES.all (λx=>!(startupNames.contains x||(PySem.W.looseW PySem.Challenge.pw_bundleclocks_k18_no_houses ["TooMany"]).contains x||((recsOf PySem.Challenge.pw_bundleclocks_k18_no_houses).map (·.name)).contains x||((litsOf PySem.Challenge.pw_bundleclocks_k18_no_houses).map (·.1)).contains x||((clssOf PySem.Challenge.pw_bundleclocks_k18_no_houses (PySem.W.looseW PySem.Challenge.pw_bundleclocks_k18_no_houses ["TooMany"])).map (·.name)).contains x))=true:=by decide +kernel
theorem walk:PySem.W.WalkX PySem.Challenge.pw_bundleclocks_k18_no_houses ["TooMany"] (λ_ _=>True) CB (λ_=>Ci) (PySem.Challenge.rw_bundleclocks_k18_no_houses).row.toRowW (Xn "law" MM) [] (λf vs=>PySem.call f vs):=by
 refine Cf (l:=PySem.Challenge.rw_bundleclocks_k18_no_houses) (n:=63) (k:=40) (x:="_law_script") (CX:=S0) (sp:=λK=>J1 K) rfl (by decide) rfl ⟨rfl,by decide,by decide,rfl⟩ (λw s₀ mg mb fa h G y hmg=>?_) (λ_ _ a ns hl _ hS=>⟨a,ns,rfl,hS,hl,λ_=>rfl⟩) λ_ _ _ _ z=>z
 have T:Txt (Oa h) mg:=⟨YC G YD 0 rfl,YC G YD 1 rfl,YC G YD 2 rfl,YC G YD 3 rfl,YC G YD 4 rfl,YC G YD 5 rfl,YC G YD 6 rfl,YC G YD 7 rfl,YC G YD 8 rfl,YC G YD 9 rfl,YC G YD 10 rfl,YC G YD 11 rfl,YC G YD 12 rfl,YC G YD 13 rfl,YC G YD 14 rfl,YC G YD 15 rfl,YC G YD 16 rfl,YC G YD 17 rfl,YC G YD 18 rfl,YC G YD 19 rfl,YC G YD 20 rfl,YC G YD 21 rfl,YC G YD 22 rfl,YC G YD 23 rfl,Yh G YF 0 rfl,Yh G YF 1 rfl,Yh G YF 2 rfl,Yh G YF 3 rfl,Yh G YF 4 rfl,Yh G YF 5 rfl,Yh G YF 6 rfl,Yh G YF 7 rfl,Yh G YF 8 rfl,Yh G YF 9 rfl,Yh G YF 10 rfl,Yh G YF 11 rfl,Yh G YF 12 rfl,Yh G YF 13 rfl,Yh G YF 14 rfl,Yh G YF 15 rfl,Yh G YF 16 rfl,Yh G YF 17 rfl,Yh G YF 18 rfl,Yh G YF 19 rfl,Yh G YF 20 rfl,Yh G YF 21 rfl,Yh G YF 22 rfl,Tr G (by kernel_rfl),Tr G (by kernel_rfl),Tr G (by kernel_rfl),Tr G (by kernel_rfl)⟩
 obtain⟨s,y,yk⟩:=y
 have S:Od (TQ ER s.heap) (Oa h):=Ms λa o e n=>by rw[YG];exact yk _ _ e
 have y1:=zG (λz=>z.1.1) y
 have y1b:=zG (λz=>z.1.2) y
 have y2:=zG (λz=>z.2.1.1) y
 have y3:=zG (λz=>z.2.1.2) y
 have y4:=zG (λz=>z.2.2.1) y
 have y5:=zG (λz=>z.2.2.2.1) y
 have y6:=zG (λz=>z.2.2.2.2.1) y
 have y7:=zG (λz=>z.2.2.2.2.2.1) y
 have y8:=zG (λz=>z.2.2.2.2.2.2) y
 have X:Xt (Oa h) mg:=⟨Ij (as:=[]) S y1 y1b PySem.F.excBase_TypeError PF (by kernel_rfl) (by kernel_rfl) (λ_=>by kernel_rfl) (by kernel_rfl) (by kernel_rfl) (by decide +kernel) (λ_=>by kernel_rfl) (λ_=>by kernel_rfl) (λ_=>by kernel_rfl),N9 S y3,Fn S y4,Yn G.T.g yk y5 0 rfl rfl,Hs G.T.g yk y6,P9 G.T.g yk y7,P9 G.T.g yk y8,Yn G.T.g yk y2 0 rfl rfl,Yn G.T.g yk y2 1 rfl rfl,Yn G.T.g yk y2 2 rfl rfl,Yn G.T.g yk y2 3 rfl rfl,Yn G.T.g yk y2 4 rfl rfl,Yn G.T.g yk y2 5 rfl rfl,Yn G.T.g yk y2 6 rfl rfl,Yn G.T.g yk y2 7 rfl rfl,Yn G.T.g yk y2 8 rfl rfl,Yn G.T.g yk y2 9 rfl rfl,Yn G.T.g yk y2 10 rfl rfl,Yn G.T.g yk y2 11 rfl rfl,Yn G.T.g yk y2 12 rfl rfl⟩
 obtain⟨f,fd,F,m⟩:=T.f_law
 cases hmg.symm.trans m
 have F2:=F
 obtain⟨oc,od,kV,doc,pm,an,cdv,ct,osl,rfl,_,_⟩:=F.ex
 exact⟨_,λs u=>.of_eq rfl,λbase=>Fz T X F2⟩
def wellL(l:PySem.W.OpenLaw):Bool:=l.wellSaid
theorem wellE:wellL=wellL:=rfl
name_quick wellQ for wellL by wellE
theorem Bm:PySem.W.OpenLaw.wellSaid PySem.Challenge.rw_bundleclocks_k18_no_houses=true:=(sH PySem.W.Fast.wellQ_eq PySem.Challenge.rw_bundleclocks_k18_no_houses).trans (by kernel_rfl:PySem.W.Fast.wellQ PySem.Challenge.rw_bundleclocks_k18_no_houses=true)
end Mine
open PySem PySem.W PyProof.Rows
set_option maxRecDepth 100000 in
set_option maxHeartbeats 0 in
theorem PySem.Challenge.cw_bundleclocks_k18_no_houses_holds : PySem.Challenge.rw_bundleclocks_k18_no_houses.Holds := by
 w_on;refine PySem.W.holds_law Mine.Bm λsaid=>?_
 refine PySem.W.holds_openX (q:=PySem.Challenge.pw_bundleclocks_k18_no_houses) (loose:=["TooMany"]) (Xt:=λ_=>true) (XP:=λ_ _=>True) (Yf:=Mine.CB) (Ya:=λ_=>Mine.Ci) (d:=L2.Xn "law" Mine.MM) (kwd:=[]) (N:=20000) (L2.O6 (by kernel_rfl) (by decide) (λs=>by kernel_rfl) Mine.runs) (λ_ _=>trivial) (λ_ _ _ _ _=>trivial) (by kernel_rfl) (by kernel_rfl) (by kernel_rfl) (λ_ _=>recFacts_nil rfl) (by rfl) (by assumption) (by decide +kernel) ⟨rfl,rfl,rfl,rfl,rfl,by decide +kernel⟩ ?hw Mine.walk
 w_witness2
