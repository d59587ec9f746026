import PyProof.Rows.All
import Wide.All
import OpenK.AllK
import Wide.FinOn
import Lean
import PyProof.EqAt
import PyProof.EqKinds
import PyProof.TupleCall
import PyProof.NeKinds
import PySem.Challenge.RW_tankbalance_k32_whole_unknown_first
set_option Elab.async false
set_option linter.all false
set_option maxRecDepth 100000
set_option maxHeartbeats 40000000
open PySem.W renaming Frag->ND,nsIn->O0,findIn->O4,mg_none_of->Oy,mroIn->OB,keepIn->OI,mg_of->OK,fnOf->OP,kitOne->OZ,kia_one->P1,excIn->Pb,emptyDict->Po,instObj->Q0,plainGet->Qa,hasDictIn->Qm,codeIn->Qs,makesIn->QF,plainOver->QK,specialIn->QL,kitCls->QP,exmOne->QQ,looks_findIn->QT,takesIn->R4,nd_pure->R8,methodCall_KW->RH,hideAll_none->RK,isFn->RP,hideAll_get->S0,plainGet_of->S1,lookIn->S2,callWith_K->Sa,methodObj->Sw,takerIn->Ts,OpenLaw->Tw,cellsFrom_some->TB,typeIn->TQ,looks_mroIn->Uv,of_hideAll->UC,kitx_list->UZ,kitx_dict->U_,handedIn->Va,hideAll->Vj,kitMeta->VA,WalkO->VJ,Looks->VM,clsIn->VN
open PySem renaming Value->NF,Str->NG,Addr->NH,Shared->NI,wpAny_bind->NJ,starEach->NL,Program->NM,Spec->NN,wpAny_pure->NQ,Expr->NS,Heap->NT,mainGlobals->NU,World->NV,model->NY,eval->O8,Stmt->Ob,Around->Oc,Obj->Oi,backTo->Om,wpAny_holding->Oq,bootBuiltins->Ot,Pos->Ox,attributeBase->OJ,swapsWith->ON,wpAny_mono->OS,assignEach->OV,compareOp->P6,foldedSetIterable->P8,behindInMarks->Pa,FuncData->Pc,sizeLine_eq->Pe,keywordEach->Pg,Env->Pw,wpAny_truthy_bool->PF,Scope->PJ,binaryOp->Q1,backToKw->Q2,cLine->Q3,wpAny_standAt->Q8,holding->Q9,bindArgs->Qb,wpAny_Call_Name_kw->Qf,codeAny->Qg,Keyword->Qh,relabel->Qk,assign->Qu,mem_of_lookup->Qz,Sem->QD,wpAny_pyIter_list->QJ,codeAny_mono->QM,getMethod->QR,noteFrame->QS,wpAny_call_entry->QU,wpAny_newList->QY,standAt->QZ,sliceBounds->R0,wpAny_passesOwn->R3,wpAny_typeOf->Rb,tupleKind_room_in1->Rf,getattributeRaised->Rh,getItem->Rm,Builtin->Rn,wpAny_newObj_type->Ru,wpAny_field->Rz,callWith->RC,plainObj_wpAny_Assign_Attribute->RJ,wpAny_execs_nil->RO,IsPart->RS,codeAny_builtin->RV,codeAny_call_builtin->RW,unbindBehindTheSuite->RX,getAttr?->S3,Tok->S6,wpAny_pyIter_tuple->S7,Result->S9,swapsWithSole->Sh,swappedStores->Si,evalPart_none->Sm,comprehension->So,slot_list_getitem->Sx,wpAny_call->SF,wpAny_rule->SG,valueAt->SM,callerA->SN,GenState->SO,noFill_tuple_add->SU,wpAny_getItem_list_slice->SV,stored->SW,wpAny_comprehension_free->S_,passOn->T6,wpAny_check_ga_own->T7,wpAny_comp_letGo->T8,wpAny_callSpecial?_slot->Tg,tupleKind->Tn,Model->To,CmpOp->Tp,letOwnedTupleGo->Tq,atKey->Tv,subscripted->TC,wpAny_Call_method_late->TH,codeAny_compStart_list->TJ,wpAny_isTrue_Compare1->TM,BindsTo->TR,merged->TX,newFunctionEnv->TY,exec_Assign_Name_used->TZ,builtinLookup_eq_fast->U2,bindL->U9,bindC->Ua,typeLookup->Ub,wpAny_newFunctionEnv->Ug,seq_tuple_add->Up,wpAny_attempt->Us,Within->UA,pyIter->UE,concat_meets->UK,seqIndex_neg->UN,sub_AttributeError->UR,scanBound->UT,setFlight->UW,wpAny_sequenceKey->V1,wpAny_collect_seq->V3,seqIndex_of->V7,builtinsNs->Vk,isTrue->Vl,wpAny_Name->Vm,typeIs_int->Vp,call->Vr,closureFor->Vs,checkCount->Vt,getAttrBy?->Vv,spliced->VB,setItem->VC,newList->VE
open List renaming length_map->NK,map_cons->NP,size_toArray->NR,mem_cons->NW,mem_cons_self->NZ,mem_singleton->N_,mem_cons_of_mem->O1,length_cons->O3,getElem?_eq_getElem->O5,getElem?_eq_some_iff->O6,mem_append_right->O7,getElem?_map->O9,replicate->Oa,length_append->Oh,map_append->Oo,range->Ov,mem_map->Oz,any_eq_true->OC,getD_eq_getElem?_getD->OD,not_mem_nil->OE,mem_append->OF,map_map->OL,mem_filter->OM,mem_range->OO,getElem?_cons_succ->OT,getElem?_cons_zero->OY,mem_append_left->O_,append_nil->P2,pairwise_cons->P4,lookup_cons->P5,replicate_succ->P7,pairwise_map->P9,length_singleton->Pd,getElem_mem->Pl,map_nil->Pm,all_cons->Pn,length_filter_le->Pt,any_cons->Px,mem_of_getElem?->Pz,getElem?_replicate->PD,append_assoc->PH,length_nil->PK,getElem_of_mem->PU,all_eq_true->PV,getElem?_append_left->PZ,flatten_cons->Q5,length_range->Q7,length_take->Qc,length_replicate->Qi,find?_cons->Qj,getElem?_set->Qn,nodup_append->Qo,drop_eq_getElem_cons->Qq,filterMap_cons->Qy,nodup_cons->QG,toArray->QO,getElem?_append->QW,getElem?_append_right->QX,lookup->Q_,map_congr_left->R1,pairwise_iff_getElem->R7,set_cons_zero->Ri,set_cons_succ->Rj,length_eq_zero_iff->Rr,take_sublist->Rt,reverse_cons->Rv,take_length->RD,isEmpty_map->RE,length_filter_eq_length_iff->RF,getElem?_set_ne->RN,length_set->RT,mem_of_mem_take->RY,length->S5,mem_filterMap->S8,map_take->Sv,Nodup->SI,getElem_inj->SQ,nodup_range->T1,drop_length->T9,ext_getElem->Tc,map->Te,filter_cons->Tf,of_mem_zip->Tt,nil_append->Tu,getElem?_set_self->Tz,drop_zero->U3,nodup_nil->U4,dropLast_eq_take->U5,foldl->Ud,mem_iff_getElem->Ue,zip->Ul,dropLast_concat->Um,nodup_iff_count->Uo,length_reverse->Uu,filter_sublist->Uw,any_eq_false->UY,reverse_perm->V4,length_drop->Vb,getElem_map->Vd,countP_cons->Ve,mem_reverse->Vg,map_reverse->Vi,foldl_cons->Vq,count_cons->Vw,idxOf_cons->Vx,all_nil->VT
open PySem.Heap renaming get?_push_of_some->NO,lt_size->NX,get?_push_size->Oe,size_push->Qr,SameBut->Qt,get?_update_other->RA,get?_none_of_le->RM,get?_update_self->TU
open Nat renaming le_refl->O2,ne_of_lt->Og,lt_of_lt_of_le->Ol,le_trans->Ou,lt_irrefl->OA,zero_le->Pf,lt_succ_of_lt->Q6,le_of_lt->R9,le_succ->S4,lt_of_le_of_lt->Sb,add_sub_cancel->Sd,le_succ_of_le->SD,le_of_eq->SR,lt_succ_self->SS,le_of_not_lt->SX,zero_add->T3,ne_of_gt->UD,lt_trichotomy->V2
open Bool renaming false_ne_true->Od,false_eq_true->OH,and_eq_true_iff->OW,and_eq_true->OX,eq_iff_iff->QE,not_false->Ro,eq_false_iff->Rx,or_eq_false_iff->R_,not_true->Su,false_and->TN,or_eq_true->Vz,and_false->VD,false_or->VI,true_and->VO,true_or->VR
open PySem.Value renaming ref->Of,none->OQ,type->P_,builtin->Ql,int->QC,str->RG,bool->U8,float->V6,isStrOf->VH,isInt->VV,bytes->VW
open Or renaming inr->Oj,inl->OG
open Option.some renaming inj->OR,injEq->SA
open PyProof.Rows renaming slot_tuple_getitem->OU,envOfC->PY,callWith_type1->Qe,AllBare->Rl,step_dedup->Rp,callWith_builtin1->RQ,tupleItemsOf_->Sl,subscriptTail->Sn,IsTup->SE,IntsAre->SK,entry_list_sort->Tx,subscriptTail_builtinR->TF,slot_list_sort->T_,args_list_sort->U0,sortedHeap_old->U1,Subscript_->Uc,sortedHeap->Uh,sortedHeap_at->Uq,listUpdate_at->Ur,entry_tuple_getitem->Ut,args_tuple_getitem->UL,plain_sorted->UO,entry_sorted->UP,args_sorted1->UQ,kind_sorted->V8,seqEpoch_at->V9,firstMet->Vf,size_push'->Vu
open Int renaming emod_nonneg->Ph,emod_lt_of_pos->Pj,le_trans->Q4,natAbs->RZ,lt_trans->T2,emod_eq_of_lt->V5
open PySem.F renaming plainAttrs_list->Pk,slot_tuple_getattribute->QA,slot_list_count->QB,slot_list_getattribute->QH,args_tuple_add_2->Ra,entry_tuple_add->Rq,slot_tuple_add->Ry,args_list_count_2->SH,entry_list_count->T4,slot_list_append->Ta,type_list_append->Tb,slot_tuple_count->Td,slot_list_index->Ti,type_list_count->Tj,slot_list_pop->U6,type_list_pop->U7
open False renaming elim->Pp
open PySem.Obj renaming mapSeq->Pq,mapFields->VL
open Ne renaming symm->Py
open Option renaming map_some->PL,isSome_map->Sy,bind_some->SY,getD_none->Vc,none->VY
open Sum renaming inl->PM,inr->SJ
open Array renaming length_toList->PR,getD_eq_getD_getElem?->Se,perm_iff_toList_perm->Sq,getElem?_eq_some_iff->Sr,getElem?_toList->TV,getD->Uk,append_assoc->UB,map->US,toList->VQ
open True renaming intro->Qd
open PySem.Builtin.Slice renaming slicePlaces->Qp,sliceAdjust->R5,sliceApplied->Sj
open PySem.Str renaming ofString->Qv,empty->UG
open PySem.Builtin.Tuple renaming tupleExact->Qw,tupleItemsOf->Sk,tupleIsExact->Ss
open PySem.Builtin.List renaming listTooLong->Qx
open PySem.Calls renaming callWith_builtin->QI,evalArgs_plain->QV,call_function_entry->R6,Name_function_global->Sg,spliced_cons->UJ,spliced_nil->V0
open List.Perm renaming refl->QN,nil_eq->Vh,cons->VF
open PySem.SeqAt.EqAt renaming bool_bool->Rc,int_int->RB,int_str->Uy,str_int->Uz,same->Vo
open PySem.Builtin.Getset_descriptor renaming descrGet->Rw,descrCheckInstance->TK,descrNameAndClass->TL,descrGetter->Ux
open ForInStep renaming yield->RU
open PySem.Paired renaming length->Sf,snoc->VX
open List.Pairwise renaming nil->Sz
open PySem.SeqAt renaming list_countAt->T5,EqAt->Vn
open PySem.Builtin.Dict renaming updateFrom->Th
open PySem.Around renaming under_plainId->Ui,under->UH
open PySem.Walks renaming list->Uj,tuple->VZ
open PySem.Code renaming isFrame->UI,quiet_builtin->UU
open PySem.Heap.IsSliceOf renaming new->UM
open PySem.W.KF renaming slot_gs->UX
open PySem.Builtin.ObjectAttr renaming takesStores->Vy,bindTo->VP,find->VU
open PySem.Builtin.Frozenset renaming updateFrom->VG
open PySem.Data renaming seq->VS
local macro_rules | `(tactic| omega) => `(tactic| lia)
section
open PySem PySem.Spec PyProof.Rows
open Option renaming some->GS,none->JT
variable {P:NM} {h h':NT} {t' n:Nat} {ch fp:List NH} {e tg:NS} {V_:List (NH×Oi)} {Q:NF->NI->Prop} {es:List NS} {lo hi:Option Int} {pl:QD Bool} {its us vs:List NF} {kw:List (NG×NF)} {ps:List NG} {qual:NG} {scope:PJ}
noncomputable section
namespace L2
abbrev aU:=Sum Int NG
def qV:aU->NF->Bool
 | .inl k,v=>VV k v
 | .inr x,v=>VH x v
def M0 (w:NV):aU->Int
 | .inl k=>hashInt k
 | .inr x=>hashStr w x
theorem bR:∀{k:aU} {v:NF},qV k v=true->(∃i t,k=PM i/\v=QC i t)\/(∃x t,k=SJ x/\v=RG x t)
 | .inl i,v,h=>by
  obtain⟨t,e⟩:=Value.isInt_shape (k:=i) (v:=v) h;exact .inl ⟨i,t,rfl,e⟩
 | .inr x,v,h=>by
  obtain⟨t,e⟩:=Value.isStrOf_shape (x:=x) (v:=v) h;exact .inr ⟨x,t,rfl,e⟩
theorem Ad (i:Int) (t:S6):qV (.inl i) (.int i t)=true:=by simp[qV,VV]
theorem Ae (x:NG) (t:S6):qV (.inr x) (.str x t)=true:=by simp[qV,VH]
theorem HA (a b:Int):decide ((PM a:aU)=PM b)=(a==b):=by
 by_cases e:a=b
 ·subst e;simp
 ·have h:¬(PM a:aU)=PM b:=λq=>e (Sum.inl.inj q)
  rw[decide_eq_false h];exact(beq_eq_false_iff_ne.mpr e).symm
theorem HB (a b:NG):decide ((SJ a:aU)=SJ b)=decide (a=b):=by
 by_cases e:a=b
 ·subst e;simp
 ·have h:¬(SJ a:aU)=SJ b:=λq=>e (Sum.inr.inj q)
  rw[decide_eq_false h,decide_eq_false e]
theorem HC (a:Int) (b:NG):decide ((PM a:aU)=SJ b)=false:=decide_eq_false (λq=>nomatch q)
theorem HD (a:NG) (b:Int):decide ((SJ a:aU)=PM b)=false:=decide_eq_false (λq=>nomatch q)
def b9 (prog:NM) (w:NV):PySem.KeyKind prog w aU where
 is:=qV
 hash:=M0 w
 inj:=λv a b ha hb=>by
  rcases bR ha with ⟨i,t,rfl,rfl⟩|⟨x,t,rfl,rfl⟩
  ·rcases bR hb with ⟨j,u,rfl,e⟩|⟨y,u,rfl,e⟩
   ·injection e with e1 _;rw[e1]
   ·exact nomatch e
  ·rcases bR hb with ⟨j,u,rfl,e⟩|⟨y,u,rfl,e⟩
   ·exact nomatch e
   ·injection e with e1 _;rw[e1]
 byValue:=λk v h=>by
  rcases bR h with ⟨i,t,rfl,rfl⟩|⟨x,t,rfl,rfl⟩<;>rfl
 pyHash:=λhv h=>by
  rcases bR hv with ⟨i,t,rfl,rfl⟩|⟨x,t,rfl,rfl⟩
  ·exact wpAny_pyHash_int h
  ·exact wpAny_pyHash_str h
 eqBool:=λhu hv h=>by
  rcases bR hu with ⟨i,t,rfl,rfl⟩|⟨x,t,rfl,rfl⟩
  ·rcases bR hv with ⟨j,u,rfl,rfl⟩|⟨y,u,rfl,rfl⟩
   ·rw[HA]at h;exact wpAny_eqBool_int h
   ·rw[HC]at h;exact Uy i t y u _ _ _ _ h
  ·rcases bR hv with ⟨j,u,rfl,rfl⟩|⟨y,u,rfl,rfl⟩
   ·rw[HD]at h;exact Uz x t j u _ _ _ _ h
   ·rw[HB]at h;exact wpAny_eqBool_str h
 «strs»:=λk x t v h=>by
  rcases bR h with ⟨i,u,rfl,e⟩|⟨y,u,rfl,e⟩
  ·exact nomatch e
  ·injection e with e1 _
   subst e1;cases v<;>rfl
theorem v_ (prog:NM) (w:NV) (i:Int) (t:S6):(b9 prog w).is (.inl i) (.int i t)=true:=Ad i t
theorem w8 (prog:NM) (w:NV) (x:NG) (t:S6):(b9 prog w).is (.inr x) (.str x t)=true:=Ae x t
inductive V where
 |non|bl (b:Bool)|int (i:Int)|str (x:NG)|byt (b:Array UInt8)|flt (b:UInt64)|ref (a:NH)|ty (n:String)
 deriving DecidableEq
def aY:V->NF->Prop
 | .non,u=>u=OQ
 | .bl b,u=>u=U8 b
 | .int i,u=>∃t,u=QC i t
 | .str x,u=>∃t,u=RG x t
 | .byt b,u=>∃t,u=VW b t
 | .flt b,u=>∃t,u=V6 b t
 | .ref a,u=>u=Of a
 | .ty n,u=>u=P_ n
abbrev aC:List V->List NF->Prop:=Paired aY
theorem aC.length {xs:List V} {us:List NF} (r:aC xs us):xs.length=us.length:=Sf r
theorem aC.get:∀{xs:List V} {us:List NF} {i:Nat} {x:V},aC xs us->xs[i]? =GS x->∃u,us[i]? =GS u/\aY x u
 |_,_,_,_, .nil,e=>by simp at e
 |_,_,0,_, .cons r _,e=>by simp at e;subst e;exact⟨_,rfl,r⟩
 |_,_,i+1,x, .cons _ t,e=>by
  obtain⟨u,h1,h2⟩:=aC.get (i:=i) (x:=x) t (by simpa using e);exact⟨u,by simpa using h1,h2⟩
theorem aC.set {x:V} {u:NF} (r:aY x u):∀{xs:List V} {us:List NF} (i:Nat),aC xs us->aC (xs.set i x) (us.set i u)
 |_,_,_, .nil=> .nil
 |_,_,0, .cons _ t=> .cons r t
 |_,_,i+1, .cons q t=> .cons q (aC.set r i t)
theorem aC.append:∀{xs ys:List V} {us ws:List NF},aC xs us->aC ys ws->aC (xs++ys) (us++ws)
 |_,_,_,_, .nil,s=>s
 |_,_,_,_, .cons r t,s=> .cons r (aC.append t s)
theorem aC.take:∀{xs:List V} {us:List NF} (n:Nat),aC xs us->aC (xs.take n) (us.take n)
 |_,_,0,_=> .nil
 |_,_,_+1, .nil=> .nil
 |_,_,n+1, .cons r t=> .cons r (aC.take n t)
theorem aC.drop:∀{xs:List V} {us:List NF} (n:Nat),aC xs us->aC (xs.drop n) (us.drop n)
 |_,_,0,r=>r
 |_,_,_+1, .nil=> .nil
 |_,_,n+1, .cons _ t=>aC.drop n t
def kR:Option V->Option NF->Prop
 |some v,GS u=>aY v u
 |none,JT=>True
 |_,_=>False
def KV {κ:Type}:List (κ×V)->List (κ×NF)->Prop:=Paired λ(p:κ×V) (q:κ×NF)=>p.1=q.1/\aY p.2 q.2
def kV:aU->V
 | .inl i=> .int i
 | .inr x=> .str x
inductive HO where
 |lst (xs:List V)
 |tup (xs:List V)
 |dK (kvs:List (aU×V))|dT (kvs:List (List aU×V))
 |set (S:Int->Bool) (n:Nat)
 |ins (C dx:NH) (fs:List (NG×V))
 |own (x:NH)
 |xd (fs:List (NG×V))
 |met (f x:NH)
 |rng (lo hi:Int)
 |frz (o:Oi) (u:HO)
 |tbl (ps:Array NF)
 |ext (φ:NT->Prop)
abbrev Hp:=NH->Option HO
def aS (H:Hp) (a:NH) (o:HO):Hp:=λb=>if b=a then GS o else H b
theorem ar {H:Hp} {a:NH} {o:HO}:aS H a o a=GS o:=by unfold aS;rw[if_pos rfl]
theorem aj {H:Hp} {a b:NH} {o:HO} (h:b≠a):aS H a o b=H b:=by unfold aS;rw[if_neg h]
theorem K2 {H:Hp} {a b:NH} {o u:HO} (h:H a=GS o) (h':H b=GS u) (d:o≠u):a≠b:=by
 intro e;subst e;rw[h]at h';exact d (OR h')
theorem cC {H:Hp} {a b:NH} {o:HO} (h:H a=GS o) (h':H b=JT):a≠b:=by
 intro e;subst e;rw[h]at h';cases h'
def ii (h:NT) (a:NH) (W0:Array NF):Prop:=∃o,h.get? a=GS o/\o.cls= .type "tuple"/\∃n,o.data= .seq W0 n/\o.dict=JT
theorem ii.tup {h:NT} {a:NH} {W0:Array NF} (x:ii h a W0):SE h a W0:=let ⟨o,ho,hc,n,hd,_⟩:=x;⟨o,ho,hc,n,hd⟩
theorem ii.lt {h:NT} {a:NH} {W0:Array NF} (x:ii h a W0):a<h.objs.size:=x.tup.lt
theorem ii.new (h:NT) (W0:Array NF):ii (h.push {cls:= .type "tuple",data:= .seq W0}) h.objs.size W0:=⟨_,Oe _ rfl,rfl,_,rfl,rfl⟩
section
variable (P:NM) (w:NV)
def bg (H:Hp) (h:NT) (a:NH):HO->Prop
 | .lst xs=>xs.length<=sizeLine/\∃(its:List NF) (n:Nat),aC xs its/\h.get? a=GS {cls:= .type "list",data:= .seq its.toArray n}
 | .tup xs=>xs.length<=sizeLine/\∃its:List NF,aC xs its/\ii h a its.toArray
 | .dK kvs=>kvs.length<=sizeLine/\(a==sysModules)=false/\∃vs,KV kvs vs/\h.DictOf (b9 P w) a vs
 | .dT kvs=>kvs.length<=sizeLine/\(a==sysModules)=false/\∃xs:List (List aU×NH×NF),
   Paired (λ(p:List aU×V) (q:List aU×NH×NF)=>p.1=q.1/\H q.2.1=GS (.tup (p.1.map kV))/\aY p.2 q.2.2) kvs xs/\
   ∃o es ep,h.get? a=GS o/\o.ExactDict/\o.data= .dict es ep/\es.toList=xs.map (entryOfKey (Tn (b9 P w)))/\(xs.map (·.1)).Nodup
 | .set S n=>h.SetOf (intKind P w) a S n
 | .ins C dx fs=>H dx=GS (.own a)/\fs.length<=1000/\dx≠a/\h.get? a=GS (Q0 C dx)/\
   ∃mA,h.Ns1 dx mA/\(∀f,kR (fs.lookup f) (mA f))/\UA mA (fs.map (·.1))
 | .own _=>∃o,h.get? a=GS o
 | .xd fs=>∃mA,h.Ns1 a mA/\∀f,kR (fs.lookup f) (mA f)
 | .rng lo hi=>∃t u v,h.get? a=GS {cls:= .type "range",data:= .fields #[.int lo t, .int hi u, .int 1 v]}
 | .frz o u=>h.get? a=GS o/\bg H h a u
 | .tbl ps=>h.get? a=GS {cls:= .none,data:= .fields ps}
 | .met f x=>h.get? a=GS (Sw (.ref f) (.ref x))
 | .ext φ=>φ h/\(∃o,h.get? a=GS o)/\∀h1 h2:NT,φ h1->(∀o,h1.get? a=GS o->h2.get? a=GS o)->φ h2
def kS (H:Hp) (h:NT):Prop:=∀a o,H a=GS o->bg P w H h a o
end
section
variable {P:NM} {w:NV} {H H':Hp} {h h':NT} {a:NH} {o:HO}
theorem bg.lt (x:bg P w H h a o):a<h.objs.size:=by
 cases o with
 |lst xs=>obtain⟨_,_,_,_,e⟩:=x;exact NX e
 |tup xs=>obtain⟨_,_,_,p⟩:=x;exact p.lt
 |dK kvs=>obtain⟨_,_,_,_,o,_,_,e,_⟩:=x;exact NX e
 |dT kvs=>obtain⟨_,_,_,_,o,_,_,e,_⟩:=x;exact NX e
 |set S n=>obtain⟨o,_,_,_,e,_⟩:=x;exact NX e
 |ins C dx fs=>obtain⟨_,_,_,e,_⟩:=x;exact NX e
 |own y=>obtain⟨_,e⟩:=x;exact NX e
 |xd fs=>obtain⟨_,⟨_,_,_,e,_⟩,_⟩:=x;exact NX e
 |rng lo hi=>obtain⟨_,_,_,e⟩:=x;exact NX e
 |frz ob u=>obtain⟨e,_⟩:=x;exact NX e
 |tbl ps=>exact NX (show h.get? a=GS _ from x)
 |met f y=>exact NX (show h.get? a=GS _ from x)
 |ext φ=>obtain⟨_,⟨_,e⟩,_⟩:=x;exact NX e
theorem Paired.mapP {α β:Type} {F G:α->β->Prop}:∀{l₁:List α} {l₂:List β},Paired F l₁ l₂->(∀a b,F a b->G a b)->Paired G l₁ l₂
 |_,_, .nil,_=> .nil
 |_,_, .cons r t,f=> .cons (f _ _ r) (Paired.mapP t f)
theorem bg.stay (x:bg P w H h a o) (k:∀b u,(b=a\/H b=GS (.own a))->h.get? b=GS u->h'.get? b=GS u) (ho:∀b,H b=GS (.own a)->H' b=GS (.own a)) (ht:∀b xs,H b=GS (.tup xs)->H' b=GS (.tup xs)):bg P w H' h' a o:=by
 induction o with
 |lst xs=>obtain⟨z,its,n,r,e⟩:=x;exact⟨z,its,n,r,k _ _ (.inl rfl) e⟩
 |tup xs=>obtain⟨z,its,r,ob,e,c⟩:=x;exact⟨z,its,r,ob,k _ _ (.inl rfl) e,c⟩
 |dK kvs=>obtain⟨z,y,vs,r,ob,es,ep,e,c⟩:=x;exact⟨z,y,vs,r,ob,es,ep,k _ _ (.inl rfl) e,c⟩
 |dT kvs=>
  obtain⟨z,y,xs,r,ob,es,ep,e,c⟩:=x;exact⟨z,y,xs,Paired.mapP r λp q z=>⟨z.1,ht _ _ z.2.1,z.2.2⟩,ob,es,ep,k _ _ (.inl rfl) e,c⟩
 |set S n=>obtain⟨ob,es,ep,t,e,c⟩:=x;exact⟨ob,es,ep,t,k _ _ (.inl rfl) e,c⟩
 |ins C dx fs=>
  obtain⟨d,z,ne,e,mA,⟨od,es,ep,e2,c⟩,r⟩:=x;exact⟨ho _ d,z,ne,k _ _ (.inl rfl) e,mA,⟨od,es,ep,k _ _ (.inr d) e2,c⟩,r⟩
 |own y=>obtain⟨ob,e⟩:=x;exact⟨ob,k _ _ (.inl rfl) e⟩
 |xd fs=>obtain⟨mA,⟨od,es,ep,e,c⟩,r⟩:=x;exact⟨mA,⟨od,es,ep,k _ _ (.inl rfl) e,c⟩,r⟩
 |rng lo hi=>obtain⟨t,u,v,e⟩:=x;exact⟨t,u,v,k _ _ (.inl rfl) e⟩
 |frz ob u ih=>obtain⟨e,q⟩:=x;exact⟨k _ _ (.inl rfl) e,ih q⟩
 |tbl ps=>
  have e:h.get? a=GS {cls:= .none,data:= .fields ps}:=x;show h'.get? a=GS {cls:= .none,data:= .fields ps};exact k a _ (.inl rfl) e
 |met f y=>
  have e:h.get? a=GS (Sw (.ref f) (.ref y)):=x;show h'.get? a=GS (Sw (.ref f) (.ref y));exact k a _ (.inl rfl) e
 |ext φ=>obtain⟨p,⟨o,e⟩,st⟩:=x;exact⟨st _ _ p λo q=>k _ _ (.inl rfl) q,⟨o,k _ _ (.inl rfl) e⟩,st⟩
theorem kS.lt (x:kS P w H h) (e:H a=GS o):a<h.objs.size:=(x a o e).lt
theorem kS.fresh (x:kS P w H h) (e:h.objs.size<=a):H a=JT:=by
 cases q:H a with
 |none=>rfl
 |some u=>exact absurd (Ol (x.lt q) e) (OA _)
theorem kS.kept (x:kS P w H h) (k:∀b u,h.get? b=GS u->h'.get? b=GS u):kS P w H h':=λa o e=>
 (x a o e).stay (λb u _ q=>k b u q) (λ_ q=>q) λ_ _ q=>q
theorem kS.laid (x:kS P w H h) (k:∀b u,h.get? b=GS u->h'.get? b=GS u) (hp:h.objs.size<=a) (new:bg P w (aS H a o) h' a o):kS P w (aS H a o) h':=λb u e=>by
 have hn:=x.fresh hp;by_cases hb:b=a
 ·subst hb;rw[ar]at e;cases e;exact new
 ·rw[aj hb]at e
  exact(x b u e).stay (λc v _ q=>k c v q) (λc q=>by rw[aj (cC q hn)];exact q) λc xs q=>by rw[aj (cC q hn)];exact q
end
def Rd (H:Hp) (a:NH) (u:HO):Prop:=H a=GS u\/∃o,H a=GS (.frz o u)
theorem Rd.of {H:Hp} {a:NH} {u:HO} (h:H a=GS u):Rd H a u:= .inl h
theorem Rd.ok {w:NV} {H:Hp} {a:NH} {u:HO} (r:Rd H a u) (x:kS P w H h):bg P w H h a u:=by
 rcases r with r|⟨o,r⟩
 ·exact x a u r
 ·obtain⟨_,q⟩:=x a _ r
  exact q
def K3:Option HO->Prop
 |some (.lst _)=>True
 |some (.dK _)=>True
 |some (.dT _)=>True
 |some (.set _ _)=>True
 |some (.ins _ _ _)=>True
 |some (.ext _)=>True
 |_=>False
section
variable {P:NM} {w:NV} {H:Hp} {h h':NT} {x e:NH} {o':HO}
theorem kS.write (ok:kS P w H h) (mu:K3 (H x)) (he:e=x\/H e=GS (.own x)) (k:∀b u,b≠e->h.get? b=GS u->h'.get? b=GS u) (a1G:∃u,h'.get? e=GS u) (new:bg P w (aS H x o') h' x o'):kS P w (aS H x o') h':=λb u q=>by
 have a1Q:∀c y,H c=GS (.own y)->c≠x:=λc y r z=>by subst z;rw[r]at mu;exact mu
 have a2V:∀c xs,H c=GS (.tup xs)->c≠x:=λc xs r z=>by subst z;rw[r]at mu;exact mu
 by_cases hb:b=x
 ·subst hb;rw[ar]at q;cases q;exact new
 ·rw[aj hb]at q
  by_cases a0x:b=e
  ·have q':H b=GS (.own x):=by
    rcases he with z|z
    ·exact absurd (a0x.trans z) hb
    ·rw[a0x];exact z
   rw[q]at q';cases q';obtain⟨v,hv⟩:=a1G;exact⟨v,by rw[a0x];exact hv⟩
  ·refine(ok b u q).stay (λc v hc r=>k c v ?_ r) (λc r=>by rw[aj (a1Q c b r)];exact r) λc xs r=>by rw[aj (a2V c xs r)];exact r
   rcases hc with rfl|hc
   ·exact a0x
   ·rintro rfl
    rcases he with z|z
    ·exact a1Q c b hc z
    ·rw[hc]at z;cases z;exact hb rfl
end
structure Un (fs ex:List NH) (H H':Hp) (h h':NT):Prop where
 keep:∀b o,h.get? b=GS o->H b=JT->b∉fs->b∉ex->h'.get? b=GS o
 slot:∀b o,h.get? b=GS o->H b=JT->b∈fs->b∉ex->∃sl,h'.get? b=GS {o with slots:=sl}
 free:∀b o,h.get? b=GS o->H b=JT->b∉ex->H' b=JT
 there:∀b o,h.get? b=GS o->b∉ex->∃o',h'.get? b=GS o'
 tups:∀b xs,H b=GS (.tup xs)->H' b=GS (.tup xs)
 frzs:∀b o u,H b=GS (.frz o u)->H' b=GS (.frz o u)
 tbls:∀b ps,H b=GS (.tbl ps)->∃more,H' b=GS (.tbl (ps++more))
section
variable {fs Yx ex a7e:List NH} {H H1 H2:Hp} {h h1 h2 h':NT} {a x e:NH} {o:HO}
theorem Un.any (u:Un fs ex H H1 h h1) {b:NH} {ob:Oi} (q:h.get? b=GS ob) (n:H b=JT) (hx:b∉ex):∃sl,h1.get? b=GS {ob with slots:=sl}:=by
 by_cases hb:b∈fs
 ·exact u.slot b ob q n hb hx
 ·exact⟨ob.slots,u.keep b ob q n hb hx⟩
theorem Un.trans (a:Un fs ex H H1 h h1) (b:Un fs ex H1 H2 h1 h2):Un fs ex H H2 h h2 where
 keep:=λc ob q n hc hx=>b.keep c ob (a.keep c ob q n hc hx) (a.free c ob q n hx) hc hx
 slot:=λc ob q n hc hx=>by
  obtain⟨sl,e1⟩:=a.slot c ob q n hc hx;obtain⟨a0K,e2⟩:=b.slot c _ e1 (a.free c ob q n hx) hc hx;exact⟨a0K,e2⟩
 free:=λc ob q n hx=>by
  obtain⟨o',e1⟩:=a.there c ob q hx;exact b.free c o' e1 (a.free c ob q n hx) hx
 there:=λc ob q hx=>by
  obtain⟨o',e1⟩:=a.there c ob q hx;exact b.there c o' e1 hx
 tups:=λc xs q=>b.tups c xs (a.tups c xs q)
 frzs:=λc ob xs q=>b.frzs c ob xs (a.frzs c ob xs q)
 tbls:=λc ps q=>by
  obtain⟨m1,e1⟩:=a.tbls c ps q;obtain⟨m2,e2⟩:=b.tbls c _ e1;exact⟨m1++m2,by rw[e2,UB]⟩
theorem Un.kept (k:∀b u,h.get? b=GS u->h'.get? b=GS u):Un fs ex H H h h':=
 ⟨λb ob q _ _ _=>k b ob q,λb ob q _ _ _=>⟨ob.slots,k b ob q⟩,λ_ _ _ n _=>n,λb ob q _=>⟨ob,k b ob q⟩,λ_ _ q=>q,λ_ _ _ q=>q,λ_ ps q=>⟨#[],by rw[q];simp⟩⟩
theorem Un.refl:Un fs ex H H h h:=Un.kept λ_ _ q=>q
theorem Un.laid (k:∀b u,h.get? b=GS u->h'.get? b=GS u) (hp:h.objs.size<=a) (hn:H a=JT):Un fs ex H (aS H a o) h h' where
 keep:=λb u q _ _ _=>k b u q
 slot:=λb u q _ _ _=>⟨u.slots,k b u q⟩
 free:=λb u q n _=>by rw[aj (Og (Ol (NX q) hp))];exact n
 there:=λb u q _=>⟨u,k b u q⟩
 tups:=λb xs q=>by rw[aj (cC q hn)];exact q
 frzs:=λb u xs q=>by rw[aj (cC q hn)];exact q
 tbls:=λb ps q=>⟨#[],by rw[aj (cC q hn),q];simp⟩
theorem Un.write (mu:K3 (H x)) (he:e=x\/H e=GS (.own x)) (k:∀b u,b≠e->h.get? b=GS u->h'.get? b=GS u) (a1G:∃u,h'.get? e=GS u):Un fs ex H (aS H x o) h h':=by
 have hx:∀b,H b=JT->b≠x:=λb n z=>by subst z;rw[n]at mu;exact mu
 have hb:∀b,H b=JT->b≠e:=λb n z=>by
  subst z;rcases he with r|r
  ·exact hx b n r
  ·rw[n]at r;cases r
 have hm:∀b u,H b=GS u->¬K3 (GS u)->b≠x:=λb u q nm z=>by subst z;rw[q]at mu;exact nm mu
 refine⟨λb u q n _ _=>k b u (hb b n) q,λb u q n _ _=>⟨u.slots,k b u (hb b n) q⟩,λb u q n _=>by rw[aj (hx b n)];exact n,λb u q _=> ?_,
  λb xs q=>by rw[aj (hm b _ q λz=>z)];exact q,λb u xs q=>by rw[aj (hm b _ q λz=>z)];exact q,λb ps q=>⟨#[],by rw[aj (hm b _ q λz=>z),q];simp⟩⟩
 by_cases a0x:b=e
 ·subst a0x;exact a1G
 ·exact⟨u,k b u a0x q⟩
end
def LI (h:NT) (H:Hp):List NH:=(Ov h.objs.size).filter λa=>(H a).isSome
def uL (h:NT) (H:Hp):NT:=Vj h (LI h H)
theorem Af (h:NT) (H:Hp):(uL h H).objs.size=h.objs.size:=PySem.W.hideAll_size _ _
theorem BL {H:Hp} {b:NH} {o:Oi} (e:h.get? b=GS o) (n:H b=JT):(uL h H).get? b=GS o:=
 S0 _ e λhm=>by
  have q:(H b).isSome=true:=(OM.mp hm).2;rw[n]at q;simp at q
theorem EB {H:Hp} {b:NH} {o:Oi} (e:(uL h H).get? b=GS o):h.get? b=GS o/\H b=JT:=by
 have e':h.get? b=GS o:=UC (LI h H) e;refine⟨e',?_⟩;cases q:H b with
 |none=>rfl
 |some x=>
  have hm:b∈LI h H:=OM.mpr ⟨OO.mpr (NX e'),by simp[q]⟩;have z:(uL h H).get? b=JT:=RK (LI h H) hm;rw[z]at e;cases e
def EC (g h:NT) (L:NH):List (NH×Oi):=(Ov h.objs.size).filterMap λa=>if a=L\/(g.get? a).isSome=true then JT else (h.get? a).map λo=>(a,o)
def rest (g h:NT) (L d:NH):List (NH×Oi):=(EC g h L).filter λp=>decide (p.1≠d)
end L2
variable {H H':L2.Hp} {xs:List (List L2.aU×NH×NF)} {kvs:List (List L2.aU×L2.V)}
namespace L2
structure Mod (K:ND) (mg:NG->Option NF) (base:NT):Prop where
 kin:K.In base
 glob:base.Ns NU mg
 blt:∃mb,base.Ns Vk mb/\∀x:NG,x≠"__name__"->mb x=Ot x
 nolimit:base.NoLimit
structure Cx where
 prog:NM
 w:NV
 K:ND
 mg:NG->Option NF
 base:NT
 A:Oc
 N:List NG
 s₀:NI
 H₀:Hp
 env:Pw
 outer:List Pw
 stack:List Pw
 ex:List NH
 fn:NG->Bool
 calm:Bool
 pn:List (NH×Oi)
 xe:NF->NI->Prop
def qL (l:List Pw):List NH:=l.filterMap (·.frame)
abbrev Cx.fs (X:Cx):List NH:=qL X.outer
def pz (sc:PJ) (x:NG):Prop:=sc.names.lookup x=GS .local\/sc.names.lookup x=GS .cell\/sc.names.lookup x=GS .free
def yV (sc:PJ) (x:NG):Prop:=sc.names.lookup x=GS .local\/sc.names.lookup x=GS .cell
def M1 (env:Pw) (h:NT) (m:NG->Option NF) (x:NG) (u:NF):Prop:= (env.kindOf x=GS .local/\m x=GS u)\/((env.kindOf x=GS .cell\/env.kindOf x=GS .free)/\∃c,env.cells.lookup x=GS c/\h.IsCell c (GS u))
structure Cx.Ok (X:Cx):Prop where
 mod:Mod X.K X.mg X.base
 kind:X.env.scope.kind= .function
 glob:X.env.globals=NU
 blt:X.env.builtins=Vk
 above:X.s₀.heap.objs.size<=X.env.locals
 inj:∀x y c,X.env.cells.lookup x=GS c->X.env.cells.lookup y=GS c->x=y
 has:∀x,(X.env.kindOf x=GS .cell\/X.env.kindOf x=GS .free)->∃c,X.env.cells.lookup x=GS c
 cab:∀x c,X.fn x=true->X.env.cells.lookup x=GS c->X.s₀.heap.objs.size<=c
 hd:X.calm=true->X.A.handled=JT
 frames:X.A.frames=GS X.stack
 stk:X.stack=X.outer\/(X.stack=X.env::X.outer/\X.env.frame=GS X.env.locals)
 exf:∀b∈X.ex,b≠X.env.locals/\∀x c,X.env.cells.lookup x=GS c->c≠b
 bs:∀b o,X.base.get? b=GS o->X.s₀.heap.get? b=GS o/\X.H₀ b=JT
 bsz:X.base.objs.size<=X.s₀.heap.objs.size
 noex:∀b o,X.base.get? b=GS o->b∉X.ex
 exfs:∀b∈X.ex,b∉X.fs
 funs:X.s₀.heap.FunFrames X.base X.outer
 frf:∀b∈X.fs,X.H₀ b=JT
structure au (X:Cx) (V_:List (NH×Oi)) (σ:List (Option V)) (H:Hp) (s:NI):Prop where
 ok:X.Ok
 os:s.os=X.s₀.os
 bare:Rl s.gens
 base:Un X.fs X.ex X.H₀ H X.s₀.heap s.heap
 loc:∃m,s.heap.Ns X.env.locals m/\∀(i:Nat) (x:NG) (v:V),X.N[i]? =GS x->σ[i]? =GS (GS v)->pz X.env.scope x->∃u,aY v u/\M1 X.env s.heap m x u
 cell:∀x c,X.env.cells.lookup x=GS c->∃v,s.heap.IsCell c v
 free:H X.env.locals=JT
 freeC:∀x c,X.env.cells.lookup x=GS c->H c=JT
 pin:∀p∈X.pn++V_,s.heap.get? p.1=GS p.2/\H p.1=JT/\p.1≠X.env.locals/\p.1∉X.fs/\∀v,p.2.data≠ .cell v
 hok:kS X.prog X.w H s.heap
 len:σ.length=X.N.length
section
variable {X:Cx} {V_:List (NH×Oi)} {σ:List (Option V)} {H H':Hp} {s:NI} {h':NT}
theorem Cx.Ok.nofr (ok:X.Ok) {b:NH} {o:Oi} (e:X.base.get? b=GS o):b∉X.fs:=λhb=>by
 have:=(ok.funs.mem hb).1;rw[e]at this;cases this
theorem au.bs (I:au X V_ σ H s):∀b o,X.base.get? b=GS o->s.heap.get? b=GS o/\H b=JT:=λb o e=>
 ⟨I.base.keep b o (I.ok.bs b o e).1 (I.ok.bs b o e).2 (I.ok.nofr e) (I.ok.noex b o e),I.base.free b o (I.ok.bs b o e).1 (I.ok.bs b o e).2 (I.ok.noex b o e)⟩
theorem au.bk (I:au X V_ σ H s):∀b o,X.base.get? b=GS o->s.heap.get? b=GS o:=λb o e=>(I.bs b o e).1
theorem au.mod (I:au X V_ σ H s):Mod X.K X.mg X.base:=I.ok.mod
theorem au.kIn (I:au X V_ σ H s):X.K.In s.heap:=I.ok.mod.kin.keeps I.bk
theorem au.lt (I:au X V_ σ H s):X.env.locals<s.heap.objs.size:=let ⟨_,hn,_⟩:=I.loc;hn.lt
theorem au.sz (I:au X V_ σ H s):X.s₀.heap.objs.size<=s.heap.objs.size:=Ou I.ok.above (R9 I.lt)
theorem au.nofs (I:au X V_ σ H s) {a:NH} (h:s.heap.objs.size<=a):a∉X.fs:=λhb=>by
 obtain⟨_,o,ho,_⟩:=I.ok.funs.mem hb;exact absurd (Ol (NX ho) (Ou I.sz h)) (OA _)
theorem au.cne (I:au X V_ σ H s):∀x c,X.env.cells.lookup x=GS c->c≠X.env.locals:=λx c e z=>by
 obtain⟨v,o,ho,hd⟩:=I.cell x c e;obtain⟨m,⟨o',es,ep,ZQ,a2W,_⟩,_⟩:=I.loc;rw[z,ZQ]at ho;cases ho;rw[a2W]at hd;cases hd
theorem au.funs (I:au X V_ σ H s):s.heap.FunFrames X.base X.outer:=by
 have all:∀(l:List Pw),(∀b∈qL l,b∈X.fs)->X.s₀.heap.FunFrames X.base l->s.heap.FunFrames X.base l:=by
  intro l
  induction l with
  |nil=>intro _ _;trivial
  |cons env r ih=>
   intro hs hl;obtain⟨hk,⟨L,o,hf,hn,ho,hd⟩,hr⟩:=hl;have hL:L∈X.fs:=hs L (by unfold qL;rw[Qy,hf];exact NZ);obtain⟨sl,e⟩:=I.base.slot L o ho (I.ok.frf L hL) hL λz=>I.ok.exfs L z hL;exact⟨hk,⟨L,_,hf,hn,e,hd⟩,ih (λb hb=>hs b (by unfold qL;rw[Qy,hf];exact O1 _ hb)) hr⟩
 exact all X.outer (λ_ hb=>hb) I.ok.funs
theorem au.stack (I:au X V_ σ H s):s.heap.FunFrames X.base X.stack:=by
 rcases I.ok.stk with e|⟨e,hf⟩
 ·rw[e];exact I.funs
 ·rw[e]
  obtain⟨m,hn,_⟩:=I.loc;refine .cons (by rw[I.ok.kind];decide) hf hn ?_ I.funs;exact RM (Ou I.ok.bsz I.ok.above)
theorem au.stkSub (I:au X V_ σ H s):∀b∈qL X.stack,b∈X.env.locals::X.fs:=λb hb=>by
 rcases I.ok.stk with e|⟨e,hf⟩
 ·rw[e]at hb;exact O1 _ hb
 ·rw[e]at hb
  unfold qL at hb;rw[Qy,hf]at hb;exact hb
theorem au.stkFree (I:au X V_ σ H s):∀b∈qL X.stack,H b=JT:=λb hb=>by
 rcases NW.mp (I.stkSub b hb)with e|hb
 ·rw[e];exact I.free
 ·obtain⟨_,o,ho,_⟩:=I.ok.funs.mem hb
  exact I.base.free b o ho (I.ok.frf b hb) λz=>I.ok.exfs b z hb
theorem au.step {g':Array SO} {d':Drawn} (I:au X V_ σ H s) (ZR:∀b∈ch,(b∈X.ex\/X.s₀.heap.get? b=JT)/\b≠X.env.locals/\(∀x c,X.env.cells.lookup x=GS c->c≠b)/\∀p∈X.pn++V_,p.1≠b) (keep:∀b o,b≠X.env.locals->b∉X.fs->b∉ch->s.heap.get? b=GS o->H b=JT->h'.get? b=GS o) (slot:∀b o,b≠X.env.locals->b∈X.fs->b∉ch->s.heap.get? b=GS o->H b=JT->∃sl,h'.get? b=GS {o with slots:=sl}) (free:∀b o,b∉ch->s.heap.get? b=GS o->H b=JT->H' b=JT) (there:∀b o,b∉ch->s.heap.get? b=GS o->∃o',h'.get? b=GS o') (tups:∀b xs,H b=GS (.tup xs)->H' b=GS (.tup xs)) (frzs:∀b o u,H b=GS (.frz o u)->H' b=GS (.frz o u)) (tbls:∀b ps,H b=GS (.tbl ps)->∃more,H' b=GS (.tbl (ps++more))) (ns:∀m,s.heap.Ns X.env.locals m->h'.Ns X.env.locals m) (hok:kS X.prog X.w H' h') (hg:Rl g'): au X V_ σ H' {s with heap:=h',gens:=g',drawn:=d',toks:=t'}:=by
 have a0L:∀b o,X.s₀.heap.get? b=GS o->b≠X.env.locals:=λb o e=>Og (Ol (NX e) I.ok.above);have neC:∀b o,X.s₀.heap.get? b=GS o->b∉X.ex->b∉ch:=λb o e hx hb=>by
  rcases(ZR b hb).1 with z|z
  ·exact hx z
  ·rw[e]at z;cases z
 have a0M:∀x c,X.env.cells.lookup x=GS c->∀v,s.heap.IsCell c v->h'.IsCell c v:=λx c e v ⟨o,ho,hd⟩=>by
  have a1R:c∉ch:=λz=>(ZR c z).2.2.1 x c e rfl;by_cases hc:c∈X.fs
  ·obtain⟨sl,q⟩:=slot c o (I.cne x c e) hc a1R ho (I.freeC x c e)
   exact⟨_,q,hd⟩
  ·exact⟨o,keep c o (I.cne x c e) hc a1R ho (I.freeC x c e),hd⟩
 refine⟨I.ok,I.os,hg,⟨λb o e n hb hx=> ?_,λb o e n hb hx=> ?_,λb o e n hx=> ?_,λb o e hx=> ?_,λb xs e=>tups b xs (I.base.tups b xs e),λb o xs e=>frzs b o xs (I.base.frzs b o xs e),λb ps e=> ?_⟩,?_,λx c e=> ?_,?_,λx c e=> ?_,λp hp=> ?_,hok,I.len⟩
 ·exact keep b o (a0L b o e) hb (neC b o e hx) (I.base.keep b o e n hb hx) (I.base.free b o e n hx)
 ·obtain⟨sl,e1⟩:=I.base.slot b o e n hb hx
  obtain⟨a0K,e2⟩:=slot b _ (a0L b o e) hb (neC b o e hx) e1 (I.base.free b o e n hx);exact⟨a0K,e2⟩
 ·obtain⟨o',e1⟩:=I.base.there b o e hx
  exact free b o' (neC b o e hx) e1 (I.base.free b o e n hx)
 ·obtain⟨o',e1⟩:=I.base.there b o e hx
  exact there b o' (neC b o e hx) e1
 ·obtain⟨m1,e1⟩:=I.base.tbls b ps e
  obtain⟨m2,e2⟩:=tbls b _ e1;exact⟨m1++m2,by rw[e2,UB]⟩
 ·obtain⟨m,hn,hl⟩:=I.loc
  refine⟨m,ns m hn,λi x v e1 e2 e3=> ?_⟩;obtain⟨u,r,l⟩:=hl i x v e1 e2 e3;refine⟨u,r,?_⟩;rcases l with l|⟨k,c,e,z⟩
  ·exact .inl l
  ·exact .inr ⟨k,c,e,a0M x c e _ z⟩
 ·obtain⟨v,z⟩:=I.cell x c e
  exact⟨v,a0M x c e v z⟩
 ·obtain⟨m,⟨o,_,_,ho,_⟩,_⟩:=I.loc
  exact free _ o (λz=>(ZR _ z).2.1 rfl) ho I.free
 ·obtain⟨v,o,ho,hd⟩:=I.cell x c e
  exact free c o (λz=>(ZR c z).2.2.1 x c e rfl) ho (I.freeC x c e)
 ·obtain⟨e,n,ne,nf,d⟩:=I.pin p hp
  have a1R:p.1∉ch:=λz=>(ZR p.1 z).2.2.2 p hp rfl;exact⟨keep p.1 p.2 ne nf a1R e n,free p.1 p.2 a1R e n,ne,nf,d⟩
theorem au.un (I:au X V_ σ H s) (u:Un X.fs [] H H' s.heap h') (hok:kS X.prog X.w H' h'):au X V_ σ H' {s with heap:=h',toks:=t'}:=by
 obtain⟨m,⟨o,es,ep,ho,r⟩,_⟩:=id I.loc;obtain⟨sl,hL⟩:=u.any ho I.free (by simp);exact I.step (g':=s.gens) (d':=s.drawn) (ch:=[]) (λ_ z=>nomatch z) (λb o _ hb _ e n=>u.keep b o e n hb (by simp)) (λb o _ hb _ e n=>u.slot b o e n hb (by simp)) (λb o _ e n=>u.free b o e n (by simp)) (λb o _ e=>u.there b o e (by simp)) u.tups u.frzs u.tbls (λm' hm=>by
  obtain⟨o',a2X,a2Y,ZQ,r'⟩:=hm;rw[ho]at ZQ;cases ZQ;exact⟨_,a2X,a2Y,hL,r'⟩) hok I.bare
theorem au.call {g':Array SO} {d':Drawn} (I:au X V_ σ H s) (u:Un (qL X.stack) ch H H' s.heap h') (hok:kS X.prog X.w H' h') (hg:Rl g') (ZR:∀b∈ch,(b∈X.ex\/X.s₀.heap.objs.size<=b)/\b≠X.env.locals/\(∀x c,X.env.cells.lookup x=GS c->c≠b)/\∀p∈X.pn++V_,p.1≠b): au X V_ σ H' {s with heap:=h',gens:=g',drawn:=d',toks:=t'}:=by
 obtain⟨m,⟨o,es,ep,ho,r⟩,_⟩:=id I.loc;obtain⟨sl,hL⟩:=u.any ho I.free λz=>(ZR _ z).2.1 rfl;exact I.step (ch:=ch) (λb hb=>⟨(ZR b hb).1.imp id RM,(ZR b hb).2⟩) (λb o hL hb hc e n=>u.keep b o e n (λz=>(NW.mp (I.stkSub b z)).elim hL hb) hc) (λb o _ _ hc e n=>u.any e n hc) (λb o hc e n=>u.free b o e n hc) (λb o hc e=>u.there b o e hc) u.tups u.frzs u.tbls (λm' hm=>by
  obtain⟨o',a2X,a2Y,ZQ,r'⟩:=hm;rw[ho]at ZQ;cases ZQ;exact⟨_,a2X,a2Y,hL,r'⟩) hok hg
theorem au.turned {it:NH} (I:au X V_ σ H s) (k:∀b o,b≠it->s.heap.get? b=GS o->h'.get? b=GS o) (hn:H it=JT) (hL:it≠X.env.locals) (h1:it∈X.ex\/X.s₀.heap.objs.size<=it) (h2:∀x c,X.env.cells.lookup x=GS c->c≠it) (h3:∀p∈X.pn++V_,p.1≠it):au X V_ σ H {s with heap:=h',toks:=t'}:=by
 have a4h:∀b u,H b=GS u->b≠it:=λb u e z=>by rw[z,hn]at e;cases e
 refine I.step (g':=s.gens) (d':=s.drawn) (ch:=[it]) (λb hb=> ?_) (λb o _ _ hc e _=>k b o (λz=>hc (by simp[z])) e) (λb o _ _ hc e _=>⟨o.slots,k b o (λz=>hc (by simp[z])) e⟩) (λ_ _ _ _ n=>n)
  (λb o hc e=>⟨o,k b o (λz=>hc (by simp[z])) e⟩) (λ_ _ e=>e) (λ_ _ _ e=>e) (λb ps e=>⟨#[],by rw[e];simp⟩) (λm hm=> ?_) (λb u e=> ?_) I.bare
 ·have e:b=it:=by simpa using hb
  subst e;exact⟨h1.imp id RM,hL,h2,h3⟩
 ·obtain⟨o,es,ep,ho,r⟩:=hm
  exact⟨o,es,ep,k _ o (Py hL) ho,r⟩
 ·refine(I.hok b u e).stay (λc v hc q=>k c v ?_ q) (λ_ q=>q) λ_ _ q=>q
  rcases hc with z|z
  ·rw[z];exact a4h b u e
  ·exact a4h c _ z
theorem au.tok (I:au X V_ σ H s) (t:Nat):au X V_ σ H {s with toks:=t}:=I.un (h':=s.heap) (t':=t) Un.refl I.hok
theorem au.kept {t':Nat} (I:au X V_ σ H s) (k:∀b u,s.heap.get? b=GS u->h'.get? b=GS u):au X V_ σ H {s with heap:=h',toks:=t'}:=I.un (Un.kept k) (I.hok.kept k)
theorem au.laid {a:NH} {o:HO} {t':Nat} (I:au X V_ σ H s) (k:∀b u,s.heap.get? b=GS u->h'.get? b=GS u) (hp:s.heap.objs.size<=a) (new:bg X.prog X.w (aS H a o) h' a o): au X V_ σ (aS H a o) {s with heap:=h',toks:=t'}:=I.un (Un.laid k hp (I.hok.fresh hp)) (I.hok.laid k hp new)
theorem au.write {x e:NH} {o:HO} {t':Nat} (I:au X V_ σ H s) (mu:K3 (H x)) (he:e=x\/H e=GS (.own x)) (k:∀b u,b≠e->s.heap.get? b=GS u->h'.get? b=GS u) (a1G:∃u,h'.get? e=GS u) (new:bg X.prog X.w (aS H x o) h' x o):au X V_ σ (aS H x o) {s with heap:=h',toks:=t'}:=I.un (Un.write mu he k a1G) (I.hok.write mu he k a1G new)
theorem au.pins_of {Wo:List (NH×Oi)} (I:au X V_ σ H s) (h:∀p∈Wo,s.heap.get? p.1=GS p.2/\H p.1=JT/\p.1≠X.env.locals/\p.1∉X.fs/\∀v,p.2.data≠ .cell v):au X Wo σ H s:=
 ⟨I.ok,I.os,I.bare,I.base,I.loc,I.cell,I.free,I.freeC,λp hp=>(OF.mp hp).elim (λz=>I.pin p (O_ _ z)) (h p),I.hok,I.len⟩
theorem qW {N:List NG} (hN:N.Nodup) {i j:Nat} {x:NG} (a:N[i]? =GS x) (b:N[j]? =GS x):i=j:=by
 obtain⟨h1,e1⟩:=O6.mp a;obtain⟨h2,e2⟩:=O6.mp b;exact(SQ hN).mp (e1.trans e2.symm)
theorem Ag {M:To} {A:Oc} {E:NF->NI->Prop} {i:Nat} {x:NG} {v:V} {u:NF} {Q:Unit->NI->Prop} (I:au X V_ σ H s) (hN:X.N.Nodup) (hi:X.N[i]? =GS x) (hx:yV X.env.scope x) (r:aY v u) (h:∀s',au X V_ (σ.set i (GS v)) H s'->(∃a,Qt a s.heap s'.heap/\(a=X.env.locals\/X.env.cells.lookup x=GS a))->Q () s') (hf:X.fn x=true\/X.env.scope.names.lookup x=GS .local:=by first|exact .inl rfl|exact .inr rfl|assumption):wpAny M A (storeName X.env x u) Q E s:=by
 obtain⟨m,hn,hl⟩:=id I.loc;have a2Z:(X.env.scope.kind== .class||(X.env.scope.kind== .module&&X.env.locals != X.env.globals))=false:=by rw[I.ok.kind];rfl
 have a4i:i<σ.length:=by rw[I.len];exact(O6.mp hi).1
 have cne:=I.cne;have ZE:∀{a:NH} {h':NT},(∃o,s.heap.get? a=GS o/\H a=JT)->Qt a s.heap h'->kS X.prog X.w H h':=λ{a h'} ha hs b ob e=>by
  obtain⟨_,_,a0N⟩:=ha;refine(I.hok b ob e).stay (λc w' hc q=>(hs.2 c ?_).trans q) (λ_ q=>q) λ_ _ q=>q
  rintro rfl
  rcases hc with rfl|hc
  ·rw[a0N]at e;cases e
  ·rw[a0N]at hc;cases hc
 rcases hx with hk|hk
 ·refine wpAny_storeName_local hk hn (λh' a2_ hs=> ?_) a2Z
  obtain⟨oL,_,_,ZS,_⟩:=id hn;refine h _ ⟨I.ok,I.os,I.bare,⟨λb o e n hb hx=> ?_,λb o e n hb hx=> ?_,I.base.free,λb o e hx=> ?_,I.base.tups,I.base.frzs,I.base.tbls⟩,⟨_,a2_,λj y v' e1 e2 e3=> ?_⟩,λy c e=> ?_,I.free,I.freeC,λp hp=> ?_,ZE ⟨oL,ZS,I.free⟩ hs,by simpa using I.len⟩ ⟨_,hs, .inl rfl⟩
  ·exact(hs.2 b (Og (Ol (NX e) I.ok.above))).trans (I.base.keep b o e n hb hx)
  ·obtain⟨sl,e1⟩:=I.base.slot b o e n hb hx
   exact⟨sl,(hs.2 b (Og (Ol (NX e) I.ok.above))).trans e1⟩
  ·obtain⟨o',e1⟩:=I.base.there b o e hx
   exact⟨o',(hs.2 b (Og (Ol (NX e) I.ok.above))).trans e1⟩
  ·by_cases hj:j=i
   ·subst hj
    rw[hi]at e1;cases e1;rw[Tz a4i]at e2;cases e2;exact⟨u,r, .inl ⟨hk,by simp⟩⟩
   ·rw[RN (Py hj)]at e2
    obtain⟨u',r',q⟩:=hl j y v' e1 e2 e3;refine⟨u',r',?_⟩;rcases q with ⟨k,e⟩|⟨k,c,e,z⟩
    ·refine .inl ⟨k,?_⟩
     have:y≠x:=λe=>hj (qW hN e1 (e▸hi));simp[this,e]
    ·exact .inr ⟨k,c,e,z.sameBut hs (cne y c e)⟩
  ·obtain⟨w',z⟩:=I.cell y c e
   exact⟨w',z.sameBut hs (cne y c e)⟩
  ·obtain⟨e,n,ne,nf,d⟩:=I.pin p hp
   exact⟨(hs.2 p.1 ne).trans e,n,ne,nf,d⟩
 ·have a30:X.fn x=true:=by
   rcases hf with z|z
   ·exact z
   ·rw[z]at hk;cases hk
  obtain⟨c,hc⟩:=I.ok.has x (.inl hk);obtain⟨w',z⟩:=I.cell x c hc;refine wpAny_storeName_cell I.ok.kind hk hc z (λh' a4j hs=> ?_);obtain⟨oc,a4k,a31⟩:=id z;refine h {s with heap:=h'} ⟨I.ok,I.os,I.bare,⟨λb o e n hb hx=> ?_,λb o e n hb hx=> ?_,I.base.free,λb o e hx=> ?_,I.base.tups,I.base.frzs,I.base.tbls⟩,⟨m,hn.sameBut hs (Py (cne x c hc)),λj y v' e1 e2 e3=> ?_⟩,λy c' e=> ?_,I.free,I.freeC,λp hp=> ?_,ZE ⟨oc,a4k,I.freeC x c hc⟩ hs,by simpa using I.len⟩ ⟨c,hs, .inr hc⟩
  ·exact(hs.2 b (Og (Ol (NX e) (I.ok.cab x c a30 hc)))).trans (I.base.keep b o e n hb hx)
  ·obtain⟨sl,e1⟩:=I.base.slot b o e n hb hx
   exact⟨sl,(hs.2 b (Og (Ol (NX e) (I.ok.cab x c a30 hc)))).trans e1⟩
  ·obtain⟨o',e1⟩:=I.base.there b o e hx
   exact⟨o',(hs.2 b (Og (Ol (NX e) (I.ok.cab x c a30 hc)))).trans e1⟩
  ·by_cases hj:j=i
   ·subst hj
    rw[hi]at e1;cases e1;rw[Tz a4i]at e2;cases e2;exact⟨u,r, .inr ⟨.inl hk,c,hc,a4j⟩⟩
   ·rw[RN (Py hj)]at e2
    obtain⟨u',r',q⟩:=hl j y v' e1 e2 e3;refine⟨u',r',?_⟩;rcases q with q|⟨k,c',e,z'⟩
    ·exact .inl q
    ·refine .inr ⟨k,c',e,z'.sameBut hs ?_⟩
     rintro rfl
     exact hj (qW hN e1 (I.ok.inj _ _ _ e hc▸hi))
  ·by_cases a4l:c'=c
   ·subst a4l;exact⟨_,a4j⟩
   ·obtain⟨w2,z2⟩:=I.cell y c' e
    exact⟨w2,z2.sameBut hs a4l⟩
  ·obtain⟨e,n,ne,nf,d⟩:=I.pin p hp
   refine⟨(hs.2 p.1 ?_).trans e,n,ne,nf,d⟩;intro q;rw[q,a4k]at e;have q':oc=p.2:=OR e;exact d w' (by rw[<-q'];exact a31)
theorem qX {M:To} {A:Oc} {E:NF->NI->Prop} {i:Nat} {x:NG} {v:V} {u:NF} {Q:Unit->NI->Prop} (I:au X V_ σ H s) (hN:X.N.Nodup) (hi:X.N[i]? =GS x) (hx:yV X.env.scope x) (r:aY v u) (h:∀s',au X V_ (σ.set i (GS v)) H s'->Q () s') (hf:X.fn x=true\/X.env.scope.names.lookup x=GS .local:=by first|exact .inl rfl|exact .inr rfl|assumption):wpAny M A (storeName X.env x u) Q E s:=
 Ag I hN hi hx r (λs' I' _=>h s' I') hf
theorem au.call' {s':NI} (I:au X V_ σ H s) (ho:s'.os=s.os) (u:Un (qL X.stack) ch H H' s.heap s'.heap) (hok:kS X.prog X.w H' s'.heap) (hg:Rl s'.gens) (ZR:∀b∈ch,(b∈X.ex\/X.s₀.heap.objs.size<=b)/\b≠X.env.locals/\(∀x c,X.env.cells.lookup x=GS c->c≠b)/\∀p∈X.pn++V_,p.1≠b):au X V_ σ H' s':=by
 obtain⟨h',g',d',t',o'⟩:=s';have e:o'=s.os:=ho;subst e;exact I.call (g':=g') (t':=t') (d':=d') u hok hg ZR
end
abbrev XK:=NF->Option NH->Hp->Prop
abbrev St:=List (Option V)
abbrev VK:=V->Hp->Prop
abbrev TE:=St->Hp->VK->Prop
abbrev TT:=St->Hp->(Bool->Hp->Prop)->Prop
abbrev TA:=St->Hp->(List V->Hp->Prop)->Prop
structure o8 where
 nx:St->Hp->Prop
 rt:VK
 bk:St->Hp->Prop:=λ_ _=>False
 ct:St->Hp->Prop:=λ_ _=>False
abbrev TS:=o8->St->Hp->Prop
def EP (X:Cx) (V_:List (NH×Oi)) (σ:St) (Q:VK) (u:NF) (s':NI):Prop:=∃v H',au X V_ σ H' s'/\aY v u/\Q v H'
def TP (X:Cx) (V_:List (NH×Oi)) (σ:St) (Q:Bool->Hp->Prop) (b:Bool) (s':NI):Prop:=∃H',au X V_ σ H' s'/\Q b H'
def AP (X:Cx) (V_:List (NH×Oi)) (σ:St) (Q:List V->Hp->Prop) (us:List NF) (s':NI):Prop:=∃vs H',au X V_ σ H' s'/\aC vs us/\Q vs H'
def SP (X:Cx) (V_:List (NH×Oi)) (D:o8) (f:Flow) (s':NI):Prop:=
 match f with
 | .next=>∃σ' H',au X V_ σ' H' s'/\D.nx σ' H'
 | .brk=>∃σ' H',au X V_ σ' H' s'/\D.bk σ' H'
 | .cont=>∃σ' H',au X V_ σ' H' s'/\D.ct σ' H'
 | .ret u=>∃v σ' H',au X V_ σ' H' s'/\aY v u/\D.rt v H'
def PE (X:Cx) (e:NS) (t:TE):Prop:= ∀(V_:List (NH×Oi)) (s:NI) (σ:St) (H:Hp) (Q:VK),au X V_ σ H s->t σ H Q->wpAny (NY X.prog X.w) X.A (O8 e X.env) (EP X V_ σ Q) X.xe s
def PT (X:Cx) (e:NS) (t:TT):Prop:= ∀(V_:List (NH×Oi)) (s:NI) (σ:St) (H:Hp) (Q:Bool->Hp->Prop),au X V_ σ H s->t σ H Q->wpAny (NY X.prog X.w) X.A (Vl e X.env (O8 e X.env)) (TP X V_ σ Q) X.xe s
def PW (X:Cx) (e:NS) (t:TT):Prop:= ∀(XM:QD NF) (V_:List (NH×Oi)) (s:NI) (σ:St) (H:Hp) (Q:Bool->Hp->Prop),au X V_ σ H s->t σ H Q->wpAny (NY X.prog X.w) X.A (Vl e X.env XM) (TP X V_ σ Q) X.xe s
theorem PW.pt {X:Cx} {t:TT} (h:PW X e t):PT X e t:=h _
def PA (X:Cx) (es:List NS) (t:TA):Prop:= ∀(pos:Ox) (V_:List (NH×Oi)) (s:NI) (σ:St) (H:Hp) (Q:List V->Hp->Prop),au X V_ σ H s->t σ H Q->wpAny (NY X.prog X.w) X.A (VB (Om pos (NL es X.env))) (AP X V_ σ Q) X.xe s
def PS (X:Cx) (st:Ob) (t:TS):Prop:= ∀(V_:List (NH×Oi)) (s:NI) (σ:St) (H:Hp) (D:o8),au X V_ σ H s->t D σ H->wpAny (NY X.prog X.w) X.A (exec st X.env) (SP X V_ D) X.xe s
def qM (X:Cx) (st:List Ob) (t:TS):Prop:= ∀(V_:List (NH×Oi)) (s:NI) (σ:St) (H:Hp) (D:o8),au X V_ σ H s->t D σ H->wpAny (NY X.prog X.w) X.A (execs st X.env) (SP X V_ D) X.xe s
theorem bF {α:Type} {t:QD α} {Q Q':α->NI->Prop} {M:To} {A:Oc} {E:NF->NI->Prop} {s:NI} (h:wpAny M A t Q E s) (hQ:∀a s,Q a s->Q' a s):wpAny M A t Q' E s:=OS h hQ λ_ _ x=>x
section
variable {X:Cx}
def BM (i:Nat):TE:=λσ H Q=>∃v,σ[i]? =GS (GS v)/\Q v H
def tC (v:V):TE:=λ_ H Q=>Q v H
theorem HE {i:Nat} {x:NG} {pos:Ox} (hN:X.N[i]? =GS x) (hv:pz X.env.scope x) (hd:(x==("__debug__":NG))=false:=by decide) (WG:(x==("__classdict__":NG))=false:=by decide):PE X (.Name x pos) (BM i):=by
 intro V_ s σ H Q I h;obtain⟨v,e,h⟩:=h;obtain⟨m,hn,hl⟩:=I.loc;obtain⟨u,r,l⟩:=hl i x v hN e hv;have Wz:EP X V_ σ Q u s:=⟨v,H,I,r,h⟩;rcases l with ⟨hk,hm⟩|⟨hk,c,hc,ZF⟩
 ·exact Vm (wpAny_loadName_local I.ok.kind hk hn hm Wz) hd
 ·rcases hk with hk|hk
  ·exact Vm (wpAny_loadName_cell I.ok.kind hk hc ZF Wz) hd
  ·exact Vm (wpAny_loadName_free I.ok.kind hk hc ZF Wz WG) hd
theorem BO {i j pos}:PE X (.Constant (.int i) j pos) (tC (.int i)):=λ_ _ _ H _ I h=>wpAny_Constant_int ⟨.int i,H,I.tok _,⟨_,rfl⟩,h⟩
theorem K4 {b j pos}:PE X (.Constant (.bool b) j pos) (tC (.bl b)):=λ_ _ _ H _ I h=>Constant_bool ⟨.bl b,H,I,rfl,h⟩
theorem HF {j pos}:PE X (.Constant .none j pos) (tC .non):=λ_ _ _ H _ I h=>Constant_none ⟨.non,H,I,rfl,h⟩
theorem HG {x j pos}:PE X (.Constant (.str x) j pos) (tC (.str x)):=λ_ _ _ H _ I h=>Calls.Constant_str ⟨.str x,H,I.tok _,⟨_,rfl⟩,h⟩
def Gl (X:Cx) (x:NG):Prop:=X.env.kindOf x=GS .globalImplicit
theorem o9 {E:NF->NI->Prop} {s:NI} {σ:St} {x:NG} {u:NF} {pos:Ox} (I:au X V_ σ H s) (hg:Gl X x) (hm:X.mg x=GS u) (h:Q u s) (hd:(x==("__debug__":NG))=false:=by decide):wpAny (NY X.prog X.w) X.A (O8 (.Name x pos) X.env) Q E s:=
 Sg I.ok.kind hg (Calls.loadGlobal_global (by rw[I.ok.glob];exact I.mod.glob.keeps I.bk) hm h) hd
theorem nk {E:NF->NI->Prop} {s:NI} {σ:St} {x:NG} {u:NF} {pos:Ox} (I:au X V_ σ H s) (hg:Gl X x) (hm:X.mg x=JT) (hv:Ot x=GS u) (h:Q u s) (hn:x≠"__name__":=by decide) (hd:(x==("__debug__":NG))=false:=by decide):wpAny (NY X.prog X.w) X.A (O8 (.Name x pos) X.env) Q E s:=by
 obtain⟨mb,h1,h2⟩:=I.mod.blt;exact Sg I.ok.kind hg (Calls.loadGlobal_builtin (by rw[I.ok.glob];exact I.mod.glob.keeps I.bk) hm (by rw[I.ok.blt];exact h1.keeps I.bk) ((h2 x hn).trans hv) h) hd
theorem yW {x:NG} {v:V} {u:NF} {pos:Ox} (hg:Gl X x) (hm:X.mg x=GS u) (r:aY v u) (hd:(x==("__debug__":NG))=false:=by decide):PE X (.Name x pos) (tC v):=
 λ_ _ _ H _ I h=>o9 I hg hm ⟨v,H,I,r,h⟩ hd
theorem yX {x:NG} {v:V} {u:NF} {pos:Ox} (hg:Gl X x) (hm:X.mg x=JT) (hv:Ot x=GS u) (r:aY v u) (hn:x≠"__name__":=by decide) (hd:(x==("__debug__":NG))=false:=by decide):PE X (.Name x pos) (tC v):=
 λ_ _ _ H _ I h=>nk I hg hm hv ⟨v,H,I,r,h⟩ hn hd
variable {a b:NS} {ta tb:TE} {pos:Ox}
def PC (X:Cx) (op:Tp) (a b:NS) (t:TE):Prop:=
 ∀(V_:List (NH×Oi)) (s:NI) (σ:St) (H:Hp) (Q:VK),au X V_ σ H s->t σ H Q->
  wpAny (NY X.prog X.w) X.A (O8 a X.env) (λv s₁=>wpAny (NY X.prog X.w) X.A (O8 b X.env) (λu s₂=>wpAny (NY X.prog X.w) X.A (P6 op v u) (EP X V_ σ Q) X.xe s₂) X.xe s₁) X.xe s
def tB (t:TE):TT:=λσ H Q=>t σ H λx H1=>∃c,x= .bl c/\Q c H1
theorem BP {op:Tp} {t:TE} (h:PC X op a b t) (h1:Pa op b=false:=by first|exact nobehind _ (by decide) (by decide)|rfl):PE X (.Compare a [op] [b] pos) t:=λV_ s σ H Q I hw=>wpAny_Compare1 (h V_ s σ H Q I hw) h1
theorem BQ {op:Tp} {t:TE} (h:PC X op a b t) (h1:Pa op b=false:=by first|exact nobehind _ (by decide) (by decide)|rfl):PT X (.Compare a [op] [b] pos) (tB t):=by
 intro V_ s σ H Q I hw;refine TM (bF (h V_ s σ H _ I hw) λv s1 h1=>bF h1 λu s2 h2=>bF h2 λc s3 z_=> ?_) h1;obtain⟨x,H1,I1,r1,q1⟩:=z_;obtain⟨d,rfl,q⟩:=q1;cases r1;exact PF ⟨H1,I1,q⟩
variable {tA tB':TT} {rest:List NS}
def M2 (t u:TT):TT:=λσ H Q=>t σ H λc H1=>if c=true then u σ H1 Q else Q false H1
def Ng (t u:TT):TT:=λσ H Q=>t σ H λc H1=>if c=true then Q true H1 else u σ H1 Q
def M3 (t:TT):TT:=λσ H Q=>t σ H λc H1=>Q (!c) H1
theorem yY (ha:PT X a tA):PW X (.BoolOp .And [a] pos) tA:=by
 intro wh V_ s σ H Q I h;refine isTrue_and (bF (ha V_ s σ H Q I h) λc s1 e=> ?_);cases c with
 |true=>exact isTrue_and_nil e
 |false=>exact e
theorem HH (ha:PT X a tA):PW X (.BoolOp .Or [a] pos) tA:=by
 intro wh V_ s σ H Q I h;refine isTrue_or (bF (ha V_ s σ H Q I h) λc s1 e=> ?_);cases c with
 |false=>exact isTrue_or_nil e
 |true=>exact e
theorem BR (ha:PT X a tA) (hb:PW X (.BoolOp .And (b::rest) pos) tB'):PW X (.BoolOp .And (a::b::rest) pos) (M2 tA tB'):=by
 intro wh V_ s σ H Q I h;refine isTrue_and (bF (ha V_ s σ H _ I h) λc s1 z_=> ?_);obtain⟨H1,I1,q1⟩:=z_;cases c with
 |true=>exact hb wh V_ s1 σ H1 Q I1 q1
 |false=>exact⟨H1,I1,q1⟩
theorem K5 (ha:PT X a tA) (hb:PW X (.BoolOp .Or (b::rest) pos) tB'):PW X (.BoolOp .Or (a::b::rest) pos) (Ng tA tB'):=by
 intro wh V_ s σ H Q I h;refine isTrue_or (bF (ha V_ s σ H _ I h) λc s1 z_=> ?_);obtain⟨H1,I1,q1⟩:=z_;cases c with
 |true=>exact⟨H1,I1,q1⟩
 |false=>exact hb wh V_ s1 σ H1 Q I1 q1
theorem HI (ha:PT X a tA):PT X (.UnaryOp .Not a pos) (M3 tA):=by
 intro V_ s σ H Q I h;exact isTrue_not (ha V_ s σ H (λc H1=>Q (!c) H1) I h)
def K6 (ta tb:TE):TE:=λσ H Q=>ta σ H λx H1=>∃c,x= .bl c/\if c=true then tb σ H1 Q else Q (.bl false) H1
def M4 (ta tb:TE):TE:=λσ H Q=>ta σ H λx H1=>∃c,x= .bl c/\if c=true then Q (.bl true) H1 else tb σ H1 Q
def K7 (ta:TE):TE:=λσ H Q=>ta σ H λx H1=>∃c,x= .bl c/\Q (.bl (!c)) H1
theorem HJ {op} {t:TE} (h:PE X a t):PE X (.BoolOp op [a] pos) t:=λV_ s σ H Q I hw=>BoolOp_one (h V_ s σ H Q I hw)
theorem HK (ha:PE X a ta) (hb:PE X (.BoolOp .And (b::rest) pos) tb):PE X (.BoolOp .And (a::b::rest) pos) (K6 ta tb):=by
 intro V_ s σ H Q I h;refine BoolOp_and (bF (ha V_ s σ H _ I h) λv s1 z_=> ?_);obtain⟨x,H1,I1,r1,q1⟩:=z_;obtain⟨c,rfl,q1⟩:=q1;cases r1;refine PF ?_;cases c with
 |true=>exact hb V_ s1 σ H1 Q I1 q1
 |false=>exact⟨.bl false,H1,I1,rfl,q1⟩
theorem K8 (ha:PE X a ta) (hb:PE X (.BoolOp .Or (b::rest) pos) tb):PE X (.BoolOp .Or (a::b::rest) pos) (M4 ta tb):=by
 intro V_ s σ H Q I h;refine BoolOp_or (bF (ha V_ s σ H _ I h) λv s1 z_=> ?_);obtain⟨x,H1,I1,r1,q1⟩:=z_;obtain⟨c,rfl,q1⟩:=q1;cases r1;refine PF ?_;cases c with
 |false=>exact hb V_ s1 σ H1 Q I1 q1
 |true=>exact⟨.bl true,H1,I1,rfl,q1⟩
theorem HL (ha:PE X a ta):PE X (.UnaryOp .Not a pos) (K7 ta):=by
 intro V_ s σ H Q I h;refine UnaryOp_ (bF (ha V_ s σ H _ I h) λv s1 z_=> ?_);obtain⟨x,H1,I1,r1,q1⟩:=z_;obtain⟨c,rfl,q1⟩:=q1;cases r1;exact not_of (PF ⟨.bl (!c),H1,I1,rfl,q1⟩)
end
def cP (K:ND) (H:Hp) (a:NH) (xs:List V):Prop:= Rd H a (.lst xs)\/ ∃(o:Oi) (its:Array NF) (n:Nat),K.lookup a=GS o/\o.cls= .type "list"/\o.dict=JT/\o.data= .seq its n/\its.size<=sizeLine/\aC xs its.toList
def gf (K:ND) (H:Hp) (a:NH) (xs:List V):Prop:= Rd H a (.tup xs)\/ ∃(o:Oi) (its:Array NF) (n:Nat),K.lookup a=GS o/\o.cls= .type "tuple"/\o.data= .seq its n/\its.size<=sizeLine/\aC xs its.toList
def M5:NF->Option V
 | .none=>GS .non
 | .bool b=>GS (.bl b)
 | .int i _=>GS (.int i)
 | .str x _=>GS (.str x)
 | .bytes b _=>GS (.byt b)
 | .float b _=>GS (.flt b)
 | .ref a=>GS (.ref a)
 | .type n=>GS (.ty n)
 |_=>JT
theorem aY.abs {x:V} {u:NF} (r:aY x u):M5 u=GS x:=by
 cases x with
 |non=>cases r;rfl
 |bl _=>cases r;rfl
 |int _=>obtain⟨t,rfl⟩:=r;rfl
 |str _=>obtain⟨t,rfl⟩:=r;rfl
 |byt _=>obtain⟨t,rfl⟩:=r;rfl
 |flt _=>obtain⟨t,rfl⟩:=r;rfl
 |ref _=>cases r;rfl
 |ty _=>cases r;rfl
theorem aY.inj {x y:V} {u:NF} (r:aY x u) (q:aY y u):x=y:=OR (r.abs.symm.trans q.abs)
theorem aC.inj:∀{xs ys:List V} {us:List NF},aC xs us->aC ys us->xs=ys
 |_,_,_, .nil, .nil=>rfl
 |_,_,_, .cons r t, .cons r' t'=>by rw[r.inj r',aC.inj t t']
section
variable {X:Cx} {V_:List (NH×Oi)} {σ:St} {H:Hp} {s:NI} {a:NH} {xs ys:List V}
theorem cP.of {K:ND} (h:H a=GS (.lst xs)):cP K H a xs:= .inl (.inl h)
theorem gf.of {K:ND} (h:H a=GS (.tup xs)):gf K H a xs:= .inl (.inl h)
theorem au.list (I:au X V_ σ H s) (h:cP X.K H a xs):∃its:List NF,aC xs its/\PlainL s.heap a its.toArray/\xs.length<=sizeLine:=by
 rcases h with h|⟨o,its,n,hk,hc,hd,hs,hz,r⟩
 ·obtain⟨z,its,n,r,e⟩:=h.ok I.hok
  exact⟨its,r,⟨_,n,e,rfl,rfl,rfl⟩,z⟩
 ·refine⟨its.toList,r,⟨o,n,I.kIn a o hk,hc,hd,by simpa using hs⟩,?_⟩
  have e:=r.length;simp only[PR]at e;omega
theorem au.tuple (I:au X V_ σ H s) (h:gf X.K H a xs):∃its:List NF,aC xs its/\SE s.heap a its.toArray/\xs.length<=sizeLine:=by
 rcases h with h|⟨o,its,n,hk,hc,hs,hz,r⟩
 ·obtain⟨z,its,r,p⟩:=h.ok I.hok
  exact⟨its,r,p.tup,z⟩
 ·refine⟨its.toList,r,⟨o,I.kIn a o hk,hc,n,by simpa using hs⟩,?_⟩
  have e:=r.length;simp only[PR]at e;omega
theorem au.list_inj (I:au X V_ σ H s) (h:cP X.K H a xs) (h':cP X.K H a ys):xs=ys:=by
 obtain⟨its,r,⟨o,n,e,_,_,d⟩,_⟩:=I.list h;obtain⟨its',r',⟨o',n',e',_,_,d'⟩,_⟩:=I.list h';rw[e]at e';cases e';rw[d]at d';injection d' with d1 _;have:its=its':=by simpa using congrArg VQ d1
 subst this;exact r.inj r'
theorem au.tuple_inj (I:au X V_ σ H s) (h:gf X.K H a xs) (h':gf X.K H a ys):xs=ys:=by
 obtain⟨its,r,⟨o,e,_,n,d⟩,_⟩:=I.tuple h;obtain⟨its',r',⟨o',e',_,n',d'⟩,_⟩:=I.tuple h';rw[e]at e';cases e';rw[d]at d';injection d' with d1 _;have:its=its':=by simpa using congrArg VQ d1
 subst this;exact r.inj r'
end
abbrev Cx.wish (X:Cx) (E:NF->NI->Prop):Cx:={X with xe:=E}
abbrev Cx.nox (X:Cx):Cx:=X.wish λ_ _=>False
theorem Cx.Ok.wish {X:Cx} (ok:X.Ok) (E:NF->NI->Prop):(X.wish E).Ok:=
 ⟨ok.mod,ok.kind,ok.glob,ok.blt,ok.above,ok.inj,ok.has,ok.cab,ok.hd,ok.frames,ok.stk,ok.exf,ok.bs,ok.bsz,ok.noex,ok.exfs,ok.funs,ok.frf⟩
theorem Cx.Ok.unwish {X:Cx} {E:NF->NI->Prop} (ok:(X.wish E).Ok):X.Ok:=
 ⟨ok.mod,ok.kind,ok.glob,ok.blt,ok.above,ok.inj,ok.has,ok.cab,ok.hd,ok.frames,ok.stk,ok.exf,ok.bs,ok.bsz,ok.noex,ok.exfs,ok.funs,ok.frf⟩
section
variable {X:Cx} {V_:List (NH×Oi)} {σ:St} {H:Hp} {s:NI} {E:NF->NI->Prop}
theorem au.wish (I:au X V_ σ H s) (E:NF->NI->Prop):au (X.wish E) V_ σ H s:=⟨I.ok.wish E,I.os,I.bare,I.base,I.loc,I.cell,I.free,I.freeC,I.pin,I.hok,I.len⟩
theorem au.unwish (I:au (X.wish E) V_ σ H s):au X V_ σ H s:=⟨I.ok.unwish,I.os,I.bare,I.base,I.loc,I.cell,I.free,I.freeC,I.pin,I.hok,I.len⟩
theorem SP.unwish {D:o8} {f:Flow} {s':NI} (h:SP (X.wish E) V_ D f s'):SP X V_ D f s':=by
 cases f with
 |next=>obtain⟨σ',H',I,q⟩:=h;exact⟨σ',H',I.unwish,q⟩
 |brk=>obtain⟨σ',H',I,q⟩:=h;exact⟨σ',H',I.unwish,q⟩
 |cont=>obtain⟨σ',H',I,q⟩:=h;exact⟨σ',H',I.unwish,q⟩
 |ret u=>obtain⟨v,σ',H',I,r,q⟩:=h;exact⟨v,σ',H',I.unwish,r,q⟩
theorem PE.nox {e:NS} {t:TE} (h:PE X.nox e t):PE X e t:=λV_ s σ H Q I hw=>
 OS (h V_ s σ H Q (I.wish _) hw) (λ_ _ ⟨v,H',I',r,q⟩=>⟨v,H',I'.unwish,r,q⟩) λ_ _ z=>Pp z
theorem PT.nox {e:NS} {t:TT} (h:PT X.nox e t):PT X e t:=λV_ s σ H Q I hw=>
 OS (h V_ s σ H Q (I.wish _) hw) (λ_ _ ⟨H',I',q⟩=>⟨H',I'.unwish,q⟩) λ_ _ z=>Pp z
theorem qM.nox {st:List Ob} {t:TS} (h:qM X.nox st t):qM X st t:=λV_ s σ H D I hw=>
 OS (h V_ s σ H D (I.wish _) hw) (λ_ _ q=>q.unwish) λ_ _ z=>Pp z
end
section
variable {X:Cx} {st:Ob} {rest:List Ob} {t u:TS} {e:NS} {te:TE} {pos:Ox}
def K9:TS:=λD σ H=>D.nx σ H
def M6 (t u:TS):TS:=λD σ H=>t {D with nx:=u D} σ H
theorem ED:qM X [] K9:=λ_ _ σ H _ I h=>RO ⟨σ,H,I,h⟩
theorem w9 (h1:PS X st t) (h2:qM X rest u):qM X (st::rest) (M6 t u):=by
 intro V_ s σ H D I h;refine wpAny_execs_cons (bF (h1 V_ s σ H {D with nx:=u D} I h) λf s1 q=> ?_);cases f with
 |next=>
  obtain⟨σ',H',I',q⟩:=q;exact h2 V_ s1 σ' H' D I' q
 |ret v=>exact q
 |brk=>exact q
 |cont=>exact q
theorem yZ (h1:PS X st t):qM X [st] t:=by
 intro V_ s σ H D I h;refine wpAny_execs_cons (bF (h1 V_ s σ H D I h) λf s1 q=> ?_);cases f with
 |next=>exact RO q
 |ret v=>exact q
 |brk=>exact q
 |cont=>exact q
theorem au.quiet {σ:St} {s:NI} (I:au X V_ σ H s):interactive X.env=false:=by simp[interactive,I.ok.kind]
def Ka (te:TE):TS:=λD σ H=>te σ H λ_ H1=>D.nx σ H1
theorem og (he:PE X e te) (hs:ON e JT pos.line X.env=pure false:=by rfl):PS X (.Expr e pos) (Ka te):=by
 intro V_ s σ H D I h;exact wpAny_Expr_any (bF (he V_ s σ H _ I h) λv s1 ⟨x,H1,I1,r1,q1⟩=>⟨σ,H1,I1,q1⟩) I.quiet hs
def M7 (te:TE):TS:=λD σ H=>te σ H D.rt
theorem uM (he:PE X e te):PS X (.Return (GS e) pos) (M7 te):=by
 intro V_ s σ H D I h;exact wpAny_Return_some (bF (he V_ s σ H _ I h) λv s1 ⟨x,H1,I1,r1,q1⟩=>⟨x,σ,H1,I1,r1,q1⟩)
def M8 (c:TT) (t u:TS):TS:=λD σ H=>c σ H λb H1=>if b=true then t D σ H1 else u D σ H1
theorem GK {c:NS} {a b:List Ob} {tc:TT} (hc:PT X c tc) (ha:qM X a t) (hb:qM X b u):PS X (.If c a b pos) (M8 tc t u):=by
 intro V_ s σ H D I h;refine wpAny_If (bF (hc V_ s σ H _ I h) λd s1 z_=> ?_);obtain⟨H1,I1,q1⟩:=z_;cases d with
 |true=>exact ha V_ s1 σ H1 D I1 q1
 |false=>exact hb V_ s1 σ H1 D I1 q1
end
abbrev TG:=V->St->Hp->(St->Hp->Prop)->Prop
abbrev BS:=List V->St->Hp->(St->Hp->Prop)->Prop
def PG (X:Cx) (target:NS) (t:TG):Prop:=
 ∀(V_:List (NH×Oi)) (s:NI) (σ:St) (H:Hp) (v:V) (u:NF) (Q:St->Hp->Prop),au X V_ σ H s->aY v u->t v σ H Q->
  wpAny (NY X.prog X.w) X.A (Qu target X.env u) (λ_ s'=>∃σ' H',au X V_ σ' H' s'/\Q σ' H') X.xe s
def BU (X:Cx) (ts:List NS) (t:BS):Prop:=
 ∀(V_:List (NH×Oi)) (s:NI) (σ:St) (H:Hp) (vs:List V) (us:List NF) (Q:St->Hp->Prop),au X V_ σ H s->aC vs us->t vs σ H Q->
  wpAny (NY X.prog X.w) X.A (assignInOrder ((OV ts X.env).map (·.2)) us) (λ_ s'=>∃σ' H',au X V_ σ' H' s'/\Q σ' H') X.xe s
abbrev HM:=V->V->V->Hp->(Hp->Prop)->Prop
def Kb (X:Cx) (t:HM):Prop:=
 ∀(V_:List (NH×Oi)) (s:NI) (σ:St) (H:Hp) (o i v:V) (ov iv u:NF) (Q:Hp->Prop),au X V_ σ H s->aY o ov->aY i iv->aY v u->t o i v H Q->
  wpAny (NY X.prog X.w) X.A (VC ov iv u) (λ_ s'=>∃H',au X V_ σ H' s'/\Q H') X.xe s
section
variable {X:Cx} {pos:Ox}
def GL (i:Nat):TG:=λv σ H Q=>Q (σ.set i (GS v)) H
theorem uN {i:Nat} {x:NG} (hN:X.N.Nodup) (hi:X.N[i]? =GS x) (hx:yV X.env.scope x) (hf:X.fn x=true\/X.env.scope.names.lookup x=GS .local:=by first|exact .inl rfl|exact .inr rfl|assumption):PG X (.Name x pos) (GL i):=by
 intro V_ s σ H v u Q I r h;exact wpAny_assign_Name (qX I hN hi hx r (λs' I'=>⟨_,H,I',h⟩) hf)
def M9:BS:=λvs σ H Q=>vs=[]/\Q σ H
def Kc (t:TG) (u:BS):BS:=λvs σ H Q=>∃v r,vs=v::r/\t v σ H λσ' H'=>u r σ' H' Q
theorem EG:BU X [] M9:=by
 intro V_ s σ H vs us Q I r h;obtain⟨e,h⟩:=h;subst e;cases r;exact assignInOrder_nil ⟨σ,H,I,h⟩
theorem BV {t:TG} {u:BS} (h1:PG X e t) (h2:BU X es u) (hs:(OV (e::es) X.env).map (·.2)=Qu e X.env::(OV es X.env).map (·.2):=by rfl):BU X (e::es) (Kc t u):=by
 intro V_ s σ H vs us Q I r h;obtain⟨v,vr,e1,h⟩:=h;subst e1;cases r with
 |cons r rr=>
  rw[hs];refine assignInOrder_cons (bF (h1 V_ s σ H _ _ _ I r h) λ_ s1 z_=> ?_);obtain⟨σ1,H1,I1,q1⟩:=z_;exact h2 V_ s1 σ1 H1 _ _ Q I1 rr q1
def Ma (K:ND) (n:Nat) (t:BS):TG:=λv σ H Q=>∃a xs,v= .ref a/\gf K H a xs/\xs.length=n/\t xs σ H Q
theorem BW {k:Nat} {t:BS} (hc:X.calm=true) (h:BU X es t) (hn:(OV es X.env).length=n:=by rfl) (W_:(OV es X.env).findIdx? (·.1)=JT:=by rfl):PG X (.Tuple es k pos) (Ma X.K n t):=by
 intro V_ s σ H v u Q I r hw;obtain⟨a,xs,e1,hq,hl,hw⟩:=hw;subst e1;cases r;obtain⟨its,rv,ht,hz⟩:=I.tuple hq;refine assign_Tuple_tuple (I.ok.hd hc) ht (by simp[hn,<-hl,rv.length]) W_ λh' hx=> ?_;have I1:au X V_ σ H {s with heap:=h'}:=I.kept (t':=s.toks) λb o e=>hx b o (Og (NX e)) e;exact h V_ _ σ H xs _ Q I1 (by simpa using rv) hw
def Mb (to ti:TE) (t:HM):TG:=λv σ H Q=>to σ H λo H1=>ti σ H1 λi H2=>t o i v H2 λH3=>Q σ H3
theorem HN {o i:NS} {to ti:TE} {t:HM} (ho:PE X o to) (hi:PE X i ti) (hs:Kb X t) (ha:∀v,Qu (.Subscript o i pos) X.env v=(do let ov<-Q9 [v] (O8 o X.env) let iv<-Q9 [v,ov] (O8 i X.env) QZ pos Q9 [v,ov,iv] (VC ov iv v) release [v,ov,iv] []):=by intro _;rfl):PG X (.Subscript o i pos) (Mb to ti t):=by
 intro V_ s σ H v u Q I r h;rw[ha];refine NJ (Oq (bF (ho V_ s σ H _ I h) λov s1 z_=> ?_));obtain⟨x,H1,I1,r1,q1⟩:=z_;refine NJ (Oq (bF (hi V_ s1 σ H1 _ I1 q1) λiv s2 z_=> ?_));obtain⟨y,H2,I2,r2,q2⟩:=z_;refine NJ (Q8 (NJ (Oq (bF (hs V_ s2 σ H2 x y v ov iv u _ I2 r1 r2 r q2) λ_ s3 z_=> ?_))));obtain⟨H3,I3,q3⟩:=z_;exact wpAny_release ⟨σ,H3,I3,q3⟩
def HP (te:TE) (g:TG):TS:=λD σ H=>te σ H λx H1=>g x σ H1 D.nx
theorem xG {te:TE} {g:TG} (he:PE X e te) (hg:PG X tg g) (hs:Sh [tg] e pos.line X.env=pure false:=by rfl) (hw:Si [tg] e X.env=pure JT:=by rfl) (h1:(OV [tg] X.env).map (·.2)=[Qu tg X.env]:=by rfl):PS X (.Assign [tg] e pos) (HP te g):=by
 intro V_ s σ H D I h;refine wpAny_Assign_stores (bF (he V_ s σ H _ I h) λv s1 z_=> ?_) hs hw;obtain⟨x,H1,I1,r1,q1⟩:=z_;rw[h1];exact bF (hg V_ s1 σ H1 x v _ I1 r1 q1) λ_ s2 q=>q
theorem nq {i:Nat} {x:NG} {te:TE} {We:Ox} (hN:X.N.Nodup) (hi:X.N[i]? =GS x) (hx:yV X.env.scope x) (he:PE X e te) (hs:ON e (GS (.Name x We)) pos.line X.env=pure false:=by rfl) (hf:X.fn x=true\/X.env.scope.names.lookup x=GS .local:=by first|exact .inl rfl|exact .inr rfl|assumption): PS X (.Assign [.Name x We] e pos) (HP te (GL i)):=by
 intro V_ s σ H D I h;refine wpAny_Assign_Name (bF (he V_ s σ H _ I h) λv s1 z_=> ?_) hs;obtain⟨y,H1,I1,r1,q1⟩:=z_;exact qX I1 hN hi hx r1 (λs2 I2=>⟨_,H1,I2,q1⟩) hf
end
section
variable {X:Cx} {pos:Ox}
end
structure It where
 go:Nat->Hp->Prop
 yld:Nat->Hp->V->Hp->Prop
 stop:Nat->Hp->Prop
def i7 (X:Cx) (V_:List (NH×Oi)) (H:Hp) (b:NH):Prop:= H b=JT/\b≠X.env.locals/\b∉X.fs/\(b∈X.ex\/X.s₀.heap.objs.size<=b)/\(∀x c,X.env.cells.lookup x=GS c->c≠b)/\∀p∈X.pn++V_,p.1≠b
theorem au.fpOk {X:Cx} {σ:St} {s:NI} {b:NH} (I:au X V_ σ H s) (hb:s.heap.objs.size<=b) (hn:H' b=JT):i7 X V_ H' b:=by
 refine⟨hn,UD (Ol I.lt hb),I.nofs hb, .inr (Ou I.sz hb),λx c e z=> ?_,λp hp z=> ?_⟩
 ·obtain⟨v,q⟩:=I.cell x c e
  exact absurd (Ol q.lt (by rw[z];exact hb)) (OA _)
 ·exact absurd (Ol (NX (I.pin p hp).1) (by rw[z];exact hb)) (OA _)
structure wa (P:NM) (w:NV) (K:ND) (tg:NS) (J:It) (fp:List NH) (it:NH) (tn:Nat->NT->Prop):Prop where
 mem:it∈fp
 obj:∀i h,tn i h->∀b∈fp,∃o,h.get? b=GS o/\∀v,o.data≠ .cell v
 keep:∀i h h',tn i h->(∀b∈fp,∀o,h.get? b=GS o->h'.get? b=GS o)->tn i h'
 item:∀(X:Cx),X.prog=P->X.w=w->X.K=K->X.calm=true->∀(i:Nat) (V_:List (NH×Oi)) (s:NI) (σ:St) (H:Hp) (E:NF->NI->Prop),au X V_ σ H s->(∀b∈fp,i7 X V_ H b)->tn i s.heap->J.go i H->
  wpAny (NY P w) X.A (pyNext (.ref it)) (λr s1=>∃u,r=GS u/\
   wpAny (NY P w) X.A (Tq tg (.ref it) u) (λ_ s2=>∃x H',au X V_ σ H' s2/\aY x u/\J.yld i H x H'/\tn (i+1) s2.heap/\∀b∈fp,H' b=JT) E s1) E s
 done:∀(X:Cx),X.prog=P->X.w=w->X.K=K->X.calm=true->∀(i:Nat) (V_:List (NH×Oi)) (s:NI) (σ:St) (H:Hp) (E:NF->NI->Prop),au X V_ σ H s->(∀b∈fp,i7 X V_ H b)->tn i s.heap->J.stop i H->
  wpAny (NY P w) X.A (pyNext (.ref it)) (λr s1=>r=JT/\au X V_ σ H s1) E s
 self:∀(A:Oc) (i:Nat) (s:NI) (Q:NF->NI->Prop) (E:NF->NI->Prop),tn i s.heap->Q (.ref it) s->wpAny (NY P w) A (UE (.ref it)) Q E s
abbrev TI:=St->Hp->(It->Hp->Prop)->Prop
def M_ (X:Cx) (V_:List (NH×Oi)) (σ:St) (tg:NS) (R:It->Hp->Prop) (a1S:NF) (s2:NI):Prop:= ∃(it:NH) (fp:List NH) (tn:Nat->NT->Prop) (J:It) (H':Hp),a1S= .ref it/\au X V_ σ H' s2/\wa X.prog X.w X.K tg J fp it tn/\tn 0 s2.heap/\(∀b∈fp,i7 X V_ H' b)/\R J H'
def PI (X:Cx) (tg iter:NS) (wi:TI):Prop:=
 ∀(V_:List (NH×Oi)) (s:NI) (σ:St) (H:Hp) (R:It->Hp->Prop),au X V_ σ H s->wi σ H R->
  wpAny (NY X.prog X.w) X.A (O8 iter X.env) (λv s1=>wpAny (NY X.prog X.w) X.A (UE v) (M_ X V_ σ tg R) X.xe s1) X.xe s
theorem BX {M:To} {A:Oc} {E:NF->NI->Prop} {s:NI} {it:NH} {u:NF} {o:Oi} {n:String} {vs:Array NF} {Q:Unit->NI->Prop} (ho:s.heap.get? it=GS o) (hc:o.cls= .type n) (hd:o.data= .fields vs) (hn:["enumerate","zip","dict_itemiterator","dict_reverseitemiterator","odict_iterator","itertools.zip_longest","itertools.pairwise"].contains n=false) (hQ:Q () s):wpAny M A (Tq tg (.ref it) u) Q E s:=by
 unfold Tq;cases tg<;>first
  |exact NQ hQ
  |(cases u<;>first
    |exact NQ hQ
    |(refine NJ (wpAny_load ho ?_)
      rw[hc,hd];show wpAny M A (if (["enumerate","zip","dict_itemiterator","dict_reverseitemiterator","odict_iterator","itertools.zip_longest","itertools.pairwise"].contains n&&vs[0]? ==GS (rawInt _))=true then _ else _) Q E s;rw[if_neg (by intro h;rw[hn,TN]at h;cases h)];exact NQ hQ))
def LJ (K:ND) (a:NH):It:=
 ⟨λi H=>∃xs x,cP K H a xs/\xs[i]? =GS x,λi H x H'=>H'=H/\∀xs,cP K H a xs->xs[i]? =GS x,λi H=>∃xs,cP K H a xs/\xs.length<=i⟩
def Mc (K:ND) (a:NH):It:=
 ⟨λi H=>∃xs x,gf K H a xs/\xs[i]? =GS x,λi H x H'=>H'=H/\∀xs,gf K H a xs->xs[i]? =GS x,λi H=>∃xs,gf K H a xs/\xs.length<=i⟩
def Kd (lo:Int) (n:Nat):It:=⟨λi _=>i<n,λi H x H'=>H'=H/\x= .int (lo+i),λi _=>n<=i⟩
theorem Ah {w:NV} {K:ND} (a it:NH):wa P w K tg (LJ K a) [it] it (λi h=>h.IsListIter it a i)where
 mem:=by simp
 obj:=λi h st b hb=>by
  have e:b=it:=by simpa using hb
  subst e;obtain⟨o,e,c,d⟩:=st;exact⟨o,e,λv z=>by rw[d]at z;cases z⟩
 keep:=λi h h' st k=>st.at λo e=>k it (by simp) o e
 item:=by
  intro X hP hw hK hc i V_ s σ H E I hf st hg;subst hP hw hK;obtain⟨xs,x,hq,hx⟩:=hg;obtain⟨its,rv,p,hz⟩:=I.list hq;obtain⟨u,hu,ru⟩:=rv.get hx;obtain⟨f0,f1,f2,f3,f4,f5⟩:=hf it (by simp);refine wpAny_pyNext_list_item st p.isList (x:=u) (by simpa using hu) λh' Zs sb=> ?_;have I1:au X V_ σ H {s with heap:=h'}:=I.turned (t':=s.toks) (λb o hb e=>(sb.2 b hb).trans e) f0 f1 f3 f4 f5;obtain⟨o,e,c,d⟩:=id Zs;exact⟨u,rfl,BX (s:={s with heap:=h'}) e c d (by decide) ⟨x,H,I1,ru,⟨rfl,λys hy=>by rw[I.list_inj hy hq];exact hx⟩,Zs,λb hb=>(hf b hb).1⟩⟩
 done:=by
  intro X hP hw hK hc i V_ s σ H E I hf st hg;subst hP hw hK;obtain⟨xs,hq,hx⟩:=hg;obtain⟨its,rv,p,hz⟩:=I.list hq;obtain⟨f0,f1,f2,f3,f4,f5⟩:=hf it (by simp);have hl:=rv.length;exact wpAny_pyNext_list_end (I.ok.hd hc) st p.isList (by simp;omega) λh' eb=>⟨rfl,I.turned (t':=s.toks) (λb o hb e=>eb b o hb e) f0 f1 f3 f4 f5⟩
 self:=λ_ _ _ _ _ st h=>wpAny_pyIter_listiter st h
theorem xH {w:NV} {K:ND} (a it:NH):wa P w K tg (Mc K a) [it] it (λi h=>h.IsTupleIter it a i)where
 mem:=by simp
 obj:=λi h st b hb=>by
  have e:b=it:=by simpa using hb
  subst e;obtain⟨o,e,c,d⟩:=st;exact⟨o,e,λv z=>by rw[d]at z;cases z⟩
 keep:=λi h h' st k=>st.at λo e=>k it (by simp) o e
 item:=by
  intro X hP hw hK hc i V_ s σ H E I hf st hg;subst hP hw hK;obtain⟨xs,x,hq,hx⟩:=hg;obtain⟨its,rv,p,hz⟩:=I.tuple hq;obtain⟨u,hu,ru⟩:=rv.get hx;obtain⟨f0,f1,f2,f3,f4,f5⟩:=hf it (by simp);refine wpAny_pyNext_tuple_item st (show s.heap.IsTuple a its.toArray from p) (x:=u) (by simpa using hu) λh' Zs sb=> ?_;have I1:au X V_ σ H {s with heap:=h'}:=I.turned (t':=s.toks) (λb o hb e=>(sb.2 b hb).trans e) f0 f1 f3 f4 f5;obtain⟨o,e,c,d⟩:=id Zs;exact⟨u,rfl,BX (s:={s with heap:=h'}) e c d (by decide) ⟨x,H,I1,ru,⟨rfl,λys hy=>by rw[I.tuple_inj hy hq];exact hx⟩,Zs,λb hb=>(hf b hb).1⟩⟩
 done:=by
  intro X hP hw hK hc i V_ s σ H E I hf st hg;subst hP hw hK;obtain⟨xs,hq,hx⟩:=hg;obtain⟨its,rv,p,hz⟩:=I.tuple hq;obtain⟨f0,f1,f2,f3,f4,f5⟩:=hf it (by simp);have hl:=rv.length;exact wpAny_pyNext_tuple_end (I.ok.hd hc) st (show s.heap.IsTuple a its.toArray from p) (by simp;omega) λh' eb=>⟨rfl,I.turned (t':=s.toks) (λb o hb e=>eb b o hb e) f0 f1 f3 f4 f5⟩
 self:=λ_ _ _ _ _ st h=>wpAny_pyIter_tupleiter st h
theorem xI {w:NV} {K:ND} (it:NH) (lo:Int) (n:Nat):wa P w K tg (Kd lo n) [it] it (λi h=>IsRangeIter h it (lo+(i:Nat)*1) ((n:Int) - (i:Nat)) 1)where
 mem:=by simp
 obj:=λi h st b hb=>by
  have e:b=it:=by simpa using hb
  subst e;exact⟨_,st,λv z=>by
   have z':Data.fields _=Data.cell v:=z;cases z'⟩
 keep:=λi h h' st k=>k it (by simp) _ st
 item:=by
  intro X hP hw hK hc i V_ s σ H E I hf st hg;subst hP hw hK;obtain⟨f0,f1,f2,f3,f4,f5⟩:=hf it (by simp);have W:=Walks.range (prog:=X.prog) (w:=X.w) (I.ok.hd hc) it lo 1 n;refine W.item i s _ _ hg st λv h' tk hv Zs kk=> ?_;obtain⟨t,rfl⟩:=hv;have I1:au X V_ σ H {s with heap:=h',toks:=tk}:=I.turned (λb o hb e=>kk b o (by simpa using hb) e) f0 f1 f3 f4 f5;refine⟨_,rfl,BX (s:={s with heap:=h',toks:=tk}) (n:="range_iterator") Zs rfl rfl (by decide) ⟨.int (lo+i),H,I1,⟨t,?_⟩,⟨rfl,rfl⟩,Zs,λb hb=>(hf b hb).1⟩⟩;rw[Int.mul_one]
 done:=by
  intro X hP hw hK hc i V_ s σ H E I hf st hg;subst hP hw hK;obtain⟨f0,f1,f2,f3,f4,f5⟩:=hf it (by simp);exact wpAny_pyNext_range_end (I.ok.hd hc) st (by have:n<=i:=hg;omega) λh' eb=>⟨rfl,I.turned (t':=s.toks) (λb o hb e=>eb b o hb e) f0 f1 f3 f4 f5⟩
 self:=λ_ _ _ _ _ st h=>wpAny_pyIter_rangeiter st h
end L2
variable {σ:L2.St} {j:Nat} {K:ND} {w:NV} {env:Pw} {A:Oc} {mg:NG->Option NF} {base:NT} {outer:List Pw} {N:List NG} {X:L2.Cx}
namespace L2
section
variable {X:Cx} {tg:NS}
def Ke (K:ND) (tl:TE):TI:=λσ H R=>tl σ H λx H1=>∃a,x= .ref a/\(∃xs,cP K H1 a xs)/\R (LJ K a) H1
def Md (K:ND) (tl:TE):TI:=λσ H R=>tl σ H λx H1=>∃a,x= .ref a/\(∃xs,gf K H1 a xs)/\R (Mc K a) H1
theorem uO {l:NS} {tl:TE} (hl:PE X l tl):PI X tg l (Ke X.K tl):=by
 intro V_ s σ H R I h;refine bF (hl V_ s σ H _ I h) λv s1 z_=> ?_;obtain⟨x,H1,I1,r1,q1⟩:=z_;obtain⟨a,e,⟨xs,hq⟩,q⟩:=q1;subst e;cases r1;obtain⟨its,rv,p,hz⟩:=I1.list hq;refine QJ p.isList ?_;refine⟨s1.heap.objs.size,[s1.heap.objs.size],_,_,H1,rfl,I1.kept (t':=s1.toks) λb o e=>NO _ e,Ah a _,⟨_,Oe _ rfl,rfl,rfl⟩,λb hb=> ?_,q⟩;have e:b=s1.heap.objs.size:=by simpa using hb
 subst e;exact I1.fpOk (O2 _) (I1.hok.fresh (O2 _))
theorem HQ {l:NS} {tl:TE} (hl:PE X l tl):PI X tg l (Md X.K tl):=by
 intro V_ s σ H R I h;refine bF (hl V_ s σ H _ I h) λv s1 z_=> ?_;obtain⟨x,H1,I1,r1,q1⟩:=z_;obtain⟨a,e,⟨xs,hq⟩,q⟩:=q1;subst e;cases r1;obtain⟨its,rv,p,hz⟩:=I1.tuple hq;refine S7 (show s1.heap.IsTuple a its.toArray from p) ?_;refine⟨s1.heap.objs.size,[s1.heap.objs.size],_,_,H1,rfl,I1.kept (t':=s1.toks) λb o e=>NO _ e,xH a _,⟨_,Oe _ rfl,rfl,rfl⟩,λb hb=> ?_,q⟩;have e:b=s1.heap.objs.size:=by simpa using hb
 subst e;exact I1.fpOk (O2 _) (I1.hok.fresh (O2 _))
theorem wc {s:NI} {R:It->Hp->Prop} {E:NF->NI->Prop} {lo hi:Int} {t u v:S6} {tk:Nat} (I:au X V_ σ H s) (h1: -(2 ^62)<=lo) (h2:lo<2 ^62) (h3: -(2 ^62)<=hi) (h4:hi<2 ^62) (q:R (Kd lo (hi - lo).toNat) H):wpAny (NY X.prog X.w) X.A (UE (.ref s.heap.objs.size)) (M_ X V_ σ tg R) E {s with heap:=s.heap.push {cls:= .type "range",data:= .fields #[.int lo t, .int hi u, .int 1 v]},toks:=tk}:=by
 refine wpAny_pyIter_range (IsRange.new ..) (small_one h1 h2 h3 h4) ?_;have I1:au X V_ σ H {s with heap:=s.heap.push {cls:= .type "range",data:= .fields #[.int lo t, .int hi u, .int 1 v]},toks:=tk}:=I.kept λb o e=>NO _ e;refine⟨(s.heap.push {cls:= .type "range",data:= .fields #[.int lo t, .int hi u, .int 1 v]}).objs.size,[(s.heap.push {cls:= .type "range",data:= .fields #[.int lo t, .int hi u, .int 1 v]}).objs.size],_,_,H,rfl,
  I1.kept (t':=tk) λb o e=>NO _ e,xI _ lo (hi - lo).toNat,?_,λb hb=> ?_,q⟩
 ·have e1:lo+((0:Nat):Int)*1=lo:=by simp
  have e2:(((hi - lo).toNat:Nat):Int) - ((0:Nat):Int)=Builtin.Range.rangeSize lo hi 1:=by rw[rangeSize_one];split<;>omega
  show IsRangeIter _ _ (lo+((0:Nat):Int)*1) ((((hi - lo).toNat:Nat):Int) - ((0:Nat):Int)) 1;rw[e1,e2];exact Oe _ rfl
 ·have e:b=(s.heap.push {cls:= .type "range",data:= .fields #[.int lo t, .int hi u, .int 1 v]}).objs.size:=by simpa using hb
  subst e;exact I1.fpOk (O2 _) (I1.hok.fresh (O2 _))
def Kf (ta:TA):TI:=λσ H R=>ta σ H λvs H1=>∃j:Int,vs=[.int j]/\ -(2 ^62)<=j/\j<2 ^62/\R (Kd 0 j.toNat) H1
def Kg (ta:TA):TI:=λσ H R=>ta σ H λvs H1=>∃i j:Int,vs=[.int i, .int j]/\(-(2 ^62)<=i/\i<2 ^62/\ -(2 ^62)<=j/\j<2 ^62)/\R (Kd i (j - i).toNat) H1
theorem Ai {a:NS} {ta:TA} {p pos:Ox} (hg:Gl X "range") (hm:X.mg "range"=JT) (ha:PA X [a] ta) (hs:NL [a] X.env=[(false,O8 a X.env)]:=by rfl):PI X tg (.Call (.Name "range" p) [a] [] pos) (Kf ta):=by
 intro V_ s σ H R I h;refine Call_ (nk I hg hm boot_range (Qe (bF (ha pos V_ s σ H _ I h) λus s1 z_=> ?_) hs rfl));obtain⟨vs,H1,I1,r1,q1⟩:=z_;obtain⟨j,e,q1,q2,q⟩:=q1;subst e;cases r1 with
 |cons r rr=>
  cases rr;obtain⟨t,rfl⟩:=r;exact call_range_1 (wc I1 (by omega) (by omega) q1 q2 (by simpa using q))
theorem Aj {a b:NS} {ta:TA} {p pos:Ox} (hg:Gl X "range") (hm:X.mg "range"=JT) (ha:PA X [a,b] ta) (hs:NL [a,b] X.env=[(false,O8 a X.env),(false,O8 b X.env)]:=by rfl) (Yy:NL [b] X.env=[(false,O8 b X.env)]:=by rfl): PI X tg (.Call (.Name "range" p) [a,b] [] pos) (Kg ta):=by
 intro V_ s σ H R I h;refine Call_ (nk I hg hm boot_range (Qe (bF (ha pos V_ s σ H _ I h) λus s1 z_=> ?_) (by rw[hs,Yy]) (by rw[Yy];rfl)));obtain⟨vs,H1,I1,r1,q1⟩:=z_;obtain⟨i,j,e,⟨q1,q2,q3,q4⟩,q⟩:=q1;subst e;cases r1 with
 |cons r rr=>
  cases rr with
  |cons r' rr=>
   cases rr;obtain⟨t,rfl⟩:=r;obtain⟨t',rfl⟩:=r';exact call_range_2 (wc I1 q1 q2 q3 q4 q)
def Kh (wi:TI) (g:TG) (tb:TS):TS:=λD σ H=>wi σ H λJ H1=>∃W:Nat->Nat->St->Hp->Prop,(∃m,W 0 m σ H1)/\∀i m σ H,W i m σ H->
 (J.stop i H/\D.nx σ H)\/(J.go i H/\∃N:St->Hp->Prop,(∀σ' H',N σ' H'->∃m',m'<m/\W (i+1) m' σ' H')/\∀x H',J.yld i H x H'->g x σ H' λσ2 H2=>tb {D with nx:=N,ct:=N,bk:=D.nx} σ2 H2)
def pA (fp:List NH) (h:NT):List (NH×Oi):=fp.filterMap λb=>(h.get? b).map λo=>(b,o)
theorem gg {b:NH} {o:Oi} (hb:b∈fp) (e:h.get? b=GS o):(b,o)∈pA fp h:=S8.mpr ⟨b,hb,by rw[e];rfl⟩
theorem Ak {p:NH×Oi} (hp:p∈pA fp h):p.1∈fp/\h.get? p.1=GS p.2:=by
 obtain⟨b,hb,e⟩:=S8.mp hp;cases q:h.get? b with
 |none=>rw[q]at e;cases e
 |some o=>
  rw[q]at e;have e':(b,o)=p:=OR e;subst e';exact⟨hb,q⟩
theorem au.pinned {s:NI} (I:au X V_ σ H s) (hf:∀b∈fp,i7 X V_ H b) (ho:∀b∈fp,∃o,s.heap.get? b=GS o/\∀v,o.data≠ .cell v):au X (V_++pA fp s.heap) σ H s:=
 I.pins_of λp hp=>(OF.mp hp).elim (λz=>I.pin p (O7 _ z)) λz=>by
  obtain⟨hb,e⟩:=Ak z;obtain⟨f0,f1,f2,_⟩:=hf p.1 hb;obtain⟨o,e',d⟩:=ho p.1 hb;rw[e]at e';cases e';exact⟨e,f0,f1,f2,d⟩
theorem au.unpinned {pl:List (NH×Oi)} {s:NI} (I:au X (V_++pl) σ H s):au X V_ σ H s:=I.pins_of λp hp=>I.pin p (O7 _ (O_ _ hp))
theorem HR {iter:NS} {body:List Ob} {wi:TI} {g:TG} {tb:TS} {pos:Ox} (hp:PassesOwn (NY X.prog X.w) X.A X.env X.xe) (hc:X.calm=true) (hi:PI X tg iter wi) (hg:PG X tg g) (hb:qM X body tb) (hs:∀x,P8 iter X.env x=pure x:=by intro _;rfl):PS X (.For tg iter body [] pos) (Kh wi g tb):=by
 intro V_ s σ H D I h;refine wpAny_For (bF (hi V_ s σ H _ I h) λv s1 h1=>bF h1 λa1S s2 h2=> ?_) hs;obtain⟨it,fp,tn,J,H2,e,I2,T,Zt,f2,W,⟨m0,w0⟩,a0b⟩:=h2;subst e;have XN:∀{H':Hp},(∀b∈fp,H' b=JT)->∀b∈fp,i7 X V_ H' b:=λhn b hb=>⟨hn b hb,(f2 b hb).2⟩;refine codeAny_forLoop_any (λn s'=>∃i σ' H',au X V_ σ' H' s'/\tn i s'.heap/\(∀b∈fp,H' b=JT)/\W i n σ' H') ?_ m0 ⟨0,σ,H2,I2,Zt,λb hb=>(f2 b hb).1,w0⟩
 rintro n s3 ⟨i,σ3,H3,I3,a4m,a4n,w3⟩
 rcases a0b i n σ3 H3 w3 with ⟨stop,qn⟩|⟨go,N,hN,step⟩
 ·refine R3 hp (bF (T.done X rfl rfl rfl hc i V_ s3 σ3 H3 X.xe I3 (XN a4n) a4m stop) λr s4 z_=> ?_)
  obtain⟨hr,I4⟩:=z_;subst hr;exact RO ⟨σ3,H3,I4,qn⟩
 ·refine R3 hp (bF (T.item X rfl rfl rfl hc i V_ s3 σ3 H3 X.xe I3 (XN a4n) a4m go) λr s4 z_=> ?_)
  obtain⟨u,hr,h4⟩:=z_;subst hr;refine R3 hp (bF h4 λ_ s5 z_=> ?_);obtain⟨x,H5,I5,r5,y5,a32,a4Y⟩:=z_;have a4Z:=I5.pinned (XN a4Y) (T.obj _ _ a32);refine R3 hp (bF (hg _ s5 σ3 H5 x u _ a4Z r5 (step x H5 y5)) λ_ s6 z_=> ?_);obtain⟨σ6,H6,I6,q6⟩:=z_;refine R3 hp (bF (hb _ s6 σ6 H6 _ I6 q6) λf s7 q7=> ?_);have again:∀{σ7:St} {H7:Hp},au X (V_++pA fp s5.heap) σ7 H7 s7->N σ7 H7->∃m,m<n/\∃i σ' H',au X V_ σ' H' s7/\tn i s7.heap/\(∀b∈fp,H' b=JT)/\W i m σ' H':=λ{σ7 H7} I7 n7=>by
   obtain⟨m',hm,w7⟩:=hN σ7 H7 n7;refine⟨m',hm,i+1,σ7,H7,I7.unpinned,T.keep _ _ _ a32 λb hb o e=>(I7.pin (b,o) (O7 _ (O7 _ (gg hb e)))).1,λb hb=> ?_,w7⟩;obtain⟨o,e,d⟩:=T.obj _ _ a32 b hb;exact(I7.pin (b,o) (O7 _ (O7 _ (gg hb e)))).2.1
  cases f with
  |next=>obtain⟨σ7,H7,I7,n7⟩:=q7;exact again I7 n7
  |cont=>obtain⟨σ7,H7,I7,n7⟩:=q7;exact again I7 n7
  |brk=>obtain⟨σ7,H7,I7,q7⟩:=q7;exact⟨σ7,H7,I7.unpinned,q7⟩
  |ret v=>obtain⟨x7,σ7,H7,I7,r7,q7⟩:=q7;exact⟨x7,σ7,H7,I7.unpinned,r7,q7⟩
end
abbrev R2:=V->V->Hp->VK->Prop
def kU (X:Cx) (f:NF->NF->QD NF) (r:R2):Prop:= ∀(V_:List (NH×Oi)) (s:NI) (σ:St) (H:Hp) (x y:V) (v u:NF) (Q:VK),au X V_ σ H s->aY x v->aY y u->r x y H Q-> wpAny (NY X.prog X.w) X.A (f v u) (EP X V_ σ Q) X.xe s
def LK (X:Cx) (f:NF->QD NF) (r:V->Hp->VK->Prop):Prop:= ∀(V_:List (NH×Oi)) (s:NI) (σ:St) (H:Hp) (x:V) (v:NF) (Q:VK),au X V_ σ H s->aY x v->r x H Q-> wpAny (NY X.prog X.w) X.A (f v) (EP X V_ σ Q) X.xe s
def cJ (X:Cx) (f:NF) (r:List V->Hp->VK->Prop):Prop:= ∀(V_:List (NH×Oi)) (s:NI) (σ:St) (H:Hp) (xs:List V) (us:List NF) (Q:VK),au X V_ σ H s->aC xs us->r xs H Q-> wpAny (NY X.prog X.w) X.A (call f us) (EP X V_ σ Q) X.xe s
def Me (X:Cx) (r:V->Hp->(Bool->Hp->Prop)->Prop):Prop:= ∀(V_:List (NH×Oi)) (s:NI) (σ:St) (H:Hp) (x:V) (v:NF) (Q:Bool->Hp->Prop),au X V_ σ H s->aY x v->r x H Q-> wpAny (NY X.prog X.w) X.A (truthy v) (TP X V_ σ Q) X.xe s
def LL (r:R2) (ta tb:TE):TE:=λσ H Q=>ta σ H λx H1=>tb σ H1 λy H2=>r x y H2 Q
def Nh (r:V->Hp->VK->Prop) (ta:TE):TE:=λσ H Q=>ta σ H λx H1=>r x H1 Q
def rI (C:Int->Int->Prop) (g:Int->Int->V):R2:=λx y H Q=>∃i j,x= .int i/\y= .int j/\C i j/\Q (g i j) H
def Al (g:Int->Int->V):R2:=λx y H Q=>∃i j,x= .int i/\y= .int j/\Q (g i j) H
def rU (g:Int->V):V->Hp->VK->Prop:=λx H Q=>∃i,x= .int i/\Q (g i) H
section
variable {X:Cx} {a b c:NS} {ta tb tc:TE} {pos:Ox}
theorem HS (ha:PE X a ta) (hb:PE X b tb) {V_:List (NH×Oi)} {s:NI} {σ:St} {H:Hp} {R:V->V->Hp->Prop} (I:au X V_ σ H s) (h:ta σ H λx H1=>tb σ H1 λy H2=>R x y H2) {Q:NF->NI->Prop} {f:NF->NF->QD NF} (hf:∀v u s2 x y H2,au X V_ σ H2 s2->aY x v->aY y u->R x y H2->wpAny (NY X.prog X.w) X.A (f v u) Q X.xe s2): wpAny (NY X.prog X.w) X.A (O8 a X.env) (λv s₁=>wpAny (NY X.prog X.w) X.A (O8 b X.env) (λu s₂=>wpAny (NY X.prog X.w) X.A (f v u) Q X.xe s₂) X.xe s₁) X.xe s:=by
 refine bF (ha V_ s σ H _ I h) λv s1 z_=> ?_;obtain⟨x,H1,I1,r1,q1⟩:=z_;refine bF (hb V_ s1 σ H1 _ I1 q1) λu s2 z_=> ?_;obtain⟨y,H2,I2,r2,q2⟩:=z_;exact hf v u s2 x y H2 I2 r1 r2 q2
theorem GN {op:Operator} {r:R2} (ho:kU X (Q1 op) r) (ha:PE X a ta) (hb:PE X b tb):PE X (.BinOp a op b pos) (LL r ta tb):=by
 intro V_ s σ H Q I h;exact wpAny_BinOp (HS ha hb I h λv u s2 x y H2 I2 rx ry q=>ho V_ s2 σ H2 x y v u Q I2 rx ry q)
theorem GO {op:UnaryOp} {r:V->Hp->VK->Prop} (ho:LK X (unaryOp op) r) (ha:PE X a ta):PE X (.UnaryOp op a pos) (Nh r ta):=by
 intro V_ s σ H Q I h;exact UnaryOp_ (bF (ha V_ s σ H _ I h) λv s1 ⟨x,H1,I1,r1,q1⟩=>ho V_ s1 σ H1 x v Q I1 r1 q1)
theorem Mf {f:NF->NF->QD NF} {C:Int->Int->Prop} {g:Int->Int->Int} (rule:∀(i j:Int) (t u:S6) (s:NI) (Q:NF->NI->Prop) (E:NF->NI->Prop),C i j->Q (.int (g i j) s.toks) {s with toks:=s.toks+1}->wpAny (NY X.prog X.w) X.A (f (.int i t) (.int j u)) Q E s): kU X f (rI C λi j=> .int (g i j)):=by
 intro V_ s σ H x y v u Q I rx ry h;obtain⟨i,j,rfl,rfl,hc,q⟩:=h;obtain⟨t,rfl⟩:=rx;obtain⟨t',rfl⟩:=ry;exact rule i j t t' s _ _ hc ⟨.int (g i j),H,I.tok _,⟨_,rfl⟩,q⟩
theorem Ki {f:NF->NF->QD NF} {g:Int->Int->Int} (rule:∀(i j:Int) (t u:S6) (s:NI) (Q:NF->NI->Prop) (E:NF->NI->Prop),Q (.int (g i j) s.toks) {s with toks:=s.toks+1}->wpAny (NY X.prog X.w) X.A (f (.int i t) (.int j u)) Q E s): kU X f (Al λi j=> .int (g i j)):=by
 intro V_ s σ H x y v u Q I rx ry h;obtain⟨i,j,rfl,rfl,q⟩:=h;obtain⟨t,rfl⟩:=rx;obtain⟨t',rfl⟩:=ry;exact rule i j t t' s _ _ ⟨.int (g i j),H,I.tok _,⟨_,rfl⟩,q⟩
theorem HU {f:NF->NF->QD NF} {g:Int->Int->Bool} (rule:∀(i j:Int) (t u:S6) (s:NI) (Q:NF->NI->Prop) (E:NF->NI->Prop),Q (.bool (g i j)) s->wpAny (NY X.prog X.w) X.A (f (.int i t) (.int j u)) Q E s): kU X f (Al λi j=> .bl (g i j)):=by
 intro V_ s σ H x y v u Q I rx ry h;obtain⟨i,j,rfl,rfl,q⟩:=h;obtain⟨t,rfl⟩:=rx;obtain⟨t',rfl⟩:=ry;exact rule i j t t' s _ _ ⟨.bl (g i j),H,I,rfl,q⟩
def EH (i j:Int):Prop:=0<j/\j<1073741824
def Kj (i j:Int):Prop:=0<=j/\j<=1000000/\i.natAbs<2 ^64
def Am (i j:Int):Prop:=(-(2 ^64)<i/\i<2 ^64)\/(-(2 ^64)<j/\j<2 ^64)
theorem Am.ok {i j:Int} (h:Am i j):IntMulOk i j:=by
 rcases h with ⟨h1,h2⟩|⟨h1,h2⟩
 ·exact .of_left (intBits_le_64 h1 h2)
 ·exact .of_right (intBits_le_64 h1 h2)
theorem HV:kU X (Q1 .Add) (Al λi j=> .int (i+j)):=Ki λ_ _ _ _ _ _ _ q=>add_int q
theorem HW:kU X (Q1 .Sub) (Al λi j=> .int (i - j)):=Ki λ_ _ _ _ _ _ _ q=>sub_int q
theorem HX:kU X (Q1 .Mult) (rI Am λi j=> .int (i*j)):=Mf λ_ _ _ _ _ _ _ hc q=>mul_int q hc.ok
theorem EI:kU X (Q1 .FloorDiv) (rI EH λi j=> .int (i / j)):=Mf λi j _ _ _ _ _ hc q=>by
 have h1:(0:Int)<j:=hc.1;have h2:j<1073741824:=hc.2;exact floordiv_int (by omega) (by rw[Int.fdiv_eq_ediv_of_nonneg i (by omega)];exact q) (.inl (PyProof.noPylong_small (by omega)))
theorem HY:kU X (Q1 .Mod) (rI (λ_ j=>0<j) λi j=> .int (i%j)):=Mf λi j _ _ _ _ _ hc q=>by
 have h1:(0:Int)<j:=hc;exact mod_int' (by omega) (by rw[Int.fmod_eq_emod_of_nonneg i (by omega)];exact q)
theorem Ni {f:NF->QD NF} {g:Int->Int} (rule:∀(i:Int) (t:S6) (s:NI) (Q:NF->NI->Prop) (E:NF->NI->Prop),Q (.int (g i) s.toks) {s with toks:=s.toks+1}->wpAny (NY X.prog X.w) X.A (f (.int i t)) Q E s): LK X f (rU λi=> .int (g i)):=by
 intro V_ s σ H x v Q I rx h;obtain⟨i,rfl,q⟩:=h;obtain⟨t,rfl⟩:=rx;exact rule i t s _ _ ⟨.int (g i),H,I.tok _,⟨_,rfl⟩,q⟩
theorem BY:LK X (unaryOp .USub) (rU λi=> .int (-i)):=Ni λ_ _ _ _ _ q=>neg_int q
end
def HZ:V->V->Bool
 | .non, .non=>true| .non, .int _=>true| .int _, .non=>true| .non, .bl _=>true| .bl _, .non=>true| .non, .str _=>true| .str _, .non=>true
 | .int _, .int _=>true| .bl _, .bl _=>true| .str _, .str _=>true| .byt _, .byt _=>true
 | .int _, .str _=>true| .str _, .int _=>true| .bl _, .str _=>true| .str _, .bl _=>true
 |_,_=>false
def N0:R2:=λx y H Q=>HZ x y=true/\Q (.bl (decide (x=y))) H
def N1:R2:=λx y H Q=>HZ x y=true/\Q (.bl (!decide (x=y))) H
theorem y_ {i j:Int}:decide (V.int i=V.int j)=(i==j):=by
 rw[QE];simp
theorem BZ {i j:Bool}:decide (V.bl i=V.bl j)=(i==j):=by
 rw[QE];simp
theorem zc {i j:NG}:decide (V.str i=V.str j)=(i==j):=by
 rw[QE];simp
theorem ze {i j:Array UInt8}:decide (V.byt i=V.byt j)=(i.toList==j.toList):=by
 rw[QE];cases i;cases j;simp
section
variable {X:Cx} {a b c:NS} {ta tb tc:TE} {pos:Ox}
theorem ba {s:NI} {Q:VK} {k k':Bool} (I:au X V_ σ H s) (q:Q (.bl k) H) (e:k=k'):EP X V_ σ Q (.bool k') s:=by
 subst e;exact⟨.bl k,H,I,rfl,q⟩
theorem GP:kU X (P6 .Eq) N0:=by
 intro V_ s σ H x y v u Q I rx ry h;obtain⟨hs,q⟩:=h;cases x with
 |non=>
  cases rx;cases y with
  |non=>cases ry;exact PySem.EqNone.eq_none_none (ba I q (by simp))
  |bl j=>cases ry;exact PySem.EqNone.eq_none_bool (ba I q (by simp))
  |int j=>obtain⟨t',rfl⟩:=ry;exact PySem.EqNone.eq_none_int (ba I q (by simp))
  |str j=>obtain⟨t',rfl⟩:=ry;exact PySem.EqNone.eq_none_str (ba I q (by simp))
  |_=>exact absurd (show false=true from hs) Od
 |bl i=>
  cases rx;cases y with
  |non=>cases ry;exact PySem.EqNone.eq_bool_none (ba I q (by simp))
  |bl j=>cases ry;exact eq_bool (ba I q BZ)
  |str j=>obtain⟨t',rfl⟩:=ry;exact PySem.EqMixed.eq_bool_str (ba I q (by simp))
  |_=>exact absurd (show false=true from hs) Od
 |int i=>
  obtain⟨t,rfl⟩:=rx;cases y with
  |non=>cases ry;exact PySem.EqNone.eq_int_none (ba I q (by simp))
  |int j=>obtain⟨t',rfl⟩:=ry;exact eq_int (ba I q y_)
  |str j=>obtain⟨t',rfl⟩:=ry;exact PySem.EqMixed.eq_int_str (ba I q (by simp))
  |_=>exact absurd (show false=true from hs) Od
 |str i=>
  obtain⟨t,rfl⟩:=rx;cases y with
  |non=>cases ry;exact PySem.EqNone.eq_str_none (ba I q (by simp))
  |bl j=>cases ry;exact PySem.EqMixed.eq_str_bool (ba I q (by simp))
  |int j=>obtain⟨t',rfl⟩:=ry;exact PySem.EqMixed.eq_str_int (ba I q (by simp))
  |str j=>obtain⟨t',rfl⟩:=ry;exact eq_str (ba I q zc)
  |_=>exact absurd (show false=true from hs) Od
 |byt i=>
  obtain⟨t,rfl⟩:=rx;cases y with
  |byt j=>obtain⟨t',rfl⟩:=ry;exact PySem.W.eq_bytes (ba I q ze)
  |_=>exact absurd (show false=true from hs) Od
 |_=>cases y<;>exact absurd (show false=true from hs) Od
theorem GQ:kU X (P6 .NotEq) N1:=by
 intro V_ s σ H x y v u Q I rx ry h;obtain⟨hs,q⟩:=h;cases x with
 |non=>
  cases rx;cases y with
  |non=>cases ry;exact PySem.EqNone.ne_none_none (ba I q (by simp))
  |bl j=>cases ry;exact PySem.EqNone.ne_none_bool (ba I q (by simp))
  |int j=>obtain⟨t',rfl⟩:=ry;exact PySem.EqNone.ne_none_int (ba I q (by simp))
  |str j=>obtain⟨t',rfl⟩:=ry;exact PySem.EqNone.ne_none_str (ba I q (by simp))
  |_=>exact absurd (show false=true from hs) Od
 |bl i=>
  cases rx;cases y with
  |non=>cases ry;exact PySem.EqNone.ne_bool_none (ba I q (by simp))
  |bl j=>cases ry;exact ne_bool (ba I q (congrArg not BZ))
  |str j=>obtain⟨t',rfl⟩:=ry;exact PySem.EqMixed.ne_bool_str (ba I q (by simp))
  |_=>exact absurd (show false=true from hs) Od
 |int i=>
  obtain⟨t,rfl⟩:=rx;cases y with
  |non=>cases ry;exact PySem.EqNone.ne_int_none (ba I q (by simp))
  |int j=>obtain⟨t',rfl⟩:=ry;exact ne_int (ba I q (congrArg not y_))
  |str j=>obtain⟨t',rfl⟩:=ry;exact PySem.EqMixed.ne_int_str (ba I q (by simp))
  |_=>exact absurd (show false=true from hs) Od
 |str i=>
  obtain⟨t,rfl⟩:=rx;cases y with
  |non=>cases ry;exact PySem.EqNone.ne_str_none (ba I q (by simp))
  |bl j=>cases ry;exact PySem.EqMixed.ne_str_bool (ba I q (by simp))
  |int j=>obtain⟨t',rfl⟩:=ry;exact PySem.EqMixed.ne_str_int (ba I q (by simp))
  |str j=>obtain⟨t',rfl⟩:=ry;exact ne_str (ba I q (congrArg not zc))
  |_=>exact absurd (show false=true from hs) Od
 |byt i=>
  obtain⟨t,rfl⟩:=rx;cases y with
  |byt j=>obtain⟨t',rfl⟩:=ry;exact PySem.W.ne_bytes (ba I q (congrArg not ze))
  |_=>exact absurd (show false=true from hs) Od
 |_=>cases y<;>exact absurd (show false=true from hs) Od
theorem B_:kU X (P6 .Lt) (Al λi j=> .bl (decide (i<j))):=HU λ_ _ _ _ _ _ _ q=>lt_int q
theorem C1:kU X (P6 .Gt) (Al λi j=> .bl (decide (j<i))):=HU λ_ _ _ _ _ _ _ q=>gt_int q
theorem Kk:kU X (P6 .GtE) (Al λi j=> .bl (decide (j<=i))):=HU λ_ _ _ _ _ _ _ q=>ge_int q
theorem EJ:kU X (P6 .IsNot) (λx y H Q=>y= .non/\Q (.bl (!decide (x= .non))) H):=by
 intro V_ s σ H x y v u Q I rx ry h;obtain⟨rfl,q⟩:=h;cases ry;refine isnot_none_gen (ba I q ?_);cases x<;>first
  |(cases rx;rfl)
  |(obtain⟨t,rfl⟩:=rx;rfl)
theorem kU.or {f:NF->NF->QD NF} {r r':R2} (h:kU X f r) (h':kU X f r'):kU X f (λx y H Q=>r x y H Q\/r' x y H Q):=by
 intro V_ s σ H x y v u Q I rx ry q;rcases q with q|q
 ·exact h V_ s σ H x y v u Q I rx ry q
 ·exact h' V_ s σ H x y v u Q I rx ry q
theorem C3 (b:NS) {op:Tp} (h:op≠ .In:=by decide) (h2:op≠ .NotIn:=by decide):Pa op b=false:=by
 have e1:(op==CmpOp.In)=false:=by cases op<;>first|rfl|exact absurd rfl h
 have e2:(op==CmpOp.NotIn)=false:=by cases op<;>first|rfl|exact absurd rfl h2
 cases b<;>simp[Pa,e1,e2]
theorem EK {op:Tp} {r:R2} (ho:kU X (P6 op) r) (ha:PE X a ta) (hb:PE X b tb) (hm:Pa op b=false):PE X (.Compare a [op] [b] pos) (LL r ta tb):=by
 intro V_ s σ H Q I h;exact wpAny_Compare1 (HS ha hb I h λv u s2 x y H2 I2 rx ry q=>ho V_ s2 σ H2 x y v u Q I2 rx ry q) hm
def GR (t:TE):TT:=λσ H Q=>t σ H λx H'=>∃k,x= .bl k/\Q k H'
theorem zf {op:Tp} {r:R2} (ho:kU X (P6 op) r) (ha:PE X a ta) (hb:PE X b tb) (hm:Pa op b=false):PT X (.Compare a [op] [b] pos) (GR (LL r ta tb)):=by
 intro V_ s σ H Q I h;refine TM (bF (ha V_ s σ H _ I h) λv s1 ⟨x,H1,I1,r1,q1⟩=>bF (hb V_ s1 σ H1 _ I1 q1) λu s2 ⟨y,H2,I2,r2,q2⟩=>
  bF (ho V_ s2 σ H2 x y v u _ I2 r1 r2 q2) λc s3 ⟨z,H3,I3,r3,k,e,q3⟩=> ?_) hm
 subst e;cases r3;exact PF ⟨H3,I3,q3⟩
def Kl (K:ND) (x:V) (H:Hp) (k:Bool):Prop:=
 match x with
 | .non=>k=false
 | .bl b=>k=b
 | .int i=>k=(i != 0)
 | .str y=>y.length<=sizeLine/\k=((y.length:Int) != 0)
 | .byt y=>y.size<=sizeLine/\k=((y.size:Int) != 0)
 | .ref p=>(∃xs,cP K H p xs/\k= !xs.isEmpty)\/(∃xs,gf K H p xs/\k= !xs.isEmpty)\/∃kvs,H p=GS (.dK kvs)/\k= !kvs.isEmpty
 |_=>False
theorem xJ {κ:Type} {kvs:List (κ×V)} {vs:List (κ×NF)} (r:KV kvs vs):(!vs.isEmpty)= !kvs.isEmpty:=by
 cases r<;>rfl
theorem qY {xs:List V} (r:aC xs its):(!its.toArray.isEmpty)= !xs.isEmpty:=by
 cases r<;>simp
theorem pB:(sizeLine:Nat)<2 ^63:=by rw[Pe];decide
theorem H_:Me X (λx H Q=>∃k,Kl X.K x H k/\Q k H):=by
 intro V_ s σ H x v Q I rx h;obtain⟨k,e,q⟩:=h;have hl:=pB;have hs:sizeLine=16777216:=Pe;cases x with
 |non=>
  cases rx;have e':k=false:=e;subst e';exact truthy_none ⟨H,I,q⟩
 |bl b=>
  cases rx;have e':k=b:=e;subst e';exact PF ⟨H,I,q⟩
 |int i=>
  obtain⟨t,rfl⟩:=rx;have e':k=(i != 0):=e;subst e';exact PySem.P.truthy_int ⟨H,I,q⟩
 |str y=>
  obtain⟨t,rfl⟩:=rx;obtain⟨hy,e'⟩:y.length<=sizeLine/\k=((y.length:Int) != 0):=e;subst e';exact PySem.P.truthy_str (by omega) ⟨H,I.tok _,q⟩
 |byt y=>
  obtain⟨t,rfl⟩:=rx;obtain⟨hy,e'⟩:y.size<=sizeLine/\k=((y.size:Int) != 0):=e;subst e';exact PySem.W.truthy_bytes (by omega) ⟨H,I.tok _,q⟩
 |ref p=>
  cases rx;have e':(∃xs,cP X.K H p xs/\k= !xs.isEmpty)\/(∃xs,gf X.K H p xs/\k= !xs.isEmpty)\/∃kvs,H p=GS (.dK kvs)/\k= !kvs.isEmpty:=e;rcases e' with ⟨xs,hx,e'⟩|⟨xs,hx,e'⟩|⟨kvs,hx,e'⟩
  ·subst e'
   obtain⟨its,r,pl,hz⟩:=I.list hx;have Wa:=r.length;exact wpAny_truthy_list pl.isList (by simp only[NR];omega) ⟨H,I.tok _,by rw[qY r];exact q⟩
  ·subst e'
   obtain⟨its,r,pl,hz⟩:=I.tuple hx;have Wa:=r.length;exact truthy_tuple pl (by simp only[NR];omega) ⟨H,I.tok _,by rw[qY r];exact q⟩
  ·subst e'
   obtain⟨hz,hS,vs,r,m⟩:kvs.length<=sizeLine/\(p==sysModules)=false/\∃vs,KV kvs vs/\s.heap.DictOf (b9 X.prog X.w) p vs:=I.hok p _ hx;have Wa:kvs.length=vs.length:=Sf r;exact wpAny_truthy_dict hS m (by omega) ⟨H,I.tok _,by rw[xJ r];exact q⟩
 |_=>exact(show False from e).elim
theorem C4 (ha:PE X a ta) (he:∀XM,Vl a X.env XM=(do let v<-XM;QZ a.pos;Q9 [v] (truthy v))): PT X a (λσ H Q=>ta σ H λx H'=>∃k,Kl X.K x H' k/\Q k H'):=by
 intro V_ s σ H Q I h;exact isTrue_plain (bF (ha V_ s σ H _ I h) λv s1 ⟨x,H1,I1,r1,q1⟩=>H_ V_ s1 σ H1 x v Q I1 r1 q1) (he _)
theorem ij {x:V} (r:aC [x] us):∃u,us=[u]/\aY x u:=by
 cases r with
 |cons r1 r2=>cases r2;exact⟨_,rfl,r1⟩
theorem zg {x y:V} (r:aC [x,y] us):∃u w',us=[u,w']/\aY x u/\aY y w':=by
 cases r with
 |cons r1 r2=>
  cases r2 with
  |cons r3 r4=>cases r4;exact⟨_,_,rfl,r1,r3⟩
theorem An (hc:X.calm=true):cJ X (.builtin "max") (λxs H Q=>∃i j,xs=[.int i, .int j]/\Q (.int (if j>i then j else i)) H):=by
 intro V_ s σ H xs us Q I r h;obtain⟨i,j,rfl,q⟩:=h;obtain⟨u,w',rfl,⟨t,rfl⟩,⟨t',rfl⟩⟩:=zg r;refine max_two_ints (I.ok.hd hc) λh' tk k=>⟨_,H,I.kept k,?_,q⟩;by_cases hj:j>i
 ·rw[if_pos hj,if_pos hj];exact⟨_,rfl⟩
 ·rw[if_neg hj,if_neg hj];exact⟨_,rfl⟩
theorem Ao (hc:X.calm=true):cJ X (.builtin "min") (λxs H Q=>∃i j,xs=[.int i, .int j]/\Q (.int (if j<i then j else i)) H):=by
 intro V_ s σ H xs us Q I r h;obtain⟨i,j,rfl,q⟩:=h;obtain⟨u,w',rfl,⟨t,rfl⟩,⟨t',rfl⟩⟩:=zg r;refine min_two_ints (I.ok.hd hc) λh' tk k=>⟨_,H,I.kept k,?_,q⟩;by_cases hj:j<i
 ·rw[if_pos hj,if_pos hj];exact⟨_,rfl⟩
 ·rw[if_neg hj,if_neg hj];exact⟨_,rfl⟩
theorem Ap:cJ X (.type "int") (λxs H Q=>(∃i,xs=[.int i]/\Q (.int i) H)\/∃k,xs=[.bl k]/\Q (.int (if k then 1 else 0)) H):=by
 intro V_ s σ H xs us Q I r h;rcases h with ⟨i,rfl,q⟩|⟨k,rfl,q⟩
 ·obtain⟨u,rfl,t,rfl⟩:=ij r
  exact call_int_int ⟨.int i,H,I,⟨_,rfl⟩,q⟩
 ·obtain⟨u,rfl,r1⟩:=ij r
  cases r1;exact call_int_bool ⟨.int (if k then 1 else 0),H,I.tok _,⟨_,rfl⟩,q⟩
end
structure xK (h:NT) (x dx C:NH) (mA:NG->Option NF):Prop where
 obj:h.get? x=GS (Q0 C dx)
 ns:h.Ns1 dx mA
 ne:dx≠x
theorem Aq {dx:NH} {mA:NG->Option NF} (n:h.Ns1 dx mA):∃od,h.get? dx=GS od/\∀name,S2 name od=GS (mA name):=by
 obtain⟨o,es,ep,ho,hd,hk,_,hm⟩:=n;refine⟨o,ho,λname=> ?_⟩;have e:=hm name;unfold nsFind findBy at e;rw[<-Array.find?_toList]at e;unfold S2;rw[hd];dsimp only;split
 ·rename_i y q
  rw[q]at e;exact congrArg GS e
 ·rename_i q
  rw[q]at e;have a:es.toList.any (·.refKey)=false:=by
   rw[UY];intro y hy;obtain⟨z,t,a0c⟩:=hk y (Array.mem_toList_iff.mp hy);simp[DictEntry.refKey,a0c]
  have a':¬es.toList.any (·.refKey)=true:=by rw[a];exact Od
  rw[if_neg a'];exact congrArg GS e
theorem xK.look {x dx C:NH} {mA:NG->Option NF} (I:xK h x dx C mA):∃od,PySem.W.InstAt h x (Q0 C dx) C (GS od)/\∀name,S2 name od=GS (mA name):=
 let ⟨od,ho,hl⟩:=Aq I.ns
 ⟨od,⟨I.obj,rfl,rfl,ho⟩,hl⟩
section
variable {prog:NM} {w:NV} {A:Oc} {E:NF->NI->Prop} {s:NI} {K:ND} {x dx C f:NH} {mA:NG->Option NF} {name:NG} {v:NF}
theorem EL {expr:Bool} (X:K.In s.heap) (I:xK s.heap x dx C mA) (hg:Qa K C name=true) (hh:Qm K C=true) (ha:O4 K (.ref C) name=GS JT) (hv:mA name=GS v) (a12:Va v=true) (h:Q v {s with toks:=s.toks+1}): wpAny (NY prog w) A (getAttr (.ref x) name expr) Q E s:=by
 obtain⟨od,J,hl⟩:=I.look;exact PySem.W.get_value X J (S1 hg).1 (PySem.W.findObj_own hh ha rfl (by rw[hl,hv])) a12 h
theorem C5 {Q:NF×List NF->NI->Prop} (X:K.In s.heap) (I:xK s.heap x dx C mA) (hg:Qa K C name=true) (hf:O4 K (.ref C) name=GS (GS (.ref f))) (ht:RP K (.ref f)=true) (hv:mA name=JT) (h:Q (.ref f,[.ref x]) s): wpAny (NY prog w) A (QR (.ref x) name pl) Q E s:=by
 obtain⟨od,J,hl⟩:=I.look;exact PySem.W.method_fn X J (S1 hg).1 (S1 hg).2 hf (beq_iff_eq.mp ht) (by show (S2 name od).map (·.isSome)=GS false;rw[hl,hv];rfl) h
theorem EM {ns:List NG} {Q:Unit->NI->Prop} (X:K.In s.heap) (I:xK s.heap x dx C mA) (hs:O4 K (.ref C) "__setattr__"=GS (GS (.builtin "object.__setattr__"))) (hp:QK K C=true) (ht:Ts K C name=GS JT) (hh:Qm K C=true) (hw:UA mA ns) (hsz:ns.length<=sizeLine) (h:∀h',xK h' x dx C (λy=>if y=name then GS v else mA y)->Qt dx s.heap h'->Q () {s with heap:=h',toks:=s.toks+2}): wpAny (NY prog w) A (setAttr (.ref x) name v) Q E s:=by
 obtain⟨od,J,hl⟩:=I.look;refine PySem.W.set_plain X J hs (PySem.W.osa_open (s:={s with toks:=s.toks+1}) (r:=JT) X J hp ht λb=> ?_);obtain⟨cd,hc,a2W⟩:=PySem.W.any_some hh;have hx:s.heap.get? x=GS ⟨.ref C,GS dx, .plain,#[]⟩:=I.obj;refine NJ (NQ (NJ (NJ (wpAny_loadPart hx (NJ (PySem.W.Looks.here (s:={s with toks:=s.toks+1}) (PySem.W.looks_clsIn X hc) ?_))))));rw[a2W];refine NQ (a:=GS dx) (NJ (NQ (NJ ?_)));refine wpAny_nsSet1 (s:={s with toks:=s.toks+1}) I.ns λh' a13 Yy=> ?_;obtain⟨oD,a7f,a7g,a4_,a50,a51⟩:=a13.count (PySem.Within.cons name v hw);refine NJ (wpAny_lookBehind a4_ (by rw[a50];exact pastItsLine_dict (Ou a51 (by rw[O3];omega))) ?_);exact NQ (h _ ⟨(Yy.2 _ (Py I.ne)).trans I.obj,a13,I.ne⟩ Yy)
theorem C6 {R:S9->NI->Prop} (X:K.In s.heap) (hm:QF K C=true) (hi:O4 K (.ref C) "__init__"=GS (GS (.ref f))) (hf:TQ K (.ref f)=GS (.type "function")) (h:Qg (NY prog w) (A.under (.builtin "type.__call__" ⟨.ref C::vs,kw⟩)) (.call (.ref f) ⟨.ref (s.heap.objs.size+1)::vs,kw⟩) (PySem.W.InitBack (s.heap.objs.size+1) R) {s with heap:=(s.heap.push Po).push (Q0 C s.heap.objs.size)}): Qg (NY prog w) A (.call (.ref C) ⟨vs,kw⟩) R s:=by
 obtain⟨hh,g,d,t,os⟩:=s;exact PySem.W.make_core (PySem.W.makes_of X hm) (QT X hi) (λself=>PySem.W.bind_fn X self hf) (.inl rfl) h
end
def gW (f:NG) (v:V):List (NG×V)->List (NG×V)
 |[]=>[(f,v)]
 |(g,x)::r=>if g=f then (g,v)::r else (g,x)::gW f v r
theorem cp (f g:NG) (v:V):∀fs:List (NG×V),(gW f v fs).lookup g=if g=f then GS v else fs.lookup g
 |[]=>by
  show Q_ g [(f,v)]=_;by_cases h:g=f
  ·have hb:(g==f)=true:=beq_iff_eq.mpr h
   simp only[Q_,hb,if_pos h]
  ·have hb:(g==f)=false:=beq_eq_false_iff_ne.mpr h
   simp only[Q_,hb,if_neg h]
 |(k,x)::r=>by
  have ih:=cp f g v r;rw[show gW f v ((k,x)::r)=(if k=f then (k,v)::r else (k,x)::gW f v r)from rfl];by_cases hk:k=f
  ·rw[if_pos hk]
   by_cases h:g=k
   ·have hb:(g==k)=true:=beq_iff_eq.mpr h
    simp only[Q_,hb,if_pos (h.trans hk)]
   ·have hb:(g==k)=false:=beq_eq_false_iff_ne.mpr h
    simp only[Q_,hb,if_neg (λe:g=f=>h (e.trans hk.symm))]
  ·rw[if_neg hk]
   by_cases h:g=k
   ·have hb:(g==k)=true:=beq_iff_eq.mpr h
    simp only[Q_,hb,if_neg (λe:g=f=>hk (h.symm.trans e))]
   ·have hb:(g==k)=false:=beq_eq_false_iff_ne.mpr h
    simp only[Q_,hb];exact ih
theorem pC (f:NG) (v:V):∀fs:List (NG×V),f∈(gW f v fs).map (·.1)/\∀g,g∈fs.map (·.1)->g∈(gW f v fs).map (·.1)
 |[]=>⟨by simp[gW],λg h=>by simp at h⟩
 |(k,x)::r=>by
  obtain⟨i1,i2⟩:=pC f v r;rw[show gW f v ((k,x)::r)=(if k=f then (k,v)::r else (k,x)::gW f v r)from rfl];by_cases hk:k=f
  ·rw[if_pos hk]
   subst hk;exact⟨by simp,λg h=>by simpa using h⟩
  ·rw[if_neg hk]
   refine⟨?_,λg h=> ?_⟩
   ·rw[NP]
    exact O1 _ i1
   ·rw[NP]at h ⊢
    rcases NW.mp h with e|e
    ·exact NW.mpr (.inl e)
    ·exact O1 _ (i2 g e)
theorem q8 (f:NG) (v:V):∀fs:List (NG×V),(gW f v fs).length<=fs.length+1
 |[]=>by simp[gW]
 |(k,x)::r=>by
  have ih:=q8 f v r;rw[show gW f v ((k,x)::r)=(if k=f then (k,v)::r else (k,x)::gW f v r)from rfl];by_cases hk:k=f
  ·rw[if_pos hk,O3,O3];omega
  ·rw[if_neg hk,O3,O3];omega
theorem kR.some_of {v:V} {o:Option NF} (r:kR (GS v) o):∃u,o=GS u/\aY v u:=by
 cases o with
 |none=>exact(show False from r).elim
 |some u=>exact⟨u,rfl,r⟩
theorem kR.none_of {o:Option NF} (r:kR JT o):o=JT:=by
 cases o with
 |none=>rfl
 |some u=>exact(show False from r).elim
theorem Ar {v:V} {u:NF} (r:aY v u):Va u=true:=by
 cases v with
 |non=>cases (show u=OQ from r);rfl
 |bl b=>cases (show u=U8 b from r);rfl
 |int i=>obtain⟨t,e⟩:=(show ∃t,u=QC i t from r);cases e;rfl
 |str x=>obtain⟨t,e⟩:=(show ∃t,u=RG x t from r);cases e;rfl
 |byt b=>obtain⟨t,e⟩:=(show ∃t,u=VW b t from r);cases e;rfl
 |flt b=>obtain⟨t,e⟩:=(show ∃t,u=V6 b t from r);cases e;rfl
 |ref a=>cases (show u=Of a from r);rfl
 |ty n=>cases (show u=P_ n from r);rfl
section
variable {P:NM} {w:NV} {H H':Hp} {h h':NT} {a C dx:NH} {fs Yx:List (NG×V)}
theorem qN (hok:kS P w H h) (e:H a=GS (.ins C dx fs)):∃mA,xK h a dx C mA/\(∀f,kR (fs.lookup f) (mA f))/\UA mA (fs.map (·.1))/\fs.length<=1000/\H dx=GS (.own a):=by
 obtain⟨d,z,ne,ob,mA,n,r,q⟩:=(show bg P w H h a (.ins C dx fs)from hok a _ e);exact⟨mA,⟨ob,n,ne⟩,r,q,z,d⟩
end
structure we (K:ND) (C:NH):Prop where
 pg:Qa K C UG=true
 hd:Qm K C=true
 po:QK K C=true
 sa:O4 K (.ref C) "__setattr__"=GS (GS (.builtin "object.__setattr__"))
theorem we.get {C:NH} (c:we K C) (f:NG):Qa K C f=true:=c.pg
def dq (K:ND) (C:NH) (f:NG):Prop:=O4 K (.ref C) f=GS JT
theorem dq.taker {C:NH} {f:NG} (n:dq K C f):Ts K C f=GS JT:=by
 unfold Ts;rw[show O4 K (.ref C) f=GS JT from n]
 rfl
structure xL (K:ND) (C:NH) (m:NG) (f:NH):Prop where
 at_:O4 K (.ref C) m=GS (GS (.ref f))
 fn:RP K (.ref f)=true
 kp:OI K (.ref f)=true
section
variable {X:Cx} {V_:List (NH×Oi)} {σ:St} {H:Hp} {s:NI} {a C dx:NH} {fs:List (NG×V)} {f:NG} {v:V} {A:Oc} {E:NF->NI->Prop}
theorem xM {b:Bool} (I:au X V_ σ H s) (e:H a=GS (.ins C dx fs)) (c:we X.K C) (n:dq X.K C f) (l:fs.lookup f=GS v) (h:∀u s',au X V_ σ H s'->aY v u->Q u s'):wpAny (NY X.prog X.w) A (getAttr (.ref a) f b) Q E s:=by
 obtain⟨mA,O,r,_,_,_⟩:=qN I.hok e;obtain⟨u,hu,ru⟩:=kR.some_of (v:=v) (o:=mA f) (by rw[<-l];exact r f);exact EL I.kIn O (c.get f) c.hd n hu (Ar ru) (h u _ (I.tok _) ru)
theorem nv {m:NG} {g:NH} {Q:NF×List NF->NI->Prop} (I:au X V_ σ H s) (e:H a=GS (.ins C dx fs)) (c:we X.K C) (k:xL X.K C m g) (l:fs.lookup m=JT) (h:Q (.ref g,[.ref a]) s):wpAny (NY X.prog X.w) A (QR (.ref a) m pl) Q E s:=by
 obtain⟨mA,O,r,_,_,_⟩:=qN I.hok e;have hn:mA m=JT:=kR.none_of (by rw[<-l];exact r m);exact C5 I.kIn O (c.get m) k.at_ k.fn hn h
theorem qZ {y:V} {u:NF} {Q:Unit->NI->Prop} (I:au X V_ σ H s) (e:H a=GS (.ins C dx fs)) (c:we X.K C) (n:dq X.K C f) (hl:fs.length<1000) (ry:aY y u) (h:∀s',au X V_ σ (aS H a (.ins C dx (gW f y fs))) s'->Q () s'):wpAny (NY X.prog X.w) A (setAttr (.ref a) f u) Q E s:=by
 obtain⟨mA,O,r,wi,_,ho⟩:=qN I.hok e;have hz:(fs.map (·.1)).length<=sizeLine:=by rw[NK,Pe];omega
 refine EM I.kIn O c.sa c.po n.taker c.hd wi hz λh' O' sb=>h _ ?_;have hd:∃o,h'.get? dx=GS o:=let ⟨o,_,_,e',_⟩:=O'.ns;⟨o,e'⟩;refine I.write (x:=a) (e:=dx) (by rw[e];exact Qd) (.inr ho) (λb q hb z=>(sb.2 b hb).trans z) hd ?_;refine⟨by rw[aj O.ne];exact ho,?_,O.ne,O'.obj,_,O'.ns,λg=> ?_,λg hg=> ?_⟩
 ·have:=q8 f y fs;omega
 ·show kR ((gW f y fs).lookup g) (if g=f then GS u else mA g)
  rw[cp];by_cases q:g=f
  ·rw[if_pos q,if_pos q];exact ry
  ·rw[if_neg q,if_neg q];exact r g
 ·by_cases q:g=f
  ·rw[q];exact(pC f y fs).1
  ·refine(pC f y fs).2 g (wi g λz=>hg ?_)
   show (if g=f then GS u else mA g)=JT;rw[if_neg q];exact z
theorem au.made (I:au X V_ σ H s):au X V_ σ (aS (aS H s.heap.objs.size (.own (s.heap.objs.size+1))) (s.heap.objs.size+1) (.ins C s.heap.objs.size [])) {s with heap:=(s.heap.push Po).push (Q0 C s.heap.objs.size)}:=by
 have e1:(s.heap.push Po).get? s.heap.objs.size=GS Po:=Oe s.heap rfl;have e2:((s.heap.push Po).push (Q0 C s.heap.objs.size)).get? (s.heap.objs.size+1)=GS (Q0 C s.heap.objs.size):=by
  have:=Oe (s.heap.push Po) (o:=Q0 C s.heap.objs.size) rfl
  rwa [Qr]at this
 have e3:(s.heap.push Po).Ns s.heap.objs.size (λ_=>JT):=⟨Po,#[],_,e1,rfl,(λe he=>absurd he (by simp)),λ_=>rfl⟩;have I1:=I.laid (a:=s.heap.objs.size) (o:= .own (s.heap.objs.size+1)) (h':=s.heap.push Po) (t':=s.toks) (λb u q=>NO _ q) (O2 _) ⟨_,e1⟩;refine I1.laid (a:=s.heap.objs.size+1) (o:= .ins C s.heap.objs.size []) (t':=s.toks) (λb u q=>NO _ q) (SR (Qr _ _)) ?_;have ne:s.heap.objs.size≠s.heap.objs.size+1:=Og (SS _);refine⟨by rw[aj ne,ar],Pf _,ne,e2,λ_=>JT,(Heap.Ns1.of_empty e3).at λo q=>NO _ q,λ_=>Qd,λy hy=>absurd rfl hy⟩
theorem EN {prog:NM} {pos:Ox} (hb:OJ e f env (O8 e env)=O8 e env) (h:wpAny (NY prog w) A (O8 e env) (λo s₁=>wpAny (NY prog w) A (getAttr o f true) Q E s₁) E s):wpAny (NY prog w) A (O8 (.Attribute e f pos) env) Q E s:=
 Attribute_any_ h (by rw[arm_eval_Attribute,hb])
end
def Mg (K:ND) (ta:TE) (f:NG):TE:=λσ H Q=>ta σ H λx H1=>∃a C dx fs v,x= .ref a/\H1 a=GS (.ins C dx fs)/\we K C/\dq K C f/\fs.lookup f=GS v/\Q v H1
def Mh (K:ND) (ta tv:TE) (f:NG):TS:=λD σ H=>tv σ H λy H1=>ta σ H1 λx H2=>∃a C dx fs,x= .ref a/\H2 a=GS (.ins C dx fs)/\we K C/\dq K C f/\fs.length<1000/\
 D.nx σ (aS H2 a (.ins C dx (gW f y fs)))
section
variable {X:Cx} {o e value:NS} {f:NG} {pos We a33:Ox} {ta tv:TE}
theorem q_ (he:PE X e ta) (hb:OJ e f X.env (O8 e X.env)=O8 e X.env):PE X (.Attribute e f pos) (Mg X.K ta f):=by
 intro V_ s σ H Q I h;refine EN hb (bF (he V_ s σ H _ I h) λu s1 z_=> ?_);obtain⟨x,H1,I1,rx,a,C,dx,fs,v,ex,ea,c,n,l,q⟩:=z_;subst ex;obtain rfl:u=Of a:=rx;exact xM I1 ea c n l λu' s2 I2 ru=>⟨v,H1,I2,ru,q⟩
theorem I0 (ha:PE X o ta) (hv:PE X value tv) (hs:ON value (GS (.Attribute o f We)) pos.line X.env=pure false):PS X (.Assign [.Attribute o f We] value pos) (Mh X.K ta tv f):=by
 intro V_ s σ H D I h;refine RJ (bF (hv V_ s σ H _ I h) λu s1 ⟨y,H1,I1,ry,q⟩=>bF (ha V_ s1 σ H1 _ I1 q) λov s2 z_=> ?_) hs;obtain⟨x,H2,I2,rx,a,C,dx,fs,ex,ea,c,n,l,q2⟩:=z_;subst ex;obtain rfl:ov=Of a:=rx;exact qZ I2 ea c n l ry λs3 I3=>⟨σ,_,I3,q2⟩
theorem a7_ {m:NG} {W8:Ox} {args:List NS} {s:NI} {te:TE} (he:PE X e te) (I:au X V_ σ H s) (h:te σ H λx H1=>∃a C dx fs g,x= .ref a/\H1 a=GS (.ins C dx fs)/\we X.K C/\xL X.K C m g/\fs.lookup m=JT/\ ∀s1,au X V_ σ H1 s1->wpAny (NY X.prog X.w) X.A (RC pos (.ref g) [.ref a] (Om pos (NL args X.env)) (Q2 pos (Pg [] X.env))) Q X.xe s1) (ht:O8 (.Call (.Attribute e m W8) args [] pos) X.env=(do let ov<-O8 e X.env QZ W8.atName let (f,first)<-Q9 [ov] (QR ov m pl) RC pos f first (Om pos (NL args X.env)) (Q2 pos (Pg [] X.env)))): wpAny (NY X.prog X.w) X.A (O8 (.Call (.Attribute e m W8) args [] pos) X.env) Q X.xe s:=by
 refine RH (pl:=pl) (bF (he V_ s σ H _ I h) λu s1 z_=> ?_) ht;obtain⟨x,H1,I1,rx,a,C,dx,fs,g,ex,ea,c,k,l,q⟩:=z_;subst ex;obtain rfl:u=Of a:=rx;exact nv I1 ea c k l (q s1 I1)
end
section
variable {X:Cx} {V_:List (NH×Oi)} {σ:St} {H:Hp} {s:NI} {A:Oc} {E:NF->NI->Prop} {Q:NF->NI->Prop} {c:NF} {b:Bool}
inductive oh (K:ND) (H:Hp):V->NF->Prop where
 |non:oh K H .non (.type "NoneType")
 |bl (x:Bool):oh K H (.bl x) (.type "bool")
 |int (i:Int):oh K H (.int i) (.type "int")
 |str (x:NG):oh K H (.str x) (.type "str")
 |flt (x:UInt64):oh K H (.flt x) (.type "float")
 |lst {a:NH} {xs:List V} (e:H a=GS (.lst xs)):oh K H (.ref a) (.type "list")
 |frz {a:NH} {o:Oi} {xs:List V} (e:H a=GS (.frz o (.lst xs))):oh K H (.ref a) (.type "list")
 |tup {a:NH} {xs:List V} (e:H a=GS (.tup xs)):oh K H (.ref a) (.type "tuple")
 |dK {a:NH} {kvs:List (aU×V)} (e:H a=GS (.dK kvs)):oh K H (.ref a) (.type "dict")
 |dT {a:NH} {kvs:List (List aU×V)} (e:H a=GS (.dT kvs)):oh K H (.ref a) (.type "dict")
 |ins {a C dx:NH} {fs:List (NG×V)} (e:H a=GS (.ins C dx fs)) (cl:we K C) (ha:O4 K (.ref C) "__class__"=GS (GS (.builtin "object.__class__")))
   (hn:QL K (.builtin "object.__class__") "__get__"=GS (GS (.builtin "getset_descriptor.__get__"))) (a4o:R4 K (.builtin "object.__class__")=GS true)
   (hm:OB K C (.type "object")=GS true):oh K H (.ref a) (.ref C)
theorem As {x:V} {u t:NF} (I:au X V_ σ H s) (rx:aY x u) (ty:oh X.K H x t) (e:OZ X.K t c=GS b) (h:∀tk,Q (.bool b) {s with toks:=tk}): wpAny (NY X.prog X.w) A (call (.builtin "isinstance") [u,c]) Q E s:=by
 cases ty with
 |non=>cases (show u=OQ from rx);exact P1 PySem.W.kitx_none I.kIn Qd e (λz=>nomatch z) h
 |bl y=>cases (show u=U8 y from rx);exact P1 PySem.W.kitx_bool I.kIn Qd e (λz=>nomatch z) h
 |int i=>obtain⟨t,q⟩:=(show ∃t,u=QC i t from rx);cases q;exact P1 PySem.W.kitx_int I.kIn Qd e (λz=>nomatch z) h
 |str y=>obtain⟨t,q⟩:=(show ∃t,u=RG y t from rx);cases q;exact P1 PySem.W.kitx_str I.kIn Qd e (λz=>nomatch z) h
 |flt y=>obtain⟨t,q⟩:=(show ∃t,u=V6 y t from rx);cases q;exact P1 PySem.W.kitx_float I.kIn Qd e (λz=>nomatch z) h
 | @lst a xs ea=>
  cases (show u=Of a from rx);obtain⟨_,_,n,_,h1⟩:=(show bg X.prog X.w H s.heap a (.lst xs)from I.hok a _ ea);exact P1 UZ I.kIn ⟨_,h1,rfl⟩ e (λz=>nomatch z) h
 | @frz a ob xs ea=>
  cases (show u=Of a from rx);obtain⟨_,_,_,n,_,h1⟩:=(show bg X.prog X.w H s.heap a (.frz ob (.lst xs))from I.hok a _ ea);exact P1 UZ I.kIn ⟨_,h1,rfl⟩ e (λz=>nomatch z) h
 | @tup a xs ea=>
  cases (show u=Of a from rx);obtain⟨_,_,_,p⟩:=(show bg X.prog X.w H s.heap a (.tup xs)from I.hok a _ ea);obtain⟨o,h1,h2,_⟩:=p;exact P1 PySem.W.kitx_tuple I.kIn ⟨o,h1,h2⟩ e (λz=>nomatch z) h
 | @dK a kvs ea=>
  cases (show u=Of a from rx);obtain⟨_,_,vs,_,p⟩:=(show bg X.prog X.w H s.heap a (.dK kvs)from I.hok a _ ea);obtain⟨o,es,ep,h1,h2,_⟩:=p;exact P1 U_ I.kIn ⟨o,h1,h2.1⟩ e (λz=>nomatch z) h
 | @dT a kvs ea=>
  cases (show u=Of a from rx);obtain⟨_,_,xs,_,o,es,ep,h1,h2,_⟩:=(show bg X.prog X.w H s.heap a (.dT kvs)from I.hok a _ ea);exact P1 U_ I.kIn ⟨o,h1,h2.1⟩ e (λz=>nomatch z) h
 | @ins a C dx fs ea cl ha hn a4o hm=>
  cases (show u=Of a from rx);obtain⟨mA,O,_⟩:=qN I.hok ea;obtain⟨od,J,_⟩:=O.look;exact P1 (PySem.W.kitx_own (cl.get _) cl.hd ha hn a4o hm) I.kIn J e (λz=>nomatch z) h
end
structure br (k:Nat) (A:Oc):Prop where
 hd:A.handled=JT
 dp:A.depth+3*k+5<recursionLimit
 un:A.units+16*k+200<Q3
theorem br.mono {k:Nat} (r:br k A) (h:j<=k):br j A:=⟨r.hd,by have:=r.dp;omega,by have:=r.un;omega⟩
theorem br.deeper {k:Nat} {A:Oc} (r:br (k+1) A) (env:Pw):br k (A.deeper env):=
 ⟨r.hd,by have:=r.dp;show A.depth+1+3*k+5<_;omega,by have:=r.un;show A.units+3+16*k+200<_;omega⟩
theorem xN {C:NH}:(A.under (.builtin "type.__call__" ⟨.ref C::us,kw⟩)).depth=A.depth+1:=by
 first|rfl|simp[UH,Code.weight,Code.isCreation,Code.isGuard,Code.isCaller,Code.frames,UI,guardIds]
theorem xO {C:NH}:(A.under (.builtin "type.__call__" ⟨.ref C::us,kw⟩)).units=A.units+1:=by
 first|rfl|simp[UH,Code.cUnits,Code.frames,UI]
theorem br.make {k:Nat} (r:br (k+1) A) (C:NH) (us:List NF) (kw:List (NG×NF)):br k (A.under (.builtin "type.__call__" ⟨.ref C::us,kw⟩)):=
 ⟨r.hd,by have:=r.dp;rw[xN];omega,by have:=r.un;rw[xO];omega⟩
theorem br.depth {k:Nat} {A:Oc} (r:br k A):A.depth<recursionLimit:=by have:=r.dp;omega
theorem br.units {k:Nat} {A:Oc} (r:br k A):A.units+64<Q3:=by have:=r.un;omega
def Km:TA:=λ_ H Q=>Q [] H
def GU (ta:TE) (tr:TA):TA:=λσ H Q=>ta σ H λx H1=>tr σ H1 λxs H2=>Q (x::xs) H2
section
variable {X:Cx} {e:NS} {es:List NS} {te:TE} {t:TA} {pos:Ox}
theorem gX:PA X [] Km:=λ_ _ _ _ H Q I h=>V0 ⟨[],H,I, .nil,h⟩
theorem cU (ha:PE X e te) (hr:PA X es t) (hs:NL (e::es) X.env=(false,O8 e X.env)::NL es X.env:=by rfl):PA X (e::es) (GU te t):=by
 intro pos V_ s σ H Q I h;rw[hs];show wpAny _ _ (VB ((false,O8 e X.env)::Om pos (NL es X.env))) _ _ s;refine UJ (bF (ha V_ s σ H _ I h) λu s1 z_=> ?_);obtain⟨x,H1,I1,r1,q1⟩:=z_;exact bF (hr pos V_ s1 σ H1 _ I1 q1) λus s2 ⟨xs,H2,I2,r2,q2⟩=>⟨x::xs,H2,I2, .cons r1 r2,q2⟩
def Mi (t:TA):TE:=λσ H Q=>t σ H λxs H1=>xs.length<=sizeLine/\∀p,H1 p=JT->Q (.ref p) (aS H1 p (.tup xs))
def Mj (t:TA):TE:=λσ H Q=>t σ H λxs H1=>xs.length<=sizeLine/\∀p,H1 p=JT->Q (.ref p) (aS H1 p (.lst xs))
theorem I9 {x1} (h:PA X es t):PE X (.Tuple es x1 pos) (Mi t):=by
 intro V_ s σ H Q I hq;refine wpAny_Tuple_spliced (bF (h pos V_ s σ H _ I hq) λus s1 ⟨xs,H1,I1,r,z,q⟩=>⟨by rw[<-r.length];exact z,?_⟩);have hf:H1 s1.heap.objs.size=JT:=I1.hok.fresh (O2 _);refine⟨.ref s1.heap.objs.size,aS H1 s1.heap.objs.size (.tup xs),I1.laid (t':=s1.toks) (λb u e=>NO _ e) (O2 _) ?_,rfl,q _ hf⟩;exact⟨z,us,r,⟨_,Oe _ rfl,rfl,_,rfl,rfl⟩⟩
theorem uP (h:PA X es t):PE X (.List es pos) (Mj t):=by
 intro V_ s σ H Q I hq;refine wpAny_List_spliced (bF (h pos V_ s σ H _ I hq) λus s1 ⟨xs,H1,I1,r,z,q⟩=>⟨by rw[<-r.length];exact z,?_⟩);have hf:H1 s1.heap.objs.size=JT:=I1.hok.fresh (O2 _);refine⟨.ref s1.heap.objs.size,aS H1 s1.heap.objs.size (.lst xs),I1.laid (t':=s1.toks) (λb u e=>NO _ e) (O2 _) ?_,rfl,q _ hf⟩;exact⟨z,us,0,r,Oe _ rfl⟩
end
abbrev Sp:=List V->Hp->VK->XK->Prop
abbrev xP:=List Pw->Hp->NI->XK->NF->NI->Prop
structure xQ (P:NM) (w:NV) (K:ND) (mg:NG->Option NF) (base:NT) (A:Oc) (outer:List Pw) (s:NI) (H:Hp):Prop where
 frames:A.frames=GS outer
 mod:Mod K mg base
 bs:∀b o,base.get? b=GS o->s.heap.get? b=GS o/\H b=JT
 bsz:base.objs.size<=s.heap.objs.size
 funs:s.heap.FunFrames base outer
 frf:∀b∈qL outer,H b=JT
 hok:kS P w H s.heap
 bare:Rl s.gens
def CE (outer:List Pw) (P:NM) (w:NV) (H:Hp) (s:NI) (Q:VK) (u:NF) (s':NI):Prop:= ∃v H',s'.os=s.os/\Rl s'.gens/\Un (qL outer) [] H H' s.heap s'.heap/\kS P w H' s'.heap/\aY v u/\Q v H'
def CR (CX:xP) (outer:List Pw) (P:NM) (w:NV) (H:Hp) (s:NI) (Q:VK) (E:XK) (r:S9) (s':NI):Prop:=
 match r with
 | .ok (.ret u)=>CE outer P w H s Q u s'
 | .ok _=>False
 | .error e=>CX outer H s E e s'
structure eF (P:NM) (w:NV) (K:ND) (mg:NG->Option NF) (base:NT) (CX:xP) (k:Nat) (f:NH) (fd:Pc) (ps:List NG) (sp:Sp):Prop where
 len:∀vs H Q E,sp vs H Q E->vs.length=ps.length
 run:∀(A:Oc) (outer:List Pw) (s:NI) (H:Hp) (args:Args) (us:List NF) (vs:List V) (Q:VK) (E:XK),br k A->xQ P w K mg base A outer s H->TR s fd args (ps.zip us)->aC vs us->sp vs H Q E->
  Qg (NY P w) A (.call (.ref f) args) (CR CX outer P w H s Q E) s
theorem eF.mono {P:NM} {w:NV} {K:ND} {mg:NG->Option NF} {base:NT} {CX:xP} {j k:Nat} {f:NH} {fd:Pc} {ps:List NG} {sp:Sp} (F:eF P w K mg base CX j f fd ps sp) (h:j<=k): eF P w K mg base CX k f fd ps sp:=⟨F.len,λA outer s H args us vs Q E hr=>F.run A outer s H args us vs Q E (hr.mono h)⟩
theorem eF.imp {CX:xP} {k:Nat} {f:NH} {fd:Pc} {sp a4p:Sp} (F:eF P w K mg base CX k f fd ps sp) (h:∀vs H Q E,a4p vs H Q E->sp vs H Q E):eF P w K mg base CX k f fd ps a4p:=
 ⟨λvs H Q E q=>F.len vs H Q E (h _ _ _ _ q),λA outer s H args us vs Q E hr he hb hv hs=>F.run A outer s H args us vs Q E hr he hb hv (h _ _ _ _ hs)⟩
theorem xQ.make {s:NI} (e:xQ P w K mg base A outer s H) (C:NH) (us:List NF) (kw:List (NG×NF)): xQ P w K mg base (A.under (.builtin "type.__call__" ⟨.ref C::us,kw⟩)) outer s H:=⟨by first|exact e.frames|(simpa[UH,Code.envs,UI,pushEnvs]using e.frames),e.mod,e.bs,e.bsz,e.funs,e.frf,e.hok,e.bare⟩
section
variable {X:Cx} {V_:List (NH×Oi)} {σ:St} {H:Hp} {s s':NI}
theorem au.env0 (I:au X V_ σ H s):xQ X.prog X.w X.K X.mg X.base X.A X.stack s H:=
 ⟨I.ok.frames,I.ok.mod,I.bs,Ou I.ok.bsz I.sz,I.stack,I.stkFree,I.hok,I.bare⟩
theorem au.after {Q:VK} {u:NF} (I:au X V_ σ H s) (h:CE X.stack X.prog X.w H s Q u s'):EP X V_ σ Q u s':=by
 obtain⟨v,H',os,bare,un,hok,r,q⟩:=h;obtain⟨hh,g,d,t,a34⟩:=s';obtain rfl:a34=s.os:=os;exact⟨v,H',I.call (h':=hh) (g':=g) (d':=d) (t':=t) (ch:=[]) un hok bare (λb z=>absurd z (by simp)),r,q⟩
end
def GV (sp:Sp) (Yd:List V) (E:St->XK) (t:TA):TE:=λσ H Q=>t σ H λvs H1=>sp (vs++Yd) H1 Q (E σ)
def C7 (C:NH) (m:NG) (sp:Sp) (Yd:List V) (E:St->XK) (ta:TE) (t:TA):TE:=λσ H Q=>ta σ H λx H1=>∃a dx fs,x= .ref a/\H1 a=GS (.ins C dx fs)/\fs.lookup m=JT/\
 t σ H1 λvs H2=>sp (x::(vs++Yd)) H2 Q (E σ)
def Kn (C:NH) (sp:Sp) (Yd:List V) (E:St->XK) (t:TA):TE:=λσ H Q=>t σ H λvs H1=>∀x dx,H1 x=JT->H1 dx=JT->dx≠x->
 sp (.ref x::(vs++Yd)) (aS (aS H1 dx (.own x)) x (.ins C dx [])) (λv H2=>v= .non/\Q (.ref x) H2) (E σ)
def eZ (K:ND) (fd:Pc) (ps:List NG) (ds:List NF):Prop:= ∀(s:NI) (us:List NF),K.In s.heap->(us++ds).length=ps.length->TR s fd ⟨us,[]⟩ (ps.zip (us++ds))
theorem eZ.all {fd:Pc} (h:∀us:List NF,us.length=ps.length->Qb fd ⟨us,[]⟩=pure (ps.zip us)):eZ K fd ps []:=λs us _ hl=>by
 rw[P2]at hl ⊢;exact .of_eq (h us hl)
def l9 (CX:xP) (X:Cx) (E:St->XK):Prop:=∀(V_:List (NH×Oi)) (σ:St) (H:Hp) (s:NI) (e:NF) (s':NI),au X V_ σ H s->CX X.stack H s (E σ) e s'->X.xe e s'
section
variable {X:Cx} {CX:xP} {k:Nat} {f C:NH} {fd:Pc} {ps:List NG} {sp:Sp} {Yd:List V} {ds:List NF} {E:St->XK} {x m:NG} {p pos W8:Ox} {e o:NS} {es:List NS} {ta:TE} {t:TA}
theorem xR {s:NI} {Q:VK} {vs:List V} (F:eF X.prog X.w X.K X.mg X.base CX k f fd ps sp) (hr:br k X.A) (hb:eZ X.K fd ps ds) (hd:aC Yd ds) (hx:l9 CX X E) (I:au X V_ σ H s) (r:aC vs us) (h:sp (vs++Yd) H Q (E σ)):wpAny (NY X.prog X.w) X.A (call (.ref f) us) (EP X V_ σ Q) X.xe s:=by
 have r2:aC (vs++Yd) (us++ds):=r.append hd;have hl:(us++ds).length=ps.length:=by rw[<-r2.length];exact F.len _ _ _ _ h
 refine SF (QM (F.run X.A X.stack s H ⟨us,[]⟩ (us++ds) (vs++Yd) Q (E σ) hr I.env0 (hb s us I.kIn hl) r2 h) λr s' hq=> ?_);cases r with
 |error e=>exact hx V_ σ H s e s' I hq
 |ok fl=>
  cases fl with
  |ret u=>exact I.after hq
  |next=>exact Pp hq
  |brk=>exact Pp hq
  |cont=>exact Pp hq
theorem uQ (F:eF X.prog X.w X.K X.mg X.base CX k f fd ps sp) (hr:br k X.A) (hg:Gl X x) (hm:X.mg x=GS (.ref f)) (hk:OI X.K (.ref f)=true) (hb:eZ X.K fd ps ds) (hd:aC Yd ds) (hx:l9 CX X E) (ha:PA X (e::es) t) (WL:(x==("__debug__":NG))=false:=by decide) (he:NL (e::es) X.env=(false,O8 e X.env)::NL es X.env:=by rfl) (WA:(Om pos (NL es X.env)).any (·.1)=false:=by rfl): PE X (.Call (.Name x p) (e::es) [] pos) (GV sp Yd E t):=by
 intro V_ s σ H Q I h;refine Qf (o9 I hg hm ?_ WL);refine Sa (h₀:=X.base) I.ok.mod.kin hk (bF (ha pos V_ s σ H _ I h) λus s1 ⟨vs,H1,I1,r,q⟩=>⟨I1.kIn,?_⟩) he WA;exact xR F hr hb hd hx I1 r q
theorem zh (he:PE X o ta) (c:we X.K C) (hm:xL X.K C m f) (F:eF X.prog X.w X.K X.mg X.base CX k f fd ps sp) (hr:br k X.A) (hb:eZ X.K fd ps ds) (hd:aC Yd ds) (hx:l9 CX X E) (ha:PA X (e::es) t) (W_:NL (e::es) X.env=(false,O8 e X.env)::NL es X.env:=by rfl) (WA:(Om pos (NL es X.env)).any (·.1)=false:=by rfl) (ht:O8 (.Call (.Attribute o m W8) (e::es) [] pos) X.env=(do let ov<-O8 o X.env QZ W8.atName let (f,first)<-Q9 [ov] (QR ov m pl) RC pos f first (Om pos (NL (e::es) X.env)) (Q2 pos (Pg [] X.env))):=by rfl): PE X (.Call (.Attribute o m W8) (e::es) [] pos) (C7 C m sp Yd E ta t):=by
 intro V_ s σ H Q I h;refine RH (pl:=pl) (bF (he V_ s σ H _ I h) λu s1 z_=> ?_) ht;obtain⟨x,H1,I1,rx,a,dx,fs,ex,ea,l,q⟩:=z_;subst ex;obtain rfl:u=Of a:=rx;refine nv I1 ea c hm l ?_;refine Sa (first:=[.ref a]) (h₀:=X.base) I.ok.mod.kin hm.kp (bF (ha pos V_ s1 σ H1 _ I1 q) λus s2 ⟨vs,H2,I2,r,q2⟩=>⟨I2.kIn,?_⟩) W_ WA;exact xR (us:= .ref a::us) (vs:= .ref a::vs) F hr hb hd hx I2 (.cons rfl r) q2
theorem wg (he:PE X o ta) (c:we X.K C) (hm:xL X.K C m f) (F:eF X.prog X.w X.K X.mg X.base CX k f fd ps sp) (hr:br k X.A) (hb:eZ X.K fd ps ds) (hd:aC Yd ds) (hx:l9 CX X E) (ht:O8 (.Call (.Attribute o m W8) [] [] pos) X.env=(do let ov<-O8 o X.env QZ W8.atName let (f,first)<-Q9 [ov] (QR ov m pl) RC pos f first (Om pos (NL [] X.env)) (Q2 pos (Pg [] X.env))):=by rfl): PE X (.Call (.Attribute o m W8) [] [] pos) (C7 C m sp Yd E ta Km):=by
 intro V_ s σ H Q I h;refine RH (pl:=pl) (bF (he V_ s σ H _ I h) λu s1 z_=> ?_) ht;obtain⟨x,H1,I1,rx,a,dx,fs,ex,ea,l,q⟩:=z_;subst ex;obtain rfl:u=Of a:=rx;refine nv I1 ea c hm l ?_;exact PySem.W.callWith_K0 (first:=[.ref a]) I1.kIn hm.kp (xR (us:=[.ref a]) (vs:=[.ref a]) F hr hb hd hx I1 (.cons rfl .nil) q)
structure Mk (K:ND) (C f:NH):Prop where
 makes:QF K C=true
 init:O4 K (.ref C) "__init__"=GS (GS (.ref f))
 fn:RP K (.ref f)=true
 kp:OI K (.ref C)=true
theorem C8 {s:NI} {Q:VK} {vs:List V} (M:Mk X.K C f) (F:eF X.prog X.w X.K X.mg X.base CX k f fd ps sp) (hr:br (k+1) X.A) (hb:eZ X.K fd ps ds) (hd:aC Yd ds) (hx:l9 CX X E) (I:au X V_ σ H s) (r:aC vs us) (h:∀x dx,H x=JT->H dx=JT->dx≠x->sp (.ref x::(vs++Yd)) (aS (aS H dx (.own x)) x (.ins C dx [])) (λv H2=>v= .non/\Q (.ref x) H2) (E σ)): wpAny (NY X.prog X.w) X.A (call (.ref C) us) (EP X V_ σ Q) X.xe s:=by
 have hq:=h (s.heap.objs.size+1) s.heap.objs.size (I.hok.fresh (S4 _)) (I.hok.fresh (O2 _)) (Og (SS _));have I2:=au.made (C:=C) I;have r2:aC (V.ref (s.heap.objs.size+1)::(vs++Yd)) (Of (s.heap.objs.size+1)::(us++ds)):= .cons rfl (r.append hd);have hl:(Of (s.heap.objs.size+1)::us++ds).length=ps.length:=by
  have e:=r2.length;rw[F.len _ _ _ _ hq]at e;exact e.symm
 refine SF (C6 (f:=f) I.kIn M.makes M.init (beq_iff_eq.mp M.fn) (QM (F.run _ X.stack _ _ ⟨Of (s.heap.objs.size+1)::us,[]⟩ (Of (s.heap.objs.size+1)::(us++ds)) _ _ (E σ) (hr.make C us [])
  (I2.env0.make C us []) (hb _ (Of (s.heap.objs.size+1)::us) I2.kIn hl) r2 hq) λr s' a1T=> ?_))
 cases r with
 |error e=>exact hx V_ σ _ _ e s' I2 a1T
 |ok fl=>
  cases fl with
  |ret u=>
   obtain⟨v,H',I3,rv,ev,q3⟩:=I2.after a1T;subst ev;exact⟨rv,⟨V.ref (s.heap.objs.size+1),H',I3,rfl,q3⟩⟩
  |next=>exact Pp a1T
  |brk=>exact Pp a1T
  |cont=>exact Pp a1T
theorem zi (M:Mk X.K C f) (F:eF X.prog X.w X.K X.mg X.base CX k f fd ps sp) (hr:br (k+1) X.A) (hg:Gl X x) (hm:X.mg x=GS (.ref C)) (hb:eZ X.K fd ps ds) (hd:aC Yd ds) (hx:l9 CX X E) (ha:PA X (e::es) t) (WL:(x==("__debug__":NG))=false:=by decide) (he:NL (e::es) X.env=(false,O8 e X.env)::NL es X.env:=by rfl) (WA:(Om pos (NL es X.env)).any (·.1)=false:=by rfl): PE X (.Call (.Name x p) (e::es) [] pos) (Kn C sp Yd E t):=by
 intro V_ s σ H Q I h;refine Qf (o9 I hg hm ?_ WL);refine Sa (h₀:=X.base) I.ok.mod.kin M.kp (bF (ha pos V_ s σ H _ I h) λus s1 ⟨vs,H1,I1,r,q⟩=>⟨I1.kIn,?_⟩) he WA;exact C8 M F hr hb hd hx I1 r q
end
section
variable {X:Cx} {CX:xP} {k:Nat} {f C:NH} {fd:Pc} {ps ks:List NG} {sp:Sp} {E:St->XK} {x m:NG} {p pos W8 a52:Ox} {e o:NS} {es:List NS} {a7h:List Qh} {te ta:TE} {t tk:TA} {nm:Option NG}
variable {g:List NF->List NF->List NF} {gV:List V->List V->List V}
end
structure aL (N P:List NG) (sc:PJ):Prop where
 kind:sc.kind= .function
 co:sc.isCoroutine=false
 gen:sc.isGenerator=false
 nd:N.Nodup
 pre:N.take P.length=P
 par:∀x∈P,sc.names.lookup x=GS .local\/sc.names.lookup x=GS .cell
 nofree:∀y∈sc.names,y.2≠ .free
theorem tO {kindOf:NG->Option NameKind} {x:NG}:∀{binds:List (NG×NF)} {m:NG->Option NF},(∀v,(x,v)∉binds)->U9 kindOf binds m x=m x
 |[],_,_=>rfl
 |(n,v)::r,m,h=>by
  unfold U9;rw[tO λw hw=>h w (O1 _ hw)];split
  ·have:x≠n:=by rintro rfl;exact h v NZ
   simp[this]
  ·rfl
theorem tP {kindOf:NG->Option NameKind} {x:NG}:∀{binds:List (NG×NF)} {m:NG->Option NF},(∀v,(x,v)∉binds)->Ua kindOf binds m x=m x
 |[],_,_=>rfl
 |(n,v)::r,m,h=>by
  unfold Ua;rw[tP λw hw=>h w (O1 _ hw)];split
  ·rfl
  ·have:x≠n:=by rintro rfl;exact h v NZ
   simp[this]
theorem tR {kindOf:NG->Option NameKind} {x:NG} {v:NF}:∀{P:List NG} {vs:List NF} {i:Nat} {m:NG->Option NF},P.Nodup->P[i]? =GS x->vs[i]? =GS v->kindOf x=GS .local-> U9 kindOf (P.zip vs) m x=GS v
 |[],_,_,_,_,h,_,_=>by simp at h
 |_::_,[],_,_,_,_,h,_=>by simp at h
 |p::P,w::vs,0,m,nd,h1,h2,hk=>by
  simp at h1 h2;subst h1;subst h2;show U9 kindOf ((p,w)::P.zip vs) m p=_;unfold U9;rw[tO λv hv=>(QG.mp nd).1 (Tt hv).1,if_pos hk];simp
 |p::P,w::vs,i+1,m,nd,h1,h2,hk=>by
  show U9 kindOf ((p,w)::P.zip vs) m x=_;unfold U9;exact tR (i:=i) (QG.mp nd).2 (by simpa using h1) (by simpa using h2) hk
theorem tU {kindOf:NG->Option NameKind} {x:NG} {v:NF}:∀{P:List NG} {vs:List NF} {i:Nat} {m:NG->Option NF},P.Nodup->P[i]? =GS x->vs[i]? =GS v->kindOf x≠GS .local-> Ua kindOf (P.zip vs) m x=GS v
 |[],_,_,_,_,h,_,_=>by simp at h
 |_::_,[],_,_,_,_,h,_=>by simp at h
 |p::P,w::vs,0,m,nd,h1,h2,hk=>by
  simp at h1 h2;subst h1;subst h2;show Ua kindOf ((p,w)::P.zip vs) m p=_;unfold Ua;rw[tP λv hv=>(QG.mp nd).1 (Tt hv).1,if_neg hk];simp
 |p::P,w::vs,i+1,m,nd,h1,h2,hk=>by
  show Ua kindOf ((p,w)::P.zip vs) m x=_;unfold Ua;exact tU (i:=i) (QG.mp nd).2 (by simpa using h1) (by simpa using h2) hk
def dZ (N:List NG) (vs:List V):St:=vs.map GS++Oa (N.length - vs.length) JT
def ik (CX:xP) (P:NM) (w:NV) (K:ND) (mg:NG->Option NF) (base:NT) (N:List NG) (qual:NG) (scope:PJ) (f:NH) (cd:NF) (A:Oc) (outer:List Pw) (s:NI) (H:Hp) (E:XK):Cx where
 prog:=P
 w:=w
 K:=K
 mg:=mg
 base:=base
 A:=A.deeper (PY qual scope s.heap.objs.size f cd)
 N:=N
 s₀:=s
 H₀:=H
 env:=PY qual scope s.heap.objs.size f cd
 outer:=outer
 stack:=PY qual scope s.heap.objs.size f cd::outer
 ex:=[]
 calm:=true
 fn:=λ_=>true
 pn:=[]
 xe:=λe s'=>wpAny (NY P w) (A.deeper (PY qual scope s.heap.objs.size f cd)) (leaving (PY qual scope s.heap.objs.size f cd) e) (λ_ Ye=>CX outer H s E e Ye) (λe' Ye=>CX outer H s E e' Ye) s'
theorem wj {sc:PJ} {x:NG} (h:sc.names.lookup x=GS .cell):∃c,(cellsFrom n sc.names []).lookup x=GS c:=by
 have q:=TB sc.names n [] (.inl h);exact Option.isSome_iff_exists.mp q
theorem Au {CX:xP} {f:NH} {cd:NF} {s s1:NI} {E:XK} {vs:List V} (S:aL N ps scope) (hd:A.handled=JT) (e0:xQ P w K mg base A outer s H) (hl:vs.length=ps.length) (r:aC vs us) (x:InCallC s s.heap.objs.size (U9 (PY qual scope s.heap.objs.size f cd).kindOf (ps.zip us) λ_=>JT) (cellsFrom (s.heap.objs.size+1) scope.names []) (Ua (PY qual scope s.heap.objs.size f cd).kindOf (ps.zip us) λ_=>JT) s1): au (ik CX P w K mg base N qual scope f cd A outer s H E) [] (dZ N vs) H s1:=by
 have WA:ps.length<=N.length:=by have:=congrArg S5 S.pre;rw[Qc]at this;omega
 obtain⟨h1,tk,rfl,hk⟩:=x.done;have a1U:∀b:NH,b∉(ik CX P w K mg base N qual scope f cd A outer s H E).ex:=λb z=>absurd (show b∈([]:List NH)from z) (by simp);refine⟨⟨e0.mod,S.kind,rfl,rfl,O2 _,λy z c h1 h2=> ?_,λy hy=> ?_,λy c _ h=> ?_,λ_=>hd,Around.frames_deeper e0.frames, .inr ⟨rfl,rfl⟩,λb z=>absurd z (a1U b),e0.bs,e0.bsz,λb _ _=>a1U b,λb z=>absurd z (a1U b),e0.funs,e0.frf⟩,
  rfl,e0.bare,Un.kept hk,⟨_,x.toInCall.ns,λi y v h1 h2 h3=> ?_⟩,λy c h=>⟨_,x.cell y c h⟩,e0.hok.fresh (O2 _),λy c h=> ?_,λp hp=>absurd (show p∈([]:List (NH×Oi))from hp) (by simp),e0.hok.kept hk,?_⟩
 ·exact name_of_addr x.apart (Qz h1) (Qz h2)
 ·have hy:scope.names.lookup y=GS .cell\/scope.names.lookup y=GS .free:=hy
  rcases hy with hy|hy
  ·exact wj hy
  ·exact absurd rfl (S.nofree _ (Qz hy))
 ·exact R9 (x.above y c (Qz h))
 ·have hi:i<vs.length:=by
   unfold dZ at h2;by_cases hi:i<vs.length
   ·exact hi
   ·rw[QX (by simpa using hi)]at h2
    rw[PD]at h2;split at h2<;>cases h2
  have ha:vs[i]? =GS v:=by
   unfold dZ at h2;rw[PZ (by simpa using hi),O9]at h2;cases e:vs[i]? with
   |none=>rw[e]at h2;cases h2
   |some a=>rw[e]at h2;cases h2;rfl
  obtain⟨u,hu,rv⟩:=r.get ha;have hp:ps[i]? =GS y:=by
   rw[<-S.pre,List.getElem?_take_of_lt (by omega)];exact h1
  have a4q:ps.Nodup:=by rw[<-S.pre];exact S.nd.sublist (Rt _ _)
  refine⟨u,rv,?_⟩;rcases S.par y (Pz hp)with k|k
  ·exact .inl ⟨k,tR a4q hp hu k⟩
  ·obtain⟨c,e⟩:=wj (n:=s.heap.objs.size+1) k
   refine .inr ⟨.inl k,c,e,?_⟩;have q:=x.cell y c e;rw[tU a4q hp hu (by show scope.names.lookup y≠_;rw[k];decide)]at q;exact q
 ·exact e0.hok.fresh (R9 (x.above y c (Qz h)))
 ·unfold dZ
  show _=N.length;rw[Oh,NK,Qi];omega
theorem GW {CX:xP} {k:Nat} {f:NH} {name:NG} {params:Arguments} {body:List Ob} {dV kV WB pm W2 ct oc:NF} {an od:Option NH} {XO:Array (Option NF)} {N ps:List NG} {sp:Sp} (lk:K.lookup f=GS ⟨oc,od, .func (OP name qual params body scope dV kV WB pm an W2 ct),XO⟩) (WG:Qs K W2 qual=true) (S:aL N ps scope) (len:∀vs H Q E,sp vs H Q E->vs.length=ps.length) (Wg:∀(A:Oc) (outer:List Pw) (s:NI) (H:Hp) (vs:List V) (Q:VK) (E:XK),br k (A.deeper (PY qual scope s.heap.objs.size f W2))->sp vs H Q E-> ∃t,qM (ik CX P w K mg base N qual scope f W2 A outer s H E) body t/\t {nx:=λ_ H'=>Q .non H',rt:=Q} (dZ N vs) H): eF P w K mg base CX (k+1) f (OP name qual params body scope dV kV WB pm an W2 ct) ps sp:=by
 refine⟨len,λA outer s H args us vs Q E hr e0 hb r a0q=> ?_⟩;have hl:=len _ _ _ _ a0q;have KX:K.In s.heap:=e0.mod.kin.keeps λb o e=>(e0.bs b o e).1;have lim:s.heap.NoLimit:=e0.mod.nolimit.keeps λb o e=>(e0.bs b o e).1;have Z7:∀y∈ps.zip us,scope.names.lookup y.1=GS .local\/(scope.names.lookup y.1=GS .cell/\((cellsFrom (s.heap.objs.size+1) scope.names []).lookup y.1).isSome=true):=λ⟨n,v⟩ hy=>by
  rcases S.par n (Tt hy).1 with q|q
  ·exact .inl q
  ·exact .inr ⟨q,TB _ _ _ (.inl q)⟩
 refine codeAny_call_function hr.depth (KX _ _ lk) rfl S.co S.gen rfl (PySem.W.codeRec_of KX WG) (hb _ _ _ _ ?_);refine wpAny_newFunctionEnv_cells S.kind Z7 λenv he s1 x=> ?_;subst he;refine⟨lim.keeps x.toInCall.keep,codeAny_func ?_⟩;obtain⟨t,ht,hq⟩:=Wg A outer s H vs Q E (hr.deeper _) a0q;have I:au (ik CX P w K mg base N qual scope f W2 A outer s H E) [] (dZ N vs) H s1:=Au S hr.hd e0 hl r x;refine OS (ht [] s1 (dZ N vs) H _ I hq) (λfl s' hs=> ?_) λe s' hs=>hs;have Wz:∀{σ':St} {H':Hp} {v:V} {u:NF},au (ik CX P w K mg base N qual scope f W2 A outer s H E) [] σ' H' s'->aY v u->Q v H'->CE outer P w H s Q u s':=
  λ{σ' H' v u} J rv q=>⟨v,H',J.os,J.bare,J.base,J.hok,rv,q⟩
 cases fl with
 |ret u=>
  obtain⟨v,σ',H',J,rv,q⟩:=hs;exact Wz J rv q
 |next=>
  obtain⟨σ',H',J,q⟩:=hs;exact Wz (v:=V.non) (u:=OQ) J rfl q
 |brk=>
  obtain⟨_,_,_,q⟩:=hs;exact Pp q
 |cont=>
  obtain⟨_,_,_,q⟩:=hs;exact Pp q
section
variable {X:Cx} {x:NG} {p pos:Ox} {e:NS} {es:List NS} {t:TA} {id T:String} {r:List V->Hp->VK->Prop}
def Ml (r:List V->Hp->VK->Prop) (t:TA):TE:=λσ H Q=>t σ H λvs H1=>r vs H1 Q
theorem oi (hc:cJ X (.builtin id) r) (hg:Gl X x) (hm:X.mg x=JT) (hv:Ot x=GS (.builtin id)) (ha:PA X (e::es) t) (hn:x≠"__name__":=by decide) (WL:(x==("__debug__":NG))=false:=by decide) (he:NL (e::es) X.env=(false,O8 e X.env)::NL es X.env:=by rfl) (WA:(Om pos (NL es X.env)).any (·.1)=false:=by rfl):PE X (.Call (.Name x p) (e::es) [] pos) (Ml r t):=by
 intro V_ s σ H Q I h;refine Qf (nk I hg hm hv ?_ hn WL);exact RQ (bF (ha pos V_ s σ H _ I h) λus s1 ⟨vs,H1,I1,r1,q1⟩=>hc V_ s1 σ H1 vs us Q I1 r1 q1) he WA
theorem Av (hc:cJ X (.type T) r) (hg:Gl X x) (hm:X.mg x=JT) (hv:Ot x=GS (.type T)) (ha:PA X (e::es) t) (hn:x≠"__name__":=by decide) (WL:(x==("__debug__":NG))=false:=by decide) (he:NL (e::es) X.env=(false,O8 e X.env)::NL es X.env:=by rfl) (WA:(Om pos (NL es X.env)).any (·.1)=false:=by rfl):PE X (.Call (.Name x p) (e::es) [] pos) (Ml r t):=by
 intro V_ s σ H Q I h;refine Qf (nk I hg hm hv ?_ hn WL);exact Qe (bF (ha pos V_ s σ H _ I h) λus s1 ⟨vs,H1,I1,r1,q1⟩=>hc V_ s1 σ H1 vs us Q I1 r1 q1) he WA
end
end L2
namespace HT
open PySem PyProof.Rows
section
open PySem.SeqAt
open PySem.AutoSeq1 (wpAny_loadPart')
open PySem.MeetsSeq PySem.MeetsSeq2 PySem.MeetsSeq3
end
section
variable {prog:NM} {w:NV} {A:Oc} {E:NF->NI->Prop} {s:NI}
theorem EQ {t b:NH} {ws:List NF} (ht:SE s.heap t vs.toArray) (hb:SE s.heap b ws.toArray) (hv:vs≠[]) (h1:ws=[]->Q (.ref t) s) (h2:ws≠[]->Q (.ref s.heap.objs.size) {s with heap:=s.heap.push {cls:= .type "tuple",data:= .seq (vs++ws).toArray}}) (hsz:vs.length+ws.length<=sizeLine):wpAny (NY prog w) A (Q1 .Add (.ref t) (.ref b)) Q E s:=by
 obtain⟨⟨cls,dd,data,sl⟩,ho,hc,n,hd⟩:=id ht;obtain⟨⟨a35,a1H,data2,a1I⟩,a14,a1V,n2,a1W⟩:=id hb;simp only at hc hd a1V a1W;subst hc hd a1V a1W;have e:vs.toArray++ws.toArray=(vs++ws).toArray:=by simp
 by_cases hw:ws=[]
 ·exact UK ⟨_,ho,rfl⟩ ⟨_,a14,rfl⟩ SU Up Ry Rq (Ra _ _)
   (tuple_addW1 t b vs.toArray ws.toArray n n2 dd a1H sl a1I (by simpa using hv) (by simp[hw])) ⟨ho,a14,h1 hw⟩
 ·refine UK ⟨_,ho,rfl⟩ ⟨_,a14,rfl⟩ SU Up Ry Rq (Ra _ _)
   (tuple_addW2 t b vs.toArray ws.toArray n n2 dd a1H sl a1I (by simpa using hv) (by simpa using hw) (by rw[NR,NR];exact hsz)) ⟨ho,a14,?_⟩
  rw[e];exact h2 hw
def eh (n d:Nat):Option Int->Nat
 |none=>d
 |some v=>if v<0 then (v+(n:Int)).toNat else min v.toNat n
theorem Ia (n d:Nat) (hd:d<=n) (o:Option Int):eh n d o<=n:=by
 cases o with
 |none=>exact hd
 |some v=>
  show (if v<0 then (v+(n:Int)).toNat else min v.toNat n)<=n;by_cases hv:v<0
  ·rw[if_pos hv];omega
  ·rw[if_neg hv];exact Nat.min_le_right _ _
theorem zj (v:Int) (n d:Nat):(if v<0 then max (v+(n:Int)) 0 else min v (n:Int))=((eh n d (GS v):Nat):Int):=by
 show (if v<0 then max (v+(n:Int)) 0 else min v (n:Int))=(((if v<0 then (v+(n:Int)).toNat else min v.toNat n):Nat):Int);by_cases hv:v<0
 ·simp only[if_pos hv];omega
 ·simp only[if_neg hv];omega
theorem xS (lo hi:Option Int) (n:Nat):R5 lo hi 1 (n:Int)=(((eh n 0 lo:Nat):Int),((eh n n hi:Nat):Int)):=by
 have h1:¬((1:Int)<0):=by omega
 unfold R5;simp only[h1,if_false];refine Prod.ext ?_ ?_
 ·cases lo with
  |none=>rfl
  |some v=>exact zj v n 0
 ·cases hi with
  |none=>rfl
  |some v=>exact zj v n n
theorem xT (i j:Nat):Qp (i:Int) (j:Int) 1=j - i:=by
 unfold Qp;have h1:(1:Int)>0:=by omega
 simp only[h1,if_true,Int.ediv_one];split<;>omega
theorem r8 {v:NF} {o:Option Int} {Q:Option Int->NI->Prop} (p:RS v o) (h:Q o s):wpAny (NY prog w) A (Builtin.Slice.slicePartIndex v) Q E s:=by
 cases p with
 |none=>exact slicePart_none h
 |int i t=>exact slicePart_int h
theorem js {sl:NH} {vl vu:NF} {Q:Int×Int×Nat->NI->Prop} (hs:s.heap.IsSliceOf sl vl vu .none) (pl:RS vl lo) (pu:RS vu hi) (h:Q (((eh n 0 lo:Nat):Int),1,eh n n hi - eh n 0 lo) s):wpAny (NY prog w) A (Sj (.ref sl) (pure (n:Int))) Q E s:=by
 obtain⟨os,a15,a2D,ZG⟩:=id hs;unfold Sj Builtin.Slice.sliceFields;refine NJ (NJ (Rz a15 ZG (x:=vl) rfl (NJ (Rz a15 ZG (x:=vu) rfl (NJ (Rz a15 ZG (x:= .none) rfl (NQ ?_)))))));refine NJ (slicePart_none ?_);show wpAny _ _ (if ((1:Int)==0)=true then _ else _) _ _ s;rw[if_neg (by decide)];refine NJ (r8 pl (NJ (r8 pu (NJ (NQ ?_)))));show wpAny _ _ (match R5 lo hi 1 (n:Int)with|(lo,hi)=>pure (lo,(1:Int),Qp lo hi 1)) _ _ s;rw[xS lo hi n];show wpAny _ _ (pure (((eh n 0 lo:Nat):Int),(1:Int),Qp ((eh n 0 lo:Nat):Int) ((eh n n hi:Nat):Int) 1)) _ _ s;rw[xT];exact NQ h
theorem C9 (xs:Array NF) (i k:Nat):((Ov k).filterMap λ(m:Nat)=>xs[((i:Int)+(m:Int)*1).toNat]?).toArray=((xs.toList.drop i).take k).toArray:=by
 have e:(λ(m:Nat)=>xs[((i:Int)+(m:Int)*1).toNat]?)=λm=>xs[i+m]? :=by
  funext m
  have:((i:Int)+(m:Int)*1).toNat=i+m:=by omega
  rw[this]
 rw[e];have:=pick_run xs i k;rw[List.filterMap_map]at this;have e2:((λx=>xs[x]?)∘λx=>i+x)=λm=>xs[i+m]? :=rfl;rw[e2]at this;rw[this]
theorem oj {t sl:NH} {W0:Array NF} {vl vu:NF} (ht:SE s.heap t W0) (hs:s.heap.IsSliceOf sl vl vu .none) (pl:RS vl lo) (pu:RS vu hi) (hw:¬(eh W0.size 0 lo=0/\eh W0.size W0.size hi=W0.size)) (h:Q (.ref s.heap.objs.size) {s with heap:=s.heap.push {cls:= .type "tuple",data:= .seq ((W0.toList.drop (eh W0.size 0 lo)).take (eh W0.size W0.size hi - eh W0.size 0 lo)).toArray}}) (hsz:W0.size<=sizeLine):wpAny (NY prog w) A (Rm (.ref t) (.ref sl)) Q E s:=by
 have ZH:sizeOk (.seq ((W0.toList.drop (eh W0.size 0 lo)).take (eh W0.size W0.size hi - eh W0.size 0 lo)).toArray):=by
  show ((W0.toList.drop (eh W0.size 0 lo)).take (eh W0.size W0.size hi - eh W0.size 0 lo)).toArray.size<=sizeLine;rw[NR,Qc,Vb,PR];omega
 have hj:eh W0.size W0.size hi<=W0.size:=Ia _ _ (O2 _) hi;obtain⟨os,a15,a2D,ZG⟩:=id hs;have a36:s.TypeIs (.ref sl) "slice":=⟨os,a15,a2D⟩;unfold Rm
 try with_reducible refine Oq ?_
 first|refine NJ (NQ ?_)|skip
 refine NJ (V1 ht.typeIs (by decide) ?_);refine NJ (Tg (name:=Qv "__getitem__") ht.typeIs OU
  (QU OU ht.typeIs Ut ?_ (UL _ _)))
 show wpAny _ _ (Sk (.ref t)>>=_) _ _ s;refine NJ (Sl ht ?_);refine NJ (Rb a36 ?_);rw[if_pos (by decide)];refine NJ (js hs pl pu ?_);have YG:¬((((eh W0.size 0 lo:Nat):Int)==0&&(1:Int)==1&&(eh W0.size W0.size hi - eh W0.size 0 lo)==W0.size)=true):=by
  intro q;rw[OX,OX]at q;have q1:((eh W0.size 0 lo:Nat):Int)=0:=eq_of_beq q.1.1;have q2:eh W0.size W0.size hi - eh W0.size 0 lo=W0.size:=eq_of_beq q.2;exact hw ⟨by omega,by omega⟩
 show wpAny _ _ (if (((eh W0.size 0 lo:Nat):Int)==0&&(1:Int)==1&&(eh W0.size W0.size hi - eh W0.size 0 lo)==W0.size)=true then _ else _) _ _ s;rw[if_neg YG,C9]
 first
  |exact NJ (m:=Qw _) (Ru (NQ ⟨_,rfl,NQ h⟩) ZH)
  |exact NJ (m:=Qw _) (Ru (NJ (NQ (NQ ⟨_,rfl,NQ h⟩))) ZH)
  |exact NJ (NJ (m:=Qw _) (Ru (NQ (NQ ⟨_,rfl,NQ h⟩)) ZH))
  |exact NJ (NJ (m:=Qw _) (Ru (NQ ⟨_,rfl,NQ h⟩) ZH))
end
end HT
variable {prog:NM}
namespace L2
abbrev TO:=St->Hp->(Option Int->Hp->Prop)->Prop
def PO (X:Cx) (e:Option NS) (t:TO):Prop:=
 ∀(V_:List (NH×Oi)) (s:NI) (σ:St) (H:Hp) (Q:Option Int->Hp->Prop),au X V_ σ H s->t σ H Q->
  wpAny (NY X.prog X.w) X.A (evalPart e X.env) (λu s'=>∃o H',au X V_ σ H' s'/\RS u o/\Q o H') X.xe s
def ER:TO:=λ_ H Q=>Q JT H
def Ko (t:TE):TO:=λσ H Q=>t σ H λx H1=>∃i,x= .int i/\Q (GS i) H1
theorem jR {ns:List Int}:∀{us:List NF},aC (ns.map V.int) us->SK us ns:=by
 induction ns with
 |nil=>intro us r;rw[Pm]at r;cases r;exact .nil
 |cons n ns ih=>
  intro us r;rw[NP]at r;cases r with
  |cons r1 r2=>
   obtain⟨t,e⟩:=r1;subst e;exact .cons n t (ih r2)
section
variable {X:Cx} {e:NS} {te:TE} {lo hi:Option NS} {tl th:TO} {pos p2:Ox}
theorem ES:PO X JT ER:=by
 intro V_ s σ H Q I h;rw[Sm];exact NQ ⟨JT,H,I, .none,h⟩
theorem zk (h:PE X e te):PO X (GS e) (Ko te):=by
 intro V_ s σ H Q I hw;rw[evalPart_some];refine bF (h V_ s σ H _ I hw) λu s1 z_=> ?_;obtain⟨x,H1,I1,r1,q1⟩:=z_;obtain⟨i,rfl,q⟩:=q1;obtain⟨t,rfl⟩:=r1;exact⟨GS i,H1,I1, .int i t,q⟩
def GX (X:Cx) (r:V->Option Int->Option Int->Hp->VK->Prop):Prop:= ∀(V_:List (NH×Oi)) (s:NI) (σ:St) (H:Hp) (x:V) (v vl vu:NF) (lo hi:Option Int) (sl:NH) (Q:VK),au X V_ σ H s->aY x v->s.heap.IsSliceOf sl vl vu .none->RS vl lo->RS vu hi->r x lo hi H Q-> ∃T id,Ub (.type T) "__getitem__"=pure (GS (.builtin id))/\s.TypeIs v T/\wpAny (NY X.prog X.w) X.A (Rm v (.ref sl)) (EP X V_ σ Q) X.xe s
theorem GX.or {r r':V->Option Int->Option Int->Hp->VK->Prop} (h:GX X r) (h':GX X r'):GX X (λx lo hi H Q=>r x lo hi H Q\/r' x lo hi H Q):=by
 intro V_ s σ H x v vl vu lo hi sl Q I rx hs pl pu q;rcases q with q|q
 ·exact h V_ s σ H x v vl vu lo hi sl Q I rx hs pl pu q
 ·exact h' V_ s σ H x v vl vu lo hi sl Q I rx hs pl pu q
def Nj (r:V->Option Int->Option Int->Hp->VK->Prop) (te:TE) (tl th:TO):TE:=λσ H Q=>te σ H λx H1=>tl σ H1 λl H2=>th σ H2 λu H3=>r x l u H3 Q
theorem Ca {r:V->Option Int->Option Int->Hp->VK->Prop} (hr:GX X r) (he:PE X e te) (hl:PO X lo tl) (hu:PO X hi th):PE X (.Subscript e (.Slice lo hi JT p2) pos) (Nj r te tl th):=by
 intro V_ s σ H Q I h;refine Uc (bF (he V_ s σ H _ I h) λv s1 z_=> ?_);obtain⟨x,H1,I1,r1,q1⟩:=z_;refine wpAny_Slice (bF (hl V_ s1 σ H1 _ I1 q1) λvl s2 ⟨l,H2,I2,pl,q2⟩=>bF (hu V_ s2 σ H2 _ I2 q2) λvu s3 z_=> ?_);obtain⟨u,H3,I3,pu,q3⟩:=z_;rw[Sm];refine NQ ?_;have I4:au X V_ σ H3 {s3 with heap:=s3.heap.push {cls:= .type "slice",data:= .fields #[vl,vu, .none]}}:=I3.kept (t':=s3.toks) λb ob q=>NO _ q;obtain⟨T,id,hT,ht,hg⟩:=hr V_ {s3 with heap:=s3.heap.push {cls:= .type "slice",data:= .fields #[vl,vu, .none]}} σ H3 x v vl vu l u s3.heap.objs.size Q I4 r1 (UM ..) pl pu q3;show wpAny (NY X.prog X.w) X.A (Sn e (.Slice lo hi JT p2) v (.ref s3.heap.objs.size)) (EP X V_ σ Q) X.xe {s3 with heap:=s3.heap.push {cls:= .type "slice",data:= .fields #[vl,vu, .none]}};exact tail_any (ops:=[.ref s3.heap.objs.size,v]) ht hT hg (by with_unfolding_all rfl)
def sY (xs:List V) (lo hi:Option Int):List V:=(xs.drop (HT.eh xs.length 0 lo)).take (HT.eh xs.length xs.length hi - HT.eh xs.length 0 lo)
theorem q9 (xs:List V) (lo hi:Option Int):(sY xs lo hi).length<=xs.length:=by
 unfold sY;rw[Qc,Vb];omega
def Mm (K:ND):V->Option Int->Option Int->Hp->VK->Prop:=λx lo hi H Q=>∃a xs,x= .ref a/\gf K H a xs/\
 ¬(HT.eh xs.length 0 lo=0/\HT.eh xs.length xs.length hi=xs.length)/\∀p,H p=JT->Q (.ref p) (aS H p (.tup (sY xs lo hi)))
theorem Ib:GX X (Mm X.K):=by
 intro V_ s σ H x v vl vu lo hi sl Q I rx hs pl pu h;obtain⟨a,xs,rfl,hx,hw,q⟩:=h;cases rx;obtain⟨its,r,ht,hz⟩:=I.tuple hx;have Wa:its.toArray.size=xs.length:=by rw[NR];exact r.length.symm
 refine⟨"tuple",_,OU.lookup,ht.typeIs,?_⟩;refine HT.oj ht hs pl pu (by rw[Wa];exact hw) ?_ (by rw[Wa];exact hz);rw[Wa];refine⟨.ref s.heap.objs.size,_,I.laid (t':=s.toks) (o:= .tup (sY xs lo hi)) (λb ob q=>NO _ q) (O2 _) ?_,rfl,q _ (I.hok.fresh (O2 _))⟩;exact⟨Ou (q9 xs lo hi) hz,_,(r.drop (HT.eh xs.length 0 lo)).take (HT.eh xs.length xs.length hi - HT.eh xs.length 0 lo),ii.new _ _⟩
def GY (K:ND):R2:=λx y H Q=>∃a b xs ys,x= .ref a/\y= .ref b/\gf K H a xs/\gf K H b ys/\xs≠[]/\xs.length+ys.length<=sizeLine/\
 (ys=[]->Q (.ref a) H)/\(ys≠[]->∀p,H p=JT->Q (.ref p) (aS H p (.tup (xs++ys))))
theorem aC.nil_iff {xs:List V} (r:aC xs us):us=[]<->xs=[]:=by
 cases r with
 |nil=>simp
 |cons _ _=>simp
theorem ET:kU X (Q1 .Add) (GY X.K):=by
 intro V_ s σ H x y v u Q I rx ry h;obtain⟨a,b,xs,ys,rfl,rfl,ha,hb,hx,hz,q1,q2⟩:=h;cases rx;cases ry;obtain⟨its,r1,p1,_⟩:=I.tuple ha;obtain⟨Xa,r2,p2,_⟩:=I.tuple hb;refine HT.EQ p1 p2 (λz=>hx (r1.nil_iff.mp z)) (λz=>⟨.ref a,H,I,rfl,q1 (r2.nil_iff.mp z)⟩) (λz=> ?_) (by rw[<-r1.length,<-r2.length];exact hz);refine⟨.ref s.heap.objs.size,_,I.laid (t':=s.toks) (o:= .tup (xs++ys)) (λb ob q=>NO _ q) (O2 _) ?_,rfl,q2 (λw=>z (r2.nil_iff.mpr w)) _ (I.hok.fresh (O2 _))⟩;exact⟨by rw[Oh];exact hz,_,r1.append r2,ii.new _ _⟩
end
def xD (n:Nat) (i:Int):Option Nat:=if 0<=i then (if i<n then GS i.toNat else JT)else if -(n:Int)<=i then GS (i+n).toNat else JT
def atI {α:Type} (xs:List α) (i:Int):Option α:=(xD xs.length i).bind λj=>xs[j]?
theorem zl {i:Int} (h:xD n i=GS j):seqIndex? i n=GS j/\j<n/\ -(n:Int)<=i/\i<n:=by
 unfold xD at h;by_cases h0:0<=i
 ·rw[if_pos h0]at h
  by_cases h1:i<n
  ·rw[if_pos h1]at h
   have e:i.toNat=j:=OR h;exact⟨by rw[V7 h0 h1,e],by omega,by omega,h1⟩
  ·rw[if_neg h1]at h;cases h
 ·rw[if_neg h0]at h
  by_cases h1: -(n:Int)<=i
  ·rw[if_pos h1]at h
   have e:(i+n).toNat=j:=OR h;exact⟨by rw[UN (by omega) h1,e],by omega,h1,by omega⟩
  ·rw[if_neg h1]at h;cases h
theorem uR {α:Type} {xs:List α} {i:Int} {v:α} (h:atI xs i=GS v):∃j,seqIndex? i xs.length=GS j/\xs[j]? =GS v/\j<xs.length/\ -(xs.length:Int)<=i/\i<xs.length:=by
 unfold atI at h;cases e:xD xs.length i with
 |none=>rw[e]at h;cases h
 |some j=>
  rw[e]at h;obtain⟨h1,h2,h3,h4⟩:=zl e;exact⟨j,h1,h,h2,h3,h4⟩
theorem uS {α:Type} {xs:List α} {v:α} (h:xs[j]? =GS v):atI xs (j:Int)=GS v:=by
 have hj:j<xs.length:=(O6.mp h).1;have e:xD xs.length (j:Int)=GS j:=by
  unfold xD;rw[if_pos (by omega),if_pos (by omega)];simp
 unfold atI;rw[e];exact h
theorem wk {α:Type} (xs:List α) (v:α):atI (xs++[v]) (-1)=GS v:=by
 have hl:(xs++[v]).length=xs.length+1:=by simp
 have e:xD (xs++[v]).length (-1)=GS xs.length:=by
  unfold xD;rw[hl,if_neg (by decide),if_pos (by omega)]
  congr 1
  omega
 unfold atI;rw[e];show (xs++[v])[xs.length]? =GS v;simp
def zm (b:NS):Prop:=∀o i,TC b false o i=operate [o,i] (Rm o i)
def EU (X:Cx) (r:R2):Prop:= ∀(value WJ:NS) (V_:List (NH×Oi)) (s:NI) (σ:St) (H:Hp) (x y:V) (v u:NF) (Q:VK),au X V_ σ H s->aY x v->aY y u->r x y H Q-> TC WJ false v u=operate [v,u] (Rm v u)->wpAny (NY X.prog X.w) X.A (Sn value WJ v u) (EP X V_ σ Q) X.xe s
def N2 (X:Cx) (id:String) (r:V->List V->Hp->VK->Prop):Prop:= ∀(V_:List (NH×Oi)) (s:NI) (σ:St) (H:Hp) (x:V) (xs:List V) (v:NF) (us:List NF) (Q:VK),au X V_ σ H s->aY x v->aC xs us->r x xs H Q-> wpAny (NY X.prog X.w) X.A (call (.builtin id) (v::us)) (EP X V_ σ Q) X.xe s
section
variable {X:Cx} {a b:NS} {ta tb:TE} {pos:Ox}
theorem EU.or {r r':R2} (h:EU X r) (h':EU X r'):EU X (λx y H Q=>r x y H Q\/r' x y H Q):=by
 intro value WJ V_ s σ H x y v u Q I rx ry q hs;rcases q with q|q
 ·exact h value WJ V_ s σ H x y v u Q I rx ry q hs
 ·exact h' value WJ V_ s σ H x y v u Q I rx ry q hs
theorem Kq {r:R2} (hr:EU X r) (ha:PE X a ta) (hb:PE X b tb) (hs:zm b):PE X (.Subscript a b pos) (LL r ta tb):=by
 intro V_ s σ H Q I h;exact Uc (HS ha hb I h λv u s2 x y H2 I2 rx ry q=>hr a b V_ s2 σ H2 x y v u Q I2 rx ry q (hs _ _))
def Kr (K:ND):R2:=λx y H Q=>∃p xs i v,x= .ref p/\y= .int i/\cP K H p xs/\atI xs i=GS v/\Q v H
def Ks (K:ND):R2:=λx y H Q=>∃p xs i v,x= .ref p/\y= .int i/\gf K H p xs/\atI xs i=GS v/\Q v H
def Kt:R2:=λx y H Q=>∃z i c,x= .str z/\y= .int i/\z.length<=sizeLine/\atI z.cps.toList i=GS c/\Q (.str ⟨#[c]⟩) H
theorem EV:EU X (Kr X.K):=by
 intro value WJ V_ s σ H x y v u Q I rx ry h hs;obtain⟨p,xs,i,z,rfl,rfl,hq,he,q⟩:=h;cases rx;obtain⟨t,rfl⟩:=ry;obtain⟨its,r,pl,hz⟩:=I.list hq;obtain⟨j,h1,h2,h3,h4,h5⟩:=uR he;obtain⟨w,ew,ZI⟩:=r.get h2;have hl:=r.length;have hn:=pB;have Wz:EP X V_ σ Q w s:=⟨z,H,I,ZI,q⟩;by_cases h0:0<=i
 ·have hj:i.toNat=j:=by
   rw[V7 h0 h5]at h1;exact OR h1
  exact item_listR pl.isList h0 (by omega) (by rw[hj];simpa using ew) Wz hs
 ·have hj:(i+(its.toArray.size:Int)).toNat=j:=by
   rw[UN (by omega) h4]at h1;rw[NR,<-hl];exact OR h1
  exact TF (x:=w) pl.isList.typeIs Sx.lookup
   (wpAny_getItem_list_neg (Q:=λr s'=>r=w/\EP X V_ σ Q r s') pl.isList (by omega) (by rw[NR]<;>omega) (by omega) (by rw[hj];simpa using ew) ⟨rfl,Wz⟩) hs
theorem Ic:EU X (Ks X.K):=by
 intro value WJ V_ s σ H x y v u Q I rx ry h hs;obtain⟨p,xs,i,z,rfl,rfl,hq,he,q⟩:=h;cases rx;obtain⟨t,rfl⟩:=ry;obtain⟨its,r,pl,hz⟩:=I.tuple hq;obtain⟨j,h1,h2,h3,h4,h5⟩:=uR he;obtain⟨w,ew,ZI⟩:=r.get h2;have hl:=r.length;have hn:=pB;have Wz:EP X V_ σ Q w s:=⟨z,H,I,ZI,q⟩;exact TF (x:=w) pl.typeIs OU.lookup
  (getItem_tuple (j:=j) (Q:=λr s'=>r=w/\EP X V_ σ Q r s') pl (by omega) (by omega) (by rw[NR,<-hl];exact h1) (by simpa using ew) ⟨rfl,Wz⟩) hs
theorem Ie:EU X Kt:=by
 intro value WJ V_ s σ H x y v u Q I rx ry h hs;obtain⟨z,i,c,rfl,rfl,hz,he,q⟩:=h;obtain⟨t,rfl⟩:=rx;obtain⟨t',rfl⟩:=ry;obtain⟨j,h1,h2,h3,h4,h5⟩:=uR he;have hl:z.cps.toList.length=z.length:=by simp[Str.length]
 rw[hl]at h1 h4 h5;have hn:=pB;exact tail_any (typeIs_str s z t) slot_str_getitem.lookup (getItem_str (c:=c) (by
  have e1:decide (i< -(2 ^63:Int))=false:=decide_eq_false (by omega);have e2:decide (i>=2 ^63)=false:=decide_eq_false (by omega);rw[e1,e2,Bool.or_false]) (by rw[h1];simpa using h2) ⟨.str ⟨#[c]⟩,H,I.tok _,⟨_,rfl⟩,q⟩) hs
def N3 (K:ND):R2:=λx y H Q=>Kr K x y H Q\/Ks K x y H Q\/Kt x y H Q
theorem Ig:EU X (N3 X.K):=EV.or (Ic.or Ie)
theorem xU (its:List NF) (n j:Nat) (u:NF):Pq (·.setIfInBounds j u) {cls:= .type "list",data:= .seq its.toArray n}={cls:= .type "list",data:= .seq (its.set j u).toArray n}:=by
 simp[Pq]
theorem au.lst {V_:List (NH×Oi)} {σ:St} {H:Hp} {s:NI} {p:NH} {xs:List V} (I:au X V_ σ H s) (h:H p=GS (.lst xs)): ∃(its:List NF) (n:Nat),aC xs its/\s.heap.get? p=GS {cls:= .type "list",data:= .seq its.toArray n}/\xs.length<=sizeLine:=by
 obtain⟨z,its,n,r,e⟩:=I.hok p _ h;exact⟨its,n,r,e,z⟩
theorem au.lstUpd {s:NI} {p:NH} {xs ys:List V} {its':List NF} {n':Nat} {f:Oi->Oi} (I:au X V_ σ H s) (h:H p=GS (.lst xs)) (ho:s.heap.get? p=GS {cls:= .type "list",data:= .seq its.toArray n}) (hf:f {cls:= .type "list",data:= .seq its.toArray n}={cls:= .type "list",data:= .seq its'.toArray n'}) (r:aC ys its') (hz:ys.length<=sizeLine) (t:Nat): au X V_ σ (aS H p (.lst ys)) {s with heap:=s.heap.update p f,toks:=t}:=by
 have e:(s.heap.update p f).get? p=GS {cls:= .type "list",data:= .seq its'.toArray n'}:=by
  rw[TU f ho (by rw[hf]<;>rfl),hf]
 refine I.write (x:=p) (e:=p) (by rw[h];trivial) (.inl rfl) (λb u hb q=>(RA _ _ (Py hb)).trans q) ⟨_,e⟩ ?_;exact⟨hz,its',n',r,e⟩
def Ku:V->V->V->Hp->(Hp->Prop)->Prop:=λo i v H Q=>∃p xs k j,o= .ref p/\i= .int k/\H p=GS (.lst xs)/\xD xs.length k=GS j/\Q (aS H p (.lst (xs.set j v)))
theorem Cb:Kb X Ku:=by
 intro V_ s σ H o i v ov iv u Q I ro ri rv h;obtain⟨p,xs,k,j,rfl,rfl,hp,hj,q⟩:=h;cases ro;obtain⟨t,rfl⟩:=ri;obtain⟨its,n,r,ho,hz⟩:=I.lst hp;obtain⟨h1,h2,h3,h4⟩:=zl hj;have hl:=r.length;have hn:=pB;have I':au X V_ σ (aS H p (.lst (xs.set j v))) {s with heap:=s.heap.update p (Pq (·.setIfInBounds j u))}:=
  I.lstUpd hp ho (xU its n j u) (r.set rv j) (by rw[RT];exact hz) s.toks
 by_cases h0:0<=k
 ·have hk:k.toNat=j:=by
   rw[V7 h0 h4]at h1;exact OR h1
  exact PySem.W.ki_setAt ho h0 (by omega) (by rw[NR,<-hl];exact h4) (by rw[hk];exact⟨_,I',q⟩)
 ·have hk:(k+(its.toArray.size:Int)).toNat=j:=by
   rw[UN (by omega) h3]at h1;rw[NR,<-hl];exact OR h1
  exact PySem.W.ki_setBack ho (by omega) (by rw[NR,<-hl];exact h3) (by omega) (by rw[hk];exact⟨_,I',q⟩)
theorem uT (lo hi:Option Int) (n:Nat):(R0 lo hi JT n).1=((HT.eh n 0 lo:Nat):Int)/\(R0 lo hi JT n).2.1=((HT.eh n n hi:Nat):Int)/\(R0 lo hi JT n).2.2=1:=by
 refine⟨?_,?_,rfl⟩
 ·cases lo with
  |none=>simp[R0,HT.eh]
  |some i=>
   simp only[R0,HT.eh,Vc,show (1:Int)>0 by decide,if_true];by_cases h:i<0
   ·simp only[h,if_true]<;>omega
   ·simp only[h,if_false]<;>omega
 ·cases hi with
  |none=>simp[R0,HT.eh]
  |some i=>
   simp only[R0,HT.eh,Vc,show (1:Int)>0 by decide,if_true];by_cases h:i<0
   ·simp only[h,if_true]<;>omega
   ·simp only[h,if_false]<;>omega
theorem sZ (its:List NF) (lo hi:Option Int):slicePick its.toArray lo hi JT=((its.drop (HT.eh its.length 0 lo)).take (HT.eh its.length its.length hi - HT.eh its.length 0 lo)).toArray:=by
 obtain⟨h1,h2,h3⟩:=uT lo hi its.toArray.size;unfold slicePick;rw[h1,h2,h3];simp only[sliceRange_one,pick_run,NR]<;>rfl
def Mn (K:ND):V->Option Int->Option Int->Hp->VK->Prop:=λx lo hi H Q=>∃a xs,x= .ref a/\cP K H a xs/\∀p,H p=JT->Q (.ref p) (aS H p (.lst (sY xs lo hi)))
theorem EW:GX X (Mn X.K):=by
 intro V_ s σ H x v vl vu lo hi sl Q I rx hs pl pu h;obtain⟨a,xs,rfl,hx,q⟩:=h;cases rx;obtain⟨its,r,ht,hz⟩:=I.list hx;have Wa:=r.length;refine⟨"list",_,Sx.lookup,ht.isList.typeIs,?_⟩;refine SV ht.isList hs pl pu .none (by simp) ?_ (by rw[NR]<;>omega);rw[sZ,<-Wa];refine⟨.ref s.heap.objs.size,_,I.laid (t':=s.toks) (o:= .lst (sY xs lo hi)) (λb ob q=>NO _ q) (O2 _) ?_,rfl,q _ (I.hok.fresh (O2 _))⟩;exact⟨Ou (q9 xs lo hi) hz,_,0,(r.drop (HT.eh xs.length 0 lo)).take (HT.eh xs.length xs.length hi - HT.eh xs.length 0 lo),Oe _ rfl⟩
def gM:V->Bool
 | .non=>true
 | .bl _=>true
 | .int _=>true
 | .str _=>true
 |_=>false
def BJ:V->V->Bool
 | .non, .non=>true
 | .bl a, .bl b=>a==b
 | .bl a, .int b=>(if a then 1 else 0)==b
 | .int a, .bl b=>a==(if b then 1 else 0)
 | .int a, .int b=>a==b
 | .str a, .str b=>a==b
 |_,_=>false
theorem Cd {s:NI} {y x:V} {u v:NF} (ry:aY y u) (rx:aY x v) (fy:gM y=true) (fx:gM x=true):Vn A s u v (BJ y x):=by
 cases y with
 |non=>
  cases ry;cases x with
  |non=>cases rx;exact Vo _
  |bl b=>cases rx;exact SeqAt.EqAt.none_bool b
  |int b=>obtain⟨t,rfl⟩:=rx;exact SeqAt.EqAt.none_int b t
  |str b=>obtain⟨t,rfl⟩:=rx;exact SeqAt.EqAt.none_str b t
  |_=>exact absurd (show false=true from fx) Od
 |bl a=>
  cases ry;cases x with
  |non=>cases rx;exact SeqAt.EqAt.bool_none a
  |bl b=>cases rx;exact Rc a b
  |int b=>obtain⟨t,rfl⟩:=rx;exact SeqAt.EqAt.bool_int a b t
  |str b=>obtain⟨t,rfl⟩:=rx;exact SeqAt.EqAt.bool_str a b t
  |_=>exact absurd (show false=true from fx) Od
 |int a=>
  obtain⟨t',rfl⟩:=ry;cases x with
  |non=>cases rx;exact SeqAt.EqAt.int_none a t'
  |bl b=>cases rx;exact SeqAt.EqAt.int_bool a t' b
  |int b=>obtain⟨t,rfl⟩:=rx;exact RB a t' b t
  |str b=>obtain⟨t,rfl⟩:=rx;exact Uy a t' b t
  |_=>exact absurd (show false=true from fx) Od
 |str a=>
  obtain⟨t',rfl⟩:=ry;cases x with
  |non=>cases rx;exact SeqAt.EqAt.str_none a t'
  |bl b=>cases rx;exact SeqAt.EqAt.str_bool a t' b
  |int b=>obtain⟨t,rfl⟩:=rx;exact Uz a t' b t
  |str b=>obtain⟨t,rfl⟩:=rx;exact SeqAt.EqAt.str_str a t' b t
  |_=>exact absurd (show false=true from fx) Od
 |_=>exact absurd (show false=true from fy) Od
def xV (x:V) (u:NF):Bool:=match u with
 | .none=>BJ .non x
 | .bool b=>BJ (.bl b) x
 | .int i _=>BJ (.int i) x
 | .str z _=>BJ (.str z) x
 |_=>false
theorem Cf {x y:V} {u:NF} (r:aY y u) (f:gM y=true):xV x u=BJ y x:=by
 cases y with
 |non=>cases r;rfl
 |bl b=>cases r;rfl
 |int i=>obtain⟨t,rfl⟩:=r;rfl
 |str z=>obtain⟨t,rfl⟩:=r;rfl
 |_=>exact absurd (show false=true from f) Od
theorem ol {x:V}:∀{xs:List V} {us:List NF},aC xs us->xs.all gM=true->us.any (xV x)=xs.any λy=>BJ y x
 |_,_, .nil,_=>rfl
 |y::xs,u::us, .cons r t,f=>by
  rw[Pn,OX]at f;rw[Px,Px,Cf r f.1,ol t f.2]
theorem la {A:Oc} {s:NI} {x:V} {v:NF} (rx:aY x v) (fx:gM x=true):∀{xs:List V} {us:List NF},aC xs us->xs.all gM=true->∀u∈us,Vn A s u v (xV x u)
 |_,_, .nil,_=>λu hu=>by cases hu
 |y::xs,u::us, .cons r t,f=>λu' hu=>by
  rw[Pn,OX]at f;rcases NW.mp hu with rfl|hu
  ·rw[Cf r f.1];exact Cd r rx f.1 fx
  ·exact la rx fx t f.2 u' hu
def inV (x:V) (xs:List V):Bool:=xs.any λy=>BJ y x
def Mp (K:ND) (Xg:Bool):R2:=λx y H Q=>∃p xs,y= .ref p/\(cP K H p xs\/gf K H p xs)/\gM x=true/\xs.all gM=true/\Q (.bl (if Xg then !inV x xs else inV x xs)) H
theorem tV:kU X (P6 .In) (Mp X.K false):=by
 intro V_ s σ H x y v u Q I rx ry h;obtain⟨p,xs,rfl,hq,fx,fs,q⟩:=h;cases ry;rcases hq with hq|hq
 ·obtain⟨its,r,pl,hz⟩:=I.list hq
  refine SeqAt.in_listAt (xV x) pl.isList (λw hw=>la rx fx r fs w (by simpa using hw)) ⟨.bl _,H,I,rfl,?_⟩;rw[show its.toArray.any (xV x)=its.any (xV x) by simp,ol r fs];exact q
 ·obtain⟨its,r,pl,hz⟩:=I.tuple hq
  refine SeqAt.in_tupleAt (xV x) pl (λw hw=>la rx fx r fs w (by simpa using hw)) ⟨.bl _,H,I,rfl,?_⟩;rw[show its.toArray.any (xV x)=its.any (xV x) by simp,ol r fs];exact q
theorem om:kU X (P6 .NotIn) (Mp X.K true):=by
 intro V_ s σ H x y v u Q I rx ry h;obtain⟨p,xs,rfl,hq,fx,fs,q⟩:=h;cases ry;rcases hq with hq|hq
 ·obtain⟨its,r,pl,hz⟩:=I.list hq
  refine SeqAt.notIn_listAt (xV x) pl.isList (λw hw=>la rx fx r fs w (by simpa using hw)) ⟨.bl _,H,I,rfl,?_⟩;rw[show its.toArray.any (xV x)=its.any (xV x) by simp,ol r fs];exact q
 ·obtain⟨its,r,pl,hz⟩:=I.tuple hq
  refine SeqAt.notIn_tupleAt (xV x) pl (λw hw=>la rx fx r fs w (by simpa using hw)) ⟨.bl _,H,I,rfl,?_⟩;rw[show its.toArray.any (xV x)=its.any (xV x) by simp,ol r fs];exact q
theorem uU:cJ X (.builtin "len") (λxs H Q=>∃p ys,xs=[.ref p]/\(cP X.K H p ys\/gf X.K H p ys)/\Q (.int ys.length) H):=by
 intro V_ s σ H xs us Q I r h;obtain⟨p,ys,rfl,hq,q⟩:=h;obtain⟨u,rfl,rx⟩:=ij r;cases rx;have hn:=pB;rcases hq with hq|hq
 ·obtain⟨its,r',pl,hz⟩:=I.list hq
  have Wa:=r'.length;exact Calls.call_len_list pl.isList (by simp only[NR]<;>omega) ⟨.int ys.length,H,I.tok _,⟨s.toks+1,by rw[NR,Wa]⟩,q⟩
 ·obtain⟨its,r',pl,hz⟩:=I.tuple hq
  have Wa:=r'.length;exact len_tuple pl (by simp only[NR]<;>omega) ⟨.int ys.length,H,I.tok _,⟨s.toks+1,by rw[NR,Wa]⟩,q⟩
theorem cJ.or {f:NF} {r r':List V->Hp->VK->Prop} (h:cJ X f r) (h':cJ X f r'):cJ X f (λxs H Q=>r xs H Q\/r' xs H Q):=by
 intro V_ s σ H xs us Q I rs q;rcases q with q|q
 ·exact h V_ s σ H xs us Q I rs q
 ·exact h' V_ s σ H xs us Q I rs q
theorem uV:cJ X (.type "list") (λxs H Q=>∃p ys,xs=[.ref p]/\(cP X.K H p ys\/gf X.K H p ys)/\∀l,H l=JT->Q (.ref l) (aS H l (.lst ys))):=by
 intro V_ s σ H xs us Q I r h;obtain⟨p,ys,rfl,hq,q⟩:=h;obtain⟨u,rfl,rx⟩:=ij r;cases rx;have Wz:∀(its:List NF),aC ys its->ys.length<=sizeLine->∀(h':NT) (c':Nat),(∀b o',s.heap.get? b=GS o'->h'.get? b=GS o')->
   h'.get? s.heap.objs.size=GS {cls:= .type "list",dict:=JT,data:= .seq its.toArray c',slots:= #[]}->EP X V_ σ Q (.ref s.heap.objs.size) {s with heap:=h'}:=λits r' hz h' c' kp e=>
  ⟨.ref s.heap.objs.size,_,I.laid (t':=s.toks) kp (O2 _) (show bg X.prog X.w _ h' _ (.lst ys)from ⟨hz,its,c',r',e⟩),rfl,q _ (I.hok.fresh (O2 _))⟩
 rcases hq with hq|hq
 ·obtain⟨its,r',pl,hz⟩:=I.list hq
  have Wa:=r'.length;obtain⟨o,ho,hc,n,hd⟩:=pl.isList;exact call_list_seq p (.inl rfl) ho hc hd (λh' c' kp e=>Wz its r' hz h' c' kp e) (by simp only[NR]<;>omega)
 ·obtain⟨its,r',pl,hz⟩:=I.tuple hq
  have Wa:=r'.length;obtain⟨o,ho,hc,n,hd⟩:=pl;exact call_list_seq p (.inr rfl) ho hc hd (λh' c' kp e=>Wz its r' hz h' c' kp e) (by simp only[NR]<;>omega)
theorem gD:cJ X (.type "tuple") (λxs H Q=>∃p ys,xs=[.ref p]/\((cP X.K H p ys/\∀l,H l=JT->Q (.ref l) (aS H l (.tup ys)))\/(gf X.K H p ys/\Q (.ref p) H))):=by
 intro V_ s σ H xs us Q I r h;obtain⟨p,ys,rfl,h⟩:=h;obtain⟨u,rfl,rx⟩:=ij r;cases rx;rcases h with ⟨hq,q⟩|⟨hq,q⟩
 ·obtain⟨its,r',pl,hz⟩:=I.list hq
  have Wa:=r'.length;refine call_tuple_list pl.isList (λh' kp=> ?_) (by simp only[NR]<;>omega);have I1:au X V_ σ H {s with heap:=h'}:=I.kept (t':=s.toks) kp;have I2:au X V_ σ (aS H h'.objs.size (.tup ys)) {s with heap:=h'.push {cls:= .type "tuple",data:= .seq its.toArray}}:=
   I1.laid (t':=s.toks) (λb o e=>NO _ e) (O2 _) (show bg X.prog X.w _ _ _ (.tup ys)from ⟨hz,its,r',ii.new _ _⟩)
  exact⟨.ref h'.objs.size,_,I2,rfl,q _ (I1.hok.fresh (O2 _))⟩
 ·obtain⟨its,r',pl,hz⟩:=I.tuple hq
  exact call_tuple_same pl ⟨.ref p,H,I,rfl,q⟩
def LM (K:ND) (T:String) (x:V) (H:Hp):Prop:=match x with
 | .str _=>T="str"
 | .int _=>T="int"
 | .ref p=>(T="list"/\∃xs,cP K H p xs)\/(T="tuple"/\∃o,K.lookup p=GS o/\o.cls= .type "tuple"/\o.dict=JT)\/
   (T="dict"/\((∃kvs,H p=GS (.dK kvs))\/∃kvs,H p=GS (.dT kvs)))\/(T="set"/\∃S n,H p=GS (.set S n))
 |_=>False
theorem xW {s:NI} {T:String} {x:V} {v:NF} (I:au X V_ σ H s) (r:aY x v) (ty:LM X.K T x H): s.TypeIs v T/\∀a,v= .ref a->∃ob,s.heap.get? a=GS ob/\ob.dict=JT:=by
 cases x with
 |str z=>
  obtain⟨t,rfl⟩:=r;cases (show T="str" from ty);exact⟨typeIs_str s z t,λ_ e=>nomatch e⟩
 |int i=>
  obtain⟨t,rfl⟩:=r;cases (show T="int" from ty);exact⟨Vp s i t,λ_ e=>nomatch e⟩
 |ref p=>
  cases r;rcases ty with ⟨rfl,xs,hq⟩|⟨rfl,o,hk,hc,hd⟩|⟨rfl,hk⟩|⟨rfl,S,n,hk⟩
  ·obtain⟨its,_,pl,_⟩:=I.list hq
   refine⟨pl.isList.typeIs,λa e=> ?_⟩;cases e;obtain⟨o,n,e,c,hd,_⟩:=pl;exact⟨o,e,hd⟩
  ·refine⟨⟨o,I.kIn p o hk,hc⟩,λa e=> ?_⟩
   cases e;exact⟨o,I.kIn _ o hk,hd⟩
  ·have z:∃o,s.heap.get? p=GS o/\o.ExactDict:=by
    rcases hk with ⟨kvs,hk⟩|⟨kvs,hk⟩
    ·obtain⟨_,_,_,_,o,_,_,e,ex,_⟩:=I.hok p _ hk
     exact⟨o,e,ex⟩
    ·obtain⟨_,_,_,_,o,_,_,e,ex,_⟩:=I.hok p _ hk
     exact⟨o,e,ex⟩
   obtain⟨o,e,ex⟩:=z;refine⟨⟨o,e,ex.1⟩,λa e2=> ?_⟩;cases e2;exact⟨o,e,ex.2.1⟩
  ·obtain⟨o,_,_,_,e,ex,_⟩:=I.hok p _ hk
   refine⟨⟨o,e,ex.1⟩,λa e2=> ?_⟩;cases e2;exact⟨o,e,ex.2.1⟩
 |_=>exact Pp ty
def Mq (K:ND) (T:String) (r:V->List V->Hp->VK->Prop) (to:TE):TE:=λσ H Q=>to σ H λx H1=>LM K T x H1/\r x [] H1 Q
def Nk (K:ND) (T:String) (r:V->List V->Hp->VK->Prop) (to:TE) (t:TA):TE:=λσ H Q=>to σ H λx H1=>LM K T x H1/\t σ H1 λxs H2=>r x xs H2 Q
variable {o e:NS} {es:List NS} {to:TE} {t:TA} {name:NG} {W8 W7:Ox} {T id:String} {r:V->List V->Hp->VK->Prop}
theorem Cg (pa:PlainAttrs T) (slot:Slot T name id) (a37:typeOf (.builtin id)=pure (.type "method_descriptor")) (hm:N2 X id r) (ho:PE X o to) (Wl:OJ o name X.env (O8 o X.env)=O8 o X.env:=by rfl) (Wm:(W8.endLine==W7.line)=true:=by rfl):PE X (.Call (.Attribute o name W8) [] [] W7) (Mq X.K T r to):=by
 intro V_ s σ H Q I h;refine wpAny_Call_method0_late Wl Wm (bF (ho V_ s σ H _ I h) λv s1 z_=> ?_);obtain⟨x,H1,I1,r1,ty,q1⟩:=z_;obtain⟨h1,h2⟩:=xW I1 r1 ty;exact⟨T,id,pa,slot,a37,h1,h2,QI rfl (PySem.evalArgs_none (hm V_ s1 σ H1 x [] v [] Q I1 r1 .nil q1))⟩
theorem zn (pa:PlainAttrs T) (slot:Slot T name id) (a37:typeOf (.builtin id)=pure (.type "method_descriptor")) (hm:N2 X id r) (ho:PE X o to) (ha:PA X (e::es) t) (Wl:OJ o name X.env (O8 o X.env)=O8 o X.env:=by rfl) (Xp:((Om W7 (NL (e::es) X.env)).all (λx=> !x.1)&&(Q2 W7 (Pg [] X.env)).all (λx=>x.1.isSome) &&decide ((e::es).length+([]:List Qh).length+(if ([]:List Qh).isEmpty then 0 else 1)<30))=true:=by rfl) (Wm:(W8.endLine==W7.line)=true:=by rfl) (hs:NL (e::es) X.env=(false,O8 e X.env)::NL es X.env:=by rfl) (Wn:(Om W7 (NL es X.env)).any (·.1)=false:=by rfl): PE X (.Call (.Attribute o name W8) (e::es) [] W7) (Nk X.K T r to t):=by
 intro V_ s σ H Q I h;refine TH Wl Xp Wm rfl (bF (ho V_ s σ H _ I h) λv s1 z_=> ?_);obtain⟨x,H1,I1,r1,ty,q1⟩:=z_;obtain⟨h1,h2⟩:=xW I1 r1 ty;refine⟨T,id,pa,slot,a37,h1,h2,?_⟩;have hA:=ha W7 V_ s1 σ H1 _ I1 q1;rw[hs]at hA ⊢;refine QI (by show (false||(Om W7 (NL es X.env)).any (·.1))=false;rw[Wn]<;>rfl) (QV ?_);exact bF hA λus s2 ⟨vs,H2,I2,r2,q2⟩=>hm V_ s2 σ H2 x vs v us Q I2 r1 r2 q2
end
def Ih (X:Cx) (id:String) (r:V->List V->Hp->VK->Prop):Prop:= ∀(V_:List (NH×Oi)) (s:NI) (σ:St) (H:Hp) (x:V) (xs:List V) (v:NF) (us:List NF) (Q:VK),au X V_ σ H s->aY x v->aC xs us->r x xs H Q-> wpAny (NY X.prog X.w) X.A (call (.builtin id) (v::us)) (EP X V_ σ Q) X.xe s
theorem aC.one:∀{x:V} {us:List NF},aC [x] us->∃u,us=[u]/\aY x u:=λh=>by
 cases h with
 |cons r t=>cases t;exact⟨_,rfl,r⟩
theorem aC.two:∀{x y:V} {us:List NF},aC [x,y] us->∃u v,us=[u,v]/\aY x u/\aY y v:=λh=>by
 cases h with
 |cons r t=>
  obtain⟨v,e,q⟩:=aC.one t;exact⟨_,v,by rw[e],r,q⟩
theorem aC.zero:∀{us:List NF},aC [] us->us=[]
 |_, .nil=>rfl
theorem aC.dropLast {xs:List V} {us:List NF} (h:aC xs us):aC xs.dropLast us.dropLast:=by
 induction h with
 |nil=>exact .nil
 |cons r t ih=>
  cases t with
  |nil=>exact .nil
  |cons q t'=>exact .cons r ih
theorem aC.reverse {xs:List V} {us:List NF} (h:aC xs us):aC xs.reverse us.reverse:=by
 induction h with
 |nil=>exact .nil
 |cons r t ih=>rw[Rv,Rv];exact aC.append ih (.cons r .nil)
theorem aC.rep {xs:List V} {us:List NF} (h:aC xs us):∀k:Nat,aC (Oa k xs).flatten (Oa k us).flatten
 |0=> .nil
 |k+1=>by
  rw[P7,P7,Q5,Q5];exact aC.append h (aC.rep h k)
theorem xX {α:Type} (l:List α):l.eraseIdx (l.length - 1)=l.dropLast:=by
 induction l with
 |nil=>rfl
 |cons a r ih=>
  cases r with
  |nil=>rfl
  |cons b r=>
   have e:(a::b::r).length - 1=((b::r).length - 1)+1:=by
    have h1:(a::b::r).length=r.length+2:=rfl;have h2:(b::r).length=r.length+1:=rfl;omega
   rw[e,List.eraseIdx_cons_succ,ih]
   all_goals rfl
theorem tW (its:List NF):∀(k:Nat) (Wk:List NF), Ud (λx1 x2=>x1++x2) Wk.toArray (Oa k its.toArray)=(Wk++(Oa k its).flatten).toArray
 |0,Wk=>by simp
 |k+1,Wk=>by
  have e:Wk.toArray++its.toArray=(Wk++its).toArray:=by simp
  have e2:(Wk++its)++(Oa k its).flatten=Wk++(Oa (k+1) its).flatten:=by
   rw[P7,Q5,PH]
  rw[<-e2,<-tW its k (Wk++its),<-e,P7,Vq]
section
variable {X:Cx} {V_:List (NH×Oi)} {σ:St} {H:Hp} {s:NI} {l b:NH} {xs ys zs:List V}
theorem au.lset {its':List NF} {f:Array NF->Array NF} (I:au X V_ σ H s) (hH:H l=GS (.lst xs)) (e:s.heap.get? l=GS {cls:= .type "list",data:= .seq its.toArray n}) (hf:f its.toArray=its'.toArray) (hv:aC ys its') (hz:ys.length<=sizeLine): au X V_ σ (aS H l (.lst ys)) {s with heap:=s.heap.update l (Pq f),toks:=t'}:=by
 have q:=PySem.IsL.update e f;rw[hf]at q;refine I.write (x:=l) (e:=l) (by rw[hH];exact trivial) (.inl rfl) (λb' u hb hu=>(RA s.heap (Pq f) (Py hb)).trans hu) ⟨_,q⟩ ?_;exact⟨hz,its',_,hv,q⟩
theorem au.lnew (I:au X V_ σ H s) (hv:aC ys its) (hz:ys.length<=sizeLine): au X V_ σ (aS H s.heap.objs.size (.lst ys)) {s with heap:=s.heap.push {cls:= .type "list",data:= .seq its.toArray},toks:=t'}:=
 I.laid (λ_ _ q=>NO _ q) (O2 _) ⟨hz,its,0,hv,Oe _ rfl⟩
theorem au.fresh (I:au X V_ σ H s):H s.heap.objs.size=JT:=I.hok.fresh (O2 _)
theorem au.lstM (I:au X V_ σ H s) (hH:H l=GS (.lst xs)):xs.length<=sizeLine/\∃(its:List NF) (n:Nat),aC xs its/\xs.length=its.length/\s.heap.get? l=GS {cls:= .type "list",data:= .seq its.toArray n}:=by
 obtain⟨z,its,n,r,e⟩:=I.hok l _ hH;exact⟨z,its,n,r,r.length,e⟩
theorem wl (h:n<=sizeLine):Qx n=false:=by
 unfold Qx;exact decide_eq_false (by omega)
end
section
variable {X:Cx}
def EX:V->List V->Hp->VK->Prop:=λx vs H Q=>∃l xs y,x= .ref l/\vs=[y]/\H l=GS (.lst xs)/\xs.length<sizeLine/\Q .non (aS H l (.lst (xs++[y])))
theorem mj:Ih X "list.append" EX:=by
 intro V_ s σ H x vs v us Q I rx rv h;obtain⟨l,xs,y,rfl,rfl,hH,hz,q⟩:=h;cases rx;obtain⟨u,rfl,ru⟩:=rv.one;obtain⟨z,its,n,r,hl,e⟩:=I.lstM hH;refine call_meets F.slot_list_append ⟨_,e,rfl⟩ F.entry_list_append (F.args_list_append_2 _ _) (PySem.list_append l its.toArray n u (by rw[NR];omega)) ⟨e,?_⟩;refine⟨.non,_,I.lset (its':=its++[u]) hH e (by simp) (r.append (.cons ru .nil)) ?_,rfl,q⟩;rw[Oh,Pd];omega
def EY:V->List V->Hp->VK->Prop:=λx vs H Q=>∃l b xs zs,x= .ref l/\vs=[.ref b]/\H l=GS (.lst xs)/\H b=GS (.lst zs)/\xs.length+zs.length<=sizeLine/\Q .non (aS H l (.lst (xs++zs)))
theorem a7D:Ih X "list.extend" EY:=by
 intro V_ s σ H x vs v us Q I rx rv h;obtain⟨l,b,xs,zs,rfl,rfl,hH,hB,hz,q⟩:=h;cases rx;obtain⟨u,rfl,ru⟩:=rv.one;cases ru;obtain⟨z,its,n,r,hl,e⟩:=I.lstM hH;obtain⟨z2,Xa,n2,r2,ZJ,e2⟩:=I.lstM hB;have hsz:its.toArray.size+Xa.toArray.size<=sizeLine:=by rw[NR,NR];omega
 have a0d:¬(!its.toArray.isEmpty&&Qx (its.toArray.size+Xa.toArray.size))=true:=by
  rw[wl hsz,VD];exact Od
 refine call_meets F.slot_list_extend ⟨_,e,rfl⟩ F.entry_list_extend (F.args_list_extend_2 _ _)
  (AutoSeq1.list_extend_list_list_0 l its.toArray n b Xa.toArray n2 a0d (by rw[NR];omega) (by omega)) ⟨e,e2,?_⟩
 refine⟨.non,_,I.lset (its':=its++Xa) hH e (by simp) (r.append r2) ?_,rfl,q⟩;rw[Oh];omega
def Mr:V->List V->Hp->VK->Prop:=λx vs H Q=>∃l xs y,x= .ref l/\vs=[]/\H l=GS (.lst xs)/\xs[xs.length - 1]? =GS y/\Q y (aS H l (.lst xs.dropLast))
theorem Ch:Ih X "list.pop" Mr:=by
 intro V_ s σ H x vs v us Q I rx rv h;obtain⟨l,xs,y,rfl,rfl,hH,hy,q⟩:=h;cases rx;have a4r:=rv.zero;subst a4r;obtain⟨z,its,n,r,hl,e⟩:=I.lstM hH;obtain⟨u,hu,ru⟩:=r.get hy;have a53:its.toArray[its.toArray.size - 1]? =GS u:=by
  show its.toArray[its.length - 1]? =GS u;rw[<-TV,<-hl];exact hu
 refine call_meets F.slot_list_pop ⟨_,e,rfl⟩ F.entry_list_pop (F.args_list_pop_1 _) (MeetsSeq.list_pop_last l its.toArray n u a53 (by rw[NR];omega)) ⟨e,?_⟩;refine⟨y,_,I.lset (its':=its.dropLast) hH e ?_ r.dropLast ?_,ru,q⟩
 ·show its.toArray.eraseIdxIfInBounds (its.toArray.size - 1)=its.dropLast.toArray
  rw[NR,List.eraseIdxIfInBounds_toArray,xX]
 ·rw[List.length_dropLast]
  omega
def Kv:R2:=λx y H Q=>∃l b xs zs,x= .ref l/\y= .ref b/\H l=GS (.lst xs)/\H b=GS (.lst zs)/\xs.length+zs.length<=sizeLine/\∀p,H p=JT->Q (.ref p) (aS H p (.lst (xs++zs)))
theorem Ii:kU X (Q1 .Add) Kv:=by
 intro V_ s σ H x y v u Q I rx ry h;obtain⟨l,b,xs,zs,rfl,rfl,hH,hB,hz,q⟩:=h;cases rx;cases ry;obtain⟨z,its,n,r,hl,e⟩:=I.lstM hH;obtain⟨z2,Xa,n2,r2,ZJ,e2⟩:=I.lstM hB;refine PySem.P.add_list e e2 ?_ (by rw[NR,NR];omega);have ea:its.toArray++Xa.toArray=(its++Xa).toArray:=by simp
 rw[ea];exact⟨.ref _,_,I.lnew (t':=s.toks) (r.append r2) (by rw[Oh];omega),rfl,q _ I.fresh⟩
def Kw:R2:=λx y H Q=>∃l k xs,x= .ref l/\y= .int k/\H l=GS (.lst xs)/\ -(2 ^63)<=k/\k<2 ^63/\xs.length*k.toNat<=sizeLine/\
 ∀p,H p=JT->Q (.ref p) (aS H p (.lst (Oa k.toNat xs).flatten))
theorem EZ {α:Type} (xs:List α) (k:Nat):(Oa k xs).flatten.length=k*xs.length:=by
 induction k with
 |zero=>simp
 |succ k ih=>rw[P7,Q5,Oh,ih,Nat.succ_mul,Nat.add_comm]
theorem Ij:kU X (Q1 .Mult) Kw:=by
 intro V_ s σ H x y v u Q I rx ry h;obtain⟨l,k,xs,rfl,rfl,hH,h1,h2,hz,q⟩:=h;cases rx;obtain⟨t,rfl⟩:=ry;obtain⟨z,its,n,r,hl,e⟩:=I.lstM hH;have Wa:its.toArray.size*k.toNat<=sizeLine:=by rw[NR,<-hl];exact hz
 have a38:¬its.toArray.size*k.toNat>(2 ^63 - 1) / 8:=by
  have:(sizeLine:Nat)<=(2 ^63 - 1) / 8:=by decide
  omega
 have a39:¬(!Builtin.List.listFitsIndex k)=true:=by
  rw[fitsIndex_both h1 h2];exact Od
 have a0d:¬Qx (its.toArray.size*k.toNat)=true:=by
  rw[wl Wa];exact Od
 have a0e:Ud (λx1 x2=>x1++x2) #[] (Oa (if its.toArray.isEmpty=true then 0 else k.toNat) its.toArray)=(Oa k.toNat its).flatten.toArray:=by
  have f0:∀m:Nat,Ud (λx1 x2=>x1++x2) #[] (Oa m its.toArray)=(Oa m its).flatten.toArray:=λm=>by
   have:=tW its m [];rw[Tu]at this;exact this
  rw[f0];cases its with
  |nil=>simp
  |cons a r'=>rw[if_neg (by simp)]
 refine wpAny_binaryOp_repeat_ref (T:="list") (U:="int") (by decide) ⟨_,e,rfl⟩ (λs'=>Vp s' k t) noFill_list_mul F.fills_int_mul F.slot_int_rmul repeat_list F.slot_int_index.lookup
  (call_meets F.slot_int_rmul (Vp s k t) F.entry_int_rmul (F.args_int_rmul_2 _ _) (int___rmul___int_list k t l its.toArray n)
   ⟨e,rfl,⟨_,e,rfl⟩,call_meets F.slot_list_mul ⟨_,e,rfl⟩ F.entry_list_mul (F.args_list_mul_2 _ _) (AutoListH.list___mul___list_int_3 l its.toArray n k t a39 a38 a0d) ⟨e,?_⟩⟩)
 rw[a0e];exact⟨.ref _,_,I.lnew (t':=s.toks) (r.rep k.toNat) (by rw[EZ,Nat.mul_comm];exact hz),rfl,q _ I.fresh⟩
end
section
variable {prog:NM} {w:NV} {A:Oc} {E:NF->NI->Prop} {s:NI}
end
section
variable {X:Cx}
end
section
variable {κ:Type} [DecidableEq κ]
def jS (kvs:List (κ×V)) (k:κ):Option V:=(kvs.find? λkv=>decide (kv.1=k)).map (·.2)
def kW (kvs:List (κ×V)) (k:κ) (v:V):List (κ×V):=
 if (kvs.any λkv=>decide (kv.1=k))=true then kvs.map (λkv=>if kv.1=k then (kv.1,v)else kv)else kvs++[(k,v)]
theorem r9 {p:κ×V} {r:List (κ×V)} {k:κ} (e:p.1=k):jS (p::r) k=GS p.2:=by simp[jS,Qj,e]
theorem re {p:κ×V} {r:List (κ×V)} {k:κ} (e:¬p.1=k):jS (p::r) k=jS r k:=by simp[jS,Qj,e]
theorem wm (k:κ):∀kvs:List (κ×V),(kvs.any λkv=>decide (kv.1=k))=(jS kvs k).isSome
 |[]=>rfl
 |p::r=>by
  rw[Px];by_cases e:p.1=k
  ·simp only[r9 e,decide_eq_true e,VR,Option.isSome_some]
  ·rw[re e,decide_eq_false e,VI];exact wm k r
theorem qa (kvs:List (κ×V)) (k:κ) (v:V):(kW kvs k v).length<=kvs.length+1:=by
 unfold kW;split
 ·rw[NK];omega
 ·rw[Oh,O3,PK];omega
theorem kR.isSome_eq {o:Option V} {u:Option NF} (r:kR o u):o.isSome=u.isSome:=by
 cases o with
 |none=>cases u with
  |none=>rfl
  |some _=>exact(show False from r).elim
 |some _=>cases u with
  |none=>exact(show False from r).elim
  |some _=>rfl
theorem kR.getD {o:Option V} {u:Option NF} {d:V} {d':NF} (r:kR o u) (rd:aY d d'):aY (o.getD d) (u.getD d'):=by
 cases o with
 |none=>cases u with
  |none=>exact rd
  |some _=>exact(show False from r).elim
 |some _=>cases u with
  |none=>exact(show False from r).elim
  |some _=>exact r
theorem KV.val {kvs:List (κ×V)} {vs:List (κ×NF)} (r:KV kvs vs) (k:κ):kR (jS kvs k) (SM vs k):=by
 unfold KV at r
 induction r with
 |nil=>exact Qd
 | @cons p q ps qs h t ih=>
  obtain⟨h1,h2⟩:=h;by_cases e:p.1=k
  ·have e':q.1=k:=h1.symm.trans e
   have b:SM (q::qs) k=GS q.2:=by simp[SM,Qj,e']
   rw[r9 e,b];exact h2
  ·have e':¬q.1=k:=λz=>e (h1.trans z)
   have b:SM (q::qs) k=SM qs k:=by simp[SM,Qj,e']
   rw[re e,b];exact ih
theorem KV.any {kvs:List (κ×V)} {vs:List (κ×NF)} (r:KV kvs vs) (k:κ):(kvs.any λkv=>decide (kv.1=k))=vs.any λkv=>decide (kv.1=k):=by
 unfold KV at r
 induction r with
 |nil=>rfl
 |cons h t ih=>rw[Px,Px,ih,h.1]
theorem KV.repl {kvs:List (κ×V)} {vs:List (κ×NF)} (r:KV kvs vs) (k:κ) {y:V} {u:NF} (ry:aY y u): KV (kvs.map λkv=>if kv.1=k then (kv.1,y)else kv) (vs.map λkv=>if kv.1=k then (kv.1,u)else kv):=by
 unfold KV at r ⊢
 induction r with
 |nil=>exact .nil
 | @cons p q ps qs h t ih=>
  rw[NP,NP];refine .cons ?_ ih;obtain⟨h1,h2⟩:=h;by_cases e:p.1=k
  ·rw[if_pos e,if_pos (h1.symm.trans e)];exact⟨h1,ry⟩
  ·rw[if_neg e,if_neg (λz=>e (h1.trans z))];exact⟨h1,h2⟩
theorem KV.put {kvs:List (κ×V)} {vs:List (κ×NF)} (r:KV kvs vs) (k:κ) {y:V} {u:NF} (ry:aY y u):KV (kW kvs k y) (SW vs k u):=by
 unfold kW SW;rw[r.any k];by_cases e:(vs.any λkv=>decide (kv.1=k))=true
 ·rw[if_pos e,if_pos e];exact r.repl k ry
 ·rw[if_neg e,if_neg e];exact VX r ⟨rfl,ry⟩
theorem KV.keys {kvs:List (κ×V)} {vs:List (κ×NF)} (r:KV kvs vs):kvs.map (·.1)=vs.map (·.1):=by
 unfold KV at r
 induction r with
 |nil=>rfl
 |cons h t ih=>rw[NP,NP,ih,h.1]
theorem KV.length {kvs:List (κ×V)} {vs:List (κ×NF)} (r:KV kvs vs):kvs.length=vs.length:=Sf r
end
theorem tY {k:aU} {u:NF} (r:aY (kV k) u):(b9 P w).is k u=true:=by
 cases k with
 |inl i=>obtain⟨t,e⟩:=(show ∃t,u=QC i t from r);subst e;exact v_ P w i t
 |inr x=>obtain⟨t,e⟩:=(show ∃t,u=RG x t from r);subst e;exact w8 P w x t
theorem tZ {P:NM} {w:NV}:∀{ks:List aU} {us:List NF},aC (ks.map kV) us->ItemsAre (b9 P w) ks us
 |[],_,r=>by rw[Pm]at r;cases r;exact .nil
 |k::ks,_,r=>by
  rw[NP]at r;cases r with
  |cons h t=>exact .cons (tY h) (tZ t)
abbrev KT (H:Hp):List (List aU×V)->List (List aU×NH×NF)->Prop:=Paired λp q=>p.1=q.1/\H q.2.1=GS (.tup (p.1.map kV))/\aY p.2 q.2.2
theorem KT.val (r:KT H kvs xs) (k:List aU):kR (jS kvs k) ((Tv xs k).map (·.2)):=by
 induction r with
 |nil=>exact Qd
 | @cons p q ps qs h t ih=>
  obtain⟨h1,_,h2⟩:=h;by_cases e:p.1=k
  ·have e':q.1=k:=h1.symm.trans e
   have b:Tv (q::qs) k=GS q.2:=by simp[Tv,Qj,e']
   rw[r9 e,b];exact h2
  ·have e':¬q.1=k:=λz=>e (h1.trans z)
   have b:Tv (q::qs) k=Tv qs k:=by simp[Tv,Qj,e']
   rw[re e,b];exact ih
theorem KT.repl (r:KT H kvs xs) (k:List aU) {y:V} {u:NF} (ry:aY y u): KT H (kvs.map λkv=>if kv.1=k then (kv.1,y)else kv) (xs.map (putAt k u)):=by
 induction r with
 |nil=>exact .nil
 | @cons p q ps qs h t ih=>
  rw[NP,NP];refine .cons ?_ ih;obtain⟨h1,h2,h3⟩:=h;unfold putAt;by_cases e:p.1=k
  ·rw[if_pos e,if_pos (h1.symm.trans e)];exact⟨h1,h2,ry⟩
  ·rw[if_neg e,if_neg (λz=>e (h1.trans z))];exact⟨h1,h2,h3⟩
theorem KT.put (r:KT H kvs xs) (k:List aU) {b:NH} {y:V} {u:NF} (hb:H b=GS (.tup (k.map kV))) (ry:aY y u): KT H (kW kvs k y) (storedH xs k b u):=by
 have e:(kvs.any λkv=>decide (kv.1=k))=(Tv xs k).isSome:=by
  rw[wm,(r.val k).isSome_eq,Sy]
 unfold kW storedH;rw[e];by_cases q:(Tv xs k).isSome=true
 ·rw[if_pos q,if_pos q];exact r.repl k ry
 ·rw[if_neg q,if_neg q];exact VX r ⟨rfl,hb,ry⟩
theorem KT.keeps (r:KT H kvs xs) (ht:∀b ys,H b=GS (.tup ys)->H' b=GS (.tup ys)):KT H' kvs xs:=
 Paired.mapP r λ_ _ z=>⟨z.1,ht _ _ z.2.1,z.2.2⟩
section
variable {P:NM} {w:NV} {H:Hp} {h:NT} {a:NH}
theorem GZ {u:HO} (ok:kS P w H h) (e:Rd H a u):bg P w H h a u:=e.ok ok
theorem t_ {kvs:List (aU×V)} (ok:kS P w H h) (e:Rd H a (.dK kvs)):kvs.length<=sizeLine/\(a==sysModules)=false/\∃vs,KV kvs vs/\h.DictOf (b9 P w) a vs:=
 show bg P w H h a (.dK kvs)from GZ ok e
theorem G_ {kvs:List (aU×V)} (ok:kS P w H h) (e:H a=GS (.dK kvs)):kvs.length<=sizeLine/\(a==sysModules)=false/\∃vs,KV kvs vs/\h.DictOf (b9 P w) a vs:=t_ ok (.inl e)
theorem rf {ks:List aU} (ok:kS P w H h) (e:H a=GS (.tup (ks.map kV))):(Tn (b9 P w)).is h ks a:=by
 obtain⟨_,its,r,o,h1,h2,n,h3,_⟩:=(show bg P w H h a (.tup (ks.map kV))from ok a _ e);exact⟨o,its.toArray,n,h1,h2,h3,by simpa using tZ r⟩
theorem wo (ok:kS P w H h) (e:Rd H a (.dT kvs)):kvs.length<=sizeLine/\(a==sysModules)=false/\ ∃xs,KT H kvs xs/\h.DictOfH (Tn (b9 P w)) a xs:=by
 obtain⟨z,y,xs,r,o,es,ep,h1,h2,h3,h4,h5⟩:=(show bg P w H h a (.dT kvs)from GZ ok e);refine⟨z,y,xs,r,o,es,ep,h1,h2,h3,h4,λx hx=> ?_,h5⟩;have all:∀{l:List (List aU×V)} {m:List (List aU×NH×NF)},KT H l m->∀x∈m,(Tn (b9 P w)).is h x.1 x.2.1:=by
  intro l m q
  induction q with
  |nil=>intro x hx;exact nomatch hx
  | @cons p q ps qs hq t ih=>
   intro x hx;rcases NW.mp hx with e|hx
   ·subst e
    exact rf ok (by rw[<-hq.1];exact hq.2.1)
   ·exact ih x hx
 exact all r x hx
theorem Kx (ok:kS P w H h) (e:H a=GS (.dT kvs)):kvs.length<=sizeLine/\(a==sysModules)=false/\ ∃xs,KT H kvs xs/\h.DictOfH (Tn (b9 P w)) a xs:=wo ok (.inl e)
end
def oo (H:Hp) (a:NH) (y:V) (r:Option V):Prop:= (∃kvs k,Rd H a (.dK kvs)/\y=kV k/\r=jS kvs k)\/∃kvs k b,Rd H a (.dT kvs)/\y= .ref b/\H b=GS (.tup (k.map kV))/\r=jS kvs k
def xY (H:Hp) (a:NH) (y v:V) (H':Hp):Prop:= (∃kvs k,H a=GS (.dK kvs)/\y=kV k/\kvs.length<sizeLine/\H'=aS H a (.dK (kW kvs k v)))\/ ∃kvs k b,H a=GS (.dT kvs)/\y= .ref b/\H b=GS (.tup (k.map kV))/\kvs.length<sizeLine/\H'=aS H a (.dT (kW kvs k v))
theorem oo.k {a:NH} {kvs:List (aU×V)} {k:aU} (e:H a=GS (.dK kvs)):oo H a (kV k) (jS kvs k):= .inl ⟨kvs,k, .inl e,rfl,rfl⟩
theorem oo.t {a b:NH} {k:List aU} (e:H a=GS (.dT kvs)) (eb:H b=GS (.tup (k.map kV))):oo H a (.ref b) (jS kvs k):= .inr ⟨kvs,k,b, .inl e,rfl,eb,rfl⟩
theorem xY.k {a:NH} {kvs:List (aU×V)} {k:aU} {v:V} (e:H a=GS (.dK kvs)) (hl:kvs.length<sizeLine):xY H a (kV k) v (aS H a (.dK (kW kvs k v))):= .inl ⟨kvs,k,e,rfl,hl,rfl⟩
theorem xY.t {a b:NH} {k:List aU} {v:V} (e:H a=GS (.dT kvs)) (eb:H b=GS (.tup (k.map kV))) (hl:kvs.length<sizeLine): xY H a (.ref b) v (aS H a (.dT (kW kvs k v))):= .inr ⟨kvs,k,b,e,rfl,eb,hl,rfl⟩
section
variable {X:Cx} {V_:List (NH×Oi)} {σ:St} {H:Hp} {s:NI} {a:NH} {y v:V} {u r:NF} {o:Option V} {A:Oc} {E:NF->NI->Prop}
theorem au.big (I:au X V_ σ H s):sysModules<s.heap.objs.size:=by
 have h:NU<s.heap.objs.size:=(I.mod.glob.keeps I.bk).lt;exact Nat.lt_trans (by decide) h
theorem Aw (hu:A.units+1<Q3) (I:au X V_ σ H s) (g:oo H a y (GS v)) (ry:aY y u) (h:∀w' s',au X V_ σ H s'->aY v w'->Q w' s'): wpAny (NY X.prog X.w) A (Rm (.ref a) u) Q E s:=by
 rcases g with ⟨kvs,k,e,ey,l⟩|⟨kvs,k,b,e,ey,eb,l⟩
 ·subst ey
  obtain⟨z,hd,vs,Xz,dd⟩:=t_ I.hok e;obtain⟨w',hw,ZI⟩:=kR.some_of (v:=v) (o:=SM vs k) (by rw[l];exact Xz.val k);exact wpAny_getItem_of (tY ry) dd.mapOf hw (h w' _ (I.tok _) ZI)
 ·subst ey
  cases (show u=Of b from ry);obtain⟨z,hd,xs,Xz,dd⟩:=wo I.hok e;obtain⟨w',hw,ZI⟩:=kR.some_of (v:=v) (o:=(Tv xs k).map (·.2)) (by rw[l];exact Xz.val k);obtain⟨p,hp,a0r⟩:=Option.map_eq_some_iff.mp hw;refine wpAny_getItem_heap (Rf hu) (rf I.hok eb) dd hp ?_;rw[a0r];exact h w' _ (I.tok _) ZI
theorem Ms (hu:A.units+1<Q3) (I:au X V_ σ H s) (g:oo H a y o) (ry:aY y u) (h:∀s',au X V_ σ H s'->Q (.bool o.isSome) s'): wpAny (NY X.prog X.w) A (P6 .In u (.ref a)) Q E s:=by
 rcases g with ⟨kvs,k,e,ey,l⟩|⟨kvs,k,b,e,ey,eb,l⟩
 ·subst ey
  obtain⟨z,hd,vs,Xz,dd⟩:=t_ I.hok e;refine wpAny_in_of (tY ry) hd dd.mapOf ?_;rw[<-(Xz.val k).isSome_eq,<-l];exact h _ (I.tok _)
 ·subst ey
  cases (show u=Of b from ry);obtain⟨z,hd,xs,Xz,dd⟩:=wo I.hok e;refine wpAny_in_heap (Rf hu) (rf I.hok eb) hd dd ?_;have q:=(Xz.val k).isSome_eq;rw[Sy]at q;rw[<-q,<-l];exact h _ (I.tok _)
theorem E_ (hu:A.units+1<Q3) (I:au X V_ σ H s) (g:oo H a y o) (ry:aY y u) (h:∀s',au X V_ σ H s'->Q (.bool (!o.isSome)) s'): wpAny (NY X.prog X.w) A (P6 .NotIn u (.ref a)) Q E s:=by
 rcases g with ⟨kvs,k,e,ey,l⟩|⟨kvs,k,b,e,ey,eb,l⟩
 ·subst ey
  obtain⟨z,hd,vs,Xz,dd⟩:=t_ I.hok e;refine wpAny_notIn_of (tY ry) hd dd.mapOf ?_;rw[<-(Xz.val k).isSome_eq,<-l];exact h _ (I.tok _)
 ·subst ey
  cases (show u=Of b from ry);obtain⟨z,hd,xs,Xz,dd⟩:=wo I.hok e;refine wpAny_notIn_heap (Rf hu) (rf I.hok eb) hd dd ?_;have q:=(Xz.val k).isSome_eq;rw[Sy]at q;rw[<-q,<-l];exact h _ (I.tok _)
theorem zo {ob:HO} (I:au X V_ σ H s) (mu:K3 (H a)) (hs:Qt a s.heap h') (he:∃q,h'.get? a=GS q) (new:bg X.prog X.w (aS H a ob) h' a ob): au X V_ σ (aS H a ob) {s with heap:=h',toks:=t'}:=
 I.write (x:=a) (e:=a) mu (.inl rfl) (λb q hb z=>(hs.2 b hb).trans z) he new
theorem Ci {kvs:List (aU×V)} {vs:List (aU×NF)} (z:kvs.length<=sizeLine) (hd:(a==sysModules)=false) (Xz:KV kvs vs) (dd:h'.DictOf (b9 P w) a vs): bg P w H' h' a (.dK kvs):=⟨z,hd,vs,Xz,dd⟩
theorem Ax {Q:Unit->NI->Prop} (hu:A.units+1<Q3) (I:au X V_ σ H s) (g:xY H a y v H') (ry:aY y u) (rv:aY v r) (h:∀s',au X V_ σ H' s'->Q () s'): wpAny (NY X.prog X.w) A (VC (.ref a) u r) Q E s:=by
 rcases g with ⟨kvs,k,e,ey,l,eH⟩|⟨kvs,k,b,e,ey,eb,l,eH⟩
 ·subst ey eH
  obtain⟨z,hd,vs,Xz,dd⟩:=G_ I.hok e;have hz:vs.length<=sizeLine:=by rw[<-Xz.length];exact z
  have hl:(kW kvs k v).length<=sizeLine:=by have:=qa kvs k v;omega
  refine wpAny_setItem_pairs (hsz:=hz) (tY ry) dd λh' a2E hs=>h _ ?_;have he:∃q,h'.get? a=GS q:=let ⟨q,_,_,hq,_⟩:=a2E;⟨q,hq⟩;exact zo I (by rw[e];exact Qd) hs he (Ci hl hd (Xz.put k rv) a2E)
 ·subst ey eH
  cases (show u=Of b from ry);obtain⟨z,hd,xs,Xz,dd⟩:=Kx I.hok e;have hz:xs.length<=sizeLine:=by rw[<-Sf Xz];exact z
  have hl:(kW kvs k v).length<=sizeLine:=by have:=qa kvs k v;omega
  refine wpAny_setItem_heap (hsz:=hz) (Rf hu) (rf I.hok eb) dd λh' a2E hs=>h _ ?_;obtain⟨q,es,ep,hq,h2,h3,h4,_,h5⟩:=a2E;refine zo I (by rw[e];exact Qd) hs ⟨q,hq⟩ ⟨hl,hd,_,(Xz.put k eb rv).keeps λc ys ec=> ?_,q,es,ep,hq,h2,h3,h4,h5⟩;rw[aj (K2 ec e (λz=>nomatch z))];exact ec
end
section
variable {X:Cx} {V_:List (NH×Oi)} {σ:St} {H:Hp} {s:NI} {a:NH} {kvs:List (aU×V)} {k:aU} {u:NF} {A:Oc} {E:NF->NI->Prop}
theorem Ky (I:au X V_ σ H s) (e:Rd H a (.dK kvs)) (h:∀t s',au X V_ σ H s'->Q (.int kvs.length t) s'):wpAny (NY X.prog X.w) A (call (.builtin "len") [.ref a]) Q E s:=by
 obtain⟨z,hd,vs,Xz,dd⟩:=t_ I.hok e;refine call_len_dict hd dd (by rw[<-Xz.length];rw[Pe]at z;omega) ?_;rw[<-Xz.length];exact h _ _ (I.tok _)
end
def Kz (i:NS):Prop:=∀ov iv,TC i false ov iv=operate [ov,iv] (Rm ov iv)
theorem F7 {E:NF->NI->Prop} {s:NI} {value WJ:NS} {pos:Ox} {T id:String} (hl:Ub (.type T) "__getitem__"=pure (GS (.builtin id))) (hs:Kz WJ) (h:wpAny (NY prog w) A (O8 value env) (λo s₁=>wpAny (NY prog w) A (O8 WJ env) (λi s₂=>s₂.TypeIs o T/\wpAny (NY prog w) A (Rm o i) Q E s₂) E s₁) E s): wpAny (NY prog w) A (O8 (.Subscript value WJ pos) env) Q E s:=by
 refine Uc (OS h (λo s₁ h₁=>OS h₁ (λi s₂ h₂=> ?_) λ_ _ x=>x) λ_ _ x=>x);obtain⟨hT,h₂⟩:=h₂;unfold Sn;refine NJ ?_;rw[getitemInPython_of_ne hT.not_modules];refine NJ (wpAny_specialOf hT hl ?_);have Wz:wpAny (NY prog w) A (TC WJ false o i) (λr s₃=>wpAny (NY prog w) A (letTemporaryGo value o r>>=λ_=>pure r) Q E s₃) E s₂:=by
  rw[hs o i];exact wpAny_operating (OS h₂ (λr s₃ h₃=>NJ (wpAny_letTemporaryGo (NQ h₃))) λ_ _ x=>x)
 first
  |exact NQ (NJ Wz)
  |exact NJ (NQ (NJ Wz))
  |exact NJ Wz
theorem wq {s:NI} {a:NH} {y:V} {o:Option V} (I:au X V_ σ H s) (g:oo H a y o):s.TypeIs (.ref a) "dict":=by
 rcases g with ⟨kvs,k,e,_,_⟩|⟨kvs,k,b,e,_,_,_⟩
 ·obtain⟨_,_,vs,_,dd⟩:=t_ I.hok e
  exact dd.typeIs
 ·obtain⟨_,_,xs,_,dd⟩:=wo I.hok e
  exact dd.typeIs
def KA (td ty:TE):TE:=λσ H Q=>td σ H λx H1=>ty σ H1 λy H2=>∃a v,x= .ref a/\oo H2 a y (GS v)/\Q v H2
def Ik (ty td:TE):TE:=λσ H Q=>ty σ H λy H1=>td σ H1 λx H2=>∃a o,x= .ref a/\oo H2 a y o/\Q (.bl o.isSome) H2
def uW (ty td:TE):TE:=λσ H Q=>ty σ H λy H1=>td σ H1 λx H2=>∃a o,x= .ref a/\oo H2 a y o/\Q (.bl (!o.isSome)) H2
def KC (td ty tv:TE):TS:=λD σ H=>tv σ H λv H1=>td σ H1 λx H2=>ty σ H2 λy H3=>∃a H4,x= .ref a/\xY H3 a y v H4/\D.nx σ H4
section
variable {X:Cx} {o i e value:NS} {pos We a33:Ox} {td ty tv:TE}
theorem F8 (hu:X.A.units+1<Q3) (ho:PE X o td) (hi:PE X i ty) (hs:Kz i):PE X (.Subscript o i pos) (KA td ty):=by
 intro V_ s σ H Q I h;refine F7 PySem.F.slot_dict_getitem.lookup hs (bF (ho V_ s σ H _ I h) λu s1 ⟨x,H1,I1,rx,q1⟩=>bF (hi V_ s1 σ H1 _ I1 q1) λiv s2 z_=> ?_);obtain⟨y,H2,I2,ry,a,v,ex,g,q2⟩:=z_;subst ex;obtain rfl:u=Of a:=rx;exact⟨wq I2 g,Aw hu I2 g ry λw' s3 I3 ZI=>⟨v,H2,I3,ZI,q2⟩⟩
theorem Cj (hu:X.A.units+1<Q3) (hi:PE X i ty) (ho:PE X o td):PC X .In i o (Ik ty td):=by
 intro V_ s σ H Q I h;refine bF (hi V_ s σ H _ I h) λiv s1 ⟨y,H1,I1,ry,q1⟩=>bF (ho V_ s1 σ H1 _ I1 q1) λu s2 z_=> ?_;obtain⟨x,H2,I2,rx,a,ov,ex,g,q2⟩:=z_;subst ex;obtain rfl:u=Of a:=rx;exact Ms hu I2 g ry λs3 I3=>⟨.bl ov.isSome,H2,I3,rfl,q2⟩
theorem u0 (hu:X.A.units+1<Q3) (hi:PE X i ty) (ho:PE X o td):PC X .NotIn i o (uW ty td):=by
 intro V_ s σ H Q I h;refine bF (hi V_ s σ H _ I h) λiv s1 ⟨y,H1,I1,ry,q1⟩=>bF (ho V_ s1 σ H1 _ I1 q1) λu s2 z_=> ?_;obtain⟨x,H2,I2,rx,a,ov,ex,g,q2⟩:=z_;subst ex;obtain rfl:u=Of a:=rx;exact E_ hu I2 g ry λs3 I3=>⟨.bl (!ov.isSome),H2,I3,rfl,q2⟩
theorem F9 (hu:X.A.units+1<Q3) (ho:PE X o td) (hi:PE X i ty) (hv:PE X value tv) (hs:ON value (GS (.Subscript o i We)) pos.line X.env=pure false): PS X (.Assign [.Subscript o i We] value pos) (KC td ty tv):=by
 intro V_ s σ H D I h;refine wpAny_Assign_Subscript (bF (hv V_ s σ H _ I h) λr s1 ⟨v,H1,I1,rv,q1⟩=>bF (ho V_ s1 σ H1 _ I1 q1) λu s2 ⟨x,H2,I2,rx,q2⟩=>bF (hi V_ s2 σ H2 _ I2 q2) λiv s3 z_=> ?_) hs;obtain⟨y,H3,I3,ry,a,H4,ex,g,q3⟩:=z_;subst ex;obtain rfl:u=Of a:=rx;exact Ax hu I3 g ry rv λs4 I4=>⟨σ,H4,I4,q3⟩
end
section
variable {X:Cx} {pos:Ox}
end
def jT (kvs more:List (aU×V)):List (aU×V):=more.foldl (λWk kv=>kW Wk kv.1 kv.2) kvs
theorem KV.merge:∀{more:List (aU×V)} {rs:List (aU×NF)} {kvs:List (aU×V)} {vs:List (aU×NF)},KV more rs->KV kvs vs->KV (jT kvs more) (TX vs rs):=by
 intro more rs kvs vs r;unfold KV at r
 induction r generalizing kvs vs with
 |nil=>intro q;exact q
 | @cons p q ps qs h t ih=>
  intro r0;have e:KV (kW kvs p.1 p.2) (SW vs q.1 q.2):=by
   have:=r0.put p.1 h.2;rw[<-h.1];exact this
  exact ih e
section
variable {X:Cx} {V_:List (NH×Oi)} {σ:St} {H:Hp} {s:NI} {a:NH} {y d:V} {u r:NF} {o:Option V} {A:Oc} {E:NF->NI->Prop}
end
section
variable {X:Cx} {o e f:NS} {W8 W7:Ox} {td ty tx:TE}
end
section
variable {X:Cx} {V_:List (NH×Oi)} {σ:St} {H:Hp} {s:NI} {a:NH} {kvs:List (aU×V)} {A:Oc} {E:NF->NI->Prop}
end
section
variable {X:Cx} {V_:List (NH×Oi)} {σ:St} {H:Hp} {s:NI} {a:NH} {y:V} {u:NF} {A:Oc} {E:NF->NI->Prop}
end
end L2
namespace Att
open PySem PySem.W PySem.Calls PyProof.Rows
theorem qv {P:Params}:∀(ns:List Int) (vs:List NF),WellAll P h vs (ns.map WData.int)->SK vs ns:=by
 intro ns
 induction ns with
 |nil=>
  intro vs w;rw[Pm]at w;cases w;exact .nil
 |cons n ns ih=>
  intro vs w;rw[NP]at w;cases w with
  |cons a b=>
   cases a;exact .cons _ _ (ih _ b)
theorem Ay {l:OpenLaw} (hn:l.most=GS n) {P:Params} {h:NT} {args:List WData} {a16:List NF} (a0y:l.row.toRowW.claim.pre args=true) (a3a:WellAll P h a16 args): ∃a vs ns,a16=[Of a]/\args=[WData.list (ns.map WData.int)]/\h.get? a=GS {cls:= .type "list",data:= .seq vs.toArray}/\SK vs ns/\ns.length<=n:=by
 have a54:WShape.hasAll [] args [.list .int]=true:=(pre_splitW a0y).1;have hc:l.pre.holds [] {args:=args}=true:=(pre_splitW a0y).2;obtain⟨d,r,rfl,h1,h2⟩:=hasAllW_cons a54;obtain rfl:=hasAllW_nil h2;obtain⟨xs,rfl,h3⟩:=hasW_list h1;obtain⟨ns,rfl⟩:=items_int h3;have Wa:ns.length<=n:=by
  unfold OpenLaw.pre at hc;have h4:(WTm.not (.lt (.lit (.int (n:Int))) (.len (.arg 0)))).holds [] {args:=[.list (ns.map .int)]}=true:=by
   have h4:=(holds_andW hc).1;rw[hn]at h4;exact h4
  have h5:=condW_of h4 (w_not (w_lt w_lit (w_len_list (w_arg rfl))));rw[NK]at h5;refine SX λq=> ?_;have q':(n:Int)<((ns.length:Nat):Int):=by omega
  first
   |(rw[decide_eq_true q']at h5;exact absurd h5 (by decide))
   |(simp at h5;omega)
 cases a3a with
 |cons w1 w2=>
  cases w2;cases w1 with
  |list ho a17=>exact⟨_,_,ns,rfl,rfl,ho,qv ns _ a17,Wa⟩
theorem Az (l:OpenLaw) (args:List WData):l.row.toRowW.claim.post args (.bool true) args=true:=
 postW_of (r:=l.row.toRowW) (X:=(true==true))
  (show WShape.has [] (.bool true) .bool=true by first|rfl|decide|simp[WShape.has,WShape.arms,WShape.armsAll])
  (show (WTm.eq .res (.lit (.bool true))).value [] {args:=args,res:=GS (.bool true),after:=args}=GS (.bool (true==true))from w_eq_bool (w_res rfl) w_lit) rfl
theorem attach_call {l:OpenLaw} {q:NM} {Yz:List NG} {XP:(NG->Option NF)->NT->Prop} {YP:NV->NT->Prop} {d:DefRec} (hn:l.most=GS n) (a1X:d.params.defaults=[]) (call:∀(w:NV) (s₀ s₁:NI) (mg mb:NG->Option NF) (fa:NH) (o:Oi) (pm cd WB:NF) (a:NH) (vs:List NF) (ns:List Int), Ground q Yz [] XP w s₀ mg mb s₁.heap->YP w s₁.heap-> s₁.heap.get? fa=GS o->o.data= .func (docDef d.name d.params d.body d.scope pm cd WB)->s₁.heap.CodeRec cd d.name->mg d.name=GS (.ref fa)-> s₁.heap.get? a=GS {cls:= .type "list",data:= .seq vs.toArray}->SK vs ns->ns.length<=n->s₁.gens= #[]-> Qg (NY l.prog w) SN (.call (.ref fa) ⟨[.ref a],[]⟩) (λr s'=>r= .ok (.ret (.bool true))/\OldK s₁.heap s'.heap/\s'.os=s₁.os/\Rl s'.gens) s₁): WalkO q Yz XP YP l.row.toRowW d [] (λf vs=>Vr f vs):=by
 intro w s₀ s₁ mg mb G Y fa o pm cd WB dV kV ho hd WG hD a3b hg args a16 as a0y a55 a3c a3a a7i;obtain rfl:dV= .none:=Dflts.none hD a1X;obtain rfl:kV= .none:=Dflts.noKw hD;obtain⟨a,vs,ns,rfl,rfl,a18,a0f,Wa⟩:=Ay hn a0y a3a;refine enter_call (QM (call w s₀ s₁ mg mb fa o pm cd WB a vs ns G Y ho (fd_plain hd) WG a3b a18 a0f Wa hg) λr s' hq=> ?_);obtain⟨rfl,h2,h3,h4⟩:=hq;exact⟨.inl ⟨.bool true, .bool true,[],rfl,λ_=>rfl, .bool true,Az l _,λ_=>⟨Sz,λ_ hm=>(nomatch hm)⟩⟩,h2,h3,h4⟩
section
variable {prog:NM} {w:NV} {A:Oc} {E:NF->NI->Prop} {s:NI} {K:Frag}
end
end Att
namespace L2
theorem jt:∀{vs:List NF} {ns:List Int},SK vs ns->aC (ns.map V.int) vs
 |_,_, .nil=> .nil
 |_,_, .cons n t h=> .cons ⟨t,rfl⟩ (jt h)
def Il (H:Hp):Prop:=∀b,H b=JT\/∃o xs,H b=GS (.frz o (.lst xs))
theorem Ck {mb:NG->Option NF} {CX:xP} {k:Nat} {fa a:NH} {fd:Pc} {x:NG} {sp:Sp} {s₁:NI} {ns:List Int} (KX:K.In s₁.heap) (Zu:s₁.heap.Ns NU mg) (hb:s₁.heap.Ns Vk mb) (a56:∀x:NG,x≠"__name__"->mb x=Ot x) (a3d:s₁.heap.NoLimit) (hg:s₁.gens= #[]) (ha:s₁.heap.get? a=GS {cls:= .type "list",data:= .seq vs.toArray}) (hi:SK vs ns) (hl:ns.length<=sizeLine) (hr:br k SN) (F:∀base:NT,K.In base->base.Ns NU mg->eF P w K mg base CX k fa fd [x] sp) (a1Y:∀(s:NI) (u:NF),TR s fd ⟨[u],[]⟩ [(x,u)]) (a0q:∀H:Hp,Il H->cP K H a (ns.map V.int)->sp [.ref a] H (λv _=>v= .bl true) λ_ _ _=>False) (a3e:∀H e s',CX [] H s₁ (λ_ _ _=>False) e s'->False): Qg (NY P w) SN (.call (.ref fa) ⟨[.ref a],[]⟩) (λr s'=>r= .ok (.ret (.bool true))/\OldK s₁.heap s'.heap/\s'.os=s₁.os/\Rl s'.gens) s₁:=by
 have rv:=jt hi;have a3f:=hi.length;have a1Z:∀H:Hp,Il H->cP K H a (ns.map V.int)->kS P w H s₁.heap->(∀b,H b≠JT->b=a)->(H a≠JT->K.lookup a=JT)->
   Qg (NY P w) SN (.call (.ref fa) ⟨[.ref a],[]⟩) (λr s'=>r= .ok (.ret (.bool true))/\OldK s₁.heap s'.heap/\s'.os=s₁.os/\Rl s'.gens) s₁:=by
  intro H hO hS hok hA hK;have ZK:∀{b:NH} {o:Oi},s₁.heap.get? b=GS o->H b=JT->(uL s₁.heap H).get? b=GS o:=λe n=>BL e n;have a1U:∀{b:NH} {o:Oi} {es:Array DictEntry} {ep:Nat},s₁.heap.get? b=GS o->o.data= .dict es ep->H b=JT:=λ{b o es ep} e d=>by
   cases q:H b with
   |none=>rfl
   |some u=>
    have e':b=a:=hA b (by rw[q];simp);subst e';rw[ha]at e;cases e;have d':VS vs.toArray _=Data.dict es ep:=d;cases d'
  have a2F:∀{b:NH} {m:NG->Option NF},s₁.heap.Ns b m->(uL s₁.heap H).Ns b m:=λ{b m} ⟨o,es,ep,e,d,r⟩=>⟨o,es,ep,ZK e (a1U e d),d,r⟩;have a4s:K.In (uL s₁.heap H):=λb o e=>ZK (KX b o e) (by
   cases q:H b with
   |none=>rfl
   |some u=>
    have e':b=a:=hA b (by rw[q];simp);subst e';rw[hK (by rw[q];simp)]at e;cases e)
  have hM:Mod K mg (uL s₁.heap H):=⟨a4s,a2F Zu,⟨mb,a2F hb,a56⟩,let ⟨mc,h1,h2⟩:=a3d;⟨mc,a2F h1,h2⟩⟩;have e0:xQ P w K mg (uL s₁.heap H) SN [] s₁ H:=⟨rfl,hM,λb o e=>EB e,SR (Af _ _),trivial,λb hb=>absurd (show b∈([]:List NH)from hb) (by simp),hok, .of_eq hg⟩;refine QM ((F _ a4s (a2F Zu)).run SN [] s₁ H ⟨[.ref a],[]⟩ [.ref a] [.ref a] _ _ hr e0 (a1Y s₁ (.ref a)) (.cons rfl .nil) (a0q H hO hS)) λr s' h=> ?_;cases r with
  |error e=>exact(a3e H e s' h).elim
  |ok fl=>
   cases fl with
   |next=>exact Pp h
   |brk=>exact Pp h
   |cont=>exact Pp h
   |ret u=>
    obtain⟨v,H',os,bare,un,a3g,r',q⟩:=h;have q':v= .bl true:=q;subst q';obtain rfl:u=U8 true:=r';refine⟨rfl,OldK.of_keep λb o e=> ?_,os,bare⟩;cases q:H b with
    |none=>exact un.keep b o e q (by intro z;exact absurd (show b∈([]:List NH)from z) (by simp)) (by simp)
    |some u=>
     rcases hO b with z|⟨ob,xs,z⟩
     ·rw[q]at z;cases z
     ·have z2:=un.frzs b ob _ z
      obtain⟨e1,_⟩:=hok b _ z;obtain⟨e2,_⟩:=a3g b _ z2;rw[e]at e1;cases e1;exact e2
 cases hk:K.lookup a with
 |some o=>
  have e:=KX a o hk;rw[ha]at e;cases e;refine a1Z (λ_=>JT) (λ_=> .inl rfl) (.inr ⟨_,vs.toArray,_,hk,rfl,rfl,rfl,by rw[NR,a3f];exact hl,by simpa using rv⟩) (λb u z=>by have z':(JT:Option HO)=GS u:=z;cases z') (λb z=>absurd rfl z) λz=>absurd rfl z
 |none=>
  refine a1Z (λb=>if b=a then GS (.frz {cls:= .type "list",data:= .seq vs.toArray} (.lst (ns.map V.int)))else JT) (λb=> ?_) (.inl (.inr ⟨{cls:= .type "list",data:= .seq vs.toArray},if_pos rfl⟩)) (λb u z=> ?_) (λb z=> ?_) λ_=>hk
  ·by_cases hb:b=a
   ·exact .inr ⟨_,_,if_pos hb⟩
   ·exact .inl (if_neg hb)
  ·by_cases hb:b=a
   ·have z':=(if_pos hb).symm.trans z
    cases z';subst hb;exact⟨ha,by rw[NK];exact hl,vs,_,rv,ha⟩
   ·have z':=(if_neg hb).symm.trans z
    cases z'
  ·by_cases hb:b=a
   ·exact hb
   ·exact absurd (if_neg hb) z
theorem Fa {l:Tw} {k:Nat} {q:NM} {Yz:List NG} {XP:(NG->Option NF)->NT->Prop} {YP:NV->NT->Prop} {d:DefRec} {K:Params->ND} {CX:NV->xP} {sp:NV->Sp} {x:NG} (hn:l.most=GS n) (a13:n<=sizeLine) (a1X:d.params.defaults=[]) (hr:br k SN) (hY:∀(w:NV) (h:NT),YP w h->(K w.params).In h) (F:∀(w:NV) (mg:NG->Option NF) (fa:NH) (h:NT),(K w.params).In h->h.Ns NU mg->mg d.name=GS (.ref fa)-> ∃fd:Pc,(∀(s:NI) (u:NF),TR s fd ⟨[u],[]⟩ [(x,u)])/\ ∀base:NT,(K w.params).In base->base.Ns NU mg->eF l.prog w (K w.params) mg base (CX w) k fa fd [x] (sp w)) (a0q:∀(w:NV) (H:Hp) (a:NH) (ns:List Int),ns.length<=n->Il H->cP (K w.params) H a (ns.map V.int)->sp w [.ref a] H (λv _=>v= .bl true) λ_ _ _=>False) (a3e:∀(w:NV) (H:Hp) (s:NI) (e:NF) (s':NI),CX w [] H s (λ_ _ _=>False) e s'->False): VJ q Yz XP YP l.row.toRowW d [] (λf vs=>Vr f vs):=by
 refine Att.attach_call hn a1X λw s₀ s₁ mg mb fa o pm cd WB a vs ns G Y ho hd WG a3b a18 a0f Wa hg=> ?_;have KX:=hY w _ Y;obtain⟨fd,hb,hF⟩:=F w mg fa _ KX G.T.g a3b;exact Ck KX G.T.g G.T.b G.T.builtins G.T.nolimit hg a18 a0f (Ou Wa a13) hr hF hb (λH hO hS=>a0q w H a ns Wa hO hS) λH e s'=>a3e w H s₁ e s'
def bt (s:Ob) (j:Nat):Ob:=match s with
 | .ClassDef _ _ _ body _ _ _ _ _ _ _=>body.getD j (.Pass ⟨0,0,0,0⟩)
 |_=> .Pass ⟨0,0,0,0⟩
def cG (s:Ob):Arguments:=match s with
 | .FunctionDef _ a _ _ _ _ _ _ _ _=>a
 |_=>{posonlyargs:=[],args:=[],vararg:=JT,kwonlyargs:=[],kw_defaults:=[],kwarg:=JT,defaults:=[]}
def aQ (s:Ob):List Ob:=match s with
 | .FunctionDef _ _ b _ _ _ _ _ _ _=>b
 |_=>[]
def ao (s:Ob):PJ:=match s with
 | .FunctionDef _ _ _ _ _ _ sc _ _ _=>sc
 |_=>{kind:= .function,names:=[],isGenerator:=false,isCoroutine:=false}
abbrev N4:xP:=λ_ _ _ _ _ _=>False
structure zq (K:ND) (x qual:NG) (st:Ob) (f:NH) (fd:Pc):Prop where
 ex:∃(oc:NF) (od:Option NH) (kV WB pm:NF) (an:Option NH) (W2 ct:NF) (XO:Array (Option NF)),
  fd=OP x qual (cG st) (aQ st) (ao st) .none kV WB pm an W2 ct/\K.lookup f=GS ⟨oc,od, .func fd,XO⟩/\Qs K W2 qual=true
 kp:OI K (.ref f)=true
section
variable {P:NM} {w:NV} {K:ND} {mg:NG->Option NF} {base:NT}
theorem zq.ok {x:NG} {st:Ob} {f:NH} {fd:Pc} {k:Nat} {sp:Sp} (F:zq K x qual st f fd) (S:aL N ps (ao st)) (len:∀vs H Q E,sp vs H Q E->vs.length=ps.length) (Wg:∀(W2:NF) (A:Oc) (outer:List Pw) (s:NI) (H:Hp) (vs:List V) (Q:VK) (E:XK),br k (A.deeper (PY qual (ao st) s.heap.objs.size f W2))->sp vs H Q E-> ∃t,qM (ik N4 P w K mg base N qual (ao st) f W2 A outer s H E).nox (aQ st) t/\t {nx:=λ_ H'=>Q .non H',rt:=Q} (dZ N vs) H):eF P w K mg base N4 (k+1) f fd ps sp:=by
 obtain⟨oc,od,kV,WB,pm,an,W2,ct,XO,rfl,lk,WG⟩:=F.ex;refine GW lk WG S len λA outer s H vs Q E hr a0q=> ?_;obtain⟨t,h,q⟩:=Wg W2 A outer s H vs Q E hr a0q;exact⟨t,h.nox,q⟩
theorem zq.binds {x:NG} {st:Ob} {f:NH} {fd:Pc} (F:zq K x qual st f fd) (h:∀(kV WB pm:NF) (an:Option NH) (W2 ct:NF) (us:List NF),us.length=ps.length->Qb (OP x qual (cG st) (aQ st) (ao st) .none kV WB pm an W2 ct) ⟨us,[]⟩=pure (ps.zip us)):eZ K fd ps []:=by
 obtain⟨oc,od,kV,WB,pm,an,W2,ct,XO,rfl,lk,WG⟩:=F.ex;exact .all (h kV WB pm an W2 ct)
theorem nz {x:NG} {st:Ob} {f:NH} {oc:NF} {od an:Option NH} {XO:Array (Option NF)} {kV WB pm W2 ct:NF} (l:K.lookup f=GS ⟨oc,od, .func (OP x qual (cG st) (aQ st) (ao st) .none kV WB pm an W2 ct),XO⟩) (c:Qs K W2 qual=true) (k:OI K (.ref f)=true):zq K x qual st f (OP x qual (cG st) (aQ st) (ao st) .none kV WB pm an W2 ct):=⟨⟨oc,od,kV,WB,pm,an,W2,ct,XO,rfl,l,c⟩,k⟩
end
theorem mX {k:Nat} (hr:br k A):A.units+1<Q3:=Sb (Nat.add_le_add_left (by decide:1<=64) _) hr.units
section
variable {X:Cx}
theorem pv (i:Nat) {x:NG} {pos:Ox} (hN:X.N[i]? =GS x:=by rfl) (hv:pz X.env.scope x:=by first|exact OG rfl|exact Oj (OG rfl)|exact Oj (Oj rfl)) (hd:(x==("__debug__":NG))=false:=by decide) (WG:(x==("__classdict__":NG))=false:=by decide):PE X (.Name x pos) (BM i):=HE hN hv hd WG
end
def aB (H H':Hp):Prop:=∀b o,H b=GS o->H' b=GS o
theorem aB.refl (H:Hp):aB H H:=λ_ _ h=>h
theorem aB.trans {H1 H2:Hp} (a:aB H H1) (b:aB H1 H2):aB H H2:=λc o h=>b c o (a c o h)
theorem aB.free (e:aB H H') {l:NH} (h:H' l=VY):H l=VY:=by
 cases q:H l with
 |none=>rfl
 |some o=>
  rw[e l o q]at h;cases h
theorem aB.seq {a:NH} {xs:List V} (e:aB H H') (h:cP K H a xs):cP K H' a xs:=by
 rcases h with (h|⟨o,h⟩)|h
 ·exact .inl (.inl (e _ _ h))
 ·exact .inl (.inr ⟨o,e _ _ h⟩)
 ·exact .inr h
section
variable {κ:Type} [DecidableEq κ]
end
def oq (env:Pw):List (NG×NameKind)->List (NG×NH)->List (NG×NH)
 |[],cs=>cs
 |(n,k)::r,cs=>oq env r (if k= .free then (match env.cells.lookup n with|some c=>(n,c)::cs|none=>cs)else cs)
theorem rh (env:Pw):∀(names:List (NG×NameKind)) (cs:List (NG×NH)),(∀y∈names,y.2= .free->∃c,env.cells.lookup y.1=GS c)-> (forIn names cs λ(x:NG×NameKind) (r:List (NG×NH))=>(if (x.2==NameKind.free)=true then do let a<-cellOf env x.1 pure (RU ((x.1,a)::r))else pure (RU r):QD (ForInStep (List (NG×NH)))))=pure (oq env names cs)
 |[],cs,_=>rfl
 |(n,k)::r,cs,h=>by
  rw[List.forIn_cons];by_cases hk:k= .free
  ·subst hk
   obtain⟨c,hc⟩:=h (n, .free) NZ rfl;have e:cellOf env n=pure c:=by unfold cellOf;rw[hc]
   simp only[beq_self_eq_true,if_true,e];unfold oq;simp only[if_true,hc];exact rh env r ((n,c)::cs) λy hy=>h y (O1 _ hy)
  ·have hb:(k==NameKind.free)=false:=by simpa using hk
   simp only[hb,OH,if_false];unfold oq;rw[if_neg hk];exact rh env r cs λy hy=>h y (O1 _ hy)
theorem uX (h:∀y∈scope.names,y.2= .free->∃c,env.cells.lookup y.1=GS c):Vs scope env=pure (oq env scope.names []):=by
 have:=rh env scope.names [] h;unfold Vs;simp only[bind_pure];exact this
theorem ft {env:Pw} {x:NG} {c:NH}:∀{names:List (NG×NameKind)} {cs:List (NG×NH)},(∀c,cs.lookup x=GS c->env.cells.lookup x=GS c)->(oq env names cs).lookup x=GS c->env.cells.lookup x=GS c
 |[],cs,h,e=>h c e
 |(n,k)::r,cs,h,e=>by
  unfold oq at e;refine ft (names:=r) (λd hd=> ?_) e;split at hd
  ·split at hd
   ·rename_i c' hc
    rw[P5]at hd;cases hx:x==n with
    |true=>rw[hx]at hd;have:=eq_of_beq hx;subst this;rw[hc];exact hd
    |false=>rw[hx]at hd;exact h d hd
   ·exact h d hd
  ·exact h d hd
theorem ua {env:Pw} {x:NG}:∀{names:List (NG×NameKind)} {cs:List (NG×NH)},(∃c,cs.lookup x=GS c)->∃c,(oq env names cs).lookup x=GS c
 |[],cs,h=>h
 |(n,k)::r,cs,h=>by
  unfold oq;refine ua (names:=r) ?_;split
  ·split
   ·rename_i c' hc
    rw[P5];cases x==n with
    |true=>exact⟨_,rfl⟩
    |false=>exact h
   ·exact h
  ·exact h
theorem rj {env:Pw} {x:NG}:∀{names:List (NG×NameKind)} {cs:List (NG×NH)},(x,NameKind.free)∈names->(∃c,env.cells.lookup x=GS c)->∃c,(oq env names cs).lookup x=GS c
 |(n,k)::r,cs,h,hc=>by
  unfold oq;rcases NW.mp h with h|h
  ·cases h
   obtain⟨c,hc⟩:=hc;refine ua (names:=r) ?_;rw[if_pos rfl,hc];exact⟨c,by simp⟩
  ·exact rj h hc
def ou (N:List NG) (names:List (NG×NameKind)) (σ:St):St:=
 names.map λx=>if x.2= .free then ((N.findIdx? (·==x.1)).bind λi=>(σ[i]?).join)else JT
def bA (X:Cx) (scope:PJ) (s:NI) (H:Hp) (ex:List NH):Cx:=
 {X with N:=scope.names.map (·.1),s₀:=s,H₀:=H,env:=compEnvC scope (oq X.env scope.names []) s.heap.objs.size X.env,outer:=X.stack,ex:=ex,fn:=λ_=>false,pn:=[],xe:=λ_ _=>False}
structure bz (X:Cx) (scope:PJ):Prop where
 kind:scope.kind= .function
 nocell:∀y∈scope.names,y.2≠ .cell
 loc:∀y∈scope.names,y.2= .local->scope.names.lookup y.1=GS .local
 free:∀y∈scope.names,y.2= .free->X.env.kindOf y.1=GS .cell\/X.env.kindOf y.1=GS .free
 nd:(scope.names.map (·.1)).Nodup
theorem fu {env:Pw} {x:NG}:∀{names:List (NG×NameKind)} {k:NameKind}, (names.map λ(n,k)=>if (k==NameKind.free&&env.scope.kind== .function&&env.kindOf n==GS .cell)then (n,NameKind.cell)else (n,k)).lookup x=GS k-> names.lookup x=GS k\/(names.lookup x=GS .free/\k= .cell)
 |[],k,h=>by simp at h
 |(n,j)::r,k,h=>by
  have ih:= @fu env x r k;rw[NP,P5]at h;rw[P5];by_cases hc:(j==NameKind.free&&env.scope.kind== .function&&env.kindOf n==GS .cell)=true
  ·rw[if_pos hc]at h
   have hj:j= .free:=by
    simp only[OX]at hc;exact eq_of_beq hc.1.1
   cases hx:x==n with
   |true=>rw[hx]at h;simp at h;exact .inr ⟨by rw[hj],h.symm⟩
   |false=>rw[hx]at h;exact ih h
  ·rw[if_neg hc]at h
   cases hx:x==n with
   |true=>rw[hx]at h;exact .inl h
   |false=>rw[hx]at h;exact ih h
theorem gO {α β:Type} [BEq α] [LawfulBEq α] {x:α} {b:β}:∀{l:List (α×β)},l.lookup x=GS b->(x,b)∈l
 |[],h=>by simp at h
 |(a,c)::r,h=>by
  rw[P5]at h;cases hx:x==a with
  |true=>rw[hx]at h;have:=eq_of_beq hx;subst this;cases h;exact NZ
  |false=>rw[hx]at h;exact O1 _ (gO h)
section
variable {X:Cx} {V_:List (NH×Oi)} {σ:St} {H:Hp} {s:NI} {scope:PJ}
theorem bz.cellOf (S:bz X scope) (ok:X.Ok):∀y∈scope.names,y.2= .free->∃c,X.env.cells.lookup y.1=GS c:=λy hy hf=>ok.has y.1 (S.free y hy hf)
theorem uY (S:bz X scope) (I:au X V_ σ H s) {fp:List NH} (Xo:∀b∈fp,i7 X V_ H b/\b<s.heap.objs.size):(bA X scope s H fp).Ok where
 mod:=I.mod
 kind:=S.kind
 glob:=I.ok.glob
 blt:=I.ok.blt
 above:=O2 _
 inj:=λx y c hx hy=>I.ok.inj x y c (ft (by intro c h;simp at h) hx) (ft (by intro c h;simp at h) hy)
 has:=λx hx=>by
  have hm:(x,NameKind.free)∈scope.names:=by
   rcases hx with hx|hx
   ·rcases fu hx with h|⟨h,_⟩
    ·exact absurd rfl (S.nocell _ (gO h))
    ·exact gO h
   ·rcases fu hx with h|⟨h,_⟩<;>exact gO h
  exact rj hm (S.cellOf I.ok _ hm rfl)
 cab:=λx c h=>by cases h
 hd:=I.ok.hd
 frames:=I.ok.frames
 stk:= .inl rfl
 exf:=λb hb=>⟨Og (Xo b hb).2,λx c hx=>(Xo b hb).1.2.2.2.2.1 x c (ft (by intro c h;simp at h) hx)⟩
 bs:=I.bs
 bsz:=Ou I.ok.bsz I.sz
 noex:=λb o e hb=>by
  rcases(Xo b hb).1.2.2.2.1 with h|h
  ·exact I.ok.noex b o e h
  ·have h1:b<X.base.objs.size:=NX e
   exact OA _ (Ol h1 (Ou I.ok.bsz h))
 exfs:=λb hb hc=>by
  have:=I.stkSub b hc;rcases NW.mp this with h|h
  ·exact(Xo b hb).1.2.1 h
  ·exact(Xo b hb).1.2.2.1 h
 funs:=I.stack
 frf:=I.stkFree
theorem Cm (S:bz X scope) (I:au X V_ σ H s) {fp:List NH} (Xo:∀b∈fp,i7 X V_ H b/\b<s.heap.objs.size) {h':NT} {t':Nat}
  (hn:h'.Ns s.heap.objs.size λ_=>JT) (k:∀b o,s.heap.get? b=GS o->h'.get? b=GS o):
  au (bA X scope s H fp) [] (ou X.N scope.names σ) H {s with heap:=h',toks:=t'}where
 ok:=uY S I Xo
 os:=rfl
 bare:=I.bare
 base:=Un.kept k
 loc:=by
  refine⟨_,hn,λi x v hi hv _=> ?_⟩;have Zq:(scope.names.map (·.1))[i]? =GS x:=hi;rw[O9]at Zq;unfold ou at hv;rw[O9]at hv;cases e:scope.names[i]? with
  |none=>rw[e]at Zq;cases Zq
  |some y=>
   rw[e]at Zq hv;have hx:y.1=x:=by simpa using Zq
   have hy:y∈scope.names:=Pz e;simp only[PL,SA]at hv;by_cases hf:y.2= .free
   ·rw[if_pos hf]at hv
    cases ei:X.N.findIdx? (·==y.1)with
    |none=>rw[ei]at hv;cases hv
    |some j=>
     rw[ei]at hv;have hj:σ[j]? =GS (GS v):=by
      cases e2:σ[j]? with
      |none=>simp[e2]at hv
      |some o=>simp only[SY,e2,Option.join_some]at hv;rw[hv]
     obtain⟨hl,hp,_⟩:=List.findIdx?_eq_some_iff_getElem.mp ei;have hN:X.N[j]? =GS x:=by
      rw[O5 hl];have:=eq_of_beq hp;rw[this,hx]
     have hk:=S.free y hy hf;rw[hx]at hk;obtain⟨m,_,hm⟩:=I.loc;obtain⟨u,ru,lu⟩:=hm j x v hN hj (by
      rcases hk with q|q
      ·exact .inr (.inl q)
      ·exact .inr (.inr q))
     refine⟨u,ru,?_⟩;rcases lu with ⟨q,_⟩|⟨_,c,hc,ZF⟩
     ·rcases hk with z|z<;>rw[z]at q<;>cases q
     ·have YH:(x,NameKind.free)∈scope.names:=by
       have:y=(x,NameKind.free):=by cases y;simp at hx hf;rw[hx,hf]
       rw[<-this];exact hy
      obtain⟨d,hd⟩:=rj (cs:=[]) YH (S.cellOf I.ok _ YH rfl);have a57:d=c:=by
       have:=ft (cs:=[]) (by intro c h;simp at h) hd;rw[this]at hc;exact OR hc
      refine .inr ⟨?_,d,hd,?_⟩
      ·show (Qk scope X.env).names.lookup x=GS .cell\/(Qk scope X.env).names.lookup x=GS .free
       have a58:∃k,(Qk scope X.env).names.lookup x=GS k:=by
        unfold Qk;cases el:(scope.names.map λ(n,k)=>if (k==NameKind.free&&X.env.scope.kind== .function&&X.env.kindOf n==GS .cell)then (n,NameKind.cell)else (n,k)).lookup x with
        |some k=>exact⟨k,rfl⟩
        |none=>
         exfalso;rw[List.lookup_eq_none_iff]at el;have:=el (if (NameKind.free==NameKind.free&&X.env.scope.kind== .function&&X.env.kindOf x==GS .cell)then (x,NameKind.cell)else (x,NameKind.free)) (Oz.mpr ⟨_,YH,rfl⟩);split at this<;>simp at this
       obtain⟨k,a07⟩:=a58;rcases fu a07 with h|⟨_,h⟩
       ·have a3h:=gO h
        have:k= .free:=by
         have nd:=S.nd;obtain⟨a,ha,e1⟩:=Ue.mp YH;obtain⟨b,hb,e2⟩:=Ue.mp a3h;have:a=b:=by
          refine(SQ (h₀:=by simpa using ha) (h₁:=by simpa using hb) nd).mp ?_;rw[Vd,Vd,e1,e2]
         subst this;rw[e1]at e2;cases e2;rfl
        subst this;exact .inr a07
       ·subst h;exact .inl a07
      ·rw[a57];exact ZF.keeps k
   ·rw[if_neg hf]at hv;cases hv
 cell:=λx c hx=>by
  obtain⟨v,hv⟩:=I.cell x c (ft (cs:=[]) (by intro c h;simp at h) hx);exact⟨v,hv.keeps k⟩
 free:=I.hok.fresh (O2 _)
 freeC:=λx c hx=>I.freeC x c (ft (cs:=[]) (by intro c h;simp at h) hx)
 pin:=λp hp=>by cases hp
 hok:=I.hok.kept k
 len:=by simp[bA,ou]
theorem qO (I:au X V_ σ H s) {fp:List NH} (Xo:∀b∈fp,i7 X V_ H b/\b<s.heap.objs.size) {τ:St} {H':Hp} {s':NI} (I':au (bA X scope s H fp) [] τ H' s') {h':NT} {t':Nat} (hs:∀b o,b≠s.heap.objs.size->s'.heap.get? b=GS o->h'.get? b=GS o):au X V_ σ H' {s' with heap:=h',toks:=t'}:=by
 have u:Un (qL X.stack) fp H H' s.heap s'.heap:=I'.base;have hC:H' s.heap.objs.size=JT:=I'.free;have nC:∀b o,s.heap.get? b=GS o->b≠s.heap.objs.size:=λb o e=>Og (NX e);refine I.call' (ch:=fp) I'.os ⟨?_,?_,u.free,?_,u.tups,u.frzs,u.tbls⟩ (λb o e=> ?_) I'.bare λb hb=> ?_
 ·exact λb o e n a c=>hs b o (nC b o e) (u.keep b o e n a c)
 ·intro b o e n a c
  obtain⟨sl,q⟩:=u.slot b o e n a c;exact⟨sl,hs b _ (nC b o e) q⟩
 ·intro b o e a
  obtain⟨o',q⟩:=u.there b o e a;exact⟨o',hs b _ (nC b o e) q⟩
 ·refine(I'.hok b o e).stay (λc v hc q=>hs c v ?_ q) (λ_ q=>q) λ_ _ q=>q
  intro z;subst z;rcases hc with z|z
  ·rw[z]at hC;rw[hC]at e;cases e
  ·rw[hC]at z;cases z
 ·obtain⟨h1,h2,h3,h4,h5,h6⟩:=(Xo b hb).1
  exact⟨h4,h2,h5,h6⟩
end
def Cn (X:Cx) (WH:List NS) (t:TT):Prop:=
 ∀(V_:List (NH×Oi)) (s:NI) (σ:St) (H:Hp) (Q:Bool->Hp->Prop),au X V_ σ H s->t σ H Q->
  wpAny (NY X.prog X.w) X.A (forIn WH true λc r=>if r=true then do let ok<-Vl c X.env (O8 c X.env);pure (RU ok)else pure (RU r)) (TP X V_ σ Q) X.xe s
theorem Fb:Cn X [] (λ_ H Q=>Q true H):=λ_ _ _ H _ I h=>wpAny_tests_nil ⟨H,I,h⟩
theorem Fc {c:NS} {t:TT} (h:PT X c t):Cn X [c] t:=λV_ s σ H Q I q=>wpAny_tests_one (h V_ s σ H Q I q)
def jU (J:It) (g:TG) (tt:TT) (te:TE) (D:NH) (τ0:St) (Q:Hp->Prop) (H1:Hp):Prop:=
 ∃W:Nat->Nat->List V->St->Hp->Prop,(∃m,W 0 m [] τ0 H1)/\∀i m ys τ H,W i m ys τ H->H D=GS (.lst ys)/\
  ((J.stop i H/\Q H)\/(J.go i H/\ys.length<sizeLine/\∀x H',J.yld i H x H'->g x τ H' λτ2 H2=>tt τ2 H2 λb H3=>
   if b=true then te τ2 H3 λy H4=>H4 D=GS (.lst ys)/\∃m',m'<m/\W (i+1) m' (ys++[y]) τ2 (aS H4 D (.lst (ys++[y])))else ∃m',m'<m/\W (i+1) m' ys τ2 H3))
def KD (N:List NG) (names:List (NG×NameKind)) (wi:TI) (g:TG) (tt:TT) (te:TE):TE:=λσ H Q=>
 wi σ H λJ H1=>∀D,H1 D=JT->jU J g tt te D (ou N names σ) (λH2=>Q (.ref D) H2) (aS H1 D (.lst []))
section
variable {X:Cx} {WI tg iter:NS} {WH:List NS} {scope:PJ} {pos:Ox} {wi:TI} {g:TG} {tt:TT} {te:TE}
theorem Fd (S:bz X scope) (hc:X.calm=true) (hg:∀s H ex,PG (bA X scope s H ex) tg g) (Yf:∀s H ex,Cn (bA X scope s H ex) WH tt) (Yb:∀s H ex,PE (bA X scope s H ex) WI te) {V_:List (NH×Oi)} {σ:St} {H:Hp} {s:NI} (I:au X V_ σ H s) {fp:List NH} {it D:NH} {tn:Nat->NT->Prop} {J:It} (T:wa X.prog X.w X.K tg J fp it tn) (Xo:∀b∈fp,i7 X V_ H b/\b<s.heap.objs.size) {Q:Hp->Prop} {R:S9->NI->Prop} (hR:∀τ H' s',au (bA X scope s H fp) [] τ H' s'->Q H'->R (.ok .next) s') {s1:NI} {τ0:St} (I1:au (bA X scope s H fp) [] τ0 H s1) (ht:tn 0 s1.heap) (q:jU J g tt te D τ0 Q H): Qg (NY X.prog X.w) X.A (.compLoop (.ListComp WI [⟨tg,iter,WH,0⟩] scope pos) 0 (.ref it) (.ref D) (bA X scope s H fp).env) R s1:=by
 obtain⟨W,⟨m0,w0⟩,a0b⟩:=q;have XN:∀{H':Hp},(∀b∈fp,H' b=JT)->∀b∈fp,i7 (bA X scope s H fp) [] H' b:=λ{H'} hn b hb=>
  ⟨hn b hb,Og (Xo b hb).2,(uY S I Xo).exfs b hb, .inl hb,λx c hx=>(Xo b hb).1.2.2.2.2.1 x c (ft (cs:=[]) (by intro c h;simp at h) hx),λp hp=>by cases hp⟩
 refine codeAny_loop rfl (λn s'=>∃i ys τ H',au (bA X scope s H fp) [] τ H' s'/\tn i s'.heap/\(∀b∈fp,H' b=JT)/\W i n ys τ H') (λn s2 hI=> ?_) m0 ⟨0,[],τ0,H,I1,ht,λb hb=>(Xo b hb).1.1,w0⟩;obtain⟨i,ys,τ,H2,I2,Zt,a1_,w2⟩:=hI;show wpAny _ X.A ((compTurn (.ListComp WI [⟨tg,iter,WH,0⟩] scope pos) 0 (.ref it) (.ref D) (bA X scope s H fp).env).onRaise (λx=>do QS x (bA X scope s H fp).env;theTreesLotGoes x)) _ _ s2;refine wpAny_noted ?_;rw[compTurn_list];have up:∀{α:Type} {t:QD α} {Q:α->NI->Prop} {E:NF->NI->Prop} {s:NI},wpAny (NY X.prog X.w) X.A t Q (λ_ _=>False) s->wpAny (NY X.prog X.w) X.A t Q E s:=λh=>OS h (λ_ _ q=>q) λ_ _ f=>f.elim;obtain⟨hD,a3i⟩:=a0b i n ys τ H2 w2;rcases a3i with ⟨stop,qn⟩|⟨go,hz,step⟩
 ·refine NJ (Q8 (NJ (up (bF (T.done (bA X scope s H fp) rfl rfl rfl hc i [] s2 τ H2 (λ_ _=>False) I2 (XN a1_) Zt stop) λr s3 z_=> ?_))))
  obtain⟨hr,I3⟩:=z_;subst hr;exact NQ (hR _ _ _ I3 qn)
 ·refine NJ (Q8 (NJ (up (bF (T.item (bA X scope s H fp) rfl rfl rfl hc i [] s2 τ H2 (λ_ _=>False) I2 (XN a1_) Zt go) λr s3 z_=> ?_))))
  obtain⟨u,hr,h3⟩:=z_;subst hr;refine NJ (up (bF h3 λ_ s4 z_=> ?_));obtain⟨x,H4,I4,r4,y4,a19,a3j⟩:=z_;have a3k:=I4.pinned (XN a3j) (T.obj _ _ a19);have back:∀{τ7:St} {H7:Hp} {s7:NI},au (bA X scope s H fp) ([]++pA fp s4.heap) τ7 H7 s7->au (bA X scope s H fp) [] τ7 H7 s7/\tn (i+1) s7.heap/\∀b∈fp,H7 b=JT:=λI7=>
   ⟨I7.unpinned,T.keep _ _ _ a19 λb hb o e=>(I7.pin (b,o) (O7 _ (O7 _ (gg hb e)))).1,λb hb=>by
    obtain⟨o,e,d⟩:=T.obj _ _ a19 b hb;exact(I7.pin (b,o) (O7 _ (O7 _ (gg hb e)))).2.1⟩
  refine NJ (up (bF (hg s H fp _ s4 τ H4 x u _ a3k r4 (step x H4 y4)) λ_ s5 z_=> ?_));obtain⟨τ5,H5,I5,q5⟩:=z_;refine NJ (up (bF (Yf s H fp _ s5 τ5 H5 _ I5 q5) λok s6 z_=> ?_));obtain⟨H6,I6,q6⟩:=z_;cases ok with
  |false=>
   obtain⟨m',hm,w'⟩:=q6;obtain⟨a,b,c⟩:=back I6;exact NQ ⟨rfl,m',hm,i+1,ys,τ5,H6,a,b,c,w'⟩
  |true=>
   rw[if_pos rfl]at q6;refine NJ (NJ (up (bF (Yb s H fp _ s6 τ5 H6 _ I6 q6) λv s7 z_=> ?_)));obtain⟨y,H7,I7,r7,a3l,m',hm,w'⟩:=z_;refine NJ (up (bF (mj (X:=bA X scope s H fp) _ s7 τ5 H7 (.ref D) [y] (.ref D) [v] (λ_ H8=>H8=aS H7 D (.lst (ys++[y]))) I7 rfl (.cons r7 .nil) ⟨D,ys,y,rfl,rfl,a3l,hz,rfl⟩) λ_ s8 z_=> ?_));obtain⟨_,H8,I8,_,e8⟩:=z_;subst e8;obtain⟨a,b,c⟩:=back I8;exact NQ (NQ ⟨rfl,m',hm,i+1,ys++[y],τ5,_,a,b,c,w'⟩)
theorem wt (S:bz X scope) (hc:X.calm=true) (hg:∀s H ex,PG (bA X scope s H ex) tg g) (Yf:∀s H ex,Cn (bA X scope s H ex) WH tt) (Yb:∀s H ex,PE (bA X scope s H ex) WI te) {V_:List (NH×Oi)} {σ:St} {H:Hp} {s:NI} {E:NF->NI->Prop} (I:au X V_ σ H s) {fp:List NH} {it:NH} {tn:Nat->NT->Prop} {J:It} (T:wa X.prog X.w X.K tg J fp it tn) (Xo:∀b∈fp,i7 X V_ H b) (ht:tn 0 s.heap) {Q:NH->Hp->Prop} {RR:NF->NH->S9->NI->Prop} (hR:∀(D:NH) (H3:Hp) (s3:NI) (τ:St) (H':Hp) (s':NI),au X V_ σ H3 s3->(∀b∈fp,i7 X V_ H3 b/\b<s3.heap.objs.size)->au (bA X scope s3 H3 fp) [] τ H' s'->Q D H'->RR (.ref D) s3.heap.objs.size (.ok .next) s') (q:∀D,H D=JT->jU J g tt te D (ou X.N scope.names σ) (Q D) (aS H D (.lst []))): wpAny (NY X.prog X.w) X.A (VE []) (λWk s₃=>wpAny (NY X.prog X.w) X.A (TY scope X.env.globals (oq X.env scope.names []) [] X.env.qual JT .none (GS X.env)) (λcenv s₄=> Qg (NY X.prog X.w) X.A (.compStart (.ListComp WI [⟨tg,iter,WH,0⟩] scope pos) 0 (.ref it) Wk {cenv with scope:=Qk scope X.env}) (RR Wk cenv.locals) s₄) E s₃) E s:=by
 have Ww:∀b∈fp,b<s.heap.objs.size:=λb hb=>by
  obtain⟨o,e,_⟩:=T.obj _ _ ht b hb;exact NX e
 refine QY ?_;have I3:=I.lnew (ys:=[]) (its:=[]) (t':=s.toks) .nil (Pf _);have hD:H s.heap.objs.size=JT:=I.hok.fresh (O2 _);have ZT:(s.heap.push {cls:= .type "list",data:= .seq ([]:List NF).toArray}).objs.size=s.heap.objs.size+1:=Qr ..;have YI:∀b∈fp,i7 X V_ (aS H s.heap.objs.size (.lst [])) b/\b<({s with heap:=s.heap.push {cls:= .type "list",data:= .seq ([]:List NF).toArray},toks:=s.toks}:NI).heap.objs.size:=λb hb=>by
  refine⟨⟨?_,(Xo b hb).2⟩,?_⟩
  ·rw[aj (Og (Ww b hb))];exact(Xo b hb).1
  ·show b<(s.heap.push _).objs.size
   rw[ZT];exact Q6 (Ww b hb)
 refine Ug S.nocell (by intro y hy;simp at hy) (λh₁ a0g a0h=> ?_) S.kind;dsimp only at a0g a0h ⊢;have k1:∀b o,(s.heap.push {cls:= .type "list",data:= .seq ([]:List NF).toArray}).get? b=GS o->h₁.get? b=GS o:=λb o e=>a0h.extBut b o (Og (NX e)) (NO _ e);have I4:=Cm (t':=s.toks) S I3 YI (h':=h₁) a0g k1;have a20:tn 0 h₁:=T.keep _ _ _ ht λb hb o e=>k1 b o (NO _ e);have YJ:Qg (NY X.prog X.w) X.A (.compLoop (.ListComp WI [⟨tg,iter,WH,0⟩] scope pos) 0 (.ref it) (.ref s.heap.objs.size) (bA X scope {s with heap:=s.heap.push {cls:= .type "list",data:= .seq ([]:List NF).toArray},toks:=s.toks} (aS H s.heap.objs.size (.lst [])) fp).env)
   (RR (.ref s.heap.objs.size) (s.heap.push {cls:= .type "list",data:= .seq ([]:List NF).toArray}).objs.size) {s with heap:=h₁,toks:=s.toks}:=
  Fd S hc hg Yf Yb I3 T YI (λτ H' s' I' q'=>hR _ _ _ τ H' s' I3 YI I' q') I4 a20 (q _ hD)
 exact TJ YJ (T.self _ 0 _ _ _ a20 YJ)
theorem zr (S:bz X scope) (hc:X.calm=true) (hi:PI X tg iter wi) (hg:∀s H ex,PG (bA X scope s H ex) tg g) (Yf:∀s H ex,Cn (bA X scope s H ex) WH tt) (Yb:∀s H ex,PE (bA X scope s H ex) WI te) (hs:∀x,P8 iter X.env x=pure x:=by intro _;rfl):PE X (.ListComp WI [⟨tg,iter,WH,0⟩] scope pos) (KD X.N scope.names wi g tt te):=by
 intro V_ s σ H Q I h;rw[eval_ListComp];refine S_ (use:=JT) rfl hs (uX (S.cellOf I.ok)) S.kind S.loc (bF (hi V_ s σ H _ I h) λv s1 h1=>bF h1 λa1S s2 h2=> ?_);obtain⟨it,fp,tn,J,H2,e,I2,T,Zt,f2,q⟩:=h2;subst e;refine wt (Q:=λD H2=>Q (.ref D) H2) (RR:=λWk C=>compPost (NY X.prog X.w) X.A X.xe JT (EP X V_ σ Q) Wk C) S hc hg Yf Yb I2 T f2 Zt ?_ q;intro D H3 s3 τ H' s' I3 f3 I' q';obtain⟨m,hm,_⟩:=I'.loc;refine⟨m,hm,λh' Wd=> ?_⟩;exact⟨.ref D,H',qO (t':=s'.toks) I3 f3 I' λb o hb e=>Wd.extBut b o hb e,rfl,q'⟩
def KE (N:List NG) (names:List (NG×NameKind)) (wi:TI) (g:TG) (tt:TT) (te:TE) (gy:TG):TS:=λD σ H=>
 wi σ H λJ H1=>∀p,H1 p=JT->jU J g tt te p (ou N names σ) (λH2=>gy (.ref p) σ H2 D.nx) (aS H1 p (.lst []))
theorem Fe {y:NG} {py WW:Ox} {gy:TG} (S:bz X scope) (hc:X.calm=true) (hi:PI X tg iter wi) (hg:∀s H ex,PG (bA X scope s H ex) tg g) (Yf:∀s H ex,Cn (bA X scope s H ex) WH tt) (Yb:∀s H ex,PE (bA X scope s H ex) WI te) (hy:PG X (.Name y py) gy) (Yg:ON (.ListComp WI [⟨tg,iter,WH,0⟩] scope pos) (GS (.Name y py)) WW.line X.env=pure true:=by rfl) (hs:∀x,P8 iter X.env x=pure x:=by intro _;rfl):PS X (.Assign [.Name y py] (.ListComp WI [⟨tg,iter,WH,0⟩] scope pos) WW) (KE X.N scope.names wi g tt te gy):=by
 intro V_ s σ H D I h;rw[TZ _ _ _ _ Yg];refine NJ (Q8 (NJ ?_));show wpAny _ X.A (do let _<-So (.ListComp WI [⟨tg,iter,WH,0⟩] scope pos) scope X.env _ (VE []) false (O8 iter X.env) (GS (Qu (.Name y py) X.env))) _ _ s;refine NJ (OS (S_ (use:=GS (Qu (.Name y py) X.env)) (Q:=λ_ s'=>SP X V_ D .next s') rfl hs (uX (S.cellOf I.ok)) S.kind S.loc
  (bF (hi V_ s σ H _ I h) λv s1 h1=>bF h1 λa1S s2 h2=> ?_)) (λ_ s' hq=>NQ (NQ hq)) λ_ _ e=>e)
 obtain⟨it,fp,tn,J,H2,e,I2,T,Zt,f2,q⟩:=h2;subst e;refine wt (Q:=λp H2=>gy (.ref p) σ H2 D.nx) (RR:=λWk C=>compPost (NY X.prog X.w) X.A X.xe (GS (Qu (.Name y py) X.env)) (λ_ s'=>SP X V_ D .next s') Wk C) S hc hg Yf Yb I2 T f2 Zt ?_ q;intro p H3 s3 τ H' s' I3 f3 I' q';obtain⟨m,hm,_⟩:=I'.loc;obtain⟨oC,es,ep,a21,a1a,a3m,a3n⟩:=hm;have J1:au X V_ σ H' s':=qO (t':=s'.toks) (h':=s'.heap) I3 f3 I' λb o _ e=>e;have a22:H' s3.heap.objs.size=JT:=I'.free;have a1b:s3.heap.objs.size≠X.env.locals:=λz=>by have:=I3.lt;rw[<-z]at this;exact OA _ this
 have J2:au X (V_++[(s3.heap.objs.size,oC)]) σ H' s':=J1.pins_of λq hq=>by
  rcases OF.mp hq with hq|hq
  ·exact J1.pin q (O7 _ hq)
  ·have e:q=(s3.heap.objs.size,oC):=by simpa using hq
   subst e;exact⟨a21,a22,a1b,I3.nofs (O2 _),λv z=>by rw[a1a]at z;cases z⟩
 refine bF (hy _ s' σ H' (.ref p) (.ref p) D.nx J2 rfl q') λ_ Ye z_=> ?_;obtain⟨σ5,H5,I5,q5⟩:=z_;have hp:=I5.pin (s3.heap.objs.size,oC) (O7 _ (O7 _ NZ));refine⟨m,⟨oC,es,ep,hp.1,a1a,a3m,a3n⟩,λh' Wd=> ?_⟩;refine⟨σ5,H5,(I5.unpinned).turned (it:=s3.heap.objs.size) (t':=Ye.toks) (λb o hb e=>Wd.extBut b o hb e) hp.2.1 a1b (.inr I3.sz) (λx c hx z=> ?_) (λq hq z=> ?_),q5⟩
 ·obtain⟨v,o,ho,_⟩:=I3.cell x c hx
  have:=NX ho;rw[z]at this;exact OA _ this
 ·have:=(I3.pin q hq).1
  have:=NX this;rw[z]at this;exact OA _ this
end
section
variable {X:Cx} {e a b st:NS} {te ta tb:TE} {a2G:TO} {pos p2 p:Ox}
def Mt (K:ND) (te:TE) (a2G:TO):TE:=λσ H Q=>te σ H λx H1=>a2G σ H1 λo H2=>o=GS (-1)/\∃a xs,x= .ref a/\cP K H2 a xs/\∀p,H2 p=JT->Q (.ref p) (aS H2 p (.lst xs.reverse))
theorem Im (he:PE X e te) (W_:PO X (GS st) a2G):PE X (.Subscript e (.Slice JT JT (GS st) p2) pos) (Mt X.K te a2G):=by
 intro V_ s σ H Q I h;refine Uc (bF (he V_ s σ H _ I h) λv s1 z_=> ?_);obtain⟨x,H1,I1,r1,q1⟩:=z_;refine wpAny_Slice ?_;rw[Sm];refine NQ ?_
 try rw[Sm]
 refine NQ ?_;refine bF (W_ V_ s1 σ H1 _ I1 q1) λvk s2 z_=> ?_;obtain⟨o,H2,I2,pk,ho,a,xs,ex,hx,q⟩:=z_;subst ho;subst ex;cases r1;have I3:au X V_ σ H2 {s2 with heap:=s2.heap.push {cls:= .type "slice",data:= .fields #[.none, .none,vk]}}:=I2.kept (t':=s2.toks) λb ob q=>NO _ q;obtain⟨its,r,ht,hz⟩:=I3.list hx;have Wa:=r.length;show wpAny (NY X.prog X.w) X.A (Sn e (.Slice JT JT (GS st) p2) (.ref a) (.ref s2.heap.objs.size)) (EP X V_ σ Q) X.xe {s2 with heap:=s2.heap.push {cls:= .type "slice",data:= .fields #[.none, .none,vk]}};refine tail_any (ops:=[.ref a, .ref s2.heap.objs.size]) ht.isList.typeIs Sx.lookup ?_ (by with_unfolding_all rfl);refine SV ht.isList (UM ..) .none .none pk (by decide) ?_ (by rw[NR]<;>omega);rw[PySem.W.krv_pick];refine⟨.ref _,_,I3.laid (t':=s2.toks) (o:= .lst xs.reverse) (λb ob q=>NO _ q) (O2 _) ?_,rfl,q _ (I3.hok.fresh (O2 _))⟩;exact⟨by rw[Uu];exact hz,its.reverse,0,r.reverse,Oe _ rfl⟩
def Mu (K:ND):List V->Hp->VK->Prop:=λxs H Q=>∃x T t k,xs=[x, .ty T]/\oh K H x t/\OZ K t (.type T)=GS k/\Q (.bl k) H
theorem Co:cJ X (.builtin "isinstance") (Mu X.K):=by
 intro V_ s σ H xs us Q I rv h;obtain⟨x,T,t,k,rfl,ty,e,q⟩:=h;obtain⟨u,w',rfl,ru,ZI⟩:=zg rv;cases ZI;exact As I ru ty e λtk=>⟨.bl k,H,I.tok tk,rfl,q⟩
theorem rm:Ot "isinstance"=GS (.builtin "isinstance"):=by decide+kernel
def xZ (x:Int):List Int->List Int
 |[]=>[x]
 |y::r=>if x<=y then x::y::r else y::xZ x r
def bS:List Int->List Int
 |[]=>[]
 |x::r=>xZ x (bS r)
theorem pD (x:Int):∀l:List Int,(xZ x l).Perm (x::l)
 |[]=>QN _
 |y::r=>by
  unfold xZ;split
  ·exact QN _
  ·exact(VF y (pD x r)).trans (List.Perm.swap x y r)
theorem il:∀l:List Int,(bS l).Perm l
 |[]=>QN _
 |x::r=>(pD x _).trans (VF x (il r))
theorem qb (x:Int):∀{l:List Int},l.Pairwise (·<=·)->(xZ x l).Pairwise (·<=·)
 |[],_=>by simp[xZ]
 |y::r,h=>by
  obtain⟨h1,h2⟩:=P4.mp h;unfold xZ;split
  ·rename_i a3o
   refine P4.mpr ⟨λz hz=> ?_,h⟩;rcases NW.mp hz with rfl|hz
   ·exact a3o
   ·exact Q4 a3o (h1 z hz)
  ·rename_i a3o
   refine P4.mpr ⟨λz hz=> ?_,qb x h2⟩;rcases NW.mp ((pD x r).mem_iff.mp hz)with rfl|hz
   ·omega
   ·exact h1 z hz
theorem i8:∀l:List Int,(bS l).Pairwise (·<=·)
 |[]=>Sz
 |x::r=>qb x (i8 r)
theorem gE:∀{a b:List Int},a.Perm b->a.Pairwise (·<=·)->b.Pairwise (·<=·)->a=b
 |[],b,p,_,_=>(List.nil_perm.mp p).symm
 |x::a,[],p,_,_=>(List.perm_nil.mp p)
 |x::a,y::b,p,h1,h2=>by
  obtain⟨a1,a2⟩:=P4.mp h1;obtain⟨b1,b2⟩:=P4.mp h2;have e:x=y:=by
   have hx:x∈y::b:=p.mem_iff.mp NZ;have hy:y∈x::a:=p.mem_iff.mpr NZ;rcases NW.mp hx with h|h
   ·exact h
   ·rcases NW.mp hy with h'|h'
    ·exact h'.symm
    ·exact Int.le_antisymm (a1 y h') (b1 x h)
  subst e;rw[gE ((List.perm_cons x).mp p) a2 b2]
theorem uZ:cJ X (.builtin "sorted") (λxs H Q=>∃p ns,xs=[.ref p]/\cP X.K H p (ns.map V.int)/\ns.length<64/\∀l,H l=JT->Q (.ref l) (aS H l (.lst ((bS ns).map V.int)))):=by
 intro V_ s σ H xs us Q I rv h;obtain⟨p,ns,rfl,hx,hl,q⟩:=h;obtain⟨u,rfl,ru⟩:=ij rv;cases ru;obtain⟨its,r,ht,hz⟩:=I.list hx;have hi:=jR r;have Wa:=r.length;rw[NK]at Wa;refine sorted_ints ht.isList hi (by omega) λout a3p a1 a2 a3=> ?_;obtain⟨e,he⟩:=sortedAll_at s.heap its out;have en:a3p=bS ns:=gE (a2.trans (il ns).symm) a3 (i8 ns);subst en;have k:∀b o,s.heap.get? b=GS o->(sortedAll s.heap its out).get? b=GS o:=λb o e=>sortedAll_old e;refine⟨.ref (s.heap.objs.size+1),_,I.laid (t':=s.toks) (o:= .lst ((bS ns).map V.int)) k (S4 _) ?_,rfl,q _ (I.hok.fresh (S4 _))⟩;refine⟨?_,out.toList,e,jt a1,by simpa[seqObj]using he⟩;have h1:=a2.length_eq;rw[NK]at hz ⊢;omega
end
section
variable {P:NM} {w:NV} {H:Hp} {h h':NT} {a:NH} {o:HO}
theorem bg.got (x:bg P w H h a o):∃u,h.get? a=GS u:=by
 cases o with
 |lst xs=>obtain⟨_,_,_,_,e⟩:=x;exact⟨_,e⟩
 |tup xs=>obtain⟨_,_,_,p⟩:=x;obtain⟨o,e,_⟩:=p;exact⟨_,e⟩
 |dK kvs=>obtain⟨_,_,_,_,o,_,_,e,_⟩:=x;exact⟨_,e⟩
 |dT kvs=>obtain⟨_,_,_,_,o,_,_,e,_⟩:=x;exact⟨_,e⟩
 |set S n=>obtain⟨o,_,_,_,e,_⟩:=x;exact⟨_,e⟩
 |ins C dx fs=>obtain⟨_,_,_,e,_⟩:=x;exact⟨_,e⟩
 |own y=>obtain⟨_,e⟩:=x;exact⟨_,e⟩
 |xd fs=>obtain⟨_,⟨_,_,_,e,_⟩,_⟩:=x;exact⟨_,e⟩
 |rng lo hi=>obtain⟨_,_,_,e⟩:=x;exact⟨_,e⟩
 |frz ob u=>obtain⟨e,_⟩:=x;exact⟨_,e⟩
 |tbl ps=>exact⟨_,x⟩
 |met f y=>exact⟨_,x⟩
 |ext φ=>obtain⟨_,e,_⟩:=x;exact e
theorem kS.nowhere (x:kS P w H h) (hn:h.get? a=JT):H a=JT:=by
 cases e:H a with
 |none=>rfl
 |some o=>obtain⟨u,q⟩:=(x a o e).got;rw[hn]at q;cases q
end
section
variable {X:Cx} {V_:List (NH×Oi)} {σ:List (Option V)} {H:Hp} {s:NI} {h':NT}
theorem au.laidAt {a:NH} {o:HO} (I:au X V_ σ H s) (k:∀b u,s.heap.get? b=GS u->h'.get? b=GS u) (hn:s.heap.get? a=JT) (new:bg X.prog X.w (aS H a o) h' a o): au X V_ σ (aS H a o) {s with heap:=h',toks:=t'}:=by
 have hH:=I.hok.nowhere hn;have WK:∀b u,s.heap.get? b=GS u->b≠a:=λb u q z=>by rw[z,hn]at q;cases q
 refine I.un ⟨λb u q _ _ _=>k b u q,λb u q _ _ _=>⟨u.slots,k b u q⟩,λb u q n _=>by rw[aj (WK b u q)];exact n,λb u q _=>⟨u,k b u q⟩,λb xs q=>by rw[aj (cC q hH)];exact q,
  λb u xs q=>by rw[aj (cC q hH)];exact q,λb ps q=>⟨#[],by rw[aj (cC q hH),q];simp⟩⟩ λb u e=> ?_
 by_cases hb:b=a
 ·subst hb;rw[ar]at e;cases e;exact new
 ·rw[aj hb]at e
  exact(I.hok b u e).stay (λc v _ q=>k c v q) (λc q=>by rw[aj (cC q hH)];exact q) λc xs q=>by rw[aj (cC q hH)];exact q
end
section
variable {X:Cx}
theorem x_ {ns:List Int} {Wk:Array NF} (h:ItemsOf (λi v=>∃n t,ns[i]? =GS n/\v= .int n t) Wk ns.length):aC (ns.map V.int) Wk.toList:=by
 have W3:∀(vs:List NF) (ns:List Int),vs.length=ns.length->(∀(j:Nat) v,vs[j]? =GS v->∃n t,ns[j]? =GS n/\v= .int n t)->aC (ns.map V.int) vs:=by
  intro vs
  induction vs with
  |nil=>intro ns h1 _;cases ns with
   |nil=>exact .nil
   |cons _ _=>cases h1
  |cons v r ih=>
   intro ns h1 h2;cases ns with
   |nil=>cases h1
   |cons n ns=>
    obtain⟨m,t,e1,e2⟩:=h2 0 v rfl;simp at e1;subst e1;refine .cons ⟨t,e2⟩ (ih ns (by simpa using h1) λj v hv=> ?_);have:=h2 (j+1) v (by simpa using hv);simpa using this
 refine W3 Wk.toList ns (by rw[PR];exact h.1) λj v hv=>h.2 j v (by rw[<-TV];exact hv)
theorem u_ (hc:X.calm=true):cJ X (.builtin "sorted") (λxs H Q=>∃p kvs ns,xs=[.ref p]/\H p=GS (.dK kvs)/\kvs.map (·.1)=ns.map PM/\ns.length<64/\∀l,H l=JT->Q (.ref l) (aS H l (.lst ((bS ns).map V.int)))):=by
 intro V_ s σ H xs us Q I rv h;obtain⟨p,kvs,ns,rfl,hp,hk,hl,q⟩:=h;obtain⟨u,rfl,ru⟩:=ij rv;cases ru;obtain⟨z,hd,vs,Xz,dd⟩:=G_ I.hok hp;obtain⟨ep,a59⟩:=dd.dictAt;have Wa:vs.length=ns.length:=by
  rw[<-Xz.length];have:=congrArg S5 hk;simpa using this
 refine R6 V8 UO UP (UQ _) ?_;unfold Rn.«sorted»;refine NJ (m:=Vt "sorted" 1 1 _) (NQ ?_);refine NJ (PySem.W.kdu_collect (A:=X.A.in1) (PySem.W.kdl_dict (knd:=b9 X.prog X.w) (kvs:=vs) (ep:=ep) hd) (I.ok.hd hc) a59 (by rw[<-Xz.length];exact z) λh' tk Wk Zv a1c=> ?_);have hI:SK Wk.toList ns:=by
  refine jR (x_ ⟨by rw[a1c.1];exact Wa,λj v hv=> ?_⟩);obtain⟨k,x,hx,a0c⟩:=a1c.2 j v hv;have a1d:(vs.map (·.1))[j]? =GS k:=by rw[O9,hx];rfl
  rw[<-Xz.keys,hk,O9]at a1d;cases e:ns[j]? with
  |none=>rw[e]at a1d;cases a1d
  |some n=>
   rw[e]at a1d;cases a1d;rcases bR (show qV (PM n) v=true from a0c)with ⟨i,t,e1,e2⟩|⟨x',t,e1,e2⟩
   ·cases e1;exact⟨n,t,rfl,e2⟩
   ·cases e1
 have ZJ:Wk.toList.length=ns.length:=by rw[PR,a1c.1];exact Wa
 refine NJ (QY ?_ (by rw[ZJ];have:sizeLine=16777216:=Pe;omega));have ZS:(h'.push (seqObj "list" Wk.toList.toArray 0)).get? h'.objs.size=GS (seqObj "list" Wk.toList.toArray 0):=Oe _ rfl;refine NJ (Oq (QU T_ ⟨_,ZS,rfl⟩ Tx (list_sort_tree ZS hI (by omega) λout a3p a1 a2 a3=>⟨_,rfl,?_⟩) (U0 _)));refine NQ ⟨_,rfl,?_⟩;have en:a3p=bS ns:=gE (a2.trans (il ns).symm) a3 (i8 ns);subst en;obtain⟨e,he⟩:=Uq (out:=out) ZS;have WM:s.heap.get? h'.objs.size=JT:=by
  cases e:s.heap.get? h'.objs.size with
  |none=>rfl
  |some o=>exact absurd (NX (Zv _ _ e)) (OA _)
 have kk:∀b o,s.heap.get? b=GS o->(Uh (h'.push (seqObj "list" Wk.toList.toArray 0)) h'.objs.size Wk.toList out).get? b=GS o:=λb o eb=>by
  have hb:=Zv b o eb;have Ww:b<h'.objs.size:=NX hb;rw[U1 (Og Ww) (by rw[Vu];exact Q6 Ww)];exact NO _ hb
 refine⟨.ref h'.objs.size,_,I.laidAt (o:= .lst ((bS ns).map V.int)) kk WM ⟨?_,out.toList,e,jt a1,by simpa[seqObj]using he⟩,rfl,q _ (I.hok.nowhere WM)⟩;have:=a2.length_eq;rw[NK];have:sizeLine=16777216:=Pe;omega
end
section
variable {prog:NM} {w:NV} {A:Oc} {E:NF->NI->Prop} {s:NI} {I:NH} {fp wr:List NH} {G:Array SO->Array SO->Prop} {n:Nat} {P:Nat->NF->Prop} {St:Nat->NI->Prop}
end
section
variable {X:Cx} {e:NS} {te:TE} {pos p1 p2 Xh:Ox}
end
theorem rn:Ub (.type "list") (Qv "keys")=pure JT:=by rw[typeLookup_type,U2];kernel_rfl
theorem qw:Ub (.type "tuple") (Qv "keys")=pure JT:=by rw[typeLookup_type,U2];kernel_rfl
theorem fw:entryFor table "dict.update.loop"=GS Rn.«dict.update.loop»:=entryFor_of_tree (by kernel_rfl)
theorem bM:plainId "dict.update.loop"=true:=by decide+kernel
section
variable {prog:NM} {w:NV} {A:Oc} {E:NF->NI->Prop} {s:NI} {a:NH}
theorem wu {xs:Array NF} {k:Nat} {sl:Array (Option NF)} {Q:Option NF->NI->Prop} (hx:s.heap.get? a=GS {cls:= .type "list",dict:=JT,data:= .seq xs k,slots:=sl}) (hA:A.handled=JT) (h:∀h' tk,(∀b o,s.heap.get? b=GS o->h'.get? b=GS o)->Q JT {s with heap:=h',toks:=tk}):wpAny (NY prog w) A (S3 (.ref a) "keys") Q E s:=by
 obtain⟨hp,g,d,tk,os⟩:=s;have hT:∀a1e,(⟨hp,g,d,a1e,os⟩:NI).TypeIs (.ref a) "list":=λ_=>⟨_,hx,rfl⟩;have f1:=UR;have f3:=QH.lookup;have f4:=QH.bind (.ref a);have f5:=am_list_getattr_none;unfold S3 Vv getAttrBy
 repeat (any_goals (first|assumption|exact hT _|((with_reducible show wpAny _ _ (call (Ql "list.__getattribute__") _ _) _ _ _);refine call_meets QH (hT _) am_entry_list_getattribute (PySem.F.args_list_getattribute_2 _ _) (meets_getattribute_miss_list a xs k sl _ _ rn (by decide+kernel) (by size_fits)) ⟨hx,hA,λh' a1e e a23=> ?_⟩)|wp_step))
 obtain⟨t',u',he⟩:=a23.there;show wpAny _ _ (Rh _ _ _ _ _ _ _) _ _ _;unfold Rh
 repeat (any_goals (first|assumption|wp_step))
 exact h _ _ a23.of.keeps
theorem v3 {xs:Array NF} {k:Nat} {sl:Array (Option NF)} {Q:Option NF->NI->Prop} (hx:s.heap.get? a=GS {cls:= .type "tuple",dict:=JT,data:= .seq xs k,slots:=sl}) (hA:A.handled=JT) (h:∀h' tk,(∀b o,s.heap.get? b=GS o->h'.get? b=GS o)->Q JT {s with heap:=h',toks:=tk}):wpAny (NY prog w) A (S3 (.ref a) "keys") Q E s:=by
 obtain⟨hp,g,d,tk,os⟩:=s;have hT:∀a1e,(⟨hp,g,d,a1e,os⟩:NI).TypeIs (.ref a) "tuple":=λ_=>⟨_,hx,rfl⟩;have f1:=UR;have f3:=QA.lookup;have f4:=QA.bind (.ref a);have f5:=am_tuple_getattr_none;unfold S3 Vv getAttrBy
 repeat (any_goals (first|assumption|exact hT _|((with_reducible show wpAny _ _ (call (Ql "tuple.__getattribute__") _ _) _ _ _);refine call_meets QA (hT _) am_entry_tuple_getattribute (PySem.F.args_tuple_getattribute_2 _ _) (meets_getattribute_miss_tuple a xs k sl _ _ qw (by decide+kernel) (by size_fits)) ⟨hx,hA,λh' a1e e a23=> ?_⟩)|wp_step))
 obtain⟨t',u',he⟩:=a23.there;show wpAny _ _ (Rh _ _ _ _ _ _ _) _ _ _;unfold Rh
 repeat (any_goals (first|assumption|wp_step))
 exact h _ _ a23.of.keeps
end
section
variable {prog:NM} {w:NV} {A:Oc} {R:S9->NI->Prop} {I:NH} {fp wr:List NH} {G:Array SO->Array SO->Prop} {n:Nat} {P:Nat->NF->Prop} {St:Nat->NI->Prop}
def y0 (W3:Nat->aU) (val:Nat->NF):Nat->List (aU×NF)
 |0=>[]
 |i+1=>SW (y0 W3 val i) (W3 i) (val i)
theorem y3 (kvs:List (aU×NF)) (k:aU) (v:NF):(SW kvs k v).length<=kvs.length+1:=by
 unfold SW;split<;>simp
theorem rq (W3:Nat->aU) (val:Nat->NF):∀i,(y0 W3 val i).length<=i
 |0=>O2 _
 |i+1=>Ou (y3 _ _ _) (Nat.succ_le_succ (rq W3 val i))
theorem AA {h0:NT} (W:WalksS prog w A.in1 I fp wr G n P St) (S:NH) (a4t:S∉fp) (a5a:h0.get? S=JT) (a5b:∀b∈wr,h0.get? b=JT) (W3:Nat->aU) (val:Nat->NF) (res:NF) (hn:n<=sizeLine) (hP:∀i v,P i v->∃a o kv m,v= .ref a/\h0.get? a=GS o/\o.cls= .type "tuple"/\o.data= .seq #[kv,val i] m/\(b9 prog w).is (W3 i) kv=true): ∀(k i:Nat) (s:NI),n - i=k->i<=n->St i s->(∀b o,h0.get? b=GS o->s.heap.get? b=GS o)->s.heap.DictOf (b9 prog w) S (y0 W3 val i)-> (∀s',Moved (S::wr) G s s'->s'.heap.DictOf (b9 prog w) S (y0 W3 val n)->R (.ok (.ret res)) s')-> Qg (NY prog w) A (.builtin "dict.update.loop" ⟨[.ref S, .ref I,rawInt i,res],[]⟩) R s:=by
 have a5c:S∉wr:=λh=>a4t (W.sub _ h);have a0z:∀b∈wr,b∈S::wr:=λb hb=>O1 _ hb;have mv:∀{s s':NI} {kvs:List (aU×NF)},Moved wr G s s'->s.heap.DictOf (b9 prog w) S kvs->s'.heap.DictOf (b9 prog w) S kvs:=λhm hd=>by
  obtain⟨o,es,ep,ho,rest⟩:=hd;exact⟨o,es,ep,hm.heap S _ a5c ho,rest⟩
 intro k
 induction k with
 |zero=>
  intro i s hk hi W_ a2H hS hR;have a24:i=n:=by omega
  subst a24;refine RV fw ?_;rw[Ui bM _];show wpAny _ A.in1 (pyNext (.ref I)>>=_) _ _ s;refine NJ (W.done s _ _ W_ λs' hm=> ?_);show wpAny _ A.in1 (Builtin.Dict.addKeywords S []>>=λ_=>ret res) _ _ s';refine NJ (NQ ?_);exact NQ (hR s' (hm.mono a0z) (mv hm hS))
 |succ k ih=>
  intro i s hk hi W_ a2H hS hR;have Ww:i<n:=by omega
  refine RV fw ?_;rw[Ui bM _];show wpAny _ A.in1 (pyNext (.ref I)>>=_) _ _ s;refine NJ (W.item i s _ _ Ww W_ λv s' a5d a3q hm=> ?_);obtain⟨a,o,kv,m,rfl,ho,hc,hd,a0c⟩:=hP i v a5d;have a3r:∀b o,h0.get? b=GS o->s'.heap.get? b=GS o:=λb o e=>hm.heap b o (λhb=>by rw[a5b b hb]at e;cases e) (a2H b o e);have ZQ:=a3r a o ho;have a1f:=mv hm hS;dsimp only;refine NJ (Oq ?_);refine NJ (wpAny_tryCatch ?_);unfold Builtin.Dict.pairItems;refine NJ (Rb (T:="tuple") ⟨o,ZQ,hc⟩ ?_);rw[if_pos (by decide)];refine NJ (wpAny_seqItems ZQ hd ?_);refine NQ ?_;show wpAny _ A.in1 (Q9 [kv,val i] (dictSet S kv (val i))) _ _ s';refine Oq (wpAny_dictSet_pairs (hsz:=by have:=rq W3 val i;omega) a0c a1f λh' a5e a3s=> ?_);refine NQ ⟨plainId_quiet bM _,ih (i+1) _ (by omega) Ww (W.frame _ s' _ _ a3q (S4 _) λb hb o e=> ?_) (λb o e=> ?_) a5e λYe a3t a3u=> ?_⟩
  ·rw[a3s.2 b (λh:b=S=>a4t (by rw[<-h];exact hb))];exact e
  ·show h'.get? b=GS o
   rw[a3s.2 b (λh:b=S=>by rw[h,a5a]at e;cases e)];exact a3r b o e
  ·refine hR Ye (Moved.trans W.gtrans ((hm.mono a0z).then_heap (S4 _) λb o hb e=> ?_) a3t) a3u
   rw[a3s.2 b (λh:b=S=>hb (by rw[h];exact NZ))];exact e
end
section
variable {prog:NM} {w:NV} {A:Oc} {E:NF->NI->Prop} {s:NI} {p:NH}
abbrev Kp (h h':NT):Prop:=∀b o,h.get? b=GS o->h'.get? b=GS o
structure Ff (prog:NM) (w:NV) (h0:NT) (p:NH) (T:String) (n:Nat) (P:Nat->NF->Prop):Prop where
 lt:p<h0.objs.size
 ty:∀s:NI,Kp h0 s.heap->s.TypeIs (.ref p) T
 nd:(P_ T != P_ "dict")=true
 no:∀(A:Oc) (E:NF->NI->Prop) (s:NI) (Q:Option NF->NI->Prop),A.handled=JT->Kp h0 s.heap->(∀h' tk,Kp s.heap h'->Q JT {s with heap:=h',toks:=tk})->wpAny (NY prog w) A (S3 (.ref p) "keys") Q E s
 it:∀(A:Oc) (s:NI),A.handled=JT->Kp h0 s.heap->∃(oI:Oi) (St:Nat->NT->Prop),(∀(A':Oc) (E:NF->NI->Prop) (Q:NF->NI->Prop),Q (.ref s.heap.objs.size) {s with heap:=s.heap.push oI}->wpAny (NY prog w) A' (UE (.ref p)) Q E s)/\
  Walks prog w A s.heap.objs.size [s.heap.objs.size,p] [s.heap.objs.size] n P St/\St 0 (s.heap.push oI)
theorem s_ {T:String} {P:Nat->NF->Prop} (S:Ff prog w s.heap p T n P) (hh:A.handled=JT) (W3:Nat->aU) (val:Nat->NF) (hn:n<=sizeLine) (hP:∀i v,P i v->∃a o kv m,v= .ref a/\s.heap.get? a=GS o/\o.cls= .type "tuple"/\o.data= .seq #[kv,val i] m/\(b9 prog w).is (W3 i) kv=true) (h:∀h' tk,Kp s.heap h'->h'.DictOf (b9 prog w) s.heap.objs.size (y0 W3 val n)->Q (.ref s.heap.objs.size) {s with heap:=h',toks:=tk}): wpAny (NY prog w) A (call (.type "dict") [.ref p]) Q E s:=by
 refine callType_codes (Q₁:=λobj s₁=>obj= .ref s.heap.objs.size/\s₁={s with heap:=s.heap.push {cls:= .type "dict",data:= .dict #[]}}) PySem.F.kt_called_dict (PySem.F.kt_typeCall_dict_1 _) PySem.F.entry_dict_init (kt_code_dict_new _ ⟨rfl,rfl⟩) ?_
 rintro obj s₁ ⟨rfl,rfl⟩
 have a0e:(s.heap.push {cls:= .type "dict",data:= .dict #[]}).DictOf (b9 prog w) s.heap.objs.size []:=Heap.DictOf.new s.heap;have a08:Kp s.heap (s.heap.push {cls:= .type "dict",data:= .dict #[]}):=λb o e=>NO _ e;refine⟨a0e.typeIs,PySem.F.args_dict_init_2 _ _,?_⟩;unfold Rn.«dict.__init__»;refine NJ ?_;unfold Builtin.Dict.selfAndRest;refine NJ (wpAny_notOrdered_dict a0e.typeIs ?_);show wpAny _ _ (pure (s.heap.objs.size,[Of p])) _ _ _;refine NQ ?_;show wpAny _ _ (Th "dict.__init__" s.heap.objs.size (.ref p) [] .none) _ _ _;unfold Th;refine NJ (Rb (S.ty _ a08) ?_);rw[if_pos S.nd];refine NJ (S.no _ _ _ _ hh a08 λh1 a5f k1=> ?_);rw[if_pos (show (JT:Option NF).isNone=true from rfl)];refine NJ (SG ?_);have a3v:Kp s.heap h1:=λb o e=>k1 b o (a08 b o e);obtain⟨oI,St,a5g,W,st⟩:=S.it A.in1.in1 {s with heap:=h1,toks:=a5f} hh a3v;refine NJ (a5g _ _ _ ?_);have a4u:h1.DictOf (b9 prog w) s.heap.objs.size []:=by
  obtain⟨o,es,ep,ho,rest⟩:=a0e;exact⟨o,es,ep,k1 _ _ ho,rest⟩
 have a1g:s.heap.objs.size<h1.objs.size:=by
  obtain⟨o,es,ep,ho,rest⟩:=a4u;exact NX ho
 have fr:∀c,s.heap.objs.size<=c->s.heap.get? c=JT:=λc hc=>by
  cases e:s.heap.get? c with
  |none=>rfl
  |some o=>exact absurd (Ol (NX e) hc) (OA _)
 refine NQ ⟨plainId_quiet bM _,AA (h0:=s.heap) W.toS s.heap.objs.size (λhm=> ?_) (fr _ (O2 _)) (λb hb=> ?_) W3 val .none hn hP n 0 _ (by omega) (Pf _) st (λb o e=>NO _ (a3v b o e)) ?_ λs' hm a1f=> ?_⟩
 ·rcases NW.mp hm with z|hm
  ·exact absurd a1g (by rw[z];exact OA _)
  ·exact absurd S.lt (by rw[<-N_.mp hm];exact OA _)
 ·rw[N_.mp hb];exact fr _ (R9 a1g)
 ·obtain⟨o,es,ep,ho,rest⟩:=a4u
  exact⟨o,es,ep,NO _ ho,rest⟩
 ·refine⟨rfl,?_⟩
  rw[Moved.eq_with hm];refine h s'.heap s'.toks (λb o e=>hm.heap b o (λhb=> ?_) (NO _ (a3v b o e))) a1f;rcases NW.mp hb with rfl|hb
  ·rw[fr _ (O2 _)]at e;cases e
  ·rw[N_.mp hb]at e
   rw[fr _ (R9 a1g)]at e;cases e
theorem AB {W0:Array NF} (h:PlainL s.heap p W0):Ff prog w s.heap p "list" W0.size (λi v=>W0[i]? =GS v)where
 lt:=let ⟨_,_,e,_⟩:=h;NX e
 ty:=λs k=>let ⟨o,n,e,c,_⟩:=h;⟨o,k _ _ e,c⟩
 nd:=by decide
 no:=λA E s' Q hA k q=>by
  obtain⟨⟨oc,od,a5h,XO⟩,n,e,c,d,dt⟩:=h;cases c;cases d;cases dt;exact wu (k _ _ e) hA q
 it:=λA s' hA k=>by
  have hp:PlainL s'.heap p W0:=h.keeps k;have Ww:p<s'.heap.objs.size:=let ⟨_,_,e,_⟩:=hp;NX e;exact⟨_,_,λA' E Q q=>QJ hp.isList q,Uj hA s'.heap.objs.size p (Og Ww) W0,⟨⟨_,Oe _ rfl,rfl,rfl⟩,hp.isList.push _⟩⟩
theorem y6 {W0:Array NF} (h:ii s.heap p W0):Ff prog w s.heap p "tuple" W0.size (λi v=>W0[i]? =GS v)where
 lt:=h.lt
 ty:=λs k=>let ⟨o,e,c,_⟩:=h;⟨o,k _ _ e,c⟩
 nd:=by decide
 no:=λA E s' Q hA k q=>by
  obtain⟨⟨oc,od,a5h,XO⟩,e,c,n,dt,d⟩:=h;cases c;cases d;cases dt;exact v3 (k _ _ e) hA q
 it:=λA s' hA k=>by
  have hp:SE s'.heap p W0:=h.tup.keeps k;have Ww:p<s'.heap.objs.size:=hp.lt;have a5i:s'.heap.IsTuple p W0:=hp;exact⟨_,_,λA' E Q q=>S7 a5i q,VZ hA s'.heap.objs.size p (Og Ww) W0,⟨⟨_,Oe _ rfl,rfl,rfl⟩,show SE _ _ _ from hp.push _⟩⟩
end
section
variable {X:Cx}
inductive j3 (H:Hp):List V->List (aU×V)->Prop
 |nil:j3 H [] []
 |cons {a:NH} {k:aU} {v:V} {ys:List V} {ps:List (aU×V)}:H a=GS (.tup [kV k,v])->j3 H ys ps->j3 H (.ref a::ys) ((k,v)::ps)
theorem wv (rs:List (aU×NF)) (x:aU×NF):TX [] (rs++[x])=SW (TX [] rs) x.1 x.2:=by
 unfold TX;rw[List.foldl_append]
 rfl
def rz (rs:List (aU×NF)) (i:Nat):aU:=((rs[i]?).map (·.1)).getD (.inl 0)
def rA (rs:List (aU×NF)) (i:Nat):NF:=((rs[i]?).map (·.2)).getD .none
theorem lb (rs:List (aU×NF)):∀i,i<=rs.length->y0 (rz rs) (rA rs) i=TX [] (rs.take i)
 |0,_=>rfl
 |i+1,h=>by
  have hi:i<rs.length:=h;show SW (y0 (rz rs) (rA rs) i) (rz rs i) (rA rs i)=_;rw[lb rs i (R9 hi),List.take_succ_eq_append_getElem hi,wv];simp[rz,rA,hi]
theorem rB {P:NM} {w:NV} {H:Hp} {h:NT} (ok:kS P w H h):∀{ys:List V} {ps:List (aU×V)} {us:List NF},j3 H ys ps->aC ys us->∃rs:List (aU×NF),KV ps rs/\us.length=rs.length/\ ∀(i:Nat) v,us[i]? =GS v->∃a o kv m,v= .ref a/\h.get? a=GS o/\o.cls= .type "tuple"/\o.data= .seq #[kv,rA rs i] m/\(b9 P w).is (rz rs i) kv=true
 |_,_,_, .nil, .nil=>⟨[], .nil,rfl,λi v h=>by simp at h⟩
 |_,_,_, .cons (a:=a) (k:=k) (v:=v) ha t, .cons ru rt=>by
  obtain⟨rs,h1,h2,h3⟩:=rB ok t rt;obtain⟨_,its,r,o,g1,g2,n,g3,_⟩:=(show bg P w H h a (.tup [kV k,v])from ok a _ ha);obtain⟨x,y,rfl,rx,ry⟩:=r.two;refine⟨(k,y)::rs, .cons ⟨rfl,ry⟩ h1,by simp[h2],λi v' hv=> ?_⟩;cases i with
  |zero=>
   simp at hv;subst hv;exact⟨a,o,x,n,ru,g1,g2,g3,tY rx⟩
  |succ i=>exact h3 i v' (by simpa using hv)
theorem ww (hc:X.calm=true):cJ X (.type "dict") (λxs H Q=>∃p ys ps,xs=[.ref p]/\(H p=GS (.lst ys)\/H p=GS (.tup ys))/\j3 H ys ps/\∀l,H l=JT->Q (.ref l) (aS H l (.dK (jT [] ps)))):=by
 intro V_ s σ H xs us Q I rv h;obtain⟨p,ys,ps,rfl,hp,pa,q⟩:=h;obtain⟨u,rfl,ru⟩:=ij rv;cases ru;have Wz:∀(its:List NF) (T:String),aC ys its->ys.length<=sizeLine->Ff X.prog X.w s.heap p T its.toArray.size (λi v=>its.toArray[i]? =GS v)->
   wpAny (NY X.prog X.w) X.A (call (.type "dict") [.ref p]) (EP X V_ σ Q) X.xe s:=by
  intro its T r hz S;obtain⟨rs,h1,h2,h3⟩:=rB I.hok pa r;have hl:=r.length;refine s_ S (I.ok.hd hc) (rz rs) (rA rs) (by rw[NR];omega) (λi v hv=>h3 i v (by simpa using hv)) λh' tk k hd=> ?_;have en:its.toArray.size=rs.length:=by rw[<-h2];exact NR
  rw[en,lb rs _ (O2 _),RD]at hd;have a4v:KV (jT [] ps) (TX [] rs):=KV.merge h1 .nil;refine⟨.ref s.heap.objs.size,_,I.laid (t':=tk) (o:= .dK (jT [] ps)) k (O2 _) (Ci ?_ ?_ a4v hd),rfl,q _ (I.hok.fresh (O2 _))⟩
  ·rw[KV.length a4v]
   have:(TX [] rs).length<=rs.length:=by
    have:=rq (rz rs) (rA rs) rs.length
    rwa [lb rs _ (O2 _),RD]at this
   omega
  ·exact beq_eq_false_iff_ne.mpr (UD I.big)
 rcases hp with hp|hp
 ·obtain⟨its,r,pl,hz⟩:=I.list (cP.of hp)
  exact Wz its "list" r hz (AB pl)
 ·obtain⟨hz,its,r,pl⟩:=(show bg X.prog X.w H s.heap p (.tup ys)from I.hok p _ hp)
  exact Wz its "tuple" r hz (y6 pl)
end
open PySem PySem.Spec PyProof.Rows PySem.W
def mK {α:Type} (V:Nat->Nat->Prop) (lt:Nat->Nat->Bool):KasT α->(α->Prop)->Prop
 | .ret a,Q=>Q a
 | .ask i j k,Q=>V i j/\mK V lt (k (lt i j)) Q
theorem mK.imp {α:Type} {V:Nat->Nat->Prop} {lt:Nat->Nat->Bool} {Q Q':α->Prop} (w:∀a,Q a->Q' a):∀{t:KasT α},mK V lt t Q->mK V lt t Q'
 | .ret a,h=>w a h
 | .ask i j k,h=>⟨h.1,mK.imp w h.2⟩
theorem mK.bind {α β:Type} {V:Nat->Nat->Prop} {lt:Nat->Nat->Bool} {f:α->KasT β} {Q:β->Prop}:∀{t:KasT α},mK V lt t (λa=>mK V lt (f a) Q)->mK V lt (t.bind f) Q
 | .ret a,h=>h
 | .ask i j k,h=>⟨h.1,mK.bind h.2⟩
theorem mK.wp {α:Type} {V:Nat->Nat->Prop} {lt:Nat->Nat->Bool} {a4w:Nat->Nat->(Bool->NI->Prop)->NI->Prop} {Good:NI->Prop} (hc:∀i j C s,V i j->Good s->(∀s',Good s'->C (lt i j) s')->a4w i j C s) {Q:α->NI->Prop}: ∀{t:KasT α} {s:NI},mK V lt t (λa=>∀s',Good s'->Q a s')->Good s->t.kasWp a4w Q s
 | .ret a,s,h,g=>h s g
 | .ask i j k,s,h,g=>hc i j _ s h.1 g λs' g'=>mK.wp hc h.2 g'
section
variable {n:Nat} {W3:Nat->Int}
def kk (W3:Nat->Int) (p:Array Nat) (i:Nat):Int:=W3 (p.getD i 0)
def ya (W3:Nat->Int) (i j:Nat):Bool:=decide (W3 i<W3 j)
def Pr (n i j:Nat):Prop:=i<n/\j<n/\i≠j
structure sX (n:Nat) (p:Array Nat):Prop where
 sz:p.size=n
 perm:p.toList.Perm (Ov n)
theorem sX.lt {p:Array Nat} (h:sX n p) {i:Nat} (hi:i<n):p.getD i 0<n:=by
 have Zq:i<p.size:=by rw[h.sz];exact hi
 have:p.getD i 0=p[i]:=by simp[Uk,Zq]
 rw[this];exact OO.mp (h.perm.mem_iff.mp (by simp))
theorem sX.inj {p:Array Nat} (h:sX n p) {i j:Nat} (hi:i<n) (hj:j<n) (e:p.getD i 0=p.getD j 0):i=j:=by
 have Zq:i<p.size:=by rw[h.sz];exact hi
 have YA:j<p.size:=by rw[h.sz];exact hj
 have e1:p.getD i 0=p[i]:=by simp[Uk,Zq]
 have e2:p.getD j 0=p[j]:=by simp[Uk,YA]
 rw[e1,e2]at e;have nd:p.toList.Nodup:=(h.perm.nodup_iff).mpr T1;have hp:=R7.mp nd;have el:p.toList[i]'(by simpa using Zq)=p.toList[j]'(by simpa using YA):=by simpa using e
 rcases V2 i j with z|z|z
 ·exact absurd el (hp i j _ _ z)
 ·exact z
 ·exact absurd el.symm (hp j i _ _ z)
theorem sX.pr {p:Array Nat} (h:sX n p) {i j:Nat} (hi:i<n) (hj:j<n) (ZL:i≠j):Pr n (p.getD i 0) (p.getD j 0):=⟨h.lt hi,h.lt hj,λz=>ZL (h.inj hi hj z)⟩
def xE (W3:Nat->Int) (p:Array Nat) (m:Nat):Prop:=∀i j,i<j->j<m->kk W3 p i<kk W3 p j
def Io (W3:Nat->Int) (p:Array Nat) (m:Nat):Prop:=∀i j,i<j->j<m->kk W3 p j<kk W3 p i
theorem xE.more {p:Array Nat} {m:Nat} (h:xE W3 p (m+1)) (hl:kk W3 p m<kk W3 p (m+1)):xE W3 p (m+2):=λi j ZL hj=>by
 by_cases e:j=m+1
 ·subst e
  by_cases e2:i=m
  ·subst e2;exact hl
  ·exact T2 (h i m (by omega) (by omega)) hl
 ·exact h i j ZL (by omega)
theorem Io.more {p:Array Nat} {m:Nat} (h:Io W3 p (m+1)) (hl:kk W3 p (m+1)<kk W3 p m):Io W3 p (m+2):=λi j ZL hj=>by
 by_cases e:j=m+1
 ·subst e
  by_cases e2:i=m
  ·subst e2;exact hl
  ·exact T2 hl (h i m (by omega) (by omega))
 ·exact h i j ZL (by omega)
theorem yb {p:Array Nat} (o:sX n p) (hk:∀i j,i<n->j<n->W3 i=W3 j->i=j):∀(f m:Nat),xE W3 p (m+1)->m+1+f=n->mK (Pr n) (ya W3) (kas_asc p f (m+1)) λr=>m+1<=r/\r<=n/\xE W3 p r/\(r<n->kk W3 p r<kk W3 p (r - 1))
 |0,m,h,e=>⟨O2 _,by omega,h,λz=>by omega⟩
 |f+1,m,h,e=>by
  refine⟨o.pr (by omega) (by omega) (by omega),?_⟩;rw[Sd];by_cases hl:kk W3 p (m+1)<kk W3 p m
  ·simp only[show ya W3 (p.getD (m+1) 0) (p.getD m 0)=true from decide_eq_true hl,if_true]
   exact⟨O2 _,by omega,h,λ_=>by rw[Sd];exact hl⟩
  ·simp only[show ya W3 (p.getD (m+1) 0) (p.getD m 0)=false from decide_eq_false hl,OH,if_false]
   have WK:kk W3 p m≠kk W3 p (m+1):=λz=>by
    have:=o.inj (i:=m) (j:=m+1) (by omega) (by omega) (hk _ _ (o.lt (by omega)) (o.lt (by omega)) z);omega
   refine mK.imp (λr ⟨a,b,c,d⟩=>⟨by omega,b,c,d⟩) (yb o hk f (m+1) (h.more (by omega)) (by omega))
theorem Cp {p:Array Nat} (o:sX n p) (hk:∀i j,i<n->j<n->W3 i=W3 j->i=j):∀(f m:Nat),Io W3 p (m+1)->m+1+f=n->mK (Pr n) (ya W3) (kas_desc f p (m+1) 0) λr=>r.1=p/\r.2.2=0/\m+1<=r.2.1/\r.2.1<=n/\Io W3 p r.2.1
 |0,m,h,e=>⟨rfl,rfl,O2 _,by show m+1<=n;omega,h⟩
 |f+1,m,h,e=>by
  refine⟨o.pr (by omega) (by omega) (by omega),?_⟩;rw[Sd];by_cases hl:kk W3 p (m+1)<kk W3 p m
  ·simp only[show ya W3 (p.getD (m+1) 0) (p.getD m 0)=true from decide_eq_true hl,if_true,gt_iff_lt,OA,if_false]
   exact mK.imp (λr ⟨a,b,c,d⟩=>⟨a,b,by omega,d⟩) (Cp o hk f (m+1) (h.more hl) (by omega))
  ·simp only[show ya W3 (p.getD (m+1) 0) (p.getD m 0)=false from decide_eq_false hl,OH,if_false]
   have WK:kk W3 p m≠kk W3 p (m+1):=λz=>by
    have:=o.inj (i:=m) (j:=m+1) (by omega) (by omega) (hk _ _ (o.lt (by omega)) (o.lt (by omega)) z);omega
   have ZJ:kk W3 p m<kk W3 p (m+1):=by omega
   refine⟨o.pr (by omega) (by omega) (by omega),?_⟩;simp only[show ya W3 (p.getD m 0) (p.getD (m+1) 0)=true from decide_eq_true ZJ,if_true];exact⟨rfl,rfl,O2 _,by show m+1<=n;omega,h⟩
theorem qP {p q:Array Nat} {i:Nat} (h:p[i]? =q[j]?):p.getD i 0=q.getD j 0:=by
 rw[Se,Se,h]
theorem Fg {p:Array Nat} (o:sX n p) (i j:Nat):sX n (kas_rev p i j):=
 ⟨by unfold kas_rev;rw[mirror_size];exact o.sz,(Sq.mp (mirror_perm p i j _)).trans o.perm⟩
theorem Fh {p:Array Nat} (o:sX n p) {m:Nat} (hm:m<=n) (h:Io W3 p m):xE W3 (kas_rev p 0 m) m:=λi j ZL hj=>by
 have e:∀k,k<m->kk W3 (kas_rev p 0 m) k=kk W3 p (m - 1 - k):=λk hk=>by
  unfold kk
  congr 1
  refine qP ?_;have:=getElem?_mirror_all (xs:=p) (i:=0) (j:=m) (by rw[o.sz];exact hm) k;unfold kas_rev;rw[this,if_pos ⟨Pf _,hk⟩,T3]
 rw[e i (by omega),e j hj];exact h _ _ (by omega) (by omega)
theorem Cq {p:Array Nat} (o:sX n p) (hn:2<=n) (hk:∀i j,i<n->j<n->W3 i=W3 j->i=j):mK (Pr n) (ya W3) (kas_count n p) λr=>1<=r.1/\r.1<=n/\sX n r.2/\xE W3 r.2 r.1:=by
 unfold kas_count;refine mK.bind (mK.imp (λm ⟨h1,h2,h3,h4⟩=> ?_) (yb o hk (n - 1) 0 (λi j ZL hj=>by omega) (by omega)));by_cases e:m=n
 ·rw[if_pos (by simp[e])];exact⟨by show 1<=m;omega,h2,o,h3⟩
 ·rw[if_neg (by simp[e])]
  by_cases e1:m>1
  ·rw[if_pos e1]
   refine⟨o.pr (by omega) (by omega) (by omega),?_⟩;simp only[show ya W3 (p.getD 0 0) (p.getD (m - 1) 0)=true from decide_eq_true (h3 0 (m - 1) (by omega) (by omega)),if_true];exact⟨by show 1<=m;omega,h2,o,h3⟩
  ·have em:m=1:=by omega
   subst em;rw[if_neg (by omega)];have hd:Io W3 p 2:=λi j ZL hj=>by
    have hi:i=0:=by omega
    have YA:j=1:=by omega
    subst hi;subst YA;exact h4 (by omega)
   unfold kas_descPart;refine mK.bind (mK.imp (λr ⟨a,b,c,d,g⟩=> ?_) (Cp o hk (n - (1+1)) 1 hd (by omega)));rw[if_neg (by omega)];unfold kas_tail3;rw[a];have o2:=Fg o 0 r.2.1;obtain⟨q,hq⟩:∃q,r.2.1=q+1:=⟨r.2.1 - 1,by omega⟩;rw[hq]at d g o2 ⊢;refine mK.bind (mK.imp (λm2 ⟨x1,x2,x3,_⟩=>⟨by show 1<=m2;omega,x2,o2,x3⟩) (yb o2 hk (n - (q+1)) q (Fh o d g) (by omega)))
theorem rC {p:Array Nat} (o:sX n p) (hk:∀i j,i<n->j<n->W3 i=W3 j->i=j) {k:Nat} (a0s:k<n) (ha:xE W3 p k):∀(f l r:Nat),l<=r->r<=k->r - l<=f->(∀i,i<l->kk W3 p i<kk W3 p k)->(∀i,r<=i->i<k->kk W3 p k<kk W3 p i)-> mK (Pr n) (ya W3) (kas_place p k f l r) λm=>m<=k/\(∀i,i<m->kk W3 p i<kk W3 p k)/\∀i,m<=i->i<k->kk W3 p k<kk W3 p i
 |0,l,r,h1,h2,h3,h4,h5=>⟨by omega,h4,λi hi=>h5 i (by omega)⟩
 |f+1,l,r,h1,h2,h3,h4,h5=>by
  unfold kas_place;by_cases e:l>=r
  ·rw[if_pos e];exact⟨by omega,h4,λi hi=>h5 i (by omega)⟩
  ·rw[if_neg e]
   refine⟨o.pr a0s (by omega) (by omega),?_⟩;have a0i:(l+r) / 2<r:=by omega
   have a3h:l<=(l+r) / 2:=by omega
   by_cases hl:kk W3 p k<kk W3 p ((l+r) / 2)
   ·simp only[show ya W3 (p.getD k 0) (p.getD ((l+r) / 2) 0)=true from decide_eq_true hl,if_true]
    refine rC o hk a0s ha f l ((l+r) / 2) a3h (by omega) (by omega) h4 λi hi a5j=> ?_;by_cases z:i=(l+r) / 2
    ·subst z;exact hl
    ·exact T2 hl (ha _ _ (by omega) a5j)
   ·simp only[show ya W3 (p.getD k 0) (p.getD ((l+r) / 2) 0)=false from decide_eq_false hl,OH,if_false]
    have WK:kk W3 p ((l+r) / 2)≠kk W3 p k:=λz=>by
     have:=o.inj (i:=(l+r) / 2) (j:=k) (by omega) a0s (hk _ _ (o.lt (by omega)) (o.lt a0s) z);omega
    have ZJ:kk W3 p ((l+r) / 2)<kk W3 p k:=by omega
    refine rC o hk a0s ha f ((l+r) / 2+1) r (by omega) h2 (by omega) (λi hi=> ?_) h5;by_cases z:i=(l+r) / 2
    ·subst z;exact ZJ
    ·exact T2 (ha _ _ (show i<(l+r) / 2 by omega) (by omega)) ZJ
theorem Fi {p:Array Nat} (o:sX n p) {k m:Nat} (a0s:k<n) (hm:m<=k) (ha:xE W3 p k) (h1:∀i,i<m->kk W3 p i<kk W3 p k) (h2:∀i,m<=i->i<k->kk W3 p k<kk W3 p i):sX n (bubble p k (k - m))/\xE W3 (bubble p k (k - m)) (k+1):=by
 refine⟨⟨by rw[bubble_size];exact o.sz,(Sq.mp (bubble_perm p k _)).trans o.perm⟩,λi j ZL hj=> ?_⟩;have e:∀q,kk W3 (bubble p k (k - m)) q=if q=m then kk W3 p k else if m<q/\q<=k then kk W3 p (q - 1)else kk W3 p q:=λq=>by
  have:=getElem?_bubble (xs:=p) (src:=k) (by rw[o.sz];exact a0s) (k - m) (by omega) q;rw[show k - (k - m)=m by omega]at this;unfold kk;split
  ·rename_i z;rw[if_pos z]at this;congr 1;exact qP this
  ·rename_i z
   rw[if_neg z]at this;split
   ·rename_i z2;rw[if_pos z2]at this;congr 1;exact qP this
   ·rename_i z2;rw[if_neg z2]at this;congr 1;exact qP this
 rw[e i,e j];by_cases i1:i=m
 ·rw[if_pos i1,if_neg (by omega),if_pos (by omega)]
  exact h2 _ (by omega) (by omega)
 ·rw[if_neg i1]
  by_cases i2:m<i/\i<=k
  ·rw[if_pos i2,if_neg (by omega),if_pos (by omega)]
   exact ha _ _ (by omega) (by omega)
  ·rw[if_neg i2]
   by_cases j1:j=m
   ·rw[if_pos j1];exact h1 i (by omega)
   ·rw[if_neg j1]
    by_cases j2:m<j/\j<=k
    ·rw[if_pos j2]
     by_cases z:i=j - 1
     ·omega
     ·exact ha _ _ (by omega) (by omega)
    ·rw[if_neg j2];exact ha _ _ ZL (by omega)
theorem Cr (hk:∀i j,i<n->j<n->W3 i=W3 j->i=j):∀(f:Nat) (p:Array Nat) (k:Nat),sX n p->xE W3 p k->k+f=n->mK (Pr n) (ya W3) (kas_bin f p k) λq=>sX n q/\xE W3 q n
 |0,p,k,o,h,e=>⟨o,by rw[<-e];exact h⟩
 |f+1,p,k,o,h,e=>by
  unfold kas_bin;refine mK.bind (mK.imp (λm ⟨h1,h2,h3⟩=> ?_) (rC o hk (show k<n by omega) h k 0 k (Pf _) (O2 _) (by omega) (λi hi=>by omega) λi h1 h2=>by omega));obtain⟨o2,a2⟩:=Fi o (show k<n by omega) h1 h h2 h3;exact Cr hk f _ (k+1) o2 a2 (by omega)
theorem Fj (hn:2<=n) (hk:∀i j,i<n->j<n->W3 i=W3 j->i=j):mK (Pr n) (ya W3) (kas_sort n) λq=>sX n q/\xE W3 q n:=by
 have o:sX n (QO (Ov n)):=⟨by simp,by simp⟩;unfold kas_sort;refine mK.bind (mK.imp (λr ⟨h1,h2,h3,h4⟩=> ?_) (Cq o hn hk));by_cases e:r.1<n
 ·rw[if_pos e,show max r.1 1=r.1 by omega]
  exact Cr hk _ _ _ h3 h4 (by omega)
 ·rw[if_neg e]
  have:r.1=n:=by omega
  rw[this]at h4;exact⟨h3,h4⟩
end
end L2
namespace L2
open PySem PySem.Spec PyProof.Rows PySem.W
section
variable {prog:NM} {w:NV} {A:Oc} {E:NF->NI->Prop} {s:NI}
def pE (h:NT) (v:NF) (k:Int):Prop:=∃b o t rest m,v= .ref b/\h.get? b=GS o/\o.cls= .type "tuple"/\o.data= .seq (Array.mk (QC k t::rest)) m
theorem Ip {v u:NF} {k l:Int} {Q:Bool->NI->Prop} (hv:pE s.heap v k) (hu:pE s.heap u l) (WK:k≠l) (h:Q (decide (k<l)) s):wpAny (NY prog w) A (keyLt' (tuples' true) v u) Q E s:=by
 obtain⟨b,o,t,rest,m,rfl,h1,h2,h3⟩:=hv;obtain⟨b',o',t',a25,m',rfl,g1,g2,g3⟩:=hu;refine kat_lt h1 h3 g1 g3 ?_;show KatLex prog w A true _ Q ((QC k t,QC l t')::rest.zip a25) 0 s;refine kat_cons (wpAny_eqBool_int ?_);have e:(k==l)=false:=beq_eq_false_iff_ne.mpr WK;rw[e];exact kat_no (oneLt_int h)
theorem ub:∀{vs:List NF} {ks:List Int},vs.length=ks.length->(∀(i:Nat) v,vs[i]? =GS v->pE s.heap v (ks.getD i 0))->∃fs:List NF,KatTups s.heap vs fs/\fs.length=vs.length/\∀f∈fs,∃k t,f=QC k t
 |[],ks,_,_=>⟨[], .nil,rfl,λf hf=>by cases hf⟩
 |v::vs,[],hl,_=>by cases hl
 |v::vs,k::ks,hl,h=>by
  obtain⟨fs,h1,h2,h3⟩:=ub (vs:=vs) (ks:=ks) (by simpa using hl) λi u hu=>by
   have:=h (i+1) u (by simpa using hu);simpa using this
  obtain⟨b,o,t,rest,m,rfl,g1,g2,g3⟩:=h 0 v rfl;refine⟨_::fs,KatTups.cons g1 g2 g3 (f:=QC ((k::ks).getD 0 0) t) rfl h1,by simp[h2],λf hf=> ?_⟩;rcases NW.mp hf with rfl|hf
  ·exact⟨_,_,rfl⟩
  ·exact h3 f hf
def rD (ks:List Int) (p:List Nat):Prop:=p.Perm (Ov ks.length)/\(p.map λi=>ks.getD i 0).Pairwise (·<·)
theorem v4 {W3:Nat->Int} {p:Array Nat} (hs:p.size=n) (h:xE W3 p n):(p.toList.map W3).Pairwise (·<·):=by
 refine R7.mpr λi j hi hj ZL=> ?_;rw[NK,PR]at hi hj;have:=h i j ZL (by omega);unfold kk at this;simpa[Uk,hi,hj]using this
theorem AD {α β:Type} {vs:List α} {ks:List β} (hl:vs.length=ks.length) (h:vs.length<2):(vs=[]/\ks=[])\/∃v k,vs=[v]/\ks=[k]:=by
 cases vs with
 |nil=>exact .inl ⟨rfl,Rr.mp hl.symm⟩
 |cons v vs=>
  cases vs with
  |nil=>
   obtain⟨k,hk⟩:=List.length_eq_one_iff.mp hl.symm;exact .inr ⟨v,k,rfl,hk⟩
  |cons=>exact absurd h (by simp only[O3];omega)
theorem rE {a:NH} {ks:List Int} {P:PySem.Fin->NI->Prop} (ho:s.heap.get? a=GS (seqObj "list" vs.toArray n)) (hl:vs.length=ks.length) (hv:∀(i:Nat) v,vs[i]? =GS v->pE s.heap v (ks.getD i 0)) (a3w:ks.Nodup) (a3x:vs.length<64) (h:∀p:List Nat,rD ks p->P (.done (.ret .none)) {s with heap:=Uh s.heap a vs (QO (p.map λi=>vs.getD i OQ))}): wpAny (NY prog w) A (Rn.«list.sort» ⟨[.ref a],[]⟩) P E s:=by
 rw[list_sort_plain];have ha:a<s.heap.objs.size:=NX ho;refine NJ (listItems_at ho rfl ?_);refine NJ (Ur ho rfl ?_ (hsz2:=Pf _) (hsz:=by rw[NR,Pe];omega));obtain⟨e1,a4x⟩:∃e1,(s.heap.update a (Pq λ_=> #[])).get? a=GS (seqObj "list" #[] e1):=⟨_,get?_update_seq ho (λ_=> #[])⟩;refine NJ (V9 a4x rfl ?_);refine NJ (wpAny_newTuple ?_ (by show vs.length<=_;rw[Pe];omega));refine NJ (QY ?_ (Pf _));refine Oq ?_;have a5k:∀b o,b≠a->s.heap.get? b=GS o->(((s.heap.update a (Pq λ_=> #[])).push (seqObj "tuple" vs.toArray 0)).push (seqObj "list" #[] 0)).get? b=GS o:=λb o hb e=>by
  refine NO _ (NO _ ?_);rw[Heap.get?_update_ne _ _ _ _ hb];exact e
 have a2I:(((s.heap.update a (Pq λ_=> #[])).push (seqObj "tuple" vs.toArray 0)).push (seqObj "list" #[] 0)).get? a=GS (seqObj "list" #[] e1):=NO _ (NO _ a4x);have a12:∀(i:Nat) v,vs[i]? =GS v->pE (((s.heap.update a (Pq λ_=> #[])).push (seqObj "tuple" vs.toArray 0)).push (seqObj "list" #[] 0)) v (ks.getD i 0):=λi v e=>by
  obtain⟨b,o,t,rest,m,rfl,g1,g2,g3⟩:=hv i v e;refine⟨b,o,t,rest,m,rfl,a5k b o (λz=> ?_) g1,g2,g3⟩;subst z;rw[ho]at g1;cases g1;exact absurd (show P_ "list"=P_ "tuple" from g2) (by decide)
 show wpAny (NY prog w) A _ P E {s with heap:=((s.heap.update a (Pq λ_=> #[])).push (seqObj "tuple" vs.toArray 0)).push (seqObj "list" #[] 0)};dsimp only;have hsz:vs.toArray.size=vs.length:=by simp
 have ZU:∀p:List Nat,p.length=vs.length->(QO (p.map λi=>vs.getD i OQ)).size<=sizeLine:=λp hp=>by
  rw[NR,NK,hp,Pe];omega
 by_cases h2:vs.toArray.size<2
 ·rw[if_pos h2,if_pos h2]
  refine NJ (NQ ?_);rw[StateT.run_pure];refine NJ (NQ ?_);dsimp only;obtain⟨p,hp,WA,a5l⟩:∃p:List Nat,rD ks p/\p.length=vs.length/\US (λx=>x.2) (arrOf (SortSt.mk' general' (vs.toArray.zip vs.toArray) #[] 7 JT))=QO (p.map λi=>vs.getD i OQ):=by
   rcases AD hl (by simpa using h2)with ⟨rfl,rfl⟩|⟨v,k,rfl,rfl⟩
   ·exact⟨[],⟨QN _,Sz⟩,rfl,by show US (λx:Keyed=>x.2) ((#[]:Array NF).zip #[])=_;simp⟩
   ·exact⟨[0],⟨QN _,List.pairwise_singleton _ _⟩,rfl,by show US (λx:Keyed=>x.2) ((#[v]:Array NF).zip #[v])=_;simp⟩
  refine NJ (V9 a2I rfl ?_);have a26:US (λx=>x.2) (arrOf (SortSt.mk' general' (vs.toArray.zip vs.toArray) #[] 7 JT))=QO (p.map λi=>vs.getD i OQ):=a5l;refine NJ (Ur a2I rfl ?_ (hsz2:=by have:=ZU p WA;rw[<-a26]at this;exact SD this));simp only[bne_self_eq_false,OH,if_false];have hh:=h p hp;rw[<-a26]at hh;exact NQ hh
 ·rw[if_neg h2,if_neg h2]
  have a13:2<=vs.length:=by rw[hsz]at h2;omega
  obtain⟨fs,t1,t2,t3⟩:=ub (s:={s with heap:=((s.heap.update a (Pq λ_=> #[])).push (seqObj "tuple" vs.toArray 0)).push (seqObj "list" #[] 0)}) hl a12;refine NJ (kat_kind (T:= .type "int") t1 (by omega) (λv hv=> ?_) (by decide) ?_)
  ·obtain⟨k,t,rfl⟩:=t3 v hv
   exact .now
  rw[show (P_ "int" != P_ "tuple")=true by decide];have a3y:(kas_sort vs.length).kasWp (kas_ask prog w A (tuples' true) vs) (λp s'=>s'={s with heap:=((s.heap.update a (Pq λ_=> #[])).push (seqObj "tuple" vs.toArray 0)).push (seqObj "list" #[] 0)}/\sX vs.length p/\xE (λi=>ks.getD i 0) p vs.length) {s with heap:=((s.heap.update a (Pq λ_=> #[])).push (seqObj "tuple" vs.toArray 0)).push (seqObj "list" #[] 0)}:=by
   have a27:∀i j,i<vs.length->j<vs.length->ks.getD i 0=ks.getD j 0->i=j:=λi j hi hj e=>by
    have hp:=R7.mp a3w;have e':ks[i]'(by omega)=ks[j]'(by omega):=by simpa[show i<ks.length by omega,show j<ks.length by omega]using e
    rcases V2 i j with z|z|z
    ·exact absurd e' (hp i j _ _ z)
    ·exact z
    ·exact absurd e'.symm (hp j i _ _ z)
   refine mK.wp (V:=Pr vs.length) (lt:=ya λi=>ks.getD i 0) (Good:=λs'=>s'={s with heap:=((s.heap.update a (Pq λ_=> #[])).push (seqObj "tuple" vs.toArray 0)).push (seqObj "list" #[] 0)}) (λi j C s' a28 hg hC=> ?_) (mK.imp (λp hp s' Wd=>⟨Wd,hp⟩) (Fj a13 a27)) rfl;subst hg;have hi:vs[i]? =GS (vs.getD i OQ):=by simp[a28.1]
   have hj:vs[j]? =GS (vs.getD j OQ):=by simp[a28.2.1]
   exact Ip (a12 i _ hi) (a12 j _ hj) (λz=>a28.2.2 (a27 i j a28.1 a28.2.1 z)) (hC _ rfl)
  refine NJ (OS (kat_run (vs:=vs) (ks:=vs) (Q:=λZs s'=>∃p:Array Nat,arrOf Zs=p.map (kas_item (vs.toArray.zip vs.toArray))/\failedOf Zs=JT/\s'={s with heap:=((s.heap.update a (Pq λ_=> #[])).push (seqObj "tuple" vs.toArray 0)).push (seqObj "list" #[] 0)}/\sX vs.length p/\xE (λi=>ks.getD i 0) p vs.length)
   rfl a13 a3x (λp' Zs s' a1 a2 a3 a4=>⟨p',a2,a3,a4⟩) a3y) ?_ λ_ _ e=>e)
  rintro⟨⟨⟩,Zs⟩ s' ⟨p,a5m,hf,rfl,a3z,a5n⟩
  dsimp only;have a3A:=kat_snds (vs:=vs) (ks:=vs) rfl a5m;have WA:p.toList.length=vs.length:=by rw[PR];exact a3z.sz
  refine NJ (V9 a2I rfl ?_);rw[a3A];refine NJ (Ur a2I rfl ?_ (hsz2:=SD (ZU _ WA)));rw[hf];simp only[bne_self_eq_false,OH,if_false];exact NQ (h p.toList ⟨by rw[<-hl];exact a3z.perm,v4 a3z.sz a5n⟩)
end
section
variable {X:Cx}
inductive jV (H:Hp):List V->List Int->Prop
 |nil:jV H [] []
 |cons {a:NH} {k:Int} {rest ys:List V} {ks:List Int}:H a=GS (.tup (.int k::rest))->jV H ys ks->jV H (.ref a::ys) (k::ks)
theorem jV.length {H:Hp}:∀{ys:List V} {ks:List Int},jV H ys ks->ys.length=ks.length
 |_,_, .nil=>rfl
 |_,_, .cons _ t=>by rw[O3,O3,t.length]
theorem wx {P:NM} {w:NV} {H:Hp} {h h':NT} (ok:kS P w H h) (kp:∀b o,h.get? b=GS o->h'.get? b=GS o):∀{ys:List V} {ks:List Int} {us:List NF},jV H ys ks->aC ys us->∀(i:Nat) v,us[i]? =GS v->pE h' v (ks.getD i 0)
 |_,_,_, .nil, .nil,i,v,e=>by simp at e
 |_,_,_, .cons (a:=a) (k:=k) (rest:=rest) ha t, .cons ru rt,i,v,e=>by
  cases i with
  |zero=>
   simp at e;subst e;obtain⟨_,its,r,o,h1,h2,n,h3,_⟩:=(show bg P w H h a (.tup (.int k::rest))from ok a _ ha);cases r with
   |cons rk rr=>
    obtain⟨t,rfl⟩:=rk;exact⟨a,o,t,_,n,ru,kp _ _ h1,h2,h3⟩
  |succ i=>exact wx ok kp t rt i v (by simpa using e)
theorem uc {ys:List V} {us:List NF} (r:aC ys us):∀p:List Nat,(∀i∈p,i<ys.length)->aC (p.map λi=>ys.getD i .non) (p.map λi=>us.getD i OQ)
 |[],_=> .nil
 |i::p,h=>by
  have hi:=h i NZ;have hy:ys[i]? =GS (ys.getD i .non):=by simp[hi]
  obtain⟨u,hu,ru⟩:=r.get hy;have e:us.getD i OQ=u:=by simp[hu]
  refine .cons ?_ (uc r p λj hj=>h j (O1 _ hj));show aY (ys.getD i .non) (us.getD i OQ);rw[e];exact ru
theorem v5:cJ X (.builtin "sorted") (λxs H Q=>∃p ys ks,xs=[.ref p]/\(H p=GS (.lst ys)\/H p=GS (.tup ys))/\jV H ys ks/\ks.Nodup/\ks.length<64/\ ∀l q,H l=JT->rD ks q->Q (.ref l) (aS H l (.lst (q.map λi=>ys.getD i .non)))):=by
 intro V_ s σ H xs us Q I rv h;obtain⟨p,ys,ks,rfl,hp,ra,nd,a3x,q⟩:=h;obtain⟨u,rfl,ru⟩:=ij rv;cases ru;have hl:=ra.length;obtain⟨its,r,T,o,n,hT,ho,hc,hd⟩:∃its:List NF,aC ys its/\∃(T:String) (o:Oi) (n:Nat),(T="list"\/T="tuple")/\s.heap.get? p=GS o/\o.cls= .type T/\o.data= .seq its.toArray n:=by
  rcases hp with hp|hp
  ·obtain⟨its,r,⟨o,n,e,c,_,d⟩,_⟩:=I.list (cP.of hp)
   exact⟨its,r,"list",o,n, .inl rfl,e,c,d⟩
  ·obtain⟨hz,its,r,o,e,c,n,d,_⟩:=(show bg X.prog X.w H s.heap p (.tup ys)from I.hok p _ hp)
   exact⟨its,r,"tuple",o,n, .inr rfl,e,c,d⟩
 have Wa:=r.length;refine R6 V8 UO UP (UQ _) ?_;unfold Rn.«sorted»;refine NJ (m:=Vt "sorted" 1 1 _) (NQ ?_);refine NJ (V3 p hT ho hc hd (λh' Zv=> ?_) (by rw[NR,Pe];omega));have eT:its.toArray.toList=its:=by simp
 rw[eT];refine NJ (QY ?_ (by rw[Pe];omega));have ZS:(h'.push (seqObj "list" its.toArray 0)).get? h'.objs.size=GS (seqObj "list" its.toArray 0):=Oe _ rfl;refine NJ (Oq (QU T_ ⟨_,ZS,rfl⟩ Tx (rE ZS (by omega) (wx I.hok (λb o e=>NO _ (Zv b o e)) ra r) nd (by omega) λz hz=>⟨_,rfl,?_⟩) (U0 _)));refine NQ ⟨_,rfl,?_⟩;obtain⟨e,he⟩:=Uq (out:=QO (z.map λi=>its.getD i OQ)) ZS;have WM:s.heap.get? h'.objs.size=JT:=by
  cases e:s.heap.get? h'.objs.size with
  |none=>rfl
  |some o=>exact absurd (NX (Zv _ _ e)) (OA _)
 have kk:∀b o,s.heap.get? b=GS o->(Uh (h'.push (seqObj "list" its.toArray 0)) h'.objs.size its (QO (z.map λi=>its.getD i OQ))).get? b=GS o:=λb o eb=>by
  have hb:=Zv b o eb;have Ww:b<h'.objs.size:=NX hb;rw[U1 (Og Ww) (by rw[Vu];exact Q6 Ww)];exact NO _ hb
 have a5o:z.length=ys.length:=by have:=hz.1.length_eq;rw[Q7]at this;omega
 refine⟨.ref h'.objs.size,_,I.laidAt (o:= .lst (z.map λi=>ys.getD i .non)) kk WM ⟨?_,z.map λi=>its.getD i OQ,e,uc r z λi hi=> ?_,by simpa[seqObj]using he⟩,rfl,q _ z (I.hok.nowhere WM) hz⟩
 ·rw[NK,a5o,Pe];omega
 ·have:=OO.mp (hz.1.mem_iff.mp hi)
  omega
end
end L2
namespace L2
section
variable {prog:NM} {w:NV} {A:Oc} {E:NF->NI->Prop} {s:NI}
theorem ud {I:NH} {fp wr:List NH} {W0:Array NF} {St:Nat->NT->Prop} (W:Walks prog w A I fp wr W0.size (λi v=>W0[i]? =GS v) St):∀(n i:Nat) (s:NI) (Q:List NF->NI->Prop),St i s.heap->i+n<=W0.size-> (∀(h':NT) (tk:Nat),St (i+n) h'->(∀b o,b∉wr->s.heap.get? b=GS o->h'.get? b=GS o)->Q ((W0.toList.drop i).take n) {s with heap:=h',toks:=tk})->wpAny (NY prog w) A (draw (.ref I) n) Q E s
 |0,i,s,Q,st,hn,k=>by
  refine NQ ?_;have:=k s.heap s.toks st λ_ _ _ e=>e;rw[List.take_zero]at this;exact this
 |n+1,i,s,Q,st,hn,k=>by
  unfold draw;refine NJ (W.item i s _ E (by omega) st λv h' tk hv Zs kp=> ?_);refine NJ (Oq (ud W n (i+1) _ _ Zs (by omega) λh2 a3B Zt a3C=>NQ ?_));have e:(W0.toList.drop i).take (n+1)=v::(W0.toList.drop (i+1)).take n:=by
   obtain⟨hl,he⟩:=Sr.mp hv;rw[Qq (by simpa using hl),List.take_succ_cons];simp[he]
  have:=k h2 a3B (by rw[show i+(n+1)=i+1+n by omega];exact Zt) λb o hb e=>a3C b o hb (kp b o hb e);rw[e]at this;exact this
theorem pF {l:NH} {W0:Array NF} {Q:List NF->NI->Prop} (hA:A.handled=JT) (hl:s.heap.IsList l W0) (k:∀(h':NT) (tk:Nat),(∀b o,b≠s.heap.objs.size->s.heap.get? b=GS o->h'.get? b=GS o)->Q W0.toList {s with heap:=h',toks:=tk}):wpAny (NY prog w) A (unpackItems (.ref l) W0.size JT) Q E s:=by
 have Ww:l<s.heap.objs.size:=by obtain⟨o,ho,_⟩:=id hl;exact NX ho
 have ty:s.TypeIs (.ref l) "list":=by obtain⟨o,ho,hc,_⟩:=id hl;exact⟨o,ho,hc⟩
 unfold unpackItems notIterableAtAll;refine NJ (NJ (wpAny_specialOf ty PySem.F.slot_list_iter.lookup ?_));refine NQ ?_;refine NJ (Oq (QJ hl ?_));have W:=Uj (prog:=prog) (w:=w) (A:=A) hA s.heap.objs.size l (Og Ww) W0;refine NJ (Oq (ud W W0.size 0 _ _ ⟨⟨_,Oe _ rfl,rfl,rfl⟩,hl.push _⟩ (by omega) λh' tk st kp=> ?_));have e:((W0.toList.drop 0).take W0.size)=W0.toList:=by rw[U3];exact List.take_of_length_le (by simp)
 rw[e];rw[if_neg (by simp)];rw[T3]at st;refine NJ (Oq (W.done _ _ E st λh2 a3B a3C=> ?_));refine NQ (k h2 a3B λb o hb eb=> ?_);have nb:b∉[s.heap.objs.size]:=λz=>hb (N_.mp z);exact a3C b o nb (kp b o nb (NO _ eb))
theorem oy {a0A:List NS} {x1:Nat} {pos:Ox} {l:NH} {W0:Array NF} {Q:Unit->NI->Prop} (hA:A.handled=JT) (hl:s.heap.IsList l W0) (hn:(OV a0A env).length=W0.size) (W_:(OV a0A env).findIdx? (·.1)=JT) (k:∀(h':NT) (tk:Nat),(∀b o,b≠s.heap.objs.size->s.heap.get? b=GS o->h'.get? b=GS o)->wpAny (NY prog w) A (assignInOrder ((OV a0A env).map (·.2)) W0.toList) Q E {s with heap:=h',toks:=tk}): wpAny (NY prog w) A (Qu (.Tuple a0A x1 pos) env (.ref l)) Q E s:=by
 rw[assign_Tuple];refine NJ (Q8 ?_);unfold unpack;rw[W_,hn];exact NJ (Oq (pF hA hl λh' tk kp=>k h' tk kp))
end
section
variable {X:Cx} {pos:Ox}
def Mv (K:ND) (n:Nat) (t:BS):TG:=λv σ H Q=>∃a xs,v= .ref a/\cP K H a xs/\xs.length=n/\t xs σ H Q
theorem Ct {k:Nat} {t:BS} (hc:X.calm=true) (h:BU X es t) (hn:(OV es X.env).length=n:=by rfl) (W_:(OV es X.env).findIdx? (·.1)=JT:=by rfl):PG X (.Tuple es k pos) (Mv X.K n t):=by
 intro V_ s σ H v u Q I r hw;obtain⟨a,xs,e1,hq,hl,hw⟩:=hw;subst e1;cases r;obtain⟨its,rv,ht,hz⟩:=I.list hq;refine oy (I.ok.hd hc) ht.isList (by simp[hn,<-hl,rv.length]) W_ λh' tk hx=> ?_;have I1:au X V_ σ H {s with heap:=h',toks:=tk}:=I.kept (t':=tk) λb o e=>hx b o (Og (NX e)) e;exact h V_ _ σ H xs _ Q I1 (by simpa using rv) hw
def Mw (K:ND):V->Option Int->Option Int->Hp->VK->Prop:=λx lo hi H Q=>∃a xs,x= .ref a/\gf K H a xs/\(HT.eh xs.length 0 lo=0/\HT.eh xs.length xs.length hi=xs.length)/\Q (.ref a) H
theorem mL {E:NF->NI->Prop} {s:NI} {t sl:NH} {W0:Array NF} {vl vu:NF} (ht:SE s.heap t W0) (hs:s.heap.IsSliceOf sl vl vu .none) (pl:RS vl lo) (pu:RS vu hi) (hw:HT.eh W0.size 0 lo=0/\HT.eh W0.size W0.size hi=W0.size) (h:Q (.ref t) s):wpAny (NY prog w) A (Rm (.ref t) (.ref sl)) Q E s:=by
 obtain⟨os,a15,a2D,ZG⟩:=id hs;have a36:s.TypeIs (.ref sl) "slice":=⟨os,a15,a2D⟩;unfold Rm
 try with_reducible refine Oq ?_
 first|refine NJ (NQ ?_)|skip
 refine NJ (V1 ht.typeIs (by decide) ?_);refine NJ (Tg (name:=Qv "__getitem__") ht.typeIs OU
  (QU OU ht.typeIs Ut ?_ (UL _ _)))
 show wpAny _ _ (Sk (.ref t)>>=_) _ _ s;refine NJ (Sl ht ?_);refine NJ (Rb a36 ?_);rw[if_pos (by decide)];refine NJ (HT.js hs pl pu ?_);show wpAny _ _ (if (((HT.eh W0.size 0 lo:Nat):Int)==0&&(1:Int)==1&&(HT.eh W0.size W0.size hi - HT.eh W0.size 0 lo)==W0.size)=true then _ else _) _ _ s;rw[if_pos (by rw[hw.1,hw.2];simp)];unfold Ss;refine NJ (NJ (Rb ht.typeIs (NQ ?_)));rw[if_pos (by decide)];refine NJ (SG ?_);exact R8 ⟨_,rfl,NQ h⟩
theorem Fk:GX X (Mw X.K):=by
 intro V_ s σ H x v vl vu lo hi sl Q I rx hs pl pu h;obtain⟨a,xs,rfl,hx,hw,q⟩:=h;cases rx;obtain⟨its,r,ht,hz⟩:=I.tuple hx;have Wa:its.toArray.size=xs.length:=by rw[NR];exact r.length.symm
 refine⟨"tuple",_,OU.lookup,ht.typeIs,?_⟩;exact mL ht hs pl pu (by rw[Wa];exact hw) ⟨.ref a,H,I,rfl,q⟩
theorem wy (l b:NH) (W0 a0j:Array NF) (n n2:Nat) (dd a1H:Option NH) (sl a1I:Array (Option NF)) (h0:W0.isEmpty=true): Meets (Rn.«tuple.__add__» {pos:=[Of l,Of b]}) λx R s=> s.heap.get? l=GS {cls:=P_ "tuple",dict:=dd,data:=VS W0 n,slots:=sl}/\ s.heap.get? b=GS {cls:=P_ "tuple",dict:=a1H,data:=VS a0j n2,slots:=a1I}/\R (Except.ok (Flow.ret (Of b))) s:=by
 intro prog w A R s ⟨g1,g2,q⟩;have t1:SE s.heap l W0:=⟨_,g1,rfl,n,rfl⟩;have t2:SE s.heap b a0j:=⟨_,g2,rfl,n2,rfl⟩;unfold Rn.«tuple.__add__»;refine NJ (NQ (a:=(Of l,[Of b])) ?_);dsimp only;refine NJ (wpAny_isInstance t2.typeIs sub_tuple_tuple ?_);rw[if_neg (by decide)];refine NJ (Sl t1 (NJ (Sl t2 ?_)));rw[if_pos h0];unfold Ss;refine NJ (NJ (Rb t2.typeIs (NQ ?_)));rw[if_pos (by decide)];exact NJ (SG (R8 q))
def H9 (K:ND):R2:=λx y H Q=>∃a b ys,x= .ref a/\y= .ref b/\gf K H a []/\gf K H b ys/\Q (.ref b) H
theorem Fn:kU X (Q1 .Add) (H9 X.K):=by
 intro V_ s σ H x y v u Q I rx ry h;obtain⟨a,b,ys,rfl,rfl,ha,hb,q⟩:=h;cases rx;cases ry;obtain⟨its,r1,p1,_⟩:=I.tuple ha;obtain⟨Xa,r2,p2,_⟩:=I.tuple hb;cases r1;obtain⟨⟨cls,dd,data,sl⟩,ho,hc,n,hd⟩:=id p1;obtain⟨⟨a35,a1H,data2,a1I⟩,a14,a1V,n2,a1W⟩:=id p2;simp only at hc hd a1V a1W;subst hc hd a1V a1W;exact UK ⟨_,ho,rfl⟩ ⟨_,a14,rfl⟩ SU Up Ry Rq (Ra _ _)
   (wy a b _ _ n n2 dd a1H sl a1I rfl) ⟨ho,a14,⟨.ref b,H,I,rfl,q⟩⟩
end
section
variable {X:Cx}
theorem lc:∀{bs:List Bool} {its:List NF},aC (bs.map V.bl) its->∀{i:Nat} {v:NF},its[i]? =GS v->∃b,bs[i]? =GS b/\v= .bool b:=by
 intro bs its r i v e;have hl:=r.length;rw[NK]at hl;have hi:i<bs.length:=by rw[hl];exact(O6.mp e).1
 obtain⟨u,h1,h2⟩:=r.get (i:=i) (x:=V.bl bs[i]) (by simp[hi]);rw[e]at h1;cases h1;exact⟨bs[i],by simp[hi],h2⟩
theorem v6:∀{ns:List Int} {its:List NF},aC (ns.map V.int) its->∀{i:Nat} {v:NF},its[i]? =GS v->∃t,v= .int (ns.getD i 0) t:=by
 intro ns its r i v e;have hl:=r.length;rw[NK]at hl;have hi:i<ns.length:=by rw[hl];exact(O6.mp e).1
 obtain⟨u,h1,h2⟩:=r.get (i:=i) (x:=V.int ns[i]) (by simp[hi]);rw[e]at h1;cases h1;obtain⟨t,ht⟩:=h2;exact⟨t,by rw[ht];simp[hi]⟩
theorem yc (bs:List Bool):((Ov bs.length).any λi=>bs.getD i false)=bs.any id:=by
 rw[QE,OC,OC];constructor
 ·rintro⟨i,h1,h2⟩
  have hi:=OO.mp h1;exact⟨bs[i],Pl hi,by simpa[hi]using h2⟩
 ·rintro⟨b,h1,h2⟩
  obtain⟨i,hi,e⟩:=PU h1;exact⟨i,OO.mpr hi,by simp[hi,e];exact h2⟩
theorem ue {s:NI} {it:Oi} (hk:∀b o,b∉[s.heap.objs.size]->(s.heap.push it).get? b=GS o->h'.get? b=GS o):∀b o,s.heap.get? b=GS o->h'.get? b=GS o:=λb o e=>
 hk b o (λz=>by rw[N_.mp z]at e;exact absurd (NX e) (OA _)) (NO _ e)
theorem AE (hc:X.calm=true):cJ X (.builtin "any") (λxs H Q=>∃(p:NH) (bs:List Bool),xs=[.ref p]/\cP X.K H p (bs.map V.bl)/\Q (.bl (bs.any id)) H):=by
 intro V_ s σ H xs us Q I rv h;obtain⟨p,bs,rfl,hx,q⟩:=h;obtain⟨u,rfl,ru⟩:=ij rv;cases ru;obtain⟨its,r,ht,hz⟩:=I.list hx;have hl:=ht.isList;have Ww:p<s.heap.objs.size:=by obtain⟨_,e,_⟩:=hl;exact NX e
 refine call_any_walk (QJ hl ?_);refine⟨s.heap.objs.size,[s.heap.objs.size,p],[s.heap.objs.size],its.toArray.size,_,_,λi=>bs.getD i false,rfl,Uj (A:=X.A.in1) (I.ok.hd hc) _ p (Og Ww) its.toArray,⟨⟨_,Oe _ rfl,rfl,rfl⟩,hl.push _⟩,λi v s' Q' E' hP hQ=> ?_,λh' tk hk=> ?_⟩
 ·obtain⟨b,e,rfl⟩:=lc r (i:=i) (v:=v) (by simpa using hP)
  have:bs.getD i false=b:=by simp[OD,e]
  dsimp only at hQ;rw[this]at hQ;exact PF hQ
 ·have e:((Ov its.toArray.size).any λi=>bs.getD i false)=bs.any id:=by
   have hl:=r.length;rw[NK]at hl;rw[NR,<-hl];exact yc bs
  rw[e];exact⟨.bl _,H,I.kept (ue hk),rfl,q⟩
def Cu (k:Bool):NF->Bool
 | .bool b=>b==k
 |_=>false
theorem zt {k:Bool}:∀{bs:List Bool} {its:List NF},aC (bs.map V.bl) its->its.countP (Cu k)=bs.count k
 |[],its,r=>by cases r;rfl
 |b::bs,its,r=>by
  cases r with
  |cons h t=>cases h;rw[Ve,Vw,zt t];rfl
def Fo (K:ND):V->List V->Hp->VK->Prop:=λx vs H Q=>∃(l:NH) (k:Bool) (bs:List Bool),x= .ref l/\vs=[.bl k]/\cP K H l (bs.map V.bl)/\Q (.int (bs.count k)) H
theorem AF:Ih X "list.count" (Fo X.K):=by
 intro V_ s σ H x vs v us Q I rx rv h;obtain⟨l,k,bs,rfl,rfl,hx,q⟩:=h;cases rx;obtain⟨u,rfl,ru⟩:=rv.one;cases ru;obtain⟨its,r,ht,hz⟩:=I.list hx;obtain⟨⟨cls,dd,data,sl⟩,ho,hc,n,hd⟩:=ht.isList;simp only at hc hd;subst hc hd;refine call_meets QB ⟨_,ho,rfl⟩ T4 (SH _ _) (T5 l its.toArray n dd sl (.bool k) (Cu k)) ⟨ho,λy hy=> ?_,?_⟩
 ·obtain⟨i,hi,e⟩:=PU (show y∈its by simpa using hy)
  obtain⟨b,_,rfl⟩:=lc r (i:=i) (v:=y) (by rw[O5 hi,e]);exact Rc b k
 ·rw[show its.toArray.toList=its from rfl,zt r]
  exact⟨.int _,H,I.tok _,⟨_,rfl⟩,q⟩
theorem KG {k:Bool} {bs:List Bool} (r:aC (bs.map V.bl) its) {i:Nat} (hi:i<its.length):∃h:i<bs.length,its[i]= .bool bs[i]:=by
 obtain⟨b,h1,h2⟩:=lc r (i:=i) (v:=its[i]) (O5 hi);obtain⟨l,e⟩:=O6.mp h1;exact⟨l,by rw[h2,e]⟩
theorem Cv {k:Bool}:∀{bs:List Bool} {m:Nat} (hm:m<bs.length),m<bs.idxOf k->(bs[m]==k)=false
 |b::bs,0,hm,h=>by
  rw[Vx]at h;cases e:b==k with
  |true=>rw[e]at h;simp at h
  |false=>exact e
 |b::bs,m+1,hm,h=>by
  rw[Vx]at h;cases e:b==k with
  |true=>rw[e]at h;simp at h
  |false=>
   rw[e]at h;exact Cv (bs:=bs) (m:=m) (by simpa using hm) (by simp at h;omega)
def Fp (K:ND):V->List V->Hp->VK->Prop:=λx vs H Q=>∃(l:NH) (k:Bool) (bs:List Bool),x= .ref l/\vs=[.bl k]/\cP K H l (bs.map V.bl)/\k∈bs/\bs.length<1000/\Q (.int (bs.idxOf k)) H
theorem AG:Ih X "list.index" (Fp X.K):=by
 intro V_ s σ H x vs v us Q I rx rv h;obtain⟨l,k,bs,rfl,rfl,hx,hk,hl,q⟩:=h;cases rx;obtain⟨u,rfl,ru⟩:=rv.one;cases ru;obtain⟨its,r,ht,hz⟩:=I.list hx;have Wa:=r.length;rw[NK]at Wa;obtain⟨⟨cls,dd,data,sl⟩,ho,hc,n,hd⟩:=ht.isList;simp only at hc hd;subst hc hd;have hj:=List.idxOf_lt_length_of_mem hk;refine call_meets Ti ⟨_,ho,rfl⟩ PySem.F.entry_list_index (PySem.F.args_list_index_2 _ _) (PySem.SeqAt.list_indexAt l its.toArray n dd sl (.bool k) (Cu k) (bs.idxOf k) (by rw[NR,<-Wa];exact hj) (by omega) ?_ ?_) ⟨ho,λy hy=> ?_,?_⟩
 ·obtain⟨h1,e⟩:=KG (k:=k) r (i:=bs.idxOf k) (by rw[<-Wa];exact hj)
  show Cu k (its[bs.idxOf k]'_)=true;rw[e];show (bs[bs.idxOf k]==k)=true;simp
 ·intro m hm Ww
  obtain⟨h1,e⟩:=KG (k:=k) r (i:=m) (by simpa using hm);show Cu k (its[m]'_)=false;rw[e];exact Cv h1 Ww
 ·obtain⟨i,hi,e⟩:=PU (show y∈its by simpa using hy)
  obtain⟨b,_,rfl⟩:=lc r (i:=i) (v:=y) (by rw[O5 hi,e]);exact Rc b k
 ·exact⟨.int _,H,I.tok _,⟨_,rfl⟩,q⟩
end
theorem t6:isSubtype (.type "tuple") (.type "set")=pure false:=by rw[isSubtype_type];kernel_rfl
theorem rF:isSubtype (.type "tuple") (.type "frozenset")=pure false:=by rw[isSubtype_type];kernel_rfl
abbrev setNew (ZM:Bool):Oi:={cls:= .type "set",dict:=JT,data:= .set #[] 0 (.fresh 0 0 ZM)}
abbrev Cw (prog:NM) (w:NV) (h':NT) (a:NH) (ns:List Int) (n:Nat):Prop:=h'.SetOf (intKind prog w) a (λk=>(Vf (λi=>ns.getD i 0) n).any (·==k)) (Vf (λi=>ns.getD i 0) n).length
set_option maxHeartbeats 8000000 in
theorem AH {E:NF->NI->Prop} {s:NI} {u:NH} {xs:Array NF} {ns:List Int} (hh:A.handled=JT) (ht:s.heap.IsTuple u xs) (hi:∀(i:Nat) (v:NF),xs[i]? =GS v->∃t,v= .int (ns.getD i 0) t) (hb:xs.size+1<UT) (Wz:∀(h':NT) (tk:Nat),Cw prog w h' s.heap.objs.size ns xs.size->(∀b o,b<s.heap.objs.size->s.heap.get? b=GS o->h'.get? b=GS o)->Q (.ref s.heap.objs.size) {s with heap:=h',toks:=tk}):wpAny (NY prog w) A (call (.type "set") [.ref u]) Q E s:=by
 obtain⟨c,tl,a5p⟩:=F.called_set.mro;have m1:=F.called_set.made;have m2:=F.called_set.sub;have m3:=F.called_set.notType;have m4:=F.called_set.canCreate;have m5:=F.typeCall_set_1 (.ref u);refine SF (codeAny_of_tree ?_);show wpAny _ _ (callAny (.type "set") _) _ _ _;refine NQ ⟨UU _ (by decide+kernel),RV F.entry_type_call ?_⟩;rw[Around.under_plain (weight_type_call_type "set" [.ref u] []) rfl]
 repeat (any_goals (first|assumption|wp_step))
 refine QM (code_set_new_1 (.ref u) (E:=E) (Q₁:=λo s₁=>∃ZM:Bool,o= .ref s.heap.objs.size/\s₁={s with heap:=s.heap.push (setNew ZM)}) λZM=>⟨ZM,rfl,rfl⟩) λr s₁ hr=> ?_;cases r with
 |error e=>exact hr
 |ok fl=>
  cases fl with
  |ret o=>
   obtain⟨ZM,rfl,rfl⟩:=hr;have gS:(s.heap.push (setNew ZM)).get? s.heap.objs.size=GS (setNew ZM):=Oe _ rfl;have tS:Shared.TypeIs {s with heap:=s.heap.push (setNew ZM)} (.ref s.heap.objs.size) "set":=⟨_,gS,rfl⟩;have n1:=F.called_set.init.lookup;have n2:=F.called_set.init.bind (.ref s.heap.objs.size)
   repeat (any_goals (first|assumption|wp_step))
   refine QM (RW (R:=wants (λr s₂=>r= .none/\∃h' tk,s₂={s with heap:=h',toks:=tk}/\Cw prog w h' s.heap.objs.size ns xs.size/\∀b o,b<s.heap.objs.size->s.heap.get? b=GS o->h'.get? b=GS o) E) F.called_set.init.plain F.entry_set_init (check_set_init_1 tS ?_)) λr₂ s₂ a3D=> ?_
   ·have a7j:=ht
    obtain⟨ot,a3E,a4y,nt,a4z⟩:=ht;obtain⟨a5q,a29,a4A,a1h⟩:=ot;simp only at a4y a4z;subst a4y;subst a4z;have a3F:(s.heap.push (setNew ZM)).get? u=GS {cls:= .type "tuple",dict:=a29,data:= .seq xs nt,slots:=a1h}:=NO _ a3E;have k1:=t6;have k2:=rF;have k3:(P_ "tuple"==P_ "dict")=false:=by decide
    have t1:(s.heap.push (setNew ZM)).IsTuple u xs:=⟨_,a3F,rfl,nt,rfl⟩;unfold Rn.«set.__init__» noKeywords VG;generalize a5r:UE=PI
    wp_walk
    subst a5r;refine S7 t1 (NJ (wpAny_runValue ?_));have hu:u<s.heap.objs.size:=NX a3E;have h3:A.in1.in1.in1.handled=JT:=by simp[hh]
    have z1:u≠(s.heap.push (setNew ZM)).objs.size:=by rw[Qr];exact Og (Q6 hu)
    have z2:s.heap.objs.size∉[(s.heap.push (setNew ZM)).objs.size,u]:=by
     rw[Qr];intro z;rcases NW.mp z with z|z
     ·exact Og (SS _) z
     ·exact UD hu (N_.mp z)
    refine codeAny_set_update_loopS (VZ h3 _ u z1 xs).toS s.heap.objs.size z2 (λi=>ns.getD i 0) (λi v hv=>hi i v hv) hb (xs.size - 0) 0 _ (by omega) (Pf _) ⟨⟨_,Oe _ rfl,rfl,rfl⟩,t1.push _⟩ ?a0 ?a1
    case a0=>
     exact SetOf_congr ((setObjOf_fresh (knd:=intKind prog w) ZM).setOf (NO _ gS) (by unfold UT;omega)) (λ_=>rfl) rfl
    case a1=>
     intro s' hm a1f;obtain⟨h',g',d',a1e,a34⟩:=s';obtain rfl:g'=s.gens:=hm.gens;obtain rfl:d'=s.drawn:=hm.drawn;obtain rfl:a34=s.os:=hm.os;show wpAny _ _ _ _ _ _;refine NQ ?_;show wpAny _ _ (ret OQ) _ _ _;refine NQ ⟨rfl,h',a1e,rfl,a1f,λb o hb e=>hm.heap b o ?_ (NO _ (NO _ e))⟩;rw[Qr];intro z;rcases NW.mp z with z|z
     ·exact Og hb z
     ·exact Og (Q6 hb) (N_.mp z)
   ·cases r₂ with
    |error e=>exact a3D
    |ok a5s=>
     cases a5s with
     |ret r=>
      obtain⟨rfl,h',tk,rfl,a1f,Zv⟩:=a3D
      repeat (any_goals (first|assumption|wp_step))
      exact Wz _ _ a1f Zv
     |_=>exact a3D.elim
  |_=>exact hr.elim
def fz (ns:List Int):Nat:=(Vf (λi=>ns.getD i 0) ns.length).length
section
variable {X:Cx} {e:NS} {te:TE} {p1 p2 pos Xh:Ox}
def Fq (K:ND) (te:TE):TE:=λσ H Q=>te σ H λx H1=>∃(a:NH) (ns:List Int),[x]=[V.ref a]/\(cP K H1 a (ns.map V.int)\/gf K H1 a (ns.map V.int))/\ns.length<4000/\Q (.int (fz ns)) H1
theorem Cy:Ot "set"=GS (.type "set"):=by decide+kernel
theorem AI:Ot "len"=GS (.builtin "len"):=by decide+kernel
theorem AJ (hc:X.calm=true) (he:PE X e te) (a3G:X.mg "len"=JT) (a2a:X.mg "set"=JT) (a3H:Gl X "len") (a3I:Gl X "set") (a2J:NL [e] X.env=(false,O8 e X.env)::NL [] X.env) (a1i:(Om Xh (NL [] X.env)).any (·.1)=false) (a09:NL [.Call (.Name "set" p2) [e] [] Xh] X.env=(false,O8 (.Call (.Name "set" p2) [e] [] Xh) X.env)::NL [] X.env) (a1j:(Om pos (NL [] X.env)).any (·.1)=false): PE X (.Call (.Name "len" p1) [.Call (.Name "set" p2) [e] [] Xh] [] pos) (Fq X.K te):=by
 intro V_ s σ H Q I h;refine Qf (nk I a3H a3G AI ?_ (by decide) (by decide));refine RQ ?_ a09 a1j;rw[a09];show wpAny _ _ (VB ((false,O8 (.Call (.Name "set" p2) [e] [] Xh) X.env)::Om pos (NL [] X.env))) _ _ s;refine UJ ?_;refine Qf (nk I a3I a2a Cy ?_ (by decide) (by decide));refine Qe ?_ a2J a1i;refine bF (cU he gX a2J Xh V_ s σ H (λvs H1=>∃(a:NH) (ns:List Int),vs=[V.ref a]/\(cP X.K H1 a (ns.map V.int)\/gf X.K H1 a (ns.map V.int))/\ns.length<4000/\Q (.int (fz ns)) H1) I h) λus s1 z_=> ?_;obtain⟨vs,H1,I1,r1,a,ns,rfl,hx,hl,q⟩:=z_;obtain⟨u,rfl,ru⟩:=ij r1;cases ru;have Wz:∀(n:Nat),n=ns.length->∀(h':NT) (tk:Nat),Cw X.prog X.w h' s1.heap.objs.size ns n->(∀b o,b<s1.heap.objs.size->s1.heap.get? b=GS o->h'.get? b=GS o)->
   wpAny (NY X.prog X.w) X.A (VB (Om pos (NL [] X.env))) (λus s2=>wpAny (NY X.prog X.w) X.A (call (.builtin "len") (.ref s1.heap.objs.size::us)) (EP X V_ σ Q) X.xe s2) X.xe {s1 with heap:=h',toks:=tk}:=by
  rintro n rfl h' tk hS hk
  refine V0 ?_;obtain⟨o,es,ep,t,ho,a5t,hd,Yb,YH,_,hf,a2b⟩:=hS;have a5u:=firstMet_length_le (λi=>ns.getD i 0) ns.length;refine call_len_set ho a5t hd hf (by rw[a2b];omega) ?_;rw[a2b];exact⟨.int _,H1,(I1.kept λb o e=>hk b o (NX e) e).tok _,⟨_,rfl⟩,q⟩
 rcases hx with hx|hx
 ·obtain⟨its,r,ht,hz⟩:=I1.list hx
  have Wa:=r.length;rw[NK]at Wa;exact call_set_list (I1.ok.hd hc) ht.isList (jR r) (by rw[NR,<-Wa];unfold UT;omega) λh' tk a b=>Wz _ (by rw[NR,Wa]) h' tk a b
 ·obtain⟨its,r,ht,hz⟩:=I1.tuple hx
  have Wa:=r.length;rw[NK]at Wa;exact AH (I1.ok.hd hc) ht (λi v hv=>v6 r (by simpa using hv)) (by rw[NR,<-Wa];unfold UT;omega) λh' tk a b=>Wz _ (by rw[NR,Wa]) h' tk a b
end
theorem bg.there {a:NH} {o:HO} (x:bg P w H h a o):∃ob,h.get? a=GS ob:=by
 cases o with
 |lst xs=>obtain⟨_,_,_,_,e⟩:=x;exact⟨_,e⟩
 |tup xs=>obtain⟨_,_,_,o,e,_⟩:=x;exact⟨_,e⟩
 |dK kvs=>obtain⟨_,_,_,_,o,_,_,e,_⟩:=x;exact⟨_,e⟩
 |dT kvs=>obtain⟨_,_,_,_,o,_,_,e,_⟩:=x;exact⟨_,e⟩
 |set S n=>obtain⟨o,_,_,_,e,_⟩:=x;exact⟨_,e⟩
 |ins C dx fs=>obtain⟨_,_,_,e,_⟩:=x;exact⟨_,e⟩
 |own y=>obtain⟨_,e⟩:=x;exact⟨_,e⟩
 |xd fs=>obtain⟨_,⟨_,_,_,e,_⟩,_⟩:=x;exact⟨_,e⟩
 |rng lo hi=>obtain⟨_,_,_,e⟩:=x;exact⟨_,e⟩
 |frz ob u=>obtain⟨e,_⟩:=x;exact⟨_,e⟩
 |tbl ps=>exact⟨_,(show h.get? a=GS _ from x)⟩
 |met f y=>exact⟨_,(show h.get? a=GS _ from x)⟩
 |ext φ=>obtain⟨_,⟨_,e⟩,_⟩:=x;exact⟨_,e⟩
theorem kS.none_of {a:NH} (x:kS P w H h) (e:h.get? a=JT):H a=JT:=by
 cases q:H a with
 |none=>rfl
 |some o=>obtain⟨ob,z⟩:=(x a o q).there;rw[e]at z;cases z
structure xF (X:Cx) (V_:List (NH×Oi)) (H:Hp) (b:NH):Prop where
 s0:X.s₀.heap.get? b=JT
 no:H b=JT
 pin:∀p∈X.pn++V_,p.1≠b
structure Iq (X:Cx) (V_:List (NH×Oi)) (H:Hp) (h:NT) (a T:NH) (fl:NF):Prop where
 new:xF X V_ H T
 ne:T≠a
 at_:∃oT ts,h.get? T=GS oT/\oT.data= .fields ts/\ts[3]? =GS fl
structure Fl (X:Cx) (V_:List (NH×Oi)) (H:Hp) (h:NT) (a:NH) (cls:NF):Prop where
 new:xF X V_ H a
 at_:∃oe vs,h.get? a=GS oe/\oe.cls=cls/\oe.data= .fields vs/\(vs[1]? =GS .none\/∃T fl,vs[1]? =GS (.ref T)/\Iq X V_ H h a T fl/\(fl= .none\/fl=rawInt X.env.locals))
structure Ey (X:Cx) (V_:List (NH×Oi)) (H:Hp) (h:NT) (a:NH) (cls fl:NF):Prop where
 new:xF X V_ H a
 at_:∃oe vs,h.get? a=GS oe/\oe.cls=cls/\oe.data= .fields vs/\∃T,vs[1]? =GS (.ref T)/\Iq X V_ H h a T fl
abbrev Ir (X:Cx) (V_:List (NH×Oi)) (H:Hp) (h:NT) (a:NH) (cls:NF):Prop:=Ey X V_ H h a cls .none
theorem Ey.flo {a:NH} {cls fl:NF} (f:Ey X V_ H h a cls fl) (hf:fl= .none\/fl=rawInt X.env.locals):Fl X V_ H h a cls:=
 let ⟨oe,vs,h1,h2,h3,T,h4,h5⟩:=f.at_;⟨f.new,oe,vs,h1,h2,h3, .inr ⟨T,fl,h4,h5,hf⟩⟩
theorem Ey.fl {a:NH} {cls:NF} (f:Ey X V_ H h a cls .none):Fl X V_ H h a cls:=f.flo (.inl rfl)
section
variable {X:Cx} {V_:List (NH×Oi)} {σ:St} {H H':Hp} {s s':NI} {a:NH} {cls:NF}
structure fA (X:Cx):Prop where
 st:X.stack=X.env::X.outer
 fr:X.env.frame=GS X.env.locals
 ex:X.ex=[]
theorem xF.of (I:au X V_ σ H s) (p:fA X) {b:NH} (h:s.heap.get? b=JT) (hH:H' b=JT):xF X V_ H' b:=by
 refine⟨?_,hH,λq hq z=> ?_⟩
 ·cases e:X.s₀.heap.get? b with
  |none=>rfl
  |some o=>
   obtain⟨o',e'⟩:=I.base.there b o e (by rw[p.ex];simp);rw[h]at e';cases e'
 ·have:=(I.pin q hq).1
  rw[z,h]at this;cases this
def zu (h B:NT) (a:NH) (cls fl:NF):Prop:=∃oe vs T oT ts,h.get? a=GS oe/\oe.cls=cls/\oe.data= .fields vs/\vs[1]? =GS (.ref T)/\B.get? T=JT/\T≠a/\h.get? T=GS oT/\oT.data= .fields ts/\ts[3]? =GS fl
theorem _root_.PySem.Heap.TracedAtW.tl {B:NT} {a0 fl:NF} (t:h.TracedAtW B a cls a0 fl):zu h B a cls fl:=
 let ⟨oe,vs,T,oT,ts,g1,g2,g3⟩:=t;⟨oe,vs,T,oT,ts,g1,g2.1,g3⟩
theorem ml (I:au X V_ σ H s) (p:fA X) (fl:Fl X V_ H s.heap a cls):∃(B:NT) (oe:Oi) (vs:Array NF),s.heap.get? a=GS oe/\oe.cls=cls/\oe.data= .fields vs/\s.heap.FunFrames B (X.env::X.outer)/\B.StaysIn s.heap/\B.get? a=JT/\ (vs[1]? =GS .none\/∃T oT ts fl,vs[1]? =GS (.ref T)/\B.get? T=JT/\T≠a/\s.heap.get? T=GS oT/\oT.data= .fields ts/\ts[3]? =GS fl/\(fl= .none\/fl=rawInt X.env.locals))/\ ∀h' fl,B.StaysIn h'->zu h' B a cls fl->s.heap.UpToSlots h'->au X V_ σ H {s with heap:=h'}/\Ey X V_ H h' a cls fl:=by
 obtain⟨oe,vs,ge,gc,gd,gt⟩:=fl.at_;obtain⟨rest,a0O,a2c⟩:∃rest:List NH,(∀b∈rest,xF X V_ H b/\∃oT ts,s.heap.get? b=GS oT/\oT.data= .fields ts)/\(vs[1]? =GS .none\/∃T fl,vs[1]? =GS (.ref T)/\Iq X V_ H s.heap a T fl/\(fl= .none\/fl=rawInt X.env.locals)/\T∈rest):=by
  rcases gt with g|⟨T,fl,g,t,a3J⟩
  ·exact⟨[],(λb hb=>by cases hb), .inl g⟩
  ·obtain⟨oT,ts,e1,e2,_⟩:=t.at_
   exact⟨[T],λb hb=>by rw[N_.mp hb];exact⟨t.new,oT,ts,e1,e2⟩, .inr ⟨T,fl,g,t,a3J,N_.mpr rfl⟩⟩
 have a3K:∀b,b∈X.fs->b∈qL X.stack:=λb hb=>by
  rw[p.st];unfold qL;rw[Qy,p.fr];exact O1 _ hb
 have a3L:X.env.locals∈qL X.stack:=by
  rw[p.st];unfold qL;rw[Qy,p.fr];exact NZ
 have a3M:∀b∈a::rest,xF X V_ H b/\∃oT ts,s.heap.get? b=GS oT/\oT.data= .fields ts:=λb hb=>by
  rcases NW.mp hb with rfl|hb
  ·exact⟨fl.new,oe,vs,ge,gd⟩
  ·exact a0O b hb
 have a2K:∀b∈qL X.stack,∃o,s.heap.get? b=GS o/\∀vs:Array NF,o.data≠Data.fields vs:=λb hb=>(I.stack.mem hb).2;have apart:∀b∈a::rest,b∉qL X.stack:=λb hb z=>by
  obtain⟨_,o,ts,e1,e2⟩:=a3M b hb;obtain⟨o',e3,e4⟩:=a2K b z;rw[e1]at e3;cases e3;exact e4 ts e2
 let a4B:List NH:=(a::rest)++qL X.stack;let B:NT:=Vj s.heap a4B;have ff:s.heap.FunFrames B X.stack:=PySem.W.funFrames_hide I.stack λenv he b hb=>O7 _ (S8.mpr ⟨env,he,hb⟩);have hB:B.StaysIn s.heap:=λb o e=>UC _ e;have a0t:B.get? a=JT:=RK _ (O_ _ NZ);have a5v:s.heap.FunFrames B (X.env::X.outer):=by rw[<-p.st];exact ff
 refine⟨B,oe,vs,ge,gc,gd,a5v,hB,a0t,?_,λh' a7k st ⟨a2L,a1J,T',a1k,a0P,g1,g2,g3,g4,g5,g6,g7,g8,g9⟩ up=> ?_⟩
 ·rcases a2c with g|⟨T,fl,g,t,a3J,hT⟩
  ·exact .inl g
  ·obtain⟨oT,ts,e1,e2,e3⟩:=t.at_
   exact .inr ⟨T,oT,ts,fl,g,RK _ (O_ _ (O1 _ hT)),t.ne,e1,e2,e3,a3J⟩
 ·have a2M:∀b o,s.heap.get? b=GS o->b∉a::rest->b∉qL X.stack->h'.get? b=GS o:=λb o e n1 n2=>
   st b o (S0 _ e λz=>(OF.mp z).elim n1 n2)
  have newT:xF X V_ H T':=by
   by_cases hr:T'∈rest
   ·exact(a0O T' hr).1
   ·have hn:s.heap.get? T'=JT:=by
     cases e:s.heap.get? T' with
     |none=>rfl
     |some o=>
      by_cases hf:T'∈qL X.stack
      ·obtain⟨o',e3,e4⟩:=a2K T' hf
       obtain⟨sl,e5⟩:=up T' o' e3 e4;rw[g7]at e5;cases e5;exact absurd g8 (e4 a0P)
      ·have:=S0 a4B (b:=T') e λz=>(OF.mp z).elim (λq=>(NW.mp q).elim g6 hr) hf
       rw[g5]at this;cases this
    exact xF.of I p hn (I.hok.none_of hn)
  refine⟨I.step (g':=s.gens) (d':=s.drawn) (t':=s.toks) (ch:=a::rest) (λb hb=> ?_) (λb o n1 n2 n3 e _=> ?_) (λb o _ hb n3 e _=> ?_) (λ_ _ _ _ n=>n) (λb o n e=> ?_) (λ_ _ e=>e) (λ_ _ _ e=>e) (λb ps e=>⟨#[],by rw[e];simp⟩) (λm hm=> ?_) (λb u e=> ?_) I.bare,
   ⟨fl.new,a2L,a1J,g1,g2,g3,T',g4,newT,g6,a1k,a0P,g7,g8,g9⟩⟩
  ·obtain⟨n,o,ts,e1,e2⟩:=a3M b hb
   refine⟨.inr n.s0,λz=>apart b hb (by rw[z];exact a3L),λx c hc z=> ?_,n.pin⟩;obtain⟨v,o',e3,e4⟩:=I.cell x c hc;rw[z,e1]at e3;cases e3;rw[e2]at e4;cases e4
  ·exact a2M b o e n3 λz=>(NW.mp (I.stkSub b z)).elim n1 n2
  ·obtain⟨o',e3,e4⟩:=a2K b (a3K b hb)
   rw[e]at e3;cases e3;exact up b o e e4
  ·by_cases hf:b∈qL X.stack
   ·obtain⟨o',e3,e4⟩:=a2K b hf
    rw[e]at e3;cases e3;obtain⟨sl,e5⟩:=up b o e e4;exact⟨_,e5⟩
   ·exact⟨o,a2M b o e n hf⟩
  ·obtain⟨o,es,ep,ho,hd,r⟩:=hm
   obtain⟨sl,e5⟩:=up _ o ho λvs z=>by rw[hd]at z;cases z
   exact⟨_,es,ep,e5,hd,r⟩
  ·have nh:∀c v,H c=GS v->c∉a::rest/\c∉qL X.stack:=λc v hc=>⟨λz=>(by have:=(a3M c z).1.no;rw[hc]at this;cases this),λz=>(by have:=I.stkFree c z;rw[hc]at this;cases this)⟩
   refine(I.hok b u e).stay (λc v hc q=> ?_) (λ_ q=>q) λ_ _ q=>q;rcases hc with z|z
   ·rw[z]at q ⊢;exact a2M b v q (nh b u e).1 (nh b u e).2
   ·exact a2M c v q (nh c _ z).1 (nh c _ z).2
theorem zv {vs:Array NF} {v:NF} (h:vs[1]? =GS v):1<vs.size/\∃a0,vs[0]? =GS a0:=by
 have YB:1<vs.size:=by
  by_cases z:1<vs.size
  ·exact z
  ·rw[Array.getElem?_eq_none (SX z)]at h;cases h
 exact⟨YB,vs[0]'(by omega),by simp⟩
theorem wz {Q:Unit->NI->Prop} {E:NF->NI->Prop} (I:au X V_ σ H s) (p:fA X) (fl:Fl X V_ H s.heap a cls) (k:∀h',au X V_ σ H {s with heap:=h'}->Ir X V_ H h' a cls->Q () {s with heap:=h'}): wpAny (NY X.prog X.w) X.A (QS (.ref a) X.env) (λ_ s₂=>wpAny (NY X.prog X.w) X.A (UW (.ref a) JT) Q E s₂) E s:=by
 obtain⟨B,oe,vs,ge,gc,gd,ff,hB,a0t,hn,hk⟩:=ml I p fl;have WM:X.A.frames=GS (X.env::X.outer):=by rw[I.ok.frames,p.st]
 rcases hn with g|⟨T,oT,ts,f,g1,g2,g3,g4,g5,g6,g7⟩
 ·obtain⟨YB,a0,h0⟩:=zv g
  unfold QS;rw[p.fr];refine NJ (Rz (o:=oe) ge (by rw[gd]) g ?_);refine wpAny_newEntryW (head:= .none) (hadNext:=false) WM ff p.fr ge hB a0t gd YB h0 λh' z_=> ?_;obtain⟨st,_,tr,up⟩:=z_;rw[gc]at tr;obtain⟨I',f'⟩:=hk h' _ st tr.at.tl up;exact k h' I' f'
 ·obtain⟨YB,a0,h0⟩:=zv g1
  rcases g7 with rfl|rfl
  ·refine wpAny_looks_onW (cls:=cls) (a0:=a0) WM p.fr ⟨hB,a0t,ff,oe,vs,T,oT,ts,ge,⟨gc,h0⟩,gd,g1,g2,g3,g4,g5,g6⟩ λh1 a3N u1=> ?_
   refine wpAny_landsW a3N λh2 ⟨st,_,_,tr⟩ u2=> ?_;obtain⟨I',f'⟩:=hk h2 _ st tr.at.tl (u1.trans u2);exact k h2 I' f'
  ·have tr0:s.heap.TracedAtW B a cls a0 (rawInt X.env.locals):=⟨oe,vs,T,oT,ts,ge,⟨gc,h0⟩,gd,g1,g2,g3,g4,g5,g6⟩
   refine wpAny_noteFrame_againW p.fr tr0 ?_;refine wpAny_landsW (base:=B) (l:=X.env::X.outer) (L:=X.env.locals) ⟨hB,a0t,ff,tr0⟩ λh2 ⟨st,_,_,tr⟩ u2=> ?_;obtain⟨I',f'⟩:=hk h2 _ st tr.at.tl u2;exact k h2 I' f'
theorem Cz {Q:Unit->NI->Prop} {E:NF->NI->Prop} (I:au X V_ σ H s) (p:fA X) (fl:Fl X V_ H s.heap a cls) (k:∀h',au X V_ σ H {s with heap:=h'}->Ir X V_ H h' a cls->Q () {s with heap:=h'}):wpAny (NY X.prog X.w) X.A (leaving X.env (.ref a)) Q E s:=
 NJ (wz I p fl k)
theorem Fs {cenv:Pw} {Q:Unit->NI->Prop} {E:NF->NI->Prop} (I:au X V_ σ H s) (p:fA X) (fl:Ir X V_ H s.heap a cls) (hc:cenv.frame=X.env.frame) (k:∀h',au X V_ σ H {s with heap:=h'}->Ey X V_ H h' a cls (rawInt X.env.locals)->s.heap.UpToSlots h'->Q () {s with heap:=h'}):wpAny (NY X.prog X.w) X.A (QS (.ref a) cenv) Q E s:=by
 obtain⟨B,oe,vs,ge,gc,gd,ff,hB,a0t,hn,hk⟩:=ml I p fl.fl;have WM:X.A.frames=GS (X.env::X.outer):=by rw[I.ok.frames,p.st]
 have en:QS (.ref a) cenv=QS (.ref a) X.env:=by unfold QS PySem.frameOf;rw[hc]
 rw[en];obtain⟨a2L,a1J,e1,e2,e3,T',e4,Yh⟩:=fl.at_;rw[ge]at e1;cases e1;rw[gd]at e3;cases e3;obtain⟨a1k,a0P,q1,q2,q3⟩:=Yh.at_;rcases hn with g|⟨T,oT,ts,f,g1,g2,g3,g4,g5,g6,g7⟩
 ·rw[g]at e4;cases e4
 ·rw[e4]at g1;cases g1
  rw[q1]at g4;cases g4;rw[q2]at g5;cases g5;obtain⟨YB,a0,h0⟩:=zv e4;refine wpAny_looks_onW (cls:=cls) (a0:=a0) WM p.fr ⟨hB,a0t,ff,oe,vs,T',a1k,a0P,ge,⟨gc,h0⟩,gd,e4,g2,g3,q1,q2,q3⟩ λh1 ⟨st,_,_,tr⟩ u1=> ?_;obtain⟨I',f'⟩:=hk h1 _ st tr.tl u1;exact k h1 I' f' u1
theorem Ft {α:Type} {a3O:String} {cenv:Pw} {Q:α->NI->Prop} {E:NF->NI->Prop} (I:au X V_ σ H s) (p:fA X) (fl:Ey X V_ H s.heap a cls (rawInt X.env.locals)) (hc:cenv.frame=X.env.frame) (k:∀h',au X V_ σ H {s with heap:=h'}->Ey X V_ H h' a cls (rawInt X.env.locals)->E (.ref a) {s with heap:=h'}):wpAny (NY X.prog X.w) X.A (T6 a3O (.ref a) cenv:QD α) Q E s:=by
 obtain⟨B,oe,vs,ge,gc,gd,ff,hB,a0t,hn,hk⟩:=ml I p (fl.flo (.inr rfl));obtain⟨a2L,a1J,e1,e2,e3,T',e4,Yh⟩:=fl.at_;rw[ge]at e1;cases e1;rw[gd]at e3;cases e3;obtain⟨a1k,a0P,q1,q2,q3⟩:=Yh.at_;rcases hn with g|⟨T,oT,ts,f,g1,g2,g3,g4,g5,g6,g7⟩
 ·rw[g]at e4;cases e4
 ·rw[e4]at g1;cases g1
  rw[q1]at g4;cases g4;rw[q2]at g5;cases g5;unfold T6;refine NJ (Rz ge gd e4 ?_);rw[if_neg (by simp)];refine NJ ?_;unfold UW;refine NJ (Rz ge gd e4 ?_);rw[if_pos (show (Of T' != OQ)=true from by simp),hc,p.fr];have ZT:3<a0P.size:=(Sr.mp q3).1;obtain⟨tc,td,a4C,a7l⟩:=a1k;simp only at q2;subst q2;refine wpAny_setField q1 rfl ZT ?_;have XQ:∀b,b≠T'->(s.heap.update T' (VL (·.setIfInBounds 3 (rawInt X.env.locals)))).get? b=s.heap.get? b:=λb hb=>RA _ _ (Py hb);obtain⟨I',f'⟩:=hk (s.heap.update T' (VL (·.setIfInBounds 3 (rawInt X.env.locals)))) (rawInt X.env.locals) (λb o e=>by rw[XQ b (λz=>by rw[z,g2]at e;cases e)];exact hB b o e)
   ⟨oe,vs,T',_,_,by rw[XQ a (Py g3)];exact ge,gc,gd,e4,g2,g3,TU _ q1 rfl,rfl,by simp[ZT]⟩
   (λb o e YG=>⟨o.slots,by rw[XQ b (λz=>by rw[z,q1]at e;cases e;exact YG _ rfl)];exact e⟩)
  exact wpAny_throw (k _ I' f')
def Nl (g:NT) (H:Hp) (h:NT) (a:NH) (cls:NF):Prop:=g.get? a=JT/\H a=JT/\∃oe vs T oT ts,h.get? a=GS oe/\oe.cls=cls/\oe.data= .fields vs/\vs[1]? =GS (.ref T)/\g.get? T=JT/\H T=JT/\T≠a/\ h.get? T=GS oT/\oT.data= .fields ts/\ts[3]? =GS .none
def kX (P:NM) (w:NV):xP:=λouter H s E e s'=>∃a cls H',e= .ref a/\s'.os=s.os/\Rl s'.gens/\Un (qL outer) [] H H' s.heap s'.heap/\kS P w H' s'.heap/\Nl s.heap H' s'.heap a cls/\E cls (GS a) H'
theorem Iu {E:XK} {e:NF} (I:au X V_ σ H s) (p:fA X) (h:kX X.prog X.w X.stack H s E e s'):∃a cls H',e= .ref a/\au X V_ σ H' s'/\Fl X V_ H' s'.heap a cls/\E cls (GS a) H':=by
 obtain⟨a,cls,H',rfl,os,bare,un,hok,⟨n1,n2,oe,vs,T,oT,ts,g1,g2,g3,g4,g5,g6,g7,g8,g9,a2N⟩,q⟩:=h;refine⟨a,cls,H',rfl,I.call' os un hok bare (λb hb=>by cases hb),⟨xF.of I p n1 n2,oe,vs,g1,g2,g3, .inr ⟨T, .none,g4,⟨xF.of I p g5 g6,g7,oT,ts,g8,g9,a2N⟩, .inl rfl⟩⟩,q⟩
theorem rG {CX:xP} {f:NH} {cd:NF} {E:XK}: fA (ik CX P w K mg base N qual scope f cd A outer s H E):=⟨rfl,rfl,rfl⟩
theorem yd {f:NH} {cd:NF} {s0:NI} {H0:Hp} {E:XK} (I:au (ik (kX P w) P w K mg base N qual scope f cd A outer s0 H0 E) V_ σ H s) (fl:Fl (ik (kX P w) P w K mg base N qual scope f cd A outer s0 H0 E) V_ H s.heap a cls) (h:E cls (GS a) H): (ik (kX P w) P w K mg base N qual scope f cd A outer s0 H0 E).xe (.ref a) s:=by
 refine Cz I rG fl λh' I' f'=> ?_;obtain⟨oe,vs,g1,g2,g3,T,g4,t⟩:=f'.at_;obtain⟨oT,ts,g5,g6,g7⟩:=t.at_;exact⟨a,cls,H,rfl,I'.os,I'.bare,I'.base,I'.hok,⟨f'.new.s0,f'.new.no,oe,vs,T,oT,ts,g1,g2,g3,g4,t.new.s0,t.new.no,t.ne,g5,g6,g7⟩,h⟩
end
theorem dA {α:Type} {M:To} {t:QD α} {r:α} {Q:α->NI->Prop} {E:NF->NI->Prop} {s:NI} (l:VM M s.heap t r) (q:Q r s):wpAny M A t Q E s:=l A Q E s (λ_ _ e=>e) q
theorem nA {M:To} {x C:NH} {ox:Oi} (e:h.get? x=GS ox) (hc:ox.cls= .ref C):VM M h (typeOf (.ref x)) (.ref C):=λA Q E s k q=>
 NJ (wpAny_loadPart (k _ _ e) (NQ (by rw[hc];exact q)))
theorem ye {s:NI} {x C:NH} {R:S9->NI->Prop} {ox:Oi} {tp:NF} (KX:K.In s.heap) (e:s.heap.get? x=GS ox) (hc:ox.cls= .ref C) (hm:OB K C (.type "object")=GS true) (q:R (.ok (.ret (.ref C))) s):Qg (NY prog w) A (.call (.builtin "getset_descriptor.__get__") {pos:=[.builtin "object.__class__", .ref x,tp]}) R s:=by
 refine RW UX.plain PySem.W.KF.entry_gs ?_;refine UX.check _ _ _ _ _ _ _ _ PySem.W.KF.type_class (PySem.W.KF.args_gs _ _ _) ?_;show wpAny _ _ (Rw _) _ _ _;unfold Rw;rw[PySem.W.dga_obj];refine NJ (NQ ?_);dsimp only;unfold Ux;dsimp only;unfold TK TL;dsimp only;rw[PySem.W.KF.owner_class];refine NJ (NJ (NQ ?_));refine NJ (NJ (dA (nA e hc) (dA (Uv KX hm) ?_)));refine NQ ?_;refine R8 ⟨UU _ (by decide+kernel),RV PySem.W.KF.entry_class ?_⟩;show wpAny _ _ (do let t<-shownTypeOf (.ref x);ret t) _ _ _;unfold shownTypeOf;refine NJ (NJ (dA (nA e hc) ?_));rw[if_neg (by intro z;exact absurd z (by simp))];exact NQ (R8 q)
theorem Fu {E:NF->NI->Prop} {s:NI} {x C:NH} {ox:Oi} {Q:Option NF->NI->Prop} (KX:K.In s.heap) (e:s.heap.get? x=GS ox) (hc:ox.cls= .ref C) (h1:O4 K (.ref C) "__getattribute__"=GS (GS (.builtin "BaseException.__getattribute__"))) (h2:O4 K (.ref C) "__getattr__"=GS JT) (h3:O4 K (.ref C) "__class__"=GS (GS (.builtin "object.__class__"))) (h4:QL K (.builtin "object.__class__") "__get__"=GS (GS (.builtin "getset_descriptor.__get__"))) (h5:R4 K (.builtin "object.__class__")=GS true) (h6:OB K C (.type "object")=GS true) (h7:OB K C (.type "BaseException")=GS true) (q:Q (GS (.ref C)) {s with toks:=s.toks+1}):wpAny (NY prog w) A (S3 (.ref x) "__class__") Q E s:=by
 unfold S3;refine NJ (wpAny_mkText ?_);unfold Vv;refine NJ (Us ?_);unfold getAttrBy;refine Oq (NJ (dA (nA e hc) (NJ (dA (QT KX h1) ?_))));dsimp only;rw[if_neg (by rw[show (Ql "BaseException.__getattribute__"==Ql "object.__getattribute__")=false by decide+kernel,VD];simp)];unfold getAttrByItsOwn hookBefore;refine NJ ?_;rw[if_pos (by rfl)];refine dA (QT KX h2) ?_;refine NJ (Us (Oq ?_));unfold callGetattribute;rw[if_neg (by simp)];unfold boundAndCalled;rw[F.attrBase_ValueError.ga.bind];refine NJ (NQ ?_);dsimp only;refine SF (RW F.attrBase_ValueError.ga.plain F.entry_bexc_ga ?_);show wpAny _ _ (checkBuiltinCall "BaseException.__getattribute__" {pos:=Of x::[RG (Qv "__class__") s.toks],kw:=[]}) _ _ _;refine PySem.W.check_slot (i:="BaseException.__getattribute__") (owner:="BaseException") (n:="__getattribute__") T7._proof_1_1 T7._proof_1_2 (λA Q E s k q=>NJ (nA e hc A _ E s k (Uv KX h7 A _ E s k q))) (F.args_bexc_ga _ _) ?_;unfold Rn.«object.__getattribute__»;refine NJ (NQ (a:=(Of x,[RG (Qv "__class__") s.toks])) ?_);dsimp only;refine NJ (NQ (a:=Qv "__class__") ?_);refine NJ (dA (nA e hc) ?_);refine NJ ?_;unfold VU;refine NJ (dA (QT KX h3) ?_);refine NJ ?_;show wpAny _ _ (specialOf _ _) _ _ _;refine dA (PySem.W.looks_specialIn KX h4) ?_;refine NJ ?_;show wpAny _ _ (do let b<-Vy (Ql "object.__class__");if b=true then pure (GS (Ql "getset_descriptor.__get__",Ql "object.__class__"))else pure JT) _ _ _;refine NJ (dA (PySem.W.looks_takesIn KX h5) ?_);rw[if_pos rfl];refine NQ ?_;dsimp only;refine NJ (SG (NQ ?_));dsimp only;unfold VP;dsimp only;refine NJ (Oq (SF (ye KX e hc h6 ?_)));refine R8 ?_;exact PySem.W.handed_on (by rfl) (NQ q)
def yf:List NF:=[.type "ValueError", .type "Exception", .type "BaseException", .type "object"]
structure v7 (K:ND) (C:NH):Prop where
 exc:∃XA Bn a4D a4E,Pb K C yf XA=true/\ExcBaseFacts Bn XA a4D a4E/\yf.contains (.type Bn)=true
 ga:O4 K (.ref C) "__getattribute__"=GS (GS (.builtin "BaseException.__getattribute__"))
 gt:O4 K (.ref C) "__getattr__"=GS JT
 kc:O4 K (.ref C) "__class__"=GS (GS (.builtin "object.__class__"))
 sp:QL K (.builtin "object.__class__") "__get__"=GS (GS (.builtin "getset_descriptor.__get__"))
 tk:R4 K (.builtin "object.__class__")=GS true
 mo:OB K C (.type "object")=GS true
 mb:OB K C (.type "BaseException")=GS true
 kk:QP K (.ref C) (.ref C)=GS true
theorem zw {C:NH} {a0u:List NF} {XA:String} (KX:K.In h) (e:Pb K C a0u XA=true):∃bm N nm q bs hdct sn sub ab col dd k0 k1 k2 k3 k5 mN, h.get? C=GS (excClassObj nm q C N bs bm hdct sn sub ab col dd k0 k1 k2 k3 k5 XA)/\h.Ns N mN/\mN (Qv "__init__")=JT/\OwnTail h a0u bm:=by
 unfold Pb at e;split at e
 ·split at e
  ·rename_i dd cd sl lk _ _ C' bm k0 k1 k2 k3 n k5 e1 e2
   simp only[OX]at e;obtain⟨⟨⟨⟨⟨a1,a2⟩,a3⟩,a4⟩,a5⟩,a6⟩:=e;have b1:C'=C:=eq_of_beq a1;have b2:n=XA:=eq_of_beq a2;subst b1 b2;have g:=KX _ _ lk;have a5w:sl= #[k0,k1,k2,k3,GS (Ql n),k5]:=by rw[<-Array.toList_inj];exact e2
   have a2d:cd.hasDel=false:=by simpa using a3
   obtain⟨nm,bs,mro,N,q,hd,sn,sb,ab,col,a7m⟩:=cd;dsimp only at e1 a2d a4 a5 a6;subst e1 a5w a2d;exact⟨bm,N,nm,q,bs,hd,sn,sb,ab,col,dd,k0,k1,k2,k3,k5,_,g,Heap.Ns.of_isNs (PySem.W.isNs_of_in KX a5),PySem.W.nsMap_none_of_in KX a5 (eq_of_beq a6),PySem.W.tail_of_in KX a4⟩
  ·cases e
 ·cases e
theorem CA {x C:NH} (k:v7 K C):PySem.W.KitX K (.ref x) (.ref C) λh=>∃ox,h.get? x=GS ox/\ox.cls= .ref C where
 ty:=λM h _ ⟨ox,e,hc⟩=>nA e hc
 it:=λM h KX _=>(PySem.W.kit_cls KX k.kk).2.1
 ne:=λh tp dd its n sl KX e=>by
  cases z:(Of C==Of tp)with
  |false=>rfl
  |true=>
   have ez:Of C=Of tp:=eq_of_beq z;cases ez;obtain⟨XA,_,_,_,ei,_⟩:=k.exc;obtain⟨bm,N,nm,q,bs,hd,sn,sb,ab,col,dd,k0,k1,k2,k3,k5,mN,g,_⟩:=zw KX ei;rw[e]at g;exact absurd (congrArg Obj.data (OR g)) (λz=>by cases z)
 ca:=λ{prog w A E Q s} KX ⟨ox,e,hc⟩ q=>Fu KX e hc k.ga k.gt k.kc k.sp k.tk k.mo k.mb q
section
variable {X:Cx} {V_:List (NH×Oi)} {σ:St} {H:Hp} {s:NI} {a:NH} {cls:NF} {x:NG} {np W7 pos:Ox} {e:NS} {es:List NS} {t:TA} {C:NH}
def CB (X:Cx) (C:NH) (t:TA):TS:=λ_ σ H=>t σ H λvs H1=>vs.length<=sizeLine/\∀V_ s a,au X V_ σ H1 s->Fl X V_ H1 s.heap a (.ref C)->X.xe (.ref a) s
theorem Fv (I:au X V_ σ H s) (p:fA X) (m:s.heap.MadeExcOf h' a cls vs):au X V_ σ H {s with heap:=h'}/\Fl X V_ H h' a cls:=by
 obtain⟨tp,g1,g2,g3⟩:=m.there;exact⟨I.kept (t':=s.toks) m.keeps,xF.of I p m.new (I.hok.none_of m.new),_,_,g1,rfl,rfl, .inl rfl⟩
theorem CC (k:v7 X.K C) (hm:X.mg x=GS (.ref C)) (p:fA X) (hc:X.calm=true) (ha:PA X (e::es) t) (hg:Gl X x:=by rfl) (WL:(x==("__debug__":NG))=false:=by decide) (he:NL (e::es) X.env=(false,O8 e X.env)::NL es X.env:=by rfl) (WA:(Om W7 (NL es X.env)).any (·.1)=false:=by rfl):PS X (.Raise (GS (.Call (.Name x np) (e::es) [] W7)) JT pos) (CB X C t):=by
 intro V_ s σ H D I h;obtain⟨XA,Bn,a4D,a4E,ei,fB,hB⟩:=k.exc;obtain⟨bm,N,nm,q,bs,hd,sn,sb,ab,col,dd,k0,k1,k2,k3,k5,mN,g,ns,ni,tl⟩:=zw I.ok.mod.kin ei;have a0k:Om W7 (NL (e::es) X.env)=(false,O8 e X.env)::Om W7 (NL es X.env):=by rw[he];rfl
 refine wpAny_Raise_call_subU (nm:=nm) (q:=q) (C:=C) (N:=N) (bs:=bs) (hdct:=hd) (sn:=sn) (sub:=sb) (ab:=ab) (col:=col) (dd:=dd) (k0:=k0) (k1:=k1) (k2:=k2) (k3:=k3) (k5:=k5) fB hB F.excBase_ValueError (tl.hasType (by decide)) (I.ok.hd hc) (by rw[a0k];exact WA) ni (o9 I hg hm ⟨rfl,?_⟩ WL);rw[a0k];refine QV ?_;rw[<-a0k];refine bF (ha W7 V_ s σ H _ I h) λus s1 ⟨vs,H1,I1,r,z,q1⟩=>⟨rfl,by rw[<-r.length];exact z,I1.bk _ _ g,ns.keeps I1.bk,tl.keeps I1.bk,λh' a m=> ?_⟩;obtain⟨I2,f2⟩:=Fv I1 p m;exact q1 V_ _ a I2 f2
abbrev Cx.inH (X:Cx) (v:NF):Cx:={X with A:=X.A.mark (GS v),calm:=false,xe:=λ_ _=>False}
theorem Cx.Ok.inH {v:NF} (ok:X.Ok):(X.inH v).Ok:=⟨ok.mod,ok.kind,ok.glob,ok.blt,ok.above,ok.inj,ok.has,ok.cab,(λz=>by cases z),ok.frames,ok.stk,ok.exf,ok.bs,ok.bsz,ok.noex,ok.exfs,ok.funs,ok.frf⟩
theorem au.inH {v:NF} (I:au X V_ σ H s):au (X.inH v) V_ σ H s:=⟨I.ok.inH,I.os,I.bare,I.base,I.loc,I.cell,I.free,I.freeC,I.pin,I.hok,I.len⟩
theorem au.outH {v:NF} (ok:X.Ok) (I:au (X.inH v) V_ σ H s):au X V_ σ H s:=⟨ok,I.os,I.bare,I.base,I.loc,I.cell,I.free,I.freeC,I.pin,I.hok,I.len⟩
theorem au.track {o:HO} {oa:Oi} {vs:Array NF} (I:au X V_ σ H s) (n:xF X V_ H a) (ga:s.heap.get? a=GS oa) (gd:oa.data= .fields vs) (new:bg X.prog X.w (aS H a o) s.heap a o):au X V_ σ (aS H a o) s:=by
 have ne:∀b u,H b=GS u->b≠a:=λb u e z=>by rw[z,n.no]at e;cases e
 have a0L:X.env.locals≠a:=λz=>by
  obtain⟨m,⟨o,es,ep,ho,hd,_⟩,_⟩:=I.loc;rw[z,ga]at ho;cases ho;rw[gd]at hd;cases hd
 have neC:∀y c,X.env.cells.lookup y=GS c->c≠a:=λy c e z=>by
  obtain⟨v,o,ho,hd⟩:=I.cell y c e;rw[z,ga]at ho;cases ho;rw[gd]at hd;cases hd
 refine⟨I.ok,I.os,I.bare,⟨I.base.keep,I.base.slot,λb o e n' hx=> ?_,I.base.there,λb xs e=> ?_,λb o u e=> ?_,λb ps e=> ?_⟩,I.loc,I.cell,by rw[aj a0L];exact I.free,λy c e=>by rw[aj (neC y c e)];exact I.freeC y c e,λp hp=> ?_,λb u e=> ?_,I.len⟩
 ·rw[aj (λz=>by rw[z,n.s0]at e;cases e)];exact I.base.free b o e n' hx
 ·have q:=I.base.tups b xs e
  rw[aj (ne b _ q)];exact q
 ·have q:=I.base.frzs b o u e
  rw[aj (ne b _ q)];exact q
 ·obtain⟨more,q⟩:=I.base.tbls b ps e
  exact⟨more,by rw[aj (ne b _ q)];exact q⟩
 ·obtain⟨e,n',r⟩:=I.pin p hp
  exact⟨e,by rw[aj (n.pin p hp)];exact n',r⟩
 ·by_cases z:b=a
  ·subst z;rw[ar]at e;cases e;exact new
  ·rw[aj z]at e
   refine(I.hok b u e).stay (λ_ _ _ q=>q) (λc q=> ?_) λc xs q=> ?_
   ·rw[aj (ne c _ q)];exact q
   ·rw[aj (ne c _ q)];exact q
theorem AK {M:To} {E:NF->NI->Prop} {i:Nat} {n:NG} {Q:Unit->NI->Prop} (I:au X V_ σ H s) (hN:X.N.Nodup) (hi:X.N[i]? =GS n) (hk:X.env.kindOf n=GS .local) (k:∀s',au X V_ (σ.set i JT) H s'->Q () s'):wpAny M A (do bindName X.env n OQ;RX X.env n pos) Q E s:=by
 obtain⟨m,hn,hl⟩:=id I.loc;refine wpAny_nameGoes_keeps hk hn (by rw[I.ok.kind];rfl) λh' v a2_ hs=>k _ ?_;have a0L:∀b o,X.s₀.heap.get? b=GS o->b≠X.env.locals:=λb o e=>Og (Ol (NX e) I.ok.above);refine⟨I.ok,I.os,I.bare,⟨λb o e n hb hx=>(hs.2 b (a0L b o e)).trans (I.base.keep b o e n hb hx),λb o e n hb hx=> ?_,I.base.free,λb o e hx=> ?_,I.base.tups,I.base.frzs,I.base.tbls⟩,⟨_,a2_,λj y v' e1 e2 e3=> ?_⟩,λy c e=> ?_,I.free,I.freeC,λp hp=> ?_,λb u e=> ?_,by simpa using I.len⟩
 ·obtain⟨sl,e1⟩:=I.base.slot b o e n hb hx
  exact⟨sl,(hs.2 b (a0L b o e)).trans e1⟩
 ·obtain⟨o',e1⟩:=I.base.there b o e hx
  exact⟨o',(hs.2 b (a0L b o e)).trans e1⟩
 ·by_cases hj:j=i
  ·subst hj
   rw[Qn]at e2;split at e2
   ·split at e2<;>cases e2
   ·exact absurd rfl ‹_›
  ·rw[RN (Py hj)]at e2
   obtain⟨u',r',q⟩:=hl j y v' e1 e2 e3;refine⟨u',r',?_⟩;have ny:y≠n:=λe=>hj (qW hN e1 (e▸hi));rcases q with ⟨k,e⟩|⟨k,c,e,z⟩
   ·exact .inl ⟨k,by show (if y=n then v else m y)=_;rw[if_neg ny];exact e⟩
   ·exact .inr ⟨k,c,e,z.sameBut hs (I.cne y c e)⟩
 ·obtain⟨w',z⟩:=I.cell y c e
  exact⟨w',z.sameBut hs (I.cne y c e)⟩
 ·obtain⟨e,n,ne,nf,d⟩:=I.pin p hp
  exact⟨(hs.2 p.1 ne).trans e,n,ne,nf,d⟩
 ·refine(I.hok b u e).stay (λc v hc q=>(hs.2 c ?_).trans q) (λ_ q=>q) λ_ _ q=>q
  rintro rfl
  have:=I.free;rcases hc with z|z
  ·rw[<-z,this]at e;cases e
  ·rw[this]at z;cases z
def ju (a:NH) (cls:NF):NT->Prop:=λh=>∃o,h.get? a=GS o/\o.cls=cls
theorem AL (e:ju a cls h):bg P w H h a (.ext (ju a cls)):=by
 obtain⟨o,h1,h2⟩:=e;exact⟨⟨o,h1,h2⟩,⟨o,h1⟩,λg1 g2 ⟨o',e1,e2⟩ k=>⟨o',k _ e1,e2⟩⟩
theorem Iv (I:au X V_ σ H s) (p:fA X) (fl:Ir X V_ H s.heap a cls) {Q:Unit->NI->Prop} {E:NF->NI->Prop} {A:Oc} (k:∀h',au X V_ σ H {s with heap:=h'}->Ir X V_ H h' a cls->Q () {s with heap:=h'}):wpAny (NY X.prog X.w) A (UW (.ref a) JT) Q E s:=by
 obtain⟨B,oe,vs,ge,gc,gd,ff,hB,a0t,hn,hk⟩:=ml I p fl.fl;obtain⟨a2L,a1J,e1,e2,e3,T',e4,Yh⟩:=fl.at_;rw[ge]at e1;cases e1;rw[gd]at e3;cases e3;obtain⟨a1k,a0P,q1,q2,q3⟩:=Yh.at_;rcases hn with g|⟨T,oT,ts,f,g1,g2,g3,g4,g5,g6,g7⟩
 ·rw[g]at e4;cases e4
 ·rw[e4]at g1;cases g1
  obtain⟨YB,a0,h0⟩:=zv e4;refine lands_againW (base:=B) (l:=X.env::X.outer) (cls:=cls) (a0:=a0) ⟨hB,a0t,ff,oe,vs,T',a1k,a0P,ge,⟨gc,h0⟩,gd,e4,g2,g3,q1,q2,q3⟩ λh2 ⟨st,_,_,tr⟩ up=> ?_;obtain⟨I',f'⟩:=hk h2 _ st tr.at.tl up;exact k h2 I' f'
theorem AM {a4F:NH} {cx n:NG} {i:Nat} {ZV:Ox} {b₀:Ob} {YC:List Ob} {rest:List ExceptHandler} {Q:Flow->NI->Prop} {E:NF->NI->Prop} (I:au X V_ σ H s) (p:fA X) (fl:Ir X V_ H s.heap a (.ref C)) (hN:X.N.Nodup) (hi:X.N[i]? =GS n) (hk:X.env.scope.names.lookup n=GS .local) (hg:Gl X cx) (hm:X.mg cx=GS (.ref a4F)) (hx:QQ X.K (.ref C) (.ref a4F)=GS true) (WL:(cx==("__debug__":NG))=false) (k:∀s',au (X.inH (.ref a)) V_ (σ.set i (GS (.ref a))) (aS H a (.ext (ju a (.ref C)))) s'-> wpAny (NY X.prog X.w) (X.inH (.ref a)).A (execs (b₀::YC) X.env) (λf s3=>wpAny (NY X.prog X.w) X.A (do bindName X.env n OQ;RX X.env n ZV) (λ_ s5=>Q f s5) E s3) (λ_ _=>False) s'): wpAny (NY X.prog X.w) X.A (handleBy (.ref a) X.env (.ExceptHandler (GS (.Name cx np)) (GS n) (b₀::YC) ZV::rest)) Q E s:=by
 refine wpAny_handleBy_cons (codeAny_handlers_test ?_) (by intro z;cases z);refine o9 (X:=X.inH (.ref a)) I.inH hg hm ?_ WL;obtain⟨oe,vs,ge,gc,gd,_⟩:=fl.at_;refine dA (PySem.W.exm_one I.kIn (nA ge gc) hx) ?_;rw[if_pos rfl];refine codeAny_handlers_suite_as ?_;refine Iv I p fl λh2 I2 f2=> ?_;obtain⟨oe,vs,ge,gc,gd,_⟩:=f2.at_;have I3:au X V_ σ (aS H a (.ext (ju a (.ref C)))) {s with heap:=h2}:=I2.track f2.new ge gd (AL ⟨oe,ge,gc⟩);refine qX (X:=X.inH (.ref a)) I3.inH hN hi (.inl hk) (v:= .ref a) rfl (λs' I'=> ?_) (.inr hk);exact OS (k s' I') (λf s3 q=>q) λ_ _ z=>z.elim
end
def uf (M:To) (A:Oc) (E:NF->NI->Prop) (use:Option (NF->QD Unit)) (Q:NF->NI->Prop) (Wk:NF) (cenv:Pw) (r:S9) (s':NI):Prop:=
 match r,use with
 | .ok _,JT=>∃m,s'.heap.Ns cenv.locals m/\∀h',Qt cenv.locals s'.heap h'->Q Wk {s' with heap:=h'}
 | .ok _,GS u=>wpAny M A (u Wk) (λ_ Ye=>∃m,Ye.heap.Ns cenv.locals m/\∀h',Qt cenv.locals Ye.heap h'->Q .none {Ye with heap:=h'}) E s'
 | .error x,_=>∃m,s'.heap.Ns cenv.locals m/\∀h',Qt cenv.locals s'.heap h'->wpAny M A (T6 "comprehension.variables-let-go" x cenv:QD NF) (λ_ _=>False) E {s' with heap:=h'}
theorem yg {M:To} {E:NF->NI->Prop} {s:NI} {pos:Ox} {a0l first:QD NF} {g:Comprehension} {gs:List Comprehension} {cl:List (NG×NH)} {use:Option (NF->QD Unit)} {Q:NF->NI->Prop} (a5x:clausesOf e=g::gs) (hs:∀x,P8 g.iter env x=pure x) (a2e:Vs scope env=pure cl) (Z7:scope.kind= .function) (a1l:∀x∈scope.names,x.2= .local->scope.names.lookup x.1=GS .local) (h:wpAny M A first (λx s₁=>wpAny M A (UE x) (λit s₂=>wpAny M A a0l (λWk s₃=> wpAny M A (TY scope env.globals cl [] env.qual JT .none (GS env)) (λcenv s₄=> Qg M A (.compStart e 0 it Wk {cenv with scope:=Qk scope env}) (uf M A E use Q Wk {cenv with scope:=Qk scope env}) s₄) E s₃) E s₂) E s₁) E s): wpAny M A (So e scope env pos a0l false first use) Q E s:=by
 unfold So;rw[a2e,a5x];refine NJ (OS h (λx s₁ h₁=>NJ (Q8 (NJ (wpAny_of_eq (hs x) (NJ (Oq (OS h₁ (λit s₂ h₂=>
  wpAny_standIf (NJ (OS h₂ (λWk s₃ h₃=>NJ (NQ (NJ (OS h₃ (λcenv s₄ h₄=> ?_) λ_ _ h'=>h')))) λ_ _ h'=>h')))
   λ_ _ h'=>h'))))))) λ_ _ h'=>h')
 dsimp only;have hv:∀x∈(scope.names.filter λx=>(x.2== .local||x.2== .cell)&&x.1 != (".0":NG)).reverse,x.2= .local->
   Env.kindOf {cenv with scope:=Qk scope env} x.1=GS .local:=λx hx hl=>lookup_relabel_local (a1l x (OM.mp (Vg.mp hx)).1 hl)
 have a12:∀x∈(scope.names.filter λx=>(x.2== .local||x.2== .cell)&&x.1 != (".0":NG)).reverse.drop 1++(scope.names.filter λx=>(x.2== .local||x.2== .cell)&&x.1 != (".0":NG)).reverse.take 1,
   x.2= .local->Env.kindOf {cenv with scope:=Qk scope env} x.1=GS .local:=λx hx hl=>by
  rcases OF.mp hx with h1|h1
  ·exact hv x (List.mem_of_mem_drop h1) hl
  ·exact hv x (RY h1) hl
 refine Oq (NJ (Us (Oq (wpAny_run (QM h₄ λr s' hr=> ?_)))));cases r with
 |ok f=>
  cases use with
  |none=>
   obtain⟨m,hn,hr⟩:=hr;exact NJ (Oq (T8 (cenv:={cenv with scope:=Qk scope env}) Z7 _ s' m hv hn λh' m' _ Wd=>NQ (hr h' Wd)))
  |some u=>
   refine NJ (SG (NJ (Oq (OS hr (λ_ Ye Z5=> ?_) λ_ _ h'=>h'))));obtain⟨m,hn,Z5⟩:=Z5;exact NJ (T8 (cenv:={cenv with scope:=Qk scope env}) Z7 _ Ye m a12 hn λh' m' _ Wd=>NQ (Z5 h' Wd))
 |error x=>
  have Z5:∃m,s'.heap.Ns cenv.locals m/\∀h',Qt cenv.locals s'.heap h'->wpAny M A (T6 "comprehension.variables-let-go" x {cenv with scope:=Qk scope env}:QD NF) (λ_ _=>False) E {s' with heap:=h'}:=by cases use<;>exact hr
  obtain⟨m,hn,hr⟩:=Z5;exact NJ (Oq (T8 (cenv:={cenv with scope:=Qk scope env}) Z7 _ s' m hv hn λh' m' _ Wd=>OS (hr h' Wd) (λ_ _ f=>f.elim) λ_ _ y=>y))
def bI (X:Cx) (scope:PJ) (s:NI) (H:Hp) (ex:List NH) (E:NF->NI->Prop):Cx:={bA X scope s H ex with xe:=E}
section
variable {X:Cx} {scope:PJ} {s:NI} {H:Hp} {ex:List NH} {E:NF->NI->Prop} {Wo:List (NH×Oi)} {τ:St} {H':Hp} {s':NI}
theorem Ha (ok:(bA X scope s H ex).Ok):(bI X scope s H ex E).Ok:=
 ⟨ok.mod,ok.kind,ok.glob,ok.blt,ok.above,ok.inj,ok.has,ok.cab,ok.hd,ok.frames,ok.stk,ok.exf,ok.bs,ok.bsz,ok.noex,ok.exfs,ok.funs,ok.frf⟩
theorem Mx (ok:(bI X scope s H ex E).Ok):(bA X scope s H ex).Ok:=
 ⟨ok.mod,ok.kind,ok.glob,ok.blt,ok.above,ok.inj,ok.has,ok.cab,ok.hd,ok.frames,ok.stk,ok.exf,ok.bs,ok.bsz,ok.noex,ok.exfs,ok.funs,ok.frf⟩
theorem Nm (I:au (bA X scope s H ex) Wo τ H' s'):au (bI X scope s H ex E) Wo τ H' s':=⟨Ha I.ok,I.os,I.bare,I.base,I.loc,I.cell,I.free,I.freeC,I.pin,I.hok,I.len⟩
theorem Iw (I:au (bI X scope s H ex E) Wo τ H' s'):au (bA X scope s H ex) Wo τ H' s':=⟨Mx I.ok,I.os,I.bare,I.base,I.loc,I.cell,I.free,I.freeC,I.pin,I.hok,I.len⟩
end
section
variable {X:Cx} {WI tg iter:NS} {WH:List NS} {scope:PJ} {pos:Ox} {wi:TI} {g:TG} {tt:TT} {te:TE}
theorem CD (S:bz X scope) (hc:X.calm=true) {V_:List (NH×Oi)} {σ:St} {H:Hp} {s:NI} {fp:List NH} {EE:NF->NI->Prop} (hg:PG (bI X scope s H fp EE) tg g) (Yf:Cn (bI X scope s H fp EE) WH tt) (Yb:PE (bI X scope s H fp EE) WI te) (I:au X V_ σ H s) {it D:NH} {tn:Nat->NT->Prop} {J:It} (T:wa X.prog X.w X.K tg J fp it tn) (Xo:∀b∈fp,i7 X V_ H b/\b<s.heap.objs.size) {Q:Hp->Prop} {R:S9->NI->Prop} (hR:∀τ H' s',au (bI X scope s H fp EE) [] τ H' s'->Q H'->R (.ok .next) s') (hE:∀e s',EE e s'->notedBy (NY X.prog X.w) X.A (bI X scope s H fp EE).env (λe Ye=>R (.error e) Ye) e s') {s1:NI} {τ0:St} (I1:au (bI X scope s H fp EE) [] τ0 H s1) (ht:tn 0 s1.heap) (q:jU J g tt te D τ0 Q H): Qg (NY X.prog X.w) X.A (.compLoop (.ListComp WI [⟨tg,iter,WH,0⟩] scope pos) 0 (.ref it) (.ref D) (bI X scope s H fp EE).env) R s1:=by
 obtain⟨W,⟨m0,w0⟩,a0b⟩:=q;have XN:∀{H':Hp},(∀b∈fp,H' b=JT)->∀b∈fp,i7 (bI X scope s H fp EE) [] H' b:=λ{H'} hn b hb=>
  ⟨hn b hb,Og (Xo b hb).2,(Ha (uY S I Xo) (E:=EE)).exfs b hb, .inl hb,λx c hx=>(Xo b hb).1.2.2.2.2.1 x c (ft (cs:=[]) (by intro c h;simp at h) hx),λp hp=>by cases hp⟩
 refine codeAny_loop rfl (λn s'=>∃i ys τ H',au (bI X scope s H fp EE) [] τ H' s'/\tn i s'.heap/\(∀b∈fp,H' b=JT)/\W i n ys τ H') (λn s2 hI=> ?_) m0 ⟨0,[],τ0,H,I1,ht,λb hb=>(Xo b hb).1.1,w0⟩;obtain⟨i,ys,τ,H2,I2,Zt,a1_,w2⟩:=hI;show wpAny _ X.A ((compTurn (.ListComp WI [⟨tg,iter,WH,0⟩] scope pos) 0 (.ref it) (.ref D) (bI X scope s H fp EE).env).onRaise (λx=>do QS x (bI X scope s H fp EE).env;theTreesLotGoes x)) _ _ s2;refine wpAny_noted ?_;rw[compTurn_list];have up:∀{α:Type} {t:QD α} {Q:α->NI->Prop} {E:NF->NI->Prop} {s:NI},wpAny (NY X.prog X.w) X.A t Q (λ_ _=>False) s->wpAny (NY X.prog X.w) X.A t Q E s:=λh=>OS h (λ_ _ q=>q) λ_ _ f=>f.elim;have a2O:∀{α:Type} {t:QD α} {Q:α->NI->Prop} {s':NI},wpAny (NY X.prog X.w) X.A t Q EE s'->wpAny (NY X.prog X.w) X.A t Q (notedBy (NY X.prog X.w) X.A (bI X scope s H fp EE).env (λe Ye=>R (.error e) Ye)) s':=λh=>OS h (λ_ _ q=>q) λe s' z=>hE e s' z;obtain⟨hD,a3i⟩:=a0b i n ys τ H2 w2;rcases a3i with ⟨stop,qn⟩|⟨go,hz,step⟩
 ·refine NJ (Q8 (NJ (up (bF (T.done (bI X scope s H fp EE) rfl rfl rfl hc i [] s2 τ H2 (λ_ _=>False) I2 (XN a1_) Zt stop) λr s3 z_=> ?_))))
  obtain⟨hr,I3⟩:=z_;subst hr;exact NQ (hR _ _ _ I3 qn)
 ·refine NJ (Q8 (NJ (up (bF (T.item (bI X scope s H fp EE) rfl rfl rfl hc i [] s2 τ H2 (λ_ _=>False) I2 (XN a1_) Zt go) λr s3 z_=> ?_))))
  obtain⟨u,hr,h3⟩:=z_;subst hr;refine NJ (up (bF h3 λ_ s4 z_=> ?_));obtain⟨x,H4,I4,r4,y4,a19,a3j⟩:=z_;have a3k:=I4.pinned (XN a3j) (T.obj _ _ a19);have back:∀{τ7:St} {H7:Hp} {s7:NI},au (bI X scope s H fp EE) ([]++pA fp s4.heap) τ7 H7 s7->au (bI X scope s H fp EE) [] τ7 H7 s7/\tn (i+1) s7.heap/\∀b∈fp,H7 b=JT:=λI7=>
   ⟨I7.unpinned,T.keep _ _ _ a19 λb hb o e=>(I7.pin (b,o) (O7 _ (O7 _ (gg hb e)))).1,λb hb=>by
    obtain⟨o,e,d⟩:=T.obj _ _ a19 b hb;exact(I7.pin (b,o) (O7 _ (O7 _ (gg hb e)))).2.1⟩
  refine NJ (a2O (bF (hg _ s4 τ H4 x u _ a3k r4 (step x H4 y4)) λ_ s5 z_=> ?_));obtain⟨τ5,H5,I5,q5⟩:=z_;refine NJ (a2O (bF (Yf _ s5 τ5 H5 _ I5 q5) λok s6 z_=> ?_));obtain⟨H6,I6,q6⟩:=z_;cases ok with
  |false=>
   obtain⟨m',hm,w'⟩:=q6;obtain⟨a,b,c⟩:=back I6;exact NQ ⟨rfl,m',hm,i+1,ys,τ5,H6,a,b,c,w'⟩
  |true=>
   rw[if_pos rfl]at q6;refine NJ (NJ (a2O (bF (Yb _ s6 τ5 H6 _ I6 q6) λv s7 z_=> ?_)));obtain⟨y,H7,I7,r7,a3l,m',hm,w'⟩:=z_;refine NJ (a2O (bF (mj (X:=bI X scope s H fp EE) _ s7 τ5 H7 (.ref D) [y] (.ref D) [v] (λ_ H8=>H8=aS H7 D (.lst (ys++[y]))) I7 rfl (.cons r7 .nil) ⟨D,ys,y,rfl,rfl,a3l,hz,rfl⟩) λ_ s8 z_=> ?_));obtain⟨_,H8,I8,_,e8⟩:=z_;subst e8;obtain⟨a,b,c⟩:=back I8;exact NQ (NQ ⟨rfl,m',hm,i+1,ys++[y],τ5,_,a,b,c,w'⟩)
theorem AN (S:bz X scope) (hc:X.calm=true) (hg:∀s H ex E,PG (bI X scope s H ex E) tg g) (Yf:∀s H ex E,Cn (bI X scope s H ex E) WH tt) {V_:List (NH×Oi)} {σ:St} {H:Hp} {s:NI} {E:NF->NI->Prop} {fp:List NH} {EF:NI->Hp->NF->NI->Prop} (Yb:∀s3 H3,au X V_ σ H3 s3->(∀b∈fp,i7 X V_ H3 b/\b<s3.heap.objs.size)->PE (bI X scope s3 H3 fp (EF s3 H3)) WI te) (I:au X V_ σ H s) {it:NH} {tn:Nat->NT->Prop} {J:It} (T:wa X.prog X.w X.K tg J fp it tn) (Xo:∀b∈fp,i7 X V_ H b) (ht:tn 0 s.heap) {Q:NH->Hp->Prop} {RR:NF->Pw->S9->NI->Prop} (hR:∀(D:NH) (H3:Hp) (s3:NI) (τ:St) (H':Hp) (s':NI),au X V_ σ H3 s3->(∀b∈fp,i7 X V_ H3 b/\b<s3.heap.objs.size)->au (bI X scope s3 H3 fp (EF s3 H3)) [] τ H' s'->Q D H'->RR (.ref D) (bA X scope s3 H3 fp).env (.ok .next) s') (hE:∀(D:NH) (H3:Hp) (s3:NI),au X V_ σ H3 s3->(∀b∈fp,i7 X V_ H3 b/\b<s3.heap.objs.size)->∀e s',EF s3 H3 e s'->notedBy (NY X.prog X.w) X.A (bA X scope s3 H3 fp).env (λe Ye=>RR (.ref D) (bA X scope s3 H3 fp).env (.error e) Ye) e s') (q:∀D,H D=JT->jU J g tt te D (ou X.N scope.names σ) (Q D) (aS H D (.lst []))): wpAny (NY X.prog X.w) X.A (VE []) (λWk s₃=>wpAny (NY X.prog X.w) X.A (TY scope X.env.globals (oq X.env scope.names []) [] X.env.qual JT .none (GS X.env)) (λcenv s₄=> Qg (NY X.prog X.w) X.A (.compStart (.ListComp WI [⟨tg,iter,WH,0⟩] scope pos) 0 (.ref it) Wk {cenv with scope:=Qk scope X.env}) (RR Wk {cenv with scope:=Qk scope X.env}) s₄) E s₃) E s:=by
 have Ww:∀b∈fp,b<s.heap.objs.size:=λb hb=>by
  obtain⟨o,e,_⟩:=T.obj _ _ ht b hb;exact NX e
 refine QY ?_;have I3:=I.lnew (ys:=[]) (its:=[]) (t':=s.toks) .nil (Pf _);have hD:H s.heap.objs.size=JT:=I.hok.fresh (O2 _);have ZT:(s.heap.push {cls:= .type "list",data:= .seq ([]:List NF).toArray}).objs.size=s.heap.objs.size+1:=Qr ..;have YI:∀b∈fp,i7 X V_ (aS H s.heap.objs.size (.lst [])) b/\b<({s with heap:=s.heap.push {cls:= .type "list",data:= .seq ([]:List NF).toArray},toks:=s.toks}:NI).heap.objs.size:=λb hb=>by
  refine⟨⟨?_,(Xo b hb).2⟩,?_⟩
  ·rw[aj (Og (Ww b hb))];exact(Xo b hb).1
  ·show b<(s.heap.push _).objs.size
   rw[ZT];exact Q6 (Ww b hb)
 refine Ug S.nocell (by intro y hy;simp at hy) (λh₁ a0g a0h=> ?_) S.kind;dsimp only at a0g a0h ⊢;have k1:∀b o,(s.heap.push {cls:= .type "list",data:= .seq ([]:List NF).toArray}).get? b=GS o->h₁.get? b=GS o:=λb o e=>a0h.extBut b o (Og (NX e)) (NO _ e);have I4:=Cm (t':=s.toks) S I3 YI (h':=h₁) a0g k1;have a20:tn 0 h₁:=T.keep _ _ _ ht λb hb o e=>k1 b o (NO _ e);have YJ:Qg (NY X.prog X.w) X.A (.compLoop (.ListComp WI [⟨tg,iter,WH,0⟩] scope pos) 0 (.ref it) (.ref s.heap.objs.size) (bA X scope {s with heap:=s.heap.push {cls:= .type "list",data:= .seq ([]:List NF).toArray},toks:=s.toks} (aS H s.heap.objs.size (.lst [])) fp).env)
   (RR (.ref s.heap.objs.size) (bA X scope {s with heap:=s.heap.push {cls:= .type "list",data:= .seq ([]:List NF).toArray},toks:=s.toks} (aS H s.heap.objs.size (.lst [])) fp).env) {s with heap:=h₁,toks:=s.toks}:=
  CD S hc (hg _ _ _ _) (Yf _ _ _ _) (Yb _ _ I3 YI) I3 T YI (λτ H' s' I' q'=>hR _ _ _ τ H' s' I3 YI I' q') (hE _ _ _ I3 YI) (Nm I4) a20 (q _ hD)
 exact TJ YJ (T.self _ 0 _ _ _ a20 YJ)
def Iy (X:Cx) (V_:List (NH×Oi)) (scope:PJ) (fp:List NH) (EO:NF->Hp->Prop) (s3:NI) (H3:Hp):NF->NI->Prop:=λe s'=>
 ∃a cls H' τ,e= .ref a/\au (bA X scope s3 H3 fp) [] τ H' s'/\Ir X V_ H' s'.heap a cls/\EO cls H'
theorem zx {H3:Hp} {s3:NI} (I:au X V_ σ H3 s3) (p:fA X) (Xo:∀b∈fp,i7 X V_ H3 b/\b<s3.heap.objs.size) {Wo:List (NH×Oi)} {τ:St} {H H':Hp} {s:NI} (I':au (bA X scope s3 H3 fp) Wo τ H s) {b:NH} (hb:s.heap.get? b=JT) (hH:H' b=JT):xF X V_ H' b:=by
 have Zw:∀o,s3.heap.get? b=GS o->b∉fp->False:=λo e n=>by
  obtain⟨o',e'⟩:=I'.base.there b o e n;rw[hb]at e';cases e'
 refine⟨?_,hH,λq hq z=> ?_⟩
 ·cases e:X.s₀.heap.get? b with
  |none=>rfl
  |some o=>
   obtain⟨o',e'⟩:=I.base.there b o e (by rw[p.ex];simp);refine(Zw o' e' λz=> ?_).elim;rcases(Xo b z).1.2.2.2.1 with y|y
   ·rw[p.ex]at y;cases y
   ·exact absurd (NX e) (Nat.not_lt.mpr y)
 ·have:=(I.pin q hq).1
  rw[z]at this;exact Zw _ this λy=>(Xo b y).1.2.2.2.2.2 q hq z
def Iz (X:Cx) (names:List (NG×NameKind)) (wi:TI) (g:TG) (tt:TT) (te:(NF->Hp->Prop)->TE) (gy:TG):TS:=λD σ H=>
 ∃EO:NF->Hp->Prop,(∀cls H' V_ s a,EO cls H'->au X V_ σ H' s->Fl X V_ H' s.heap a cls->X.xe (.ref a) s)/\
  wi σ H λJ H1=>∀p,H1 p=JT->jU J g tt (te EO) p (ou X.N names σ) (λH2=>gy (.ref p) σ H2 D.nx) (aS H1 p (.lst []))
theorem CF {y:NG} {py WW:Ox} {gy:TG} {te:(NF->Hp->Prop)->TE} (pl:fA X) (S:bz X scope) (hc:X.calm=true) (hi:PI X tg iter wi) (hg:∀s H ex E,PG (bI X scope s H ex E) tg g) (Yf:∀s H ex E,Cn (bI X scope s H ex E) WH tt) (Yb:∀V_ σ s3 H3 fp EO,au X V_ σ H3 s3->(∀b∈fp,i7 X V_ H3 b/\b<s3.heap.objs.size)->PE (bI X scope s3 H3 fp (Iy X V_ scope fp EO s3 H3)) WI (te EO)) (hy:PG X (.Name y py) gy) (Yg:ON (.ListComp WI [⟨tg,iter,WH,0⟩] scope pos) (GS (.Name y py)) WW.line X.env=pure true:=by rfl) (hs:∀x,P8 iter X.env x=pure x:=by intro _;rfl):PS X (.Assign [.Name y py] (.ListComp WI [⟨tg,iter,WH,0⟩] scope pos) WW) (Iz X scope.names wi g tt te gy):=by
 intro V_ s σ H D I h;obtain⟨EO,a5y,h⟩:=h;rw[TZ _ _ _ _ Yg];refine NJ (Q8 (NJ ?_));show wpAny _ X.A (do let _<-So (.ListComp WI [⟨tg,iter,WH,0⟩] scope pos) scope X.env _ (VE []) false (O8 iter X.env) (GS (Qu (.Name y py) X.env))) _ _ s;refine NJ (OS (yg (use:=GS (Qu (.Name y py) X.env)) (Q:=λ_ s'=>SP X V_ D .next s') rfl hs (uX (S.cellOf I.ok)) S.kind S.loc
  (bF (hi V_ s σ H _ I h) λv s1 h1=>bF h1 λa1S s2 h2=> ?_)) (λ_ s' hq=>NQ (NQ hq)) λ_ _ e=>e)
 obtain⟨it,fp,tn,J,H2,e,I2,T,Zt,f2,q⟩:=h2;subst e;refine AN (Q:=λp H2=>gy (.ref p) σ H2 D.nx) (EF:=Iy X V_ scope fp EO) (RR:=λWk cenv=>uf (NY X.prog X.w) X.A X.xe (GS (Qu (.Name y py) X.env)) (λ_ s'=>SP X V_ D .next s') Wk cenv) S hc hg Yf (λs3 H3 I3 f3=>Yb V_ σ s3 H3 fp EO I3 f3) I2 T f2 Zt ?_ ?_ q
 ·intro p H3 s3 τ H' s' I3 f3 I' q'
  have I':=Iw I';obtain⟨m,hm,_⟩:=I'.loc;obtain⟨oC,es,ep,a21,a1a,a3m,a3n⟩:=hm;have J1:au X V_ σ H' s':=qO (t':=s'.toks) (h':=s'.heap) I3 f3 I' λb o _ e=>e;have a22:H' s3.heap.objs.size=JT:=I'.free;have a1b:s3.heap.objs.size≠X.env.locals:=λz=>by have:=I3.lt;rw[<-z]at this;exact OA _ this
  have J2:au X (V_++[(s3.heap.objs.size,oC)]) σ H' s':=J1.pins_of λq hq=>by
   rcases OF.mp hq with hq|hq
   ·exact J1.pin q (O7 _ hq)
   ·have e:q=(s3.heap.objs.size,oC):=by simpa using hq
    subst e;exact⟨a21,a22,a1b,I3.nofs (O2 _),λv z=>by rw[a1a]at z;cases z⟩
  refine bF (hy _ s' σ H' (.ref p) (.ref p) D.nx J2 rfl q') λ_ Ye z_=> ?_;obtain⟨σ5,H5,I5,q5⟩:=z_;have hp:=I5.pin (s3.heap.objs.size,oC) (O7 _ (O7 _ NZ));refine⟨m,⟨oC,es,ep,hp.1,a1a,a3m,a3n⟩,λh' Wd=> ?_⟩;refine⟨σ5,H5,(I5.unpinned).turned (it:=s3.heap.objs.size) (t':=Ye.toks) (λb o hb e=>Wd.extBut b o hb e) hp.2.1 a1b (.inr I3.sz) (λx c hx z=> ?_) (λq hq z=> ?_),q5⟩
  ·obtain⟨v,o,ho,_⟩:=I3.cell x c hx
   have:=NX ho;rw[z]at this;exact OA _ this
  ·have:=(I3.pin q hq).1
   have:=NX this;rw[z]at this;exact OA _ this
 ·rintro p H3 s3 I3 f3 e s' ⟨a,cls,H',τ,rfl,I',fl,eo⟩
  obtain⟨m,hm,_⟩:=I'.loc;have J1:au X V_ σ H' s':=qO (t':=s'.toks) (h':=s'.heap) I3 f3 I' λb o _ e=>e;have a22:H' s3.heap.objs.size=JT:=I'.free;have a1b:s3.heap.objs.size≠X.env.locals:=λz=>by have:=I3.lt;rw[<-z]at this;exact OA _ this
  refine Fs J1 pl fl rfl λh1 J2 f2 up=> ?_;have a0i:=up.ns hm;refine⟨m,a0i,λh' Wd=> ?_⟩;have a2f:∀b o vs,h1.get? b=GS o->o.data= .fields vs->b≠s3.heap.objs.size:=λb o vs e1 e2 z=>by
   obtain⟨oC,es,ep,a21,a1a,_⟩:=a0i;subst z;have a4G:h1.get? (bA X scope s3 H3 fp).env.locals=GS o:=e1;rw[a21]at a4G;cases a4G;rw[a1a]at e2;cases e2
  have J3:au X V_ σ H' {s' with heap:=h'}:=au.turned (s:={s' with heap:=h1}) (it:=s3.heap.objs.size) (t':=s'.toks) J2 (λb o hb e=>Wd.extBut b o hb e) a22 a1b (.inr I3.sz) (λx c hx z=>by
   obtain⟨v,o,ho,_⟩:=I3.cell x c hx;have:=NX ho;rw[z]at this;exact OA _ this) (λq hq z=>by
   have:=(I3.pin q hq).1;have:=NX this;rw[z]at this;exact OA _ this)
  have f3:Ey X V_ H' h' a cls (rawInt X.env.locals):=by
   obtain⟨oe,vs,g1,g2,g3,T,g4,t⟩:=f2.at_;obtain⟨oT,ts,g5,g6,g7⟩:=t.at_;exact⟨f2.new,oe,vs,Wd.extBut a oe (a2f a oe vs g1 g3) g1,g2,g3,T,g4,t.new,t.ne,oT,ts,Wd.extBut T oT (a2f T oT ts g5 g6) g5,g6,g7⟩
  exact Ft (s:={s' with heap:=h'}) J3 pl f3 rfl λh2 J4 f4=>a5y cls H' V_ {s' with heap:=h2} a eo J4 (f4.flo (.inr rfl))
end
end L2
variable {F F' H1 F1:L2.Hp} {xs:List Int} {vs:List L2.V} {Q:L2.VK} {st:Ob} {m nm io:Nat} {u:L2.V} {Xg:Bool} {cls q:NG} {Wo:List (NH×Oi)} {a0u:List NF} {is:List Nat} {as:List NH} {z:NH} {Ow:NH->Prop}
namespace L2.Pu
structure cR where
 x:Nat
 C:NH
 fl:List (NG×Nat)
variable {ly:List cR}
inductive D where
 |non|bl (b:Bool)|int (i:Int)|str (x:NG)|tup (ds:List D)|lst (ds:List D)|dic (WN:List (aU×D))|ins (x:NG) (fs:List (NG×D))|scr (ns:List Int)|exc (x:NG)
mutual
inductive cD (K:ND) (F:Hp):V->D->Prop
 |non:cD K F .non .non
 |bl (b:Bool):cD K F (.bl b) (.bl b)
 |int (i:Int):cD K F (.int i) (.int i)
 |str (x:NG):cD K F (.str x) (.str x)
 |tup {a:NH} {vs:List V} {ds:List D}:F a=GS (.tup vs)->Reps K F vs ds->cD K F (.ref a) (.tup ds)
 |lst {a:NH} {vs:List V} {ds:List D}:F a=GS (.lst vs)->Reps K F vs ds->cD K F (.ref a) (.lst ds)
 |scr {a:NH} {ns:List Int}:cP K F a (ns.map V.int)->cD K F (.ref a) (.scr ns)
 |dic {a:NH} {kvs:List (aU×V)} {WN:List (aU×D)}:F a=GS (.dK kvs)->RepK K F kvs WN->(kvs.map (·.1)).Nodup->cD K F (.ref a) (.dic WN)
 |ins {a C dx:NH} {x:NG} {fs vs:List (NG×V)} {fds:List (NG×D)}:F a=GS (.ins C dx fs)->F dx=GS (.own a)->O0 K NU x=GS (GS (.ref C))->(∀p∈vs,fs.lookup p.1=GS p.2)->(∀f v,fs.lookup f=GS v->f∈vs.map (·.1))->RepF K F vs fds->cD K F (.ref a) (.ins x fds)
 |exc {a C:NH} {x:NG}:F a=GS (.ext (ju a (.ref C)))->O0 K NU x=GS (GS (.ref C))->cD K F (.ref a) (.exc x)
inductive Reps (K:ND) (F:Hp):List V->List D->Prop
 |nil:Reps K F [] []
 |cons {v:V} {d:D} {vs:List V} {ds:List D}:cD K F v d->Reps K F vs ds->Reps K F (v::vs) (d::ds)
inductive RepK (K:ND) (F:Hp):List (aU×V)->List (aU×D)->Prop
 |nil:RepK K F [] []
 |cons {k:aU} {v:V} {d:D} {vs:List (aU×V)} {ds:List (aU×D)}:cD K F v d->RepK K F vs ds->RepK K F ((k,v)::vs) ((k,d)::ds)
inductive RepF (K:ND) (F:Hp):List (NG×V)->List (NG×D)->Prop
 |nil:RepF K F [] []
 |cons {k:NG} {v:V} {d:D} {vs:List (NG×V)} {ds:List (NG×D)}:cD K F v d->RepF K F vs ds->RepF K F ((k,v)::vs) ((k,d)::ds)
end
theorem oz {a:NH} {xs:List V} (e:aB F F') (h:cP K F a xs):cP K F' a xs:=e.seq h
theorem cD.mono (e:aB F F') {v:V} {d:D} (h:cD K F v d):cD K F' v d:=
 cD.rec (motive_1:=λv d _=>cD K F' v d) (motive_2:=λv d _=>Reps K F' v d) (motive_3:=λv d _=>RepK K F' v d) (motive_4:=λv d _=>RepF K F' v d) .non .bl .int .str (λh _ r=> .tup (e _ _ h) r) (λh _ r=> .lst (e _ _ h) r) (λh=> .scr (oz e h)) (λh _ n r=> .dic (e _ _ h) r n) (λh h2 n l1 l2 _ r=> .ins (e _ _ h) (e _ _ h2) n l1 l2 r) (λh n=> .exc (e _ _ h) n) .nil (λ_ _ a b=> .cons a b) .nil (λ_ _ a b=> .cons a b) .nil (λ_ _ a b=> .cons a b) h
theorem Reps.mono (e:aB F F') {v:List V} {d:List D} (h:Reps K F v d):Reps K F' v d:=
 Reps.rec (motive_1:=λv d _=>cD K F' v d) (motive_2:=λv d _=>Reps K F' v d) (motive_3:=λv d _=>RepK K F' v d) (motive_4:=λv d _=>RepF K F' v d) .non .bl .int .str (λh _ r=> .tup (e _ _ h) r) (λh _ r=> .lst (e _ _ h) r) (λh=> .scr (oz e h)) (λh _ n r=> .dic (e _ _ h) r n) (λh h2 n l1 l2 _ r=> .ins (e _ _ h) (e _ _ h2) n l1 l2 r) (λh n=> .exc (e _ _ h) n) .nil (λ_ _ a b=> .cons a b) .nil (λ_ _ a b=> .cons a b) .nil (λ_ _ a b=> .cons a b) h
theorem RepK.mono (e:aB F F') {v:List (aU×V)} {d:List (aU×D)} (h:RepK K F v d):RepK K F' v d:=
 RepK.rec (motive_1:=λv d _=>cD K F' v d) (motive_2:=λv d _=>Reps K F' v d) (motive_3:=λv d _=>RepK K F' v d) (motive_4:=λv d _=>RepF K F' v d) .non .bl .int .str (λh _ r=> .tup (e _ _ h) r) (λh _ r=> .lst (e _ _ h) r) (λh=> .scr (oz e h)) (λh _ n r=> .dic (e _ _ h) r n) (λh h2 n l1 l2 _ r=> .ins (e _ _ h) (e _ _ h2) n l1 l2 r) (λh n=> .exc (e _ _ h) n) .nil (λ_ _ a b=> .cons a b) .nil (λ_ _ a b=> .cons a b) .nil (λ_ _ a b=> .cons a b) h
theorem RepF.mono (e:aB F F') {v:List (NG×V)} {d:List (NG×D)} (h:RepF K F v d):RepF K F' v d:=
 RepF.rec (motive_1:=λv d _=>cD K F' v d) (motive_2:=λv d _=>Reps K F' v d) (motive_3:=λv d _=>RepK K F' v d) (motive_4:=λv d _=>RepF K F' v d) .non .bl .int .str (λh _ r=> .tup (e _ _ h) r) (λh _ r=> .lst (e _ _ h) r) (λh=> .scr (oz e h)) (λh _ n r=> .dic (e _ _ h) r n) (λh h2 n l1 l2 _ r=> .ins (e _ _ h) (e _ _ h2) n l1 l2 r) (λh n=> .exc (e _ _ h) n) .nil (λ_ _ a b=> .cons a b) .nil (λ_ _ a b=> .cons a b) .nil (λ_ _ a b=> .cons a b) h
section
variable {K:ND} {F:Hp}
def CG (K:ND) (F:Hp) (v:V):D->Prop
 | .non=>v= .non
 | .bl b=>v= .bl b
 | .int i=>v= .int i
 | .str x=>v= .str x
 | .tup ds=>∃a vs,v= .ref a/\F a=GS (.tup vs)/\Reps K F vs ds
 | .lst ds=>∃a vs,v= .ref a/\F a=GS (.lst vs)/\Reps K F vs ds
 | .scr ns=>∃a,v= .ref a/\cP K F a (ns.map V.int)
 | .dic WN=>∃a kvs,v= .ref a/\F a=GS (.dK kvs)/\RepK K F kvs WN/\(kvs.map (·.1)).Nodup
 | .ins x fds=>∃a C dx fs vs,v= .ref a/\F a=GS (.ins C dx fs)/\O0 K NU x=GS (GS (.ref C))/\(∀p∈vs,fs.lookup p.1=GS p.2)/\(∀f v,fs.lookup f=GS v->f∈vs.map (·.1))/\RepF K F vs fds
 | .exc x=>∃a C,v= .ref a/\F a=GS (.ext (ju a (.ref C)))/\O0 K NU x=GS (GS (.ref C))
theorem cD.inv {v:V} {d:D} (h:cD K F v d):CG K F v d:=by
 cases h with
 |non=>exact rfl
 |bl=>exact rfl
 |int=>exact rfl
 |str=>exact rfl
 |tup h r=>exact⟨_,_,rfl,h,r⟩
 |lst h r=>exact⟨_,_,rfl,h,r⟩
 |scr h=>exact⟨_,rfl,h⟩
 |dic h r n=>exact⟨_,_,rfl,h,r,n⟩
 |ins h1 _ h3 h4 h5 h6=>exact⟨_,_,_,_,_,rfl,h1,h3,h4,h5,h6⟩
 |exc h n=>exact⟨_,_,rfl,h,n⟩
theorem RepK.nilI {vs:List (aU×V)} (h:RepK K F vs []):vs=[]:=by cases h;rfl
theorem RepK.consI {vs:List (aU×V)} {k:aU} {d:D} {ds:List (aU×D)} (h:RepK K F vs ((k,d)::ds)):∃v us,vs=(k,v)::us/\cD K F v d/\RepK K F us ds:=by
 cases h with
 |cons r t=>exact⟨_,_,rfl,r,t⟩
theorem Reps.nilI (h:Reps K F vs []):vs=[]:=by cases h;rfl
theorem Reps.consI {d:D} {ds:List D} (h:Reps K F vs (d::ds)):∃v us,vs=v::us/\cD K F v d/\Reps K F us ds:=by
 cases h with
 |cons r t=>exact⟨_,_,rfl,r,t⟩
theorem cD.intI {v:V} {i:Int} (h:cD K F v (.int i)):v= .int i:=h.inv
theorem cD.tupI {v:V} {ds:List D} (h:cD K F v (.tup ds)):∃a vs,v= .ref a/\F a=GS (.tup vs)/\Reps K F vs ds:=h.inv
theorem Reps.int1 {i:Int} (h:Reps K F vs [.int i]):vs=[.int i]:=by
 obtain⟨v,us,rfl,r,t⟩:=h.consI;rw[t.nilI,r.intI]
theorem Reps.int2 {i j:Int} (h:Reps K F vs [.int i, .int j]):vs=[.int i, .int j]:=by
 obtain⟨v,us,rfl,r,t⟩:=h.consI;rw[t.int1,r.intI]
theorem Reps.length:∀{vs:List V} {ds:List D},Reps K F vs ds->vs.length=ds.length:=by
 intro vs ds
 induction ds generalizing vs with
 |nil=>intro h;rw[h.nilI];rfl
 |cons d ds ih=>
  intro h;obtain⟨v,us,rfl,_,t⟩:=h.consI;rw[O3,O3,ih t]
theorem RepK.length:∀{vs:List (aU×V)} {ds:List (aU×D)},RepK K F vs ds->vs.length=ds.length:=by
 intro vs ds
 induction ds generalizing vs with
 |nil=>intro h;rw[h.nilI];rfl
 |cons d ds ih=>
  intro h;obtain⟨v,us,rfl,_,t⟩:=RepK.consI (k:=d.1) (d:=d.2) h;rw[O3,O3,ih t]
theorem Reps.append:∀{vs us:List V} {ds es:List D},Reps K F vs ds->Reps K F us es->Reps K F (vs++us) (ds++es):=by
 intro vs us ds
 induction ds generalizing vs with
 |nil=>intro es h g;rw[h.nilI];exact g
 |cons d ds ih=>
  intro es h g;obtain⟨v,us,rfl,r,t⟩:=h.consI;exact .cons r (ih t g)
theorem Reps.get:∀{vs:List V} {ds:List D} {i:Nat} {d:D},Reps K F vs ds->ds[i]? =GS d->∃v,vs[i]? =GS v/\cD K F v d
 |_,_,_,_, .nil,h=>by simp at h
 |_,_,0,_, .cons r t,h=>by simp at h;subst h;exact⟨_,rfl,r⟩
 |_,_,i+1,_, .cons r t,h=>by
  obtain⟨v,h1,h2⟩:=t.get (i:=i) (by simpa using h);exact⟨v,by simpa using h1,h2⟩
theorem Reps.get':∀{vs:List V} {ds:List D} {i:Nat} {v:V},Reps K F vs ds->vs[i]? =GS v->∃d,ds[i]? =GS d/\cD K F v d
 |_,_,_,_, .nil,h=>by simp at h
 |_,_,0,_, .cons r t,h=>by simp at h;subst h;exact⟨_,rfl,r⟩
 |_,_,i+1,_, .cons r t,h=>by
  obtain⟨v,h1,h2⟩:=t.get' (i:=i) (by simpa using h);exact⟨v,by simpa using h1,h2⟩
theorem Reps.set:∀{vs:List V} {ds:List D} {v:V} {d:D} (i:Nat),Reps K F vs ds->cD K F v d->Reps K F (vs.set i v) (ds.set i d)
 |_,_,_,_,_, .nil,_=> .nil
 |_,_,_,_,0, .cons r t,h=> .cons h t
 |_,_,_,_,i+1, .cons r t,h=> .cons r (t.set i h)
theorem Reps.drop:∀{vs:List V} {ds:List D} (i:Nat),Reps K F vs ds->Reps K F (vs.drop i) (ds.drop i)
 |_,_,0,h=>h
 |_,_,_+1, .nil=> .nil
 |_,_,i+1, .cons r t=>t.drop i
theorem Reps.take:∀{vs:List V} {ds:List D} (i:Nat),Reps K F vs ds->Reps K F (vs.take i) (ds.take i)
 |_,_,0,h=> .nil
 |_,_,_+1, .nil=> .nil
 |_,_,i+1, .cons r t=> .cons r (t.take i)
theorem Reps.reverse {vs:List V} {ds:List D} (h:Reps K F vs ds):Reps K F vs.reverse ds.reverse:=by
 induction h using Reps.rec (motive_1:=λ_ _ _=>True) (motive_3:=λ_ _ _=>True) (motive_4:=λ_ _ _=>True)with
 |nil=>exact .nil
 |cons r t _ ih=>rw[Rv,Rv];exact ih.append (.cons r .nil)
 |_=>trivial
end
structure b8 (H F H' F':Hp):Prop where
 sub:aB F' H'
 keep:aB H H'
 grow:aB F F'
 new:∀a,F' a≠JT->F a≠JT\/H a=JT
theorem b8.refl {H F:Hp} (h:aB F H):b8 H F H F:=⟨h,aB.refl _,aB.refl _,λ_ h=> .inl h⟩
theorem b8.trans {H F H1 F1 H2 F2:Hp} (a:b8 H F H1 F1) (b:b8 H1 F1 H2 F2):b8 H F H2 F2:=
 ⟨b.sub,a.keep.trans b.keep,a.grow.trans b.grow,λx h=>(b.new x h).elim (λq=>a.new x q) λq=> .inr (a.keep.free q)⟩
theorem bJ {p:NH} {o:HO} (h:H p=JT):aB H (aS H p o):=λb u e=>by
 rw[aj (λz=>by rw[z,h]at e;cases e)];exact e
theorem b8.lay (s:aB F H) {p:NH} {o:HO} (h:H p=JT):b8 H F (aS H p o) (aS F p o):=by
 refine⟨λb u e=> ?_,bJ h,bJ (s.free h),λb e=> ?_⟩
 ·by_cases z:b=p
  ·subst z;rw[ar]at e ⊢;exact e
  ·rw[aj z]at e ⊢;exact s b u e
 ·by_cases z:b=p
  ·subst z;exact .inr h
  ·rw[aj z]at e;exact .inl e
theorem b8.layOwn (s:aB F H) {p:NH} {o:HO} (h:H p=JT):b8 H F (aS H p o) F:=
 ⟨s.trans (bJ h),bJ h,aB.refl _,λ_ e=> .inl e⟩
inductive Slot where
 |val (d:D)|own (d:D)|bor (d:D)|obj|cel (x:NG) (W5:List (NG×D)) (f:NG) (hs:List D)
def Slot.data:Slot->D
 | .val d=>d
 | .own d=>d
 | .bor d=>d
 | .obj=> .non
 | .cel .. => .non
def Slot.single:Slot->Bool
 | .obj=>true
 | .cel .. =>true
 |_=>false
abbrev aa:=List (Option Slot)
inductive im (K:ND) (F:Hp):HO->D->Prop
 |lst {vs:List V} {ds:List D}:Reps K F vs ds->im K F (.lst vs) (.lst ds)
 |dic {kvs:List (aU×V)} {WN:List (aU×D)}:RepK K F kvs WN->(kvs.map (·.1)).Nodup->im K F (.dK kvs) (.dic WN)
theorem im.mono {K:ND} {F F':Hp} (e:aB F F') {o:HO} {d:D}:im K F o d->im K F' o d
 | .lst r=> .lst (r.mono e)
 | .dic r n=> .dic (r.mono e) n
structure cF (ly:List cR)where
 H0:Hp
 F0:Hp
 B:Hp
 Er:NG->aa->Prop
 oa:Nat->Option NH:=λ_=>JT
 Fm:Hp:=λ_=>JT
structure lg (K:ND) (H0 H F:Hp) (a dx b:NH) (x:NG) (W5:List (NG×D)) (f:NG) (hs:List D):Prop where
 ex:∃C fs vs us,H a=GS (.ins C dx fs)/\O0 K NU x=GS (GS (.ref C))/\fs.lookup f=GS (.ref b)/\H b=GS (.lst us)/\Reps K F us hs/\RepF K F vs W5/\(∀p∈vs,fs.lookup p.1=GS p.2)/\
  (∀g v,fs.lookup g=GS v->g=f\/g∈vs.map (·.1))/\(fs.map (·.1)).Nodup/\f∉vs.map (·.1)
 own:H dx=GS (.own a)
 fa:F a=JT
 fd:F dx=JT
 fb:F b=JT
 za:H0 a=JT
 zd:H0 dx=JT
 zb:H0 b=JT
theorem b8.out (e:b8 H F H' F') {a:NH} {o:HO} (h:H a=GS o) (hF:F a=JT):F' a=JT:=by
 cases q:F' a with
 |none=>rfl
 |some u=>
  rcases e.new a (by rw[q];simp)with z|z
  ·exact absurd hF z
  ·rw[h]at z;cases z
theorem lg.step {H0:Hp} {a dx b:NH} {x:NG} {W5:List (NG×D)} {f:NG} {hs:List D} (h:lg K H0 H F a dx b x W5 f hs) (e:b8 H F H' F'):lg K H0 H' F' a dx b x W5 f hs:=by
 obtain⟨C,fs,vs,us,h1,h2,h3,h4,h5,h6,h7,h8⟩:=h.ex;exact⟨⟨C,fs,vs,us,e.keep _ _ h1,h2,h3,e.keep _ _ h4,h5.mono e.grow,h6.mono e.grow,h7,h8⟩,e.keep _ _ h.own,e.out h1 h.fa,e.out h.own h.fd,e.out h4 h.fb,h.za,h.zd,h.zb⟩
structure oA (K:ND) (H0:Hp) (ρ:aa) (σ:St) (H F:Hp):Prop where
 ex:∀(i:Nat) x W5 f hs,ρ[i]? =GS (GS (.cel x W5 f hs))->∃a dx b,σ[i]? =GS (GS (.ref a))/\lg K H0 H F a dx b x W5 f hs/\∀(j:Nat) d,ρ[j]? =GS (GS (.own d))->σ[j]? ≠GS (GS (.ref b))
 one:∀(i j:Nat) x W5 f hs s,ρ[i]? =GS (GS (.cel x W5 f hs))->ρ[j]? =GS (GS s)->s.single=true->i=j
theorem oA.no {H0:Hp} {ρ:aa} (h:∀(i:Nat) x W5 f hs,ρ[i]? ≠GS (GS (.cel x W5 f hs))):oA K H0 ρ σ H F:=⟨λi x W5 f hs e=>absurd e (h i x W5 f hs),λi j x W5 f hs s e=>absurd e (h i x W5 f hs)⟩
theorem oA.step {K:ND} {H0 H F H' F':Hp} {ρ:aa} {σ:St} (h:oA K H0 ρ σ H F) (e:b8 H F H' F'):oA K H0 ρ σ H' F':=
 ⟨λi x W5 f hs q=>by obtain⟨a,dx,b,h1,h2,h3⟩:=h.ex i x W5 f hs q;exact⟨a,dx,b,h1,h2.step e,h3⟩,h.one⟩
structure RI (K:ND) (c:cF ly) (ρ:aa) (σ:St) (H F:Hp):Prop where
 ext:b8 c.H0 c.F0 H F
 val:∀(i:Nat) d,ρ[i]? =GS (GS (.val d))->∃v,σ[i]? =GS (GS v)/\cD K F v d
 own:∀(i:Nat) d,ρ[i]? =GS (GS (.own d))->∃a o,σ[i]? =GS (GS (.ref a))/\H a=GS o/\F a=JT/\c.H0 a=JT/\im K F o d
 bor:∀(i:Nat) d,ρ[i]? =GS (GS (.bor d))->∃a o,σ[i]? =GS (GS (.ref a))/\c.B a=GS o/\im K c.F0 o d
 bh:aB c.B c.H0
 dis:∀(i j:Nat) d d' a,ρ[i]? =GS (GS (.own d))->ρ[j]? =GS (GS (.own d'))->σ[i]? =GS (GS (.ref a))->σ[j]? =GS (GS (.ref a))->i=j
 len:ρ.length=σ.length
 obj:∀L∈ly,ρ[L.x]? =GS (GS .obj)->∃a dx fs,(∀b,c.oa L.x=GS b->a=b)/\σ[L.x]? =GS (GS (.ref a))/\H a=GS (.ins L.C dx fs)/\H dx=GS (.own a)/\F a=JT/\F dx=JT/\c.H0 a=JT/\c.H0 dx=JT/\
  (∀p∈L.fl,fs.lookup p.1=(σ[p.2]?).join)/\(∀f v,fs.lookup f=GS v->f∈L.fl.map (·.1))/\(fs.map (·.1)).Nodup
 odis:∀L∈ly,∀L'∈ly,ρ[L.x]? =GS (GS .obj)->ρ[L'.x]? =GS (GS .obj)->∀a,σ[L.x]? =GS (GS (.ref a))->σ[L'.x]? =GS (GS (.ref a))->L=L'
 fm:aB c.Fm F
 cel:oA K c.H0 ρ σ H F
 pin:∀L∈ly,∀a,c.oa L.x=GS a->σ[L.x]? =GS (GS (.ref a))
def jW (ly:List cR) (i:Nat):Prop:=∀L∈ly,L.x≠i/\∀p∈L.fl,p.2≠i
theorem dB {i:Nat}:jW [] i:=λL h=>by cases h
theorem cK {L:cR} {ls:List cR} {i:Nat} (h:L.x≠i/\∀p∈L.fl,p.2≠i) (r:jW ls i):jW (L::ls) i:=λM hM=>by
 rcases NW.mp hM with rfl|hM
 ·exact h
 ·exact r M hM
section
variable {K:ND} {c:cF ly} {ρ:aa} {σ:St} {H F H' F':Hp}
theorem RI.step (r:RI K c ρ σ H F) (e:b8 H F H' F'):RI K c ρ σ H' F' where
 cel:=r.cel.step e
 pin:=r.pin
 obj:=λL hL hρ=>by
  obtain⟨a,dx,fs,h0,h1,h2,h3,h4,h5,h6,h7,h8⟩:=r.obj L hL hρ;exact⟨a,dx,fs,h0,h1,e.keep _ _ h2,e.keep _ _ h3,e.out h2 h4,e.out h3 h5,h6,h7,h8⟩
 odis:=r.odis
 fm:=r.fm.trans e.grow
 ext:=r.ext.trans e
 val:=λi d h=>by obtain⟨v,h1,h2⟩:=r.val i d h;exact⟨v,h1,h2.mono e.grow⟩
 own:=λi d h=>by
  obtain⟨a,o,h1,h2,h3,h4,h5⟩:=r.own i d h;refine⟨a,o,h1,e.keep _ _ h2,?_,h4,h5.mono e.grow⟩;cases q:F' a with
  |none=>rfl
  |some u=>
   rcases e.new a (by rw[q];simp)with z|z
   ·exact absurd h3 z
   ·rw[h2]at z;cases z
 bor:=r.bor
 bh:=r.bh
 dis:=r.dis
 len:=r.len
theorem RI.sub (r:RI K c ρ σ H F):aB F H:=r.ext.sub
theorem aq {α:Type} {l:List α} {i:Nat} {a b:α} (h:(l.set i a)[j]? =GS b):(i=j/\a=b/\i<l.length)\/(i≠j/\l[j]? =GS b):=by
 rw[Qn]at h;by_cases e:i=j
 ·rw[if_pos e]at h
  split at h
  ·cases h;exact .inl ⟨e,rfl,by assumption⟩
  ·cases h
 ·rw[if_neg e]at h;exact .inr ⟨e,h⟩
theorem fD {α:Type} {l:List α} {i:Nat} {a:α} (h:i<l.length):(l.set i a)[i]? =GS a:=by
 rw[Qn,if_pos rfl,if_pos h]
theorem af {α:Type} {l:List α} {i:Nat} {a:α} (h:i≠j):(l.set i a)[j]? =l[j]? :=by
 rw[Qn,if_neg h]
theorem oA.set {K:ND} {H0:Hp} {ρ:aa} {σ:St} {H F:Hp} (h:oA K H0 ρ σ H F) (i:Nat) {s:Option Slot} {v:Option V} (hn:∀s',s=GS s'->s'.single=false) (ho:∀d,s=GS (.own d)->∀(j:Nat) x W5 f hs a C dx fs b,ρ[j]? =GS (GS (.cel x W5 f hs))->σ[j]? =GS (GS (.ref a))->H a=GS (.ins C dx fs)->fs.lookup f=GS (.ref b)->v≠GS (.ref b)):oA K H0 (ρ.set i s) (σ.set i v) H F:=by
 refine⟨λj x W5 f hs q=> ?_,λj k x W5 f hs s' q q2 Wd=> ?_⟩
 ·rcases aq q with ⟨_,z,_⟩|⟨z,q⟩
  ·have:=hn _ z;cases this
  ·obtain⟨a,dx,b,h1,h2,h3⟩:=h.ex j x W5 f hs q
   refine⟨a,dx,b,by rw[af z];exact h1,h2,λk d w=> ?_⟩;rcases aq w with ⟨rfl,z',l⟩|⟨z',w⟩
   ·obtain⟨C,fs,vs,us,g1,g2,g3,_⟩:=h2.ex
    intro e;rw[Qn]at e;split at e
    ·split at e
     ·exact ho d z' j x W5 f hs a C dx fs b q h1 g1 g3 (by simpa using e)
     ·cases e
    ·rename_i ne;exact absurd rfl ne
   ·rw[af z'];exact h3 k d w
 ·rcases aq q with ⟨_,z,_⟩|⟨z,q⟩
  ·have:=hn _ z;cases this
  ·rcases aq q2 with ⟨_,z',_⟩|⟨z',q2⟩
   ·have:=hn _ z';rw[Wd]at this;cases this
   ·exact h.one j k x W5 f hs s' q q2 Wd
theorem RI.setVal (r:RI K c ρ σ H F) (i:Nat) {v:V} {d:D} (hf:jW ly i) (h:cD K F v d):RI K c (ρ.set i (GS (.val d))) (σ.set i (GS v)) H F where
 cel:=r.cel.set i (λs' e=>by cases e;rfl) (λd e=>by cases e)
 pin:=λL hL a h=>by rw[af (hf L hL).1.symm];exact r.pin L hL a h
 obj:=λL hL hρ=>by
  rw[af (hf L hL).1.symm]at hρ;obtain⟨a,dx,fs,h0,h1,h2,h3,h4,h5,h6,h7,h8,h9⟩:=r.obj L hL hρ;refine⟨a,dx,fs,h0,by rw[af (hf L hL).1.symm];exact h1,h2,h3,h4,h5,h6,h7,λp hp=> ?_,h9⟩;rw[af ((hf L hL).2 p hp).symm];exact h8 p hp
 odis:=λL hL L' YD q1 q2 a k1 k2=>by
  rw[af (hf L hL).1.symm]at k1 q1;rw[af (hf L' YD).1.symm]at k2 q2;exact r.odis L hL L' YD q1 q2 a k1 k2
 fm:=r.fm
 ext:=r.ext
 val:=λj e q=>by
  rcases aq q with ⟨rfl,z,l⟩|⟨z,q⟩
  ·cases z;exact⟨v,fD (by rw[<-r.len];exact l),h⟩
  ·rw[af z];exact r.val j e q
 own:=λj e q=>by
  rcases aq q with ⟨rfl,z,l⟩|⟨z,q⟩
  ·cases z
  ·rw[af z];exact r.own j e q
 bor:=λj e q=>by
  rcases aq q with ⟨rfl,z,l⟩|⟨z,q⟩
  ·cases z
  ·rw[af z];exact r.bor j e q
 bh:=r.bh
 dis:=λj k e e' a q1 q2 q3 q4=>by
  rcases aq q1 with ⟨rfl,z,l⟩|⟨z,q1⟩
  ·cases z
  ·rcases aq q2 with ⟨rfl,z',l⟩|⟨z',q2⟩
   ·cases z'
   ·rw[af z]at q3;rw[af z']at q4
    exact r.dis j k e e' a q1 q2 q3 q4
 len:=by simp[r.len]
theorem RI.setNone (r:RI K c ρ σ H F) (i:Nat) {v:Option V} (hf:jW ly i):RI K c (ρ.set i JT) (σ.set i v) H F where
 cel:=r.cel.set i (λs' e=>by cases e) (λd e=>by cases e)
 pin:=λL hL a h=>by rw[af (hf L hL).1.symm];exact r.pin L hL a h
 obj:=λL hL hρ=>by
  rw[af (hf L hL).1.symm]at hρ;obtain⟨a,dx,fs,h0,h1,h2,h3,h4,h5,h6,h7,h8,h9⟩:=r.obj L hL hρ;refine⟨a,dx,fs,h0,by rw[af (hf L hL).1.symm];exact h1,h2,h3,h4,h5,h6,h7,λp hp=> ?_,h9⟩;rw[af ((hf L hL).2 p hp).symm];exact h8 p hp
 odis:=λL hL L' YD q1 q2 a k1 k2=>by
  rw[af (hf L hL).1.symm]at k1 q1;rw[af (hf L' YD).1.symm]at k2 q2;exact r.odis L hL L' YD q1 q2 a k1 k2
 fm:=r.fm
 ext:=r.ext
 val:=λj e q=>by
  rcases aq q with ⟨rfl,z,l⟩|⟨z,q⟩
  ·cases z
  ·rw[af z];exact r.val j e q
 own:=λj e q=>by
  rcases aq q with ⟨rfl,z,l⟩|⟨z,q⟩
  ·cases z
  ·rw[af z];exact r.own j e q
 bor:=λj e q=>by
  rcases aq q with ⟨rfl,z,l⟩|⟨z,q⟩
  ·cases z
  ·rw[af z];exact r.bor j e q
 bh:=r.bh
 dis:=λj k e e' a q1 q2 q3 q4=>by
  rcases aq q1 with ⟨rfl,z,l⟩|⟨z,q1⟩
  ·cases z
  ·rcases aq q2 with ⟨rfl,z',l⟩|⟨z',q2⟩
   ·cases z'
   ·rw[af z]at q3;rw[af z']at q4
    exact r.dis j k e e' a q1 q2 q3 q4
 len:=by simp[r.len]
theorem RI.setOwn (r:RI K c ρ σ H F) (i:Nat) {a:NH} {o:HO} {d:D} (hf:jW ly i) (h:H a=GS o) (hF:F a=JT) (h0:c.H0 a=JT) (q:im K F o d)
  (ne:∀(j:Nat) d',j≠i->ρ[j]? =GS (GS (.own d'))->σ[j]? ≠GS (GS (.ref a)))
  (nb:∀(j:Nat) x W5 f hs a' C dx fs,ρ[j]? =GS (GS (.cel x W5 f hs))->σ[j]? =GS (GS (.ref a'))->H a'=GS (.ins C dx fs)->fs.lookup f≠GS (.ref a)):RI K c (ρ.set i (GS (.own d))) (σ.set i (GS (.ref a))) H F where
 cel:=r.cel.set i (λs' e=>by cases e;rfl) (λd e j x W5 f hs a' C dx fs b q1 q2 q3 q4 z=>by cases z;exact nb j x W5 f hs a' C dx fs q1 q2 q3 q4)
 pin:=λL hL b h=>by rw[af (hf L hL).1.symm];exact r.pin L hL b h
 obj:=λL hL hρ=>by
  rw[af (hf L hL).1.symm]at hρ;obtain⟨b,dx,fs,h0,h1,h2,h3,h4,h5,h6,h7,h8,h9⟩:=r.obj L hL hρ;refine⟨b,dx,fs,h0,by rw[af (hf L hL).1.symm];exact h1,h2,h3,h4,h5,h6,h7,λp hp=> ?_,h9⟩;rw[af ((hf L hL).2 p hp).symm];exact h8 p hp
 odis:=λL hL L' YD q1 q2 b k1 k2=>by
  rw[af (hf L hL).1.symm]at k1 q1;rw[af (hf L' YD).1.symm]at k2 q2;exact r.odis L hL L' YD q1 q2 b k1 k2
 fm:=r.fm
 ext:=r.ext
 val:=λj e q=>by
  rcases aq q with ⟨rfl,z,l⟩|⟨z,q⟩
  ·cases z
  ·rw[af z];exact r.val j e q
 own:=λj e q'=>by
  rcases aq q' with ⟨rfl,z,l⟩|⟨z,q'⟩
  ·cases z;exact⟨a,o,fD (by rw[<-r.len];exact l),h,hF,h0,q⟩
  ·rw[af z];exact r.own j e q'
 bor:=λj e q=>by
  rcases aq q with ⟨rfl,z,l⟩|⟨z,q⟩
  ·cases z
  ·rw[af z];exact r.bor j e q
 bh:=r.bh
 dis:=λj k e e' b q1 q2 q3 q4=>by
  rcases aq q1 with ⟨rfl,z,l⟩|⟨z,q1⟩
  ·rw[fD (by rw[<-r.len];exact l)]at q3
   cases q3;rcases aq q2 with ⟨rfl,z',l⟩|⟨z',q2⟩
   ·rfl
   ·rw[af z']at q4
    exact absurd q4 (ne k e' (Py z') q2)
  ·rw[af z]at q3
   rcases aq q2 with ⟨rfl,z',l⟩|⟨z',q2⟩
   ·rw[fD (by rw[<-r.len];exact l)]at q4
    cases q4;exact absurd q3 (ne j e (Py z) q1)
   ·rw[af z']at q4
    exact r.dis j k e e' b q1 q2 q3 q4
 len:=by simp[r.len]
theorem RI.celNe (r:RI K c ρ σ H F) {H2:Hp} (k:aB H H2) {p:NH} (hp:H p=JT):∀(j:Nat) x W5 f hs a' C dx fs,ρ[j]? =GS (GS (.cel x W5 f hs))->σ[j]? =GS (GS (.ref a'))->H2 a'=GS (.ins C dx fs)->fs.lookup f≠GS (.ref p):=λj x W5 f hs a' C dx fs q1 q2 q3 q4=>by
 obtain⟨a,a7n,b,h1,h2,_⟩:=r.cel.ex j x W5 f hs q1;rw[q2]at h1;cases h1;obtain⟨C0,a7o,vs,us,g1,g2,g3,g4,_⟩:=h2.ex;rw[k _ _ g1]at q3;cases q3;rw[g3]at q4;cases q4;rw[hp]at g4;cases g4
theorem RI.setNew (r:RI K c ρ σ H F) (i:Nat) {a:NH} {o:HO} {d:D} (hf:jW ly i) (h:H a=JT) (q:im K F o d):RI K c (ρ.set i (GS (.own d))) (σ.set i (GS (.ref a))) (aS H a o) F:=by
 have r':=r.step (b8.layOwn r.sub (o:=o) h);refine r'.setOwn i hf ar (r.sub.free h) (r.ext.keep.free h) q (λj d' _ hj e=> ?_) (r.celNe (bJ h) h);obtain⟨b,o',h1,h2,_⟩:=r.own j d' hj;rw[e]at h1;cases h1;rw[h]at h2;cases h2
theorem RI.change (r:RI K c ρ σ H F) {i:Nat} {a:NH} {o o':HO} {d d':D} (hi:ρ[i]? =GS (GS (.own d))) (hs:σ[i]? =GS (GS (.ref a))) (q:im K F o' d'): RI K c (ρ.set i (GS (.own d'))) σ (aS H a o') F:=by
 obtain⟨b,u,h1,h2,h3,h4,h5⟩:=r.own i d hi;rw[hs]at h1;cases h1;refine⟨⟨λx y e=> ?_,λx y e=> ?_,r.ext.grow,r.ext.new⟩,λj e w=> ?_,λj e w=> ?_,λj e w=> ?_,r.bh,λj k e e' x q1 q2 q3 q4=> ?_,by simp[r.len],λL hL hρ=> ?_,λL hL L' YD q1 q2=> ?_,r.fm,⟨λj x W5 f hs w=> ?_,λj k x W5 f hs s w w2 Wd=> ?_⟩,r.pin⟩
 ·rw[aj (λz=>by rw[z,h3]at e;cases e)];exact r.sub x y e
 ·rw[aj (λz=>by rw[z,h4]at e;cases e)];exact r.ext.keep x y e
 ·rcases aq w with ⟨rfl,z,l⟩|⟨z,w⟩
  ·cases z
  ·exact r.val j e w
 ·rcases aq w with ⟨rfl,z,l⟩|⟨z,w⟩
  ·cases z;exact⟨a,o',hs,ar,h3,h4,q⟩
  ·obtain⟨x,y,k1,k2,k3,k4,k5⟩:=r.own j e w
   refine⟨x,y,k1,?_,k3,k4,k5⟩;rw[aj (λzz=>by subst zz;exact z (r.dis i j d e x hi w hs k1))];exact k2
 ·rcases aq w with ⟨rfl,z,l⟩|⟨z,w⟩
  ·cases z
  ·exact r.bor j e w
 ·have own_of:∀{l:Nat} {x:D},(ρ.set i (GS (.own d')))[l]? =GS (GS (.own x))->∃y,ρ[l]? =GS (GS (.own y)):=λ{l x} w=>by
   rcases aq w with ⟨rfl,z,_⟩|⟨z,w⟩
   ·exact⟨d,hi⟩
   ·exact⟨x,w⟩
  obtain⟨y1,w1⟩:=own_of q1;obtain⟨y2,w2⟩:=own_of q2;exact r.dis j k y1 y2 x w1 w2 q3 q4
 ·have a3P:ρ[L.x]? =GS (GS .obj):=by
   rcases aq hρ with ⟨_,z,_⟩|⟨_,w⟩
   ·cases z
   ·exact w
  obtain⟨b,dx,fs,k0,k1,k2,k3,k4⟩:=r.obj L hL a3P;have n1:b≠a:=λz=>by subst z;rw[k2]at h2;cases h2;cases h5
  have n2:dx≠a:=λz=>by subst z;rw[k3]at h2;cases h2;cases h5
  exact⟨b,dx,fs,k0,k1,by rw[aj n1];exact k2,by rw[aj n2];exact k3,k4⟩
 ·refine r.odis L hL L' YD ?_ ?_
  ·rcases aq q1 with ⟨_,z,_⟩|⟨_,w⟩
   ·cases z
   ·exact w
  ·rcases aq q2 with ⟨_,z,_⟩|⟨_,w⟩
   ·cases z
   ·exact w
 ·rcases aq w with ⟨rfl,z,l⟩|⟨z,w⟩
  ·cases z
  ·obtain⟨b,dx,bb,k1,k2,k3⟩:=r.cel.ex j x W5 f hs w
   obtain⟨C,fs,vs,us,g1,g2,g3,g4,g5⟩:=k2.ex;have n1:b≠a:=λz=>by subst z;rw[g1]at h2;cases h2;cases h5
   have n2:dx≠a:=λz=>by subst z;rw[k2.own]at h2;cases h2;cases h5
   have n3:bb≠a:=λz=>by subst z;exact k3 i d hi hs
   refine⟨b,dx,bb,k1,⟨⟨C,fs,vs,us,by rw[aj n1];exact g1,g2,g3,by rw[aj n3];exact g4,g5⟩,by rw[aj n2];exact k2.own,k2.fa,k2.fd,k2.fb,k2.za,k2.zd,k2.zb⟩,λk e w2=> ?_⟩;rcases aq w2 with ⟨rfl,z',l⟩|⟨z',w2⟩
   ·exact k3 i d hi
   ·exact k3 k e w2
 ·rcases aq w with ⟨rfl,z,l⟩|⟨z,w⟩
  ·cases z
  ·rcases aq w2 with ⟨rfl,z',l⟩|⟨z',w2⟩
   ·cases z';cases Wd
   ·exact r.cel.one j k x W5 f hs s w w2 Wd
end
def frz1 (i:Nat) (ρ:aa):aa:=match ρ[i]? with
 |some (GS (.own d))=>ρ.set i (GS (.val d))
 |_=>ρ
def frz (L:List Nat) (ρ:aa):aa:=L.foldl (λr i=>frz1 i r) ρ
theorem RI.frz1 {K:ND} {c:cF ly} {ρ:aa} {σ:St} {H F:Hp} (r:RI K c ρ σ H F) (i:Nat):∃F',aB F F'/\RI K c (frz1 i ρ) σ H F':=by
 unfold L2.Pu.frz1;split
 ·rename_i d hi
  obtain⟨a,o,h1,h2,h3,h4,h5⟩:=r.own i d hi;have g:aB F (aS F a o):=bJ h3;refine⟨aS F a o,g,⟨⟨λb u e=> ?_,r.ext.keep,r.ext.grow.trans g,λb e=> ?_⟩,λj e w=> ?_,λj e w=> ?_,λj e w=> ?_,r.bh,λj k e e' x q1 q2 q3 q4=> ?_,by simp[r.len],λL hL hρ=> ?_,λL hL L' YD q1 q2=> ?_,r.fm.trans g,⟨λj x W5 f hs w=> ?_,λj k x W5 f hs s w w2 Wd=> ?_⟩,r.pin⟩⟩
  ·by_cases z:b=a
   ·subst z;rw[ar]at e;rw[h2];exact e
   ·rw[aj z]at e;exact r.sub b u e
  ·by_cases z:b=a
   ·subst z;exact .inr h4
   ·rw[aj z]at e;exact r.ext.new b e
  ·rcases aq w with ⟨rfl,z,l⟩|⟨z,w⟩
   ·cases z
    refine⟨.ref a,h1,?_⟩;cases h5 with
    |lst q=>exact .lst ar (q.mono g)
    |dic q n=>exact .dic ar (q.mono g) n
   ·obtain⟨v,k1,k2⟩:=r.val j e w;exact⟨v,k1,k2.mono g⟩
  ·rcases aq w with ⟨rfl,z,l⟩|⟨z,w⟩
   ·cases z
   ·obtain⟨x,y,k1,k2,k3,k4,k5⟩:=r.own j e w
    refine⟨x,y,k1,k2,?_,k4,k5.mono g⟩;rw[aj (λzz=>by subst zz;exact z (r.dis i j d e x hi w h1 k1))];exact k3
  ·rcases aq w with ⟨rfl,z,l⟩|⟨z,w⟩
   ·cases z
   ·exact r.bor j e w
  ·rcases aq q1 with ⟨rfl,z,l⟩|⟨z,q1⟩
   ·cases z
   ·rcases aq q2 with ⟨rfl,z',l⟩|⟨z',q2⟩
    ·cases z'
    ·exact r.dis j k e e' x q1 q2 q3 q4
  ·have a3P:ρ[L.x]? =GS (GS .obj):=by
    rcases aq hρ with ⟨_,z,_⟩|⟨_,w⟩
    ·cases z
    ·exact w
   obtain⟨b,dx,fs,k0,k1,k2,k3,k4,k5,k6⟩:=r.obj L hL a3P;have n1:b≠a:=λz=>by subst z;rw[k2]at h2;cases h2;cases h5
   have n2:dx≠a:=λz=>by subst z;rw[k3]at h2;cases h2;cases h5
   exact⟨b,dx,fs,k0,k1,k2,k3,by rw[aj n1];exact k4,by rw[aj n2];exact k5,k6⟩
  ·refine r.odis L hL L' YD ?_ ?_
   ·rcases aq q1 with ⟨_,z,_⟩|⟨_,w⟩
    ·cases z
    ·exact w
   ·rcases aq q2 with ⟨_,z,_⟩|⟨_,w⟩
    ·cases z
    ·exact w
  ·rcases aq w with ⟨rfl,z,l⟩|⟨z,w⟩
   ·cases z
   ·obtain⟨b,dx,bb,k1,k2,k3⟩:=r.cel.ex j x W5 f hs w
    obtain⟨C,fs,vs,us,g1,g2,g3,g4,g5,g6,g7⟩:=k2.ex;have n1:b≠a:=λz=>by subst z;rw[g1]at h2;cases h2;cases h5
    have n2:dx≠a:=λz=>by subst z;rw[k2.own]at h2;cases h2;cases h5
    have n3:bb≠a:=λz=>by subst z;exact k3 i d hi h1
    refine⟨b,dx,bb,k1,⟨⟨C,fs,vs,us,g1,g2,g3,g4,g5.mono g,g6.mono g,g7⟩,k2.own,by rw[aj n1];exact k2.fa,by rw[aj n2];exact k2.fd,by rw[aj n3];exact k2.fb,k2.za,k2.zd,k2.zb⟩,λk e w2=> ?_⟩;rcases aq w2 with ⟨rfl,z',l⟩|⟨z',w2⟩
    ·cases z'
    ·exact k3 k e w2
  ·rcases aq w with ⟨rfl,z,l⟩|⟨z,w⟩
   ·cases z
   ·rcases aq w2 with ⟨rfl,z',l⟩|⟨z',w2⟩
    ·cases z';cases Wd
    ·exact r.cel.one j k x W5 f hs s w w2 Wd
 ·exact⟨F,aB.refl _,r⟩
theorem RI.frz {K:ND} {c:cF ly} {σ:St} {H:Hp}:∀(L:List Nat) {ρ:aa} {F:Hp},RI K c ρ σ H F->∃F',aB F F'/\RI K c (frz L ρ) σ H F'
 |[],ρ,F,r=>⟨F,aB.refl _,r⟩
 |i::L,ρ,F,r=>by
  obtain⟨F1,g1,r1⟩:=r.frz1 i;obtain⟨F2,g2,r2⟩:=RI.frz L r1;exact⟨F2,g1.trans g2,r2⟩
end L2.Pu
variable {fd:Pc} {ρ:L2.Pu.aa} {Er:NG->L2.Pu.aa->Prop} {C:NH} {y:L2.Pu.D} {W5:List (NG×L2.Pu.D)} {hs:List L2.Pu.D}
namespace L2.Pu
variable {ly:List cR}
inductive R (α:Type)where
 |ok (a:α)|err (c:NG) (ρ:aa)|bad
def R.bind {α β:Type}:R α->(α->R β)->R β
 | .ok a,f=>f a
 | .err c ρ,_=> .err c ρ
 | .bad,_=> .bad
instance:Monad R where
 pure:=R.ok
 bind:=R.bind
@[simp] theorem ag {α β:Type} (a:α) (f:α->R β):(R.ok a>>=f)=f a:=rfl
@[simp] theorem KH {α β:Type} (c:NG) (ρ:aa) (f:α->R β):(R.err c ρ>>=f)=R.err c ρ:=rfl
@[simp] theorem KI {α β:Type} (f:α->R β):(R.bad>>=f)=R.bad:=rfl
@[simp] theorem LN {α:Type} (a:α):(pure a:R α)=R.ok a:=rfl
def R.of {α:Type}:Option α->R α
 |some a=> .ok a
 |none=> .bad
@[simp] theorem cV {α:Type} (a:α):R.of (GS a)= .ok a:=rfl
@[simp] theorem LO {α:Type}:R.of (JT:Option α)= .bad:=rfl
def aw {α:Type} (c:cF ly) (r:R α) (P:α->Prop):Prop:=match r with
 | .ok a=>P a
 | .err e ρ=>c.Er e ρ
 | .bad=>False
theorem aw.imp {α:Type} {c:cF ly} {r:R α} {P P':α->Prop} (h:aw c r P) (w:∀a,r= .ok a->P a->P' a):aw c r P':=by
 cases r with
 |ok a=>exact w a rfl h
 |err e ρ=>exact h
 |bad=>exact h
theorem aw.bind {α β:Type} {c:cF ly} {r:R α} {f:α->R β} {P:β->Prop}:aw c (r>>=f) P<->aw c r λa=>aw c (f a) P:=by
 cases r<;>exact Iff.rfl
theorem aw.of {α:Type} {c:cF ly} {r:Option α} {P:α->Prop} (h:aw c (R.of r) P):∃a,r=GS a/\P a:=by
 cases r with
 |none=>exact h.elim
 |some a=>exact⟨a,rfl,h⟩
def b_ (K:ND) (H F:Hp) (v:V) (d:D):Prop:=cD K F v d\/∃a o,v= .ref a/\H a=GS o/\im K F o d
theorem b_.mono {K:ND} {H F H' F':Hp} {v:V} {d:D} (e:b8 H F H' F'):b_ K H F v d->b_ K H' F' v d
 | .inl r=> .inl (r.mono e.grow)
 | .inr ⟨a,o,h1,h2,h3⟩=> .inr ⟨a,o,h1,e.keep _ _ h2,h3.mono e.grow⟩
theorem b_.lst {K:ND} {H F:Hp} {v:V} {ds:List D} (s:aB F H) (h:b_ K H F v (.lst ds)):∃a vs,v= .ref a/\H a=GS (.lst vs)/\Reps K F vs ds:=by
 rcases h with h|⟨a,o,h1,h2,q⟩
 ·obtain⟨a,vs,e,h,r⟩:=h.inv
  exact⟨a,vs,e,s _ _ h,r⟩
 ·cases q with
  |lst r=>exact⟨_,_,h1,h2,r⟩
theorem b_.dic {K:ND} {H F:Hp} {v:V} {ds:List (aU×D)} (s:aB F H) (h:b_ K H F v (.dic ds)):∃a vs,v= .ref a/\H a=GS (.dK vs)/\RepK K F vs ds/\(vs.map (·.1)).Nodup:=by
 rcases h with h|⟨a,o,h1,h2,q⟩
 ·obtain⟨a,vs,e,h,r⟩:=h.inv
  exact⟨a,vs,e,s _ _ h,r⟩
 ·cases q with
  |dic r n=>exact⟨_,_,h1,h2,r,n⟩
def Nn:D->Bool
 | .lst _=>true
 | .dic _=>true
 |_=>false
theorem b_.in {v:V} {d:D} (h:b_ K H F v d) (n:Nn d=false):CG K F v d:=by
 rcases h with h|⟨a,o,h1,h2,q⟩
 ·exact h.inv
 ·cases q<;>cases n
theorem b_.tup {K:ND} {H F:Hp} {v:V} {ds:List D} (s:aB F H) (h:b_ K H F v (.tup ds)):∃a vs,v= .ref a/\H a=GS (.tup vs)/\Reps K F vs ds:=by
 obtain⟨a,vs,e,h,r⟩:=h.in rfl;exact⟨a,vs,e,s _ _ h,r⟩
theorem b_.scr {K:ND} {H F:Hp} {v:V} {ns:List Int} (s:aB F H) (h:b_ K H F v (.scr ns)):∃a,v= .ref a/\cP K H a (ns.map V.int):=by
 obtain⟨a,e,h⟩:=h.in rfl;exact⟨a,e,s.seq h⟩
theorem b_.int {K:ND} {H F:Hp} {v:V} {i:Int} (h:b_ K H F v (.int i)):v= .int i:=h.in rfl
theorem b_.bl {K:ND} {H F:Hp} {v:V} {i:Bool} (h:b_ K H F v (.bl i)):v= .bl i:=h.in rfl
theorem b_.str {K:ND} {H F:Hp} {v:V} {i:NG} (h:b_ K H F v (.str i)):v= .str i:=h.in rfl
theorem b_.non {K:ND} {H F:Hp} {v:V} (h:b_ K H F v .non):v= .non:=h.in rfl
inductive mY (K:ND) (H F:Hp):List V->List D->Prop
 |nil:mY K H F [] []
 |cons {v:V} {d:D} {vs:List V} {ds:List D}:b_ K H F v d->mY K H F vs ds->mY K H F (v::vs) (d::ds)
def cL (K:ND) (x:NG) (cls:NF):Prop:=∃C,cls= .ref C/\O0 K NU x=GS (GS (.ref C))
def Hb (X:Cx) (c:cF ly) (σ:St):XK:=λcls _ H'=>∃x ρ F',cL X.K x cls/\RI X.K c ρ σ H' F'/\c.Er x ρ
def IA (X:Cx) (c:cF ly):Prop:=(fA X/\∀V_ σ ρ H F s a cls x,au X V_ σ H s->RI X.K c ρ σ H F->Fl X V_ H s.heap a cls->cL X.K x cls->c.Er x ρ->X.xe (.ref a) s)\/(∀x ρ,¬c.Er x ρ)\/(X.stack=X.outer/\l9 (kX X.prog X.w) X (Hb X c))
abbrev eG (ly:List cR) (X:Cx):Type:={c:cF ly // IA X c}
theorem IA.no {c:cF ly} (h:∀x ρ,¬c.Er x ρ):IA X c:= .inr (.inl h)
theorem oB (c:eG ly X):l9 (kX X.prog X.w) X (Hb X c.1):=λV_ σ H s e s' I h=>by
 rcases c.2 with ⟨hp,a0B⟩|no|⟨_,ps⟩
 ·obtain⟨a,cls,H',rfl,I',fl,x,ρ,F',ec,ri,er⟩:=Iu I hp h
  exact a0B V_ σ ρ H' F' s' a cls x I' ri fl ec er
 ·obtain⟨a,cls,H',_,_,_,_,_,_,x,ρ,F',ec,ri,er⟩:=h
  exact absurd er (no x ρ)
 ·exact ps V_ σ H s e s' I h
theorem IA.plain {c:cF ly} (h:IA X c) (W_:X.stack=X.env::X.outer):(fA X/\∀V_ σ ρ H F s a cls x,au X V_ σ H s->RI X.K c ρ σ H F->Fl X V_ H s.heap a cls->cL X.K x cls->c.Er x ρ->X.xe (.ref a) s)\/∀x ρ,¬c.Er x ρ:=by
 rcases h with h|h|⟨h,_⟩
 ·exact .inl h
 ·exact .inr h
 ·rw[h]at W_
  have:=congrArg S5 W_;simp at this
def tQ (K:ND) (c:cF ly) (f:aa->R D):TE:=λσ H Q=>∃F ρ,RI K c ρ σ H F/\aw c (f ρ) λd=>∀v H' F',b8 H F H' F'->cD K F' v d->Q v H'
def tB' (K:ND) (c:cF ly) (f:aa->R D):TE:=λσ H Q=>∃F ρ,RI K c ρ σ H F/\aw c (f ρ) λd=>∀v H' F',b8 H F H' F'->b_ K H' F' v d->Q v H'
def tT (K:ND) (c:cF ly) (f:aa->R Bool):TT:=λσ H Q=>∃F ρ,RI K c ρ σ H F/\aw c (f ρ) λb=>∀H' F',b8 H F H' F'->Q b H'
def IB (K:ND) (c:cF ly) (f:aa->R (List D)):TA:=λσ H Q=>∃F ρ,RI K c ρ σ H F/\aw c (f ρ) λds=>∀vs H' F',b8 H F H' F'->Reps K F' vs ds->Q vs H'
def IC (K:ND) (c:cF ly) (f:aa->R (List D)):TA:=λσ H Q=>∃F ρ,RI K c ρ σ H F/\aw c (f ρ) λds=>∀vs H' F',b8 H F H' F'->mY K H' F' vs ds->Q vs H'
structure PQ (ly:List cR) (X:Cx) (e:NS) (f:aa->R D):Prop where
 ap:∀c:eG ly X,PE X e (tQ X.K c.1 f)
instance {ly:List cR} {X:Cx} {e:NS} {f:aa->R D}:CoeFun (PQ ly X e f) λ_=>∀c:eG ly X,PE X e (tQ X.K c.1 f):=⟨PQ.ap⟩
structure PB (ly:List cR) (X:Cx) (e:NS) (f:aa->R D):Prop where
 ap:∀c:eG ly X,PE X e (tB' X.K c.1 f)
instance {ly:List cR} {X:Cx} {e:NS} {f:aa->R D}:CoeFun (PB ly X e f) λ_=>∀c:eG ly X,PE X e (tB' X.K c.1 f):=⟨PB.ap⟩
structure mn (ly:List cR) (X:Cx) (e:NS) (f:aa->R Bool):Prop where
 ap:∀c:eG ly X,PT X e (tT X.K c.1 f)
instance {ly:List cR} {X:Cx} {e:NS} {f:aa->R Bool}:CoeFun (mn ly X e f) λ_=>∀c:eG ly X,PT X e (tT X.K c.1 f):=⟨mn.ap⟩
def zy (ly:List cR) (X:Cx) (e:NS) (f:aa->R Bool):Prop:=∀c:eG ly X,PW X e (tT X.K c.1 f)
structure t7 (ly:List cR) (X:Cx) (es:List NS) (f:aa->R (List D)):Prop where
 ap:∀c:eG ly X,PA X es (IB X.K c.1 f)
instance {ly:List cR} {X:Cx} {es:List NS} {f:aa->R (List D)}:CoeFun (t7 ly X es f) λ_=>∀c:eG ly X,PA X es (IB X.K c.1 f):=⟨t7.ap⟩
structure Hc (ly:List cR) (X:Cx) (es:List NS) (f:aa->R (List D)):Prop where
 ap:∀c:eG ly X,PA X es (IC X.K c.1 f)
instance {ly:List cR} {X:Cx} {es:List NS} {f:aa->R (List D)}:CoeFun (Hc ly X es f) λ_=>∀c:eG ly X,PA X es (IC X.K c.1 f):=⟨Hc.ap⟩
theorem PE.weak {t t':TE} (h:PE X e t) (w:∀σ H Q,t' σ H Q->t σ H Q):PE X e t':=λV_ s σ H Q I q=>h V_ s σ H Q I (w σ H Q q)
theorem PT.weak {t t':TT} (h:PT X e t) (w:∀σ H Q,t' σ H Q->t σ H Q):PT X e t':=λV_ s σ H Q I q=>h V_ s σ H Q I (w σ H Q q)
theorem PW.weak {t t':TT} (h:PW X e t) (w:∀σ H Q,t' σ H Q->t σ H Q):PW X e t':=λwh V_ s σ H Q I q=>h wh V_ s σ H Q I (w σ H Q q)
theorem PA.weak {e:List NS} {t t':TA} (h:PA X e t) (w:∀σ H Q,t' σ H Q->t σ H Q):PA X e t':=λpos V_ s σ H Q I q=>h pos V_ s σ H Q I (w σ H Q q)
theorem PS.weak {e:Ob} {t t':TS} (h:PS X e t) (w:∀D σ H,t' D σ H->t D σ H):PS X e t':=λV_ s σ H D I q=>h V_ s σ H D I (w D σ H q)
theorem qM.weak {e:List Ob} {t t':TS} (h:qM X e t) (w:∀D σ H,t' D σ H->t D σ H):qM X e t':=λV_ s σ H D I q=>h V_ s σ H D I (w D σ H q)
theorem PG.weak {t t':TG} (h:PG X e t) (w:∀v σ H Q,t' v σ H Q->t v σ H Q):PG X e t':=λV_ s σ H v u Q I r q=>h V_ s σ H v u Q I r (w v σ H Q q)
theorem two {c:cF ly} {fa fb:aa->R D} {g:D->D->R D} (h:tQ K c (λρ=>fa ρ>>=λx=>fb ρ>>=λy=>g x y) σ H Q) {T:V->V->Hp->Prop} (k:∀F H2 F2 v u x y,b8 H F H2 F2->b_ K H2 F2 v x->b_ K H2 F2 u y->aw c (g x y) (λd=>∀w H' F',b8 H F H' F'->cD K F' w d->Q w H')->T v u H2): tB' K c fa σ H λv H1=>tB' K c fb σ H1 λu H2=>T v u H2:=by
 obtain⟨F,ρ,ri,w⟩:=h;refine⟨F,ρ,ri,(aw.bind.mp w).imp λx hx w1 v H1 F1 e1 r1=>⟨F1,ρ,ri.step e1,(aw.bind.mp w1).imp λy hy w2 u H2 F2 e2 r2=> ?_⟩⟩;exact k F H2 F2 v u x y (e1.trans e2) (r1.mono e2) r2 w2
def i_ (K:ND) (r:R2) (g:D->D->Option D):Prop:=∀v u x y d H F Q,aB F H->b_ K H F v x->b_ K H F u y->g x y=GS d->(∀w H' F',b8 H F H' F'->cD K F' w d->Q w H')->r v u H Q
def KJ (K:ND) (r:V->Hp->VK->Prop) (g:D->Option D):Prop:=∀v x d H F Q,aB F H->b_ K H F v x->g x=GS d->(∀w H' F',b8 H F H' F'->cD K F' w d->Q w H')->r v H Q
def kY (K:ND) (r:List V->Hp->VK->Prop) (g:List D->Option D):Prop:=∀vs ds d H F Q,aB F H->mY K H F vs ds->g ds=GS d->(∀w H' F',b8 H F H' F'->cD K F' w d->Q w H')->r vs H Q
section
variable {X:Cx} {a b e:NS} {es:List NS} {fa fb f:aa->R D} {fs:aa->R (List D)} {pos:Ox}
theorem PQ.bo (h:PQ ly X e f):PB ly X e f:=⟨λc=>PE.weak (h c) λσ H Q ⟨F,ρ,ri,w⟩=>⟨F,ρ,ri,w.imp λd _ k v H' F' e r=>k v H' F' e (.inl r)⟩⟩
def ah (i:Nat):aa->R D:=λρ=>match ρ[i]? with
 |some (GS (.val d))=> .ok d
 |_=> .bad
def a9 (i:Nat):aa->R D:=λρ=>match ρ[i]? with
 |some (GS .obj)=> .bad
 |some (GS (.cel ..))=> .bad
 |some (GS s)=> .ok s.data
 |_=> .bad
theorem Mz (h:PE X e (BM i)):PQ ly X e (ah i):=⟨λc=>PE.weak h λσ H Q ⟨F,ρ,ri,w⟩=>by
 unfold ah at w;split at w
 ·rename_i d hd
  obtain⟨v,h1,h2⟩:=ri.val i d hd;exact⟨v,h1,w v H F (b8.refl ri.sub) h2⟩
 ·exact w.elim⟩
theorem MA (h:PE X e (BM i)):PB ly X e (a9 i):=⟨λc=>PE.weak h λσ H Q ⟨F,ρ,ri,w⟩=>by
 unfold a9 at w;split at w
 ·exact w.elim
 ·exact w.elim
 ·rename_i s a3Q a3R hs
  cases s with
  |obj=>exact absurd rfl a3Q
  |cel x W5 f hs=>exact absurd rfl (a3R _ _ _ _)
  |val d=>obtain⟨v,h1,h2⟩:=ri.val i d hs;exact⟨v,h1,w v H F (b8.refl ri.sub) (.inl h2)⟩
  |own d=>obtain⟨a,o,h1,h2,h3,h4,h5⟩:=ri.own i d hs;exact⟨_,h1,w _ H F (b8.refl ri.sub) (.inr ⟨a,o,rfl,h2,h5⟩)⟩
  |bor d=>obtain⟨a,o,h1,h2,h3⟩:=ri.bor i d hs;exact⟨_,h1,w _ H F (b8.refl ri.sub) (.inr ⟨a,o,rfl,ri.ext.keep _ _ (ri.bh _ _ h2),h3.mono ri.ext.grow⟩)⟩
 ·exact w.elim⟩
theorem rH (i:Nat) {x:NG} (hN:X.N[i]? =GS x:=by rfl) (hv:pz X.env.scope x:=by first|exact OG rfl|exact Oj (OG rfl)|exact Oj (Oj rfl)) (hd:(x==("__debug__":NG))=false:=by decide) (WG:(x==("__classdict__":NG))=false:=by decide):PQ ly X (.Name x pos) (ah i):=Mz (pv i hN hv hd WG)
theorem ug (i:Nat) {x:NG} (hN:X.N[i]? =GS x:=by rfl) (hv:pz X.env.scope x:=by first|exact OG rfl|exact Oj (OG rfl)|exact Oj (Oj rfl)) (hd:(x==("__debug__":NG))=false:=by decide) (WG:(x==("__classdict__":NG))=false:=by decide):PB ly X (.Name x pos) (a9 i):=MA (pv i hN hv hd WG)
def fC (d:D):aa->R D:=λ_=> .ok d
theorem CH {i:Int}:PQ ly X (.Constant (.int i) j pos) (fC (.int i)):=⟨λc=>PE.weak BO λσ H Q ⟨F,ρ,ri,w⟩=>w _ H F (b8.refl ri.sub) (.int i)⟩
theorem MB {i:Bool}:PQ ly X (.Constant (.bool i) j pos) (fC (.bl i)):=⟨λc=>PE.weak K4 λσ H Q ⟨F,ρ,ri,w⟩=>w _ H F (b8.refl ri.sub) (.bl i)⟩
theorem KL:PQ ly X (.Constant .none j pos) (fC .non):=⟨λc=>PE.weak HF λσ H Q ⟨F,ρ,ri,w⟩=>w _ H F (b8.refl ri.sub) .non⟩
theorem Hd {x:NG}:PQ ly X (.Constant (.str x) j pos) (fC (.str x)):=⟨λc=>PE.weak HG λσ H Q ⟨F,ρ,ri,w⟩=>w _ H F (b8.refl ri.sub) (.str x)⟩
theorem zA {x:NG} {i:Int} {t:S6} (hg:Gl X x) (hm:X.mg x=GS (.int i t)) (hd:(x==("__debug__":NG))=false:=by decide):PQ ly X (.Name x pos) (fC (.int i)):=
 ⟨λc=>PE.weak (yW hg hm (v:= .int i) ⟨t,rfl⟩ hd) λσ H Q ⟨F,ρ,ri,w⟩=>w _ H F (b8.refl ri.sub) (.int i)⟩
def f2 (g:D->D->Option D) (fa fb:aa->R D):aa->R D:=λρ=>fa ρ>>=λx=>fb ρ>>=λy=>R.of (g x y)
theorem wA {op:Operator} {r:R2} {g:D->D->Option D} (ho:kU X (Q1 op) r) (Z8:i_ X.K r g) (ha:PB ly X a fa) (hb:PB ly X b fb):PQ ly X (.BinOp a op b pos) (f2 g fa fb):=⟨λc=>
 PE.weak (GN ho (ha c) (hb c)) λσ H Q h=>two h λF H2 F2 v u x y e rx ry w=>by
  obtain⟨d,hd,k⟩:=w.of;exact Z8 v u x y d H2 F2 Q e.sub rx ry hd λw H' F' e' r'=>k w H' F' (e.trans e') r'⟩
def f1 (g:D->Option D) (fa:aa->R D):aa->R D:=λρ=>fa ρ>>=λx=>R.of (g x)
theorem MD {op:UnaryOp} {r:V->Hp->VK->Prop} {g:D->Option D} (ho:LK X (unaryOp op) r) (Z8:KJ X.K r g) (ha:PB ly X a fa):PQ ly X (.UnaryOp op a pos) (f1 g fa):=⟨λc=>
 PE.weak (GO ho (ha c)) λσ H Q ⟨F,ρ,ri,w⟩=>⟨F,ρ,ri,(aw.bind.mp w).imp λx hx w1 v H1 F1 e1 r1=>by
  obtain⟨d,hd,k⟩:=w1.of;exact Z8 v x d H1 F1 Q e1.sub r1 hd λw H' F' e' r'=>k w H' F' (e1.trans e') r'⟩⟩
theorem uh {op:Tp} {r:R2} {g:D->D->Option D} (ho:kU X (P6 op) r) (Z8:i_ X.K r g) (ha:PB ly X a fa) (hb:PB ly X b fb) (hm:Pa op b=false:=by first|exact C3 _|with_unfolding_all rfl): PQ ly X (.Compare a [op] [b] pos) (f2 g fa fb):=⟨λc=>
 PE.weak (EK ho (ha c) (hb c) hm) λσ H Q h=>two h λF H2 F2 v u x y e rx ry w=>by
  obtain⟨d,hd,k⟩:=w.of;exact Z8 v u x y d H2 F2 Q e.sub rx ry hd λw H' F' e' r'=>k w H' F' (e.trans e') r'⟩
def fT (f:aa->R D):aa->R Bool:=λρ=>f ρ>>=λd=>match d with
 | .bl b=> .ok b
 |_=> .bad
theorem ID {t:TE} (h:PT X e (GR t)) (w:∀σ H Q,tQ X.K c f σ H Q->t σ H Q):PT X e (tT X.K c (fT f)):=PT.weak h λσ H Q ⟨F,ρ,ri,k⟩=>by
 refine w σ H _ ⟨F,ρ,ri,(aw.bind.mp k).imp λd _ k1 v H' F' e r=> ?_⟩;cases d with
 |bl b=>cases r;exact⟨b,rfl,k1 H' F' e⟩
 |_=>exact k1.elim
theorem kL {op:Tp} {r:R2} {g:D->D->Option D} (ho:kU X (P6 op) r) (Z8:i_ X.K r g) (ha:PB ly X a fa) (hb:PB ly X b fb) (hm:Pa op b=false:=by first|exact C3 _|with_unfolding_all rfl): mn ly X (.Compare a [op] [b] pos) (fT (f2 g fa fb)):=⟨λc=>ID (zf ho (ha c) (hb c) hm) λσ H Q h=>two h λF H2 F2 v u x y e rx ry w=>by
  obtain⟨d,hd,k⟩:=w.of;exact Z8 v u x y d H2 F2 Q e.sub rx ry hd λw H' F' e' r'=>k w H' F' (e.trans e') r'⟩
def ac:aa->R (List D):=λ_=> .ok []
def a7 (f:aa->R D) (fs:aa->R (List D)):aa->R (List D):=λρ=>f ρ>>=λx=>fs ρ>>=λxs=> .ok (x::xs)
theorem pG:t7 ly X [] ac:=⟨λc=>PA.weak gX λσ H Q ⟨F,ρ,ri,w⟩=>w [] H F (b8.refl ri.sub) .nil⟩
theorem mq (h:PQ ly X e f) (hr:t7 ly X es fs) (hs:NL (e::es) X.env=(false,O8 e X.env)::NL es X.env:=by rfl):t7 ly X (e::es) (a7 f fs):=⟨λc=>
 PA.weak (cU (h c) (hr c) hs) λσ H Q ⟨F,ρ,ri,w⟩=>⟨F,ρ,ri,(aw.bind.mp w).imp λx hx w1 v H1 F1 e1 r1=>⟨F1,ρ,ri.step e1,(aw.bind.mp w1).imp λy hy w2 u H2 F2 e2 r2=>
  w2 _ H2 F2 (e1.trans e2) (.cons (r1.mono e2.grow) r2)⟩⟩⟩
theorem pH:Hc ly X [] ac:=⟨λc=>PA.weak gX λσ H Q ⟨F,ρ,ri,w⟩=>w [] H F (b8.refl ri.sub) .nil⟩
theorem mw (h:PB ly X e f) (hr:Hc ly X es fs) (hs:NL (e::es) X.env=(false,O8 e X.env)::NL es X.env:=by rfl):Hc ly X (e::es) (a7 f fs):=⟨λc=>
 PA.weak (cU (h c) (hr c) hs) λσ H Q ⟨F,ρ,ri,w⟩=>⟨F,ρ,ri,(aw.bind.mp w).imp λx hx w1 v H1 F1 e1 r1=>⟨F1,ρ,ri.step e1,(aw.bind.mp w1).imp λy hy w2 u H2 F2 e2 r2=>
  w2 _ H2 F2 (e1.trans e2) (.cons (r1.mono e2) r2)⟩⟩⟩
def lim:Nat:=100000
theorem fE:lim<=sizeLine:=by decide
def bu (fs:aa->R (List D)):aa->R D:=λρ=>fs ρ>>=λds=>if ds.length<=lim then .ok (.tup ds)else .bad
def eI (fs:aa->R (List D)):aa->R D:=λρ=>fs ρ>>=λds=>if ds.length<=lim then .ok (.lst ds)else .bad
theorem zB {x1:Nat} (h:t7 ly X es fs):PQ ly X (.Tuple es x1 pos) (bu fs):=⟨λc=>PE.weak (I9 (h c)) λσ H Q ⟨F,ρ,ri,w⟩=>⟨F,ρ,ri,(aw.bind.mp w).imp λds hd w1 vs H1 F1 e1 r1=>by
 split at w1
 ·rename_i hl
  refine⟨Ou (by rw[r1.length];exact hl) fE,λp hp=> ?_⟩;have e2:=b8.lay (o:= .tup vs) e1.sub hp;exact w1 _ _ _ (e1.trans e2) (.tup ar (r1.mono e2.grow))
 ·exact w1.elim⟩⟩
theorem KN (h:t7 ly X es fs):PQ ly X (.List es pos) (eI fs):=⟨λc=>PE.weak (uP (h c)) λσ H Q ⟨F,ρ,ri,w⟩=>⟨F,ρ,ri,(aw.bind.mp w).imp λds hd w1 vs H1 F1 e1 r1=>by
 split at w1
 ·rename_i hl
  refine⟨Ou (by rw[r1.length];exact hl) fE,λp hp=> ?_⟩;have e2:=b8.lay (o:= .lst vs) e1.sub hp;exact w1 _ _ _ (e1.trans e2) (.lst ar (r1.mono e2.grow))
 ·exact w1.elim⟩⟩
def aR (g:List D->Option D) (fs:aa->R (List D)):aa->R D:=λρ=>fs ρ>>=λds=>R.of (g ds)
variable {x:NG} {p:Ox} {id T:String} {rc:List V->Hp->VK->Prop}
theorem zC {c:cF ly} {g:List D->Option D} (Z8:kY X.K rc g) {σ:St} {H:Hp} {Q:VK} (h:tQ X.K c (aR g fs) σ H Q):Ml rc (IC X.K c fs) σ H Q:=by
 obtain⟨F,ρ,ri,w⟩:=h;refine⟨F,ρ,ri,(aw.bind.mp w).imp λds hd w1 vs H1 F1 e1 r1=> ?_⟩;obtain⟨d,hd,k⟩:=w1.of;exact Z8 vs ds d H1 F1 Q e1.sub r1 hd λw H' F' e' r'=>k w H' F' (e1.trans e') r'
theorem gF {g:List D->Option D} (hc:cJ X (.builtin id) rc) (Z8:kY X.K rc g) (hm:X.mg x=JT) (hv:Ot x=GS (.builtin id)) (ha:Hc ly X (e::es) fs) (hg:Gl X x:=by rfl) (hn:x≠"__name__":=by decide) (WL:(x==("__debug__":NG))=false:=by decide) (he:NL (e::es) X.env=(false,O8 e X.env)::NL es X.env:=by rfl) (WA:(Om pos (NL es X.env)).any (·.1)=false:=by rfl):PQ ly X (.Call (.Name x p) (e::es) [] pos) (aR g fs):=⟨λc=>
 PE.weak (oi hc hg hm hv (ha c) hn WL he WA) λσ H Q h=>zC Z8 h⟩
theorem ip {g:List D->Option D} (hc:cJ X (.type T) rc) (Z8:kY X.K rc g) (hm:X.mg x=JT) (hv:Ot x=GS (.type T)) (ha:Hc ly X (e::es) fs) (hg:Gl X x:=by rfl) (hn:x≠"__name__":=by decide) (WL:(x==("__debug__":NG))=false:=by decide) (he:NL (e::es) X.env=(false,O8 e X.env)::NL es X.env:=by rfl) (WA:(Om pos (NL es X.env)).any (·.1)=false:=by rfl):PQ ly X (.Call (.Name x p) (e::es) [] pos) (aR g fs):=⟨λc=>
 PE.weak (Av hc hg hm hv (ha c) hn WL he WA) λσ H Q h=>zC Z8 h⟩
def AO (K:ND) (n:Nat) (m:List D->R D):Sp:=λvs H Q E=>vs.length=n/\∃F ds,aB F H/\Reps K F vs ds/\match m ds with
 | .ok d=>∀v H' F',b8 H F H' F'->cD K F' v d->Q v H'
 | .err x _=>∀cls a H' F',cL K x cls->b8 H F H' F'->E cls a H'
 | .bad=>False
def av (m:List D->R D) (n:Nat) (fs:aa->R (List D)):aa->R D:=λρ=>fs ρ>>=λds=>if ds.length=n then (match m ds with| .ok d=> .ok d| .err x _=> .err x ρ| .bad=> .bad)else .bad
theorem IE {c:cF ly} {m:List D->R D} (h:tQ X.K c (av m n fs) σ H Q):GV (AO X.K n m) [] (Hb X c) (IB X.K c fs) σ H Q:=by
 obtain⟨F,ρ,ri,w⟩:=h;refine⟨F,ρ,ri,(aw.bind.mp w).imp λds hd w1 vs H1 F1 e1 r1=> ?_⟩;show AO X.K n m (vs++[]) H1 Q (Hb X c σ);rw[P2];split at w1
 ·rename_i hl
  refine⟨by rw[r1.length];exact hl,F1,ds,e1.sub,r1,?_⟩;split at w1
  ·exact λv H' F' e' r'=>w1 v H' F' (e1.trans e') r'
  ·exact λcls a H' F' ec e'=>⟨_,ρ,F',ec,ri.step (e1.trans e'),w1⟩
  ·exact w1.elim
 ·exact w1.elim
theorem IF {k:Nat} {m:List D->R D} {f:NH} (F:eF X.prog X.w X.K X.mg X.base (kX X.prog X.w) k f fd ps (AO X.K n m)) (hr:br k X.A) (hm:X.mg x=GS (.ref f)) (hk:OI X.K (.ref f)=true) (hb:eZ X.K fd ps []) (ha:t7 ly X (e::es) fs) (hg:Gl X x:=by rfl) (WL:(x==("__debug__":NG))=false:=by decide) (he:NL (e::es) X.env=(false,O8 e X.env)::NL es X.env:=by rfl) (WA:(Om pos (NL es X.env)).any (·.1)=false:=by rfl): PQ ly X (.Call (.Name x p) (e::es) [] pos) (av m n fs):=⟨λc=>PE.weak (uQ F hr hg hm hk hb .nil (oB c) (ha c) WL he WA) λσ H Q h=>IE h⟩
variable {ga gb:aa->R Bool} {rest:List NS}
def fc (ga gb:aa->R Bool):aa->R Bool:=λρ=>ga ρ>>=λb=>if b=true then gb ρ else .ok false
def rJ (ga gb:aa->R Bool):aa->R Bool:=λρ=>ga ρ>>=λb=>if b=true then .ok true else gb ρ
def jf (ga:aa->R Bool):aa->R Bool:=λρ=>ga ρ>>=λb=> .ok (!b)
theorem zy.t (h:zy ly X e ga):mn ly X e ga:=⟨λc=>(h c).pt⟩
theorem IG (h:mn ly X a ga):zy ly X (.BoolOp .And [a] pos) ga:=λc=>yY (h c)
theorem He (h:mn ly X a ga):zy ly X (.BoolOp .Or [a] pos) ga:=λc=>HH (h c)
theorem KO (h:mn ly X a ga) (hb:zy ly X (.BoolOp .And (b::rest) pos) gb):zy ly X (.BoolOp .And (a::b::rest) pos) (fc ga gb):=λc=>PW.weak (BR (h c) (hb c)) λσ H Q ⟨F,ρ,ri,w⟩=>
 ⟨F,ρ,ri,(aw.bind.mp w).imp λb hb w1 H1 F1 e1=>by
  cases b with
  |true=>exact⟨F1,ρ,ri.step e1,w1.imp λb' _ k H2 F2 e2=>k H2 F2 (e1.trans e2)⟩
  |false=>exact w1 H1 F1 e1⟩
theorem KP (h:mn ly X a ga) (hb:zy ly X (.BoolOp .Or (b::rest) pos) gb):zy ly X (.BoolOp .Or (a::b::rest) pos) (rJ ga gb):=λc=>PW.weak (K5 (h c) (hb c)) λσ H Q ⟨F,ρ,ri,w⟩=>
 ⟨F,ρ,ri,(aw.bind.mp w).imp λb hb w1 H1 F1 e1=>by
  cases b with
  |false=>exact⟨F1,ρ,ri.step e1,w1.imp λb' _ k H2 F2 e2=>k H2 F2 (e1.trans e2)⟩
  |true=>exact w1 H1 F1 e1⟩
theorem KQ (h:mn ly X a ga):mn ly X (.UnaryOp .Not a pos) (jf ga):=⟨λc=>PT.weak (HI (h c)) λσ H Q ⟨F,ρ,ri,w⟩=>⟨F,ρ,ri,(aw.bind.mp w).imp λb hb w1 H1 F1 e1=>w1 H1 F1 e1⟩⟩
def kM (fa fb:aa->R D):aa->R D:=λρ=>fa ρ>>=λd=>match d with
 | .bl true=>fb ρ
 | .bl false=> .ok (.bl false)
 |_=> .bad
def CI (fa fb:aa->R D):aa->R D:=λρ=>fa ρ>>=λd=>match d with
 | .bl true=> .ok (.bl true)
 | .bl false=>fb ρ
 |_=> .bad
def qc (fa:aa->R D):aa->R D:=λρ=>fa ρ>>=λd=>match d with
 | .bl b=> .ok (.bl (!b))
 |_=> .bad
theorem KR {op:PySem.BoolOp} (h:PQ ly X a fa):PQ ly X (.BoolOp op [a] pos) fa:=⟨λc=>HJ (h c)⟩
theorem KS (ha:PQ ly X a fa) (hb:PQ ly X (.BoolOp .And (b::rest) pos) fb):PQ ly X (.BoolOp .And (a::b::rest) pos) (kM fa fb):=⟨λc=>PE.weak (HK (ha c) (hb c)) λσ H Q ⟨F,ρ,ri,w⟩=>
 ⟨F,ρ,ri,(aw.bind.mp w).imp λd hd w1 v H1 F1 e1 r1=>by
  cases d with
  |bl b=>
   cases r1;cases b with
   |true=>exact⟨true,rfl,F1,ρ,ri.step e1,w1.imp λb' _ k v H2 F2 e2 r2=>k v H2 F2 (e1.trans e2) r2⟩
   |false=>exact⟨false,rfl,w1 _ H1 F1 e1 (.bl false)⟩
  |_=>exact w1.elim⟩⟩
theorem ME (ha:PQ ly X a fa) (hb:PQ ly X (.BoolOp .Or (b::rest) pos) fb):PQ ly X (.BoolOp .Or (a::b::rest) pos) (CI fa fb):=⟨λc=>PE.weak (K8 (ha c) (hb c)) λσ H Q ⟨F,ρ,ri,w⟩=>
 ⟨F,ρ,ri,(aw.bind.mp w).imp λd hd w1 v H1 F1 e1 r1=>by
  cases d with
  |bl b=>
   cases r1;cases b with
   |false=>exact⟨false,rfl,F1,ρ,ri.step e1,w1.imp λb' _ k v H2 F2 e2 r2=>k v H2 F2 (e1.trans e2) r2⟩
   |true=>exact⟨true,rfl,w1 _ H1 F1 e1 (.bl true)⟩
  |_=>exact w1.elim⟩⟩
theorem KU (ha:PQ ly X a fa):PQ ly X (.UnaryOp .Not a pos) (qc fa):=⟨λc=>PE.weak (HL (ha c)) λσ H Q ⟨F,ρ,ri,w⟩=>⟨F,ρ,ri,(aw.bind.mp w).imp λd hd w1 v H1 F1 e1 r1=>by
  cases d with
  |bl b=>cases r1;exact⟨b,rfl,w1 _ H1 F1 e1 (.bl _)⟩
  |_=>exact w1.elim⟩⟩
def No (gc:aa->R Bool) (fa fb:aa->R D):aa->R D:=λρ=>gc ρ>>=λb=>if b=true then fa ρ else fb ρ
def nB:D->Option Bool
 | .non=>GS false
 | .bl b=>GS b
 | .int i=>GS (i != 0)
 | .lst ds=>GS (!ds.isEmpty)
 | .tup ds=>GS (!ds.isEmpty)
 | .dic ds=>GS (!ds.isEmpty)
 |_=>JT
def dC (f:aa->R D):aa->R Bool:=λρ=>f ρ>>=λd=>R.of (nB d)
theorem Reps.isEmpty {K:ND} {F:Hp}:∀{vs:List V} {ds:List D},Reps K F vs ds->vs.isEmpty=ds.isEmpty
 |_,_, .nil=>rfl
 |_,_, .cons _ _=>rfl
theorem RepK.isEmpty {K:ND} {F:Hp}:∀{vs:List (aU×V)} {ds:List (aU×D)},RepK K F vs ds->vs.isEmpty=ds.isEmpty
 |_,_, .nil=>rfl
 |_,_, .cons _ _=>rfl
theorem KW (h:PB ly X e f) (he:∀XM,Vl e X.env XM=(do let v<-XM;QZ e.pos;Q9 [v] (truthy v)):=by intro _;rfl):mn ly X e (dC f):=⟨λc=>PT.weak (C4 (h c) he) λσ H Q ⟨F,ρ,ri,w⟩=>
 ⟨F,ρ,ri,(aw.bind.mp w).imp λd hd w1 v H1 F1 e1 r1=>by
  obtain⟨b,hb,k⟩:=w1.of;refine⟨b,?_,k H1 F1 e1⟩;cases d with
  |non=>cases r1.non;cases hb;rfl
  |bl=>cases r1.bl;cases hb;rfl
  |int=>cases r1.int;cases hb;rfl
  |lst ds=>obtain⟨a,vs,rfl,h1,h2⟩:=r1.lst e1.sub;cases hb;exact .inl ⟨vs,cP.of h1,by rw[h2.isEmpty]⟩
  |tup ds=>obtain⟨a,vs,rfl,h1,h2⟩:=r1.tup e1.sub;cases hb;exact .inr (.inl ⟨vs,gf.of h1,by rw[h2.isEmpty]⟩)
  |dic ds=>obtain⟨a,vs,rfl,h1,h2,h3⟩:=r1.dic e1.sub;cases hb;exact .inr (.inr ⟨vs,h1,by rw[h2.isEmpty]⟩)
  |_=>cases hb⟩⟩
end
end L2.Pu
variable {fi:L2.Pu.aa->L2.Pu.R (List L2.Pu.D)} {j:Int} {gt:L2.Pu.aa->L2.Pu.R Bool} {fe:L2.Pu.aa->L2.Pu.R L2.Pu.D} {v:L2.V}
namespace L2.Pu
variable {ly:List cR}
inductive aF where
 |nx (ρ:aa)|ret (d:D)|brk (ρ:aa)|cnt (ρ:aa)|retc (d:D) (ρ:aa)
def gP (K:ND) (c:cF ly) (F:Hp) (D:o8):aF->Prop
 | .nx ρ=>∀σ' H' F',aB F F'->RI K c ρ σ' H' F'->D.nx σ' H'
 | .brk ρ=>∀σ' H' F',aB F F'->RI K c ρ σ' H' F'->D.bk σ' H'
 | .cnt ρ=>∀σ' H' F',aB F F'->RI K c ρ σ' H' F'->D.ct σ' H'
 | .ret d=>∀v H' F',aB F F'->b8 c.H0 c.F0 H' F'->cD K F' v d->D.rt v H'
 | .retc d ρ=>∀v σ' H' F',aB F F'->RI K c ρ σ' H' F'->cD K F' v d->D.rt v H'
theorem gP.mono {K:ND} {c:cF ly} {F F1:Hp} {D:o8} (g:aB F F1):∀{o:aF},gP K c F D o->gP K c F1 D o
 | .nx ρ,h=>λσ' H' F' s r=>h σ' H' F' (g.trans s) r
 | .brk ρ,h=>λσ' H' F' s r=>h σ' H' F' (g.trans s) r
 | .cnt ρ,h=>λσ' H' F' s r=>h σ' H' F' (g.trans s) r
 | .ret d,h=>λv H' F' s e r=>h v H' F' (g.trans s) e r
 | .retc d ρ,h=>λv σ' H' F' s e r=>h v σ' H' F' (g.trans s) e r
def tS (K:ND) (c:cF ly) (g:aa->R aF):TS:=λD σ H=>∃F ρ,RI K c ρ σ H F/\aw c (g ρ) (gP K c F D)
structure e_ (ly:List cR) (X:Cx) (st:Ob) (g:aa->R aF):Prop where
 ap:∀c:eG ly X,PS X st (tS X.K c.1 g)
instance {ly:List cR} {X:Cx} {st:Ob} {g:aa->R aF}:CoeFun (e_ ly X st g) λ_=>∀c:eG ly X,PS X st (tS X.K c.1 g):=⟨e_.ap⟩
structure gY (ly:List cR) (X:Cx) (st:List Ob) (g:aa->R aF):Prop where
 ap:∀c:eG ly X,qM X st (tS X.K c.1 g)
instance {ly:List cR} {X:Cx} {st:List Ob} {g:aa->R aF}:CoeFun (gY ly X st g) λ_=>∀c:eG ly X,qM X st (tS X.K c.1 g):=⟨gY.ap⟩
section
variable {X:Cx} {st:Ob} {rest:List Ob} {a b e:NS} {es:List NS} {fa fb f:aa->R D} {fs:aa->R (List D)} {ga gb g g':aa->R aF} {gt:aa->R Bool} {pos:Ox}
def ay:aa->R aF:=λρ=> .ok (.nx ρ)
def ak (g g':aa->R aF):aa->R aF:=λρ=>g ρ>>=λo=>match o with
 | .nx ρ'=>g' ρ'
 |o=> .ok o
theorem CJ:gY ly X [] ay:=⟨λc=>qM.weak ED λD σ H ⟨F,ρ,ri,w⟩=>w σ H F (aB.refl _) ri⟩
theorem gG (h:e_ ly X st g) (hr:gY ly X rest g'):gY ly X (st::rest) (ak g g'):=⟨λc=>qM.weak (w9 (h c) (hr c)) λD σ H ⟨F,ρ,ri,w⟩=>by
 refine⟨F,ρ,ri,(aw.bind.mp w).imp λo ho w1=> ?_⟩;cases o with
 |nx ρ'=>exact λσ' H' F' s r=>⟨F',ρ',r,w1.imp λo' _ k=>k.mono s⟩
 |ret d=>exact w1
 |brk ρ'=>exact w1
 |cnt ρ'=>exact w1
 |retc d ρ'=>exact w1⟩
theorem gZ (h:e_ ly X st g):gY ly X [st] g:=⟨λc=>qM.weak (yZ (h c)) λD σ H w=>w⟩
def nD (L:List Nat) (g:aa->R aF):aa->R aF:=λρ=>g (frz L ρ)
theorem KY (L:List Nat) (h:e_ ly X st g):e_ ly X st (nD L g):=⟨λc=>PS.weak (h c) λD σ H ⟨F,ρ,ri,w⟩=>by
 obtain⟨F',s,Xq⟩:=ri.frz L;exact⟨F',_,Xq,w.imp λo _ k=>k.mono s⟩⟩
def b6 (f:aa->R D):aa->R aF:=λρ=>f ρ>>=λd=> .ok (.ret d)
theorem KZ (h:PQ ly X e f):e_ ly X (.Return (GS e) pos) (b6 f):=⟨λc=>PS.weak (uM (h c)) λD σ H ⟨F,ρ,ri,w⟩=>
 ⟨F,ρ,ri,(aw.bind.mp w).imp λd _ w1 v H' F' e r=>w1 v H' F' e.grow (ri.ext.trans e) r⟩⟩
def bL (gc:aa->R Bool) (g g':aa->R aF):aa->R aF:=λρ=>gc ρ>>=λb=>if b=true then g ρ else g' ρ
theorem K_ {ta tb:List Ob} (hc:mn ly X e gt) (ha:gY ly X ta g) (hb:gY ly X tb g'):e_ ly X (.If e ta tb pos) (bL gt g g'):=⟨λc=>PS.weak (GK (hc c) (ha c) (hb c)) λD σ H ⟨F,ρ,ri,w⟩=>
 ⟨F,ρ,ri,(aw.bind.mp w).imp λb hb w1 H1 F1 e1=>by
  cases b with
  |true=>exact⟨F1,ρ,ri.step e1,w1.imp λo _ k=>k.mono e1.grow⟩
  |false=>exact⟨F1,ρ,ri.step e1,w1.imp λo _ k=>k.mono e1.grow⟩⟩⟩
def tG (K:ND) (c:cF ly) (gt:D->aa->R aa):TG:=λv σ H Q=>∃F ρ d,RI K c ρ σ H F/\cD K F v d/\aw c (gt d ρ) λρ'=>∀σ' H' F',aB F F'->RI K c ρ' σ' H' F'->Q σ' H'
def CK (ly:List cR) (X:Cx) (tg:NS) (gt:D->aa->R aa):Prop:=∀c:eG ly X,PG X tg (tG X.K c.1 gt)
def gN (i:Nat):D->aa->R aa:=λd ρ=> .ok (ρ.set i (GS (.val d)))
theorem IH (i:Nat) {x:NG} (hN:X.N.Nodup) (hi:X.N[i]? =GS x:=by rfl) (hx:yV X.env.scope x:=by first|exact OG rfl|exact Oj rfl) (hf:X.fn x=true\/X.env.scope.names.lookup x=GS .local:=by first|exact .inl rfl|exact .inr rfl|assumption) (WM:jW ly i:=by(repeat (first|assumption|exact L2.Pu.dB|refine L2.Pu.cK ⟨by first|decide|simp,by first|decide|simp⟩ ?_))):CK ly X (.Name x pos) (gN i):=
 λc=>PG.weak (uN hN hi hx hf) λv σ H Q ⟨F,ρ,d,ri,r,w⟩=>w _ H F (aB.refl _) (ri.setVal i WM r)
def N5 (K:ND) (c:cF ly) (gt:List D->aa->R aa):BS:=λvs σ H Q=>∃F ρ ds,RI K c ρ σ H F/\Reps K F vs ds/\aw c (gt ds ρ) λρ'=>∀σ' H' F',aB F F'->RI K c ρ' σ' H' F'->Q σ' H'
def AQ (ly:List cR) (X:Cx) (tg:List NS) (gt:List D->aa->R aa):Prop:=∀c:eG ly X,BU X tg (N5 X.K c.1 gt)
theorem BU.weak {e:List NS} {t t':BS} (h:BU X e t) (w:∀v σ H Q,t' v σ H Q->t v σ H Q):BU X e t':=λV_ s σ H v u Q I r q=>h V_ s σ H v u Q I r (w v σ H Q q)
def oE:List D->aa->R aa:=λds ρ=>match ds with
 |[]=> .ok ρ
 |_=> .bad
def bX (g:D->aa->R aa) (gs:List D->aa->R aa):List D->aa->R aa:=λds ρ=>match ds with
 |[]=> .bad
 |d::r=>g d ρ>>=λρ'=>gs r ρ'
theorem II:AQ ly X [] oE:=λc=>BU.weak EG λvs σ H Q ⟨F,ρ,ds,ri,r,w⟩=>by
 cases r with
 |nil=>exact⟨rfl,w σ H F (aB.refl _) ri⟩
 |cons _ _=>exact w.elim
theorem Fw {g:D->aa->R aa} {gs:List D->aa->R aa} (h:CK ly X e g) (hr:AQ ly X es gs) (hs:(OV (e::es) X.env).map (·.2)=Qu e X.env::(OV es X.env).map (·.2):=by rfl):AQ ly X (e::es) (bX g gs):=
 λc=>BU.weak (BV (h c) (hr c) hs) λvs σ H Q ⟨F,ρ,ds,ri,r,w⟩=>by
 cases r with
 |nil=>exact w.elim
 | @cons v d vs ds r t=>
  refine⟨v,vs,rfl,F,ρ,d,ri,r,(aw.bind.mp w).imp λρ' _ w1 σ' H' F' s Xq=>⟨F',ρ',ds,Xq,t.mono s,w1.imp λρ2 _ k σ2 H2 F2 s2 r2=>k σ2 H2 F2 (s.trans s2) r2⟩⟩
def rK (n:Nat) (gs:List D->aa->R aa):D->aa->R aa:=λd ρ=>match d with
 | .tup ds=>if ds.length=n then gs ds ρ else .bad
 | .lst ds=>if ds.length=n then gs ds ρ else .bad
 |_=> .bad
theorem PG.or {t t':TG} (h:PG X e t) (h':PG X e t'):PG X e (λv σ H Q=>t v σ H Q\/t' v σ H Q):=λV_ s σ H v u Q I r q=>q.elim (λq=>h V_ s σ H v u Q I r q) λq=>h' V_ s σ H v u Q I r q
theorem L0 {k:Nat} {gs:List D->aa->R aa} (hc:X.calm=true) (h:AQ ly X es gs) (hn:(OV es X.env).length=n:=by rfl) (W_:(OV es X.env).findIdx? (·.1)=JT:=by rfl):CK ly X (.Tuple es k pos) (rK n gs):=
 λc=>PG.weak (PG.or (BW hc (h c) hn W_) (Ct hc (h c) hn W_)) λv σ H Q ⟨F,ρ,d,ri,r,w⟩=>by
 cases r with
 | @tup a vs ds h1 h2=>
  change aw c.1 (if ds.length=n then gs ds ρ else .bad) _ at w;split at w
  ·rename_i hl
   exact .inl ⟨a,vs,rfl,gf.of (ri.sub _ _ h1),by rw[h2.length];exact hl,F,ρ,ds,ri,h2,w⟩
  ·exact w.elim
 | @lst a vs ds h1 h2=>
  change aw c.1 (if ds.length=n then gs ds ρ else .bad) _ at w;split at w
  ·rename_i hl
   exact .inr ⟨a,vs,rfl,cP.of (ri.sub _ _ h1),by rw[h2.length];exact hl,F,ρ,ds,ri,h2,w⟩
  ·exact w.elim
 |_=>exact w.elim
def aE (f:aa->R D) (g:D->aa->R aa):aa->R aF:=λρ=>f ρ>>=λd=>g d ρ>>=λρ'=> .ok (.nx ρ')
theorem IJ {c:cF ly} {g:D->aa->R aa} {D':o8} (h:tS K c (aE f g) D' σ H):HP (tQ K c f) (tG K c g) D' σ H:=by
 obtain⟨F,ρ,ri,w⟩:=h;refine⟨F,ρ,ri,(aw.bind.mp w).imp λd _ w1 v H1 F1 e1 r1=>⟨F1,ρ,d,ri.step e1,r1,(aw.bind.mp w1).imp λρ' _ w2 σ' H' F' s r'=>w2 σ' H' F' (e1.grow.trans s) r'⟩⟩
theorem L3 {g:D->aa->R aa} (he:PQ ly X e f) (hg:CK ly X tg g) (hs:Sh [tg] e pos.line X.env=pure false:=by rfl) (hw:Si [tg] e X.env=pure JT:=by rfl) (h1:(OV [tg] X.env).map (·.2)=[Qu tg X.env]:=by rfl):e_ ly X (.Assign [tg] e pos) (aE f g):=⟨λc=>PS.weak (xG (he c) (hg c) hs hw h1) λD σ H h=>IJ h⟩
theorem L4 (i:Nat) {x:NG} {We:Ox} (hN:X.N.Nodup) (he:PQ ly X e f) (hi:X.N[i]? =GS x:=by rfl) (hx:yV X.env.scope x:=by first|exact OG rfl|exact Oj rfl) (hs:ON e (GS (.Name x We)) pos.line X.env=pure false:=by rfl) (hf:X.fn x=true\/X.env.scope.names.lookup x=GS .local:=by first|exact .inl rfl|exact .inr rfl|assumption) (WM:jW ly i:=by(repeat (first|assumption|exact L2.Pu.dB|refine L2.Pu.cK ⟨by first|decide|simp,by first|decide|simp⟩ ?_))):e_ ly X (.Assign [.Name x We] e pos) (aE f (gN i)):=⟨λc=>
 PS.weak (nq hN hi hx (he c) hs hf) λD σ H h=>by
  obtain⟨F,ρ,ri,w⟩:=h;exact⟨F,ρ,ri,(aw.bind.mp w).imp λd _ w1 v H1 F1 e1 r1=>w1 _ H1 F1 e1.grow ((ri.step e1).setVal i WM r1)⟩⟩
def Np (i j:Nat) (fs:aa->R (List D)):aa->R aF:=λρ=>fs ρ>>=λds=>match ds with
 |[x,y]=> .ok (.nx ((ρ.set i (GS (.val x))).set j (GS (.val y))))
 |_=> .bad
def lh (i:Nat) (fs:aa->R (List D)):aa->R aF:=λρ=>fs ρ>>=λds=>if ds.length<=lim then .ok (.nx (ρ.set i (GS (.own (.lst ds)))))else .bad
theorem IK (i:Nat) {x:NG} {We pl:Ox} (hN:X.N.Nodup) (h:t7 ly X es fs) (hi:X.N[i]? =GS x:=by rfl) (hx:yV X.env.scope x:=by first|exact OG rfl|exact Oj rfl) (hs:ON (.List es pl) (GS (.Name x We)) pos.line X.env=pure false:=by rfl) (hf:X.fn x=true\/X.env.scope.names.lookup x=GS .local:=by first|exact .inl rfl|exact .inr rfl|assumption) (WM:jW ly i:=by(repeat (first|assumption|exact L2.Pu.dB|refine L2.Pu.cK ⟨by first|decide|simp,by first|decide|simp⟩ ?_))):e_ ly X (.Assign [.Name x We] (.List es pl) pos) (lh i fs):=⟨λc=>
 PS.weak (nq hN hi hx (uP (h c)) hs hf) λD σ H ⟨F,ρ,ri,w⟩=>⟨F,ρ,ri,(aw.bind.mp w).imp λds _ w1 vs H1 F1 e1 r1=>by
  split at w1
  ·rename_i hl
   refine⟨Ou (by rw[r1.length];exact hl) fE,λp hp=> ?_⟩;exact w1 _ _ F1 e1.grow ((ri.step e1).setNew i WM hp (.lst r1))
  ·exact w1.elim⟩⟩
structure yh (K:ND) (F:Hp) (J:It) (ds:List D):Prop where
 go:∀i H,aB F H->i<ds.length->J.go i H
 stop:∀H,aB F H->J.stop ds.length H
 yld:∀i H F1 x H',aB F F1->aB F1 H->J.yld i H x H'->i<ds.length->∃F' d,ds[i]? =GS d/\b8 H F1 H' F'/\cD K F' x d
def tI (K:ND) (c:cF ly) (fi:aa->R (List D)):TI:=λσ H Rk=>∃F ρ,RI K c ρ σ H F/\aw c (fi ρ) λds=>∀J H' F',b8 H F H' F'->yh K F' J ds->Rk J H'
def Ez (ly:List cR) (X:Cx) (tg iter:NS) (fi:aa->R (List D)):Prop:=∀c:eG ly X,PI X tg iter (tI X.K c.1 fi)
theorem PI.weak {t t':TI} (h:PI X tg e t) (w:∀σ H Rk,t' σ H Rk->t σ H Rk):PI X tg e t':=λV_ s σ H Rk I q=>h V_ s σ H Rk I (w σ H Rk q)
def dc (g:D->aa->R aa) (gb:aa->R aF):List D->aa->R aF
 |[],ρ=> .ok (.nx ρ)
 |d::r,ρ=>g d ρ>>=λρ1=>gb ρ1>>=λo=>match o with
  | .nx ρ2=>dc g gb r ρ2
  | .cnt ρ2=>dc g gb r ρ2
  | .brk ρ2=> .ok (.nx ρ2)
  | .ret d=> .ok (.ret d)
  | .retc d ρ2=> .ok (.retc d ρ2)
def jX (fi:aa->R (List D)) (g:D->aa->R aa) (gb:aa->R aF):aa->R aF:=λρ=>fi ρ>>=λds=>dc g gb ds ρ
theorem yi {g:D->aa->R aa} {ds:List D} {i:Nat} {d:D} (h:ds[i]? =GS d):dc g gb (ds.drop i) ρ=(g d ρ>>=λρ1=>gb ρ1>>=λo=>match o with | .nx ρ2=>dc g gb (ds.drop (i+1)) ρ2 | .cnt ρ2=>dc g gb (ds.drop (i+1)) ρ2 | .brk ρ2=> .ok (.nx ρ2) | .ret d=> .ok (.ret d) | .retc d ρ2=> .ok (.retc d ρ2)):=by
 obtain⟨hl,e⟩:=O6.mp h;rw[Qq hl,e]
 rfl
theorem IL {c:cF ly} {g:D->aa->R aa} {D':o8} (h:tS K c (jX fi g gb) D' σ H):Kh (tI K c fi) (tG K c g) (tS K c gb) D' σ H:=by
 obtain⟨F,ρ,ri,w⟩:=h;refine⟨F,ρ,ri,(aw.bind.mp w).imp λds _ w1 J H1 F1 e1 jo=> ?_⟩;refine⟨λi m σ H=>∃F2 ρ2,RI K c ρ2 σ H F2/\aB F1 F2/\m=ds.length - i/\i<=ds.length/\aw c (dc g gb (ds.drop i) ρ2) (gP K c F2 D'),⟨_,F1,ρ,ri.step e1,aB.refl _,rfl,Pf _,w1.imp λo _ k=>k.mono e1.grow⟩,?_⟩
 rintro i m σ2 H2 ⟨F2,ρ2,a0C,s2,rfl,hi,w2⟩
 by_cases hl:i<ds.length
 ·refine .inr ⟨jo.go i H2 (s2.trans a0C.sub) hl,λσ' H'=>∃F3 ρ3,RI K c ρ3 σ' H' F3/\aB F2 F3/\aw c (dc g gb (ds.drop (i+1)) ρ3) (gP K c F3 D'),?_,λx H3 y=> ?_⟩
  ·rintro σ' H' ⟨F3,ρ3,ZW,s3,w3⟩
   exact⟨ds.length - (i+1),by omega,F3,ρ3,ZW,s2.trans s3,rfl,hl,w3⟩
  ·obtain⟨F3,d,hd,e3,r3⟩:=jo.yld i H2 F2 x H3 s2 a0C.sub y hl
   rw[yi hd]at w2;refine⟨F3,ρ2,d,a0C.step e3,r3,(aw.bind.mp w2).imp λρ3 _ w3 σ4 H4 F4 s4 r4=>⟨F4,ρ3,r4,(aw.bind.mp w3).imp λo _ w4=> ?_⟩⟩;have a1m:aB F2 F4:=e3.grow.trans s4;cases o with
   |nx ρ5=>exact λσ' H' F' s' r'=>⟨F',ρ5,r',a1m.trans s',w4.imp λo _ k=>k.mono (a1m.trans s')⟩
   |cnt ρ5=>exact λσ' H' F' s' r'=>⟨F',ρ5,r',a1m.trans s',w4.imp λo _ k=>k.mono (a1m.trans s')⟩
   |brk ρ5=>exact λσ' H' F' s' r'=>w4 σ' H' F' (a1m.trans s') r'
   |ret d=>exact λv H' F' s' e' r'=>w4 v H' F' (a1m.trans s') e' r'
   |retc d ρ5=>exact λv σ' H' F' s' e' r'=>w4 v σ' H' F' (a1m.trans s') e' r'
 ·have e:i=ds.length:=by omega
  subst e;rw[T9]at w2;exact .inl ⟨jo.stop H2 (s2.trans a0C.sub),w2 σ2 H2 F2 (aB.refl _) a0C⟩
theorem L5 {iter:NS} {body:List Ob} {g:D->aa->R aa} (hp:PassesOwn (NY X.prog X.w) X.A X.env X.xe) (hc:X.calm=true) (hi:Ez ly X tg iter fi) (hg:CK ly X tg g) (hb:gY ly X body gb) (hs:∀x,P8 iter X.env x=pure x:=by intro _;rfl):e_ ly X (.For tg iter body [] pos) (jX fi g gb):=⟨λc=>PS.weak (HR hp hc (hi c) (hg c) (hb c) hs) λD σ H h=>IL h⟩
theorem AR {a:NH} {ds:List D} (h:F a=GS (.lst vs)) (r:Reps K F vs ds):yh K F (LJ K a) ds where
 go:=λi H s hi=>⟨vs,vs[i]'(by rw[r.length];exact hi),cP.of (s _ _ h),by simp[r.length,hi]⟩
 stop:=λH s=>⟨vs,cP.of (s _ _ h),SR r.length⟩
 yld:=λi H F1 x H' s1 s2 y hi=>by
  obtain⟨rfl,y⟩:=y;have:=y vs (cP.of (s2 _ _ (s1 _ _ h)));obtain⟨d,hd,rd⟩:=r.get' this;exact⟨F1,d,hd,b8.refl s2,rd.mono s1⟩
theorem CL {a:NH} {ds:List D} (h:F a=GS (.tup vs)) (r:Reps K F vs ds):yh K F (Mc K a) ds where
 go:=λi H s hi=>⟨vs,vs[i]'(by rw[r.length];exact hi),gf.of (s _ _ h),by simp[r.length,hi]⟩
 stop:=λH s=>⟨vs,gf.of (s _ _ h),SR r.length⟩
 yld:=λi H F1 x H' s1 s2 y hi=>by
  obtain⟨rfl,y⟩:=y;have:=y vs (gf.of (s2 _ _ (s1 _ _ h)));obtain⟨d,hd,rd⟩:=r.get' this;exact⟨F1,d,hd,b8.refl s2,rd.mono s1⟩
def bv (f:aa->R D):aa->R (List D):=λρ=>f ρ>>=λd=>match d with
 | .lst ds=> .ok ds
 | .tup ds=> .ok ds
 | .scr ns=> .ok (ns.map .int)
 |_=> .bad
theorem CM {a:NH} {ns:List Int} (h:cP K F a (ns.map V.int)):yh K F (LJ K a) (ns.map .int)where
 go:=λi H s hi=>⟨ns.map V.int,(ns.map V.int)[i]'(by simpa using hi),s.seq h,by simp at hi;simp[hi]⟩
 stop:=λH s=>⟨ns.map V.int,s.seq h,by simp⟩
 yld:=λi H F1 x H' s1 s2 y hi=>by
  obtain⟨rfl,y⟩:=y;have:=y (ns.map V.int) ((s1.trans s2).seq h);rw[O9]at this;cases e:ns[i]? with
  |none=>rw[e]at this;cases this
  |some n=>rw[e]at this;cases this;exact⟨F1, .int n,by rw[O9,e];rfl,b8.refl s2, .int n⟩
theorem L6 (h:PQ ly X e f):Ez ly X tg e (bv f):=by
 intro c V_ s σ H Rk I q;obtain⟨F,ρ,ri,w⟩:=q;have w':=aw.bind.mp w;cases hf:f ρ with
 |bad=>rw[hf]at w';exact w'.elim
 |err er ρe=>
  rw[hf]at w';exact uO (h c) V_ s σ H Rk I ⟨F,ρ,ri,by rw[hf];exact w'⟩
 |ok d=>
  rw[hf]at w';cases d with
  |lst ds=>exact uO (h c) V_ s σ H Rk I ⟨F,ρ,ri,by
    rw[hf];intro v H1 F1 e1 r1;cases r1 with
    |lst h1 h2=>exact⟨_,rfl,⟨_,cP.of (e1.sub _ _ h1)⟩,w' _ H1 F1 e1 (AR h1 h2)⟩⟩
  |tup ds=>exact HQ (h c) V_ s σ H Rk I ⟨F,ρ,ri,by
    rw[hf];intro v H1 F1 e1 r1;cases r1 with
    |tup h1 h2=>exact⟨_,rfl,⟨_,gf.of (e1.sub _ _ h1)⟩,w' _ H1 F1 e1 (CL h1 h2)⟩⟩
  |scr ns=>exact uO (h c) V_ s σ H Rk I ⟨F,ρ,ri,by
    rw[hf];intro v H1 F1 e1 r1;cases r1 with
    |scr h1=>exact⟨_,rfl,⟨_,e1.sub.seq h1⟩,w' _ H1 F1 e1 (CM h1)⟩⟩
  |_=>exact w'.elim
def gi (lo hi:Int):List D:=(Ov (hi - lo).toNat).map λk:Nat=>D.int (lo+(k:Int))
theorem rL {lo hi:Int}:yh K F (Kd lo (hi - lo).toNat) (gi lo hi)where
 go:=λi H s h=>by
  rw[gi,NK,Q7]at h;exact h
 stop:=λH s=>by show (hi - lo).toNat<=_;rw[gi,NK,Q7];exact O2 _
 yld:=λi H F1 x H' s1 s2 y h=>by
  obtain⟨rfl,rfl⟩:=y;have h':i<(hi - lo).toNat:=by rw[gi,NK,Q7]at h;exact h
  exact⟨F1, .int (lo+i),by rw[gi,O9,List.getElem?_range h'];rfl,b8.refl s2, .int _⟩
def cq (f:aa->R (List D)):aa->R (List D):=λρ=>f ρ>>=λds=>match ds with
 |[.int j]=>if j.natAbs<=lim then .ok (gi 0 j)else .bad
 |_=> .bad
def my (f:aa->R (List D)):aa->R (List D):=λρ=>f ρ>>=λds=>match ds with
 |[.int i, .int j]=>if i.natAbs<=lim/\j.natAbs<=lim then .ok (gi i j)else .bad
 |_=> .bad
theorem gH (h:j.natAbs<=lim): -(2 ^62)<=j/\j<2 ^62:=by
 unfold lim at h;omega
theorem CN {tg:NS} {p:Ox} (hm:X.mg "range"=JT) (ha:t7 ly X [a] fs) (hg:Gl X "range":=by rfl) (hs:NL [a] X.env=[(false,O8 a X.env)]:=by rfl):Ez ly X tg (.Call (.Name "range" p) [a] [] pos) (cq fs):=λc=>
 PI.weak (Ai hg hm (ha c) hs) λσ H Rk ⟨F,ρ,ri,w⟩=>⟨F,ρ,ri,(aw.bind.mp w).imp λds _ w1 vs H1 F1 e1 r1=>by
  split at w1
  ·split at w1
   ·rename_i j _ hj
    cases r1.int1;exact⟨j,rfl,(gH hj).1,(gH hj).2,w1 _ H1 F1 e1 (by simpa using rL (K:=X.K) (F:=F1) (lo:=0) (hi:=j))⟩
   ·exact w1.elim
  ·exact w1.elim⟩
theorem CO {tg:NS} {p:Ox} (hm:X.mg "range"=JT) (ha:t7 ly X [a,b] fs) (hg:Gl X "range":=by rfl) (hs:NL [a,b] X.env=[(false,O8 a X.env),(false,O8 b X.env)]:=by rfl) (Yy:NL [b] X.env=[(false,O8 b X.env)]:=by rfl):Ez ly X tg (.Call (.Name "range" p) [a,b] [] pos) (my fs):=λc=>
 PI.weak (Aj hg hm (ha c) hs Yy) λσ H Rk ⟨F,ρ,ri,w⟩=>⟨F,ρ,ri,(aw.bind.mp w).imp λds _ w1 vs H1 F1 e1 r1=>by
  split at w1
  ·split at w1
   ·rename_i i j _ hj
    cases r1.int2;exact⟨i,j,rfl,⟨(gH hj.1).1,(gH hj.1).2,(gH hj.2).1,(gH hj.2).2⟩,w1 _ H1 F1 e1 rL⟩
   ·exact w1.elim
  ·exact w1.elim⟩
end
def bN (n:Nat) (ds:List D):aa:=ds.map (λd=>GS (.val d))++Oa (n - ds.length) JT
def aG (k n:Nat) (g:aa->R aF) (ds:List D):R D:=if ds.length=k then g (bN n ds)>>=λo=>match o with
 | .ret d=> .ok d
 | .nx _=> .ok .non
 |_=> .bad else .bad
theorem wB {ds:List D} (s:aB F H) (r:Reps K F vs ds):RI K (⟨H,F,λ_=>JT,Er,λ_=>JT,λ_=>JT⟩:cF []) (bN N.length ds) (dZ N vs) H F:=by
 have hv:∀(i:Nat) sl,(bN N.length ds)[i]? =GS (GS sl)->∃d,ds[i]? =GS d/\sl= .val d:=λi sl h=>by
  unfold bN at h;rw[QW]at h;split at h
  ·rw[O9]at h
   cases e:ds[i]? with
   |none=>rw[e]at h;cases h
   |some d=>rw[e]at h;simp at h;exact⟨d,rfl,h.symm⟩
  ·rw[PD]at h
   split at h<;>simp at h
 refine⟨b8.refl s,λi d h=> ?_,λi d h=> ?_,λi d h=> ?_,(λb o e=>by cases e),λi j d d' a h=> ?_,?_,(λL h=>by cases h),(λL h=>by cases h),(λ_ _ e=>by cases e), .no λi x W5 f hs h=>(by obtain⟨d,_,z⟩:=hv i _ h;cases z),λL h=>by cases h⟩
 ·obtain⟨d',e,z⟩:=hv i _ h
  cases z;obtain⟨v,h1,h2⟩:=r.get e;refine⟨v,?_,h2⟩;unfold dZ;have hl:i<vs.length:=(O6.mp h1).1;rw[PZ (by simpa using hl),O9,h1]
  rfl
 ·obtain⟨d',_,z⟩:=hv i _ h;cases z
 ·obtain⟨d',_,z⟩:=hv i _ h;cases z
 ·obtain⟨d',_,z⟩:=hv i _ h;cases z
 ·simp[bN,dZ,r.length]
theorem Ha {x:NG} {f:NH} {k:Nat} {sp:Sp} (F:zq K x qual st f fd) (S:aL N ps (ao st)) (len:∀vs H Q E,sp vs H Q E->vs.length=ps.length) (Wg:∀(W2:NF) (A:Oc) (outer:List Pw) (s:NI) (H:Hp) (vs:List V) (Q:VK) (E:XK),br k (A.deeper (PY qual (ao st) s.heap.objs.size f W2))->sp vs H Q E-> ∃t,qM (ik (kX P w) P w K mg base N qual (ao st) f W2 A outer s H E) (aQ st) t/\t {nx:=λ_ H'=>Q .non H',rt:=Q} (dZ N vs) H):eF P w K mg base (kX P w) (k+1) f fd ps sp:=by
 obtain⟨oc,od,kV,WB,pm,an,W2,ct,XO,rfl,lk,WG⟩:=F.ex;exact GW lk WG S len λA outer s H vs Q E hr a0q=>Wg W2 A outer s H vs Q E hr a0q
theorem rM {f:NH} {cd:NF} {s0:NI} {H0:Hp} {E:XK} {c:cF ly} (h:∀x ρ,c.Er x ρ->∀cls a H' F' σ,cL K x cls->RI K c ρ σ H' F'->E cls a H'):IA (ik (kX P w) P w K mg base N qual scope f cd A outer s0 H0 E) c:=
 .inl ⟨rG,λV_ σ ρ H F s a cls x I ri fl ec er=>yd I fl (h x ρ er cls (GS a) H F σ ec ri)⟩
theorem IM {x:NG} {f:NH} {k:Nat} {g:aa->R aF} (F:zq K x qual st f fd) (S:aL N ps (ao st)) (hn:ps.length=n) (hm:N.length=m) (Wg:∀(W2:NF) (A:Oc) (outer:List Pw) (s:NI) (H:Hp) (E:XK),br k (A.deeper (PY qual (ao st) s.heap.objs.size f W2))-> gY [] (ik (kX P w) P w K mg base N qual (ao st) f W2 A outer s H E) (aQ st) g):eF P w K mg base (kX P w) (k+1) f fd ps (AO K n (aG n m g)):=by
 refine Ha F S (λvs H Q E h=>by rw[hn];exact h.1) (λW2 A outer s H vs Q E hr h=> ?_);obtain⟨hl,Fz,ds,sub,r,w⟩:=h;refine⟨_,Wg W2 A outer s H E hr ⟨⟨H,Fz,λ_=>JT,λx _=>∀cls a H' F',cL K x cls->b8 H Fz H' F'->E cls a H',λ_=>JT,λ_=>JT⟩,rM λx ρ er cls a H' F' σ ec ri=>er cls a H' F' ec ri.ext⟩,?_⟩;refine⟨Fz,bN m ds,by rw[<-hm];exact wB sub r,?_⟩;have hd:ds.length=n:=by rw[<-r.length];exact hl
 unfold aG at w;rw[if_pos hd]at w;cases e:g (bN m ds)with
 |bad=>rw[e]at w;exact w.elim
 |err c ρ=>rw[e]at w;exact w
 |ok o=>
  rw[e]at w;cases o with
  |ret d=>exact λv H' F' _ e' r'=>w v H' F' e' r'
  |nx ρ=>exact λσ' H' F' _ r'=>w .non H' F' r'.ext .non
  |retc d ρ=>exact w.elim
  |brk ρ=>exact w.elim
  |cnt ρ=>exact w.elim
def Slot.toBor:Slot->Slot
 | .val d=> .val d
 | .own d=> .bor d
 | .bor d=> .bor d
 | .obj=> .obj
 | .cel .. => .obj
def f6 (N:List NG) (names:List (NG×NameKind)) (ρ:aa):aa:=
 names.map λx=>if x.2= .free then ((N.findIdx? (·==x.1)).bind λi=>(ρ[i]?).join.map Slot.toBor)else JT
theorem Hf {c:cF ly} {names:List (NG×NameKind)} {p:NH} {o:HO} (ri:RI K c ρ σ H F) (e:b8 H F H1 F1) (hp:H1 p=JT): RI K (⟨aS H1 p o,F1,H1,λ_ _=>False,λ_=>JT,λ_=>JT⟩:cF []) (f6 N names ρ) (ou N names σ) (aS H1 p o) F1:=by
 have r1:=ri.step e;have W3:∀(i:Nat) sl,(f6 N names ρ)[i]? =GS (GS sl)->∃(j:Nat) (a0K:Slot),ρ[j]? =GS (GS a0K)/\sl=a0K.toBor/\∀v,σ[j]? =GS (GS v)->(ou N names σ)[i]? =GS (GS v):=λi sl h=>by
  unfold f6 at h;rw[O9]at h;cases en:names[i]? with
  |none=>rw[en]at h;cases h
  |some y=>
   rw[en]at h;simp only[PL,SA]at h;by_cases hf:y.2= .free
   ·rw[if_pos hf]at h
    cases ei:N.findIdx? (·==y.1)with
    |none=>rw[ei]at h;cases h
    |some j=>
     rw[ei]at h;cases e2:ρ[j]? with
     |none=>simp[e2]at h
     |some u=>
      cases u with
      |none=>simp[e2]at h
      |some a0K=>
       simp[e2]at h;refine⟨j,a0K,e2,h.symm,λv hv=> ?_⟩;unfold ou;rw[O9,en];simp only[PL,SA];rw[if_pos hf,ei];show (σ[j]?).join=GS v;rw[hv];rfl
   ·rw[if_neg hf]at h;cases h
 refine⟨b8.refl (r1.sub.trans (bJ hp)),λi d h=> ?_,λi d h=> ?_,λi d h=> ?_,bJ hp,λi j d d' a h=> ?_,by simp[f6,ou],(λL h=>by cases h),(λL h=>by cases h),(λ_ _ e=>by cases e), .no λi x W5 f hs h=>(by obtain⟨j,sl,h1,h2,h3⟩:=W3 i _ h;cases sl<;>cases h2),λL h=>by cases h⟩
 ·obtain⟨j,sl,h1,h2,h3⟩:=W3 i _ h
  cases sl with
  |val d'=>cases h2;obtain⟨v,k1,k2⟩:=r1.val j d h1;exact⟨v,h3 v k1,k2⟩
  |own d'=>cases h2
  |bor d'=>cases h2
  |obj=>cases h2
  |cel=>cases h2
 ·obtain⟨j,sl,h1,h2,h3⟩:=W3 i _ h;cases sl<;>cases h2
 ·obtain⟨j,sl,h1,h2,h3⟩:=W3 i _ h
  cases sl with
  |val d'=>cases h2
  |own d'=>cases h2;obtain⟨a,o,k1,k2,k3,k4,k5⟩:=r1.own j d h1;exact⟨a,o,h3 _ k1,k2,k5⟩
  |bor d'=>cases h2;obtain⟨a,o,k1,k2,k3⟩:=r1.bor j d h1;exact⟨a,o,h3 _ k1,r1.ext.keep _ _ (r1.bh _ _ k2),k3.mono r1.ext.grow⟩
  |obj=>cases h2
  |cel=>cases h2
 ·obtain⟨k,sl,h1,h2,h3⟩:=W3 i _ h;cases sl<;>cases h2
theorem RI.bump {p:NH} {o o':HO} (r:RI K (⟨aS H1 p o,F1,H1,Er,λ_=>JT,λ_=>JT⟩:cF []) ρ σ H F) (hp:H1 p=JT) (hF:F p=JT): RI K (⟨aS H1 p o',F1,H1,Er,λ_=>JT,λ_=>JT⟩:cF []) ρ σ (aS H p o') F:=by
 refine⟨⟨λb u e=> ?_,λb u e=> ?_,r.ext.grow,λb e=> ?_⟩,r.val,λi d h=> ?_,r.bor,bJ hp,r.dis,r.len,(λL h=>by cases h),(λL h=>by cases h),(λ_ _ e=>by cases e),⟨λi x W5 f hs h=> ?_,r.cel.one⟩,λL h=>by cases h⟩
 ·rw[aj (λz=>by rw[z,hF]at e;cases e)];exact r.sub b u e
 ·change aS H1 p o' b=GS u at e
  by_cases z:b=p
  ·subst z;rw[ar]at e ⊢;exact e
  ·rw[aj z]at e ⊢;exact r.ext.keep b u (by show aS H1 p o b=GS u;rw[aj z];exact e)
 ·by_cases z:b=p
  ·subst z;exact absurd hF e
  ·rcases r.ext.new b e with q|q
   ·exact .inl q
   ·refine .inr ?_
    change aS H1 p o b=JT at q;show aS H1 p o' b=JT;rw[aj z]at q ⊢;exact q
 ·obtain⟨a,u,h1,h2,h3,h4,h5⟩:=r.own i d h
  change aS H1 p o a=JT at h4;have z:a≠p:=λz=>by subst z;rw[ar]at h4;cases h4
  refine⟨a,u,h1,by rw[aj z];exact h2,h3,?_,h5⟩;show aS H1 p o' a=JT;rw[aj z]at h4 ⊢;exact h4
 ·obtain⟨a,dx,b,h1,h2,h3⟩:=r.cel.ex i x W5 f hs h
  obtain⟨C,fs,vs,us,g1,g2,g3,g4,g5⟩:=h2.ex;have W3:∀{z:NH},aS H1 p o z=JT->z≠p/\aS H1 p o' z=JT:=λ{z} e=>by
   have n:z≠p:=λq=>by subst q;rw[ar]at e;cases e
   exact⟨n,by rw[aj n]at e ⊢;exact e⟩
  obtain⟨na,ea⟩:=W3 h2.za;obtain⟨nd,ed⟩:=W3 h2.zd;obtain⟨nb,eb⟩:=W3 h2.zb;exact⟨a,dx,b,h1,⟨⟨C,fs,vs,us,by rw[aj na];exact g1,g2,g3,by rw[aj nb];exact g4,g5⟩,by rw[aj nd];exact h2.own,h2.fa,h2.fd,h2.fb,ea,ed,eb⟩,h3⟩
def li (g:D->aa->R aa) (gt:aa->R Bool) (fe:aa->R D):List D->aa->R (List D)
 |[],_=> .ok []
 |d::r,τ=>g d τ>>=λτ1=>gt τ1>>=λb=>if b=true then (fe τ1>>=λy=>li g gt fe r τ1>>=λys=> .ok (y::ys))else li g gt fe r τ1
def LP (K:ND) (g:D->aa->R aa):TG:=λv σ H Q=>∃c:cF [],(∀e ρ,¬c.Er e ρ)/\tG K c g v σ H Q
def LQ (K:ND) (g:aa->R Bool):TT:=λσ H Q=>∃c:cF [],(∀e ρ,¬c.Er e ρ)/\tT K c g σ H Q
def N6 (K:ND) (g:aa->R D):TE:=λσ H Q=>∃c:cF [],(∀e ρ,¬c.Er e ρ)/\tQ K c g σ H Q
def wC (ly:List cR) (X:Cx) (WH:List NS) (gt:aa->R Bool):Prop:=∀c:eG ly X,Cn X WH (tT X.K c.1 gt)
def et:aa->R Bool:=λ_=> .ok true
theorem IN:wC ly X [] et:=λc V_ s σ H Q I q=>by
 obtain⟨F,ρ,ri,w⟩:=q;exact Fb V_ s σ H Q I (w H F (b8.refl ri.sub))
theorem IP {c:NS} (h:mn ly X c gt):wC ly X [c] gt:=λc=>Fc (h c)
theorem qQ {α β:Type} {r:R α} {f:α->R β} {b:β} (h:(r>>=f)= .ok b):∃a,r= .ok a/\f a= .ok b:=by
 cases r with
 |ok a=>exact⟨a,rfl,h⟩
 |err c ρ=>cases h
 |bad=>cases h
theorem nE {c:cF ly} {names:List (NG×NameKind)} {p:NH} {g:D->aa->R aa} {J:It} {ds es:List D} {Q:Hp->Prop} (ri:RI K c ρ σ H F) (e:b8 H F H1 F1) (jo:yh K F1 J ds) (hp:H1 p=JT) (hl:ds.length<=lim) (he:li g gt fe ds (f6 N names ρ)= .ok es) (k:∀H2 F2 vs,b8 H1 F1 H2 F2->H2 p=GS (.lst vs)->F2 p=JT->Reps K F2 vs es->Q H2): jU J (LP K g) (LQ K gt) (N6 K fe) p (ou N names σ) Q (aS H1 p (.lst [])):=by
 have s1:aB F1 H1:=e.sub;have f1:F1 p=JT:=s1.free hp;refine⟨λi m ys τ H=>∃F ρ' pre rest,RI K (⟨aS H1 p (.lst ys),F1,H1,λ_ _=>False,λ_=>JT,λ_=>JT⟩:cF []) ρ' τ H F/\Reps K F ys pre/\pre.length<=i/\m=ds.length - i/\i<=ds.length/\li g gt fe (ds.drop i) ρ'= .ok rest/\pre++rest=es,
  ⟨_,F1,_,[],es,Hf ri e hp, .nil,O2 _,rfl,Pf _,he,rfl⟩,?_⟩
 rintro i m ys τ H2 ⟨F2,ρ',pre,rest,r2,rp,a5z,rfl,hi,hc,a2P⟩
 have a3S:F2 p=JT:=by
  cases q:F2 p with
  |none=>rfl
  |some u=>
   rcases r2.ext.new p (by rw[q];simp)with z|z
   ·exact absurd f1 z
   ·change aS H1 p (.lst ys) p=JT at z;rw[ar]at z;cases z
 have hD:∀{ρ' τ H F},RI K (⟨aS H1 p (.lst ys),F1,H1,λ_ _=>False,λ_=>JT,λ_=>JT⟩:cF []) ρ' τ H F->H p=GS (.lst ys):=λr=>r.ext.keep p _ ar;refine⟨hD r2,?_⟩;by_cases Ww:i<ds.length
 ·refine .inr ⟨jo.go i H2 (r2.ext.grow.trans r2.sub) Ww,?_,λx H3 y=> ?_⟩
  ·have:=rp.length
   have:=fE;omega
  ·obtain⟨F3,d,hd,e3,r3⟩:=jo.yld i H2 F2 x H3 r2.ext.grow r2.sub y Ww
   obtain⟨Z6,ed⟩:=O6.mp hd;rw[Qq Z6,ed]at hc;obtain⟨τ1,h1,hc⟩:=qQ (r:=g d ρ') hc;obtain⟨b,h2,hc⟩:=qQ (r:=gt τ1) hc;refine⟨_,λe ρ h=>h,F3,ρ',d,r2.step e3,r3,?_⟩;rw[h1];intro τ4 H4 F4 s4 r4;refine⟨_,λe ρ h=>h,F4,τ1,r4,?_⟩;rw[h2];intro H5 F5 e5;cases b with
   |false=>
    exact⟨ds.length - (i+1),by omega,F5,τ1,pre,rest,r4.step e5,(rp.mono e3.grow).mono (s4.trans e5.grow),by omega,rfl,Ww,hc,a2P⟩
   |true=>
    rw[if_pos rfl]at hc ⊢;obtain⟨y',h3,hc⟩:=qQ (r:=fe τ1) hc;obtain⟨a5A,h4,hc⟩:=qQ (r:=li g gt fe (ds.drop (i+1)) τ1) hc;cases hc;refine⟨_,λe ρ h=>h,F5,τ1,r4.step e5,?_⟩;rw[h3];intro v H6 F6 e6 r6;have a1n:=(r4.step e5).step e6;refine⟨hD a1n,ds.length - (i+1),by omega,F6,τ1,pre++[y'],a5A,a1n.bump hp ?_,(((rp.mono e3.grow).mono (s4.trans e5.grow)).mono e6.grow).append (.cons r6 .nil),by simp;omega,rfl,Ww,h4,by rw[<-a2P];simp⟩;cases q:F6 p with
    |none=>rfl
    |some u=>
     rcases a1n.ext.new p (by rw[q];simp)with z|z
     ·exact absurd f1 z
     ·change aS H1 p (.lst ys) p=JT at z;rw[ar]at z;cases z
 ·have ei:i=ds.length:=by omega
  subst ei;rw[T9]at hc;cases hc;rw[P2]at a2P;subst a2P;refine .inl ⟨jo.stop H2 (r2.ext.grow.trans r2.sub),k H2 F2 ys ⟨r2.sub,(bJ hp).trans r2.ext.keep,r2.ext.grow,λa ha=> ?_⟩ (hD r2) a3S rp⟩;rcases r2.ext.new a ha with z|z
  ·exact .inl z
  ·refine .inr ?_
   change aS H1 p (.lst ys) a=JT at z;rw[aj (λq=>by subst q;rw[ar]at z;cases z)]at z;exact z
section
variable {X:Cx} {WI tg iter:NS} {WH:List NS} {scope:PJ} {pos:Ox} {fi:aa->R (List D)} {g:D->aa->R aa} {gt:aa->R Bool} {fe:aa->R D}
def aZ (N:List NG) (names:List (NG×NameKind)) (fi:aa->R (List D)) (g:D->aa->R aa) (gt:aa->R Bool) (fe:aa->R D):aa->R (List D):=λρ=>fi ρ>>=λds=>if ds.length<=lim then (match li g gt fe ds (f6 N names ρ)with
 | .ok es=> .ok es
 |_=> .bad)else .bad
def fL (f:aa->R (List D)):aa->R D:=λρ=>f ρ>>=λds=> .ok (.lst ds)
theorem LR (h:CK [] X tg g):PG X tg (LP X.K g):=λV_ s σ H v u Q I r ⟨c,hn,q⟩=>h ⟨c, .no hn⟩ V_ s σ H v u Q I r q
theorem LU (h:wC [] X WH gt):Cn X WH (LQ X.K gt):=λV_ s σ H Q I ⟨c,hn,q⟩=>h ⟨c, .no hn⟩ V_ s σ H Q I q
theorem MF (h:PQ [] X WI fe):PE X WI (N6 X.K fe):=λV_ s σ H Q I ⟨c,hn,q⟩=>h ⟨c, .no hn⟩ V_ s σ H Q I q
theorem IQ (S:bz X scope) (hc:X.calm=true) (hi:Ez ly X tg iter fi) (hg:∀s H ex,CK [] (bA X scope s H ex) tg g) (Yf:∀s H ex,wC [] (bA X scope s H ex) WH gt) (Yb:∀s H ex,PQ [] (bA X scope s H ex) WI fe) (hs:∀x,P8 iter X.env x=pure x:=by intro _;rfl):PQ ly X (.ListComp WI [⟨tg,iter,WH,0⟩] scope pos) (fL (aZ X.N scope.names fi g gt fe)):=⟨λc=>
 PE.weak (zr S hc (hi c) (λs H ex=>LR (hg s H ex)) (λs H ex=>LU (Yf s H ex)) (λs H ex=>MF (Yb s H ex)) hs) λσ H Q ⟨F,ρ,ri,w⟩=>by
  refine⟨F,ρ,ri,(aw.bind.mp (aw.bind.mp w)).imp λds _ w1 J H1 F1 e1 jo p hp=> ?_⟩;split at w1
  ·rename_i hl
   split at w1
   ·rename_i es he
    refine nE ri e1 jo hp hl he λH2 F2 vs e2 a0r a1o rv=> ?_;have g2:aB F2 (aS F2 p (.lst vs)):=bJ a1o;refine w1 (.ref p) H2 (aS F2 p (.lst vs)) ⟨λb u eb=> ?_,e1.keep.trans e2.keep,(e1.grow.trans e2.grow).trans g2,λa ha=> ?_⟩ (.lst ar (rv.mono g2))
    ·by_cases z:b=p
     ·subst z;rw[ar]at eb;rw[a0r];exact eb
     ·rw[aj z]at eb;exact e2.sub b u eb
    ·by_cases z:a=p
     ·subst z;exact .inr (e1.keep.free hp)
     ·rw[aj z]at ha
      exact(e1.trans e2).new a ha
   ·exact w1.elim
  ·exact w1.elim⟩
def j0 (i:Nat) (f:aa->R (List D)):aa->R aF:=λρ=>f ρ>>=λds=> .ok (.nx (ρ.set i (GS (.own (.lst ds)))))
theorem IS (i:Nat) {y:NG} {py WW:Ox} (S:bz X scope) (hc:X.calm=true) (hN:X.N.Nodup) (hi:Ez ly X tg iter fi) (hg:∀s H ex,CK [] (bA X scope s H ex) tg g) (Yf:∀s H ex,wC [] (bA X scope s H ex) WH gt) (Yb:∀s H ex,PQ [] (bA X scope s H ex) WI fe) (Zq:X.N[i]? =GS y:=by rfl) (hx:yV X.env.scope y:=by first|exact OG rfl|exact Oj rfl) (hf:X.fn y=true\/X.env.scope.names.lookup y=GS .local:=by first|exact .inl rfl|exact .inr rfl|assumption) (Yg:ON (.ListComp WI [⟨tg,iter,WH,0⟩] scope pos) (GS (.Name y py)) WW.line X.env=pure true:=by rfl) (hs:∀x,P8 iter X.env x=pure x:=by intro _;rfl) (WM:jW ly i:=by(repeat (first|assumption|exact L2.Pu.dB|refine L2.Pu.cK ⟨by first|decide|simp,by first|decide|simp⟩ ?_))): e_ ly X (.Assign [.Name y py] (.ListComp WI [⟨tg,iter,WH,0⟩] scope pos) WW) (j0 i (aZ X.N scope.names fi g gt fe)):=⟨λc=>
 PS.weak (Fe S hc (hi c) (λs H ex=>LR (hg s H ex)) (λs H ex=>LU (Yf s H ex)) (λs H ex=>MF (Yb s H ex)) (uN hN Zq hx hf) Yg hs) λD σ H ⟨F,ρ,ri,w⟩=>by
  refine⟨F,ρ,ri,(aw.bind.mp (aw.bind.mp w)).imp λds _ w1 J H1 F1 e1 jo p hp=> ?_⟩;split at w1
  ·rename_i hl
   split at w1
   ·rename_i es he
    refine nE ri e1 jo hp hl he λH2 F2 vs e2 a0r a1o rv=> ?_;refine w1 _ H2 F2 (e1.grow.trans e2.grow) ((ri.step (e1.trans e2)).setOwn i WM a0r a1o (ri.ext.keep.free (e1.keep.free hp)) (.lst rv) (λj d' _ hj ej=> ?_) (ri.celNe (e1.trans e2).keep (e1.keep.free hp)));obtain⟨a,o,k1,k2,_⟩:=ri.own j d' hj;rw[ej]at k1;cases k1;rw[e1.keep.free hp]at k2;cases k2
   ·exact w1.elim
  ·exact w1.elim⟩
end
def iq:D->Option aU
 | .int i=>GS (.inl i)
 | .str x=>GS (.inr x)
 |_=>JT
def jv (WN:List (aU×D)) (k:aU):Option D:=(WN.find? λkv=>decide (kv.1=k)).map (·.2)
def wD (WN:List (aU×D)) (k:aU) (v:D):List (aU×D):=
 if (WN.any λkv=>decide (kv.1=k))=true then WN.map (λkv=>if kv.1=k then (kv.1,v)else kv)else WN++[(k,v)]
theorem jw {d:D} {k:aU} (h:iq d=GS k) (r:b_ K H F v d):v=kV k:=by
 cases d with
 |int i=>cases h;exact r.int
 |str x=>cases h;exact r.str
 |_=>cases h
section
variable {K:ND} {F:Hp}
theorem RepK.any (k:aU):∀{vs:List (aU×V)} {ds:List (aU×D)},RepK K F vs ds->(vs.any λkv=>decide (kv.1=k))=ds.any λkv=>decide (kv.1=k):=by
 intro vs ds
 induction ds generalizing vs with
 |nil=>intro h;rw[h.nilI];rfl
 |cons d ds ih=>
  intro h;obtain⟨v,us,rfl,_,t⟩:=RepK.consI (k:=d.1) (d:=d.2) h;rw[Px,Px,ih t]
theorem RepK.get (k:aU):∀{vs:List (aU×V)} {ds:List (aU×D)},RepK K F vs ds->(jS vs k=JT/\jv ds k=JT)\/∃v d,jS vs k=GS v/\jv ds k=GS d/\cD K F v d:=by
 intro vs ds
 induction ds generalizing vs with
 |nil=>intro h;rw[h.nilI];exact .inl ⟨rfl,rfl⟩
 |cons d ds ih=>
  intro h;obtain⟨a,d⟩:=d;obtain⟨v,vs,rfl,r,t⟩:=h.consI;by_cases e:a=k
  ·exact .inr ⟨v,d,by simp[jS,e],by simp[jv,e],r⟩
  ·have h1:jS ((a,v)::vs) k=jS vs k:=by simp[jS,e]
   have h2:jv ((a,d)::ds) k=jv ds k:=by simp[jv,e]
   rw[h1,h2];exact ih t
theorem RepK.repl (k:aU) {v:V} {d:D} (h:cD K F v d):∀{vs:List (aU×V)} {ds:List (aU×D)},RepK K F vs ds->RepK K F (vs.map λkv=>if kv.1=k then (kv.1,v)else kv) (ds.map λkv=>if kv.1=k then (kv.1,d)else kv):=by
 intro vs ds
 induction ds generalizing vs with
 |nil=>intro h;rw[h.nilI];exact .nil
 |cons x ds ih=>
  intro g;obtain⟨a,x⟩:=x;obtain⟨y,vs,rfl,r,t⟩:=g.consI;rw[NP,NP];by_cases e:a=k
  ·simp only[e,if_true];exact .cons h (ih t)
  ·simp only[e,if_false];exact .cons r (ih t)
theorem RepK.append:∀{vs us:List (aU×V)} {ds es:List (aU×D)},RepK K F vs ds->RepK K F us es->RepK K F (vs++us) (ds++es):=by
 intro vs us ds
 induction ds generalizing vs with
 |nil=>intro es h g;rw[h.nilI];exact g
 |cons x ds ih=>
  intro es h g;obtain⟨a,x⟩:=x;obtain⟨y,vs,rfl,r,t⟩:=h.consI;exact .cons r (ih t g)
theorem RepK.put (k:aU) {v:V} {d:D} (h:cD K F v d) {vs:List (aU×V)} {ds:List (aU×D)} (r:RepK K F vs ds):RepK K F (kW vs k v) (wD ds k d):=by
 unfold kW wD;rw[r.any k];split
 ·exact r.repl k h
 ·exact r.append (.cons h .nil)
end
theorem CP {kvs:List (aU×V)} {k:aU} (v:V) (hn:(kvs.map (·.1)).Nodup):((kW kvs k v).map (·.1)).Nodup:=by
 unfold kW;split
 ·have e:(kvs.map λkv=>if kv.1=k then (kv.1,v)else kv).map (·.1)=kvs.map (·.1):=by
   rw[OL];refine R1 λkv _=> ?_;show (if kv.1=k then (kv.1,v)else kv).1=kv.1;split<;>rfl
  rw[e];exact hn
 ·rename_i h
  rw[Oo];refine Qo.mpr ⟨hn,by simp,λa ha b hb=> ?_⟩;have eb:b=k:=by simpa using hb
  subst eb;intro z;subst z;obtain⟨kv,h1,h2⟩:=Oz.mp ha;exact h (OC.mpr ⟨kv,h1,by simp[h2]⟩)
section
variable {X:Cx} {a b e:NS} {es:List NS} {fa fb f fk fv:aa->R D} {fs:aa->R (List D)} {pos:Ox}
def nF (i:Nat) (f:aa->R D):aa->R aF:=λρ=>match ρ[i]? with
 |some (GS (.own (.lst ds)))=>f ρ>>=λd=>if ds.length<lim then .ok (.nx (ρ.set i (GS (.own (.lst (ds++[d]))))))else .bad
 |_=> .bad
theorem RI.ownL {c:cF ly} (ri:RI K c ρ σ H F) {i:Nat} {ds:List D} (h:ρ[i]? =GS (GS (.own (.lst ds)))):∃a vs,σ[i]? =GS (GS (.ref a))/\H a=GS (.lst vs)/\Reps K F vs ds:=by
 obtain⟨a,o,h1,h2,_,_,h5⟩:=ri.own i _ h;cases h5 with
 |lst r=>exact⟨a,_,h1,h2,r⟩
theorem RI.ownD {c:cF ly} (ri:RI K c ρ σ H F) {i:Nat} {ds:List (aU×D)} (h:ρ[i]? =GS (GS (.own (.dic ds)))):∃a vs,σ[i]? =GS (GS (.ref a))/\H a=GS (.dK vs)/\RepK K F vs ds/\(vs.map (·.1)).Nodup:=by
 obtain⟨a,o,h1,h2,_,_,h5⟩:=ri.own i _ h;cases h5 with
 |dic r n=>exact⟨a,_,h1,h2,r,n⟩
theorem CQ (i:Nat) {x:NG} {px W8 W7:Ox} (h:PQ ly X e f) (hN:X.N[i]? =GS x:=by rfl) (hv:pz X.env.scope x:=by first|exact OG rfl|exact Oj (OG rfl)|exact Oj (Oj rfl)) (hd:(x==("__debug__":NG))=false:=by decide) (WG:(x==("__classdict__":NG))=false:=by decide) (Wl:OJ (.Name x px) "append" X.env (O8 (.Name x px) X.env)=O8 (.Name x px) X.env:=by rfl) (Xp:((Om W7 (NL [e] X.env)).all (λx=> !x.1)&&(Q2 W7 (Pg [] X.env)).all (λx=>x.1.isSome) &&decide (([e]:List NS).length+([]:List Qh).length+(if ([]:List Qh).isEmpty then 0 else 1)<30))=true:=by rfl) (Wm:(W8.endLine==W7.line)=true:=by rfl) (hs:NL [e] X.env=(false,O8 e X.env)::NL [] X.env:=by rfl) (Wn:(Om W7 (NL [] X.env)).any (·.1)=false:=by rfl) (Yg:ON (.Call (.Attribute (.Name x px) "append" W8) [e] [] W7) JT pos.line X.env=pure false:=by rfl):e_ ly X (.Expr (.Call (.Attribute (.Name x px) "append" W8) [e] [] W7) pos) (nF i f):=⟨λc=>
 PS.weak (og (zn Pk Ta Tb mj (pv i hN hv hd WG) (cU (h c) gX hs) Wl Xp Wm hs Wn) Yg) λD σ H ⟨F,ρ,ri,w⟩=>by
  unfold nF at w;split at w
  ·rename_i ds hi
   obtain⟨a,vs,h1,h2,h3⟩:=ri.ownL hi;refine⟨_,h1, .inl ⟨rfl,vs,cP.of h2⟩,F,ρ,ri,(aw.bind.mp w).imp λd _ w1 v H1 F1 e1 r1=> ?_⟩;split at w1
   ·rename_i hl
    refine⟨a,vs,v,rfl,rfl,e1.keep _ _ h2,Ol (by rw[h3.length];exact hl) fE,?_⟩;exact w1 σ _ F1 e1.grow ((ri.step e1).change (o:= .lst vs) hi h1 (.lst ((h3.mono e1.grow).append (.cons r1 .nil))))
   ·exact w1.elim
  ·exact w.elim⟩
def AS (i:Nat) (fk fv:aa->R D):aa->R aF:=λρ=>match ρ[i]? with
 |some (GS (.own (.dic WN)))=>fv ρ>>=λv=>fk ρ>>=λk=>match iq k with
  |some W3=>if WN.length<lim then .ok (.nx (ρ.set i (GS (.own (.dic (wD WN W3 v))))))else .bad
  |none=> .bad
 |some (GS (.own (.lst ds)))=>fv ρ>>=λv=>fk ρ>>=λk=>match k with
  | .int j=>(match xD ds.length j with
   |some n=> .ok (.nx (ρ.set i (GS (.own (.lst (ds.set n v))))))
   |none=> .bad)
  |_=> .bad
 |_=> .bad
theorem L7 (i:Nat) {x:NG} {px We:Ox} (hu:X.A.units+1<Q3) (hk:PQ ly X a fk) (h:PQ ly X e fv) (hN:X.N[i]? =GS x:=by rfl) (hv:pz X.env.scope x:=by first|exact OG rfl|exact Oj (OG rfl)|exact Oj (Oj rfl)) (hd:(x==("__debug__":NG))=false:=by decide) (WG:(x==("__classdict__":NG))=false:=by decide) (hs:ON e (GS (.Subscript (.Name x px) a We)) pos.line X.env=pure false:=by rfl) (ha:∀v,Qu (.Subscript (.Name x px) a We) X.env v=(do let ov<-Q9 [v] (O8 (.Name x px) X.env) let iv<-Q9 [v,ov] (O8 a X.env) QZ We Q9 [v,ov,iv] (VC ov iv v) release [v,ov,iv] []):=by intro _;rfl) (Yy:Sh [.Subscript (.Name x px) a We] e pos.line X.env=pure false:=by rfl) (hw:Si [.Subscript (.Name x px) a We] e X.env=pure JT:=by rfl) (h1:(OV [.Subscript (.Name x px) a We] X.env).map (·.2)=[Qu (.Subscript (.Name x px) a We) X.env]:=by rfl):e_ ly X (.Assign [.Subscript (.Name x px) a We] e pos) (AS i fk fv):=by
 refine⟨?_⟩;intro c V_ s σ H D I q;obtain⟨F,ρ,ri,w⟩:=q;unfold AS at w;split at w
 ·rename_i WN hi
  obtain⟨p,vs,g1,g2,g3,g4⟩:=ri.ownD hi;refine F9 hu (pv i hN hv hd WG) (hk c) (h c) hs V_ s σ H D I ⟨F,ρ,ri,(aw.bind.mp w).imp λd _ w1 v H1 F1 e1 r1=> ?_⟩;refine⟨_,g1,F1,ρ,ri.step e1,(aw.bind.mp w1).imp λk _ w2 u H2 F2 e2 r2=> ?_⟩;cases Zv:iq k with
  |none=>rw[Zv]at w2;exact w2.elim
  |some W3=>
   rw[Zv]at w2;cases jw (H:=H2) Zv (.inl r2);dsimp only at w2;split at w2
   ·rename_i hl
    have a0D:=e1.trans e2;refine⟨p,_,rfl,xY.k (k:=W3) (a0D.keep _ _ g2) (Ol (by rw[g3.length];exact hl) fE),?_⟩;exact w2 σ _ F2 a0D.grow ((ri.step a0D).change (o:= .dK vs) hi g1 (.dic ((g3.mono a0D.grow).put W3 (r1.mono e2.grow)) (CP _ g4)))
   ·exact w2.elim
 ·rename_i ds hi
  obtain⟨p,vs,g1,g2,g3⟩:=ri.ownL hi;refine xG (h c) (HN (pv i hN hv hd WG) (hk c) Cb ha) Yy hw h1 V_ s σ H D I ⟨F,ρ,ri,(aw.bind.mp w).imp λd _ w1 v H1 F1 e1 r1=> ?_⟩;refine⟨_,g1,F1,ρ,ri.step e1,(aw.bind.mp w1).imp λk _ w2 u H2 F2 e2 r2=> ?_⟩;cases k with
  |int j=>
   cases r2;dsimp only at w2;split at w2
   ·rename_i n hn
    have a0D:=e1.trans e2;refine⟨p,vs,j,n,rfl,rfl,a0D.keep _ _ g2,by rw[g3.length];exact hn,?_⟩;exact w2 σ _ F2 a0D.grow ((ri.step a0D).change (o:= .lst vs) hi g1 (.lst ((g3.mono a0D.grow).set n (r1.mono e2.grow))))
   ·exact w2.elim
  |_=>exact w2.elim
 ·exact w.elim
end
end L2.Pu
variable {vs:List (NG×L2.V)} {m:List L2.Pu.D->L2.Pu.R L2.Pu.D} {gb g':L2.Pu.aa->L2.Pu.R L2.Pu.aF}
namespace L2.Pu
variable {ly:List cR}
section
variable {K:ND}
def t8 (i j:Int):Prop:=i.natAbs<18446744073709551616\/j.natAbs<18446744073709551616
def yj (_ j:Int):Prop:=0<j/\j.natAbs<1073741824
def CS (i j:Int):Prop:=0<=j/\j.natAbs<=1000000/\i.natAbs<18446744073709551616
instance (i j:Int):Decidable (t8 i j):=by unfold t8;infer_instance
instance (i j:Int):Decidable (yj i j):=by unfold yj;infer_instance
instance (i j:Int):Decidable (CS i j):=by unfold CS;infer_instance
theorem t8.c {i:Int} (h:t8 i j):Am i j:=by
 unfold t8 at h;unfold Am;omega
theorem yj.c {i:Int} (h:yj i j):EH i j:=by
 unfold yj at h;unfold EH;omega
theorem CS.c {i:Int} (h:CS i j):Kj i j:=by
 unfold CS at h;unfold Kj;omega
def aV:D->D->Option D
 | .int i, .int j=>GS (.int (i+j))
 | .lst a, .lst b=>if a.length+b.length<=lim then GS (.lst (a++b))else JT
 | .tup a, .tup b=>if a.length+b.length<=lim then GS (.tup (a++b))else JT
 |_,_=>JT
def Hg (K:ND):R2:=λx y H Q=>(Al (λi j=> .int (i+j)) x y H Q\/Kv x y H Q)\/(GY K x y H Q\/H9 K x y H Q)
theorem Fx:kU X (Q1 .Add) (Hg X.K):=(HV.or Ii).or (ET.or Fn)
theorem Fy:i_ K (Hg K) aV:=by
 intro v u x y d H F Q s rx ry h k;unfold aV at h;split at h
 ·cases rx.int;cases ry.int;cases h;exact .inl (.inl ⟨_,_,rfl,rfl,k _ H F (b8.refl s) (.int _)⟩)
 ·rename_i a b
  split at h
  ·rename_i hl
   cases h;obtain⟨p,vs,rfl,h1,h2⟩:=rx.lst s;obtain⟨q,us,rfl,h3,h4⟩:=ry.lst s;refine .inl (.inr ⟨p,q,vs,us,rfl,rfl,h1,h3,Ou (by rw[h2.length,h4.length];exact hl) fE,λl Z6=> ?_⟩);have e:=b8.lay (o:= .lst (vs++us)) s Z6;exact k _ _ _ e (.lst ar ((h2.append h4).mono e.grow))
  ·cases h
 ·rename_i a b
  split at h
  ·rename_i hl
   cases h;obtain⟨p,vs,rfl,h1,h2⟩:=rx.tup s;obtain⟨q,us,rfl,h3,h4⟩:=ry.tup s;cases a with
   |nil=>
    cases h2;refine .inr (.inr ⟨p,q,us,rfl,rfl,gf.of h1,gf.of h3,?_⟩)
    match ry with
    | .inl ry=>exact k _ H F (b8.refl s) ry
   |cons a0 a1=>
    refine .inr (.inl ⟨p,q,vs,us,rfl,rfl,gf.of h1,gf.of h3,(λz=>by subst z;cases h2),Ou (by rw[h2.length,h4.length];exact hl) fE,λz=> ?_,λ_ l Z6=> ?_⟩)
    ·subst z
     cases h4;rw[P2]at k
     match rx with
     | .inl rx=>exact k _ H F (b8.refl s) rx
    ·have e:=b8.lay (o:= .tup (vs++us)) s Z6
     exact k _ _ _ e (.tup ar ((h2.append h4).mono e.grow))
  ·cases h
 ·cases h
def JU (g:Int->Int->D):D->D->Option D
 | .int i, .int j=>GS (g i j)
 |_,_=>JT
def IT (C:Int->Int->Prop) [∀i j,Decidable (C i j)] (g:Int->Int->D):D->D->Option D
 | .int i, .int j=>if C i j then GS (g i j)else JT
 |_,_=>JT
theorem v8 {gv:Int->Int->V} {g:Int->Int->D} (hg:∀F i j,cD K F (gv i j) (g i j)):i_ K (Al gv) (JU g):=by
 intro v u x y d H F Q s rx ry h k;cases x with
 |int i=>
  cases y with
  |int j=>cases rx.int;cases ry.int;cases h;exact⟨i,j,rfl,rfl,k _ H F (b8.refl s) (hg F i j)⟩
  |_=>cases h
 |_=>cases h
theorem CT {C C':Int->Int->Prop} [∀i j,Decidable (C i j)] {gv:Int->Int->V} {g:Int->Int->D} (hC:∀i j,C i j->C' i j) (hg:∀F i j,cD K F (gv i j) (g i j)):i_ K (rI C' gv) (IT C g):=by
 intro v u x y d H F Q s rx ry h k;cases x with
 |int i=>
  cases y with
  |int j=>
   cases rx.int;cases ry.int
   replace h:(if C i j then GS (g i j)else JT)=GS d:=h
   split at h
   ·cases h;exact⟨i,j,rfl,rfl,hC i j (by assumption),k _ H F (b8.refl s) (hg F i j)⟩
   ·cases h
  |_=>cases h
 |_=>cases h
def jg:=JU λi j=> .int (i - j)
def f7:=IT yj λi j=> .int (i / j)
def bw:=IT (λ_ j=>0<j) λi j=> .int (i%j)
def nG:=JU λi j=> .bl (decide (i<j))
def Nq:=JU λi j=> .bl (decide (i<=j))
def nH:=JU λi j=> .bl (decide (j<i))
def Hh:=JU λi j=> .bl (decide (j<=i))
theorem FA:i_ K (Al λi j=> .int (i - j)) jg:=v8 λF i j=> .int _
theorem CU:i_ K (rI EH λi j=> .int (i / j)) f7:=CT (λ_ _ h=>h.c) λF i j=> .int _
theorem FC:i_ K (rI (λ_ j=>0<j) λi j=> .int (i%j)) bw:=CT (λ_ _ h=>h) λF i j=> .int _
theorem yk:i_ K (Al λi j=> .bl (decide (i<j))) nG:=v8 λF i j=> .bl _
theorem yl:i_ K (Al λi j=> .bl (decide (j<i))) nH:=v8 λF i j=> .bl _
theorem IU:i_ K (Al λi j=> .bl (decide (j<=i))) Hh:=v8 λF i j=> .bl _
def jY:D->D->Option D
 | .int i, .int j=>if t8 i j then GS (.int (i*j))else JT
 | .lst a, .int k=>if k.natAbs<=lim/\a.length*k.toNat<=lim then GS (.lst (Oa k.toNat a).flatten)else JT
 |_,_=>JT
def CV:R2:=λx y H Q=>rI Am (λi j=> .int (i*j)) x y H Q\/Kw x y H Q
theorem zD:kU X (Q1 .Mult) CV:=HX.or Ij
theorem Reps.rep {F:Hp} {vs:List V} {ds:List D} (h:Reps K F vs ds):∀k:Nat,Reps K F (Oa k vs).flatten (Oa k ds).flatten
 |0=> .nil
 |k+1=>by
  rw[P7,P7,Q5,Q5];exact h.append (h.rep k)
theorem FD:i_ K CV jY:=by
 intro v u x y d H F Q s rx ry h k;unfold jY at h;split at h
 ·rename_i i j
  cases rx.int;cases ry.int
  replace h:(if t8 i j then GS (D.int (i*j))else JT)=GS d:=h
  split at h
  ·rename_i hb;cases h;exact .inl ⟨i,j,rfl,rfl,t8.c hb,k _ H F (b8.refl s) (.int _)⟩
  ·cases h
 ·rename_i a j
  split at h
  ·rename_i hl
   cases h;cases ry.int;obtain⟨p,vs,rfl,h1,h2⟩:=rx.lst s;refine .inr ⟨p,j,vs,rfl,rfl,h1,by have:=gH hl.1;omega,by have:=gH hl.1;omega,Ou (by rw[h2.length];exact hl.2) fE,λl Z6=> ?_⟩;have e:=b8.lay (o:= .lst (Oa j.toNat vs).flatten) s Z6;exact k _ _ _ e (.lst ar ((h2.rep _).mono e.grow))
  ·cases h
 ·cases h
def gj:D->Option D
 | .int i=>GS (.int (-i))
 |_=>JT
theorem FE:KJ K (rU λi=> .int (-i)) gj:=by
 intro v x d H F Q s rx h k;cases x with
 |int i=>cases rx.int;cases h;exact⟨i,rfl,k _ H F (b8.refl s) (.int _)⟩
 |_=>cases h
def ym:D->D->Option Bool
 | .non, .non=>GS true
 | .non, .int _=>GS false
 | .int _, .non=>GS false
 | .non, .bl _=>GS false
 | .bl _, .non=>GS false
 | .non, .str _=>GS false
 | .str _, .non=>GS false
 | .int i, .int j=>GS (decide (i=j))
 | .bl i, .bl j=>GS (decide (i=j))
 | .str i, .str j=>GS (decide (i=j))
 | .int _, .str _=>GS false
 | .str _, .int _=>GS false
 | .bl _, .str _=>GS false
 | .str _, .bl _=>GS false
 |_,_=>JT
def dD (x y:D):Option D:=(ym x y).map .bl
def v9 (x y:D):Option D:=(ym x y).map λb=> .bl (!b)
theorem ui {x:D} {b:Bool} (rx:b_ K H F v x) (ry:b_ K H F u y) (h:ym x y=GS b):HZ v u=true/\decide (v=u)=b:=by
 cases x<;>cases y<;>first
  |(exfalso;revert h;simp[ym];done)
  |(first|cases rx.int|cases rx.bl|cases rx.str|cases rx.non)<;>(first|cases ry.int|cases ry.bl|cases ry.str|cases ry.non)<;>(refine⟨rfl,?_⟩;simp[ym]at h ⊢;try exact h)
theorem CW:i_ K N0 dD:=by
 intro v u x y d H F Q s rx ry h k;unfold dD at h;cases e:ym x y with
 |none=>rw[e]at h;cases h
 |some b=>
  rw[e]at h;cases h;obtain⟨h1,h2⟩:=ui rx ry e;exact⟨h1,by rw[h2];exact k _ H F (b8.refl s) (.bl b)⟩
theorem CY:i_ K N1 v9:=by
 intro v u x y d H F Q s rx ry h k;unfold v9 at h;cases e:ym x y with
 |none=>rw[e]at h;cases h
 |some b=>
  rw[e]at h;cases h;obtain⟨h1,h2⟩:=ui rx ry e;exact⟨h1,by rw[h2];exact k _ H F (b8.refl s) (.bl _)⟩
def L8:D->D->Option D
 | .non, .non=>GS (.bl true)
 | .scr _, .non=>JT
 |_, .non=>GS (.bl false)
 |_,_=>JT
def va:D->D->Option D
 | .non, .non=>GS (.bl false)
 | .scr _, .non=>JT
 |_, .non=>GS (.bl true)
 |_,_=>JT
def CZ:D->Bool
 | .non=>true
 |_=>false
theorem AT {x:D} (s:aB F H) (rx:b_ K H F v x):decide (v= .non)=CZ x:=by
 cases x with
 |non=>cases rx.non;rfl
 |bl b=>cases rx.bl;rfl
 |int i=>cases rx.int;rfl
 |str z=>cases rx.str;rfl
 |tup ds=>obtain⟨a,vs,rfl,_⟩:=rx.tup s;rfl
 |lst ds=>obtain⟨a,vs,rfl,_⟩:=rx.lst s;rfl
 |dic ds=>obtain⟨a,vs,rfl,_⟩:=rx.dic s;rfl
 |scr ns=>obtain⟨a,rfl,_⟩:=rx.scr s;rfl
 |ins C fs=>
  rcases rx with rx|⟨a,o,rfl,_,q⟩
  ·cases rx;rfl
  ·cases q
 |exc C=>
  rcases rx with rx|⟨a,o,rfl,_,q⟩
  ·cases rx;rfl
  ·cases q
theorem MG {x d:D} (h:L8 x y=GS d):y= .non/\d= .bl (CZ x):=by
 unfold L8 at h;split at h
 ·cases h;exact⟨rfl,rfl⟩
 ·cases h
 ·rename_i n1 _
  cases h;refine⟨rfl,?_⟩;unfold CZ;split
  ·exact absurd rfl n1
  ·rfl
 ·cases h
theorem yn:i_ K (λx y H Q=>y= .non/\Q (.bl (!decide (x= .non))) H) va:=by
 intro v u x y d H F Q s rx ry h k;cases y with
 |non=>
  cases ry.non;refine⟨rfl,?_⟩;rw[AT s rx];cases x<;>first|(cases h;exact k _ H F (b8.refl s) (.bl _))|cases h
 |_=>cases x<;>cases h
def lj:D->Bool
 | .non=>true
 | .bl _=>true
 | .int _=>true
 | .str _=>true
 |_=>false
def JV:D->D->Bool
 | .non, .non=>true
 | .bl a, .bl b=>a==b
 | .bl a, .int b=>(if a then 1 else 0)==b
 | .int a, .bl b=>a==(if b then 1 else 0)
 | .int a, .int b=>a==b
 | .str a, .str b=>a==b
 |_,_=>false
theorem oF {d:D} (r:cD K F v d) (h:lj d=true):gM v=true:=by
 cases r<;>first|rfl|cases h
theorem C_ {x:D} (r:cD K F v x) (q:cD K F u y) (hx:lj x=true) (hy:lj y=true):BJ v u=JV x y:=by
 cases r<;>first|(cases hx;done)|(cases q<;>first|rfl|(cases hy;done))
theorem Reps.flat:∀{vs:List V} {ds:List D},Reps K F vs ds->ds.all lj=true->vs.all gM=true:=by
 intro vs ds
 induction ds generalizing vs with
 |nil=>intro h _;rw[h.nilI];rfl
 |cons d ds ih=>
  intro g h;obtain⟨v,us,rfl,r,t⟩:=g.consI;rw[Pn,OX]at h;rw[Pn,oF r h.1,ih t h.2];rfl
theorem Reps.inV {F:Hp} {v:V} {x:D} (rx:cD K F v x) (hx:lj x=true) {vs:List V} {ds:List D} (g:Reps K F vs ds):ds.all lj=true->L2.inV v vs=ds.any λy=>JV y x:=by
 induction ds generalizing vs with
 |nil=>intro _;rw[g.nilI];rfl
 |cons d ds ih=>
  intro h;obtain⟨w,us,e0,r,t⟩:=g.consI;rw[Pn,OX]at h;have:=ih t h.2;rw[e0];unfold L2.inV at this ⊢;rw[Px,Px,C_ r rx h.1 hx,this]
def JW (Xg:Bool) (x:D) (ds:List D):Option D:=if lj x=true/\ds.all lj=true then GS (.bl (if Xg then !(ds.any λy=>JV y x)else ds.any λy=>JV y x))else JT
def yo (Xg:Bool):D->D->Option D
 |x, .lst ds=>JW Xg x ds
 |x, .tup ds=>JW Xg x ds
 |_,_=>JT
theorem wF {x d:D} {ds:List D} (rx:b_ K H F v x) (h:JW Xg x ds=GS d) {vs:List V} (rv:Reps K F vs ds): gM v=true/\vs.all gM=true/\d= .bl (if Xg then !L2.inV v vs else L2.inV v vs):=by
 unfold JW at h;split at h
 ·rename_i hf
  cases h;have a4H:cD K F v x:=by
   rcases rx with rx|⟨a,o,rfl,_,q⟩
   ·exact rx
   ·cases q<;>cases hf.1
  exact⟨oF a4H hf.1,rv.flat hf.2,by rw[rv.inV a4H hf.1 hf.2]⟩
 ·cases h
theorem mz:i_ K (Mp K Xg) (yo Xg):=by
 intro v u x y d H F Q s rx ry h k;cases y with
 |lst ds=>
  obtain⟨a,vs,rfl,h1,h2⟩:=ry.lst s;obtain⟨g1,g2,rfl⟩:=wF rx h h2;exact⟨a,vs,rfl, .inl (cP.of h1),g1,g2,k _ H F (b8.refl s) (.bl _)⟩
 |tup ds=>
  obtain⟨a,vs,rfl,h1,h2⟩:=ry.tup s;obtain⟨g1,g2,rfl⟩:=wF rx h h2;exact⟨a,vs,rfl, .inr (gf.of h1),g1,g2,k _ H F (b8.refl s) (.bl _)⟩
 |_=>cases h
def vb (Xg:Bool):D->D->Option D
 |x, .dic WN=>(iq x).map λk=> .bl (if Xg then !(jv WN k).isSome else (jv WN k).isSome)
 |_,_=>JT
def dE (Xg:Bool) (x y:D):Option D:=match y with
 | .dic _=>vb Xg x y
 |_=>yo Xg x y
theorem RepK.look {vs:List (aU×V)} {ds:List (aU×D)} (r:RepK K F vs ds) (k:aU):(jS vs k).isSome=(jv ds k).isSome:=by
 rcases r.get k with ⟨h1,h2⟩|⟨v,d,h1,h2,_⟩<;>rw[h1,h2]<;>rfl
end
section
variable {X:Cx} {a b e:NS} {es:List NS} {fa fb f fk fv:aa->R D} {fs:aa->R (List D)} {pos:Ox}
theorem D0 {g h:aa->R D} (hg:PQ ly X e g) (hh:PQ ly X e h) (a2g:∀ρ,f ρ=g ρ\/f ρ=h ρ):PQ ly X e f:=⟨λc V_ s σ H Q I ⟨F,ρ,ri,w⟩=>
 (a2g ρ).elim (λz=>hg.ap c V_ s σ H Q I ⟨F,ρ,ri,z▸w⟩) λz=>hh.ap c V_ s σ H Q I ⟨F,ρ,ri,z▸w⟩⟩
theorem Hi {g h f:aa->R Bool} (hg:mn ly X e g) (hh:mn ly X e h) (a2g:∀ρ,f ρ=g ρ\/f ρ=h ρ):mn ly X e f:=⟨λc V_ s σ H Q I ⟨F,ρ,ri,w⟩=>
 (a2g ρ).elim (λz=>hg.ap c V_ s σ H Q I ⟨F,ρ,ri,z▸w⟩) λz=>hh.ap c V_ s σ H Q I ⟨F,ρ,ri,z▸w⟩⟩
theorem vc (ρ:aa):f2 (dE Xg) fa fb ρ=f2 (yo Xg) fa fb ρ\/f2 (dE Xg) fa fb ρ=f2 (vb Xg) fa fb ρ:=by
 unfold f2;cases fa ρ with
 |ok x=>
  cases fb ρ with
  |ok y=>cases y<;>first|exact .inl rfl|exact .inr rfl
  |_=>exact .inl rfl
 |_=>exact .inl rfl
theorem wG {c:cF ly} (h:tQ K c (f2 (vb false) fa fb) σ H Q):Ik (tB' K c fa) (tB' K c fb) σ H Q:=two h λF H2 F2 v u x y e rx ry w=>by
 obtain⟨d,hd,k⟩:=w.of;cases y with
 |dic WN=>
  obtain⟨p,vs,rfl,h1,h2,h3⟩:=ry.dic e.sub
  replace hd:(iq x).map (λk=>D.bl (if false then !(jv WN k).isSome else (jv WN k).isSome))=GS d:=hd
  cases hk:iq x with
  |none=>rw[hk]at hd;cases hd
  |some W3=>
   rw[hk]at hd;cases hd;cases jw hk rx;exact⟨p,_,rfl,oo.k (k:=W3) h1,k _ H2 F2 e (by rw[h2.look];exact .bl _)⟩
 |_=>cases hd
theorem qd {c:cF ly} (h:tQ K c (f2 (vb true) fa fb) σ H Q):uW (tB' K c fa) (tB' K c fb) σ H Q:=two h λF H2 F2 v u x y e rx ry w=>by
 obtain⟨d,hd,k⟩:=w.of;cases y with
 |dic WN=>
  obtain⟨p,vs,rfl,h1,h2,h3⟩:=ry.dic e.sub
  replace hd:(iq x).map (λk=>D.bl (if true then !(jv WN k).isSome else (jv WN k).isSome))=GS d:=hd
  cases hk:iq x with
  |none=>rw[hk]at hd;cases hd
  |some W3=>
   rw[hk]at hd;cases hd;cases jw hk rx;exact⟨p,_,rfl,oo.k (k:=W3) h1,k _ H2 F2 e (by rw[h2.look];exact .bl _)⟩
 |_=>cases hd
theorem MH (hu:X.A.units+1<Q3) (ha:PB ly X a fa) (hb:PB ly X b fb) (hm:Pa .In b=false:=by with_unfolding_all rfl):PQ ly X (.Compare a [.In] [b] pos) (f2 (dE false) fa fb):=
 D0 (uh tV mz ha hb hm) ⟨λc=>PE.weak (BP (Cj hu (ha c) (hb c)) hm) λσ H Q h=>wG h⟩ vc
theorem FF (hu:X.A.units+1<Q3) (ha:PB ly X a fa) (hb:PB ly X b fb) (hm:Pa .NotIn b=false:=by with_unfolding_all rfl):PQ ly X (.Compare a [.NotIn] [b] pos) (f2 (dE true) fa fb):=
 D0 (uh om mz ha hb hm) ⟨λc=>PE.weak (BP (u0 hu (ha c) (hb c)) hm) λσ H Q h=>qd h⟩ vc
theorem D1 {g h:aa->R D} (a2g:∀ρ,f ρ=g ρ\/f ρ=h ρ) (ρ:aa):fT f ρ=fT g ρ\/fT f ρ=fT h ρ:=by
 unfold fT;rcases a2g ρ with z|z
 ·exact .inl (by rw[z])
 ·exact .inr (by rw[z])
theorem MI (hu:X.A.units+1<Q3) (ha:PB ly X a fa) (hb:PB ly X b fb) (hm:Pa .In b=false:=by with_unfolding_all rfl):mn ly X (.Compare a [.In] [b] pos) (fT (f2 (dE false) fa fb)):=
 Hi (kL tV mz ha hb hm) ⟨λc=>ID (c:=c.1) (t:=Ik (tB' X.K c.1 fa) (tB' X.K c.1 fb)) (BQ (Cj hu (ha c) (hb c)) hm) λσ H Q h=>wG h⟩ (D1 vc)
theorem FG (hu:X.A.units+1<Q3) (ha:PB ly X a fa) (hb:PB ly X b fb) (hm:Pa .NotIn b=false:=by with_unfolding_all rfl):mn ly X (.Compare a [.NotIn] [b] pos) (fT (f2 (dE true) fa fb)):=
 Hi (kL om mz ha hb hm) ⟨λc=>ID (c:=c.1) (t:=uW (tB' X.K c.1 fa) (tB' X.K c.1 fb)) (BQ (u0 hu (ha c) (hb c)) hm) λσ H Q h=>qd h⟩ (D1 vc)
def ve:D->D->Option D
 | .lst ds, .int i=>atI ds i
 | .tup ds, .int i=>atI ds i
 | .scr ns, .int i=>(atI ns i).map .int
 |_,_=>JT
def D3:D->D->Option D
 | .dic WN,k=>(iq k).bind λW3=>jv WN W3
 |_,_=>JT
def aA (x y:D):Option D:=match x with
 | .dic _=>D3 x y
 |_=>ve x y
theorem Reps.atI {K:ND} {F:Hp} {vs:List V} {ds:List D} {i:Int} {d:D} (r:Reps K F vs ds) (h:atI ds i=GS d):∃v,L2.atI vs i=GS v/\cD K F v d:=by
 unfold L2.atI at h ⊢;rw[r.length];cases e:xD ds.length i with
 |none=>rw[e]at h;cases h
 |some j=>rw[e]at h;exact r.get h
theorem AU:i_ K (N3 K) ve:=by
 intro v u x y d H F Q s rx ry h k;unfold ve at h;split at h
 ·cases ry.int
  obtain⟨a,vs,rfl,h1,h2⟩:=rx.lst s;obtain⟨w,h3,h4⟩:=h2.atI h;exact .inl ⟨a,vs,_,w,rfl,rfl,cP.of h1,h3,k _ H F (b8.refl s) h4⟩
 ·cases ry.int
  obtain⟨a,vs,rfl,h1,h2⟩:=rx.tup s;obtain⟨w,h3,h4⟩:=h2.atI h;exact .inr (.inl ⟨a,vs,_,w,rfl,rfl,gf.of h1,h3,k _ H F (b8.refl s) h4⟩)
 ·rename_i ns i
  cases ry.int;obtain⟨a,rfl,h1⟩:=rx.scr s;cases e:atI ns i with
  |none=>rw[e]at h;cases h
  |some n=>
   rw[e]at h;cases h;refine .inl ⟨a,ns.map V.int,i, .int n,rfl,rfl,h1,?_,k _ H F (b8.refl s) (.int n)⟩;unfold L2.atI at e ⊢;rw[NK];cases e2:xD ns.length i with
   |none=>rw[e2]at e;cases e
   |some j=>
    rw[e2]at e;show (ns.map V.int)[j]? =_;rw[O9,show ns[j]? =GS n from e]
    rfl
 ·cases h
theorem IV (ρ:aa):f2 aA fa fb ρ=f2 ve fa fb ρ\/f2 aA fa fb ρ=f2 D3 fa fb ρ:=by
 unfold f2;cases fa ρ with
 |ok x=>
  cases fb ρ with
  |ok y=>cases x<;>first|exact .inl rfl|exact .inr rfl
  |_=>exact .inl rfl
 |_=>exact .inl rfl
theorem MJ (hu:X.A.units+1<Q3) (ha:PB ly X a fa) (hb:PB ly X b fb) (hs:zm b:=by intro _ _;rfl):PQ ly X (.Subscript a b pos) (f2 aA fa fb):=
 D0 ⟨λc=>PE.weak (Kq Ig (ha c) (hb c) hs) λσ H Q h=>two h λF H2 F2 v u x y e rx ry w=>by
   obtain⟨d,hd,k⟩:=w.of;exact AU v u x y d H2 F2 Q e.sub rx ry hd λw H' F' e' r'=>k w H' F' (e.trans e') r'⟩
  ⟨λc=>PE.weak (F8 hu (ha c) (hb c) hs) λσ H Q h=>two h λF H2 F2 v u x y e rx ry w=>by
   obtain⟨d,hd,k⟩:=w.of;cases x with
   |dic WN=>
    obtain⟨p,vs,rfl,h1,h2,h3⟩:=rx.dic e.sub
    replace hd:((iq y).bind λW3=>jv WN W3)=GS d:=hd
    cases hk:iq y with
    |none=>rw[hk]at hd;cases hd
    |some W3=>
     rw[hk]at hd;cases jw hk ry;rcases h2.get W3 with ⟨_,z⟩|⟨v',d',z1,z2,z3⟩
     ·rw[show jv WN W3=GS d from hd]at z;cases z
     ·rw[show jv WN W3=GS d from hd]at z2
      cases z2;exact⟨p,v',rfl,z1▸oo.k (k:=W3) h1,k _ H2 F2 e z3⟩
   |_=>cases hd⟩ IV
end
section
variable {K:ND}
theorem mY.one {vs:List V} {d:D}:mY K H F vs [d]->∃v,vs=[v]/\b_ K H F v d:=λh=>by
 cases h with
 |cons r t=>cases t;exact⟨_,rfl,r⟩
theorem mY.two {vs:List V} {d e:D}:mY K H F vs [d,e]->∃v u,vs=[v,u]/\b_ K H F v d/\b_ K H F u e:=λh=>by
 cases h with
 |cons r t=>
  obtain⟨u,e,q⟩:=mY.one t;exact⟨_,u,by rw[e],r,q⟩
def aT:List D->Option D
 |[.lst ds]=>GS (.int ds.length)
 |[.tup ds]=>GS (.int ds.length)
 |[.scr ns]=>GS (.int ns.length)
 |[.dic ds]=>GS (.int ds.length)
 |_=>JT
def Hj (K:ND):List V->Hp->VK->Prop:=λxs H Q=>(∃p ys,xs=[.ref p]/\(cP K H p ys\/gf K H p ys)/\Q (.int ys.length) H)\/∃p kvs,xs=[.ref p]/\H p=GS (.dK kvs)/\Q (.int kvs.length) H
theorem AV:cJ X (.builtin "len") (Hj X.K):=by
 intro V_ s σ H xs us Q I rv h;rcases h with h|⟨p,kvs,rfl,hk,q⟩
 ·exact uU V_ s σ H xs us Q I rv h
 ·obtain⟨u,rfl,ru⟩:=ij rv
  cases ru;exact Ky I (.inl hk) λt s' I'=>⟨.int kvs.length,H,I',⟨t,rfl⟩,q⟩
theorem FH:kY K (Hj K) aT:=by
 intro vs ds d H F Q s rv h k
 match ds,h with
 |[.lst xs],h=>
  obtain⟨v,rfl,r⟩:=rv.one;obtain⟨a,ws,rfl,h1,h2⟩:=r.lst s;cases h;exact .inl ⟨a,ws,rfl, .inl (cP.of h1),by rw[h2.length];exact k _ H F (b8.refl s) (.int _)⟩
 |[.tup xs],h=>
  obtain⟨v,rfl,r⟩:=rv.one;obtain⟨a,ws,rfl,h1,h2⟩:=r.tup s;cases h;exact .inl ⟨a,ws,rfl, .inr (gf.of h1),by rw[h2.length];exact k _ H F (b8.refl s) (.int _)⟩
 |[.scr ns],h=>
  obtain⟨v,rfl,r⟩:=rv.one;obtain⟨a,rfl,h1⟩:=r.scr s;cases h;exact .inl ⟨a,_,rfl, .inl h1,by rw[NK];exact k _ H F (b8.refl s) (.int _)⟩
 |[.dic xs],h=>
  obtain⟨v,rfl,r⟩:=rv.one;obtain⟨a,ws,rfl,h1,h2,h3⟩:=r.dic s;cases h;exact .inr ⟨a,ws,rfl,h1,by rw[h2.length];exact k _ H F (b8.refl s) (.int _)⟩
def a_:List D->Option D
 |[.lst ds]=>GS (.tup ds)
 |[.tup ds]=>GS (.tup ds)
 |_=>JT
theorem mB:kY K (λxs H Q=>∃p ys,xs=[.ref p]/\((cP K H p ys/\∀l,H l=JT->Q (.ref l) (aS H l (.tup ys)))\/(gf K H p ys/\Q (.ref p) H))) a_:=by
 intro vs ds d H F Q s rv h k
 match ds,h with
 |[.lst xs],h=>
  obtain⟨v,rfl,r⟩:=rv.one;obtain⟨a,ws,rfl,h1,h2⟩:=r.lst s;cases h;refine⟨a,ws,rfl, .inl ⟨cP.of h1,λl hl=> ?_⟩⟩;have e:=b8.lay (o:= .tup ws) s hl;exact k _ _ _ e (.tup ar (h2.mono e.grow))
 |[.tup xs],h=>
  obtain⟨v,rfl,r⟩:=rv.one;obtain⟨a,ws,rfl,h1,h2⟩:=r.tup s;cases h;refine⟨a,ws,rfl, .inr ⟨gf.of h1,?_⟩⟩
  match r with
  | .inl r=>exact k _ H F (b8.refl s) r
def lm:List D->Option D
 |[.lst ds]=>GS (.lst ds)
 |[.tup ds]=>GS (.lst ds)
 |[.scr ns]=>GS (.lst (ns.map .int))
 |_=>JT
theorem jx {F:Hp}:∀ns:List Int,Reps K F (ns.map V.int) (ns.map D.int)
 |[]=> .nil
 |n::r=> .cons (.int n) (jx r)
theorem D4:kY K (λxs H Q=>∃p ys,xs=[.ref p]/\(cP K H p ys\/gf K H p ys)/\∀l,H l=JT->Q (.ref l) (aS H l (.lst ys))) lm:=by
 intro vs ds d H F Q s rv h k
 match ds,h with
 |[.lst xs],h=>
  obtain⟨v,rfl,r⟩:=rv.one;obtain⟨a,ws,rfl,h1,h2⟩:=r.lst s;cases h;refine⟨a,ws,rfl, .inl (cP.of h1),λl hl=> ?_⟩;have e:=b8.lay (o:= .lst ws) s hl;exact k _ _ _ e (.lst ar (h2.mono e.grow))
 |[.tup xs],h=>
  obtain⟨v,rfl,r⟩:=rv.one;obtain⟨a,ws,rfl,h1,h2⟩:=r.tup s;cases h;refine⟨a,ws,rfl, .inr (gf.of h1),λl hl=> ?_⟩;have e:=b8.lay (o:= .lst ws) s hl;exact k _ _ _ e (.lst ar (h2.mono e.grow))
 |[.scr ns],h=>
  obtain⟨v,rfl,r⟩:=rv.one;obtain⟨a,rfl,h1⟩:=r.scr s;cases h;refine⟨a,_,rfl, .inl h1,λl hl=> ?_⟩;have e:=b8.lay (o:= .lst (ns.map V.int)) s hl;exact k _ _ _ e (.lst ar (jx ns))
def bO:List D->Option (List Int)
 |[]=>GS []
 | .int i::r=>(bO r).map (i::·)
 |_::_=>JT
theorem gk:∀{ds:List D} {ns:List Int} {vs:List V},bO ds=GS ns->Reps K F vs ds->vs=ns.map V.int:=by
 intro ds
 induction ds with
 |nil=>intro ns vs h r;cases r.nilI;cases h;rfl
 |cons d r ih=>
  intro ns vs h rv;obtain⟨v,us,rfl,r1,t⟩:=rv.consI;cases d with
  |int i=>
   cases r1.intI
   replace h:(bO r).map (i::·)=GS ns:=h
   cases e:bO r with
   |none=>rw[e]at h;cases h
   |some ms=>
    rw[e]at h;cases h;rw[ih e t];rfl
  |_=>cases h
theorem jZ (ns:List Int):bO (ns.map .int)=GS ns:=by
 induction ns with
 |nil=>rfl
 |cons n r ih=>show (bO (r.map D.int)).map (n::·)=_;rw[ih];rfl
def Nr:List D->Option D
 |[.lst ds]=>(bO ds).map λns=> .int ns.sum
 |_=>JT
def vf:List D->Option D
 |[.lst ds]=>(bO ds).bind λns=>if ns.length<64 then GS (.lst ((bS ns).map .int))else JT
 |_=>JT
theorem yp:kY K (λxs H Q=>∃p ns,xs=[.ref p]/\cP K H p (ns.map V.int)/\ns.length<64/\∀l,H l=JT->Q (.ref l) (aS H l (.lst ((bS ns).map V.int)))) vf:=by
 intro vs ds d H F Q s rv h k
 match ds,h with
 |[.lst xs],h=>
  obtain⟨v,rfl,r⟩:=rv.one;obtain⟨a,ws,rfl,h1,h2⟩:=r.lst s
  replace h:((bO xs).bind λns=>if ns.length<64 then GS (D.lst ((bS ns).map .int))else JT)=GS d:=h
  cases e:bO xs with
  |none=>rw[e]at h;cases h
  |some ns=>
   rw[e]at h
   replace h:(if ns.length<64 then GS (D.lst ((bS ns).map .int))else JT)=GS d:=h
   split at h
   ·rename_i hl
    cases h;rw[gk e h2]at h1;refine⟨a,ns,rfl,cP.of h1,hl,λl Z6=> ?_⟩;have e:=b8.lay (o:= .lst ((bS ns).map V.int)) s Z6;exact k _ _ _ e (.lst ar (jx _))
   ·cases h
def vg:List D->Option D
 |[.int i, .int j]=>GS (.int (if j<i then j else i))
 |_=>JT
def yq:List D->Option D
 |[.int i, .int j]=>GS (.int (if j>i then j else i))
 |_=>JT
theorem FI:kY K (λxs H Q=>∃i j,xs=[.int i, .int j]/\Q (.int (if j<i then j else i)) H) vg:=by
 intro vs ds d H F Q s rv h k
 match ds,h with
 |[.int i, .int j],h=>
  obtain⟨v,u,rfl,r,q⟩:=rv.two;cases r.int;cases q.int;cases h;exact⟨i,j,rfl,k _ H F (b8.refl s) (.int _)⟩
theorem FJ:kY K (λxs H Q=>∃i j,xs=[.int i, .int j]/\Q (.int (if j>i then j else i)) H) yq:=by
 intro vs ds d H F Q s rv h k
 match ds,h with
 |[.int i, .int j],h=>
  obtain⟨v,u,rfl,r,q⟩:=rv.two;cases r.int;cases q.int;cases h;exact⟨i,j,rfl,k _ H F (b8.refl s) (.int _)⟩
def D5:List D->Option D
 |[.int i]=>GS (.int i)
 |[.bl k]=>GS (.int (if k then 1 else 0))
 |_=>JT
theorem FK:kY K (λxs H Q=>(∃i,xs=[.int i]/\Q (.int i) H)\/∃k,xs=[.bl k]/\Q (.int (if k then 1 else 0)) H) D5:=by
 intro vs ds d H F Q s rv h k
 match ds,h with
 |[.int i],h=>obtain⟨v,rfl,r⟩:=rv.one;cases r.int;cases h;exact .inl ⟨i,rfl,k _ H F (b8.refl s) (.int _)⟩
 |[.bl i],h=>obtain⟨v,rfl,r⟩:=rv.one;cases r.bl;cases h;exact .inr ⟨i,rfl,k _ H F (b8.refl s) (.int _)⟩
end
section
variable {X:Cx} {a b e:NS} {es:List NS} {fa fb f fk fv:aa->R D} {fs:aa->R (List D)} {pos p p2:Ox}
def LV:D->Option String
 | .non=>GS "NoneType"
 | .bl _=>GS "bool"
 | .int _=>GS "int"
 | .str _=>GS "str"
 | .tup _=>GS "tuple"
 | .lst _=>GS "list"
 | .dic _=>GS "dict"
 |_=>JT
def uj (t T:String):Option Bool:=if t=T then GS true else if t="bool"/\T="int" then GS true
 else if ["NoneType","bool","int","str","tuple","list","dict"].contains t/\["bool","int","str","tuple","list","dict"].contains T then GS false else JT
theorem D6 (K:ND) {t T:String} {k:Bool} (ht:t="NoneType"\/t="bool"\/t="int"\/t="str"\/t="tuple"\/t="list"\/t="dict") (hT:T="bool"\/T="int"\/T="str"\/T="tuple"\/T="list"\/T="dict") (h:uj t T=GS k): OZ K (.type t) (.type T)=GS k:=by
 rcases ht with rfl|rfl|rfl|rfl|rfl|rfl|rfl<;>rcases hT with rfl|rfl|rfl|rfl|rfl|rfl<;>(revert h;unfold uj;simp+decide;rintro rfl;first|rfl|(unfold OZ QP;decide+kernel))
def qx (T:String) (d:D):Option D:=(LV d).bind λt=>(uj t T).map .bl
def lq (T:String) (f:aa->R D):aa->R D:=λρ=>f ρ>>=λd=>R.of (qx T d)
theorem IW {d:D} {t:String} (s:aB F H) (r:b_ K H F v d) (h:LV d=GS t):oh K H v (.type t):=by
 cases d with
 |non=>cases r.non;cases h;exact .non
 |bl=>cases r.bl;cases h;exact .bl _
 |int=>cases r.int;cases h;exact .int _
 |str=>cases r.str;cases h;exact .str _
 |tup=>obtain⟨a,vs,rfl,h1,_⟩:=r.tup s;cases h;exact .tup h1
 |lst=>obtain⟨a,vs,rfl,h1,_⟩:=r.lst s;cases h;exact .lst h1
 |dic=>obtain⟨a,vs,rfl,h1,_⟩:=r.dic s;cases h;exact .dK h1
 |_=>cases h
theorem AW {d:D} {t:String} (h:LV d=GS t):t="NoneType"\/t="bool"\/t="int"\/t="str"\/t="tuple"\/t="list"\/t="dict":=by
 cases d<;>cases h<;>simp
theorem zE {x:NG} {T:String} (hT:T="bool"\/T="int"\/T="str"\/T="tuple"\/T="list"\/T="dict") (a0i:X.mg "isinstance"=JT) (hm:X.mg x=JT) (hv:Ot x=GS (.type T)) (ha:PB ly X a fa) (a1p:Gl X "isinstance":=by rfl) (hg:Gl X x:=by rfl) (hn:x≠"__name__":=by decide) (WL:(x==("__debug__":NG))=false:=by decide) (he:NL [a, .Name x p2] X.env=(false,O8 a X.env)::NL [.Name x p2] X.env:=by rfl) (a09:NL [.Name x p2] X.env=(false,O8 (.Name x p2) X.env)::NL [] X.env:=by rfl) (WA:(Om pos (NL [.Name x p2] X.env)).any (·.1)=false:=by rfl): PQ ly X (.Call (.Name "isinstance" p) [a, .Name x p2] [] pos) (lq T fa):=⟨λc=>
 PE.weak (oi Co a1p a0i rm (cU (ha c) (cU (yX (v:= .ty T) hg hm hv rfl hn WL) gX a09) he) (by decide) (by decide) he WA) λσ H Q ⟨F,ρ,ri,w⟩=>
  ⟨F,ρ,ri,(aw.bind.mp w).imp λd _ w1 v H1 F1 e1 r1=>by
   obtain⟨d',hd,k⟩:=w1.of;unfold qx at hd;cases ht:LV d with
   |none=>rw[ht]at hd;cases hd
   |some t=>
    rw[ht]at hd;cases hs:uj t T with
    |none=>
     replace hd:(uj t T).map D.bl=GS d':=hd
     rw[hs]at hd;cases hd
    |some kk=>
     replace hd:(uj t T).map D.bl=GS d':=hd
     rw[hs]at hd;cases hd;exact⟨v,T,_,kk,rfl,IW e1.sub r1 ht,D6 X.K (AW ht) hT hs,k _ H1 F1 e1 (.bl kk)⟩⟩⟩
def wH (f:aa->R D):aa->R D:=λρ=>f ρ>>=λd=>match d with
 | .lst ds=> .ok (.lst ds.reverse)
 |_=> .bad
theorem L9 {j:Nat} {pu pk:Ox} (ha:PB ly X a fa):PQ ly X (.Subscript a (.Slice JT JT (GS (.UnaryOp .USub (.Constant (.int 1) j pk) pu)) p2) pos) (wH fa):=⟨λc=>
 PE.weak (Im (ha c) (zk (GO BY BO))) λσ H Q ⟨F,ρ,ri,w⟩=>⟨F,ρ,ri,(aw.bind.mp w).imp λd _ w1 v H1 F1 e1 r1=>by
  cases d with
  |lst ds=>
   obtain⟨p,vs,rfl,h1,h2⟩:=r1.lst e1.sub;refine⟨1,rfl,-1,rfl,rfl,p,vs,rfl,cP.of h1,λl hl=> ?_⟩;have e2:=b8.lay (o:= .lst vs.reverse) e1.sub hl;exact w1 _ _ _ (e1.trans e2) (.lst ar (h2.reverse.mono e2.grow))
  |_=>exact w1.elim⟩⟩
def rN (ds:List D) (lo hi:Option Int):List D:=(ds.drop (HT.eh ds.length 0 lo)).take (HT.eh ds.length ds.length hi - HT.eh ds.length 0 lo)
theorem Reps.cut {vs:List V} {ds:List D} (r:Reps K F vs ds) (lo hi:Option Int):Reps K F (sY vs lo hi) (rN ds lo hi):=by
 unfold sY rN;rw[r.length];exact(r.drop _).take _
def Nt (K:ND) (c:cF ly) (f:aa->R (Option Int)):TO:=λσ H Q=>∃F ρ,RI K c ρ σ H F/\aw c (f ρ) λo=>∀H' F',b8 H F H' F'->Q o H'
def La (ly:List cR) (X:Cx) (e:Option NS) (f:aa->R (Option Int)):Prop:=∀c:eG ly X,PO X e (Nt X.K c.1 f)
theorem PO.weak {e:Option NS} {t t':TO} (h:PO X e t) (w:∀σ H Q,t' σ H Q->t σ H Q):PO X e t':=λV_ s σ H Q I q=>h V_ s σ H Q I (w σ H Q q)
def i0:aa->R (Option Int):=λ_=> .ok JT
def gQ (f:aa->R D):aa->R (Option Int):=λρ=>f ρ>>=λd=>match d with
 | .int i=> .ok (GS i)
 |_=> .bad
theorem IX:La ly X JT i0:=λc=>PO.weak ES λσ H Q ⟨F,ρ,ri,w⟩=>w H F (b8.refl ri.sub)
theorem IY (h:PQ ly X e f):La ly X (GS e) (gQ f):=λc=>PO.weak (zk (h c)) λσ H Q ⟨F,ρ,ri,w⟩=>⟨F,ρ,ri,(aw.bind.mp w).imp λd _ w1 v H1 F1 e1 r1=>by
 cases d with
 |int i=>cases r1;exact⟨i,rfl,w1 H1 F1 e1⟩
 |_=>exact w1.elim⟩
variable {lo hi:Option NS} {fl fh:aa->R (Option Int)}
def Hk (d:D) (lo hi:Option Int):Option D:=match d with
 | .lst ds=>GS (.lst (rN ds lo hi))
 | .tup ds=>if HT.eh ds.length 0 lo=0/\HT.eh ds.length ds.length hi=ds.length then GS (.tup ds)else GS (.tup (rN ds lo hi))
 |_=>JT
def vh (f:aa->R D) (fl fh:aa->R (Option Int)):aa->R D:=λρ=>f ρ>>=λd=>fl ρ>>=λl=>fh ρ>>=λh=>R.of (Hk d l h)
theorem FL (ha:PB ly X a fa) (hl:La ly X lo fl) (hh:La ly X hi fh):PQ ly X (.Subscript a (.Slice lo hi JT p2) pos) (vh fa fl fh):=⟨λc=>
 PE.weak (Ca ((EW.or Ib).or Fk) (ha c) (hl c) (hh c)) λσ H Q ⟨F,ρ,ri,w⟩=>⟨F,ρ,ri,(aw.bind.mp w).imp λd _ w1 v H1 F1 e1 r1=>⟨F1,ρ,ri.step e1,(aw.bind.mp w1).imp λl _ w2 H2 F2 e2=>
  ⟨F2,ρ,(ri.step e1).step e2,(aw.bind.mp w2).imp λh _ w3 H3 F3 e3=>by
   obtain⟨d',hd,k⟩:=w3.of;have a0Q:=(e1.trans e2).trans e3;have r3:=(r1.mono e2).mono e3;cases d with
   |lst ds=>
    cases hd;obtain⟨p,vs,rfl,h1,h2⟩:=r3.lst a0Q.sub;refine .inl (.inl ⟨p,vs,rfl,cP.of h1,λq hq=> ?_⟩);have e4:=b8.lay (o:= .lst (sY vs l h)) a0Q.sub hq;exact k _ _ _ (a0Q.trans e4) (.lst ar ((h2.cut l h).mono e4.grow))
   |tup ds=>
    replace hd:(if HT.eh ds.length 0 l=0/\HT.eh ds.length ds.length h=ds.length then GS (D.tup ds)else GS (D.tup (rN ds l h)))=GS d':=hd
    split at hd
    ·rename_i hw
     cases hd;rcases r3 with r3|⟨_,_,_,_,q⟩
     ·cases r3 with
      | @tup p vs _ h1 h2=>exact .inr ⟨p,vs,rfl,gf.of (a0Q.sub _ _ h1),by rw[h2.length];exact hw,k _ _ _ a0Q (.tup h1 h2)⟩
     ·cases q
    ·rename_i hw
     cases hd;obtain⟨p,vs,rfl,h1,h2⟩:=r3.tup a0Q.sub;refine .inl <| .inr ⟨p,vs,rfl,gf.of h1,by rw[h2.length];exact hw,λq hq=> ?_⟩
     have e4:=b8.lay (o:= .tup (sY vs l h)) a0Q.sub hq;exact k _ _ _ (a0Q.trans e4) (.tup ar ((h2.cut l h).mono e4.grow))
   |_=>cases hd⟩⟩⟩⟩
def jh (kvs more:List (aU×D)):List (aU×D):=more.foldl (λWk kv=>wD Wk kv.1 kv.2) kvs
theorem RepK.merge:∀{more:List (aU×V)} {ZN:List (aU×D)} {vs:List (aU×V)} {ds:List (aU×D)},RepK K F more ZN->RepK K F vs ds->(vs.map (·.1)).Nodup->RepK K F (jT vs more) (jh ds ZN)/\((jT vs more).map (·.1)).Nodup:=by
 intro more ZN
 induction ZN generalizing more with
 |nil=>intro vs ds r h n;rw[r.nilI];exact⟨h,n⟩
 |cons d s ih=>
  intro vs ds r h n;obtain⟨k,d⟩:=d;obtain⟨v,us,rfl,q,t⟩:=r.consI;exact ih (more:=us) t (h.put k q) (CP v n)
inductive Lb (ly:List cR) (X:Cx) (pos:Ox):List (Option NS)->List NS->List ((aa->R D)×(aa->R D))->Prop
 |nil:Lb ly X pos [] [] []
 |cons {k v:NS} {ks:List (Option NS)} {vs:List NS} {fk fv:aa->R D} {ps:List ((aa->R D)×(aa->R D))}:PQ ly X k fk->PQ ly X v fv->Lb ly X pos ks vs ps->Lb ly X pos (GS k::ks) (v::vs) ((fk,fv)::ps)
theorem Lb.len {X:Cx} {pos:Ox}:∀{ks:List (Option NS)} {vs:List NS} {ps:List ((aa->R D)×(aa->R D))},Lb ly X pos ks vs ps->ks.length=vs.length/\ks.length=ps.length/\ks.all (·.isSome)=true
 |_,_,_, .nil=>⟨rfl,rfl,rfl⟩
 |_,_,_, .cons _ _ r=>by
  obtain⟨a,b,c⟩:=r.len;exact⟨by simp[a],by simp[b],by simp[Pn,c]⟩
end
def wI (scope outer:PJ):Bool:=
 scope.kind== .function&&scope.names.all (λy=>y.2 != .cell)&&scope.names.all (λy=>y.2 != .local||scope.names.lookup y.1==GS .local)&&
 scope.names.all (λy=>y.2 != .free||outer.names.lookup y.1==GS .cell||outer.names.lookup y.1==GS .free)&&decide ((scope.names.map (·.1)).Nodup)
theorem bz.of {outer:PJ} (h:X.env.scope=outer) (k:wI scope outer=true):bz X scope:=by
 unfold wI at k;simp only[OX,PV,decide_eq_true_eq,Vz,bne_iff_ne,beq_iff_eq]at k;obtain⟨⟨⟨⟨k1,k2⟩,k3⟩,k4⟩,k5⟩:=k;refine⟨k1,k2,λy hy hl=> ?_,λy hy hf=> ?_,k5⟩
 ·rcases k3 y hy with z|z
  ·exact absurd hl z
  ·exact z
 ·show X.env.scope.names.lookup y.1=_\/X.env.scope.names.lookup y.1=_
  rw[h];rcases k4 y hy with (z|z)|z
  ·exact absurd hf z
  ·exact .inl z
  ·exact .inr z
structure c8 (K:ND) (mg:NG->Option NF) (x:NG) (st:Ob) (ps:List NG):Prop where
 ex:∃f fd,zq K x x st f fd/\mg x=GS (.ref f)/\eZ K fd ps []
structure gl (P:NM) (w:NV) (K:ND) (mg:NG->Option NF) (base:NT) (k:Nat) (x:NG) (n:Nat) (m:List D->R D):Prop where
 ex:∃f fd ps,eF P w K mg base (kX P w) k f fd ps (AO K n m)/\mg x=GS (.ref f)/\OI K (.ref f)=true/\eZ K fd ps []
section
variable {P:NM} {w:NV} {K:ND} {mg:NG->Option NF} {base:NT}
theorem bP {x:NG} {k m:Nat} {g:aa->R aF} (A:c8 K mg x st ps) (S:aL N ps (ao st)) (hn:ps.length=n) (hm:N.length=m) (Wg:∀(f:NH) (W2:NF) (A:Oc) (outer:List Pw) (s:NI) (H:Hp) (E:XK),br k (A.deeper (PY x (ao st) s.heap.objs.size f W2))-> gY [] (ik (kX P w) P w K mg base N x (ao st) f W2 A outer s H E) (aQ st) g):gl P w K mg base (k+1) x n (aG n m g):=by
 obtain⟨f,fd,F,h1,h2⟩:=A.ex;exact⟨f,fd,ps,IM F S hn hm λW2 A outer s H E hr=>Wg f W2 A outer s H E hr,h1,F.kp,h2⟩
theorem gl.mono {x:NG} {j k n:Nat} {m:List D->R D} (F:gl P w K mg base j x n m) (h:j<=k):gl P w K mg base k x n m:=by
 obtain⟨f,fd,ps,h1,h2⟩:=F.ex;exact⟨f,fd,ps,h1.mono h,h2⟩
theorem D7 {x:NG} (A:c8 K mg x st ps) (hn:ps.length=n):gl P w K mg base 0 x n (λ_=> .bad):=by
 obtain⟨f,fd,F,h1,h2⟩:=A.ex;refine⟨f,fd,ps,⟨λvs H Q E h=>by rw[hn];exact h.1,λA outer s H args us vs Q E hr e0 hb rv h=> ?_⟩,h1,F.kp,h2⟩;obtain⟨_,F',ds,_,_,z⟩:=h;exact z.elim
end
section
variable {X:Cx} {e:NS} {es:List NS} {fs:aa->R (List D)} {x:NG} {p pos:Ox}
theorem MK {k:Nat} (F:gl X.prog X.w X.K X.mg X.base k x n m) (hr:br k X.A) (ha:t7 ly X (e::es) fs) (hg:Gl X x:=by rfl) (WL:(x==("__debug__":NG))=false:=by decide) (he:NL (e::es) X.env=(false,O8 e X.env)::NL es X.env:=by rfl) (WA:(Om pos (NL es X.env)).any (·.1)=false:=by rfl): PQ ly X (.Call (.Name x p) (e::es) [] pos) (av m n fs):=by
 obtain⟨f,fd,ps,h1,h2,h3,h4⟩:=F.ex;exact IF h1 hr h2 h3 h4 ha hg WL he WA
end
structure Bl (mg:NG->Option NF) (xs:List NG):Prop where
 no:∀x∈xs,mg x=JT
theorem ir:Ot "tuple"=GS (.type "tuple"):=by decide+kernel
theorem AX:Ot "list"=GS (.type "list"):=by decide+kernel
theorem AY:Ot "dict"=GS (.type "dict"):=by decide+kernel
theorem wJ:Ot "int"=GS (.type "int"):=by decide+kernel
theorem AZ:Ot "bool"=GS (.type "bool"):=by decide+kernel
theorem D8:Ot "str"=GS (.type "str"):=by decide+kernel
theorem j4:Ot "sorted"=GS (.builtin "sorted"):=by decide+kernel
theorem D9:Ot "min"=GS (.builtin "min"):=by decide+kernel
theorem Dc:Ot "max"=GS (.builtin "max"):=by decide+kernel
theorem IZ {a:NH} {ns:List Int} {E:XK} (h:m [.scr ns]= .ok (.bl true)) (hs:cP K H a (ns.map V.int)):AO K 1 m [.ref a] H (λv _=>v= .bl true) E:=by
 refine⟨rfl,H,[.scr ns],aB.refl _, .cons (.scr hs) .nil,?_⟩;rw[h];intro v H' F' e r;cases r
 rfl
section
variable {i j:Int}
theorem aD (h:0<j):bw (.int i) (.int j)=GS (.int (i%j)):=if_pos h
theorem cM (h:0<j/\j<1073741824):f7 (.int i) (.int j)=GS (.int (i / j)):=if_pos (show yj i j from ⟨h.1,by omega⟩)
theorem vi (h:j.natAbs<18446744073709551616):jY (.int i) (.int j)=GS (.int (i*j)):=if_pos (show t8 i j from .inr h)
theorem rO (h:i.natAbs<18446744073709551616):jY (.int i) (.int j)=GS (.int (i*j)):=if_pos (show t8 i j from .inl h)
theorem cN:aV (.int i) (.int j)=GS (.int (i+j)):=rfl
theorem pI:jg (.int i) (.int j)=GS (.int (i - j)):=rfl
theorem j5:nG (.int i) (.int j)=GS (.bl (decide (i<j))):=rfl
theorem Lc:Nq (.int i) (.int j)=GS (.bl (decide (i<=j))):=rfl
theorem jy:nH (.int i) (.int j)=GS (.bl (decide (j<i))):=rfl
theorem wK:Hh (.int i) (.int j)=GS (.bl (decide (j<=i))):=rfl
theorem i3:dD (.int i) (.int j)=GS (.bl (decide (i=j))):=rfl
theorem zF:v9 (.int i) (.int j)=GS (.bl (!decide (i=j))):=rfl
theorem Dd {a b:Bool}:dD (.bl a) (.bl b)=GS (.bl (decide (a=b))):=rfl
theorem I_:gj (.int i)=GS (.int (-i)):=rfl
end
theorem yr {a b:List D} (h:a.length+b.length<=lim):aV (.lst a) (.lst b)=GS (.lst (a++b)):=if_pos h
theorem wL {ds:List D} {i:Int}:aA (.lst ds) (.int i)=atI ds i:=rfl
theorem rP {ds:List D} {i:Int}:aA (.tup ds) (.int i)=atI ds i:=rfl
theorem Ld {ns:List Int} {i:Int}:aA (.scr ns) (.int i)=(atI ns i).map .int:=rfl
theorem g_ {ds:List D}:aT [.lst ds]=GS (.int ds.length):=rfl
theorem dF {ds:List D}:aT [.tup ds]=GS (.int ds.length):=rfl
theorem yt {ds:List Int}:aT [.scr ds]=GS (.int ds.length):=rfl
theorem De {ds:List D}:a_ [.lst ds]=GS (.tup ds):=rfl
theorem Df {ds:List D}:a_ [.tup ds]=GS (.tup ds):=rfl
theorem FN {ds:List D}:lm [.lst ds]=GS (.lst ds):=rfl
theorem FO {ds:List D}:lm [.tup ds]=GS (.lst ds):=rfl
theorem hG {α:Type} {xs:List α} {k:Nat} (h:k<xs.length):L2.atI xs (k:Int)=GS xs[k]:=uS (by simp[h])
theorem FP (x:Int) (xs:List Int):((xs.map D.int).any λy=>JV y (.int x))=decide (x∈xs):=by
 induction xs with
 |nil=>rfl
 |cons y r ih=>
  rw[NP,Px,ih];show (y==x||decide (x∈r))=decide (x∈y::r);by_cases e:x=y
  ·subst e;simp
  ·have:(y==x)=false:=beq_eq_false_iff_ne.mpr (Py e)
   simp[this,e]
theorem FQ (xs:List Int):(xs.map D.int).all lj=true:=by
 induction xs with
 |nil=>rfl
 |cons y r ih=>rw[NP,Pn,ih];rfl
theorem vj (Xg:Bool) (x:Int) (xs:List Int):JW Xg (.int x) (xs.map .int)=GS (.bl (if Xg then !decide (x∈xs)else decide (x∈xs))):=by
 unfold JW;rw[if_pos ⟨rfl,FQ xs⟩,FP]
theorem rQ {x:Int}:dE false (.int x) (.tup (xs.map .int))=GS (.bl (decide (x∈xs))):=vj false x xs
theorem oG {x:Int}:dE true (.int x) (.lst (xs.map .int))=GS (.bl (!decide (x∈xs))):=vj true x xs
theorem oH {x:Int}:dE true (.int x) (.tup (xs.map .int))=GS (.bl (!decide (x∈xs))):=vj true x xs
theorem yu (n:Nat):gi 0 (n:Int)=(Ov n).map λk:Nat=>D.int (k:Int):=by
 unfold gi;simp
theorem J0 {ds:List D}:qx "tuple" (.tup ds)=GS (.bl true):=rfl
theorem J5 {i:Int}:qx "tuple" (.int i)=GS (.bl false):=rfl
theorem J6 {i:Int}:qx "int" (.int i)=GS (.bl true):=rfl
theorem J7 {i:Int}:qx "bool" (.int i)=GS (.bl false):=rfl
theorem Dg {fs:aa->R (List D)} {ds:List D} {d:D} (h:fs ρ= .ok ds) (hl:ds.length=n) (hm:m ds= .ok d):av m n fs ρ= .ok d:=by
 unfold av;rw[h,ag,if_pos hl,hm]
theorem i9 {g:D->aa->R aa} {d:D} {r:List D} {ρ1 ρ2:aa} (h1:g d ρ= .ok ρ1) (h2:gb ρ1= .ok (.nx ρ2)):dc g gb (d::r) ρ=dc g gb r ρ2:=by
 rw[dc,h1,ag,h2,ag]
theorem Dh {g:D->aa->R aa} {d:D} {r:List D} {ρ1 ρ2:aa} (h1:g d ρ= .ok ρ1) (h2:gb ρ1= .ok (.cnt ρ2)):dc g gb (d::r) ρ=dc g gb r ρ2:=by
 rw[dc,h1,ag,h2,ag]
theorem Di {g:D->aa->R aa} {d e:D} {r:List D} {ρ1:aa} (h1:g d ρ= .ok ρ1) (h2:gb ρ1= .ok (.ret e)):dc g gb (d::r) ρ= .ok (.ret e):=by
 rw[dc,h1,ag,h2,ag]
theorem aM {k:Nat} {g:aa->R aF} {ds:List D} {d:D} (h:ds.length=k) (e:g (bN n ds)= .ok (.ret d)):aG k n g ds= .ok d:=by
 unfold aG;rw[if_pos h,e,ag]
theorem J8 {k:Nat} {g:aa->R aF} {ds:List D} (h:ds.length=k) (e:g (bN n ds)= .ok (.nx ρ)):aG k n g ds= .ok .non:=by
 unfold aG;rw[if_pos h,e,ag]
theorem ai {g:aa->R aF} {ρ':aa} (h:g ρ= .ok (.nx ρ')):ak g g' ρ=g' ρ':=by
 unfold ak;rw[h,ag]
theorem fF {g:aa->R aF} {d:D} (h:g ρ= .ok (.ret d)):ak g g' ρ= .ok (.ret d):=by
 unfold ak;rw[h,ag]
theorem nI {g:D->aa->R aa} {ds:List D} (h:fi ρ= .ok ds):jX fi g gb ρ=dc g gb ds ρ:=by
 unfold jX;rw[h,ag]
theorem jz {fs:aa->R (List D)} (h:fs ρ= .ok [.int (n:Int)]) (hn:n<=lim):cq fs ρ= .ok ((Ov n).map λk:Nat=>D.int (k:Int)):=by
 unfold cq;rw[h,ag];have hc:(n:Int).natAbs<=lim:=by rw[Int.natAbs_natCast];exact hn
 exact(if_pos hc).trans (congrArg R.ok (yu n))
section
variable {X:Cx} {WI tg iter:NS} {WH:List NS} {scope:PJ} {pos:Ox} {fi:aa->R (List D)} {g:D->aa->R aa} {gt:aa->R Bool} {fe:aa->R D}
theorem FR (i:Nat) {y:NG} {py WW:Ox} (S:bz X scope) (hc:X.calm=true) (hN:X.N.Nodup) (hi:Ez ly X tg iter fi) (hg:∀s H ex,CK [] (bA X scope s H ex) tg g) (Yf:∀s H ex,wC [] (bA X scope s H ex) WH gt) (Yb:∀s H ex,PQ [] (bA X scope s H ex) WI fe) (Zq:X.N[i]? =GS y:=by rfl) (hx:yV X.env.scope y:=by first|exact OG rfl|exact Oj rfl) (hf:X.fn y=true\/X.env.scope.names.lookup y=GS .local:=by first|exact .inl rfl|exact .inr rfl|assumption) (Yg:ON (.ListComp WI [⟨tg,iter,WH,0⟩] scope pos) (GS (.Name y py)) WW.line X.env=pure false:=by rfl) (hs:∀x,P8 iter X.env x=pure x:=by intro _;rfl) (WM:jW ly i:=by(repeat (first|assumption|exact L2.Pu.dB|refine L2.Pu.cK ⟨by first|decide|simp,by first|decide|simp⟩ ?_))): e_ ly X (.Assign [.Name y py] (.ListComp WI [⟨tg,iter,WH,0⟩] scope pos) WW) (j0 i (aZ X.N scope.names fi g gt fe)):=⟨λc=>
 PS.weak (nq hN Zq hx (zr S hc (hi c) (λs H ex=>LR (hg s H ex)) (λs H ex=>LU (Yf s H ex)) (λs H ex=>MF (Yb s H ex)) hs) Yg hf) λD σ H ⟨F,ρ,ri,w⟩=>by
  refine⟨F,ρ,ri,(aw.bind.mp (aw.bind.mp w)).imp λds _ w1 J H1 F1 e1 jo p hp=> ?_⟩;split at w1
  ·rename_i hl
   split at w1
   ·rename_i es he
    refine nE ri e1 jo hp hl he λH2 F2 vs e2 a0r a1o rv=> ?_;refine w1 _ H2 F2 (e1.grow.trans e2.grow) ((ri.step (e1.trans e2)).setOwn i WM a0r a1o (ri.ext.keep.free (e1.keep.free hp)) (.lst rv) (λj d' _ hj ej=> ?_) (ri.celNe (e1.trans e2).keep (e1.keep.free hp)));obtain⟨a,o,k1,k2,_⟩:=ri.own j d' hj;rw[ej]at k1;cases k1;rw[e1.keep.free hp]at k2;cases k2
   ·exact w1.elim
  ·exact w1.elim⟩
end
theorem bG {f:aa->R D} {d:D} (h:f ρ= .ok d):b6 f ρ= .ok (.ret d):=by unfold b6;rw[h,ag]
theorem ax {g:List D->Option D} {fs:aa->R (List D)} {ds:List D} {d:D} (h:fs ρ= .ok ds) (h2:g ds=GS d):aR g fs ρ= .ok d:=by unfold aR;rw[h,ag,h2,cV]
theorem a8 {f:aa->R D} {fs:aa->R (List D)} {ds:List D} {d:D} (h:f ρ= .ok d) (h2:fs ρ= .ok ds):a7 f fs ρ= .ok (d::ds):=by unfold a7;rw[h,ag,h2,ag]
theorem nJ {f:aa->R (List D)} {ds:List D} (h:f ρ= .ok ds):fL f ρ= .ok (.lst ds):=by unfold fL;rw[h,ag]
theorem cW {names:List (NG×NameKind)} {g:D->aa->R aa} {τ:aa} {ds es:List D} (h:fi ρ= .ok ds) (hl:ds.length<=lim) (hr:f6 N names ρ=τ) (hc:li g gt fe ds τ= .ok es): aZ N names fi g gt fe ρ= .ok es:=by
 unfold aZ;rw[h,ag,if_pos hl,hr,hc]
theorem own_of {i:Nat} {f:aa->R (List D)} {ds:List D} (h:f ρ= .ok ds):j0 i f ρ= .ok (.nx (ρ.set i (GS (.own (.lst ds))))):=by unfold j0;rw[h,ag]
theorem aK {f:aa->R D} {g:D->aa->R aa} {ρ':aa} {d:D} (h:f ρ= .ok d) (h2:g d ρ= .ok ρ'):aE f g ρ= .ok (.nx ρ'):=by unfold aE;rw[h,ag,h2,ag]
theorem aH {fs:aa->R (List D)} {ds:List D} {d:D} (h:fs ρ= .ok ds) (hl:ds.length=n) (hm:m ds= .ok d):av m n fs ρ= .ok d:=Dg h hl hm
theorem ae {g:D->D->Option D} {fa fb:aa->R D} {a b d:D} (h:fa ρ= .ok a) (h2:fb ρ= .ok b) (h3:g a b=GS d):f2 g fa fb ρ= .ok d:=by unfold f2;rw[h,ag,h2,ag,h3,cV]
theorem Dj (d:D):(Slot.val d).data=d:=rfl
theorem Dk (d:D):(Slot.own d).data=d:=rfl
theorem Dl (d:D):(Slot.bor d).data=d:=rfl
def j_:List (aU×D)->Option (List Int)
 |[]=>GS []
 |(.inl i,_)::r=>(j_ r).map (i::·)
 |(.inr _,_)::_=>JT
def iu:List D->Option D
 |[.lst ds]=>(bO ds).bind λns=>if ns.length<64 then GS (.lst ((bS ns).map .int))else JT
 |[.dic WN]=>(j_ WN).bind λns=>if ns.length<64 then GS (.lst ((bS ns).map .int))else JT
 |_=>JT
theorem wM:∀{ds:List (aU×D)} {ns:List Int} {vs:List (aU×V)},j_ ds=GS ns->RepK K F vs ds->vs.map (·.1)=ns.map PM:=by
 intro ds
 induction ds with
 |nil=>intro ns vs h r;rw[r.nilI];cases h;rfl
 |cons d r ih=>
  intro ns vs h rr;obtain⟨k,d⟩:=d;obtain⟨v,us,rfl,_,t⟩:=rr.consI;cases k with
  |inr i=>cases h
  |inl i=>
   replace h:(j_ r).map (i::·)=GS ns:=h
   cases e:j_ r with
   |none=>rw[e]at h;cases h
   |some ms=>
    rw[e]at h;cases h;rw[NP,NP,ih e t]
def oJ (K:ND):List V->Hp->VK->Prop:=λxs H Q=>
 (∃p ns,xs=[.ref p]/\cP K H p (ns.map V.int)/\ns.length<64/\∀l,H l=JT->Q (.ref l) (aS H l (.lst ((bS ns).map V.int))))\/
 ∃p kvs ns,xs=[.ref p]/\H p=GS (.dK kvs)/\kvs.map (·.1)=ns.map PM/\ns.length<64/\∀l,H l=JT->Q (.ref l) (aS H l (.lst ((bS ns).map V.int)))
theorem vm (hc:X.calm=true):cJ X (.builtin "sorted") (oJ X.K):=uZ.or (u_ hc)
theorem wN:kY K (oJ K) iu:=by
 intro vs ds d H F Q s rv h k
 match ds,h with
 |[.lst xs],h=>exact .inl (yp vs _ d H F Q s rv h k)
 |[.dic xs],h=>
  obtain⟨v,rfl,r⟩:=rv.one;obtain⟨a,ws,rfl,h1,h2,_⟩:=r.dic s
  replace h:((j_ xs).bind λns=>if ns.length<64 then GS (D.lst ((bS ns).map .int))else JT)=GS d:=h
  cases e:j_ xs with
  |none=>rw[e]at h;cases h
  |some ns=>
   rw[e]at h
   replace h:(if ns.length<64 then GS (D.lst ((bS ns).map .int))else JT)=GS d:=h
   split at h
   ·rename_i hl
    cases h;refine .inr ⟨a,ws,ns,rfl,h1,wM e h2,hl,λl Z6=> ?_⟩;have e:=b8.lay (o:= .lst ((bS ns).map V.int)) s Z6;exact k _ _ _ e (.lst ar (jx _))
   ·cases h
section
variable {X:Cx} {a b:NS} {fs:aa->R (List D)} {pos p1 p2 Xh:Ox}
end
section
variable {X:Cx} {a:NS} {fa:aa->R D} {pos p1 p2 Xh:Ox}
end
section
variable {K:ND}
def jA:List D->Option (List (aU×D))
 |[]=>GS []
 | .tup [k,v]::r=>(iq k).bind λW3=>(jA r).map λps=>(W3,v)::ps
 |_::_=>JT
def zG:List D->Option D
 |[.lst ds]=>(jA ds).map λps=> .dic (jh [] ps)
 |[.tup ds]=>(jA ds).map λps=> .dic (jh [] ps)
 |_=>JT
theorem A_ (s:aB F H):∀{ds:List D} {vs:List V} {ps:List (aU×D)},jA ds=GS ps->Reps K F vs ds->∃kvs,j3 H vs kvs/\RepK K F kvs ps:=by
 intro ds
 induction ds with
 |nil=>intro vs ps h r;cases r.nilI;cases h;exact⟨[], .nil, .nil⟩
 |cons d r ih=>
  intro vs ps h rr;obtain⟨k,v,rfl⟩:∃k v,d= .tup [k,v]:=by
   cases d with
   |tup xs=>
    cases xs with
    |nil=>cases h
    |cons k xs=>
     cases xs with
     |nil=>cases h
     |cons v xs=>
      cases xs with
      |nil=>exact⟨k,v,rfl⟩
      |cons _ _=>cases h
   |_=>cases h
  obtain⟨v0,us,rfl,r1,t⟩:=rr.consI;obtain⟨a0,xs,rfl,ha,r2⟩:=r1.tupI;obtain⟨k1,a5B,rfl,rk,t1⟩:=r2.consI;obtain⟨v1,a7p,rfl,rv,t2⟩:=t1.consI;cases t2.nilI
  replace h:(iq k).bind (λW3=>(jA r).map λps=>(W3,v)::ps)=GS ps:=h
  cases hk:iq k with
  |none=>rw[hk]at h;cases h
  |some W3=>
   rw[hk]at h
   replace h:(jA r).map (λps=>(W3,v)::ps)=GS ps:=h
   cases hr:jA r with
   |none=>rw[hr]at h;cases h
   |some qs=>
    rw[hr]at h;cases h;obtain⟨kvs,h1,h2⟩:=ih hr t;cases jw (H:=H) hk (.inl rk);exact⟨_, .cons (s _ _ ha) h1, .cons rv h2⟩
theorem Dm:kY K (λxs H Q=>∃p ys ps,xs=[.ref p]/\(H p=GS (.lst ys)\/H p=GS (.tup ys))/\j3 H ys ps/\∀l,H l=JT->Q (.ref l) (aS H l (.dK (jT [] ps)))) zG:=by
 intro vs ds d H F Q s rv h k;have Wz:∀{xs:List D} {ws:List V} {a:NH},Reps K F ws xs->(jA xs).map (λps=>D.dic (jh [] ps))=GS d->(H a=GS (.lst ws)\/H a=GS (.tup ws))->
   ∃p ys ps,[V.ref a]=[V.ref p]/\(H p=GS (.lst ys)\/H p=GS (.tup ys))/\j3 H ys ps/\∀l,H l=JT->Q (.ref l) (aS H l (.dK (jT [] ps))):=by
  intro xs ws a h2 h h1;cases e:jA xs with
  |none=>rw[e]at h;cases h
  |some ps=>
   rw[e]at h;cases h;obtain⟨kvs,g1,g2⟩:=A_ s e h2;refine⟨a,ws,kvs,rfl,h1,g1,λl hl=> ?_⟩;have e:=b8.lay (o:= .dK (jT [] kvs)) s hl;obtain⟨m1,m2⟩:=RepK.merge (g2.mono e.grow) .nil U4;exact k _ _ _ e (.dic ar m1 m2)
 match ds,h with
 |[.lst xs],h=>
  obtain⟨v,rfl,r⟩:=rv.one;obtain⟨a,ws,rfl,h1,h2⟩:=r.lst s;exact Wz h2 h (.inl h1)
 |[.tup xs],h=>
  obtain⟨v,rfl,r⟩:=rv.one;obtain⟨a,ws,rfl,h1,h2⟩:=r.tup s;exact Wz h2 h (.inr h1)
end
structure j6 (K:ND) (x:NG) (C:NH):Prop where
 ns:O0 K NU x=GS (GS (.ref C))
 cl:we K C
theorem RepF.nilI (h:RepF K F vs []):vs=[]:=by cases h;rfl
theorem RepF.consI {k:NG} {d:D} {ds:List (NG×D)} (h:RepF K F vs ((k,d)::ds)):∃v us,vs=(k,v)::us/\cD K F v d/\RepF K F us ds:=by
 cases h with
 |cons r t=>exact⟨_,_,rfl,r,t⟩
theorem RepF.get {f:NG} {d:D} {ds:List (NG×D)} (g:RepF K F vs ds):ds.lookup f=GS d->∃v,(f,v)∈vs/\cD K F v d:=by
 induction ds generalizing vs with
 |nil=>intro h;cases h
 |cons p ds ih=>
  intro h;obtain⟨v,us,e0,r,t⟩:=RepF.consI (k:=p.1) (d:=p.2) g;subst e0;rw[P5]at h;cases e:f==p.1 with
  |true=>rw[e]at h;cases h;cases eq_of_beq e;exact⟨v,NZ,r⟩
  |false=>
   rw[e]at h;obtain⟨v',h1,h2⟩:=ih t h;exact⟨v',O1 _ h1,h2⟩
theorem RepF.names {ds:List (NG×D)} (g:RepF K F vs ds):vs.map (·.1)=ds.map (·.1):=by
 induction ds generalizing vs with
 |nil=>rw[g.nilI];rfl
 |cons p ds ih=>
  obtain⟨v,us,e0,_,t⟩:=RepF.consI (k:=p.1) (d:=p.2) g;rw[e0,NP,NP,ih t]
theorem fG {α:Type} {f:NG}:∀{ds:List (NG×α)},ds.lookup f=JT->f∉ds.map (·.1)
 |[],_=>by simp
 |(k,v)::ds,h=>by
  rw[P5]at h;cases e:f==k with
  |true=>rw[e]at h;cases h
  |false=>
   rw[e]at h;rw[NP];intro z;rcases NW.mp z with z|z
   ·rw[z]at e;simp at e
   ·exact fG h z
theorem b_.ins {K:ND} {H F:Hp} {v:V} {x:NG} {fds:List (NG×D)} (s:aB F H):b_ K H F v (.ins x fds)->∃a C dx fs vs,v= .ref a/\H a=GS (.ins C dx fs)/\O0 K NU x=GS (GS (.ref C))/\(∀p∈vs,fs.lookup p.1=GS p.2)/\(∀f v,fs.lookup f=GS v->f∈vs.map (·.1))/\RepF K F vs fds:=λh=>by
 obtain⟨a,C,dx,fs,vs,e,h,r⟩:=h.in rfl;exact⟨a,C,dx,fs,vs,e,s _ _ h,r⟩
section
variable {X:Cx} {a o e:NS} {es:List NS} {fa fo:aa->R D} {fs:aa->R (List D)} {pos W8 p:Ox} {cls f m x:NG} {C:NH}
def bi (cls f:NG) (fa:aa->R D):aa->R D:=λρ=>fa ρ>>=λd=>match d with
 | .ins y fds=>if y=cls then R.of (fds.lookup f)else .bad
 |_=> .bad
theorem Le (T:j6 X.K cls C) (n:dq X.K C f) (ha:PB ly X a fa) (hb:OJ a f X.env (O8 a X.env)=O8 a X.env:=by rfl):PQ ly X (.Attribute a f pos) (bi cls f fa):=⟨λc=>
 PE.weak (q_ (ha c) hb) λσ H Q ⟨F,ρ,ri,w⟩=>⟨F,ρ,ri,(aw.bind.mp w).imp λd _ w1 v H1 F1 e1 r1=>by
  cases d with
  |ins y fds=>
   dsimp only at w1;split at w1
   ·rename_i hy
    subst hy;obtain⟨d',hd,k⟩:=w1.of;obtain⟨a,C',dx,fs,vs,rfl,h1,h2,h3,h4,h5⟩:=r1.ins e1.sub;have ec:C'=C:=by rw[T.ns]at h2;cases h2;rfl
    subst ec;obtain⟨u,hu,ru⟩:=h5.get hd;exact⟨a,C',dx,fs,u,rfl,h1,T.cl,n,h3 _ hu,k u H1 F1 e1 ru⟩
   ·exact w1.elim
  |_=>exact w1.elim⟩⟩
structure eO (P:NM) (w:NV) (K:ND) (mg:NG->Option NF) (base:NT) (k:Nat) (cls m:NG) (n:Nat) (r:List D->R D):Prop where
 ex:∃C f fd ps,eF P w K mg base (kX P w) k f fd ps (AO K n r)/\j6 K cls C/\xL K C m f/\eZ K fd ps []
def bx (cls m:NG) (n:Nat) (r:List D->R D) (fo:aa->R D) (fs:aa->R (List D)):aa->R D:=λρ=>fo ρ>>=λd=>match d with
 | .ins y fds=>if y=cls/\fds.lookup m=JT then (fs ρ>>=λds=>if ds.length+1=n then (match r (d::ds)with| .ok z=> .ok z| .err x _=> .err x ρ| .bad=> .bad)else .bad)else .bad
 |_=> .bad
theorem zH {c:cF ly} {r:List D->R D} (T:j6 X.K cls C) (h:tQ X.K c (bx cls m n r fo fs) σ H Q):C7 C m (AO X.K n r) [] (Hb X c) (tQ X.K c fo) (IB X.K c fs) σ H Q:=by
 obtain⟨F,ρ,ri,w⟩:=h;refine⟨F,ρ,ri,(aw.bind.mp w).imp λd hd w1 v H1 F1 e1 r1=> ?_⟩;cases d with
 |ins y fds=>
  dsimp only at w1;split at w1
  ·rename_i hy
   obtain⟨rfl,hm⟩:=hy;obtain⟨a,C',dx,Yx,vs,rfl,h1,h2,h3,h4,h5⟩:=b_.ins e1.sub (H:=H1) (.inl r1);have ec:C'=C:=by rw[T.ns]at h2;cases h2;rfl
   subst ec;have YG:Yx.lookup m=JT:=by
    cases e:Yx.lookup m with
    |none=>rfl
    |some v=>
     have:=h4 m v e;rw[h5.names]at this;exact absurd this (fG hm)
   refine⟨a,dx,Yx,rfl,h1,YG,F1,ρ,ri.step e1,(aw.bind.mp w1).imp λds _ w2 us H2 F2 e2 r2=> ?_⟩;show AO X.K n r (V.ref a::(us++[])) H2 Q (Hb X c σ);rw[P2];split at w2
   ·rename_i hl
    refine⟨by rw[O3,r2.length];exact hl,F2,_,e2.sub, .cons (r1.mono e2.grow) r2,?_⟩;split at w2
    ·rename_i z hz
     try rw[hz]
     exact λv H' F' e' r'=>w2 v H' F' ((e1.trans e2).trans e') r'
    ·rename_i z _ hz
     try rw[hz]
     exact λcls a H' F' ec e'=>⟨_,ρ,F',ec,ri.step ((e1.trans e2).trans e'),w2⟩
    ·exact w2.elim
   ·exact w2.elim
  ·exact w1.elim
 |_=>exact w1.elim
theorem J9 {k:Nat} {r:List D->R D} (G:eO X.prog X.w X.K X.mg X.base k cls m n r) (hr:br k X.A) (ho:PQ ly X o fo) (ha:t7 ly X (e::es) fs) (W_:NL (e::es) X.env=(false,O8 e X.env)::NL es X.env:=by rfl) (WA:(Om pos (NL es X.env)).any (·.1)=false:=by rfl) (ht:O8 (.Call (.Attribute o m W8) (e::es) [] pos) X.env=(do let ov<-O8 o X.env QZ W8.atName let (f,first)<-Q9 [ov] (QR ov m pl) RC pos f first (Om pos (NL (e::es) X.env)) (Q2 pos (Pg [] X.env))):=by rfl): PQ ly X (.Call (.Attribute o m W8) (e::es) [] pos) (bx cls m n r fo fs):=by
 obtain⟨C,f,fd,ps,h1,h2,h3,h4⟩:=G.ex;exact⟨λc=>PE.weak (zh (pl:=pl) (ho c) h2.cl h3 h1 hr h4 .nil (oB c) (ha c) W_ WA ht) λσ H Q h=>zH h2 h⟩
theorem FT {k:Nat} {r:List D->R D} (G:eO X.prog X.w X.K X.mg X.base k cls m n r) (hr:br k X.A) (ho:PQ ly X o fo) (ht:O8 (.Call (.Attribute o m W8) [] [] pos) X.env=(do let ov<-O8 o X.env QZ W8.atName let (f,first)<-Q9 [ov] (QR ov m pl) RC pos f first (Om pos (NL [] X.env)) (Q2 pos (Pg [] X.env))):=by rfl): PQ ly X (.Call (.Attribute o m W8) [] [] pos) (bx cls m n r fo ac):=by
 obtain⟨C,f,fd,ps,h1,h2,h3,h4⟩:=G.ex;refine⟨λc=>PE.weak (wg (pl:=pl) (ho c) h2.cl h3 h1 hr h4 .nil (oB c) ht) λσ H Q h=> ?_⟩;obtain⟨F,ρ,ri,w⟩:=zH h2 h;refine⟨F,ρ,ri,w.imp λd _ k v H1 F1 e1 r1=> ?_⟩;obtain⟨a,dx,Yx,g1,g2,g3,F2,ρ2,a0C,w2⟩:=k v H1 F1 e1 r1;exact⟨a,dx,Yx,g1,g2,g3,w2 [] H1 F2 (b8.refl a0C.sub) .nil⟩
theorem au.ghost {s:NI} (I:au X V_ σ H s) {i:Nat} {g:NG} {v:Option V} (hi:X.N[i]? =GS g) (hv:¬pz X.env.scope g):au X V_ (σ.set i v) H s:=by
 refine {I with loc:= ?_,len:=by rw[RT];exact I.len};obtain⟨mm,h1,h2⟩:=I.loc;refine⟨mm,h1,λj x u e1 e2 e3=> ?_⟩;by_cases z:i=j
 ·subst z
  rw[hi]at e1;cases e1;exact absurd e3 hv
 ·rw[af z]at e2
  exact h2 j x u e1 e2 e3
def Lf (K:ND) (i:Nat) (ta tv:TE) (f:NG):TS:=λD σ H=>tv σ H λy H1=>ta σ H1 λx H2=>∃a C dx fs,x= .ref a/\H2 a=GS (.ins C dx fs)/\we K C/\dq K C f/\fs.length<1000/\
 D.nx (σ.set i (GS y)) (aS H2 a (.ins C dx (gW f y fs)))
theorem zI {value:NS} {We:Ox} {ta tv:TE} {g:NG} (i:Nat) (hi:X.N[i]? =GS g) (hvis:¬pz X.env.scope g) (ha:PE X o ta) (hv:PE X value tv) (hs:ON value (GS (.Attribute o f We)) pos.line X.env=pure false): PS X (.Assign [.Attribute o f We] value pos) (Lf X.K i ta tv f):=by
 intro V_ s σ H D I h;refine RJ (bF (hv V_ s σ H _ I h) λu s1 z=> ?_) hs;obtain⟨y,H1,I1,ry,q⟩:=z;refine bF (ha V_ s1 σ H1 _ I1 q) λov s2 z=> ?_;obtain⟨x,H2,I2,rx,a,C,dx,fs,ex,ea,c,n,l,q2⟩:=z;subst ex;obtain rfl:ov=Of a:=rx;exact qZ I2 ea c n l ry λs3 I3=>⟨_,_,L2.Pu.au.ghost I3 hi hvis,q2⟩
theorem uk (f:NG) (v:V):∀fs:List (NG×V),(gW f v fs).map (·.1)=if f∈fs.map (·.1)then fs.map (·.1)else fs.map (·.1)++[f]
 |[]=>rfl
 |(g,x)::r=>by
  show (if g=f then (g,v)::r else (g,x)::gW f v r).map (·.1)=_;by_cases e:g=f
  ·subst e;simp
  ·rw[if_neg e,NP,uk f v r]
   by_cases h:f∈r.map (·.1)
   ·rw[if_pos h,if_pos (by rw[NP];exact O1 _ h)];rfl
   ·rw[if_neg h,if_neg (by rw[NP];intro z;exact(NW.mp z).elim (λq=>e q.symm) h)];rfl
theorem vn (f:NG) (v:V) {fs:List (NG×V)} (h:(fs.map (·.1)).Nodup):((gW f v fs).map (·.1)).Nodup:=by
 rw[uk];split
 ·exact h
 ·rename_i hf
  refine Qo.mpr ⟨h,by simp,λa ha b hb=> ?_⟩;rw[N_.mp hb];intro z;subst z;exact hf ha
theorem di {α:Type} [DecidableEq α]:∀{l m:List α},l.Nodup->(∀x∈l,x∈m)->l.length<=m.length
 |[],_,_,_=>Pf _
 |a::l,m,h,s=>by
  obtain⟨h1,h2⟩:=QG.mp h;have ha:=s a NZ;have:=di (m:=m.erase a) h2 λx hx=>(List.mem_erase_of_ne (λz=>h1 (by rw[<-z];exact hx))).mpr (s x (O1 _ hx));rw[List.length_erase_of_mem ha]at this;have hp:0<m.length:=List.length_pos_of_mem ha;rw[O3];omega
theorem ka {α:Type} {f:NG}:∀{fs:List (NG×α)},f∈fs.map (·.1)->∃v,fs.lookup f=GS v
 |(g,x)::r,h=>by
  rw[P5];cases e:f==g with
  |true=>exact⟨x,rfl⟩
  |false=>
   rw[NP]at h;rcases NW.mp h with z|z
   ·rw[z]at e;simp at e
   ·exact ka z
theorem RI.fld {c:cF ly} (r:RI K c ρ σ H F) {L:cR} (hL:L∈ly) (hρ:ρ[L.x]? =GS (GS .obj)) {a dx:NH} {fs:List (NG×V)} {i:Nat} (hx:σ[L.x]? =GS (GS (.ref a))) (ha:H a=GS (.ins L.C dx fs)) (hf:(f,i)∈L.fl) (hn:∀p∈L.fl,p.1=f<->p.2=i) (a1q:L.x≠i) (Zx:∀M∈ly,M≠L->M.x≠i/\∀p∈M.fl,p.2≠i) {v:V} {d:D} (hd:cD K F v d) (a0m:i<σ.length): RI K c (ρ.set i (GS (.val d))) (σ.set i (GS v)) (aS H a (.ins L.C dx (gW f v fs))) F:=by
 obtain⟨b,a0R,Yx,k0,k1,k2,k3,k4,k5,k6,k7,k8,k9,a1K⟩:=r.obj L hL hρ;rw[hx]at k1;cases k1;rw[ha]at k2;cases k2;have WK:∀{b:NH} {o:HO},H b=GS o->im K F o d->b≠a:=λ{b o} e q z=>by subst z;rw[ha]at e;cases e;cases q
 refine⟨⟨λx y e=> ?_,λx y e=> ?_,r.ext.grow,r.ext.new⟩,λj e q=> ?_,λj e q=> ?_,λj e q=> ?_,r.bh,λj k e e' x q1 q2 q3 q4=> ?_,by simp[r.len],λM hM hq=> ?_,λM hM M' a1r a2h a2i x q1 q2=> ?_,r.fm, .no λj x W5 g hs w=> ?_,λM hM a h=> ?_⟩
 ·rw[aj (λz=>by rw[z,k4]at e;cases e)];exact r.sub x y e
 ·rw[aj (λz=>by rw[z,k6]at e;cases e)];exact r.ext.keep x y e
 ·rcases aq q with ⟨rfl,z,l⟩|⟨z,q⟩
  ·cases z;exact⟨v,fD a0m,hd⟩
  ·rw[af z];exact r.val j e q
 ·rcases aq q with ⟨rfl,z,l⟩|⟨z,q⟩
  ·cases z
  ·obtain⟨x,o,g1,g2,g3,g4,g5⟩:=r.own j e q
   have nx:x≠a:=λz=>by subst z;rw[ha]at g2;cases g2;cases g5
   exact⟨x,o,by rw[af z];exact g1,by rw[aj nx];exact g2,g3,g4,g5⟩
 ·rcases aq q with ⟨rfl,z,l⟩|⟨z,q⟩
  ·cases z
  ·rw[af z];exact r.bor j e q
 ·rcases aq q1 with ⟨rfl,z,l⟩|⟨z,q1⟩
  ·cases z
  ·rcases aq q2 with ⟨rfl,z',l⟩|⟨z',q2⟩
   ·cases z'
   ·rw[af z]at q3;rw[af z']at q4
    exact r.dis j k e e' x q1 q2 q3 q4
 ·by_cases YK:M=L
  ·subst YK
   refine⟨a,dx,gW f v fs,k0,by rw[af a1q.symm];exact hx,ar,?_,k4,k5,k6,k7,λp hp=> ?_,λg u hu=> ?_,vn _ _ a1K⟩
   ·rw[aj (λz=>by rw[z,ha]at k3;cases k3)];exact k3
   ·rw[cp]
    by_cases e:p.1=f
    ·rw[if_pos e,(hn p hp).mp e,fD a0m];rfl
    ·rw[if_neg e,af (λz=>e ((hn p hp).mpr z.symm))];exact k8 p hp
   ·rw[cp]at hu
    by_cases e:g=f
    ·subst e;exact Oz.mpr ⟨_,hf,rfl⟩
    ·rw[if_neg e]at hu;exact k9 g u hu
  ·have ho:=Zx M hM YK
   rw[af ho.1.symm]at hq;obtain⟨b,dy,gs,g0,g1,g2,g3,g4,g5,g6,g7,g8,g9⟩:=r.obj M hM hq;have nb:b≠a:=λz=>YK (r.odis M hM L hL hq hρ a (by rw[<-z];exact g1) hx);have nd:dy≠a:=λz=>by subst z;rw[ha]at g3;cases g3
   refine⟨b,dy,gs,g0,by rw[af ho.1.symm];exact g1,by rw[aj nb];exact g2,by rw[aj nd];exact g3,g4,g5,g6,g7,λp hp=> ?_,g9⟩;rw[af (ho.2 p hp).symm];exact g8 p hp
 ·have a0E:∀M∈ly,M.x≠i:=λM hM=>by
   by_cases YK:M=L
   ·subst YK;exact a1q
   ·exact(Zx M hM YK).1
  rw[af (a0E M hM).symm]at q1 a2h;rw[af (a0E M' a1r).symm]at q2 a2i;exact r.odis M hM M' a1r a2h a2i x q1 q2
 ·rcases aq w with ⟨rfl,z,l⟩|⟨z,w⟩
  ·cases z
  ·have:=r.cel.one j L.x x W5 g hs .obj w hρ rfl
   subst this;rw[hρ]at w;cases w
 ·have a0E:M.x≠i:=by
   by_cases YK:M=L
   ·subst YK;exact a1q
   ·exact(Zx M hM YK).1
  rw[af a0E.symm];exact r.pin M hM a h
def oK (x:Nat) (g:aa->R aF):aa->R aF:=λρ=>match ρ[x]? with
 |some (GS .obj)=>g ρ
 |_=> .bad
theorem FU {c:cF ly} {x:Nat} {g:aa->R aF} {P:aF->Prop} (w:aw c (oK x g ρ) P):ρ[x]? =GS (GS .obj)/\aw c (g ρ) P:=by
 unfold oK at w;split at w
 ·rename_i h;exact⟨h,w⟩
 ·exact w.elim
structure Dn (ly:List cR) (L:cR) (f:NG) (i:Nat):Prop where
 mem:L∈ly
 fl:(f,i)∈L.fl
 un:∀p∈L.fl,p.1=f<->p.2=i
 x:L.x≠i
 oth:∀M∈ly,M≠L->M.x≠i/\∀p∈M.fl,p.2≠i
 few:L.fl.length<1000
theorem ji {value:NS} {We px:Ox} {fv:aa->R D} {y g:NG} {L:cR} (i:Nat) (hC:we X.K L.C) (n:dq X.K L.C f) (A:Dn ly L f i) (hv:PQ ly X value fv) (hN:X.N[L.x]? =GS y:=by rfl) (a3T:pz X.env.scope y:=by first|exact OG rfl|exact Oj (OG rfl)|exact Oj (Oj rfl)) (hd:(y==("__debug__":NG))=false:=by decide) (WG:(y==("__classdict__":NG))=false:=by decide) (hi:X.N[i]? =GS g:=by rfl) (hvis:¬pz X.env.scope g:=by decide+kernel) (hs:ON value (GS (.Attribute (.Name y px) f We)) pos.line X.env=pure false:=by rfl): e_ ly X (.Assign [.Attribute (.Name y px) f We] value pos) (oK L.x (aE fv (gN i))):=⟨λc V_ s σ H D I q=>by
 refine zI i hi hvis (pv L.x hN a3T hd WG) (hv c) hs V_ s σ H D I ?_;obtain⟨F,ρ,ri,w⟩:=q;obtain⟨hρ,w⟩:=FU w;refine⟨F,ρ,ri,(aw.bind.mp w).imp λd _ w1 v H1 F1 e1 r1=> ?_⟩;have Yc:=ri.step e1;obtain⟨a,dx,fs,h0,h1,h2,h3,h4,h5,h6,h7,h8,h9,a1s⟩:=Yc.obj L A.mem hρ;have a0m:i<σ.length:=by rw[I.len];exact(O6.mp hi).1
 have Wa:fs.length<1000:=by
  have:=di (m:=L.fl.map (·.1)) a1s λx hx=>by
   obtain⟨v,e⟩:=ka hx;exact h9 x v e
  rw[NK,NK]at this;exact Sb this A.few
 refine⟨.ref a,h1,a,L.C,dx,fs,rfl,h2,hC,n,Wa,?_⟩;exact w1 _ _ F1 e1.grow (Yc.fld A.mem hρ h1 h2 A.fl A.un A.x A.oth r1 a0m)⟩
end
section
variable {X:Cx} {pos px:Ox} {f y:NG}
def N7 (x:Nat) (g:aa->R D):aa->R D:=λρ=>match ρ[x]? with
 |some (GS .obj)=>g ρ
 |_=> .bad
end
def de:List (NG×Nat)->aa->Option (List (NG×D))
 |[],_=>GS []
 |p::r,ρ=>match ρ[p.2]? with
  |some (GS (.val d))=>(de r ρ).map λt=>(p.1,d)::t
  |_=>JT
def jj (n:Nat) (ds:List D):aa:=GS Slot.obj::bN n ds
def B0 (fl:List (NG×Nat)) (ρ:aa):R (List (NG×D)):=match ρ[0]? with
 |some (GS Slot.obj)=>R.of (de fl ρ)
 |_=> .bad
def mC (k n:Nat) (fl:List (NG×Nat)) (g:aa->R aF) (ds:List D):R (List (NG×D)):=if ds.length=k then g (jj n ds)>>=λo=>match o with
 | .nx ρ=>B0 fl ρ
 |_=> .bad else .bad
def Dp (K:ND) (C:NH) (cls:NG) (k:Nat) (mi:List D->R (List (NG×D))):Sp:=λvs H Q E=>∃F x dx us ds Hz,vs= .ref x::us/\us.length=k/\aB F Hz/\Hz x=JT/\Hz dx=JT/\dx≠x/\H=aS (aS Hz dx (.own x)) x (.ins C dx [])/\Reps K F us ds/\match mi ds with
 | .ok fds=>∀H' F',b8 Hz F H' F'->cD K F' (.ref x) (.ins cls fds)->Q .non H'
 | .err z _=>∀ec a H' F',cL K z ec->b8 Hz F H' F'->E ec a H'
 | .bad=>False
theorem nK {K:ND} {c:cF ly} {ρ:aa} {σ:St} {H F:Hp} (ri:RI K c ρ σ H F) {fs:List (NG×V)}:∀{fl:List (NG×Nat)} {fds:List (NG×D)},de fl ρ=GS fds->(∀p∈fl,fs.lookup p.1=(σ[p.2]?).join)-> ∃vs:List (NG×V),RepF K F vs fds/\vs.map (·.1)=fl.map (·.1)/\∀p∈vs,fs.lookup p.1=GS p.2
 |[],fds,h,_=>by cases h;exact⟨[], .nil,rfl,λp hp=>by cases hp⟩
 |p::fl,fds,h,hl=>by
  unfold de at h;split at h
  ·rename_i d hd
   cases e:de fl ρ with
   |none=>rw[e]at h;cases h
   |some t=>
    rw[e]at h;cases h;obtain⟨vs,h1,h2,h3⟩:=nK ri e λq hq=>hl q (O1 _ hq);obtain⟨v,g1,g2⟩:=ri.val _ d hd;refine⟨(p.1,v)::vs, .cons g2 h1,by rw[NP,NP,h2],λq hq=> ?_⟩;rcases NW.mp hq with rfl|hq
    ·have:=hl p NZ
     rw[this,g1];rfl
    ·exact h3 q hq
  ·cases h
theorem ul {x dx:NH} {fl:List (NG×Nat)} {Hz:Hp} {us:List V} {ds:List D} (hn:N.length=n+1) (s:aB F Hz) (hx:Hz x=JT) (a1t:Hz dx=JT) (WK:dx≠x) (r:Reps K F us ds) (a4r:us.length<=n) (hg:∀p∈fl,us.length<p.2): RI K (⟨Hz,F,λ_=>JT,Er,λ_=>GS x,λ_=>JT⟩:cF [⟨0,C,fl⟩]) (jj n ds) (dZ N (.ref x::us)) (aS (aS Hz dx (.own x)) x (.ins C dx [])) F:=by
 have keep:aB Hz (aS (aS Hz dx (.own x)) x (.ins C dx [])):=(bJ a1t).trans (bJ (by rw[aj (Py WK)];exact hx));have hv:∀(i:Nat) sl,(jj n ds)[i]? =GS (GS sl)->(i=0/\sl= .obj)\/∃j d,i=j+1/\ds[j]? =GS d/\sl= .val d:=λi sl h=>by
  cases i with
  |zero=>exact .inl ⟨rfl,by cases h;rfl⟩
  |succ j=>
   have h':(bN n ds)[j]? =GS (GS sl):=h;refine .inr ?_;unfold bN at h';rw[QW]at h';split at h'
   ·rw[O9]at h'
    cases e:ds[j]? with
    |none=>rw[e]at h';cases h'
    |some d=>rw[e]at h';simp at h';exact⟨j,d,rfl,e,h'.symm⟩
   ·rw[PD]at h'
    split at h'<;>simp at h'
 have YE:(dZ N (V.ref x::us))[0]? =GS (GS (V.ref x)):=rfl;refine⟨⟨s.trans keep,keep,aB.refl _,λ_ h=> .inl h⟩,λi d h=> ?_,λi d h=> ?_,λi d h=> ?_,(λb o e=>by cases e),λi j d d' a h=> ?_,?_,λL hL _=> ?_,λL hL L' YD _ _ a _ _=> ?_,(λ_ _ e=>by cases e), .no λi x W5 f hs h=>(by obtain⟨_,z⟩|⟨j,d',_,_,z⟩:=hv i _ h<;>cases z),λL hL a h=>by rw[N_.mp hL];cases h;exact YE⟩
 ·obtain⟨rfl,z⟩|⟨j,d',rfl,e,z⟩:=hv i _ h
  ·cases z
  cases z;obtain⟨v,h1,h2⟩:=r.get e;refine⟨v,?_,h2⟩;unfold dZ;have hl:j<us.length:=(O6.mp h1).1;rw[PZ (by simpa using hl),O9];show (us[j]?).map GS=_;rw[h1]
  rfl
 ·obtain⟨_,z⟩|⟨j,d',_,_,z⟩:=hv i _ h<;>cases z
 ·obtain⟨_,z⟩|⟨j,d',_,_,z⟩:=hv i _ h<;>cases z
 ·obtain⟨_,z⟩|⟨j,d',_,_,z⟩:=hv i _ h<;>cases z
 ·simp only[jj,bN,dZ,O3,Oh,NK,Qi,hn]
  have:=r.length;omega
 ·rw[N_.mp hL]
  refine⟨x,dx,[],(λb hb=>by cases hb;rfl),YE,ar,?_,s.free hx,s.free a1t,hx,a1t,λp hp=> ?_,(λf v h=>by cases h),U4⟩
  ·rw[aj WK];exact ar
  ·have a0r:=hg p hp
   show JT=_;unfold dZ;rw[QX (by simp;omega),PD];split<;>rfl
 ·rw[N_.mp hL,N_.mp YD]
theorem FV {fl:List (NG×Nat)} {c:cF [⟨0,C,fl⟩]} {fds:List (NG×D)} {x:NH} (ri:RI K c ρ σ H F) (hρ:ρ[0]? =GS (GS .obj)) (a3U:c.oa 0=GS x) (Zu:O0 K NU cls=GS (GS (.ref C))) (h:de fl ρ=GS fds): ∃F',b8 c.H0 c.F0 H F'/\cD K F' (.ref x) (.ins cls fds):=by
 obtain⟨a,dx,fs,h0,h1,h2,h3,h4,h5,h6,h7,h8,h9,a1s⟩:=ri.obj _ (N_.mpr rfl) hρ;cases h0 x a3U;obtain⟨vs,g1,g2,g3⟩:=nK ri h h8;have WK:dx≠x:=λz=>by rw[z,h2]at h3;cases h3
 have s1:aB F (aS F dx (.own x)):=bJ h5;have s2:aB (aS F dx (.own x)) (aS (aS F dx (.own x)) x (.ins C dx fs)):=bJ (by rw[aj (Py WK)];exact h4);have sF:=s1.trans s2;refine⟨aS (aS F dx (.own x)) x (.ins C dx fs),⟨λb u e=> ?_,ri.ext.keep,ri.ext.grow.trans sF,λb e=> ?_⟩, .ins ar (by rw[aj WK];exact ar) Zu g3 (λf v e=>by rw[g2];exact h9 f v e) (g1.mono sF)⟩
 ·by_cases z:b=x
  ·subst z;rw[ar]at e;rw[<-e];exact h2
  ·rw[aj z]at e
   by_cases z2:b=dx
   ·subst z2;rw[ar]at e;rw[<-e];exact h3
   ·rw[aj z2]at e;exact ri.sub b u e
 ·by_cases z:b=x
  ·subst z;exact .inr h6
  ·rw[aj z]at e
   by_cases z2:b=dx
   ·subst z2;exact .inr h7
   ·rw[aj z2]at e;exact ri.ext.new b e
theorem FW {x:NG} {f:NH} {k m:Nat} {fl:List (NG×Nat)} {g:aa->R aF} (F:zq K x qual st f fd) (S:aL N ps (ao st)) (Zu:O0 K NU cls=GS (GS (.ref C))) (hn:ps.length=n+1) (hm:N.length=m+1) (hg:∀p∈fl,n<p.2) (ZO:n<=m) (Wg:∀(W2:NF) (A:Oc) (outer:List Pw) (s:NI) (H:Hp) (E:XK),br k (A.deeper (PY qual (ao st) s.heap.objs.size f W2))-> gY [⟨0,C,fl⟩] (ik (kX P w) P w K mg base N qual (ao st) f W2 A outer s H E) (aQ st) g):eF P w K mg base (kX P w) (k+1) f fd ps (Dp K C cls n (mC n m fl g)):=by
 refine Ha F S (λvs H Q E h=> ?_) (λW2 A outer s H vs Q E hr h=> ?_)
 ·obtain⟨Fz,y,dy,us,ds,Hz,rfl,hl,_⟩:=h
  rw[O3,hl,hn]
 ·obtain⟨Fz,y,dy,us,ds,Hz,rfl,hl,sub,hy,a2j,WK,rfl,r,w⟩:=h
  refine⟨_,Wg W2 A outer s _ E hr ⟨⟨Hz,Fz,λ_=>JT,λz _=>∀ec a H' F',cL K z ec->b8 Hz Fz H' F'->E ec a H',λ_=>GS y,λ_=>JT⟩,rM λz ρ er ec a H' F' σ hc ri=>er ec a H' F' hc ri.ext⟩,?_⟩;refine⟨Fz,jj m ds,ul hm sub hy a2j WK r (by omega) (λp hp=>by rw[hl];exact hg p hp),?_⟩;have hd:ds.length=n:=by rw[<-r.length];exact hl
  unfold mC at w;rw[if_pos hd]at w;cases e:g (jj m ds)with
  |bad=>rw[e]at w;exact w.elim
  |err c ρ=>rw[e]at w;exact w
  |ok o=>
   rw[e]at w;cases o with
   |nx ρ=>
    intro σ' H' F' _ Xq;rw[ag]at w;split at w
    ·rename_i fds hf
     replace hf:B0 fl ρ= .ok fds:=hf
     unfold B0 at hf;split at hf
     ·rename_i hρ
      cases e2:de fl ρ with
      |none=>rw[e2]at hf;cases hf
      |some a5C=>
       rw[e2]at hf;cases hf;obtain⟨F2,x1,x2⟩:=FV Xq hρ rfl Zu e2;exact w H' F2 x1 x2
     ·cases hf
    ·rename_i z ρe hf
     replace hf:B0 fl ρ= .err z ρe:=hf
     unfold B0 at hf;split at hf
     ·cases e2:de fl ρ<;>rw[e2]at hf<;>cases hf
     ·cases hf
    ·exact w.elim
   |_=>exact w.elim
structure nL (P:NM) (w:NV) (K:ND) (mg:NG->Option NF) (base:NT) (k:Nat) (cls:NG) (n:Nat) (mi:List D->R (List (NG×D))):Prop where
 ex:∃C f fd ps,eF P w K mg base (kX P w) k f fd ps (Dp K C cls n mi)/\mg cls=GS (.ref C)/\Mk K C f/\eZ K fd ps []
section
variable {X:Cx} {e:NS} {es:List NS} {fs:aa->R (List D)} {cls:NG} {p pos:Ox}
def jB (cls:NG) (n:Nat) (mi:List D->R (List (NG×D))) (fs:aa->R (List D)):aa->R D:=λρ=>fs ρ>>=λds=>if ds.length=n then (match mi ds with| .ok fds=> .ok (.ins cls fds)| .err x _=> .err x ρ| .bad=> .bad)else .bad
theorem Dq {k:Nat} {mi:List D->R (List (NG×D))} (G:nL X.prog X.w X.K X.mg X.base k cls n mi) (hr:br (k+1) X.A) (ha:t7 ly X (e::es) fs) (hg:Gl X cls:=by rfl) (WL:(cls==("__debug__":NG))=false:=by decide) (he:NL (e::es) X.env=(false,O8 e X.env)::NL es X.env:=by rfl) (WA:(Om pos (NL es X.env)).any (·.1)=false:=by rfl):PQ ly X (.Call (.Name cls p) (e::es) [] pos) (jB cls n mi fs):=by
 obtain⟨C,f,fd,ps,h1,h2,h3,h4⟩:=G.ex;refine⟨λc=>PE.weak (zi h3 h1 hr hg h2 h4 .nil (oB c) (ha c) WL he WA) λσ H Q ⟨F,ρ,ri,w⟩=>⟨F,ρ,ri,(aw.bind.mp w).imp λds _ w1 vs H1 F1 e1 r1 x dx hx a1t WK=> ?_⟩⟩;rw[P2];split at w1
 ·rename_i hl
  refine⟨F1,x,dx,vs,ds,H1,rfl,by rw[r1.length];exact hl,e1.sub,hx,a1t,WK,rfl,r1,?_⟩;split at w1
  ·rename_i fds hm
   exact λH' F' e' r'=>⟨rfl,w1 _ H' F' (e1.trans e') r'⟩
  ·exact λec a H' F' hc e'=>⟨_,ρ,F',hc,ri.step (e1.trans e'),w1⟩
  ·exact w1.elim
 ·exact w1.elim
end
section
variable {X:Cx} {e:NS} {es:List NS} {fs:aa->R (List D)} {x:NG} {np W7 pos:Ox}
structure bB (K:ND) (mg:NG->Option NF) (x:NG):Prop where
 ex:∃C,O0 K NU x=GS (GS (.ref C))/\mg x=GS (.ref C)/\v7 K C
def bn (x:NG) (fs:aa->R (List D)):aa->R aF:=λρ=>fs ρ>>=λds=>if ds.length<=lim then .err x ρ else .bad
theorem Dr {c:eG ly X} {D:o8} (Zu:O0 X.K NU x=GS (GS (.ref C))) (a0B:∀V_ σ ρ H F s a cls x,au X V_ σ H s->RI X.K c.1 ρ σ H F->Fl X V_ H s.heap a cls->cL X.K x cls->c.1.Er x ρ->X.xe (.ref a) s) (ri:RI X.K c.1 ρ σ H F) (w:aw c.1 (bn x fs ρ) (gP X.K c.1 F D)):CB X C (IB X.K c.1 fs) D σ H:=by
 refine⟨F,ρ,ri,(aw.bind.mp w).imp λds _ w1 vs H1 F1 e1 r1=> ?_⟩;split at w1
 ·rename_i hl
  exact⟨Ou (by rw[r1.length];exact hl) fE,λV_ s a I fl=>a0B V_ σ ρ H1 F1 s a _ x I (ri.step e1) fl ⟨C,rfl,Zu⟩ w1⟩
 ·exact w1.elim
theorem Ds {c:cF ly} {D:o8} (no:∀x ρ,¬c.Er x ρ) (w:aw c (bn x fs ρ) (gP X.K c F D)):False:=by
 unfold bn at w;cases h:fs ρ with
 |bad=>rw[h]at w;exact w
 |err y ρ'=>rw[h]at w;exact no _ _ w
 |ok ds=>
  rw[h,ag]at w;split at w
  ·exact no _ _ w
  ·exact w
theorem zJ (k:bB X.K X.mg x) (hc:X.calm=true) (ha:t7 ly X (e::es) fs) (hg:Gl X x:=by rfl) (WL:(x==("__debug__":NG))=false:=by decide) (he:NL (e::es) X.env=(false,O8 e X.env)::NL es X.env:=by rfl) (WA:(Om W7 (NL es X.env)).any (·.1)=false:=by rfl) (W_:X.stack=X.env::X.outer:=by rfl):e_ ly X (.Raise (GS (.Call (.Name x np) (e::es) [] W7)) JT pos) (bn x fs):=by
 obtain⟨C,h1,h2,h3⟩:=k.ex;refine⟨?_⟩;intro c V_ s σ H D I q;obtain⟨F,ρ,ri,w⟩:=q;rcases c.2.plain W_ with ⟨hp,a0B⟩|no
 ·exact CC h3 h2 hp hc (ha c) hg WL he WA V_ s σ H D I (Dr h1 a0B ri w)
 ·exact(Ds (X:=X) no w).elim
end
def Lg (i:Nat):aF->aF
 | .nx ρ=> .nx (ρ.set i JT)
 | .brk ρ=> .brk (ρ.set i JT)
 | .cnt ρ=> .cnt (ρ.set i JT)
 | .ret d=> .ret d
 | .retc d ρ=> .retc d (ρ.set i JT)
def um (i:Nat) (sub:NG->Bool) (gh:aa->R aF) (x:NG) (ρ:aa):R aF:=if sub x=true then (match gh (ρ.set i (GS (.val (.exc x))))with
 | .ok o=> .ok (Lg i o)
 |_=> .bad)else .bad
def wO (i:Nat) (sub:NG->Bool) (g gh:aa->R aF):aa->R aF:=λρ=>match g ρ with
 | .err x ρ'=>um i sub gh x ρ'
 |r=>r
section
variable {X:Cx} {V_:List (NH×Oi)} {σ:St} {H:Hp} {s:NI}
abbrev _root_.L2.Cx.inT (X:Cx) (E:NF->NI->Prop) (pn:List (NH×Oi)):Cx:={X with xe:=E,pn:=pn}
theorem Nu {E:NF->NI->Prop} {pn:List (NH×Oi)} (ok:X.Ok):(X.inT E pn).Ok:=
 ⟨ok.mod,ok.kind,ok.glob,ok.blt,ok.above,ok.inj,ok.has,ok.cab,ok.hd,ok.frames,ok.stk,ok.exf,ok.bs,ok.bsz,ok.noex,ok.exfs,ok.funs,ok.frf⟩
theorem inT {E:NF->NI->Prop} (I:au X V_ σ H s):au (X.inT E (X.pn++V_)) [] σ H s:=⟨Nu I.ok,I.os,I.bare,I.base,I.loc,I.cell,I.free,I.freeC,λp hp=>I.pin p (by simpa using hp),I.hok,I.len⟩
theorem Dt {E:NF->NI->Prop} (ok:X.Ok) (I:au (X.inT E (X.pn++V_)) Wo σ H s):au X V_ σ H s:=⟨ok,I.os,I.bare,I.base,I.loc,I.cell,I.free,I.freeC,λp hp=>I.pin p (O_ _ hp),I.hok,I.len⟩
theorem newT {E:NF->NI->Prop} {b:NH} (n:xF (X.inT E (X.pn++V_)) Wo H b):xF X V_ H b:=⟨n.s0,n.no,λp hp=>n.pin p (O_ _ hp)⟩
theorem Nv {E:NF->NI->Prop} {a:NH} {cls:NF} (f:Fl (X.inT E (X.pn++V_)) Wo H h a cls):Fl X V_ H h a cls:=by
 obtain⟨oe,vs,h1,h2,h3,h4⟩:=f.at_;refine⟨newT f.new,oe,vs,h1,h2,h3,h4.imp id λ⟨T,fl,e,t,hf⟩=>⟨T,fl,e,⟨newT t.new,t.ne,t.at_⟩,hf⟩⟩
theorem Nw {E:NF->NI->Prop} {D:o8} {f:Flow} (ok:X.Ok) (h:SP (X.inT E (X.pn++V_)) [] D f s):SP X V_ D f s:=by
 cases f with
 |next=>obtain⟨σ',H',I,q⟩:=h;exact⟨σ',H',Dt ok I,q⟩
 |brk=>obtain⟨σ',H',I,q⟩:=h;exact⟨σ',H',Dt ok I,q⟩
 |cont=>obtain⟨σ',H',I,q⟩:=h;exact⟨σ',H',Dt ok I,q⟩
 |ret u=>obtain⟨v,σ',H',I,r,q⟩:=h;exact⟨v,σ',H',Dt ok I,r,q⟩
end
section
variable {K:ND} {c:cF ly} {ρ:aa} {σ:St} {H F:Hp}
def cF.er (c:cF ly) (F:Hp) (Er:NG->aa->Prop):cF ly:=⟨c.H0,c.F0,c.B,Er,c.oa,F⟩
theorem RI.er {Er:NG->aa->Prop} (r:RI K c ρ σ H F):RI K (c.er F Er) ρ σ H F:=⟨r.ext,r.val,r.own,r.bor,r.bh,r.dis,r.len,r.obj,r.odis,aB.refl _,r.cel,r.pin⟩
theorem RI.unEr (r:RI K (c.er F1 Er) ρ σ H F) (m:aB c.Fm F1):RI K c ρ σ H F:=⟨r.ext,r.val,r.own,r.bor,r.bh,r.dis,r.len,r.obj,r.odis,m.trans r.fm,r.cel,r.pin⟩
theorem gP.er {D:o8} {o:aF} {F1:Hp} {Er:NG->aa->Prop} (m:aB c.Fm F1) (h:gP K c F D o):gP K (c.er F1 Er) F D o:=by
 cases o with
 |nx ρ=>exact λσ' H' F' s r=>h σ' H' F' s (r.unEr m)
 |brk ρ=>exact λσ' H' F' s r=>h σ' H' F' s (r.unEr m)
 |cnt ρ=>exact λσ' H' F' s r=>h σ' H' F' s (r.unEr m)
 |ret d=>exact λv H' F' s e r=>h v H' F' s e r
 |retc d ρ=>exact λv σ' H' F' s e r=>h v σ' H' F' s (e.unEr m) r
end
section
variable {X:Cx} {body YC:List Ob} {b₀:Ob} {g gh:aa->R aF} {cx n:NG} {np ZV pos:Ox} {sub:NG->Bool}
structure wQ (K:ND) (mg:NG->Option NF) (cx:NG) (sub:NG->Bool):Prop where
 ex:∃C,mg cx=GS (.ref C)/\∀x cls,sub x=true->cL K x cls->QQ K cls (.ref C)=GS true
theorem Lh (i:Nat) (p:fA X) (hN:X.N.Nodup) (U:wQ X.K X.mg cx sub) (hb:∀E pn,gY ly (X.inT E pn) body g) (hh:∀v,gY ly (X.inH v) (b₀::YC) gh) (hi:X.N[i]? =GS n:=by rfl) (hk:X.env.scope.names.lookup n=GS .local:=by rfl) (hg:Gl X cx:=by rfl) (WL:(cx==("__debug__":NG))=false:=by decide) (WM:jW ly i:=by(repeat (first|assumption|exact L2.Pu.dB|refine L2.Pu.cK ⟨by first|decide|simp,by first|decide|simp⟩ ?_))):e_ ly X (.Try body [.ExceptHandler (GS (.Name cx np)) (GS n) (b₀::YC) ZV] [] [] pos) (wO i sub g gh):=by
 obtain⟨Cc,hm,a0z⟩:=U.ex;refine⟨?_⟩;intro c V_ s σ H D I q;obtain⟨F,ρ,ri,w⟩:=q;refine wpAny_Try_except ?_;have ok:=I.ok;let a4I:NF->NI->Prop:=λe s₁=>wpAny (NY X.prog X.w) X.A (QS e X.env) (λ_ s₂=>wpAny (NY X.prog X.w) X.A (UW e JT) (λ_ s₃=>wpAny (NY X.prog X.w) X.A (handleBy e X.env [.ExceptHandler (GS (.Name cx np)) (GS n) (b₀::YC) ZV]) (SP X V_ D) X.xe s₃) X.xe s₂) X.xe s₁;let c':cF ly:=c.1.er F λx ρ'=>aw c.1 (um i sub gh x ρ') (gP X.K c.1 F D);have a0B:IA (X.inT a4I (X.pn++V_)) c':=by
  refine .inl ⟨⟨p.st,p.fr,p.ex⟩,λWo σ' ρ' H' F' s' a cls x I' Xq fl ec er=> ?_⟩;obtain⟨C,rfl,Zu⟩:=ec;have a0S:RI X.K c.1 ρ' σ' H' F':=Xq.unEr ri.fm;have sF:aB F F':=Xq.fm;refine wz (Dt ok I') p (Nv fl) λh2 I2 f2=> ?_
  replace er:aw c.1 (um i sub gh x ρ') (gP X.K c.1 F D):=er
  unfold um at er;split at er
  ·rename_i hs
   refine AM I2 p f2 hN hi hk hg hm (a0z x _ hs ⟨C,rfl,Zu⟩) WL λs3 I3=> ?_;have e2:=b8.lay (o:= .ext (ju a (.ref C))) a0S.sub f2.new.no;have ZW:=(a0S.step e2).setVal i WM (cD.exc ar Zu);split at er
   ·rename_i o ho
    let D2:o8:={nx:=λσ1 H1=>D.nx (σ1.set i JT) H1,rt:=D.rt,bk:=λσ1 H1=>D.bk (σ1.set i JT) H1,ct:=λσ1 H1=>D.ct (σ1.set i JT) H1};have a3V:gP X.K (c.1.er F λ_ _=>False) (aS F' a (.ext (ju a (.ref C)))) D2 o:=by
     have a2k:=sF.trans e2.grow;cases o with
     |nx ρ1=>exact λσ1 H1 F1 s1 r1=>er _ H1 F1 (a2k.trans s1) ((r1.unEr ri.fm).setNone i WM)
     |brk ρ1=>exact λσ1 H1 F1 s1 r1=>er _ H1 F1 (a2k.trans s1) ((r1.unEr ri.fm).setNone i WM)
     |cnt ρ1=>exact λσ1 H1 F1 s1 r1=>er _ H1 F1 (a2k.trans s1) ((r1.unEr ri.fm).setNone i WM)
     |ret d=>exact λv H1 F1 s1 e1 r1=>er v H1 F1 (a2k.trans s1) e1 r1
     |retc d ρ1=>exact λv σ1 H1 F1 s1 e1 r1=>er v _ H1 F1 (a2k.trans s1) ((e1.unEr ri.fm).setNone i (v:=JT) WM) r1
    have a5D:RI X.K (c.1.er F λ_ _=>False) (ρ'.set i (GS (.val (.exc x)))) (σ'.set i (GS (.ref a))) (aS H' a (.ext (ju a (.ref C)))) (aS F' a (.ext (ju a (.ref C)))):=⟨ZW.ext,ZW.val,ZW.own,ZW.bor,ZW.bh,ZW.dis,ZW.len,ZW.obj,ZW.odis,sF.trans e2.grow,ZW.cel,ZW.pin⟩;refine bF (hh (.ref a) ⟨c.1.er F λ_ _=>False, .no λ_ _ z=>z⟩ V_ s3 _ _ D2 I3 ⟨_,_,a5D,by rw[ho];exact a3V⟩) λf s4 q4=> ?_;have Zw:∀{σ1 H1},au (X.inH (.ref a)) V_ σ1 H1 s4->(∀s5,au X V_ (σ1.set i JT) H1 s5->SP X V_ D f s5)->wpAny (NY X.prog X.w) X.A (do bindName X.env n OQ;RX X.env n ZV) (λ_ s5=>SP X V_ D f s5) X.xe s4:=λI4 kk=>AK (I4.outH ok) hN hi hk kk;cases f with
    |next=>obtain⟨σ1,H1,I4,q5⟩:=q4;exact Zw I4 λs5 I5=>⟨_,H1,I5,q5⟩
    |brk=>obtain⟨σ1,H1,I4,q5⟩:=q4;exact Zw I4 λs5 I5=>⟨_,H1,I5,q5⟩
    |cont=>obtain⟨σ1,H1,I4,q5⟩:=q4;exact Zw I4 λs5 I5=>⟨_,H1,I5,q5⟩
    |ret u=>obtain⟨v,σ1,H1,I4,r,q5⟩:=q4;exact Zw I4 λs5 I5=>⟨v,_,H1,I5,r,q5⟩
   ·exact er.elim
  ·exact er.elim
 have wb:aw c' (g ρ) (gP X.K c' F D):=by
  unfold wO at w;cases h:g ρ with
  |bad=>rw[h]at w;exact w
  |err x ρ'=>rw[h]at w;exact w
  |ok o=>rw[h]at w;exact gP.er ri.fm w
 refine bF (hb a4I (X.pn++V_) ⟨c',a0B⟩ [] s σ H D (inT I) ⟨F,ρ,ri.er,wb⟩) λf s1 q1=> ?_;have q2:=Nw ok q1;cases f with
 |next=>exact RO q2
 |brk=>exact q2
 |cont=>exact q2
 |ret u=>exact q2
end
section
variable {X:Cx} {a:NS} {fa:aa->R D} {x:NG} {p p2 pos:Ox} {tb:NG->Option Bool}
structure qe (K:ND) (v:NF) (tb:NG->Option Bool):Prop where
 ok:∀x b cls,tb x=GS b->cL K x cls->OZ K cls v=GS b/\∃C,cls= .ref C/\v7 K C
def t9 (tb:NG->Option Bool) (f:aa->R D):aa->R D:=λρ=>f ρ>>=λd=>match d with
 | .exc x=>R.of ((tb x).map .bl)
 |_=> .bad
def Li (K:ND):List V->Hp->VK->Prop:=λxs H Q=>∃a C v c b,xs=[.ref a,v]/\H a=GS (.ext (ju a (.ref C)))/\v7 K C/\((∃T,v= .ty T/\c= .type T)\/∃C2,v= .ref C2/\c= .ref C2)/\OZ K (.ref C) c=GS b/\Q (.bl b) H
theorem wR:cJ X (.builtin "isinstance") (Li X.K):=by
 intro V_ s σ H xs us Q I rv h;obtain⟨a,C,v,c,b,rfl,ea,k,hc,e,q⟩:=h;obtain⟨u,w',rfl,ru,ZI⟩:=zg rv;cases (show u=Of a from ru);obtain⟨⟨o,g1,g2⟩,_⟩:=(show bg X.prog X.w H s.heap a (.ext (ju a (.ref C)))from I.hok a _ ea);have ew:w'=c:=by
  rcases hc with ⟨T,rfl,rfl⟩|⟨C2,rfl,rfl⟩
  ·exact ZI
  ·exact ZI
 subst ew;exact P1 (CA k) I.kIn ⟨o,g1,g2⟩ e (λz=>nomatch z) λtk=>⟨.bl b,H,I.tok tk,rfl,q⟩
theorem b_.exc {K:ND} {H F:Hp} {v:V} {x:NG} (s:aB F H):b_ K H F v (.exc x)->∃a C,v= .ref a/\H a=GS (.ext (ju a (.ref C)))/\O0 K NU x=GS (GS (.ref C)):=λh=>by
 obtain⟨a,C,e,h,n⟩:=h.in rfl;exact⟨a,C,e,s _ _ h,n⟩
theorem Du {c:cF ly} {tv:V} {cv:NF} (T:qe K cv tb) (hv:(∃T,tv= .ty T/\cv= .type T)\/∃C2,tv= .ref C2/\cv= .ref C2) (h:tQ K c (t9 tb fa) σ H Q): tB' K c fa σ H λv H1=>Li K [v,tv] H1 Q:=by
 obtain⟨F,ρ,ri,w⟩:=h;refine⟨F,ρ,ri,(aw.bind.mp w).imp λd _ w1 v H1 F1 e1 r1=> ?_⟩;cases d with
 |exc x=>
  obtain⟨d',hd,k⟩:=w1.of;cases ht:tb x with
  |none=>rw[ht]at hd;cases hd
  |some b=>
   rw[ht]at hd;cases hd;obtain⟨a,C,rfl,h1,h2⟩:=r1.exc e1.sub;obtain⟨g1,C',g2,g3⟩:=T.ok x b (.ref C) ht ⟨C,rfl,h2⟩;cases g2;exact⟨a,C,tv,cv,b,rfl,h1,g3,hv,g1,k _ H1 F1 e1 (.bl b)⟩
 |_=>exact w1.elim
theorem Lj {C2:NH} (T:qe X.K (.ref C2) tb) (hm:X.mg x=GS (.ref C2)) (a0i:X.mg "isinstance"=JT) (ha:PB ly X a fa) (a1p:Gl X "isinstance":=by rfl) (hg:Gl X x:=by rfl) (WL:(x==("__debug__":NG))=false:=by decide) (he:NL [a, .Name x p2] X.env=(false,O8 a X.env)::NL [.Name x p2] X.env:=by rfl) (a09:NL [.Name x p2] X.env=(false,O8 (.Name x p2) X.env)::NL [] X.env:=by rfl) (WA:(Om pos (NL [.Name x p2] X.env)).any (·.1)=false:=by rfl): PQ ly X (.Call (.Name "isinstance" p) [a, .Name x p2] [] pos) (t9 tb fa):=⟨λc=>
 PE.weak (oi wR a1p a0i rm (cU (ha c) (cU (yW hg hm (v:= .ref C2) rfl WL) gX a09) he) (by decide) (by decide) he WA) λσ H Q h=>Du T (.inr ⟨C2,rfl,rfl⟩) h⟩
theorem Ja {Ty:String} (T:qe X.K (.type Ty) tb) (hv:Ot x=GS (.type Ty)) (hm:X.mg x=JT) (a0i:X.mg "isinstance"=JT) (ha:PB ly X a fa) (a1p:Gl X "isinstance":=by rfl) (hg:Gl X x:=by rfl) (hn:x≠"__name__":=by decide) (WL:(x==("__debug__":NG))=false:=by decide) (he:NL [a, .Name x p2] X.env=(false,O8 a X.env)::NL [.Name x p2] X.env:=by rfl) (a09:NL [.Name x p2] X.env=(false,O8 (.Name x p2) X.env)::NL [] X.env:=by rfl) (WA:(Om pos (NL [.Name x p2] X.env)).any (·.1)=false:=by rfl): PQ ly X (.Call (.Name "isinstance" p) [a, .Name x p2] [] pos) (t9 tb fa):=⟨λc=>
 PE.weak (oi wR a1p a0i rm (cU (ha c) (cU (yX (v:= .ty Ty) hg hm hv rfl hn WL) gX a09) he) (by decide) (by decide) he WA) λσ H Q h=>Du T (.inl ⟨Ty,rfl,rfl⟩) h⟩
end
def tf:D->Option Int
 | .tup (.int k::_)=>GS k
 |_=>JT
def gm (d:D):Int:=(tf d).getD 0
def dQ:List D->Option (List Int)
 |[]=>GS []
 |d::r=>(tf d).bind λk=>(dQ r).map (k::·)
def yv (d:D):List D->List D
 |[]=>[d]
 |e::r=>if gm d<=gm e then d::e::r else e::yv d r
def mZ:List D->List D
 |[]=>[]
 |d::r=>yv d (mZ r)
theorem pJ (d:D):∀l:List D,(yv d l).Perm (d::l)
 |[]=> .refl _
 |e::r=>by
  unfold yv;split
  ·exact .refl _
  ·exact((pJ d r).cons e).trans (.swap d e r)
theorem rR:∀l:List D,(mZ l).Perm l
 |[]=> .refl _
 |d::r=>(pJ d _).trans ((rR r).cons d)
theorem qf (d:D):∀{l:List D},l.Pairwise (λa b=>gm a<=gm b)->(yv d l).Pairwise (λa b=>gm a<=gm b)
 |[],_=>by simp[yv]
 |e::r,h=>by
  obtain⟨h1,h2⟩:=P4.mp h;unfold yv;split
  ·rename_i hd
   refine P4.mpr ⟨λx hx=> ?_,h⟩;rcases NW.mp hx with rfl|hx
   ·exact hd
   ·exact Q4 hd (h1 x hx)
  ·rename_i hd
   refine P4.mpr ⟨λx hx=> ?_,qf d h2⟩;rcases NW.mp ((pJ d r).mem_iff.mp hx)with rfl|hx
   ·omega
   ·exact h1 x hx
theorem oM:∀l:List D,(mZ l).Pairwise (λa b=>gm a<=gm b)
 |[]=> .nil
 |d::r=>qf d (oM r)
theorem qg:∀{l m:List D},l.Perm m->l.Pairwise (λa b=>gm a<gm b)->m.Pairwise (λa b=>gm a<gm b)->l=m
 |[],m,p,_,_=>(Vh p)
 |a::l,[],p,_,_=>absurd p.length_eq (by simp)
 |a::l,b::m,p,h1,h2=>by
  obtain⟨g1,g2⟩:=P4.mp h1;obtain⟨k1,k2⟩:=P4.mp h2;have e:a=b:=by
   have ha:a∈b::m:=p.mem_iff.mp NZ;have hb:b∈a::l:=p.mem_iff.mpr NZ;rcases NW.mp ha with z|ha
   ·exact z
   ·rcases NW.mp hb with z|hb
    ·exact z.symm
    ·have:=g1 b hb
     have:=k1 a ha;omega
  subst e;rw[qg (p.cons_inv) g2 k2]
theorem B1 {l:List D} (h:l.Pairwise (λa b=>gm a<=gm b)) (nd:(l.map gm).Nodup):l.Pairwise (λa b=>gm a<gm b):=by
 have:=P9.mp nd;exact(h.and this).imp λ{x y} ⟨a,b⟩=>by omega
theorem wU {l m:List D} (p:l.Perm m) (h:m.Pairwise (λa b=>gm a<gm b)):mZ l=m:=by
 have q:=(rR l).trans p;refine qg q (B1 (oM l) ?_) h;refine(q.map gm).nodup_iff.mpr (P9.mpr (h.imp λz=>Int.ne_of_lt z))
theorem qh:∀{ds:List D} {ks:List Int},dQ ds=GS ks->ks=ds.map gm
 |[],ks,h=>by cases h;rfl
 |d::r,ks,h=>by
  replace h:((tf d).bind λk=>(dQ r).map (k::·))=GS ks:=h
  cases e:tf d with
  |none=>rw[e]at h;cases h
  |some k=>
   rw[e]at h;cases e2:dQ r with
   |none=>rw[e2]at h;cases h
   |some q=>
    rw[e2]at h;cases h;rw[NP,<-qh e2];simp[gm,e]
theorem FX (s:aB F H):∀{ds:List D} {ks:List Int} {vs:List V},dQ ds=GS ks->Reps K F vs ds->jV H vs ks:=by
 intro ds
 induction ds with
 |nil=>intro ks vs h r;cases r.nilI;cases h;exact .nil
 |cons d r ih=>
  intro ks vs h rr
  replace h:((tf d).bind λk=>(dQ r).map (k::·))=GS ks:=h
  obtain⟨v0,us,rfl,rv,t⟩:=rr.consI;obtain⟨k,ds,rfl⟩:∃k ds,d= .tup (.int k::ds):=by
   cases d with
   |tup xs=>
    cases xs with
    |nil=>cases h
    |cons x xs=>
     cases x with
     |int k=>exact⟨k,xs,rfl⟩
     |_=>cases h
   |_=>cases h
  obtain⟨a0,xs,rfl,h1,r2⟩:=rv.tupI;obtain⟨k1,a5B,rfl,rk,t1⟩:=r2.consI;cases rk.intI
  ·cases e2:dQ r with
   |none=>rw[e2]at h;cases h
   |some q=>
    rw[e2]at h;cases h;exact .cons (s _ _ h1) (ih e2 t)
theorem uo {K:ND} {F:Hp} {vs:List V} {ds:List D} (h:Reps K F vs ds):∀q:List Nat,(∀i∈q,i<ds.length)->Reps K F (q.map λi=>vs.getD i .non) (q.map λi=>ds.getD i .non)
 |[],_=> .nil
 |i::q,hq=>by
  have hi:=hq i NZ;obtain⟨v,h1,h2⟩:=h.get (i:=i) (d:=ds[i]) (O5 hi);refine .cons ?_ (uo h q λj hj=>hq j (O1 _ hj));show cD K F (vs.getD i .non) (ds.getD i .non);rw[OD,OD,h1,O5 hi];exact h2
theorem wV {ds:List D} {q:List Nat} (p:rD (ds.map gm) q):(q.map λi=>ds.getD i .non)=mZ ds:=by
 obtain⟨p1,p2⟩:=p;rw[NK]at p1;have hm:∀i∈q,i<ds.length:=λi hi=>OO.mp (p1.mem_iff.mp hi);have perm:(q.map λi=>ds.getD i .non).Perm ds:=by
  refine(p1.map λi=>ds.getD i .non).trans ?_;have e:(Ov ds.length).map (λi=>ds.getD i .non)=ds:=by
   refine Tc (by simp) λi h1 h2=> ?_;simp[h2]
  rw[e]
 symm
 refine wU perm.symm ?_;rw[P9]at p2 ⊢;refine p2.imp_of_mem λ{a b} ha hb z=> ?_;have ea:(ds.map gm).getD a 0=gm (ds.getD a .non):=by simp[hm a ha]
 have eb:(ds.map gm).getD b 0=gm (ds.getD b .non):=by simp[hm b hb]
 rw[ea,eb]at z;exact z
def oN:List D->Option D
 |[.lst ds]=>(dQ ds).bind λks=>if ks.Nodup/\ks.length<64 then GS (.lst (mZ ds))else JT
 |[.tup ds]=>(dQ ds).bind λks=>if ks.Nodup/\ks.length<64 then GS (.lst (mZ ds))else JT
 |_=>JT
def oO:List V->Hp->VK->Prop:=λxs H Q=>∃p ys ks,xs=[.ref p]/\(H p=GS (.lst ys)\/H p=GS (.tup ys))/\jV H ys ks/\ks.Nodup/\ks.length<64/\∀l q,H l=JT->rD ks q->Q (.ref l) (aS H l (.lst (q.map λi=>ys.getD i .non)))
theorem rS {p:NH} {ys:List V} {ds:List D} {d:D} (s:aB F H) (hp:H p=GS (.lst ys)\/H p=GS (.tup ys)) (r:Reps K F ys ds) (h:((dQ ds).bind λks=>if ks.Nodup/\ks.length<64 then GS (D.lst (mZ ds))else JT)=GS d) (k:∀w H' F',b8 H F H' F'->cD K F' w d->Q w H'):oO [.ref p] H Q:=by
 cases e:dQ ds with
 |none=>rw[e]at h;cases h
 |some ks=>
  rw[e]at h
  replace h:(if ks.Nodup/\ks.length<64 then GS (D.lst (mZ ds))else JT)=GS d:=h
  split at h
  ·rename_i hk
   cases h;refine⟨p,ys,ks,rfl,hp,FX s e r,hk.1,hk.2,λl q hl pl=> ?_⟩;have ek:=qh e;subst ek;have e2:=b8.lay (o:= .lst (q.map λi=>ys.getD i .non)) s hl;refine k _ _ _ e2 (.lst ar ?_);rw[<-wV pl];refine(uo r q λi hi=> ?_).mono e2.grow;have:=OO.mp (pl.1.mem_iff.mp hi);simpa using this
  ·cases h
theorem wW:kY K oO oN:=by
 intro vs ds d H F Q s rv h k
 match ds,h with
 |[.lst xs],h=>
  obtain⟨v,rfl,r⟩:=rv.one;obtain⟨a,ws,rfl,h1,h2⟩:=r.lst s;exact rS s (.inl h1) h2 h k
 |[.tup xs],h=>
  obtain⟨v,rfl,r⟩:=rv.one;obtain⟨a,ws,rfl,h1,h2⟩:=r.tup s;exact rS s (.inr h1) h2 h k
def fH (ds:List D):Option D:=match iu ds with
 |some d=>GS d
 |none=>oN ds
theorem kb (hc:X.calm=true):cJ X (.builtin "sorted") (λxs H Q=>oJ X.K xs H Q\/oO xs H Q):=(vm hc).or v5
theorem lr:kY K (λxs H Q=>oJ K xs H Q\/oO xs H Q) fH:=by
 intro vs ds d H F Q s rv h k;unfold fH at h;cases e:iu ds with
 |some d'=>rw[e]at h;cases h;exact .inl (wN vs ds d H F Q s rv e k)
 |none=>rw[e]at h;exact .inr (wW vs ds d H F Q s rv h k)
def tN (K:ND) (c:cF ly) (f:aa->R D):TE:=λσ H Q=>∃F ρ,RI K c ρ σ H F/\aw c (f ρ) λd=>∀a o H' F',b8 H F H' F'->H a=JT->H' a=GS o->F' a=JT->im K F' o d->Q (.ref a) H'
def PN (ly:List cR) (X:Cx) (e:NS) (f:aa->R D):Prop:=∀c:eG ly X,PE X e (tN X.K c.1 f)
def Hl (K:ND) (r:R2) (g:D->D->Option D):Prop:=∀v u x y d H F Q,aB F H->b_ K H F v x->b_ K H F u y->g x y=GS d->(∀a o,H a=JT->im K F o d->Q (.ref a) (aS H a o))->r v u H Q
section
variable {X:Cx} {a b e:NS} {es:List NS} {fa fb f:aa->R D} {fs:aa->R (List D)} {pos p:Ox} {x:NG} {id T:String} {rc:List V->Hp->VK->Prop}
theorem zK {d:D} (e1:b8 H F H1 F1) (k:∀a o H' F',b8 H F H' F'->H a=JT->H' a=GS o->F' a=JT->im K F' o d->Q (.ref a) H'):∀a o,H1 a=JT->im K F1 o d->Q (.ref a) (aS H1 a o):=
 λa o ha r=>k a o (aS H1 a o) F1 (e1.trans (b8.layOwn e1.sub ha)) (e1.keep.free ha) ar (e1.sub.free ha) r
theorem Lk {op:Operator} {r:R2} {g:D->D->Option D} (ho:kU X (Q1 op) r) (Z8:Hl X.K r g) (ha:PB ly X a fa) (hb:PB ly X b fb):PN ly X (.BinOp a op b pos) (f2 g fa fb):=λc=>
 PE.weak (GN ho (ha c) (hb c)) λσ H Q ⟨F,ρ,ri,w⟩=>⟨F,ρ,ri,(aw.bind.mp w).imp λx hx w1 v H1 F1 e1 r1=>⟨F1,ρ,ri.step e1,(aw.bind.mp w1).imp λy hy w2 u H2 F2 e2 r2=>by
  obtain⟨d,hd,k⟩:=w2.of;exact Z8 v u x y d H2 F2 Q (e1.trans e2).sub (r1.mono e2) r2 hd (zK (e1.trans e2) k)⟩⟩
def uq (i:Nat) (f:aa->R D):aa->R aF:=λρ=>f ρ>>=λd=> .ok (.nx (ρ.set i (GS (.own d))))
theorem Jb (i:Nat) {x:NG} {We:Ox} (hN:X.N.Nodup) (h:PN ly X e f) (hi:X.N[i]? =GS x:=by rfl) (hx:yV X.env.scope x:=by first|exact OG rfl|exact Oj rfl) (hs:ON e (GS (.Name x We)) pos.line X.env=pure false:=by rfl) (hf:X.fn x=true\/X.env.scope.names.lookup x=GS .local:=by first|exact .inl rfl|exact .inr rfl|assumption) (WM:jW ly i:=by(repeat (first|assumption|exact L2.Pu.dB|refine L2.Pu.cK ⟨by first|decide|simp,by first|decide|simp⟩ ?_))):e_ ly X (.Assign [.Name x We] e pos) (uq i f):=⟨λc=>
 PS.weak (nq hN hi hx (h c) hs hf) λD σ H ⟨F,ρ,ri,w⟩=>⟨F,ρ,ri,(aw.bind.mp w).imp λd _ w1 a o H1 F1 e1 n1 h1 f1 r1=>by
  refine w1 _ H1 F1 e1.grow ((ri.step e1).setOwn i WM h1 f1 (ri.ext.keep.free n1) r1 (λj d' _ hj ej=> ?_) (ri.celNe e1.keep n1));obtain⟨b,o',k1,k2,_⟩:=ri.own j d' hj;rw[ej]at k1;cases k1;rw[n1]at k2;cases k2⟩⟩
end
section
variable {K:ND}
def ur:D->D->Option D
 | .lst a, .int k=>if k.natAbs<=lim/\a.length*k.toNat<=lim then GS (.lst (Oa k.toNat a).flatten)else JT
 |_,_=>JT
theorem Dv:Hl K CV ur:=by
 intro v u x y d H F Q s rx ry h k;unfold ur at h;split at h
 ·rename_i a j
  split at h
  ·rename_i hl
   cases h;cases ry.int;obtain⟨p,vs,rfl,h1,h2⟩:=rx.lst s;refine .inr ⟨p,j,vs,rfl,rfl,h1,by have:=gH hl.1;omega,by have:=gH hl.1;omega,Ou (by rw[h2.length];exact hl.2) fE,λl Z6=> ?_⟩;exact k _ _ Z6 (.lst (h2.rep _))
  ·cases h
 ·cases h
end
structure c9 (K:ND) (cls m qual:NG) (st:Ob) (ps:List NG):Prop where
 ex:∃C f fd,zq K m qual st f fd/\j6 K cls C/\xL K C m f/\eZ K fd ps []
structure pK (K:ND) (mg:NG->Option NF) (cls qual:NG) (st:Ob) (ps:List NG) (fs:List NG):Prop where
 ex:∃C f fd,zq K "__init__" qual st f fd/\j6 K cls C/\mg cls=GS (.ref C)/\Mk K C f/\eZ K fd ps []/\∀x∈fs,dq K C x
structure kN (K:ND) (cls:NG) (fs:List NG):Prop where
 ex:∃C,j6 K cls C/\∀x∈fs,dq K C x
section
variable {P:NM} {w:NV} {K:ND} {mg:NG->Option NF} {base:NT}
theorem cm {mm:NG} {k m:Nat} {g:aa->R aF} (A:c9 K cls mm qual st ps) (S:aL N ps (ao st)) (hn:ps.length=n) (hm:N.length=m) (Wg:∀(f:NH) (W2:NF) (A:Oc) (outer:List Pw) (s:NI) (H:Hp) (E:XK),br k (A.deeper (PY qual (ao st) s.heap.objs.size f W2))-> gY [] (ik (kX P w) P w K mg base N qual (ao st) f W2 A outer s H E) (aQ st) g):eO P w K mg base (k+1) cls mm n (aG n m g):=by
 obtain⟨C,f,fd,F,h1,h2,h3⟩:=A.ex;exact⟨C,f,fd,ps,IM F S hn hm λW2 A outer s H E hr=>Wg f W2 A outer s H E hr,h1,h2,h3⟩
theorem ut {fs:List NG} {k m:Nat} {fl:List (NG×Nat)} {g:aa->R aF} (A:pK K mg cls qual st ps fs) (S:aL N ps (ao st)) (hn:ps.length=n+1) (hm:N.length=m+1) (hg:∀p∈fl,n<p.2) (ZO:n<=m) (Wg:∀(C f:NH) (W2:NF) (A:Oc) (outer:List Pw) (s:NI) (H:Hp) (E:XK),we K C->(∀x∈fs,dq K C x)->br k (A.deeper (PY qual (ao st) s.heap.objs.size f W2))-> gY [⟨0,C,fl⟩] (ik (kX P w) P w K mg base N qual (ao st) f W2 A outer s H E) (aQ st) g):nL P w K mg base (k+1) cls n (mC n m fl g):=by
 obtain⟨C,f,fd,F,h1,h2,h3,h4,h5⟩:=A.ex;exact⟨C,f,fd,ps,FW F S h1.ns hn hm hg ZO λW2 A outer s H E hr=>Wg C f W2 A outer s H E h1.cl h5 hr,h2,h3,h4⟩
theorem iw {fl:List (NG×Nat)} {f:NG} {i:Nat} (h1:(f,i)∈fl) (h2:∀p∈fl,p.1=f<->p.2=i) (h3:0≠i) (h4:fl.length<1000):Dn [⟨0,C,fl⟩] ⟨0,C,fl⟩ f i:=
 ⟨NZ,h1,h2,h3,λM hM WK=>absurd (N_.mp hM) WK,h4⟩
theorem FY (e1:Pb K C yf "ValueError.__new__"=true) (e2:O4 K (.ref C) "__getattribute__"=GS (GS (.builtin "BaseException.__getattribute__"))) (e3:O4 K (.ref C) "__getattr__"=GS JT) (e4:O4 K (.ref C) "__class__"=GS (GS (.builtin "object.__class__"))) (e5:OB K C (.type "object")=GS true) (e6:OB K C (.type "BaseException")=GS true) (e7:QP K (.ref C) (.ref C)=GS true) (e8:QL K (.builtin "object.__class__") "__get__"=GS (GS (.builtin "getset_descriptor.__get__"))) (e9:R4 K (.builtin "object.__class__")=GS true):v7 K C:=
 ⟨⟨_,_,_,_,e1,F.excBase_ValueError,by decide⟩,e2,e3,e4,e8,e9,e5,e6,e7⟩
theorem yw {D:NH} {a1u:String} (e:Pb K D a0u a1u=true):((VN K D).isSome&&TQ K (.ref D)==GS (.type "type"))=true:=by
 unfold Pb at e;split at e
 ·rename_i lk
  unfold VN TQ;simp only[lk]
  rfl
 ·cases e
theorem pL {D:NH} {b:Bool} {a1u:String} (e:Pb K D a0u a1u=true) (m:OB K C (.ref D)=GS b):QP K (.ref C) (.ref D)=GS b:=by
 unfold QP;dsimp only;rw[if_pos (yw e)];exact m
theorem B2 {D:NH} {b:Bool} {a1u:String} (e:Pb K D a0u a1u=true) (m:OB K C (.ref D)=GS b) (s:OB K C (.ref C)=GS true):OZ K (.ref C) (.ref D)=GS b:=by
 unfold OZ;split
 ·rename_i h
  have ez:Of C=Of D:=eq_of_beq h;cases ez;exact s.symm.trans m
 ·exact pL e m
theorem qy:VA "ValueError"=true:=by unfold VA;decide+kernel
theorem B3 {b:Bool} (m:OB K C (.type "ValueError")=GS b):OZ K (.ref C) (.type "ValueError")=GS b:=by
 unfold OZ;rw[if_neg (by intro h;exact absurd (eq_of_beq h) (λz=>by cases z))];unfold QP;dsimp only;rw[if_pos qy];exact m
theorem B4 {D:NH} {b:Bool} {a1u:String} (e:Pb K D a0u a1u=true) (m:OB K C (.ref D)=GS b) (mb:OB K D (.type "BaseException")=GS true):QQ K (.ref C) (.ref D)=GS b:=by
 unfold QQ;rw[if_pos (by show (OB K D (.type "BaseException")==GS true)=true;rw[mb];rfl)];exact pL e m
def yx (xs:List NG) (x:NG):Bool:=xs.contains x
theorem Dw {cx:NG} {xs:List NG} (hm:mg cx=GS (.ref C)) (h:∀x∈xs,∃Ce,O0 K NU x=GS (GS (.ref Ce))/\QQ K (.ref Ce) (.ref C)=GS true):wQ K mg cx (yx xs):=by
 refine⟨C,hm,λx cls hx ⟨C',e,hc⟩=> ?_⟩;obtain⟨Ce,h1,h2⟩:=h x (by simpa[yx]using hx);rw[hc]at h1;cases h1;rw[e];exact h2
def Dx (l:List (NG×Bool)) (x:NG):Option Bool:=l.lookup x
theorem uu {α:Type} {x:NG} {b:α}:∀{l:List (NG×α)},l.lookup x=GS b->(x,b)∈l
 |(k,v)::r,h=>by
  rw[P5]at h;cases e:x==k with
  |true=>rw[e]at h;cases h;cases eq_of_beq e;exact NZ
  |false=>rw[e]at h;exact O1 _ (uu h)
theorem wX {v:NF} {l:List (NG×Bool)} (h:∀p∈l,∃Ce,O0 K NU p.1=GS (GS (.ref Ce))/\OZ K (.ref Ce) v=GS p.2/\v7 K Ce):qe K v (Dx l):=by
 refine⟨λx b cls hb ⟨C',e,hc⟩=> ?_⟩;obtain⟨Ce,h1,h2,h3⟩:=h _ (uu hb);rw[hc]at h1;cases h1;subst e;exact⟨h2,C',rfl,h3⟩
structure tj (K:ND) (mg:NG->Option NF) (x:NG) (tb:NG->Option Bool):Prop where
 ex:∃C,mg x=GS (.ref C)/\qe K (.ref C) tb
end
section
variable {X:Cx} {a e o:NS} {es:List NS} {fa f fo:aa->R D} {fs:aa->R (List D)} {cls fld x m:NG} {p p2 pos W8:Ox} {xs:List NG} {tb:NG->Option Bool}
theorem Jc (T:kN X.K cls xs) (hf:fld∈xs) (ha:PB ly X a fa) (hb:OJ a fld X.env (O8 a X.env)=O8 a X.env:=by rfl):PQ ly X (.Attribute a fld pos) (bi cls fld fa):=by
 obtain⟨C,h1,h2⟩:=T.ex;exact Le h1 (h2 fld hf) ha hb
theorem Jd (T:tj X.K X.mg x tb) (a0i:X.mg "isinstance"=JT) (ha:PB ly X a fa) (a1p:Gl X "isinstance":=by rfl) (hg:Gl X x:=by rfl) (WL:(x==("__debug__":NG))=false:=by decide) (he:NL [a, .Name x p2] X.env=(false,O8 a X.env)::NL [.Name x p2] X.env:=by rfl) (a09:NL [.Name x p2] X.env=(false,O8 (.Name x p2) X.env)::NL [] X.env:=by rfl) (WA:(Om pos (NL [.Name x p2] X.env)).any (·.1)=false:=by rfl): PQ ly X (.Call (.Name "isinstance" p) [a, .Name x p2] [] pos) (t9 tb fa):=by
 obtain⟨C,h1,h2⟩:=T.ex;exact Lj h2 h1 a0i ha a1p hg WL he a09 WA
def f8 (f:aa->R D):aa->R aF:=λρ=>f ρ>>=λ_=> .ok (.nx ρ)
theorem Je (h:PQ ly X e f) (Yg:ON e JT pos.line X.env=pure false:=by rfl):e_ ly X (.Expr e pos) (f8 f):=⟨λc=>
 PS.weak (og (h c) Yg) λD σ H ⟨F,ρ,ri,w⟩=>⟨F,ρ,ri,(aw.bind.mp w).imp λd _ w1 v H1 F1 e1 r1=>w1 σ H1 F1 e1.grow (ri.step e1)⟩⟩
end
theorem Jf {s s':NI} {e:NF} (h:kX P w outer H s (λ_ _ _=>False) e s'):False:=by
 obtain⟨_,_,_,_,_,_,_,_,_,z⟩:=h;exact z
theorem qz:Ot "ValueError"=GS (.type "ValueError"):=by decide+kernel
theorem RI.up {c:cF ly} (r:RI K c ρ σ H F) (e:aB H H'):RI K c ρ σ H' F:=r.step ⟨r.sub.trans e,e,aB.refl _,λ_ h=> .inl h⟩
def pM:D->Bool
 | .non=>true
 | .bl _=>true
 | .int _=>true
 | .str _=>true
 |_=>false
theorem Dy {d:D} (h:pM d=true) (r:cD K F v d):cD K F' v d:=by
 cases r with
 |non=>exact .non
 |bl b=>exact .bl b
 |int i=>exact .int i
 |str x=>exact .str x
 |_=>cases h
theorem B5 {vs:List V} {ds:List D} (h:ds.all pM=true) (g:Reps K F vs ds):Reps K F' vs ds:=by
 induction ds generalizing vs with
 |nil=>rw[g.nilI];exact .nil
 |cons d ds ih=>
  obtain⟨w,us,e0,r,t⟩:=g.consI;rw[Pn,OX]at h;rw[e0];exact .cons (Dy h.1 r) (ih h.2 t)
section
variable {X:Cx} {e:NS} {es:List NS} {f:aa->R D} {g:aa->R Bool} {pos:Ox}
theorem Dz (s:aB F H) (e:aB H H'):b8 H F H' F:=⟨s.trans e,e,aB.refl _,λ_ h=> .inl h⟩
def zL (L:List Nat) (f:aa->R D) (n:Nat) (gs:List D->aa->R aa):aa->R aF:=λρ=>f (frz L ρ)>>=λd=>match d with
 | .lst ds=>if ds.length=n/\ds.all pM=true then (gs ds ρ>>=λρ'=> .ok (.nx ρ'))else .bad
 | .tup ds=>if ds.length=n/\ds.all pM=true then (gs ds ρ>>=λρ'=> .ok (.nx ρ'))else .bad
 |_=> .bad
theorem Jg (L:List Nat) {k n:Nat} {pt:Ox} {gs:List D->aa->R aa} (hc:X.calm=true) (he:PQ ly X e f) (h:AQ ly X es gs) (hn:(OV es X.env).length=n:=by rfl) (W_:(OV es X.env).findIdx? (·.1)=JT:=by rfl) (hs:Sh [.Tuple es k pt] e pos.line X.env=pure false:=by rfl) (hw:Si [.Tuple es k pt] e X.env=pure JT:=by rfl) (h1:(OV [.Tuple es k pt] X.env).map (·.2)=[Qu (.Tuple es k pt) X.env]:=by rfl):e_ ly X (.Assign [.Tuple es k pt] e pos) (zL L f n gs):=⟨λc=>
 PS.weak (xG (he c) (PG.or (BW hc (h c) hn W_) (Ct hc (h c) hn W_)) hs hw h1) λD σ H ⟨F,ρ,ri,w⟩=>by
  obtain⟨F',s,Xq⟩:=ri.frz L;refine⟨F',_,Xq,(aw.bind.mp w).imp λd _ w1 v H1 F1 e1 r1=> ?_⟩;have W3:∀{ds:List L2.Pu.D} {vs:List V},Reps X.K F1 vs ds->aw c.1 (if ds.length=n/\ds.all pM=true then (gs ds ρ>>=λρ'=>R.ok (aF.nx ρ'))else .bad) (gP X.K c.1 F D)->
    vs.length=n/\N5 X.K c.1 gs vs σ H1 (λσ' H'=>D.nx σ' H'):=by
   intro ds vs r2 w2;split at w2
   ·rename_i hl
    refine⟨by rw[r2.length];exact hl.1,F,ρ,ds,ri.up e1.keep,B5 hl.2 r2,(aw.bind.mp w2).imp λρ' _ w3 σ' H' F2 s2 r'=>w3 σ' H' F2 s2 r'⟩
   ·exact w2.elim
  cases r1 with
  | @tup a vs ds g1 g2=>
   obtain⟨k1,k2⟩:=W3 g2 w1;exact .inl ⟨a,vs,rfl,gf.of (e1.sub _ _ g1),k1,k2⟩
  | @lst a vs ds g1 g2=>
   obtain⟨k1,k2⟩:=W3 g2 w1;exact .inr ⟨a,vs,rfl,cP.of (e1.sub _ _ g1),k1,k2⟩
  |_=>exact w1.elim⟩
end
section
variable {X:Cx} {e:NS} {f:aa->R D} {pos:Ox}
end
end L2.Pu
namespace L2
theorem aC.getR {xs:List V} (r:aC xs us):∀(j:Nat) (h:j<us.length),aY (xs.getD j .non) us[j]:=by
 induction r with
 |nil=>intro j h;cases h
 |cons r t ih=>
  intro j h;cases j with
  |zero=>exact r
  |succ j=>exact ih j (by simpa using h)
section
variable {X:Cx} {tg:NS}
end
end L2
namespace L2.Pu
variable {ly:List cR}
section
variable {X:Cx} {a b d:NS} {fs:aa->R (List D)} {pos:Ox}
end
end L2.Pu
namespace L2
end L2
namespace L2.Pu
variable {ly:List cR}
section
variable {α:Type} {P:List α->Prop}
theorem N8 (h:P []):∀us:List α,us.length=0->P us:=λus e=>by
 rw[Rr.mp e];exact h
theorem Ll (h:∀a us,us.length=n->P (a::us)):∀us:List α,us.length=n+1->P us:=λus e=>by
 cases us with
 |nil=>cases e
 |cons a us=>exact h a us (Nat.succ.inj e)
theorem N9 (h:∀a,P [a]):∀us:List α,us.length=1->P us:=Ll λa=>N8 (P:=λus=>P (a::us)) (h a)
theorem LW (h:∀a b,P [a,b]):∀us:List α,us.length=2->P us:=Ll λa=>N9 (P:=λus=>P (a::us)) (h a)
theorem Na (h:∀a b c,P [a,b,c]):∀us:List α,us.length=3->P us:=Ll λa=>LW (P:=λus=>P (a::us)) (h a)
theorem Nb (h:∀a b c d,P [a,b,c,d]):∀us:List α,us.length=4->P us:=Ll λa=>Na (P:=λus=>P (a::us)) (h a)
theorem Nx (h:∀a b c d e,P [a,b,c,d,e]):∀us:List α,us.length=5->P us:=Ll λa=>Nb (P:=λus=>P (a::us)) (h a)
end
end L2.Pu
namespace L2
end L2
namespace L2.Pu
variable {ly:List cR}
def Slot.kind:Slot->Nat
 | .own _=>1
 | .cel .. =>2
 |_=>0
def cH (ρ:aa):List Nat->Option (List Slot)
 |[]=>GS []
 |i::r=>match ρ[i]? with
  |some (GS s)=>(cH ρ r).map λt=>s::t
  |_=>JT
def vo (ρ:aa):List Nat->List Slot->aa
 |i::is,s::ss=>vo (ρ.set i (GS s)) is ss
 |_,_=>ρ
theorem wY:∀(is:List Nat) (ss:List Slot) (ρ:aa),(vo ρ is ss).length=ρ.length
 |[],ss,ρ=>by cases ss<;>rfl
 |i::is,[],ρ=>rfl
 |i::is,s::ss,ρ=>by
  show (vo (ρ.set i (GS s)) is ss).length=_;rw[wY is ss];simp
theorem wZ:∀{is:List Nat} {ss:List Slot} {ρ:aa} {j:Nat} {s:Slot},is.Nodup->ss.length=is.length->(vo ρ is ss)[j]? =GS (GS s)->(∃k:Nat,is[k]? =GS j/\ss[k]? =GS s)\/(j∉is/\ρ[j]? =GS (GS s))
 |[],ss,ρ,j,s,_,_,h=>by
  refine .inr ⟨by simp,?_⟩;cases ss<;>exact h
 |i::is,[],ρ,j,s,_,hl,h=>by simp at hl
 |i::is,t::ss,ρ,j,s,nd,hl,h=>by
  obtain⟨n1,n2⟩:=QG.mp nd;rcases wZ (ρ:=ρ.set i (GS t)) n2 (by simpa using hl) h with ⟨k,h1,h2⟩|⟨h1,h2⟩
  ·exact .inl ⟨k+1,h1,h2⟩
  ·rcases aq h2 with ⟨rfl,z,_⟩|⟨z,h2⟩
   ·cases z;exact .inl ⟨0,rfl,rfl⟩
   ·exact .inr ⟨λm=>(NW.mp m).elim (λq=>z q.symm) h1,h2⟩
inductive At (ρ:aa) (σ:St):List Nat->List Slot->List NH->Prop
 |nil:At ρ σ [] [] []
 |cons {i:Nat} {s:Slot} {a:NH} {is:List Nat} {ss:List Slot} {as:List NH}:ρ[i]? =GS (GS s)->s.kind≠0->σ[i]? =GS (GS (.ref a))->At ρ σ is ss as->At ρ σ (i::is) (s::ss) (a::as)
theorem At.idx {ss:List Slot} (h:At ρ σ is ss as):∀{k i:Nat},is[k]? =GS i->∃s a,ss[k]? =GS s/\as[k]? =GS a/\ρ[i]? =GS (GS s)/\s.kind≠0/\σ[i]? =GS (GS (.ref a)):=by
 induction h with
 |nil=>intro k i e;simp at e
 |cons h1 h2 h3 _ ih=>
  intro k i e;cases k with
  |zero=>cases e;exact⟨_,_,rfl,rfl,h1,h2,h3⟩
  |succ k=>exact ih e
theorem At.lens {ss:List Slot} (h:At ρ σ is ss as):ss.length=is.length/\as.length=is.length:=by
 induction h with
 |nil=>exact⟨rfl,rfl⟩
 |cons _ _ _ _ ih=>exact⟨by simp[ih.1],by simp[ih.2]⟩
theorem At.get {ss:List Slot} (h:At ρ σ is ss as) {k:Nat} {s:Slot} (e:ss[k]? =GS s):∃i a,is[k]? =GS i/\as[k]? =GS a/\ρ[i]? =GS (GS s)/\s.kind≠0/\σ[i]? =GS (GS (.ref a)):=by
 have hk:k<is.length:=by rw[<-h.lens.1];exact(O6.mp e).1
 obtain⟨s',a,h1,h2,h3⟩:=h.idx (k:=k) (i:=is[k]) (by simp[hk]);rw[e]at h1;cases h1;exact⟨is[k],a,by simp[hk],h2,h3⟩
def fj (H:Hp) (ρ:aa) (σ:St) (i:Nat) (z:NH):Prop:= (∃d,ρ[i]? =GS (GS (.own d))/\σ[i]? =GS (GS (.ref z)))\/∃x W5 f hs a C dx fs,ρ[i]? =GS (GS (.cel x W5 f hs))/\σ[i]? =GS (GS (.ref a))/\H a=GS (.ins C dx fs)/\(z=a\/z=dx\/fs.lookup f=GS (.ref z))
open Classical in
noncomputable def ke (H:Hp) (ρ:aa) (σ:St) (is:List Nat):Hp:=λz=>if ∃i∈is,fj H ρ σ i z then JT else H z
theorem lw {i:Nat} (hi:i∈is) (h:fj H ρ σ i z):ke H ρ σ is z=JT:=if_pos ⟨i,hi,h⟩
theorem FZ (h:∀i∈is,¬fj H ρ σ i z):ke H ρ σ is z=H z:=if_neg λ⟨i,hi,o⟩=>h i hi o
theorem uv {u:HO} (h:ke H ρ σ is z=GS u):H z=GS u:=by
 unfold ke at h;split at h
 ·cases h
 ·exact h
section
variable {K:ND} {c:cF ly} {ρ:aa} {σ:St} {H F:Hp} {i j:Nat} {z:NH}
theorem RI.celIn (r:RI K c ρ σ H F) {x:NG} {W5:List (NG×D)} {f:NG} {hs:List D} {a:NH} {C dx:NH} {fs:List (NG×V)} (h1:ρ[i]? =GS (GS (.cel x W5 f hs))) (h2:σ[i]? =GS (GS (.ref a))) (h3:H a=GS (.ins C dx fs)): ∃b,lg K c.H0 H F a dx b x W5 f hs/\fs.lookup f=GS (.ref b)/\∀(j:Nat) d,ρ[j]? =GS (GS (.own d))->σ[j]? ≠GS (GS (.ref b)):=by
 obtain⟨a',a0R,b,k1,k2,k3⟩:=r.cel.ex i x W5 f hs h1;rw[h2]at k1;cases k1;obtain⟨C',Yx,vs,us,g1,g2,g3,g4⟩:=k2.ex;rw[h3]at g1;cases g1;exact⟨b,k2,g3,k3⟩
theorem RI.owns (r:RI K c ρ σ H F) (o:fj H ρ σ i z):c.H0 z=JT/\F z=JT/\∃u,H z=GS u:=by
 rcases o with ⟨d,h1,h2⟩|⟨x,W5,f,hs,a,C,dx,fs,h1,h2,h3,h4⟩
 ·obtain⟨p,u,k1,k2,k3,k4,_⟩:=r.own i d h1
  rw[h2]at k1;cases k1;exact⟨k4,k3,u,k2⟩
 ·obtain⟨b,k1,k2,_⟩:=r.celIn h1 h2 h3
  rcases h4 with rfl|rfl|h4
  ·exact⟨k1.za,k1.fa,_,h3⟩
  ·exact⟨k1.zd,k1.fd,_,k1.own⟩
  ·rw[k2]at h4
   cases h4;obtain⟨C',Yx,vs,us,g1,g2,g3,g4,_⟩:=k1.ex;exact⟨k1.zb,k1.fb,_,g4⟩
theorem RI.owns_inj (r:RI K c ρ σ H F) (o:fj H ρ σ i z) (o':fj H ρ σ j z):i=j:=by
 have oc:∀{i j:Nat},(∃d,ρ[i]? =GS (GS (.own d))/\σ[i]? =GS (GS (.ref z)))->(∃x W5 f hs a C dx fs,ρ[j]? =GS (GS (.cel x W5 f hs))/\σ[j]? =GS (GS (.ref a))/\H a=GS (.ins C dx fs)/\(z=a\/z=dx\/fs.lookup f=GS (.ref z)))->False:=by
  rintro i j ⟨d,h1,h2⟩ ⟨x,W5,f,hs,a,C,dx,fs,k1,k2,k3,k4⟩
  obtain⟨p,u,g1,g2,g3,g4,g5⟩:=r.own i d h1;rw[h2]at g1;cases g1;obtain⟨b,m1,m2,m3⟩:=r.celIn k1 k2 k3;rcases k4 with rfl|rfl|k4
  ·rw[k3]at g2;cases g2;cases g5
  ·rw[m1.own]at g2;cases g2;cases g5
  ·rw[m2]at k4;cases k4;exact m3 i d h1 h2
 rcases o with h|h
 ·rcases o' with k|k
  ·obtain⟨d,h1,h2⟩:=h
   obtain⟨d',k1,k2⟩:=k;exact r.dis i j d d' z h1 k1 h2 k2
  ·exact(oc h k).elim
 ·rcases o' with k|k
  ·exact(oc k h).elim
  ·obtain⟨x,W5,f,hs,a,C,dx,fs,h1,_⟩:=h
   obtain⟨x',ZX,f',Wd,a',C',a0R,Yx,k1,_⟩:=k;exact r.cel.one i j x W5 f hs _ h1 k1 rfl
end
abbrev MC (Hz F:Hp):cF []:=⟨Hz,F,λ_=>JT,λ_ _=>False,λ_=>JT,λ_=>JT⟩
def F_ (K:ND) (Hz F:Hp) (ss:List Slot) (as:List NH) (H' F':Hp):Prop:=RI K (MC Hz F) (ss.map GS) (as.map λa=>GS (.ref a)) H' F'
theorem map_some {α β:Type} {l:List α} {g:α->β} {k:Nat} {b:β} (h:(l.map g)[k]? =GS b):∃a,l[k]? =GS a/\g a=b:=by
 rw[O9]at h;cases e:l[k]? with
 |none=>rw[e]at h;cases h
 |some a=>rw[e]at h;exact⟨a,rfl,by simpa using h⟩
theorem mD {α β:Type} {l:List α} {g:α->β} {k:Nat} {a:α} (h:l[k]? =GS a):(l.map g)[k]? =GS (g a):=by rw[O9,h];rfl
theorem DA (nd:is.Nodup) {k k' i:Nat} (h:is[k]? =GS i) (h':is[k']? =GS i):k=k':=by
 obtain⟨l,e⟩:=O6.mp h;obtain⟨l',e'⟩:=O6.mp h';exact(SQ nd).mp (e.trans e'.symm)
section
variable {K:ND} {c:cF ly} {ρ:aa} {σ:St} {H F H' F':Hp} {is:List Nat} {ss ss':List Slot} {as:List NH}
theorem RI.split (r:RI K c ρ σ H F) (A:At ρ σ is ss as) (nd:is.Nodup):F_ K (ke H ρ σ is) F ss as H F:=by
 have got:∀{k:Nat} {s:Slot},(ss.map GS)[k]? =GS (GS s)->∃i a,is[k]? =GS i/\as[k]? =GS a/\ρ[i]? =GS (GS s)/\s.kind≠0/\σ[i]? =GS (GS (.ref a)):=λ{k s} h=>by
  obtain⟨s',h1,h2⟩:=map_some h;cases h2;exact A.get h1
 have YL:∀{k:Nat} {a:NH},as[k]? =GS a->(as.map λa=>GS (V.ref a))[k]? =GS (GS (.ref a)):=λh=>mD h;have a3W:∀{k:Nat} {a a':NH},as[k]? =GS a->(as.map λa=>GS (V.ref a))[k]? =GS (GS (.ref a'))->a=a':=λ{k a a'} h h'=>by
  rw[YL h]at h';cases h';rfl
 refine⟨⟨r.sub,λz u e=>uv e,aB.refl _,λ_ h=> .inl h⟩,λk d h=> ?_,λk d h=> ?_,λk d h=> ?_,(λ_ _ e=>by cases e),λk k' d d' a h h' e e'=> ?_,?_,(λL h=>by cases h),(λL h=>by cases h),(λ_ _ e=>by cases e),⟨λk x W5 f hs h=> ?_,λk k' x W5 f hs s h h' Wd=> ?_⟩,(λL h=>by cases h)⟩
 ·obtain⟨i,a,_,_,_,z,_⟩:=got h;exact absurd rfl z
 ·obtain⟨i,a,h1,h2,h3,h4,h5⟩:=got h
  obtain⟨p,u,k1,k2,k3,k4,k5⟩:=r.own i d h3;rw[h5]at k1;cases k1;exact⟨a,u,YL h2,k2,k3,lw (Pz h1) (.inl ⟨d,h3,h5⟩),k5⟩
 ·obtain⟨i,a,_,_,_,z,_⟩:=got h;exact absurd rfl z
 ·obtain⟨i1,a1,h1,h2,h3,h4,h5⟩:=got h
  obtain⟨i2,a2,g1,g2,g3,g4,g5⟩:=got h';cases a3W h2 e;cases a3W g2 e';cases r.dis i1 i2 d d' _ h3 g3 h5 g5;exact DA nd h1 g1
 ·simp only[NK];rw[A.lens.1,A.lens.2]
 ·obtain⟨i,a,h1,h2,h3,h4,h5⟩:=got h
  obtain⟨a',dx,b,k1,k2,k3⟩:=r.cel.ex i x W5 f hs h3;rw[h5]at k1;cases k1;have a2l:=k2;obtain⟨C,fs,vs,us,g1,g2,g3,g4⟩:=k2.ex;have o:∀z,(z=a\/z=dx\/fs.lookup f=GS (.ref z))->ke H ρ σ is z=JT:=λz hz=>lw (Pz h1) (.inr ⟨x,W5,f,hs,a,C,dx,fs,h3,h5,g1,hz⟩);refine⟨a,dx,b,YL h2,⟨k2.ex,k2.own,k2.fa,k2.fd,k2.fb,o a (.inl rfl),o dx (.inr (.inl rfl)),o b (.inr (.inr g3))⟩,λk' d h' e=> ?_⟩;obtain⟨i2,a2,m1,m2,m3,m4,m5⟩:=got h';cases a3W m2 e;exact k3 i2 d m3 m5
 ·obtain⟨i1,a1,h1,h2,h3,h4,h5⟩:=got h
  obtain⟨i2,a2,g1,g2,g3,g4,g5⟩:=got h';cases r.cel.one i1 i2 x W5 f hs s h3 g3 Wd;exact DA nd h1 g1
theorem DB {s:Slot} (h:s.kind=2):∃x W5 f hs,s= .cel x W5 f hs:=by cases s<;>first|exact⟨_,_,_,_,rfl⟩|cases h
theorem RI.join (r:RI K c ρ σ H F) (A:At ρ σ is ss as) (nd:is.Nodup) (m:F_ K (ke H ρ σ is) F ss' as H' F') (hk:ss'.map Slot.kind=ss.map Slot.kind):RI K c (vo ρ is ss') σ H' F':=by
 have hl:ss'.length=is.length:=by rw[<-A.lens.1,<-NK (f:=Slot.kind),hk,NK]
 have WV:∀{k:Nat} {s:Slot},ss'[k]? =GS s->∃s0 i a,is[k]? =GS i/\as[k]? =GS a/\ρ[i]? =GS (GS s0)/\s0.kind=s.kind/\s.kind≠0/\σ[i]? =GS (GS (.ref a)):=λ{k s} h=>by
  have h1:(ss.map Slot.kind)[k]? =GS s.kind:=by rw[<-hk];exact mD h
  obtain⟨s0,g1,g2⟩:=map_some h1;obtain⟨i,a,k1,k2,k3,k4,k5⟩:=A.get g1;exact⟨s0,i,a,k1,k2,k3,g2,by rw[<-g2];exact k4,k5⟩
 have ms:∀{k:Nat} {s:Slot},ss'[k]? =GS s->(ss'.map GS)[k]? =GS (GS s):=λh=>mD h;have YL:∀{k:Nat} {a:NH},as[k]? =GS a->(as.map λa=>GS (V.ref a))[k]? =GS (GS (.ref a)):=λh=>mD h;have hz:∀{z:NH},ke H ρ σ is z=JT->c.H0 z=JT:=λ{z} e=>by
  unfold ke at e;split at e
  ·rename_i h
   obtain⟨i,hi,o⟩:=h;exact(r.owns o).1
  ·exact r.ext.keep.free e
 have kz:∀{z:NH} {u:HO},H z=GS u->(∀i∈is,¬fj H ρ σ i z)->ke H ρ σ is z=GS u:=λh n=>by rw[FZ n];exact h
 have me:=m.ext;have XR:∀{z:NH} {u:HO},H z=GS u->(∀i∈is,¬fj H ρ σ i z)->H' z=GS u:=λh n=>me.keep _ _ (kz h n);have ZY:∀{z:NH} {u:HO},H z=GS u->(∀i∈is,¬fj H ρ σ i z)->F z=JT->F' z=JT:=λh n f=>me.out (kz h n) f;have XQ:∀{j:Nat} {z:NH},j∉is->fj H ρ σ j z->∀i∈is,¬fj H ρ σ i z:=λ{j z} hj o i hi o'=>hj (by rw[r.owns_inj o o'];exact hi);have Xd:∀{j:Nat} {s:Slot},(vo ρ is ss')[j]? =GS (GS s)->(∃k:Nat,is[k]? =GS j/\ss'[k]? =GS s)\/(j∉is/\ρ[j]? =GS (GS s)):=λh=>wZ nd hl h;have ZZ:∀{k j:Nat} {d:D},is[k]? =GS j->ss'[k]? =GS (.own d)->∃a o,σ[j]? =GS (GS (.ref a))/\as[k]? =GS a/\H' a=GS o/\F' a=JT/\ke H ρ σ is a=JT/\im K F' o d:=λ{k j d} h1 h2=>by
  obtain⟨s0,i,a,k1,k2,k3,k4,k5,k6⟩:=WV h2;rw[h1]at k1;cases k1;obtain⟨p,u,g1,g2,g3,g4,g5⟩:=m.own k d (ms h2);rw[YL k2]at g1;cases g1;exact⟨a,u,k6,k2,g2,g3,g4,g5⟩
 have a1v:∀{j:Nat} {d:D} {p:NH} {u:HO},j∉is->ρ[j]? =GS (GS (.own d))->σ[j]? =GS (GS (.ref p))->H p=GS u->ke H ρ σ is p=GS u:=λhj h1 h2 h3=>kz h3 (XQ hj (.inl ⟨_,h1,h2⟩));refine⟨⟨me.sub,λz u e=>XR (r.ext.keep z u e) λi hi o=>(by rw[(r.owns o).1]at e;cases e),r.ext.grow.trans me.grow,λz e=>(me.new z e).elim (λq=>r.ext.new z q) λq=> .inr (hz q)⟩,λj d h=> ?_,λj d h=> ?_,λj d h=> ?_,r.bh,λj j' d d' p h h' e e'=> ?_,?_,λL hL h=> ?_,λL hL L' YD h h'=> ?_,r.fm.trans me.grow,⟨λj x W5 f hs h=> ?_,λj j' x W5 f hs s h h' Wd=> ?_⟩,r.pin⟩
 ·rcases Xd h with ⟨k,h1,h2⟩|⟨_,h2⟩
  ·obtain⟨_,_,_,_,_,_,_,z,_⟩:=WV h2;exact absurd rfl z
  ·obtain⟨v,k1,k2⟩:=r.val j d h2;exact⟨v,k1,k2.mono me.grow⟩
 ·rcases Xd h with ⟨k,h1,h2⟩|⟨hj,h2⟩
  ·obtain⟨a,o,k1,k2,k3,k4,k5,k6⟩:=ZZ h1 h2
   exact⟨a,o,k1,k3,k4,hz k5,k6⟩
  ·obtain⟨p,u,k1,k2,k3,k4,k5⟩:=r.own j d h2
   have n:=XQ hj (.inl ⟨d,h2,k1⟩);exact⟨p,u,k1,XR k2 n,ZY k2 n k3,k4,k5.mono me.grow⟩
 ·rcases Xd h with ⟨k,h1,h2⟩|⟨_,h2⟩
  ·obtain⟨_,_,_,_,_,_,_,z,_⟩:=WV h2;exact absurd rfl z
  ·exact r.bor j d h2
 ·rcases Xd h with ⟨k,h1,h2⟩|⟨hj,h2⟩
  ·obtain⟨a,o,k1,k2,k3,k4,k5,k6⟩:=ZZ h1 h2
   rw[k1]at e;cases e;rcases Xd h' with ⟨k',Zr,Xi⟩|⟨YA,Xi⟩
   ·obtain⟨a',o',a3X,a2l,a5E,a5F,a3Y,a5G⟩:=ZZ Zr Xi
    rw[a3X]at e';cases e';have:=m.dis k k' d d' p (ms h2) (ms Xi) (YL k2) (YL a2l);subst this;rw[h1]at Zr;exact OR Zr
   ·obtain⟨p',u,g1,g2,g3,g4,g5⟩:=r.own j' d' Xi
    rw[e']at g1;cases g1;rw[a1v YA Xi e' g2]at k5;cases k5
  ·rcases Xd h' with ⟨k',Zr,Xi⟩|⟨YA,Xi⟩
   ·obtain⟨a',o',a3X,a2l,a5E,a5F,a3Y,a5G⟩:=ZZ Zr Xi
    rw[a3X]at e';cases e';obtain⟨p',u,g1,g2,g3,g4,g5⟩:=r.own j d h2;rw[e]at g1;cases g1;rw[a1v hj h2 e g2]at a3Y;cases a3Y
   ·exact r.dis j j' d d' p h2 Xi e e'
 ·rw[wY];exact r.len
 ·rcases Xd h with ⟨k,h1,h2⟩|⟨hj,h2⟩
  ·obtain⟨_,_,_,_,_,_,_,z,_⟩:=WV h2;exact absurd rfl z
  ·obtain⟨a,dx,fs,k0,k1,k2,k3,k4,k5,k6⟩:=r.obj L hL h2
   have no:∀{z:NH} {u:HO},H z=GS u->(∀d,¬im K F u d)->∀i∈is,¬fj H ρ σ i z:=λ{z u} hz nr i hi o=>by
    rcases o with ⟨d,g1,g2⟩|⟨x,W5,f,hs,a,C,dx,fs,g1,_⟩
    ·obtain⟨p,u',q1,q2,_,_,q5⟩:=r.own i d g1
     rw[g2]at q1;cases q1;rw[hz]at q2;cases q2;exact nr d q5
    ·exact hj (by rw[<-r.cel.one i L.x x W5 f hs _ g1 h2 rfl];exact hi)
   have na:=no k2 (λd q=>by cases q);have nd:=no k3 (λd q=>by cases q);exact⟨a,dx,fs,k0,k1,XR k2 na,XR k3 nd,ZY k2 na k4,ZY k3 nd k5,k6⟩
 ·refine r.odis L hL L' YD ?_ ?_
  ·rcases Xd h with ⟨k,h1,h2⟩|⟨_,h2⟩
   ·obtain⟨_,_,_,_,_,_,_,z,_⟩:=WV h2;exact absurd rfl z
   ·exact h2
  ·rcases Xd h' with ⟨k,h1,h2⟩|⟨_,h2⟩
   ·obtain⟨_,_,_,_,_,_,_,z,_⟩:=WV h2;exact absurd rfl z
   ·exact h2
 ·rcases Xd h with ⟨k,h1,h2⟩|⟨hj,h2⟩
  ·obtain⟨s0,i,a,k1,k2,k3,k4,k5,k6⟩:=WV h2
   rw[h1]at k1;cases k1;obtain⟨a',dx,b,g1,g2,g3⟩:=m.cel.ex k x W5 f hs (ms h2);rw[YL k2]at g1;cases g1;refine⟨a,dx,b,k6,⟨g2.ex,g2.own,g2.fa,g2.fd,g2.fb,hz g2.za,hz g2.zd,hz g2.zb⟩,λj' d h' e=> ?_⟩;rcases Xd h' with ⟨k',Zr,Xi⟩|⟨YA,Xi⟩
   ·obtain⟨a',o',q1,q2,_⟩:=ZZ Zr Xi
    rw[q1]at e;cases e;exact g3 k' d (ms Xi) (YL q2)
   ·obtain⟨p',u,q1,q2,_⟩:=r.own j' d Xi
    rw[e]at q1;cases q1;have:ke H ρ σ is b=JT:=g2.zb;rw[a1v YA Xi e q2]at this;cases this
  ·obtain⟨a,dx,b,g1,g2,g3⟩:=r.cel.ex j x W5 f hs h2
   have a7q:=g2;obtain⟨C,fs,vs,us,q1,q2,q3,q4,q5,q6,q7⟩:=g2.ex;have ow:∀z,(z=a\/z=dx\/fs.lookup f=GS (.ref z))->∀i∈is,¬fj H ρ σ i z:=λz hz=>XQ hj (.inr ⟨x,W5,f,hs,a,C,dx,fs,h2,g1,q1,hz⟩);have na:=ow a (.inl rfl);have nd:=ow dx (.inr (.inl rfl));have nb:=ow b (.inr (.inr q3));refine⟨a,dx,b,g1,⟨⟨C,fs,vs,us,XR q1 na,q2,q3,XR q4 nb,q5.mono me.grow,q6.mono me.grow,q7⟩,XR g2.own nd,ZY q1 na g2.fa,ZY g2.own nd g2.fd,ZY q4 nb g2.fb,g2.za,g2.zd,g2.zb⟩,λj' d h' e=> ?_⟩;rcases Xd h' with ⟨k',Zr,Xi⟩|⟨YA,Xi⟩
   ·obtain⟨a',o',w1,w2,w3,w4,w5,w6⟩:=ZZ Zr Xi
    rw[w1]at e;cases e;rw[kz q4 nb]at w5;cases w5
   ·exact g3 j' d Xi e
 ·have a2m:∀{k:Nat} {s:Slot},ss'[k]? =GS s->s.single=true->∃x W5 f hs i,is[k]? =GS i/\ρ[i]? =GS (GS (.cel x W5 f hs)):=λ{k s} h hs=>by
   obtain⟨s0,i,a,k1,k2,k3,k4,k5,k6⟩:=WV h;have:s.kind=2:=by cases s<;>first|rfl|exact absurd rfl k5|cases hs
   rw[this]at k4;obtain⟨x,W5,f,hs,rfl⟩:=DB k4;exact⟨x,W5,f,hs,i,k1,k3⟩
  rcases Xd h with ⟨k,h1,h2⟩|⟨hj,h2⟩
  ·rcases Xd h' with ⟨k',Zr,Xi⟩|⟨YA,Xi⟩
   ·have:=m.cel.one k k' x W5 f hs s (ms h2) (ms Xi) Wd
    subst this;rw[h1]at Zr;exact OR Zr
   ·obtain⟨x0,a2n,f0,YE,i,g1,g2⟩:=a2m h2 rfl
    have:=r.cel.one i j' x0 a2n f0 YE s g2 Xi Wd;subst this;exact absurd (Pz g1) YA
  ·rcases Xd h' with ⟨k',Zr,Xi⟩|⟨YA,Xi⟩
   ·obtain⟨x0,a2n,f0,YE,i,g1,g2⟩:=a2m Xi Wd
    have:=r.cel.one j i x W5 f hs _ h2 g2 rfl;subst this;exact absurd (Pz g1) hj
   ·exact r.cel.one j j' x W5 f hs s h2 Xi Wd
end
def cS:Nat->aa->Option (List Slot)
 |0,_=>GS []
 |n+1,GS s::ρ=>(cS n ρ).map λt=>s::t
 |_+1,_=>JT
theorem uw:∀{n:Nat} {ρ:aa} {ss:List Slot},cS n ρ=GS ss->ss.length=n/\∀(k:Nat) s,ss[k]? =GS s->ρ[k]? =GS (GS s)
 |0,ρ,ss,h=>by cases h;exact⟨rfl,λk s e=>by simp at e⟩
 |n+1,GS s::ρ,ss,h=>by
  unfold cS at h;cases e:cS n ρ with
  |none=>rw[e]at h;cases h
  |some t=>
   rw[e]at h;cases h;obtain⟨h1,h2⟩:=uw e;refine⟨by simp[h1],λk s' e'=> ?_⟩;cases k with
   |zero=>cases e';rfl
   |succ k=>exact h2 k s' e'
 |n+1,JT::ρ,ss,h=>by cases h
 |n+1,[],ss,h=>by cases h
def eu (n:Nat) (ss:List Slot) (ds:List D):aa:=ss.map GS++bN n ds
def iy (nm k n:Nat) (g:aa->R aF) (ss:List Slot) (ds:List D):R (D×List Slot):=if ss.length=nm/\ds.length=k then (match g (eu n ss ds)with
 | .ok (.retc d ρ)=>(match cS nm ρ with|some ss'=> .ok (d,ss')|none=> .bad)
 | .ok (.nx ρ)=>(match cS nm ρ with|some ss'=> .ok (.non,ss')|none=> .bad)
 | .err z ρ=> .err z ρ
 |_=> .bad)else .bad
def LX (K:ND) (nm n:Nat) (m:List Slot->List D->R (D×List Slot)):Sp:=λvs H Q E=>∃F as ws ss ds Hz,vs=as.map V.ref++ws/\as.length=nm/\ws.length=n/\F_ K Hz F ss as H F/\(∀s∈ss,s.kind≠0)/\Reps K F ws ds/\match m ss ds with
 | .ok r=>∀v H' F',F_ K Hz F r.2 as H' F'->cD K F' v r.1->Q v H'
 | .err z ρe=>∃ss',cS nm ρe=GS ss'/\∀ec q H' F',cL K z ec->F_ K Hz F ss' as H' F'->E ec q H'
 | .bad=>False
theorem RI.restrict {c:cF ly} {ss:List Slot} (r:RI K c ρ σ H F) (hB:c.B=λ_=>JT) (ht:cS nm ρ=GS ss) (hl:as.length=nm) (hσ:∀(j:Nat) a,as[j]? =GS a->σ[j]? =GS (GS (.ref a))):F_ K c.H0 c.F0 ss as H F:=by
 obtain⟨t1,t2⟩:=uw ht;have up:∀{k:Nat} {s:Slot},(ss.map GS)[k]? =GS (GS s)->ρ[k]? =GS (GS s)/\k<as.length:=λ{k s} h=>by
  obtain⟨s',h1,h2⟩:=map_some h;cases h2;exact⟨t2 k s h1,by rw[hl,<-t1];exact(O6.mp h1).1⟩
 have at_:∀{k:Nat},k<as.length->(as.map λa=>GS (V.ref a))[k]? =σ[k]? :=λ{k} h=>by
  have:as[k]? =GS as[k]:=O5 h;rw[hσ k _ this,mD this]
 refine⟨r.ext,λk d h=> ?_,λk d h=> ?_,λk d h=> ?_,(λ_ _ e=>by cases e),λk k' d d' a h h' e e'=> ?_,?_,(λL h=>by cases h),(λL h=>by cases h),(λ_ _ e=>by cases e),⟨λk x W5 f hs h=> ?_,λk k' x W5 f hs s h h' Wd=> ?_⟩,(λL h=>by cases h)⟩
 ·obtain⟨h1,h2⟩:=up h
  rw[at_ h2];exact r.val k d h1
 ·obtain⟨h1,h2⟩:=up h
  rw[at_ h2];exact r.own k d h1
 ·obtain⟨h1,h2⟩:=up h
  obtain⟨a,o,_,z,_⟩:=r.bor k d h1;rw[hB]at z;cases z
 ·obtain⟨h1,h2⟩:=up h
  obtain⟨g1,g2⟩:=up h';rw[at_ h2]at e;rw[at_ g2]at e';exact r.dis k k' d d' a h1 g1 e e'
 ·simp only[NK];rw[t1,hl]
 ·obtain⟨h1,h2⟩:=up h
  obtain⟨a,dx,b,k1,k2,k3⟩:=r.cel.ex k x W5 f hs h1;refine⟨a,dx,b,by rw[at_ h2];exact k1,k2,λj d hj e=> ?_⟩;obtain⟨g1,g2⟩:=up hj;rw[at_ g2]at e;exact k3 j d g1 e
 ·exact r.cel.one k k' x W5 f hs s (up h).1 (up h').1 Wd
theorem B6 {Hz:Hp} {ss:List Slot} {ws:List V} {ds:List D} {m:Nat} (mr:F_ K Hz F ss as H F) (hk:∀s∈ss,s.kind≠0) (r:Reps K F ws ds) (hl:as.length=nm) (hN:N.length=nm+m) (hw:ws.length<=m) (a2o:∀L∈ly,L.x<nm):RI K (⟨Hz,F,λ_=>JT,Er,λj=>as[j]?,λ_=>JT⟩:cF ly) (eu m ss ds) (dZ N (as.map V.ref++ws)) H F:=by
 have a0F:ss.length=as.length:=by have:=mr.len;simpa using this
 have pre:∀{i:Nat},i<as.length->(dZ N (as.map V.ref++ws))[i]? =(as.map λa=>GS (V.ref a))[i]? :=λ{i} h=>by
  unfold dZ;rw[Oo,PH,PZ (by simpa using h),OL];rfl
 have hv:∀{i:Nat} {sl:Slot},(eu m ss ds)[i]? =GS (GS sl)->((ss.map GS)[i]? =GS (GS sl)/\i<as.length/\sl.kind≠0)\/∃(j:Nat) (d:D),i=as.length+j/\ds[j]? =GS d/\sl= .val d:=λ{i sl} h=>by
  unfold eu at h;rw[QW]at h;split at h
  ·rename_i hi
   obtain⟨s',h1,h2⟩:=map_some h;cases h2;exact .inl ⟨h,by rw[<-a0F];simpa using hi,hk _ (Pz h1)⟩
  ·rename_i hi
   refine .inr ⟨i - as.length,?_⟩;have e:(ss.map (GS:Slot->Option Slot)).length=as.length:=by simp[a0F]
   rw[e]at h;unfold bN at h;rw[QW]at h;split at h
   ·rw[O9]at h
    cases e2:ds[i - as.length]? with
    |none=>rw[e2]at h;cases h
    |some d=>rw[e2]at h;simp at h;exact⟨d,by simp at hi;omega,rfl,h.symm⟩
   ·rw[PD]at h
    split at h<;>simp at h
 have Z9:∀{i:Nat} {sl:Slot},(eu m ss ds)[i]? =GS (GS sl)->(∀d,sl≠ .val d)->(ss.map GS)[i]? =GS (GS sl)/\i<as.length:=λh n=>by
  rcases hv h with ⟨a,b,_⟩|⟨j,d,_,_,z⟩
  ·exact⟨a,b⟩
  ·exact absurd z (n d)
 refine⟨mr.ext,λi d h=> ?_,λi d h=> ?_,λi d h=> ?_,(λ_ _ e=>by cases e),λi j d d' a h h' e e'=> ?_,?_,λL hL h=> ?_,λL hL L' YD h _=> ?_,(λ_ _ e=>by cases e),⟨λi x W5 f hs h=> ?_,λi j x W5 f hs s h h' Wd=> ?_⟩,λL hL a h=> ?_⟩
 ·rcases hv h with ⟨a,b,z⟩|⟨j,d',rfl,e,z⟩
  ·exact absurd rfl z
  ·cases z
   obtain⟨v,h1,h2⟩:=r.get e;refine⟨v,?_,h2⟩;unfold dZ;have hj:j<ws.length:=(O6.mp h1).1;rw[Oo,PH,QX (by simp),PZ (by simp;omega)];simp[h1]
 ·obtain⟨h1,h2⟩:=Z9 h (λd' z=>by cases z)
  rw[pre h2];exact mr.own i d h1
 ·obtain⟨h1,h2⟩:=Z9 h (λd' z=>by cases z)
  obtain⟨a,o,_,z,_⟩:=mr.bor i d h1;cases z
 ·obtain⟨h1,h2⟩:=Z9 h (λd' z=>by cases z)
  obtain⟨g1,g2⟩:=Z9 h' (λd' z=>by cases z);rw[pre h2]at e;rw[pre g2]at e';exact mr.dis i j d d' a h1 g1 e e'
 ·have:=r.length
  simp only[eu,bN,dZ,Oh,NK,Qi,a0F];omega
 ·rcases hv h with ⟨a,b,z⟩|⟨j,d',_,_,z⟩
  ·exact absurd rfl z
  ·cases z
 ·rcases hv h with ⟨a,b,z⟩|⟨j,d',_,_,z⟩
  ·exact absurd rfl z
  ·cases z
 ·obtain⟨h1,h2⟩:=Z9 h (λd' z=>by cases z)
  obtain⟨a,dx,b,k1,k2,k3⟩:=mr.cel.ex i x W5 f hs h1;refine⟨a,dx,b,by rw[pre h2];exact k1,k2,λj d hj e=> ?_⟩;obtain⟨g1,g2⟩:=Z9 hj (λd' z=>by cases z);rw[pre g2]at e;exact k3 j d g1 e
 ·exact mr.cel.one i j x W5 f hs s (Z9 h (λd' z=>by cases z)).1 (Z9 h' (λd' z=>by subst z;cases Wd)).1 Wd
 ·have:=a2o L hL
  rw[pre (by omega)];exact mD (show as[L.x]? =GS a from h)
theorem Lm {x:NG} {f:NH} {k m:Nat} {g:aa->R aF} (F:zq K x qual st f fd) (S:aL N ps (ao st)) (hn:ps.length=nm+n) (hm:N.length=nm+m) (ZO:n<=m) (a2o:∀j,j<nm->∃L∈ly,L.x=j) (a1w:∀L∈ly,L.x<nm) (Wg:∀(W2:NF) (A:Oc) (outer:List Pw) (s:NI) (H:Hp) (E:XK),br k (A.deeper (PY qual (ao st) s.heap.objs.size f W2))-> gY ly (ik (kX P w) P w K mg base N qual (ao st) f W2 A outer s H E) (aQ st) g):eF P w K mg base (kX P w) (k+1) f fd ps (LX K nm n (iy nm n m g)):=by
 refine Ha F S (λvs H Q E h=> ?_) (λW2 A outer s H vs Q E hr h=> ?_)
 ·obtain⟨Fz,as,ws,ss,ds,Hz,rfl,h1,h2,_⟩:=h
  rw[Oh,NK,h1,h2,hn]
 ·obtain⟨Fz,as,ws,ss,ds,Hz,rfl,h1,h2,mr,hk,r,w⟩:=h
  let c:cF ly:=⟨Hz,Fz,λ_=>JT,λz ρe=>∃ss',cS nm ρe=GS ss'/\∀ec q H' F',cL K z ec->F_ K Hz Fz ss' as H' F'->E ec q H',λj=>as[j]?,λ_=>JT⟩;have back:∀{ρ σ H' F' ss'},RI K c ρ σ H' F'->cS nm ρ=GS ss'->F_ K Hz Fz ss' as H' F':=λ{ρ σ H' F' ss'} ri t=>ri.restrict rfl t h1 λj a e=>by
   have hj:j<nm:=by rw[<-h1];exact(O6.mp e).1
   obtain⟨L,hL,rfl⟩:=a2o j hj;exact ri.pin L hL a e
  refine⟨_,Wg W2 A outer s H E hr ⟨c,rM λz ρ er ec a H' F' σ hc ri=> ?_⟩,?_⟩
  ·obtain⟨ss',t,q⟩:=er
   exact q ec a H' F' hc (back ri t)
  refine⟨Fz,eu m ss ds,B6 mr hk r h1 hm (by omega) a1w,?_⟩;have hd:ss.length=nm/\ds.length=n:=⟨by have:=mr.len;simp only[NK]at this;omega,by rw[<-r.length];exact h2⟩;unfold iy at w;rw[if_pos hd]at w;cases e:g (eu m ss ds)with
  |bad=>rw[e]at w;exact w.elim
  |err z ρ=>rw[e]at w;exact w
  |ok o=>
   rw[e]at w;cases o with
   |retc d ρ=>
    intro v σ' H' F' _ Xq rv;dsimp only at w;cases t:cS nm ρ with
    |none=>rw[t]at w;exact w.elim
    |some ss'=>rw[t]at w;exact w v H' F' (back Xq t) rv
   |nx ρ=>
    intro σ' H' F' _ Xq;dsimp only at w;cases t:cS nm ρ with
    |none=>rw[t]at w;exact w.elim
    |some ss'=>rw[t]at w;exact w .non H' F' (back Xq t) .non
   |_=>exact w.elim
structure JX (P:NM) (w:NV) (K:ND) (mg:NG->Option NF) (base:NT) (k:Nat) (x:NG) (nm n:Nat) (m:List Slot->List D->R (D×List Slot)):Prop where
 ex:∃f fd ps,eF P w K mg base (kX P w) k f fd ps (LX K nm n m)/\mg x=GS (.ref f)/\OI K (.ref f)=true/\eZ K fd ps []
structure m_ (P:NM) (w:NV) (K:ND) (mg:NG->Option NF) (base:NT) (k:Nat) (cls mm:NG) (n:Nat) (m:List Slot->List D->R (D×List Slot)):Prop where
 ex:∃C f fd ps,eF P w K mg base (kX P w) k f fd ps (LX K 1 n m)/\j6 K cls C/\xL K C mm f/\eZ K fd ps []
section
variable {P:NM} {w:NV} {K:ND} {mg:NG->Option NF} {base:NT}
theorem vp {x:NG} {k m:Nat} {g:aa->R aF} (ly:List cR) (A:c8 K mg x st ps) (S:aL N ps (ao st)) (hn:ps.length=nm+n) (hm:N.length=nm+m) (ZO:n<=m) (a2o:∀j,j<nm->∃L∈ly,L.x=j) (a1w:∀L∈ly,L.x<nm) (Wg:∀(f:NH) (W2:NF) (A:Oc) (outer:List Pw) (s:NI) (H:Hp) (E:XK),br k (A.deeper (PY x (ao st) s.heap.objs.size f W2))-> gY ly (ik (kX P w) P w K mg base N x (ao st) f W2 A outer s H E) (aQ st) g):JX P w K mg base (k+1) x nm n (iy nm n m g):=by
 obtain⟨f,fd,F,h1,h2⟩:=A.ex;exact⟨f,fd,ps,Lm F S hn hm ZO a2o a1w λW2 A outer s H E hr=>Wg f W2 A outer s H E hr,h1,F.kp,h2⟩
theorem iz {mm:NG} {k m:Nat} {g:aa->R aF} (A:c9 K cls mm qual st ps) (S:aL N ps (ao st)) (hn:ps.length=1+n) (hm:N.length=1+m) (ZO:n<=m) (Wg:∀(f:NH) (W2:NF) (A:Oc) (outer:List Pw) (s:NI) (H:Hp) (E:XK),br k (A.deeper (PY qual (ao st) s.heap.objs.size f W2))-> gY [⟨0,0,[]⟩] (ik (kX P w) P w K mg base N qual (ao st) f W2 A outer s H E) (aQ st) g):m_ P w K mg base (k+1) cls mm n (iy 1 n m g):=by
 obtain⟨C,f,fd,F,h1,h2,h3⟩:=A.ex;exact⟨C,f,fd,ps,Lm F S hn hm ZO (λj hj=>⟨_,N_.mpr rfl,by show (0:Nat)=j;omega⟩) (λL hL=>by rw[N_.mp hL];exact Nat.zero_lt_one) λW2 A outer s H E hr=>Wg f W2 A outer s H E hr,h1,h2,h3⟩
end
def bQ (is:List Nat) (m:List Slot->List D->R (D×List Slot)) (n:Nat) (fs:aa->R (List D)):aa->R (D×aa):=λρ=>match cH ρ is with
 |some ss=>if (ss.all λs=>s.kind != 0)=true/\is.Nodup then (fs ρ>>=λds=>if ds.length=n then (match m ss ds with
  | .ok r=>if r.2.map Slot.kind=ss.map Slot.kind then .ok (r.1,vo ρ is r.2)else .bad
  | .err z ρe=>(match cS is.length ρe with
   |some ss'=>if ss'.map Slot.kind=ss.map Slot.kind then .err z (vo ρ is ss')else .bad
   |none=> .bad)
  | .bad=> .bad)else .bad)else .bad
 |none=> .bad
def tX (K:ND) (c:cF ly) (fx:aa->R (D×aa)):TE:=λσ H Q=>∃F ρ,RI K c ρ σ H F/\aw c (fx ρ) λr=>∀v H' F',aB F F'->RI K c r.2 σ H' F'->cD K F' v r.1->Q v H'
structure PX (ly:List cR) (X:Cx) (e:NS) (fx:aa->R (D×aa)):Prop where
 ap:∀c:eG ly X,PE X e (tX X.K c.1 fx)
instance {ly:List cR} {X:Cx} {e:NS} {fx:aa->R (D×aa)}:CoeFun (PX ly X e fx) λ_=>∀c:eG ly X,PE X e (tX X.K c.1 fx):=⟨PX.ap⟩
theorem At.of {K:ND} {c:cF ly} {ρ:aa} {σ:St} {H F:Hp} (r:RI K c ρ σ H F):∀{is:List Nat} {ss:List Slot},cH ρ is=GS ss->(ss.all λs=>s.kind != 0)=true->∃as,At ρ σ is ss as
 |[],ss,h,_=>by cases h;exact⟨[], .nil⟩
 |i::is,ss,h,k=>by
  unfold cH at h;split at h
  ·rename_i s hs
   cases e:cH ρ is with
   |none=>rw[e]at h;cases h
   |some t=>
    rw[e]at h;cases h;rw[Pn,OX]at k;obtain⟨as,A⟩:=At.of r e k.2;have hk:s.kind≠0:=by simpa using k.1
    have:∃a,σ[i]? =GS (GS (.ref a)):=by
     cases s with
     |own d=>obtain⟨a,o,h1,_⟩:=r.own i d hs;exact⟨a,h1⟩
     |cel x W5 f Wd=>obtain⟨a,dx,b,h1,_⟩:=r.cel.ex i x W5 f Wd hs;exact⟨a,h1⟩
     |_=>exact absurd rfl hk
    obtain⟨a,ha⟩:=this;exact⟨a::as, .cons hs hk ha A⟩
  ·cases h
section
variable {X:Cx} {e:NS} {es:List NS} {fs:aa->R (List D)} {is:List Nat} {p pos W8:Ox} {x m:NG}
theorem yy {c:eG ly X} {mf:List Slot->List D->R (D×List Slot)} (ri:RI X.K c.1 ρ σ H F) (w:aw c.1 (bQ is mf n fs ρ) λr=>∀v H' F',aB F F'->RI X.K c.1 r.2 σ H' F'->cD X.K F' v r.1->Q v H'): ∃ss as,At ρ σ is ss as/\IB X.K c.1 fs σ H λvs H1=>LX X.K is.length n mf (as.map V.ref++vs) H1 Q (Hb X c.1 σ):=by
 unfold bQ at w;split at w
 ·rename_i ss hs
  split at w
  ·rename_i hk
   obtain⟨hk,nd⟩:=hk;obtain⟨as,A⟩:=At.of ri hs hk;refine⟨ss,as,A,F,ρ,ri,(aw.bind.mp w).imp λds _ w1 vs H1 F1 e1 r1=> ?_⟩;split at w1
   ·rename_i hl
    have r':=ri.step e1;refine⟨F1,as,vs,ss,ds,ke H1 ρ σ is,rfl,A.lens.2,by rw[r1.length];exact hl,r'.split A nd,λs Wd=>by have:=PV.mp hk s Wd;simpa using this,r1,?_⟩;split at w1
    ·rename_i r hr
     split at w1
     ·rename_i a07
      intro v H' F' mr rv;exact w1 v H' F' (e1.grow.trans mr.ext.grow) (r'.join A nd mr a07) rv
     ·exact w1.elim
    ·rename_i z ρe hr
     split at w1
     ·rename_i ss' ht
      split at w1
      ·rename_i a07
       exact⟨ss',ht,λec q H' F' hc mr=>⟨z,_,F',hc,r'.join A nd mr a07,w1⟩⟩
      ·exact w1.elim
     ·exact w1.elim
    ·exact w1.elim
   ·exact w1.elim
  ·exact w.elim
 ·exact w.elim
def yz:List Nat->TA->TA
 |[],t=>t
 |i::is,t=>GU (BM i) (yz is t)
theorem ux {t:TA} {ρ:aa} {σ:St} {H:Hp}:∀{is:List Nat} {ss:List Slot} {as:List NH} {Q:List V->Hp->Prop},At ρ σ is ss as->t σ H (λvs H1=>Q (as.map V.ref++vs) H1)->yz is t σ H Q
 |[],_,_,Q, .nil,h=>h
 |i::is,_,_,Q, .cons h1 h2 h3 A,h=>⟨_,h3,ux A h⟩
def Ln (ly:List cR) (X:Cx) (es:List NS) (is:List Nat) (fs:aa->R (List D)):Prop:=∀c:eG ly X,PA X es (yz is (IB X.K c.1 fs))
theorem Jh (h:t7 ly X es fs):Ln ly X es [] fs:=λc=>h c
theorem G0 (i:Nat) (h:Ln ly X es is fs) (hN:X.N[i]? =GS x:=by rfl) (hv:pz X.env.scope x:=by first|exact OG rfl|exact Oj (OG rfl)|exact Oj (Oj rfl)) (hd:(x==("__debug__":NG))=false:=by decide) (WG:(x==("__classdict__":NG))=false:=by decide) (hs:NL (.Name x p::es) X.env=(false,O8 (.Name x p) X.env)::NL es X.env:=by rfl):Ln ly X (.Name x p::es) (i::is) fs:=λc=>cU (pv i hN hv hd WG) (h c) hs
theorem ML {k:Nat} {mf:List Slot->List D->R (D×List Slot)} (G:JX X.prog X.w X.K X.mg X.base k x is.length n mf) (hr:br k X.A) (ha:Ln ly X (e::es) is fs) (hg:Gl X x:=by rfl) (WL:(x==("__debug__":NG))=false:=by decide) (he:NL (e::es) X.env=(false,O8 e X.env)::NL es X.env:=by rfl) (WA:(Om pos (NL es X.env)).any (·.1)=false:=by rfl):PX ly X (.Call (.Name x p) (e::es) [] pos) (bQ is mf n fs):=⟨λc=>by
 obtain⟨f,fd,ps,h1,h2,h3,h4⟩:=G.ex;refine PE.weak (uQ h1 hr hg h2 h3 h4 .nil (oB c) (ha c) WL he WA) λσ H Q q=> ?_;obtain⟨F,ρ,ri,w⟩:=q;obtain⟨ss,as,A,t⟩:=yy ri w;refine ux A ?_;obtain⟨F0,ρ0,a0S,w0⟩:=t;exact⟨F0,ρ0,a0S,w0.imp λds _ k vs H1 F1 e1 r1=>by dsimp only;rw[P2];exact k vs H1 F1 e1 r1⟩⟩
def fU (i:Nat) (cls m:NG) (fx:aa->R (D×aa)):aa->R (D×aa):=λρ=>match ρ[i]? with
 |some (GS (.cel y W5 f hs))=>if y=cls/\m≠f/\W5.lookup m=JT then fx ρ else .bad
 |_=> .bad
theorem zM {c:eG ly X} {i:Nat} {fx:aa->R (D×aa)} {P:D×aa->Prop} (T:j6 X.K cls C) (ri:RI X.K c.1 ρ σ H F) (w:aw c.1 (fU i cls m fx ρ) P): ∃a dx fs,σ[i]? =GS (GS (.ref a))/\H a=GS (.ins C dx fs)/\fs.lookup m=JT/\aw c.1 (fx ρ) P:=by
 unfold fU at w;split at w
 ·rename_i y W5 f hs hi
  split at w
  ·rename_i hc
   obtain⟨rfl,h1,h2⟩:=hc;obtain⟨a,dx,b,k1,k2,k3⟩:=ri.cel.ex i y W5 f hs hi;obtain⟨C',fs,vs,us,g1,g2,g3,g4,g5,g6,g7,g8,_⟩:=k2.ex;have:C'=C:=by have:=T.ns;rw[g2]at this;cases this;rfl
   subst this;refine⟨a,dx,fs,k1,g1,?_,w⟩;cases q:fs.lookup m with
   |none=>rfl
   |some v=>
    rcases g8 m v q with z|z
    ·exact absurd z h1
    ·rw[g6.names]at z
     exact absurd z (fG h2)
  ·exact w.elim
 ·exact w.elim
theorem Ji (i:Nat) {cls y:NG} {py:Ox} {k n:Nat} {mf:List Slot->List D->R (D×List Slot)} {pl:QD Bool} (G:m_ X.prog X.w X.K X.mg X.base k cls m n mf) (hr:br k X.A) (ha:t7 ly X (e::es) fs) (hN:X.N[i]? =GS y:=by rfl) (hv:pz X.env.scope y:=by first|exact OG rfl|exact Oj (OG rfl)|exact Oj (Oj rfl)) (hd:(y==("__debug__":NG))=false:=by decide) (WG:(y==("__classdict__":NG))=false:=by decide) (W_:NL (e::es) X.env=(false,O8 e X.env)::NL es X.env:=by rfl) (WA:(Om pos (NL es X.env)).any (·.1)=false:=by rfl) (ht:O8 (.Call (.Attribute (.Name y py) m W8) (e::es) [] pos) X.env=(do let ov<-O8 (.Name y py) X.env QZ W8.atName let (f,first)<-Q9 [ov] (QR ov m pl) RC pos f first (Om pos (NL (e::es) X.env)) (Q2 pos (Pg [] X.env))):=by rfl): PX ly X (.Call (.Attribute (.Name y py) m W8) (e::es) [] pos) (fU i cls m (bQ [i] mf n fs)):=⟨λc=>by
 obtain⟨C,f,fd,ps,h1,h2,h3,h4⟩:=G.ex;refine PE.weak (zh (pv i hN hv hd WG) h2.cl h3 h1 hr h4 .nil (oB c) (ha c) W_ WA ht) λσ H Q q=> ?_;obtain⟨F,ρ,ri,w⟩:=q;obtain⟨a,dx,Yx,k1,k2,k3,w⟩:=zM h2 ri w;obtain⟨ss,as,A,t⟩:=yy ri w;cases A with
 |cons q1 q2 q3 A0=>
  cases A0;rw[k1]at q3;cases q3;refine⟨.ref a,k1,a,dx,Yx,rfl,k2,k3,?_⟩;obtain⟨F0,ρ0,a0S,w0⟩:=t;exact⟨F0,ρ0,a0S,w0.imp λds _ k vs H1 F1 e1 r1=>by dsimp only;rw[P2];exact k vs H1 F1 e1 r1⟩⟩
theorem G1 (i:Nat) {cls y:NG} {py:Ox} {k n:Nat} {mf:List Slot->List D->R (D×List Slot)} {pl:QD Bool} (G:m_ X.prog X.w X.K X.mg X.base k cls m n mf) (hr:br k X.A) (hN:X.N[i]? =GS y:=by rfl) (hv:pz X.env.scope y:=by first|exact OG rfl|exact Oj (OG rfl)|exact Oj (Oj rfl)) (hd:(y==("__debug__":NG))=false:=by decide) (WG:(y==("__classdict__":NG))=false:=by decide) (ht:O8 (.Call (.Attribute (.Name y py) m W8) [] [] pos) X.env=(do let ov<-O8 (.Name y py) X.env QZ W8.atName let (f,first)<-Q9 [ov] (QR ov m pl) RC pos f first (Om pos (NL [] X.env)) (Q2 pos (Pg [] X.env))):=by rfl): PX ly X (.Call (.Attribute (.Name y py) m W8) [] [] pos) (fU i cls m (bQ [i] mf n ac)):=⟨λc=>by
 obtain⟨C,f,fd,ps,h1,h2,h3,h4⟩:=G.ex;refine PE.weak (wg (pv i hN hv hd WG) h2.cl h3 h1 hr h4 .nil (oB c) ht) λσ H Q q=> ?_;obtain⟨F,ρ,ri,w⟩:=q;obtain⟨a,dx,Yx,k1,k2,k3,w⟩:=zM h2 ri w;obtain⟨ss,as,A,t⟩:=yy ri w;cases A with
 |cons q1 q2 q3 A0=>
  cases A0;rw[k1]at q3;cases q3;refine⟨.ref a,k1,a,dx,Yx,rfl,k2,k3,?_⟩;obtain⟨F0,ρ0,a0S,w0⟩:=t;exact w0 [] H F0 (b8.refl a0S.sub) .nil⟩
end
def B7 (g:NG) (d:D) (W5:List (NG×D)):List (NG×D):=W5.map λp=>if p.1=g then (p.1,d)else p
section
variable {K:ND} {c:cF ly} {ρ:aa} {σ:St} {H F:Hp} {i:Nat} {z:NH}
theorem RepF.put {g:NG} {d:D} (h:RepF K F vs W5) (r:cD K F v d):RepF K F (vs.map λp=>if p.1=g then (p.1,v)else p) (B7 g d W5):=by
 induction W5 generalizing vs with
 |nil=>rw[h.nilI];exact .nil
 |cons p W5 ih=>
  obtain⟨k,x⟩:=p;obtain⟨u,us,rfl,h1,h2⟩:=h.consI;have:=ih h2;unfold B7 at this ⊢;rw[NP,NP];dsimp only;by_cases e:k=g
  ·rw[if_pos e,if_pos e];exact .cons r this
  ·rw[if_neg e,if_neg e];exact .cons h1 this
theorem RI.celUpd (r:RI K c ρ σ H F) {x x':NG} {W5 ZX:List (NG×D)} {f f':NG} {hs Wd:List D} {a dx b:NH} {o':HO} (hi:ρ[i]? =GS (GS (.cel x W5 f hs))) (h1:σ[i]? =GS (GS (.ref a))) (hz:fj H ρ σ i z) (A':lg K (ke H ρ σ [i]) (aS H z o') F a dx b x' ZX f' Wd):RI K c (ρ.set i (GS (.cel x' ZX f' Wd))) σ (aS H z o') F:=by
 refine r.join (is:=[i]) (ss:=[.cel x W5 f hs]) (ss':=[.cel x' ZX f' Wd]) (as:=[a]) (.cons hi (by intro e;cases e) h1 .nil) (by simp) ?_ rfl;have a5H:ke H ρ σ [i] z=JT:=lw (N_.mpr rfl) hz;have only:∀{k:Nat} {s:Slot},(([Slot.cel x' ZX f' Wd]:List Slot).map GS)[k]? =GS (GS s)->k=0/\s= .cel x' ZX f' Wd:=λ{k s} h=>by
  cases k with
  |zero=>cases h;exact⟨rfl,rfl⟩
  |succ k=>simp at h
 refine⟨⟨λy u e=> ?_,λy u e=> ?_,aB.refl _,λ_ h=> .inl h⟩,λk d h=> ?_,λk d h=> ?_,λk d h=> ?_,(λ_ _ e=>by cases e),λk k' d d' a h=> ?_,rfl,(λL h=>by cases h),(λL h=>by cases h),(λ_ _ e=>by cases e),⟨λk y vd g hh h=> ?_,λk k' y vd g hh s h h' _=> ?_⟩,(λL h=>by cases h)⟩
 ·rw[aj (λq=>by rw[q,(r.owns hz).2.1]at e;cases e)];exact r.sub y u e
 ·have e':ke H ρ σ [i] y=GS u:=e
  rw[aj (λq=>by rw[q,a5H]at e';cases e')];exact uv e'
 ·obtain⟨_,q⟩:=only h;cases q
 ·obtain⟨_,q⟩:=only h;cases q
 ·obtain⟨_,q⟩:=only h;cases q
 ·obtain⟨_,q⟩:=only h;cases q
 ·obtain⟨rfl,q⟩:=only h
  cases q;exact⟨a,dx,b,rfl,A',λj d hj=>by obtain⟨_,q⟩:=only hj;cases q⟩
 ·rw[(only h).1,(only h').1]
end
section
variable {X:Cx} {a b e value:NS} {es:List NS} {fa fb f fv:aa->R D} {fs:aa->R (List D)} {pos px W8 Yi W7 We:Ox} {y g cls:NG} {xs:List NG}
def bT (i:Nat) (cls g:NG):aa->R D:=λρ=>match ρ[i]? with
 |some (GS (.cel x W5 _ _))=>if x=cls then R.of (W5.lookup g)else .bad
 |_=> .bad
theorem oP {c:cF ly} {i:Nat} {x:NG} {f:NG} (ri:RI K c ρ σ H F) (T:j6 K x C) (hi:ρ[i]? =GS (GS (.cel x W5 f hs))): ∃a dx b fs vs us,σ[i]? =GS (GS (.ref a))/\H a=GS (.ins C dx fs)/\lg K c.H0 H F a dx b x W5 f hs/\fs.lookup f=GS (.ref b)/\H b=GS (.lst us)/\Reps K F us hs/\RepF K F vs W5/\(∀p∈vs,fs.lookup p.1=GS p.2)/\ (∀g v,fs.lookup g=GS v->g=f\/g∈vs.map (·.1))/\(fs.map (·.1)).Nodup/\f∉vs.map (·.1):=by
 obtain⟨a,dx,b,k1,k2,k3⟩:=ri.cel.ex i x W5 f hs hi;obtain⟨C',fs,vs,us,g1,g2,g3⟩:=k2.ex;have:C'=C:=by have:=T.ns;rw[g2]at this;cases this;rfl
 subst this;exact⟨a,dx,b,fs,vs,us,k1,g1,k2,g3⟩
theorem Jj (i:Nat) (T:kN X.K cls xs) (hx:g∈xs) (hN:X.N[i]? =GS y:=by rfl) (hv:pz X.env.scope y:=by first|exact OG rfl|exact Oj (OG rfl)|exact Oj (Oj rfl)) (hd:(y==("__debug__":NG))=false:=by decide) (WG:(y==("__classdict__":NG))=false:=by decide) (hb:OJ (.Name y px) g X.env (O8 (.Name y px) X.env)=O8 (.Name y px) X.env:=by rfl):PQ ly X (.Attribute (.Name y px) g pos) (bT i cls g):=by
 obtain⟨C,h1,h2⟩:=T.ex;exact⟨λc=>PE.weak (q_ (pv i hN hv hd WG) hb) λσ H Q ⟨F,ρ,ri,w⟩=>by
  unfold bT at w;split at w
  ·rename_i x W5 f hs hi
   split at w
   ·rename_i hc
    subst hc;obtain⟨d,hd,k⟩:=w.of;obtain⟨a,dx,b,fs,vs,us,k1,k2,k3,k4,k5,k6,k7,k8,_⟩:=oP ri h1 hi;obtain⟨v,m1,m2⟩:=k7.get hd;exact⟨.ref a,k1,a,C,dx,fs,v,rfl,k2,h1.cl,h2 g hx,k8 _ m1,k v H F (b8.refl ri.sub) m2⟩
   ·exact w.elim
  ·exact w.elim⟩
def oQ (i:Nat) (cls g:NG):aa->R D:=λρ=>match ρ[i]? with
 |some (GS (.cel x _ f hs))=>if x=cls/\f=g then .ok (.lst hs)else .bad
 |_=> .bad
theorem Jk (i:Nat) (T:kN X.K cls xs) (hx:g∈xs) (hN:X.N[i]? =GS y:=by rfl) (hv:pz X.env.scope y:=by first|exact OG rfl|exact Oj (OG rfl)|exact Oj (Oj rfl)) (hd:(y==("__debug__":NG))=false:=by decide) (WG:(y==("__classdict__":NG))=false:=by decide) (hb:OJ (.Name y px) g X.env (O8 (.Name y px) X.env)=O8 (.Name y px) X.env:=by rfl):PB ly X (.Attribute (.Name y px) g pos) (oQ i cls g):=by
 obtain⟨C,h1,h2⟩:=T.ex;exact⟨λc=>PE.weak (q_ (pv i hN hv hd WG) hb) λσ H Q ⟨F,ρ,ri,w⟩=>by
  unfold oQ at w;split at w
  ·rename_i x W5 f hs hi
   split at w
   ·rename_i hc
    obtain⟨rfl,rfl⟩:=hc;obtain⟨a,dx,b,fs,vs,us,k1,k2,k3,k4,k5,k6,_⟩:=oP ri h1 hi;exact⟨.ref a,k1,a,C,dx,fs, .ref b,rfl,k2,h1.cl,h2 _ hx,k4,w (.ref b) H F (b8.refl ri.sub) (.inr ⟨b, .lst us,rfl,k5, .lst k6⟩)⟩
   ·exact w.elim
  ·exact w.elim⟩
def oR (i:Nat) (cls g:NG) (fv:aa->R D):aa->R aF:=λρ=>match ρ[i]? with
 |some (GS (.cel x W5 f hs))=>fv ρ>>=λd=>if x=cls/\(W5.lookup g).isSome=true/\W5.length<900 then .ok (.nx (ρ.set i (GS (.cel x (B7 g d W5) f hs))))else .bad
 |_=> .bad
theorem w_ {α:Type} {g:NG}:∀{l:List (NG×α)},(l.lookup g).isSome=true->g∈l.map (·.1)
 |(k,v)::r,h=>by
  rw[P5]at h;cases e:g==k with
  |true=>rw[eq_of_beq e];exact NZ
  |false=>rw[e]at h;exact O1 _ (w_ h)
theorem DC (i:Nat) (T:kN X.K cls xs) (hx:g∈xs) (hv:PQ ly X value fv) (hN:X.N[i]? =GS y:=by rfl) (a5I:pz X.env.scope y:=by first|exact OG rfl|exact Oj (OG rfl)|exact Oj (Oj rfl)) (hd:(y==("__debug__":NG))=false:=by decide) (WG:(y==("__classdict__":NG))=false:=by decide) (hs:ON value (GS (.Attribute (.Name y px) g We)) pos.line X.env=pure false:=by rfl):e_ ly X (.Assign [.Attribute (.Name y px) g We] value pos) (oR i cls g fv):=by
 obtain⟨C,h1,h2⟩:=T.ex;exact⟨λc=>PS.weak (I0 (pv i hN a5I hd WG) (hv c) hs) λD σ H ⟨F,ρ,ri,w⟩=>by
  unfold oR at w;split at w
  ·rename_i x W5 f hs hi
   refine⟨F,ρ,ri,(aw.bind.mp w).imp λd _ w1 v H1 F1 e1 r1=> ?_⟩;split at w1
   ·rename_i hc
    obtain⟨rfl,hl,Wa⟩:=hc;have Yc:=ri.step e1;obtain⟨a,dx,b,fs,vs,us,k1,k2,k3,k4,k5,k6,k7,k8,k9,a1K,a4J⟩:=oP Yc h1 hi;have a3Z:g∈vs.map (·.1):=by rw[k7.names];exact w_ hl
    have a5J:g≠f:=λz=>by rw[z]at a3Z;exact a4J a3Z
    have a2p:fs.length<1000:=by
     have:(fs.map (·.1)).length<=(f::vs.map (·.1)).length:=di a1K λq hq=>by
      obtain⟨u,hu⟩:=ka hq;rcases k9 q u hu with z|z
      ·rw[z];exact NZ
      ·exact O1 _ z
     rw[NK,O3,k7.names,NK]at this;omega
    refine⟨_,k1,a,C,dx,fs,rfl,k2,h1.cl,h2 g hx,a2p,?_⟩;have oa:fj H1 ρ σ i a:= .inr ⟨x,W5,f,hs,a,C,dx,fs,hi,k1,k2, .inl rfl⟩;have cz:∀z,(z=a\/z=dx\/fs.lookup f=GS (.ref z))->ke H1 ρ σ [i] z=JT:=λz hz=>lw (N_.mpr rfl) (.inr ⟨x,W5,f,hs,a,C,dx,fs,hi,k1,k2,hz⟩);have a5K:dx≠a:=λz=>by have:=k3.own;rw[z,k2]at this;cases this
    have a5L:b≠a:=λz=>by rw[z,k2]at k5;cases k5
    refine w1 σ _ F1 e1.grow (Yc.celUpd (dx:=dx) (b:=b) hi k1 oa ⟨⟨C,gW g v fs,vs.map (λp=>if p.1=g then (p.1,v)else p),us,ar,h1.ns,?_,?_,k6,k7.put r1,λp hp=> ?_,λq u hq=> ?_,vn _ _ a1K,?_⟩,?_,k3.fa,k3.fd,k3.fb,cz a (.inl rfl),cz dx (.inr (.inl rfl)),cz b (.inr (.inr k4))⟩)
    ·rw[cp,if_neg (Py a5J)];exact k4
    ·rw[aj a5L];exact k5
    ·obtain⟨q,hq,rfl⟩:=Oz.mp hp
     rw[cp];by_cases z:q.1=g
     ·rw[if_pos z,if_pos z]
     ·rw[if_neg z,if_neg z];exact k8 q hq
    ·have ZU:(vs.map (λp=>if p.1=g then (p.1,v)else p)).map (·.1)=vs.map (·.1):=by
      rw[OL];refine R1 λp _=> ?_;show (if p.1=g then (p.1,v)else p).1=p.1;split<;>rfl
     rw[ZU];rw[cp]at hq;by_cases z:q=g
     ·rw[z];exact .inr a3Z
     ·rw[if_neg z]at hq;exact k9 q u hq
    ·have ZU:(vs.map (λp=>if p.1=g then (p.1,v)else p)).map (·.1)=vs.map (·.1):=by
      rw[OL];refine R1 λp _=> ?_;show (if p.1=g then (p.1,v)else p).1=p.1;split<;>rfl
     rw[ZU];exact a4J
    ·rw[aj a5K];exact k3.own
   ·exact w1.elim
  ·exact w.elim⟩
theorem zN {c:cF ly} {i:Nat} {x:NG} {f:NG} {Wd:List D} {a dx b:NH} {fs:List (NG×V)} {us a3_:List V} (ri:RI K c ρ σ H F) (hi:ρ[i]? =GS (GS (.cel x W5 f hs))) (k1:σ[i]? =GS (GS (.ref a))) (k2:H a=GS (.ins C dx fs)) (k3:lg K c.H0 H F a dx b x W5 f hs) (k4:fs.lookup f=GS (.ref b)) (k5:H b=GS (.lst us)) (q:Reps K F a3_ Wd):RI K c (ρ.set i (GS (.cel x W5 f Wd))) σ (aS H b (.lst a3_)) F:=by
 have cz:∀z,(z=a\/z=dx\/fs.lookup f=GS (.ref z))->fj H ρ σ i z:=λz hz=> .inr ⟨x,W5,f,hs,a,C,dx,fs,hi,k1,k2,hz⟩;have cy:∀z,fj H ρ σ i z->ke H ρ σ [i] z=JT:=λz o=>lw (N_.mpr rfl) o;have a5M:a≠b:=λz=>by rw[<-z,k2]at k5;cases k5
 have a5N:dx≠b:=λz=>by have:=k3.own;rw[z,k5]at this;cases this
 obtain⟨C',Yx,vs,a7r,g1,g2,g3,g4,g5,g6,g7⟩:=k3.ex;rw[k2]at g1;cases g1;exact ri.celUpd (dx:=dx) (b:=b) hi k1 (cz b (.inr (.inr k4))) ⟨⟨C,fs,vs,a3_,by rw[aj a5M];exact k2,g2,k4,ar,q,g6,g7⟩,by rw[aj a5N];exact k3.own,k3.fa,k3.fd,k3.fb,cy _ (cz a (.inl rfl)),cy _ (cz dx (.inr (.inl rfl))),cy _ (cz b (.inr (.inr k4)))⟩
def oS (i:Nat) (cls g:NG) (f:aa->R D):aa->R aF:=λρ=>match ρ[i]? with
 |some (GS (.cel x W5 h hs))=>if x=cls/\h=g then (f ρ>>=λd=>if hs.length<lim then .ok (.nx (ρ.set i (GS (.cel x W5 h (hs++[d])))))else .bad)else .bad
 |_=> .bad
theorem DD (i:Nat) (T:kN X.K cls xs) (hx:g∈xs) (h:PQ ly X e f) (hN:X.N[i]? =GS y:=by rfl) (hv:pz X.env.scope y:=by first|exact OG rfl|exact Oj (OG rfl)|exact Oj (Oj rfl)) (hd:(y==("__debug__":NG))=false:=by decide) (WG:(y==("__classdict__":NG))=false:=by decide) (hb:OJ (.Name y px) g X.env (O8 (.Name y px) X.env)=O8 (.Name y px) X.env:=by rfl) (Wl:OJ (.Attribute (.Name y px) g Yi) "append" X.env (O8 (.Attribute (.Name y px) g Yi) X.env)=O8 (.Attribute (.Name y px) g Yi) X.env:=by rfl) (Xp:((Om W7 (NL [e] X.env)).all (λx=> !x.1)&&(Q2 W7 (Pg [] X.env)).all (λx=>x.1.isSome) &&decide (([e]:List NS).length+([]:List Qh).length+(if ([]:List Qh).isEmpty then 0 else 1)<30))=true:=by rfl) (Wm:(W8.endLine==W7.line)=true:=by rfl) (hs:NL [e] X.env=(false,O8 e X.env)::NL [] X.env:=by rfl) (Wn:(Om W7 (NL [] X.env)).any (·.1)=false:=by rfl) (Yg:ON (.Call (.Attribute (.Attribute (.Name y px) g Yi) "append" W8) [e] [] W7) JT pos.line X.env=pure false:=by rfl):e_ ly X (.Expr (.Call (.Attribute (.Attribute (.Name y px) g Yi) "append" W8) [e] [] W7) pos) (oS i cls g f):=by
 obtain⟨C,h1,h2⟩:=T.ex;exact⟨λc=>PS.weak (og (zn Pk Ta Tb mj (q_ (pv i hN hv hd WG) hb) (cU (h c) gX hs) Wl Xp Wm hs Wn) Yg) λD σ H ⟨F,ρ,ri,w⟩=>by
  unfold oS at w;split at w
  ·rename_i x W5 f' hs hi
   split at w
   ·rename_i hc
    obtain⟨rfl,rfl⟩:=hc;obtain⟨a,dx,b,fs,vs,us,k1,k2,k3,k4,k5,k6,_⟩:=oP ri h1 hi;refine⟨.ref a,k1,a,C,dx,fs, .ref b,rfl,k2,h1.cl,h2 _ hx,k4, .inl ⟨rfl,us,cP.of k5⟩,F,ρ,ri,(aw.bind.mp w).imp λd _ w1 v H1 F1 e1 r1=> ?_⟩;split at w1
    ·rename_i hl
     refine⟨b,us,v,rfl,rfl,e1.keep _ _ k5,Ol (by rw[k6.length];exact hl) fE,?_⟩;exact w1 σ _ F1 e1.grow (zN (ri.step e1) hi k1 (e1.keep _ _ k2) (k3.step e1) k4 (e1.keep _ _ k5) ((k6.mono e1.grow).append (.cons r1 .nil)))
    ·exact w1.elim
   ·exact w.elim
  ·exact w.elim⟩
def qR (j i:Nat) (cls g:NG):aa->R aF:=λρ=>match ρ[i]? with
 |some (GS (.cel x W5 h hs))=>if x=cls/\h=g then (match hs[hs.length - 1]? with
  |some d=> .ok (.nx ((ρ.set i (GS (.cel x W5 h hs.dropLast))).set j (GS (.val d))))
  |none=> .bad)else .bad
 |_=> .bad
theorem Reps.dropLast {K:ND} {F:Hp} {vs:List V} {ds:List D} (h:Reps K F vs ds):Reps K F vs.dropLast ds.dropLast:=by
 rw[U5,U5,h.length];exact h.take _
theorem DE (j i:Nat) {z:NG} (a40:X.N.Nodup) (T:kN X.K cls xs) (hx:g∈xs) (hN:X.N[i]? =GS y:=by rfl) (hv:pz X.env.scope y:=by first|exact OG rfl|exact Oj (OG rfl)|exact Oj (Oj rfl)) (hd:(y==("__debug__":NG))=false:=by decide) (WG:(y==("__classdict__":NG))=false:=by decide) (hb:OJ (.Name y px) g X.env (O8 (.Name y px) X.env)=O8 (.Name y px) X.env:=by rfl) (Wl:OJ (.Attribute (.Name y px) g Yi) "pop" X.env (O8 (.Attribute (.Name y px) g Yi) X.env)=O8 (.Attribute (.Name y px) g Yi) X.env:=by rfl) (Wm:(W8.endLine==W7.line)=true:=by rfl) (a5O:X.N[j]? =GS z:=by rfl) (a5P:yV X.env.scope z:=by first|exact OG rfl|exact Oj rfl) (Yg:ON (.Call (.Attribute (.Attribute (.Name y px) g Yi) "pop" W8) [] [] W7) (GS (.Name z We)) pos.line X.env=pure false:=by rfl) (hf:X.fn z=true\/X.env.scope.names.lookup z=GS .local:=by first|exact .inl rfl|exact .inr rfl|assumption) (WM:jW ly j:=by(repeat (first|assumption|exact L2.Pu.dB|refine L2.Pu.cK ⟨by first|decide|simp,by first|decide|simp⟩ ?_))): e_ ly X (.Assign [.Name z We] (.Call (.Attribute (.Attribute (.Name y px) g Yi) "pop" W8) [] [] W7) pos) (qR j i cls g):=by
 obtain⟨C,h1,h2⟩:=T.ex;exact⟨λc=>PS.weak (nq a40 a5O a5P (Cg Pk U6 U7 Ch (q_ (pv i hN hv hd WG) hb) Wl Wm) Yg hf) λD σ H ⟨F,ρ,ri,w⟩=>by
  unfold qR at w;split at w
  ·rename_i x W5 f' hs hi
   split at w
   ·rename_i hc
    obtain⟨rfl,rfl⟩:=hc;obtain⟨a,dx,b,fs,vs,us,k1,k2,k3,k4,k5,k6,_⟩:=oP ri h1 hi;split at w
    ·rename_i d hd
     obtain⟨v,m1,m2⟩:=k6.get hd;refine⟨.ref a,k1,a,C,dx,fs, .ref b,rfl,k2,h1.cl,h2 _ hx,k4, .inl ⟨rfl,us,cP.of k5⟩,b,us,v,rfl,rfl,k5,by rw[k6.length];exact m1,?_⟩;exact w _ _ F (aB.refl _) ((zN ri hi k1 k2 k3 k4 k5 k6.dropLast).setVal j WM m2)
    ·exact w.elim
   ·exact w.elim
  ·exact w.elim⟩
variable {fx:aa->R (D×aa)}
def n4 (f:aa->R D):aa->R aF:=λρ=>f ρ>>=λd=> .ok (.retc d ρ)
theorem Jl (h:PQ ly X e f):e_ ly X (.Return (GS e) pos) (n4 f):=⟨λc=>PS.weak (uM (h c)) λD σ H ⟨F,ρ,ri,w⟩=>
 ⟨F,ρ,ri,(aw.bind.mp w).imp λd _ w1 v H' F' e r=>w1 v σ H' F' e.grow (ri.step e) r⟩⟩
def jC (fx:aa->R (D×aa)):aa->R aF:=λρ=>fx ρ>>=λr=> .ok (.retc r.1 r.2)
theorem Jm (h:PX ly X e fx):e_ ly X (.Return (GS e) pos) (jC fx):=⟨λc=>PS.weak (uM (h c)) λD σ H ⟨F,ρ,ri,w⟩=>
 ⟨F,ρ,ri,(aw.bind.mp w).imp λr _ w1 v H' F' e Xq rv=>w1 v σ H' F' e Xq rv⟩⟩
def bH (fx:aa->R (D×aa)):aa->R aF:=λρ=>fx ρ>>=λr=> .ok (.nx r.2)
theorem G2 (h:PX ly X e fx) (Yg:ON e JT pos.line X.env=pure false:=by rfl):e_ ly X (.Expr e pos) (bH fx):=⟨λc=>PS.weak (og (h c) Yg) λD σ H ⟨F,ρ,ri,w⟩=>
 ⟨F,ρ,ri,(aw.bind.mp w).imp λr _ w1 v H' F' e Xq rv=>w1 σ H' F' e Xq⟩⟩
def x4 (i:Nat) (fx:aa->R (D×aa)):aa->R aF:=λρ=>fx ρ>>=λr=> .ok (.nx (r.2.set i (GS (.val r.1))))
theorem Jn (i:Nat) {x:NG} (hN:X.N.Nodup) (he:PX ly X e fx) (hi:X.N[i]? =GS x:=by rfl) (hx:yV X.env.scope x:=by first|exact OG rfl|exact Oj rfl) (hs:ON e (GS (.Name x We)) pos.line X.env=pure false:=by rfl) (hf:X.fn x=true\/X.env.scope.names.lookup x=GS .local:=by first|exact .inl rfl|exact .inr rfl|assumption) (WM:jW ly i:=by(repeat (first|assumption|exact L2.Pu.dB|refine L2.Pu.cK ⟨by first|decide|simp,by first|decide|simp⟩ ?_))):e_ ly X (.Assign [.Name x We] e pos) (x4 i fx):=⟨λc=>
 PS.weak (nq hN hi hx (he c) hs hf) λD σ H ⟨F,ρ,ri,w⟩=>⟨F,ρ,ri,(aw.bind.mp w).imp λr _ w1 v H' F' e Xq rv=>w1 _ H' F' e (Xq.setVal i WM rv)⟩⟩
def MM (K:ND) (c:cF ly) (gx:aa->R (Bool×aa)):TT:=λσ H Q=>∃F ρ,RI K c ρ σ H F/\aw c (gx ρ) λr=>∀H' F',aB F F'->RI K c r.2 σ H' F'->Q r.1 H'
structure EA (ly:List cR) (X:Cx) (e:NS) (gx:aa->R (Bool×aa)):Prop where
 ap:∀c:eG ly X,PT X e (MM X.K c.1 gx)
instance {ly:List cR} {X:Cx} {e:NS} {gx:aa->R (Bool×aa)}:CoeFun (EA ly X e gx) λ_=>∀c:eG ly X,PT X e (MM X.K c.1 gx):=⟨EA.ap⟩
def B8 (gx:aa->R (Bool×aa)) (g g':aa->R aF):aa->R aF:=λρ=>gx ρ>>=λr=>if r.1=true then g r.2 else g' r.2
theorem Lo {gx:aa->R (Bool×aa)} {g:aa->R aF} {ta tb:List Ob} (hc:EA ly X e gx) (ha:gY ly X ta g) (hb:gY ly X tb g'):e_ ly X (.If e ta tb pos) (B8 gx g g'):=⟨λc=>PS.weak (GK (hc c) (ha c) (hb c)) λD σ H ⟨F,ρ,ri,w⟩=>
 ⟨F,ρ,ri,(aw.bind.mp w).imp λr _ w1 H1 F1 e1 Yc=>by
  cases q:r.1 with
  |true=>rw[q]at w1;rw[if_pos rfl]at w1 ⊢;exact⟨F1,r.2,Yc,w1.imp λo _ k=>k.mono e1⟩
  |false=>rw[q]at w1;rw[if_neg Od]at w1 ⊢;exact⟨F1,r.2,Yc,w1.imp λo _ k=>k.mono e1⟩⟩⟩
end
mutual
inductive fX (f:NG):D->Prop
 |non:fX f .non
 |bl (b:Bool):fX f (.bl b)
 |int (i:Int):fX f (.int i)
 |str (x:NG):fX f (.str x)
 |tup {ds:List D}:Cleans f ds->fX f (.tup ds)
 |ins {x:NG} {fds:List (NG×D)}:fds.lookup f=JT->CleanF f fds->fX f (.ins x fds)
inductive Cleans (f:NG):List D->Prop
 |nil:Cleans f []
 |cons {d:D} {ds:List D}:fX f d->Cleans f ds->Cleans f (d::ds)
inductive CleanF (f:NG):List (NG×D)->Prop
 |nil:CleanF f []
 |cons {k:NG} {d:D} {ds:List (NG×D)}:fX f d->CleanF f ds->CleanF f ((k,d)::ds)
end
open Classical in
noncomputable def kg (F:Hp) (Ow:NH->Prop):Hp:=λz=>if Ow z then JT else F z
theorem oU (h:¬Ow z):kg F Ow z=F z:=if_neg h
theorem rT {u:HO} (h:kg F Ow z=GS u):¬Ow z/\F z=GS u:=by
 unfold kg at h;split at h
 ·cases h
 ·rename_i n;exact⟨n,h⟩
theorem cD.cut {f:NG} (hn:∀z,Ow z->∀vs,F z≠GS (.tup vs)) (hi:∀z,Ow z->∀C dx fs,F z=GS (.ins C dx fs)->fs.lookup f≠JT) (ho:∀z a,Ow z->F z=GS (.own a)->Ow a) {v:V} {d:D} (h:cD K F v d):fX f d->cD K (kg F Ow) v d:=by
 refine cD.rec (motive_1:=λv d _=>fX f d->cD K (kg F Ow) v d) (motive_2:=λv d _=>Cleans f d->Reps K (kg F Ow) v d) (motive_3:=λv d _=>True) (motive_4:=λv d _=>CleanF f d->RepF K (kg F Ow) v d)
  (λ_=> .non) (λb _=> .bl b) (λi _=> .int i) (λx _=> .str x) (λ{a vs ds} h _ ih c=> ?_) (λh _ ih c=>by cases c) (λh c=>by cases c) (λh _ n ih c=>by cases c) (λ{a C dx x fs vs fds} h1 h2 h3 h4 h5 h6 ih c=> ?_) (λh n c=>by cases c) (λ_=> .nil) (λ_ _ ih a41 c=> ?_) trivial (λ_ _ _ _=>trivial) (λ_=> .nil) (λ_ _ ih a41 c=> ?_) h
 ·cases c with
  |tup c=>exact .tup (by rw[oU (λo=>hn a o vs h)];exact h) (ih c)
 ·cases c with
  |ins cl c=>
   have na:¬Ow a:=λo=>by
    refine hi a o C dx fs h1 ?_;cases q:fs.lookup f with
    |none=>rfl
    |some u=>
     have:=h5 f u q;rw[h6.names]at this;exact absurd this (fG cl)
   have nd:¬Ow dx:=λo=>na (ho dx a o h2);exact .ins (by rw[oU na];exact h1) (by rw[oU nd];exact h2) h3 h4 h5 (ih c)
 ·cases c with
  |cons c1 c2=>exact .cons (ih c1) (a41 c2)
 ·cases c with
  |cons c1 c2=>exact .cons (ih c1) (a41 c2)
def Slot.frozen:Slot->Slot
 | .own d=> .val d
 | .cel x W5 f hs=> .val (.ins x (W5++[(f, .lst hs)]))
 |s=>s
theorem vq (s:Slot):s.frozen.frozen=s.frozen:=by cases s<;>rfl
def rV (i:Nat) (ρ:aa):aa:=match ρ[i]? with
 |some (GS s)=>ρ.set i (GS s.frozen)
 |_=>ρ
def oV (L:List Nat) (ρ:aa):aa:=L.foldl (λr i=>rV i r) ρ
theorem B9 (i:Nat) (ρ:aa):(rV i ρ).length=ρ.length:=by
 unfold rV;split
 ·simp
 ·rfl
theorem uy:∀(L:List Nat) (ρ:aa),(oV L ρ).length=ρ.length
 |[],ρ=>rfl
 |i::L,ρ=>(uy L (rV i ρ)).trans (B9 i ρ)
theorem uz {i j:Nat} {s:Slot} (h:(rV i ρ)[j]? =GS (GS s)):(i=j/\∃s0,ρ[j]? =GS (GS s0)/\s=s0.frozen)\/(i≠j/\ρ[j]? =GS (GS s)):=by
 unfold rV at h;split at h
 ·rename_i s0 hs
  rcases aq h with ⟨rfl,z,_⟩|⟨z,h⟩
  ·cases z;exact .inl ⟨rfl,s0,hs,rfl⟩
  ·exact .inr ⟨z,h⟩
 ·rename_i n
  refine .inr ⟨λe=> ?_,h⟩;subst e;exact n s h
theorem dk:∀{L:List Nat} {j:Nat} {ρ:aa} {s:Slot},(oV L ρ)[j]? =GS (GS s)->(j∈L/\∃s0,ρ[j]? =GS (GS s0)/\s=s0.frozen)\/(j∉L/\ρ[j]? =GS (GS s))
 |[],j,ρ,s,h=> .inr ⟨by simp,h⟩
 |i::L,j,ρ,s,h=>by
  rcases dk (L:=L) (ρ:=rV i ρ) h with ⟨h1,s0,h2,h3⟩|⟨h1,h2⟩
  ·refine .inl ⟨O1 _ h1,?_⟩
   rcases uz h2 with ⟨rfl,s1,g1,g2⟩|⟨_,g1⟩
   ·exact⟨s1,g1,by rw[h3,g2,vq]⟩
   ·exact⟨s0,g1,h3⟩
  ·rcases uz h2 with ⟨rfl,s1,g1,g2⟩|⟨n,g1⟩
   ·exact .inl ⟨NZ,s1,g1,g2⟩
   ·exact .inr ⟨λm=>(NW.mp m).elim (λq=>n q.symm) h1,g1⟩
open Classical in
noncomputable def lx (H F:Hp) (ρ:aa) (σ:St) (L:List Nat):Hp:=λz=>if ∃i∈L,fj H ρ σ i z then H z else F z
section
variable {K:ND} {c:cF ly} {ρ:aa} {σ:St} {H F H' F':Hp} {L:List Nat}
theorem mE {i:Nat} (hi:i∈L) (h:fj H ρ σ i z):lx H F ρ σ L z=H z:=if_pos ⟨i,hi,h⟩
theorem iA (h:¬∃i∈L,fj H ρ σ i z):lx H F ρ σ L z=F z:=if_neg h
theorem RepF.snoc {vs:List (NG×V)} {W5:List (NG×D)} {f:NG} {v:V} {d:D} (h:RepF K F vs W5) (r:cD K F v d):RepF K F (vs++[(f,v)]) (W5++[(f,d)]):=by
 induction W5 generalizing vs with
 |nil=>rw[h.nilI];exact .cons r .nil
 |cons p W5 ih=>
  obtain⟨k,x⟩:=p;obtain⟨u,us,rfl,h1,h2⟩:=h.consI;exact .cons h1 (ih h2)
theorem RI.lend (r:RI K c ρ σ H F) (L:List Nat):aB F (lx H F ρ σ L)/\RI K c (oV L ρ) σ H (lx H F ρ σ L):=by
 have grow:aB F (lx H F ρ σ L):=λz u e=>by
  by_cases o:∃i∈L,fj H ρ σ i z
  ·obtain⟨i,hi,o⟩:=o
   rw[(r.owns o).2.1]at e;cases e
  ·rw[iA o];exact e
 have out:∀{j:Nat} {z:NH},j∉L->fj H ρ σ j z->lx H F ρ σ L z=JT:=λ{j z} hj o=>by
  rw[iA (λ⟨i,hi,o'⟩=>hj (by rw[r.owns_inj o o'];exact hi))];exact(r.owns o).2.1
 refine⟨grow,⟨⟨λz u e=> ?_,r.ext.keep,r.ext.grow.trans grow,λz e=> ?_⟩,λj d h=> ?_,λj d h=> ?_,λj d h=> ?_,r.bh,λj j' d d' a h h'=> ?_,?_,λM hM h=> ?_,λM hM M' a1r h h'=> ?_,r.fm.trans grow,⟨λj x W5 f hs h=> ?_,λj j' x W5 f hs s h h' Wd=> ?_⟩,r.pin⟩⟩
 ·by_cases o:∃i∈L,fj H ρ σ i z
  ·obtain⟨i,hi,o⟩:=o
   rw[mE hi o]at e;exact e
  ·rw[iA o]at e;exact r.sub z u e
 ·by_cases o:∃i∈L,fj H ρ σ i z
  ·obtain⟨i,hi,o⟩:=o
   exact .inr (r.owns o).1
  ·rw[iA o]at e;exact r.ext.new z e
 ·rcases dk h with ⟨hj,s0,h1,h2⟩|⟨_,h1⟩
  ·cases s0 with
   |val d'=>cases h2;obtain⟨v,k1,k2⟩:=r.val j d h1;exact⟨v,k1,k2.mono grow⟩
   |own d'=>
    cases h2;obtain⟨a,o,k1,k2,k3,k4,k5⟩:=r.own j d h1;have fa:lx H F ρ σ L a=GS o:=by rw[mE hj (.inl ⟨d,h1,k1⟩)];exact k2
    refine⟨.ref a,k1,?_⟩;cases k5 with
    |lst q=>exact .lst fa (q.mono grow)
    |dic q n=>exact .dic fa (q.mono grow) n
   |cel x W5 f hs=>
    cases h2;obtain⟨a,dx,b,k1,k2,k3⟩:=r.cel.ex j x W5 f hs h1;have a2l:=k2;obtain⟨C,fs,vs,us,g1,g2,g3,g4,g5,g6,g7,g8,g9,a2N⟩:=k2.ex;have ow:∀z,(z=a\/z=dx\/fs.lookup f=GS (.ref z))->lx H F ρ σ L z=H z:=λz hz=>mE hj (.inr ⟨x,W5,f,hs,a,C,dx,fs,h1,k1,g1,hz⟩);refine⟨.ref a,k1, .ins (by rw[ow a (.inl rfl)];exact g1) (by rw[ow dx (.inr (.inl rfl))];exact k2.own) g2 (vs:=vs++[(f, .ref b)]) (λp hp=> ?_) (λg v hg=> ?_) ((g6.mono grow).snoc (.lst (by rw[ow b (.inr (.inr g3))];exact g4) (g5.mono grow)))⟩
    ·rcases OF.mp hp with q|q
     ·exact g7 p q
     ·rw[N_.mp q];exact g3
    ·rw[Oo]
     rcases g8 g v hg with q|q
     ·rw[q];exact O7 _ NZ
     ·exact O_ _ q
   |bor d'=>cases h2
   |obj=>cases h2
  ·obtain⟨v,k1,k2⟩:=r.val j d h1;exact⟨v,k1,k2.mono grow⟩
 ·rcases dk h with ⟨hj,s0,h1,h2⟩|⟨hj,h1⟩
  ·cases s0<;>cases h2
  ·obtain⟨a,o,k1,k2,k3,k4,k5⟩:=r.own j d h1
   exact⟨a,o,k1,k2,out hj (.inl ⟨d,h1,k1⟩),k4,k5.mono grow⟩
 ·rcases dk h with ⟨hj,s0,h1,h2⟩|⟨hj,h1⟩
  ·cases s0 with
   |bor d'=>cases h2;exact r.bor j d h1
   |_=>cases h2
  ·exact r.bor j d h1
 ·have un:∀{j:Nat} {d:D},(oV L ρ)[j]? =GS (GS (.own d))->ρ[j]? =GS (GS (.own d)):=λh=>by
   rcases dk h with ⟨hj,s0,h1,h2⟩|⟨hj,h1⟩
   ·cases s0<;>cases h2
   ·exact h1
  exact r.dis j j' d d' a (un h) (un h')
 ·rw[uy];exact r.len
 ·have h1:ρ[M.x]? =GS (GS .obj):=by
   rcases dk h with ⟨hj,s0,h1,h2⟩|⟨hj,h1⟩
   ·cases s0 with
    |obj=>exact h1
    |_=>cases h2
   ·exact h1
  obtain⟨a,dx,fs,k0,k1,k2,k3,k4,k5,k6⟩:=r.obj M hM h1;have no:∀{z:NH} {u:HO},H z=GS u->(∀d,¬im K F u d)->F z=JT->lx H F ρ σ L z=JT:=λ{z u} hz nr hf=>by
   rw[iA]
   ·exact hf
   ·rintro⟨i,hi,o⟩
    rcases o with ⟨d,g1,g2⟩|⟨x,W5,f,hs,a,C,dx,fs,g1,_⟩
    ·obtain⟨p,u',q1,q2,_,_,q5⟩:=r.own i d g1
     rw[g2]at q1;cases q1;rw[hz]at q2;cases q2;exact nr d q5
    ·have:=r.cel.one i M.x x W5 f hs _ g1 h1 rfl
     subst this;rw[h1]at g1;cases g1
  exact⟨a,dx,fs,k0,k1,k2,k3,no k2 (λd q=>by cases q) k4,no k3 (λd q=>by cases q) k5,k6⟩
 ·have un:∀{j:Nat},(oV L ρ)[j]? =GS (GS .obj)->ρ[j]? =GS (GS .obj):=λh=>by
   rcases dk h with ⟨hj,s0,h1,h2⟩|⟨hj,h1⟩
   ·cases s0 with
    |obj=>exact h1
    |_=>cases h2
   ·exact h1
  exact r.odis M hM M' a1r (un h) (un h')
 ·rcases dk h with ⟨hj,s0,h1,h2⟩|⟨hj,h1⟩
  ·cases s0<;>cases h2
  ·obtain⟨a,dx,b,k1,k2,k3⟩:=r.cel.ex j x W5 f hs h1
   have a2l:=k2;obtain⟨C,fs,vs,us,g1,g2,g3,g4,g5,g6,g7⟩:=k2.ex;have ow:∀z,(z=a\/z=dx\/fs.lookup f=GS (.ref z))->lx H F ρ σ L z=JT:=λz hz=>out hj (.inr ⟨x,W5,f,hs,a,C,dx,fs,h1,k1,g1,hz⟩);refine⟨a,dx,b,k1,⟨⟨C,fs,vs,us,g1,g2,g3,g4,g5.mono grow,g6.mono grow,g7⟩,k2.own,ow a (.inl rfl),ow dx (.inr (.inl rfl)),ow b (.inr (.inr g3)),k2.za,k2.zd,k2.zb⟩,λj' d h'=> ?_⟩;rcases dk h' with ⟨YA,s0,Zr,Xi⟩|⟨YA,Zr⟩
   ·cases s0<;>cases Xi
   ·exact k3 j' d Zr
 ·have un:∀{j:Nat} {s:Slot},(oV L ρ)[j]? =GS (GS s)->s.single=true->ρ[j]? =GS (GS s):=λh hs=>by
   rcases dk h with ⟨hj,s0,h1,h2⟩|⟨hj,h1⟩
   ·cases s0 with
    |obj=>rw[h2];exact h1
    |_=>rw[h2]at hs;cases hs
   ·exact h1
  exact r.cel.one j j' x W5 f hs s (un h rfl) (un h' Wd) Wd
def zO (f:NG) (ρ:aa) (i:Nat):Bool:=match ρ[i]? with
 |some (GS (.cel _ _ g _))=>g==f
 |_=>true
theorem RI.unlend (r:RI K c ρ σ H F) {f:NG} (hc:L.all (zO f ρ)=true) (e:b8 H (lx H F ρ σ L) H' F') {v:V} {d:D} (q:cD K F' v d) (cl:fX f d):∃F2,b8 H F H' F2/\cD K F2 v d:=by
 have up:∀{i:Nat} {z:NH} {u:HO},i∈L->fj H ρ σ i z->H z=GS u->F' z=GS u:=λhi o h=>e.grow _ _ (by rw[mE hi o];exact h);have WV:∀{i:Nat} {z:NH},i∈L->fj H ρ σ i z->(∃d,im K F (Option.getD (H z) (.own 0)) d/\∃u,H z=GS u)\/(∃C dx fs,H z=GS (.ins C dx fs)/\fs.lookup f≠JT)\/(∃a,H z=GS (.own a)/\fj H ρ σ i a)\/∃us,H z=GS (.lst us):=λ{i z} hi o=>by
  rcases o with ⟨d,g1,g2⟩|⟨x,W5,g,hs,a,C,dx,fs,g1,g2,g3,g4⟩
  ·obtain⟨p,u,q1,q2,_,_,q5⟩:=r.own i d g1
   rw[g2]at q1;cases q1;exact .inl ⟨d,by rw[q2];exact q5,u,q2⟩
  ·obtain⟨b,m1,m2,m3⟩:=r.celIn g1 g2 g3
   have hg:g=f:=by
    have:=PV.mp hc i hi;unfold zO at this;rw[g1]at this;simpa using this
   rcases g4 with rfl|rfl|g4
   ·exact .inr (.inl ⟨C,dx,fs,g3,by rw[<-hg,m2];simp⟩)
   ·exact .inr (.inr (.inl ⟨a,m1.own, .inr ⟨x,W5,g,hs,a,C,_,fs,g1,g2,g3, .inl rfl⟩⟩))
   ·rw[m2]at g4
    cases g4;obtain⟨C',Yx,vs,us,q1,q2,q3,q4,_⟩:=m1.ex;exact .inr (.inr (.inr ⟨us,q4⟩))
 refine⟨kg F' (λz=>∃i∈L,fj H ρ σ i z),⟨λz u h=>e.sub z u (rT h).2,e.keep,λz u h=> ?_,λz h=> ?_⟩,q.cut (f:=f) ?_ ?_ ?_ cl⟩
 ·have no:¬∃i∈L,fj H ρ σ i z:=λ⟨i,hi,o⟩=>by rw[(r.owns o).2.1]at h;cases h
  rw[oU no];exact e.grow z u (by rw[iA no];exact h)
 ·cases w:kg F' (λz=>∃i∈L,fj H ρ σ i z) z with
  |none=>exact absurd w h
  |some u=>
   obtain⟨no,w2⟩:=rT w;rcases e.new z (by rw[w2];simp)with k|k
   ·rw[iA no]at k;exact .inl k
   ·exact .inr k
 ·rintro z ⟨i,hi,o⟩ vs h
  obtain⟨_,_,u,hu⟩:=r.owns o;rw[up hi o hu]at h;cases h;rcases WV hi o with ⟨d,k,_⟩|⟨C,dx,fs,k,_⟩|⟨a,k,_⟩|⟨us,k⟩
  ·rw[hu]at k;cases k
  ·rw[hu]at k;cases k
  ·rw[hu]at k;cases k
  ·rw[hu]at k;cases k
 ·rintro z ⟨i,hi,o⟩ C dx fs h
  obtain⟨_,_,u,hu⟩:=r.owns o;rw[up hi o hu]at h;cases h;rcases WV hi o with ⟨d,k,_⟩|⟨C',a0R,Yx,k,k2⟩|⟨a,k,_⟩|⟨us,k⟩
  ·rw[hu]at k;cases k
  ·rw[hu]at k;cases k;exact k2
  ·rw[hu]at k;cases k
  ·rw[hu]at k;cases k
 ·rintro z a ⟨i,hi,o⟩ h
  obtain⟨_,_,u,hu⟩:=r.owns o;rw[up hi o hu]at h;cases h;rcases WV hi o with ⟨d,k,_⟩|⟨C',a0R,Yx,k,k2⟩|⟨a',k,k2⟩|⟨us,k⟩
  ·rw[hu]at k;cases k
  ·rw[hu]at k;cases k
  ·rw[hu]at k;cases k;exact⟨i,hi,k2⟩
  ·rw[hu]at k;cases k
end
section
variable {X:Cx} {e:NS} {es:List NS} {f:aa->R D} {g:aa->R Bool} {pos:Ox}
open Classical in
noncomputable def hJ (x:NG) (L:List Nat) (f:aa->R D):aa->R D:=λρ=>if L.all (zO x ρ)=true then (f (oV L ρ)>>=λd=>if fX x d then .ok d else .bad)else .bad
theorem G3 (x:NG) (L:List Nat) (h:PQ ly X e f):PQ ly X e (hJ x L f):=⟨λc=>PE.weak (h c) λσ H Q ⟨F,ρ,ri,w⟩=>by
 unfold hJ at w;split at w
 ·rename_i hc
  obtain⟨s,Xq⟩:=ri.lend L;refine⟨_,_,Xq,(aw.bind.mp w).imp λd _ w1 v H1 F1 e1 r1=> ?_⟩;split at w1
  ·rename_i cl
   obtain⟨F2,e2,r2⟩:=ri.unlend hc e1 r1 cl;exact w1 v H1 F2 e2 r2
  ·exact w1.elim
 ·exact w.elim⟩
def yA (L:List Nat) (g:aa->R Bool):aa->R Bool:=λρ=>g (oV L ρ)
theorem G4 (L:List Nat) (h:mn ly X e g):mn ly X e (yA L g):=⟨λc=>PT.weak (h c) λσ H Q ⟨F,ρ,ri,w⟩=>by
 obtain⟨s,Xq⟩:=ri.lend L;exact⟨_,_,Xq,aw.imp w λb _ w1 H1 F1 e1=>w1 H1 F (Dz ri.sub e1.keep)⟩⟩
end
theorem RI.fldO {c:cF ly} (r:RI K c ρ σ H F) {f:NG} {L:cR} (hL:L∈ly) (hρ:ρ[L.x]? =GS (GS .obj)) {a dx p:NH} {fs:List (NG×V)} {i:Nat} {o:HO} {d:D} (hx:σ[L.x]? =GS (GS (.ref a))) (ha:H a=GS (.ins L.C dx fs)) (hf:(f,i)∈L.fl) (hn:∀p∈L.fl,p.1=f<->p.2=i) (a1q:L.x≠i) (Zx:∀M∈ly,M≠L->M.x≠i/\∀p∈M.fl,p.2≠i) (a0m:i<σ.length) (hp:H p=GS o) (fp:F p=JT) (zp:c.H0 p=JT) (ro:im K F o d) (ne:∀(j:Nat) d',ρ[j]? =GS (GS (.own d'))->σ[j]? ≠GS (GS (.ref p))): RI K c (ρ.set i (GS (.own d))) (σ.set i (GS (.ref p))) (aS H a (.ins L.C dx (gW f (.ref p) fs))) F:=by
 obtain⟨b,a0R,Yx,k0,k1,k2,k3,k4,k5,k6,k7,k8,k9,a1K⟩:=r.obj L hL hρ;rw[hx]at k1;cases k1;rw[ha]at k2;cases k2;have a5Q:p≠a:=λz=>by subst z;rw[ha]at hp;cases hp;cases ro
 refine⟨⟨λx y e=> ?_,λx y e=> ?_,r.ext.grow,r.ext.new⟩,λj e q=> ?_,λj e q=> ?_,λj e q=> ?_,r.bh,λj k e e' x q1 q2 q3 q4=> ?_,by simp[r.len],λM hM hq=> ?_,λM hM M' a1r a2h a2i x q1 q2=> ?_,r.fm, .no λj x W5 g hs w=> ?_,λM hM a h=> ?_⟩
 ·rw[aj (λz=>by rw[z,k4]at e;cases e)];exact r.sub x y e
 ·rw[aj (λz=>by rw[z,k6]at e;cases e)];exact r.ext.keep x y e
 ·rcases aq q with ⟨rfl,z,l⟩|⟨z,q⟩
  ·cases z
  ·rw[af z];exact r.val j e q
 ·rcases aq q with ⟨rfl,z,l⟩|⟨z,q⟩
  ·cases z;exact⟨p,o,fD a0m,by rw[aj a5Q];exact hp,fp,zp,ro⟩
  ·obtain⟨x,o,g1,g2,g3,g4,g5⟩:=r.own j e q
   have nx:x≠a:=λz=>by subst z;rw[ha]at g2;cases g2;cases g5
   exact⟨x,o,by rw[af z];exact g1,by rw[aj nx];exact g2,g3,g4,g5⟩
 ·rcases aq q with ⟨rfl,z,l⟩|⟨z,q⟩
  ·cases z
  ·rw[af z];exact r.bor j e q
 ·rcases aq q1 with ⟨rfl,z,l⟩|⟨z,q1⟩
  ·rw[fD a0m]at q3
   cases q3;rcases aq q2 with ⟨rfl,z',l⟩|⟨z',q2⟩
   ·rfl
   ·rw[af z']at q4;exact absurd q4 (ne k e' q2)
  ·rw[af z]at q3
   rcases aq q2 with ⟨rfl,z',l⟩|⟨z',q2⟩
   ·rw[fD a0m]at q4
    cases q4;exact absurd q3 (ne j e q1)
   ·rw[af z']at q4
    exact r.dis j k e e' x q1 q2 q3 q4
 ·by_cases YK:M=L
  ·subst YK
   refine⟨a,dx,gW f (.ref p) fs,k0,by rw[af a1q.symm];exact hx,ar,?_,k4,k5,k6,k7,λp hp=> ?_,λg u hu=> ?_,vn _ _ a1K⟩
   ·rw[aj (λz=>by rw[z,ha]at k3;cases k3)];exact k3
   ·rw[cp]
    by_cases e:p.1=f
    ·rw[if_pos e,(hn p hp).mp e,fD a0m];rfl
    ·rw[if_neg e,af (λz=>e ((hn p hp).mpr z.symm))];exact k8 p hp
   ·rw[cp]at hu
    by_cases e:g=f
    ·subst e;exact Oz.mpr ⟨_,hf,rfl⟩
    ·rw[if_neg e]at hu;exact k9 g u hu
  ·have ho:=Zx M hM YK
   rw[af ho.1.symm]at hq;obtain⟨b,dy,gs,g0,g1,g2,g3,g4,g5,g6,g7,g8,g9⟩:=r.obj M hM hq;have nb:b≠a:=λz=>YK (r.odis M hM L hL hq hρ a (by rw[<-z];exact g1) hx);have nd:dy≠a:=λz=>by subst z;rw[ha]at g3;cases g3
   refine⟨b,dy,gs,g0,by rw[af ho.1.symm];exact g1,by rw[aj nb];exact g2,by rw[aj nd];exact g3,g4,g5,g6,g7,λp hp=> ?_,g9⟩;rw[af (ho.2 p hp).symm];exact g8 p hp
 ·have a0E:∀M∈ly,M.x≠i:=λM hM=>by
   by_cases YK:M=L
   ·subst YK;exact a1q
   ·exact(Zx M hM YK).1
  rw[af (a0E M hM).symm]at q1 a2h;rw[af (a0E M' a1r).symm]at q2 a2i;exact r.odis M hM M' a1r a2h a2i x q1 q2
 ·rcases aq w with ⟨rfl,z,l⟩|⟨z,w⟩
  ·cases z
  ·have:=r.cel.one j L.x x W5 g hs .obj w hρ rfl
   subst this;rw[hρ]at w;cases w
 ·have a0E:M.x≠i:=by
   by_cases YK:M=L
   ·subst YK;exact a1q
   ·exact(Zx M hM YK).1
  rw[af a0E.symm];exact r.pin M hM a h
section
variable {X:Cx} {pos We px pl:Ox} {f y g:NG}
def DF (x i:Nat):aa->R aF:=λρ=>match ρ[x]? with
 |some (GS .obj)=> .ok (.nx (ρ.set i (GS (.own (.lst [])))))
 |_=> .bad
theorem Jo {L:cR} (i:Nat) (hC:we X.K L.C) (n:dq X.K L.C f) (A:Dn ly L f i) (hN:X.N[L.x]? =GS y:=by rfl) (a3T:pz X.env.scope y:=by first|exact OG rfl|exact Oj (OG rfl)|exact Oj (Oj rfl)) (hd:(y==("__debug__":NG))=false:=by decide) (WG:(y==("__classdict__":NG))=false:=by decide) (hi:X.N[i]? =GS g:=by rfl) (hvis:¬pz X.env.scope g:=by decide+kernel) (hs:ON (.List [] pl) (GS (.Attribute (.Name y px) f We)) pos.line X.env=pure false:=by rfl): e_ ly X (.Assign [.Attribute (.Name y px) f We] (.List [] pl) pos) (DF L.x i):=by
 refine⟨?_⟩;intro c V_ s σ H D I q;obtain⟨F,ρ,ri,w⟩:=q;have a0m:i<σ.length:=by rw[I.len];exact(O6.mp hi).1
 unfold DF at w;split at w
 ·rename_i hρ
  refine zI i hi hvis (pv L.x hN a3T hd WG) (uP gX) hs V_ s σ H D I ⟨Pf _,λp hp=> ?_⟩;have Yc:=ri.step (b8.layOwn ri.sub (o:= .lst []) hp);obtain⟨a,dx,fs,h0,h1,h2,h3,h4,h5,h6,h7,h8,h9,a1s⟩:=Yc.obj L A.mem hρ;have Wa:fs.length<1000:=by
   have:(fs.map (·.1)).length<=(L.fl.map (·.1)).length:=di a1s λq hq=>by
    obtain⟨u,hu⟩:=ka hq;exact h9 q u hu
   rw[NK,NK]at this;exact Sb this A.few
  refine⟨_,h1,a,L.C,dx,fs,rfl,h2,hC,n,Wa,?_⟩;refine w _ _ F (aB.refl _) (Yc.fldO A.mem hρ h1 h2 A.fl A.un A.x A.oth a0m ar (ri.sub.free hp) (ri.ext.keep.free hp) (.lst .nil) λj d' hj e=> ?_);obtain⟨b,o',q1,q2,_⟩:=ri.own j d' hj;rw[e]at q1;cases q1;rw[hp]at q2;cases q2
 ·exact w.elim
end
def tq (fl:List (NG×Nat)) (fo:NG) (io:Nat) (ρ:aa):R (List (NG×D)×NG×List D):=match ρ[0]? with
 |some (GS Slot.obj)=>(match ρ[io]? with
  |some (GS (.own (.lst hs)))=>(match de fl ρ with
   |some fds=> .ok (fds,fo,hs)
   |none=> .bad)
  |_=> .bad)
 |_=> .bad
def lz (k n:Nat) (fl:List (NG×Nat)) (fo:NG) (io:Nat) (g:aa->R aF) (ds:List D):R (List (NG×D)×NG×List D):=if ds.length=k then g (jj n ds)>>=λo=>match o with
 | .nx ρ=>tq fl fo io ρ
 |_=> .bad else .bad
def zP (K:ND) (C:NH) (cls:NG) (k:Nat) (mi:List D->R (List (NG×D)×NG×List D)):Sp:=λvs H Q E=>∃F x dx us ds Hz,vs= .ref x::us/\us.length=k/\aB F Hz/\Hz x=JT/\Hz dx=JT/\dx≠x/\H=aS (aS Hz dx (.own x)) x (.ins C dx [])/\Reps K F us ds/\match mi ds with
 | .ok r=>∀H' F' a0R b,b8 Hz F H' F'->lg K Hz H' F' x a0R b cls r.1 r.2.1 r.2.2->Q .non H'
 | .err z _=>∀ec a H' F',cL K z ec->b8 Hz F H' F'->E ec a H'
 | .bad=>False
theorem G5 {fo:NG} {fl:List (NG×Nat)} {c:cF [⟨0,C,fl++[(fo,io)]⟩]} {fds:List (NG×D)} {x:NH} (ri:RI K c ρ σ H F) (hρ:ρ[0]? =GS (GS .obj)) (a3U:c.oa 0=GS x) (Zu:O0 K NU cls=GS (GS (.ref C))) (ho:ρ[io]? =GS (GS (.own (.lst hs)))) (h:de fl ρ=GS fds) (a2q:fo∉fl.map (·.1)):∃dx b,lg K c.H0 H F x dx b cls fds fo hs:=by
 obtain⟨a,dx,fs,h0,h1,h2,h3,h4,h5,h6,h7,h8,h9,a1s⟩:=ri.obj _ (N_.mpr rfl) hρ;cases h0 x a3U;obtain⟨vs,g1,g2,g3⟩:=nK ri h λp hp=>h8 p (O_ _ hp);obtain⟨b,o,k1,k2,k3,k4,k5⟩:=ri.own io _ ho;cases k5 with
 |lst q=>
  have lf:fs.lookup fo=GS (.ref b):=by
   have:=h8 (fo,io) (O7 _ NZ);rw[this];show (σ[io]?).join=_;rw[k1];rfl
  refine⟨dx,b,⟨⟨C,fs,vs,_,h2,Zu,lf,k2,q,g1,g3,λg v hg=> ?_,a1s,by rw[g2];exact a2q⟩,h3,h4,h5,k3,h6,h7,k4⟩⟩;have:=h9 g v hg;rw[Oo]at this;rcases OF.mp this with z|z
  ·exact .inr (by rw[g2];exact z)
  ·exact .inl (N_.mp z)
theorem DG {x fo:NG} {f:NH} {k m:Nat} {fl:List (NG×Nat)} {g:aa->R aF} (F:zq K x qual st f fd) (S:aL N ps (ao st)) (Zu:O0 K NU cls=GS (GS (.ref C))) (hn:ps.length=n+1) (hm:N.length=m+1) (hg:∀p∈fl++[(fo,io)],n<p.2) (ZO:n<=m) (a2q:fo∉fl.map (·.1)) (Wg:∀(W2:NF) (A:Oc) (outer:List Pw) (s:NI) (H:Hp) (E:XK),br k (A.deeper (PY qual (ao st) s.heap.objs.size f W2))-> gY [⟨0,C,fl++[(fo,io)]⟩] (ik (kX P w) P w K mg base N qual (ao st) f W2 A outer s H E) (aQ st) g):eF P w K mg base (kX P w) (k+1) f fd ps (zP K C cls n (lz n m fl fo io g)):=by
 refine Ha F S (λvs H Q E h=> ?_) (λW2 A outer s H vs Q E hr h=> ?_)
 ·obtain⟨Fz,y,dy,us,ds,Hz,rfl,hl,_⟩:=h
  rw[O3,hl,hn]
 ·obtain⟨Fz,y,dy,us,ds,Hz,rfl,hl,sub,hy,a2j,WK,rfl,r,w⟩:=h
  refine⟨_,Wg W2 A outer s _ E hr ⟨⟨Hz,Fz,λ_=>JT,λz _=>∀ec a H' F',cL K z ec->b8 Hz Fz H' F'->E ec a H',λ_=>GS y,λ_=>JT⟩,rM λz ρ er ec a H' F' σ hc ri=>er ec a H' F' hc ri.ext⟩,?_⟩;refine⟨Fz,jj m ds,ul hm sub hy a2j WK r (by omega) (λp hp=>by rw[hl];exact hg p hp),?_⟩;have hd:ds.length=n:=by rw[<-r.length];exact hl
  unfold lz at w;rw[if_pos hd]at w;cases e:g (jj m ds)with
  |bad=>rw[e]at w;exact w.elim
  |err c ρ=>rw[e]at w;exact w
  |ok o=>
   rw[e]at w;cases o with
   |nx ρ=>
    intro σ' H' F' _ Xq;rw[ag]at w;cases hρ:ρ[0]? with
    |none=>simp only[tq,hρ]at w
    |some s0=>
     cases s0 with
     |none=>simp only[tq,hρ]at w
     |some s0=>
      cases s0 with
      |obj=>
       cases ho:ρ[io]? with
       |none=>simp only[tq,hρ,ho]at w
       |some s1=>
        cases s1 with
        |none=>simp only[tq,hρ,ho]at w
        |some s1=>
         cases s1 with
         |own d=>
          cases d with
          |lst hs=>
           cases e2:de fl ρ with
           |none=>simp only[tq,hρ,ho,e2]at w
           |some a5C=>
            simp only[tq,hρ,ho,e2]at w;obtain⟨dx,b,A⟩:=G5 Xq hρ rfl Zu ho e2 a2q;exact w H' F' dx b Xq.ext A
          |_=>simp only[tq,hρ,ho]at w
         |_=>simp only[tq,hρ,ho]at w
      |_=>simp only[tq,hρ]at w
   |_=>exact w.elim
structure zQ (P:NM) (w:NV) (K:ND) (mg:NG->Option NF) (base:NT) (k:Nat) (cls:NG) (n:Nat) (mi:List D->R (List (NG×D)×NG×List D)):Prop where
 ex:∃C f fd ps,eF P w K mg base (kX P w) k f fd ps (zP K C cls n mi)/\mg cls=GS (.ref C)/\Mk K C f/\eZ K fd ps []
theorem DH {fo:NG} {fs:List NG} {k m:Nat} {fl:List (NG×Nat)} {g:aa->R aF} (A:pK K mg cls qual st ps fs) (S:aL N ps (ao st)) (hn:ps.length=n+1) (hm:N.length=m+1) (hg:∀p∈fl++[(fo,io)],n<p.2) (ZO:n<=m) (a2q:fo∉fl.map (·.1)) (Wg:∀(C f:NH) (W2:NF) (A:Oc) (outer:List Pw) (s:NI) (H:Hp) (E:XK),we K C->(∀x∈fs,dq K C x)->br k (A.deeper (PY qual (ao st) s.heap.objs.size f W2))-> gY [⟨0,C,fl++[(fo,io)]⟩] (ik (kX P w) P w K mg base N qual (ao st) f W2 A outer s H E) (aQ st) g):zQ P w K mg base (k+1) cls n (lz n m fl fo io g):=by
 obtain⟨C,f,fd,F,h1,h2,h3,h4,h5⟩:=A.ex;exact⟨C,f,fd,ps,DG F S h1.ns hn hm hg ZO a2q λW2 A outer s H E hr=>Wg C f W2 A outer s H E h1.cl h5 hr,h2,h3,h4⟩
def LY (i:Nat) (ρ:aa):Bool:=(Ov ρ.length).all λj=>j==i||(match ρ[j]? with
 |some (GS s)=> !s.single
 |_=>true)
theorem vt {i j:Nat} {s:Slot} (h:LY i ρ=true) (hs:ρ[j]? =GS (GS s)) (hj:j≠i):s.single=false:=by
 have:=PV.mp h j (OO.mpr (O6.mp hs).1);rw[hs]at this;simpa[hj]using this
theorem RI.setCel {c:cF ly} (r:RI K c ρ σ H F) (i:Nat) {a dx b:NH} {x:NG} {W5:List (NG×D)} {f:NG} {hs:List D} (hf:jW ly i) (hn:LY i ρ=true) (A:lg K c.H0 H F a dx b x W5 f hs) (ne:∀(j:Nat) d',ρ[j]? =GS (GS (.own d'))->σ[j]? ≠GS (GS (.ref b))):
  RI K c (ρ.set i (GS (.cel x W5 f hs))) (σ.set i (GS (.ref a))) H F where
 obj:=λL hL hρ=>by
  rw[af (hf L hL).1.symm]at hρ;have:=vt hn hρ (hf L hL).1;cases this
 odis:=λL hL L' YD q1 q2 b k1 k2=>by
  rw[af (hf L hL).1.symm]at k1 q1;rw[af (hf L' YD).1.symm]at k2 q2;exact r.odis L hL L' YD q1 q2 b k1 k2
 fm:=r.fm
 ext:=r.ext
 val:=λj e q=>by
  rcases aq q with ⟨rfl,z,l⟩|⟨z,q⟩
  ·cases z
  ·rw[af z];exact r.val j e q
 own:=λj e q=>by
  rcases aq q with ⟨rfl,z,l⟩|⟨z,q⟩
  ·cases z
  ·rw[af z];exact r.own j e q
 bor:=λj e q=>by
  rcases aq q with ⟨rfl,z,l⟩|⟨z,q⟩
  ·cases z
  ·rw[af z];exact r.bor j e q
 bh:=r.bh
 dis:=λj k e e' a q1 q2 q3 q4=>by
  rcases aq q1 with ⟨rfl,z,l⟩|⟨z,q1⟩
  ·cases z
  ·rcases aq q2 with ⟨rfl,z',l⟩|⟨z',q2⟩
   ·cases z'
   ·rw[af z]at q3;rw[af z']at q4
    exact r.dis j k e e' a q1 q2 q3 q4
 len:=by simp[r.len]
 pin:=λL hL b h=>by rw[af (hf L hL).1.symm];exact r.pin L hL b h
 cel:=by
  refine⟨λj y vd g hh q=> ?_,λj k y vd g hh s q1 q2 Wd=> ?_⟩
  ·rcases aq q with ⟨rfl,z,l⟩|⟨z,q⟩
   ·cases z
    refine⟨a,dx,b,fD (by rw[<-r.len];exact l),A,λk d hk=> ?_⟩;rcases aq hk with ⟨rfl,z',l'⟩|⟨z',hk⟩
    ·cases z'
    ·rw[af z'];exact ne k d hk
   ·have:=vt hn q (Py z)
    cases this
  ·rcases aq q1 with ⟨rfl,z,l⟩|⟨z,q1⟩
   ·rcases aq q2 with ⟨rfl,z',l'⟩|⟨z',q2⟩
    ·rfl
    ·have:=vt hn q2 (Py z')
     rw[Wd]at this;cases this
   ·have:=vt hn q1 (Py z)
    cases this
section
variable {X:Cx} {e:NS} {es:List NS} {fs:aa->R (List D)} {cls:NG} {p pos WW We:Ox}
def rW (i:Nat) (cls:NG) (n:Nat) (mi:List D->R (List (NG×D)×NG×List D)) (fs:aa->R (List D)):aa->R aF:=λρ=>if LY i ρ=true then (fs ρ>>=λds=>if ds.length=n then (match mi ds with
 | .ok r=> .ok (.nx (ρ.set i (GS (.cel cls r.1 r.2.1 r.2.2))))
 | .err x _=> .err x ρ
 | .bad=> .bad)else .bad)else .bad
theorem G6 (i:Nat) {x:NG} {k n:Nat} {mi:List D->R (List (NG×D)×NG×List D)} (a40:X.N.Nodup) (G:zQ X.prog X.w X.K X.mg X.base k cls n mi) (hr:br (k+1) X.A) (ha:t7 ly X (e::es) fs) (hi:X.N[i]? =GS x:=by rfl) (hx:yV X.env.scope x:=by first|exact OG rfl|exact Oj rfl) (hs:ON (.Call (.Name cls p) (e::es) [] pos) (GS (.Name x We)) WW.line X.env=pure false:=by rfl) (hf:X.fn x=true\/X.env.scope.names.lookup x=GS .local:=by first|exact .inl rfl|exact .inr rfl|assumption) (hg:Gl X cls:=by rfl) (WL:(cls==("__debug__":NG))=false:=by decide) (he:NL (e::es) X.env=(false,O8 e X.env)::NL es X.env:=by rfl) (WA:(Om pos (NL es X.env)).any (·.1)=false:=by rfl) (WM:jW ly i:=by(repeat (first|assumption|exact L2.Pu.dB|refine L2.Pu.cK ⟨by first|decide|simp,by first|decide|simp⟩ ?_))):e_ ly X (.Assign [.Name x We] (.Call (.Name cls p) (e::es) [] pos) WW) (rW i cls n mi fs):=by
 obtain⟨C,f,fd,ps,h1,h2,h3,h4⟩:=G.ex;refine⟨λc=>PS.weak (nq a40 hi hx (zi h3 h1 hr hg h2 h4 .nil (oB c) (ha c) WL he WA) hs hf) λD σ H q=> ?_⟩;obtain⟨F,ρ,ri,w⟩:=q;unfold rW at w;split at w
 ·rename_i hn
  refine⟨F,ρ,ri,(aw.bind.mp w).imp λds _ w1 vs H1 F1 e1 r1 y dy hy a2j WK=> ?_⟩;rw[P2];split at w1
  ·rename_i hl
   have Yc:=ri.step e1;refine⟨F1,y,dy,vs,ds,H1,rfl,by rw[r1.length];exact hl,e1.sub,hy,a2j,WK,rfl,r1,?_⟩;split at w1
   ·rename_i r hm
    intro H' F' a0R b e' A;refine⟨rfl,?_⟩;have kf:∀{z:NH},H1 z=JT->c.1.H0 z=JT:=λh=>Yc.ext.keep.free h;refine w1 _ H' F' (e1.grow.trans e'.grow) ((Yc.step e').setCel i WM hn ⟨A.ex,A.own,A.fa,A.fd,A.fb,kf A.za,kf A.zd,kf A.zb⟩ λj d' hj ej=> ?_);obtain⟨q,o,q1,q2,_⟩:=Yc.own j d' hj;rw[ej]at q1;cases q1;have:=A.zb;rw[q2]at this;cases this
   ·exact λec a H' F' hc e'=>⟨_,ρ,F',hc,Yc.step e',w1⟩
   ·exact w1.elim
  ·exact w1.elim
 ·exact w.elim
end
section
variable {K:ND} {F:Hp}
def fY:List D->Option (List Bool)
 |[]=>GS []
 | .bl b::r=>(fY r).map (b::·)
 |_=>JT
theorem mF:∀{ds:List D} {bs:List Bool} {vs:List V},fY ds=GS bs->Reps K F vs ds->vs=bs.map V.bl:=by
 intro ds
 induction ds with
 |nil=>intro bs vs h r;cases h;rw[r.nilI];rfl
 |cons d r ih=>
  intro bs vs h g;obtain⟨v,us,rfl,r1,t⟩:=g.consI;cases d with
  |bl b=>
   cases r1
   replace h:(fY r).map (b::·)=GS bs:=h
   cases e:fY r with
   |none=>rw[e]at h;cases h
   |some ms=>rw[e]at h;cases h;rw[ih e t];rfl
  |_=>cases h
theorem uA (bs:List Bool):fY (bs.map .bl)=GS bs:=by
 induction bs with
 |nil=>rfl
 |cons n r ih=>show (fY (r.map D.bl)).map (n::·)=_;rw[ih];rfl
def tu:List D->Option D
 |[.lst ds]=>(fY ds).map λbs=> .bl (bs.any id)
 |_=>JT
theorem G7:kY K (λxs H Q=>∃(p:NH) (bs:List Bool),xs=[.ref p]/\cP K H p (bs.map V.bl)/\Q (.bl (bs.any id)) H) tu:=by
 intro vs ds d H F Q s rv h k
 match ds,h with
 |[.lst xs],h=>
  obtain⟨v,rfl,r⟩:=rv.one;obtain⟨a,ws,rfl,h1,h2⟩:=r.lst s
  replace h:(fY xs).map (λbs=>D.bl (bs.any id))=GS d:=h
  cases e:fY xs with
  |none=>rw[e]at h;cases h
  |some bs=>
   rw[e]at h;cases h;rw[mF e h2]at h1;exact⟨a,bs,rfl,cP.of h1,k _ H F (b8.refl s) (.bl _)⟩
theorem DI:Ot "any"=GS (.builtin "any"):=by decide+kernel
end
section
variable {X:Cx} {a o e:NS} {fa fo fk:aa->R D} {W8 W7 pos Xh p1 p2:Ox}
def kh (f:aa->R D):aa->R D:=λρ=>f ρ>>=λd=>match d with
 | .lst ds=>(match bO ds with|some ns=>if ns.length<4000 then .ok (.int (fz ns))else .bad|none=> .bad)
 | .tup ds=>(match bO ds with|some ns=>if ns.length<4000 then .ok (.int (fz ns))else .bad|none=> .bad)
 |_=> .bad
theorem DJ (hc:X.calm=true) (a3G:X.mg "len"=JT) (a2a:X.mg "set"=JT) (ha:PB ly X a fa) (a3H:Gl X "len":=by rfl) (a3I:Gl X "set":=by rfl) (a2J:NL [a] X.env=(false,O8 a X.env)::NL [] X.env:=by rfl) (a1i:(Om Xh (NL [] X.env)).any (·.1)=false:=by rfl) (a09:NL [.Call (.Name "set" p2) [a] [] Xh] X.env=(false,O8 (.Call (.Name "set" p2) [a] [] Xh) X.env)::NL [] X.env:=by rfl) (a1j:(Om pos (NL [] X.env)).any (·.1)=false:=by rfl): PQ ly X (.Call (.Name "len" p1) [.Call (.Name "set" p2) [a] [] Xh] [] pos) (kh fa):=⟨λc=>
 PE.weak (AJ hc (ha c) a3G a2a a3H a3I a2J a1i a09 a1j) λσ H Q ⟨F,ρ,ri,w⟩=>⟨F,ρ,ri,(aw.bind.mp w).imp λd _ w1 v H1 F1 e1 r1=>by
  cases d with
  |lst ds=>
   obtain⟨p,vs,rfl,h1,h2⟩:=r1.lst e1.sub;cases q:bO ds with
   |none=>simp only[q]at w1;exact w1.elim
   |some ns=>
    simp only[q]at w1;split at w1
    ·rename_i hl
     rw[gk q h2]at h1;exact⟨p,ns,rfl, .inl (cP.of h1),hl,w1 _ H1 F1 e1 (.int _)⟩
    ·exact w1.elim
  |tup ds=>
   obtain⟨p,vs,rfl,h1,h2⟩:=r1.tup e1.sub;cases q:bO ds with
   |none=>simp only[q]at w1;exact w1.elim
   |some ns=>
    simp only[q]at w1;split at w1
    ·rename_i hl
     rw[gk q h2]at h1;exact⟨p,ns,rfl, .inr (gf.of h1),hl,w1 _ H1 F1 e1 (.int _)⟩
    ·exact w1.elim
  |_=>exact w1.elim⟩⟩
def DK (fo fk:aa->R D):aa->R D:=λρ=>fo ρ>>=λd=>match d with
 | .lst ds=>fk ρ>>=λk=>(match fY ds,k with
  |some bs, .bl b=> .ok (.int (bs.count b))
  |_,_=> .bad)
 |_=> .bad
def DL (fo fk:aa->R D):aa->R D:=λρ=>fo ρ>>=λd=>match d with
 | .lst ds=>fk ρ>>=λk=>(match fY ds,k with
  |some bs, .bl b=>if b∈bs/\bs.length<1000 then .ok (.int (bs.idxOf b))else .bad
  |_,_=> .bad)
 |_=> .bad
theorem Jp (ho:PB ly X o fo) (hk:PQ ly X a fk) (Wl:OJ o "count" X.env (O8 o X.env)=O8 o X.env:=by rfl) (Xp:((Om W7 (NL [a] X.env)).all (λx=> !x.1)&&(Q2 W7 (Pg [] X.env)).all (λx=>x.1.isSome) &&decide (([a]:List NS).length+([]:List Qh).length+(if ([]:List Qh).isEmpty then 0 else 1)<30))=true:=by rfl) (Wm:(W8.endLine==W7.line)=true:=by rfl) (hs:NL [a] X.env=(false,O8 a X.env)::NL [] X.env:=by rfl) (Wn:(Om W7 (NL [] X.env)).any (·.1)=false:=by rfl): PQ ly X (.Call (.Attribute o "count" W8) [a] [] W7) (DK fo fk):=⟨λc=>
 PE.weak (zn Pk QB Tj AF (ho c) (cU (hk c) gX hs) Wl Xp Wm hs Wn) λσ H Q ⟨F,ρ,ri,w⟩=>⟨F,ρ,ri,(aw.bind.mp w).imp λd _ w1 v H1 F1 e1 r1=>by
  cases d with
  |lst ds=>
   obtain⟨p,vs,rfl,h1,h2⟩:=r1.lst e1.sub;refine⟨.inl ⟨rfl,vs,cP.of h1⟩,F1,ρ,ri.step e1,(aw.bind.mp w1).imp λk _ w2 u H2 F2 e2 r2=> ?_⟩;cases q:fY ds with
   |none=>simp only[q]at w2;exact w2.elim
   |some bs=>
    cases k with
    |bl b=>
     cases r2;simp only[q]at w2;rw[mF q h2]at h1;exact⟨p,b,bs,rfl,rfl,cP.of (e2.keep _ _ h1),w2 _ H2 F2 (e1.trans e2) (.int _)⟩
    |_=>simp only[q]at w2;exact w2.elim
  |_=>exact w1.elim⟩⟩
theorem Jq (ho:PB ly X o fo) (hk:PQ ly X a fk) (Wl:OJ o "index" X.env (O8 o X.env)=O8 o X.env:=by rfl) (Xp:((Om W7 (NL [a] X.env)).all (λx=> !x.1)&&(Q2 W7 (Pg [] X.env)).all (λx=>x.1.isSome) &&decide (([a]:List NS).length+([]:List Qh).length+(if ([]:List Qh).isEmpty then 0 else 1)<30))=true:=by rfl) (Wm:(W8.endLine==W7.line)=true:=by rfl) (hs:NL [a] X.env=(false,O8 a X.env)::NL [] X.env:=by rfl) (Wn:(Om W7 (NL [] X.env)).any (·.1)=false:=by rfl): PQ ly X (.Call (.Attribute o "index" W8) [a] [] W7) (DL fo fk):=⟨λc=>
 PE.weak (zn Pk Ti PySem.F.type_list_index AG (ho c) (cU (hk c) gX hs) Wl Xp Wm hs Wn) λσ H Q ⟨F,ρ,ri,w⟩=>⟨F,ρ,ri,(aw.bind.mp w).imp λd _ w1 v H1 F1 e1 r1=>by
  cases d with
  |lst ds=>
   obtain⟨p,vs,rfl,h1,h2⟩:=r1.lst e1.sub;refine⟨.inl ⟨rfl,vs,cP.of h1⟩,F1,ρ,ri.step e1,(aw.bind.mp w1).imp λk _ w2 u H2 F2 e2 r2=> ?_⟩;cases q:fY ds with
   |none=>simp only[q]at w2;exact w2.elim
   |some bs=>
    cases k with
    |bl b=>
     cases r2;simp only[q]at w2;split at w2
     ·rename_i hb
      rw[mF q h2]at h1;exact⟨p,b,bs,rfl,rfl,cP.of (e2.keep _ _ h1),hb.1,hb.2,w2 _ H2 F2 (e1.trans e2) (.int _)⟩
     ·exact w2.elim
    |_=>simp only[q]at w2;exact w2.elim
  |_=>exact w1.elim⟩⟩
end
end L2.Pu
namespace L2
section
variable {X:Cx}
theorem yB (bs:List Bool):((Ov bs.length).all λi=>bs.getD i false)=bs.all id:=by
 rw[QE,PV,PV];constructor
 ·intro h b hb
  obtain⟨i,hi,e⟩:=PU hb;have:=h i (OO.mpr hi);simp[hi,e]at this;exact this
 ·intro h i hi
  have hi:=OO.mp hi;have:=h bs[i] (Pl hi);simpa[hi]using this
theorem Ba (hc:X.calm=true):cJ X (.builtin "all") (λxs H Q=>∃(p:NH) (bs:List Bool),xs=[.ref p]/\cP X.K H p (bs.map V.bl)/\Q (.bl (bs.all id)) H):=by
 intro V_ s σ H xs us Q I rv h;obtain⟨p,bs,rfl,hx,q⟩:=h;obtain⟨u,rfl,ru⟩:=ij rv;cases ru;obtain⟨its,r,ht,hz⟩:=I.list hx;have hl:=ht.isList;have Ww:p<s.heap.objs.size:=by obtain⟨_,e,_⟩:=hl;exact NX e
 refine call_all_walk (QJ hl ?_);refine⟨s.heap.objs.size,[s.heap.objs.size,p],[s.heap.objs.size],its.toArray.size,_,_,λi=>bs.getD i false,rfl,Uj (A:=X.A.in1) (I.ok.hd hc) _ p (Og Ww) its.toArray,⟨⟨_,Oe _ rfl,rfl,rfl⟩,hl.push _⟩,λi v s' Q' E' hP hQ=> ?_,λh' tk hk=> ?_⟩
 ·obtain⟨b,e,rfl⟩:=lc r (i:=i) (v:=v) (by simpa using hP)
  have:bs.getD i false=b:=by simp[OD,e]
  dsimp only at hQ;rw[this]at hQ;exact PF hQ
 ·have e:((Ov its.toArray.size).all λi=>bs.getD i false)=bs.all id:=by
   have hl:=r.length;rw[NK]at hl;rw[NR,<-hl];exact yB bs
  rw[e];exact⟨.bl _,H,I.kept (ue hk),rfl,q⟩
def Jr (k:Int):NF->Bool
 | .int b _=>b==k
 |_=>false
theorem vv {k:Int}:∀{ns:List Int} {its:List NF},aC (ns.map V.int) its->its.countP (Jr k)=ns.count k
 |[],its,r=>by cases r;rfl
 |b::bs,its,r=>by
  cases r with
  |cons h t=>obtain⟨u,rfl⟩:=h;rw[Ve,Vw,vv t];rfl
def zR (K:ND):V->List V->Hp->VK->Prop:=λx vs H Q=>∃(l:NH) (k:Int) (ns:List Int),x= .ref l/\vs=[.int k]/\cP K H l (ns.map V.int)/\Q (.int (ns.count k)) H
theorem Bb:Ih X "list.count" (zR X.K):=by
 intro V_ s σ H x vs v us Q I rx rv h;obtain⟨l,k,bs,rfl,rfl,hx,q⟩:=h;cases rx;obtain⟨u,rfl,ru⟩:=rv.one;obtain⟨tk,rfl⟩:=ru;obtain⟨its,r,ht,hz⟩:=I.list hx;obtain⟨⟨cls,dd,data,sl⟩,ho,hc,n,hd⟩:=ht.isList;simp only at hc hd;subst hc hd;refine call_meets QB ⟨_,ho,rfl⟩ T4 (SH _ _) (T5 l its.toArray n dd sl (.int k tk) (Jr k)) ⟨ho,λy hy=> ?_,?_⟩
 ·obtain⟨i,hi,e⟩:=PU (show y∈its by simpa using hy)
  obtain⟨t,rfl⟩:=v6 r (i:=i) (v:=y) (by rw[O5 hi,e]);exact RB _ t k tk
 ·rw[show its.toArray.toList=its from rfl,vv r]
  exact⟨.int _,H,I.tok _,⟨_,rfl⟩,q⟩
def Lp (K:ND):R2:=λx y H Q=>∃p q xs,x= .ref p/\y= .ref q/\cP K H p xs/\cP K H q []/\Q (.bl (!xs.isEmpty)) H
theorem Js (hu:X.A.units+1<Q3):kU X (P6 .NotEq) (Lp X.K):=by
 intro V_ s σ H x y v u Q I rx ry h;obtain⟨p,q,xs,rfl,rfl,h1,h2,k⟩:=h;cases rx;cases ry;obtain⟨its,r,pl,hz⟩:=I.list h1;obtain⟨Xa,r2,a0T,a42⟩:=I.list h2;cases r2;have l:=r.length;cases xs with
 |nil=>
  cases its with
  |nil=>exact SeqAt.RcNeAt.lists (e:=λ_=>true) pl.isList a0T.isList rfl (by omega) (λj a b=>by simp at b) X.prog X.w X.xe (EP X V_ σ Q) ⟨.bl _,H,I,rfl,by simpa using k⟩
  |cons a b=>cases l
 |cons a b=>
  cases its with
  |nil=>cases l
  |cons c d=>exact SeqAt.RcNeAt.lists_lengths pl.isList a0T.isList (by simp) (by omega) X.prog X.w X.xe (EP X V_ σ Q) ⟨.bl _,H,I,rfl,by simpa using k⟩
end
end L2
namespace L2.Pu
variable {ly:List cR}
section
variable {K:ND} {F:Hp}
def G8:List D->Option D
 |[.lst ds]=>(fY ds).map λbs=> .bl (bs.all id)
 |_=>JT
theorem G9:kY K (λxs H Q=>∃(p:NH) (bs:List Bool),xs=[.ref p]/\cP K H p (bs.map V.bl)/\Q (.bl (bs.all id)) H) G8:=by
 intro vs ds d H F Q s rv h k
 match ds,h with
 |[.lst xs],h=>
  obtain⟨v,rfl,r⟩:=rv.one;obtain⟨a,ws,rfl,h1,h2⟩:=r.lst s
  replace h:(fY xs).map (λbs=>D.bl (bs.all id))=GS d:=h
  cases e:fY xs with
  |none=>rw[e]at h;cases h
  |some bs=>
   rw[e]at h;cases h;rw[mF e h2]at h1;exact⟨a,bs,rfl,cP.of h1,k _ H F (b8.refl s) (.bl _)⟩
theorem DM:Ot "all"=GS (.builtin "all"):=by decide+kernel
def tw:D->D->Option D
 | .lst ds, .lst []=>GS (.bl (!ds.isEmpty))
 |_,_=>JT
theorem Ga:i_ K (Lp K) tw:=by
 intro v u x y d H F Q s rx ry h k;unfold tw at h;split at h
 ·rename_i ds
  cases h;obtain⟨p,vs,rfl,h1,h2⟩:=rx.lst s;obtain⟨q,us,rfl,h3,h4⟩:=ry.lst s;rw[h4.nilI]at h3;refine⟨p,q,vs,rfl,rfl,cP.of h1,cP.of h3,?_⟩;have l:=h2.length;have e:vs.isEmpty=ds.isEmpty:=by
   cases vs<;>cases ds<;>first|rfl|cases l
  rw[e];exact k _ H F (b8.refl s) (.bl _)
 ·cases h
end
section
variable {X:Cx} {a b o e:NS} {fa fb fo fk:aa->R D} {W8 W7 pos:Ox}
end
def eP (g:D->aa->R aa) (gt:aa->R Bool) (fe:aa->R D):List D->aa->R (List D)
 |[],_=> .ok []
 |d::r,τ=>match g d τ with
  | .ok τ1=>(match gt τ1 with
   | .ok b=>if b=true then (fe τ1>>=λy=>eP g gt fe r τ1>>=λys=> .ok (y::ys))else eP g gt fe r τ1
   |_=> .bad)
  |_=> .bad
def nM (N:List NG) (names:List (NG×NameKind)) (fi:aa->R (List D)) (g:D->aa->R aa) (gt:aa->R Bool) (fe:aa->R D):aa->R (List D):=λρ=>fi ρ>>=λds=>if ds.length<=lim then (match eP g gt fe ds (f6 N names ρ)with
 | .ok es=> .ok es
 | .err x _=> .err x ρ
 | .bad=> .bad)else .bad
def MN (K:ND) (fe:aa->R D) (EO:NF->Hp->Prop):TE:=λσ H Q=>∃c:cF [],(∀x ρ σ' H' F' cls,cL K x cls->RI K c ρ σ' H' F'->c.Er x ρ->EO cls H')/\tQ K c fe σ H Q
theorem Ny {WI:NS} (pl:fA X) (h:∀s H ex E,PQ [] (bI X scope s H ex E) WI fe):∀V_ σ s3 H3 fp EO,au X V_ σ H3 s3->(∀b∈fp,i7 X V_ H3 b/\b<s3.heap.objs.size)->PE (bI X scope s3 H3 fp (Iy X V_ scope fp EO s3 H3)) WI (MN X.K fe EO):=by
 intro V_ σ s3 H3 fp EO I3 f3 Wo s τ H Q I hq;obtain⟨c,hb,q⟩:=hq;refine h s3 H3 fp _ ⟨c, .inr (.inr ⟨rfl,?_⟩)⟩ Wo s τ H Q I q;intro a2r σ2 H2 s2 e s' I2 hx;obtain⟨a,cls,H',rfl,os,bare,un,hok,⟨n1,n2,oe,vs,T,oT,ts,g1,g2,g3,g4,g5,g6,g7,g8,g9,a2N⟩,x,ρ',F',ec,ri,er⟩:=hx;have a4K:au (bA X scope s3 H3 fp) a2r σ2 H2 s2:=Iw I2;exact⟨a,cls,H',σ2,rfl,(Iw (I2.call' os un hok bare (λb hb=>by cases hb))).pins_of (λp hp=>by cases hp),⟨zx I3 pl f3 a4K n1 n2,oe,vs,g1,g2,g3,T,g4,zx I3 pl f3 a4K g5 g6,g7,oT,ts,g8,g9,a2N⟩,hb x ρ' σ2 H' F' cls ec ri er⟩
theorem RI.reEr {A B C:Hp} {a5R:NG->aa->Prop} (r:RI K (⟨A,B,C,Er,λ_=>JT,λ_=>JT⟩:cF []) ρ σ H F):RI K (⟨A,B,C,a5R,λ_=>JT,λ_=>JT⟩:cF []) ρ σ H F:=
 ⟨r.1,r.2,r.3,r.4,r.5,r.6,r.7,r.8,r.9,r.10,r.11,r.12⟩
def zS (K:ND) (p:NH) (H1 F1:Hp) (Q:Hp->Prop) (er:NG->Prop):R (List D)->Prop
 | .ok es=>∀H2 F2 vs,b8 H1 F1 H2 F2->H2 p=GS (.lst vs)->F2 p=JT->Reps K F2 vs es->Q H2
 | .err x _=>er x
 | .bad=>False
def MO (pre:List D):R (List D)->R (List D)
 | .ok es=> .ok (pre++es)
 |r=>r
theorem x5 {c:cF ly} {names:List (NG×NameKind)} {p:NH} {g:D->aa->R aa} {J:It} {ds:List D} {Q:Hp->Prop} (ri:RI K c ρ σ H F) (e:b8 H F H1 F1) (jo:yh K F1 J ds) (hp:H1 p=JT) (hl:ds.length<=lim) (he:zS K p H1 F1 Q (λx=>c.Er x ρ) (eP g gt fe ds (f6 N names ρ))): jU J (LP K g) (LQ K gt) (MN K fe λcls H'=>∃x F',cL K x cls/\RI K c ρ σ H' F'/\c.Er x ρ) p (ou N names σ) Q (aS H1 p (.lst [])):=by
 have s1:aB F1 H1:=e.sub;have f1:F1 p=JT:=s1.free hp;refine⟨λi m ys τ H=>∃F ρ' pre,RI K (⟨aS H1 p (.lst ys),F1,H1,λ_ _=>False,λ_=>JT,λ_=>JT⟩:cF []) ρ' τ H F/\Reps K F ys pre/\pre.length<=i/\m=ds.length - i/\i<=ds.length/\zS K p H1 F1 Q (λx=>c.Er x ρ) (MO pre (eP g gt fe (ds.drop i) ρ')),
  ⟨_,F1,_,[],Hf ri e hp, .nil,O2 _,rfl,Pf _,?_⟩,?_⟩
 ·rw[U3]
  cases q:eP g gt fe ds (f6 N names ρ)<;>rw[q]at he<;>exact he
 rintro i m ys τ H2 ⟨F2,ρ',pre,r2,rp,a5z,rfl,hi,hc⟩
 have a2s:∀{Er ρ' τ H F},RI K (⟨aS H1 p (.lst ys),F1,H1,Er,λ_=>JT,λ_=>JT⟩:cF []) ρ' τ H F->b8 H1 F1 H F:=λ{Er ρ' τ H F} r=>⟨r.sub,(bJ hp).trans r.ext.keep,r.ext.grow,λa ha=>by
  rcases r.ext.new a ha with z|z
  ·exact .inl z
  ·refine .inr ?_
   change aS H1 p (.lst ys) a=JT at z;rw[aj (λq=>by subst q;rw[ar]at z;cases z)]at z;exact z⟩
 have a3S:F2 p=JT:=by
  cases q:F2 p with
  |none=>rfl
  |some u=>
   rcases r2.ext.new p (by rw[q];simp)with z|z
   ·exact absurd f1 z
   ·change aS H1 p (.lst ys) p=JT at z;rw[ar]at z;cases z
 have hD:∀{ρ' τ H F},RI K (⟨aS H1 p (.lst ys),F1,H1,λ_ _=>False,λ_=>JT,λ_=>JT⟩:cF []) ρ' τ H F->H p=GS (.lst ys):=λr=>r.ext.keep p _ ar;refine⟨hD r2,?_⟩;by_cases Ww:i<ds.length
 ·refine .inr ⟨jo.go i H2 (r2.ext.grow.trans r2.sub) Ww,?_,λx H3 y=> ?_⟩
  ·have:=rp.length
   have:=fE;omega
  ·obtain⟨F3,d,hd,e3,r3⟩:=jo.yld i H2 F2 x H3 r2.ext.grow r2.sub y Ww
   obtain⟨Z6,ed⟩:=O6.mp hd;rw[Qq Z6,ed,eP]at hc;cases h1:g d ρ' with
   |err x ρ''=>rw[h1]at hc;exact hc.elim
   |bad=>rw[h1]at hc;exact hc.elim
   |ok τ1=>
   rw[h1]at hc;dsimp only at hc;cases h2:gt τ1 with
   |err x ρ''=>rw[h2]at hc;exact hc.elim
   |bad=>rw[h2]at hc;exact hc.elim
   |ok b=>
   rw[h2]at hc;dsimp only at hc;refine⟨_,λe ρ h=>h,F3,ρ',d,r2.step e3,r3,?_⟩;rw[h1];intro τ4 H4 F4 s4 r4;refine⟨_,λe ρ h=>h,F4,τ1,r4,?_⟩;rw[h2];intro H5 F5 e5;cases b with
   |false=>
    rw[if_neg (by decide)]at hc;exact⟨ds.length - (i+1),by omega,F5,τ1,pre,r4.step e5,(rp.mono e3.grow).mono (s4.trans e5.grow),by omega,rfl,Ww,hc⟩
   |true=>
    rw[if_pos rfl]at hc ⊢;refine⟨⟨aS H1 p (.lst ys),F1,H1,λx _=>c.Er x ρ,λ_=>JT,λ_=>JT⟩,λx ρ' σ' H' F' cls ec r er=>⟨x,F',ec,ri.step (e.trans (a2s r)),er⟩,F5,τ1,(r4.step e5).reEr,?_⟩;cases h3:fe τ1 with
    |err x ρ''=>rw[h3]at hc;exact hc
    |bad=>rw[h3]at hc;exact hc.elim
    |ok y'=>
    rw[h3,ag]at hc;intro v H6 F6 e6 r6;have a1n:=(r4.step e5).step e6;refine⟨hD a1n,ds.length - (i+1),by omega,F6,τ1,pre++[y'],a1n.bump hp ?_,(((rp.mono e3.grow).mono (s4.trans e5.grow)).mono e6.grow).append (.cons r6 .nil),by simp;omega,rfl,Ww,?_⟩
    ·cases q:F6 p with
     |none=>rfl
     |some u=>
      rcases a1n.ext.new p (by rw[q];simp)with z|z
      ·exact absurd f1 z
      ·change aS H1 p (.lst ys) p=JT at z;rw[ar]at z;cases z
    ·cases h4:eP g gt fe (ds.drop (i+1)) τ1 with
     |err x ρ''=>rw[h4]at hc;exact hc
     |bad=>rw[h4]at hc;exact hc
     |ok rest=>
      rw[h4,ag]at hc;show zS K p H1 F1 Q (λx=>c.Er x ρ) (.ok (pre++[y']++rest));rw[PH];exact hc
 ·have ei:i=ds.length:=by omega
  subst ei;rw[T9]at hc
  replace hc:zS K p H1 F1 Q (λx=>c.Er x ρ) (.ok (pre++[])):=hc
  rw[P2]at hc;exact .inl ⟨jo.stop H2 (r2.ext.grow.trans r2.sub),hc H2 F2 ys (a2s r2) (hD r2) a3S rp⟩
section
variable {X:Cx} {WI tg iter:NS} {WH:List NS} {scope:PJ} {pos:Ox} {fi:aa->R (List D)} {g:D->aa->R aa} {gt:aa->R Bool} {fe:aa->R D}
theorem Gb (i:Nat) {y:NG} {py WW:Ox} (S:bz X scope) (hc:X.calm=true) (hN:X.N.Nodup) (hi:Ez ly X tg iter fi) (hg:∀s H ex E,CK [] (bI X scope s H ex E) tg g) (Yf:∀s H ex E,wC [] (bI X scope s H ex E) WH gt) (Yb:∀s H ex E,PQ [] (bI X scope s H ex E) WI fe) (pl:fA X:=by exact⟨rfl,rfl,rfl⟩) (Zq:X.N[i]? =GS y:=by rfl) (hx:yV X.env.scope y:=by first|exact OG rfl|exact Oj rfl) (hf:X.fn y=true\/X.env.scope.names.lookup y=GS .local:=by first|exact .inl rfl|exact .inr rfl|assumption) (Yg:ON (.ListComp WI [⟨tg,iter,WH,0⟩] scope pos) (GS (.Name y py)) WW.line X.env=pure true:=by rfl) (hs:∀x,P8 iter X.env x=pure x:=by intro _;rfl) (WM:jW ly i:=by(repeat (first|assumption|exact L2.Pu.dB|refine L2.Pu.cK ⟨by first|decide|simp,by first|decide|simp⟩ ?_))): e_ ly X (.Assign [.Name y py] (.ListComp WI [⟨tg,iter,WH,0⟩] scope pos) WW) (j0 i (nM X.N scope.names fi g gt fe)):=⟨λc=>
 PS.weak (CF (g:=LP X.K g) (tt:=LQ X.K gt) (te:=MN X.K fe) pl S hc (hi c) (λs H ex E=>LR (hg s H ex E)) (λs H ex E=>LU (Yf s H ex E)) (Ny pl Yb) (uN hN Zq hx hf) Yg hs) λD σ H ⟨F,ρ,ri,w⟩=>by
  refine⟨λcls H'=>∃x F',cL X.K x cls/\RI X.K c.1 ρ σ H' F'/\c.1.Er x ρ,λcls H' V_ s a ⟨x,F',ec,r,er⟩ I fl=> ?_,F,ρ,ri,(aw.bind.mp (aw.bind.mp w)).imp λds _ w1 J H1 F1 e1 jo p hp=> ?_⟩
  ·rcases c.2.plain pl.st with ⟨_,a0B⟩|no
   ·exact a0B V_ σ ρ H' F' s a cls x I r fl ec er
   ·exact absurd er (no x ρ)
  split at w1
  ·rename_i hl
   refine x5 ri e1 jo hp hl ?_;cases q:eP g gt fe ds (f6 X.N scope.names ρ)with
   |err x ρ'=>rw[q]at w1;exact w1
   |bad=>rw[q]at w1;exact w1
   |ok es=>
    rw[q]at w1;intro H2 F2 vs e2 a0r a1o rv;refine w1 _ H2 F2 (e1.grow.trans e2.grow) ((ri.step (e1.trans e2)).setOwn i WM a0r a1o (ri.ext.keep.free (e1.keep.free hp)) (.lst rv) (λj d' _ hj ej=> ?_) (ri.celNe (e1.trans e2).keep (e1.keep.free hp)));obtain⟨a,o,k1,k2,_⟩:=ri.own j d' hj;rw[ej]at k1;cases k1;rw[e1.keep.free hp]at k2;cases k2
  ·exact w1.elim⟩
end
end L2.Pu
namespace L2
section
variable {X:Cx} {V_:List (NH×Oi)} {σ:St} {H:Hp} {s:NI}
theorem Bc:cJ X (.builtin "abs") (λxs H Q=>∃i,xs=[.int i]/\Q (.int (if i<0 then -i else i)) H):=by
 intro V_ s σ H xs us Q I r h;obtain⟨i,rfl,q⟩:=h;obtain⟨u,rfl,t,rfl⟩:=ij r;exact call_abs_int λu tk=>⟨.int _,H,I.tok _,⟨_,rfl⟩,q⟩
end
end L2
namespace L2.Pu
variable {ly:List cR}
def Jt:List D->Option D
 |[.int i]=>GS (.int (if i<0 then -i else i))
 |_=>JT
theorem Gc:kY K (λxs H Q=>∃i,xs=[.int i]/\Q (.int (if i<0 then -i else i)) H) Jt:=by
 intro vs ds d H F Q s rv h k
 match ds,h with
 |[.int i],h=>
  obtain⟨v,rfl,r⟩:=rv.one;cases r.int;cases h;exact⟨i,rfl,k _ H F (b8.refl s) (.int _)⟩
theorem Bd:Ot "abs"=GS (.builtin "abs"):=by decide+kernel
section
variable {X:Cx} {a b e:NS} {f fk fv:aa->R D} {pos:Ox}
end
end L2.Pu
namespace L2
section
variable {X:Cx} {V_:List (NH×Oi)} {σ:St} {H:Hp} {s:NI} {h':NT}
variable {o:NS} {to:TE} {p1 W8 W7 pos:Ox}
end
end L2
namespace L2.Pu
variable {ly:List cR}
section
variable {K:ND} {F:Hp}
end
section
variable {X:Cx} {o:NS} {fo:aa->R D} {p1 W8 W7 pos:Ox}
end
section
variable {X:Cx} {e:NS} {f:aa->R D} {pos:Ox}
def Nc (i:Nat) (fk:aa->R D):aa->R aF:=λρ=>match ρ[i]? with
 |some (GS (.own (.lst ds)))=>fk ρ>>=λk=>match k with
  | .int n=>if n.natAbs<=lim then (match seqIndex? n ds.length with
   |some m=>(match ds[m]? with
    |some _=> .ok (.nx (ρ.set i (GS (.own (.lst (ds.eraseIdx m))))))
    |none=> .bad)
   |none=> .bad)else .bad
  |_=> .bad
 |_=> .bad
def uB (i:Nat):aa->R aF:=λρ=>match ρ[i]? with
 |some (GS (.own (.lst ds)))=>(match ds[ds.length - 1]? with
  |some _=> .ok (.nx (ρ.set i (GS (.own (.lst ds.dropLast)))))
  |none=> .bad)
 |_=> .bad
theorem Ju (i:Nat) {x:NG} {px W8 W7:Ox} (hN:X.N[i]? =GS x:=by rfl) (hv:pz X.env.scope x:=by first|exact OG rfl|exact Oj (OG rfl)|exact Oj (Oj rfl)) (hd:(x==("__debug__":NG))=false:=by decide) (WG:(x==("__classdict__":NG))=false:=by decide) (Wl:OJ (.Name x px) "pop" X.env (O8 (.Name x px) X.env)=O8 (.Name x px) X.env:=by rfl) (Wm:(W8.endLine==W7.line)=true:=by rfl) (Yg:ON (.Call (.Attribute (.Name x px) "pop" W8) [] [] W7) JT pos.line X.env=pure false:=by rfl):e_ ly X (.Expr (.Call (.Attribute (.Name x px) "pop" W8) [] [] W7) pos) (uB i):=⟨λc=>
 PS.weak (og (Cg Pk U6 U7 Ch (pv i hN hv hd WG) Wl Wm) Yg) λD σ H ⟨F,ρ,ri,w⟩=>by
  unfold uB at w;split at w
  ·rename_i ds hi
   obtain⟨a,vs,h1,h2,h3⟩:=ri.ownL hi;split at w
   ·rename_i d hd
    obtain⟨v,m1,m2⟩:=h3.get hd;refine⟨_,h1, .inl ⟨rfl,vs,cP.of h2⟩,a,vs,v,rfl,rfl,h2,by rw[h3.length];exact m1,?_⟩;exact w _ _ F (aB.refl _) (ri.change (o:= .lst vs) hi h1 (.lst h3.dropLast))
   ·exact w.elim
  ·exact w.elim⟩
end
section
variable {X:Cx} {a b e:NS} {rest:List NS} {f:aa->R D} {fx fy:aa->R (D×aa)} {gx gy:aa->R (Bool×aa)} {g:aa->R Bool} {pos:Ox}
def Hm (ly:List cR) (X:Cx) (e:NS) (gx:aa->R (Bool×aa)):Prop:=∀c:eG ly X,PW X e (MM X.K c.1 gx)
theorem Hm.t (h:Hm ly X e gx):EA ly X e gx:=⟨λc=>(h c).pt⟩
def Lq (g:aa->R Bool):aa->R (Bool×aa):=λρ=>g ρ>>=λb=> .ok (b,ρ)
theorem MP (h:mn ly X e g):EA ly X e (Lq g):=⟨λc=>PT.weak (h c) λσ H Q ⟨F,ρ,ri,w⟩=>⟨F,ρ,ri,(aw.bind.mp w).imp λd _ w1 H1 F1 e1=>w1 H1 F1 e1.grow (ri.step e1)⟩⟩
theorem Gd (h:EA ly X a gx):Hm ly X (.BoolOp .And [a] pos) gx:=λc=>yY (h c)
def zT (gx gy:aa->R (Bool×aa)):aa->R (Bool×aa):=λρ=>gx ρ>>=λr=>if r.1=true then gy r.2 else .ok (false,r.2)
theorem Jv (h:EA ly X a gx) (hb:Hm ly X (.BoolOp .And (b::rest) pos) gy):Hm ly X (.BoolOp .And (a::b::rest) pos) (zT gx gy):=λc=>PW.weak (BR (h c) (hb c)) λσ H Q ⟨F,ρ,ri,w⟩=>
 ⟨F,ρ,ri,(aw.bind.mp w).imp λr hb w1 H1 F1 e1 Yc=>by
  cases q:r.1 with
  |true=>rw[q]at w1;exact⟨F1,r.2,Yc,w1.imp λb' _ k H2 F2 e2 a0C=>k H2 F2 (e1.trans e2) a0C⟩
  |false=>rw[q]at w1;exact w1 H1 F1 e1 Yc⟩
end
section
variable {K:ND} {mg:NG->Option NF} {h:NT}
def UF (K:ND) (x:NG) (st:Ob):Prop:=∃(f:NH) (oc:NF) (od:Option NH) (kV WB pm:NF) (an:Option NH) (W2 ct:NF) (XO:Array (Option NF)),O0 K NU x=GS (GS (.ref f))/\K.lookup f=GS ⟨oc,od, .func (OP x x (cG st) (aQ st) (ao st) .none kV WB pm an W2 ct),XO⟩/\Qs K W2 x=true/\OI K (.ref f)=true
def oW (K:ND) (C:NH) (m qual:NG) (st:Ob):Prop:=∃(f:NH) (oc:NF) (od:Option NH) (kV WB pm:NF) (an:Option NH) (W2 ct:NF) (XO:Array (Option NF)),O4 K (.ref C) m=GS (GS (.ref f))/\K.lookup f=GS ⟨oc,od, .func (OP m qual (cG st) (aQ st) (ao st) .none kV WB pm an W2 ct),XO⟩/\Qs K W2 qual=true/\OI K (.ref f)=true/\RP K (.ref f)=true
def BA (x qual:NG) (st:Ob) (ps:List NG):Prop:=∀(kV WB pm:NF) (an:Option NH) (W2 ct:NF) (us:List NF),us.length=ps.length->Qb (OP x qual (cG st) (aQ st) (ao st) .none kV WB pm an W2 ct) ⟨us,[]⟩=pure (ps.zip us)
theorem UF.at {x:NG} (u:UF K x st) (X:K.In h) (G:h.Ns NU mg) (hb:BA x x st ps):c8 K mg x st ps:=by
 obtain⟨f,oc,od,kV,WB,pm,an,W2,ct,XO,h1,h2,h3,h4⟩:=u;exact⟨_,_,nz (st:=st) h2 h3 h4,OK X G h1,(nz (st:=st) h2 h3 h4).binds hb⟩
theorem oW.at {m:NG} (u:oW K C m qual st) (c:j6 K cls C) (hb:BA m qual st ps):c9 K cls m qual st ps:=by
 obtain⟨f,oc,od,kV,WB,pm,an,W2,ct,XO,h1,h2,h3,h4,h5⟩:=u;exact⟨_,_,_,nz (st:=st) h2 h3 h4,c,⟨h1,h5,h4⟩,(nz (st:=st) h2 h3 h4).binds hb⟩
theorem oW.mk {fs:List NG} (u:oW K C "__init__" qual st) (c:j6 K cls C) (hm:mg cls=GS (.ref C)) (p5:QF K C=true) (p6:OI K (.ref C)=true) (no:∀x∈fs,dq K C x) (hb:BA "__init__" qual st ps):pK K mg cls qual st ps fs:=by
 obtain⟨f,oc,od,kV,WB,pm,an,W2,ct,XO,h1,h2,h3,h4,h5⟩:=u;exact⟨_,_,_,nz (st:=st) h2 h3 h4,c,hm,⟨p5,h1,h5,p6⟩,(nz (st:=st) h2 h3 h4).binds hb,no⟩
def Ge (K:ND) (C:NH):Prop:=Pb K C yf "ValueError.__new__"=true/\O4 K (.ref C) "__getattribute__"=GS (GS (.builtin "BaseException.__getattribute__"))/\O4 K (.ref C) "__getattr__"=GS JT/\O4 K (.ref C) "__class__"=GS (GS (.builtin "object.__class__"))/\ OB K C (.type "object")=GS true/\OB K C (.type "BaseException")=GS true/\OB K C (.ref C)=GS true
def yC (K:ND):List NH->Prop
 |[]=>True
 |C::r=>Ge K C/\yC K r
def vw (K:ND):List NG->List NH->Prop
 |[],[]=>True
 |x::xs,C::Cs=>O0 K NU x=GS (GS (.ref C))/\vw K xs Cs
 |_,_=>False
def qA (K:ND) (v:NF) (f:Nat->Bool):Nat->List NH->Prop
 |_,[]=>True
 |i,C::r=>OB K C v=GS (f i)/\qA K v f (i+1) r
def Be {α:Type} (f:Nat->Bool):Nat->List α->List (α×Bool)
 |_,[]=>[]
 |i,x::r=>(x,f i)::Be f (i+1) r
def JY (K:ND):Prop:=QL K (.builtin "object.__class__") "__get__"=GS (GS (.builtin "getset_descriptor.__get__"))/\R4 K (.builtin "object.__class__")=GS true
theorem Ge.ok (e:Ge K C) (s:JY K):v7 K C:=by
 obtain⟨e1,e2,e3,e4,e5,e6,e7⟩:=e;exact FY e1 e2 e3 e4 e5 e6 (pL e1 e7) s.1 s.2
theorem pN {v:NF} {f:Nat->Bool} (s:JY K) (hk:∀C b,OB K C v=GS b->OB K C (.ref C)=GS true->OZ K (.ref C) v=GS b):∀{xs:List NG} {Cs:List NH} {i:Nat},vw K xs Cs->yC K Cs->qA K v f i Cs-> ∀p∈Be f i xs,∃Ce,O0 K NU p.1=GS (GS (.ref Ce))/\OZ K (.ref Ce) v=GS p.2/\v7 K Ce
 |[],[],i,n,e,r,p,hp=>by cases hp
 |[],_::_,i,n,e,r,p,hp=>n.elim
 |_::_,[],i,n,e,r,p,hp=>n.elim
 |x::xs,C::Cs,i,n,e,r,p,hp=>by
  rcases NW.mp hp with rfl|hp
  ·exact⟨C,n.1,hk C _ r.1 e.1.2.2.2.2.2.2,e.1.ok s⟩
  ·exact pN s hk n.2 e.2 r.2 p hp
theorem oX {x:NG} {f:Nat->Bool} {xs:List NG} {Cs:List NH} (s:JY K) (N:vw K xs Cs) (E:yC K Cs) (hm:mg x=GS (.ref C)) (e1:Pb K C yf "ValueError.__new__"=true) (R:qA K (.ref C) f 0 Cs):tj K mg x (Dx (Be f 0 xs)):=
 ⟨_,hm,wX (pN s (λ_ _ m q=>B2 e1 m q) N E R)⟩
theorem Gf {f:Nat->Bool} {xs:List NG} {Cs:List NH} (s:JY K) (N:vw K xs Cs) (E:yC K Cs) (R:qA K (.type "ValueError") f 0 Cs):qe K (.type "ValueError") (Dx (Be f 0 xs)):=
 wX (pN s (λ_ _ m _=>B3 m) N E R)
theorem cr (s:JY K) (X:K.In h) (G:h.Ns NU mg):∀{xs:List NG} {Cs:List NH},vw K xs Cs->yC K Cs->∀x∈xs,bB K mg x
 |[],[],n,e,x,hx=>by cases hx
 |[],_::_,n,e,x,hx=>n.elim
 |_::_,[],n,e,x,hx=>n.elim
 |y::xs,C::Cs,n,e,x,hx=>by
  rcases NW.mp hx with rfl|hx
  ·exact⟨C,n.1,OK X G n.1,e.1.ok s⟩
  ·exact cr s X G n.2 e.2 x hx
theorem ia:∀{xs:List NG} {Cs:List NH},vw K xs Cs->yC K Cs->∀(x:NG) (C:NH),(xs.zip Cs).lookup x=GS C->O0 K NU x=GS (GS (.ref C))/\Ge K C
 |[],Cs,n,e,x,C,hx=>by cases hx
 |_::_,[],n,e,x,C,hx=>n.elim
 |y::xs,C'::Cs,n,e,x,C,hx=>by
  rw[List.zip_cons_cons,P5]at hx;cases q:x==y with
  |true=>rw[q]at hx;cases hx;rw[eq_of_beq q];exact⟨n.1,e.1⟩
  |false=>rw[q]at hx;exact ia n.2 e.2 x C hx
theorem Bf {cx:NG} {D:NH} (hm:mg cx=GS (.ref D)) (e1:Pb K D yf "ValueError.__new__"=true) (e6:OB K D (.type "BaseException")=GS true) {xs:List NG} {Cs:List NH} (N:vw K xs Cs) (R:qA K (.ref D) (λ_=>true) 0 Cs):wQ K mg cx (yx xs):=by
 refine Dw hm ?_;have:∀{xs:List NG} {Cs:List NH} {i:Nat},vw K xs Cs->qA K (.ref D) (λ_=>true) i Cs->∀x∈xs,∃Ce,O0 K NU x=GS (GS (.ref Ce))/\QQ K (.ref Ce) (.ref D)=GS true:=by
  intro xs
  induction xs with
  |nil=>intro Cs i n r x hx;cases hx
  |cons y xs ih=>
   intro Cs i n r x hx;cases Cs with
   |nil=>exact n.elim
   |cons C Cs=>
    rcases NW.mp hx with rfl|hx
    ·exact⟨C,n.1,B4 e1 r.1 e6⟩
    ·exact ih n.2 r.2 x hx
 exact this N R
end
section
variable {x qual:NG} {st:Ob}
theorem b0 (h:∀kV WB pm an W2 ct,Qb (OP x qual (cG st) (aQ st) (ao st) .none kV WB pm an W2 ct) ⟨[],[]⟩=pure []:=by intros;rfl):BA x qual st []:=λ_ _ _ _ _ _=>N8 (h _ _ _ _ _ _)
theorem b1 {p:NG} (h:∀kV WB pm an W2 ct a,Qb (OP x qual (cG st) (aQ st) (ao st) .none kV WB pm an W2 ct) ⟨[a],[]⟩=pure [(p,a)]:=by intros;rfl):BA x qual st [p]:=λ_ _ _ _ _ _=>N9 (P:=λus=>Qb _ ⟨us,[]⟩=pure (Ul _ us)) (h _ _ _ _ _ _)
theorem b2 {p:NG} (h:∀kV WB pm an W2 ct a b,Qb (OP x qual (cG st) (aQ st) (ao st) .none kV WB pm an W2 ct) ⟨[a,b],[]⟩=pure [(p,a),(q,b)]:=by intros;rfl):BA x qual st [p,q]:=λ_ _ _ _ _ _=>LW (P:=λus=>Qb _ ⟨us,[]⟩=pure (Ul _ us)) (h _ _ _ _ _ _)
theorem b3 {p r:NG} (h:∀kV WB pm an W2 ct a b c,Qb (OP x qual (cG st) (aQ st) (ao st) .none kV WB pm an W2 ct) ⟨[a,b,c],[]⟩=pure [(p,a),(q,b),(r,c)]:=by intros;rfl):BA x qual st [p,q,r]:=λ_ _ _ _ _ _=>Na (P:=λus=>Qb _ ⟨us,[]⟩=pure (Ul _ us)) (h _ _ _ _ _ _)
theorem b4 {p r t:NG} (h:∀kV WB pm an W2 ct a b c d,Qb (OP x qual (cG st) (aQ st) (ao st) .none kV WB pm an W2 ct) ⟨[a,b,c,d],[]⟩=pure [(p,a),(q,b),(r,c),(t,d)]:=by intros;rfl):BA x qual st [p,q,r,t]:=λ_ _ _ _ _ _=>Nb (P:=λus=>Qb _ ⟨us,[]⟩=pure (Ul _ us)) (h _ _ _ _ _ _)
theorem b5 {p r t u:NG} (h:∀kV WB pm an W2 ct a b c d e,Qb (OP x qual (cG st) (aQ st) (ao st) .none kV WB pm an W2 ct) ⟨[a,b,c,d,e],[]⟩=pure [(p,a),(q,b),(r,c),(t,d),(u,e)]:=by intros;rfl):BA x qual st [p,q,r,t,u]:=λ_ _ _ _ _ _=>Nx (P:=λus=>Qb _ ⟨us,[]⟩=pure (Ul _ us)) (h _ _ _ _ _ _)
end
section
variable {X:Cx} {a b e:NS} {es:List NS} {st:Ob} {rest:List Ob} {f:aa->R D} {fs:aa->R (List D)} {g:aa->R aF} {gn:aa->R D} {pos p:Ox} {x:NG}
theorem Lr (h:t7 ly X (e::es) fs):PN ly X (.List (e::es) pos) (eI fs):=λc=>
 PE.weak (uP (h c)) λσ H Q ⟨F,ρ,ri,w⟩=>⟨F,ρ,ri,(aw.bind.mp w).imp λds hd w1 vs H1 F1 e1 r1=>by
  split at w1
  ·rename_i hl
   exact⟨Ou (by rw[r1.length];exact hl) fE,λp hp=>zK e1 w1 p (.lst vs) hp (.lst r1)⟩
  ·exact w1.elim⟩
def Nz (K:ND) (c:cF ly) (g:aa->R D):TS:=λD σ H=>∃F ρ,RI K c ρ σ H F/\aw c (g ρ) λd=>∀a o H' F',b8 c.H0 c.F0 H' F'->c.H0 a=JT->H' a=GS o->F' a=JT->im K F' o d->D.rt (.ref a) H'
def DN (ly:List cR) (X:Cx) (st:List Ob) (g:aa->R D):Prop:=∀c:eG ly X,qM X st (Nz X.K c.1 g)
theorem Jw (h:PN ly X e f):DN ly X [.Return (GS e) pos] f:=λc=>qM.weak (yZ (uM (h c))) λD σ H ⟨F,ρ,ri,w⟩=>
 ⟨F,ρ,ri,w.imp λd _ k a o H' F' e h1 h2 h3 h4=>k a o H' F' (ri.ext.trans e) (ri.ext.keep.free h1) h2 h3 h4⟩
def zU (g:aa->R aF) (gn:aa->R D):aa->R D:=λρ=>g ρ>>=λo=>match o with
 | .nx ρ'=>gn ρ'
 |_=> .bad
theorem Gg {s2:Ob} (h:e_ ly X st g) (h2:DN ly X (s2::rest) gn):DN ly X (st::s2::rest) (zU g gn):=λc=>qM.weak (w9 (h c) (h2 c)) λD σ H ⟨F,ρ,ri,w⟩=>by
 refine⟨F,ρ,ri,(aw.bind.mp w).imp λo ho w1=> ?_⟩;cases o with
 |nx ρ'=>exact λσ' H' F' s r=>⟨F',ρ',r,w1⟩
 |_=>exact w1.elim
def Nd (K:ND) (n:Nat) (m:List D->R D):Sp:=λvs H Q E=>vs.length=n/\∃F ds,aB F H/\Reps K F vs ds/\match m ds with
 | .ok d=>∀a o H' F',b8 H F H' F'->H a=JT->H' a=GS o->F' a=JT->im K F' o d->Q (.ref a) H'
 | .err x _=>∀cls a H' F',cL K x cls->b8 H F H' F'->E cls a H'
 | .bad=>False
def Gh (k n:Nat) (g:aa->R D) (ds:List D):R D:=if ds.length=k then g (bN n ds)else .bad
structure MQ (P:NM) (w:NV) (K:ND) (mg:NG->Option NF) (base:NT) (k:Nat) (x:NG) (n:Nat) (m:List D->R D):Prop where
 ex:∃f fd ps,eF P w K mg base (kX P w) k f fd ps (Nd K n m)/\mg x=GS (.ref f)/\OI K (.ref f)=true/\eZ K fd ps []
theorem MR {k:Nat} (F:MQ X.prog X.w X.K X.mg X.base k x n m) (hr:br k X.A) (ha:t7 ly X (e::es) fs) (hg:Gl X x:=by rfl) (WL:(x==("__debug__":NG))=false:=by decide) (he:NL (e::es) X.env=(false,O8 e X.env)::NL es X.env:=by rfl) (WA:(Om pos (NL es X.env)).any (·.1)=false:=by rfl): PN ly X (.Call (.Name x p) (e::es) [] pos) (av m n fs):=by
 obtain⟨f,fd,ps,h1,h2,h3,h4⟩:=F.ex;exact λc=>PE.weak (uQ h1 hr hg h2 h3 h4 .nil (oB c) (ha c) WL he WA) λσ H Q ⟨F,ρ,ri,w⟩=>by
  refine⟨F,ρ,ri,(aw.bind.mp w).imp λds hd w1 vs H1 F1 e1 r1=> ?_⟩;show Nd X.K n m (vs++[]) H1 Q (Hb X c.1 σ);rw[P2];split at w1
  ·rename_i hl
   refine⟨by rw[r1.length];exact hl,F1,ds,e1.sub,r1,?_⟩;cases q:m ds with
   |ok d=>rw[q]at w1;exact λa o H' F' e' n1 h1 f1 r'=>w1 a o H' F' (e1.trans e') (e1.keep.free n1) h1 f1 r'
   |err z ρe=>rw[q]at w1;exact λcls a H' F' ec e'=>⟨_,ρ,F',ec,ri.step (e1.trans e'),w1⟩
   |bad=>rw[q]at w1;exact w1.elim
  ·exact w1.elim
end
section
variable {P:NM} {w:NV} {K:ND} {mg:NG->Option NF} {base:NT}
theorem Jx {x:NG} {k m:Nat} {g:aa->R D} (A:c8 K mg x st ps) (S:aL N ps (ao st)) (hn:ps.length=n) (hm:N.length=m) (Wg:∀(f:NH) (W2:NF) (A:Oc) (outer:List Pw) (s:NI) (H:Hp) (E:XK),br k (A.deeper (PY x (ao st) s.heap.objs.size f W2))-> DN [] (ik (kX P w) P w K mg base N x (ao st) f W2 A outer s H E) (aQ st) g):MQ P w K mg base (k+1) x n (Gh n m g):=by
 obtain⟨f,fd,F,h1,h2⟩:=A.ex;refine⟨f,fd,ps,Ha F S (λvs H Q E h=>by rw[hn];exact h.1) (λW2 A outer s H vs Q E hr h=> ?_),h1,F.kp,h2⟩;obtain⟨hl,Fz,ds,sub,r,w⟩:=h;refine⟨_,Wg f W2 A outer s H E hr ⟨⟨H,Fz,λ_=>JT,λx _=>∀cls a H' F',cL K x cls->b8 H Fz H' F'->E cls a H',λ_=>JT,λ_=>JT⟩,rM λx ρ er cls a H' F' σ ec ri=>er cls a H' F' ec ri.ext⟩,?_⟩;refine⟨Fz,bN m ds,by rw[<-hm];exact wB sub r,?_⟩;have hd:ds.length=n:=by rw[<-r.length];exact hl
 unfold Gh at w;rw[if_pos hd]at w;cases e:g (bN m ds)with
 |bad=>rw[e]at w;exact w.elim
 |err c ρ=>rw[e]at w;exact w
 |ok d=>rw[e]at w;exact w
end
end L2.Pu
namespace L2
section
variable {X:Cx}
theorem tz:cJ X (.builtin "sorted") (λxs H Q=>∃p ns,xs=[.ref p]/\H p=GS (.tup (ns.map V.int))/\ns.length<64/\∀l,H l=JT->Q (.ref l) (aS H l (.lst ((bS ns).map V.int)))):=by
 intro V_ s σ H xs us Q I rv h;obtain⟨p,ns,rfl,hp,a3x,q⟩:=h;obtain⟨u,rfl,ru⟩:=ij rv;cases ru;obtain⟨hz,its,r,o,ho,hc,n,hd,_⟩:=(show bg X.prog X.w H s.heap p (.tup (ns.map V.int))from I.hok p _ hp);have hI:=jR r;have Wa:=r.length;rw[NK]at Wa;refine R6 V8 UO UP (UQ _) ?_;unfold Rn.«sorted»;refine NJ (m:=Vt "sorted" 1 1 _) (NQ ?_);refine NJ (V3 p (.inr rfl) ho hc hd (λh' Zv=> ?_) (by rw[NR,Pe];omega));have eT:its.toArray.toList=its:=by simp
 rw[eT];refine NJ (QY ?_ (by rw[Pe];omega));have ZS:(h'.push (seqObj "list" its.toArray 0)).get? h'.objs.size=GS (seqObj "list" its.toArray 0):=Oe _ rfl;refine NJ (Oq (QU T_ ⟨_,ZS,rfl⟩ Tx (list_sort_tree ZS hI (by omega) λz zs a1 a2 a3=>⟨_,rfl,?_⟩) (U0 _)));refine NQ ⟨_,rfl,?_⟩;obtain⟨e,he⟩:=Uq (out:=z) ZS;have en:zs=bS ns:=gE (a2.trans (il ns).symm) a3 (i8 ns);subst en;have WM:s.heap.get? h'.objs.size=JT:=by
  cases e:s.heap.get? h'.objs.size with
  |none=>rfl
  |some o=>exact absurd (NX (Zv _ _ e)) (OA _)
 have kk:∀b o,s.heap.get? b=GS o->(Uh (h'.push (seqObj "list" its.toArray 0)) h'.objs.size its z).get? b=GS o:=λb o eb=>by
  have hb:=Zv b o eb;have Ww:b<h'.objs.size:=NX hb;rw[U1 (Og Ww) (by rw[Vu];exact Q6 Ww)];exact NO _ hb
 refine⟨.ref h'.objs.size,_,I.laidAt (o:= .lst ((bS ns).map V.int)) kk WM ⟨?_,z.toList,e,jt a1,by simpa[seqObj]using he⟩,rfl,q _ (I.hok.nowhere WM)⟩;have h1:=a2.length_eq;rw[NK,h1,Pe];omega
end
end L2
namespace L2.Pu
def pP:List D->Option D
 |[.tup ds]=>(bO ds).bind λns=>if ns.length<64 then GS (.lst ((bS ns).map .int))else JT
 |_=>JT
theorem vx:kY K (λxs H Q=>∃p ns,xs=[.ref p]/\H p=GS (.tup (ns.map V.int))/\ns.length<64/\∀l,H l=JT->Q (.ref l) (aS H l (.lst ((bS ns).map V.int)))) pP:=by
 intro vs ds d H F Q s rv h k
 match ds,h with
 |[.tup xs],h=>
  obtain⟨v,rfl,r⟩:=rv.one;obtain⟨a,ws,rfl,h1,h2⟩:=r.tup s
  replace h:((bO xs).bind λns=>if ns.length<64 then GS (D.lst ((bS ns).map .int))else JT)=GS d:=h
  cases e:bO xs with
  |none=>rw[e]at h;cases h
  |some ns=>
   rw[e]at h;dsimp only[Option.bind]at h;split at h
   ·rename_i hl
    cases h;rw[gk e h2]at h1;exact⟨a,ns,rfl,h1,hl,λl hn=>by
     have e2:=b8.lay (o:= .lst ((bS ns).map V.int)) s hn;exact k _ _ _ e2 (.lst ar (jx _))⟩
   ·cases h
end L2.Pu
namespace L2
open PySem PySem.Spec PyProof.Rows L2.Pu
section
variable {X:Cx} {o e:NS} {es:List NS} {to:TE} {t:TA} {W8 W7:Ox}
def zV:V->List V->Hp->VK->Prop:=λx vs H Q=>∃(l:NH) (k:Int) (ns:List Int),x= .ref l/\vs=[.int k]/\H l=GS (.tup (ns.map V.int))/\Q (.int (ns.count k)) H
theorem Bg:Ih X "tuple.count" zV:=by
 intro V_ s σ H x vs v us Q I rx rv h;obtain⟨l,k,bs,rfl,rfl,hx,q⟩:=h;cases rx;obtain⟨u,rfl,ru⟩:=rv.one;obtain⟨tk,rfl⟩:=ru;obtain⟨hz,its,r,⟨cls,dd,data,sl⟩,ho,hc,n,hd,_⟩:=(show bg X.prog X.w H s.heap l (.tup (bs.map V.int))from I.hok l _ hx);simp only at hc hd;subst hc hd;refine call_meets Td ⟨_,ho,rfl⟩ PySem.F.entry_tuple_count (PySem.F.args_tuple_count_2 _ _) (PySem.SeqAt.tuple_countAt l its.toArray n dd sl (.int k tk) (Jr k)) ⟨ho,λy hy=> ?_,?_⟩
 ·obtain⟨i,hi,e⟩:=PU (show y∈its by simpa using hy)
  obtain⟨t,rfl⟩:=v6 r (i:=i) (v:=y) (by rw[O5 hi,e]);exact RB _ t k tk
 ·rw[show its.toArray.toList=its from rfl,vv r]
  exact⟨.int _,H,I.tok _,⟨_,rfl⟩,q⟩
theorem Jy (ho:PE X o to) (ha:PA X (e::es) t) (Wl:OJ o "count" X.env (O8 o X.env)=O8 o X.env) (Xp:((Om W7 (NL (e::es) X.env)).all (λx=> !x.1)&&(Q2 W7 (Pg [] X.env)).all (λx=>x.1.isSome) &&decide ((e::es).length+([]:List Qh).length+(if ([]:List Qh).isEmpty then 0 else 1)<30))=true) (Wm:(W8.endLine==W7.line)=true) (hs:NL (e::es) X.env=(false,O8 e X.env)::NL es X.env) (Wn:(Om W7 (NL es X.env)).any (·.1)=false): PE X (.Call (.Attribute o "count" W8) (e::es) [] W7) (λσ H Q=>to σ H λx H1=>(LM X.K "list" x H1/\t σ H1 λxs H2=>zR X.K x xs H2 Q)\/∃p vs,x= .ref p/\H1 p=GS (.tup vs)/\t σ H1 λxs H2=>zV x xs H2 Q):=by
 intro V_ s σ H Q I h;refine TH Wl Xp Wm rfl (bF (ho V_ s σ H _ I h) λv s1 z_=> ?_);obtain⟨x,H1,I1,r1,z⟩:=z_;rcases z with ⟨ty,q1⟩|⟨p,vs,rfl,hp,q1⟩
 ·obtain⟨h1,h2⟩:=xW I1 r1 ty
  refine⟨"list","list.count",Pk,QB,Tj,h1,h2,?_⟩;have hA:=ha W7 V_ s1 σ H1 _ I1 q1;rw[hs]at hA ⊢;refine QI (by show (false||(Om W7 (NL es X.env)).any (·.1))=false;rw[Wn]<;>rfl) (QV ?_);exact bF hA λus s2 ⟨vs,H2,I2,r2,q2⟩=>Bb V_ s2 σ H2 x vs v us Q I2 r1 r2 q2
 ·cases r1
  obtain⟨hz,its,r,ob,ZQ,hc,n,hd,a4L⟩:=(show bg X.prog X.w H1 s1.heap p (.tup vs)from I1.hok p _ hp);refine⟨"tuple","tuple.count",PySem.F.plainAttrs_tuple,Td,PySem.F.type_tuple_count,⟨ob,ZQ,hc⟩,λa e=>by cases e;exact⟨ob,ZQ,a4L⟩,?_⟩;have hA:=ha W7 V_ s1 σ H1 _ I1 q1;rw[hs]at hA ⊢;refine QI (by show (false||(Om W7 (NL es X.env)).any (·.1))=false;rw[Wn]<;>rfl) (QV ?_);exact bF hA λus s2 ⟨a1J,H2,I2,r2,q2⟩=>Bg V_ s2 σ H2 (.ref p) a1J (.ref p) us Q I2 rfl r2 q2
end
end L2
namespace L2.Pu
variable {ly:List cR} {X:Cx} {a o:NS} {fo fk:aa->R D} {W8 W7:Ox}
def x6 (fo fk:aa->R D):aa->R D:=λρ=>fo ρ>>=λd=>match d with
 | .lst ds=>fk ρ>>=λk=>(match bO ds,k with
  |some bs, .int b=> .ok (.int (bs.count b))
  |_,_=> .bad)
 | .tup ds=>fk ρ>>=λk=>(match bO ds,k with
  |some bs, .int b=> .ok (.int (bs.count b))
  |_,_=> .bad)
 |_=> .bad
theorem Jz (ho:PB ly X o fo) (hk:PQ ly X a fk) (Wl:OJ o "count" X.env (O8 o X.env)=O8 o X.env:=by rfl) (Xp:((Om W7 (NL [a] X.env)).all (λx=> !x.1)&&(Q2 W7 (Pg [] X.env)).all (λx=>x.1.isSome) &&decide (([a]:List NS).length+([]:List Qh).length+(if ([]:List Qh).isEmpty then 0 else 1)<30))=true:=by rfl) (Wm:(W8.endLine==W7.line)=true:=by rfl) (hs:NL [a] X.env=(false,O8 a X.env)::NL [] X.env:=by rfl) (Wn:(Om W7 (NL [] X.env)).any (·.1)=false:=by rfl): PQ ly X (.Call (.Attribute o "count" W8) [a] [] W7) (x6 fo fk):=⟨λc=>
 PE.weak (Jy (ho c) (cU (hk c) gX hs) Wl Xp Wm hs Wn) λσ H Q ⟨F,ρ,ri,w⟩=>⟨F,ρ,ri,(aw.bind.mp w).imp λd _ w1 v H1 F1 e1 r1=>by
  cases d with
  |lst ds=>
   obtain⟨p,vs,rfl,h1,h2⟩:=r1.lst e1.sub;refine .inl ⟨.inl ⟨rfl,vs,cP.of h1⟩,F1,ρ,ri.step e1,(aw.bind.mp w1).imp λk _ w2 u H2 F2 e2 r2=> ?_⟩;cases q:bO ds with
   |none=>simp only[q]at w2;exact w2.elim
   |some bs=>
    cases k with
    |int b=>
     cases r2;simp only[q]at w2;rw[gk q h2]at h1;exact⟨p,b,bs,rfl,rfl,cP.of (e2.keep _ _ h1),w2 _ H2 F2 (e1.trans e2) (.int _)⟩
    |_=>simp only[q]at w2;exact w2.elim
  |tup ds=>
   obtain⟨p,vs,rfl,h1,h2⟩:=r1.tup e1.sub;refine .inr ⟨p,vs,rfl,h1,F1,ρ,ri.step e1,(aw.bind.mp w1).imp λk _ w2 u H2 F2 e2 r2=> ?_⟩;cases q:bO ds with
   |none=>simp only[q]at w2;exact w2.elim
   |some bs=>
    cases k with
    |int b=>
     cases r2;simp only[q]at w2;rw[gk q h2]at h1;exact⟨p,b,bs,rfl,rfl,e2.keep _ _ h1,w2 _ H2 F2 (e1.trans e2) (.int _)⟩
    |_=>simp only[q]at w2;exact w2.elim
  |_=>exact w1.elim⟩⟩
end L2.Pu
namespace L2.Pu
section
variable {K:ND} {f:NH} {oc:NF} {od:Option NH} {kV WB pm:NF} {an:Option NH} {W2 ct:NF} {XO:Array (Option NF)} {x qual:NG} {st:Ob} {C:NH}
theorem UF.of (h1:O0 K NU x=GS (GS (.ref f))) (h2:K.lookup f=GS ⟨oc,od, .func (OP x x (cG st) (aQ st) (ao st) .none kV WB pm an W2 ct),XO⟩) (h3:Qs K W2 x=true) (h4:OI K (.ref f)=true):UF K x st:=
 ⟨f,oc,od,kV,WB,pm,an,W2,ct,XO,h1,h2,h3,h4⟩
theorem oW.of (h1:O4 K (.ref C) x=GS (GS (.ref f))) (h2:K.lookup f=GS ⟨oc,od, .func (OP x qual (cG st) (aQ st) (ao st) .none kV WB pm an W2 ct),XO⟩) (h3:Qs K W2 qual=true) (h4:OI K (.ref f)=true) (h5:RP K (.ref f)=true):oW K C x qual st:=
 ⟨f,oc,od,kV,WB,pm,an,W2,ct,XO,h1,h2,h3,h4,h5⟩
end
end L2.Pu
namespace L2
section
variable {X:Cx}
end
end L2
namespace L2.Pu
section
variable {K:ND}
end
end L2.Pu
namespace L2
section
variable {X:Cx}
end
end L2
namespace L2.Pu
variable {ly:List cR}
section
variable {X:Cx} {a b e:NS} {rest es:List NS} {f:aa->R D} {fx fy:aa->R (D×aa)} {pos p WW:Ox} {x:NG}
end
abbrev j7 (N:List NG) (n:Nat) (st:Ob):Prop:=aL N (N.take n) (ao st)
theorem cu {p q:Prop} (hp:p) (h:p->q):q:=h hp
theorem Bh {x:NG} (_:aL N ps (ao st)) (A:c8 K mg x st ps) (hn:ps.length=n):gl P w K mg base 0 x n (λ_=> .bad):=D7 A hn
section
variable {ly:List cR} {X:Cx} {a b:NS} {fx:aa->R (D×aa)} {fb:aa->R D} {pos:Ox}
def rX (g:D->D->Option D) (fx:aa->R (D×aa)) (fb:aa->R D):aa->R (Bool×aa):=λρ=>fx ρ>>=λr=>fb r.2>>=λd=>match g r.1 d with
 |some (.bl k)=> .ok (k,r.2)
 |_=> .bad
theorem JA {op:Tp} {r:R2} {g:D->D->Option D} (ho:kU X (P6 op) r) (Z8:i_ X.K r g) (ha:PX ly X a fx) (hb:PQ ly X b fb) (hm:Pa op b=false:=by with_unfolding_all rfl):EA ly X (.Compare a [op] [b] pos) (rX g fx fb):=⟨λc=>
 PT.weak (zf ho (ha c) (hb c) hm) λσ H Q ⟨F,ρ,ri,w⟩=>⟨F,ρ,ri,(aw.bind.mp w).imp λr0 _ w1 v H1 F1 e1 Yc r1=>⟨F1,r0.2,Yc,(aw.bind.mp w1).imp λd _ w2 u H2 F2 e2 r2=>by
  cases q:g r0.1 d with
  |none=>rw[q]at w2;exact w2.elim
  |some z=>
   rw[q]at w2;refine Z8 v u r0.1 d z H2 F2 _ e2.sub (.inl (r1.mono e2.grow)) (.inl r2) q λw' H' F' e' r'=> ?_;cases z with
   |bl k=>cases r';exact⟨k,rfl,w2 H' F' ((e1.trans e2.grow).trans e'.grow) ((Yc.step e2).step e')⟩
   |_=>exact w2.elim⟩⟩⟩
end
end L2.Pu
namespace L2
inductive rY (K:ND) (H:Hp):Nat->V->V->Bool->Prop
 |flat {n:Nat} {x y:V}:gM x=true->gM y=true->rY K H n x y (BJ x y)
 |same {n:Nat} {p:NH}:rY K H n (.ref p) (.ref p) true
 |tup {n:Nat} {p q:NH} {xs ys:List V} {e:Nat->Bool}:p≠q->gf K H p xs->gf K H q ys->(∀j,j<xs.length->j<ys.length->rY K H n (xs.getD j .non) (ys.getD j .non) (e j))->rY K H (n+1) (.ref p) (.ref q) ((Ov (min xs.length ys.length)).all e&&xs.length==ys.length)
section
variable {X:Cx} {V_:List (NH×Oi)} {σ:St} {H:Hp} {s:NI}
theorem rY.at_ (I:au X V_ σ H s) {n:Nat} {x y:V} {b:Bool} (c:rY X.K H n x y b):∀{A:Oc} {v u:NF},aY x v->aY y u->A.units+n<Q3->Vn A s v u b:=by
 induction c with
 |flat h1 h2=>exact λrx ry _=>Cd rx ry h1 h2
 |same=>
  intro A v u rx ry _;cases rx;cases ry;exact Vo _
 | @tup n p q xs ys e WK h1 h2 _ ih=>
  intro A v u rx ry hu;cases rx;cases ry;obtain⟨its,r,pl,hz⟩:=I.tuple h1;obtain⟨Xa,r2,a0T,a42⟩:=I.tuple h2;have l1:=r.length;have l2:=r2.length;have:=SeqAt.RcAt.tuples (A:=A) (e:=e) pl a0T (by omega) (λj a b=>by
   have a':j<its.length:=by simpa using a
   have b':j<Xa.length:=by simpa using b
   have:=ih j (by omega) (by omega) (A:=A.in1) (r.getR j a') (r2.getR j b') (by show A.units+1+n<Q3;omega);simpa using this)
  refine SeqAt.EqAt.of_refs WK ?_;simpa[l1,l2]using this
def DO (K:ND) (Xg:Bool):R2:=λx y H Q=>∃p q xs ys e,x= .ref p/\y= .ref q/\gf K H p xs/\gf K H q ys/\(∀j,j<xs.length->j<ys.length->rY K H 1 (xs.getD j .non) (ys.getD j .non) (e j))/\Q (.bl (Xg != ((Ov (min xs.length ys.length)).all e&&xs.length==ys.length))) H
theorem JB (hu:X.A.units+64<Q3):kU X (P6 .Eq) (DO X.K false):=by
 intro V_ s σ H x y v u Q I rx ry h;obtain⟨p,q,xs,ys,e,rfl,rfl,h1,h2,c,k⟩:=h;cases rx;cases ry;obtain⟨its,r,pl,hz⟩:=I.tuple h1;obtain⟨Xa,r2,a0T,a42⟩:=I.tuple h2;have l1:=r.length;have l2:=r2.length;refine SeqAt.eq_tupleAt (e:=e) pl a0T (by omega) (λj a b=> ?_) ⟨.bl _,H,I,rfl,?_⟩
 ·have a':j<its.length:=by simpa using a
  have b':j<Xa.length:=by simpa using b
  have:=(c j (by omega) (by omega)).at_ I (A:=X.A.in1) (r.getR j a') (r2.getR j b') (by show X.A.units+1+1<Q3;omega);simpa using this
 ·simpa[l1,l2]using k
theorem JC (hu:X.A.units+64<Q3):kU X (P6 .NotEq) (DO X.K true):=by
 intro V_ s σ H x y v u Q I rx ry h;obtain⟨p,q,xs,ys,e,rfl,rfl,h1,h2,c,k⟩:=h;cases rx;cases ry;obtain⟨its,r,pl,hz⟩:=I.tuple h1;obtain⟨Xa,r2,a0T,a42⟩:=I.tuple h2;have l1:=r.length;have l2:=r2.length;refine SeqAt.RcNeAt.tuples (e:=e) pl a0T (by omega) (λj a b=> ?_) X.prog X.w X.xe (EP X V_ σ Q) ⟨.bl _,H,I,rfl,?_⟩
 ·have a':j<its.length:=by simpa using a
  have b':j<Xa.length:=by simpa using b
  have:=(c j (by omega) (by omega)).at_ I (A:=X.A.in1) (r.getR j a') (r2.getR j b') (by show X.A.units+1+1<Q3;omega);simpa using this
 ·simpa[l1,l2]using k
end
end L2
namespace L2.Pu
variable {ly:List cR}
def BK (f:D->D->Option Bool):List D->List D->Option (List Bool)
 |x::a,y::b=>(f x y).bind λe=>(BK f a b).map λr=>e::r
 |[],_=>GS []
 |_::_,[]=>GS []
def JZ (x y:D):Option Bool:=if lj x=true/\lj y=true then GS (JV x y)else JT
def Hn (x y:D):Option Bool:=match x,y with
 | .tup a, .tup b=>(BK JZ a b).map λbs=>bs.all id&&a.length==b.length
 |x,y=>JZ x y
def yD (x y:D):Option Bool:=match x,y with
 | .tup a, .tup b=>(BK Hn a b).map λbs=>bs.all id&&a.length==b.length
 |_,_=>JT
theorem qS {f:D->D->Option Bool}:∀{a b:List D} {bs:List Bool},BK f a b=GS bs->bs.length=min a.length b.length/\∀(j:Nat),j<a.length->j<b.length->∃x y,a[j]? =GS x/\b[j]? =GS y/\f x y=GS (bs.getD j true)
 |[],b,bs,h=>by cases h;exact⟨by simp,λj hj=>by simp at hj⟩
 |_::_,[],bs,h=>by cases h;exact⟨by simp,λj _ hj=>by simp at hj⟩
 |x::a,y::b,bs,h=>by
  unfold BK at h;cases e:f x y with
  |none=>rw[e]at h;cases h
  |some c=>
   rw[e]at h;cases q:BK f a b with
   |none=>rw[q]at h;cases h
   |some r=>
    rw[q]at h;cases h;obtain⟨h1,h2⟩:=qS q;refine⟨by simp only[O3,h1];omega,λj hj YA=> ?_⟩;cases j with
    |zero=>exact⟨x,y,rfl,rfl,by rw[e];rfl⟩
    |succ j=>exact h2 j (by simpa using hj) (by simpa using YA)
theorem lA (bs:List Bool):(Ov bs.length).all (λj=>bs.getD j true)=bs.all id:=by
 have e:(Ov bs.length).map (λj=>bs.getD j true)=bs:=by
  apply Tc
  ·simp
  ·intro i h1 h2;simp[h2]
 conv=>rhs;rw[<-e,List.all_map]
 rfl
theorem DP (h:gM v=true):BJ v v=true:=by cases v<;>first|rfl|exact beq_self_eq_true _|(cases h;done)
section
variable {K:ND} {F H:Hp}
theorem vy {x:D} {b:Bool} (rx:cD K F v x) (ry:cD K F u y) (h:JZ x y=GS b):gM v=true/\gM u=true/\b=BJ v u:=by
 unfold JZ at h;split at h
 ·rename_i hf
  cases h;exact⟨oF rx hf.1,oF ry hf.2,(C_ rx ry hf.1 hf.2).symm⟩
 ·cases h
theorem DQ {x:D} {b:Bool} (rx:cD K F v x) (ry:cD K F v y) (h:JZ x y=GS b):b=true:=by
 obtain⟨h1,_,rfl⟩:=vy rx ry h;exact DP h1
theorem Reps.getD_ {vs:List V} {ds:List D} (r:Reps K F vs ds) {j:Nat} {x:D} (h:ds[j]? =GS x):cD K F (vs.getD j .non) x:=by
 obtain⟨v,h1,h2⟩:=r.get h;rw[OD,h1];exact h2
theorem DR {f:D->D->Option Bool} (hf:∀{v:V} {x y:D} {b:Bool},cD K F v x->cD K F v y->f x y=GS b->b=true) {vs:List V} {a b:List D} {bs:List Bool} (ra:Reps K F vs a) (rb:Reps K F vs b) (h:BK f a b=GS bs):(bs.all id&&a.length==b.length)=true:=by
 obtain⟨h1,h2⟩:=qS h;have l1:=ra.length;have l2:=rb.length;rw[OX];refine⟨?_,by simp;omega⟩;rw[<-lA,PV];intro j hj;have YA:j<bs.length:=OO.mp hj;obtain⟨x,y,g1,g2,g3⟩:=h2 j (by omega) (by omega);exact hf (ra.getD_ g1) (rb.getD_ g2) g3
theorem Gi (sub:aB F H) {v u:V} {x y:D} {b:Bool} (rx:cD K F v x) (ry:cD K F u y) (h:Hn x y=GS b):rY K H 1 v u b:=by
 unfold Hn at h;split at h
 ·rename_i a c
  cases q:BK JZ a c with
  |none=>rw[q]at h;cases h
  |some bs=>
   rw[q]at h;cases h;cases rx with
   |tup ha ra=>
    rename_i p vs;cases ry with
    |tup hc rc=>
     rename_i p' us;by_cases e:p=p'
     ·subst e
      rw[ha]at hc;cases hc;show rY K H 1 _ _ (bs.all id&&a.length==c.length);rw[DR (λh1 h2 h3=>DQ h1 h2 h3) ra rc q];exact .same
     ·obtain⟨h1,h2⟩:=qS q
      have l1:=ra.length;have l2:=rc.length;have:=rY.tup (K:=K) (H:=H) (n:=0) (e:=λj=>bs.getD j true) e (gf.of (sub _ _ ha)) (gf.of (sub _ _ hc)) (λj hj YA=>by
       obtain⟨x',y',g1,g2,g3⟩:=h2 j (by omega) (by omega);obtain⟨f1,f2,f3⟩:=vy (ra.getD_ g1) (rc.getD_ g2) g3;show rY K H 0 _ _ (bs.getD j true);rw[f3];exact .flat f1 f2)
      rw[l1,l2,<-h1,lA]at this;exact this
 ·obtain⟨f1,f2,rfl⟩:=vy rx ry h
  exact .flat f1 f2
def Bi (x y:D):Option D:=(yD x y).map .bl
def yE (x y:D):Option D:=(yD x y).map λb=> .bl (!b)
theorem zW {x:D} {b:Bool} (Xg:Bool) (s:aB F H) (rx:b_ K H F v x) (ry:b_ K H F u y) (h:yD x y=GS b) (k:Q (.bl (Xg != b)) H):DO K Xg v u H Q:=by
 unfold yD at h;split at h
 ·rename_i a c
  cases q:BK Hn a c with
  |none=>rw[q]at h;cases h
  |some bs=>
   rw[q]at h;cases h;obtain⟨p,vs,rfl,h1,h2⟩:=rx.tup s;obtain⟨p',us,rfl,h3,h4⟩:=ry.tup s;obtain⟨g1,g2⟩:=qS q;have l1:=h2.length;have l2:=h4.length;refine⟨p,p',vs,us,λj=>bs.getD j true,rfl,rfl,gf.of h1,gf.of h3,λj hj YA=> ?_,?_⟩
   ·obtain⟨x',y',e1,e2,e3⟩:=g2 j (by omega) (by omega)
    exact Gi s (h2.getD_ e1) (h4.getD_ e2) e3
   ·rw[l1,l2,<-g1,lA];exact k
 ·cases h
theorem Gj:i_ K (DO K false) Bi:=by
 intro v u x y d H F Q s rx ry h k;unfold Bi at h;cases q:yD x y with
 |none=>rw[q]at h;cases h
 |some b=>
  rw[q]at h;cases h;exact zW false s rx ry q (by rw[show (false != b)=b by cases b<;>rfl];exact k _ H F (b8.refl s) (.bl _))
theorem Gk:i_ K (DO K true) yE:=by
 intro v u x y d H F Q s rx ry h k;unfold yE at h;cases q:yD x y with
 |none=>rw[q]at h;cases h
 |some b=>
  rw[q]at h;cases h;exact zW true s rx ry q (by rw[show (true != b)= !b by cases b<;>rfl];exact k _ H F (b8.refl s) (.bl _))
end
end L2.Pu
namespace My
open PySem PySem.Spec PyProof.Rows L2 L2.Pu
def iB (i:Nat):Ob:=PySem.Challenge.pw_tankbalance_k32_whole_unknown_first.main.body.getD i (.Pass ⟨0,0,0,0⟩)
abbrev RL:List NG:=["BadTanks","UnknownDay","UnknownPlace","SamePlace","WrongRises","UnknownStream","Twice","AlreadyMetered","NotMetered","ReadingMissing","OutOfRange","TooManyStreams","TooManyMeters","TooManyDays","TooManyDeeds","NothingDone"]
abbrev tb (k:Nat):NG->Option Bool:=Dx (Be (·==k) 0 RL)
abbrev MS:NG->Option Bool:=Dx (Be (λ_=>true) 0 RL)
abbrev rZ:List NG:=["tanks","streams","rises","readings"]
abbrev gR:List NG:=["came","streams","meters","passed"]
abbrev jD:List NG:=["tanks","now","history"]
abbrev ki:Ob:=bt (iB 20) 0
def r_:aa->R aF:= ak (oK 0 (aE (ah 1) (gN 5))) (ak (oK 0 (aE (aR a_ (a7 (aR fH (a7 (a9 2) (ac))) (ac))) (gN 6))) (ak (oK 0 (aE (aR a_ (a7 (a9 3) (ac))) (gN 7))) (oK 0 (aE (aR a_ (a7 (aR fH (a7 (a9 4) (ac))) (ac))) (gN 8)))))
def qi:List (NG×Nat):=[("tanks",5),("streams",6),("rises",7),("readings",8)]
def gp:List D->R (List (NG×D)):=mC 4 8 qi r_
abbrev kj:Ob:=bt (iB 20) 1
def cE:aa->R aF:= bL (fT (f2 dD (f2 aA (a9 2) (fC (.int 0))) (a9 1))) (b6 (ah 2)) (ay)
def kl:aa->R aF:= ak (jX (bv (bi "Day" "streams" (a9 0))) (gN 2) (cE)) (bn "UnknownStream" (a7 (fC (.str "no stream of this day has that number")) (ac)))
def fI:List D->R D:=aG 2 3 kl
abbrev jk:Ob:=bt (iB 20) 2
def eJ:aa->R aF:= ak (aE (bx "Day" "stream" 2 fI (ah 0) (a7 (ah 1) (ac))) (gN 2)) (b6 (f2 (dE false) (f2 aA (a9 2) (fC (.int 0))) (aR zG (a7 (bi "Day" "readings" (a9 0)) (ac)))))
def eK:List D->R D:=aG 2 3 eJ
abbrev iC:Ob:=bt (iB 20) 5
def dG:aa->R aF:= ak (j0 2 (nM ["self","numbers","meters_there","kept"] [(".0", .local),("number", .local),("self", .free)] (bv (ah 1)) (gN 1) (et) (bx "Day" "metered" 2 eK (ah 2) (a7 (ah 1) (ac))))) (ak (bL (fT (f2 nG (kh (a9 1)) (aR aT (a7 (a9 1) (ac))))) (bn "Twice" (a7 (fC (.str "a stream is named twice")) (ac))) (ay)) (ak (bL (jf (dC (aR G8 (a7 (a9 2) (ac))))) (bn "NotMetered" (a7 (fC (.str "a stream that is named has no meter on this day")) (ac))) (ay)) (ak (j0 3 (aZ ["self","numbers","meters_there","kept"] [(".0", .local),("pair", .local),("numbers", .free)] (bv (bi "Day" "readings" (a9 0))) (gN 1) (fT (f2 (dE true) (f2 aA (a9 1) (fC (.int 0))) (a9 2))) (ah 1))) (nD [3] (b6 (jB "Day" 4 gp (a7 (bi "Day" "tanks" (a9 0)) (a7 (bi "Day" "streams" (a9 0)) (a7 (bi "Day" "rises" (a9 0)) (a7 (ah 3) (ac)))))))))))
def dH:List D->R D:=aG 2 4 dG
abbrev eM:Ob:=bt (iB 29) 0
def qB:aa->R aF:= ak (oK 0 (aE (ah 1) (gN 5))) (ak (oK 0 (aE (ah 2) (gN 6))) (ak (oK 0 (aE (ah 3) (gN 7))) (oK 0 (aE (ah 4) (gN 8)))))
def pQ:List (NG×Nat):=[("came",5),("streams",6),("meters",7),("passed",8)]
def aO:List D->R (List (NG×D)):=mC 4 8 pQ qB
abbrev cX:Ob:=bt (iB 29) 1
def cY:aa->R aF:= ak (aE (f2 aV (bi "Standing" "came" (a9 0)) (fC (.int 1))) (gN 3)) (b6 (jB "Standing" 4 aO (a7 (ah 3) (a7 (f2 aV (bi "Standing" "streams" (a9 0)) (bu (a7 (bu (a7 (ah 3) (a7 (ah 1) (a7 (ah 2) (ac))))) (ac)))) (a7 (bi "Standing" "meters" (a9 0)) (a7 (bi "Standing" "passed" (a9 0)) (ac)))))))
def cZ:List D->R D:=aG 3 4 cY
abbrev cb:Ob:=bt (iB 29) 2
def cc:aa->R aF:= ak (aE (aR a_ (a7 (fL (aZ ["self","number","streams","meters"] [(".0", .local),("stream", .local),("number", .free)] (bv (bi "Standing" "streams" (a9 0))) (gN 1) (fT (f2 v9 (f2 aA (a9 1) (fC (.int 0))) (a9 2))) (ah 1))) (ac))) (gN 2)) (ak (aE (aR a_ (a7 (fL (aZ ["self","number","streams","meters"] [(".0", .local),("meter", .local),("number", .free)] (bv (bi "Standing" "meters" (a9 0))) (gN 1) (fT (f2 v9 (a9 1) (a9 2))) (ah 1))) (ac))) (gN 3)) (b6 (jB "Standing" 4 aO (a7 (bi "Standing" "came" (a9 0)) (a7 (ah 2) (a7 (ah 3) (a7 (bi "Standing" "passed" (a9 0)) (ac))))))))
def ce:List D->R D:=aG 2 4 cc
abbrev c_:Ob:=bt (iB 29) 3
def km:aa->R aF:= b6 (jB "Standing" 4 aO (a7 (bi "Standing" "came" (a9 0)) (a7 (bi "Standing" "streams" (a9 0)) (a7 (f2 aV (bi "Standing" "meters" (a9 0)) (aR a_ (a7 (a9 1) (ac)))) (a7 (bi "Standing" "passed" (a9 0)) (ac))))))
def d0:List D->R D:=aG 2 2 km
abbrev cf:Ob:=bt (iB 29) 4
def cg:aa->R aF:= ak (aE (aR a_ (a7 (fL (aZ ["self","numbers","meters"] [(".0", .local),("meter", .local),("numbers", .free)] (bv (bi "Standing" "meters" (a9 0))) (gN 1) (fT (f2 (dE true) (a9 1) (a9 2))) (ah 1))) (ac))) (gN 2)) (b6 (jB "Standing" 4 aO (a7 (bi "Standing" "came" (a9 0)) (a7 (bi "Standing" "streams" (a9 0)) (a7 (ah 2) (a7 (bi "Standing" "passed" (a9 0)) (ac)))))))
def ci:List D->R D:=aG 2 3 cg
abbrev eA:Ob:=bt (iB 29) 5
def mM:aa->R aF:= b6 (jB "Standing" 4 aO (a7 (bi "Standing" "came" (a9 0)) (a7 (bi "Standing" "streams" (a9 0)) (a7 (bi "Standing" "meters" (a9 0)) (a7 (f2 aV (bi "Standing" "passed" (a9 0)) (bu (a7 (ah 1) (ac)))) (ac))))))
def eB:List D->R D:=aG 2 2 mM
abbrev hU:Ob:=iB 31
def qC:aa->R aF:= ak (bL (dC (aR tu (a7 (fL (aZ ["tanks","places"] [(".0", .local),("place", .local),("OUTSIDE", .globalImplicit),("tanks", .free)] (bv (ah 1)) (gN 1) (et) (CI (f2 nG (a9 1) (fC (.int 0))) (f2 nH (a9 1) (a9 3))))) (ac)))) (bn "UnknownPlace" (a7 (fC (.str "a place is neither the outside nor one of the tanks")) (ac))) (ay)) (bL (fT (f2 dD (f2 aA (a9 1) (fC (.int 0))) (f2 aA (a9 1) (fC (.int 1))))) (bn "SamePlace" (a7 (fC (.str "a stream leads from one place to another one")) (ac))) (ay))
def hV:List D->R D:=aG 2 2 qC
abbrev gq:Ob:=iB 32
def pR:aa->R aF:= ak (j0 2 (aZ ["standing","numbers","there"] [(".0", .local),("stream", .local)] (bv (bi "Standing" "streams" (a9 0))) (gN 1) (et) (f2 aA (a9 1) (fC (.int 0))))) (ak (bL (dC (aR tu (a7 (fL (aZ ["standing","numbers","there"] [(".0", .local),("number", .local),("there", .free)] (bv (ah 1)) (gN 1) (et) (f2 (dE true) (a9 1) (a9 2)))) (ac)))) (bn "UnknownStream" (a7 (fC (.str "a stream that is named is not there")) (ac))) (ay)) (bL (fT (f2 nG (kh (a9 1)) (aR aT (a7 (a9 1) (ac))))) (bn "Twice" (a7 (fC (.str "a stream is named twice")) (ac))) (ay)))
def bV:List D->R D:=aG 2 3 pR
abbrev eQ:Ob:=iB 33
def nN:aa->R aF:= bL (dC (aR tu (a7 (fL (aZ ["standing","numbers"] [(".0", .local),("number", .local),("standing", .free)] (bv (ah 1)) (gN 1) (et) (f2 (dE true) (a9 1) (bi "Standing" "meters" (a9 2))))) (ac)))) (bn "NotMetered" (a7 (fC (.str "a stream that is named has no meter")) (ac))) (ay)
def d3:List D->R D:=aG 2 2 nN
abbrev gr:Ob:=iB 34
def pS:aa->R aF:= bL (dC (aR tu (a7 (fL (aZ ["amounts"] [(".0", .local),("amount", .local),("abs", .globalImplicit),("MOST_AMOUNT", .globalImplicit)] (bv (ah 0)) (gN 1) (et) (f2 nH (aR Jt (a7 (a9 1) (ac))) (fC (.int 1000))))) (ac)))) (bn "OutOfRange" (a7 (fC (.str "a rise or a reading lies out of range")) (ac))) (ay)
def dR:List D->R D:=aG 1 1 pS
abbrev gI:Ob:=bt (iB 35) 0
def jl:aa->R aF:=
 ak (bL (rJ (fT (f2 nG (a9 1) (fC (.int 0)))) (fT (f2 nH (a9 1) (fC (.int 7)))))
  (bn "BadTanks" (a7 (fC (.str "a cellar can't have that many tanks")) (ac)))
  (ay))
  (ak (oK 0 (aE (ah 1) (gN 2)))
  (ak (oK 0 (aE (jB "Standing" 4 aO (a7 (fC (.int 0)) (a7 (bu (ac)) (a7 (bu (ac)) (a7 (bu (ac)) (ac)))))) (gN 3)))
  (DF 0 4)))
def sd:List (NG×Nat):=[("tanks",2),("now",3)]
def eL:List D->R (List (NG×D)×NG×List D):=lz 1 4 sd "history" 4 jl
abbrev eR:Ob:=bt (iB 35) 1
def eS:aa->R aF:= ak (bL (fT (f2 Hh (aR aT (a7 (oQ 0 "Cellar" "history") (ac))) (fC (.int 60)))) (bn "TooManyDeeds" (a7 (fC (.str "no more deeds can be kept")) (ac))) (ay)) (ak (oS 0 "Cellar" "history" (bu (a7 (ah 1) (a7 (bT 0 "Cellar" "now") (ac))))) (oR 0 "Cellar" "now" (ah 2)))
def aW:List Slot->List D->R (D×List Slot):=iy 1 2 2 eS
abbrev dr:Ob:=bt (iB 35) 2
def kZ:aa->R aF:= ak (f8 (av hV 2 (a7 (bT 0 "Cellar" "tanks") (a7 (bu (a7 (ah 1) (a7 (ah 2) (ac)))) (ac))))) (ak (bL (fT (f2 Hh (aR aT (a7 (bi "Standing" "streams" (bT 0 "Cellar" "now")) (ac))) (fC (.int 12)))) (bn "TooManyStreams" (a7 (fC (.str "no more streams can be there")) (ac))) (ay)) (ak (bH (fU 0 "Cellar" "keep_deed" (bQ [0] aW 2 (a7 (bu (a7 (fC (.str "stream comes")) (a7 (ah 1) (a7 (ah 2) (ac))))) (a7 (bx "Standing" "with_stream" 3 cZ (bT 0 "Cellar" "now") (a7 (ah 1) (a7 (ah 2) (ac)))) (ac)))))) (n4 (bi "Standing" "came" (bT 0 "Cellar" "now")))))
def du:List Slot->List D->R (D×List Slot):=iy 1 2 2 kZ
abbrev dI:Ob:=bt (iB 35) 3
def lB:aa->R aF:= ak (f8 (av bV 2 (a7 (bT 0 "Cellar" "now") (a7 (bu (a7 (ah 1) (ac))) (ac))))) (bH (fU 0 "Cellar" "keep_deed" (bQ [0] aW 2 (a7 (bu (a7 (fC (.str "stream goes")) (a7 (ah 1) (ac)))) (a7 (bx "Standing" "without_stream" 2 ce (bT 0 "Cellar" "now") (a7 (ah 1) (ac))) (ac))))))
def dJ:List Slot->List D->R (D×List Slot):=iy 1 1 1 lB
abbrev dL:Ob:=bt (iB 35) 4
def lC:aa->R aF:= ak (f8 (av bV 2 (a7 (bT 0 "Cellar" "now") (a7 (ah 1) (ac))))) (ak (bL (yA [0] (dC (aR tu (a7 (fL (aZ ["self","numbers"] [(".0", .local),("number", .local),("self", .free)] (bv (ah 1)) (gN 1) (et) (f2 (dE false) (a9 1) (bi "Standing" "meters" (bi "Cellar" "now" (a9 2)))))) (ac))))) (bn "AlreadyMetered" (a7 (fC (.str "a stream that is named has a meter already")) (ac))) (ay)) (ak (bL (fT (f2 nH (f2 aV (aR aT (a7 (bi "Standing" "meters" (bT 0 "Cellar" "now")) (ac))) (aR aT (a7 (a9 1) (ac)))) (fC (.int 10)))) (bn "TooManyMeters" (a7 (fC (.str "no more meters can be there")) (ac))) (ay)) (bH (fU 0 "Cellar" "keep_deed" (bQ [0] aW 2 (a7 (bu (a7 (fC (.str "meters come")) (a7 (aR a_ (a7 (a9 1) (ac))) (ac)))) (a7 (bx "Standing" "with_meters" 2 d0 (bT 0 "Cellar" "now") (a7 (ah 1) (ac))) (ac))))))))
def bC:List Slot->List D->R (D×List Slot):=iy 1 1 1 lC
abbrev eU:Ob:=bt (iB 35) 5
def nO:aa->R aF:= ak (f8 (av bV 2 (a7 (bT 0 "Cellar" "now") (a7 (ah 1) (ac))))) (ak (f8 (av d3 2 (a7 (bT 0 "Cellar" "now") (a7 (ah 1) (ac))))) (bH (fU 0 "Cellar" "keep_deed" (bQ [0] aW 2 (a7 (bu (a7 (fC (.str "meters go")) (a7 (aR a_ (a7 (a9 1) (ac))) (ac)))) (a7 (bx "Standing" "without_meters" 2 ci (bT 0 "Cellar" "now") (a7 (ah 1) (ac))) (ac)))))))
def bY:List Slot->List D->R (D×List Slot):=iy 1 1 1 nO
abbrev eV:Ob:=bt (iB 35) 10
def nP:aa->R aF:= b6 (aR aT (a7 (bi "Standing" "passed" (bi "Cellar" "now" (a9 0))) (ac)))
def bc:List D->R D:=aG 1 1 nP
abbrev eC:Ob:=bt (iB 35) 6
def mO:aa->R aF:= ak (bL (fT (f2 v9 (aR aT (a7 (a9 1) (ac))) (bT 0 "Cellar" "tanks"))) (bn "WrongRises" (a7 (fC (.str "each tank has one rise")) (ac))) (ay)) (ak (j0 3 (aZ ["self","rises","readings","numbers","day"] [(".0", .local),("pair", .local)] (bv (ah 2)) (gN 1) (et) (f2 aA (a9 1) (fC (.int 0))))) (ak (nD [3] (f8 (av bV 2 (a7 (bT 0 "Cellar" "now") (a7 (ah 3) (ac)))))) (ak (nD [3] (f8 (av d3 2 (a7 (bT 0 "Cellar" "now") (a7 (ah 3) (ac)))))) (ak (bL (dC (aR tu (a7 (fL (aZ ["self","rises","readings","numbers","day"] [(".0", .local),("meter", .local),("numbers", .free)] (bv (bi "Standing" "meters" (bT 0 "Cellar" "now"))) (gN 1) (et) (f2 (dE true) (a9 1) (a9 2)))) (ac)))) (bn "ReadingMissing" (a7 (fC (.str "a stream that has a meter has no reading")) (ac))) (ay)) (ak (f8 (av dR 1 (a7 (ah 1) (ac)))) (ak (f8 (av dR 1 (a7 (fL (aZ ["self","rises","readings","numbers","day"] [(".0", .local),("pair", .local)] (bv (ah 2)) (gN 1) (et) (f2 aA (a9 1) (fC (.int 1))))) (ac)))) (ak (bL (fT (f2 Hh (aR aT (a7 (bi "Standing" "passed" (bT 0 "Cellar" "now")) (ac))) (fC (.int 12)))) (bn "TooManyDays" (a7 (fC (.str "no more days can be kept")) (ac))) (ay)) (ak (aE (jB "Day" 4 gp (a7 (bT 0 "Cellar" "tanks") (a7 (bi "Standing" "streams" (bT 0 "Cellar" "now")) (a7 (ah 1) (a7 (ah 2) (ac)))))) (gN 4)) (ak (bH (fU 0 "Cellar" "keep_deed" (bQ [0] aW 2 (a7 (bu (a7 (fC (.str "day passes")) (a7 (aR a_ (a7 (a9 1) (ac))) (a7 (aR a_ (a7 (a9 2) (ac))) (ac))))) (a7 (bx "Standing" "with_day" 2 eB (bT 0 "Cellar" "now") (a7 (ah 4) (ac))) (ac)))))) (n4 (hJ "history" [0] (bx "Cellar" "days_gone" 1 bc (ah 0) ac))))))))))))
def bK:List Slot->List D->R (D×List Slot):=iy 1 2 4 mO
abbrev eW:Ob:=bt (iB 35) 7
def eX:aa->R aF:= ak (bL (fT (f2 dD (aR aT (a7 (oQ 0 "Cellar" "history") (ac))) (fC (.int 0)))) (bn "NothingDone" (a7 (fC (.str "no deed stands")) (ac))) (ay)) (ak (qR 1 0 "Cellar" "history") (ak (oR 0 "Cellar" "now" (f2 aA (a9 1) (fC (.int 1)))) (n4 (f2 aA (a9 1) (fC (.int 0))))))
def d4:List Slot->List D->R (D×List Slot):=iy 1 0 1 eX
abbrev hW:Ob:=bt (iB 35) 8
def hX:aa->R aF:= ak (aE (bi "Standing" "meters" (bi "Cellar" "now" (a9 0))) (gN 1)) (b6 (aR a_ (a7 (fL (aZ ["self","meters"] [(".0", .local),("stream", .local),("meters", .free)] (bv (bi "Standing" "streams" (bi "Cellar" "now" (a9 0)))) (gN 1) (et) (f2 aV (a9 1) (bu (a7 (f2 (dE false) (f2 aA (a9 1) (fC (.int 0))) (a9 2)) (ac)))))) (ac))))
def eN:List D->R D:=aG 1 2 hX
abbrev iD:Ob:=bt (iB 35) 9
def se:aa->R aF:= b6 (aR a_ (a7 (fL (aZ ["self"] [(".0", .local),("kept", .local)] (bv (bi "Cellar" "history" (a9 0))) (gN 1) (et) (f2 aA (a9 1) (fC (.int 0))))) (ac)))
def fJ:List D->R D:=aG 1 1 se
abbrev kn:Ob:=bt (iB 35) 11
def ko:aa->R aF:= ak (bL (rJ (fT (f2 nG (a9 1) (fC (.int 1)))) (fT (f2 nH (a9 1) (bx "Cellar" "days_gone" 1 bc (ah 0) ac)))) (bn "UnknownDay" (a7 (fC (.str "no day has that number")) (ac))) (ay)) (b6 (f2 aA (bi "Standing" "passed" (bi "Cellar" "now" (a9 0))) (f2 jg (a9 1) (fC (.int 1)))))
def cw:List D->R D:=aG 2 2 ko
abbrev sf:Ob:=iB 37
def xa:aa->R aF:= ak (bL (fT (f2 nG (a9 1) (aR aT (a7 (a9 0) (ac))))) (b6 (f2 aA (a9 0) (a9 1))) (ay)) (b6 (fC (.int 0)))
def dg:List D->R D:=aG 2 2 xa
abbrev nQ:Ob:=iB 38
def nR:aa->R aF:= ak (bL (fT (f2 dD (f2 bw (av dg 2 (a7 (ah 0) (a7 (fC (.int 0)) (ac)))) (fC (.int 2))) (fC (.int 0)))) (b6 (av dg 2 (a7 (ah 0) (a7 (ah 1) (ac))))) (ay)) (ak (aE (f2 bw (f2 jY (f2 aV (f2 aV (f2 aV (av dg 2 (a7 (ah 0) (a7 (ah 1) (ac)))) (f2 f7 (av dg 2 (a7 (ah 0) (a7 (fC (.int 0)) (ac)))) (fC (.int 2)))) (f2 jY (fC (.int 7919)) (a9 1))) (fC (.int 1))) (fC (.int 48271))) (fC (.int 2147483647))) (gN 2)) (b6 (f2 bw (f2 jY (f2 aV (a9 2) (a9 1)) (fC (.int 69621))) (fC (.int 2147483647)))))
def aX:List D->R D:=aG 2 3 nR
abbrev jm:Ob:=iB 39
def fK:aa->R aF:= bL (dC (a9 1)) (ak (aE (f2 bw (f2 jY (f2 aV (f2 aV (a9 0) (f2 jY (fC (.int 7919)) (a9 6))) (fC (.int 1))) (fC (.int 48271))) (fC (.int 2147483647))) (gN 7)) (nF 4 (f2 bw (f2 bw (f2 jY (f2 aV (a9 7) (a9 6)) (fC (.int 69621))) (fC (.int 2147483647))) (a9 3)))) (ak (nF 4 (f2 bw (a9 5) (a9 3))) (aE (f2 f7 (a9 5) (a9 3)) (gN 5)))
def jn:aa->R aF:= ak (lh 4 (ac)) (ak (aE (ah 0) (gN 5)) (ak (jX (cq (a7 (ah 2) (ac))) (gN 6) (fK)) (nD [4] (b6 (ah 4)))))
def bU:List D->R D:=aG 4 8 jn
abbrev nS:Ob:=iB 40
def j8 (YM:List D->R D):aa->R aF:= bL (jf (dC (av YM 2 (a7 (f2 aA (a9 0) (a9 2)) (a7 (f2 aA (a9 1) (a9 2)) (ac)))))) (b6 (fC (.bl false))) (ay)
def d5 (YM:List D->R D):aa->R aF:= ak (bL (dC (lq "tuple" (a9 1))) (ak (bL (rJ (jf (dC (lq "tuple" (a9 0)))) (fT (f2 v9 (aR aT (a7 (a9 0) (ac))) (aR aT (a7 (a9 1) (ac)))))) (b6 (fC (.bl false))) (ay)) (ak (jX (cq (a7 (aR aT (a7 (a9 1) (ac))) (ac))) (gN 2) (j8 YM)) (b6 (fC (.bl true))))) (ay)) (ak (bL (dC (lq "bool" (a9 1))) (b6 (kM (lq "bool" (a9 0)) (f2 dD (a9 0) (a9 1)))) (ay)) (ak (bL (dC (lq "str" (a9 1))) (b6 (kM (lq "str" (a9 0)) (f2 dD (a9 0) (a9 1)))) (ay)) (b6 (kM (lq "int" (a9 0)) (kM (qc (lq "bool" (a9 0))) (f2 dD (a9 0) (a9 1)))))))
def bD:Nat->List D->R D
 |0=>λ_=> .bad
 |n+1=>aG 2 3 (d5 (bD n))
def bd:List D->R D:=bD 8
abbrev nT:Ob:=iB 41
def nU:aa->R aF:= ak (aE (f1 gj (a9 3)) (gN 4)) (ak (aE (ah 3) (gN 5)) (ak (bL (fT (f2 nH (a9 1) (fC (.int 0)))) (ak (aE (aR yq (a7 (a9 4) (a7 (f2 jg (f2 aA (a9 0) (a9 1)) (fC (.int 1000))) (ac)))) (gN 4)) (aE (aR vg (a7 (a9 5) (a7 (f2 aV (f2 aA (a9 0) (a9 1)) (fC (.int 1000))) (ac)))) (gN 5))) (ay)) (ak (bL (fT (f2 nH (a9 2) (fC (.int 0)))) (ak (aE (aR yq (a7 (a9 4) (a7 (f2 jg (f1 gj (fC (.int 1000))) (f2 aA (a9 0) (a9 2))) (ac)))) (gN 4)) (aE (aR vg (a7 (a9 5) (a7 (f2 jg (fC (.int 1000)) (f2 aA (a9 0) (a9 2))) (ac)))) (gN 5))) (ay)) (b6 (eI (a7 (ah 4) (a7 (ah 5) (ac))))))))
def nV:List D->R D:=aG 4 6 nU
abbrev lD:Ob:=iB 42
def ib:aa->R aF:= ak (aE (f2 aA (a9 2) (a9 7)) (rK 3 (bX (gN 8) (bX (gN 9) (bX (gN 10) (oE)))))) (ak (zL [5] (av nV 4 (a7 (ah 5) (a7 (ah 9) (a7 (ah 10) (a7 (f2 aA (a9 4) (aR D5 (a7 (f2 (dE false) (a9 8) (a9 3)) (ac)))) (ac)))))) 2 (bX (gN 11) (bX (gN 12) (oE)))) (ak (aE (f2 aV (a9 11) (f2 bw (f2 aA (a9 0) (a9 7)) (f2 aV (f2 jg (a9 12) (a9 11)) (fC (.int 1))))) (gN 13)) (ak (AS 5 (ah 9) (f2 jg (f2 aA (a9 5) (a9 9)) (a9 13))) (ak (AS 5 (ah 10) (f2 aV (f2 aA (a9 5) (a9 10)) (a9 13))) (nF 6 (bu (a7 (ah 8) (a7 (ah 13) (ac)))))))))
def lE:aa->R aF:= ak (uq 5 (f2 ur (eI (a7 (fC (.int 0)) (ac))) (f2 aV (a9 1) (fC (.int 1))))) (ak (lh 6 (ac)) (ak (jX (cq (a7 (aR aT (a7 (a9 2) (ac))) (ac))) (gN 7) (ib)) (b6 (eI (a7 (aR a_ (a7 (a9 6) (ac))) (a7 (aR a_ (a7 (vh (a9 5) (gQ (fC (.int 1))) (i0)) (ac))) (ac)))))))
def lF:List D->R D:=aG 5 14 lE
abbrev nW:Ob:=iB 43
def nX:aa->R aF:= ak (bL (rJ (jf (dC (av bd 2 (a7 (bi "Day" "tanks" (a9 0)) (a7 (f2 aA (a9 1) (fC (.int 0))) (ac)))))) (jf (dC (av bd 2 (a7 (bi "Day" "streams" (a9 0)) (a7 (f2 aA (a9 1) (fC (.int 1))) (ac))))))) (b6 (fC (.bl false))) (ay)) (b6 (kM (av bd 2 (a7 (bi "Day" "rises" (a9 0)) (a7 (f2 aA (a9 1) (fC (.int 2))) (ac)))) (av bd 2 (a7 (bi "Day" "readings" (a9 0)) (a7 (f2 aA (a9 1) (fC (.int 3))) (ac))))))
def kq:List D->R D:=aG 2 2 nX
abbrev sg:Ob:=iB 44
def lG:aa->R aF:= ak (bL (fT (f2 dD (f2 aA (a9 1) (fC (.int 0))) (fC (.str "stream comes")))) (jC (fU 0 "Cellar" "stream_comes" (bQ [0] du 2 (a7 (f2 aA (a9 1) (fC (.int 1))) (a7 (f2 aA (a9 1) (fC (.int 2))) (ac)))))) (ay)) (ak (bL (fT (f2 dD (f2 aA (a9 1) (fC (.int 0))) (fC (.str "stream goes")))) (jC (fU 0 "Cellar" "stream_goes" (bQ [0] dJ 1 (a7 (f2 aA (a9 1) (fC (.int 1))) (ac))))) (ay)) (ak (bL (fT (f2 dD (f2 aA (a9 1) (fC (.int 0))) (fC (.str "meters come")))) (jC (fU 0 "Cellar" "meters_come" (bQ [0] bC 1 (a7 (aR lm (a7 (f2 aA (a9 1) (fC (.int 1))) (ac))) (ac))))) (ay)) (ak (bL (fT (f2 dD (f2 aA (a9 1) (fC (.int 0))) (fC (.str "meters go")))) (jC (fU 0 "Cellar" "meters_go" (bQ [0] bY 1 (a7 (aR lm (a7 (f2 aA (a9 1) (fC (.int 1))) (ac))) (ac))))) (ay)) (ak (bL (fT (f2 dD (f2 aA (a9 1) (fC (.int 0))) (fC (.str "day passes")))) (jC (fU 0 "Cellar" "day_passes" (bQ [0] bK 2 (a7 (aR lm (a7 (f2 aA (a9 1) (fC (.int 1))) (ac))) (a7 (aR lm (a7 (f2 aA (a9 1) (fC (.int 2))) (ac))) (ac)))))) (ay)) (jC (fU 0 "Cellar" "take_back" (bQ [0] d4 0 ac)))))))
def jE:List Slot->List D->R (D×List Slot):=iy 1 1 1 lG
abbrev kr:Ob:=iB 45
def kt:aa->R aF:= ak (aE (ah 0) (rK 6 (bX (gN 2) (bX (gN 3) (bX (gN 4) (bX (gN 5) (bX (gN 6) (bX (gN 7) (oE))))))))) (ak (aE (f2 aV (a9 7) (bu (a7 (ah 1) (ac)))) (gN 7)) (ak (bL (fT (f2 dD (f2 aA (a9 1) (fC (.int 0))) (fC (.str "stream comes")))) (ak (aE (f2 aV (a9 4) (bu (a7 (bu (a7 (ah 3) (a7 (f2 aA (a9 1) (fC (.int 1))) (a7 (f2 aA (a9 1) (fC (.int 2))) (ac))))) (ac)))) (gN 4)) (aE (f2 aV (a9 3) (fC (.int 1))) (gN 3))) (bL (fT (f2 dD (f2 aA (a9 1) (fC (.int 0))) (fC (.str "stream goes")))) (ak (aE (aR a_ (a7 (fL (aZ ["_law_model","_law_deed","_law_n","_law_following","_law_streams","_law_meters","_law_days","_law_deeds"] [(".0", .local),("_law_stream", .local),("_law_deed", .free)] (bv (ah 4)) (gN 1) (fT (f2 v9 (f2 aA (a9 1) (fC (.int 0))) (f2 aA (a9 2) (fC (.int 1))))) (ah 1))) (ac))) (gN 4)) (aE (aR a_ (a7 (fL (aZ ["_law_model","_law_deed","_law_n","_law_following","_law_streams","_law_meters","_law_days","_law_deeds"] [(".0", .local),("_law_number", .local),("_law_deed", .free)] (bv (ah 5)) (gN 1) (fT (f2 v9 (a9 1) (f2 aA (a9 2) (fC (.int 1))))) (ah 1))) (ac))) (gN 5))) (bL (fT (f2 dD (f2 aA (a9 1) (fC (.int 0))) (fC (.str "meters come")))) (aE (aR a_ (a7 (aR pP (a7 (f2 aV (a9 5) (f2 aA (a9 1) (fC (.int 1)))) (ac))) (ac))) (gN 5)) (bL (fT (f2 dD (f2 aA (a9 1) (fC (.int 0))) (fC (.str "meters go")))) (aE (aR a_ (a7 (fL (aZ ["_law_model","_law_deed","_law_n","_law_following","_law_streams","_law_meters","_law_days","_law_deeds"] [(".0", .local),("_law_number", .local),("_law_deed", .free)] (bv (ah 5)) (gN 1) (fT (f2 (dE true) (a9 1) (f2 aA (a9 2) (fC (.int 1))))) (ah 1))) (ac))) (gN 5)) (aE (f2 aV (a9 6) (bu (a7 (bu (a7 (ah 2) (a7 (ah 4) (a7 (f2 aA (a9 1) (fC (.int 1))) (a7 (aR a_ (a7 (aR fH (a7 (f2 aA (a9 1) (fC (.int 2))) (ac))) (ac))) (ac)))))) (ac)))) (gN 6)))))) (b6 (bu (a7 (ah 2) (a7 (ah 3) (a7 (ah 4) (a7 (ah 5) (a7 (ah 6) (a7 (ah 7) (ac)))))))))))
def dS:List D->R D:=aG 2 8 kt
abbrev ku:Ob:=iB 46
def vz:aa->R aF:= b6 (aR a_ (a7 (fL (aZ ["_law_model"] [(".0", .local),("_law_stream", .local),("_law_model", .free)] (bv (f2 aA (a9 0) (fC (.int 2)))) (gN 1) (et) (f2 aV (a9 1) (bu (a7 (f2 (dE false) (f2 aA (a9 1) (fC (.int 0))) (f2 aA (a9 2) (fC (.int 3)))) (ac)))))) (ac)))
def ic:List D->R D:=aG 1 1 vz
abbrev lH:Ob:=iB 47
def kx:aa->R aF:= bL (jf (dC (av kq 2 (a7 (bx "Cellar" "day" 2 cw (ah 0) (a7 (f2 aV (a9 2) (fC (.int 1))) (ac))) (a7 (f2 aA (f2 aA (a9 1) (fC (.int 4))) (a9 2)) (ac)))))) (b6 (fC (.bl false))) (ay)
def lI:aa->R aF:= ak (bL (rJ (jf (dC (av bd 2 (a7 (bi "Cellar" "tanks" (a9 0)) (a7 (f2 aA (a9 1) (fC (.int 0))) (ac)))))) (jf (dC (av bd 2 (a7 (bx "Cellar" "layout" 1 eN (ah 0) ac) (a7 (av ic 1 (a7 (ah 1) (ac))) (ac))))))) (b6 (fC (.bl false))) (ay)) (ak (bL (rJ (jf (dC (av bd 2 (a7 (bx "Cellar" "deeds" 1 fJ (ah 0) ac) (a7 (f2 aA (a9 1) (fC (.int 5))) (ac)))))) (jf (dC (av bd 2 (a7 (bx "Cellar" "days_gone" 1 bc (ah 0) ac) (a7 (aR aT (a7 (f2 aA (a9 1) (fC (.int 4))) (ac))) (ac))))))) (b6 (fC (.bl false))) (ay)) (ak (jX (cq (a7 (aR aT (a7 (f2 aA (a9 1) (fC (.int 4))) (ac))) (ac))) (gN 2) (kx)) (b6 (fC (.bl true)))))
def j9:List D->R D:=aG 2 3 lI
abbrev iE:Ob:=iB 48
def dh:aa->R aF:= ak (aE (f2 aA (f2 aA (a9 6) (fC (.int 0))) (a9 8)) (rK 2 (bX (gN 9) (bX (gN 10) (oE))))) (ak (aE (f2 aA (a9 5) (f2 aV (a9 4) (a9 8))) (gN 11)) (ak (bL (rJ (fT (f2 dD (a9 3) (fC (.int 2)))) (fc (fT (f2 dD (a9 3) (fC (.int 1)))) (fT (f2 dD (f2 bw (a9 11) (fC (.int 3))) (fC (.int 0)))))) (aE (f2 jg (f2 bw (f2 f7 (a9 11) (fC (.int 3))) (fC (.int 2001))) (fC (.int 1000))) (gN 10)) (ay)) (ak (bL (fc (fT (f2 dD (a9 3) (fC (.int 4)))) (fT (f2 dD (f2 bw (a9 11) (fC (.int 2))) (fC (.int 0))))) (aE (f2 jg (f2 bw (f2 f7 (a9 11) (fC (.int 2))) (fC (.int 3))) (fC (.int 1))) (gN 10)) (ay)) (bL (fT (f2 (dE false) (a9 9) (f2 aA (a9 0) (fC (.int 3))))) (nF 7 (bu (a7 (ah 9) (a7 (ah 10) (ac))))) (ay)))))
def iF:aa->R aF:= ak (aE (f2 bw (a9 1) (fC (.int 5))) (gN 3)) (ak (aE (aR aT (a7 (f2 aA (a9 0) (fC (.int 2))) (ac))) (gN 4)) (ak (aE (av bU 4 (a7 (f2 f7 (a9 1) (fC (.int 10))) (a7 (ah 2) (a7 (f2 aV (f2 jY (fC (.int 2)) (a9 4)) (f2 aA (a9 0) (fC (.int 0)))) (a7 (fC (.int 10010)) (ac)))))) (gN 5)) (ak (aE (av lF 5 (a7 (ah 5) (a7 (f2 aA (a9 0) (fC (.int 0))) (a7 (f2 aA (a9 0) (fC (.int 2))) (a7 (f2 aA (a9 0) (fC (.int 3))) (a7 (f2 aA (eI (a7 (eI (a7 (fC (.int 5000)) (a7 (fC (.int 1000)) (ac)))) (a7 (eI (a7 (fC (.int 1)) (a7 (fC (.int 1)) (ac)))) (ac)))) (aR D5 (a7 (f2 nH (a9 3) (fC (.int 2))) (ac)))) (ac))))))) (gN 6)) (ak (lh 7 (ac)) (ak (jX (cq (a7 (ah 4) (ac))) (gN 8) (dh)) (ak (aE (f2 aA (a9 6) (fC (.int 1))) (gN 12)) (ak (bL (fT (f2 dD (a9 3) (fC (.int 2)))) (aE (aR a_ (a7 (fL (aZ ["_law_model","_law_cell_here","_law_mixed","_law_mode","_law_many","_law_figures_here","_law_flows_here","_law_readings","_law_k","_law_number","_law_amount","_law_other","_law_rises"] [(".0", .local),("_law_k", .local),("_law_figures_here", .free),("_law_many", .free)] (cq (a7 (f2 aA (a9 0) (fC (.int 0))) (ac))) (gN 1) (et) (f2 jg (f2 bw (f2 aA (a9 2) (f2 aV (f2 jY (fC (.int 2)) (a9 3)) (a9 1))) (fC (.int 2001))) (fC (.int 1000))))) (ac))) (gN 12)) (ay)) (ak (bL (fT (f2 dD (f2 bw (f2 f7 (a9 1) (fC (.int 5))) (fC (.int 2))) (fC (.int 1)))) (aE (wH (a9 7)) (gN 7)) (ay)) (b6 (bu (a7 (fC (.str "day passes")) (a7 (ah 12) (a7 (aR a_ (a7 (a9 7) (ac))) (ac))))))))))))))
def cO:List D->R D:=aG 3 13 iF
abbrev gu:Ob:=iB 49
def fM:aa->R aF:= ak (aE (f2 bw (f2 aA (a9 4) (a9 9)) (f2 aV (a9 1) (fC (.int 1)))) (gN 10)) (nF 8 (bu (a7 (fC (.str "stream comes")) (a7 (ah 10) (a7 (f2 bw (f2 aV (f2 aV (a9 10) (fC (.int 1))) (f2 bw (f2 aA (a9 5) (a9 9)) (a9 1))) (f2 aV (a9 1) (fC (.int 1)))) (ac))))))
def gw:aa->R aF:= ak (aE (f2 dD (f2 bw (av dg 2 (a7 (ah 0) (a7 (fC (.int 0)) (ac)))) (fC (.int 2))) (fC (.int 1))) (gN 2)) (ak (aE (f2 jY (aR vg (a7 (a9 1) (a7 (fC (.int 1)) (ac)))) (f2 bw (av aX 2 (a7 (ah 0) (a7 (fC (.int 2)) (ac)))) (fC (.int 13)))) (gN 3)) (ak (aE (av bU 4 (a7 (av aX 2 (a7 (ah 0) (a7 (fC (.int 3)) (ac)))) (a7 (ah 2) (a7 (ah 3) (a7 (fC (.int 8)) (ac)))))) (gN 4)) (ak (aE (av bU 4 (a7 (av aX 2 (a7 (ah 0) (a7 (fC (.int 4)) (ac)))) (a7 (ah 2) (a7 (ah 3) (a7 (fC (.int 7)) (ac)))))) (gN 5)) (ak (aE (av bU 4 (a7 (f2 f7 (av aX 2 (a7 (ah 0) (a7 (fC (.int 5)) (ac)))) (fC (.int 5))) (a7 (ah 2) (a7 (ah 3) (a7 (fC (.int 4)) (ac)))))) (gN 6)) (ak (aE (f2 bw (av aX 2 (a7 (ah 0) (a7 (fC (.int 5)) (ac)))) (fC (.int 5))) (gN 7)) (ak (lh 8 (ac)) (ak (jX (cq (a7 (ah 3) (ac))) (gN 9) (fM)) (ak (j0 11 (aZ ["_law_script","_law_n","_law_mixed","_law_many","_law_sources","_law_targets","_law_fitted","_law_share","_law_deeds","_law_k","_law_source","_law_named"] [(".0", .local),("_law_k", .local),("_law_fitted", .free),("_law_share", .free)] (cq (a7 (ah 3) (ac))) (gN 1) (fT (f2 nG (f2 aA (a9 2) (a9 1)) (a9 3))) (f2 aV (a9 1) (fC (.int 1))))) (b6 (f2 aV (a9 8) (eI (a7 (bu (a7 (fC (.str "meters come")) (a7 (aR a_ (a7 (vh (a9 11) (i0) (gQ (fC (.int 10)))) (ac))) (ac)))) (ac)))))))))))))
def gz:List D->R D:=aG 2 12 gw
abbrev lJ:Ob:=iB 50
def lK:aa->R D:= zU (aE (f2 bw (av aX 2 (a7 (ah 0) (a7 (fC (.int 1)) (ac)))) (fC (.int 8))) (gN 1)) (eI (a7 (bu (a7 (ah 1) (a7 (fC (.int 1)) (a7 (bu (ac)) (a7 (bu (ac)) (a7 (bu (ac)) (a7 (bu (ac)) (ac)))))))) (ac)))
def ja:List D->R D:=Gh 1 2 lK
abbrev iG:Ob:=iB 51
def iH:aa->R aF:= ak (aE (f2 aA (a9 0) (f1 gj (fC (.int 1)))) (rK 6 (bX (gN 3) (bX (gN 4) (bX (gN 5) (bX (gN 6) (bX (gN 7) (bX (gN 8) (oE))))))))) (ak (aE (f2 bw (a9 1) (fC (.int 16))) (gN 9)) (ak (aE (av bU 4 (a7 (f2 f7 (a9 1) (fC (.int 64))) (a7 (ah 2) (a7 (fC (.int 2)) (a7 (fC (.int 630)) (ac)))))) (gN 10)) (ak (j0 11 (aZ ["_law_past","_law_cell_here","_law_mixed","_law_n","_law_following","_law_streams","_law_meters","_law_days","_law_deeds","_law_kind","_law_figures_here","_law_bare","_law_source","_law_row"] [(".0", .local),("_law_stream", .local),("_law_meters", .free)] (bv (ah 5)) (gN 1) (fT (f2 (dE true) (f2 aA (a9 1) (fC (.int 0))) (a9 2))) (f2 aA (a9 1) (fC (.int 0))))) (ak (bL (fc (fT (f2 nH (a9 9) (fC (.int 13)))) (fT (f2 nH (aR aT (a7 (a9 0) (ac))) (fC (.int 1))))) (b6 (bu (a7 (fC (.str "take back")) (ac)))) (ay)) (ak (bL (fT (f2 nH (aR aT (a7 (a9 0) (ac))) (fC (.int 60)))) (b6 (fC .non)) (ay)) (ak (bL (fc (fT (f2 nG (a9 9) (fC (.int 5)))) (fc (fT (f2 nH (a9 3) (fC (.int 0)))) (fT (f2 nG (aR aT (a7 (a9 5) (ac))) (fC (.int 12)))))) (ak (aE (f2 bw (f2 aA (a9 10) (fC (.int 0))) (f2 aV (a9 3) (fC (.int 1)))) (gN 12)) (b6 (bu (a7 (fC (.str "stream comes")) (a7 (ah 12) (a7 (f2 bw (f2 aV (f2 aV (a9 12) (fC (.int 1))) (f2 bw (f2 aA (a9 10) (fC (.int 1))) (a9 3))) (f2 aV (a9 3) (fC (.int 1)))) (ac))))))) (ay)) (ak (bL (fc (fT (f2 dD (a9 9) (fC (.int 5)))) (fT (f2 nH (aR aT (a7 (a9 5) (ac))) (fC (.int 0))))) (b6 (bu (a7 (fC (.str "stream goes")) (a7 (f2 aA (f2 aA (a9 5) (f2 bw (f2 aA (a9 10) (fC (.int 0))) (aR aT (a7 (a9 5) (ac))))) (fC (.int 0))) (ac))))) (ay)) (ak (bL (fc (fT (f2 (dE false) (a9 9) (bu (a7 (fC (.int 6)) (a7 (fC (.int 7)) (a7 (fC (.int 8)) (ac))))))) (fT (f2 tw (a9 11) (eI (ac))))) (ak (aE (vh (vh (a9 11) (gQ (f2 bw (f2 aA (a9 10) (fC (.int 0))) (aR aT (a7 (a9 11) (ac))))) (i0)) (i0) (gQ (aR vg (a7 (f2 aV (fC (.int 1)) (f2 bw (f2 f7 (a9 1) (fC (.int 16))) (fC (.int 4)))) (a7 (f2 jg (fC (.int 10)) (aR aT (a7 (a9 6) (ac)))) (ac)))))) (gN 13)) (b6 (bu (a7 (fC (.str "meters come")) (a7 (aR a_ (a7 (wH (a9 13)) (ac))) (ac)))))) (ay)) (ak (bL (fT (f2 dD (a9 9) (fC (.int 9)))) (b6 (bu (a7 (fC (.str "meters go")) (a7 (vh (vh (a9 6) (gQ (f2 bw (f2 aA (a9 10) (fC (.int 0))) (f2 aV (aR aT (a7 (a9 6) (ac))) (fC (.int 1))))) (i0)) (i0) (gQ (f2 aV (fC (.int 1)) (f2 bw (f2 f7 (a9 1) (fC (.int 16))) (fC (.int 4)))))) (ac))))) (ay)) (ak (bL (fc (fT (f2 nH (a9 9) (fC (.int 9)))) (fc (fT (f2 nG (a9 9) (fC (.int 14)))) (fT (f2 nG (aR aT (a7 (a9 7) (ac))) (fC (.int 12)))))) (b6 (av cO 3 (a7 (f2 aA (a9 0) (f1 gj (fC (.int 1)))) (a7 (f2 f7 (a9 1) (fC (.int 16))) (a7 (ah 2) (ac)))))) (ay)) (b6 (fC .non))))))))))))
def dM:List D->R D:=aG 3 14 iH
abbrev ky:Ob:=iB 52
def kA:aa->R aF:= ak (bH (bQ [0] jE 1 (a7 (ah 2) (ac)))) (bL (fT (f2 dD (f2 aA (a9 2) (fC (.int 0))) (fC (.str "take back")))) (uB 1) (nF 1 (av dS 2 (a7 (f2 aA (a9 1) (f1 gj (fC (.int 1)))) (a7 (ah 2) (ac))))))
def d6:List Slot->List D->R (D×List Slot):=iy 2 1 1 kA
abbrev lL:Ob:=iB 53
def kB:aa->R aF:= bH (bQ [0,1] d6 1 (a7 (ah 4) (ac)))
def dU:aa->R aF:= ak (aE (hJ "history" [1] (av dM 3 (a7 (ah 1) (a7 (av aX 2 (a7 (ah 2) (a7 (ah 5) (ac)))) (a7 (ah 3) (ac)))))) (gN 4)) (bL (fT (f2 va (a9 4) (fC .non))) (bH (bQ [0,1] d6 1 (a7 (ah 4) (ac)))) (ay))
def lM:aa->R aF:= ak (aE (f2 dD (f2 bw (av dg 2 (a7 (ah 2) (a7 (fC (.int 0)) (ac)))) (fC (.int 2))) (fC (.int 1))) (gN 3)) (ak (jX (bv (av gz 2 (a7 (ah 2) (a7 (f2 aA (f2 aA (a9 1) (fC (.int 0))) (fC (.int 0))) (ac))))) (gN 4) (kB)) (ak (jX (my (a7 (fC (.int 6)) (a7 (aR aT (a7 (a9 2) (ac))) (ac)))) (gN 5) (dU)) (ak (bL (fc (fT (f2 nG (aR aT (a7 (a9 1) (ac))) (fC (.int 61)))) (fT (f2 nG (aR aT (a7 (f2 aA (f2 aA (a9 1) (f1 gj (fC (.int 1)))) (fC (.int 4))) (ac))) (fC (.int 12))))) (bH (bQ [0,1] d6 1 (a7 (av cO 3 (a7 (f2 aA (a9 1) (f1 gj (fC (.int 1)))) (a7 (av aX 2 (a7 (ah 2) (a7 (f2 aV (fC (.int 6)) (aR aT (a7 (a9 2) (ac)))) (ac)))) (a7 (ah 3) (ac))))) (ac)))) (ay)) (n4 (f2 aA (a9 1) (f1 gj (fC (.int 1))))))))
def lN:List Slot->List D->R (D×List Slot):=iy 2 1 4 lM
abbrev fN:Ob:=iB 54
def bp:aa->R aF:= ak (bL (rJ (fT (f2 dD (aR aT (a7 (f2 aA (a9 0) (fC (.int 4))) (ac))) (fC (.int 0)))) (fT (f2 yE (f2 aA (f2 aA (f2 aA (a9 0) (fC (.int 4))) (f1 gj (fC (.int 1)))) (fC (.int 1))) (f2 aA (a9 0) (fC (.int 2)))))) (b6 (fC (.bl false))) (ay)) (b6 (f2 Bi (aR a_ (a7 (fL (aZ ["_law_model"] [(".0", .local),("_law_row", .local)] (bv (f2 aA (f2 aA (f2 aA (a9 0) (fC (.int 4))) (f1 gj (fC (.int 1)))) (fC (.int 3)))) (gN 1) (et) (f2 aA (a9 1) (fC (.int 0))))) (ac))) (f2 aA (a9 0) (fC (.int 3)))))
def cA:List D->R D:=aG 1 1 bp
abbrev nY:Ob:=iB 55
def nZ:aa->R aF:= ak (lh 4 (ac)) (ak (wO 5 (yx RL) (bL (fT (f2 dD (a9 1) (fC (.int 0)))) (bH (fU 0 "Cellar" "meters_come" (bQ [0] bC 1 (a7 (ah 2) (ac))))) (bL (fT (f2 dD (a9 1) (fC (.int 1)))) (bH (fU 0 "Cellar" "meters_go" (bQ [0] bY 1 (a7 (ah 2) (ac))))) (bL (fT (f2 dD (a9 1) (fC (.int 2)))) (bH (fU 0 "Cellar" "day_passes" (bQ [0] bK 2 (a7 (f2 jY (eI (a7 (fC (.int 0)) (ac))) (f2 aA (a9 3) (fC (.int 0)))) (a7 (fL (aZ ["_law_cellar","_law_what","_law_row","_law_model","_law_kinds","e","_law_word"] [(".0", .local),("_law_number", .local)] (bv (ah 2)) (gN 1) (et) (bu (a7 (ah 1) (a7 (fC (.int 1001)) (ac)))))) (ac)))))) (f8 (bx "Day" "doubting" 2 dH (hJ "history" [0] (bx "Cellar" "day" 2 cw (ah 0) (a7 (aR aT (a7 (f2 aA (a9 3) (fC (.int 4))) (ac))) (ac)))) (a7 (ah 2) (ac))))))) (ak (lh 4 (a7 (t9 (tb 5) (a9 5)) (a7 (t9 (tb 6) (a9 5)) (a7 (t9 (tb 7) (a9 5)) (ac))))) (aE (f2 aV (a9 4) (eI (a7 (t9 (tb 8) (a9 5)) (a7 (qc (t9 MS (a9 5))) (ac))))) (gN 4)))) (ak (aE (fC (.str "another")) (gN 6)) (ak (bL (fT (f2 dD (DK (a9 4) (fC (.bl true))) (fC (.int 1)))) (aE (f2 aA (eI (a7 (fC (.str "UnknownStream")) (a7 (fC (.str "Twice")) (a7 (fC (.str "AlreadyMetered")) (a7 (fC (.str "NotMetered")) (a7 (fC (.str "another")) (ac))))))) (DL (a9 4) (fC (.bl true)))) (gN 6)) (ay)) (n4 (ah 6)))))
def dN:List Slot->List D->R (D×List Slot):=iy 1 3 6 nZ
abbrev iI:Ob:=iB 56
def iJ:aa->R aF:= ak (bL (fT (f2 tw (fL (aZ ["_law_model","_law_what","_law_row","_law_have"] [(".0", .local),("_law_number", .local),("_law_row", .free)] (bv (ah 2)) (gN 1) (fT (f2 nH (x6 (a9 2) (ah 1)) (fC (.int 1)))) (ah 1))) (eI (ac)))) (b6 (fC (.str "Twice"))) (ay)) (ak (j0 3 (aZ ["_law_model","_law_what","_law_row","_law_have"] [(".0", .local),("_law_number", .local),("_law_model", .free)] (bv (ah 2)) (gN 1) (fT (f2 (dE false) (a9 1) (f2 aA (a9 2) (fC (.int 3))))) (ah 1))) (ak (bL (fc (fT (f2 dD (a9 1) (fC (.int 0)))) (fT (f2 tw (a9 3) (eI (ac))))) (b6 (fC (.str "AlreadyMetered"))) (ay)) (ak (bL (fc (fT (f2 nH (a9 1) (fC (.int 0)))) (fT (f2 nG (aR aT (a7 (a9 3) (ac))) (aR aT (a7 (a9 2) (ac)))))) (b6 (fC (.str "NotMetered"))) (ay)) (b6 (fC (.str ""))))))
def fO:List D->R D:=aG 3 4 iJ
abbrev si:Ob:=iB 57
def sj:aa->R aF:= B8 (rX v9 (bQ [2] dN 3 (a7 (ah 10) (a7 (f2 aV (f2 aV (vh (a9 7) (i0) (gQ (ah 11))) (eI (a7 (ah 8) (ac)))) (vh (a9 7) (gQ (ah 11)) (i0))) (a7 (ah 3) (ac))))) (fC (.str "UnknownStream"))) (b6 (fC (.bl false))) (ay)
def vA:aa->R aF:= ak (jX (cq (a7 (f2 aV (aR aT (a7 (a9 7) (ac))) (fC (.int 1))) (ac))) (gN 11) (sj)) (ak (nD [7] (aE (av fO 3 (a7 (ah 3) (a7 (ah 10) (a7 (ah 7) (ac))))) (gN 12))) (B8 (zT (Lq (fT (f2 v9 (a9 12) (fC (.str ""))))) (rX v9 (bQ [2] dN 3 (a7 (ah 10) (a7 (aR lm (a7 (a9 7) (ac))) (a7 (ah 3) (ac))))) (ah 12))) (b6 (fC (.bl false))) (ay)))
def DS:aa->R aF:= ak (uq 1 (av ja 1 (a7 (ah 0) (ac)))) (ak (rW 2 "Cellar" 1 eL (a7 (f2 aA (f2 aA (a9 1) (fC (.int 0))) (fC (.int 0))) (ac))) (ak (x4 3 (bQ [2,1] lN 1 (a7 (ah 0) (ac)))) (ak (j0 4 (aZ ["_law_script","_law_past","_law_cellar","_law_model","_law_there","_law_others","_law_figures_here","_law_names","_law_strange","_law_doors","_law_what","_law_spot","_law_word"] [(".0", .local),("_law_stream", .local)] (bv (f2 aA (a9 3) (fC (.int 2)))) (gN 1) (et) (f2 aA (a9 1) (fC (.int 0))))) (ak (j0 5 (aZ ["_law_script","_law_past","_law_cellar","_law_model","_law_there","_law_others","_law_figures_here","_law_names","_law_strange","_law_doors","_law_what","_law_spot","_law_word"] [(".0", .local),("_law_number", .local),("_law_there", .free)] (my (a7 (f1 gj (fC (.int 2))) (a7 (fC (.int 76)) (ac)))) (gN 1) (fT (f2 (dE true) (a9 1) (a9 2))) (ah 1))) (ak (aE (av bU 4 (a7 (av aX 2 (a7 (ah 0) (a7 (fC (.int 7)) (ac)))) (a7 (f2 dD (f2 bw (av dg 2 (a7 (ah 0) (a7 (fC (.int 0)) (ac)))) (fC (.int 2))) (fC (.int 1))) (a7 (fC (.int 5)) (a7 (fC (.int 600)) (ac)))))) (gN 6)) (ak (j0 7 (aZ ["_law_script","_law_past","_law_cellar","_law_model","_law_there","_law_others","_law_figures_here","_law_names","_law_strange","_law_doors","_law_what","_law_spot","_law_word"] [(".0", .local),("_law_one", .local),("len", .globalImplicit),("_law_there", .free)] (bv (vh (a9 6) (i0) (gQ (f2 bw (f2 aA (a9 6) (fC (.int 4))) (fC (.int 5)))))) (gN 1) (fT (f2 tw (a9 3) (eI (ac)))) (f2 aA (a9 3) (f2 bw (a9 1) (aR aT (a7 (a9 3) (ac))))))) (ak (aE (f2 aA (a9 5) (f2 bw (av aX 2 (a7 (ah 0) (a7 (fC (.int 8)) (ac)))) (aR aT (a7 (a9 5) (ac))))) (gN 8)) (ak (lh 9 (a7 (fC (.int 0)) (a7 (fC (.int 1)) (a7 (fC (.int 2)) (ac))))) (ak (bL (dC (av cA 1 (a7 (ah 3) (ac)))) (nF 9 (fC (.int 3))) (ay)) (ak (nD [9] (jX (bv (ah 9)) (gN 10) (vA))) (b6 (hJ "history" [2] (av j9 2 (a7 (ah 2) (a7 (ah 3) (ac))))))))))))))))
def uC:List D->R D:=aG 1 13 DS
end My
namespace My
open PySem PySem.Spec PyProof.Rows L2 L2.Pu
section
local macro_rules|`(tactic|sleep 30)=>`(tactic|exact⟨rfl,rfl,rfl,by decide+kernel,rfl,by decide+kernel,by decide+kernel⟩)
local macro_rules|`(tactic|sleep 1)=>`(tactic|first|(guard_target =~ PQ _ _ _ (hJ _ _ _);refine G3 _ _ ?_;sleep 1)|(guard_target =~ PQ _ _ _ (ah _);exact rH _)|(guard_target =~ PQ _ _ (.Constant _ _ _) _;first|exact CH|exact Hd|exact MB|exact KL)|(guard_target =~ PQ _ _ (.BoolOp _ [_] _) _;refine KR ?_;sleep 1)|(guard_target =~ PQ _ _ _ (fC _);exact zA rfl (by assumption))|(guard_target =~ PQ _ _ _ (f2 aV _ _);refine wA Fx Fy ?_ ?_<;>sleep 2)|(guard_target =~ PQ _ _ _ (f2 jg _ _);refine wA HW FA ?_ ?_<;>sleep 2)|(guard_target =~ PQ _ _ _ (f2 jY _ _);refine wA zD FD ?_ ?_<;>sleep 2)|(guard_target =~ PQ _ _ _ (f2 f7 _ _);refine wA EI CU ?_ ?_<;>sleep 2)|(guard_target =~ PQ _ _ _ (f2 bw _ _);refine wA HY FC ?_ ?_<;>sleep 2)|(guard_target =~ PQ _ _ _ (f2 aA _ _);refine MJ (mX (by assumption)) ?_ ?_<;>sleep 2)|(guard_target =~ PQ _ _ _ (f2 dD _ _);refine uh GP CW ?_ ?_<;>sleep 2)|(guard_target =~ PQ _ _ _ (f2 nG _ _);refine uh B_ yk ?_ ?_<;>sleep 2)|(guard_target =~ PQ _ _ _ (f2 nH _ _);refine uh C1 yl ?_ ?_<;>sleep 2)|(guard_target =~ PQ _ _ _ (f2 Bi _ _);refine uh (JB (br.units (by assumption))) Gj ?_ ?_<;>sleep 2)|(guard_target =~ PQ _ _ _ (f2 (dE false) _ _);refine MH (mX (by assumption)) ?_ ?_<;>sleep 2)|(guard_target =~ PQ _ _ _ (f2 (dE true) _ _);refine FF (mX (by assumption)) ?_ ?_<;>sleep 2)|(guard_target =~ PQ _ _ _ (bi _ _ _);refine Jc (by assumption) (by decide) ?_;sleep 2)|(guard_target =~ PQ _ _ _ (bT _ _ _);exact Jj _ (by assumption) (by decide))|(guard_target =~ PQ _ _ _ (aR aT _);refine gF AV FH (Bl.no (by assumption) "len" (by decide)) PySem.boot_len ?_;sleep 4)|(guard_target =~ PQ _ _ _ (aR fH _);refine gF (kb rfl) lr (Bl.no (by assumption) "sorted" (by decide)) L2.Pu.j4 ?_;sleep 4)|(guard_target =~ PQ _ _ _ (aR vg _);refine gF (Ao rfl) FI (Bl.no (by assumption) "min" (by decide)) L2.Pu.D9 ?_;sleep 4)|(guard_target =~ PQ _ _ _ (aR yq _);refine gF (An rfl) FJ (Bl.no (by assumption) "max" (by decide)) L2.Pu.Dc ?_;sleep 4)|(guard_target =~ PQ _ _ _ (aR pP _);refine gF tz vx (Bl.no (by assumption) "sorted" (by decide)) L2.Pu.j4 ?_;sleep 4)|(guard_target =~ PQ _ _ _ (aR Jt _);refine gF Bc Gc (Bl.no (by assumption) "abs" (by decide)) L2.Pu.Bd ?_;sleep 4)|(guard_target =~ PQ _ _ _ (aR G8 _);refine gF (Ba rfl) G9 (Bl.no (by assumption) "all" (by decide)) L2.Pu.DM ?_;sleep 4)|(guard_target =~ PQ _ _ _ (aR tu _);refine gF (AE rfl) G7 (Bl.no (by assumption) "any" (by decide)) L2.Pu.DI ?_;sleep 4)|(guard_target =~ PQ _ _ _ (aR a_ _);refine ip gD mB (Bl.no (by assumption) "tuple" (by decide)) L2.Pu.ir ?_;sleep 4)|(guard_target =~ PQ _ _ _ (aR lm _);refine ip uV D4 (Bl.no (by assumption) "list" (by decide)) L2.Pu.AX ?_;sleep 4)|(guard_target =~ PQ _ _ _ (aR D5 _);refine ip Ap FK (Bl.no (by assumption) "int" (by decide)) L2.Pu.wJ ?_;sleep 4)|(guard_target =~ PQ _ _ _ (aR zG _);refine ip (ww rfl) Dm (Bl.no (by assumption) "dict" (by decide)) L2.Pu.AY ?_;sleep 4)|(guard_target =~ PQ _ _ _ (av _ _ _);refine MK (by assumption) (br.mono (by assumption) (by first|decide|omega)) ?_;sleep 3)|(guard_target =~ PQ _ _ _ (bu _);refine zB ?_;sleep 3)|(guard_target =~ PQ _ _ _ (eI _);refine KN ?_;sleep 3)|(guard_target =~ PQ _ _ _ (fL _);refine IQ (bz.of rfl (by first|decide+kernel|rfl)) rfl ?_ (λ_ _ _=> ?_) (λ_ _ _=> ?_) (λ_ _ _=> ?_);(·sleep 7);(·sleep 8);(·sleep 13);sleep 1)|(guard_target =~ PQ _ _ _ (bx _ _ _ _ _ ac);refine FT (by assumption) (br.mono (by assumption) (by first|decide|omega)) ?_;sleep 1)|(guard_target =~ PQ _ _ _ (bx _ _ _ _ _ _);refine J9 (by assumption) (br.mono (by assumption) (by first|decide|omega)) ?_ ?_;(·sleep 1);sleep 3)|(guard_target =~ PQ _ _ _ (jB _ _ _ _);refine Dq (by assumption) (br.mono (by assumption) (by first|decide|omega)) ?_;sleep 3)|(guard_target =~ PQ _ _ _ (kM _ _);refine KS ?_ ?_<;>sleep 1)|(guard_target =~ PQ _ _ _ (CI _ _);refine ME ?_ ?_<;>sleep 1)|(guard_target =~ PQ _ _ _ (qc _);refine KU ?_;sleep 1)|(guard_target =~ PQ _ _ _ (f1 gj _);refine MD BY FE ?_;sleep 2)|(guard_target =~ PQ _ _ _ (wH _);refine L9 ?_;sleep 2)|(guard_target =~ PQ _ _ _ (vh _ _ _);refine FL ?_ ?_ ?_;(·sleep 2);(·sleep 12);sleep 12)|(guard_target =~ PQ _ _ _ (lq "bool" _);refine zE (.inl rfl) (Bl.no (by assumption) "isinstance" (by decide)) (Bl.no (by assumption) "bool" (by decide)) L2.Pu.AZ ?_;sleep 2)|(guard_target =~ PQ _ _ _ (lq "int" _);refine zE (.inr (.inl rfl)) (Bl.no (by assumption) "isinstance" (by decide)) (Bl.no (by assumption) "int" (by decide)) L2.Pu.wJ ?_;sleep 2)|(guard_target =~ PQ _ _ _ (lq "str" _);refine zE (.inr (.inr (.inl rfl))) (Bl.no (by assumption) "isinstance" (by decide)) (Bl.no (by assumption) "str" (by decide)) L2.Pu.D8 ?_;sleep 2)|(guard_target =~ PQ _ _ _ (lq "tuple" _);refine zE (.inr (.inr (.inr (.inl rfl)))) (Bl.no (by assumption) "isinstance" (by decide)) (Bl.no (by assumption) "tuple" (by decide)) L2.Pu.ir ?_;sleep 2)|(guard_target =~ PQ _ _ (.Call _ [_, .Name "ValueError" _] _ _) _;refine Ja (by assumption) L2.Pu.qz (Bl.no (by assumption) "ValueError" (by decide)) (Bl.no (by assumption) "isinstance" (by decide)) ?_;sleep 2)|(guard_target =~ PQ _ _ _ (t9 _ _);refine Jd (by assumption) (Bl.no (by assumption) "isinstance" (by decide)) ?_;sleep 2)|(guard_target =~ PQ _ _ _ (DK _ _);refine Jp ?_ ?_;(·sleep 2);sleep 1)|(guard_target =~ PQ _ _ _ (x6 _ _);refine Jz ?_ ?_;(·sleep 2);sleep 1)|(guard_target =~ PQ _ _ _ (DL _ _);refine Jq ?_ ?_;(·sleep 2);sleep 1)|(guard_target =~ PQ _ _ _ (kh _);refine DJ rfl (Bl.no (by assumption) "len" (by decide)) (Bl.no (by assumption) "set" (by decide)) ?_;sleep 2))
local macro_rules|`(tactic|sleep 2)=>`(tactic|first|(guard_target =~ PB _ _ _ (a9 _);exact ug _)|(guard_target =~ PB _ _ _ (oQ _ _ _);exact Jk _ (by assumption) (by decide))|(refine PQ.bo ?_;sleep 1))
local macro_rules|`(tactic|sleep 3)=>`(tactic|first|(guard_target =~ t7 _ _ _ ac;exact pG)|(refine mq ?_ ?_;(·sleep 1);sleep 3))
local macro_rules|`(tactic|sleep 4)=>`(tactic|first|(guard_target =~ Hc _ _ _ ac;exact pH)|(refine mw ?_ ?_;(·sleep 2);sleep 4))
local macro_rules|`(tactic|sleep 5)=>`(tactic|first|(guard_target =~ mn _ _ _ (yA _ _);refine G4 _ ?_;sleep 5)|(guard_target =~ mn _ _ _ (fT (f2 dD _ _));refine kL GP CW ?_ ?_<;>sleep 2)|(guard_target =~ mn _ _ _ (fT (f2 v9 _ _));refine kL GQ CY ?_ ?_<;>sleep 2)|(guard_target =~ mn _ _ _ (fT (f2 nG _ _));refine kL B_ yk ?_ ?_<;>sleep 2)|(guard_target =~ mn _ _ _ (fT (f2 nH _ _));refine kL C1 yl ?_ ?_<;>sleep 2)|(guard_target =~ mn _ _ _ (fT (f2 Hh _ _));refine kL Kk IU ?_ ?_<;>sleep 2)|(guard_target =~ mn _ _ _ (fT (f2 va _ _));refine kL EJ yn ?_ ?_<;>sleep 2)|(guard_target =~ mn _ _ _ (fT (f2 tw _ _));refine kL (Js (mX (by assumption))) Ga ?_ ?_<;>sleep 2)|(guard_target =~ mn _ _ _ (fT (f2 yE _ _));refine kL (JC (br.units (by assumption))) Gk ?_ ?_<;>sleep 2)|(guard_target =~ mn _ _ _ (fT (f2 (dE false) _ _));refine MI (mX (by assumption)) ?_ ?_<;>sleep 2)|(guard_target =~ mn _ _ _ (fT (f2 (dE true) _ _));refine FG (mX (by assumption)) ?_ ?_<;>sleep 2)|(guard_target =~ mn _ _ _ (dC _);refine KW ?_;sleep 2)|(guard_target =~ mn _ _ _ (jf _);refine KQ ?_;sleep 5)|(refine zy.t ?_;sleep 6))
local macro_rules|`(tactic|sleep 6)=>`(tactic|first|(guard_target =~ zy _ _ (.BoolOp .And [_] _) _;refine IG ?_;sleep 5)|(guard_target =~ zy _ _ (.BoolOp .Or [_] _) _;refine He ?_;sleep 5)|(guard_target =~ zy _ _ _ (fc _ _);refine KO ?_ ?_;(·sleep 5);sleep 6)|(guard_target =~ zy _ _ _ (rJ _ _);refine KP ?_ ?_;(·sleep 5);sleep 6))
local macro_rules|`(tactic|sleep 7)=>`(tactic|first|(guard_target =~ Ez _ _ _ _ (cq _);refine CN (Bl.no (by assumption) "range" (by decide)) ?_;sleep 3)|(guard_target =~ Ez _ _ _ _ (my _);refine CO (Bl.no (by assumption) "range" (by decide)) ?_;sleep 3)|(refine L6 ?_;sleep 1))
local macro_rules|`(tactic|sleep 8)=>`(tactic|first|(guard_target =~ CK _ _ _ (gN _);exact IH _ (by first|exact aL.nd (by assumption)|exact of_decide_eq_true (by kernel_rfl)))|(refine L0 rfl ?_;sleep 11))
local macro_rules|`(tactic|sleep 9)=>`(tactic|first|(guard_target =~ gY _ _ [] _;exact CJ)|(guard_target =~ gY _ _ [_] _;refine gZ ?_;sleep 10)|(refine gG ?_ ?_;(·sleep 10);sleep 9))
local macro_rules|`(tactic|sleep 10)=>`(tactic|first|(guard_target =~ e_ _ _ _ (nD _ _);refine KY _ ?_;sleep 10)|(guard_target =~ e_ _ _ _ (aE _ (gN _));refine L4 _ (by first|exact aL.nd (by assumption)|exact of_decide_eq_true (by kernel_rfl)) ?_;sleep 1)|(guard_target =~ e_ _ _ _ (bL _ _ _);refine K_ ?_ ?_ ?_;(·sleep 5);(·sleep 9);sleep 9)|(guard_target =~ e_ _ _ _ (b6 _);refine KZ ?_;sleep 1)|(guard_target =~ e_ _ _ _ (jX _ _ _);refine L5 PassesOwn.leaving rfl ?_ ?_ ?_;(·sleep 7);(·sleep 8);sleep 9)|(guard_target =~ e_ _ _ _ (aE _ _);refine L3 ?_ ?_;(·sleep 1);sleep 8)|(guard_target =~ e_ _ _ _ (nF _ _);refine CQ _ ?_;sleep 1)|(guard_target =~ e_ _ _ _ (lh _ _);refine IK _ (by first|exact aL.nd (by assumption)|exact of_decide_eq_true (by kernel_rfl)) ?_;sleep 3)|(guard_target =~ e_ _ _ _ (bn _ _);refine zJ (by assumption) rfl ?_;sleep 3)|(guard_target =~ e_ _ _ _ (bH _);refine G2 ?_;sleep 14)|(guard_target =~ e_ _ _ _ (f8 _);refine Je ?_;sleep 1)|(guard_target =~ e_ _ _ _ (jC _);refine Jm ?_;sleep 14)|(guard_target =~ e_ _ _ _ (n4 _);refine Jl ?_;sleep 1)|(guard_target =~ e_ _ _ _ (AS _ _ _);refine L7 _ (mX (by assumption)) ?_ ?_<;>sleep 1)|(guard_target =~ e_ _ _ _ (j0 _ (nM _ _ _ _ _ _));refine Gb _ (bz.of rfl (by first|decide+kernel|rfl)) rfl (by first|exact aL.nd (by assumption)|exact of_decide_eq_true (by kernel_rfl)) ?_ (λ_ _ _ _=> ?_) (λ_ _ _ _=> ?_) (λ_ _ _ _=> ?_);(·sleep 7);(·sleep 8);(·sleep 13);sleep 1)|(guard_target =~ e_ _ _ _ (j0 _ _);refine IS _ (bz.of rfl (by first|decide+kernel|rfl)) rfl (by first|exact aL.nd (by assumption)|exact of_decide_eq_true (by kernel_rfl)) ?_ (λ_ _ _=> ?_) (λ_ _ _=> ?_) (λ_ _ _=> ?_);(·sleep 7);(·sleep 8);(·sleep 13);sleep 1)|(guard_target =~ e_ _ _ _ (j0 _ _);refine FR _ (bz.of rfl (by first|decide+kernel|rfl)) rfl (by first|exact aL.nd (by assumption)|exact of_decide_eq_true (by kernel_rfl)) ?_ (λ_ _ _=> ?_) (λ_ _ _=> ?_) (λ_ _ _=> ?_);(·sleep 7);(·sleep 8);(·sleep 13);sleep 1)|(guard_target =~ e_ _ _ _ (uq _ _);refine Jb _ (by first|exact aL.nd (by assumption)|exact of_decide_eq_true (by kernel_rfl)) ?_;sleep 19)|(guard_target =~ e_ _ _ _ (x4 _ _);refine Jn _ (by first|exact aL.nd (by assumption)|exact of_decide_eq_true (by kernel_rfl)) ?_;sleep 14)|(guard_target =~ e_ _ _ _ (rW _ _ _ _ _);refine G6 _ (by first|exact aL.nd (by assumption)|exact of_decide_eq_true (by kernel_rfl)) (by assumption) (br.mono (by assumption) (by first|decide|omega)) ?_;sleep 3)|(guard_target =~ e_ _ _ _ (qR _ _ _ _);exact DE _ _ (by first|exact aL.nd (by assumption)|exact of_decide_eq_true (by kernel_rfl)) (by assumption) (by decide))|(guard_target =~ e_ _ _ _ (oR _ _ _ _);refine DC _ (by assumption) (by decide) ?_;sleep 1)|(guard_target =~ e_ _ _ _ (oS _ _ _ _);refine DD _ (by assumption) (by decide) ?_;sleep 1)|(guard_target =~ e_ _ _ _ (zL _ _ _ _);refine Jg _ rfl ?_ ?_;(·sleep 1);sleep 11)|(guard_target =~ e_ _ _ _ (uB _);exact Ju _)|(guard_target =~ e_ _ _ _ (B8 _ _ _);refine Lo ?_ ?_ ?_;(·sleep 15);(·sleep 9);sleep 9)|(guard_target =~ e_ _ _ _ (wO _ _ _ _);refine Lh _ rG (by first|exact aL.nd (by assumption)|exact of_decide_eq_true (by kernel_rfl)) (by assumption) (λ_ _=> ?_) (λ_=> ?_)<;>sleep 9))
local macro_rules|`(tactic|sleep 11)=>`(tactic|first|(guard_target =~ AQ _ _ _ oE;exact II)|(refine Fw ?_ ?_;(·sleep 8);sleep 11))
local macro_rules|`(tactic|sleep 12)=>`(tactic|first|(guard_target =~ La _ _ _ i0;exact IX)|(refine IY ?_;sleep 1))
local macro_rules|`(tactic|sleep 13)=>`(tactic|first|(guard_target =~ wC _ _ _ et;exact IN)|(refine IP ?_;sleep 5))
local macro_rules|`(tactic|sleep 14)=>`(tactic|first|(guard_target =~ PX _ _ _ (fU _ _ _ (bQ _ _ _ ac));exact G1 _ (by assumption) (br.mono (by assumption) (by first|decide|omega)))|(guard_target =~ PX _ _ _ (fU _ _ _ _);refine Ji _ (by assumption) (br.mono (by assumption) (by first|decide|omega)) ?_;sleep 3)|(guard_target =~ PX _ _ _ (bQ _ _ _ _);refine ML (by assumption) (br.mono (by assumption) (by first|decide|omega)) ?_;sleep 18)|(guard_target =~ PX _ _ _ (fAndX _ _);refine x_and ?_ ?_<;>sleep 14))
local macro_rules|`(tactic|sleep 15)=>`(tactic|first|(guard_target =~ EA _ _ _ (Lq _);refine MP ?_;sleep 5)|(guard_target =~ EA _ _ _ (rX v9 _ _);refine JA GQ CY ?_ ?_;(·sleep 14);sleep 1)|(refine Hm.t ?_;sleep 16))
local macro_rules|`(tactic|sleep 16)=>`(tactic|first|(guard_target =~ Hm _ _ (.BoolOp .And [_] _) _;refine Gd ?_;sleep 15)|(guard_target =~ Hm _ _ _ (zT _ _);refine Jv ?_ ?_;(·sleep 15);sleep 16))
local macro_rules|`(tactic|sleep 18)=>`(tactic|first|(guard_target =~ Ln _ _ _ [] _;refine Jh ?_;sleep 3)|(refine G0 _ ?_;sleep 18))
local macro_rules|`(tactic|sleep 19)=>`(tactic|first|(guard_target =~ PN _ _ _ (f2 ur _ _);refine Lk zD Dv ?_ ?_<;>sleep 2)|(guard_target =~ PN _ _ _ (av _ _ _);refine MR (by assumption) (br.mono (by assumption) (by first|decide|omega)) ?_;sleep 3)|(guard_target =~ PN _ _ _ (eI _);refine Lr ?_;sleep 3))
local macro_rules|`(tactic|sleep 20)=>`(tactic|first|(guard_target =~ DN _ _ _ (zU _ _);refine Gg ?_ ?_;(·sleep 10);sleep 20)|(refine Jw ?_;sleep 19))
variable {P:NM} {w:NV} {K:ND} {mg:NG->Option NF} {base:NT}
abbrev BN:List NG:=["ValueError","abs","all","any","bool","dict","int","isinstance","len","list","max","min","range","set","sorted","str","tuple"]
abbrev Ev (K:ND) (mg:NG->Option NF):Prop:=Bl mg BN/\(∃t,mg "MOST_AMOUNT"=GS (.int 1000 t))/\(∃t,mg "MOST_DAYS"=GS (.int 12 t))/\(∃t,mg "MOST_DEEDS"=GS (.int 60 t))/\(∃t,mg "MOST_METERS"=GS (.int 10 t))/\(∃t,mg "MOST_STREAMS"=GS (.int 12 t))/\(∃t,mg "MOST_TANKS"=GS (.int 7 t))/\(∃t,mg "OUTSIDE"=GS (.int 0 t))/\bB K mg "AlreadyMetered"/\bB K mg "BadTanks"/\bB K mg "NotMetered"/\bB K mg "NothingDone"/\bB K mg "OutOfRange"/\bB K mg "ReadingMissing"/\bB K mg "SamePlace"/\bB K mg "TooManyDays"/\bB K mg "TooManyDeeds"/\bB K mg "TooManyMeters"/\bB K mg "TooManyStreams"/\bB K mg "Twice"/\bB K mg "UnknownDay"/\bB K mg "UnknownPlace"/\bB K mg "UnknownStream"/\bB K mg "WrongRises"/\tj K mg "AlreadyMetered" (tb 7)/\tj K mg "NotMetered" (tb 8)/\tj K mg "Twice" (tb 6)/\tj K mg "UnknownStream" (tb 5)/\qe K (.type "ValueError") MS/\kN K "Cellar" jD/\kN K "Day" rZ/\kN K "Standing" gR/\wQ K mg "CellarError" (yx RL)
local macro_rules|`(tactic|sleep 31)=>`(tactic|obtain⟨_,⟨_,_⟩,⟨_,_⟩,⟨_,_⟩,⟨_,_⟩,⟨_,_⟩,⟨_,_⟩,⟨_,_⟩,_,_,_,_,_,_,_,_,_,_,_,_,_,_,_,_,_,_,_,_,_,_,_,_,_⟩:=‹Ev _ _›)
abbrev n_ (P:NM) (w:NV) (K:ND) (mg:NG->Option NF) (base:NT):Prop:=nL P w K mg base 1 "Day" 4 gp
theorem qj:aL ["self","tanks","streams","rises","readings","self.tanks","self.streams","self.rises","self.readings"] ["self","tanks","streams","rises","readings"] (ao ki):=⟨rfl,rfl,rfl,by decide+kernel,rfl,by decide+kernel,by decide+kernel⟩
theorem jb:∀g∈(["self.tanks","self.streams","self.rises","self.readings"]:List NG),¬pz (ao ki) g:=by unfold pz;decide+kernel
theorem xb (A:pK K mg "Day" "Day.__init__" ki ["self","tanks","streams","rises","readings"] rZ) (B:Bl mg BN):nL P w K mg base 1 "Day" 4 gp:=by
 refine ut A qj rfl rfl (by decide) (by decide) λC f W2 A outer s H E hC YG hr=> ?_;have hu:=mX hr;have S:=qj;exact gG (ji 5 hC (YG "tanks" (by decide)) (iw (by decide) (by decide) (by decide) (by decide)) (rH 1) (hvis:=jb "self.tanks" (by decide))) (gG (ji 6 hC (YG "streams" (by decide)) (iw (by decide) (by decide) (by decide) (by decide)) (ip gD mB (B.no "tuple" (by decide)) L2.Pu.ir (mw (PQ.bo (gF (kb rfl) lr (B.no "sorted" (by decide)) L2.Pu.j4 (mw (ug 2) (pH)))) (pH))) (hvis:=jb "self.streams" (by decide))) (gG (ji 7 hC (YG "rises" (by decide)) (iw (by decide) (by decide) (by decide) (by decide)) (ip gD mB (B.no "tuple" (by decide)) L2.Pu.ir (mw (ug 3) (pH))) (hvis:=jb "self.rises" (by decide))) (gZ (ji 8 hC (YG "readings" (by decide)) (iw (by decide) (by decide) (by decide) (by decide)) (ip gD mB (B.no "tuple" (by decide)) L2.Pu.ir (mw (PQ.bo (gF (kb rfl) lr (B.no "sorted" (by decide)) L2.Pu.j4 (mw (ug 4) (pH)))) (pH))) (hvis:=jb "self.readings" (by decide))))))
abbrev kC (P:NM) (w:NV) (K:ND) (mg:NG->Option NF) (base:NT):Prop:=eO P w K mg base 1 "Day" "stream" 2 fI
abbrev oY:List NG:=["self","number","stream"]
theorem tD (A:c9 K "Day" "stream" "Day.stream" kj (oY.take 2)) (_:Ev K mg):kC P w K mg base:=cu (show j7 oY 2 kj by sleep 30) λS=>
 cm A S rfl rfl λf W2 A outer s H E hr=>by sleep 31;sleep 9
abbrev jp (P:NM) (w:NV) (K:ND) (mg:NG->Option NF) (base:NT):Prop:=eO P w K mg base 2 "Day" "metered" 2 eK
abbrev n5:List NG:=["self","number","stream"]
theorem sk (A:c9 K "Day" "metered" "Day.metered" jk (n5.take 2)) (_:Ev K mg) (_:kC P w K mg base):jp P w K mg base:=cu (show j7 n5 2 jk by sleep 30) λS=>
 cm A S rfl rfl λf W2 A outer s H E hr=>by sleep 31;sleep 9
abbrev iK (P:NM) (w:NV) (K:ND) (mg:NG->Option NF) (base:NT):Prop:=eO P w K mg base 3 "Day" "doubting" 2 dH
abbrev lO:List NG:=["self","numbers","meters_there","kept"]
theorem qD (A:c9 K "Day" "doubting" "Day.doubting" iC (lO.take 2)) (_:Ev K mg) (_:jp P w K mg base) (_:n_ P w K mg base):iK P w K mg base:=cu (show j7 lO 2 iC by sleep 30) λS=>
 cm A S rfl rfl λf W2 A outer s H E hr=>by sleep 31;sleep 9
abbrev cn (P:NM) (w:NV) (K:ND) (mg:NG->Option NF) (base:NT):Prop:=nL P w K mg base 1 "Standing" 4 aO
theorem jF:aL ["self","came","streams","meters","passed","self.came","self.streams","self.meters","self.passed"] ["self","came","streams","meters","passed"] (ao eM):=⟨rfl,rfl,rfl,by decide+kernel,rfl,by decide+kernel,by decide+kernel⟩
theorem dW:∀g∈(["self.came","self.streams","self.meters","self.passed"]:List NG),¬pz (ao eM) g:=by unfold pz;decide+kernel
theorem pT (A:pK K mg "Standing" "Standing.__init__" eM ["self","came","streams","meters","passed"] gR) (B:Bl mg BN):nL P w K mg base 1 "Standing" 4 aO:=by
 refine ut A jF rfl rfl (by decide) (by decide) λC f W2 A outer s H E hC YG hr=> ?_;have hu:=mX hr;have S:=jF;exact gG (ji 5 hC (YG "came" (by decide)) (iw (by decide) (by decide) (by decide) (by decide)) (rH 1) (hvis:=dW "self.came" (by decide))) (gG (ji 6 hC (YG "streams" (by decide)) (iw (by decide) (by decide) (by decide) (by decide)) (rH 2) (hvis:=dW "self.streams" (by decide))) (gG (ji 7 hC (YG "meters" (by decide)) (iw (by decide) (by decide) (by decide) (by decide)) (rH 3) (hvis:=dW "self.meters" (by decide))) (gZ (ji 8 hC (YG "passed" (by decide)) (iw (by decide) (by decide) (by decide) (by decide)) (rH 4) (hvis:=dW "self.passed" (by decide))))))
abbrev d7 (P:NM) (w:NV) (K:ND) (mg:NG->Option NF) (base:NT):Prop:=eO P w K mg base 3 "Standing" "with_stream" 3 cZ
abbrev fP:List NG:=["self","source","target","number"]
theorem jG (A:c9 K "Standing" "with_stream" "Standing.with_stream" cX (fP.take 3)) (_:Ev K mg) (_:cn P w K mg base):d7 P w K mg base:=cu (show j7 fP 3 cX by sleep 30) λS=>
 cm A S rfl rfl λf W2 A outer s H E hr=>by sleep 31;sleep 9
abbrev cj (P:NM) (w:NV) (K:ND) (mg:NG->Option NF) (base:NT):Prop:=eO P w K mg base 3 "Standing" "without_stream" 2 ce
abbrev d_:List NG:=["self","number","streams","meters"]
theorem iL (A:c9 K "Standing" "without_stream" "Standing.without_stream" cb (d_.take 2)) (_:Ev K mg) (_:cn P w K mg base):cj P w K mg base:=cu (show j7 d_ 2 cb by sleep 30) λS=>
 cm A S rfl rfl λf W2 A outer s H E hr=>by sleep 31;sleep 9
abbrev d8 (P:NM) (w:NV) (K:ND) (mg:NG->Option NF) (base:NT):Prop:=eO P w K mg base 3 "Standing" "with_meters" 2 d0
abbrev fQ:List NG:=["self","numbers"]
theorem jH (A:c9 K "Standing" "with_meters" "Standing.with_meters" c_ (fQ.take 2)) (_:Ev K mg) (_:cn P w K mg base):d8 P w K mg base:=cu (show j7 fQ 2 c_ by sleep 30) λS=>
 cm A S rfl rfl λf W2 A outer s H E hr=>by sleep 31;refine gZ ?_;sleep 10
abbrev ck (P:NM) (w:NV) (K:ND) (mg:NG->Option NF) (base:NT):Prop:=eO P w K mg base 3 "Standing" "without_meters" 2 ci
abbrev ee:List NG:=["self","numbers","meters"]
theorem iM (A:c9 K "Standing" "without_meters" "Standing.without_meters" cf (ee.take 2)) (_:Ev K mg) (_:cn P w K mg base):ck P w K mg base:=cu (show j7 ee 2 cf by sleep 30) λS=>
 cm A S rfl rfl λf W2 A outer s H E hr=>by sleep 31;sleep 9
abbrev eD (P:NM) (w:NV) (K:ND) (mg:NG->Option NF) (base:NT):Prop:=eO P w K mg base 3 "Standing" "with_day" 2 eB
abbrev i4:List NG:=["self","day"]
theorem lP (A:c9 K "Standing" "with_day" "Standing.with_day" eA (i4.take 2)) (_:Ev K mg) (_:cn P w K mg base):eD P w K mg base:=cu (show j7 i4 2 eA by sleep 30) λS=>
 cm A S rfl rfl λf W2 A outer s H E hr=>by sleep 31;refine gZ ?_;sleep 10
abbrev hZ (P:NM) (w:NV) (K:ND) (mg:NG->Option NF) (base:NT):Prop:=gl P w K mg base 1 "refuse_places" 2 hV
abbrev kO:List NG:=["tanks","places"]
theorem pU (A:c8 K mg "refuse_places" hU (kO.take 2)) (_:Ev K mg):hZ P w K mg base:=cu (show j7 kO 2 hU by sleep 30) λS=>
 bP A S rfl rfl λf W2 A outer s H E hr=>by sleep 31;sleep 9
abbrev bW (P:NM) (w:NV) (K:ND) (mg:NG->Option NF) (base:NT):Prop:=gl P w K mg base 1 "refuse_numbers" 2 bV
abbrev jI:List NG:=["standing","numbers","there"]
theorem oZ (A:c8 K mg "refuse_numbers" gq (jI.take 2)) (_:Ev K mg):bW P w K mg base:=cu (show j7 jI 2 gq by sleep 30) λS=>
 bP A S rfl rfl λf W2 A outer s H E hr=>by sleep 31;sleep 9
abbrev d9 (P:NM) (w:NV) (K:ND) (mg:NG->Option NF) (base:NT):Prop:=gl P w K mg base 1 "refuse_unmetered" 2 d3
abbrev iN:List NG:=["standing","numbers"]
theorem mP (A:c8 K mg "refuse_unmetered" eQ (iN.take 2)) (_:Ev K mg):d9 P w K mg base:=cu (show j7 iN 2 eQ by sleep 30) λS=>
 bP A S rfl rfl λf W2 A outer s H E hr=>by sleep 31;refine gZ ?_;sleep 10
abbrev gA (P:NM) (w:NV) (K:ND) (mg:NG->Option NF) (base:NT):Prop:=gl P w K mg base 1 "refuse_amounts" 1 dR
abbrev jJ:List NG:=["amounts"]
theorem o_ (A:c8 K mg "refuse_amounts" gr (jJ.take 1)) (_:Ev K mg):gA P w K mg base:=cu (show j7 jJ 1 gr by sleep 30) λS=>
 bP A S rfl rfl λf W2 A outer s H E hr=>by sleep 31;refine gZ ?_;sleep 10
abbrev n6 (P:NM) (w:NV) (K:ND) (mg:NG->Option NF) (base:NT):Prop:=zQ P w K mg base 3 "Cellar" 1 eL
theorem lQ:aL ["self","tanks","self.tanks","self.now","self.history"] ["self","tanks"] (ao gI):=⟨rfl,rfl,rfl,by decide+kernel,rfl,by decide+kernel,by decide+kernel⟩
theorem iO:∀g∈(["self.tanks","self.now","self.history"]:List NG),¬pz (ao gI) g:=by unfold pz;decide+kernel
theorem sq (A:pK K mg "Cellar" "Cellar.__init__" gI ["self","tanks"] jD) (B:Bl mg BN) (W9:nL P w K mg base 1 "Standing" 4 aO) {WO:S6} (Wq:mg "MOST_TANKS"=GS (.int 7 WO)) (WQ:bB K mg "BadTanks"):zQ P w K mg base 3 "Cellar" 1 eL:=by
 refine DH A lQ rfl rfl (by decide) (by decide) (by decide) λC f W2 A outer s H E hC YG hr=> ?_;have hu:=mX hr;have S:=lQ;exact gG (K_ (zy.t (KP (kL B_ yk (ug 1) (PQ.bo (CH))) (He (kL C1 yl (ug 1) (PQ.bo (zA rfl Wq)))))) (gZ (zJ WQ rfl (mq (Hd) (pG)))) (CJ)) (gG (ji 2 hC (YG "tanks" (by decide)) (iw (by decide) (by decide) (by decide) (by decide)) (rH 1) (hvis:=iO "self.tanks" (by decide))) (gG (ji 3 hC (YG "now" (by decide)) (iw (by decide) (by decide) (by decide) (by decide)) (Dq W9 (hr.mono (by decide)) (mq (CH) (mq (zB (pG)) (mq (zB (pG)) (mq (zB (pG)) (pG)))))) (hvis:=iO "self.now" (by decide))) (gZ (Jo 4 hC (YG "history" (by decide)) (iw (by decide) (by decide) (by decide) (by decide)) (hvis:=iO "self.history" (by decide))))))
abbrev bf (P:NM) (w:NV) (K:ND) (mg:NG->Option NF) (base:NT):Prop:=m_ P w K mg base 1 "Cellar" "keep_deed" 2 aW
abbrev iP:List NG:=["self","deed","after"]
theorem mQ (A:c9 K "Cellar" "keep_deed" "Cellar.keep_deed" eR (iP.take 3)) (_:Ev K mg):bf P w K mg base:=cu (show j7 iP 3 eR by sleep 30) λS=>
 iz A S rfl rfl (by decide) λf W2 A outer s H E hr=>by sleep 31;sleep 9
abbrev dv (P:NM) (w:NV) (K:ND) (mg:NG->Option NF) (base:NT):Prop:=m_ P w K mg base 4 "Cellar" "stream_comes" 2 du
abbrev fZ:List NG:=["self","source","target"]
theorem kD (A:c9 K "Cellar" "stream_comes" "Cellar.stream_comes" dr (fZ.take 3)) (_:Ev K mg) (_:hZ P w K mg base) (_:bf P w K mg base) (_:d7 P w K mg base):dv P w K mg base:=cu (show j7 fZ 3 dr by sleep 30) λS=>
 iz A S rfl rfl (by decide) λf W2 A outer s H E hr=>by sleep 31;sleep 9
abbrev dO (P:NM) (w:NV) (K:ND) (mg:NG->Option NF) (base:NT):Prop:=m_ P w K mg base 4 "Cellar" "stream_goes" 1 dJ
abbrev gT:List NG:=["self","number"]
theorem k_ (A:c9 K "Cellar" "stream_goes" "Cellar.stream_goes" dI (gT.take 2)) (_:Ev K mg) (_:bW P w K mg base) (_:bf P w K mg base) (_:cj P w K mg base):dO P w K mg base:=cu (show j7 gT 2 dI by sleep 30) λS=>
 iz A S rfl rfl (by decide) λf W2 A outer s H E hr=>by sleep 31;sleep 9
abbrev cB (P:NM) (w:NV) (K:ND) (mg:NG->Option NF) (base:NT):Prop:=m_ P w K mg base 4 "Cellar" "meters_come" 1 bC
abbrev gU:List NG:=["self","numbers"]
theorem l7 (A:c9 K "Cellar" "meters_come" "Cellar.meters_come" dL (gU.take 2)) (_:Ev K mg) (_:bW P w K mg base) (_:bf P w K mg base) (_:d8 P w K mg base):cB P w K mg base:=cu (show j7 gU 2 dL by sleep 30) λS=>
 iz A S rfl rfl (by decide) λf W2 A outer s H E hr=>by sleep 31;sleep 9
abbrev da (P:NM) (w:NV) (K:ND) (mg:NG->Option NF) (base:NT):Prop:=m_ P w K mg base 4 "Cellar" "meters_go" 1 bY
abbrev iQ:List NG:=["self","numbers"]
theorem mR (A:c9 K "Cellar" "meters_go" "Cellar.meters_go" eU (iQ.take 2)) (_:Ev K mg) (_:bW P w K mg base) (_:d9 P w K mg base) (_:bf P w K mg base) (_:ck P w K mg base):da P w K mg base:=cu (show j7 iQ 2 eU by sleep 30) λS=>
 iz A S rfl rfl (by decide) λf W2 A outer s H E hr=>by sleep 31;sleep 9
abbrev bZ (P:NM) (w:NV) (K:ND) (mg:NG->Option NF) (base:NT):Prop:=eO P w K mg base 1 "Cellar" "days_gone" 1 bc
abbrev iR:List NG:=["self"]
theorem mS (A:c9 K "Cellar" "days_gone" "Cellar.days_gone" eV (iR.take 1)) (_:Ev K mg):bZ P w K mg base:=cu (show j7 iR 1 eV by sleep 30) λS=>
 cm A S rfl rfl λf W2 A outer s H E hr=>by sleep 31;refine gZ ?_;sleep 10
abbrev cI (P:NM) (w:NV) (K:ND) (mg:NG->Option NF) (base:NT):Prop:=m_ P w K mg base 4 "Cellar" "day_passes" 2 bK
abbrev i5:List NG:=["self","rises","readings","numbers","day"]
theorem lS (A:c9 K "Cellar" "day_passes" "Cellar.day_passes" eC (i5.take 3)) (_:Ev K mg) (_:bW P w K mg base) (_:d9 P w K mg base) (_:gA P w K mg base) (_:n_ P w K mg base) (_:bf P w K mg base) (_:eD P w K mg base) (_:bZ P w K mg base):cI P w K mg base:=cu (show j7 i5 3 eC by sleep 30) λS=>
 iz A S rfl rfl (by decide) λf W2 A outer s H E hr=>by sleep 31;sleep 9
abbrev eY (P:NM) (w:NV) (K:ND) (mg:NG->Option NF) (base:NT):Prop:=m_ P w K mg base 1 "Cellar" "take_back" 0 d4
abbrev iS:List NG:=["self","last"]
theorem mT (A:c9 K "Cellar" "take_back" "Cellar.take_back" eW (iS.take 1)) (_:Ev K mg):eY P w K mg base:=cu (show j7 iS 1 eW by sleep 30) λS=>
 iz A S rfl rfl (by decide) λf W2 A outer s H E hr=>by sleep 31;sleep 9
abbrev h_ (P:NM) (w:NV) (K:ND) (mg:NG->Option NF) (base:NT):Prop:=eO P w K mg base 1 "Cellar" "layout" 1 eN
abbrev kP:List NG:=["self","meters"]
theorem pV (A:c9 K "Cellar" "layout" "Cellar.layout" hW (kP.take 1)) (_:Ev K mg):h_ P w K mg base:=cu (show j7 kP 1 hW by sleep 30) λS=>
 cm A S rfl rfl λf W2 A outer s H E hr=>by sleep 31;sleep 9
abbrev iT (P:NM) (w:NV) (K:ND) (mg:NG->Option NF) (base:NT):Prop:=eO P w K mg base 1 "Cellar" "deeds" 1 fJ
abbrev lT:List NG:=["self"]
theorem qE (A:c9 K "Cellar" "deeds" "Cellar.deeds" iD (lT.take 1)) (_:Ev K mg):iT P w K mg base:=cu (show j7 lT 1 iD by sleep 30) λS=>
 cm A S rfl rfl λf W2 A outer s H E hr=>by sleep 31;refine gZ ?_;sleep 10
abbrev ie (P:NM) (w:NV) (K:ND) (mg:NG->Option NF) (base:NT):Prop:=eO P w K mg base 2 "Cellar" "day" 2 cw
abbrev p0:List NG:=["self","number"]
theorem tE (A:c9 K "Cellar" "day" "Cellar.day" kn (p0.take 2)) (_:Ev K mg) (_:bZ P w K mg base):ie P w K mg base:=cu (show j7 p0 2 kn by sleep 30) λS=>
 cm A S rfl rfl λf W2 A outer s H E hr=>by sleep 31;sleep 9
abbrev jK (P:NM) (w:NV) (K:ND) (mg:NG->Option NF) (base:NT):Prop:=gl P w K mg base 1 "_law_at" 2 dg
abbrev xc:List NG:=["_law_script","_law_k"]
theorem Bj (A:c8 K mg "_law_at" sf (xc.take 2)) (_:Ev K mg):jK P w K mg base:=cu (show j7 xc 2 sf by sleep 30) λS=>
 bP A S rfl rfl λf W2 A outer s H E hr=>by sleep 31;sleep 9
abbrev gB (P:NM) (w:NV) (K:ND) (mg:NG->Option NF) (base:NT):Prop:=gl P w K mg base 2 "_law_cell" 2 aX
abbrev su:List NG:=["_law_script","_law_k","_law_mixed"]
theorem xf (A:c8 K mg "_law_cell" nQ (su.take 2)) (_:Ev K mg) (_:jK P w K mg base):gB P w K mg base:=cu (show j7 su 2 nQ by sleep 30) λS=>
 bP A S rfl rfl λf W2 A outer s H E hr=>by sleep 31;sleep 9
abbrev dm (P:NM) (w:NV) (K:ND) (mg:NG->Option NF) (base:NT):Prop:=gl P w K mg base 1 "_law_figures" 4 bU
abbrev n8:List NG:=["_law_cell_here","_law_mixed","_law_many","_law_size","_law_found","_law_rest","_law_k","_law_one"]
theorem sv (A:c8 K mg "_law_figures" jm (n8.take 4)) (_:Ev K mg):dm P w K mg base:=cu (show j7 n8 4 jm by sleep 30) λS=>
 bP A S rfl rfl λf W2 A outer s H E hr=>by sleep 31;sleep 9
abbrev kE (P:NM) (w:NV) (K:ND) (mg:NG->Option NF) (base:NT):Prop:=gl P w K mg base 8 "_law_same" 2 bd
abbrev sx:List NG:=["_law_found","_law_due","_law_k"]
theorem xg (A:c8 K mg "_law_same" nS (sx.take 2)) (_:Ev K mg):kE P w K mg base:=cu (show j7 sx 2 nS by sleep 30) λS=>by
 have R:∀n,gl P w K mg base n "_law_same" 2 (bD n):=by
  intro n
  induction n with
  |zero=>exact Bh S A rfl
  |succ n a5S=>exact bP A S rfl rfl λf W2 A outer s H E hr=>by sleep 31;sleep 9
 exact(R 8).mono (by decide)
abbrev o0 (P:NM) (w:NV) (K:ND) (mg:NG->Option NF) (base:NT):Prop:=gl P w K mg base 1 "_law_span" 4 nV
abbrev sy:List NG:=["_law_levels","_law_source","_law_target","_law_most","_law_low","_law_high"]
theorem xh (A:c8 K mg "_law_span" nT (sy.take 4)) (_:Ev K mg):o0 P w K mg base:=cu (show j7 sy 4 nT by sleep 30) λS=>
 bP A S rfl rfl λf W2 A outer s H E hr=>by sleep 31;sleep 9
abbrev lU (P:NM) (w:NV) (K:ND) (mg:NG->Option NF) (base:NT):Prop:=gl P w K mg base 2 "_law_flows" 5 lF
abbrev qk:List NG:=["_law_figures_here","_law_n","_law_streams","_law_meters","_law_bounds","_law_levels","_law_rows","_law_k","_law_number","_law_source","_law_target","_law_low","_law_high","_law_amount"]
theorem vB (A:c8 K mg "_law_flows" lD (qk.take 5)) (_:Ev K mg) (_:o0 P w K mg base):lU P w K mg base:=cu (show j7 qk 5 lD by sleep 30) λS=>
 bP A S rfl rfl λf W2 A outer s H E hr=>by sleep 31;sleep 9
abbrev o1 (P:NM) (w:NV) (K:ND) (mg:NG->Option NF) (base:NT):Prop:=gl P w K mg base 9 "_law_kept" 2 kq
abbrev sA:List NG:=["_law_day","_law_case"]
theorem xi (A:c8 K mg "_law_kept" nW (sA.take 2)) (_:Ev K mg) (_:kE P w K mg base):o1 P w K mg base:=cu (show j7 sA 2 nW by sleep 30) λS=>
 bP A S rfl rfl λf W2 A outer s H E hr=>by sleep 31;sleep 9
abbrev sB (P:NM) (w:NV) (K:ND) (mg:NG->Option NF) (base:NT):Prop:=JX P w K mg base 5 "_law_do" 1 1 jE
abbrev xj:List NG:=["_law_cellar","_law_deed"]
theorem Bk (A:c8 K mg "_law_do" sg (xj.take 2)) (_:Ev K mg) (_:dv P w K mg base) (_:dO P w K mg base) (_:cB P w K mg base) (_:da P w K mg base) (_:cI P w K mg base) (_:eY P w K mg base):sB P w K mg base:=cu (show j7 xj 2 sg by sleep 30) λS=>
 vp [⟨0,0,[]⟩] A S rfl rfl (by decide) (by decide) (by decide) λf W2 A outer s H E hr=>by sleep 31;sleep 9
abbrev kG (P:NM) (w:NV) (K:ND) (mg:NG->Option NF) (base:NT):Prop:=gl P w K mg base 1 "_law_behind" 2 dS
abbrev p7:List NG:=["_law_model","_law_deed","_law_n","_law_following","_law_streams","_law_meters","_law_days","_law_deeds"]
theorem tF (A:c8 K mg "_law_behind" kr (p7.take 2)) (_:Ev K mg):kG P w K mg base:=cu (show j7 p7 2 kr by sleep 30) λS=>
 bP A S rfl rfl λf W2 A outer s H E hr=>by sleep 31;sleep 9
abbrev kH (P:NM) (w:NV) (K:ND) (mg:NG->Option NF) (base:NT):Prop:=gl P w K mg base 1 "_law_layout" 1 ic
abbrev p8:List NG:=["_law_model"]
theorem tH (A:c8 K mg "_law_layout" ku (p8.take 1)) (_:Ev K mg):kH P w K mg base:=cu (show j7 p8 1 ku by sleep 30) λS=>
 bP A S rfl rfl λf W2 A outer s H E hr=>by sleep 31;refine gZ ?_;sleep 10
abbrev lV (P:NM) (w:NV) (K:ND) (mg:NG->Option NF) (base:NT):Prop:=gl P w K mg base 10 "_law_looks" 2 j9
abbrev ql:List NG:=["_law_cellar","_law_model","_law_k"]
theorem vC (A:c8 K mg "_law_looks" lH (ql.take 2)) (_:Ev K mg) (_:kE P w K mg base) (_:h_ P w K mg base) (_:kH P w K mg base) (_:iT P w K mg base) (_:bZ P w K mg base) (_:o1 P w K mg base) (_:ie P w K mg base):lV P w K mg base:=cu (show j7 ql 2 lH by sleep 30) λS=>
 bP A S rfl rfl λf W2 A outer s H E hr=>by sleep 31;sleep 9
abbrev fR (P:NM) (w:NV) (K:ND) (mg:NG->Option NF) (base:NT):Prop:=gl P w K mg base 3 "_law_day_deed" 3 cO
abbrev lW:List NG:=["_law_model","_law_cell_here","_law_mixed","_law_mode","_law_many","_law_figures_here","_law_flows_here","_law_readings","_law_k","_law_number","_law_amount","_law_other","_law_rises"]
theorem qF (A:c8 K mg "_law_day_deed" iE (lW.take 3)) (_:Ev K mg) (_:dm P w K mg base) (_:lU P w K mg base):fR P w K mg base:=cu (show j7 lW 3 iE by sleep 30) λS=>
 bP A S rfl rfl λf W2 A outer s H E hr=>by sleep 31;sleep 9
abbrev gC (P:NM) (w:NV) (K:ND) (mg:NG->Option NF) (base:NT):Prop:=gl P w K mg base 3 "_law_furnishing" 2 gz
abbrev jL:List NG:=["_law_script","_law_n","_law_mixed","_law_many","_law_sources","_law_targets","_law_fitted","_law_share","_law_deeds","_law_k","_law_source","_law_named"]
theorem p9 (A:c8 K mg "_law_furnishing" gu (jL.take 2)) (_:Ev K mg) (_:jK P w K mg base) (_:gB P w K mg base) (_:dm P w K mg base):gC P w K mg base:=cu (show j7 jL 2 gu by sleep 30) λS=>
 bP A S rfl rfl λf W2 A outer s H E hr=>by sleep 31;sleep 9
abbrev lX (P:NM) (w:NV) (K:ND) (mg:NG->Option NF) (base:NT):Prop:=MQ P w K mg base 3 "_law_begun" 1 ja
abbrev qm:List NG:=["_law_script","_law_n"]
theorem vD (A:c8 K mg "_law_begun" lJ (qm.take 1)) (_:Ev K mg) (_:gB P w K mg base):lX P w K mg base:=cu (show j7 qm 1 lJ by sleep 30) λS=>
 Jx A S rfl rfl λf W2 A outer s H E hr=>by sleep 31;sleep 20
abbrev iU (P:NM) (w:NV) (K:ND) (mg:NG->Option NF) (base:NT):Prop:=gl P w K mg base 4 "_law_fit_deed" 3 dM
abbrev lY:List NG:=["_law_past","_law_cell_here","_law_mixed","_law_n","_law_following","_law_streams","_law_meters","_law_days","_law_deeds","_law_kind","_law_figures_here","_law_bare","_law_source","_law_row"]
theorem qG (A:c8 K mg "_law_fit_deed" iG (lY.take 3)) (_:Ev K mg) (_:dm P w K mg base) (_:fR P w K mg base):iU P w K mg base:=cu (show j7 lY 3 iG by sleep 30) λS=>
 bP A S rfl rfl λf W2 A outer s H E hr=>by sleep 31;sleep 9
abbrev kI (P:NM) (w:NV) (K:ND) (mg:NG->Option NF) (base:NT):Prop:=JX P w K mg base 6 "_law_played" 2 1 d6
abbrev pb:List NG:=["_law_cellar","_law_past","_law_deed"]
theorem tJ (A:c8 K mg "_law_played" ky (pb.take 3)) (_:Ev K mg) (_:sB P w K mg base) (_:kG P w K mg base):kI P w K mg base:=cu (show j7 pb 3 ky by sleep 30) λS=>
 vp [⟨0,0,[]⟩,⟨1,0,[]⟩] A S rfl rfl (by decide) (by decide) (by decide) λf W2 A outer s H E hr=>by sleep 31;sleep 9
abbrev lZ (P:NM) (w:NV) (K:ND) (mg:NG->Option NF) (base:NT):Prop:=JX P w K mg base 7 "_law_lived" 2 1 lN
abbrev qo:List NG:=["_law_cellar","_law_past","_law_script","_law_mixed","_law_deed","_law_k"]
theorem vE (A:c8 K mg "_law_lived" lL (qo.take 3)) (_:Ev K mg) (_:jK P w K mg base) (_:gC P w K mg base) (_:kI P w K mg base) (_:iU P w K mg base) (_:gB P w K mg base) (_:fR P w K mg base):lZ P w K mg base:=cu (show j7 qo 3 lL by sleep 30) λS=>
 vp [⟨0,0,[]⟩,⟨1,0,[]⟩] A S rfl rfl (by decide) (by decide) (by decide) λf W2 A outer s H E hr=>by sleep 31;sleep 9
abbrev fS (P:NM) (w:NV) (K:ND) (mg:NG->Option NF) (base:NT):Prop:=gl P w K mg base 1 "_law_as_last_day" 1 cA
abbrev jc:List NG:=["_law_model"]
theorem o3 (A:c8 K mg "_law_as_last_day" fN (jc.take 1)) (_:Ev K mg):fS P w K mg base:=cu (show j7 jc 1 fN by sleep 30) λS=>
 bP A S rfl rfl λf W2 A outer s H E hr=>by sleep 31;sleep 9
abbrev o4 (P:NM) (w:NV) (K:ND) (mg:NG->Option NF) (base:NT):Prop:=JX P w K mg base 5 "_law_door" 1 3 dN
abbrev sC:List NG:=["_law_cellar","_law_what","_law_row","_law_model","_law_kinds","e","_law_word"]
theorem xk (A:c8 K mg "_law_door" nY (sC.take 4)) (_:Ev K mg) (_:cB P w K mg base) (_:da P w K mg base) (_:cI P w K mg base) (_:iK P w K mg base) (_:ie P w K mg base):o4 P w K mg base:=cu (show j7 sC 4 nY by sleep 30) λS=>
 vp [⟨0,0,[]⟩] A S rfl rfl (by decide) (by decide) (by decide) λf W2 A outer s H E hr=>by sleep 31;sleep 9
abbrev iV (P:NM) (w:NV) (K:ND) (mg:NG->Option NF) (base:NT):Prop:=gl P w K mg base 1 "_law_due_word" 3 fO
abbrev l_:List NG:=["_law_model","_law_what","_law_row","_law_have"]
theorem qH (A:c8 K mg "_law_due_word" iI (l_.take 3)) (_:Ev K mg):iV P w K mg base:=cu (show j7 l_ 3 iI by sleep 30) λS=>
 bP A S rfl rfl λf W2 A outer s H E hr=>by sleep 31;sleep 9
abbrev Ls:List NG:=["_law_script","_law_past","_law_cellar","_law_model","_law_there","_law_others","_law_figures_here","_law_names","_law_strange","_law_doors","_law_what","_law_spot","_law_word"]
theorem JD {f:NH} (F:zq K "law" "law" si f fd) (_:Ev K mg) (_:lX P w K mg base) (_:n6 P w K mg base) (_:lZ P w K mg base) (_:dm P w K mg base) (_:gB P w K mg base) (_:jK P w K mg base) (_:fS P w K mg base) (_:o4 P w K mg base) (_:iV P w K mg base) (_:lV P w K mg base):eF P w K mg base (kX P w) 11 f fd ["_law_script"] (AO K 1 uC):=cu (show j7 Ls 1 si by sleep 30) λS=>
 IM F S rfl rfl λW2 A outer s H E hr=>by sleep 31;sleep 9
theorem JE {l:Tw} {fa Wt W4 W6 Wr X0 X1 X2 X3 X4 X5 X6 X7 X8 X9 a0U a0V a0W a0X a0Y a0Z:NH} (X:K.In h) (G:h.Ns NU mg) (a5T:mg "law"=GS (.ref fa)) (a0_:O0 K NU "Day"=GS (GS (.ref Wt))) (XS:O0 K NU "Standing"=GS (GS (.ref W4))) (Za:O0 K NU "Cellar"=GS (GS (.ref W6))) (Yj:O0 K NU "CellarError"=GS (GS (.ref Wr))) (N:vw K RL [X0,X1,X2,X3,X4,X5,X6,X7,X8,X9,a0U,a0V,a0W,a0X,a0Y,a0Z]) (a1x:Qa K Wt UG=true) (a1y:Qm K Wt=true) (a1z:QK K Wt=true) (a1A:O4 K (.ref Wt) "__setattr__"=GS (GS (.builtin "object.__setattr__"))) (Zb:O4 K (.ref Wt) "tanks"=GS JT) (Yk:O4 K (.ref Wt) "streams"=GS JT) (Zc:O4 K (.ref Wt) "rises"=GS JT) (XT:O4 K (.ref Wt) "readings"=GS JT) (a1B:QF K Wt=true) (a1C:OI K (.ref Wt)=true) (Zd:Qa K W4 UG=true) (Ze:Qm K W4=true) (Zf:QK K W4=true) (Zg:O4 K (.ref W4) "__setattr__"=GS (GS (.builtin "object.__setattr__"))) (XC:O4 K (.ref W4) "came"=GS JT) (Xe:O4 K (.ref W4) "streams"=GS JT) (Xj:O4 K (.ref W4) "meters"=GS JT) (Xk:O4 K (.ref W4) "passed"=GS JT) (Zh:QF K W4=true) (Zi:OI K (.ref W4)=true) (Z_:Qa K W6 UG=true) (a00:Qm K W6=true) (a01:QK K W6=true) (a02:O4 K (.ref W6) "__setattr__"=GS (GS (.builtin "object.__setattr__"))) (XU:O4 K (.ref W6) "tanks"=GS JT) (YN:O4 K (.ref W6) "now"=GS JT) (Xr:O4 K (.ref W6) "history"=GS JT) (a03:QF K W6=true) (a04:OI K (.ref W6)=true) (u1:oW K Wt "__init__" "Day.__init__" ki) (u2:oW K Wt "stream" "Day.stream" kj) (u3:oW K Wt "metered" "Day.metered" jk) (u4:oW K Wt "doubting" "Day.doubting" iC) (u5:oW K W4 "__init__" "Standing.__init__" eM) (u6:oW K W4 "with_stream" "Standing.with_stream" cX) (u7:oW K W4 "without_stream" "Standing.without_stream" cb) (u8:oW K W4 "with_meters" "Standing.with_meters" c_) (u9:oW K W4 "without_meters" "Standing.without_meters" cf) (a5U:oW K W4 "with_day" "Standing.with_day" eA) (a5V:UF K "refuse_places" hU) (a5W:UF K "refuse_numbers" gq) (a5X:UF K "refuse_unmetered" eQ) (a5Y:UF K "refuse_amounts" gr) (a5Z:oW K W6 "__init__" "Cellar.__init__" gI) (a5_:oW K W6 "keep_deed" "Cellar.keep_deed" eR) (a60:oW K W6 "stream_comes" "Cellar.stream_comes" dr) (a61:oW K W6 "stream_goes" "Cellar.stream_goes" dI) (a62:oW K W6 "meters_come" "Cellar.meters_come" dL) (a63:oW K W6 "meters_go" "Cellar.meters_go" eU) (a64:oW K W6 "days_gone" "Cellar.days_gone" eV) (a65:oW K W6 "day_passes" "Cellar.day_passes" eC) (a66:oW K W6 "take_back" "Cellar.take_back" eW) (a67:oW K W6 "layout" "Cellar.layout" hW) (a68:oW K W6 "deeds" "Cellar.deeds" iD) (a69:oW K W6 "day" "Cellar.day" kn) (a6a:UF K "_law_at" sf) (a6b:UF K "_law_cell" nQ) (a6c:UF K "_law_figures" jm) (a6d:UF K "_law_same" nS) (a6e:UF K "_law_span" nT) (a6f:UF K "_law_flows" lD) (a6g:UF K "_law_kept" nW) (a6h:UF K "_law_do" sg) (a6i:UF K "_law_behind" kr) (a6j:UF K "_law_layout" ku) (a6k:UF K "_law_looks" lH) (a6l:UF K "_law_day_deed" iE) (a6m:UF K "_law_furnishing" gu) (a6n:UF K "_law_begun" lJ) (a6o:UF K "_law_fit_deed" iG) (a6p:UF K "_law_played" ky) (a6q:UF K "_law_lived" lL) (a6r:UF K "_law_as_last_day" fN) (a6s:UF K "_law_door" nY) (a6t:UF K "_law_due_word" iI) (a6u:UF K "law" si) (Z:JY K) (E:yC K [X0,X1,X2,X3,X4,X5,X6,X7,X8,X9,a0U,a0V,a0W,a0X,a0Y,a0Z]) (XW:Pb K Wr yf "ValueError.__new__"=true) (XX:OB K Wr (.type "BaseException")=GS true) (Xs:qA K (.ref X7) (·==7) 0 [X0,X1,X2,X3,X4,X5,X6,X7,X8,X9,a0U,a0V,a0W,a0X,a0Y,a0Z]) (YO:qA K (.ref X8) (·==8) 0 [X0,X1,X2,X3,X4,X5,X6,X7,X8,X9,a0U,a0V,a0W,a0X,a0Y,a0Z]) (a0G:qA K (.ref X6) (·==6) 0 [X0,X1,X2,X3,X4,X5,X6,X7,X8,X9,a0U,a0V,a0W,a0X,a0Y,a0Z]) (XD:qA K (.ref X5) (·==5) 0 [X0,X1,X2,X3,X4,X5,X6,X7,X8,X9,a0U,a0V,a0W,a0X,a0Y,a0Z]) (YQ:qA K (.type "ValueError") (λ_=>true) 0 [X0,X1,X2,X3,X4,X5,X6,X7,X8,X9,a0U,a0V,a0W,a0X,a0Y,a0Z]) (Yl:qA K (.ref Wr) (λ_=>true) 0 [X0,X1,X2,X3,X4,X5,X6,X7,X8,X9,a0U,a0V,a0W,a0X,a0Y,a0Z]) {Ym:S6} (Yn:O0 K NU "MOST_AMOUNT"=GS (GS (.int 1000 Ym))) {Zj:S6} (Zk:O0 K NU "MOST_DAYS"=GS (GS (.int 12 Zj))) {YR:S6} (YS:O0 K NU "MOST_DEEDS"=GS (GS (.int 60 YR))) {Yo:S6} (Yp:O0 K NU "MOST_METERS"=GS (GS (.int 10 Yo))) {XY:S6} (XZ:O0 K NU "MOST_STREAMS"=GS (GS (.int 12 XY))) {WO:S6} (YT:O0 K NU "MOST_TANKS"=GS (GS (.int 7 WO))) {a05:S6} (a06:O0 K NU "OUTSIDE"=GS (GS (.int 0 a05))) (z0:O0 K NU "ValueError"=GS JT) (z1:O0 K NU "abs"=GS JT) (z2:O0 K NU "all"=GS JT) (z3:O0 K NU "any"=GS JT) (z4:O0 K NU "bool"=GS JT) (z5:O0 K NU "dict"=GS JT) (z6:O0 K NU "int"=GS JT) (z7:O0 K NU "isinstance"=GS JT) (z8:O0 K NU "len"=GS JT) (z9:O0 K NU "list"=GS JT) (a2Q:O0 K NU "max"=GS JT) (a2R:O0 K NU "min"=GS JT) (a4M:O0 K NU "range"=GS JT) (a4N:O0 K NU "set"=GS JT) (a6v:O0 K NU "sorted"=GS JT) (a6w:O0 K NU "str"=GS JT) (a6x:O0 K NU "tuple"=GS JT) :∃fd:Pc,(∀(s:NI) (v:NF),TR s fd ⟨[v],[]⟩ [("_law_script",v)])/\∀base:NT,K.In base->base.Ns NU mg->eF l.prog w K mg base (kX l.prog w) 11 fa fd ["_law_script"] (AO K 1 uC):=by
 obtain⟨f0,a7s,a7t,a6y,a6z,a6A,a6B,a6C,a6D,a7u,a0,l0,c0,k0⟩:=a6u;have e:=a5T.symm.trans (OK X G a0);cases e;have B:Bl mg BN:=⟨λx hx=>by
  simp only[BN,NW,OE,or_false]at hx;rcases hx with rfl|rfl|rfl|rfl|rfl|rfl|rfl|rfl|rfl|rfl|rfl|rfl|rfl|rfl|rfl|rfl|rfl
  ·exact Oy X G z0
  ·exact Oy X G z1
  ·exact Oy X G z2
  ·exact Oy X G z3
  ·exact Oy X G z4
  ·exact Oy X G z5
  ·exact Oy X G z6
  ·exact Oy X G z7
  ·exact Oy X G z8
  ·exact Oy X G z9
  ·exact Oy X G a2Q
  ·exact Oy X G a2R
  ·exact Oy X G a4M
  ·exact Oy X G a4N
  ·exact Oy X G a6v
  ·exact Oy X G a6w
  ·exact Oy X G a6x⟩
 have X_:j6 K "Day" Wt:=⟨a0_,a1x,a1y,a1z,a1A⟩;have a0n:∀x∈rZ,dq K Wt x:=λx hx=>by
  simp only[rZ,NW,OE,or_false]at hx;rcases hx with rfl|rfl|rfl|rfl
  ·exact Zb
  ·exact Yk
  ·exact Zc
  ·exact XT
 have a2t:kN K "Day" rZ:=⟨_,X_,a0n⟩;have Wh:j6 K "Standing" W4:=⟨XS,Zd,Ze,Zf,Zg⟩;have XB:∀x∈gR,dq K W4 x:=λx hx=>by
  simp only[gR,NW,OE,or_false]at hx;rcases hx with rfl|rfl|rfl|rfl
  ·exact XC
  ·exact Xe
  ·exact Xj
  ·exact Xk
 have Zy:kN K "Standing" gR:=⟨_,Wh,XB⟩;have Wb:j6 K "Cellar" W6:=⟨Za,Z_,a00,a01,a02⟩;have YF:∀x∈jD,dq K W6 x:=λx hx=>by
  simp only[jD,NW,OE,or_false]at hx;rcases hx with rfl|rfl|rfl
  ·exact XU
  ·exact YN
  ·exact Xr
 have a0o:kN K "Cellar" jD:=⟨_,Wb,YF⟩;have Y0:=OK X G Yn;have YU:=OK X G Zk;have Yq:=OK X G YS;have Y1:=OK X G Yp;have XE:=OK X G XZ;have Wq:=OK X G YT;have Zz:=OK X G a06;have Xt:bB K mg "AlreadyMetered":=cr Z X G N E _ (by decide+kernel);have WQ:bB K mg "BadTanks":=cr Z X G N E _ (by decide+kernel);have YV:bB K mg "NotMetered":=cr Z X G N E _ (by decide+kernel);have Yr:bB K mg "NothingDone":=cr Z X G N E _ (by decide+kernel);have YW:bB K mg "OutOfRange":=cr Z X G N E _ (by decide+kernel);have Xu:bB K mg "ReadingMissing":=cr Z X G N E _ (by decide+kernel);have Zl:bB K mg "SamePlace":=cr Z X G N E _ (by decide+kernel);have Ys:bB K mg "TooManyDays":=cr Z X G N E _ (by decide+kernel);have Y2:bB K mg "TooManyDeeds":=cr Z X G N E _ (by decide+kernel);have XF:bB K mg "TooManyMeters":=cr Z X G N E _ (by decide+kernel);have Xv:bB K mg "TooManyStreams":=cr Z X G N E _ (by decide+kernel);have a0H:bB K mg "Twice":=cr Z X G N E _ (by decide+kernel);have YX:bB K mg "UnknownDay":=cr Z X G N E _ (by decide+kernel);have Y3:bB K mg "UnknownPlace":=cr Z X G N E _ (by decide+kernel);have XG:bB K mg "UnknownStream":=cr Z X G N E _ (by decide+kernel);have YY:bB K mg "WrongRises":=cr Z X G N E _ (by decide+kernel);have Xw:tj K mg "AlreadyMetered" (tb 7):=oX Z N E (OK X G (ia N E "AlreadyMetered" _ rfl).1) (ia N E "AlreadyMetered" _ rfl).2.1 Xs;have YZ:tj K mg "NotMetered" (tb 8):=oX Z N E (OK X G (ia N E "NotMetered" _ rfl).1) (ia N E "NotMetered" _ rfl).2.1 YO;have a0I:tj K mg "Twice" (tb 6):=oX Z N E (OK X G (ia N E "Twice" _ rfl).1) (ia N E "Twice" _ rfl).2.1 a0G;have XH:tj K mg "UnknownStream" (tb 5):=oX Z N E (OK X G (ia N E "UnknownStream" _ rfl).1) (ia N E "UnknownStream" _ rfl).2.1 XD;have Y_:qe K (.type "ValueError") MS:=Gf Z N E YQ;have Yt:wQ K mg "CellarError" (yx RL):=Bf (OK X G Yj) XW XX N Yl;have ev:Ev K mg:=⟨B,⟨_,Y0⟩,⟨_,YU⟩,⟨_,Yq⟩,⟨_,Y1⟩,⟨_,XE⟩,⟨_,Wq⟩,⟨_,Zz⟩,Xt,WQ,YV,Yr,YW,Xu,Zl,Ys,Y2,XF,Xv,a0H,YX,Y3,XG,YY,Xw,YZ,a0I,XH,Y_,a0o,a2t,Zy,Yt⟩;refine⟨OP "law" "law" (cG si) (aQ si) (ao si) .none a6y a6z a6A a6B a6C a6D,λs v=> .of_eq rfl,λbase _ _=> ?_⟩;have Y4:n_ l.prog w K mg base:=xb (u1.mk X_ (OK X G a0_) a1B a1C a0n b5) B;have Z0:kC l.prog w K mg base:=tD (u2.at X_ b2) ev;have Yu:jp l.prog w K mg base:=sk (u3.at X_ b2) ev Z0;have Y5:iK l.prog w K mg base:=qD (u4.at X_ b2) ev Yu Y4;have W9:cn l.prog w K mg base:=pT (u5.mk Wh (OK X G XS) Zh Zi XB b5) B;have WR:d7 l.prog w K mg base:=jG (u6.at Wh b3) ev W9;have WC:cj l.prog w K mg base:=iL (u7.at Wh b2) ev W9;have WS:d8 l.prog w K mg base:=jH (u8.at Wh b2) ev W9;have WE:ck l.prog w K mg base:=iM (u9.at Wh b2) ev W9;have Xb:eD l.prog w K mg base:=lP (a5U.at Wh b2) ev W9;have XI:hZ l.prog w K mg base:=pU (a5V.at X G b2) ev;have Wi:bW l.prog w K mg base:=oZ (a5W.at X G b2) ev;have Wx:d9 l.prog w K mg base:=mP (a5X.at X G b2) ev;have Xx:gA l.prog w K mg base:=o_ (a5Y.at X G b1) ev;have Yv:n6 l.prog w K mg base:=sq (a5Z.mk Wb (OK X G Za) a03 a04 YF b2) B W9 Wq WQ;have Wc:bf l.prog w K mg base:=mQ (a5_.at Wb b3) ev;have WX:dv l.prog w K mg base:=kD (a60.at Wb b3) ev XI Wc WR;have WY:dO l.prog w K mg base:=k_ (a61.at Wb b2) ev Wi Wc WC;have Wu:cB l.prog w K mg base:=l7 (a62.at Wb b2) ev Wi Wc WS;have Wy:da l.prog w K mg base:=mR (a63.at Wb b2) ev Wi Wx Wc WE;have Wj:bZ l.prog w K mg base:=mS (a64.at Wb b1) ev;have Wv:cI l.prog w K mg base:=lS (a65.at Wb b3) ev Wi Wx Xx Y4 Wc Xb Wj;have Xf:eY l.prog w K mg base:=mT (a66.at Wb b1) ev;have XJ:h_ l.prog w K mg base:=pV (a67.at Wb b1) ev;have Y6:iT l.prog w K mg base:=qE (a68.at Wb b1) ev;have Xl:ie l.prog w K mg base:=tE (a69.at Wb b2) ev Wj;have Xm:jK l.prog w K mg base:=Bj (a6a.at X G b2) ev;have WT:gB l.prog w K mg base:=xf (a6b.at X G b2) ev Xm;have Ws:dm l.prog w K mg base:=sv (a6c.at X G b4) ev;have Y7:kE l.prog w K mg base:=xg (a6d.at X G b2) ev;have ZA:o0 l.prog w K mg base:=xh (a6e.at X G b4) ev;have Zm:lU l.prog w K mg base:=vB (a6f.at X G b5) ev ZA;have ZC:o1 l.prog w K mg base:=xi (a6g.at X G b2) ev Y7;have a0p:sB l.prog w K mg base:=Bk (a6h.at X G b2) ev WX WY Wu Wy Wv Xf
 have Z1:kG l.prog w K mg base:=tF (a6i.at X G b2) ev;have Z2:kH l.prog w K mg base:=tH (a6j.at X G b1) ev;have Zn:lV l.prog w K mg base:=vC (a6k.at X G b2) ev Y7 XJ Z2 Y6 Wj ZC Xl;have WZ:fR l.prog w K mg base:=qF (a6l.at X G b3) ev Ws Zm;have Xy:gC l.prog w K mg base:=p9 (a6m.at X G b2) ev Xm WT Ws;have Zo:lX l.prog w K mg base:=vD (a6n.at X G b1) ev WT;have Y8:iU l.prog w K mg base:=qG (a6o.at X G b3) ev Ws WZ;have Z3:kI l.prog w K mg base:=tJ (a6p.at X G b3) ev a0p Z1;have Zp:lZ l.prog w K mg base:=vE (a6q.at X G b3) ev Xm Xy Z3 Y8 WT WZ;have Xn:fS l.prog w K mg base:=o3 (a6r.at X G b1) ev;have ZD:o4 l.prog w K mg base:=xk (a6s.at X G b4) ev Wu Wy Wv Y5 Xl;have Y9:iV l.prog w K mg base:=qH (a6t.at X G b3) ev;exact JD (nz (st:=si) l0 c0 k0) ev Zo Yv Zp Ws WT Xm Xn ZD Y9 Zn
end
theorem walk {l:Tw} {q:NM} {Yz:List NG} {XP:(NG->Option NF)->NT->Prop} {YP:NV->NT->Prop} {d:DefRec} {K:Params->ND} (hn:l.most=GS 63) (a1X:d.params.defaults=[]) (hY:∀(w:NV) (h:NT),YP w h->(K w.params).In h) (main:∀ns:List Int,ns.length<=63->uC [.scr ns]= .ok (.bl true)) (F:∀(w:NV) (mg:NG->Option NF) (fa:NH) (h:NT),(K w.params).In h->h.Ns NU mg->mg d.name=GS (.ref fa)-> ∃fd:Pc,(∀(s:NI) (u:NF),TR s fd ⟨[u],[]⟩ [("_law_script",u)])/\∀base:NT,(K w.params).In base->base.Ns NU mg->eF l.prog w (K w.params) mg base (kX l.prog w) 11 fa fd ["_law_script"] (AO (K w.params) 1 uC)): VJ q Yz XP YP l.row.toRowW d [] (λf vs=>Vr f vs):=
 L2.Fa (n:=63) (k:=11) (x:="_law_script") (CX:=λw=>kX l.prog w) (sp:=λw=>AO (K w.params) 1 uC) hn (by decide) a1X ⟨rfl,by decide,by decide⟩ hY F (λ_ _ a ns hl _ hS=>IZ (main ns hl) hS) λ_ _ _ _ _ z=>L2.Pu.Jf z
end My
namespace My
open PySem PySem.Spec PyProof.Rows L2 L2.Pu
variable {g:aa->R aF} {gb ga:aa->R Bool} {i:Nat} {b:Bool} {f fo:aa->R D} {fds:List (NG×D)} {now:D} {ρ':aa} {s s':Slot} {mf:List Slot->List D->R (D×List Slot)} {Wd l:List D} {fx:aa->R (D×aa)} {w w':NG} {L ns:List Int} {ps:List (Int×Int)}
local macro_rules|`(tactic|simp! [$xs,*])=>`(tactic|simp only[ak,aE,gN,bL,b6,ay,nD,jX,lh,j0,nF,frz,frz1,Ud,bv,f2,f1,aR,eI,bu,fL,av,kM,CI,qc,No,fT,dC,fc,rJ,jf,a7,ac,ah,a9,fC,wH,ag,cV,OY,OT,Ri,Rj,Dj,Dk,Dl,O3,PK,T3,Nat.reduceAdd,if_true,if_false,OH,Su,Ro,nB,decide_true,decide_false,cN,pI,i3,zF,j5,Lc,jy,wK,I_,Dd,g_,dF,FN,FO,De,Df,wL,rP,Tu,PL,Pf,$xs,*])
def cel (ns:List Int) (k:Nat):Int:=ns.getD k 0
theorem zX (ns:List Int) (k:Nat):dg [.scr ns, .int (k:Int)]= .ok (.int (cel ns k)):=by
 unfold dg aG;simp only[bN,xa,ak,bL,b6,ay,f2,aR,a9,fC,fT,a7,ac,yt,j5,Ld,O3,PK,if_true,NP,Pm,Oa,Nat.sub_self,P2,OY,OT,Slot.data,ag,cV];by_cases h:k<ns.length
 ·have h':(k:Int)<(ns.length:Int):=by omega
  simp only[h',decide_true,if_true,hG h,PL,cV,ag];simp[cel,h]
 ·have h':¬(k:Int)<(ns.length:Int):=by omega
  simp only[h',decide_false,if_false,OH,ag];simp[cel,SX h]
theorem MT (ns:List Int):dg [.scr ns, .int 0]= .ok (.int (cel ns 0)):=zX ns 0
def cl (ns:List Int) (k:Nat):Int:=if cel ns 0%2=0 then cel ns k else ((cel ns k+cel ns 0 / 2+7919*(k:Int)+1)*48271%2147483647+(k:Int))*69621%2147483647
theorem pW (ns:List Int) (k:Nat):aX [.scr ns, .int (k:Int)]= .ok (.int (cl ns k)):=by
 refine aM rfl ?_;show nR [GS (.val (.scr ns)),GS (.val (.int (k:Int))),JT]=_;by_cases h:cel ns 0%2=0<;>simp! [nR,MT,zX,h,aD (show (0:Int)<2 by decide),cM (show (0:Int)<2/\(2:Int)<1073741824 by decide),vi (show RZ 48271<18446744073709551616 by decide),vi (show RZ 69621<18446744073709551616 by decide),rO (show RZ 7919<18446744073709551616 by decide),aD (show (0:Int)<2147483647 by decide),cl]
theorem xl {g:D->aa->R aa} {gb:aa->R aF} {n:Nat} {P:Nat->aa->Prop} (h:∀k,k<n->∀ρ,P k ρ->∃ρ1 ρ2,g (.int (k:Int)) ρ= .ok ρ1/\(gb ρ1= .ok (.nx ρ2)\/gb ρ1= .ok (.cnt ρ2))/\P (k+1) ρ2):∀(j k:Nat) (ρ:aa),k+j=n->P k ρ->∃ρ',dc g gb ((List.range' k j).map λk:Nat=>D.int (k:Int)) ρ= .ok (.nx ρ')/\P n ρ'
 |0,k,ρ,e,hp=>⟨ρ,rfl,by rw[Nat.add_zero]at e;exact e▸hp⟩
 |j+1,k,ρ,e,hp=>by
  obtain⟨ρ1,ρ2,e1,e2,h2⟩:=h k (by omega) ρ hp;obtain⟨ρ',e3,h3⟩:=xl h j (k+1) ρ2 (by omega) h2;refine⟨ρ',?_,h3⟩;rw[List.range'_succ,NP];rcases e2 with e2|e2
  ·rw[i9 e1 e2,e3]
  ·rw[Dh e1 e2,e3]
theorem pc {g:D->aa->R aa} {gb:aa->R aF} {P:Nat->aa->Prop} {fs:aa->R (List D)} (hf:fs ρ= .ok [.int (n:Int)]) (hn:n<=1000) (h0:P 0 ρ) (h:∀k,k<n->∀ρ,P k ρ->∃ρ1 ρ2,g (.int (k:Int)) ρ= .ok ρ1/\(gb ρ1= .ok (.nx ρ2)\/gb ρ1= .ok (.cnt ρ2))/\P (k+1) ρ2):∃ρ',jX (cq fs) g gb ρ= .ok (.nx ρ')/\P n ρ':=by
 obtain⟨ρ',e,hp⟩:=xl h n 0 ρ (by omega) h0;rw[<-List.range_eq_range']at e;exact⟨ρ',(nI (jz hf (by unfold lim;omega))).trans e,hp⟩
theorem xm {α β:Type} (f:α->β) {l:List α} {k:Nat} (h:k<l.length):(l.take (k+1)).map f=(l.take k).map f++[f l[k]]:=by
 rw[<-List.take_append_getElem h,Oo];rfl
inductive Wf:Nat->D->Prop
 |int (n:Nat) (i:Int):Wf n (.int i)
 |bl (n:Nat) (b:Bool):Wf n (.bl b)
 |str (n:Nat) (x:NG):Wf n (.str x)
 |tup {n:Nat} {ds:List D}:ds.length<=1000->(∀d∈ds,Wf n d)->Wf (n+1) (.tup ds)
theorem Wf.up {d:D} (h:Wf n d):∀k,Wf (n+k) d:=by
 induction h with
 |int n i=>exact λk=> .int _ i
 |bl n b=>exact λk=> .bl _ b
 |str n x=>exact λk=> .str _ x
 | @tup n ds h1 h2 ih=>exact λk=>by rw[Nat.add_right_comm];exact .tup h1 λd hd=>ih d hd k
theorem Bm {YM:List D->R D} {ds:List D} (h:∀d∈ds,YM [d,d]= .ok (.bl true)) {k:Nat} (hk:k<ds.length): j8 YM [GS (.val (.tup ds)),GS (.val (.tup ds)),GS (.val (.int (k:Int)))]= .ok (.nx [GS (.val (.tup ds)),GS (.val (.tup ds)),GS (.val (.int (k:Int)))]):=by
 have hr:=h ds[k] (Pl hk);simp only[j8,bL,jf,dC,av,a7,ac,f2,a9,b6,ay,fC,ag,cV,OY,OT,Slot.data,rP,hG hk,O3,PK,if_true,hr,nB,Su,OH,if_false]
theorem uD {YM:List D->R D} {ds:List D} (h:∀d∈ds,YM [d,d]= .ok (.bl true)):∀(ks:List Nat) (x:Option Slot),(∀k∈ks,k<ds.length)-> ∃y,dc (gN 2) (j8 YM) (ks.map λk:Nat=>D.int (k:Int)) [GS (.val (.tup ds)),GS (.val (.tup ds)),x]= .ok (.nx [GS (.val (.tup ds)),GS (.val (.tup ds)),y])
 |[],x,_=>⟨x,rfl⟩
 |k::ks,x,hk=>by
  obtain⟨y,e⟩:=uD h ks (GS (.val (.int (k:Int)))) λj hj=>hk j (O1 _ hj);exact⟨y,by rw[NP,i9 rfl (Bm h (hk k NZ)),e]⟩
theorem JF {i:Int}:qx "str" (.int i)=GS (.bl false):=rfl
theorem DT:qx "tuple" (.bl b)=GS (.bl false):=rfl
theorem DU:qx "bool" (.bl b)=GS (.bl true):=rfl
theorem DV {x:NG}:qx "tuple" (.str x)=GS (.bl false):=rfl
theorem DW {x:NG}:qx "bool" (.str x)=GS (.bl false):=rfl
theorem DX {x:NG}:qx "str" (.str x)=GS (.bl true):=rfl
theorem zY {x y:NG}:dD (.str x) (.str y)=GS (.bl (decide (x=y))):=rfl
theorem Gm (n:Nat) (b:Bool):bD (n+1) [.bl b, .bl b]= .ok (.bl true):=by
 refine aM rfl ?_;show d5 (bD n) [GS (.val (.bl b)),GS (.val (.bl b)),JT]=_;simp only[d5,ak,bL,b6,ay,dC,lq,a9,kM,qc,f2,fT,fC,ag,cV,OY,OT,Slot.data,DT,DU,Dd,DV,DW,DX,zY,nB,if_true,OH,if_false,Ro,decide_true]
theorem DY (n:Nat) (x:NG):bD (n+1) [.str x, .str x]= .ok (.bl true):=by
 refine aM rfl ?_;show d5 (bD n) [GS (.val (.str x)),GS (.val (.str x)),JT]=_;simp only[d5,ak,bL,b6,ay,dC,lq,a9,kM,qc,f2,fT,fC,ag,cV,OY,OT,Slot.data,DT,DU,Dd,DV,DW,DX,zY,nB,if_true,OH,if_false,Ro,decide_true]
theorem DZ (n:Nat) (i:Int):bD (n+1) [.int i, .int i]= .ok (.bl true):=by
 refine aM rfl ?_;show d5 (bD n) [GS (.val (.int i)),GS (.val (.int i)),JT]=_;simp only[d5,ak,bL,b6,ay,dC,lq,a9,kM,qc,f2,ag,cV,OY,OT,Slot.data,J5,J6,J7,JF,nB,OH,if_false,Ro,i3,decide_true]
theorem Bo {d:D} (h:Wf n d):bD (n+1) [d,d]= .ok (.bl true):=by
 induction h with
 |int n i=>exact DZ n i
 |bl n b=>exact Gm n b
 |str n x=>exact DY n x
 | @tup n ds h1 h2 ih=>
  obtain⟨y,e⟩:=uD ih (Ov ds.length) JT λk hk=>OO.mp hk;refine aM rfl ?_;show d5 (bD (n+1)) [GS (.val (.tup ds)),GS (.val (.tup ds)),JT]=_;simp only[d5,ak,bL,b6,ay,rJ,jf,fT,dC,lq,a9,fC,f2,aR,a7,ac,ag,cV,OY,OT,Slot.data,J0,nB,if_true,Su,OH,if_false,dF,zF,decide_true,jX];rw[jz (n:=ds.length) (by simp only[a7,ac,aR,a9,ag,cV,OY,OT,Slot.data,dF]) (by unfold lim;omega),ag,e];simp only[ag]
theorem m6 (hn:n<=7) {d:D} (h:Wf n d):bd [d,d]= .ok (.bl true):=by
 have:=Bo (h.up (7 - n));rw[show n+(7 - n)+1=8 by omega]at this;exact this
theorem zZ (ns:List Int) (h:ns.length<=1000):Wf 1 (.tup (ns.map .int)):= .tup (by simpa using h) λd hd=>by obtain⟨i,_,rfl⟩:=Oz.mp hd;exact .int 0 i
theorem vF {α:Type} {f:α->D} {l:List α} (hl:l.length<=1000) (h:∀a∈l,Wf n (f a)):Wf (n+1) (.tup (l.map f)):= .tup (by simpa using hl) λd hd=>by obtain⟨a,ha,rfl⟩:=Oz.mp hd;exact h a ha
abbrev xn:=Int×Int×Int
def aP (r:xn):D:= .tup [.int r.1, .int r.2.1, .int r.2.2]
def jM (n:Int) (now:D):List (NG×D):=[("tanks", .int n),("now",now)]
def az (n:Int) (now:D) (hs:List D):Slot:= .cel "Cellar" (jM n now) "history" hs
theorem D_ (n:Int) (now:D):(jM n now).lookup ("tanks":NG)=GS (D.int n):=rfl
theorem sD (n:Int) (now:D):(jM n now).lookup ("now":NG)=GS now:=rfl
theorem A1 (n:Int) (now d:D):B7 "now" d (jM n now)=jM n d:=rfl
theorem dw {g:NG} {d:D} (h:f ρ= .ok (.ins cls fds)) (h2:fds.lookup g=GS d):bi cls g f ρ= .ok d:=by
 unfold bi;rw[h,ag];dsimp only;rw[if_pos rfl,h2,cV]
theorem qT {g:NG} {n:Int} {d:D} (h:ρ[i]? =GS (GS (az n now hs))) (h2:(jM n now).lookup g=GS d):bT i "Cellar" g ρ= .ok d:=by
 unfold bT;rw[h];show (if ("Cellar":NG)="Cellar" then R.of ((jM n now).lookup g)else .bad)=_;rw[if_pos rfl,h2,cV]
theorem vG {n:Int} (h:ρ[i]? =GS (GS (az n now hs))):oQ i "Cellar" "history" ρ= .ok (.lst hs):=by
 unfold oQ;rw[h];exact if_pos ⟨rfl,rfl⟩
theorem gJ {x:NG} (h:g ρ= .err x ρ'):ak g g' ρ= .err x ρ':=by
 unfold ak;rw[h];rfl
theorem E0 {d:D} (h:g ρ= .ok (.retc d ρ')):ak g g' ρ= .ok (.retc d ρ'):=by
 unfold ak;rw[h,ag]
theorem eE {gc:aa->R Bool} (h:gc ρ= .ok true):bL gc g g' ρ=g ρ:=by unfold bL;rw[h,ag];rfl
theorem c7 {gc:aa->R Bool} (h:gc ρ= .ok false):bL gc g g' ρ=g' ρ:=by unfold bL;rw[h,ag];rfl
theorem aI (h:f ρ= .ok (.bl b)):fT f ρ= .ok b:=by unfold fT;rw[h,ag]
theorem jq (h:f ρ= .ok (.bl b)):dC f ρ= .ok b:=by unfold dC;rw[h,ag];rfl
theorem jN {x:NG} {s:NG}:bn x (a7 (fC (.str s)) ac) ρ= .err x ρ:=by
 unfold bn a7 fC ac;simp only[ag];exact if_pos (show 1<=lim by decide)
theorem bq {fs:aa->R (List D)} {ds:List D} (h:fs ρ= .ok ds) (hl:ds.length<=lim):bu fs ρ= .ok (.tup ds):=by unfold bu;rw[h,ag,if_pos hl]
theorem Gn {d:D} (h:f ρ= .ok d):f8 f ρ= .ok (.nx ρ):=by unfold f8;rw[h,ag]
theorem sE {x:NG} (h:f ρ= .err x ρ'):f8 f ρ= .err x ρ':=by unfold f8;rw[h];rfl
theorem xo {fs:aa->R (List D)} {ds:List D} {x:NG} (h:fs ρ= .ok ds) (hl:ds.length=n) (hm:m ds= .err x ρ'):av m n fs ρ= .err x ρ:=by
 unfold av;rw[h,ag,if_pos hl,hm]
theorem dX {m:NG} {r:List D->R D} {fs:aa->R (List D)} {ds:List D} {z:D} (h1:fo ρ= .ok (.ins cls fds)) (h2:fs ρ= .ok ds) (hl:ds.length+1=n) (e:r (.ins cls fds::ds)= .ok z) (hm:fds.lookup m=JT):bx cls m n r fo fs ρ= .ok z:=by
 unfold bx;rw[h1,ag];dsimp only;rw[if_pos ⟨rfl,hm⟩,h2,ag,if_pos hl,e]
theorem E1 {k:Nat} {fs:aa->R (List D)} {ds:List D} {n n':Int} {Yw d:D} (h:ρ[i]? =GS (GS (az n now hs))) (h2:fs ρ= .ok ds) (hl:ds.length=k) (e:mf [az n now hs] ds= .ok (d,[az n' Yw Wd])): bQ [i] mf k fs ρ= .ok (d,ρ.set i (GS (az n' Yw Wd))):=by
 unfold bQ;have a1D:cH ρ [i]=GS [az n now hs]:=by unfold cH cH;rw[h];rfl
 rw[a1D];dsimp only;rw[if_pos ⟨rfl,by simp⟩,h2,ag,if_pos hl,e];dsimp only;rw[if_pos (show Te Slot.kind [az n' Yw Wd]=Te Slot.kind [az n now hs]from rfl)]
 rfl
theorem vH {k:Nat} {fs:aa->R (List D)} {ρe:aa} {ds:List D} {n:Int} {x:NG} (h:ρ[i]? =GS (GS (az n now hs))) (h2:fs ρ= .ok ds) (hl:ds.length=k) (e:mf [az n now hs] ds= .err x ρe) (ht:cS 1 ρe=GS [az n now hs]) (hi:ρ.set i (GS (az n now hs))=ρ): bQ [i] mf k fs ρ= .err x ρ:=by
 unfold bQ;have Wd:cH ρ [i]=GS [az n now hs]:=by unfold cH cH;rw[h];rfl
 rw[Wd];dsimp only;rw[if_pos ⟨rfl,by simp⟩,h2,ag,if_pos hl,e];dsimp only;rw[show cS [i].length ρe=GS [az n now hs]from ht];dsimp only;rw[if_pos rfl];show R.err x (ρ.set i (GS (az n now hs)))=_;rw[hi]
theorem sG {m:NG} {n:Int} (h:ρ[i]? =GS (GS (az n now hs))) (h1:m≠"history":=by decide) (h2:(jM n now).lookup m=JT:=by rfl):fU i "Cellar" m fx ρ=fx ρ:=by
 unfold fU;rw[h];exact if_pos ⟨rfl,h1,h2⟩
theorem sH {d:D} (h:fx ρ= .ok (d,ρ')):bH fx ρ= .ok (.nx ρ'):=by unfold bH;rw[h,ag]
theorem uE {x:NG} (h:fx ρ= .err x ρ'):bH fx ρ= .err x ρ':=by unfold bH;rw[h];rfl
theorem mG {k:Nat} {ss ss':List Slot} {ds:List D} {d:D} (h:ss.length=nm/\ds.length=k) (e:g (eu n ss ds)= .ok (.retc d ρ)) (ht:cS nm ρ=GS ss'):iy nm k n g ss ds= .ok (d,ss'):=by
 unfold iy;rw[if_pos h,e];dsimp only;rw[ht]
theorem qU {k:Nat} {ss ss':List Slot} {ds:List D} (h:ss.length=nm/\ds.length=k) (e:g (eu n ss ds)= .ok (.nx ρ)) (ht:cS nm ρ=GS ss'):iy nm k n g ss ds= .ok (.non,ss'):=by
 unfold iy;rw[if_pos h,e];dsimp only;rw[ht]
theorem sI {k:Nat} {ss:List Slot} {ds:List D} {x:NG} (h:ss.length=nm/\ds.length=k) (e:g (eu n ss ds)= .err x ρ):iy nm k n g ss ds= .err x ρ:=by
 unfold iy;rw[if_pos h,e]
theorem E2 {k:Nat} {ds:List D} {x:NG} (h:ds.length=k) (e:g (bN n ds)= .err x ρ):aG k n g ds= .err x ρ:=by
 unfold aG;rw[if_pos h,e];rfl
theorem vI {d:D} (h:f ρ= .ok d):n4 f ρ= .ok (.retc d ρ):=by unfold n4;rw[h,ag]
theorem i6 {α:Type} {gt:aa->R Bool} {fe:aa->R D} {enc out:α->D} {p:α->Bool} {a0:Option Slot} {rest:aa}:∀(xs:List α) (v:Option Slot),(∀x∈xs,gt (a0::GS (.val (enc x))::rest)= .ok (p x))->(∀x∈xs,p x=true->fe (a0::GS (.val (enc x))::rest)= .ok (out x))-> li (gN 1) gt fe (xs.map enc) (a0::v::rest)= .ok ((xs.filter p).map out)
 |[],v,h1,h2=>rfl
 |x::xs,v,h1,h2=>by
  have e1:=h1 x NZ;have ih:=i6 (gt:=gt) (fe:=fe) (enc:=enc) (out:=out) (p:=p) (a0:=a0) (rest:=rest) xs (GS (.val (enc x))) (λy hy=>h1 y (O1 _ hy)) (λy hy=>h2 y (O1 _ hy));rw[NP,li];show (gt (a0::GS (.val (enc x))::rest)>>=λb=>if b=true then (fe (a0::GS (.val (enc x))::rest)>>=λy=>li (gN 1) gt fe (xs.map enc) (a0::GS (.val (enc x))::rest)>>=λys=> .ok (y::ys))else li (gN 1) gt fe (xs.map enc) (a0::GS (.val (enc x))::rest))=_;rw[e1,ag,ih];cases q:p x with
  |true=>rw[if_pos rfl,h2 x NZ q,ag,ag,Tf,if_pos q];rfl
  |false=>rw[if_neg (by simp),Tf,if_neg (by rw[q];simp)]
theorem o5 {α:Type} (xs:List α):xs.filter (λ_=>true)=xs:=by simp
theorem JG {x:D} {r:List D}:aA (.tup (x::r)) (.int 0)=GS x:=by
 rw[rP];have:=hG (xs:=x::r) (k:=0) (by simp);simpa using this
theorem MU {x:D} {r:List D}:aA (.tup (x::y::r)) (.int 1)=GS y:=by
 rw[rP];have:=hG (xs:=x::y::r) (k:=1) (by simp);simpa using this
theorem MV {x:D} {r:List D}:aA (.lst (x::r)) (.int 0)=GS x:=by
 rw[wL];have:=hG (xs:=x::r) (k:=0) (by simp);simpa using this
theorem MW {x:D} {r:List D}:aA (.lst (x::y::r)) (.int 1)=GS y:=by
 rw[wL];have:=hG (xs:=x::y::r) (k:=1) (by simp);simpa using this
theorem gK {r:xn}:aA (aP r) (.int 0)=GS (.int r.1):=JG
abbrev Rd:=Int×Int
def n9 (r:Rd):D:= .tup [.int r.1, .int r.2]
structure yF where
 ss:List xn
 ri:List Int
 rd:List Rd
structure Mo where
 c:Int
 ss:List xn
 ms:List Int
 mm:List Int
 ds:List yF
 dd:List D
def pX (n:Int) (d:yF):List (NG×D):=[("tanks", .int n),("streams", .tup (d.ss.map aP)),("rises", .tup (d.ri.map .int)),("readings", .tup (d.rd.map n9))]
def cQ (n:Int) (d:yF):D:= .ins "Day" (pX n d)
def uF (n:Int) (m:Mo):List (NG×D):=[("came", .int m.c),("streams", .tup (m.ss.map aP)),("meters", .tup (m.ms.map .int)),("passed", .tup (m.ds.map (cQ n)))]
def bj (n:Int) (m:Mo):D:= .ins "Standing" (uF n m)
abbrev Mo.nu (m:Mo):List Int:=m.ss.map (·.1)
theorem mH (n:Int) (m:Mo):(uF n m).lookup ("came":NG)=GS (D.int m.c):=rfl
theorem db (n:Int) (m:Mo):(uF n m).lookup ("streams":NG)=GS (D.tup (m.ss.map aP)):=rfl
theorem dn (n:Int) (m:Mo):(uF n m).lookup ("meters":NG)=GS (D.tup (m.ms.map .int)):=rfl
theorem f9 (n:Int) (m:Mo):(uF n m).lookup ("passed":NG)=GS (D.tup (m.ds.map (cQ n))):=rfl
def Mo.comes (m:Mo) (a b:Int):Mo:={m with c:=m.c+1,ss:=m.ss++[(m.c+1,a,b)],dd:=m.dd++[.tup [.str "stream comes", .int a, .int b]]}
def Mo.goes (m:Mo) (a:Int):Mo:={m with ss:=m.ss.filter λr=>decide (r.1≠a),ms:=m.ms.filter λx=>decide (x≠a),mm:=m.mm.filter λx=>decide (x≠a),dd:=m.dd++[.tup [.str "stream goes", .int a]]}
def Mo.mcome (m:Mo) (ns:List Int):Mo:={m with ms:=m.ms++ns,mm:=bS (m.mm++ns),dd:=m.dd++[.tup [.str "meters come", .tup (ns.map .int)]]}
def Mo.mgo (m:Mo) (ns:List Int):Mo:={m with ms:=m.ms.filter λx=> !decide (x∈ns),mm:=m.mm.filter λx=> !decide (x∈ns),dd:=m.dd++[.tup [.str "meters go", .tup (ns.map .int)]]}
def xp (rd:List Rd):List Rd:=rd.mergeSort λa b=>decide (a.1<=b.1)
def Mo.passes (m:Mo) (ri:List Int) (rd:List Rd):Mo:={m with ds:=m.ds++[⟨m.ss,ri,xp rd⟩],dd:=m.dd++[.tup [.str "day passes", .tup (ri.map .int), .tup (rd.map n9)]]}
structure Mo.Ok (m:Mo):Prop where
 inc:m.ss.Pairwise λa b=>a.1<b.1
 le:∀r∈m.ss,r.1<=m.c
 len:m.ss.length<=12
 per:m.mm.Perm m.ms
 nd:m.ms.Nodup
 sub:∀x∈m.ms,x∈m.nu
 ten:m.ms.length<=10
 dl:m.ds.length<=12
theorem jO (rd:List Rd):rd.Perm (xp rd):=(List.mergeSort_perm rd _).symm
theorem vJ {rd:List Rd} (h:(rd.map (·.1)).Nodup):(xp rd).Pairwise λa b=>a.1<b.1:=by
 have h1:(xp rd).Pairwise λa b=>decide (a.1<=b.1)=true:=List.pairwise_mergeSort (λa b c h1 h2=>by simp only[decide_eq_true_eq]at*;omega) (λa b=>by simp only[Vz,decide_eq_true_eq];omega) rd;have h2:((xp rd).map (·.1)).Nodup:=((jO rd).map (·.1)).nodup_iff.mp h;rw[SI,P9]at h2;refine(h1.and h2).imp λ{a b} h=> ?_;have:=of_decide_eq_true h.1;have:=h.2;omega
theorem pe {fs:aa->R (List D)} {a b c d:D} (h:fs ρ= .ok [a,b,c,d]):jB "Standing" 4 aO fs ρ= .ok (.ins "Standing" [("came",a),("streams",b),("meters",c),("passed",d)]):=by
 unfold jB;rw[h,ag,if_pos (show [a,b,c,d].length=4 from rfl),show aO [a,b,c,d]= .ok [("came",a),("streams",b),("meters",c),("passed",d)]from rfl]
theorem kJ {a b:List D} (h:a.length+b.length<=1000):aV (.tup a) (.tup b)=GS (.tup (a++b)):=if_pos (by unfold lim;omega)
theorem vK {a b:Int}:v9 (.int a) (.int b)=GS (.bl (decide (a≠b))):=by rw[zF];first|rfl|simp
section
variable {n:Int} {m:Mo} {hs:List D}
theorem vZ {x:List (Option Slot)} {g:NG} {d:D} (h:(uF n m).lookup g=GS d):bi "Standing" g (a9 0) (GS (.val (bj n m))::x)= .ok d:=dw rfl h
theorem pY (g:m.Ok) (a b:Int):cZ [bj n m, .int a, .int b]= .ok (bj n (m.comes a b)):=by
 refine aM rfl ?_;show cY [GS (.val (bj n m)),GS (.val (.int a)),GS (.val (.int b)),JT]=_;unfold cY;rw[ai (ρ':=[GS (.val (bj n m)),GS (.val (.int a)),GS (.val (.int b)),GS (.val (.int (m.c+1)))]) (aK (ae (vZ (mH n m)) rfl rfl) rfl)];refine bG ((pe (a8 rfl (a8 (ae (vZ (db n m)) (bq (ds:=[aP (m.c+1,a,b)]) (a8 (bq (ds:=[.int (m.c+1), .int a, .int b]) rfl (show 3<=lim by decide)) rfl) (show 1<=lim by decide)) (kJ (by have:=g.len;simp;omega))) (a8 (vZ (dn n m)) (a8 (vZ (f9 n m)) rfl))))).trans ?_);simp only[bj,uF,Mo.comes,Oo,NP,Pm,aP]
theorem vL {x:List (Option Slot)} {g:NG} (h:(uF n m).lookup g=GS (.tup l)):bv (bi "Standing" g (a9 0)) (GS (.val (bj n m))::x)= .ok l:=by
 unfold bv;rw[vZ h,ag]
theorem mU (g:m.Ok) (a:Int):ce [bj n m, .int a]= .ok (bj n (m.goes a)):=by
 refine aM rfl ?_;show cc [GS (.val (bj n m)),GS (.val (.int a)),JT,JT]=_;unfold cc;rw[ai (ρ':=[GS (.val (bj n m)),GS (.val (.int a)),GS (.val (.tup ((m.ss.filter λr=>decide (r.1≠a)).map aP))),JT]) (aK (ax (a8 (nJ (cW (vL (db n m)) (by have:=g.len;simp;unfold lim;omega) (τ:=[JT,JT,GS (.val (.int a))]) rfl (i6 (p:=λr:xn=>decide (r.1≠a)) (out:=aP) m.ss JT (λr _=>aI (ae (ae rfl rfl gK) rfl vK)) (λr _ _=>rfl)))) rfl) rfl) rfl)];rw[ai (ρ':=[GS (.val (bj n m)),GS (.val (.int a)),GS (.val (.tup ((m.ss.filter λr=>decide (r.1≠a)).map aP))),GS (.val (.tup ((m.ms.filter λr=>decide (r≠a)).map .int)))]) (aK (ax (a8 (nJ (cW (vL (dn n m)) (by have:=g.ten;simp;unfold lim;omega) (τ:=[JT,JT,GS (.val (.int a))]) rfl (i6 (p:=λr:Int=>decide (r≠a)) (out:= .int) m.ms JT (λr _=>aI (ae (a:= .int r) rfl rfl vK)) (λr _ _=>rfl)))) rfl) rfl) rfl)];exact bG (pe (a8 (vZ (mH n m)) (a8 rfl (a8 rfl (a8 (vZ (f9 n m)) rfl)))))
def eg (d:D) (row:List Int):Prop:=d= .lst (row.map .int)\/d= .tup (row.map .int)
theorem eg.seq {d:D} {row:List Int} (h:eg d row) {ρ:aa} {f:aa->R D} (e:f ρ= .ok d):bv f ρ= .ok (row.map .int):=by
 unfold bv;rw[e];rcases h with rfl|rfl<;>rfl
theorem eg.len {d:D} {row:List Int} (h:eg d row):aT [d]=GS (.int (row.length:Int)):=by
 rcases h with rfl|rfl
 ·rw[g_,NK]
 ·rw[dF,NK]
theorem eg.set {d:D} {row:List Int} (h:eg d row) (hl:row.length<4000) {ρ:aa} {f:aa->R D} (e:f ρ= .ok d):kh f ρ= .ok (.int (L2.fz row)):=by
 unfold kh;rw[e];rcases h with rfl|rfl<;>simp only[ag,jZ,hl,if_true]
theorem eg.out {d:D} {row:List Int} (h:eg d row) (k:Int):dE true (.int k) d=GS (.bl (!decide (k∈row))):=by
 rcases h with rfl|rfl
 ·exact oG
 ·exact oH
theorem eg.tup {d:D} {row:List Int} (h:eg d row):a_ [d]=GS (.tup (row.map .int)):=by rcases h with rfl|rfl<;>rfl
theorem pZ (g:m.Ok) {d:D} {ns:List Int} (h:eg d ns) (hl:ns.length<=100):d0 [bj n m,d]= .ok (bj n (m.mcome ns)):=by
 refine aM rfl (bG ((pe (a8 (vZ (x:=[GS (.val d)]) (mH n m)) (a8 (vZ (db n m)) (a8 (ae (vZ (dn n m)) (ax (a8 rfl rfl) h.tup) (kJ (by have:=g.ten;simp;omega))) (a8 (vZ (f9 n m)) rfl))))).trans ?_));simp only[bj,uF,Mo.mcome,Oo]
theorem mV (g:m.Ok) {d:D} {ns:List Int} (h:eg d ns):ci [bj n m,d]= .ok (bj n (m.mgo ns)):=by
 refine aM rfl ?_;show cg [GS (.val (bj n m)),GS (.val d),JT]=_;unfold cg;rw[ai (ρ':=[GS (.val (bj n m)),GS (.val d),GS (.val (.tup ((m.ms.filter λr=> !decide (r∈ns)).map .int)))]) (aK (ax (a8 (nJ (cW (vL (dn n m)) (by have:=g.ten;simp;unfold lim;omega) (τ:=[JT,JT,GS (.val d)]) rfl (i6 (p:=λr:Int=> !decide (r∈ns)) (out:= .int) m.ms JT (λr _=>aI (ae (a:= .int r) rfl rfl (h.out r))) (λr _ _=>rfl)))) rfl) rfl) rfl)];exact bG (pe (a8 (vZ (mH n m)) (a8 (vZ (db n m)) (a8 rfl (a8 (vZ (f9 n m)) rfl)))))
theorem tK (g:m.Ok) (ri:List Int) (rd:List Rd):eB [bj n m,cQ n ⟨m.ss,ri,xp rd⟩]= .ok (bj n (m.passes ri rd)):=by
 refine aM rfl (bG ((pe (a8 (vZ (x:=[GS (.val (cQ n ⟨m.ss,ri,xp rd⟩))]) (mH n m)) (a8 (vZ (db n m)) (a8 (vZ (dn n m)) (a8 (ae (vZ (f9 n m)) (bq (ds:=[cQ n ⟨m.ss,ri,xp rd⟩]) (a8 rfl rfl) (show 1<=lim by decide)) (kJ (by have:=g.dl;simp;omega))) rfl))))).trans ?_));simp only[bj,uF,Mo.passes,Oo,NP,Pm]
end
theorem vM:∀(ns Wk:List Int),Wk.Nodup->(ns.foldl Rp Wk).length<=Wk.length+ns.length/\((ns.foldl Rp Wk).length=Wk.length+ns.length<->(Wk++ns).Nodup)
 |[],Wk,h=>⟨by simp,by simpa using h⟩
 |k::ns,Wk,h=>by
  rw[Vq];unfold Rp;by_cases hk:k∈Wk
  ·have e:Wk.any (·==k)=true:=OC.mpr ⟨k,hk,by simp⟩
   rw[if_pos e];obtain⟨h1,_⟩:=vM ns Wk h;refine⟨by rw[O3];exact SD h1,λz=> ?_,λz=> ?_⟩
   ·rw[O3]at z
    have:=h1;unfold Rp at this;omega
   ·exact absurd rfl ((Qo.mp z).2.2 k hk k NZ)
  ·have e:¬Wk.any (·==k)=true:=λz=>by
    obtain⟨x,hx,a6E⟩:=OC.mp z;have:x=k:=by simpa using a6E
    exact hk (this▸hx)
   rw[if_neg e];have hn:(Wk++[k]).Nodup:=Qo.mpr ⟨h,by simp,λa ha b hb=>by
    have:b=k:=by simpa using hb
    subst this;intro z;exact hk (z▸ha)⟩
   obtain⟨h1,h2⟩:=vM ns (Wk++[k]) hn;rw[Oh,Pd]at h1 h2;rw[PH]at h2;rw[O3];unfold Rp at h1 h2;refine⟨by omega,?_⟩;rw[show Wk.length+(ns.length+1)=Wk.length+1+ns.length by omega];exact h2
theorem yG (ns:List Int):(Ov ns.length).map (λi=>ns.getD i 0)=ns:=by
 apply Tc
 ·simp
 ·intro i h1 h2
  simp[h2]
theorem qp (ns:List Int):decide ((L2.fz ns:Int)<(ns.length:Int))= !decide ns.Nodup:=by
 have e:L2.fz ns=(ns.foldl Rp []).length:=by
  unfold L2.fz Vf;rw[yG]
 obtain⟨h1,h2⟩:=vM ns [] U4;rw[PK,T3]at h1 h2;rw[Tu]at h2;rw[e];by_cases h:ns.Nodup
 ·have:=h2.mpr h
  simp[h,this]
 ·have:(ns.foldl Rp []).length≠ns.length:=λz=>h (h2.mp z)
  simp[h];omega
def fq (a b:NG):NG:=if a="" then b else a
def mI (b:Bool) (w:NG):NG:=if b=true then w else ""
def JH (r:R D) (w:NG):Prop:=(w≠""->∃ρ,r= .err w ρ)/\(w=""->r= .ok .non)
def ph (g:aa->R aF) (ρ:aa) (w:NG) (r:R aF):Prop:=(w≠""->∃ρe,g ρ= .err w ρe/\cS 1 ρe=cS 1 ρ)/\(w=""->g ρ=r)
def pi (r:R (D×List Slot)) (s:Slot) (w:NG) (a:D) (s':Slot):Prop:=(w≠""->∃ρ,r= .err w ρ/\cS 1 ρ=GS [s])/\(w=""->r= .ok (a,[s']))
theorem ig {k:Nat} {fs:aa->R (List D)} {ds:List D} {r:R aF} (h:fs ρ= .ok ds) (hl:ds.length=k) (hr:JH (m ds) w) (h2:ph g' ρ w' r):ph (ak (f8 (av m k fs)) g') ρ (fq w w') r:=by
 by_cases e:w=""
 ·have:ak (f8 (av m k fs)) g' ρ=g' ρ:=ai (Gn (aH h hl (hr.2 e)))
  unfold fq ph;rw[if_pos e,this];exact h2
 ·unfold fq
  rw[if_neg e];obtain⟨ρe,e1⟩:=hr.1 e;exact⟨λ_=>⟨ρ,gJ (sE (xo h hl e1)),rfl⟩,λz=>absurd z e⟩
theorem m7 {t:aa->R Bool} {x s:NG} {r:R aF} (h:t ρ= .ok b) (h2:ph g' ρ w' r) (hx:x≠"":=by decide):ph (ak (bL t (bn x (a7 (fC (.str s)) ac)) ay) g') ρ (fq (mI b x) w') r:=by
 cases b with
 |true=>
  have:fq (mI true x) w'=x:=by unfold fq mI;rw[if_pos rfl,if_neg hx]
  rw[this];exact⟨λ_=>⟨ρ,gJ (by rw[eE h];exact jN),rfl⟩,λz=>absurd z hx⟩
 |false=>
  have:fq (mI false x) w'=w':=rfl;have e:ak (bL t (bn x (a7 (fC (.str s)) ac)) ay) g' ρ=g' ρ:=ai (by rw[c7 h];rfl);unfold ph;rw[this,e];exact h2
theorem yH {r:R aF} (h:g ρ= .ok (.nx ρ')) (ht:cS 1 ρ'=cS 1 ρ) (h2:ph g' ρ' w r):ph (ak g g') ρ w r:=by
 unfold ph;rw[ai h,<-ht];exact h2
theorem A2 {d:D} (h:ph g ρ w (.ok (.nx ρ'))) (hf:f ρ'= .ok d):ph (ak g (n4 f)) ρ w (.ok (.retc d ρ')):=
 ⟨λz=>by obtain⟨ρe,e,t⟩:=h.1 z;exact⟨ρe,gJ e,t⟩,λz=>by rw[ai (h.2 z)];exact vI hf⟩
theorem A3 {r:R aF} {L:List Nat} (hf:frz L ρ=ρ') (ht:cS 1 ρ'=cS 1 ρ) (h:ph (ak g g') ρ' w r):ph (ak (nD L g) g') ρ w r:=by
 have:ak (nD L g) g' ρ=ak g g' ρ':=by unfold ak nD;rw[hf]
 unfold ph;rw[this,<-ht];exact h
theorem vN {k:Nat} {ds:List D} (hl:ds.length=k) (h:ph g (eu n [s] ds) w (.ok (.nx ρ'))) (ht:cS 1 ρ'=GS [s']):pi (iy 1 k n g [s] ds) s w .non s':=
 ⟨λz=>by obtain⟨ρe,e,t⟩:=h.1 z;exact⟨ρe,sI ⟨rfl,hl⟩ e,t⟩,λz=>qU ⟨rfl,hl⟩ (h.2 z) ht⟩
theorem mJ {k:Nat} {ds:List D} {d:D} (hl:ds.length=k) (h:ph g (eu n [s] ds) w (.ok (.retc d ρ'))) (ht:cS 1 ρ'=GS [s']):pi (iy 1 k n g [s] ds) s w d s':=
 ⟨λz=>by obtain⟨ρe,e,t⟩:=h.1 z;exact⟨ρe,sI ⟨rfl,hl⟩ e,t⟩,λz=>mG ⟨rfl,hl⟩ (h.2 z) ht⟩
theorem pj {t:aa->R Bool} {x s:NG} (h:t ρ= .ok b) (hx:x≠"":=by decide):ph (bL t (bn x (a7 (fC (.str s)) ac)) ay) ρ (mI b x) (.ok (.nx ρ)):=by
 cases b with
 |true=>exact⟨λ_=>⟨ρ,by rw[eE h];exact jN,rfl⟩,λz=>absurd z hx⟩
 |false=>exact⟨λz=>absurd rfl z,λ_=>by rw[c7 h];rfl⟩
theorem vO {k:Nat} {ds:List D} (hl:ds.length=k) (h:ph g (bN n ds) w (.ok (.nx ρ'))):JH (aG k n g ds) w:=
 ⟨λz=>by obtain⟨ρe,e,_⟩:=h.1 z;exact⟨ρe,E2 hl e⟩,λz=>J8 hl (h.2 z)⟩
theorem JI {α:Type} (l:List α) (p:α->Bool):tu [.lst ((l.filter λ_=>true).map λx=>D.bl (p x))]=GS (.bl (l.any p)):=by
 rw[o5];show (fY (l.map λx=>D.bl (p x))).map (λbs=>D.bl (bs.any id))=_;rw[show l.map (λx=>D.bl (p x))=(l.map p).map .bl by rw[OL];rfl,uA];show GS (D.bl ((l.map p).any id))=_;rw[List.any_map];rfl
theorem Bp {α:Type} {names:List (NG×NameKind)} {rest:aa} {enc:α->D} {l:List α} {p:α->Bool} (h:fi ρ= .ok (l.map enc)) (hl:l.length<=1000) (hr:f6 N names ρ=JT::JT::rest) (he:∀x∈l,fe (JT::GS (.val (enc x))::rest)= .ok (.bl (p x))): dC (aR tu (a7 (fL (aZ N names fi (gN 1) et fe)) ac)) ρ= .ok (l.any p):=
 jq (ax (a8 (nJ (cW h (by rw[NK];unfold lim;omega) hr (i6 (p:=λ_=>true) (out:=λx=> .bl (p x)) l JT (λr _=>rfl) (λr Z5 _=>he r Z5)))) rfl) (JI l p))
def Ho (n a:Int):Bool:=decide (a<0)||decide (a>n)
def Nf (n a b:Int):NG:=fq (mI ([a,b].any (Ho n)) "UnknownPlace") (mI (decide (a=b)) "SamePlace")
theorem yI (n a b:Int):JH (hV [.int n, .tup [.int a, .int b]]) (Nf n a b):=by
 refine vO rfl (m7 (ρ:=[GS (.val (.int n)),GS (.val (.tup [.int a, .int b]))]) (Bp (enc:= .int) (l:=[a,b]) rfl (by simp) (rest:=[JT,GS (.val (.int n))]) rfl λr _=> ?_) (pj (aI (ae (ae rfl rfl JG) (ae rfl rfl MU) i3))));unfold CI;rw[ae (a:= .int r) (b:= .int 0) rfl rfl j5,ag];by_cases h:r<0
 ·simp only[h,decide_true,Ho,VR]
 ·simp only[h,decide_false,Ho,VI]
  exact ae (a:= .int r) (b:= .int n) rfl rfl jy
def qq (nu ns:List Int):NG:=fq (mI (ns.any λx=> !decide (x∈nu)) "UnknownStream") (mI (!decide ns.Nodup) "Twice")
section
variable {n:Int} {m:Mo} {hs:List D}
theorem Hq {names:List (NG×NameKind)} {rest:aa} (g:m.Ok) (h:fi ρ= .ok (m.ss.map aP)) (hr:f6 N names ρ=JT::JT::rest):aZ N names fi (gN 1) et (f2 aA (a9 1) (fC (.int 0))) ρ= .ok (m.nu.map .int):=by
 rw[cW h (by have:=g.len;rw[NK];unfold lim;omega) hr (i6 (p:=λ_=>true) (out:=λr=> .int r.1) m.ss JT (λr _=>rfl) (λr _ _=>ae rfl rfl gK)),o5,OL];rfl
theorem own_of {f:aa->R (List D)} {ds:List D} (h:f ρ= .ok ds):j0 i f ρ= .ok (.nx (ρ.set i (GS (.own (.lst ds))))):=by unfold j0;rw[h,ag]
theorem jd (g:m.Ok) {d:D} {ns:List Int} (h:eg d ns) (hl:ns.length<=100):JH (bV [bj n m,d]) (qq m.nu ns):=by
 refine vO rfl (yH (ρ:=[GS (.val (bj n m)),GS (.val d),JT]) (ρ':=[GS (.val (bj n m)),GS (.val d),GS (.own (.lst (m.nu.map .int)))]) (own_of (Hq g (vL (db n m)) rfl)) rfl (m7 (Bp (enc:= .int) (l:=ns) (h.seq rfl) (by omega) (rest:=[GS (.bor (.lst (m.nu.map .int)))]) rfl λr _=>ae (a:= .int r) (b:= .lst (m.nu.map .int)) rfl rfl oG) (pj (aI (ae (a:= .int (L2.fz ns)) (h.set (by omega) rfl) (ax (a8 rfl rfl) h.len) ?_)))));rw[j5,qp]
def sJ (ms ns:List Int):NG:=mI (ns.any λx=> !decide (x∈ms)) "NotMetered"
theorem nc {d:D} (h:eg d ns) (hl:ns.length<=100):JH (d3 [bj n m,d]) (sJ m.ms ns):=
 vO rfl (pj (ρ:=[GS (.val (bj n m)),GS (.val d)]) (Bp (enc:= .int) (l:=ns) (h.seq rfl) (by omega) (rest:=[GS (.val (bj n m))]) rfl λr _=>ae (a:= .int r) (b:= .tup (m.ms.map .int)) rfl (dw (fds:=uF n m) rfl (dn n m)) oH))
def Go (i:Int):Bool:=decide (i< -1000)||decide (i>1000)
def LZ (ns:List Int):NG:=mI (ns.any Go) "OutOfRange"
theorem qr {d:D} (h:eg d ns) (hl:ns.length<=100):JH (dR [d]) (LZ ns):=
 vO rfl (pj (ρ:=[GS (.val d)]) (Bp (enc:= .int) (l:=ns) (h.seq rfl) (by omega) (rest:=[JT,JT]) rfl λr _=>(ae (a:= .int (if r<0 then -r else r)) (b:= .int 1000) rfl rfl jy).trans (by
  unfold Go
  congr 2
  rw[<-Bool.decide_or];refine decide_eq_decide.mpr ?_;split<;>omega)))
def p_ (hs:List D):NG:=mI (decide ((60:Int)<=(hs.length:Int))) "TooManyDeeds"
theorem Bq {deed after:D}:pi (aW [az n now hs] [deed,after]) (az n now hs) (p_ hs) .non (az n after (hs++[.tup [deed,now]])):=by
 by_cases a1E:(60:Int)<=(hs.length:Int)
 ·have e1:fT (f2 Hh (aR aT (a7 (oQ 0 "Cellar" "history") (ac))) (fC (.int 60))) [GS (az n now hs),GS (.val deed),GS (.val after)]= .ok true:=aI (ae (ax (a8 (vG rfl) rfl) g_) rfl (by rw[wK,decide_eq_true a1E]))
  have w:p_ hs="TooManyDeeds":=by unfold p_ mI;rw[decide_eq_true a1E,if_pos rfl]
  rw[w];exact⟨λ_=>⟨_,sI ⟨rfl,rfl⟩ (ρ:=[GS (az n now hs),GS (.val deed),GS (.val after)]) (gJ (by rw[show eu 2 [az n now hs] [deed,after]=[GS (az n now hs),GS (.val deed),GS (.val after)]from rfl,eE e1];exact jN)),rfl⟩,λz=>absurd z (by decide)⟩
 ·have e1:fT (f2 Hh (aR aT (a7 (oQ 0 "Cellar" "history") (ac))) (fC (.int 60))) [GS (az n now hs),GS (.val deed),GS (.val after)]= .ok false:=aI (ae (ax (a8 (vG rfl) rfl) g_) rfl (by rw[wK,decide_eq_false a1E]))
  have w:p_ hs="":=by unfold p_ mI;rw[decide_eq_false a1E];rfl
  rw[w];refine⟨λz=>absurd rfl z,λ_=>qU ⟨rfl,rfl⟩ (ρ:=[GS (az n after (hs++[.tup [deed,now]])),GS (.val deed),GS (.val after)]) ?_ rfl⟩;show eS [GS (az n now hs),GS (.val deed),GS (.val after)]=_;unfold eS;rw[ai (by rw[c7 e1];rfl)];have e2:oS 0 "Cellar" "history" (bu (a7 (ah 1) (a7 (bT 0 "Cellar" "now") (ac)))) [GS (az n now hs),GS (.val deed),GS (.val after)]= .ok (.nx [GS (az n now (hs++[.tup [deed,now]])),GS (.val deed),GS (.val after)]):=by
   have hf:bu (a7 (ah 1) (a7 (bT 0 "Cellar" "now") (ac))) [GS (az n now hs),GS (.val deed),GS (.val after)]= .ok (.tup [deed,now]):=bq (a8 rfl (a8 (qT (n:=n) (now:=now) (hs:=hs) rfl (sD n now)) rfl)) (show 2<=lim by decide);show (if ("Cellar":NG)="Cellar"/\("history":NG)="history" then (bu (a7 (ah 1) (a7 (bT 0 "Cellar" "now") (ac))) [GS (az n now hs),GS (.val deed),GS (.val after)]>>=λd=>if hs.length<lim then R.ok (aF.nx ([GS (az n now hs),GS (.val deed),GS (.val after)].set 0 (GS (.cel "Cellar" (jM n now) "history" (hs++[d])))))else .bad)else .bad)=_;rw[if_pos ⟨rfl,rfl⟩,hf,ag,if_pos (by unfold lim;omega)]
   rfl
  rw[ai e2];show ((ah 2:aa->R D) [GS (az n now (hs++[.tup [deed,now]])),GS (.val deed),GS (.val after)]>>=λd=>if ("Cellar":NG)="Cellar"/\((jM n now).lookup ("now":NG)).isSome=true/\(jM n now).length<900 then R.ok (aF.nx ([GS (az n now (hs++[.tup [deed,now]])),GS (.val deed),GS (.val after)].set 0 (GS (.cel "Cellar" (B7 "now" d (jM n now)) "history" (hs++[.tup [deed,now]])))))else .bad)=_;rw[show (ah 2:aa->R D) [GS (az n now (hs++[.tup [deed,now]])),GS (.val deed),GS (.val after)]= .ok after from rfl,ag,if_pos ⟨rfl,by rw[sD];rfl,show 2<900 by decide⟩,A1]
  rfl
theorem m8 {deed after:D} {fs:aa->R (List D)} {rest:aa} (h:fs (GS (az n now hs)::rest)= .ok [deed,after]):ph (bH (fU 0 "Cellar" "keep_deed" (bQ [0] aW 2 fs))) (GS (az n now hs)::rest) (p_ hs) (.ok (.nx (GS (az n after (hs++[.tup [deed,now]]))::rest))):=by
 have k:=Bq (n:=n) (hs:=hs) (now:=now) (deed:=deed) (after:=after);refine⟨λz=> ?_,λz=>sH (by rw[sG (n:=n) (now:=now) (hs:=hs) rfl];exact E1 (k:=2) (n:=n) (now:=now) (hs:=hs) rfl h rfl (k.2 z))⟩;obtain⟨ρe,e,t⟩:=k.1 z;exact⟨_,uE (by rw[sG (n:=n) (now:=now) (hs:=hs) rfl];exact vH (k:=2) (n:=n) (now:=now) (hs:=hs) rfl h rfl e t rfl),rfl⟩
theorem qI {rest:aa}:bT 0 "Cellar" "now" (GS (az n (bj n m) hs)::rest)= .ok (bj n m):=qT (n:=n) (now:=bj n m) (hs:=hs) rfl (sD n _)
theorem E3 {rest:aa}:bT 0 "Cellar" "tanks" (GS (az n now hs)::rest)= .ok (.int n):=qT (n:=n) (now:=now) (hs:=hs) rfl (D_ n _)
theorem Lu {rest:aa} {g:NG} {d:D} (h:(uF n m).lookup g=GS d):bi "Standing" g (bT 0 "Cellar" "now") (GS (az n (bj n m) hs)::rest)= .ok d:=dw qI h
def o6 (a b:Int):D:= .tup [.str "stream comes", .int a, .int b]
def E4 (n:Int) (m:Mo) (hs:List D) (a b:Int):NG:=fq (Nf n a b) (fq (mI (decide ((12:Int)<=(m.ss.length:Int))) "TooManyStreams") (p_ hs))
theorem yJ (g:m.Ok) (a b:Int):pi (du [az n (bj n m) hs] [.int a, .int b]) (az n (bj n m) hs) (E4 n m hs a b) (.int (m.c+1)) (az n (bj n (m.comes a b)) (hs++[.tup [o6 a b,bj n m]])):=
 mJ rfl (ig (ρ:=[GS (az n (bj n m) hs),GS (.val (.int a)),GS (.val (.int b))]) (ds:=[.int n, .tup [.int a, .int b]]) (a8 E3 (a8 (bq (ds:=[.int a, .int b]) rfl (show 2<=lim by decide)) rfl)) rfl (yI n a b)
  (m7 (aI (ae (ax (a8 (Lu (db n m)) rfl) dF) rfl (by rw[wK,NK])))
  (A2 (m8 (a8 (bq (ds:=[.str "stream comes", .int a, .int b]) rfl (show 3<=lim by decide)) (a8 (dX (n:=3) (fds:=uF n m) (ds:=[.int a, .int b]) qI rfl rfl (pY g a b) rfl) rfl)))
   (dw (qT (n:=n) (now:=bj n (m.comes a b)) (hs:=hs++[.tup [o6 a b,bj n m]]) rfl (sD n _)) (mH n (m.comes a b)))))) rfl
def sK (a:Int):D:= .tup [.str "stream goes", .int a]
def Hr (m:Mo) (hs:List D) (a:Int):NG:=fq (qq m.nu [a]) (p_ hs)
theorem Br (g:m.Ok) (a:Int):pi (dJ [az n (bj n m) hs] [.int a]) (az n (bj n m) hs) (Hr m hs a) .non (az n (bj n (m.goes a)) (hs++[.tup [sK a,bj n m]])):=
 vN rfl (ig (ρ:=[GS (az n (bj n m) hs),GS (.val (.int a))]) (ds:=[bj n m, .tup [.int a]]) (a8 qI (a8 (bq (ds:=[.int a]) rfl (show 1<=lim by decide)) rfl)) rfl (jd g (ns:=[a]) (.inr rfl) (by simp))
  (m8 (a8 (bq (ds:=[.str "stream goes", .int a]) rfl (show 2<=lim by decide)) (a8 (dX (n:=2) (fds:=uF n m) (ds:=[.int a]) qI rfl rfl (mU g a) rfl) rfl)))) rfl
def vP (ns:List Int):D:= .tup [.str "meters come", .tup (ns.map .int)]
def yK (m:Mo) (hs:List D) (ns:List Int):NG:=fq (qq m.nu ns) (fq (mI (ns.any λx=>decide (x∈m.ms)) "AlreadyMetered") (fq (mI (decide ((m.ms.length:Int)+(ns.length:Int)>10)) "TooManyMeters") (p_ hs)))
def fV (n:Int) (now:D) (hs:List D):List (NG×D):=jM n now++[(("history":NG),D.lst hs)]
theorem sL (g:m.Ok) {d:D} {ns:List Int} (h:eg d ns) (hl:ns.length<=100):pi (bC [az n (bj n m) hs] [d]) (az n (bj n m) hs) (yK m hs ns) .non (az n (bj n (m.mcome ns)) (hs++[.tup [vP ns,bj n m]])):=
 vN rfl (ig (ρ:=[GS (az n (bj n m) hs),GS (.val d)]) (ds:=[bj n m,d]) (a8 qI rfl) rfl (jd g h hl)
  (m7 (b:=ns.any λx=>decide (x∈m.ms)) (Bp (ρ:=[GS (.val (.ins "Cellar" (fV n (bj n m) hs))),GS (.val d)]) (enc:= .int) (l:=ns) (h.seq rfl) (by omega) (rest:=[GS (.val (.ins "Cellar" (fV n (bj n m) hs)))]) rfl λr _=>ae (a:= .int r) (b:= .tup (m.ms.map .int)) rfl (dw (fds:=uF n m) (dw (fds:=fV n (bj n m) hs) rfl rfl) (dn n m)) rQ)
  (m7 (aI (ae (ae (ax (a8 (Lu (dn n m)) rfl) dF) (ax (a8 rfl rfl) h.len) cN) rfl (by rw[jy,NK])))
  (m8 (a8 (bq (ds:=[.str "meters come", .tup (ns.map .int)]) (a8 rfl (a8 (ax (a8 rfl rfl) h.tup) rfl)) (show 2<=lim by decide)) (a8 (dX (n:=2) (fds:=uF n m) (ds:=[d]) qI rfl rfl (pZ g h hl) rfl) rfl)))))) rfl
def Bs (ns:List Int):D:= .tup [.str "meters go", .tup (ns.map .int)]
def JJ (m:Mo) (hs:List D) (ns:List Int):NG:=fq (qq m.nu ns) (fq (sJ m.ms ns) (p_ hs))
theorem xq (g:m.Ok) {d:D} {ns:List Int} (h:eg d ns) (hl:ns.length<=100):pi (bY [az n (bj n m) hs] [d]) (az n (bj n m) hs) (JJ m hs ns) .non (az n (bj n (m.mgo ns)) (hs++[.tup [Bs ns,bj n m]])):=
 vN rfl (ig (ρ:=[GS (az n (bj n m) hs),GS (.val d)]) (ds:=[bj n m,d]) (a8 qI rfl) rfl (jd g h hl)
  (ig (ds:=[bj n m,d]) (a8 qI rfl) rfl (nc h hl)
  (m8 (a8 (bq (ds:=[.str "meters go", .tup (ns.map .int)]) (a8 rfl (a8 (ax (a8 rfl rfl) h.tup) rfl)) (show 2<=lim by decide)) (a8 (dX (n:=2) (fds:=uF n m) (ds:=[d]) qI rfl rfl (mV g h) rfl) rfl))))) rfl
end
theorem sM {α:Type} {f:α->D} {k:α->Int} (hk:∀a,tf (f a)=GS (k a)):∀l:List α,dQ (l.map f)=GS (l.map k)
 |[]=>rfl
 |a::l=>by
  rw[NP,dQ,hk,sM hk l];rfl
theorem Bt {α:Type} {f:α->D} {k:α->Int} (hk:∀a,tf (f a)=GS (k a)) {l:List α} (h:l≠[]):bO (l.map f)=JT:=by
 cases l with
 |nil=>exact absurd rfl h
 |cons a l=>
  have:=hk a;rw[NP];cases e:f a<;>rw[e]at this<;>first|rfl|cases this
theorem vQ {α:Type} {f:α->D} {k:α->Int} (hk:∀a,tf (f a)=GS (k a)) {l m:List α} (p:l.Perm m) (inc:m.Pairwise λa b=>k a<k b) (hl:m.length<64) {d:D} (hd:d= .lst (l.map f)\/d= .tup (l.map f)):fH [d]=GS (.lst (m.map f)):=by
 by_cases h0:l=[]
 ·subst h0
  have:m=[]:=(Vh p).symm;subst this;rcases hd with rfl|rfl<;>rfl
 ·have hn:(l.map k).Nodup:=(p.map k).nodup_iff.mpr (P9.mpr (inc.imp λh=>Int.ne_of_lt h))
  have hs:mZ (l.map f)=m.map f:=wU (p.map f) (by
   rw[P9];refine inc.imp λ{a b} h=> ?_;show (tf (f a)).getD 0<(tf (f b)).getD 0;rw[hk,hk];exact h)
  have Z6:(l.map k).length<64:=by rw[NK,p.length_eq];exact hl
  have hr:=sM hk l;have ha:=Bt hk h0;rcases hd with rfl|rfl
  ·have:iu [.lst (l.map f)]=JT:=by simp[iu,vf,ha]
   simp only[fH,this,oN,hr,SY,hn,Z6,and_self,if_true,hs]
  ·have:iu [.tup (l.map f)]=JT:=by simp[iu,vf,ha]
   simp only[fH,this,oN,hr,SY,hn,Z6,and_self,if_true,hs]
theorem E5 {k:Nat} {fs:aa->R (List D)} {ds:List D} {r:R aF} (h:fs ρ= .ok ds) (hl:ds.length=k) (hr:JH (m ds) w) (h2:w=""->ph g' ρ w' r):ph (ak (f8 (av m k fs)) g') ρ (fq w w') r:=by
 by_cases e:w=""
 ·exact ig h hl hr (h2 e)
 ·unfold fq
  rw[if_neg e];obtain⟨ρe,e1⟩:=hr.1 e;exact⟨λ_=>⟨ρ,gJ (sE (xo h hl e1)),rfl⟩,λz=>absurd z e⟩
theorem pq {d:D} {L:List Nat} {x:NG} (hc:L.all (zO x ρ)=true) (h:f (oV L ρ)= .ok d) (cl:fX x d):hJ x L f ρ= .ok d:=by
 unfold hJ;rw[if_pos hc,h,ag,if_pos cl]
def Bu (d:D) (rd:List Rd):Prop:=d= .lst (rd.map n9)\/d= .tup (rd.map n9)
theorem Bu.seq {d:D} {rd:List Rd} (h:Bu d rd) {ρ:aa} {f:aa->R D} (e:f ρ= .ok d):bv f ρ= .ok (rd.map n9):=by
 unfold bv;rw[e];rcases h with rfl|rfl<;>rfl
theorem Bu.tup {d:D} {rd:List Rd} (h:Bu d rd):a_ [d]=GS (.tup (rd.map n9)):=by rcases h with rfl|rfl<;>rfl
theorem E6 {r:Rd}:aA (n9 r) (.int 0)=GS (.int r.1):=JG
theorem JK {r:Rd}:aA (n9 r) (.int 1)=GS (.int r.2):=MU
theorem qt {α:Type} {names:List (NG×NameKind)} {rest:aa} {enc out:α->D} {l:List α} (h:fi ρ= .ok (l.map enc)) (hl:l.length<=1000) (hr:f6 N names ρ=JT::JT::rest) (he:∀x∈l,fe (JT::GS (.val (enc x))::rest)= .ok (out x)): aZ N names fi (gN 1) et fe ρ= .ok (l.map out):=by
 rw[cW h (by rw[NK];unfold lim;omega) hr (i6 (p:=λ_=>true) (out:=out) l JT (λr _=>rfl) (λr Z5 _=>he r Z5)),o5]
theorem vR {nu:List Int} (h:qq nu ns=""):ns.Nodup/\∀x∈ns,x∈nu:=by
 unfold qq fq mI at h;by_cases a:(ns.any λx=> !decide (x∈nu))=true
 ·rw[if_pos a,if_neg (by decide)]at h;exact absurd h (by decide)
 ·rw[if_neg a,if_pos rfl]at h
  by_cases b:ns.Nodup
  ·refine⟨b,λx hx=> ?_⟩
   by_cases c:x∈nu
   ·exact c
   ·exact absurd (OC.mpr ⟨x,hx,by simp[c]⟩) a
  ·rw[decide_eq_false b]at h;exact absurd h (by decide)
section
variable {n:Int} {m:Mo} {hs:List D}
theorem iW:bc [.ins "Cellar" (fV n (bj n m) hs)]= .ok (.int (m.ds.length:Int)):=
 aM rfl (bG (ax (a8 (dw (fds:=uF n m) (dw (fds:=fV n (bj n m) hs) rfl rfl) (f9 n m)) rfl) (by rw[dF,NK])))
theorem vS (g:m.Ok) {d1 d2:D} {ri:List Int} {rd:List Rd} (h1:eg d1 ri) (h2:Bu d2 rd) (nd:(rd.map (·.1)).Nodup) (hl:rd.length<=60):gp [.int n, .tup (m.ss.map aP),d1,d2]= .ok (pX n ⟨m.ss,ri,xp rd⟩):=by
 have e1:=vQ (f:=aP) (k:=(·.1)) (λa=>rfl) (QN m.ss) g.inc (by have:=g.len;omega) (.inr rfl);have e3:=vQ (f:=n9) (k:=(·.1)) (λa=>rfl) (jO rd) (vJ nd) (by have:=(jO rd).length_eq;omega) h2;have e2:=h1.tup;simp! [gp,mC,jj,bN,r_,oK,e1,e2,e3,NP,Pm,Oa,List.cons_append,Nat.reduceSub,B0,qi,L2.Pu.de,PL,pX]
def qu (ri:List Int) (rd:List Rd):D:= .tup [.str "day passes", .tup (ri.map .int), .tup (rd.map n9)]
def A4 (n:Int) (m:Mo) (hs:List D) (ri:List Int) (rd:List Rd):NG:=fq (mI (!decide ((ri.length:Int)=n)) "WrongRises") (fq (qq m.nu (rd.map (·.1))) (fq (sJ m.ms (rd.map (·.1))) (fq (mI (m.ms.any λx=> !decide (x∈rd.map (·.1))) "ReadingMissing") (fq (LZ ri) (fq (LZ (rd.map (·.2))) (fq (mI (decide ((12:Int)<=(m.ds.length:Int))) "TooManyDays") (p_ hs)))))))
theorem uG (g:m.Ok) {d1 d2:D} {ri:List Int} {rd:List Rd} (h1:eg d1 ri) (h2:Bu d2 rd) (l1:ri.length<=100) (l2:rd.length<=60):pi (bK [az n (bj n m) hs] [d1,d2]) (az n (bj n m) hs) (A4 n m hs ri rd) (.int ((m.ds.length:Int)+1)) (az n (bj n (m.passes ri rd)) (hs++[.tup [qu ri rd,bj n m]])):=by
 let ks:=rd.map (·.1);have hk:∀{x:Option Slot} {N:List NG} {names:List (NG×NameKind)} {ρ:aa},ρ[2]? =GS (GS (.val d2))->f6 N names ρ=[JT,JT]->aZ N names (bv (ah 2)) (gN 1) et (f2 aA (a9 1) (fC (.int 0))) ρ= .ok (ks.map .int):=λ{x N names ρ} e hr=>by
  rw[qt (rest:=[]) (h2.seq (by unfold ah;rw[e])) (by omega) hr (out:=λr=> .int r.1) λr _=>ae rfl rfl E6,OL];rfl
 have hv:∀{N:List NG} {names:List (NG×NameKind)} {ρ:aa},ρ[2]? =GS (GS (.val d2))->f6 N names ρ=[JT,JT]->aZ N names (bv (ah 2)) (gN 1) et (f2 aA (a9 1) (fC (.int 1))) ρ= .ok ((rd.map (·.2)).map .int):=λ{N names ρ} e hr=>by
  rw[qt (rest:=[]) (h2.seq (by unfold ah;rw[e])) (by omega) hr (out:=λr=> .int r.2) λr _=>ae rfl rfl JK,OL];rfl
 have lk:ks.length<=100:=by simp only[ks,NK];omega
 let R (x y:Option Slot):aa:=[GS (az n (bj n m) hs),GS (.val d1),GS (.val d2),x,y];refine mJ rfl (m7 (ρ:=R JT JT) (aI (ae (ax (a8 rfl rfl) h1.len) E3 zF)) (yH (ρ':=R (GS (.own (.lst (ks.map .int)))) JT) (own_of (hk (x:=JT) rfl rfl)) rfl (A3 (ρ':=R (GS (.val (.lst (ks.map .int)))) JT) rfl rfl
  (E5 (ds:=[bj n m, .lst (ks.map .int)]) (a8 qI rfl) rfl (jd g (.inl rfl) lk) λhw=>A3 (ρ':=R (GS (.val (.lst (ks.map .int)))) JT) rfl rfl
  (ig (ds:=[bj n m, .lst (ks.map .int)]) (a8 qI rfl) rfl (nc (.inl rfl) lk)
  (m7 (Bp (enc:= .int) (l:=m.ms) (by unfold bv;rw[Lu (dn n m)];rfl) (by have:=g.ten;omega) (rest:=[GS (.val (.lst (ks.map .int)))]) rfl λr _=>ae (a:= .int r) (b:= .lst (ks.map .int)) rfl rfl oG)
  (ig (ds:=[d1]) rfl rfl (qr h1 l1)
  (ig (ds:=[.lst ((rd.map (·.2)).map .int)]) (a8 (nJ (hv rfl rfl)) rfl) rfl (qr (.inl rfl) (by rw[NK];omega))
  (m7 (aI (ae (ax (a8 (Lu (f9 n m)) rfl) dF) rfl (by rw[wK,NK])))
  (yH (ρ':=R (GS (.val (.lst (ks.map .int)))) (GS (.val (cQ n ⟨m.ss,ri,xp rd⟩)))) (aK (d:=cQ n ⟨m.ss,ri,xp rd⟩) ?_ rfl) rfl
  (A2 (m8 (a8 (bq (ds:=[.str "day passes", .tup (ri.map .int), .tup (rd.map n9)]) (a8 rfl (a8 (ax (a8 rfl rfl) h1.tup) (a8 (ax (a8 rfl rfl) h2.tup) rfl))) (show 3<=lim by decide)) (a8 (dX (n:=2) (fds:=uF n m) (ds:=[cQ n ⟨m.ss,ri,xp rd⟩]) qI rfl rfl (tK g ri rd) rfl) rfl)))
   (pq rfl ((dX (n:=1) (fds:=fV n (bj n (m.passes ri rd)) (hs++[.tup [qu ri rd,bj n m]])) (ds:=[]) rfl rfl rfl iW rfl).trans ?_) (.int _))))))))))))) rfl
 ·unfold jB
  rw[a8 (ds:=[.tup (m.ss.map aP),d1,d2]) E3 (a8 (Lu (db n m)) rfl),ag,if_pos (show [D.int n, .tup (m.ss.map aP),d1,d2].length=4 from rfl),vS g h1 h2 (vR hw).1 l2]
  rfl
 ·simp only[Mo.passes,Oh,O3,PK]
  rfl
theorem Bv {d st:D}:d4 [az n now (hs++[.tup [d,st]])] []= .ok (d,[az n st hs]):=by
 have Wa:((hs++[D.tup [d,st]]).length:Int)≠0:=by simp;omega
 refine mG ⟨rfl,rfl⟩ (ρ:=[GS (az n st hs),GS (.val (.tup [d,st]))]) ?_ rfl;show eX [GS (az n now (hs++[.tup [d,st]])),JT]=_;unfold eX;rw[ai (ρ':=[GS (az n now (hs++[.tup [d,st]])),JT]) (by rw[c7 (aI (ae (ax (a8 (vG rfl) rfl) g_) rfl (by rw[i3,decide_eq_false Wa])))];rfl)];rw[ai (ρ':=[GS (az n now hs),GS (.val (.tup [d,st]))]) (by
  show (if ("Cellar":NG)="Cellar"/\("history":NG)="history" then (match (hs++[D.tup [d,st]])[(hs++[D.tup [d,st]]).length - 1]? with
   |some d'=>R.ok (aF.nx ((([GS (az n now (hs++[D.tup [d,st]])),JT]:aa).set 0 (GS (.cel "Cellar" (jM n now) "history" (hs++[D.tup [d,st]]).dropLast))).set 1 (GS (.val d'))))
   |none=> .bad)else .bad)=_
  rw[if_pos ⟨rfl,rfl⟩,Um,show (hs++[D.tup [d,st]])[(hs++[D.tup [d,st]]).length - 1]? =GS (D.tup [d,st]) by simp]
  rfl)]
 rw[ai (ρ':=[GS (az n st hs),GS (.val (.tup [d,st]))]) (by
  show (f2 aA (a9 1) (fC (.int 1)) [GS (az n now hs),GS (.val (.tup [d,st]))]>>=λd'=>if ("Cellar":NG)="Cellar"/\((jM n now).lookup ("now":NG)).isSome=true/\(jM n now).length<900 then R.ok (aF.nx ([GS (az n now hs),GS (.val (.tup [d,st]))].set 0 (GS (.cel "Cellar" (B7 "now" d' (jM n now)) "history" hs))))else .bad)=_;rw[ae rfl rfl MU,ag,if_pos ⟨rfl,by rw[sD];rfl,show 2<900 by decide⟩,A1]
  rfl)]
 exact vI (ae rfl rfl JG)
def yL (ms:List Int) (r:xn):D:= .tup [.int r.1, .int r.2.1, .int r.2.2, .bl (decide (r.1∈ms))]
theorem xr (g:m.Ok):eN [.ins "Cellar" (fV n (bj n m) hs)]= .ok (.tup (m.ss.map (yL m.ms))):=by
 refine aM rfl ?_;show hX [GS (.val (.ins "Cellar" (fV n (bj n m) hs))),JT]=_;unfold hX;have nw:∀{x:Option Slot},bi "Cellar" "now" (a9 0) [GS (.val (.ins "Cellar" (fV n (bj n m) hs))),x]= .ok (bj n m):=λ{x}=>dw (fds:=fV n (bj n m) hs) rfl rfl;rw[ai (ρ':=[GS (.val (.ins "Cellar" (fV n (bj n m) hs))),GS (.val (.tup (m.ms.map .int)))]) (aK (dw nw (dn n m)) rfl)];refine bG (ax (a8 (nJ (qt (enc:=aP) (l:=m.ss) (by unfold bv;rw[dw nw (db n m)];rfl) (by have:=g.len;omega) (rest:=[GS (.val (.tup (m.ms.map .int)))]) rfl λr _=>ae (a:=aP r) (b:= .tup [.bl (decide (r.1∈m.ms))]) rfl (bq (ds:=[.bl (decide (r.1∈m.ms))]) (a8 (ae (ae rfl rfl gK) rfl rQ) rfl) (show 1<=lim by decide)) (kJ (by simp[aP])))) rfl) rfl)
theorem xt {k:Nat} (h:k<m.ds.length):cw [.ins "Cellar" (fV n (bj n m) hs), .int ((k:Int)+1)]= .ok (cQ n m.ds[k]):=by
 refine aM rfl ?_;show ko [GS (.val (.ins "Cellar" (fV n (bj n m) hs))),GS (.val (.int ((k:Int)+1)))]=_;unfold ko;have t1:fT (f2 nG (a9 1) (fC (.int 1))) [GS (.val (.ins "Cellar" (fV n (bj n m) hs))),GS (.val (.int ((k:Int)+1)))]= .ok false:=aI (ae (a:= .int ((k:Int)+1)) (b:= .int 1) rfl rfl (by rw[j5,decide_eq_false (by omega)]));have t2:fT (f2 nH (a9 1) (bx "Cellar" "days_gone" 1 bc (ah 0) ac)) [GS (.val (.ins "Cellar" (fV n (bj n m) hs))),GS (.val (.int ((k:Int)+1)))]= .ok false:=aI (ae (a:= .int ((k:Int)+1)) rfl (dX (n:=1) (fds:=fV n (bj n m) hs) (ds:=[]) rfl rfl rfl iW rfl) (by rw[jy,decide_eq_false (by omega)]));rw[ai (by rw[c7 (by unfold rJ;rw[t1,ag,if_neg (by simp),t2])];rfl)];refine bG (ae (dw (fds:=uF n m) (dw (fds:=fV n (bj n m) hs) rfl rfl) (f9 n m)) (ae (a:= .int ((k:Int)+1)) (b:= .int 1) rfl rfl pI) ?_);rw[rP,show (k:Int)+1 - 1=(k:Int) by omega,hG (by simpa using h)];simp
end
def l8 (n:Int) (d:yF):D:= .tup [.int n, .tup (d.ss.map aP), .tup (d.ri.map .int), .tup (d.rd.map n9)]
def bE (n:Int) (m:Mo):D:= .tup [.int n, .int (m.c+1), .tup (m.ss.map aP), .tup (m.mm.map .int), .tup (m.ds.map (l8 n)), .tup m.dd]
theorem fW {d:D} (k:Nat) (h:l[k]? =GS d):aA (.tup l) (.int (k:Int))=GS d:=by rw[rP];exact uS h
theorem tL {d:D} (k:Nat) (h:l[k]? =GS d):aA (.lst l) (.int (k:Int))=GS d:=by rw[wL];exact uS h
section
variable {n:Int} {m:Mo} {hs:List D}
theorem JL:aA (bE n m) (.int 0)=GS (.int n):=fW 0 rfl
theorem Lv:aA (bE n m) (.int 2)=GS (.tup (m.ss.map aP)):=fW 2 rfl
theorem Lw:aA (bE n m) (.int 3)=GS (.tup (m.mm.map .int)):=fW 3 rfl
theorem J_:aA (bE n m) (.int 4)=GS (.tup (m.ds.map (l8 n))):=fW 4 rfl
theorem NA:aA (bE n m) (.int 5)=GS (.tup m.dd):=fW 5 rfl
theorem Mo.Ok.mem (g:m.Ok) (x:Int):decide (x∈m.mm)=decide (x∈m.ms):=decide_eq_decide.mpr g.per.mem_iff
def K0 (g:aa->R aF) (ρ:aa) (w:NG):Prop:=g ρ= .ok (.ret (.str w))
theorem yM {t:aa->R Bool} {x:NG} (h:t ρ= .ok b) (h2:K0 g' ρ w') (hx:x≠"":=by decide):K0 (ak (bL t (b6 (fC (.str x))) ay) g') ρ (fq (mI b x) w'):=by
 cases b with
 |true=>
  have:fq (mI true x) w'=x:=by unfold fq mI;rw[if_pos rfl,if_neg hx]
  unfold K0;rw[this];exact fF (by rw[eE h];rfl)
 |false=>exact(ai (by rw[c7 h];rfl)).trans h2
theorem Gp:K0 (b6 (fC (.str ""))) ρ "":=rfl
theorem JM (h:g ρ= .ok (.nx ρ')) (h2:K0 g' ρ' w):K0 (ak g g') ρ w:=(ai h).trans h2
theorem Lx (a b c:NG):fq (fq a b) c=fq a (fq b c):=by
 unfold fq;by_cases h:a=""
 ·simp[h]
 ·simp[h]
theorem sN {α:Type} (p:α->Bool):∀l:List α,(!(l.filter p).isEmpty)=l.any p
 |[]=>rfl
 |a::l=>by
  rw[Px,Tf];cases q:p a with
  |true=>rfl
  |false=>exact sN p l
theorem neC {α:Type} {names:List (NG×NameKind)} {rest:aa} {enc:α->D} {l:List α} {p:α->Bool} (h:fi ρ= .ok (l.map enc)) (hl:l.length<=1000) (hr:f6 N names ρ=JT::JT::rest) (ht:∀x∈l,gt (JT::GS (.val (enc x))::rest)= .ok (p x)): fT (f2 tw (fL (aZ N names fi (gN 1) gt (ah 1))) (eI ac)) ρ= .ok (l.any p):=by
 refine aI (ae (nJ (cW h (by rw[NK];unfold lim;omega) hr (i6 (p:=p) (out:=enc) l JT (λr Z5=>ht r Z5) (λr _ _=>rfl)))) rfl ?_);show GS (D.bl (!((l.filter p).map enc).isEmpty))=_
 congr 2
 rw[RE];rw[sN]
theorem Hs {x y:NG}:v9 (.str x) (.str y)=GS (.bl (!decide (x=y))):=rfl
theorem Gq {fk:aa->R D} {d:D} {k:Int} (h:eg d ns) (ho:fo ρ= .ok d) (hk:fk ρ= .ok (.int k)):x6 fo fk ρ= .ok (.int (ns.count k)):=by
 unfold x6;rw[ho,ag];rcases h with rfl|rfl
 ·dsimp only
  rw[hk,ag,jZ]
 ·dsimp only
  rw[hk,ag,jZ]
theorem Gr (ns:List Int):(ns.any λx=>decide ((ns.count x:Int)>1))= !decide ns.Nodup:=by
 by_cases h:ns.Nodup
 ·rw[decide_eq_true h,Su,Rx]
  intro z;obtain⟨x,_,hx⟩:=OC.mp z;have:=Uo.mp h x;have:=of_decide_eq_true hx;omega
 ·rw[decide_eq_false h,Ro]
  refine OC.mpr ?_;by_cases z:∃x∈ns,decide ((ns.count x:Int)>1)=true
  ·exact z
  ·refine absurd (Uo.mpr λa=> ?_) h
   by_cases ha:a∈ns
   ·have:¬((ns.count a:Int)>1):=λq=>z ⟨a,ha,decide_eq_true q⟩
    omega
   ·rw[List.count_eq_zero_of_not_mem ha];omega
theorem MX {x:List (Option Slot)} {k:Int} (h:aA (bE n m) (.int k)=GS (.tup l)):bv (f2 aA (a9 0) (fC (.int k))) (GS (.val (bE n m))::x)= .ok l:=by
 unfold bv;rw[ae (a:=bE n m) rfl rfl h,ag]
end
section
variable {n:Int} {m:Mo} {hs:List D}
inductive aN where
 |comes (a b:Int)|goes (a:Int)|mcome (ns:List Int)|mgo (ns:List Int)|pass (ri:List Int) (rd:List Rd)|back
def aN.dt:aN->L2.Pu.D
 | .comes a b=>o6 a b
 | .goes a=>sK a
 | .mcome ns=>vP ns
 | .mgo ns=>Bs ns
 | .pass ri rd=>qu ri rd
 | .back=> .tup [.str "take back"]
def aN.Fit:aN->Prop
 | .mcome ns=>ns.length<=40
 | .mgo ns=>ns.length<=40
 | .pass ri rd=>ri.length<=100/\rd.length<=60
 |_=>True
def aN.W (n:Int) (m:Mo) (hs:List L2.Pu.D):aN->NG
 | .comes a b=>E4 n m hs a b
 | .goes a=>Hr m hs a
 | .mcome ns=>yK m hs ns
 | .mgo ns=>JJ m hs ns
 | .pass ri rd=>A4 n m hs ri rd
 | .back=>mI (decide (hs.length=0)) "NothingDone"
def aN.next (m:Mo):aN->Mo
 | .comes a b=>m.comes a b
 | .goes a=>m.goes a
 | .mcome ns=>m.mcome ns
 | .mgo ns=>m.mgo ns
 | .pass ri rd=>m.passes ri rd
 | .back=>m
end
section
variable {n:Int} {m:Mo} {hs:List D}
theorem ng {s x:NG} (h:ρ[i]? =GS (GS (.val (.tup (.str s::l))))) (e:s=x):fT (f2 dD (f2 aA (a9 i) (fC (.int 0))) (fC (.str x))) ρ= .ok true:=aI (ae (ae (a:= .tup (.str s::l)) (by unfold a9;rw[h];rfl) rfl JG) rfl (by rw[zY,decide_eq_true e]))
theorem cT {s x:NG} (h:ρ[i]? =GS (GS (.val (.tup (.str s::l))))) (e:s≠x):fT (f2 dD (f2 aA (a9 i) (fC (.int 0))) (fC (.str x))) ρ= .ok false:=aI (ae (ae (a:= .tup (.str s::l)) (by unfold a9;rw[h];rfl) rfl JG) rfl (by rw[zY,decide_eq_false e]))
theorem E7:D5 [.bl b]=GS (.int (if b=true then 1 else 0)):=rfl
def dz (n:Int) (tr:List Mo) (m:Mo):List D:=(tr++[m]).map (bE n)
theorem jP {tr:List Mo}:aA (.lst (dz n tr m)) (.int (-1))=GS (bE n m):=by
 rw[wL];unfold dz;rw[Oo];exact wk _ _
theorem sO {tr:List Mo}:(dz n tr m).length=tr.length+1:=by unfold dz;simp
theorem xu (g:m.Ok) (d:aN) (hf:d.Fit) (hd:m.dd.length<=100) (hp:∀ri rd,d= .pass ri rd->(rd.map (·.1)).Nodup) (hb:d≠ .back):dS [bE n m,d.dt]= .ok (bE n (d.next m)):=by
 let R (a b c e f:D):aa:=[GS (.val (bE n m)),GS (.val d.dt),GS (.val (.int n)),GS (.val a),GS (.val b),GS (.val c),GS (.val e),GS (.val f)];let S:=D.tup (m.ss.map aP);let Q:=D.tup (m.mm.map .int);let Y:=D.tup (m.ds.map (l8 n));let Z:=D.tup (m.dd++[d.dt]);have a43:m.mm.length<=10:=by rw[g.per.length_eq];exact g.ten
 refine aM rfl ?_;show kt [GS (.val (bE n m)),GS (.val d.dt),JT,JT,JT,JT,JT,JT]=_;unfold kt;rw[ai (ρ':=R (.int (m.c+1)) S Q Y (.tup m.dd)) rfl,ai (ρ':=R (.int (m.c+1)) S Q Y Z) (aK (ae (a:= .tup m.dd) (b:= .tup [d.dt]) rfl rfl (kJ (by simp;omega))) rfl)];have Wz:∀{a b c e f:D},b6 (bu (a7 (ah 2) (a7 (ah 3) (a7 (ah 4) (a7 (ah 5) (a7 (ah 6) (a7 (ah 7) (ac)))))))) (R a b c e f)= .ok (.ret (.tup [.int n,a,b,c,e,f])):=λ{a b c e f}=>bG (bq (ds:=[.int n,a,b,c,e,f]) rfl (show 6<=lim by decide));cases d with
 |back=>exact absurd rfl hb
 |comes a b=>
  rw[ai (ρ':=R (.int (m.c+1+1)) (.tup (m.ss.map aP++[aP (m.c+1,a,b)])) Q Y Z) (by
   rw[eE (ng rfl rfl),ai (ρ':=R (.int (m.c+1)) (.tup (m.ss.map aP++[aP (m.c+1,a,b)])) Q Y Z) (aK (ae (a:=S) (b:= .tup [aP (m.c+1,a,b)]) rfl (bq (ds:=[aP (m.c+1,a,b)]) (a8 (bq (ds:=[.int (m.c+1), .int a, .int b]) (a8 rfl (a8 (ae (a:=o6 a b) rfl rfl (fW 1 rfl)) (a8 (ae (a:=o6 a b) rfl rfl (fW 2 rfl)) rfl))) (show 3<=lim by decide)) rfl) (show 1<=lim by decide)) (kJ (by have:=g.len;simp;omega))) rfl)]
   rfl),Wz]
  simp only[bE,aN.next,Mo.comes,Oo,NP,Pm]
  rfl
 |goes a=>
  have h1:∀{b c:D},f2 aA (a9 2) (fC (.int 1)) [JT,GS (.val b),GS (.val (sK a))]= .ok (.int a):=λ{b c}=>ae (a:=sK a) rfl rfl (fW 1 rfl);rw[ai (ρ':=R (.int (m.c+1)) (.tup ((m.ss.filter λr=>decide (r.1≠a)).map aP)) (.tup ((m.mm.filter λx=>decide (x≠a)).map .int)) Y Z) (by
   rw[c7 (cT rfl (by decide)),eE (ng rfl rfl),ai (ρ':=R (.int (m.c+1)) (.tup ((m.ss.filter λr=>decide (r.1≠a)).map aP)) Q Y Z) (aK (ax (a8 (nJ (cW (ds:=m.ss.map aP) rfl (by have:=g.len;rw[NK];unfold lim;omega) (τ:=[JT,JT,GS (.val (sK a))]) rfl (i6 (p:=λr:xn=>decide (r.1≠a)) (out:=aP) m.ss JT (λr _=>aI (ae (ae rfl rfl gK) (h1 (c:= .non)) vK)) (λr _ _=>rfl)))) rfl) rfl) rfl)];exact aK (ax (a8 (nJ (cW (ds:=m.mm.map .int) rfl (by rw[NK];unfold lim;omega) (τ:=[JT,JT,GS (.val (sK a))]) rfl (i6 (p:=λr:Int=>decide (r≠a)) (out:= .int) m.mm JT (λr _=>aI (ae (a:= .int r) rfl (h1 (c:= .non)) vK)) (λr _ _=>rfl)))) rfl) rfl) rfl),Wz]
  rfl
 |mcome ns=>
  have hn:ns.length<=40:=hf;rw[ai (ρ':=R (.int (m.c+1)) S (.tup ((bS (m.mm++ns)).map .int)) Y Z) (by
   rw[c7 (cT rfl (by decide)),c7 (cT rfl (by decide)),eE (ng rfl rfl)];refine aK (ax (a8 (ax (a8 (ae (a:=Q) (b:= .tup (ns.map .int)) rfl (ae (a:=vP ns) rfl rfl (fW 1 rfl)) (kJ (by simp;omega))) rfl) (d:= .lst ((bS (m.mm++ns)).map .int)) ?_) rfl) rfl) rfl;rw[<-Oo];show ((bO ((m.mm++ns).map D.int)).bind λns=>if ns.length<64 then GS (D.lst ((bS ns).map .int))else JT)=_;rw[jZ];exact if_pos (by rw[Oh];omega)),Wz]
  rfl
 |mgo ns=>
  have h1:∀{b:D},f2 aA (a9 2) (fC (.int 1)) [JT,GS (.val b),GS (.val (Bs ns))]= .ok (.tup (ns.map .int)):=λ{b}=>ae (a:=Bs ns) rfl rfl (fW 1 rfl);rw[ai (ρ':=R (.int (m.c+1)) S (.tup ((m.mm.filter λx=> !decide (x∈ns)).map .int)) Y Z) (by
   rw[c7 (cT rfl (by decide)),c7 (cT rfl (by decide)),c7 (cT rfl (by decide)),eE (ng rfl rfl)];exact aK (ax (a8 (nJ (cW (ds:=m.mm.map .int) rfl (by rw[NK];unfold lim;omega) (τ:=[JT,JT,GS (.val (Bs ns))]) rfl (i6 (p:=λr:Int=> !decide (r∈ns)) (out:= .int) m.mm JT (λr _=>aI (ae (a:= .int r) rfl h1 oH)) (λr _ _=>rfl)))) rfl) rfl) rfl),Wz]
  rfl
 |pass ri rd=>
  have nd:=hp ri rd rfl;have e3:=vQ (f:=n9) (k:=(·.1)) (λa=>rfl) (jO rd) (vJ nd) (by have:=(jO rd).length_eq;have:=hf.2;omega) (.inr rfl);rw[ai (ρ':=R (.int (m.c+1)) S Q (.tup (m.ds.map (l8 n)++[l8 n ⟨m.ss,ri,xp rd⟩])) Z) (by
   rw[c7 (cT rfl (by decide)),c7 (cT rfl (by decide)),c7 (cT rfl (by decide)),c7 (cT rfl (by decide))];exact aK (ae (a:=Y) (b:= .tup [l8 n ⟨m.ss,ri,xp rd⟩]) rfl (bq (ds:=[l8 n ⟨m.ss,ri,xp rd⟩]) (a8 (bq (ds:=[.int n,S, .tup (ri.map .int), .tup ((xp rd).map n9)]) (a8 rfl (a8 rfl (a8 (ae (a:=qu ri rd) rfl rfl (fW 1 rfl)) (a8 (ax (a8 (ax (a8 (ae (a:=qu ri rd) rfl rfl (fW 2 rfl)) rfl) e3) rfl) rfl) rfl)))) (show 4<=lim by decide)) rfl) (show 1<=lim by decide)) (kJ (by have:=g.dl;simp;omega))) rfl),Wz]
  simp only[bE,aN.next,Mo.passes,Oo,NP,Pm]
  rfl
def aN.ans (m:Mo):aN->L2.Pu.D
 | .comes _ _=> .int (m.c+1)
 | .pass _ _=> .int ((m.ds.length:Int)+1)
 |_=> .non
end
theorem aJ {a b:NG} (h:fq a b=""):a=""/\b="":=by
 unfold fq at h;split at h
 ·exact⟨by assumption,h⟩
 ·exact absurd h (by assumption)
theorem gL {x:NG} (h:mI b x="") (hx:x≠"":=by decide):b=false:=by
 cases b
 ·rfl
 ·exact absurd h hx
section
variable {n:Int} {m:Mo} {hs:List D}
theorem m9 (h:p_ hs=""):hs.length<60:=by
 have:=of_decide_eq_false (gL h);omega
theorem aN.lt60 (d:aN) (hb:d≠ .back) (h:d.W n m hs=""):hs.length<60:=by
 cases d with
 |comes a b=>exact m9 (aJ (aJ h).2).2
 |goes a=>exact m9 (aJ h).2
 |mcome ns=>exact m9 (aJ (aJ (aJ h).2).2).2
 |mgo ns=>exact m9 (aJ (aJ h).2).2
 |pass ri rd=>exact m9 (aJ (aJ (aJ (aJ (aJ (aJ (aJ h).2).2).2).2).2).2).2
 |back=>exact absurd rfl hb
theorem aN.nodup (ri:List Int) (rd:List Rd) (h:(aN.pass ri rd).W n m hs=""):(rd.map (·.1)).Nodup:=(vR (aJ (aJ h).2).1).1
theorem aN.ok (d:aN) (g:m.Ok) (h:d.W n m hs=""):(d.next m).Ok:=by
 cases d with
 |back=>exact g
 |comes a b=>
  have a4O:m.ss.length<12:=by
   have:=of_decide_eq_false (gL (aJ (aJ h).2).1);omega
  exact⟨List.pairwise_append.mpr ⟨g.inc,by simp,λr hr r' Z5=>by rw[N_.mp Z5];have:=g.le r hr;show r.1<m.c+1;omega⟩,λr hr=>by
    show r.1<=m.c+1;rcases OF.mp hr with hr|hr
    ·have:=g.le r hr;omega
    ·rw[N_.mp hr];exact Int.le_refl _,by show (m.ss++_).length<=12;rw[Oh,Pd];omega,g.per,g.nd,λx hx=>by
    show x∈(m.ss++_).map (·.1);rw[Oo];exact O_ _ (g.sub x hx),g.ten,g.dl⟩
 |goes a=>
  exact⟨g.inc.filter _,λr hr=>g.le r (OM.mp hr).1,Ou (Pt _ _) g.len,g.per.filter _,g.nd.filter _,λx hx=>by
    obtain⟨h1,h2⟩:=OM.mp hx;obtain⟨r,hr,rfl⟩:=Oz.mp (g.sub x h1);exact Oz.mpr ⟨r,OM.mpr ⟨hr,h2⟩,rfl⟩,Ou (Pt _ _) g.ten,g.dl⟩
 |mcome ns=>
  obtain⟨w1,w2⟩:=aJ h;obtain⟨w3,w4⟩:=aJ w2;obtain⟨nd,sb⟩:=vR w1;have dj:=gL w3;have tn:=of_decide_eq_false (gL (aJ w4).1);exact⟨g.inc,g.le,g.len,(il _).trans (g.per.append_right ns),Qo.mpr ⟨g.nd,nd,λx hx y hy e=>by
    subst e;exact absurd (OC.mpr ⟨x,hy,decide_eq_true hx⟩) (by rw[dj];simp)⟩,λx hx=>by
    rcases OF.mp hx with hx|hx
    ·exact g.sub x hx
    ·exact sb x hx,by show (m.ms++ns).length<=10;rw[Oh];omega,g.dl⟩
 |mgo ns=>exact⟨g.inc,g.le,g.len,g.per.filter _,g.nd.filter _,λx hx=>g.sub x (OM.mp hx).1,Ou (Pt _ _) g.ten,g.dl⟩
 |pass ri rd=>
  have hd:=of_decide_eq_false (gL (aJ (aJ (aJ (aJ (aJ (aJ (aJ h).2).2).2).2).2).2).1);exact⟨g.inc,g.le,g.len,g.per,g.nd,g.sub,g.ten,by show (m.ds++_).length<=12;rw[Oh,Pd];omega⟩
theorem aN.dd (d:aN) (hb:d≠ .back):(d.next m).dd=m.dd++[d.dt]:=by
 cases d with
 |back=>exact absurd rfl hb
 |_=>rfl
theorem Gs {d:D} (h:fx ρ= .ok (d,ρ')):jC fx ρ= .ok (.retc d ρ'):=by unfold jC;rw[h,ag]
theorem E8 {x:NG} (h:fx ρ= .err x ρ'):jC fx ρ= .err x ρ':=by unfold jC;rw[h];rfl
theorem jQ {mt:NG} {k:Nat} {fs:aa->R (List D)} {rest:aa} {ds:List D} {Yw a:D} (h:fs (GS (az n now hs)::rest)= .ok ds) (hl:ds.length=k) (d:pi (mf [az n now hs] ds) (az n now hs) w a (az n Yw Wd)) (hm:mt≠"history":=by decide) (h2:(jM n now).lookup mt=JT:=by rfl): ph (jC (fU 0 "Cellar" mt (bQ [0] mf k fs))) (GS (az n now hs)::rest) w (.ok (.retc a (GS (az n Yw Wd)::rest))):=by
 refine⟨λz=> ?_,λz=>Gs (by rw[sG (n:=n) (now:=now) (hs:=hs) rfl hm h2];exact E1 (n:=n) (now:=now) (hs:=hs) rfl h hl (d.2 z))⟩;obtain⟨ρe,e,t⟩:=d.1 z;exact⟨_,E8 (by rw[sG (n:=n) (now:=now) (hs:=hs) rfl hm h2];exact vH (n:=n) (now:=now) (hs:=hs) rfl h hl e t rfl),rfl⟩
theorem xv {t:aa->R Bool} {a:D} (h:t ρ= .ok true) (h2:ph g ρ w (.ok (.retc a ρ'))):ph (ak (bL t g ay) g') ρ w (.ok (.retc a ρ')):=
 ⟨λz=>by obtain⟨ρe,e,k⟩:=h2.1 z;exact⟨ρe,gJ (by rw[eE h];exact e),k⟩,λz=>E0 (by rw[eE h];exact h2.2 z)⟩
theorem iX {t:aa->R Bool} {r:R aF} (h:t ρ= .ok false) (h2:ph g' ρ w r):ph (ak (bL t g ay) g') ρ w r:=by
 have:ak (bL t g ay) g' ρ=g' ρ:=ai (by rw[c7 h];rfl);unfold ph;rw[this];exact h2
theorem Gu (g:m.Ok) (d:aN) (hb:d≠ .back) (hf:d.Fit):pi (jE [az n (bj n m) hs] [d.dt]) (az n (bj n m) hs) (d.W n m hs) (d.ans m) (az n (bj n (d.next m)) (hs++[.tup [d.dt,bj n m]])):=by
 refine mJ rfl (ρ':=[GS (az n (bj n (d.next m)) (hs++[.tup [d.dt,bj n m]])),GS (.val d.dt)]) ?_ rfl;show ph lG [GS (az n (bj n m) hs),GS (.val d.dt)] _ _;unfold lG;cases d with
 |back=>exact absurd rfl hb
 |comes a b=>exact xv (ng rfl rfl) (jQ (a8 (ae (a:=o6 a b) rfl rfl (fW 1 rfl)) (a8 (ae (a:=o6 a b) rfl rfl (fW 2 rfl)) rfl)) rfl (yJ g a b))
 |goes a=>exact iX (cT rfl (by decide)) (xv (ng rfl rfl) (jQ (a8 (ae (a:=sK a) rfl rfl (fW 1 rfl)) rfl) rfl (Br g a)))
 |mcome ns=>exact iX (cT rfl (by decide)) (iX (cT rfl (by decide)) (xv (ng rfl rfl) (jQ (a8 (ax (a8 (ae (a:=vP ns) rfl rfl (fW 1 rfl)) rfl) rfl) rfl) rfl (sL g (.inl rfl) (by have:ns.length<=40:=hf;omega)))))
 |mgo ns=>exact iX (cT rfl (by decide)) (iX (cT rfl (by decide)) (iX (cT rfl (by decide)) (xv (ng rfl rfl) (jQ (a8 (ax (a8 (ae (a:=Bs ns) rfl rfl (fW 1 rfl)) rfl) rfl) rfl) rfl (xq g (.inl rfl) (by have:ns.length<=40:=hf;omega))))))
 |pass ri rd=>exact iX (cT rfl (by decide)) (iX (cT rfl (by decide)) (iX (cT rfl (by decide)) (iX (cT rfl (by decide)) (xv (ng rfl rfl) (jQ (a8 (ax (a8 (ae (a:=qu ri rd) rfl rfl (fW 1 rfl)) rfl) rfl) (a8 (ax (a8 (ae (a:=qu ri rd) rfl rfl (fW 2 rfl)) rfl) rfl) rfl)) rfl (uG g (.inl rfl) (.inl rfl) hf.1 hf.2))))))
theorem Gv {a Yw:D} (h:pi (d4 [az n now hs] []) (az n now hs) w a (az n Yw Wd)):pi (jE [az n now hs] [aN.back.dt]) (az n now hs) w a (az n Yw Wd):=by
 refine mJ rfl (ρ':=[GS (az n Yw Wd),GS (.val aN.back.dt)]) ?_ rfl;show ph lG [GS (az n now hs),GS (.val aN.back.dt)] _ _;unfold lG;exact iX (cT rfl (by decide)) (iX (cT rfl (by decide)) (iX (cT rfl (by decide)) (iX (cT rfl (by decide)) (iX (cT rfl (by decide)) (jQ rfl rfl h)))))
end
structure E9 (n:Int) (d:yF):Prop where
 inc:d.ss.Pairwise λa b=>a.1<b.1
 row:∀r∈d.ss,(0<=r.2.1/\r.2.1<=n)/\(0<=r.2.2/\r.2.2<=n)/\r.2.1≠r.2.2
 len:d.ss.length<=12
 ril:(d.ri.length:Int)=n
 rl:d.ri.length<=100
 rinc:d.rd.Pairwise λa b=>a.1<b.1
 sub:∀r∈d.rd,r.1∈d.ss.map (·.1)
 ten:d.rd.length<=10
structure Mo.Rg (n:Int) (m:Mo):Prop where
 row:∀r∈m.ss,(0<=r.2.1/\r.2.1<=n)/\(0<=r.2.2/\r.2.2<=n)/\r.2.1≠r.2.2
 day:∀d∈m.ds,E9 n d
theorem aN.rg {n:Int} {m:Mo} (d:aN) (hf:d.Fit) (k:m.Ok) (g:m.Rg n) (h:d.W n m hs=""):(d.next m).Rg n:=by
 cases d with
 |back=>exact g
 |comes a b=>
  obtain⟨w1,w2⟩:=aJ (aJ h).1;have ho:=gL w1;have WK:=of_decide_eq_false (gL w2);have a2u:∀x∈[a,b],0<=x/\x<=n:=λx hx=>by
   have:Ho n x=false:=by
    cases q:Ho n x with
    |false=>rfl
    |true=>rw[OC.mpr ⟨x,hx,q⟩]at ho;cases ho
   unfold Ho at this;simp only[R_,decide_eq_false_iff_not]at this;omega
  refine⟨λr hr=> ?_,g.day⟩;rcases OF.mp hr with hr|hr
  ·exact g.row r hr
  ·rw[N_.mp hr];exact⟨a2u a (by simp),a2u b (by simp),WK⟩
 |goes a=>exact⟨λr hr=>g.row r (OM.mp hr).1,g.day⟩
 |mcome ns=>exact⟨g.row,g.day⟩
 |mgo ns=>exact⟨g.row,g.day⟩
 |pass ri rd=>
  refine⟨g.row,λd hd=> ?_⟩;rcases OF.mp hd with hd|hd
  ·exact g.day d hd
  ·rw[N_.mp hd]
   obtain⟨w1,w2⟩:=aJ h;obtain⟨w3,w4⟩:=aJ w2;obtain⟨nd,sb⟩:=vR w3;have w5:=gL (aJ w4).1;have hp:=jO rd;have a2a:∀x∈rd.map (·.1),x∈m.ms:=λx hx=>by
    by_cases z:x∈m.ms
    ·exact z
    ·rw[OC.mpr ⟨x,hx,by simp[z]⟩]at w5;cases w5
   refine⟨k.inc,g.row,k.len,?_,hf.1,vJ nd,λr hr=>sb r.1 (Oz.mpr ⟨r,hp.mem_iff.mpr hr,rfl⟩),?_⟩
   ·have:=gL w1
    simpa using this
   ·have h1:=di nd λx hx=>a2a x hx
    rw[NK]at h1;have:=k.ten;show (xp rd).length<=10;rw[<-hp.length_eq];omega
inductive Tr (n:Int):List Mo->Mo->List D->Prop
 |nil {m:Mo}:m.Ok->m.Rg n->m.dd=[]->Tr n [] m []
 |snoc {tr:List Mo} {m:Mo} {hs:List D} {m':Mo} {d:D}:Tr n tr m hs->m'.Ok->m'.Rg n->m'.dd=m.dd++[d]->hs.length<60->Wf 3 d->Tr n (tr++[m]) m' (hs++[.tup [d,bj n m]])
section
variable {n:Int} {tr:List Mo} {m:Mo} {hs:List D}
theorem Tr.ok (t:Tr n tr m hs):m.Ok:=by cases t<;>assumption
theorem Tr.rg (t:Tr n tr m hs):m.Rg n:=by cases t<;>assumption
theorem Tr.len (t:Tr n tr m hs):hs.length=tr.length:=by
 induction t with
 |nil _ _ _=>rfl
 |snoc _ _ _ _ _ _ ih=>simp[ih]
theorem Tr.le (t:Tr n tr m hs):hs.length<=60:=by
 cases t with
 |nil _ _ _=>simp
 |snoc _ _ _ _ h _=>rw[Oh,Pd];omega
theorem Tr.prs (t:Tr n tr m hs):∃l:List (D×D),hs=l.map (λp=> .tup [p.1,p.2])/\l.map (·.1)=m.dd/\∀d∈m.dd,Wf 3 d:=by
 induction t with
 |nil _ _ h=>exact⟨[],rfl,h.symm,λd hd=>by rw[h]at hd;cases hd⟩
 | @snoc tr m hs m' d _ _ _ h _ hw ih=>
  obtain⟨l,h1,h2,h3⟩:=ih;refine⟨l++[(d,bj n m)],by rw[h1];simp,by rw[h,<-h2];simp,λe he=> ?_⟩;rw[h]at he;rcases OF.mp he with he|he
  ·exact h3 e he
  ·rw[N_.mp he];exact hw
theorem Tr.dl (t:Tr n tr m hs):m.dd.length<=60:=by
 obtain⟨l,h1,h2,_⟩:=t.prs;have:=t.le;rw[<-h2,NK];rw[h1,NK]at this;exact this
theorem yN (t:Tr n tr m hs):fJ [.ins "Cellar" (fV n (bj n m) hs)]= .ok (.tup m.dd):=by
 obtain⟨l,h1,h2,_⟩:=t.prs;have hl:=t.le;rw[h1,NK]at hl;refine aM rfl (bG (ax (a8 (d:= .lst m.dd) (nJ ?_) rfl) rfl));rw[<-h2];exact qt (enc:=λp:D×D=> .tup [p.1,p.2]) (l:=l) (out:=(·.1)) (by unfold bv;rw[dw (fds:=fV n (bj n m) hs) (d:= .lst hs) rfl rfl,h1];rfl) (by omega) (rest:=[]) rfl λp _=>ae (a:= .tup [p.1,p.2]) rfl rfl JG
theorem JN (r:xn):Wf 1 (aP r):= .tup (by simp) λd hd=>by
 simp only[NW,OE,or_false]at hd;rcases hd with rfl|rfl|rfl<;>exact .int 0 _
theorem Ht (r:Rd):Wf 1 (n9 r):= .tup (by simp) λd hd=>by
 simp only[NW,OE,or_false]at hd;rcases hd with rfl|rfl<;>exact .int 0 _
theorem aN.wf (d:aN) (hf:d.Fit):Wf 3 d.dt:=by
 have i1:∀{ns:List Int},ns.length<=100->Wf 2 (.tup (ns.map .int)):=λ{ns} h=>(zZ ns (by omega)).up 1;cases d with
 |back=>exact .tup (by simp) λd hd=>by rw[N_.mp hd];exact .str _ _
 |comes a b=>
  refine .tup (by simp) λd hd=> ?_;simp only[NW,OE,or_false]at hd;rcases hd with rfl|rfl|rfl
  ·exact .str _ _
  ·exact .int _ _
  ·exact .int _ _
 |goes a=>
  refine .tup (by simp) λd hd=> ?_;simp only[NW,OE,or_false]at hd;rcases hd with rfl|rfl
  ·exact .str _ _
  ·exact .int _ _
 |mcome ns=>
  refine .tup (by simp) λd hd=> ?_;simp only[NW,OE,or_false]at hd;rcases hd with rfl|rfl
  ·exact .str _ _
  ·exact i1 (Ou (show ns.length<=40 from hf) (by decide))
 |mgo ns=>
  refine .tup (by simp) λd hd=> ?_;simp only[NW,OE,or_false]at hd;rcases hd with rfl|rfl
  ·exact .str _ _
  ·exact i1 (Ou (show ns.length<=40 from hf) (by decide))
 |pass ri rd=>
  refine .tup (by simp) λd hd=> ?_;simp only[NW,OE,or_false]at hd;rcases hd with rfl|rfl|rfl
  ·exact .str _ _
  ·exact i1 hf.1
  ·exact vF (by have:=hf.2;omega) λa _=>Ht a
abbrev pO (n:Int) (tr:List Mo) (m:Mo):Slot:= .own (.lst (dz n tr m))
theorem Gw {d:D} (h:fx ρ= .ok (d,ρ')):x4 i fx ρ= .ok (.nx (ρ'.set i (GS (.val d)))):=by unfold x4;rw[h,ag]
end
theorem JO {ss:List xn} {k:Nat} (h:k<ss.length):L2.atI (ss.map aP) (k:Int)=GS (aP ss[k]):=by
 rw[hG (by simpa using h)];simp
theorem Ly {α:Type} {x:α} {xs:List α}:L2.atI (x::xs) 0=GS x:=by
 have:=hG (xs:=x::xs) (k:=0) (by simp);simpa using this
theorem Lz {α:Type} {x y:α} {xs:List α}:L2.atI (x::y::xs) 1=GS y:=by
 have:=hG (xs:=x::y::xs) (k:=1) (by simp);simpa using this
structure Good (n:Nat) (ss:List xn):Prop where
 src:∀r∈ss,0<=r.2.1/\r.2.1<=n
 tgt:∀r∈ss,0<=r.2.2/\r.2.2<=n
 ne:∀r∈ss,r.2.1≠r.2.2
def lv (L:List Int) (i:Int):Int:=L.getD i.toNat 0
theorem A5 {i:Int} (h0:0<=i) (h1:i<L.length):L2.atI (L.map D.int) i=GS (.int (lv L i)):=by
 obtain⟨k,rfl⟩:=Int.eq_ofNat_of_zero_le h0;have hk:k<L.length:=by omega
 rw[hG (by simpa using hk)];simp[lv,hk]
theorem Ea {i:Int}:yq [.int i, .int j]=GS (.int (if j>i then j else i)):=rfl
theorem vT {i:Int}:vg [.int i, .int j]=GS (.int (if j<i then j else i)):=rfl
theorem Hu {a b c:Int} (h1:a<=c) (h2:b<=c):(if b>a then b else a)<=c:=by split<;>assumption
theorem Eb {a b c:Int} (h:c<=a):c<=(if b>a then b else a):=by
 split
 ·exact Q4 h (Int.le_of_lt (by assumption))
 ·exact h
theorem Ec {a b c:Int} (h:c<=b):c<=(if b>a then b else a):=by
 split
 ·exact h
 ·exact Q4 h (Int.not_lt.mp (by assumption))
theorem Hv {a b c:Int} (h1:c<=a) (h2:c<=b):c<=(if b<a then b else a):=by split<;>assumption
theorem Ed {a b c:Int} (h:a<=c):(if b<a then b else a)<=c:=by
 split
 ·exact Q4 (Int.le_of_lt (by assumption)) h
 ·exact h
theorem Ee {a b c:Int} (h:b<=c):(if b<a then b else a)<=c:=by
 split
 ·exact h
 ·exact Q4 (Int.not_lt.mp (by assumption)) h
theorem Bw {s t most:Int} (hL:L.length=n+1) (hs:0<=s/\s<=n) (ht:0<=t/\t<=n) (hm:0<=most) (hb:∀i:Int,1<=i->i<=n-> -1000<=lv L i/\lv L i<=1000): ∃lo hi:Int,nV [.lst (L.map .int), .int s, .int t, .int most]= .ok (.lst [.int lo, .int hi])/\lo<=0/\0<=hi/\ -most<=lo/\hi<=most/\(0<s->lv L s - 1000<=lo/\hi<=lv L s+1000)/\(0<t-> -1000 - lv L t<=lo/\hi<=1000 - lv L t):=by
 have a0F:L2.atI (L.map D.int) s=GS (.int (lv L s)):=A5 hs.1 (by omega);have a44:L2.atI (L.map D.int) t=GS (.int (lv L t)):=A5 ht.1 (by omega);have ZJ:(2:Nat)<=lim:=by decide
 have a4P: -most<=0:=Int.neg_nonpos_of_nonneg hm;have r:= @Int.le_refl;have W3:∀i:Int,0<i->i<=n->(lv L i - 1000<=0/\0<=lv L i+1000)/\ -1000 - lv L i<=0/\0<=1000 - lv L i:=λi h1 h2=>by
  have:=hb i h1 h2;omega
 obtain⟨lo1,a0v,e1,p1,p2,p3,p4,p5⟩:∃lo1 a0v:Int,bL (fT (f2 nH (a9 1) (fC (.int 0)))) (ak (aE (aR yq (a7 (a9 4) (a7 (f2 jg (f2 aA (a9 0) (a9 1)) (fC (.int 1000))) (ac)))) (gN 4)) (aE (aR vg (a7 (a9 5) (a7 (f2 aV (f2 aA (a9 0) (a9 1)) (fC (.int 1000))) (ac)))) (gN 5))) (ay) [GS (.val (.lst (L.map .int))),GS (.val (.int s)),GS (.val (.int t)),GS (.val (.int most)),GS (.val (.int (-most))),GS (.val (.int most))]
   = .ok (.nx [GS (.val (.lst (L.map .int))),GS (.val (.int s)),GS (.val (.int t)),GS (.val (.int most)),GS (.val (.int lo1)),GS (.val (.int a0v))])/\lo1<=0/\0<=a0v/\ -most<=lo1/\a0v<=most/\(0<s->lv L s - 1000<=lo1/\a0v<=lv L s+1000):=by
  by_cases h1:0<s
  ·have k:=(W3 s h1 hs.2).1
   exact⟨_,_,by simp! [h1,a0F,Ea,vT],Hu a4P k.1,Hv hm k.2,Eb (r _),Ed (r _),λ_=>⟨Ec (r _),Ee (r _)⟩⟩
  ·exact⟨-most,most,by simp! [h1],a4P,hm,r _,r _,λz=>absurd z h1⟩
 obtain⟨a1L,a1M,e2,q1,q2,q3,q4,q5⟩:∃a1L a1M:Int,bL (fT (f2 nH (a9 2) (fC (.int 0)))) (ak (aE (aR yq (a7 (a9 4) (a7 (f2 jg (f1 gj (fC (.int 1000))) (f2 aA (a9 0) (a9 2))) (ac)))) (gN 4)) (aE (aR vg (a7 (a9 5) (a7 (f2 jg (fC (.int 1000)) (f2 aA (a9 0) (a9 2))) (ac)))) (gN 5))) (ay) [GS (.val (.lst (L.map .int))),GS (.val (.int s)),GS (.val (.int t)),GS (.val (.int most)),GS (.val (.int lo1)),GS (.val (.int a0v))]
   = .ok (.nx [GS (.val (.lst (L.map .int))),GS (.val (.int s)),GS (.val (.int t)),GS (.val (.int most)),GS (.val (.int a1L)),GS (.val (.int a1M))])/\a1L<=0/\0<=a1M/\lo1<=a1L/\a1M<=a0v/\(0<t-> -1000 - lv L t<=a1L/\a1M<=1000 - lv L t):=by
  by_cases h1:0<t
  ·have k:=(W3 t h1 ht.2).2
   exact⟨_,_,by simp! [h1,a44,Ea,vT],Hu p1 k.1,Hv p2 k.2,Eb (r _),Ed (r _),λ_=>⟨Ec (r _),Ee (r _)⟩⟩
  ·exact⟨lo1,a0v,by simp! [h1],p1,p2,r _,r _,λz=>absurd z h1⟩
 refine⟨a1L,a1M,aM rfl ?_,q1,q2,Q4 p3 q3,Q4 q4 p4,λz=>⟨Q4 (p5 z).1 q3,Q4 q4 (p5 z).2⟩,q5⟩;show nU [GS (.val (.lst (L.map .int))),GS (.val (.int s)),GS (.val (.int t)),GS (.val (.int most)),JT,JT]=_;unfold nU;rw[ai (ρ':=[GS (.val (.lst (L.map .int))),GS (.val (.int s)),GS (.val (.int t)),GS (.val (.int most)),GS (.val (.int (-most))),JT]) rfl,
  ai (ρ':=[GS (.val (.lst (L.map .int))),GS (.val (.int s)),GS (.val (.int t)),GS (.val (.int most)),GS (.val (.int (-most))),GS (.val (.int most))]) rfl,ai e1,ai e2]
 simp! [ZJ]
def kQ (p:Int×Int):D:= .tup [.int p.1, .int p.2]
theorem yO {i v:Int} (hi:0<=i) (hl:i<L.length) (hj:0<=j):lv (L.set i.toNat v) j=if j=i then v else lv L j:=by
 unfold lv;rw[OD,Qn];by_cases h:j=i
 ·subst h
  rw[if_pos rfl,if_pos (by omega),if_pos rfl];rfl
 ·rw[if_neg (by omega),if_neg h,OD]
theorem Ef {i:Int} (h0:0<=i) (h1:i<n):L2.xD n i=GS i.toNat:=by unfold L2.xD;rw[if_pos h0,if_pos h1]
theorem xw (L:List Int) (i:Nat) (v:Int):(L.map D.int).set i (.int v)=(L.set i v).map D.int:=by rw[List.map_set]
theorem NB {gs:List D->aa->R aa} {d:D} {ds:List D}:bX (gN i) gs (d::ds) ρ=gs ds (ρ.set i (GS (.val d))):=rfl
theorem NC:oE [] ρ= .ok ρ:=rfl
theorem Bx {figs:List Int} {ss:List xn} {mm:List Int} {b0 b1:Int} {rows:List (Int×Int)} {k:Nat} {x8 x9 x10 x11 x12 x13:Option Slot} (hk:k<ss.length) (hf:k<figs.length) (g:Good n ss) (hn:n<=7) (hL:L.length=n+1) (h0:0<=b0) (h1:0<=b1) (hb:∀i:Int,1<=i->i<=n-> -1000<=lv L i/\lv L i<=1000) (hr:rows.length<=1000): ∃(a:Int) (L':List Int) (y8 y9 WU Xc a10 a1N:Option Slot),ib [GS (.val (.lst (figs.map .int))),GS (.val (.int (n:Int))),GS (.val (.tup (ss.map aP))),GS (.val (.tup (mm.map .int))),GS (.val (.lst [.int b0, .int b1])),GS (.own (.lst (L.map .int))),GS (.own (.lst (rows.map kQ))),GS (.val (.int (k:Int))),x8,x9,x10,x11,x12,x13] = .ok (.nx [GS (.val (.lst (figs.map .int))),GS (.val (.int (n:Int))),GS (.val (.tup (ss.map aP))),GS (.val (.tup (mm.map .int))),GS (.val (.lst [.int b0, .int b1])),GS (.own (.lst (L'.map .int))),GS (.own (.lst ((rows++[(ss[k].1,a)]).map kQ))),GS (.val (.int (k:Int))),y8,y9,WU,Xc,a10,a1N])/\ L'.length=n+1/\(∀i:Int,1<=i->i<=n-> -1000<=lv L' i/\lv L' i<=1000)/\(ss[k].1∈mm-> -b1<=a/\a<=b1):=by
 have YH:=Pl hk;have a45:=JO hk;have hs:=g.src _ YH;have ht:=g.tgt _ YH;have WK:=g.ne _ YH;generalize ss[k]=row at*;obtain⟨a11,s,t⟩:=row
 replace hs:0<=s/\s<=n:=hs
 replace ht:0<=t/\t<=n:=ht
 replace WK:s≠t:=WK
 have hm:0<=(if a11∈mm then b1 else b0):=by split<;>omega
 obtain⟨lo,hi,e,c1,c2,c3,c4,c5,c6⟩:=Bw hL hs ht hm hb;have a2v:L2.atI (figs.map D.int) (k:Int)=GS (.int figs[k]):=by
  rw[hG (by simpa using hf)];simp
 have hd:(0:Int)<hi - lo+1:=by omega
 generalize figs[k]=fg at a2v;have a1:=Ph fg (show hi - lo+1≠0 by omega);have a2:=Pj fg hd;have a0F:L2.atI (L.map D.int) s=GS (.int (lv L s)):=A5 hs.1 (by omega);have a4Q:L2.atI [D.int b0,D.int b1] (if decide (a11∈mm)=true then 1 else 0)=GS (.int (if a11∈mm then b1 else b0)):=by
  by_cases h:a11∈mm
  ·simp only[h,decide_true,if_true,Lz]
  ·simp only[h,decide_false,OH,if_false,Ly]
 have a46:L2.xD (L.map D.int).length s=GS s.toNat:=Ef hs.1 (by rw[NK];omega);have a2w:(L.set s.toNat (lv L s - (lo+fg%(hi - lo+1)))).length=n+1:=by rw[RT];exact hL
 have a44:L2.atI ((L.set s.toNat (lv L s - (lo+fg%(hi - lo+1)))).map D.int) t=GS (.int (lv L t)):=by
  rw[A5 ht.1 (by omega),yO hs.1 (by omega) ht.1,if_neg (Py WK)]
 have a47:L2.xD ((L.set s.toNat (lv L s - (lo+fg%(hi - lo+1)))).map D.int).length t=GS t.toNat:=Ef ht.1 (by rw[NK];omega);have a48:(rows.map kQ).length<lim:=by rw[NK];unfold lim;omega
 have ZJ:(2:Nat)<=lim:=by decide
 have ap:rows.map kQ++[D.tup [.int a11, .int (lo+fg%(hi - lo+1))]]=(rows++[(a11,lo+fg%(hi - lo+1))]).map kQ:=by simp[kQ]
 generalize ha:lo+fg%(hi - lo+1)=a at*;refine⟨a,(L.set s.toNat (lv L s - a)).set t.toNat (lv L t+a),GS (.val (.int a11)),GS (.val (.int s)),GS (.val (.int t)),GS (.val (.int lo)),GS (.val (.int hi)),GS (.val (.int a)),?_,by rw[RT];exact a2w,?_,λz=> ?_⟩
 ·simp! [ib,zL,rK,NB,NC,AS,a45,aP,e,rQ,E7,a4Q,pM,Pn,VT,Bool.and_true,and_self,a2v,aD hd,ha,a0F,a46,xw,a44,a47,a48,ZJ,ap]
 ·intro i a0v a24
  rw[yO ht.1 (by omega) (by omega),yO hs.1 (by omega) (by omega)];by_cases h1:i=t
  ·subst h1
   rw[if_pos rfl];have:=c6 (by omega);omega
  ·rw[if_neg h1]
   by_cases h2:i=s
   ·subst h2
    rw[if_pos rfl];have:=c5 (by omega);omega
   ·rw[if_neg h2];exact hb i a0v a24
 ·rw[if_pos (show a11∈mm from z)]at c3 c4
  omega
theorem A6 {k:Int} (h0:0<=k) (h:k<=1000):ur (.lst [.int 0]) (.int k)=GS (.lst ((Oa k.toNat (0:Int)).map .int)):=by
 show (if k.natAbs<=lim/\[D.int 0].length*k.toNat<=lim then GS (D.lst (Oa k.toNat [D.int 0]).flatten)else JT)=_;rw[if_pos ⟨by unfold lim;omega,by unfold lim;simp;omega⟩]
 congr 2
 induction k.toNat with
 |zero=>rfl
 |succ m ih=>rw[P7,P7,Q5,ih];rfl
theorem MY {x:D} {ds:List D}:Hk (.lst (x::ds)) (GS 1) JT=GS (.lst ds):=by
 show GS (D.lst (L2.Pu.rN (x::ds) (GS 1) JT))=_;unfold L2.Pu.rN HT.eh;simp
theorem Gx {m:Nat} (i:Int):lv (Oa m 0) i=0:=by
 unfold lv;rw[OD,PD];split<;>rfl
theorem yP {figs:List Int} {ss:List xn} {mm:List Int} {b0 b1:Int} (hf:ss.length<=figs.length) (g:Good n ss) (hn:n<=7) (h0:0<=b0) (h1:0<=b1) (hs:ss.length<=1000): ∃(ps:List (Int×Int)) (Z4:List Int),lF [.lst (figs.map .int), .int (n:Int), .tup (ss.map aP), .tup (mm.map .int), .lst [.int b0, .int b1]]= .ok (.lst [.tup (ps.map kQ), .tup (Z4.map .int)])/\ps.map (·.1)=ss.map (·.1)/\Z4.length=n/\(∀x∈Z4,-1000<=x/\x<=1000)/\∀p∈ps,p.1∈mm-> -b1<=p.2/\p.2<=b1:=by
 have hd:ur (.lst [.int 0]) (.int ((n:Int)+1))=GS (.lst ((Oa (n+1) (0:Int)).map .int)):=by
  have:=A6 (k:=(n:Int)+1) (by omega) (by omega)
  rwa [show ((n:Int)+1).toNat=n+1 by omega]at this
 have a6F:(1:Nat)<=lim:=by decide
 have ZJ:(2:Nat)<=lim:=by decide
 obtain⟨ρ',e,L',rows,y7,y8,y9,WU,Xc,a10,a1N,rfl,e2,e5,e4,e6⟩:=pc (g:=gN 7) (gb:=ib) (n:=ss.length) (fs:=a7 (aR aT (a7 (a9 2) (ac))) (ac)) (ρ:=[GS (.val (.lst (figs.map .int))),GS (.val (.int (n:Int))),GS (.val (.tup (ss.map aP))),GS (.val (.tup (mm.map .int))),GS (.val (.lst [.int b0, .int b1])),GS (.own (.lst ((Oa (n+1) (0:Int)).map .int))),GS (.own (.lst (([]:List (Int×Int)).map kQ))),JT,JT,JT,JT,JT,JT,JT])
  (P:=λk ρ=>∃(L:List Int) (rows:List (Int×Int)) (y7 y8 y9 WU Xc a10 a1N:Option Slot),ρ=[GS (.val (.lst (figs.map .int))),GS (.val (.int (n:Int))),GS (.val (.tup (ss.map aP))),GS (.val (.tup (mm.map .int))),GS (.val (.lst [.int b0, .int b1])),GS (.own (.lst (L.map .int))),GS (.own (.lst (rows.map kQ))),y7,y8,y9,WU,Xc,a10,a1N]/\L.length=n+1/\(∀i:Int,1<=i->i<=n-> -1000<=lv L i/\lv L i<=1000)/\rows.map (·.1)=(ss.take k).map (·.1)/\∀p∈rows,p.1∈mm-> -b1<=p.2/\p.2<=b1)
  (by simp! [NK]) hs ⟨_,_,_,_,_,_,_,_,_,rfl,by simp,λi _ _=>by rw[Gx];omega,rfl,λp hp=>by cases hp⟩ (λk hk ρ hρ=>by
   obtain⟨L,rows,y7,y8,y9,WU,Xc,a10,a1N,rfl,hL,hb,hr,hq⟩:=hρ;have a48:rows.length<=1000:=by
    have:=congrArg S5 hr;simp at this;omega
   obtain⟨a,L1,z8,z9,a2Q,a2R,a4M,a4N,e1,l1,a6G,q1⟩:=Bx (figs:=figs) (mm:=mm) (b0:=b0) (b1:=b1) (L:=L) (rows:=rows) (k:=k) (x8:=y8) (x9:=y9) (x10:=WU) (x11:=Xc) (x12:=a10) (x13:=a1N) hk (by omega) g hn hL h0 h1 hb a48;exact⟨_,_,rfl, .inl e1,L1,_,_,_,_,_,_,_,_,rfl,l1,a6G,by rw[Oo,hr,xm _ hk];rfl,λp hp=>by
    rcases OF.mp hp with hp|hp
    ·exact hq p hp
    ·rw[N_.mp hp];exact q1⟩)
 rw[RD]at e4;obtain⟨z,Z4,rfl⟩:∃z Z4,L'=z::Z4:=by
  cases L' with
  |nil=>simp at e2
  |cons z Z4=>exact⟨z,Z4,rfl⟩
 refine⟨rows,Z4,aM rfl ?_,e4,by simpa using e2,λx hx=> ?_,e6⟩
 rotate_left
 ·obtain⟨i,hi,rfl⟩:=PU hx
  have hl:Z4.length=n:=by simpa using e2
  have:=e5 ((i:Int)+1) (by omega) (by omega);have z:lv (z::Z4) ((i:Int)+1)=Z4[i]:=by
   unfold lv;rw[show ((i:Int)+1).toNat=i+1 by omega,OD,OT,O5 hi];rfl
  rw[z]at this;exact this
 show lE [GS (.val (.lst (figs.map .int))),GS (.val (.int (n:Int))),GS (.val (.tup (ss.map aP))),GS (.val (.tup (mm.map .int))),GS (.val (.lst [.int b0, .int b1])),JT,JT,JT,JT,JT,JT,JT,JT,JT]=_;unfold lE;rw[ai (ρ':=[GS (.val (.lst (figs.map .int))),GS (.val (.int (n:Int))),GS (.val (.tup (ss.map aP))),GS (.val (.tup (mm.map .int))),GS (.val (.lst [.int b0, .int b1])),GS (.own (.lst ((Oa (n+1) (0:Int)).map .int))),JT,JT,JT,JT,JT,JT,JT,JT]) (by simp! [uq,hd,a6F]),
  ai (ρ':=[GS (.val (.lst (figs.map .int))),GS (.val (.int (n:Int))),GS (.val (.tup (ss.map aP))),GS (.val (.tup (mm.map .int))),GS (.val (.lst [.int b0, .int b1])),GS (.own (.lst ((Oa (n+1) (0:Int)).map .int))),GS (.own (.lst (([]:List (Int×Int)).map kQ))),JT,JT,JT,JT,JT,JT,JT]) rfl,ai e]
 simp! [vh,gQ,i0,NP,MY,ZJ]
section
variable {n:Int} {tr:List Mo} {m:Mo} {hs:List D}
theorem Gy (g:m.Ok) (r:xn):yL m.mm r=yL m.ms r:=by unfold yL;rw[g.mem]
theorem qJ (g:m.Ok):ic [bE n m]= .ok (.tup (m.ss.map (yL m.ms))):=by
 refine aM rfl (bG (ax (a8 (nJ (qt (enc:=aP) (l:=m.ss) (out:=yL m.ms) (MX Lv) (by have:=g.len;omega) (rest:=[GS (.val (bE n m))]) rfl λr _=> ?_)) rfl) rfl));rw[<-Gy g];exact ae (a:=aP r) (b:= .tup [.bl (decide (r.1∈m.mm))]) rfl (bq (ds:=[.bl (decide (r.1∈m.mm))]) (a8 (ae (ae rfl rfl gK) (ae (a:=bE n m) rfl rfl Lw) rQ) rfl) (show 1<=lim by decide)) (kJ (by simp[aP]))
theorem JP (ms:List Int) (r:xn):Wf 1 (yL ms r):= .tup (by simp) λd hd=>by
 simp only[NW,OE,or_false]at hd;rcases hd with rfl|rfl|rfl|rfl
 ·exact .int _ _
 ·exact .int _ _
 ·exact .int _ _
 ·exact .bl _ _
theorem By (d:yF) (h1:d.ss.length<=12) (h2:d.ri.length<=100) (h3:d.rd.length<=60):kq [cQ n d,l8 n d]= .ok (.bl true):=by
 let ρ:aa:=[GS (.val (cQ n d)),GS (.val (l8 n d))];have sm:∀{f:NG} {k:Int} {x:D} {j:Nat},(pX n d).lookup f=GS x->aA (l8 n d) (.int k)=GS x->j<=7->Wf j x->av bd 2 (a7 (bi "Day" f (a9 0)) (a7 (f2 aA (a9 1) (fC (.int k))) (ac))) ρ= .ok (.bl true):=λ{f k x j} e1 e2 hj hw=>
  aH (n:=2) (a8 (dw (fds:=pX n d) rfl e1) (a8 (ae (a:=l8 n d) rfl rfl e2) rfl)) rfl (m6 hj hw)
 have a0:=sm (f:="tanks") (k:=0) rfl (fW 0 rfl) (by decide) (.int 0 n);have a1:=sm (f:="streams") (k:=1) rfl (fW 1 rfl) (by decide) (vF (f:=aP) (l:=d.ss) (by omega) λr _=>JN r);have a2:=sm (f:="rises") (k:=2) rfl (fW 2 rfl) (by decide) (zZ d.ri (by omega));have a3:=sm (f:="readings") (k:=3) rfl (fW 3 rfl) (by decide) (vF (f:=n9) (l:=d.rd) (by omega) λr _=>Ht r);refine aM rfl ?_;show nX ρ=_;unfold nX;rw[ai (ρ':=ρ) (by rw[c7 (by unfold rJ jf;rw[jq a0,jq a1];rfl)];rfl)];exact bG (by unfold kM;rw[a2,ag];exact a3)
theorem yQ (t:Tr n tr m hs):j9 [.ins "Cellar" (fV n (bj n m) hs),bE n m]= .ok (.bl true):=by
 have g:=t.ok;let C:D:= .ins "Cellar" (fV n (bj n m) hs);let P (x:Option Slot):aa:=[GS (.val C),GS (.val (bE n m)),x];have mt:∀{x:Option Slot} {f:NG} {r:List D->R D} {z:D},r [C]= .ok z->(fV n (bj n m) hs).lookup f=JT->bx "Cellar" f 1 r (ah 0) ac (P x)= .ok z:=λ{x f r z} h1 h2=>dX (n:=1) (fds:=fV n (bj n m) hs) (ds:=[]) rfl rfl rfl h1 h2;have b0:av bd 2 (a7 (bi "Cellar" "tanks" (a9 0)) (a7 (f2 aA (a9 1) (fC (.int 0))) (ac))) (P JT)= .ok (.bl true):=aH (n:=2) (a8 (dw (fds:=fV n (bj n m) hs) rfl rfl) (a8 (ae (a:=bE n m) rfl rfl JL) rfl)) rfl (m6 (by decide) (.int 0 n));have b1:av bd 2 (a7 (bx "Cellar" "layout" 1 eN (ah 0) ac) (a7 (av ic 1 (a7 (ah 1) (ac))) (ac))) (P JT)= .ok (.bl true):=aH (n:=2) (a8 (mt (xr g) rfl) (a8 (aH (n:=1) (a8 rfl rfl) rfl (qJ g)) rfl)) rfl (m6 (by decide) (vF (by have:=g.len;omega) λr _=>JP _ r));have b2:av bd 2 (a7 (bx "Cellar" "deeds" 1 fJ (ah 0) ac) (a7 (f2 aA (a9 1) (fC (.int 5))) (ac))) (P JT)= .ok (.bl true):=aH (n:=2) (a8 (mt (yN t) rfl) (a8 (ae (a:=bE n m) rfl rfl NA) rfl)) rfl (m6 (n:=4) (by decide) (.tup (by have:=t.dl;omega) (by obtain⟨_,_,_,h⟩:=t.prs;exact h)));have b3:av bd 2 (a7 (bx "Cellar" "days_gone" 1 bc (ah 0) ac) (a7 (aR aT (a7 (f2 aA (a9 1) (fC (.int 4))) (ac))) (ac))) (P JT)= .ok (.bl true):=aH (n:=2) (a8 (mt iW rfl) (a8 (ax (a8 (ae (a:=bE n m) rfl rfl J_) rfl) (by rw[dF,NK])) rfl)) rfl (m6 (by decide) (.int 0 _));refine aM rfl ?_;show lI (P JT)=_;unfold lI;rw[ai (ρ':=P JT) (by rw[c7 (by unfold rJ jf;rw[jq b0,jq b1];rfl)];rfl),ai (ρ':=P JT) (by rw[c7 (by unfold rJ jf;rw[jq b2,jq b3];rfl)];rfl)];obtain⟨ρ',e,y,rfl⟩:=pc (g:=gN 2) (gb:=kx) (n:=m.ds.length) (fs:=a7 (aR aT (a7 (f2 aA (a9 1) (fC (.int 4))) (ac))) (ac)) (ρ:=P JT) (P:=λ_ ρ=>∃y,ρ=P y) (a8 (ax (a8 (ae (a:=bE n m) rfl rfl J_) rfl) (by rw[dF,NK])) rfl) (by have:=g.dl;omega) ⟨JT,rfl⟩ λk hk ρ ⟨y,hy⟩=>by
  subst hy;have hd:=t.rg.day _ (Pl hk);refine⟨P (GS (.val (.int (k:Int)))),P (GS (.val (.int (k:Int)))),rfl, .inl ?_,_,rfl⟩;have a08:av kq 2 (a7 (bx "Cellar" "day" 2 cw (ah 0) (a7 (f2 aV (a9 2) (fC (.int 1))) (ac))) (a7 (f2 aA (f2 aA (a9 1) (fC (.int 4))) (a9 2)) (ac))) (P (GS (.val (.int (k:Int)))))= .ok (.bl true):=
   aH (n:=2) (a8 (dX (n:=2) (fds:=fV n (bj n m) hs) (ds:=[.int ((k:Int)+1)]) rfl (a8 (ae (a:= .int (k:Int)) (b:= .int 1) rfl rfl cN) rfl) rfl (xt hk) rfl) (a8 (d:=l8 n m.ds[k]) (ae (b:= .int (k:Int)) (ae (a:=bE n m) rfl rfl J_) rfl (fW k (by rw[O9,O5 hk];rfl))) rfl)) rfl (By _ hd.len hd.rl (by have:=hd.ten;omega))
  unfold kx;rw[c7 (by unfold jf;rw[jq a08];rfl)]
  rfl
 rw[ai e]
 rfl
end
theorem JQ (h:∃b,ga ρ= .ok b) (h2:∃b,gb ρ= .ok b):∃b,rJ ga gb ρ= .ok b:=by
 obtain⟨a,ha⟩:=h;obtain⟨b,hb⟩:=h2;unfold rJ;rw[ha,ag];cases a
 ·exact⟨b,hb⟩
 ·exact⟨true,rfl⟩
theorem A7 (h:∃b,ga ρ= .ok b) (h2:∃b,gb ρ= .ok b):∃b,fc ga gb ρ= .ok b:=by
 obtain⟨a,ha⟩:=h;obtain⟨b,hb⟩:=h2;unfold fc;rw[ha,ag];cases a
 ·exact⟨false,rfl⟩
 ·exact⟨b,hb⟩
theorem dY (c:Int) (mx:Bool) (k:Nat) (sz:Int) (hs:0<sz/\sz<1073741824) (hk:k<=100):∃xs:List Int,bU [.int c, .bl mx, .int (k:Int), .int sz]= .ok (.lst (xs.map .int))/\xs.length=k/\∀x∈xs,0<=x:=by
 let P (xs:List Int) (r:Int) (y z:Option Slot):aa:=[GS (.val (.int c)),GS (.val (.bl mx)),GS (.val (.int (k:Int))),GS (.val (.int sz)),GS (.own (.lst (xs.map .int))),GS (.val (.int r)),y,z];obtain⟨ρ',e,xs,r,y,z,rfl,h1,h2⟩:=pc (g:=gN 6) (gb:=fK) (n:=k) (fs:=a7 (ah 2) (ac)) (ρ:=P [] c JT JT) (P:=λj ρ=>∃xs r y z,ρ=P xs r y z/\xs.length=j/\∀x∈xs,0<=x) (a8 rfl rfl) (by omega) ⟨[],c,JT,JT,rfl,rfl,λx hx=>by cases hx⟩ λj hj ρ hρ=>by
  obtain⟨xs,r,y,z,rfl,h1,h2⟩:=hρ;have hl:(xs.map D.int).length<lim:=by rw[NK];unfold lim;omega
  refine⟨P xs r (GS (.val (.int (j:Int)))) z,?_⟩;have nn:∀{v:Int},∀x∈xs++[v%sz],0<=x:=λ{v} x hx=>by
   rcases OF.mp hx with hx|hx
   ·exact h2 x hx
   ·rw[N_.mp hx];exact Ph _ (by omega)
  have ap:∀v:Int,xs.map D.int++[.int v]=(xs++[v]).map .int:=λv=>by simp
  cases mx with
  |true=>exact⟨P (xs++[((c+7919*(j:Int)+1)*48271%2147483647+(j:Int))*69621%2147483647%sz]) r (GS (.val (.int (j:Int)))) (GS (.val (.int ((c+7919*(j:Int)+1)*48271%2147483647)))),rfl, .inl (by simp! [P,fK,vi (show RZ 48271<18446744073709551616 by decide),vi (show RZ 69621<18446744073709551616 by decide),rO (show RZ 7919<18446744073709551616 by decide),aD (show (0:Int)<2147483647 by decide),aD hs.1,hl,ap]),_,_,_,_,rfl,by simp[h1],nn⟩
  |false=>exact⟨P (xs++[r%sz]) (r / sz) (GS (.val (.int (j:Int)))) z,rfl, .inl (by simp! [P,fK,aD hs.1,cM hs,hl,ap]),_,_,_,_,rfl,by simp[h1],nn⟩
 refine⟨xs,aM rfl ?_,h1,h2⟩;show jn [GS (.val (.int c)),GS (.val (.bl mx)),GS (.val (.int (k:Int))),GS (.val (.int sz)),JT,JT,JT,JT]=_;unfold jn;rw[ai (ρ':=[GS (.val (.int c)),GS (.val (.bl mx)),GS (.val (.int (k:Int))),GS (.val (.int sz)),GS (.own (.lst [])),JT,JT,JT]) rfl,ai (ρ':=P [] c JT JT) rfl,ai e]
 rfl
theorem yR {ds:List D} {k:Int} (h0:0<=k):Hk (.lst ds) JT (GS k)=GS (.lst (ds.take k.toNat)):=by
 show GS (D.lst (L2.Pu.rN ds JT (GS k)))=_;unfold L2.Pu.rN HT.eh;simp only[if_neg (show ¬k<0 by omega),U3,Nat.sub_zero]
 congr 2
 rw[List.take_eq_take_iff];omega
section
variable {n:Nat} {m:Mo} {hs:List D}
theorem Gz (g:m.Rg (n:Int)):Good n m.ss:=⟨λr hr=>(g.row r hr).1,λr hr=>(g.row r hr).2.1,λr hr=>(g.row r hr).2.2⟩
theorem A8 {t:aa->R Bool} {v:Int} (ht:∃b,t ρ= .ok b) (hf:f ρ= .ok (.int v)):bL t (aE f (gN i)) ay ρ= .ok (.nx (ρ.set i (GS (.val (.int v)))))\/bL t (aE f (gN i)) ay ρ= .ok (.nx ρ):=by
 obtain⟨b,hb⟩:=ht;cases b with
 |true=>exact .inl (by rw[eE hb];exact aK hf rfl)
 |false=>exact .inr (by rw[c7 hb];rfl)
structure Eg (n:Nat) (m:Mo) (ri:List Int) (rd:List Rd):Prop where
 len:ri.length=n
 rr:∀x∈ri,Go x=false
 pm:(rd.map (·.1)).Perm (m.nu.filter λx=>decide (x∈m.mm))
 vr:∀r∈rd,Go r.2=false
theorem yS {x:Int} (h: -1000<=x/\x<=1000):Go x=false:=by unfold Go;simp only[R_,decide_eq_false_iff_not];omega
theorem nj (g:m.Ok) (q:m.Rg (n:Int)) (h7:n<=7) (c:Int) (mx:Bool):∃ri rd,cO [bE (n:Int) m, .int c, .bl mx]= .ok (qu ri rd)/\Eg n m ri rd:=by
 have hm:=g.len;obtain⟨fg,e1,l1,_⟩:=dY (c / 10) mx (2*m.ss.length+n) 10010 (by decide) (by omega);let Ya:=c%5;have hb:∃b0 b1:Int,0<=b0/\0<=b1/\b1<=1000/\aA (.lst [.lst [.int 5000, .int 1000], .lst [.int 1, .int 1]]) (.int (if decide (Ya>2)=true then 1 else 0))=GS (.lst [.int b0, .int b1]):=by
  by_cases z:Ya>2
  ·exact⟨1,1,by decide,by decide,by decide,by rw[decide_eq_true z];exact MW⟩
  ·exact⟨5000,1000,by decide,by decide,by decide,by rw[decide_eq_false z];exact MV⟩
 obtain⟨b0,b1,a6H,a6I,a4Q,a6J⟩:=hb;obtain⟨ps,Z4,e2,l2,l3,l4,l5⟩:=yP (figs:=fg) (mm:=m.mm) (b0:=b0) (b1:=b1) (by omega) (Gz q) h7 a6H a6I (by omega);have a6K:ps.length=m.ss.length:=by have:=congrArg S5 l2;simpa using this
 let M:=bE (n:Int) m;let F:=D.lst (fg.map .int);let W:=D.lst [.tup (ps.map kQ), .tup (Z4.map .int)];let P (s7 y8 y9 WU Xc a10:Option Slot):aa:=[GS (.val M),GS (.val (.int c)),GS (.val (.bl mx)),GS (.val (.int Ya)),GS (.val (.int (m.ss.length:Int))),GS (.val F),GS (.val W),s7,y8,y9,WU,Xc,a10];let O (rd:List Rd):Option Slot:=GS (.own (.lst (rd.map n9)));have body:∀k,k<m.ss.length->∀rd y9 WU Xc,rd.length<=k->∃a0w a6L a49 a4a,dh (P (O rd) (GS (.val (.int (k:Int)))) y9 WU Xc JT)= .ok (.nx (P (O a0w) (GS (.val (.int (k:Int)))) a6L a49 a4a JT))/\∃am:Int,(ps[k]!.1∈m.mm-> -1000<=am/\am<=1000)/\a0w=if ps[k]!.1∈m.mm then rd++[(ps[k]!.1,am)]else rd:=λk hk rd y9 WU Xc hr=>by
  let K:Option Slot:=GS (.val (.int (k:Int)));have a08:k<ps.length:=by omega
  have a1O:ps[k]! =ps[k]:=by simp[a08]
  rw[a1O];have r0:ps[k].1∈m.mm-> -1000<=ps[k].2/\ps[k].2<=1000:=λz=>by have:=l5 _ (Pl a08) z;omega
  have a6M:m.ss.length+k<fg.length:=by omega
  let N:=ps[k].1;let a0:=ps[k].2;let ot:=fg[m.ss.length+k];have s1:aE (f2 aA (f2 aA (a9 6) (fC (.int 0))) (a9 8)) (rK 2 (bX (gN 9) (bX (gN 10) (oE)))) (P (O rd) K y9 WU Xc JT)= .ok (.nx (P (O rd) K (GS (.val (.int N))) (GS (.val (.int a0))) Xc JT)):=
   aK (d:=kQ ps[k]) (ae (b:= .int (k:Int)) (ae (a:=W) rfl rfl MV) rfl (fW k (by rw[O9,O5 a08];rfl))) rfl
  have s2:aE (f2 aA (a9 5) (f2 aV (a9 4) (a9 8))) (gN 11) (P (O rd) K (GS (.val (.int N))) (GS (.val (.int a0))) Xc JT)= .ok (.nx (P (O rd) K (GS (.val (.int N))) (GS (.val (.int a0))) (GS (.val (.int ot))) JT)):=
   aK (d:= .int ot) (ae (a:=F) (b:= .int ((m.ss.length+k:Nat):Int)) rfl (ae (a:= .int (m.ss.length:Int)) (b:= .int (k:Int)) rfl rfl (by rw[cN];congr 2)) (tL (m.ss.length+k) (by rw[O9,O5 a6M];rfl))) rfl
  have md:∀{j:Int} {am:Int},∃b,fT (f2 dD (a9 3) (fC (.int j))) (P (O rd) K (GS (.val (.int N))) (GS (.val (.int am))) (GS (.val (.int ot))) JT)= .ok b:=λ{j am}=>⟨_,aI (ae (a:= .int Ya) (b:= .int j) rfl rfl i3)⟩;have mo:∀{j:Int} {am:Int},0<j->∃b,fT (f2 dD (f2 bw (a9 11) (fC (.int j))) (fC (.int 0))) (P (O rd) K (GS (.val (.int N))) (GS (.val (.int am))) (GS (.val (.int ot))) JT)= .ok b:=λ{j am} hj=>⟨_,aI (ae (ae (a:= .int ot) (b:= .int j) rfl rfl (aD hj)) rfl i3)⟩;have v1:∀{am:Int},f2 jg (f2 bw (f2 f7 (a9 11) (fC (.int 3))) (fC (.int 2001))) (fC (.int 1000)) (P (O rd) K (GS (.val (.int N))) (GS (.val (.int am))) (GS (.val (.int ot))) JT)= .ok (.int (ot / 3%2001 - 1000)):=λ{am}=>ae (ae (ae (a:= .int ot) (b:= .int 3) rfl rfl (cM (by decide))) rfl (aD (by decide))) rfl pI;have v2:∀{am:Int},f2 jg (f2 bw (f2 f7 (a9 11) (fC (.int 2))) (fC (.int 3))) (fC (.int 1)) (P (O rd) K (GS (.val (.int N))) (GS (.val (.int am))) (GS (.val (.int ot))) JT)= .ok (.int (ot / 2%3 - 1)):=λ{am}=>ae (ae (ae (a:= .int ot) (b:= .int 2) rfl rfl (cM (by decide))) rfl (aD (by decide))) rfl pI;obtain⟨a1,r1,h1⟩:∃a1:Int,(N∈m.mm-> -1000<=a1/\a1<=1000)/\bL (rJ (fT (f2 dD (a9 3) (fC (.int 2)))) (fc (fT (f2 dD (a9 3) (fC (.int 1)))) (fT (f2 dD (f2 bw (a9 11) (fC (.int 3))) (fC (.int 0)))))) (aE (f2 jg (f2 bw (f2 f7 (a9 11) (fC (.int 3))) (fC (.int 2001))) (fC (.int 1000))) (gN 10)) (ay) (P (O rd) K (GS (.val (.int N))) (GS (.val (.int a0))) (GS (.val (.int ot))) JT)= .ok (.nx (P (O rd) K (GS (.val (.int N))) (GS (.val (.int a1))) (GS (.val (.int ot))) JT)):=by
   rcases A8 (i:=10) (JQ (md (j:=2)) (A7 (md (j:=1)) (mo (j:=3) (by decide)))) v1 with h|h
   ·exact⟨_,λ_=>by omega,h⟩
   ·exact⟨a0,r0,h⟩
  obtain⟨a2,r2,h2⟩:∃a2:Int,(N∈m.mm-> -1000<=a2/\a2<=1000)/\bL (fc (fT (f2 dD (a9 3) (fC (.int 4)))) (fT (f2 dD (f2 bw (a9 11) (fC (.int 2))) (fC (.int 0))))) (aE (f2 jg (f2 bw (f2 f7 (a9 11) (fC (.int 2))) (fC (.int 3))) (fC (.int 1))) (gN 10)) (ay) (P (O rd) K (GS (.val (.int N))) (GS (.val (.int a1))) (GS (.val (.int ot))) JT)= .ok (.nx (P (O rd) K (GS (.val (.int N))) (GS (.val (.int a2))) (GS (.val (.int ot))) JT)):=by
   rcases A8 (i:=10) (A7 (md (j:=4) (am:=a1)) (mo (j:=2) (am:=a1) (by decide))) (v2 (am:=a1))with h|h
   ·exact⟨_,λ_=>by omega,h⟩
   ·exact⟨a1,r1,h⟩
  let ρ2:=P (O rd) K (GS (.val (.int N))) (GS (.val (.int a2))) (GS (.val (.int ot))) JT;have t3:fT (f2 (dE false) (a9 9) (f2 aA (a9 0) (fC (.int 3)))) ρ2= .ok (decide (N∈m.mm)):=aI (ae (a:= .int N) rfl (ae (a:=M) rfl rfl Lw) rQ);have a4R:∀{r:R aF},bL (fT (f2 (dE false) (a9 9) (f2 aA (a9 0) (fC (.int 3))))) (nF 7 (bu (a7 (ah 9) (a7 (ah 10) (ac))))) (ay) ρ2=r->dh (P (O rd) K y9 WU Xc JT)=r:=λ{r} h=>by
   unfold dh;rw[ai s1,ai s2,ai h1,ai h2];exact h
  by_cases z:N∈m.mm
  ·refine⟨rd++[(N,a2)],GS (.val (.int N)),GS (.val (.int a2)),GS (.val (.int ot)),a4R ?_,a2,r2,by rw[if_pos z]⟩
   rw[eE (by rw[t3,decide_eq_true z])];show (bu (a7 (ah 9) (a7 (ah 10) (ac))) ρ2>>=λd=>if (rd.map n9).length<lim then R.ok (aF.nx (ρ2.set 7 (GS (.own (.lst (rd.map n9++[d]))))))else .bad)=_;rw[bq (ds:=[.int N, .int a2]) rfl (show 2<=lim by decide),ag,if_pos (by rw[NK];unfold lim;omega),show rd.map n9++[D.tup [.int N, .int a2]]=(rd++[(N,a2)]).map n9 by simp[n9]]
   rfl
  ·exact⟨rd,GS (.val (.int N)),GS (.val (.int a2)),GS (.val (.int ot)),a4R (by rw[c7 (by rw[t3,decide_eq_false z])];rfl),a2,r2,by rw[if_neg z]⟩
 obtain⟨ρ',e3,rd,y8,y9,WU,Xc,rfl,a3c,a6N,a6O⟩:=pc (g:=gN 8) (gb:=dh) (n:=m.ss.length) (fs:=a7 (ah 4) (ac)) (ρ:=P (O []) JT JT JT JT JT) (P:=λk ρ=>∃rd y8 y9 WU Xc,ρ=P (O rd) y8 y9 WU Xc JT/\rd.length<=k/\rd.map (·.1)=((ps.take k).map (·.1)).filter (λx=>decide (x∈m.mm))/\∀r∈rd,Go r.2=false) (a8 rfl rfl) (by omega) ⟨[],JT,JT,JT,JT,rfl,O2 _,rfl,λr hr=>by cases hr⟩ λk hk ρ hρ=>by
  obtain⟨rd,y8,y9,WU,Xc,rfl,hr,hp,hv⟩:=hρ;obtain⟨a0w,z9,a2Q,a2R,e,am,ra,Z5⟩:=body k hk rd y9 WU Xc hr;have a08:k<ps.length:=by omega
  have a1O:ps[k]! =ps[k]:=by simp[a08]
  rw[a1O]at ra Z5;refine⟨_,_,rfl, .inl e,a0w,_,z9,a2Q,a2R,rfl,?_,?_,?_⟩
  ·rw[Z5];split
   ·simp;omega
   ·omega
  ·rw[xm _ a08,List.filter_append,<-hp,Z5]
   by_cases z:ps[k].1∈m.mm
   ·rw[if_pos z];simp[z]
   ·rw[if_neg z];simp[z]
  ·intro r a2S
   rw[Z5]at a2S;split at a2S
   ·rename_i z
    rcases OF.mp a2S with h|h
    ·exact hv r h
    ·rw[N_.mp h];exact yS (ra z)
   ·exact hv r a2S
 obtain⟨ri,a6P,a6Q,h4⟩:∃ri:List Int,ri.length=n/\(∀x∈ri,Go x=false)/\∀(N:List NG) (names:List (NG×NameKind)),f6 N names (P (O rd) y8 y9 WU Xc (GS (.val (.tup (Z4.map .int)))))=[JT,JT,GS (.val F),GS (.val (.int (m.ss.length:Int)))]->bL (fT (f2 dD (a9 3) (fC (.int 2)))) (aE (aR a_ (a7 (fL (aZ N names (cq (a7 (f2 aA (a9 0) (fC (.int 0))) (ac))) (gN 1) (et) (f2 jg (f2 bw (f2 aA (a9 2) (f2 aV (f2 jY (fC (.int 2)) (a9 3)) (a9 1))) (fC (.int 2001))) (fC (.int 1000))))) (ac))) (gN 12)) (ay) (P (O rd) y8 y9 WU Xc (GS (.val (.tup (Z4.map .int)))))= .ok (.nx (P (O rd) y8 y9 WU Xc (GS (.val (.tup (ri.map .int)))))):=by
  have tm:fT (f2 dD (a9 3) (fC (.int 2))) (P (O rd) y8 y9 WU Xc (GS (.val (.tup (Z4.map .int)))))= .ok (decide (Ya=2)):=aI (ae (a:= .int Ya) (b:= .int 2) rfl rfl i3);by_cases z:Ya=2
  ·refine⟨(Ov n).map λk=>fg.getD (2*m.ss.length+k) 0%2001 - 1000,by simp,λx hx=>by
    obtain⟨k,_,rfl⟩:=Oz.mp hx;exact yS (by omega),λN names hR=> ?_⟩
   rw[eE (by rw[tm,decide_eq_true z])];refine aK (ax (a8 (nJ (qt (enc:=λk:Nat=>D.int (k:Int)) (l:=Ov n) (out:=λk=> .int (fg.getD (2*m.ss.length+k) 0%2001 - 1000)) (jz (a8 (ae (a:=M) rfl rfl JL) rfl) (by unfold lim;omega)) (by simp;omega) (rest:=[GS (.val F),GS (.val (.int (m.ss.length:Int)))]) hR λk hk=> ?_)) rfl) (by rw[OL];rfl)) rfl;have a0s:k<n:=OO.mp hk;have Ww:2*m.ss.length+k<fg.length:=by omega
   exact ae (ae (ae (a:=F) (b:= .int ((2*m.ss.length+k:Nat):Int)) (d:= .int (fg.getD (2*m.ss.length+k) 0)) rfl (ae (a:= .int (2*(m.ss.length:Int))) (b:= .int (k:Int)) (ae (a:= .int 2) (b:= .int (m.ss.length:Int)) rfl rfl (rO (by decide))) rfl (by rw[cN];congr 2)) (tL (2*m.ss.length+k) (by rw[O9,O5 Ww];simp[Ww]))) rfl (aD (by decide))) rfl pI
  ·exact⟨Z4,l3,λx hx=>yS (l4 x hx),λN names _=>by rw[c7 (by rw[tm,decide_eq_false z])];rfl⟩
 obtain⟨a0w,s7,a2x,a6R,h5⟩:∃(a0w:List Rd) (s7:Option Slot),a0w.Perm rd/\(a9 7:aa->R D) (P s7 y8 y9 WU Xc (GS (.val (.tup (ri.map .int)))))= .ok (.lst (a0w.map n9))/\bL (fT (f2 dD (f2 bw (f2 f7 (a9 1) (fC (.int 5))) (fC (.int 2))) (fC (.int 1)))) (aE (wH (a9 7)) (gN 7)) (ay) (P (O rd) y8 y9 WU Xc (GS (.val (.tup (ri.map .int)))))= .ok (.nx (P s7 y8 y9 WU Xc (GS (.val (.tup (ri.map .int)))))):=by
  have tt:fT (f2 dD (f2 bw (f2 f7 (a9 1) (fC (.int 5))) (fC (.int 2))) (fC (.int 1))) (P (O rd) y8 y9 WU Xc (GS (.val (.tup (ri.map .int)))))= .ok (decide (c / 5%2=1)):=aI (ae (ae (ae (a:= .int c) (b:= .int 5) rfl rfl (cM (by decide))) rfl (aD (by decide))) rfl i3);by_cases z:c / 5%2=1
  ·exact⟨rd.reverse,GS (.val (.lst (rd.reverse.map n9))),V4 rd,rfl,by rw[eE (by rw[tt,decide_eq_true z])];exact aK (d:= .lst (rd.reverse.map n9)) (by unfold wH;rw[show (a9 7:aa->R D) (P (O rd) y8 y9 WU Xc (GS (.val (.tup (ri.map .int)))))= .ok (.lst (rd.map n9))from rfl,ag,Vi]) rfl⟩
  ·exact⟨rd,O rd, .refl _,rfl,by rw[c7 (by rw[tt,decide_eq_false z])];rfl⟩
 refine⟨ri,a0w,aM rfl ?_,a6P,a6Q,?_,λr hr=>a6O r (a2x.mem_iff.mp hr)⟩
 rotate_left
 ·refine(a2x.map (·.1)).trans ?_
  rw[a6N,<-a6K,RD,l2]
 show iF [GS (.val M),GS (.val (.int c)),GS (.val (.bl mx)),JT,JT,JT,JT,JT,JT,JT,JT,JT,JT]=_;unfold iF;rw[ai (ρ':=[GS (.val M),GS (.val (.int c)),GS (.val (.bl mx)),GS (.val (.int Ya)),JT,JT,JT,JT,JT,JT,JT,JT,JT]) (aK (ae (a:= .int c) (b:= .int 5) rfl rfl (aD (by decide))) rfl)];rw[ai (ρ':=[GS (.val M),GS (.val (.int c)),GS (.val (.bl mx)),GS (.val (.int Ya)),GS (.val (.int (m.ss.length:Int))),JT,JT,JT,JT,JT,JT,JT,JT]) (aK (ax (a8 (ae (a:=M) rfl rfl Lv) rfl) (by rw[dF,NK])) rfl)];rw[ai (ρ':=[GS (.val M),GS (.val (.int c)),GS (.val (.bl mx)),GS (.val (.int Ya)),GS (.val (.int (m.ss.length:Int))),GS (.val F),JT,JT,JT,JT,JT,JT,JT]) (aK (aH (n:=4) (ds:=[.int (c / 10), .bl mx, .int ((2*m.ss.length+n:Nat):Int), .int 10010]) (a8 (ae (a:= .int c) (b:= .int 10) rfl rfl (cM (by decide))) (a8 rfl (a8 (ae (a:= .int (2*(m.ss.length:Int))) (b:= .int (n:Int)) (ae (a:= .int 2) (b:= .int (m.ss.length:Int)) rfl rfl (rO (by decide))) (ae (a:=M) rfl rfl JL) (by rw[cN];congr 2)) rfl))) rfl e1) rfl)];rw[ai (ρ':=P JT JT JT JT JT JT) (aK (aH (n:=5) (a8 rfl (a8 (ae (a:=M) rfl rfl JL) (a8 (ae (a:=M) rfl rfl Lv) (a8 (ae (a:=M) rfl rfl Lw) (a8 (ae (a:= .lst [.lst [.int 5000, .int 1000], .lst [.int 1, .int 1]]) rfl (ax (a8 (ae (a:= .int Ya) (b:= .int 2) rfl rfl jy) rfl) E7) a6J) rfl))))) rfl e2) rfl)];rw[ai (ρ':=P (O []) JT JT JT JT JT) rfl,ai e3,ai (ρ':=P (O rd) y8 y9 WU Xc (GS (.val (.tup (Z4.map .int))))) (aK (ae (a:=W) rfl rfl MW) rfl),ai (h4 _ _ rfl),ai h5];exact bG (bq (ds:=[.str "day passes", .tup (ri.map .int), .tup (a0w.map n9)]) (a8 rfl (a8 rfl (a8 (ax (a8 a6R rfl) rfl) rfl))) (show 3<=lim by decide))
end
section
variable {n:Nat} {m:Mo} {hs:List D}
theorem dP {a b:NG} (h:a="") (h2:b=""):fq a b="":=by rw[h,h2];rfl
theorem je (h:b=false):mI b w="":=by rw[h];rfl
theorem o7 {α:Type} {l:List α} {p:α->Bool} (h:∀x∈l,p x=false):l.any p=false:=by
 rw[UY];exact λx hx=>by rw[h x hx];simp
theorem sP (h:hs.length<60):p_ hs="":=je (decide_eq_false (by omega))
theorem A9 {nu:List Int} (h:∀x∈ns,x∈nu) (nd:ns.Nodup):qq nu ns="":=dP (je (o7 λx hx=>by rw[decide_eq_true (h x hx)];rfl)) (je (by rw[decide_eq_true nd];rfl))
theorem Hw {ms:List Int} (h:∀x∈ns,x∈ms):sJ ms ns="":=je (o7 λx hx=>by rw[decide_eq_true (h x hx)];rfl)
theorem Hx (h:∀x∈ns,Go x=false):LZ ns="":=je (o7 h)
def aN.Fine (n:Int) (m:Mo) (hs:List L2.Pu.D) (d:aN):Prop:=d.Fit/\d.W n m hs=""
theorem Mo.Ok.nun (g:m.Ok):m.nu.Nodup:=by
 rw[Mo.nu,SI,P9];exact g.inc.imp λh=>by omega
theorem uH (g:m.Ok) {ri:List Int} {rd:List Rd} (f:Eg n m ri rd) (h7:n<=7) (hd:m.ds.length<12) (hl:hs.length<60):(aN.pass ri rd).Fine (n:Int) m hs:=by
 have mem:∀x,x∈rd.map (·.1)<->x∈m.ms:=λx=>by
  rw[f.pm.mem_iff,OM,decide_eq_true_eq,g.per.mem_iff];exact⟨λh=>h.2,λh=>⟨g.sub x h,h⟩⟩
 have nd:(rd.map (·.1)).Nodup:=f.pm.nodup_iff.mpr (g.nun.filter _);have ll:rd.length<=12:=by
  have h1:=f.pm.length_eq;rw[NK]at h1;have h2:=Pt (λx=>decide (x∈m.mm)) m.nu;have h3:m.nu.length=m.ss.length:=NK ..;have:=g.len;omega
 refine⟨⟨by have:=f.len;omega,by omega⟩,?_⟩;exact dP (je (by rw[f.len,decide_eq_true rfl];rfl)) (dP (A9 (λx hx=>g.sub x ((mem x).mp hx)) nd) (dP (Hw λx hx=>(mem x).mp hx) (dP (je (o7 λx hx=>by rw[decide_eq_true ((mem x).mpr hx)];rfl))
  (dP (Hx f.rr) (dP (Hx λx hx=>by obtain⟨r,hr,rfl⟩:=Oz.mp hx;exact f.vr r hr) (dP (je (decide_eq_false (by omega))) (sP hl)))))))
theorem sQ {a b:Int} (ha:0<=a/\a<=n) (hb:0<=b/\b<=n) (WK:a≠b) (a6S:m.ss.length<12) (hl:hs.length<60):(aN.comes a b).Fine (n:Int) m hs:=by
 have o:∀x∈[a,b],Ho (n:Int) x=false:=λx hx=>by
  simp only[NW,OE,or_false]at hx;unfold Ho;simp only[R_,decide_eq_false_iff_not];rcases hx with rfl|rfl<;>omega
 exact⟨trivial,dP (dP (je (o7 o)) (je (decide_eq_false WK))) (dP (je (decide_eq_false (by omega))) (sP hl))⟩
theorem Bz {a:Int} (ha:a∈m.nu) (hl:hs.length<60):(aN.goes a).Fine (n:Int) m hs:=⟨trivial,dP (A9 (λx hx=>by rw[N_.mp hx];exact ha) (by simp)) (sP hl)⟩
theorem sR (h1:∀x∈ns,x∈m.nu/\x∉m.ms) (nd:ns.Nodup) (a1s:m.ms.length+ns.length<=10) (hl:hs.length<60):(aN.mcome ns).Fine (n:Int) m hs:=
 ⟨show ns.length<=40 by omega,dP (A9 (λx hx=>(h1 x hx).1) nd) (dP (je (o7 λx hx=>decide_eq_false (h1 x hx).2)) (dP (je (decide_eq_false (by omega))) (sP hl)))⟩
theorem Eh (g:m.Ok) {ns:List Int} (h1:∀x∈ns,x∈m.ms) (nd:ns.Nodup) (a6T:ns.length<=40) (hl:hs.length<60):(aN.mgo ns).Fine (n:Int) m hs:=
 ⟨a6T,dP (A9 (λx hx=>g.sub x (h1 x hx)) nd) (dP (Hw h1) (sP hl))⟩
theorem sS {n s f:Int} (hn:0<n) (hs:0<=s/\s<=n):(0<=(s+1+f%n)%(n+1)/\(s+1+f%n)%(n+1)<=n)/\s≠(s+1+f%n)%(n+1):=by
 have a:=Ph f (show n≠0 by omega);have b:=Pj f hn;generalize f%n=r at a b;have c:=Ph (s+1+r) (show n+1≠0 by omega);have d:=Pj (s+1+r) (show 0<n+1 by omega);refine⟨⟨c,by omega⟩,λe=> ?_⟩;by_cases h:s+1+r<n+1
 ·rw[V5 (by omega) h]at e;omega
 ·have:(s+1+r)%(n+1)=s+1+r - (n+1):=by
   have h2:(s+1+r - (n+1))%(n+1)=s+1+r - (n+1):=V5 (by omega) (by omega);rw[Int.sub_emod_right]at h2;exact h2
  omega
theorem jr {a:Bool} (h:ga ρ= .ok a) (h2:gb ρ= .ok b):fc ga gb ρ= .ok (a&&b):=by
 unfold fc;rw[h,ag];cases a
 ·rfl
 ·exact h2
theorem Aa {α:Type} (ds:List α) (f:α->D) (lo hi:Option Int):∃l:List α,L2.Pu.rN (ds.map f) lo hi=l.map f/\l.Sublist ds:=by
 unfold L2.Pu.rN;rw[<-List.map_drop,<-Sv];exact⟨_,rfl,(Rt _ _).trans (List.drop_sublist _ _)⟩
theorem vU {α:Type} (ds:List α) (f:α->D) (lo hi:Option Int):∃l:List α,Hk (.lst (ds.map f)) lo hi=GS (.lst (l.map f))/\l.Sublist ds:=by
 obtain⟨l,e,h⟩:=Aa ds f lo hi;exact⟨l,by rw[<-e];rfl,h⟩
theorem Ab {α:Type} (ds:List α) (f:α->D) (lo hi:Option Int):∃l:List α,Hk (.tup (ds.map f)) lo hi=GS (.tup (l.map f))/\l.Sublist ds:=by
 obtain⟨l,e,h⟩:=Aa ds f lo hi;unfold Hk;dsimp only;split
 ·exact⟨ds,rfl, .refl _⟩
 ·exact⟨l,by rw[e],h⟩
theorem sT {fl fh:aa->R (Option Int)} {d e:D} (h:f ρ= .ok d) (hl:fl ρ= .ok lo) (hh:fh ρ= .ok hi) (k:Hk d lo hi=GS e):vh f fl fh ρ= .ok e:=by
 unfold vh;rw[h,ag,hl,ag,hh,ag,k,cV]
theorem iY {i:Int} (h:f ρ= .ok (.int i)):gQ f ρ= .ok (GS i):=by unfold gQ;rw[h];rfl
def aN.dtO:Option aN->L2.Pu.D
 |some d=>d.dt
 |none=> .non
theorem tM (g:m.Ok) (q:m.Rg (n:Int)) (h7:n<=7) {tr:List Mo} (hl:hs.length=tr.length) (c:Int) (mx:Bool):∃r:Option aN,dM [.lst (dz (n:Int) tr m), .int c, .bl mx]= .ok (aN.dtO r)/\∀d,r=GS d->d.Fine (n:Int) m hs:=by
 obtain⟨fg,e1,l1,p1⟩:=dY (c / 64) mx 2 630 (by decide) (by decide);obtain⟨x0,x1,rfl⟩:∃x0 x1,fg=[x0,x1]:=by
  match fg,l1 with
  |[x0,x1],_=>exact⟨x0,x1,rfl⟩
 have a7v:=p1 x0 (by simp);let kd:=c%16;let bare:=(m.ss.filter λr=> !decide (r.1∈m.mm)).map (·.1);have a4b:∀x∈bare,x∈m.nu/\x∉m.ms:=λx hx=>by
  obtain⟨r,hr,rfl⟩:=Oz.mp hx;obtain⟨h1,h2⟩:=OM.mp hr;refine⟨Oz.mpr ⟨r,h1,rfl⟩,λz=> ?_⟩;rw[decide_eq_true (g.per.mem_iff.mpr z)]at h2;cases h2
 have a6U:bare.Nodup:=(List.Sublist.map (λr:xn=>r.1) (Uw (l:=m.ss))).nodup g.nun;let B:Option Slot:=GS (.own (.lst (bare.map .int)));let pa:=dz (n:Int) tr m;let Z (x y z:Option Slot):aa:=[GS (.val (.lst pa)),GS (.val (.int c)),GS (.val (.bl mx)),GS (.val (.int (n:Int))),GS (.val (.int (m.c+1))),GS (.val (.tup (m.ss.map aP))),GS (.val (.tup (m.mm.map .int))),GS (.val (.tup (m.ds.map (l8 (n:Int))))),GS (.val (.tup m.dd)),GS (.val (.int kd)),GS (.val (.lst [.int x0, .int x1])),x,y,z];have pl:pa.length=tr.length+1:=sO;have a7w:m.mm.length<=10:=by rw[g.per.length_eq];exact g.ten
 have f0:∀{x y z:Option Slot},f2 aA (a9 10) (fC (.int 0)) (Z x y z)= .ok (.int x0):=λ{x y z}=>ae (a:= .lst [.int x0, .int x1]) rfl rfl MV;have f1:∀{x y z:Option Slot},f2 aA (a9 10) (fC (.int 1)) (Z x y z)= .ok (.int x1):=λ{x y z}=>ae (a:= .lst [.int x0, .int x1]) rfl rfl MW;have tgt:∀{x y z:Option Slot} (j:Int),fT (f2 nH (a9 9) (fC (.int j))) (Z x y z)= .ok (decide (kd>j)):=λ{x y z} j=>aI (ae (a:= .int kd) (b:= .int j) rfl rfl jy);have a4S:∀{x y z:Option Slot} (j:Int),fT (f2 nG (a9 9) (fC (.int j))) (Z x y z)= .ok (decide (kd<j)):=λ{x y z} j=>aI (ae (a:= .int kd) (b:= .int j) rfl rfl j5);have a4c:∀{x y z:Option Slot} (j:Int),fT (f2 dD (a9 9) (fC (.int j))) (Z x y z)= .ok (decide (kd=j)):=λ{x y z} j=>aI (ae (a:= .int kd) (b:= .int j) rfl rfl i3);have a4d:∀{x y z:Option Slot} (j:Int),fT (f2 nH (aR aT (a7 (a9 0) (ac))) (fC (.int j))) (Z x y z)= .ok (decide ((pa.length:Int)>j)):=λ{x y z} j=>aI (ae (ax (a8 (d:= .lst pa) rfl rfl) g_) (b:= .int j) rfl jy);have a4e:∀{x y z:Option Slot},aR aT (a7 (a9 5) (ac)) (Z x y z)= .ok (.int (m.ss.length:Int)):=λ{x y z}=>ax (a8 (d:= .tup (m.ss.map aP)) rfl rfl) (by rw[dF,NK]);have a43:∀{x y z:Option Slot},aR aT (a7 (a9 6) (ac)) (Z x y z)= .ok (.int (m.mm.length:Int)):=λ{x y z}=>ax (a8 (d:= .tup (m.mm.map .int)) rfl rfl) (by rw[dF,NK]);have a6V:∀{y z:Option Slot},aR aT (a7 (a9 11) (ac)) (Z B y z)= .ok (.int (bare.length:Int)):=λ{y z}=>ax (a8 (d:= .lst (bare.map .int)) rfl rfl) (by rw[g_,NK]);have go:∃r:Option aN,iH [GS (.val (.lst pa)),GS (.val (.int c)),GS (.val (.bl mx)),JT,JT,JT,JT,JT,JT,JT,JT,JT,JT,JT]= .ok (.ret (aN.dtO r))/\∀d,r=GS d->d.Fine (n:Int) m hs:=by
  unfold iH;rw[ai (ρ':=[GS (.val (.lst pa)),GS (.val (.int c)),GS (.val (.bl mx)),GS (.val (.int (n:Int))),GS (.val (.int (m.c+1))),GS (.val (.tup (m.ss.map aP))),GS (.val (.tup (m.mm.map .int))),GS (.val (.tup (m.ds.map (l8 (n:Int))))),GS (.val (.tup m.dd)),JT,JT,JT,JT,JT]) (aK (ae (a:= .lst pa) (b:= .int (-1)) rfl rfl jP) rfl)];rw[ai (ρ':=[GS (.val (.lst pa)),GS (.val (.int c)),GS (.val (.bl mx)),GS (.val (.int (n:Int))),GS (.val (.int (m.c+1))),GS (.val (.tup (m.ss.map aP))),GS (.val (.tup (m.mm.map .int))),GS (.val (.tup (m.ds.map (l8 (n:Int))))),GS (.val (.tup m.dd)),GS (.val (.int kd)),JT,JT,JT,JT]) (aK (ae (a:= .int c) (b:= .int 16) rfl rfl (aD (by decide))) rfl)];rw[ai (ρ':=Z JT JT JT) (aK (aH (n:=4) (a8 (ae (a:= .int c) (b:= .int 64) rfl rfl (cM (by decide))) (a8 rfl (a8 rfl (a8 rfl rfl)))) rfl e1) rfl)];rw[ai (ρ':=Z B JT JT) (by
   refine own_of ?_;rw[cW (ds:=m.ss.map aP) rfl (by have:=g.len;rw[NK];unfold lim;omega) (τ:=[JT,JT,GS (.val (.tup (m.mm.map .int)))]) rfl (i6 (enc:=aP) (p:=λr=> !decide (r.1∈m.mm)) (out:=λr=> .int r.1) m.ss JT (λr _=>aI (ae (ae (a:=aP r) rfl rfl gK) (b:= .tup (m.mm.map .int)) rfl oH)) (λr _ _=>ae (a:=aP r) rfl rfl gK))];simp only[bare,OL];rfl)]
  have t1:fc (fT (f2 nH (a9 9) (fC (.int 13)))) (fT (f2 nH (aR aT (a7 (a9 0) (ac))) (fC (.int 1)))) (Z B JT JT)= .ok _:=jr (tgt 13) (a4d 1);cases c1:(decide (kd>13)&&decide ((pa.length:Int)>1))with
  |true=>
   have h2:(pa.length:Int)>1:=of_decide_eq_true (OW.mp c1).2;refine⟨GS .back,fF (by rw[eE (by rw[t1,c1])];exact bG (bq (ds:=[.str "take back"]) rfl (show 1<=lim by decide))),λd hd=> ?_⟩;cases hd;exact⟨trivial,je (decide_eq_false (by omega))⟩
  |false=>
  rw[ai (by rw[c7 (by rw[t1,c1])];rfl)];by_cases a1E:(pa.length:Int)>60
  ·exact⟨JT,fF (by rw[eE (by rw[a4d 60,decide_eq_true a1E])];exact bG rfl),λd hd=>by cases hd⟩
  rw[ai (by rw[c7 (by rw[a4d 60,decide_eq_false a1E])];rfl)];have Ww:hs.length<60:=by omega
  have t2:fc (fT (f2 nG (a9 9) (fC (.int 5)))) (fc (fT (f2 nH (a9 3) (fC (.int 0)))) (fT (f2 nG (aR aT (a7 (a9 5) (ac))) (fC (.int 12))))) (Z B JT JT)= .ok _:=jr (a4S 5) (jr (b:=decide ((m.ss.length:Int)<12)) (aI (ae (a:= .int (n:Int)) (b:= .int 0) rfl rfl jy)) (aI (ae a4e rfl j5)));cases c2:(decide (kd<5)&&(decide ((n:Int)>0)&&decide ((m.ss.length:Int)<12)))with
  |true=>
   obtain⟨_,a4T⟩:=OW.mp c2;have hn:(n:Int)>0:=of_decide_eq_true (OW.mp a4T).1;have a4O:(m.ss.length:Int)<12:=of_decide_eq_true (OW.mp a4T).2;let s:=x0%((n:Int)+1);have YE:0<=s/\s<=n:=⟨Ph _ (by omega),by have:=Pj x0 (show 0<(n:Int)+1 by omega);omega⟩;obtain⟨a6W,a6X⟩:=sS (f:=x1) hn YE;refine⟨GS (.comes s ((s+1+x1%(n:Int))%((n:Int)+1))),fF ?_,λd hd=> ?_⟩
   ·rw[eE (by rw[t2,c2]),ai (ρ':=Z B (GS (.val (.int s))) JT) (aK (ae f0 (ae (a:= .int (n:Int)) (b:= .int 1) rfl rfl cN) (aD (by omega))) rfl)]
    exact bG (bq (ds:=[.str "stream comes", .int s, .int ((s+1+x1%(n:Int))%((n:Int)+1))]) (a8 rfl (a8 rfl (a8 (ae (ae (ae (a:= .int s) (b:= .int 1) rfl rfl cN) (ae f1 (b:= .int (n:Int)) rfl (aD hn)) cN) (ae (a:= .int (n:Int)) (b:= .int 1) rfl rfl cN) (aD (by omega))) rfl))) (show 3<=lim by decide))
   ·cases hd
    exact sQ YE a6W a6X (by omega) Ww
  |false=>
  rw[ai (by rw[c7 (by rw[t2,c2])];rfl)];have t3:fc (fT (f2 dD (a9 9) (fC (.int 5)))) (fT (f2 nH (aR aT (a7 (a9 5) (ac))) (fC (.int 0)))) (Z B JT JT)= .ok _:=jr (b:=decide ((m.ss.length:Int)>0)) (a4c 5) (aI (ae a4e rfl jy));cases c3:(decide (kd=5)&&decide ((m.ss.length:Int)>0))with
  |true=>
   have h0:(m.ss.length:Int)>0:=of_decide_eq_true (OW.mp c3).2;obtain⟨k,hk⟩:∃k:Nat,x0%(m.ss.length:Int)=(k:Int):=⟨(x0%(m.ss.length:Int)).toNat,by have:=Ph x0 (show (m.ss.length:Int)≠0 by omega);omega⟩;have a4U:k<m.ss.length:=by have:=Pj x0 h0;omega
   refine⟨GS (.goes m.ss[k].1),fF ?_,λd hd=> ?_⟩
   ·rw[eE (by rw[t3,c3])]
    exact bG (bq (ds:=[.str "stream goes", .int m.ss[k].1]) (a8 rfl (a8 (ae (a:=aP m.ss[k]) (ae (a:= .tup (m.ss.map aP)) (b:= .int (k:Int)) rfl (ae f0 a4e (by rw[aD h0,hk])) (fW k (by rw[O9,O5 a4U];rfl))) rfl gK) rfl)) (show 2<=lim by decide))
   ·cases hd
    exact Bz (Oz.mpr ⟨_,Pl a4U,rfl⟩) Ww
  |false=>
  rw[ai (by rw[c7 (by rw[t3,c3])];rfl)];have t4:fc (fT (f2 (dE false) (a9 9) (bu (a7 (fC (.int 6)) (a7 (fC (.int 7)) (a7 (fC (.int 8)) (ac))))))) (fT (f2 tw (a9 11) (eI (ac)))) (Z B JT JT)= .ok _:=jr (b:= !bare.isEmpty) (aI (ae (a:= .int kd) (b:= .tup (([6,7,8]:List Int).map .int)) rfl (bq (ds:=([6,7,8]:List Int).map .int) rfl (by decide)) rQ)) (aI (ae (a:= .lst (bare.map .int)) (b:= .lst []) rfl rfl (by
   show GS (D.bl (!(bare.map D.int).isEmpty))=_;rw[RE])))
  cases c4:(decide (kd∈([6,7,8]:List Int))&& !bare.isEmpty)with
  |true=>
   have a7x:0<bare.length:=by
    have:=(OW.mp c4).2;cases hb:bare with
    |nil=>rw[hb]at this;cases this
    |cons a b=>simp
   obtain⟨ro,er,sr⟩:=vU bare D.int (GS (x0%(bare.length:Int))) JT;let k1:=1+c / 16%4;let k2:=10 - (m.mm.length:Int);let kk:Int:=if k2<k1 then k2 else k1
   have a3r:0<=k1:=by omega
   have a1d:0<=kk/\kk<=k2:=by simp only[kk];split<;>omega
   let Wz:=(ro.take kk.toNat).reverse;have fs:∀x∈Wz,x∈bare:=λx hx=>sr.subset (RY (Vg.mp hx));have a6Y:Wz.Nodup:=(V4 _).nodup_iff.mpr ((Rt _ _).nodup (sr.nodup a6U));have fl:Wz.length<=kk.toNat:=by simp only[Wz,Uu,Qc];omega
   refine⟨GS (.mcome Wz),fF ?_,λd hd=> ?_⟩
   ·rw[eE (by rw[t4,c4]),ai (ρ':=Z B JT (GS (.val (.lst ((ro.take kk.toNat).map .int))))) (aK (sT (sT (d:= .lst (bare.map .int)) rfl (iY (ae f0 a6V (aD (by omega)))) rfl er) rfl (iY (ax (a8 (ae (a:= .int 1) rfl (ae (ae (a:= .int c) (b:= .int 16) rfl rfl (cM (by decide))) (b:= .int 4) rfl (aD (by decide))) cN) (a8 (ae (a:= .int 10) rfl a43 pI) rfl)) vT)) (by rw[yR a1d.1,<-Sv])) rfl)]
    exact bG (bq (ds:=[.str "meters come", .tup (Wz.map .int)]) (a8 rfl (a8 (ax (a8 (d:= .lst (Wz.map .int)) (by
     unfold wH;rw[show (a9 13:aa->R D) (Z B JT (GS (.val (.lst ((ro.take kk.toNat).map .int)))))= .ok (.lst ((ro.take kk.toNat).map .int))from rfl,ag];simp only[Wz,Vi]) rfl) rfl) rfl)) (show 2<=lim by decide))
   ·cases hd
    exact sR (λx hx=>a4b x (fs x hx)) a6Y (by have:=g.per.length_eq;omega) Ww
  |false=>
  rw[ai (by rw[c7 (by rw[t4,c4])];rfl)];by_cases k9:kd=9
  ·obtain⟨l1,ea,sa⟩:=Ab m.mm D.int (GS (x0%((m.mm.length:Int)+1))) JT
   obtain⟨l2,eb,sb⟩:=Ab l1 D.int JT (GS (1+c / 16%4));have sm:=sb.trans sa;refine⟨GS (.mgo l2),fF ?_,λd hd=> ?_⟩
   ·rw[eE (by rw[a4c 9,decide_eq_true k9])]
    exact bG (bq (ds:=[.str "meters go", .tup (l2.map .int)]) (a8 rfl (a8 (sT (sT (d:= .tup (m.mm.map .int)) rfl (iY (ae f0 (ae a43 (b:= .int 1) rfl cN) (aD (by omega)))) rfl ea) rfl (iY (ae (a:= .int 1) rfl (ae (ae (a:= .int c) (b:= .int 16) rfl rfl (cM (by decide))) (b:= .int 4) rfl (aD (by decide))) cN)) eb) rfl)) (show 2<=lim by decide))
   ·cases hd
    exact Eh g (λx hx=>g.per.mem_iff.mp (sm.subset hx)) (sm.nodup (g.per.nodup_iff.mpr g.nd)) (by have:=sm.length_le;omega) Ww
  rw[ai (by rw[c7 (by rw[a4c 9,decide_eq_false k9])];rfl)];have t5:fc (fT (f2 nH (a9 9) (fC (.int 9)))) (fc (fT (f2 nG (a9 9) (fC (.int 14)))) (fT (f2 nG (aR aT (a7 (a9 7) (ac))) (fC (.int 12))))) (Z B JT JT)= .ok _:=jr (tgt 9) (jr (b:=decide ((m.ds.length:Int)<12)) (a4S 14) (aI (ae (ax (a8 (d:= .tup (m.ds.map (l8 (n:Int)))) rfl rfl) (by rw[dF,NK])) rfl j5)));cases c5:(decide (kd>9)&&(decide (kd<14)&&decide ((m.ds.length:Int)<12)))with
  |true=>
   have a4O:(m.ds.length:Int)<12:=of_decide_eq_true (OW.mp (OW.mp c5).2).2;obtain⟨ri,rd,e2,df⟩:=nj g q h7 (c / 16) mx;refine⟨GS (.pass ri rd),fF ?_,λd hd=> ?_⟩
   ·rw[eE (by rw[t5,c5])]
    exact bG (aH (n:=3) (a8 (ae (a:= .lst pa) (b:= .int (-1)) rfl rfl jP) (a8 (ae (a:= .int c) (b:= .int 16) rfl rfl (cM (by decide))) (a8 rfl rfl))) rfl e2)
   ·cases hd
    exact uH g df h7 (by omega) Ww
  |false=>
  rw[ai (by rw[c7 (by rw[t5,c5])];rfl)];exact⟨JT,bG rfl,λd hd=>by cases hd⟩
 obtain⟨r,e,hf⟩:=go;exact⟨r,aM rfl e,hf⟩
end
theorem LA {j:Nat} {k:Nat} {fs:aa->R (List D)} {ds:List D} {d:D} {p p':Slot} (h:cH ρ [i,j]=GS [s,p]) (ZL:i≠j) (k1:s.kind=2) (k2:p.kind=1) (h2:fs ρ= .ok ds) (hl:ds.length=k) (e:mf [s,p] ds= .ok (d,[s',p'])) (k3:s'.kind=2) (k4:p'.kind=1):bQ [i,j] mf k fs ρ= .ok (d,vo ρ [i,j] [s',p']):=by
 unfold bQ;rw[h];dsimp only;rw[if_pos ⟨by simp only[Pn,VT,k1,k2];rfl,by simp[ZL]⟩,h2,ag,if_pos hl,e];dsimp only;rw[if_pos (by simp only[NP,Pm,k1,k2,k3,k4])]
theorem Hy {gx:aa->R (Bool×aa)} (h:gx ρ= .ok (false,ρ')):B8 gx g g' ρ=g' ρ':=by unfold B8;rw[h];rfl
def m0:Mo:=⟨0,[],[],[],[],[]⟩
theorem LB:m0.Ok:=⟨.nil,λr h=>(by cases h),by decide, .refl _, .nil,λx h=>(by cases h),by decide,by decide⟩
theorem LC (n:Int):m0.Rg n:=⟨λr h=>(by cases h),λr h=>(by cases h)⟩
theorem tr0 (n:Int):Tr n [] m0 []:= .nil LB (LC n) rfl
theorem mh (ns:List Int) (k:Nat) {x:Int} (h:x=(k:Int)):aX [.scr ns, .int x]= .ok (.int (cl ns k)):=by rw[h];exact pW ns k
def BB (ns:List Int):Bool:=decide (cel ns 0%2=1)
theorem Ei (ns:List Int) {ρ:aa} (h:(ah 0:aa->R D) ρ= .ok (.scr ns)):f2 dD (f2 bw (av dg 2 (a7 (ah 0) (a7 (fC (.int 0)) (ac)))) (fC (.int 2))) (fC (.int 1)) ρ= .ok (.bl (BB ns)):=ae (ae (aH (n:=2) (a8 h (a8 rfl rfl)) rfl (MT ns)) rfl (aD (by decide))) rfl i3
theorem yT (ns:List Int):ja [.scr ns]= .ok (.lst (dz (cl ns 1%8) [] m0)):=by
 unfold ja L2.Pu.Gh;rw[if_pos (show [D.scr ns].length=1 from rfl)];show lK [GS (.val (.scr ns)),JT]=_;unfold lK zU;rw[aK (ρ':=[GS (.val (.scr ns)),GS (.val (.int (cl ns 1%8)))]) (ae (aH (n:=2) (a8 rfl (a8 rfl rfl)) rfl (mh ns 1 rfl)) rfl (aD (by decide))) rfl,ag]
 rfl
theorem BC {n:Int} (h0:0<=n) (h7:n<=7):eL [.int n]= .ok (jM n (bj n m0),"history",[]):=by
 unfold eL lz;rw[if_pos (show [D.int n].length=1 from rfl)];show (jl [GS .obj,GS (.val (.int n)),JT,JT,JT]>>=_)=_;unfold jl;rw[ai (ρ':=[GS .obj,GS (.val (.int n)),JT,JT,JT]) (by
  rw[c7]
  ·rfl
  ·unfold rJ
   rw[aI (ae (a:= .int n) (b:= .int 0) rfl rfl j5),ag,decide_eq_false (by omega),if_neg (by simp)];rw[aI (ae (a:= .int n) (b:= .int 7) rfl rfl jy),decide_eq_false (by omega)])]
 rfl
section
variable {n:Nat} {m:Mo} {hs:List D}
inductive sU (n:Int):Mo->List L2.Pu.D->List aN->Prop
 |nil {m:Mo} {hs:List L2.Pu.D}:sU n m hs []
 |cons {m:Mo} {hs:List L2.Pu.D} {d:aN} {ds:List aN}:d≠ .back->d.Fine n m hs->sU n (d.next m) (hs++[.tup [d.dt,bj n m]]) ds->sU n m hs (d::ds)
theorem uI {rest:List aN}:∀(l:List (Int×Int)) (m:Mo) (hs:List D),(∀p∈l,(0<=p.1/\p.1<=(n:Int))/\(0<=p.2/\p.2<=(n:Int))/\p.1≠p.2)->m.ss.length+l.length<=12->hs.length+l.length<=12-> (∀m' Wd,m'.ms=m.ms->m'.nu=m.nu++(Ov l.length).map (λk:Nat=>m.c+1+(k:Int))->Wd.length=hs.length+l.length->sU (n:Int) m' Wd rest)->sU (n:Int) m hs (l.map (λp=>aN.comes p.1 p.2)++rest)
 |[],m,hs,_,_,_,h=>h m hs rfl (by simp) (by simp)
 |p::l,m,hs,hv,h1,h2,h=>by
  have v:=hv p NZ;rw[O3]at h1 h2;refine .cons (by intro z;cases z) (sQ v.1 v.2.1 v.2.2 (by omega) (by omega)) ?_;refine uI l (m.comes p.1 p.2) _ (λq hq=>hv q (O1 _ hq)) (by show (m.ss++_).length+_<=12;rw[Oh,Pd];omega) (by rw[Oh,Pd];omega) λm' Wd e1 e2 e3=>h m' Wd e1 ?_ (by rw[e3,Oh,Pd,O3];omega);have ex:(Ov (l.length+1)).map (λk:Nat=>m.c+1+(k:Int))=(m.c+1)::(Ov l.length).map (λk:Nat=>m.c+1+1+(k:Int)):=by
   rw[List.range_succ_eq_map,NP,OL]
   congr 1
   ·simp
   ·exact R1 λk _=>by simp only[Function.comp,Nat.succ_eq_add_one];omega
  rw[e2,O3,ex];show (m.ss++[(m.c+1,p.1,p.2)]).map (·.1)++_=_;rw[Oo,PH];rfl
theorem qK (ns:List Int) (h7:n<=7):∃ds:List aN,gz [.scr ns, .int (n:Int)]= .ok (.lst (ds.map aN.dt))/\sU (n:Int) m0 [] ds:=by
 obtain⟨k,hk,a6Z,a0s⟩:∃k:Nat,(if (1:Int)<(n:Int)then (1:Int)else (n:Int))*(cl ns 2%13)=(k:Int)/\k<=12/\(0<k->0<n):=by
  have a:=Ph (cl ns 2) (show (13:Int)≠0 by decide);have b:=Pj (cl ns 2) (show (0:Int)<13 by decide);by_cases z:n=0
  ·exact⟨0,by rw[z];simp,by omega,λh=>absurd h (OA _)⟩
  ·have:(if (1:Int)<(n:Int)then (1:Int)else (n:Int))=1:=by split<;>omega
   exact⟨(cl ns 2%13).toNat,by rw[this];omega,by omega,λ_=>by omega⟩
 let mx:=BB ns;obtain⟨so,e4,l4,_⟩:=dY (cl ns 3) mx k 8 (by decide) (by omega);obtain⟨ta,e5,l5,_⟩:=dY (cl ns 4) mx k 7 (by decide) (by omega);obtain⟨fi,e6,l6,_⟩:=dY (cl ns 5 / 5) mx k 4 (by decide) (by omega);let sh:=cl ns 5%5;let P (y8 y9 WU Xc:Option Slot):aa:=[GS (.val (.scr ns)),GS (.val (.int (n:Int))),GS (.val (.bl mx)),GS (.val (.int (k:Int))),GS (.val (.lst (so.map .int))),GS (.val (.lst (ta.map .int))),GS (.val (.lst (fi.map .int))),GS (.val (.int sh)),y8,y9,WU,Xc];let O (ds:List aN):Option Slot:=GS (.own (.lst (ds.map aN.dt)));obtain⟨ρ',e8,ds,y9,WU,rfl,lp,ZG,hl,hf⟩:=pc (g:=gN 9) (gb:=fM) (n:=k) (fs:=a7 (ah 3) (ac)) (ρ:=P (O []) JT JT JT) (P:=λj ρ=>∃ds y9 WU,ρ=P (O ds) y9 WU JT/\∃l:List (Int×Int),ds=l.map (λp=>aN.comes p.1 p.2)/\l.length=j/\∀p∈l,(0<=p.1/\p.1<=(n:Int))/\(0<=p.2/\p.2<=(n:Int))/\p.1≠p.2) (a8 rfl rfl) (by omega) ⟨[],JT,JT,rfl,[],rfl,rfl,λd hd=>by cases hd⟩ λj hj ρ hρ=>by
  obtain⟨ds,y9,WU,rfl,lp,ZG,hl,hf⟩:=hρ;have a4f:ds.length=j:=by rw[ZG,NK,hl]
  have n0:=a0s (by omega);have a6_:j<so.length:=by omega
  have a70:j<ta.length:=by omega
  let J:Option Slot:=GS (.val (.int (j:Int)));let s:=so[j]%((n:Int)+1);have s1:aE (f2 bw (f2 aA (a9 4) (a9 9)) (f2 aV (a9 1) (fC (.int 1)))) (gN 10) (P (O ds) J WU JT)= .ok (.nx (P (O ds) J (GS (.val (.int s))) JT)):=aK (ae (ae (a:= .lst (so.map .int)) (b:= .int (j:Int)) rfl rfl (tL j (by rw[O9,O5 a6_];rfl))) (ae (a:= .int (n:Int)) (b:= .int 1) rfl rfl cN) (aD (by omega))) rfl;let t:=(s+1+ta[j]%(n:Int))%((n:Int)+1);have s2:bu (a7 (fC (.str "stream comes")) (a7 (ah 10) (a7 (f2 bw (f2 aV (f2 aV (a9 10) (fC (.int 1))) (f2 bw (f2 aA (a9 5) (a9 9)) (a9 1))) (f2 aV (a9 1) (fC (.int 1)))) (ac)))) (P (O ds) J (GS (.val (.int s))) JT)= .ok (aN.comes s t).dt:=
   bq (ds:=[.str "stream comes", .int s, .int t]) (a8 rfl (a8 rfl (a8 (ae (ae (ae (a:= .int s) (b:= .int 1) rfl rfl cN) (ae (ae (a:= .lst (ta.map .int)) (b:= .int (j:Int)) rfl rfl (tL j (by rw[O9,O5 a70];rfl))) rfl (aD (by omega))) cN) (ae (a:= .int (n:Int)) (b:= .int 1) rfl rfl cN) (aD (by omega))) rfl))) (show 3<=lim by decide)
  refine⟨P (O ds) J WU JT,P (O (ds++[.comes s t])) J (GS (.val (.int s))) JT,rfl, .inl ?_,_,_,_,rfl,lp++[(s,t)],by rw[ZG];simp,by simp[hl],λd hd=> ?_⟩
  ·unfold fM
   rw[ai s1];show (bu (a7 (fC (.str "stream comes")) (a7 (ah 10) (a7 (f2 bw (f2 aV (f2 aV (a9 10) (fC (.int 1))) (f2 bw (f2 aA (a9 5) (a9 9)) (a9 1))) (f2 aV (a9 1) (fC (.int 1)))) (ac)))) (P (O ds) J (GS (.val (.int s))) JT)>>=λd=>if (ds.map aN.dt).length<lim then R.ok (aF.nx ((P (O ds) J (GS (.val (.int s))) JT).set 8 (GS (.own (.lst (ds.map aN.dt++[d]))))))else .bad)=_;rw[s2,ag,if_pos (by rw[NK];unfold lim;omega),show ds.map aN.dt++[(aN.comes s t).dt]=(ds++[aN.comes s t]).map aN.dt by simp]
   rfl
  ·rcases OF.mp hd with hd|hd
   ·exact hf d hd
   ·rw[N_.mp hd]
    have YE:0<=s/\s<=(n:Int):=⟨Ph _ (by omega),by have:=Pj so[j] (show 0<(n:Int)+1 by omega);omega⟩;obtain⟨q1,q2⟩:=sS (f:=ta[j]) (show (0:Int)<n by omega) YE;exact⟨YE,q1,q2⟩
 let a71:=(Ov k).filter λj=>decide (fi.getD j 0<sh);let a0a:=a71.map λj:Nat=>(j:Int)+1;have a72:aZ ["_law_script","_law_n","_law_mixed","_law_many","_law_sources","_law_targets","_law_fitted","_law_share","_law_deeds","_law_k","_law_source","_law_named"] [(".0", .local),("_law_k", .local),("_law_fitted", .free),("_law_share", .free)] (cq (a7 (ah 3) (ac))) (gN 1) (fT (f2 nG (f2 aA (a9 2) (a9 1)) (a9 3))) (f2 aV (a9 1) (fC (.int 1))) (P (O ds) y9 WU JT)= .ok (a0a.map .int):=by
  rw[cW (jz (n:=k) (a8 rfl rfl) (by unfold lim;omega)) (by simp;unfold lim;omega) (τ:=[JT,JT,GS (.val (.lst (fi.map .int))),GS (.val (.int sh))]) rfl (i6 (enc:=λj:Nat=>D.int (j:Int)) (p:=λj=>decide (fi.getD j 0<sh)) (out:=λj=> .int ((j:Int)+1)) (Ov k) JT (λj hj=> ?_) (λj _ _=>ae (a:= .int (j:Int)) (b:= .int 1) rfl rfl cN)),OL]
  ·rfl
  ·have a4V:j<fi.length:=by have:=OO.mp hj;omega
   exact aI (ae (a:= .int (fi.getD j 0)) (b:= .int sh) (ae (a:= .lst (fi.map .int)) (b:= .int (j:Int)) rfl rfl (tL j (by rw[O9,O5 a4V];simp[a4V]))) rfl j5)
 have a4f:ds.length=k:=by rw[ZG,NK,hl]
 refine⟨ds++[.mcome (a0a.take 10)],aM rfl ?_,?_⟩
 ·show gw [GS (.val (.scr ns)),GS (.val (.int (n:Int))),JT,JT,JT,JT,JT,JT,JT,JT,JT,JT]=_
  unfold gw;rw[ai (ρ':=[GS (.val (.scr ns)),GS (.val (.int (n:Int))),GS (.val (.bl mx)),JT,JT,JT,JT,JT,JT,JT,JT,JT]) (aK (Ei ns rfl) rfl)];rw[ai (ρ':=[GS (.val (.scr ns)),GS (.val (.int (n:Int))),GS (.val (.bl mx)),GS (.val (.int (k:Int))),JT,JT,JT,JT,JT,JT,JT,JT]) (aK (ae (ax (a8 (d:= .int (n:Int)) rfl rfl) vT) (ae (aH (n:=2) (a8 rfl (a8 rfl rfl)) rfl (mh ns 2 rfl)) rfl (aD (by decide))) ((rO (by split<;>omega)).trans (by rw[hk]))) rfl)];rw[ai (ρ':=[GS (.val (.scr ns)),GS (.val (.int (n:Int))),GS (.val (.bl mx)),GS (.val (.int (k:Int))),GS (.val (.lst (so.map .int))),JT,JT,JT,JT,JT,JT,JT]) (aK (aH (n:=4) (a8 (aH (n:=2) (a8 rfl (a8 rfl rfl)) rfl (mh ns 3 rfl)) rfl) rfl e4) rfl)];rw[ai (ρ':=[GS (.val (.scr ns)),GS (.val (.int (n:Int))),GS (.val (.bl mx)),GS (.val (.int (k:Int))),GS (.val (.lst (so.map .int))),GS (.val (.lst (ta.map .int))),JT,JT,JT,JT,JT,JT]) (aK (aH (n:=4) (a8 (aH (n:=2) (a8 rfl (a8 rfl rfl)) rfl (mh ns 4 rfl)) rfl) rfl e5) rfl)];rw[ai (ρ':=[GS (.val (.scr ns)),GS (.val (.int (n:Int))),GS (.val (.bl mx)),GS (.val (.int (k:Int))),GS (.val (.lst (so.map .int))),GS (.val (.lst (ta.map .int))),GS (.val (.lst (fi.map .int))),JT,JT,JT,JT,JT]) (aK (aH (n:=4) (a8 (ae (aH (n:=2) (a8 rfl (a8 rfl rfl)) rfl (mh ns 5 rfl)) rfl (cM (by decide))) rfl) rfl e6) rfl)];rw[ai (ρ':=P JT JT JT JT) (aK (ae (aH (n:=2) (a8 rfl (a8 rfl rfl)) rfl (mh ns 5 rfl)) rfl (aD (by decide))) rfl)];rw[ai (ρ':=P (O []) JT JT JT) rfl,ai e8,ai (ρ':=P (O ds) y9 WU (GS (.own (.lst (a0a.map .int))))) (own_of a72)];refine bG (ae (a:= .lst (ds.map aN.dt)) (b:= .lst [(aN.mcome (a0a.take 10)).dt]) rfl ?_ (by rw[yr (by simp;unfold lim;omega)];simp));unfold eI;rw[a8 (ds:=[]) (d:=(aN.mcome (a0a.take 10)).dt) (bq (ds:=[.str "meters come", .tup ((a0a.take 10).map .int)]) (a8 rfl (a8 (ax (a8 (d:= .lst ((a0a.take 10).map .int)) (by unfold vh;rw[show (a9 11:aa->R D) (P (O ds) y9 WU (GS (.own (.lst (a0a.map .int)))))= .ok (.lst (a0a.map .int))from rfl,ag];show R.of (Hk (.lst (a0a.map .int)) JT (GS 10))=_;rw[yR (by decide),cV,Sv];rfl) rfl) rfl) rfl)) (show 2<=lim by decide)) rfl,ag];exact if_pos (show 1<=lim by decide)
 ·rw[ZG]
  refine uI lp m0 [] hf (by show 0+lp.length<=12;omega) (by show 0+lp.length<=12;omega) λm' Wd e1 e2 e3=> .cons (by intro z;cases z) (sR (λx hx=> ?_) ?_ ?_ (by rw[e3];show 0+lp.length<60;omega)) .nil
  ·obtain⟨j,hj,rfl⟩:=Oz.mp (RY hx)
   have a7y:=OO.mp (OM.mp hj).1;refine⟨?_,by rw[e1];exact OE⟩;rw[e2];exact O7 _ (Oz.mpr ⟨j,OO.mpr (by omega),by show (0:Int)+1+(j:Int)=(j:Int)+1;omega⟩)
  ·refine(Rt _ _).nodup ?_
   simp only[a0a];rw[SI,P9];exact(Uw.nodup T1).imp λh=>by omega
  ·rw[e1]
   show 0+(a0a.take 10).length<=10;rw[Qc];omega
end
section
variable {n:Nat} {m:Mo} {hs:List D}
theorem MZ {k:Nat} {fs:aa->R (List D)} {rest:aa} {ds:List D} {d:D} (h0:s.kind=2) (h2:fs (GS s::rest)= .ok ds) (hl:ds.length=k) (e:mf [s] ds= .ok (d,[s'])) (hk:s'.kind=2):bQ [0] mf k fs (GS s::rest)= .ok (d,GS s'::rest):=by
 unfold bQ;rw[show cH (GS s::rest) [0]=GS [s]from rfl];dsimp only;rw[if_pos ⟨by simp[h0],by simp⟩,h2,ag,if_pos hl,e];dsimp only;rw[if_pos (show Te Slot.kind [s']=Te Slot.kind [s] by simp only[NP,Pm,h0,hk])]
 rfl
theorem uJ {p p':Slot} {d a:D} (k1:s.kind=2) (k2:s'.kind=2) (hd:jE [s] [d]= .ok (a,[s'])) (h:(fT (f2 dD (f2 aA (a9 2) (fC (.int 0))) (fC (.str "take back"))) [GS s',GS p,GS (.val d)]= .ok true/\uB 1 [GS s',GS p,GS (.val d)]= .ok (.nx [GS s',GS p',GS (.val d)]))\/(fT (f2 dD (f2 aA (a9 2) (fC (.int 0))) (fC (.str "take back"))) [GS s',GS p,GS (.val d)]= .ok false/\nF 1 (av dS 2 (a7 (f2 aA (a9 1) (f1 gj (fC (.int 1)))) (a7 (ah 2) (ac)))) [GS s',GS p,GS (.val d)]= .ok (.nx [GS s',GS p',GS (.val d)]))):kA (eu 1 [s,p] [d])= .ok (.nx [GS s',GS p',GS (.val d)]):=by
 rw[show eu 1 [s,p] [d]=[GS s,GS p,GS (.val d)]from rfl];unfold kA;rw[ai (sH (MZ (k:=1) (fs:=a7 (ah 2) ac) (rest:=[GS p,GS (.val d)]) (ds:=[d]) k1 rfl rfl hd k2))];rcases h with ⟨h1,h2⟩|⟨h1,h2⟩
 ·rw[eE h1,h2]
 ·rw[c7 h1,h2]
theorem xx {tr:List Mo} (t:Tr (n:Int) tr m hs) (d:aN) (f:d.Fine (n:Int) m hs):∃Yh m' Wd,Tr (n:Int) Yh m' Wd/\d6 [az (n:Int) (bj (n:Int) m) hs,pO (n:Int) tr m] [d.dt]= .ok (.non,[az (n:Int) (bj (n:Int) m') Wd,pO (n:Int) Yh m'])/\(d≠ .back->Yh=tr++[m]/\m'=d.next m/\Wd=hs++[.tup [d.dt,bj (n:Int) m]]):=by
 obtain⟨hf,hw⟩:=f;have g:=t.ok;by_cases hb:d= .back
 ·subst hb
  have a73:hs.length≠0:=of_decide_eq_false (gL hw);cases t with
  |nil _ _ _=>exact absurd rfl a73
  | @snoc tr0 ma YE _ e t0 _ _ a4L _ a7z=>
   have a4g:pi (jE [az (n:Int) (bj (n:Int) m) (YE++[.tup [e,bj (n:Int) ma]])] [aN.back.dt]) (az (n:Int) (bj (n:Int) m) (YE++[.tup [e,bj (n:Int) ma]])) "" e (az (n:Int) (bj (n:Int) ma) YE):=Gv ⟨λz=>absurd rfl z,λ_=>Bv⟩;have h4:fT (f2 dD (f2 aA (a9 2) (fC (.int 0))) (fC (.str "take back"))) [GS (az (n:Int) (bj (n:Int) ma) YE),GS (pO (n:Int) (tr0++[ma]) m),GS (.val aN.back.dt)]= .ok true:=ng (i:=2) (s:="take back") (l:=[]) rfl rfl;have h5:uB 1 [GS (az (n:Int) (bj (n:Int) ma) YE),GS (pO (n:Int) (tr0++[ma]) m),GS (.val aN.back.dt)]= .ok (.nx [GS (az (n:Int) (bj (n:Int) ma) YE),GS (pO (n:Int) tr0 ma),GS (.val aN.back.dt)]):=by
    show (match (dz (n:Int) (tr0++[ma]) m)[(dz (n:Int) (tr0++[ma]) m).length - 1]? with|some _=>R.ok (aF.nx (([GS (az (n:Int) (bj (n:Int) ma) YE),GS (pO (n:Int) (tr0++[ma]) m),GS (.val aN.back.dt)]:aa).set 1 (GS (.own (.lst (dz (n:Int) (tr0++[ma]) m).dropLast)))))|none=> .bad)=_;unfold pO dz;rw[Oo (l₁:=tr0++[ma]),NP,Pm,Um,show (Te (bE (n:Int)) (tr0++[ma])++[bE (n:Int) m])[(Te (bE (n:Int)) (tr0++[ma])++[bE (n:Int) m]).length - 1]? =GS (bE (n:Int) m) by simp]
    rfl
   exact⟨tr0,ma,YE,t0,qU ⟨rfl,rfl⟩ (uJ rfl rfl (a4g.2 rfl) (.inl ⟨h4,h5⟩)) rfl,λz=>absurd rfl z⟩
 ·have a4g:=Gu g d hb hf (n:=(n:Int)) (hs:=hs)
  have a3w:∀ri rd,d= .pass ri rd->(rd.map (·.1)).Nodup:=λri rd e=>by subst e;exact aN.nodup (n:=(n:Int)) (hs:=hs) ri rd hw
  have a0x:=xu g d hf (by have:=t.dl;omega) a3w hb (n:=(n:Int));have a74:∀{ρ:aa},ρ[2]? =GS (GS (.val d.dt))->fT (f2 dD (f2 aA (a9 2) (fC (.int 0))) (fC (.str "take back"))) ρ= .ok false:=λ{ρ} h=>by
   cases d with
   |back=>exact absurd rfl hb
   |_=>exact cT h (by decide)
  let s':=az (n:Int) (bj (n:Int) (d.next m)) (hs++[.tup [d.dt,bj (n:Int) m]]);have h5:nF 1 (av dS 2 (a7 (f2 aA (a9 1) (f1 gj (fC (.int 1)))) (a7 (ah 2) (ac)))) [GS s',GS (pO (n:Int) tr m),GS (.val d.dt)]= .ok (.nx [GS s',GS (pO (n:Int) (tr++[m]) (d.next m)),GS (.val d.dt)]):=by
   show (av dS 2 (a7 (f2 aA (a9 1) (f1 gj (fC (.int 1)))) (a7 (ah 2) (ac))) [GS s',GS (pO (n:Int) tr m),GS (.val d.dt)]>>=λx=>if (dz (n:Int) tr m).length<lim then R.ok (aF.nx (([GS s',GS (pO (n:Int) tr m),GS (.val d.dt)]:aa).set 1 (GS (.own (.lst (dz (n:Int) tr m++[x]))))))else .bad)=_;rw[aH (n:=2) (ds:=[bE (n:Int) m,d.dt]) (a8 (ae (a:= .lst (dz (n:Int) tr m)) (b:= .int (-1)) rfl rfl jP) (a8 rfl rfl)) rfl a0x,ag,if_pos (by rw[sO,<-t.len];have:=t.le;unfold lim;omega)];unfold pO dz;rw[Oo (l₁:=tr++[m]),NP,Pm]
   rfl
  exact⟨tr++[m],d.next m,_, .snoc t (d.ok g hw) (d.rg hf g t.rg hw) (d.dd hb) (d.lt60 hb hw) (d.wf hf),qU ⟨rfl,rfl⟩ (uJ rfl rfl (a4g.2 hw) (.inr ⟨a74 rfl,h5⟩)) rfl,λ_=>⟨rfl,rfl,rfl⟩⟩
end
theorem iZ {α:Type} {f:α->D} (h:∀a,fX "history" (f a)):∀l:List α,Cleans "history" (l.map f)
 |[]=> .nil
 |a::l=> .cons (h a) (iZ h l)
theorem kK (l:List Int):fX "history" (.tup (l.map .int)):= .tup (iZ (λi=> .int i) l)
theorem xy (r:Rd):fX "history" (n9 r):= .tup (.cons (.int _) (.cons (.int _) .nil))
theorem Ej (d:aN):fX "history" d.dt:=by
 cases d with
 |comes a b=>exact .tup (.cons (.str _) (.cons (.int _) (.cons (.int _) .nil)))
 |goes a=>exact .tup (.cons (.str _) (.cons (.int _) .nil))
 |mcome ns=>exact .tup (.cons (.str _) (.cons (kK ns) .nil))
 |mgo ns=>exact .tup (.cons (.str _) (.cons (kK ns) .nil))
 |pass ri rd=>exact .tup (.cons (.str _) (.cons (kK ri) (.cons (.tup (iZ xy rd)) .nil)))
 |back=>exact .tup (.cons (.str _) .nil)
theorem BD (r:Option aN):fX "history" (aN.dtO r):=by
 cases r with
 |none=>exact .non
 |some d=>exact Ej d
abbrev LS (n:Nat) (m:Mo) (hs:List D):Slot:=az (n:Int) (bj (n:Int) m) hs
theorem yU (ns:List Int) {n:Nat} (h7:n<=7) (Wa:ns.length<=63):∃tr m hs,Tr (n:Int) tr m hs/\lN [LS n m0 [],pO (n:Int) [] m0] [.scr ns]= .ok (bE (n:Int) m,[LS n m hs,pO (n:Int) tr m]):=by
 obtain⟨ds,ef,ZR⟩:=qK (n:=n) ns h7;let B:Option Slot:=GS (.val (.bl (BB ns)));let F (s p:Slot) (y z:Option Slot):aa:=[GS s,GS p,GS (.val (.scr ns)),B,y,z];have a1F:∀{tr m hs} (t:Tr (n:Int) tr m hs) (d:aN) (_:d.Fine (n:Int) m hs) {fs:aa->R (List D)} {y z:Option Slot},fs (F (LS n m hs) (pO (n:Int) tr m) y z)= .ok [d.dt]->∃Yh m' Wd,Tr (n:Int) Yh m' Wd/\bH (bQ [0,1] d6 1 fs) (F (LS n m hs) (pO (n:Int) tr m) y z)= .ok (.nx (F (LS n m' Wd) (pO (n:Int) Yh m') y z))/\(d≠ .back->Yh=tr++[m]/\m'=d.next m/\Wd=hs++[.tup [d.dt,bj (n:Int) m]]):=λ{tr m hs} t d f {fs y z} h=>by
  obtain⟨Yh,m',Wd,t',e,k⟩:=xx t d f;exact⟨Yh,m',Wd,t',sH (LA (i:=0) (j:=1) (k:=1) rfl (by decide) rfl rfl h rfl e rfl rfl),k⟩
 have a2y:∀(ds:List aN) tr m hs y,sU (n:Int) m hs ds->Tr (n:Int) tr m hs->∃Yh m' Wd y',Tr (n:Int) Yh m' Wd/\dc (gN 4) kB (ds.map aN.dt) (F (LS n m hs) (pO (n:Int) tr m) y JT)= .ok (.nx (F (LS n m' Wd) (pO (n:Int) Yh m') y' JT)):=λds=>by
  induction ds with
  |nil=>exact λtr m hs y _ t=>⟨tr,m,hs,y,t,rfl⟩
  |cons d ds ih=>
   intro tr m hs y c t;cases c with
   |cons hb hf c=>
    obtain⟨a2z,m1,a1D,t1,e1,k⟩:=a1F (y:=GS (.val d.dt)) (z:=JT) (fs:=a7 (ah 4) (ac)) t d hf rfl;obtain⟨rfl,rfl,rfl⟩:=k hb;obtain⟨ZP,m2,Yy,y2,t2,e2⟩:=ih _ _ _ (GS (.val d.dt)) c t1;exact⟨ZP,m2,Yy,y2,t2,by rw[NP,i9 (ρ1:=F (LS n m hs) (pO (n:Int) tr m) (GS (.val d.dt)) JT) rfl (show kB _=_ from e1),e2]⟩
 have a2A:∀(ks:List Nat) tr m hs y z,Tr (n:Int) tr m hs->∃Yh m' Wd y' z',Tr (n:Int) Yh m' Wd/\dc (gN 5) dU (ks.map λk:Nat=>D.int (k:Int)) (F (LS n m hs) (pO (n:Int) tr m) y z)= .ok (.nx (F (LS n m' Wd) (pO (n:Int) Yh m') y' z')):=λks=>by
  induction ks with
  |nil=>exact λtr m hs y z t=>⟨tr,m,hs,y,z,t,rfl⟩
  |cons k ks ih=>
   intro tr m hs y z t;let K:Option Slot:=GS (.val (.int (k:Int)));obtain⟨r,er,hr⟩:=tM (n:=n) t.ok t.rg h7 t.len (cl ns k) (BB ns);have ea:aE (hJ "history" [1] (av dM 3 (a7 (ah 1) (a7 (av aX 2 (a7 (ah 2) (a7 (ah 5) (ac)))) (a7 (ah 3) (ac)))))) (gN 4) (F (LS n m hs) (pO (n:Int) tr m) y K)= .ok (.nx (F (LS n m hs) (pO (n:Int) tr m) (GS (.val (aN.dtO r))) K)):=
    aK (d:=aN.dtO r) (pq rfl (show av dM 3 (a7 (ah 1) (a7 (av aX 2 (a7 (ah 2) (a7 (ah 5) (ac)))) (a7 (ah 3) (ac)))) (F (LS n m hs) (.val (.lst (dz (n:Int) tr m))) y K)= .ok (aN.dtO r)from aH (n:=3) (a8 rfl (a8 (aH (n:=2) (a8 rfl (a8 rfl rfl)) rfl (pW ns k)) (a8 rfl rfl))) rfl er) (BD r)) rfl
   cases r with
   |none=>
    obtain⟨ZP,m2,Yy,y2,z2,t2,e2⟩:=ih tr m hs (GS (.val .non)) K t;refine⟨ZP,m2,Yy,y2,z2,t2,?_⟩;rw[NP,i9 (ρ1:=F (LS n m hs) (pO (n:Int) tr m) y K) rfl (show dU _= .ok (.nx (F (LS n m hs) (pO (n:Int) tr m) (GS (.val .non)) K)) by
     unfold dU;rw[ai ea,c7 (aI (ae (a:= .non) (b:= .non) rfl rfl rfl))]
     rfl),e2]
   |some d=>
    obtain⟨a2z,m1,a1D,t1,e1,_⟩:=a1F (y:=GS (.val d.dt)) (z:=K) (fs:=a7 (ah 4) (ac)) t d (hr d rfl) rfl;obtain⟨ZP,m2,Yy,y2,z2,t2,e2⟩:=ih a2z m1 a1D (GS (.val d.dt)) K t1;refine⟨ZP,m2,Yy,y2,z2,t2,?_⟩;rw[NP,i9 (ρ1:=F (LS n m hs) (pO (n:Int) tr m) y K) rfl (show dU _= .ok (.nx (F (LS n m1 a1D) (pO (n:Int) a2z m1) (GS (.val d.dt)) K)) by
     unfold dU;rw[ai ea,eE (aI (b:=true) (ae (a:=d.dt) (b:= .non) rfl rfl (by cases d<;>rfl)))];exact e1),e2]
 obtain⟨a2z,m1,a1D,y1,t1,e1⟩:=a2y ds [] m0 [] JT ZR (tr0 _);obtain⟨ZP,m2,Yy,y2,z2,t2,e2⟩:=a2A (List.range' 6 (ns.length - 6)) a2z m1 a1D y1 JT t1;have Wz:∃tr m hs,Tr (n:Int) tr m hs/\bL (fc (fT (f2 nG (aR aT (a7 (a9 1) (ac))) (fC (.int 61)))) (fT (f2 nG (aR aT (a7 (f2 aA (f2 aA (a9 1) (f1 gj (fC (.int 1)))) (fC (.int 4))) (ac))) (fC (.int 12)))))
   (bH (bQ [0,1] d6 1 (a7 (av cO 3 (a7 (f2 aA (a9 1) (f1 gj (fC (.int 1)))) (a7 (av aX 2 (a7 (ah 2) (a7 (f2 aV (fC (.int 6)) (aR aT (a7 (a9 2) (ac)))) (ac)))) (a7 (ah 3) (ac))))) (ac))))
   (ay) (F (LS n m2 Yy) (pO (n:Int) ZP m2) y2 z2)= .ok (.nx (F (LS n m hs) (pO (n:Int) tr m) y2 z2)):=by
  have ix:f2 aA (a9 1) (f1 gj (fC (.int 1))) (F (LS n m2 Yy) (pO (n:Int) ZP m2) y2 z2)= .ok (bE (n:Int) m2):=ae (a:= .lst (dz (n:Int) ZP m2)) (b:= .int (-1)) rfl rfl jP;have tt:fc (fT (f2 nG (aR aT (a7 (a9 1) (ac))) (fC (.int 61)))) (fT (f2 nG (aR aT (a7 (f2 aA (f2 aA (a9 1) (f1 gj (fC (.int 1)))) (fC (.int 4))) (ac))) (fC (.int 12)))) (F (LS n m2 Yy) (pO (n:Int) ZP m2) y2 z2)= .ok _:=
   jr (a:=decide (((dz (n:Int) ZP m2).length:Int)<61)) (b:=decide ((m2.ds.length:Int)<12)) (aI (ae (ax (a8 (d:= .lst (dz (n:Int) ZP m2)) rfl rfl) g_) (b:= .int 61) rfl j5)) (aI (ae (ax (a8 (ae ix rfl J_) rfl) (by rw[dF,NK])) (b:= .int 12) rfl j5))
  cases c:(decide (((dz (n:Int) ZP m2).length:Int)<61)&&decide ((m2.ds.length:Int)<12))with
  |false=>exact⟨ZP,m2,Yy,t2,by rw[c7 (by rw[tt,c])];rfl⟩
  |true=>
   have h1:=of_decide_eq_true (OW.mp c).1;have h2:=of_decide_eq_true (OW.mp c).2;rw[sO]at h1;have hl:=t2.len;obtain⟨ri,rd,e3,df⟩:=nj t2.ok t2.rg h7 (cl ns (6+ns.length)) (BB ns);obtain⟨a2B,m3,a2T,t3,e4,_⟩:=a1F (y:=y2) (z:=z2) (fs:=a7 (av cO 3 (a7 (f2 aA (a9 1) (f1 gj (fC (.int 1)))) (a7 (av aX 2 (a7 (ah 2) (a7 (f2 aV (fC (.int 6)) (aR aT (a7 (a9 2) (ac)))) (ac)))) (a7 (ah 3) (ac))))) (ac)) t2 (.pass ri rd) (uH t2.ok df h7 (by omega) (by omega)) (a8 (aH (n:=3) (a8 ix (a8 (aH (n:=2) (a8 rfl (a8 (d:= .int ((6+ns.length:Nat):Int)) (ae (a:= .int 6) (b:= .int (ns.length:Int)) rfl (ax rfl yt) (by rw[cN];congr 2)) rfl)) rfl (pW ns (6+ns.length))) (a8 rfl rfl))) rfl e3) rfl);exact⟨a2B,m3,a2T,t3,by rw[eE (by rw[tt,c])];exact e4⟩
 obtain⟨a2B,m3,a2T,t3,e3⟩:=Wz;refine⟨a2B,m3,a2T,t3,mG ⟨rfl,rfl⟩ (ρ:=F (LS n m3 a2T) (pO (n:Int) a2B m3) y2 z2) ?_ rfl⟩;show lM [GS (LS n m0 []),GS (pO (n:Int) [] m0),GS (.val (.scr ns)),JT,JT,JT]=_;unfold lM;rw[ai (ρ':=F (LS n m0 []) (pO (n:Int) [] m0) JT JT) (aK (ae (ae (aH (n:=2) (a8 rfl (a8 rfl rfl)) rfl (MT ns)) (b:= .int 2) rfl (aD (by decide))) (b:= .int 1) rfl i3) rfl)];rw[ai ((nI (by
  unfold bv;rw[aH (n:=2) (ds:=[.scr ns, .int (n:Int)]) (a8 rfl (a8 (ae (ae (a:= .lst (dz (n:Int) [] m0)) rfl rfl (tL 0 rfl)) rfl JL) rfl)) rfl ef]
  rfl)).trans e1)]
 rw[ai ((nI (by
  unfold my;rw[a8 (d:= .int 6) rfl (a8 (ax rfl yt) rfl),ag];show (if (6:Int).natAbs<=lim/\(ns.length:Int).natAbs<=lim then R.ok (gi 6 (ns.length:Int))else .bad)=_;rw[if_pos ⟨by decide,by unfold lim;omega⟩];unfold gi;rw[show ((ns.length:Int) - 6).toNat=ns.length - 6 by omega,List.range'_eq_map_range,OL]
  congr 1)).trans e2),ai e3]
 exact vI (ae (a:= .lst (dz (n:Int) a2B m3)) (b:= .int (-1)) rfl rfl jP)
def K1 (x:Int×Int):D:= .tup [.int x.1, .int x.2]
def mW (ps:List (Int×Int)):List (aU×D):=ps.map λx=>(PM x.1, .int x.2)
theorem xz (ps:List (Int×Int)):jA (ps.map K1)=GS (mW ps):=by
 induction ps with
 |nil=>rfl
 |cons x r ih=>
  show (iq (.int x.1)).bind (λW3=>(jA (r.map K1)).map λps=>(W3,D.int x.2)::ps)=_;rw[ih]
  rfl
def L_ (ps:List (Int×Int)):List (aU×D):=jh [] (mW ps)
theorem Ek {pd:D} (h:pd= .lst (ps.map K1)\/pd= .tup (ps.map K1)):zG [pd]=GS (.dic (L_ ps)):=by
 rcases h with rfl|rfl
 ·show (jA (ps.map K1)).map (λqs=>D.dic (jh [] qs))=_
  rw[xz];rfl
 ·show (jA (ps.map K1)).map (λqs=>D.dic (jh [] qs))=_
  rw[xz];rfl
theorem GA {WN:List (aU×D)} {k:aU} {v:D} (h:k∉WN.map (·.1)):wD WN k v=WN++[(k,v)]:=by
 unfold wD;rw[if_neg];intro z;obtain⟨kv,h1,h2⟩:=OC.mp z;exact h (Oz.mpr ⟨kv,h1,by simpa using h2⟩)
theorem El (ps:List (Int×Int)) (n:Int):(PM n:aU)∈(mW ps).map (·.1)<->n∈ps.map (·.1):=by
 unfold mW;rw[OL];constructor
 ·intro h
  obtain⟨p,hp,e⟩:=Oz.mp h;cases e;exact List.mem_map_of_mem hp
 ·intro h
  obtain⟨p,hp,rfl⟩:=Oz.mp h;exact Oz.mpr ⟨p,hp,rfl⟩
theorem GB {p:Int×Int} (h:p.1∉ps.map (·.1)):wD (mW ps) (PM p.1) (.int p.2)=mW (ps++[p]):=by
 rw[GA (λz=>h ((El ps p.1).mp z))];simp[mW]
theorem GC (nd:(ps.map (·.1)).Nodup):L_ ps=mW ps:=by
 have W3:∀(b a:List (Int×Int)),((a++b).map (·.1)).Nodup->jh (mW a) (mW b)=mW (a++b):=by
  intro b
  induction b with
  |nil=>intro a _;simp[jh,mW]
  |cons p b ih=>
   intro a nd;show jh (wD (mW a) (PM p.1) (.int p.2)) (mW b)=_;have hp:p.1∉a.map (·.1):=by
    rw[Oo,NP]at nd;have:=(Qo.mp nd).2.2;intro z;exact this _ z p.1 NZ rfl
   rw[GB hp,ih (a++[p]) (by rw[PH];exact nd),PH]
   rfl
 exact W3 ps [] nd
theorem Em (ps:List (Int×Int)) (k:Int):(jv (mW ps) (PM k)).isSome=decide (k∈ps.map (·.1)):=by
 induction ps with
 |nil=>rfl
 |cons x r ih=>
  unfold jv mW at ih ⊢;rw[NP,Qj,NP];by_cases h:x.1=k
  ·simp[h]
  ·have e:decide ((PM x.1:aU)=PM k)=false:=by simpa using h
   simp only[e];rw[ih];have:¬k=x.1:=λz=>h z.symm;simp[this]
theorem JR (nd:(ps.map (·.1)).Nodup) (k:Int):dE false (.int k) (.dic (L_ ps))=GS (.bl (decide (k∈ps.map (·.1)))):=by
 show GS (D.bl (jv (L_ ps) (PM k)).isSome)=_;rw[GC nd,Em]
theorem sV {m:NG} {r:List D->R D} {fs:aa->R (List D)} {ρe:aa} {ds:List D} {x:NG} (h1:fo ρ= .ok (.ins cls fds)) (h2:fs ρ= .ok ds) (hl:ds.length+1=n) (e:r (.ins cls fds::ds)= .err x ρe) (hm:fds.lookup m=JT):bx cls m n r fo fs ρ= .err x ρ:=by
 unfold bx;rw[h1,ag];dsimp only;rw[if_pos ⟨rfl,hm⟩,h2,ag,if_pos hl,e]
theorem BE {names:List (NG×NameKind)} {g:D->aa->R aa} {τ:aa} {ds:List D} {x:NG} (h:fi ρ= .ok ds) (hl:ds.length<=lim) (hr:f6 N names ρ=τ) (hc:eP g gt fe ds τ= .err x ρ'): nM N names fi g gt fe ρ= .err x ρ:=by
 unfold nM;rw[h,ag,if_pos hl,hr,hc]
theorem En {names:List (NG×NameKind)} {g:D->aa->R aa} {τ:aa} {ds es:List D} (h:fi ρ= .ok ds) (hl:ds.length<=lim) (hr:f6 N names ρ=τ) (hc:eP g gt fe ds τ= .ok es): nM N names fi g gt fe ρ= .ok es:=by
 unfold nM;rw[h,ag,if_pos hl,hr,hc]
theorem sW {k:Nat} {ds:List D} {x:NG} (h:ds.length=k) (e:g (bN n ds)= .err x ρ):aG k n g ds= .err x ρ:=by
 unfold aG;rw[if_pos h,e];rfl
section
variable {n:Int} {d:yF}
theorem vV {a0:Option Slot} {k:Int}:∀(ss:List xn) (x:Option Slot),(∃r∈ss,r.1=k/\dc (gN 2) cE (ss.map aP) [a0,GS (.val (.int k)),x]= .ok (.ret (aP r)))\/((∀r∈ss,r.1≠k)/\∃y,dc (gN 2) cE (ss.map aP) [a0,GS (.val (.int k)),x]= .ok (.nx [a0,GS (.val (.int k)),y]))
 |[],x=> .inr ⟨by simp,x,rfl⟩
 |r::ss,x=>by
  have t:fT (f2 dD (f2 aA (a9 2) (fC (.int 0))) (a9 1)) [a0,GS (.val (.int k)),GS (.val (aP r))]= .ok (decide (r.1=k)):=aI (ae (b:= .int k) (ae (a:=aP r) rfl rfl gK) rfl i3);by_cases h:r.1=k
  ·refine .inl ⟨r,NZ,h,?_⟩
   rw[NP];exact Di rfl (show cE [a0,GS (.val (.int k)),GS (.val (aP r))]= .ok (.ret (aP r)) by unfold cE;rw[eE (by rw[t,decide_eq_true h])];rfl)
  ·have e:cE [a0,GS (.val (.int k)),GS (.val (aP r))]= .ok (.nx [a0,GS (.val (.int k)),GS (.val (aP r))]):=by unfold cE;rw[c7 (by rw[t,decide_eq_false h])];rfl
   rcases vV (a0:=a0) (k:=k) ss (GS (.val (aP r)))with ⟨q,h1,h2,h3⟩|⟨h1,y,h2⟩
   ·exact .inl ⟨q,O1 _ h1,h2,by rw[NP,i9 rfl e,h3]⟩
   ·exact .inr ⟨λq hq=>(NW.mp hq).elim (λz=>z▸h) (h1 q),y,by rw[NP,i9 rfl e,h2]⟩
theorem LD {x y:Option Slot}:bv (bi "Day" "streams" (a9 0)) [GS (.val (cQ n d)),x,y]= .ok (d.ss.map aP):=by
 unfold bv;rw[dw (fds:=pX n d) rfl rfl];rfl
theorem JS {k:Int} (h:k∈d.ss.map (·.1)):∃r,r.1=k/\fI [cQ n d, .int k]= .ok (aP r):=by
 rcases vV (a0:=GS (.val (cQ n d))) (k:=k) d.ss JT with ⟨q,h1,h2,h3⟩|⟨h1,_⟩
 ·exact⟨q,h2,aM rfl (fF ((nI LD).trans h3))⟩
 ·obtain⟨r,hr,e⟩:=Oz.mp h
  exact absurd e (h1 r hr)
theorem Eo (nd:(d.rd.map (·.1)).Nodup) {k:Int} (h:k∈d.ss.map (·.1)):eK [cQ n d, .int k]= .ok (.bl (decide (k∈d.rd.map (·.1)))):=by
 obtain⟨r,rfl,e⟩:=JS (n:=n) h;refine aM rfl ?_;show eJ [GS (.val (cQ n d)),GS (.val (.int r.1)),JT]=_;unfold eJ;rw[ai (ρ':=[GS (.val (cQ n d)),GS (.val (.int r.1)),GS (.val (aP r))]) (aK (dX (n:=2) (fds:=pX n d) (ds:=[.int r.1]) rfl rfl rfl e rfl) rfl)];exact bG (ae (ae (a:=aP r) rfl rfl gK) (ax (a8 (d:= .tup (d.rd.map n9)) (dw (fds:=pX n d) rfl rfl) rfl) (Ek (ps:=d.rd) (.inr rfl))) (JR nd r.1))
theorem GD {k:Int} (h:k∉d.ss.map (·.1)):∃ρ,eK [cQ n d, .int k]= .err "UnknownStream" ρ:=by
 rcases vV (a0:=GS (.val (cQ n d))) (k:=k) d.ss JT with ⟨q,h1,h2,_⟩|⟨h1,y,h2⟩
 ·exact absurd (Oz.mpr ⟨q,h1,h2⟩) h
 ·have e:fI [cQ n d, .int k]= .err "UnknownStream" [GS (.val (cQ n d)),GS (.val (.int k)),y]:=by
   refine sW rfl ?_;show kl [GS (.val (cQ n d)),GS (.val (.int k)),JT]=_;unfold kl;rw[ai ((nI LD).trans h2)];exact jN
  refine⟨[GS (.val (cQ n d)),GS (.val (.int k)),JT],sW rfl ?_⟩;show eJ [GS (.val (cQ n d)),GS (.val (.int k)),JT]=_;unfold eJ;have e5:bx "Day" "stream" 2 fI (ah 0) (a7 (ah 1) ac) [GS (.val (cQ n d)),GS (.val (.int k)),JT]= .err "UnknownStream" [GS (.val (cQ n d)),GS (.val (.int k)),JT]:=sV (fds:=pX n d) (ds:=[.int k]) rfl rfl rfl e rfl;exact gJ (by unfold aE;rw[e5];rfl)
abbrev LF:aa->R D:=bx "Day" "metered" 2 eK (ah 2) (a7 (ah 1) (ac))
theorem xA (nd:(d.rd.map (·.1)).Nodup):∀(l:List Int) (x:Option Slot),(∀k∈l,k∈d.ss.map (·.1))->eP (gN 1) et LF (l.map .int) [JT,x,GS (.val (cQ n d))]= .ok ((l.map λk=>decide (k∈d.rd.map (·.1))).map .bl)
 |[],x,_=>rfl
 |k::l,x,h=>by
  have ih:=xA nd l (GS (.val (.int k))) λj hj=>h j (O1 _ hj);have e:LF [JT,GS (.val (.int k)),GS (.val (cQ n d))]= .ok (.bl (decide (k∈d.rd.map (·.1)))):=dX (n:=2) (fds:=pX n d) (ds:=[.int k]) rfl rfl rfl (Eo nd (h k NZ)) rfl;rw[NP,eP];simp only[gN,et,Rj,Ri,if_true,e,ag,ih,NP]
theorem pw (nd:(d.rd.map (·.1)).Nodup):∀(l:List Int) (x:Option Slot),(∃k∈l,k∉d.ss.map (·.1))->∃ρ,eP (gN 1) et LF (l.map .int) [JT,x,GS (.val (cQ n d))]= .err "UnknownStream" ρ
 |[],x,h=>by obtain⟨k,hk,_⟩:=h;cases hk
 |k::l,x,h=>by
  rw[NP,eP];by_cases hk:k∈d.ss.map (·.1)
  ·obtain⟨ρ,ih⟩:=pw nd l (GS (.val (.int k))) (by
    obtain⟨j,hj,a4W⟩:=h;rcases NW.mp hj with rfl|hj
    ·exact absurd hk a4W
    ·exact⟨j,hj,a4W⟩)
   have e:LF [JT,GS (.val (.int k)),GS (.val (cQ n d))]= .ok (.bl (decide (k∈d.rd.map (·.1)))):=dX (n:=2) (fds:=pX n d) (ds:=[.int k]) rfl rfl rfl (Eo nd hk) rfl;refine⟨ρ,?_⟩;simp only[gN,et,Rj,Ri,if_true,e,ag,ih]
   rfl
  ·obtain⟨ρ,e0⟩:=GD (n:=n) hk
   have e:LF [JT,GS (.val (.int k)),GS (.val (cQ n d))]= .err "UnknownStream" [JT,GS (.val (.int k)),GS (.val (cQ n d))]:=sV (fds:=pX n d) (ds:=[.int k]) rfl rfl rfl e0 rfl;refine⟨[JT,GS (.val (.int k)),GS (.val (cQ n d))],?_⟩;simp only[gN,et,Rj,Ri,if_true,e]
   rfl
theorem BF (nd:(d.rd.map (·.1)).Nodup) {row:List Int} (hl:row.length<=100) (hw:fq (qq (d.ss.map (·.1)) row) (sJ (d.rd.map (·.1)) row)≠""):∃ρ,dH [cQ n d, .lst (row.map .int)]= .err (fq (qq (d.ss.map (·.1)) row) (sJ (d.rd.map (·.1)) row)) ρ:=by
 have h:eg (.lst (row.map .int)) row:= .inl rfl;have ZG:(row.map D.int).length<=lim:=by rw[NK];unfold lim;omega
 let Z (x y:Option Slot):aa:=[GS (.val (cQ n d)),GS (.val (.lst (row.map .int))),x,y];have go:∀{w:NG},(∃ρ,dG (Z JT JT)= .err w ρ)->∃ρ,dH [cQ n d, .lst (row.map .int)]= .err w ρ:=λ⟨ρ,e⟩=>⟨ρ,sW rfl e⟩;by_cases hu:(row.any λx=> !decide (x∈d.ss.map (·.1)))=true
 ·have ew:fq (qq (d.ss.map (·.1)) row) (sJ (d.rd.map (·.1)) row)="UnknownStream":=by
   unfold qq;rw[hu];rfl
  rw[ew];obtain⟨k,hk,a07⟩:=OC.mp hu;obtain⟨ρ,e⟩:=pw (n:=n) nd row JT ⟨k,hk,by simpa using a07⟩;refine go ⟨Z JT JT,?_⟩;unfold dG;exact gJ (by unfold j0;rw[BE (τ:=[JT,JT,GS (.val (cQ n d))]) (h.seq rfl) ZG rfl e];rfl)
 ·have a24:∀k∈row,k∈d.ss.map (·.1):=λk hk=>by
   by_cases z:k∈d.ss.map (·.1)
   ·exact z
   ·exact absurd (OC.mpr ⟨k,hk,by simp[z]⟩) hu
  let bs:=row.map λk=>decide (k∈d.rd.map (·.1));let Q:Option Slot:=GS (.own (.lst (bs.map .bl)));have s1:dG (Z JT JT)=_:=(by
   unfold dG;exact ai (ρ':=Z Q JT) (own_of (En (τ:=[JT,JT,GS (.val (cQ n d))]) (h.seq rfl) ZG rfl (xA nd row JT a24))))
  have t2:fT (f2 nG (kh (a9 1)) (aR aT (a7 (a9 1) (ac)))) (Z Q JT)= .ok (!decide row.Nodup):=aI (ae (h.set (by omega) rfl) (ax (a8 (d:= .lst (row.map .int)) rfl rfl) h.len) (by rw[j5,qp]));have hb:(row.any λx=> !decide (x∈d.ss.map (·.1)))=false:=Rx.mpr hu;by_cases hd:row.Nodup
  ·have ew:fq (qq (d.ss.map (·.1)) row) (sJ (d.rd.map (·.1)) row)=sJ (d.rd.map (·.1)) row:=by
    unfold qq;rw[hb,decide_eq_true hd];rfl
   rw[ew]at hw ⊢;have hm:(row.any λx=> !decide (x∈d.rd.map (·.1)))=true:=by
    cases q:(row.any λx=> !decide (x∈d.rd.map (·.1)))with
    |true=>rfl
    |false=>exact absurd (show sJ (d.rd.map (·.1)) row="" by unfold sJ;rw[q];rfl) hw
   have a75:sJ (d.rd.map (·.1)) row="NotMetered":=by unfold sJ;rw[hm];rfl
   rw[a75];have a17:bs.all id=false:=by
    obtain⟨k,hk,a07⟩:=OC.mp hm;rw[Rx];intro z;have:=PV.mp z _ (Oz.mpr ⟨k,hk,rfl⟩);simp only[id]at this;rw[this]at a07;cases a07
   have t3:jf (dC (aR G8 (a7 (a9 2) (ac)))) (Z Q JT)= .ok true:=by
    unfold jf;rw[jq (b:=false) (ax (a8 (d:= .lst (bs.map .bl)) rfl rfl) (by
     show (fY (bs.map D.bl)).map (λbs=>D.bl (bs.all id))=_;rw[uA,PL,a17]))]
    rfl
   refine go ⟨Z Q JT,s1.trans ?_⟩;rw[ai (by rw[c7 (by rw[t2,decide_eq_true hd];rfl)];rfl)];exact gJ (by rw[eE t3];exact jN)
  ·have ew:fq (qq (d.ss.map (·.1)) row) (sJ (d.rd.map (·.1)) row)="Twice":=by
    unfold qq;rw[hb,decide_eq_false hd];rfl
   rw[ew];refine go ⟨Z Q JT,s1.trans ?_⟩;exact gJ (by rw[eE (by rw[t2,decide_eq_false hd];rfl)];exact jN)
end
theorem Ac {α:Type} [DecidableEq α] {f:D->D->Option Bool} {enc:α->D} (h:∀x y,f (enc x) (enc y)=GS (decide (x=y))):∀a b:List α,∃bs,BK f (a.map enc) (b.map enc)=GS bs/\(bs.all id&&(a.map enc).length==(b.map enc).length)=decide (a=b)
 |[],[]=>⟨[],rfl,by simp⟩
 |[],y::b=>⟨[],rfl,by simp⟩
 |x::a,[]=>⟨[],rfl,by simp⟩
 |x::a,y::b=>by
  obtain⟨bs,e1,e2⟩:=Ac h a b;refine⟨decide (x=y)::bs,?_,?_⟩
  ·rw[NP,NP]
   unfold BK;rw[h,e1];rfl
  ·have:decide (x::a=y::b)=(decide (x=y)&&decide (a=b)):=by simp
   rw[this,<-e2];simp only[Pn,id,NP,O3,Bool.and_assoc]
   congr 2
   simp
theorem xB {α:Type} [DecidableEq α] {enc:α->D} (h:∀x y,Hn (enc x) (enc y)=GS (decide (x=y))) (a b:List α):yD (.tup (a.map enc)) (.tup (b.map enc))=GS (decide (a=b)):=by
 obtain⟨bs,e1,e2⟩:=Ac h a b;show (BK Hn (a.map enc) (b.map enc)).map _=_;rw[e1,PL,e2]
theorem GF (x y:Int):Hn (.int x) (.int y)=GS (decide (x=y)):=by
 show (if true=true/\true=true then GS (x==y)else JT)=_;rw[if_pos ⟨rfl,rfl⟩];rfl
theorem GG (x y:xn):Hn (aP x) (aP y)=GS (decide (x=y)):=by
 obtain⟨a,b,c⟩:=x;obtain⟨a',b',c'⟩:=y;show GS ([a==a',b==b',c==c'].all id&&(3:Nat)==3)=_
 congr 1
 by_cases h1:a=a'<;>by_cases h2:b=b'<;>by_cases h3:c=c'<;>simp[h1,h2,h3]
section
variable {n:Int} {m:Mo} {hs:List D}
theorem vW (g:m.Ok) (q:m.Rg n):∃b,cA [bE n m]= .ok (.bl b)/\(b=true->∃h:0<m.ds.length,(m.ds[m.ds.length - 1]'(by omega)).ss=m.ss/\(m.ds[m.ds.length - 1]'(by omega)).rd.map (·.1)=m.mm):=by
 let Z:aa:=[GS (.val (bE n m))];have e4:f2 aA (a9 0) (fC (.int 4)) Z= .ok (.tup (m.ds.map (l8 n))):=ae (a:=bE n m) rfl rfl J_;have t0:fT (f2 dD (aR aT (a7 (f2 aA (a9 0) (fC (.int 4))) (ac))) (fC (.int 0))) Z= .ok (decide ((m.ds.length:Int)=0)):=aI (ae (ax (a8 e4 rfl) (by rw[dF,NK])) (b:= .int 0) rfl i3);by_cases h0:(m.ds.length:Int)=0
 ·refine⟨false,aM rfl ?_,λz=>by cases z⟩
  show bp Z=_;unfold bp;exact fF (by rw[eE (by unfold rJ;rw[t0,decide_eq_true h0];rfl)];rfl)
 ·have hl:m.ds.length - 1<m.ds.length:=by omega
  obtain⟨l,x,hx⟩:∃l x,m.ds=l++[x]:=by
   rcases List.eq_nil_or_concat m.ds with h|⟨l,x,h⟩
   ·rw[h]at h0;exact absurd rfl h0
   ·exact⟨l,x,by rw[h,List.concat_eq_append]⟩
  have a2C:m.ds[m.ds.length - 1]=x:=by simp[hx]
  have el:f2 aA (f2 aA (a9 0) (fC (.int 4))) (f1 gj (fC (.int 1))) Z= .ok (l8 n x):=ae (b:= .int (-1)) e4 rfl (by rw[rP,hx,Oo];exact wk _ _);have e1:f2 yE (f2 aA (f2 aA (f2 aA (a9 0) (fC (.int 4))) (f1 gj (fC (.int 1)))) (fC (.int 1))) (f2 aA (a9 0) (fC (.int 2))) Z= .ok (.bl (!decide (x.ss=m.ss))):=ae (a:= .tup (x.ss.map aP)) (b:= .tup (m.ss.map aP)) (ae el rfl (fW 1 rfl)) (ae (a:=bE n m) rfl rfl Lv) (by unfold yE;rw[xB GG];rfl);have t1:rJ (fT (f2 dD (aR aT (a7 (f2 aA (a9 0) (fC (.int 4))) (ac))) (fC (.int 0)))) (fT (f2 yE (f2 aA (f2 aA (f2 aA (a9 0) (fC (.int 4))) (f1 gj (fC (.int 1)))) (fC (.int 1))) (f2 aA (a9 0) (fC (.int 2))))) Z= .ok (!decide (x.ss=m.ss)):=by
   unfold rJ;rw[t0,decide_eq_false h0,ag,if_neg (by simp)];exact aI e1
  have a76:E9 n x:=q.day x (by rw[hx];simp);have e2:f2 Bi (aR a_ (a7 (fL (aZ ["_law_model"] [(".0", .local),("_law_row", .local)] (bv (f2 aA (f2 aA (f2 aA (a9 0) (fC (.int 4))) (f1 gj (fC (.int 1)))) (fC (.int 3)))) (gN 1) (et) (f2 aA (a9 1) (fC (.int 0))))) (ac))) (f2 aA (a9 0) (fC (.int 3))) Z= .ok (.bl (decide (x.rd.map (·.1)=m.mm))):=
   ae (a:= .tup ((x.rd.map (·.1)).map .int)) (b:= .tup (m.mm.map .int)) (ax (a8 (d:= .lst ((x.rd.map (·.1)).map .int)) (nJ (by
    rw[qt (enc:=n9) (l:=x.rd) (out:=λr=> .int r.1) (by unfold bv;rw[ae el rfl (fW 3 rfl)];rfl) (by have:=a76.ten;omega) (rest:=[]) rfl λr _=>ae (a:=n9 r) rfl rfl E6,OL];rfl)) rfl) rfl) (ae (a:=bE n m) rfl rfl Lw) (by unfold Bi;rw[xB GF];rfl)
  by_cases hs:x.ss=m.ss
  ·refine⟨decide (x.rd.map (·.1)=m.mm),aM rfl ?_,λz=>⟨by omega,?_⟩⟩
   ·show bp Z=_
    unfold bp;rw[ai (ρ':=Z) (by rw[c7 (by rw[t1,decide_eq_true hs];rfl)];rfl)];exact bG e2
   ·rw[a2C];exact⟨hs,of_decide_eq_true z⟩
  ·refine⟨false,aM rfl ?_,λz=>by cases z⟩
   show bp Z=_;unfold bp;exact fF (by rw[eE (by rw[t1,decide_eq_false hs];rfl)];rfl)
def Ep (m:Mo) (k:Int) (row:List Int):NG:=fq (mI (!decide row.Nodup) "Twice") (if k=0 then mI (row.any λx=>decide (x∈m.ms)) "AlreadyMetered" else sJ m.ms row)
theorem Es (g:m.Ok) {k:Int} (hk:0<=k) {row:List Int} (hl:row.length<=100):fO [bE n m, .int k, .lst (row.map .int)]= .ok (.str (Ep m k row)):=by
 have hr:eg (.lst (row.map .int)) row:= .inl rfl;let R (x:Option Slot):aa:=[GS (.val (bE n m)),GS (.val (.int k)),GS (.val (.lst (row.map .int))),x];let hv:=row.filter λx=>decide (x∈m.ms);have hf:aZ ["_law_model","_law_what","_law_row","_law_have"] [(".0", .local),("_law_number", .local),("_law_model", .free)] (bv (ah 2)) (gN 1) (fT (f2 (dE false) (a9 1) (f2 aA (a9 2) (fC (.int 3))))) (ah 1) (R JT)= .ok (hv.map .int):=
  cW (hr.seq rfl) (by rw[NK];unfold lim;omega) (τ:=[JT,JT,GS (.val (bE n m))]) rfl (i6 (p:=λx=>decide (x∈m.ms)) (out:= .int) row JT (λr _=>by
   rw[aI (ae (a:= .int r) (b:= .tup (m.mm.map .int)) rfl (ae (a:=bE n m) rfl rfl Lw) rQ),g.mem]) (λr _ _=>rfl))
 let Z:=R (GS (.own (.lst (hv.map .int))));have t0:fT (f2 dD (a9 1) (fC (.int 0))) Z= .ok (decide (k=0)):=aI (ae (a:= .int k) (b:= .int 0) rfl rfl i3);have a77:fT (f2 nH (a9 1) (fC (.int 0))) Z= .ok (decide (k>0)):=aI (ae (a:= .int k) (b:= .int 0) rfl rfl jy);have t1:fT (f2 tw (a9 3) (eI (ac))) Z= .ok (row.any λx=>decide (x∈m.ms)):=aI (ae (a:= .lst (hv.map .int)) (b:= .lst []) rfl rfl (by
  show GS (D.bl (!(hv.map D.int).isEmpty))=_;rw[RE,sN]))
 have t3:fT (f2 nG (aR aT (a7 (a9 3) (ac))) (aR aT (a7 (a9 2) (ac)))) Z= .ok (row.any λx=> !decide (x∈m.ms)):=aI (ae (ax (a8 (d:= .lst (hv.map .int)) rfl rfl) g_) (ax (a8 rfl rfl) hr.len) (by
  rw[j5,NK]
  congr 2
  have a5u:=Pt (λx=>decide (x∈m.ms)) row;by_cases z:(row.any λx=> !decide (x∈m.ms))=true
  ·rw[z,decide_eq_true_eq]
   obtain⟨x,hx,hp⟩:=OC.mp z;have:(row.filter λx=>decide (x∈m.ms)).length≠row.length:=λe=>by
    have:=RF.mp e x hx;rw[this]at hp;cases hp
   simp only[hv];omega
  ·rw[Rx.mpr z,decide_eq_false_iff_not]
   have:(row.filter λx=>decide (x∈m.ms)).length=row.length:=RF.mpr λx hx=>by
    cases q:decide (x∈m.ms)with
    |true=>rfl
    |false=>exact absurd (OC.mpr ⟨x,hx,by rw[q];rfl⟩) z
   simp only[hv];omega))
 have a1:=jr t0 t1;have a2:=jr a77 t3;refine aM rfl ?_;show iJ (R JT)=_;unfold iJ;refine Eq.trans (yM (ρ:=R JT) (neC (enc:= .int) (l:=row) (hr.seq rfl) (by omega) (rest:=[GS (.val (.lst (row.map .int)))]) rfl λr _=>aI (ae (Gq hr rfl rfl) rfl jy)) (JM (ρ':=Z) (own_of hf) (yM a1 (yM a2 Gp)))) ?_;rw[Gr];unfold Ep;refine congrArg (λs=>L2.Pu.R.ok (aF.ret (D.str s))) ?_;by_cases h:k=0
 ·rw[if_pos h,decide_eq_true h,decide_eq_false (show ¬k>0 by omega),VO,TN]
  refine congrArg (fq _) ?_;cases (row.any λx=>decide (x∈m.ms))<;>rfl
 ·rw[if_neg h,decide_eq_false h,decide_eq_true (show k>0 by omega),VO,TN]
  refine congrArg (fq _) ?_;unfold sJ;cases (row.any λx=> !decide (x∈m.ms))<;>rfl
end
noncomputable def xC:aa->R aF:=
 bL (fT (f2 dD (a9 1) (fC (.int 0))))
  (bH (fU 0 "Cellar" "meters_come" (bQ [0] bC 1 (a7 (ah 2) (ac)))))
  (bL (fT (f2 dD (a9 1) (fC (.int 1))))
  (bH (fU 0 "Cellar" "meters_go" (bQ [0] bY 1 (a7 (ah 2) (ac)))))
  (bL (fT (f2 dD (a9 1) (fC (.int 2))))
  (bH (fU 0 "Cellar" "day_passes" (bQ [0] bK 2 (a7 (f2 jY (eI (a7 (fC (.int 0)) (ac))) (f2 aA (a9 3) (fC (.int 0)))) (a7 (fL (aZ ["_law_cellar","_law_what","_law_row","_law_model","_law_kinds","e","_law_word"] [(".0", .local),("_law_number", .local)] (bv (ah 2)) (gN 1) (et) (bu (a7 (ah 1) (a7 (fC (.int 1001)) (ac)))))) (ac))))))
  (f8 (bx "Day" "doubting" 2 dH (hJ "history" [0] (bx "Cellar" "day" 2 cw (ah 0) (a7 (aR aT (a7 (f2 aA (a9 3) (fC (.int 4))) (ac))) (ac)))) (a7 (ah 2) (ac))))))
def WD:List NG:=["UnknownStream","Twice","AlreadyMetered","NotMetered"]
theorem GH {sub:NG->Bool} {hd:aa->R aF} (h:g ρ= .err w ρ):wO i sub g hd ρ=um i sub hd w ρ:=by unfold wO;rw[h]
theorem GI {k r mo:D} (hw:w∈WD) (h:xC [GS s,GS (.val k),GS (.val r),GS (.val mo),GS (.own (.lst [])),JT,JT]= .err w [GS s,GS (.val k),GS (.val r),GS (.val mo),GS (.own (.lst [])),JT,JT]):dN [s] [k,r,mo]= .ok (.str w,[s]):=by
 let ρ1:aa:=[GS s,GS (.val k),GS (.val r),GS (.val mo),GS (.own (.lst [])),JT,JT];have hT:∀{i:Nat} {sub:NG->Bool} {hd rest:aa->R aF},ak (wO i sub xC hd) rest ρ1=ak (λ_=>um i sub hd w ρ1) rest ρ1:=by
  intro i sub hd rest;unfold ak;rw[GH h]
 have e0:∀{g':aa->R aF},ak (lh 4 (ac)) g' [GS s,GS (.val k),GS (.val r),GS (.val mo),JT,JT,JT]=g' ρ1:=λ{g'}=>ai rfl;have go:nZ [GS s,GS (.val k),GS (.val r),GS (.val mo),JT,JT,JT]= .ok (.retc (.str w) [GS s,GS (.val k),GS (.val r),GS (.val mo),GS (.val (.lst ((WD.map λx=> .bl (decide (w=x)))++[.bl false]))),JT,GS (.val (.str w))]):=by
  refine(show nZ [GS s,GS (.val k),GS (.val r),GS (.val mo),JT,JT,JT]=ak (wO 5 (yx RL) xC _) _ ρ1 from e0).trans ?_;rw[hT];unfold WD at hw;simp only[NW,OE,or_false]at hw;rcases hw with rfl|rfl|rfl|rfl<;>kernel_rfl
 exact mG ⟨rfl,rfl⟩ go rfl
theorem vX {a b c:NG} (h:fq a b≠""):fq a (fq b c)=fq a b:=by
 rw[<-Lx];generalize fq a b=x at h;unfold fq;rw[if_neg h]
section
variable {n:Nat} {m:Mo} {hs:List D}
def f_ (m:Mo) (k:Int) (row:List Int):NG:=fq (qq m.nu row) (if k=0 then mI (row.any λx=>decide (x∈m.ms)) "AlreadyMetered" else sJ m.ms row)
theorem vY {x:NG} (h:x∈WD):mI b x=""\/mI b x∈WD:=by cases b;exact .inl rfl;exact .inr h
theorem Et {a b:NG} (h:a=""\/a∈WD) (h2:b=""\/b∈WD):fq a b=""\/fq a b∈WD:=by unfold fq;split<;>assumption
theorem Eu {k:Int} {row:List Int} (h:f_ m k row≠""):f_ m k row∈WD:=by
 refine(show f_ m k row=""\/f_ m k row∈WD from Et (Et (vY (by decide+kernel)) (vY (by decide+kernel))) ?_).resolve_left h;split
 ·exact vY (by decide+kernel)
 ·exact vY (by decide+kernel)
theorem q0 {mt:NG} {k:Nat} {fs:aa->R (List D)} {rest:aa} {ds:List D} {N:Int} {a w':D} (h:fs (GS (az N now hs)::rest)= .ok ds) (hl:ds.length=k) (d:pi (mf [az N now hs] ds) (az N now hs) w a s') (hw:w≠"") (hm:mt≠"history":=by decide) (h2:(jM N now).lookup mt=JT:=by rfl): bH (fU 0 "Cellar" mt (bQ [0] mf k fs)) (GS (az N now hs)::rest)= .err w (GS (az N now hs)::rest):=by
 obtain⟨ρe,e,t⟩:=d.1 hw;exact uE (by rw[sG (n:=N) (now:=now) (hs:=hs) rfl hm h2];exact vH (n:=N) (now:=now) (hs:=hs) rfl h hl e t rfl)
theorem kT {w c:Int} (h:(a9 1:aa->R D) ρ= .ok (.int w)) (WK:w=c):fT (f2 dD (a9 1) (fC (.int c))) ρ= .ok true:=aI (ae h rfl (by rw[i3,decide_eq_true WK]))
theorem kF {w c:Int} (h:(a9 1:aa->R D) ρ= .ok (.int w)) (WK:w≠c):fT (f2 dD (a9 1) (fC (.int c))) ρ= .ok false:=aI (ae h rfl (by rw[i3,decide_eq_false WK]))
theorem uK (g:m.Ok) (q:m.Rg (n:Int)) (h7:n<=7) {k:Int} (hk:k=0\/k=1\/k=2\/k=3/\∃h:0<m.ds.length,(m.ds[m.ds.length - 1]'(by omega)).ss=m.ss/\(m.ds[m.ds.length - 1]'(by omega)).rd.map (·.1)=m.mm) {row:List Int} (hl:row.length<=40) (hw:f_ m k row≠""): dN [az (n:Int) (bj (n:Int) m) hs] [.int k, .lst (row.map .int),bE (n:Int) m]= .ok (.str (f_ m k row),[az (n:Int) (bj (n:Int) m) hs]):=by
 refine GI (Eu hw) ?_;let Z:aa:=[GS (az (n:Int) (bj (n:Int) m) hs),GS (.val (.int k)),GS (.val (.lst (row.map .int))),GS (.val (bE (n:Int) m)),GS (.own (.lst [])),JT,JT];have b:(a9 1:aa->R D) Z= .ok (.int k):=rfl;show xC Z= .err (f_ m k row) Z;unfold xC;rcases hk with rfl|rfl|rfl|⟨rfl,hd,a78,a3c⟩
 ·rw[eE (kT b rfl)]
  have ew:yK m hs row=f_ m 0 row:=by
   have:f_ m 0 row=fq (qq m.nu row) (mI (row.any λx=>decide (x∈m.ms)) "AlreadyMetered"):=rfl;rw[this]at hw ⊢;exact vX hw
  have:=q0 (mt:="meters_come") (k:=1) (fs:=a7 (ah 2) (ac)) (rest:=Z.tail) (ds:=[.lst (row.map .int)]) (w':= .non) rfl rfl (sL (n:=(n:Int)) (hs:=hs) g (.inl rfl) (by omega)) (by rw[ew];exact hw);rw[ew]at this;exact this
 ·rw[c7 (kF b (by decide)),eE (kT b rfl)]
  have ew:JJ m hs row=f_ m 1 row:=by
   have:f_ m 1 row=fq (qq m.nu row) (sJ m.ms row):=rfl;rw[this]at hw ⊢;exact vX hw
  have:=q0 (mt:="meters_go") (k:=1) (fs:=a7 (ah 2) (ac)) (rest:=Z.tail) (ds:=[.lst (row.map .int)]) (w':= .non) rfl rfl (xq (n:=(n:Int)) (hs:=hs) g (.inl rfl) (by omega)) (by rw[ew];exact hw);rw[ew]at this;exact this
 ·rw[c7 (kF b (by decide)),c7 (kF b (by decide)),eE (kT b rfl)]
  let rd:List Rd:=row.map λx=>(x,1001);have a79:rd.map (·.1)=row:=by simp only[rd,OL];exact List.map_id' row
  have ew:A4 (n:Int) m hs (Oa n 0) rd=f_ m 2 row:=by
   have:f_ m 2 row=fq (qq m.nu row) (sJ m.ms row):=rfl;rw[this]at hw ⊢;unfold A4;rw[a79,Qi,decide_eq_true rfl];exact vX hw
  have e1:f2 jY (eI (a7 (fC (.int 0)) (ac))) (f2 aA (a9 3) (fC (.int 0))) Z= .ok (.lst ((Oa n (0:Int)).map .int)):=ae (a:= .lst [.int 0]) (b:= .int (n:Int)) rfl (ae (a:=bE (n:Int) m) rfl rfl JL) (A6 (k:=(n:Int)) (by omega) (by omega));have:=q0 (mt:="day_passes") (k:=2) (fs:=a7 (f2 jY (eI (a7 (fC (.int 0)) (ac))) (f2 aA (a9 3) (fC (.int 0)))) (a7 (fL (aZ ["_law_cellar","_law_what","_law_row","_law_model","_law_kinds","e","_law_word"] [(".0", .local),("_law_number", .local)] (bv (ah 2)) (gN 1) (et) (bu (a7 (ah 1) (a7 (fC (.int 1001)) (ac)))))) (ac))) (rest:=Z.tail) (ds:=[.lst ((Oa n (0:Int)).map .int), .lst (rd.map n9)]) (w':= .non)
   (a8 e1 (a8 (nJ (by
    rw[qt (enc:=D.int) (l:=row) (out:=λx=> .tup [.int x, .int 1001]) rfl (by omega) (rest:=[]) rfl λr _=>bq (ds:=[.int r, .int 1001]) rfl (show 2<=lim by decide)];simp only[rd,OL];rfl)) rfl)) rfl (uG (n:=(n:Int)) (hs:=hs) g (ri:=Oa n 0) (rd:=rd) (.inl rfl) (.inl rfl) (by rw[Qi];omega) (by simp only[rd,NK];omega)) (by rw[ew];exact hw)
  rw[ew]at this;exact this
 ·rw[c7 (kF b (by decide)),c7 (kF b (by decide)),c7 (kF b (by decide))]
  have hj:m.ds.length - 1<m.ds.length:=by omega
  let dx:=m.ds[m.ds.length - 1];have a1t:E9 (n:Int) dx:=q.day dx (Pl hj);have nd:(dx.rd.map (·.1)).Nodup:=by
   rw[SI,P9];exact a1t.rinc.imp λh=>by omega
  have mm:∀x,x∈dx.rd.map (·.1)<->x∈m.ms:=λx=>by rw[show dx.rd.map (·.1)=m.mm from a3c];exact g.per.mem_iff
  have ew:fq (qq (dx.ss.map (·.1)) row) (sJ (dx.rd.map (·.1)) row)=f_ m 3 row:=by
   have e1:qq (dx.ss.map (·.1)) row=qq m.nu row:=by rw[show dx.ss=m.ss from a78]
   have e2:sJ (dx.rd.map (·.1)) row=sJ m.ms row:=by
    unfold sJ
    congr 1
    have:(λx:Int=> !decide (x∈dx.rd.map (·.1)))=λx=> !decide (x∈m.ms):=funext λx=>by rw[decide_eq_decide.mpr (mm x)]
    rw[this]
   rw[e1,e2];rfl
  obtain⟨ρ,e⟩:=BF (n:=(n:Int)) (d:=dx) nd (row:=row) (by omega) (by rw[ew];exact hw);rw[ew]at e;have ed:hJ "history" [0] (bx "Cellar" "day" 2 cw (ah 0) (a7 (aR aT (a7 (f2 aA (a9 3) (fC (.int 4))) (ac))) (ac))) Z= .ok (cQ (n:Int) dx):=by
   refine pq rfl (show bx "Cellar" "day" 2 cw (ah 0) (a7 (aR aT (a7 (f2 aA (a9 3) (fC (.int 4))) (ac))) (ac)) (GS (.val (.ins "Cellar" (fV (n:Int) (bj (n:Int) m) hs)))::Z.tail)= .ok (cQ (n:Int) dx)from dX (n:=2) (fds:=fV (n:Int) (bj (n:Int) m) hs) (ds:=[.int (m.ds.length:Int)]) rfl (a8 (ax (a8 (ae (a:=bE (n:Int) m) rfl rfl J_) rfl) (by rw[dF,NK])) rfl) rfl (by
    have:=xt (n:=(n:Int)) (m:=m) (hs:=hs) (k:=m.ds.length - 1) hj;rw[show ((m.ds.length - 1:Nat):Int)+1=(m.ds.length:Int) by omega]at this;exact this) rfl) ?_
   exact .ins rfl (.cons (.int _) (.cons (.tup (iZ (λr=> .tup (.cons (.int _) (.cons (.int _) (.cons (.int _) .nil)))) dx.ss)) (.cons (kK dx.ri) (.cons (.tup (iZ xy dx.rd)) .nil))))
  exact sE (sV (fds:=pX (n:Int) dx) (ds:=[.lst (row.map .int)]) ed rfl rfl e rfl)
end
theorem LG {k:Nat} {fs:aa->R (List D)} {ds:List D} {d:D} (h:ρ[i]? =GS (GS s)) (h0:s.kind=2) (h2:fs ρ= .ok ds) (hl:ds.length=k) (e:mf [s] ds= .ok (d,[s])) (hi:ρ.set i (GS s)=ρ):bQ [i] mf k fs ρ= .ok (d,ρ):=by
 unfold bQ;have hs:cH ρ [i]=GS [s]:=by unfold cH cH;rw[h];rfl
 rw[hs];dsimp only;rw[if_pos ⟨by simp[h0],by simp⟩,h2,ag,if_pos hl,e];dsimp only;rw[if_pos rfl];show R.ok (d,ρ.set i (GS s))=_;rw[hi]
theorem Ew {fb:aa->R D} {x y:NG} (h:fx ρ= .ok (.str x,ρ')) (h2:fb ρ'= .ok (.str y)):rX v9 fx fb ρ= .ok (!decide (x=y),ρ'):=by
 unfold rX;rw[h,ag,h2,ag];dsimp only;rw[Hs]
theorem GJ {d:D} (h:f ρ= .ok d):eI (a7 f ac) ρ= .ok (.lst [d]):=by
 unfold eI;rw[a8 h rfl,ag];exact if_pos (show 1<=lim by decide)
section
variable {n:Nat} {m:Mo} {hs:List D}
theorem BG {k:Int} {row:List Int} (h:∀x∈row,x∈m.nu):f_ m k row=Ep m k row:=by
 have:qq m.nu row=mI (!decide row.Nodup) "Twice":=by
  unfold qq;rw[o7 λx hx=>by rw[decide_eq_true (h x hx)];rfl];rfl
 unfold f_ Ep;rw[this]
theorem Ex {k:Int} {row:List Int} {x:Int} (hx:x∈row) (h:x∉m.nu):f_ m k row="UnknownStream":=by
 have:(row.any λx=> !decide (x∈m.nu))=true:=OC.mpr ⟨x,hx,by simp[h]⟩;unfold f_ qq;rw[this];rfl
abbrev lR (ns:List Int) (n:Nat) (m:Mo) (hs:List D) (tr:List Mo) (ot fg:List Int) (st:Int) (s7 s9:Slot) (y z w:Option Slot):aa:=[GS (.val (.scr ns)),GS (pO (n:Int) tr m),GS (LS n m hs),GS (.val (bE (n:Int) m)),GS (.own (.lst (m.nu.map .int))),GS (.own (.lst (ot.map .int))),GS (.val (.lst (fg.map .int))),GS s7,GS (.val (.int st)),GS s9,y,z,w]
abbrev IsL (s:Slot) (l:List Int):Prop:=s= .own (.lst (l.map .int))\/s= .val (.lst (l.map .int))
theorem IsL.data {s:Slot} {l:List Int} (h:IsL s l):s.data= .lst (l.map .int):=by rcases h with rfl|rfl<;>rfl
theorem LH {s7:Slot} {l:List Int} (h:IsL s7 l) {ρ:aa} (e:ρ[7]? =GS (GS s7)):(a9 7:aa->R D) ρ= .ok (.lst (l.map .int)):=by
 unfold a9;rw[e];rcases h with rfl|rfl<;>rfl
variable {ns ot fg nm:List Int} {st:Int} {tr:List Mo}
theorem BH (g:m.Ok) (q:m.Rg (n:Int)) (h7:n<=7) {k:Int} (hk:k=0\/k=1\/k=2\/k=3/\∃h:0<m.ds.length,(m.ds[m.ds.length - 1]'(by omega)).ss=m.ss/\(m.ds[m.ds.length - 1]'(by omega)).rd.map (·.1)=m.mm) (W_:st∉m.nu) (a2U:nm.length<=5) {s7 s9:Slot} (h:IsL s7 nm) (j:Nat) {w:Option Slot}: sj (lR ns n m hs tr ot fg st s7 s9 (GS (.val (.int k))) (GS (.val (.int (j:Int)))) w)= .ok (.nx (lR ns n m hs tr ot fg st s7 s9 (GS (.val (.int k))) (GS (.val (.int (j:Int)))) w)):=by
 let Z:=lR ns n m hs tr ot fg st s7 s9 (GS (.val (.int k))) (GS (.val (.int (j:Int)))) w;obtain⟨l1,e1,u1⟩:=vU nm D.int JT (GS (j:Int));obtain⟨l2,e2,u2⟩:=vU nm D.int (GS (j:Int)) JT;have b7:(a9 7:aa->R D) Z= .ok (.lst (nm.map .int)):=LH h rfl;have a1:=u1.length_le;have a2:=u2.length_le;have er:f2 aV (f2 aV (vh (a9 7) (i0) (gQ (ah 11))) (eI (a7 (ah 8) (ac)))) (vh (a9 7) (gQ (ah 11)) (i0)) Z= .ok (.lst ((l1++[st]++l2).map .int)):=by
  refine ae (a:= .lst ((l1++[st]).map .int)) (b:= .lst (l2.map .int)) (ae (a:= .lst (l1.map .int)) (b:= .lst ([st].map .int)) (sT b7 rfl (iY rfl) e1) (GJ rfl) (by rw[yr (by simp only[NK,O3,PK];unfold lim;omega),<-Oo])) (sT b7 (iY rfl) rfl e2) (by rw[yr (by simp only[NK,Oh,O3,PK];unfold lim;omega),<-Oo])
 have ew:=Ex (m:=m) (k:=k) (row:=l1++[st]++l2) (x:=st) (by simp) W_;have ed:=uK (n:=n) (hs:=hs) g q h7 hk (row:=l1++[st]++l2) (by simp only[Oh,O3,PK];omega) (by rw[ew];decide);rw[ew]at ed;have ex:bQ [2] dN 3 (a7 (ah 10) (a7 (f2 aV (f2 aV (vh (a9 7) (i0) (gQ (ah 11))) (eI (a7 (ah 8) (ac)))) (vh (a9 7) (gQ (ah 11)) (i0))) (a7 (ah 3) (ac)))) Z= .ok (.str "UnknownStream",Z):=LG rfl rfl (a8 rfl (a8 er (a8 rfl rfl))) rfl ed rfl;show sj Z=_;unfold sj;exact(Hy (by rw[Ew ex rfl,decide_eq_true rfl];rfl)).trans rfl
theorem BI (g:m.Ok) (q:m.Rg (n:Int)) (h7:n<=7) {k:Int} (hk:k=0\/k=1\/k=2\/k=3/\∃h:0<m.ds.length,(m.ds[m.ds.length - 1]'(by omega)).ss=m.ss/\(m.ds[m.ds.length - 1]'(by omega)).rd.map (·.1)=m.mm) (W_:st∉m.nu) (a2U:nm.length<=5) (ZO:∀x∈nm,x∈m.nu) {s7 s9:Slot} (h:IsL s7 nm) {z w:Option Slot}: ∃z' w',vA (lR ns n m hs tr ot fg st s7 s9 (GS (.val (.int k))) z w)= .ok (.nx (lR ns n m hs tr ot fg st (.val (.lst (nm.map .int))) s9 (GS (.val (.int k))) z' w')):=by
 let K:Option Slot:=GS (.val (.int k));let V:Slot:= .val (.lst (nm.map .int));have YJ:∀(l:List Nat) (z:Option Slot),∃z',dc (gN 11) sj (l.map λj:Nat=>D.int (j:Int)) (lR ns n m hs tr ot fg st s7 s9 K z w)= .ok (.nx (lR ns n m hs tr ot fg st s7 s9 K z' w)):=λl=>by
  induction l with
  |nil=>exact λz=>⟨z,rfl⟩
  |cons j l ih=>
   intro z;obtain⟨z',e⟩:=ih (GS (.val (.int (j:Int))));exact⟨z',by rw[NP,i9 (ρ1:=lR ns n m hs tr ot fg st s7 s9 K (GS (.val (.int (j:Int)))) w) rfl (BH g q h7 hk W_ a2U h j),e]⟩
 obtain⟨z',e1⟩:=YJ (Ov (nm.length+1)) z;have b7:(a9 7:aa->R D) (lR ns n m hs tr ot fg st s7 s9 K z w)= .ok (.lst (nm.map .int)):=LH h rfl;have ef:cq (a7 (f2 aV (aR aT (a7 (a9 7) (ac))) (fC (.int 1))) (ac)) (lR ns n m hs tr ot fg st s7 s9 K z w)= .ok ((Ov (nm.length+1)).map λj:Nat=>D.int (j:Int)):=jz (n:=nm.length+1) (a8 (ae (a:= .int (nm.length:Int)) (ax (a8 b7 rfl) (by rw[g_,NK])) (b:= .int 1) rfl (by rw[cN];congr 2)) rfl) (by unfold lim;omega);let wd:=Ep m k nm;let ρ2:=lR ns n m hs tr ot fg st V s9 K z' (GS (.val (.str wd)));have a2H:0<=k:=by rcases hk with rfl|rfl|rfl|⟨rfl,_⟩<;>decide
 have e2:nD [7] (aE (av fO 3 (a7 (ah 3) (a7 (ah 10) (a7 (ah 7) (ac))))) (gN 12)) (lR ns n m hs tr ot fg st s7 s9 K z' w)= .ok (.nx ρ2):=by
  have:frz [7] (lR ns n m hs tr ot fg st s7 s9 K z' w)=lR ns n m hs tr ot fg st V s9 K z' w:=by rcases h with rfl|rfl<;>rfl
  unfold nD;rw[this];exact aK (aH (n:=3) (a8 rfl (a8 rfl (a8 rfl rfl))) rfl (Es g a2H (by omega))) rfl
 have t0:Lq (fT (f2 v9 (a9 12) (fC (.str "")))) ρ2= .ok (!decide (wd=""),ρ2):=by
  unfold Lq;rw[aI (ae (a:= .str wd) (b:= .str "") rfl rfl Hs),ag]
 refine⟨z',GS (.val (.str wd)),?_⟩;unfold vA;rw[ai ((nI ef).trans e1),ai e2];refine(Hy (ρ':=ρ2) ?_).trans rfl;unfold zT;rw[t0,ag];by_cases hw:wd=""
 ·rw[decide_eq_true hw];rfl
 ·rw[decide_eq_false hw]
  have ew:=BG (m:=m) (k:=k) ZO;have ed:=uK (n:=n) (hs:=hs) g q h7 hk (row:=nm) (by omega) (by rw[ew];exact hw);rw[ew]at ed;have ex:bQ [2] dN 3 (a7 (ah 10) (a7 (aR lm (a7 (a9 7) (ac))) (a7 (ah 3) (ac)))) ρ2= .ok (.str wd,ρ2):=LG rfl rfl (a8 rfl (a8 (ax (a8 (d:= .lst (nm.map .int)) rfl rfl) rfl) (a8 rfl rfl))) rfl ed rfl;show rX v9 (bQ [2] dN 3 (a7 (ah 10) (a7 (aR lm (a7 (a9 7) (ac))) (a7 (ah 3) (ac))))) (ah 12) ρ2=_;rw[Ew ex (y:=wd) rfl,decide_eq_true rfl]
  rfl
end
theorem main (ns:List Int) (Wa:ns.length<=63):uC [.scr ns]= .ok (.bl true):=by
 obtain⟨n,hn,h7⟩:∃n:Nat,cl ns 1%8=(n:Int)/\n<=7:=⟨(cl ns 1%8).toNat,by omega,by omega⟩;obtain⟨tr,m,hs,t,el⟩:=yU (n:=n) ns h7 Wa;have g:=t.ok;obtain⟨fg,ef,lf,pf⟩:=dY (cl ns 7) (BB ns) 5 600 (by decide) (by decide);obtain⟨f0,f1,a7a,f3,f4,rfl⟩:∃f0 f1 f2 f3 f4,fg=[f0,f1,f2,f3,f4]:=by
  match fg,lf with
  |[f0,f1,f2,f3,f4],_=>exact⟨f0,f1,f2,f3,f4,rfl⟩
 let fg:List Int:=[f0,f1,a7a,f3,f4];let al:List Int:=(Ov 78).map λk:Nat=>(-2:Int)+(k:Int);let ot:=al.filter λx=> !decide (x∈m.nu);have nl:m.nu.length<=12:=by have:=g.len;show (m.ss.map (·.1)).length<=12;rw[NK];exact this
 have and:al.Nodup:=by
  simp only[al];rw[SI,P9];exact T1.imp λh=>by omega
 have a3E:0<ot.length:=by
  by_cases z:0<ot.length
  ·exact z
  ·have h0:ot=[]:=Rr.mp (by omega)
   have:=di (m:=m.nu) and λx hx=>by
    by_cases y:x∈m.nu
    ·exact y
    ·have:x∈ot:=OM.mpr ⟨hx,by simp[y]⟩
     rw[h0]at this;cases this
   have a7b:al.length=78:=by simp only[al,NK,Q7]
   rw[a7b]at this;omega
 have a7A:ot.length<=78:=by have:=Pt (λx=> !decide (x∈m.nu)) al;simp only[al,NK,Q7]at this;exact this
 obtain⟨j,hj⟩:∃j:Nat,cl ns 8%(ot.length:Int)=(j:Int):=⟨(cl ns 8%(ot.length:Int)).toNat,by have:=Ph (cl ns 8) (show (ot.length:Int)≠0 by omega);omega⟩;have a4X:j<ot.length:=by have:=Pj (cl ns 8) (show (0:Int)<ot.length by omega);omega
 let st:=ot[j];have W_:st∉m.nu:=by
  have:=(OM.mp (Pl a4X)).2;simpa using this
 let src:=(fg.take (f4%5).toNat).filter λ_=> !m.nu.isEmpty;let a0J:Int->Int:=λx=>m.nu.getD (x%(m.nu.length:Int)).toNat 0;let nm:=src.map a0J;have a0F:src.length<=5:=by
  have h1:=Pt (λ_=> !m.nu.isEmpty) (fg.take (f4%5).toNat);have h2:(fg.take (f4%5).toNat).length<=fg.length:=by rw[Qc];omega
  have h3:fg.length=5:=rfl;show (List.filter _ _).length<=5;omega
 have a2U:nm.length<=5:=by simp only[nm,NK];exact a0F
 have WK:∀x∈src,0<m.nu.length:=λx hx=>by
  have:=(OM.mp hx).2;cases h:m.nu with
  |nil=>rw[h]at this;cases this
  |cons a b=>simp
 have a1O:∀x,0<m.nu.length->(x%(m.nu.length:Int)).toNat<m.nu.length:=λx h=>by
  have a:=Ph x (show (m.nu.length:Int)≠0 by omega);have b:=Pj x (show (0:Int)<m.nu.length by omega);omega
 have ZO:∀x∈nm,x∈m.nu:=λx hx=>by
  obtain⟨y,hy,rfl⟩:=Oz.mp hx;have:=a1O y (WK y hy);simp only[a0J];rw[OD,O5 this];exact Pl this
 let A:Option Slot:=GS (.val (.scr ns));let P0:Option Slot:=GS (pO (n:Int) tr m);let C:Option Slot:=GS (LS n m hs);let M:Option Slot:=GS (.val (bE (n:Int) m));let T:Option Slot:=GS (.own (.lst (m.nu.map .int)));let O:Option Slot:=GS (.own (.lst (ot.map .int)));let G:Option Slot:=GS (.val (.lst (fg.map .int)));refine aM rfl ?_;show DS [A,JT,JT,JT,JT,JT,JT,JT,JT,JT,JT,JT,JT]=_;unfold DS;rw[ai (ρ':=[A,GS (pO (n:Int) [] m0),JT,JT,JT,JT,JT,JT,JT,JT,JT,JT,JT]) (by unfold uq;rw[aH (n:=1) (a8 rfl rfl) rfl (yT ns),ag,hn];rfl)];rw[ai (ρ':=[A,GS (pO (n:Int) [] m0),GS (LS n m0 []),JT,JT,JT,JT,JT,JT,JT,JT,JT,JT]) (by
  unfold rW;rw[if_pos (show LY 2 [A,GS (pO (n:Int) [] m0),JT,JT,JT,JT,JT,JT,JT,JT,JT,JT,JT]=true from rfl),a8 (d:= .int (n:Int)) (ds:=[]) (ae (ae (a:= .lst (dz (n:Int) [] m0)) rfl rfl (tL 0 rfl)) rfl JL) rfl,ag,if_pos (show [D.int (n:Int)].length=1 from rfl),BC (by omega) (by omega)]
  rfl)]
 rw[ai (ρ':=[A,P0,C,M,JT,JT,JT,JT,JT,JT,JT,JT,JT]) (Gw (LA (i:=2) (j:=1) (k:=1) rfl (by decide) rfl rfl (a8 rfl rfl) rfl el rfl rfl))];rw[ai (ρ':=[A,P0,C,M,T,JT,JT,JT,JT,JT,JT,JT,JT]) (own_of (Hq g (by unfold bv;rw[ae (a:=bE (n:Int) m) rfl rfl Lv];rfl) rfl))];rw[ai (ρ':=[A,P0,C,M,T,O,JT,JT,JT,JT,JT,JT,JT]) (own_of (by
  rw[cW (ds:=al.map .int) (by
   unfold my;rw[a8 (d:= .int (-2)) rfl (a8 (d:= .int 76) rfl rfl),ag];show (if (-2:Int).natAbs<=lim/\(76:Int).natAbs<=lim then R.ok (gi (-2) 76)else .bad)=_;rw[if_pos ⟨by decide,by decide⟩];unfold gi;simp only[al,OL];rfl) (by simp only[al,NK,Q7];unfold lim;omega) (τ:=[JT,JT,GS (.bor (.lst (m.nu.map .int)))]) rfl (i6 (enc:=D.int) (p:=λx=> !decide (x∈m.nu)) (out:=D.int) al JT (λr _=>aI (ae (a:= .int r) (b:= .lst (m.nu.map .int)) rfl rfl oG)) (λr _ _=>rfl))]))]
 rw[ai (ρ':=[A,P0,C,M,T,O,G,JT,JT,JT,JT,JT,JT]) (aK (aH (n:=4) (a8 (aH (n:=2) (a8 rfl (a8 rfl rfl)) rfl (mh ns 7 rfl)) (a8 (Ei ns rfl) (a8 rfl (a8 rfl rfl)))) rfl ef) rfl)];have a7B:=pf f4 (by simp);rw[ai (ρ':=[A,P0,C,M,T,O,G,GS (.own (.lst (nm.map .int))),JT,JT,JT,JT,JT]) (own_of (by
  rw[cW (ds:=(fg.take (f4%5).toNat).map .int) (by
   unfold bv;rw[sT (d:= .lst (fg.map .int)) (e:= .lst ((fg.take (f4%5).toNat).map .int)) rfl rfl (iY (ae (ae (a:= .lst (fg.map .int)) (b:= .int 4) rfl rfl (tL 4 rfl)) (b:= .int 5) rfl (aD (by decide)))) (by rw[yR (by omega),<-Sv])]
   rfl) (by rw[NK,Qc];have:fg.length=5:=rfl;unfold lim;omega) (τ:=[JT,JT,JT,GS (.bor (.lst (m.nu.map .int)))]) rfl (i6 (enc:=D.int) (p:=λ_=> !m.nu.isEmpty) (out:=λx=>D.int (a0J x)) (fg.take (f4%5).toNat) JT (λr _=>aI (ae (a:= .lst (m.nu.map .int)) (b:= .lst []) rfl rfl (by
    show GS (D.bl (!(m.nu.map D.int).isEmpty))=_;rw[RE]))) (λr hr hp=>by
     have h0:0<m.nu.length:=WK r (OM.mpr ⟨hr,hp⟩);have hk:=a1O r h0;refine ae (a:= .lst (m.nu.map .int)) (b:= .int ((r%(m.nu.length:Int)).toNat:Int)) rfl (ae (a:= .int r) (b:= .int (m.nu.length:Int)) rfl (ax (a8 (d:= .lst (m.nu.map .int)) rfl rfl) (by rw[g_,NK])) (by
      rw[aD (by omega)];have:=Ph r (show (m.nu.length:Int)≠0 by omega)
      congr 2;omega)) (tL _ (by rw[O9,O5 hk];simp only[a0J,PL,OD,O5 hk,Option.getD_some]))))]
  simp only[nm,src,OL];rfl))]
 rw[ai (ρ':=[A,P0,C,M,T,O,G,GS (.own (.lst (nm.map .int))),GS (.val (.int st)),JT,JT,JT,JT]) (aK (d:= .int st) (ae (a:= .lst (ot.map .int)) (b:= .int (j:Int)) rfl (ae (aH (n:=2) (a8 rfl (a8 rfl rfl)) rfl (mh ns 8 rfl)) (ax (a8 (d:= .lst (ot.map .int)) rfl rfl) (by rw[g_,NK])) (by rw[aD (by omega),hj])) (tL j (by rw[O9,O5 a4X];rfl))) rfl)];rw[ai (ρ':=lR ns n m hs tr ot fg st (.own (.lst (nm.map .int))) (.own (.lst (([0,1,2]:List Int).map .int))) JT JT JT) rfl];obtain⟨dl,a7c,a7d,a7C⟩:∃dl:List Int,bL (dC (av cA 1 (a7 (ah 3) (ac)))) (nF 9 (fC (.int 3))) (ay) (lR ns n m hs tr ot fg st (.own (.lst (nm.map .int))) (.own (.lst (([0,1,2]:List Int).map .int))) JT JT JT)= .ok (.nx (lR ns n m hs tr ot fg st (.own (.lst (nm.map .int))) (.own (.lst (dl.map .int))) JT JT JT))/\(∀k∈dl,k=0\/k=1\/k=2\/k=3/\∃h:0<m.ds.length,(m.ds[m.ds.length - 1]'(by omega)).ss=m.ss/\(m.ds[m.ds.length - 1]'(by omega)).rd.map (·.1)=m.mm)/\dl.length<=4:=by
  obtain⟨b,eb,hb⟩:=vW (n:=(n:Int)) g t.rg;have tb:dC (av cA 1 (a7 (ah 3) (ac))) (lR ns n m hs tr ot fg st (.own (.lst (nm.map .int))) (.own (.lst (([0,1,2]:List Int).map .int))) JT JT JT)= .ok b:=jq (aH (n:=1) (a8 rfl rfl) rfl eb);cases b with
  |true=>
   refine⟨[0,1,2,3],by rw[eE tb];rfl,λk hk=> ?_,by simp⟩;simp only[NW,OE,or_false]at hk;rcases hk with rfl|rfl|rfl|rfl
   ·exact .inl rfl
   ·exact .inr (.inl rfl)
   ·exact .inr (.inr (.inl rfl))
   ·exact .inr (.inr (.inr ⟨rfl,hb rfl⟩))
  |false=>
   refine⟨[0,1,2],by rw[c7 tb];rfl,λk hk=> ?_,by simp⟩;simp only[NW,OE,or_false]at hk;rcases hk with rfl|rfl|rfl
   ·exact .inl rfl
   ·exact .inr (.inl rfl)
   ·exact .inr (.inr (.inl rfl))
 rw[ai a7c];let s9:Slot:= .val (.lst (dl.map .int));have YJ:∀(l:List Int) (s7:Slot) (y z w:Option Slot),(∀k∈l,k∈dl)->IsL s7 nm->∃a1P y' z' w',dc (gN 10) vA (l.map .int) (lR ns n m hs tr ot fg st s7 s9 y z w)= .ok (.nx (lR ns n m hs tr ot fg st a1P s9 y' z' w')):=λl=>by
  induction l with
  |nil=>exact λs7 y z w _ _=>⟨s7,y,z,w,rfl⟩
  |cons k l ih=>
   intro s7 y z w hl h;obtain⟨z1,w1,e1⟩:=BI (ns:=ns) (hs:=hs) (tr:=tr) (ot:=ot) (fg:=fg) g t.rg h7 (a7d k (hl k NZ)) W_ a2U ZO (s9:=s9) h (z:=z) (w:=w);obtain⟨a1P,y',z',w',e⟩:=ih (.val (.lst (nm.map .int))) (GS (.val (.int k))) z1 w1 (λx hx=>hl x (O1 _ hx)) (.inr rfl);exact⟨a1P,y',z',w',by rw[NP,i9 (ρ1:=lR ns n m hs tr ot fg st s7 s9 (GS (.val (.int k))) z w) rfl e1,e]⟩
 obtain⟨a1P,y',z',w',LW⟩:=YJ dl (.own (.lst (nm.map .int))) JT JT JT (λk hk=>hk) (.inl rfl);rw[ai (ρ':=lR ns n m hs tr ot fg st a1P s9 y' z' w') (by
  unfold nD;rw[show frz [9] (lR ns n m hs tr ot fg st (.own (.lst (nm.map .int))) (.own (.lst (dl.map .int))) JT JT JT)=lR ns n m hs tr ot fg st (.own (.lst (nm.map .int))) s9 JT JT JT from rfl];exact(nI (ds:=dl.map .int) rfl).trans LW)]
 exact bG (pq rfl (show av j9 2 (a7 (ah 2) (a7 (ah 3) (ac))) (([GS (.val (.scr ns)),GS (pO (n:Int) tr m),GS (.val (.ins "Cellar" (fV (n:Int) (bj (n:Int) m) hs))),GS (.val (bE (n:Int) m)),GS (.own (.lst (m.nu.map .int))),GS (.own (.lst (ot.map .int))),GS (.val (.lst (fg.map .int))),GS a1P,GS (.val (.int st)),GS s9,y',z',w']:aa))= .ok (.bl true)from aH (n:=2) (a8 rfl (a8 rfl rfl)) rfl (yQ t)) (.bl true))
end My
end
end
inductive PySem.W.Fast
|tw10009993294327309121|tw10021706711092373175|tw10151074379049360693|tw10238810410336578261|tw10309668745215231365|tw10312028032551572106|tw10447210760022880591|tw10458647344915099019|tw10510700403679453371|tw1051617873164180390|tw10541636569991264311|tw10543263605643705874|tw10886395501272125495|tw11181154739476801079|tw11321392026250654087|tw11338755447572798402|tw11441316949745319574|tw11744481611863442119|tw11823397717657419625|tw11839025988249726147|tw11887027012764433773|tw11932213070427964516|tw11937535979342326747|tw12200422683428905155|tw12231637351189298527|tw12239277663574053545|tw12381709134429201193|tw12426082262794465323|tw12618191047177137764|tw12849336695960160275|tw13438594596540670338|tw13538932607386329795|tw13712465673162291081|tw13768952690166046618|tw13949716348512492580|tw13953711393842556290|tw13962931319647124391|tw14006843865055099203|tw14143645602688211078|tw14195931980637635889|tw14223220167050949211|tw14465893112830887366|tw14805086768765862484|tw14810179022630595358|tw14816270532035090910|tw14895004396105585666|tw14948625115533509616|tw14949081876983272166|tw14990556895143621619|tw15072973425856360722|tw15081972389753532022|tw15169323405411054297|tw15231653866333409899|tw15235372201751917148|tw15320892360852682050|tw15518859018679126662|tw15845072255079737188|tw15867036304799077891|tw15880050445211866704|tw16032113652883743615|tw16068387867641403922|tw16634595675794157649|tw16641993854580772476|tw1666244264918719113|tw16725837181348070270|tw16811805292794243078|tw17054933809065727127|tw17123069832588961044|tw17206282157188138915|tw17390342475024679015|tw17519342815492763017|tw17649121211799383498|tw17656592737474857792|tw17660198979682320126|tw17790878635883085348|tw18344750122447835790|tw18357050948079416757|tw18426052977708777478|tw18433172486291247933|tw1927453977303324883|tw1936374921130888231|tw2080652264378298865|tw2172423330997107673|tw2388542133871222134|tw2540707041193940922|tw2752823659971785259|tw278100465758835650|tw2793234420559044871|tw2884723037498314744|tw30265135382863848|tw3030171286160517116|tw3352385532142168885|tw3365121869899883109|tw3443281664179695688|tw3586856954324298197|tw3783683661692205511|tw3936613995015337412|tw3983397815094510723|tw4000798127133922974|tw4065672708447899178|tw4264744537736360578|tw4445517910373673475|tw4448149659098269414|tw4460778092754663588|tw4519457421118029520|tw4656749550191156652|tw467946254350592856|tw485796728775230543|tw489466252294554988|tw4967386603085115836|tw5009845491953304695|tw535301846931129110|tw548459629798393281|tw5542402266434934241|tw5577340188502265514|tw588305203811163993|tw5956973512590469792|tw599656430192150947|tw6094760111121289866|tw6096017445175217294|tw6241585070096631224|tw6255494997011214731|tw6298881590128259659|tw6336635455224192849|tw6563618614454892244|tw6645109611394856872|tw6757202346862653930|tw6791078810107481988|tw6826794962338242708|tw6834528463941958193|tw6901421161704885469|tw6907683828608822144|tw6936407927039836232|tw6977906809825510546|tw7026037204141011350|tw7032346657625067709|tw7164665909575265381|tw7227889164035444563|tw723456046000611257|tw7466051882505093850|tw7534383471450389746|tw7676404917471012137|tw7727304784144016732|tw7963124585128230653|tw806358643211222782|tw8101825724876536724|tw8129097060475783773|tw8515130072176705979|tw8549678004518393815|tw859954905284176076|tw8720960015983757312|tw8723339010578231355|tw8767812534487022133|tw8788693616205579547|tw8912202992736346142|tw9139397178489770463|tw9178826621767365618|tw9483640136962350002|tw9912817941757682561|tw9952389909339192217
open PySem PySem.W PyProof.Rows
set_option maxRecDepth 100000 in
set_option maxHeartbeats 0 in
theorem PySem.Challenge.cw_tankbalance_k32_whole_unknown_first_holds : PySem.Challenge.rw_tankbalance_k32_whole_unknown_first.Holds := by
  w_on; o_law; k_head; (case hw => w_witness2)
  k_fill
  refine My.walk (l := PySem.Challenge.rw_tankbalance_k32_whole_unknown_first) rfl rfl (fun w h Y => PySem.W.kIn_of Y) My.main ?F
  case F =>
    intro w mg fa h KX G hmg
    refine' My.JE KX G hmg ?_ ?_ ?_ ?_ ?_ ?_ ?_ ?_ ?_ ?_ ?_ ?_ ?_ ?_ ?_ ?_ ?_ ?_ ?_ ?_ ?_ ?_ ?_ ?_ ?_ ?_ ?_ ?_ ?_ ?_ ?_ ?_ ?_ ?_ ?_ ?_ ?_ ?_ ?_ ?_ ?_ ?_ ?_ ?_ ?_ ?_ ?_ ?_ ?_ ?_ ?_ ?_ ?_ ?_ ?_ ?_ ?_ ?_ ?_ ?_ ?_ ?_ ?_ ?_ ?_ ?_ ?_ ?_ ?_ ?_ ?_ ?_ ?_ ?_ ?_ ?_ ?_ ?_ ?_ ?_ ?_ ?_ ?_ ?_ ?_ ?_ ?_ ?_ ?_ ?_ ?_ ?_ ?_ ?_ ?_ ?_ ?_ ?_ ?_ ?_ ?_ ?_ ?_ ?_ ?_ ?_ ?_ ?_ ?_ ?_ ?_ ?_ ?_ ?_ ?_
    all_goals try first | k_is | k_exc | (refine' L2.Pu.UF.of ?_ ?_ ?_ ?_ <;> try k_is) | (refine' L2.Pu.oW.of ?_ ?_ ?_ ?_ ?_ <;> try k_is)
    all_goals try (repeat' (first | exact True.intro | refine And.intro ?_ ?_ | (refine @Eq.trans _ _ (some true) _ ?_ rfl; k_is) | (refine @Eq.trans _ _ (some false) _ ?_ rfl; k_is) | k_is | k_exc))
