import PyProof.Rows.All
import Wide.All
import OpenK.AllK
import Wide.FinOn
import Lean
import PyProof.EqAt
import PyProof.EqKinds
import PyProof.TupleCall
import PyProof.NeKinds
import PySem.Challenge.RW_tankbalance_k36_whole_history
set_option Elab.async false
set_option linter.all false
set_option maxRecDepth 100000
set_option maxHeartbeats 4000000
open PySem.W renaming Frag->Ku,nsIn->KQ,findIn->KY,mg_of->Le,mroIn->Lr,mg_none_of->Lw,keepIn->Ly,fnOf->LF,kitOne->LQ,excIn->LS,kia_one->LV,emptyDict->Me,instObj->Mr,plainGet->MD,hasDictIn->ML,codeIn->MS,makesIn->N1,plainOver->N9,specialIn->Na,kitCls->Ng,exmOne->Nh,looks_findIn->Nk,takesIn->NA,nd_pure->NH,methodCall_KW->O8,hideAll_none->Ob,isFn->Of,hideAll_get->Oq,plainGet_of->Ot,lookIn->Ou,callWith_K->Oz,methodObj->OP,takerIn->PH,OpenLaw->PM,cellsFrom_some->PY,typeIn->Q7,looks_mroIn->QA,of_hideAll->QG,kitx_list->R1,kitx_dict->R3,handedIn->Rf,hideAll->Rq,kitMeta->RE,WalkO->RQ,Looks->RS,clsIn->RT
open PySem renaming Value->Kv,Str->Kw,Addr->Kx,Shared->Ky,wpAny_bind->Kz,starEach->KC,Spec->KD,Expr->KI,mainGlobals->KJ,wpAny_pure->KN,wpAny->KP,model->KS,Program->KW,Heap->L4,eval->L5,Stmt->L9,World->La,boot_len->Lb,Around->Lg,Obj->Lk,backTo->Ll,Pos->Ls,bootBuiltins->Lu,attributeBase->Lz,NameKind->LC,wpAny_holding->LD,swapsWith->LI,assignEach->LL,FuncData->M0,sizeLine_eq->M3,keywordEach->M4,compareOp->M6,behindInMarks->M9,wpAny_truthy_bool->Mi,Env->Mm,wpAny_mono->Ms,binaryOp->Mt,backToKw->Mu,holding->Mx,foldedSetIterable->Mz,Scope->MB,bindArgs->ME,wpAny_Call_Name_kw->MH,Keyword->MJ,cLine->MQ,mem_of_lookup->MX,standAt->M_,call_meets->N3,getMethod->Nj,wpAny_call_entry->Nm,assign->Nq,sliceBounds->Nw,wpAny_passesOwn->Ny,Tok->NI,codeAny_mono->NJ,tupleKind_room_in1->NN,codeAny->NP,getItem->NQ,wpAny_newObj_type->NV,Sem->N_,wpAny_standAt->O2,wpAny_newList->O3,callWith->O4,plainObj_wpAny_Assign_Attribute->Oa,wpAny_execs_nil->Oe,IsPart->Oh,codeAny_call_builtin->Ol,unbindBehindTheSuite->Om,Builtin->Ov,swapsWithSole->OF,swappedStores->OG,evalPart_none->OK,wpAny_pyIter_list->OQ,slot_list_getitem->OR,wpAny_call->OX,valueAt->P0,callerA->P1,GenState->P2,noFill_tuple_add->P8,wpAny_typeOf->Pa,wpAny_getItem_list_slice->Pb,wpAny_comprehension_free->Pf,wpAny_check_ga_own->Pl,wpAny_callSpecial?_slot->Pt,tupleKind->PD,letOwnedTupleGo->PF,atKey->PL,wpAny_field->PZ,subscripted->P_,wpAny_Call_method_late->Q2,isTrue->Q5,wpAny_isTrue_Compare1->Q6,BindsTo->Q8,CmpOp->Qj,bindL->Qk,bindC->Ql,seq_tuple_add->Qu,Within->QE,wpAny_pyIter_tuple->QI,Result->QJ,concat_meets->QO,seqIndex_neg->QR,noteFrame->QS,scanBound->QX,Model->Q_,relabel->R0,wpAny_sequenceKey->R5,wpAny_collect_seq->R7,seqIndex_of->Ra,builtinsNs->Rr,wpAny_Name->Rt,truthy->Ru,typeIs_int->Rv,call->Rx,checkCount->Ry,wpAny_rule->RA,spliced->RF,setItem->RG,BoolOp->RY
open List renaming length_map->KA,size_toArray->KG,map_cons->KO,mem_cons->KR,mem_singleton->KU,mem_cons_self->K_,mem_cons_of_mem->L0,getElem?_eq_some_iff->L3,length_cons->L6,getElem?_map->L8,getElem?_eq_getElem->Ld,replicate->Lf,mem_append_right->Lm,length_append->Lp,map_append->Lv,range->LA,mem_append->LB,not_mem_nil->LH,any_eq_true->LO,getD_eq_getElem?_getD->LR,mem_append_left->LU,pairwise_cons->LW,lookup_cons->LX,replicate_succ->LY,all_cons->L_,map_map->M1,append_nil->M5,mem_of_getElem?->M8,map_nil->Ma,any_cons->Mb,mem_range->Md,getElem?_replicate->Mh,getElem?_append_left->Mq,mem_map->Mv,flatten_cons->MA,mem_filter->MI,length_singleton->MK,getElem?_set->MN,pairwise_map->MO,all_eq_true->MV,filterMap_cons->MW,getElem_of_mem->MY,nodup_cons->N2,find?_cons->N4,nodup_append->Nb,toArray->Nf,length_filter_le->Ni,length_take->Nl,getElem?_append->Np,getElem?_append_right->Nr,lookup->Nv,map_congr_left->Nx,length_nil->NC,pairwise_iff_getElem->NF,drop_eq_getElem_cons->NG,length_eq_zero_iff->NT,reverse_cons->NW,append_assoc->NX,length_range->NY,getElem_mem->O5,length_filter_eq_length_iff->O6,length_replicate->O9,getElem?_set_ne->Od,length_set->Oi,length->Ox,mem_filterMap->Oy,getElem_inj->P4,length_drop->P9,map->Pp,filter_cons->Pq,getElem?_cons_zero->Py,getElem?_cons_succ->Pz,of_mem_zip->PJ,nil_append->PK,getElem?_set_self->PV,dropLast_eq_take->Qe,foldl->Qn,mem_iff_getElem->Qo,zip->Qr,dropLast_concat->Qs,nodup_iff_count->Qt,map_take->Qy,getElem_map->Ri,countP_cons->Rj,drop_length->Rm,ext_getElem->Ro,isEmpty_map->Rp,foldl_cons->Rw,count_cons->RB,idxOf_cons->RC,drop_zero->RJ,nodup_nil->RM,all_nil->RZ
open PySem.Heap renaming get?_push_of_some->KH,lt_size->KZ,get?_push_size->Li,size_push->Nc,get?_none_of_le->Oc,SameBut->P5,get?_update_other->Q1
open Nat renaming le_refl->L7,lt_of_lt_of_le->Ln,ne_of_lt->Lo,le_trans->Lq,lt_irrefl->LP,zero_le->Ml,lt_succ_of_lt->MM,lt_of_le_of_lt->OA,add_sub_cancel->OB,le_succ_of_le->OV,le_of_eq->P6,lt_succ_self->P7,le_of_not_lt->Pd,zero_add->Ph,le_of_lt->QH,lt_trichotomy->R6,le_succ->R9
open Bool renaming false_ne_true->Lc,false_eq_true->LM,and_eq_true->LN,eq_iff_iff->Nz,false_or->OM,eq_false_iff->OW,true_or->Pc,or_eq_true->PU,and_false->Q9,not_false->RN,or_false->RP,not_true->RU
open PySem.Value renaming ref->Lh,none->LK,type->MP,int->N0,builtin->Nt,str->O7,bool->Qh,float->R8,isStrOf->RO,isInt->S0,bytes->S1
open Or renaming inr->Lj,inl->Lx
open Option.some renaming inj->LG,injEq->OU
open PyProof.Rows renaming slot_tuple_getitem->LJ,envOfC->Mp,callWith_type1->MG,AllBare->NO,step_dedup->NR,callWith_builtin1->Og,tupleItemsOf_->OJ,subscriptTail->OL,IntsAre->O_,entry_list_sort->PR,subscriptTail_builtinR->Q0,slot_list_sort->Qb,args_list_sort->Qc,sortedHeap_old->Qd,IsTup->Qi,Subscript_->Qm,sortedHeap->Qp,sortedHeap_at->Qw,listUpdate_at->Qx,entry_tuple_getitem->Qz,args_tuple_getitem->QP,plain_sorted->QT,entry_sorted->QU,args_sorted1->QV,kind_sorted->Rb,seqEpoch_at->Rc,firstMet->Rl,size_push'->Rz
open PySem.PassesOwn renaming leaving->LZ
open PySem.F renaming plainAttrs_list->M7,slot_list_count->MZ,args_tuple_add_2->NK,entry_tuple_add->NS,slot_tuple_add->O0,args_list_count_2->OY,entry_list_count->Pj,slot_list_append->Pm,type_list_append->Pn,slot_tuple_count->Po,slot_list_index->Pw,type_list_count->Px,slot_list_pop->Qf,type_list_pop->Qg
open PySem.NameKind renaming free->Mc,cell->Qv
open False renaming elim->Mf
open PySem.Obj renaming mapSeq->Mg
open Array renaming length_toList->Mj,getD_eq_getD_getElem?->OC,perm_iff_toList_perm->ON,getElem?_toList->Qa,getD->Qq,append_assoc->QF,map->QW,toList->RW
open Ne renaming symm->Mn
open Int renaming le_trans->Mw,emod_nonneg->N6,emod_lt_of_pos->N7,eq_ofNat_of_zero_le->NU,natAbs->Oo,lt_trans->Pg
open True renaming intro->MF
open PySem.Builtin.Slice renaming slicePlaces->MR,sliceAdjust->NB,sliceApplied->OH
open PySem.Builtin.Tuple renaming tupleExact->MT,tupleItemsOf->OI,tupleIsExact->OO
open PySem.Builtin.List renaming listTooLong->MU
open Option renaming map_some->N5,isSome_map->OS,bind_some->Pe,getD_none->Rh,none->S3
open PySem.Calls renaming callWith_builtin->N8,evalArgs_plain->Nn,call_function_entry->ND,Name_function_global->OE,spliced_cons->QN,spliced_nil->R4
open List.Perm renaming refl->Nd,nil_eq->Rn,cons->RH
open Sum renaming inl->Nu,inr->OZ
open PySem.Str renaming ofString->NL,empty->QK
open PySem.SeqAt.EqAt renaming bool_bool->NM,int_int->O1,int_str->QC,str_int->QD
open PySem.Builtin.Getset_descriptor renaming descrGet->NZ,descrCheckInstance->Q3,descrNameAndClass->Q4,descrGetter->QB
open ForInStep renaming yield->Oj
open PySem.Paired renaming length->OD,snoc->S2
open List.Pairwise renaming nil->OT
open PySem.SeqAt renaming list_countAt->Pk
open PySem.Around renaming under->QL
open PySem.Code renaming isFrame->QM,quiet_builtin->QY
open PySem.Heap.IsSliceOf renaming new->QQ
open PySem.W.KF renaming slot_gs->QZ
open PySem.Builtin.ObjectAttr renaming takesStores->RD,bindTo->RV,find->R_
open PySem.Builtin.Frozenset renaming updateFrom->RK
open PySem.Data renaming seq->RX
local macro_rules | `(tactic| omega) => `(tactic| lia)
noncomputable section
namespace L2
open PySem PySem.Spec PyProof.Rows
abbrev cH:=Sum Int Kw
def rn:cH->Kv->Bool
 | .inl k,v=>S0 k v
 | .inr x,v=>RO x v
def J7 (w:La):cH->Int
 | .inl k=>hashInt k
 | .inr x=>hashStr w x
theorem cQ:∀{k:cH} {v:Kv},rn k v=true->(∃i t,k=Nu i/\v=N0 i t)\/(∃x t,k=OZ x/\v=O7 x t)
 | .inl i,v,h=>by
  obtain⟨t,e⟩:=Value.isInt_shape (k:=i) (v:=v) h
  exact .inl ⟨i,t,rfl,e⟩
 | .inr x,v,h=>by
  obtain⟨t,e⟩:=Value.isStrOf_shape (x:=x) (v:=v) h
  exact .inr ⟨x,t,rfl,e⟩
theorem zL (i:Int) (t:NI):rn (.inl i) (.int i t)=true:=by simp[rn,S0]
theorem zM (x:Kw) (t:NI):rn (.inr x) (.str x t)=true:=by simp[rn,RO]
theorem Fo (a b:Int):decide ((Nu a:cH)=Nu b)=(a==b):=by
 by_cases e:a=b
 ·subst e;simp
 ·have h:¬(Nu a:cH)=Nu b:=λq=>e (Sum.inl.inj q)
  rw[decide_eq_false h]
  exact(beq_eq_false_iff_ne.mpr e).symm
theorem Fp (a b:Kw):decide ((OZ a:cH)=OZ b)=decide (a=b):=by
 by_cases e:a=b
 ·subst e;simp
 ·have h:¬(OZ a:cH)=OZ b:=λq=>e (Sum.inr.inj q)
  rw[decide_eq_false h,decide_eq_false e]
theorem Fq (a:Int) (b:Kw):decide ((Nu a:cH)=OZ b)=false:=decide_eq_false (λq=>nomatch q)
theorem Fs (a:Kw) (b:Int):decide ((OZ a:cH)=Nu b)=false:=decide_eq_false (λq=>nomatch q)
def dG (prog:KW) (w:La):PySem.KeyKind prog w cH where
 is:=rn
 hash:=J7 w
 inj:=λv a b ha hb=>by
  rcases cQ ha with ⟨i,t,rfl,rfl⟩|⟨x,t,rfl,rfl⟩
  ·rcases cQ hb with ⟨j,u,rfl,e⟩|⟨y,u,rfl,e⟩
   ·injection e with e1 _;rw[e1]
   ·exact nomatch e
  ·rcases cQ hb with ⟨j,u,rfl,e⟩|⟨y,u,rfl,e⟩
   ·exact nomatch e
   ·injection e with e1 _;rw[e1]
 byValue:=λk v h=>by
  rcases cQ h with ⟨i,t,rfl,rfl⟩|⟨x,t,rfl,rfl⟩<;>rfl
 pyHash:=λhv h=>by
  rcases cQ hv with ⟨i,t,rfl,rfl⟩|⟨x,t,rfl,rfl⟩
  ·exact wpAny_pyHash_int h
  ·exact wpAny_pyHash_str h
 eqBool:=λhu hv h=>by
  rcases cQ hu with ⟨i,t,rfl,rfl⟩|⟨x,t,rfl,rfl⟩
  ·rcases cQ hv with ⟨j,u,rfl,rfl⟩|⟨y,u,rfl,rfl⟩
   ·rw[Fo]at h;exact wpAny_eqBool_int h
   ·rw[Fq]at h;exact QC i t y u _ _ _ _ h
  ·rcases cQ hv with ⟨j,u,rfl,rfl⟩|⟨y,u,rfl,rfl⟩
   ·rw[Fs]at h;exact QD x t j u _ _ _ _ h
   ·rw[Fp]at h;exact wpAny_eqBool_str h
 «strs»:=λk x t v h=>by
  rcases cQ h with ⟨i,u,rfl,e⟩|⟨y,u,rfl,e⟩
  ·exact nomatch e
  ·injection e with e1 _
   subst e1
   cases v<;>rfl
theorem vB (prog:KW) (w:La) (i:Int) (t:NI):(dG prog w).is (.inl i) (.int i t)=true:=zL i t
theorem vC (prog:KW) (w:La) (x:Kw) (t:NI):(dG prog w).is (.inr x) (.str x t)=true:=zM x t
end L2
namespace L2
open PySem PySem.Spec PyProof.Rows
inductive V where
 |non|bl (b:Bool)|int (i:Int)|str (x:Kw)|byt (b:Array UInt8)|flt (b:UInt64)|ref (a:Kx)|ty (n:String)
 deriving DecidableEq
def bT:V->Kv->Prop
 | .non,u=>u=LK
 | .bl b,u=>u=Qh b
 | .int i,u=>∃t,u=N0 i t
 | .str x,u=>∃t,u=O7 x t
 | .byt b,u=>∃t,u=S1 b t
 | .flt b,u=>∃t,u=R8 b t
 | .ref a,u=>u=Lh a
 | .ty n,u=>u=MP n
abbrev bp:List V->List Kv->Prop:=Paired bT
theorem bp.length {xs:List V} {us:List Kv} (r:bp xs us):xs.length=us.length:=OD r
theorem bp.get:∀{xs:List V} {us:List Kv} {i:Nat} {x:V},bp xs us->xs[i]? =some x->∃u,us[i]? =some u/\bT x u
 |_,_,_,_, .nil,e=>by simp at e
 |_,_,0,_, .cons r _,e=>by simp at e;subst e;exact⟨_,rfl,r⟩
 |_,_,i+1,x, .cons _ t,e=>by
  obtain⟨u,h1,h2⟩:=bp.get (i:=i) (x:=x) t (by simpa using e)
  exact⟨u,by simpa using h1,h2⟩
theorem bp.set {x:V} {u:Kv} (r:bT x u):∀{xs:List V} {us:List Kv} (i:Nat),bp xs us->bp (xs.set i x) (us.set i u)
 |_,_,_, .nil=> .nil
 |_,_,0, .cons _ t=> .cons r t
 |_,_,i+1, .cons q t=> .cons q (bp.set r i t)
theorem bp.append:∀{xs ys:List V} {us ws:List Kv},bp xs us->bp ys ws->bp (xs++ys) (us++ws)
 |_,_,_,_, .nil,s=>s
 |_,_,_,_, .cons r t,s=> .cons r (bp.append t s)
theorem bp.take:∀{xs:List V} {us:List Kv} (n:Nat),bp xs us->bp (xs.take n) (us.take n)
 |_,_,0,_=> .nil
 |_,_,_+1, .nil=> .nil
 |_,_,n+1, .cons r t=> .cons r (bp.take n t)
theorem bp.drop:∀{xs:List V} {us:List Kv} (n:Nat),bp xs us->bp (xs.drop n) (us.drop n)
 |_,_,0,r=>r
 |_,_,_+1, .nil=> .nil
 |_,_,n+1, .cons _ t=>bp.drop n t
def lc:Option V->Option Kv->Prop
 |some v,some u=>bT v u
 |none,none=>True
 |_,_=>False
def KV {κ:Type}:List (κ×V)->List (κ×Kv)->Prop:=Paired λ(p:κ×V) (q:κ×Kv)=>p.1=q.1/\bT p.2 q.2
def kV:cH->V
 | .inl i=> .int i
 | .inr x=> .str x
inductive HO where
 |lst (xs:List V)
 |tup (xs:List V)
 |dK (kvs:List (cH×V))|dT (kvs:List (List cH×V))
 |set (S:Int->Bool) (n:Nat)
 |ins (C dx:Kx) (fs:List (Kw×V))
 |own (x:Kx)
 |xd (fs:List (Kw×V))
 |met (f x:Kx)
 |rng (lo hi:Int)
 |frz (o:Lk) (u:HO)
 |tbl (ps:Array Kv)
 |ext (φ:L4->Prop)
abbrev Hp:=Kx->Option HO
def b_ (H:Hp) (a:Kx) (o:HO):Hp:=λb=>if b=a then some o else H b
theorem aE {H:Hp} {a:Kx} {o:HO}:b_ H a o a=some o:=by unfold b_;rw[if_pos rfl]
theorem az {H:Hp} {a b:Kx} {o:HO} (h:b≠a):b_ H a o b=H b:=by unfold b_;rw[if_neg h]
theorem Hl {H:Hp} {a b:Kx} {o u:HO} (h:H a=some o) (h':H b=some u) (d:o≠u):a≠b:=by
 intro e;subst e;rw[h]at h';exact d (LG h')
theorem dk {H:Hp} {a b:Kx} {o:HO} (h:H a=some o) (h':H b=none):a≠b:=by
 intro e;subst e;rw[h]at h';cases h'
def jD (h:L4) (a:Kx) (S8:Array Kv):Prop:=∃o,h.get? a=some o/\o.cls= .type "tuple"/\∃n,o.data= .seq S8 n/\o.dict=none
theorem jD.tup {h:L4} {a:Kx} {S8:Array Kv} (x:jD h a S8):Qi h a S8:=let ⟨o,ho,hc,n,hd,_⟩:=x;⟨o,ho,hc,n,hd⟩
theorem jD.lt {h:L4} {a:Kx} {S8:Array Kv} (x:jD h a S8):a<h.objs.size:=x.tup.lt
theorem jD.new (h:L4) (S8:Array Kv):jD (h.push {cls:= .type "tuple",data:= .seq S8}) h.objs.size S8:=⟨_,Li _ rfl,rfl,_,rfl,rfl⟩
section
variable (P:KW) (w:La)
def ci (H:Hp) (h:L4) (a:Kx):HO->Prop
 | .lst xs=>xs.length<=sizeLine/\∃(its:List Kv) (n:Nat),bp xs its/\h.get? a=some {cls:= .type "list",data:= .seq its.toArray n}
 | .tup xs=>xs.length<=sizeLine/\∃its:List Kv,bp xs its/\jD h a its.toArray
 | .dK kvs=>kvs.length<=sizeLine/\(a==sysModules)=false/\∃vs,KV kvs vs/\h.DictOf (dG P w) a vs
 | .dT kvs=>kvs.length<=sizeLine/\(a==sysModules)=false/\∃xs:List (List cH×Kx×Kv),
   Paired (λ(p:List cH×V) (q:List cH×Kx×Kv)=>p.1=q.1/\H q.2.1=some (.tup (p.1.map kV))/\bT p.2 q.2.2) kvs xs/\
   ∃o es ep,h.get? a=some o/\o.ExactDict/\o.data= .dict es ep/\es.toList=xs.map (entryOfKey (PD (dG P w)))/\(xs.map (·.1)).Nodup
 | .set S n=>h.SetOf (intKind P w) a S n
 | .ins C dx fs=>H dx=some (.own a)/\fs.length<=1000/\dx≠a/\h.get? a=some (Mr C dx)/\
   ∃mA,h.Ns1 dx mA/\(∀f,lc (fs.lookup f) (mA f))/\QE mA (fs.map (·.1))
 | .own _=>∃o,h.get? a=some o
 | .xd fs=>∃mA,h.Ns1 a mA/\∀f,lc (fs.lookup f) (mA f)
 | .rng lo hi=>∃t u v,h.get? a=some {cls:= .type "range",data:= .fields #[.int lo t, .int hi u, .int 1 v]}
 | .frz o u=>h.get? a=some o/\ci H h a u
 | .tbl ps=>h.get? a=some {cls:= .none,data:= .fields ps}
 | .met f x=>h.get? a=some (OP (.ref f) (.ref x))
 | .ext φ=>φ h/\(∃o,h.get? a=some o)/\∀h1 h2:L4,φ h1->(∀o,h1.get? a=some o->h2.get? a=some o)->φ h2
def lp (H:Hp) (h:L4):Prop:=∀a o,H a=some o->ci P w H h a o
end
section
variable {P:KW} {w:La} {H H':Hp} {h h':L4} {a:Kx} {o:HO}
theorem ci.lt (x:ci P w H h a o):a<h.objs.size:=by
 cases o with
 |lst xs=>obtain⟨_,_,_,_,e⟩:=x;exact KZ e
 |tup xs=>obtain⟨_,_,_,p⟩:=x;exact p.lt
 |dK kvs=>obtain⟨_,_,_,_,o,_,_,e,_⟩:=x;exact KZ e
 |dT kvs=>obtain⟨_,_,_,_,o,_,_,e,_⟩:=x;exact KZ e
 |set S n=>obtain⟨o,_,_,_,e,_⟩:=x;exact KZ e
 |ins C dx fs=>obtain⟨_,_,_,e,_⟩:=x;exact KZ e
 |own y=>obtain⟨_,e⟩:=x;exact KZ e
 |xd fs=>obtain⟨_,⟨_,_,_,e,_⟩,_⟩:=x;exact KZ e
 |rng lo hi=>obtain⟨_,_,_,e⟩:=x;exact KZ e
 |frz ob u=>obtain⟨e,_⟩:=x;exact KZ e
 |tbl ps=>exact KZ (show h.get? a=some _ from x)
 |met f y=>exact KZ (show h.get? a=some _ from x)
 |ext φ=>obtain⟨_,⟨_,e⟩,_⟩:=x;exact KZ e
theorem Paired.mapP {α β:Type} {F G:α->β->Prop}:∀{l₁:List α} {l₂:List β},Paired F l₁ l₂->(∀a b,F a b->G a b)->Paired G l₁ l₂
 |_,_, .nil,_=> .nil
 |_,_, .cons r t,f=> .cons (f _ _ r) (Paired.mapP t f)
theorem ci.stay (x:ci P w H h a o) (k:∀b u,(b=a\/H b=some (.own a))->h.get? b=some u->h'.get? b=some u)
  (ho:∀b,H b=some (.own a)->H' b=some (.own a)) (ht:∀b xs,H b=some (.tup xs)->H' b=some (.tup xs)):ci P w H' h' a o:=by
 induction o with
 |lst xs=>obtain⟨z,its,n,r,e⟩:=x;exact⟨z,its,n,r,k _ _ (.inl rfl) e⟩
 |tup xs=>obtain⟨z,its,r,ob,e,c⟩:=x;exact⟨z,its,r,ob,k _ _ (.inl rfl) e,c⟩
 |dK kvs=>obtain⟨z,y,vs,r,ob,es,ep,e,c⟩:=x;exact⟨z,y,vs,r,ob,es,ep,k _ _ (.inl rfl) e,c⟩
 |dT kvs=>
  obtain⟨z,y,xs,r,ob,es,ep,e,c⟩:=x
  exact⟨z,y,xs,Paired.mapP r λp q z=>⟨z.1,ht _ _ z.2.1,z.2.2⟩,ob,es,ep,k _ _ (.inl rfl) e,c⟩
 |set S n=>obtain⟨ob,es,ep,t,e,c⟩:=x;exact⟨ob,es,ep,t,k _ _ (.inl rfl) e,c⟩
 |ins C dx fs=>
  obtain⟨d,z,ne,e,mA,⟨od,es,ep,e2,c⟩,r⟩:=x
  exact⟨ho _ d,z,ne,k _ _ (.inl rfl) e,mA,⟨od,es,ep,k _ _ (.inr d) e2,c⟩,r⟩
 |own y=>obtain⟨ob,e⟩:=x;exact⟨ob,k _ _ (.inl rfl) e⟩
 |xd fs=>obtain⟨mA,⟨od,es,ep,e,c⟩,r⟩:=x;exact⟨mA,⟨od,es,ep,k _ _ (.inl rfl) e,c⟩,r⟩
 |rng lo hi=>obtain⟨t,u,v,e⟩:=x;exact⟨t,u,v,k _ _ (.inl rfl) e⟩
 |frz ob u ih=>obtain⟨e,q⟩:=x;exact⟨k _ _ (.inl rfl) e,ih q⟩
 |tbl ps=>
  have e:h.get? a=some {cls:= .none,data:= .fields ps}:=x
  show h'.get? a=some {cls:= .none,data:= .fields ps}
  exact k a _ (.inl rfl) e
 |met f y=>
  have e:h.get? a=some (OP (.ref f) (.ref y)):=x
  show h'.get? a=some (OP (.ref f) (.ref y))
  exact k a _ (.inl rfl) e
 |ext φ=>obtain⟨p,⟨o,e⟩,st⟩:=x;exact⟨st _ _ p λo q=>k _ _ (.inl rfl) q,⟨o,k _ _ (.inl rfl) e⟩,st⟩
theorem lp.lt (x:lp P w H h) (e:H a=some o):a<h.objs.size:=(x a o e).lt
theorem lp.fresh (x:lp P w H h) (e:h.objs.size<=a):H a=none:=by
 cases q:H a with
 |none=>rfl
 |some u=>exact absurd (Ln (x.lt q) e) (LP _)
theorem lp.kept (x:lp P w H h) (k:∀b u,h.get? b=some u->h'.get? b=some u):lp P w H h':=λa o e=>
 (x a o e).stay (λb u _ q=>k b u q) (λ_ q=>q) λ_ _ q=>q
theorem lp.laid (x:lp P w H h) (k:∀b u,h.get? b=some u->h'.get? b=some u) (hp:h.objs.size<=a) (new:ci P w (b_ H a o) h' a o):lp P w (b_ H a o) h':=λb u e=>by
 have hn:=x.fresh hp
 by_cases hb:b=a
 ·subst hb;rw[aE]at e;cases e;exact new
 ·rw[az hb]at e
  exact(x b u e).stay (λc v _ q=>k c v q) (λc q=>by rw[az (dk q hn)];exact q) λc xs q=>by rw[az (dk q hn)];exact q
end
def Rd (H:Hp) (a:Kx) (u:HO):Prop:=H a=some u\/∃o,H a=some (.frz o u)
theorem Rd.of {H:Hp} {a:Kx} {u:HO} (h:H a=some u):Rd H a u:= .inl h
theorem Rd.ok {P:KW} {w:La} {H:Hp} {h:L4} {a:Kx} {u:HO} (r:Rd H a u) (x:lp P w H h):ci P w H h a u:=by
 rcases r with r|⟨o,r⟩
 ·exact x a u r
 ·obtain⟨_,q⟩:=x a _ r
  exact q
def Hm:Option HO->Prop
 |some (.lst _)=>True
 |some (.dK _)=>True
 |some (.dT _)=>True
 |some (.set _ _)=>True
 |some (.ins _ _ _)=>True
 |some (.ext _)=>True
 |_=>False
section
variable {P:KW} {w:La} {H:Hp} {h h':L4} {x e:Kx} {o':HO}
theorem lp.write (ok:lp P w H h) (mu:Hm (H x)) (he:e=x\/H e=some (.own x)) (k:∀b u,b≠e->h.get? b=some u->h'.get? b=some u) (Yh:∃u,h'.get? e=some u)
  (new:ci P w (b_ H x o') h' x o'):lp P w (b_ H x o') h':=λb u q=>by
 have Yr:∀c y,H c=some (.own y)->c≠x:=λc y r z=>by subst z;rw[r]at mu;exact mu
 have Zr:∀c xs,H c=some (.tup xs)->c≠x:=λc xs r z=>by subst z;rw[r]at mu;exact mu
 by_cases hb:b=x
 ·subst hb;rw[aE]at q;cases q;exact new
 ·rw[az hb]at q
  by_cases Xn:b=e
  ·have q':H b=some (.own x):=by
    rcases he with z|z
    ·exact absurd (Xn.trans z) hb
    ·rw[Xn];exact z
   rw[q]at q';cases q'
   obtain⟨v,hv⟩:=Yh
   exact⟨v,by rw[Xn];exact hv⟩
  ·refine(ok b u q).stay (λc v hc r=>k c v ?_ r) (λc r=>by rw[az (Yr c b r)];exact r) λc xs r=>by rw[az (Zr c xs r)];exact r
   rcases hc with rfl|hc
   ·exact Xn
   ·rintro rfl
    rcases he with z|z
    ·exact Yr c b hc z
    ·rw[hc]at z;cases z;exact hb rfl
end
structure Un (fs ex:List Kx) (H H':Hp) (h h':L4):Prop where
 keep:∀b o,h.get? b=some o->H b=none->b∉fs->b∉ex->h'.get? b=some o
 slot:∀b o,h.get? b=some o->H b=none->b∈fs->b∉ex->∃sl,h'.get? b=some {o with slots:=sl}
 free:∀b o,h.get? b=some o->H b=none->b∉ex->H' b=none
 there:∀b o,h.get? b=some o->b∉ex->∃o',h'.get? b=some o'
 tups:∀b xs,H b=some (.tup xs)->H' b=some (.tup xs)
 frzs:∀b o u,H b=some (.frz o u)->H' b=some (.frz o u)
 tbls:∀b ps,H b=some (.tbl ps)->∃more,H' b=some (.tbl (ps++more))
section
variable {fs Vv ex a3m:List Kx} {H H1 H2:Hp} {h h1 h2 h':L4} {a x e:Kx} {o:HO}
theorem Un.any (u:Un fs ex H H1 h h1) {b:Kx} {ob:Lk} (q:h.get? b=some ob) (n:H b=none) (hx:b∉ex):∃sl,h1.get? b=some {ob with slots:=sl}:=by
 by_cases hb:b∈fs
 ·exact u.slot b ob q n hb hx
 ·exact⟨ob.slots,u.keep b ob q n hb hx⟩
theorem Un.trans (a:Un fs ex H H1 h h1) (b:Un fs ex H1 H2 h1 h2):Un fs ex H H2 h h2 where
 keep:=λc ob q n hc hx=>b.keep c ob (a.keep c ob q n hc hx) (a.free c ob q n hx) hc hx
 slot:=λc ob q n hc hx=>by
  obtain⟨sl,e1⟩:=a.slot c ob q n hc hx
  obtain⟨Xw,e2⟩:=b.slot c _ e1 (a.free c ob q n hx) hc hx
  exact⟨Xw,e2⟩
 free:=λc ob q n hx=>by
  obtain⟨o',e1⟩:=a.there c ob q hx
  exact b.free c o' e1 (a.free c ob q n hx) hx
 there:=λc ob q hx=>by
  obtain⟨o',e1⟩:=a.there c ob q hx
  exact b.there c o' e1 hx
 tups:=λc xs q=>b.tups c xs (a.tups c xs q)
 frzs:=λc ob xs q=>b.frzs c ob xs (a.frzs c ob xs q)
 tbls:=λc ps q=>by
  obtain⟨m1,e1⟩:=a.tbls c ps q
  obtain⟨m2,e2⟩:=b.tbls c _ e1
  exact⟨m1++m2,by rw[e2,QF]⟩
theorem Un.kept (k:∀b u,h.get? b=some u->h'.get? b=some u):Un fs ex H H h h':=
 ⟨λb ob q _ _ _=>k b ob q,λb ob q _ _ _=>⟨ob.slots,k b ob q⟩,λ_ _ _ n _=>n,λb ob q _=>⟨ob,k b ob q⟩,λ_ _ q=>q,λ_ _ _ q=>q,λ_ ps q=>⟨#[],by rw[q];simp⟩⟩
theorem Un.refl:Un fs ex H H h h:=Un.kept λ_ _ q=>q
theorem Un.laid (k:∀b u,h.get? b=some u->h'.get? b=some u) (hp:h.objs.size<=a) (hn:H a=none):Un fs ex H (b_ H a o) h h' where
 keep:=λb u q _ _ _=>k b u q
 slot:=λb u q _ _ _=>⟨u.slots,k b u q⟩
 free:=λb u q n _=>by rw[az (Lo (Ln (KZ q) hp))];exact n
 there:=λb u q _=>⟨u,k b u q⟩
 tups:=λb xs q=>by rw[az (dk q hn)];exact q
 frzs:=λb u xs q=>by rw[az (dk q hn)];exact q
 tbls:=λb ps q=>⟨#[],by rw[az (dk q hn),q];simp⟩
theorem Un.write (mu:Hm (H x)) (he:e=x\/H e=some (.own x)) (k:∀b u,b≠e->h.get? b=some u->h'.get? b=some u) (Yh:∃u,h'.get? e=some u):Un fs ex H (b_ H x o) h h':=by
 have hx:∀b,H b=none->b≠x:=λb n z=>by subst z;rw[n]at mu;exact mu
 have hb:∀b,H b=none->b≠e:=λb n z=>by
  subst z
  rcases he with r|r
  ·exact hx b n r
  ·rw[n]at r;cases r
 have hm:∀b u,H b=some u->¬Hm (some u)->b≠x:=λb u q nm z=>by subst z;rw[q]at mu;exact nm mu
 refine⟨λb u q n _ _=>k b u (hb b n) q,λb u q n _ _=>⟨u.slots,k b u (hb b n) q⟩,λb u q n _=>by rw[az (hx b n)];exact n,λb u q _=> ?_,
  λb xs q=>by rw[az (hm b _ q λz=>z)];exact q,λb u xs q=>by rw[az (hm b _ q λz=>z)];exact q,λb ps q=>⟨#[],by rw[az (hm b _ q λz=>z),q];simp⟩⟩
 by_cases Xn:b=e
 ·subst Xn;exact Yh
 ·exact⟨u,k b u Xn q⟩
end
def IT (h:L4) (H:Hp):List Kx:=(LA h.objs.size).filter λa=>(H a).isSome
def uv (h:L4) (H:Hp):L4:=Rq h (IT h H)
theorem zN (h:L4) (H:Hp):(uv h H).objs.size=h.objs.size:=PySem.W.hideAll_size _ _
theorem B6 {h:L4} {H:Hp} {b:Kx} {o:Lk} (e:h.get? b=some o) (n:H b=none):(uv h H).get? b=some o:=
 Oq _ e λhm=>by
  have q:(H b).isSome=true:=(MI.mp hm).2
  rw[n]at q;simp at q
theorem Dq {h:L4} {H:Hp} {b:Kx} {o:Lk} (e:(uv h H).get? b=some o):h.get? b=some o/\H b=none:=by
 have e':h.get? b=some o:=QG (IT h H) e
 refine⟨e',?_⟩
 cases q:H b with
 |none=>rfl
 |some x=>
  have hm:b∈IT h H:=MI.mpr ⟨Md.mpr (KZ e'),by simp[q]⟩
  have z:(uv h H).get? b=none:=Ob (IT h H) hm
  rw[z]at e;cases e
def Dr (g h:L4) (L:Kx):List (Kx×Lk):=(LA h.objs.size).filterMap λa=>if a=L\/(g.get? a).isSome=true then none else (h.get? a).map λo=>(a,o)
def rest (g h:L4) (L d:Kx):List (Kx×Lk):=(Dr g h L).filter λp=>decide (p.1≠d)
end L2
namespace L2
open PySem PySem.Spec PyProof.Rows
structure Mod (K:Ku) (mg:Kw->Option Kv) (base:L4):Prop where
 kin:K.In base
 glob:base.Ns KJ mg
 blt:∃mb,base.Ns Rr mb/\∀x:Kw,x≠"__name__"->mb x=Lu x
 nolimit:base.NoLimit
structure Cx where
 prog:KW
 w:La
 K:Ku
 mg:Kw->Option Kv
 base:L4
 A:Lg
 N:List Kw
 s₀:Ky
 H₀:Hp
 env:Mm
 outer:List Mm
 stack:List Mm
 ex:List Kx
 fn:Kw->Bool
 calm:Bool
 pn:List (Kx×Lk)
 xe:Kv->Ky->Prop
def q_ (l:List Mm):List Kx:=l.filterMap (·.frame)
abbrev Cx.fs (X:Cx):List Kx:=q_ X.outer
def pz (sc:MB) (x:Kw):Prop:=sc.names.lookup x=some .local\/sc.names.lookup x=some .cell\/sc.names.lookup x=some .free
def zO (sc:MB) (x:Kw):Prop:=sc.names.lookup x=some .local\/sc.names.lookup x=some .cell
def J8 (env:Mm) (h:L4) (m:Kw->Option Kv) (x:Kw) (u:Kv):Prop:=
 (env.kindOf x=some .local/\m x=some u)\/((env.kindOf x=some .cell\/env.kindOf x=some .free)/\∃c,env.cells.lookup x=some c/\h.IsCell c (some u))
structure Cx.Ok (X:Cx):Prop where
 mod:Mod X.K X.mg X.base
 kind:X.env.scope.kind= .function
 glob:X.env.globals=KJ
 blt:X.env.builtins=Rr
 above:X.s₀.heap.objs.size<=X.env.locals
 inj:∀x y c,X.env.cells.lookup x=some c->X.env.cells.lookup y=some c->x=y
 has:∀x,(X.env.kindOf x=some .cell\/X.env.kindOf x=some .free)->∃c,X.env.cells.lookup x=some c
 cab:∀x c,X.fn x=true->X.env.cells.lookup x=some c->X.s₀.heap.objs.size<=c
 hd:X.calm=true->X.A.handled=none
 frames:X.A.frames=some X.stack
 stk:X.stack=X.outer\/(X.stack=X.env::X.outer/\X.env.frame=some X.env.locals)
 exf:∀b∈X.ex,b≠X.env.locals/\∀x c,X.env.cells.lookup x=some c->c≠b
 bs:∀b o,X.base.get? b=some o->X.s₀.heap.get? b=some o/\X.H₀ b=none
 bsz:X.base.objs.size<=X.s₀.heap.objs.size
 noex:∀b o,X.base.get? b=some o->b∉X.ex
 exfs:∀b∈X.ex,b∉X.fs
 funs:X.s₀.heap.FunFrames X.base X.outer
 frf:∀b∈X.fs,X.H₀ b=none
structure aP (X:Cx) (S4:List (Kx×Lk)) (σ:List (Option V)) (H:Hp) (s:Ky):Prop where
 ok:X.Ok
 os:s.os=X.s₀.os
 bare:NO s.gens
 base:Un X.fs X.ex X.H₀ H X.s₀.heap s.heap
 loc:∃m,s.heap.Ns X.env.locals m/\∀(i:Nat) (x:Kw) (v:V),X.N[i]? =some x->σ[i]? =some (some v)->pz X.env.scope x->∃u,bT v u/\J8 X.env s.heap m x u
 cell:∀x c,X.env.cells.lookup x=some c->∃v,s.heap.IsCell c v
 free:H X.env.locals=none
 freeC:∀x c,X.env.cells.lookup x=some c->H c=none
 pin:∀p∈X.pn++S4,s.heap.get? p.1=some p.2/\H p.1=none/\p.1≠X.env.locals/\p.1∉X.fs/\∀v,p.2.data≠ .cell v
 hok:lp X.prog X.w H s.heap
 len:σ.length=X.N.length
section
variable {X:Cx} {S4:List (Kx×Lk)} {σ:List (Option V)} {H H':Hp} {s:Ky} {h':L4}
theorem Cx.Ok.nofr (ok:X.Ok) {b:Kx} {o:Lk} (e:X.base.get? b=some o):b∉X.fs:=λhb=>by
 have:=(ok.funs.mem hb).1
 rw[e]at this;cases this
theorem aP.bs (I:aP X S4 σ H s):∀b o,X.base.get? b=some o->s.heap.get? b=some o/\H b=none:=λb o e=>
 ⟨I.base.keep b o (I.ok.bs b o e).1 (I.ok.bs b o e).2 (I.ok.nofr e) (I.ok.noex b o e),I.base.free b o (I.ok.bs b o e).1 (I.ok.bs b o e).2 (I.ok.noex b o e)⟩
theorem aP.bk (I:aP X S4 σ H s):∀b o,X.base.get? b=some o->s.heap.get? b=some o:=λb o e=>(I.bs b o e).1
theorem aP.mod (I:aP X S4 σ H s):Mod X.K X.mg X.base:=I.ok.mod
theorem aP.kIn (I:aP X S4 σ H s):X.K.In s.heap:=I.ok.mod.kin.keeps I.bk
theorem aP.lt (I:aP X S4 σ H s):X.env.locals<s.heap.objs.size:=let ⟨_,hn,_⟩:=I.loc;hn.lt
theorem aP.sz (I:aP X S4 σ H s):X.s₀.heap.objs.size<=s.heap.objs.size:=Lq I.ok.above (QH I.lt)
theorem aP.nofs (I:aP X S4 σ H s) {a:Kx} (h:s.heap.objs.size<=a):a∉X.fs:=λhb=>by
 obtain⟨_,o,ho,_⟩:=I.ok.funs.mem hb
 exact absurd (Ln (KZ ho) (Lq I.sz h)) (LP _)
theorem aP.cne (I:aP X S4 σ H s):∀x c,X.env.cells.lookup x=some c->c≠X.env.locals:=λx c e z=>by
 obtain⟨v,o,ho,hd⟩:=I.cell x c e
 obtain⟨m,⟨o',es,ep,Xg,Zs,_⟩,_⟩:=I.loc
 rw[z,Xg]at ho;cases ho;rw[Zs]at hd;cases hd
theorem aP.funs (I:aP X S4 σ H s):s.heap.FunFrames X.base X.outer:=by
 have all:∀(l:List Mm),(∀b∈q_ l,b∈X.fs)->X.s₀.heap.FunFrames X.base l->s.heap.FunFrames X.base l:=by
  intro l
  induction l with
  |nil=>intro _ _;trivial
  |cons env r ih=>
   intro hs hl
   obtain⟨hk,⟨L,o,hf,hn,ho,hd⟩,hr⟩:=hl
   have hL:L∈X.fs:=hs L (by unfold q_;rw[MW,hf];exact K_)
   obtain⟨sl,e⟩:=I.base.slot L o ho (I.ok.frf L hL) hL λz=>I.ok.exfs L z hL
   exact⟨hk,⟨L,_,hf,hn,e,hd⟩,ih (λb hb=>hs b (by unfold q_;rw[MW,hf];exact L0 _ hb)) hr⟩
 exact all X.outer (λ_ hb=>hb) I.ok.funs
theorem aP.stack (I:aP X S4 σ H s):s.heap.FunFrames X.base X.stack:=by
 rcases I.ok.stk with e|⟨e,hf⟩
 ·rw[e];exact I.funs
 ·rw[e]
  obtain⟨m,hn,_⟩:=I.loc
  refine .cons (by rw[I.ok.kind];decide) hf hn ?_ I.funs
  exact Oc (Lq I.ok.bsz I.ok.above)
theorem aP.stkSub (I:aP X S4 σ H s):∀b∈q_ X.stack,b∈X.env.locals::X.fs:=λb hb=>by
 rcases I.ok.stk with e|⟨e,hf⟩
 ·rw[e]at hb;exact L0 _ hb
 ·rw[e]at hb
  unfold q_ at hb
  rw[MW,hf]at hb
  exact hb
theorem aP.stkFree (I:aP X S4 σ H s):∀b∈q_ X.stack,H b=none:=λb hb=>by
 rcases KR.mp (I.stkSub b hb)with e|hb
 ·rw[e];exact I.free
 ·obtain⟨_,o,ho,_⟩:=I.ok.funs.mem hb
  exact I.base.free b o ho (I.ok.frf b hb) λz=>I.ok.exfs b z hb
theorem aP.step {g':Array P2} {t':Nat} {d':Drawn} {ch:List Kx} (I:aP X S4 σ H s)
  (WX:∀b∈ch,(b∈X.ex\/X.s₀.heap.get? b=none)/\b≠X.env.locals/\(∀x c,X.env.cells.lookup x=some c->c≠b)/\∀p∈X.pn++S4,p.1≠b)
  (keep:∀b o,b≠X.env.locals->b∉X.fs->b∉ch->s.heap.get? b=some o->H b=none->h'.get? b=some o)
  (slot:∀b o,b≠X.env.locals->b∈X.fs->b∉ch->s.heap.get? b=some o->H b=none->∃sl,h'.get? b=some {o with slots:=sl}) (free:∀b o,b∉ch->s.heap.get? b=some o->H b=none->H' b=none)
  (there:∀b o,b∉ch->s.heap.get? b=some o->∃o',h'.get? b=some o')
  (tups:∀b xs,H b=some (.tup xs)->H' b=some (.tup xs)) (frzs:∀b o u,H b=some (.frz o u)->H' b=some (.frz o u)) (tbls:∀b ps,H b=some (.tbl ps)->∃more,H' b=some (.tbl (ps++more)))
  (ns:∀m,s.heap.Ns X.env.locals m->h'.Ns X.env.locals m) (hok:lp X.prog X.w H' h') (hg:NO g'):
  aP X S4 σ H' {s with heap:=h',gens:=g',drawn:=d',toks:=t'}:=by
 have Xx:∀b o,X.s₀.heap.get? b=some o->b≠X.env.locals:=λb o e=>Lo (Ln (KZ e) I.ok.above)
 have neC:∀b o,X.s₀.heap.get? b=some o->b∉X.ex->b∉ch:=λb o e hx hb=>by
  rcases(WX b hb).1 with z|z
  ·exact hx z
  ·rw[e]at z;cases z
 have Xy:∀x c,X.env.cells.lookup x=some c->∀v,s.heap.IsCell c v->h'.IsCell c v:=λx c e v ⟨o,ho,hd⟩=>by
  have Ys:c∉ch:=λz=>(WX c z).2.2.1 x c e rfl
  by_cases hc:c∈X.fs
  ·obtain⟨sl,q⟩:=slot c o (I.cne x c e) hc Ys ho (I.freeC x c e)
   exact⟨_,q,hd⟩
  ·exact⟨o,keep c o (I.cne x c e) hc Ys ho (I.freeC x c e),hd⟩
 refine⟨I.ok,I.os,hg,⟨λb o e n hb hx=> ?_,λb o e n hb hx=> ?_,λb o e n hx=> ?_,λb o e hx=> ?_,λb xs e=>tups b xs (I.base.tups b xs e),λb o xs e=>frzs b o xs (I.base.frzs b o xs e),λb ps e=> ?_⟩,?_,λx c e=> ?_,?_,λx c e=> ?_,λp hp=> ?_,hok,I.len⟩
 ·exact keep b o (Xx b o e) hb (neC b o e hx) (I.base.keep b o e n hb hx) (I.base.free b o e n hx)
 ·obtain⟨sl,e1⟩:=I.base.slot b o e n hb hx
  obtain⟨Xw,e2⟩:=slot b _ (Xx b o e) hb (neC b o e hx) e1 (I.base.free b o e n hx)
  exact⟨Xw,e2⟩
 ·obtain⟨o',e1⟩:=I.base.there b o e hx
  exact free b o' (neC b o e hx) e1 (I.base.free b o e n hx)
 ·obtain⟨o',e1⟩:=I.base.there b o e hx
  exact there b o' (neC b o e hx) e1
 ·obtain⟨m1,e1⟩:=I.base.tbls b ps e
  obtain⟨m2,e2⟩:=tbls b _ e1
  exact⟨m1++m2,by rw[e2,QF]⟩
 ·obtain⟨m,hn,hl⟩:=I.loc
  refine⟨m,ns m hn,λi x v e1 e2 e3=> ?_⟩
  obtain⟨u,r,l⟩:=hl i x v e1 e2 e3
  refine⟨u,r,?_⟩
  rcases l with l|⟨k,c,e,z⟩
  ·exact .inl l
  ·exact .inr ⟨k,c,e,Xy x c e _ z⟩
 ·obtain⟨v,z⟩:=I.cell x c e
  exact⟨v,Xy x c e v z⟩
 ·obtain⟨m,⟨o,_,_,ho,_⟩,_⟩:=I.loc
  exact free _ o (λz=>(WX _ z).2.1 rfl) ho I.free
 ·obtain⟨v,o,ho,hd⟩:=I.cell x c e
  exact free c o (λz=>(WX c z).2.2.1 x c e rfl) ho (I.freeC x c e)
 ·obtain⟨e,n,ne,nf,d⟩:=I.pin p hp
  have Ys:p.1∉ch:=λz=>(WX p.1 z).2.2.2 p hp rfl
  exact⟨keep p.1 p.2 ne nf Ys e n,free p.1 p.2 Ys e n,ne,nf,d⟩
theorem aP.un {t':Nat} (I:aP X S4 σ H s) (u:Un X.fs [] H H' s.heap h') (hok:lp X.prog X.w H' h'):aP X S4 σ H' {s with heap:=h',toks:=t'}:=by
 obtain⟨m,⟨o,es,ep,ho,r⟩,_⟩:=id I.loc
 obtain⟨sl,hL⟩:=u.any ho I.free (by simp)
 exact I.step (g':=s.gens) (d':=s.drawn) (ch:=[]) (λ_ z=>nomatch z) (λb o _ hb _ e n=>u.keep b o e n hb (by simp)) (λb o _ hb _ e n=>u.slot b o e n hb (by simp)) (λb o _ e n=>u.free b o e n (by simp)) (λb o _ e=>u.there b o e (by simp)) u.tups u.frzs u.tbls (λm' hm=>by
  obtain⟨o',Zt,Zu,Xg,r'⟩:=hm
  rw[ho]at Xg;cases Xg
  exact⟨_,Zt,Zu,hL,r'⟩) hok I.bare
theorem aP.call {g':Array P2} {t':Nat} {d':Drawn} {ch:List Kx} (I:aP X S4 σ H s) (u:Un (q_ X.stack) ch H H' s.heap h') (hok:lp X.prog X.w H' h') (hg:NO g')
  (WX:∀b∈ch,(b∈X.ex\/X.s₀.heap.objs.size<=b)/\b≠X.env.locals/\(∀x c,X.env.cells.lookup x=some c->c≠b)/\∀p∈X.pn++S4,p.1≠b):
  aP X S4 σ H' {s with heap:=h',gens:=g',drawn:=d',toks:=t'}:=by
 obtain⟨m,⟨o,es,ep,ho,r⟩,_⟩:=id I.loc
 obtain⟨sl,hL⟩:=u.any ho I.free λz=>(WX _ z).2.1 rfl
 exact I.step (ch:=ch) (λb hb=>⟨(WX b hb).1.imp id Oc,(WX b hb).2⟩) (λb o hL hb hc e n=>u.keep b o e n (λz=>(KR.mp (I.stkSub b z)).elim hL hb) hc) (λb o _ _ hc e n=>u.any e n hc) (λb o hc e n=>u.free b o e n hc) (λb o hc e=>u.there b o e hc) u.tups u.frzs u.tbls (λm' hm=>by
  obtain⟨o',Zt,Zu,Xg,r'⟩:=hm
  rw[ho]at Xg;cases Xg
  exact⟨_,Zt,Zu,hL,r'⟩) hok hg
theorem aP.turned {t':Nat} {it:Kx} (I:aP X S4 σ H s) (k:∀b o,b≠it->s.heap.get? b=some o->h'.get? b=some o) (hn:H it=none) (hL:it≠X.env.locals)
  (h1:it∈X.ex\/X.s₀.heap.objs.size<=it) (h2:∀x c,X.env.cells.lookup x=some c->c≠it) (h3:∀p∈X.pn++S4,p.1≠it):aP X S4 σ H {s with heap:=h',toks:=t'}:=by
 have a0I:∀b u,H b=some u->b≠it:=λb u e z=>by rw[z,hn]at e;cases e
 refine I.step (g':=s.gens) (d':=s.drawn) (ch:=[it]) (λb hb=> ?_) (λb o _ _ hc e _=>k b o (λz=>hc (by simp[z])) e) (λb o _ _ hc e _=>⟨o.slots,k b o (λz=>hc (by simp[z])) e⟩) (λ_ _ _ _ n=>n)
  (λb o hc e=>⟨o,k b o (λz=>hc (by simp[z])) e⟩) (λ_ _ e=>e) (λ_ _ _ e=>e) (λb ps e=>⟨#[],by rw[e];simp⟩) (λm hm=> ?_) (λb u e=> ?_) I.bare
 ·have e:b=it:=by simpa using hb
  subst e
  exact⟨h1.imp id Oc,hL,h2,h3⟩
 ·obtain⟨o,es,ep,ho,r⟩:=hm
  exact⟨o,es,ep,k _ o (Mn hL) ho,r⟩
 ·refine(I.hok b u e).stay (λc v hc q=>k c v ?_ q) (λ_ q=>q) λ_ _ q=>q
  rcases hc with z|z
  ·rw[z];exact a0I b u e
  ·exact a0I c _ z
theorem aP.tok (I:aP X S4 σ H s) (t:Nat):aP X S4 σ H {s with toks:=t}:=I.un (h':=s.heap) (t':=t) Un.refl I.hok
theorem aP.kept {t':Nat} (I:aP X S4 σ H s) (k:∀b u,s.heap.get? b=some u->h'.get? b=some u):aP X S4 σ H {s with heap:=h',toks:=t'}:=I.un (Un.kept k) (I.hok.kept k)
theorem aP.laid {a:Kx} {o:HO} {t':Nat} (I:aP X S4 σ H s) (k:∀b u,s.heap.get? b=some u->h'.get? b=some u) (hp:s.heap.objs.size<=a) (new:ci X.prog X.w (b_ H a o) h' a o):
  aP X S4 σ (b_ H a o) {s with heap:=h',toks:=t'}:=I.un (Un.laid k hp (I.hok.fresh hp)) (I.hok.laid k hp new)
theorem aP.write {x e:Kx} {o:HO} {t':Nat} (I:aP X S4 σ H s) (mu:Hm (H x)) (he:e=x\/H e=some (.own x)) (k:∀b u,b≠e->s.heap.get? b=some u->h'.get? b=some u) (Yh:∃u,h'.get? e=some u)
  (new:ci X.prog X.w (b_ H x o) h' x o):aP X S4 σ (b_ H x o) {s with heap:=h',toks:=t'}:=I.un (Un.write mu he k Yh) (I.hok.write mu he k Yh new)
theorem aP.pins_of {Uq:List (Kx×Lk)} (I:aP X S4 σ H s) (h:∀p∈Uq,s.heap.get? p.1=some p.2/\H p.1=none/\p.1≠X.env.locals/\p.1∉X.fs/\∀v,p.2.data≠ .cell v):aP X Uq σ H s:=
 ⟨I.ok,I.os,I.bare,I.base,I.loc,I.cell,I.free,I.freeC,λp hp=>(LB.mp hp).elim (λz=>I.pin p (LU _ z)) (h p),I.hok,I.len⟩
theorem rq {N:List Kw} (hN:N.Nodup) {i j:Nat} {x:Kw} (a:N[i]? =some x) (b:N[j]? =some x):i=j:=by
 obtain⟨h1,e1⟩:=L3.mp a
 obtain⟨h2,e2⟩:=L3.mp b
 exact(P4 hN).mp (e1.trans e2.symm)
theorem zP {M:Q_} {A:Lg} {E:Kv->Ky->Prop} {i:Nat} {x:Kw} {v:V} {u:Kv} {Q:Unit->Ky->Prop} (I:aP X S4 σ H s) (hN:X.N.Nodup) (hi:X.N[i]? =some x) (hx:zO X.env.scope x) (r:bT v u)
  (h:∀s',aP X S4 (σ.set i (some v)) H s'->(∃a,P5 a s.heap s'.heap/\(a=X.env.locals\/X.env.cells.lookup x=some a))->Q () s') (hf:X.fn x=true\/X.env.scope.names.lookup x=some .local:=by first|exact .inl rfl|exact .inr rfl|assumption):KP M A (storeName X.env x u) Q E s:=by
 obtain⟨m,hn,hl⟩:=id I.loc
 have Zv:(X.env.scope.kind== .class||(X.env.scope.kind== .module&&X.env.locals != X.env.globals))=false:=by rw[I.ok.kind];rfl
 have a0J:i<σ.length:=by rw[I.len];exact(L3.mp hi).1
 have cne:=I.cne
 have Wr:∀{a:Kx} {h':L4},(∃o,s.heap.get? a=some o/\H a=none)->P5 a s.heap h'->lp X.prog X.w H h':=λ{a h'} ha hs b ob e=>by
  obtain⟨_,_,Xz⟩:=ha
  refine(I.hok b ob e).stay (λc w' hc q=>(hs.2 c ?_).trans q) (λ_ q=>q) λ_ _ q=>q
  rintro rfl
  rcases hc with rfl|hc
  ·rw[Xz]at e;cases e
  ·rw[Xz]at hc;cases hc
 rcases hx with hk|hk
 ·refine wpAny_storeName_local hk hn (λh' Zw hs=> ?_) Zv
  obtain⟨oL,_,_,WD,_⟩:=id hn
  refine h _ ⟨I.ok,I.os,I.bare,⟨λb o e n hb hx=> ?_,λb o e n hb hx=> ?_,I.base.free,λb o e hx=> ?_,I.base.tups,I.base.frzs,I.base.tbls⟩,⟨_,Zw,λj y v' e1 e2 e3=> ?_⟩,λy c e=> ?_,I.free,I.freeC,λp hp=> ?_,Wr ⟨oL,WD,I.free⟩ hs,by simpa using I.len⟩ ⟨_,hs, .inl rfl⟩
  ·exact(hs.2 b (Lo (Ln (KZ e) I.ok.above))).trans (I.base.keep b o e n hb hx)
  ·obtain⟨sl,e1⟩:=I.base.slot b o e n hb hx
   exact⟨sl,(hs.2 b (Lo (Ln (KZ e) I.ok.above))).trans e1⟩
  ·obtain⟨o',e1⟩:=I.base.there b o e hx
   exact⟨o',(hs.2 b (Lo (Ln (KZ e) I.ok.above))).trans e1⟩
  ·by_cases hj:j=i
   ·subst hj
    rw[hi]at e1;cases e1
    rw[PV a0J]at e2
    cases e2
    exact⟨u,r, .inl ⟨hk,by simp⟩⟩
   ·rw[Od (Mn hj)]at e2
    obtain⟨u',r',q⟩:=hl j y v' e1 e2 e3
    refine⟨u',r',?_⟩
    rcases q with ⟨k,e⟩|⟨k,c,e,z⟩
    ·refine .inl ⟨k,?_⟩
     have:y≠x:=λe=>hj (rq hN e1 (e▸hi))
     simp[this,e]
    ·exact .inr ⟨k,c,e,z.sameBut hs (cne y c e)⟩
  ·obtain⟨w',z⟩:=I.cell y c e
   exact⟨w',z.sameBut hs (cne y c e)⟩
  ·obtain⟨e,n,ne,nf,d⟩:=I.pin p hp
   exact⟨(hs.2 p.1 ne).trans e,n,ne,nf,d⟩
 ·have Zx:X.fn x=true:=by
   rcases hf with z|z
   ·exact z
   ·rw[z]at hk;cases hk
  obtain⟨c,hc⟩:=I.ok.has x (.inl hk)
  obtain⟨w',z⟩:=I.cell x c hc
  refine wpAny_storeName_cell I.ok.kind hk hc z (λh' a0K hs=> ?_)
  obtain⟨oc,a0L,Zy⟩:=id z
  refine h {s with heap:=h'} ⟨I.ok,I.os,I.bare,⟨λb o e n hb hx=> ?_,λb o e n hb hx=> ?_,I.base.free,λb o e hx=> ?_,I.base.tups,I.base.frzs,I.base.tbls⟩,⟨m,hn.sameBut hs (Mn (cne x c hc)),λj y v' e1 e2 e3=> ?_⟩,λy c' e=> ?_,I.free,I.freeC,λp hp=> ?_,Wr ⟨oc,a0L,I.freeC x c hc⟩ hs,by simpa using I.len⟩ ⟨c,hs, .inr hc⟩
  ·exact(hs.2 b (Lo (Ln (KZ e) (I.ok.cab x c Zx hc)))).trans (I.base.keep b o e n hb hx)
  ·obtain⟨sl,e1⟩:=I.base.slot b o e n hb hx
   exact⟨sl,(hs.2 b (Lo (Ln (KZ e) (I.ok.cab x c Zx hc)))).trans e1⟩
  ·obtain⟨o',e1⟩:=I.base.there b o e hx
   exact⟨o',(hs.2 b (Lo (Ln (KZ e) (I.ok.cab x c Zx hc)))).trans e1⟩
  ·by_cases hj:j=i
   ·subst hj
    rw[hi]at e1;cases e1
    rw[PV a0J]at e2
    cases e2
    exact⟨u,r, .inr ⟨.inl hk,c,hc,a0K⟩⟩
   ·rw[Od (Mn hj)]at e2
    obtain⟨u',r',q⟩:=hl j y v' e1 e2 e3
    refine⟨u',r',?_⟩
    rcases q with q|⟨k,c',e,z'⟩
    ·exact .inl q
    ·refine .inr ⟨k,c',e,z'.sameBut hs ?_⟩
     rintro rfl
     exact hj (rq hN e1 (I.ok.inj _ _ _ e hc▸hi))
  ·by_cases a0M:c'=c
   ·subst a0M;exact⟨_,a0K⟩
   ·obtain⟨w2,z2⟩:=I.cell y c' e
    exact⟨w2,z2.sameBut hs a0M⟩
  ·obtain⟨e,n,ne,nf,d⟩:=I.pin p hp
   refine⟨(hs.2 p.1 ?_).trans e,n,ne,nf,d⟩
   intro q
   rw[q,a0L]at e
   have q':oc=p.2:=LG e
   exact d w' (by rw[<-q'];exact Zy)
theorem rz {M:Q_} {A:Lg} {E:Kv->Ky->Prop} {i:Nat} {x:Kw} {v:V} {u:Kv} {Q:Unit->Ky->Prop} (I:aP X S4 σ H s) (hN:X.N.Nodup) (hi:X.N[i]? =some x) (hx:zO X.env.scope x) (r:bT v u)
  (h:∀s',aP X S4 (σ.set i (some v)) H s'->Q () s') (hf:X.fn x=true\/X.env.scope.names.lookup x=some .local:=by first|exact .inl rfl|exact .inr rfl|assumption):KP M A (storeName X.env x u) Q E s:=
 zP I hN hi hx r (λs' I' _=>h s' I') hf
theorem aP.call' {s':Ky} {ch:List Kx} (I:aP X S4 σ H s) (ho:s'.os=s.os) (u:Un (q_ X.stack) ch H H' s.heap s'.heap) (hok:lp X.prog X.w H' s'.heap) (hg:NO s'.gens)
  (WX:∀b∈ch,(b∈X.ex\/X.s₀.heap.objs.size<=b)/\b≠X.env.locals/\(∀x c,X.env.cells.lookup x=some c->c≠b)/\∀p∈X.pn++S4,p.1≠b):aP X S4 σ H' s':=by
 obtain⟨h',g',d',t',o'⟩:=s'
 have e:o'=s.os:=ho
 subst e
 exact I.call (g':=g') (t':=t') (d':=d') u hok hg WX
end
abbrev XK:=Kv->Option Kx->Hp->Prop
abbrev St:=List (Option V)
abbrev VK:=V->Hp->Prop
abbrev TE:=St->Hp->VK->Prop
abbrev TT:=St->Hp->(Bool->Hp->Prop)->Prop
abbrev TA:=St->Hp->(List V->Hp->Prop)->Prop
structure o7 where
 nx:St->Hp->Prop
 rt:VK
 bk:St->Hp->Prop:=λ_ _=>False
 ct:St->Hp->Prop:=λ_ _=>False
abbrev TS:=o7->St->Hp->Prop
def EP (X:Cx) (S4:List (Kx×Lk)) (σ:St) (Q:VK) (u:Kv) (s':Ky):Prop:=∃v H',aP X S4 σ H' s'/\bT v u/\Q v H'
def TP (X:Cx) (S4:List (Kx×Lk)) (σ:St) (Q:Bool->Hp->Prop) (b:Bool) (s':Ky):Prop:=∃H',aP X S4 σ H' s'/\Q b H'
def AP (X:Cx) (S4:List (Kx×Lk)) (σ:St) (Q:List V->Hp->Prop) (us:List Kv) (s':Ky):Prop:=∃vs H',aP X S4 σ H' s'/\bp vs us/\Q vs H'
def SP (X:Cx) (S4:List (Kx×Lk)) (D:o7) (f:Flow) (s':Ky):Prop:=
 match f with
 | .next=>∃σ' H',aP X S4 σ' H' s'/\D.nx σ' H'
 | .brk=>∃σ' H',aP X S4 σ' H' s'/\D.bk σ' H'
 | .cont=>∃σ' H',aP X S4 σ' H' s'/\D.ct σ' H'
 | .ret u=>∃v σ' H',aP X S4 σ' H' s'/\bT v u/\D.rt v H'
def PE (X:Cx) (e:KI) (t:TE):Prop:=
 ∀(S4:List (Kx×Lk)) (s:Ky) (σ:St) (H:Hp) (Q:VK),aP X S4 σ H s->t σ H Q->KP (KS X.prog X.w) X.A (L5 e X.env) (EP X S4 σ Q) X.xe s
def PT (X:Cx) (e:KI) (t:TT):Prop:=
 ∀(S4:List (Kx×Lk)) (s:Ky) (σ:St) (H:Hp) (Q:Bool->Hp->Prop),aP X S4 σ H s->t σ H Q->KP (KS X.prog X.w) X.A (Q5 e X.env (L5 e X.env)) (TP X S4 σ Q) X.xe s
def PW (X:Cx) (e:KI) (t:TT):Prop:=
 ∀(TR:N_ Kv) (S4:List (Kx×Lk)) (s:Ky) (σ:St) (H:Hp) (Q:Bool->Hp->Prop),aP X S4 σ H s->t σ H Q->KP (KS X.prog X.w) X.A (Q5 e X.env TR) (TP X S4 σ Q) X.xe s
theorem PW.pt {X:Cx} {e:KI} {t:TT} (h:PW X e t):PT X e t:=h _
def PA (X:Cx) (es:List KI) (t:TA):Prop:=
 ∀(pos:Ls) (S4:List (Kx×Lk)) (s:Ky) (σ:St) (H:Hp) (Q:List V->Hp->Prop),aP X S4 σ H s->t σ H Q->KP (KS X.prog X.w) X.A (RF (Ll pos (KC es X.env))) (AP X S4 σ Q) X.xe s
def PS (X:Cx) (st:L9) (t:TS):Prop:=
 ∀(S4:List (Kx×Lk)) (s:Ky) (σ:St) (H:Hp) (D:o7),aP X S4 σ H s->t D σ H->KP (KS X.prog X.w) X.A (exec st X.env) (SP X S4 D) X.xe s
def rA (X:Cx) (st:List L9) (t:TS):Prop:=
 ∀(S4:List (Kx×Lk)) (s:Ky) (σ:St) (H:Hp) (D:o7),aP X S4 σ H s->t D σ H->KP (KS X.prog X.w) X.A (execs st X.env) (SP X S4 D) X.xe s
theorem cV {α:Type} {t:N_ α} {Q Q':α->Ky->Prop} {M:Q_} {A:Lg} {E:Kv->Ky->Prop} {s:Ky} (h:KP M A t Q E s) (hQ:∀a s,Q a s->Q' a s):KP M A t Q' E s:=Ms h hQ λ_ _ x=>x
end L2
namespace L2
open PySem PySem.Spec PyProof.Rows
section
variable {X:Cx}
def B7 (i:Nat):TE:=λσ H Q=>∃v,σ[i]? =some (some v)/\Q v H
def tC (v:V):TE:=λ_ H Q=>Q v H
theorem Ft {i:Nat} {x:Kw} {pos:Ls} (hN:X.N[i]? =some x) (hv:pz X.env.scope x) (hd:(x==("__debug__":Kw))=false:=by decide) (Tu:(x==("__classdict__":Kw))=false:=by decide):PE X (.Name x pos) (B7 i):=by
 intro S4 s σ H Q I h
 obtain⟨v,e,h⟩:=h
 obtain⟨m,hn,hl⟩:=I.loc
 obtain⟨u,r,l⟩:=hl i x v hN e hv
 have TU:EP X S4 σ Q u s:=⟨v,H,I,r,h⟩
 rcases l with ⟨hk,hm⟩|⟨hk,c,hc,Ws⟩
 ·exact Rt (wpAny_loadName_local I.ok.kind hk hn hm TU) hd
 ·rcases hk with hk|hk
  ·exact Rt (wpAny_loadName_cell I.ok.kind hk hc Ws TU) hd
  ·exact Rt (wpAny_loadName_free I.ok.kind hk hc Ws TU Tu) hd
theorem B8 {i j pos}:PE X (.Constant (.int i) j pos) (tC (.int i)):=λ_ _ _ H _ I h=>wpAny_Constant_int ⟨.int i,H,I.tok _,⟨_,rfl⟩,h⟩
theorem Hn {b j pos}:PE X (.Constant (.bool b) j pos) (tC (.bl b)):=λ_ _ _ H _ I h=>Constant_bool ⟨.bl b,H,I,rfl,h⟩
theorem Fu {j pos}:PE X (.Constant .none j pos) (tC .non):=λ_ _ _ H _ I h=>Constant_none ⟨.non,H,I,rfl,h⟩
theorem Fv {x j pos}:PE X (.Constant (.str x) j pos) (tC (.str x)):=λ_ _ _ H _ I h=>Calls.Constant_str ⟨.str x,H,I.tok _,⟨_,rfl⟩,h⟩
def Gl (X:Cx) (x:Kw):Prop:=X.env.kindOf x=some .globalImplicit
theorem o8 {E:Kv->Ky->Prop} {S4:List (Kx×Lk)} {s:Ky} {σ:St} {H:Hp} {x:Kw} {u:Kv} {pos:Ls} {Q:Kv->Ky->Prop} (I:aP X S4 σ H s) (hg:Gl X x) (hm:X.mg x=some u) (h:Q u s)
  (hd:(x==("__debug__":Kw))=false:=by decide):KP (KS X.prog X.w) X.A (L5 (.Name x pos) X.env) Q E s:=
 OE I.ok.kind hg (Calls.loadGlobal_global (by rw[I.ok.glob];exact I.mod.glob.keeps I.bk) hm h) hd
theorem nv {E:Kv->Ky->Prop} {S4:List (Kx×Lk)} {s:Ky} {σ:St} {H:Hp} {x:Kw} {u:Kv} {pos:Ls} {Q:Kv->Ky->Prop} (I:aP X S4 σ H s) (hg:Gl X x) (hm:X.mg x=none) (hv:Lu x=some u) (h:Q u s)
  (hn:x≠"__name__":=by decide) (hd:(x==("__debug__":Kw))=false:=by decide):KP (KS X.prog X.w) X.A (L5 (.Name x pos) X.env) Q E s:=by
 obtain⟨mb,h1,h2⟩:=I.mod.blt
 exact OE I.ok.kind hg (Calls.loadGlobal_builtin (by rw[I.ok.glob];exact I.mod.glob.keeps I.bk) hm (by rw[I.ok.blt];exact h1.keeps I.bk) ((h2 x hn).trans hv) h) hd
theorem yu {x:Kw} {v:V} {u:Kv} {pos:Ls} (hg:Gl X x) (hm:X.mg x=some u) (r:bT v u) (hd:(x==("__debug__":Kw))=false:=by decide):PE X (.Name x pos) (tC v):=
 λ_ _ _ H _ I h=>o8 I hg hm ⟨v,H,I,r,h⟩ hd
theorem yv {x:Kw} {v:V} {u:Kv} {pos:Ls} (hg:Gl X x) (hm:X.mg x=none) (hv:Lu x=some u) (r:bT v u) (hn:x≠"__name__":=by decide) (hd:(x==("__debug__":Kw))=false:=by decide):PE X (.Name x pos) (tC v):=
 λ_ _ _ H _ I h=>nv I hg hm hv ⟨v,H,I,r,h⟩ hn hd
variable {a b:KI} {ta tb:TE} {pos:Ls}
def PC (X:Cx) (op:Qj) (a b:KI) (t:TE):Prop:=
 ∀(S4:List (Kx×Lk)) (s:Ky) (σ:St) (H:Hp) (Q:VK),aP X S4 σ H s->t σ H Q->
  KP (KS X.prog X.w) X.A (L5 a X.env) (λv s₁=>KP (KS X.prog X.w) X.A (L5 b X.env) (λu s₂=>KP (KS X.prog X.w) X.A (M6 op v u) (EP X S4 σ Q) X.xe s₂) X.xe s₁) X.xe s
def tB (t:TE):TT:=λσ H Q=>t σ H λx H1=>∃c,x= .bl c/\Q c H1
theorem B9 {op:Qj} {t:TE} (h:PC X op a b t) (h1:M9 op b=false:=by first|exact nobehind _ (by decide) (by decide)|rfl):PE X (.Compare a [op] [b] pos) t:=λS4 s σ H Q I hw=>wpAny_Compare1 (h S4 s σ H Q I hw) h1
theorem Ba {op:Qj} {t:TE} (h:PC X op a b t) (h1:M9 op b=false:=by first|exact nobehind _ (by decide) (by decide)|rfl):PT X (.Compare a [op] [b] pos) (tB t):=by
 intro S4 s σ H Q I hw
 refine Q6 (cV (h S4 s σ H _ I hw) λv s1 h1=>cV h1 λu s2 h2=>cV h2 λc s3 z_=> ?_) h1
 obtain⟨x,H1,I1,r1,q1⟩:=z_
 obtain⟨d,rfl,q⟩:=q1
 cases r1
 exact Mi ⟨H1,I1,q⟩
theorem Fw {e:KI} {t:TE} (h:PE X e t) (he:∀TR,Q5 e X.env TR=(do let v<-TR;M_ e.pos;Mx [v] (Ru v)):=by intro _;rfl):PT X e (tB t):=by
 intro S4 s σ H Q I hw
 refine isTrue_plain (cV (h S4 s σ H _ I hw) λv s1 z_=> ?_) (he _)
 obtain⟨x,H1,I1,r1,q1⟩:=z_
 obtain⟨d,rfl,q⟩:=q1
 cases r1
 exact Mi ⟨H1,I1,q⟩
variable {tA tB':TT} {rest:List KI}
def J9 (t u:TT):TT:=λσ H Q=>t σ H λc H1=>if c=true then u σ H1 Q else Q false H1
def K8 (t u:TT):TT:=λσ H Q=>t σ H λc H1=>if c=true then Q true H1 else u σ H1 Q
def Ja (t:TT):TT:=λσ H Q=>t σ H λc H1=>Q (!c) H1
theorem Ds (ha:PT X a tA):PW X (.BoolOp .And [a] pos) tA:=by
 intro wh S4 s σ H Q I h
 refine isTrue_and (cV (ha S4 s σ H Q I h) λc s1 e=> ?_)
 cases c with
 |true=>exact isTrue_and_nil e
 |false=>exact e
theorem Fx (ha:PT X a tA):PW X (.BoolOp .Or [a] pos) tA:=by
 intro wh S4 s σ H Q I h
 refine isTrue_or (cV (ha S4 s σ H Q I h) λc s1 e=> ?_)
 cases c with
 |false=>exact isTrue_or_nil e
 |true=>exact e
theorem Fy (ha:PT X a tA) (hb:PW X (.BoolOp .And (b::rest) pos) tB'):PW X (.BoolOp .And (a::b::rest) pos) (J9 tA tB'):=by
 intro wh S4 s σ H Q I h
 refine isTrue_and (cV (ha S4 s σ H _ I h) λc s1 z_=> ?_)
 obtain⟨H1,I1,q1⟩:=z_
 cases c with
 |true=>exact hb wh S4 s1 σ H1 Q I1 q1
 |false=>exact⟨H1,I1,q1⟩
theorem Ho (ha:PT X a tA) (hb:PW X (.BoolOp .Or (b::rest) pos) tB'):PW X (.BoolOp .Or (a::b::rest) pos) (K8 tA tB'):=by
 intro wh S4 s σ H Q I h
 refine isTrue_or (cV (ha S4 s σ H _ I h) λc s1 z_=> ?_)
 obtain⟨H1,I1,q1⟩:=z_
 cases c with
 |true=>exact⟨H1,I1,q1⟩
 |false=>exact hb wh S4 s1 σ H1 Q I1 q1
theorem Bb (ha:PT X a tA):PT X (.UnaryOp .Not a pos) (Ja tA):=by
 intro S4 s σ H Q I h
 exact isTrue_not (ha S4 s σ H (λc H1=>Q (!c) H1) I h)
def Hq (ta tb:TE):TE:=λσ H Q=>ta σ H λx H1=>∃c,x= .bl c/\if c=true then tb σ H1 Q else Q (.bl false) H1
def Jb (ta tb:TE):TE:=λσ H Q=>ta σ H λx H1=>∃c,x= .bl c/\if c=true then Q (.bl true) H1 else tb σ H1 Q
def Hr (ta:TE):TE:=λσ H Q=>ta σ H λx H1=>∃c,x= .bl c/\Q (.bl (!c)) H1
theorem Bc {op} {t:TE} (h:PE X a t):PE X (.BoolOp op [a] pos) t:=λS4 s σ H Q I hw=>BoolOp_one (h S4 s σ H Q I hw)
theorem Bd (ha:PE X a ta) (hb:PE X (.BoolOp .And (b::rest) pos) tb):PE X (.BoolOp .And (a::b::rest) pos) (Hq ta tb):=by
 intro S4 s σ H Q I h
 refine BoolOp_and (cV (ha S4 s σ H _ I h) λv s1 z_=> ?_)
 obtain⟨x,H1,I1,r1,q1⟩:=z_
 obtain⟨c,rfl,q1⟩:=q1
 cases r1
 refine Mi ?_
 cases c with
 |true=>exact hb S4 s1 σ H1 Q I1 q1
 |false=>exact⟨.bl false,H1,I1,rfl,q1⟩
theorem Hs (ha:PE X a ta) (hb:PE X (.BoolOp .Or (b::rest) pos) tb):PE X (.BoolOp .Or (a::b::rest) pos) (Jb ta tb):=by
 intro S4 s σ H Q I h
 refine BoolOp_or (cV (ha S4 s σ H _ I h) λv s1 z_=> ?_)
 obtain⟨x,H1,I1,r1,q1⟩:=z_
 obtain⟨c,rfl,q1⟩:=q1
 cases r1
 refine Mi ?_
 cases c with
 |false=>exact hb S4 s1 σ H1 Q I1 q1
 |true=>exact⟨.bl true,H1,I1,rfl,q1⟩
theorem FA (ha:PE X a ta):PE X (.UnaryOp .Not a pos) (Hr ta):=by
 intro S4 s σ H Q I h
 refine UnaryOp_ (cV (ha S4 s σ H _ I h) λv s1 z_=> ?_)
 obtain⟨x,H1,I1,r1,q1⟩:=z_
 obtain⟨c,rfl,q1⟩:=q1
 cases r1
 exact not_of (Mi ⟨.bl (!c),H1,I1,rfl,q1⟩)
end
end L2
namespace L2
open PySem PySem.Spec PyProof.Rows
def dA (K:Ku) (H:Hp) (a:Kx) (xs:List V):Prop:=
 Rd H a (.lst xs)\/
  ∃(o:Lk) (its:Array Kv) (n:Nat),K.lookup a=some o/\o.cls= .type "list"/\o.dict=none/\o.data= .seq its n/\its.size<=sizeLine/\bp xs its.toList
def iT (K:Ku) (H:Hp) (a:Kx) (xs:List V):Prop:=
 Rd H a (.tup xs)\/
  ∃(o:Lk) (its:Array Kv) (n:Nat),K.lookup a=some o/\o.cls= .type "tuple"/\o.data= .seq its n/\its.size<=sizeLine/\bp xs its.toList
def Jc:Kv->Option V
 | .none=>some .non
 | .bool b=>some (.bl b)
 | .int i _=>some (.int i)
 | .str x _=>some (.str x)
 | .bytes b _=>some (.byt b)
 | .float b _=>some (.flt b)
 | .ref a=>some (.ref a)
 | .type n=>some (.ty n)
 |_=>none
theorem bT.abs {x:V} {u:Kv} (r:bT x u):Jc u=some x:=by
 cases x with
 |non=>cases r;rfl
 |bl _=>cases r;rfl
 |int _=>obtain⟨t,rfl⟩:=r;rfl
 |str _=>obtain⟨t,rfl⟩:=r;rfl
 |byt _=>obtain⟨t,rfl⟩:=r;rfl
 |flt _=>obtain⟨t,rfl⟩:=r;rfl
 |ref _=>cases r;rfl
 |ty _=>cases r;rfl
theorem bT.inj {x y:V} {u:Kv} (r:bT x u) (q:bT y u):x=y:=LG (r.abs.symm.trans q.abs)
theorem bp.inj:∀{xs ys:List V} {us:List Kv},bp xs us->bp ys us->xs=ys
 |_,_,_, .nil, .nil=>rfl
 |_,_,_, .cons r t, .cons r' t'=>by rw[r.inj r',bp.inj t t']
section
variable {X:Cx} {S4:List (Kx×Lk)} {σ:St} {H:Hp} {s:Ky} {a:Kx} {xs ys:List V}
theorem dA.of {K:Ku} (h:H a=some (.lst xs)):dA K H a xs:= .inl (.inl h)
theorem iT.of {K:Ku} (h:H a=some (.tup xs)):iT K H a xs:= .inl (.inl h)
theorem aP.list (I:aP X S4 σ H s) (h:dA X.K H a xs):∃its:List Kv,bp xs its/\PlainL s.heap a its.toArray/\xs.length<=sizeLine:=by
 rcases h with h|⟨o,its,n,hk,hc,hd,hs,hz,r⟩
 ·obtain⟨z,its,n,r,e⟩:=h.ok I.hok
  exact⟨its,r,⟨_,n,e,rfl,rfl,rfl⟩,z⟩
 ·refine⟨its.toList,r,⟨o,n,I.kIn a o hk,hc,hd,by simpa using hs⟩,?_⟩
  have e:=r.length
  simp only[Mj]at e
  omega
theorem aP.tuple (I:aP X S4 σ H s) (h:iT X.K H a xs):∃its:List Kv,bp xs its/\Qi s.heap a its.toArray/\xs.length<=sizeLine:=by
 rcases h with h|⟨o,its,n,hk,hc,hs,hz,r⟩
 ·obtain⟨z,its,r,p⟩:=h.ok I.hok
  exact⟨its,r,p.tup,z⟩
 ·refine⟨its.toList,r,⟨o,I.kIn a o hk,hc,n,by simpa using hs⟩,?_⟩
  have e:=r.length
  simp only[Mj]at e
  omega
theorem aP.list_inj (I:aP X S4 σ H s) (h:dA X.K H a xs) (h':dA X.K H a ys):xs=ys:=by
 obtain⟨its,r,⟨o,n,e,_,_,d⟩,_⟩:=I.list h
 obtain⟨its',r',⟨o',n',e',_,_,d'⟩,_⟩:=I.list h'
 rw[e]at e';cases e'
 rw[d]at d'
 injection d' with d1 _
 have:its=its':=by simpa using congrArg RW d1
 subst this
 exact r.inj r'
theorem aP.tuple_inj (I:aP X S4 σ H s) (h:iT X.K H a xs) (h':iT X.K H a ys):xs=ys:=by
 obtain⟨its,r,⟨o,e,_,n,d⟩,_⟩:=I.tuple h
 obtain⟨its',r',⟨o',e',_,n',d'⟩,_⟩:=I.tuple h'
 rw[e]at e';cases e'
 rw[d]at d'
 injection d' with d1 _
 have:its=its':=by simpa using congrArg RW d1
 subst this
 exact r.inj r'
end
abbrev Cx.wish (X:Cx) (E:Kv->Ky->Prop):Cx:={X with xe:=E}
abbrev Cx.nox (X:Cx):Cx:=X.wish λ_ _=>False
theorem Cx.Ok.wish {X:Cx} (ok:X.Ok) (E:Kv->Ky->Prop):(X.wish E).Ok:=
 ⟨ok.mod,ok.kind,ok.glob,ok.blt,ok.above,ok.inj,ok.has,ok.cab,ok.hd,ok.frames,ok.stk,ok.exf,ok.bs,ok.bsz,ok.noex,ok.exfs,ok.funs,ok.frf⟩
theorem Cx.Ok.unwish {X:Cx} {E:Kv->Ky->Prop} (ok:(X.wish E).Ok):X.Ok:=
 ⟨ok.mod,ok.kind,ok.glob,ok.blt,ok.above,ok.inj,ok.has,ok.cab,ok.hd,ok.frames,ok.stk,ok.exf,ok.bs,ok.bsz,ok.noex,ok.exfs,ok.funs,ok.frf⟩
section
variable {X:Cx} {S4:List (Kx×Lk)} {σ:St} {H:Hp} {s:Ky} {E:Kv->Ky->Prop}
theorem aP.wish (I:aP X S4 σ H s) (E:Kv->Ky->Prop):aP (X.wish E) S4 σ H s:=⟨I.ok.wish E,I.os,I.bare,I.base,I.loc,I.cell,I.free,I.freeC,I.pin,I.hok,I.len⟩
theorem aP.unwish (I:aP (X.wish E) S4 σ H s):aP X S4 σ H s:=⟨I.ok.unwish,I.os,I.bare,I.base,I.loc,I.cell,I.free,I.freeC,I.pin,I.hok,I.len⟩
theorem SP.unwish {D:o7} {f:Flow} {s':Ky} (h:SP (X.wish E) S4 D f s'):SP X S4 D f s':=by
 cases f with
 |next=>obtain⟨σ',H',I,q⟩:=h;exact⟨σ',H',I.unwish,q⟩
 |brk=>obtain⟨σ',H',I,q⟩:=h;exact⟨σ',H',I.unwish,q⟩
 |cont=>obtain⟨σ',H',I,q⟩:=h;exact⟨σ',H',I.unwish,q⟩
 |ret u=>obtain⟨v,σ',H',I,r,q⟩:=h;exact⟨v,σ',H',I.unwish,r,q⟩
theorem PE.nox {e:KI} {t:TE} (h:PE X.nox e t):PE X e t:=λS4 s σ H Q I hw=>
 Ms (h S4 s σ H Q (I.wish _) hw) (λ_ _ ⟨v,H',I',r,q⟩=>⟨v,H',I'.unwish,r,q⟩) λ_ _ z=>Mf z
theorem PT.nox {e:KI} {t:TT} (h:PT X.nox e t):PT X e t:=λS4 s σ H Q I hw=>
 Ms (h S4 s σ H Q (I.wish _) hw) (λ_ _ ⟨H',I',q⟩=>⟨H',I'.unwish,q⟩) λ_ _ z=>Mf z
theorem rA.nox {st:List L9} {t:TS} (h:rA X.nox st t):rA X st t:=λS4 s σ H D I hw=>
 Ms (h S4 s σ H D (I.wish _) hw) (λ_ _ q=>q.unwish) λ_ _ z=>Mf z
end
section
variable {X:Cx} {st:L9} {rest:List L9} {t u:TS} {e:KI} {te:TE} {pos:Ls}
def Ht:TS:=λD σ H=>D.nx σ H
def Jd (t u:TS):TS:=λD σ H=>t {D with nx:=u D} σ H
theorem Dt:rA X [] Ht:=λ_ _ σ H _ I h=>Oe ⟨σ,H,I,h⟩
theorem vD (h1:PS X st t) (h2:rA X rest u):rA X (st::rest) (Jd t u):=by
 intro S4 s σ H D I h
 refine wpAny_execs_cons (cV (h1 S4 s σ H {D with nx:=u D} I h) λf s1 q=> ?_)
 cases f with
 |next=>
  obtain⟨σ',H',I',q⟩:=q
  exact h2 S4 s1 σ' H' D I' q
 |ret v=>exact q
 |brk=>exact q
 |cont=>exact q
theorem yw (h1:PS X st t):rA X [st] t:=by
 intro S4 s σ H D I h
 refine wpAny_execs_cons (cV (h1 S4 s σ H D I h) λf s1 q=> ?_)
 cases f with
 |next=>exact Oe q
 |ret v=>exact q
 |brk=>exact q
 |cont=>exact q
theorem aP.quiet {S4:List (Kx×Lk)} {σ:St} {H:Hp} {s:Ky} (I:aP X S4 σ H s):interactive X.env=false:=by simp[interactive,I.ok.kind]
def Hu (te:TE):TS:=λD σ H=>te σ H λ_ H1=>D.nx σ H1
theorem o9 (he:PE X e te) (hs:LI e none pos.line X.env=pure false:=by rfl):PS X (.Expr e pos) (Hu te):=by
 intro S4 s σ H D I h
 exact wpAny_Expr_any (cV (he S4 s σ H _ I h) λv s1 ⟨x,H1,I1,r1,q1⟩=>⟨σ,H1,I1,q1⟩) I.quiet hs
def Je (te:TE):TS:=λD σ H=>te σ H D.rt
theorem rB (he:PE X e te):PS X (.Return (some e) pos) (Je te):=by
 intro S4 s σ H D I h
 exact wpAny_Return_some (cV (he S4 s σ H _ I h) λv s1 ⟨x,H1,I1,r1,q1⟩=>⟨x,σ,H1,I1,r1,q1⟩)
def Jf (c:TT) (t u:TS):TS:=λD σ H=>c σ H λb H1=>if b=true then t D σ H1 else u D σ H1
theorem EK {c:KI} {a b:List L9} {tc:TT} (hc:PT X c tc) (ha:rA X a t) (hb:rA X b u):PS X (.If c a b pos) (Jf tc t u):=by
 intro S4 s σ H D I h
 refine wpAny_If (cV (hc S4 s σ H _ I h) λd s1 z_=> ?_)
 obtain⟨H1,I1,q1⟩:=z_
 cases d with
 |true=>exact ha S4 s1 σ H1 D I1 q1
 |false=>exact hb S4 s1 σ H1 D I1 q1
end
abbrev TG:=V->St->Hp->(St->Hp->Prop)->Prop
abbrev Be:=List V->St->Hp->(St->Hp->Prop)->Prop
def PG (X:Cx) (XI:KI) (t:TG):Prop:=
 ∀(S4:List (Kx×Lk)) (s:Ky) (σ:St) (H:Hp) (v:V) (u:Kv) (Q:St->Hp->Prop),aP X S4 σ H s->bT v u->t v σ H Q->
  KP (KS X.prog X.w) X.A (Nq XI X.env u) (λ_ s'=>∃σ' H',aP X S4 σ' H' s'/\Q σ' H') X.xe s
def Bf (X:Cx) (ts:List KI) (t:Be):Prop:=
 ∀(S4:List (Kx×Lk)) (s:Ky) (σ:St) (H:Hp) (vs:List V) (us:List Kv) (Q:St->Hp->Prop),aP X S4 σ H s->bp vs us->t vs σ H Q->
  KP (KS X.prog X.w) X.A (assignInOrder ((LL ts X.env).map (·.2)) us) (λ_ s'=>∃σ' H',aP X S4 σ' H' s'/\Q σ' H') X.xe s
abbrev FC:=V->V->V->Hp->(Hp->Prop)->Prop
def Hv (X:Cx) (t:FC):Prop:=
 ∀(S4:List (Kx×Lk)) (s:Ky) (σ:St) (H:Hp) (o i v:V) (ov iv u:Kv) (Q:Hp->Prop),aP X S4 σ H s->bT o ov->bT i iv->bT v u->t o i v H Q->
  KP (KS X.prog X.w) X.A (RG ov iv u) (λ_ s'=>∃H',aP X S4 σ H' s'/\Q H') X.xe s
section
variable {X:Cx} {pos:Ls}
def EL (i:Nat):TG:=λv σ H Q=>Q (σ.set i (some v)) H
theorem yx {i:Nat} {x:Kw} (hN:X.N.Nodup) (hi:X.N[i]? =some x) (hx:zO X.env.scope x) (hf:X.fn x=true\/X.env.scope.names.lookup x=some .local:=by first|exact .inl rfl|exact .inr rfl|assumption):PG X (.Name x pos) (EL i):=by
 intro S4 s σ H v u Q I r h
 exact wpAny_assign_Name (rz I hN hi hx r (λs' I'=>⟨_,H,I',h⟩) hf)
def Jg:Be:=λvs σ H Q=>vs=[]/\Q σ H
def Hw (t:TG) (u:Be):Be:=λvs σ H Q=>∃v r,vs=v::r/\t v σ H λσ' H'=>u r σ' H' Q
theorem Du:Bf X [] Jg:=by
 intro S4 s σ H vs us Q I r h
 obtain⟨e,h⟩:=h
 subst e
 cases r
 exact assignInOrder_nil ⟨σ,H,I,h⟩
theorem Bg {e:KI} {es:List KI} {t:TG} {u:Be} (h1:PG X e t) (h2:Bf X es u)
  (hs:(LL (e::es) X.env).map (·.2)=Nq e X.env::(LL es X.env).map (·.2):=by rfl):Bf X (e::es) (Hw t u):=by
 intro S4 s σ H vs us Q I r h
 obtain⟨v,vr,e1,h⟩:=h
 subst e1
 cases r with
 |cons r rr=>
  rw[hs]
  refine assignInOrder_cons (cV (h1 S4 s σ H _ _ _ I r h) λ_ s1 z_=> ?_)
  obtain⟨σ1,H1,I1,q1⟩:=z_
  exact h2 S4 s1 σ1 H1 _ _ Q I1 rr q1
def Jh (K:Ku) (n:Nat) (t:Be):TG:=λv σ H Q=>∃a xs,v= .ref a/\iT K H a xs/\xs.length=n/\t xs σ H Q
theorem Bh {es:List KI} {k:Nat} {t:Be} {n:Nat} (hc:X.calm=true) (h:Bf X es t)
  (hn:(LL es X.env).length=n:=by rfl) (V2:(LL es X.env).findIdx? (·.1)=none:=by rfl):PG X (.Tuple es k pos) (Jh X.K n t):=by
 intro S4 s σ H v u Q I r hw
 obtain⟨a,xs,e1,hq,hl,hw⟩:=hw
 subst e1
 cases r
 obtain⟨its,rv,ht,hz⟩:=I.tuple hq
 refine assign_Tuple_tuple (I.ok.hd hc) ht (by simp[hn,<-hl,rv.length]) V2 λh' hx=> ?_
 have I1:aP X S4 σ H {s with heap:=h'}:=I.kept (t':=s.toks) λb o e=>hx b o (Lo (KZ e)) e
 exact h S4 _ σ H xs _ Q I1 (by simpa using rv) hw
def Ji (to ti:TE) (t:FC):TG:=λv σ H Q=>to σ H λo H1=>ti σ H1 λi H2=>t o i v H2 λH3=>Q σ H3
theorem FD {o i:KI} {to ti:TE} {t:FC} (ho:PE X o to) (hi:PE X i ti) (hs:Hv X t)
  (ha:∀v,Nq (.Subscript o i pos) X.env v=(do
   let ov<-Mx [v] (L5 o X.env)
   let iv<-Mx [v,ov] (L5 i X.env)
   M_ pos
   Mx [v,ov,iv] (RG ov iv v)
   release [v,ov,iv] []):=by intro _;rfl):PG X (.Subscript o i pos) (Ji to ti t):=by
 intro S4 s σ H v u Q I r h
 rw[ha]
 refine Kz (LD (cV (ho S4 s σ H _ I h) λov s1 z_=> ?_))
 obtain⟨x,H1,I1,r1,q1⟩:=z_
 refine Kz (LD (cV (hi S4 s1 σ H1 _ I1 q1) λiv s2 z_=> ?_))
 obtain⟨y,H2,I2,r2,q2⟩:=z_
 refine Kz (O2 (Kz (LD (cV (hs S4 s2 σ H2 x y v ov iv u _ I2 r1 r2 r q2) λ_ s3 z_=> ?_))))
 obtain⟨H3,I3,q3⟩:=z_
 exact wpAny_release ⟨σ,H3,I3,q3⟩
def FE (te:TE) (g:TG):TS:=λD σ H=>te σ H λx H1=>g x σ H1 D.nx
theorem xl {tg e:KI} {te:TE} {g:TG} (he:PE X e te) (hg:PG X tg g) (hs:OF [tg] e pos.line X.env=pure false:=by rfl) (hw:OG [tg] e X.env=pure none:=by rfl)
  (h1:(LL [tg] X.env).map (·.2)=[Nq tg X.env]:=by rfl):PS X (.Assign [tg] e pos) (FE te g):=by
 intro S4 s σ H D I h
 refine wpAny_Assign_stores (cV (he S4 s σ H _ I h) λv s1 z_=> ?_) hs hw
 obtain⟨x,H1,I1,r1,q1⟩:=z_
 rw[h1]
 exact cV (hg S4 s1 σ H1 x v _ I1 r1 q1) λ_ s2 q=>q
theorem nz {i:Nat} {x:Kw} {e:KI} {te:TE} {Ss:Ls} (hN:X.N.Nodup) (hi:X.N[i]? =some x) (hx:zO X.env.scope x) (he:PE X e te) (hs:LI e (some (.Name x Ss)) pos.line X.env=pure false:=by rfl) (hf:X.fn x=true\/X.env.scope.names.lookup x=some .local:=by first|exact .inl rfl|exact .inr rfl|assumption):
  PS X (.Assign [.Name x Ss] e pos) (FE te (EL i)):=by
 intro S4 s σ H D I h
 refine wpAny_Assign_Name (cV (he S4 s σ H _ I h) λv s1 z_=> ?_) hs
 obtain⟨y,H1,I1,r1,q1⟩:=z_
 exact rz I1 hN hi hx r1 (λs2 I2=>⟨_,H1,I2,q1⟩) hf
end
section
variable {X:Cx} {pos:Ls}
end
structure It where
 go:Nat->Hp->Prop
 yld:Nat->Hp->V->Hp->Prop
 stop:Nat->Hp->Prop
def og (X:Cx) (S4:List (Kx×Lk)) (H:Hp) (b:Kx):Prop:=
 H b=none/\b≠X.env.locals/\b∉X.fs/\(b∈X.ex\/X.s₀.heap.objs.size<=b)/\(∀x c,X.env.cells.lookup x=some c->c≠b)/\∀p∈X.pn++S4,p.1≠b
theorem aP.fpOk {X:Cx} {S4:List (Kx×Lk)} {σ:St} {H H':Hp} {s:Ky} {b:Kx} (I:aP X S4 σ H s) (hb:s.heap.objs.size<=b) (hn:H' b=none):og X S4 H' b:=by
 refine⟨hn,Nat.ne_of_gt (Ln I.lt hb),I.nofs hb, .inr (Lq I.sz hb),λx c e z=> ?_,λp hp z=> ?_⟩
 ·obtain⟨v,q⟩:=I.cell x c e
  exact absurd (Ln q.lt (by rw[z];exact hb)) (LP _)
 ·exact absurd (Ln (KZ (I.pin p hp).1) (by rw[z];exact hb)) (LP _)
structure zQ (P:KW) (w:La) (K:Ku) (tg:KI) (J:It) (fp:List Kx) (it:Kx) (tn:Nat->L4->Prop):Prop where
 mem:it∈fp
 obj:∀i h,tn i h->∀b∈fp,∃o,h.get? b=some o/\∀v,o.data≠ .cell v
 keep:∀i h h',tn i h->(∀b∈fp,∀o,h.get? b=some o->h'.get? b=some o)->tn i h'
 item:∀(X:Cx),X.prog=P->X.w=w->X.K=K->X.calm=true->∀(i:Nat) (S4:List (Kx×Lk)) (s:Ky) (σ:St) (H:Hp) (E:Kv->Ky->Prop),aP X S4 σ H s->(∀b∈fp,og X S4 H b)->tn i s.heap->J.go i H->
  KP (KS P w) X.A (pyNext (.ref it)) (λr s1=>∃u,r=some u/\
   KP (KS P w) X.A (PF tg (.ref it) u) (λ_ s2=>∃x H',aP X S4 σ H' s2/\bT x u/\J.yld i H x H'/\tn (i+1) s2.heap/\∀b∈fp,H' b=none) E s1) E s
 done:∀(X:Cx),X.prog=P->X.w=w->X.K=K->X.calm=true->∀(i:Nat) (S4:List (Kx×Lk)) (s:Ky) (σ:St) (H:Hp) (E:Kv->Ky->Prop),aP X S4 σ H s->(∀b∈fp,og X S4 H b)->tn i s.heap->J.stop i H->
  KP (KS P w) X.A (pyNext (.ref it)) (λr s1=>r=none/\aP X S4 σ H s1) E s
 self:∀(A:Lg) (i:Nat) (s:Ky) (Q:Kv->Ky->Prop) (E:Kv->Ky->Prop),tn i s.heap->Q (.ref it) s->KP (KS P w) A (pyIter (.ref it)) Q E s
abbrev TI:=St->Hp->(It->Hp->Prop)->Prop
def JO (X:Cx) (S4:List (Kx×Lk)) (σ:St) (tg:KI) (R:It->Hp->Prop) (Z9:Kv) (s2:Ky):Prop:=
 ∃(it:Kx) (fp:List Kx) (tn:Nat->L4->Prop) (J:It) (H':Hp),Z9= .ref it/\aP X S4 σ H' s2/\zQ X.prog X.w X.K tg J fp it tn/\tn 0 s2.heap/\(∀b∈fp,og X S4 H' b)/\R J H'
def PI (X:Cx) (tg Sz:KI) (wi:TI):Prop:=
 ∀(S4:List (Kx×Lk)) (s:Ky) (σ:St) (H:Hp) (R:It->Hp->Prop),aP X S4 σ H s->wi σ H R->
  KP (KS X.prog X.w) X.A (L5 Sz X.env) (λv s1=>KP (KS X.prog X.w) X.A (pyIter v) (JO X S4 σ tg R) X.xe s1) X.xe s
theorem Bi {M:Q_} {A:Lg} {E:Kv->Ky->Prop} {s:Ky} {tg:KI} {it:Kx} {u:Kv} {o:Lk} {n:String} {vs:Array Kv} {Q:Unit->Ky->Prop} (ho:s.heap.get? it=some o) (hc:o.cls= .type n) (hd:o.data= .fields vs)
  (hn:["enumerate","zip","dict_itemiterator","dict_reverseitemiterator","odict_iterator","itertools.zip_longest","itertools.pairwise"].contains n=false) (hQ:Q () s):KP M A (PF tg (.ref it) u) Q E s:=by
 unfold PF
 cases tg<;>first
  |exact KN hQ
  |(cases u<;>first
    |exact KN hQ
    |(refine Kz (wpAny_load ho ?_)
      rw[hc,hd]
      show KP M A (if (["enumerate","zip","dict_itemiterator","dict_reverseitemiterator","odict_iterator","itertools.zip_longest","itertools.pairwise"].contains n&&vs[0]? ==some (rawInt _))=true then _ else _) Q E s
      rw[if_neg (by intro h;rw[hn,Bool.false_and]at h;cases h)]
      exact KN hQ))
def IU (K:Ku) (a:Kx):It:=
 ⟨λi H=>∃xs x,dA K H a xs/\xs[i]? =some x,λi H x H'=>H'=H/\∀xs,dA K H a xs->xs[i]? =some x,λi H=>∃xs,dA K H a xs/\xs.length<=i⟩
def Jj (K:Ku) (a:Kx):It:=
 ⟨λi H=>∃xs x,iT K H a xs/\xs[i]? =some x,λi H x H'=>H'=H/\∀xs,iT K H a xs->xs[i]? =some x,λi H=>∃xs,iT K H a xs/\xs.length<=i⟩
def Hx (lo:Int) (n:Nat):It:=⟨λi _=>i<n,λi H x H'=>H'=H/\x= .int (lo+i),λi _=>n<=i⟩
theorem zR {P:KW} {w:La} {K:Ku} {tg:KI} (a it:Kx):zQ P w K tg (IU K a) [it] it (λi h=>h.IsListIter it a i)where
 mem:=by simp
 obj:=λi h st b hb=>by
  have e:b=it:=by simpa using hb
  subst e
  obtain⟨o,e,c,d⟩:=st
  exact⟨o,e,λv z=>by rw[d]at z;cases z⟩
 keep:=λi h h' st k=>st.at λo e=>k it (by simp) o e
 item:=by
  intro X hP hw hK hc i S4 s σ H E I hf st hg
  subst hP hw hK
  obtain⟨xs,x,hq,hx⟩:=hg
  obtain⟨its,rv,p,hz⟩:=I.list hq
  obtain⟨u,hu,ru⟩:=rv.get hx
  obtain⟨f0,f1,f2,f3,f4,f5⟩:=hf it (by simp)
  refine wpAny_pyNext_list_item st p.isList (x:=u) (by simpa using hu) λh' Wg sb=> ?_
  have I1:aP X S4 σ H {s with heap:=h'}:=I.turned (t':=s.toks) (λb o hb e=>(sb.2 b hb).trans e) f0 f1 f3 f4 f5
  obtain⟨o,e,c,d⟩:=id Wg
  exact⟨u,rfl,Bi (s:={s with heap:=h'}) e c d (by decide) ⟨x,H,I1,ru,⟨rfl,λys hy=>by rw[I.list_inj hy hq];exact hx⟩,Wg,λb hb=>(hf b hb).1⟩⟩
 done:=by
  intro X hP hw hK hc i S4 s σ H E I hf st hg
  subst hP hw hK
  obtain⟨xs,hq,hx⟩:=hg
  obtain⟨its,rv,p,hz⟩:=I.list hq
  obtain⟨f0,f1,f2,f3,f4,f5⟩:=hf it (by simp)
  have hl:=rv.length
  exact wpAny_pyNext_list_end (I.ok.hd hc) st p.isList (by simp;omega) λh' eb=>⟨rfl,I.turned (t':=s.toks) (λb o hb e=>eb b o hb e) f0 f1 f3 f4 f5⟩
 self:=λ_ _ _ _ _ st h=>wpAny_pyIter_listiter st h
theorem xm {P:KW} {w:La} {K:Ku} {tg:KI} (a it:Kx):zQ P w K tg (Jj K a) [it] it (λi h=>h.IsTupleIter it a i)where
 mem:=by simp
 obj:=λi h st b hb=>by
  have e:b=it:=by simpa using hb
  subst e
  obtain⟨o,e,c,d⟩:=st
  exact⟨o,e,λv z=>by rw[d]at z;cases z⟩
 keep:=λi h h' st k=>st.at λo e=>k it (by simp) o e
 item:=by
  intro X hP hw hK hc i S4 s σ H E I hf st hg
  subst hP hw hK
  obtain⟨xs,x,hq,hx⟩:=hg
  obtain⟨its,rv,p,hz⟩:=I.tuple hq
  obtain⟨u,hu,ru⟩:=rv.get hx
  obtain⟨f0,f1,f2,f3,f4,f5⟩:=hf it (by simp)
  refine wpAny_pyNext_tuple_item st (show s.heap.IsTuple a its.toArray from p) (x:=u) (by simpa using hu) λh' Wg sb=> ?_
  have I1:aP X S4 σ H {s with heap:=h'}:=I.turned (t':=s.toks) (λb o hb e=>(sb.2 b hb).trans e) f0 f1 f3 f4 f5
  obtain⟨o,e,c,d⟩:=id Wg
  exact⟨u,rfl,Bi (s:={s with heap:=h'}) e c d (by decide) ⟨x,H,I1,ru,⟨rfl,λys hy=>by rw[I.tuple_inj hy hq];exact hx⟩,Wg,λb hb=>(hf b hb).1⟩⟩
 done:=by
  intro X hP hw hK hc i S4 s σ H E I hf st hg
  subst hP hw hK
  obtain⟨xs,hq,hx⟩:=hg
  obtain⟨its,rv,p,hz⟩:=I.tuple hq
  obtain⟨f0,f1,f2,f3,f4,f5⟩:=hf it (by simp)
  have hl:=rv.length
  exact wpAny_pyNext_tuple_end (I.ok.hd hc) st (show s.heap.IsTuple a its.toArray from p) (by simp;omega) λh' eb=>⟨rfl,I.turned (t':=s.toks) (λb o hb e=>eb b o hb e) f0 f1 f3 f4 f5⟩
 self:=λ_ _ _ _ _ st h=>wpAny_pyIter_tupleiter st h
theorem xn {P:KW} {w:La} {K:Ku} {tg:KI} (it:Kx) (lo:Int) (n:Nat):zQ P w K tg (Hx lo n) [it] it (λi h=>IsRangeIter h it (lo+(i:Nat)*1) ((n:Int) - (i:Nat)) 1)where
 mem:=by simp
 obj:=λi h st b hb=>by
  have e:b=it:=by simpa using hb
  subst e
  exact⟨_,st,λv z=>by
   have z':Data.fields _=Data.cell v:=z
   cases z'⟩
 keep:=λi h h' st k=>k it (by simp) _ st
 item:=by
  intro X hP hw hK hc i S4 s σ H E I hf st hg
  subst hP hw hK
  obtain⟨f0,f1,f2,f3,f4,f5⟩:=hf it (by simp)
  have W:=Walks.range (prog:=X.prog) (w:=X.w) (I.ok.hd hc) it lo 1 n
  refine W.item i s _ _ hg st λv h' tk hv Wg kk=> ?_
  obtain⟨t,rfl⟩:=hv
  have I1:aP X S4 σ H {s with heap:=h',toks:=tk}:=I.turned (λb o hb e=>kk b o (by simpa using hb) e) f0 f1 f3 f4 f5
  refine⟨_,rfl,Bi (s:={s with heap:=h',toks:=tk}) (n:="range_iterator") Wg rfl rfl (by decide) ⟨.int (lo+i),H,I1,⟨t,?_⟩,⟨rfl,rfl⟩,Wg,λb hb=>(hf b hb).1⟩⟩
  rw[Int.mul_one]
 done:=by
  intro X hP hw hK hc i S4 s σ H E I hf st hg
  subst hP hw hK
  obtain⟨f0,f1,f2,f3,f4,f5⟩:=hf it (by simp)
  exact wpAny_pyNext_range_end (I.ok.hd hc) st (by have:n<=i:=hg;omega) λh' eb=>⟨rfl,I.turned (t':=s.toks) (λb o hb e=>eb b o hb e) f0 f1 f3 f4 f5⟩
 self:=λ_ _ _ _ _ st h=>wpAny_pyIter_rangeiter st h
end L2
namespace L2
open PySem PySem.Spec PyProof.Rows
section
variable {X:Cx} {tg:KI}
def Hy (K:Ku) (tl:TE):TI:=λσ H R=>tl σ H λx H1=>∃a,x= .ref a/\(∃xs,dA K H1 a xs)/\R (IU K a) H1
def Jk (K:Ku) (tl:TE):TI:=λσ H R=>tl σ H λx H1=>∃a,x= .ref a/\(∃xs,iT K H1 a xs)/\R (Jj K a) H1
theorem uw {l:KI} {tl:TE} (hl:PE X l tl):PI X tg l (Hy X.K tl):=by
 intro S4 s σ H R I h
 refine cV (hl S4 s σ H _ I h) λv s1 z_=> ?_
 obtain⟨x,H1,I1,r1,q1⟩:=z_
 obtain⟨a,e,⟨xs,hq⟩,q⟩:=q1
 subst e
 cases r1
 obtain⟨its,rv,p,hz⟩:=I1.list hq
 refine OQ p.isList ?_
 refine⟨s1.heap.objs.size,[s1.heap.objs.size],_,_,H1,rfl,I1.kept (t':=s1.toks) λb o e=>KH _ e,zR a _,⟨_,Li _ rfl,rfl,rfl⟩,λb hb=> ?_,q⟩
 have e:b=s1.heap.objs.size:=by simpa using hb
 subst e
 exact I1.fpOk (L7 _) (I1.hok.fresh (L7 _))
theorem FF {l:KI} {tl:TE} (hl:PE X l tl):PI X tg l (Jk X.K tl):=by
 intro S4 s σ H R I h
 refine cV (hl S4 s σ H _ I h) λv s1 z_=> ?_
 obtain⟨x,H1,I1,r1,q1⟩:=z_
 obtain⟨a,e,⟨xs,hq⟩,q⟩:=q1
 subst e
 cases r1
 obtain⟨its,rv,p,hz⟩:=I1.tuple hq
 refine QI (show s1.heap.IsTuple a its.toArray from p) ?_
 refine⟨s1.heap.objs.size,[s1.heap.objs.size],_,_,H1,rfl,I1.kept (t':=s1.toks) λb o e=>KH _ e,xm a _,⟨_,Li _ rfl,rfl,rfl⟩,λb hb=> ?_,q⟩
 have e:b=s1.heap.objs.size:=by simpa using hb
 subst e
 exact I1.fpOk (L7 _) (I1.hok.fresh (L7 _))
theorem vE {S4:List (Kx×Lk)} {σ:St} {H:Hp} {s:Ky} {R:It->Hp->Prop} {E:Kv->Ky->Prop} {lo hi:Int} {t u v:NI} {tk:Nat} (I:aP X S4 σ H s) (h1: -(2 ^62)<=lo) (h2:lo<2 ^62) (h3: -(2 ^62)<=hi) (h4:hi<2 ^62)
  (q:R (Hx lo (hi - lo).toNat) H):KP (KS X.prog X.w) X.A (pyIter (.ref s.heap.objs.size)) (JO X S4 σ tg R) E {s with heap:=s.heap.push {cls:= .type "range",data:= .fields #[.int lo t, .int hi u, .int 1 v]},toks:=tk}:=by
 refine wpAny_pyIter_range (IsRange.new ..) (small_one h1 h2 h3 h4) ?_
 have I1:aP X S4 σ H {s with heap:=s.heap.push {cls:= .type "range",data:= .fields #[.int lo t, .int hi u, .int 1 v]},toks:=tk}:=I.kept λb o e=>KH _ e
 refine⟨(s.heap.push {cls:= .type "range",data:= .fields #[.int lo t, .int hi u, .int 1 v]}).objs.size,[(s.heap.push {cls:= .type "range",data:= .fields #[.int lo t, .int hi u, .int 1 v]}).objs.size],_,_,H,rfl,
  I1.kept (t':=tk) λb o e=>KH _ e,xn _ lo (hi - lo).toNat,?_,λb hb=> ?_,q⟩
 ·have e1:lo+((0:Nat):Int)*1=lo:=by simp
  have e2:(((hi - lo).toNat:Nat):Int) - ((0:Nat):Int)=Builtin.Range.rangeSize lo hi 1:=by rw[rangeSize_one];split<;>omega
  show IsRangeIter _ _ (lo+((0:Nat):Int)*1) ((((hi - lo).toNat:Nat):Int) - ((0:Nat):Int)) 1
  rw[e1,e2]
  exact Li _ rfl
 ·have e:b=(s.heap.push {cls:= .type "range",data:= .fields #[.int lo t, .int hi u, .int 1 v]}).objs.size:=by simpa using hb
  subst e
  exact I1.fpOk (L7 _) (I1.hok.fresh (L7 _))
def HA (ta:TA):TI:=λσ H R=>ta σ H λvs H1=>∃j:Int,vs=[.int j]/\ -(2 ^62)<=j/\j<2 ^62/\R (Hx 0 j.toNat) H1
def HB (ta:TA):TI:=λσ H R=>ta σ H λvs H1=>∃i j:Int,vs=[.int i, .int j]/\(-(2 ^62)<=i/\i<2 ^62/\ -(2 ^62)<=j/\j<2 ^62)/\R (Hx i (j - i).toNat) H1
theorem zS {a:KI} {ta:TA} {p pos:Ls} (hg:Gl X "range") (hm:X.mg "range"=none) (ha:PA X [a] ta) (hs:KC [a] X.env=[(false,L5 a X.env)]:=by rfl):PI X tg (.Call (.Name "range" p) [a] [] pos) (HA ta):=by
 intro S4 s σ H R I h
 refine Call_ (nv I hg hm boot_range (MG (cV (ha pos S4 s σ H _ I h) λus s1 z_=> ?_) hs rfl))
 obtain⟨vs,H1,I1,r1,q1⟩:=z_
 obtain⟨j,e,q1,q2,q⟩:=q1
 subst e
 cases r1 with
 |cons r rr=>
  cases rr
  obtain⟨t,rfl⟩:=r
  exact call_range_1 (vE I1 (by omega) (by omega) q1 q2 (by simpa using q))
theorem zT {a b:KI} {ta:TA} {p pos:Ls} (hg:Gl X "range") (hm:X.mg "range"=none) (ha:PA X [a,b] ta) (hs:KC [a,b] X.env=[(false,L5 a X.env),(false,L5 b X.env)]:=by rfl) (VU:KC [b] X.env=[(false,L5 b X.env)]:=by rfl):
  PI X tg (.Call (.Name "range" p) [a,b] [] pos) (HB ta):=by
 intro S4 s σ H R I h
 refine Call_ (nv I hg hm boot_range (MG (cV (ha pos S4 s σ H _ I h) λus s1 z_=> ?_) (by rw[hs,VU]) (by rw[VU];rfl)))
 obtain⟨vs,H1,I1,r1,q1⟩:=z_
 obtain⟨i,j,e,⟨q1,q2,q3,q4⟩,q⟩:=q1
 subst e
 cases r1 with
 |cons r rr=>
  cases rr with
  |cons r' rr=>
   cases rr
   obtain⟨t,rfl⟩:=r
   obtain⟨t',rfl⟩:=r'
   exact call_range_2 (vE I1 q1 q2 q3 q4 q)
def HC (wi:TI) (g:TG) (tb:TS):TS:=λD σ H=>wi σ H λJ H1=>∃W:Nat->Nat->St->Hp->Prop,(∃m,W 0 m σ H1)/\∀i m σ H,W i m σ H->
 (J.stop i H/\D.nx σ H)\/(J.go i H/\∃N:St->Hp->Prop,(∀σ' H',N σ' H'->∃m',m'<m/\W (i+1) m' σ' H')/\∀x H',J.yld i H x H'->g x σ H' λσ2 H2=>tb {D with nx:=N,ct:=N,bk:=D.nx} σ2 H2)
def rC (fp:List Kx) (h:L4):List (Kx×Lk):=fp.filterMap λb=>(h.get? b).map λo=>(b,o)
theorem kq {fp:List Kx} {h:L4} {b:Kx} {o:Lk} (hb:b∈fp) (e:h.get? b=some o):(b,o)∈rC fp h:=Oy.mpr ⟨b,hb,by rw[e];rfl⟩
theorem zU {fp:List Kx} {h:L4} {p:Kx×Lk} (hp:p∈rC fp h):p.1∈fp/\h.get? p.1=some p.2:=by
 obtain⟨b,hb,e⟩:=Oy.mp hp
 cases q:h.get? b with
 |none=>rw[q]at e;cases e
 |some o=>
  rw[q]at e
  have e':(b,o)=p:=LG e
  subst e'
  exact⟨hb,q⟩
theorem aP.pinned {S4:List (Kx×Lk)} {σ:St} {H:Hp} {s:Ky} {fp:List Kx} (I:aP X S4 σ H s) (hf:∀b∈fp,og X S4 H b) (ho:∀b∈fp,∃o,s.heap.get? b=some o/\∀v,o.data≠ .cell v):aP X (S4++rC fp s.heap) σ H s:=
 I.pins_of λp hp=>(LB.mp hp).elim (λz=>I.pin p (Lm _ z)) λz=>by
  obtain⟨hb,e⟩:=zU z
  obtain⟨f0,f1,f2,_⟩:=hf p.1 hb
  obtain⟨o,e',d⟩:=ho p.1 hb
  rw[e]at e';cases e'
  exact⟨e,f0,f1,f2,d⟩
theorem aP.unpinned {S4 pl:List (Kx×Lk)} {σ:St} {H:Hp} {s:Ky} (I:aP X (S4++pl) σ H s):aP X S4 σ H s:=I.pins_of λp hp=>I.pin p (Lm _ (LU _ hp))
theorem FG {Sz:KI} {body:List L9} {wi:TI} {g:TG} {tb:TS} {pos:Ls} (hp:PassesOwn (KS X.prog X.w) X.A X.env X.xe) (hc:X.calm=true) (hi:PI X tg Sz wi) (hg:PG X tg g) (hb:rA X body tb)
  (hs:∀x,Mz Sz X.env x=pure x:=by intro _;rfl):PS X (.For tg Sz body [] pos) (HC wi g tb):=by
 intro S4 s σ H D I h
 refine wpAny_For (cV (hi S4 s σ H _ I h) λv s1 h1=>cV h1 λZ9 s2 h2=> ?_) hs
 obtain⟨it,fp,tn,J,H2,e,I2,T,Xh,f2,W,⟨m0,w0⟩,turn⟩:=h2
 subst e
 have Wh:∀{H':Hp},(∀b∈fp,H' b=none)->∀b∈fp,og X S4 H' b:=λhn b hb=>⟨hn b hb,(f2 b hb).2⟩
 refine codeAny_forLoop_any (λn s'=>∃i σ' H',aP X S4 σ' H' s'/\tn i s'.heap/\(∀b∈fp,H' b=none)/\W i n σ' H') ?_ m0 ⟨0,σ,H2,I2,Xh,λb hb=>(f2 b hb).1,w0⟩
 rintro n s3 ⟨i,σ3,H3,I3,a0N,a0O,w3⟩
 rcases turn i n σ3 H3 w3 with ⟨stop,qn⟩|⟨go,N,hN,step⟩
 ·refine Ny hp (cV (T.done X rfl rfl rfl hc i S4 s3 σ3 H3 X.xe I3 (Wh a0O) a0N stop) λr s4 z_=> ?_)
  obtain⟨hr,I4⟩:=z_
  subst hr
  exact Oe ⟨σ3,H3,I4,qn⟩
 ·refine Ny hp (cV (T.item X rfl rfl rfl hc i S4 s3 σ3 H3 X.xe I3 (Wh a0O) a0N go) λr s4 z_=> ?_)
  obtain⟨u,hr,h4⟩:=z_
  subst hr
  refine Ny hp (cV h4 λ_ s5 z_=> ?_)
  obtain⟨x,H5,I5,r5,y5,Zz,a1j⟩:=z_
  have a1k:=I5.pinned (Wh a1j) (T.obj _ _ Zz)
  refine Ny hp (cV (hg _ s5 σ3 H5 x u _ a1k r5 (step x H5 y5)) λ_ s6 z_=> ?_)
  obtain⟨σ6,H6,I6,q6⟩:=z_
  refine Ny hp (cV (hb _ s6 σ6 H6 _ I6 q6) λf s7 q7=> ?_)
  have again:∀{σ7:St} {H7:Hp},aP X (S4++rC fp s5.heap) σ7 H7 s7->N σ7 H7->∃m,m<n/\∃i σ' H',aP X S4 σ' H' s7/\tn i s7.heap/\(∀b∈fp,H' b=none)/\W i m σ' H':=λ{σ7 H7} I7 n7=>by
   obtain⟨m',hm,w7⟩:=hN σ7 H7 n7
   refine⟨m',hm,i+1,σ7,H7,I7.unpinned,T.keep _ _ _ Zz λb hb o e=>(I7.pin (b,o) (Lm _ (Lm _ (kq hb e)))).1,λb hb=> ?_,w7⟩
   obtain⟨o,e,d⟩:=T.obj _ _ Zz b hb
   exact(I7.pin (b,o) (Lm _ (Lm _ (kq hb e)))).2.1
  cases f with
  |next=>obtain⟨σ7,H7,I7,n7⟩:=q7;exact again I7 n7
  |cont=>obtain⟨σ7,H7,I7,n7⟩:=q7;exact again I7 n7
  |brk=>obtain⟨σ7,H7,I7,q7⟩:=q7;exact⟨σ7,H7,I7.unpinned,q7⟩
  |ret v=>obtain⟨x7,σ7,H7,I7,r7,q7⟩:=q7;exact⟨x7,σ7,H7,I7.unpinned,r7,q7⟩
end
end L2
namespace L2
open PySem PySem.Spec PyProof.Rows
abbrev R2:=V->V->Hp->VK->Prop
def lq (X:Cx) (f:Kv->Kv->N_ Kv) (r:R2):Prop:=
 ∀(S4:List (Kx×Lk)) (s:Ky) (σ:St) (H:Hp) (x y:V) (v u:Kv) (Q:VK),aP X S4 σ H s->bT x v->bT y u->r x y H Q->
  KP (KS X.prog X.w) X.A (f v u) (EP X S4 σ Q) X.xe s
def IV (X:Cx) (f:Kv->N_ Kv) (r:V->Hp->VK->Prop):Prop:=
 ∀(S4:List (Kx×Lk)) (s:Ky) (σ:St) (H:Hp) (x:V) (v:Kv) (Q:VK),aP X S4 σ H s->bT x v->r x H Q->
  KP (KS X.prog X.w) X.A (f v) (EP X S4 σ Q) X.xe s
def dX (X:Cx) (f:Kv) (r:List V->Hp->VK->Prop):Prop:=
 ∀(S4:List (Kx×Lk)) (s:Ky) (σ:St) (H:Hp) (xs:List V) (us:List Kv) (Q:VK),aP X S4 σ H s->bp xs us->r xs H Q->
  KP (KS X.prog X.w) X.A (call f us) (EP X S4 σ Q) X.xe s
def Jl (X:Cx) (r:V->Hp->(Bool->Hp->Prop)->Prop):Prop:=
 ∀(S4:List (Kx×Lk)) (s:Ky) (σ:St) (H:Hp) (x:V) (v:Kv) (Q:Bool->Hp->Prop),aP X S4 σ H s->bT x v->r x H Q->
  KP (KS X.prog X.w) X.A (Ru v) (TP X S4 σ Q) X.xe s
def IW (r:R2) (ta tb:TE):TE:=λσ H Q=>ta σ H λx H1=>tb σ H1 λy H2=>r x y H2 Q
def K9 (r:V->Hp->VK->Prop) (ta:TE):TE:=λσ H Q=>ta σ H λx H1=>r x H1 Q
def rI (C:Int->Int->Prop) (g:Int->Int->V):R2:=λx y H Q=>∃i j,x= .int i/\y= .int j/\C i j/\Q (g i j) H
def zV (g:Int->Int->V):R2:=λx y H Q=>∃i j,x= .int i/\y= .int j/\Q (g i j) H
def rU (g:Int->V):V->Hp->VK->Prop:=λx H Q=>∃i,x= .int i/\Q (g i) H
section
variable {X:Cx} {a b c:KI} {ta tb tc:TE} {pos:Ls}
theorem FH (ha:PE X a ta) (hb:PE X b tb) {S4:List (Kx×Lk)} {s:Ky} {σ:St} {H:Hp} {R:V->V->Hp->Prop} (I:aP X S4 σ H s)
  (h:ta σ H λx H1=>tb σ H1 λy H2=>R x y H2) {Q:Kv->Ky->Prop} {f:Kv->Kv->N_ Kv}
  (hf:∀v u s2 x y H2,aP X S4 σ H2 s2->bT x v->bT y u->R x y H2->KP (KS X.prog X.w) X.A (f v u) Q X.xe s2):
  KP (KS X.prog X.w) X.A (L5 a X.env) (λv s₁=>KP (KS X.prog X.w) X.A (L5 b X.env) (λu s₂=>KP (KS X.prog X.w) X.A (f v u) Q X.xe s₂) X.xe s₁) X.xe s:=by
 refine cV (ha S4 s σ H _ I h) λv s1 z_=> ?_
 obtain⟨x,H1,I1,r1,q1⟩:=z_
 refine cV (hb S4 s1 σ H1 _ I1 q1) λu s2 z_=> ?_
 obtain⟨y,H2,I2,r2,q2⟩:=z_
 exact hf v u s2 x y H2 I2 r1 r2 q2
theorem EM {op:Operator} {r:R2} (ho:lq X (Mt op) r) (ha:PE X a ta) (hb:PE X b tb):PE X (.BinOp a op b pos) (IW r ta tb):=by
 intro S4 s σ H Q I h
 exact wpAny_BinOp (FH ha hb I h λv u s2 x y H2 I2 rx ry q=>ho S4 s2 σ H2 x y v u Q I2 rx ry q)
theorem EN {op:UnaryOp} {r:V->Hp->VK->Prop} (ho:IV X (unaryOp op) r) (ha:PE X a ta):PE X (.UnaryOp op a pos) (K9 r ta):=by
 intro S4 s σ H Q I h
 exact UnaryOp_ (cV (ha S4 s σ H _ I h) λv s1 ⟨x,H1,I1,r1,q1⟩=>ho S4 s1 σ H1 x v Q I1 r1 q1)
theorem Jm {f:Kv->Kv->N_ Kv} {C:Int->Int->Prop} {g:Int->Int->Int}
  (rule:∀(i j:Int) (t u:NI) (s:Ky) (Q:Kv->Ky->Prop) (E:Kv->Ky->Prop),C i j->Q (.int (g i j) s.toks) {s with toks:=s.toks+1}->KP (KS X.prog X.w) X.A (f (.int i t) (.int j u)) Q E s):
  lq X f (rI C λi j=> .int (g i j)):=by
 intro S4 s σ H x y v u Q I rx ry h
 obtain⟨i,j,rfl,rfl,hc,q⟩:=h
 obtain⟨t,rfl⟩:=rx
 obtain⟨t',rfl⟩:=ry
 exact rule i j t t' s _ _ hc ⟨.int (g i j),H,I.tok _,⟨_,rfl⟩,q⟩
theorem HD {f:Kv->Kv->N_ Kv} {g:Int->Int->Int}
  (rule:∀(i j:Int) (t u:NI) (s:Ky) (Q:Kv->Ky->Prop) (E:Kv->Ky->Prop),Q (.int (g i j) s.toks) {s with toks:=s.toks+1}->KP (KS X.prog X.w) X.A (f (.int i t) (.int j u)) Q E s):
  lq X f (zV λi j=> .int (g i j)):=by
 intro S4 s σ H x y v u Q I rx ry h
 obtain⟨i,j,rfl,rfl,q⟩:=h
 obtain⟨t,rfl⟩:=rx
 obtain⟨t',rfl⟩:=ry
 exact rule i j t t' s _ _ ⟨.int (g i j),H,I.tok _,⟨_,rfl⟩,q⟩
theorem FI {f:Kv->Kv->N_ Kv} {g:Int->Int->Bool}
  (rule:∀(i j:Int) (t u:NI) (s:Ky) (Q:Kv->Ky->Prop) (E:Kv->Ky->Prop),Q (.bool (g i j)) s->KP (KS X.prog X.w) X.A (f (.int i t) (.int j u)) Q E s):
  lq X f (zV λi j=> .bl (g i j)):=by
 intro S4 s σ H x y v u Q I rx ry h
 obtain⟨i,j,rfl,rfl,q⟩:=h
 obtain⟨t,rfl⟩:=rx
 obtain⟨t',rfl⟩:=ry
 exact rule i j t t' s _ _ ⟨.bl (g i j),H,I,rfl,q⟩
def Dv (i j:Int):Prop:=0<j/\j<1073741824
def HE (i j:Int):Prop:=0<=j/\j<=1000000/\i.natAbs<2 ^64
def zW (i j:Int):Prop:=(-(2 ^64)<i/\i<2 ^64)\/(-(2 ^64)<j/\j<2 ^64)
theorem zW.ok {i j:Int} (h:zW i j):IntMulOk i j:=by
 rcases h with ⟨h1,h2⟩|⟨h1,h2⟩
 ·exact .of_left (intBits_le_64 h1 h2)
 ·exact .of_right (intBits_le_64 h1 h2)
theorem FJ:lq X (Mt .Add) (zV λi j=> .int (i+j)):=HD λ_ _ _ _ _ _ _ q=>add_int q
theorem ii:lq X (Mt .Sub) (zV λi j=> .int (i - j)):=HD λ_ _ _ _ _ _ _ q=>sub_int q
theorem FK:lq X (Mt .Mult) (rI zW λi j=> .int (i*j)):=Jm λ_ _ _ _ _ _ _ hc q=>mul_int q hc.ok
theorem eI:lq X (Mt .FloorDiv) (rI Dv λi j=> .int (i / j)):=Jm λi j _ _ _ _ _ hc q=>by
 have h1:(0:Int)<j:=hc.1
 have h2:j<1073741824:=hc.2
 exact floordiv_int (by omega) (by rw[Int.fdiv_eq_ediv_of_nonneg i (by omega)];exact q) (.inl (PyProof.noPylong_small (by omega)))
theorem bA:lq X (Mt .Mod) (rI (λ_ j=>0<j) λi j=> .int (i%j)):=Jm λi j _ _ _ _ _ hc q=>by
 have h1:(0:Int)<j:=hc
 exact mod_int' (by omega) (by rw[Int.fmod_eq_emod_of_nonneg i (by omega)];exact q)
theorem Ka {f:Kv->N_ Kv} {g:Int->Int}
  (rule:∀(i:Int) (t:NI) (s:Ky) (Q:Kv->Ky->Prop) (E:Kv->Ky->Prop),Q (.int (g i) s.toks) {s with toks:=s.toks+1}->KP (KS X.prog X.w) X.A (f (.int i t)) Q E s):
  IV X f (rU λi=> .int (g i)):=by
 intro S4 s σ H x v Q I rx h
 obtain⟨i,rfl,q⟩:=h
 obtain⟨t,rfl⟩:=rx
 exact rule i t s _ _ ⟨.int (g i),H,I.tok _,⟨_,rfl⟩,q⟩
theorem gO:IV X (unaryOp .USub) (rU λi=> .int (-i)):=Ka λ_ _ _ _ _ q=>neg_int q
end
def FL:V->V->Bool
 | .non, .non=>true| .non, .int _=>true| .int _, .non=>true| .non, .bl _=>true| .bl _, .non=>true| .non, .str _=>true| .str _, .non=>true
 | .int _, .int _=>true| .bl _, .bl _=>true| .str _, .str _=>true| .byt _, .byt _=>true
 | .int _, .str _=>true| .str _, .int _=>true| .bl _, .str _=>true| .str _, .bl _=>true
 |_,_=>false
def IX:R2:=λx y H Q=>FL x y=true/\Q (.bl (decide (x=y))) H
def JP:R2:=λx y H Q=>FL x y=true/\Q (.bl (!decide (x=y))) H
theorem yy {i j:Int}:decide (V.int i=V.int j)=(i==j):=by
 rw[Nz]
 simp
theorem Bj {i j:Bool}:decide (V.bl i=V.bl j)=(i==j):=by
 rw[Nz]
 simp
theorem yz {i j:Kw}:decide (V.str i=V.str j)=(i==j):=by
 rw[Nz]
 simp
theorem yA {i j:Array UInt8}:decide (V.byt i=V.byt j)=(i.toList==j.toList):=by
 rw[Nz]
 cases i
 cases j
 simp
section
variable {X:Cx} {a b c:KI} {ta tb tc:TE} {pos:Ls}
theorem c7 {S4:List (Kx×Lk)} {σ:St} {H:Hp} {s:Ky} {Q:VK} {k k':Bool} (I:aP X S4 σ H s) (q:Q (.bl k) H) (e:k=k'):EP X S4 σ Q (.bool k') s:=by
 subst e
 exact⟨.bl k,H,I,rfl,q⟩
theorem bL:lq X (M6 .Eq) IX:=by
 intro S4 s σ H x y v u Q I rx ry h
 obtain⟨hs,q⟩:=h
 cases x with
 |non=>
  cases rx
  cases y with
  |non=>cases ry;exact PySem.EqNone.eq_none_none (c7 I q (by simp))
  |bl j=>cases ry;exact PySem.EqNone.eq_none_bool (c7 I q (by simp))
  |int j=>obtain⟨t',rfl⟩:=ry;exact PySem.EqNone.eq_none_int (c7 I q (by simp))
  |str j=>obtain⟨t',rfl⟩:=ry;exact PySem.EqNone.eq_none_str (c7 I q (by simp))
  |_=>exact absurd (show false=true from hs) Lc
 |bl i=>
  cases rx
  cases y with
  |non=>cases ry;exact PySem.EqNone.eq_bool_none (c7 I q (by simp))
  |bl j=>cases ry;exact eq_bool (c7 I q Bj)
  |str j=>obtain⟨t',rfl⟩:=ry;exact PySem.EqMixed.eq_bool_str (c7 I q (by simp))
  |_=>exact absurd (show false=true from hs) Lc
 |int i=>
  obtain⟨t,rfl⟩:=rx
  cases y with
  |non=>cases ry;exact PySem.EqNone.eq_int_none (c7 I q (by simp))
  |int j=>obtain⟨t',rfl⟩:=ry;exact eq_int (c7 I q yy)
  |str j=>obtain⟨t',rfl⟩:=ry;exact PySem.EqMixed.eq_int_str (c7 I q (by simp))
  |_=>exact absurd (show false=true from hs) Lc
 |str i=>
  obtain⟨t,rfl⟩:=rx
  cases y with
  |non=>cases ry;exact PySem.EqNone.eq_str_none (c7 I q (by simp))
  |bl j=>cases ry;exact PySem.EqMixed.eq_str_bool (c7 I q (by simp))
  |int j=>obtain⟨t',rfl⟩:=ry;exact PySem.EqMixed.eq_str_int (c7 I q (by simp))
  |str j=>obtain⟨t',rfl⟩:=ry;exact eq_str (c7 I q yz)
  |_=>exact absurd (show false=true from hs) Lc
 |byt i=>
  obtain⟨t,rfl⟩:=rx
  cases y with
  |byt j=>obtain⟨t',rfl⟩:=ry;exact PySem.W.eq_bytes (c7 I q yA)
  |_=>exact absurd (show false=true from hs) Lc
 |_=>cases y<;>exact absurd (show false=true from hs) Lc
theorem lr:lq X (M6 .NotEq) JP:=by
 intro S4 s σ H x y v u Q I rx ry h
 obtain⟨hs,q⟩:=h
 cases x with
 |non=>
  cases rx
  cases y with
  |non=>cases ry;exact PySem.EqNone.ne_none_none (c7 I q (by simp))
  |bl j=>cases ry;exact PySem.EqNone.ne_none_bool (c7 I q (by simp))
  |int j=>obtain⟨t',rfl⟩:=ry;exact PySem.EqNone.ne_none_int (c7 I q (by simp))
  |str j=>obtain⟨t',rfl⟩:=ry;exact PySem.EqNone.ne_none_str (c7 I q (by simp))
  |_=>exact absurd (show false=true from hs) Lc
 |bl i=>
  cases rx
  cases y with
  |non=>cases ry;exact PySem.EqNone.ne_bool_none (c7 I q (by simp))
  |bl j=>cases ry;exact ne_bool (c7 I q (congrArg not Bj))
  |str j=>obtain⟨t',rfl⟩:=ry;exact PySem.EqMixed.ne_bool_str (c7 I q (by simp))
  |_=>exact absurd (show false=true from hs) Lc
 |int i=>
  obtain⟨t,rfl⟩:=rx
  cases y with
  |non=>cases ry;exact PySem.EqNone.ne_int_none (c7 I q (by simp))
  |int j=>obtain⟨t',rfl⟩:=ry;exact ne_int (c7 I q (congrArg not yy))
  |str j=>obtain⟨t',rfl⟩:=ry;exact PySem.EqMixed.ne_int_str (c7 I q (by simp))
  |_=>exact absurd (show false=true from hs) Lc
 |str i=>
  obtain⟨t,rfl⟩:=rx
  cases y with
  |non=>cases ry;exact PySem.EqNone.ne_str_none (c7 I q (by simp))
  |bl j=>cases ry;exact PySem.EqMixed.ne_str_bool (c7 I q (by simp))
  |int j=>obtain⟨t',rfl⟩:=ry;exact PySem.EqMixed.ne_str_int (c7 I q (by simp))
  |str j=>obtain⟨t',rfl⟩:=ry;exact ne_str (c7 I q (congrArg not yz))
  |_=>exact absurd (show false=true from hs) Lc
 |byt i=>
  obtain⟨t,rfl⟩:=rx
  cases y with
  |byt j=>obtain⟨t',rfl⟩:=ry;exact PySem.W.ne_bytes (c7 I q (congrArg not yA))
  |_=>exact absurd (show false=true from hs) Lc
 |_=>cases y<;>exact absurd (show false=true from hs) Lc
theorem k_:lq X (M6 .Lt) (zV λi j=> .bl (decide (i<j))):=FI λ_ _ _ _ _ _ _ q=>lt_int q
theorem jQ:lq X (M6 .Gt) (zV λi j=> .bl (decide (j<i))):=FI λ_ _ _ _ _ _ _ q=>gt_int q
theorem vF:lq X (M6 .GtE) (zV λi j=> .bl (decide (j<=i))):=FI λ_ _ _ _ _ _ _ q=>ge_int q
theorem Bk:lq X (M6 .Is) (λx y H Q=>y= .non/\Q (.bl (decide (x= .non))) H):=by
 intro S4 s σ H x y v u Q I rx ry h
 obtain⟨rfl,q⟩:=h
 cases ry
 refine is_none_gen (c7 I q ?_)
 cases x<;>first
  |(cases rx;rfl)
  |(obtain⟨t,rfl⟩:=rx;rfl)
theorem lq.or {f:Kv->Kv->N_ Kv} {r r':R2} (h:lq X f r) (h':lq X f r'):lq X f (λx y H Q=>r x y H Q\/r' x y H Q):=by
 intro S4 s σ H x y v u Q I rx ry q
 rcases q with q|q
 ·exact h S4 s σ H x y v u Q I rx ry q
 ·exact h' S4 s σ H x y v u Q I rx ry q
theorem Bm (b:KI) {op:Qj} (h:op≠ .In:=by decide) (h2:op≠ .NotIn:=by decide):M9 op b=false:=by
 have e1:(op==CmpOp.In)=false:=by cases op<;>first|rfl|exact absurd rfl h
 have e2:(op==CmpOp.NotIn)=false:=by cases op<;>first|rfl|exact absurd rfl h2
 cases b<;>simp[M9,e1,e2]
theorem Dw {op:Qj} {r:R2} (ho:lq X (M6 op) r) (ha:PE X a ta) (hb:PE X b tb) (hm:M9 op b=false):PE X (.Compare a [op] [b] pos) (IW r ta tb):=by
 intro S4 s σ H Q I h
 exact wpAny_Compare1 (FH ha hb I h λv u s2 x y H2 I2 rx ry q=>ho S4 s2 σ H2 x y v u Q I2 rx ry q) hm
def EO (t:TE):TT:=λσ H Q=>t σ H λx H'=>∃k,x= .bl k/\Q k H'
theorem Dx {op:Qj} {r:R2} (ho:lq X (M6 op) r) (ha:PE X a ta) (hb:PE X b tb) (hm:M9 op b=false):PT X (.Compare a [op] [b] pos) (EO (IW r ta tb)):=by
 intro S4 s σ H Q I h
 refine Q6 (cV (ha S4 s σ H _ I h) λv s1 ⟨x,H1,I1,r1,q1⟩=>cV (hb S4 s1 σ H1 _ I1 q1) λu s2 ⟨y,H2,I2,r2,q2⟩=>
  cV (ho S4 s2 σ H2 x y v u _ I2 r1 r2 q2) λc s3 ⟨z,H3,I3,r3,k,e,q3⟩=> ?_) hm
 subst e
 cases r3
 exact Mi ⟨H3,I3,q3⟩
def HF (K:Ku) (x:V) (H:Hp) (k:Bool):Prop:=
 match x with
 | .non=>k=false
 | .bl b=>k=b
 | .int i=>k=(i != 0)
 | .str y=>y.length<=sizeLine/\k=((y.length:Int) != 0)
 | .byt y=>y.size<=sizeLine/\k=((y.size:Int) != 0)
 | .ref p=>(∃xs,dA K H p xs/\k= !xs.isEmpty)\/(∃xs,iT K H p xs/\k= !xs.isEmpty)\/∃kvs,H p=some (.dK kvs)/\k= !kvs.isEmpty
 |_=>False
theorem xo {κ:Type} {kvs:List (κ×V)} {vs:List (κ×Kv)} (r:KV kvs vs):(!vs.isEmpty)= !kvs.isEmpty:=by
 cases r<;>rfl
theorem rD {xs:List V} {its:List Kv} (r:bp xs its):(!its.toArray.isEmpty)= !xs.isEmpty:=by
 cases r<;>simp
theorem pA:(sizeLine:Nat)<2 ^63:=by rw[M3];decide
theorem FN:Jl X (λx H Q=>∃k,HF X.K x H k/\Q k H):=by
 intro S4 s σ H x v Q I rx h
 obtain⟨k,e,q⟩:=h
 have hl:=pA
 have hs:sizeLine=16777216:=M3
 cases x with
 |non=>
  cases rx
  have e':k=false:=e
  subst e'
  exact truthy_none ⟨H,I,q⟩
 |bl b=>
  cases rx
  have e':k=b:=e
  subst e'
  exact Mi ⟨H,I,q⟩
 |int i=>
  obtain⟨t,rfl⟩:=rx
  have e':k=(i != 0):=e
  subst e'
  exact PySem.P.truthy_int ⟨H,I,q⟩
 |str y=>
  obtain⟨t,rfl⟩:=rx
  obtain⟨hy,e'⟩:y.length<=sizeLine/\k=((y.length:Int) != 0):=e
  subst e'
  exact PySem.P.truthy_str (by omega) ⟨H,I.tok _,q⟩
 |byt y=>
  obtain⟨t,rfl⟩:=rx
  obtain⟨hy,e'⟩:y.size<=sizeLine/\k=((y.size:Int) != 0):=e
  subst e'
  exact PySem.W.truthy_bytes (by omega) ⟨H,I.tok _,q⟩
 |ref p=>
  cases rx
  have e':(∃xs,dA X.K H p xs/\k= !xs.isEmpty)\/(∃xs,iT X.K H p xs/\k= !xs.isEmpty)\/∃kvs,H p=some (.dK kvs)/\k= !kvs.isEmpty:=e
  rcases e' with ⟨xs,hx,e'⟩|⟨xs,hx,e'⟩|⟨kvs,hx,e'⟩
  ·subst e'
   obtain⟨its,r,pl,hz⟩:=I.list hx
   have Sq:=r.length
   exact wpAny_truthy_list pl.isList (by simp only[KG];omega) ⟨H,I.tok _,by rw[rD r];exact q⟩
  ·subst e'
   obtain⟨its,r,pl,hz⟩:=I.tuple hx
   have Sq:=r.length
   exact truthy_tuple pl (by simp only[KG];omega) ⟨H,I.tok _,by rw[rD r];exact q⟩
  ·subst e'
   obtain⟨hz,hS,vs,r,m⟩:kvs.length<=sizeLine/\(p==sysModules)=false/\∃vs,KV kvs vs/\s.heap.DictOf (dG X.prog X.w) p vs:=I.hok p _ hx
   have Sq:kvs.length=vs.length:=OD r
   exact wpAny_truthy_dict hS m (by omega) ⟨H,I.tok _,by rw[xo r];exact q⟩
 |_=>exact(show False from e).elim
theorem Bo (ha:PE X a ta) (he:∀TR,Q5 a X.env TR=(do let v<-TR;M_ a.pos;Mx [v] (Ru v))):
  PT X a (λσ H Q=>ta σ H λx H'=>∃k,HF X.K x H' k/\Q k H'):=by
 intro S4 s σ H Q I h
 exact isTrue_plain (cV (ha S4 s σ H _ I h) λv s1 ⟨x,H1,I1,r1,q1⟩=>FN S4 s1 σ H1 x v Q I1 r1 q1) (he _)
theorem jR {x:V} {us:List Kv} (r:bp [x] us):∃u,us=[u]/\bT x u:=by
 cases r with
 |cons r1 r2=>cases r2;exact⟨_,rfl,r1⟩
theorem yB {x y:V} {us:List Kv} (r:bp [x,y] us):∃u w',us=[u,w']/\bT x u/\bT y w':=by
 cases r with
 |cons r1 r2=>
  cases r2 with
  |cons r3 r4=>cases r4;exact⟨_,_,rfl,r1,r3⟩
theorem tu (hc:X.calm=true):dX X (.builtin "max") (λxs H Q=>∃i j,xs=[.int i, .int j]/\Q (.int (if j>i then j else i)) H):=by
 intro S4 s σ H xs us Q I r h
 obtain⟨i,j,rfl,q⟩:=h
 obtain⟨u,w',rfl,⟨t,rfl⟩,⟨t',rfl⟩⟩:=yB r
 refine max_two_ints (I.ok.hd hc) λh' tk k=>⟨_,H,I.kept k,?_,q⟩
 by_cases hj:j>i
 ·rw[if_pos hj,if_pos hj];exact⟨_,rfl⟩
 ·rw[if_neg hj,if_neg hj];exact⟨_,rfl⟩
theorem pB (hc:X.calm=true):dX X (.builtin "min") (λxs H Q=>∃i j,xs=[.int i, .int j]/\Q (.int (if j<i then j else i)) H):=by
 intro S4 s σ H xs us Q I r h
 obtain⟨i,j,rfl,q⟩:=h
 obtain⟨u,w',rfl,⟨t,rfl⟩,⟨t',rfl⟩⟩:=yB r
 refine min_two_ints (I.ok.hd hc) λh' tk k=>⟨_,H,I.kept k,?_,q⟩
 by_cases hj:j<i
 ·rw[if_pos hj,if_pos hj];exact⟨_,rfl⟩
 ·rw[if_neg hj,if_neg hj];exact⟨_,rfl⟩
theorem pC:dX X (.type "int") (λxs H Q=>(∃i,xs=[.int i]/\Q (.int i) H)\/∃k,xs=[.bl k]/\Q (.int (if k then 1 else 0)) H):=by
 intro S4 s σ H xs us Q I r h
 rcases h with ⟨i,rfl,q⟩|⟨k,rfl,q⟩
 ·obtain⟨u,rfl,t,rfl⟩:=jR r
  exact call_int_int ⟨.int i,H,I,⟨_,rfl⟩,q⟩
 ·obtain⟨u,rfl,r1⟩:=jR r
  cases r1
  exact call_int_bool ⟨.int (if k then 1 else 0),H,I.tok _,⟨_,rfl⟩,q⟩
end
end L2
namespace L2
open PySem PySem.Spec PyProof.Rows
structure xp (h:L4) (x dx C:Kx) (mA:Kw->Option Kv):Prop where
 obj:h.get? x=some (Mr C dx)
 ns:h.Ns1 dx mA
 ne:dx≠x
theorem zX {h:L4} {dx:Kx} {mA:Kw->Option Kv} (n:h.Ns1 dx mA):∃od,h.get? dx=some od/\∀name,Ou name od=some (mA name):=by
 obtain⟨o,es,ep,ho,hd,hk,_,hm⟩:=n
 refine⟨o,ho,λname=> ?_⟩
 have e:=hm name
 unfold nsFind findBy at e
 rw[<-Array.find?_toList]at e
 unfold Ou
 rw[hd]
 dsimp only
 split
 ·rename_i y q
  rw[q]at e
  exact congrArg some e
 ·rename_i q
  rw[q]at e
  have a:es.toList.any (·.refKey)=false:=by
   rw[List.any_eq_false]
   intro y hy
   obtain⟨z,t,XJ⟩:=hk y (Array.mem_toList_iff.mp hy)
   simp[DictEntry.refKey,XJ]
  have a':¬es.toList.any (·.refKey)=true:=by rw[a];exact Lc
  rw[if_neg a']
  exact congrArg some e
theorem xp.look {h:L4} {x dx C:Kx} {mA:Kw->Option Kv} (I:xp h x dx C mA):∃od,PySem.W.InstAt h x (Mr C dx) C (some od)/\∀name,Ou name od=some (mA name):=
 let ⟨od,ho,hl⟩:=zX I.ns
 ⟨od,⟨I.obj,rfl,rfl,ho⟩,hl⟩
section
variable {prog:KW} {w:La} {A:Lg} {E:Kv->Ky->Prop} {s:Ky} {K:Ku} {x dx C f:Kx} {mA:Kw->Option Kv} {name:Kw} {v:Kv}
theorem Dy {ZA:Bool} {Q:Kv->Ky->Prop} (X:K.In s.heap) (I:xp s.heap x dx C mA) (hg:MD K C name=true) (hh:ML K C=true)
  (ha:KY K (.ref C) name=some none) (hv:mA name=some v) (Yt:Rf v=true) (h:Q v {s with toks:=s.toks+1}):
  KP (KS prog w) A (getAttr (.ref x) name ZA) Q E s:=by
 obtain⟨od,J,hl⟩:=I.look
 exact PySem.W.get_value X J (Ot hg).1 (PySem.W.findObj_own hh ha rfl (by rw[hl,hv])) Yt h
theorem Bp {pl:N_ Bool} {Q:Kv×List Kv->Ky->Prop} (X:K.In s.heap) (I:xp s.heap x dx C mA) (hg:MD K C name=true)
  (hf:KY K (.ref C) name=some (some (.ref f))) (ht:Of K (.ref f)=true) (hv:mA name=none) (h:Q (.ref f,[.ref x]) s):
  KP (KS prog w) A (Nj (.ref x) name pl) Q E s:=by
 obtain⟨od,J,hl⟩:=I.look
 exact PySem.W.method_fn X J (Ot hg).1 (Ot hg).2 hf (beq_iff_eq.mp ht) (by show (Ou name od).map (·.isSome)=some false;rw[hl,hv];rfl) h
theorem Dz {ns:List Kw} {Q:Unit->Ky->Prop} (X:K.In s.heap) (I:xp s.heap x dx C mA)
  (hs:KY K (.ref C) "__setattr__"=some (some (.builtin "object.__setattr__"))) (hp:N9 K C=true) (ht:PH K C name=some none) (hh:ML K C=true)
  (hw:QE mA ns) (hsz:ns.length<=sizeLine)
  (h:∀h',xp h' x dx C (λy=>if y=name then some v else mA y)->P5 dx s.heap h'->Q () {s with heap:=h',toks:=s.toks+2}):
  KP (KS prog w) A (setAttr (.ref x) name v) Q E s:=by
 obtain⟨od,J,hl⟩:=I.look
 refine PySem.W.set_plain X J hs (PySem.W.osa_open (s:={s with toks:=s.toks+1}) (r:=none) X J hp ht λb=> ?_)
 obtain⟨cd,hc,Zs⟩:=PySem.W.any_some hh
 have hx:s.heap.get? x=some ⟨.ref C,some dx, .plain,#[]⟩:=I.obj
 refine Kz (KN (Kz (Kz (wpAny_loadPart hx (Kz (PySem.W.Looks.here (s:={s with toks:=s.toks+1}) (PySem.W.looks_clsIn X hc) ?_))))))
 rw[Zs]
 refine KN (a:=some dx) (Kz (KN (Kz ?_)))
 refine wpAny_nsSet1 (s:={s with toks:=s.toks+1}) I.ns λh' XM VU=> ?_
 obtain⟨oD,a3n,a3o,a1l,a1m,a1n⟩:=XM.count (PySem.Within.cons name v hw)
 refine Kz (wpAny_lookBehind a1l (by rw[a1m];exact pastItsLine_dict (Lq a1n (by rw[L6];omega))) ?_)
 exact KN (h _ ⟨(VU.2 _ (Mn I.ne)).trans I.obj,XM,I.ne⟩ VU)
theorem Bq {R:QJ->Ky->Prop} {vs:List Kv} {kw:List (Kw×Kv)} (X:K.In s.heap) (hm:N1 K C=true)
  (hi:KY K (.ref C) "__init__"=some (some (.ref f))) (hf:Q7 K (.ref f)=some (.type "function"))
  (h:NP (KS prog w) (A.under (.builtin "type.__call__" ⟨.ref C::vs,kw⟩)) (.call (.ref f) ⟨.ref (s.heap.objs.size+1)::vs,kw⟩) (PySem.W.InitBack (s.heap.objs.size+1) R)
   {s with heap:=(s.heap.push Me).push (Mr C s.heap.objs.size)}):
  NP (KS prog w) A (.call (.ref C) ⟨vs,kw⟩) R s:=by
 obtain⟨hh,g,d,t,os⟩:=s
 exact PySem.W.make_core (PySem.W.makes_of X hm) (Nk X hi) (λself=>PySem.W.bind_fn X self hf) (.inl rfl) h
end
def ij (f:Kw) (v:V):List (Kw×V)->List (Kw×V)
 |[]=>[(f,v)]
 |(g,x)::r=>if g=f then (g,v)::r else (g,x)::ij f v r
theorem de (f g:Kw) (v:V):∀fs:List (Kw×V),(ij f v fs).lookup g=if g=f then some v else fs.lookup g
 |[]=>by
  show Nv g [(f,v)]=_
  by_cases h:g=f
  ·have hb:(g==f)=true:=beq_iff_eq.mpr h
   simp only[Nv,hb,if_pos h]
  ·have hb:(g==f)=false:=beq_eq_false_iff_ne.mpr h
   simp only[Nv,hb,if_neg h]
 |(k,x)::r=>by
  have ih:=de f g v r
  rw[show ij f v ((k,x)::r)=(if k=f then (k,v)::r else (k,x)::ij f v r)from rfl]
  by_cases hk:k=f
  ·rw[if_pos hk]
   by_cases h:g=k
   ·have hb:(g==k)=true:=beq_iff_eq.mpr h
    simp only[Nv,hb,if_pos (h.trans hk)]
   ·have hb:(g==k)=false:=beq_eq_false_iff_ne.mpr h
    simp only[Nv,hb,if_neg (λe:g=f=>h (e.trans hk.symm))]
  ·rw[if_neg hk]
   by_cases h:g=k
   ·have hb:(g==k)=true:=beq_iff_eq.mpr h
    simp only[Nv,hb,if_neg (λe:g=f=>hk (h.symm.trans e))]
   ·have hb:(g==k)=false:=beq_eq_false_iff_ne.mpr h
    simp only[Nv,hb]
    exact ih
theorem pD (f:Kw) (v:V):∀fs:List (Kw×V),f∈(ij f v fs).map (·.1)/\∀g,g∈fs.map (·.1)->g∈(ij f v fs).map (·.1)
 |[]=>⟨by simp[ij],λg h=>by simp at h⟩
 |(k,x)::r=>by
  obtain⟨i1,i2⟩:=pD f v r
  rw[show ij f v ((k,x)::r)=(if k=f then (k,v)::r else (k,x)::ij f v r)from rfl]
  by_cases hk:k=f
  ·rw[if_pos hk]
   subst hk
   exact⟨by simp,λg h=>by simpa using h⟩
  ·rw[if_neg hk]
   refine⟨?_,λg h=> ?_⟩
   ·rw[KO]
    exact L0 _ i1
   ·rw[KO]at h ⊢
    rcases KR.mp h with e|e
    ·exact KR.mpr (.inl e)
    ·exact L0 _ (i2 g e)
theorem qi (f:Kw) (v:V):∀fs:List (Kw×V),(ij f v fs).length<=fs.length+1
 |[]=>by simp[ij]
 |(k,x)::r=>by
  have ih:=qi f v r
  rw[show ij f v ((k,x)::r)=(if k=f then (k,v)::r else (k,x)::ij f v r)from rfl]
  by_cases hk:k=f
  ·rw[if_pos hk,L6,L6];omega
  ·rw[if_neg hk,L6,L6];omega
theorem lc.some_of {v:V} {o:Option Kv} (r:lc (some v) o):∃u,o=some u/\bT v u:=by
 cases o with
 |none=>exact(show False from r).elim
 |some u=>exact⟨u,rfl,r⟩
theorem lc.none_of {o:Option Kv} (r:lc none o):o=none:=by
 cases o with
 |none=>rfl
 |some u=>exact(show False from r).elim
theorem zY {v:V} {u:Kv} (r:bT v u):Rf u=true:=by
 cases v with
 |non=>cases (show u=LK from r);rfl
 |bl b=>cases (show u=Qh b from r);rfl
 |int i=>obtain⟨t,e⟩:=(show ∃t,u=N0 i t from r);cases e;rfl
 |str x=>obtain⟨t,e⟩:=(show ∃t,u=O7 x t from r);cases e;rfl
 |byt b=>obtain⟨t,e⟩:=(show ∃t,u=S1 b t from r);cases e;rfl
 |flt b=>obtain⟨t,e⟩:=(show ∃t,u=R8 b t from r);cases e;rfl
 |ref a=>cases (show u=Lh a from r);rfl
 |ty n=>cases (show u=MP n from r);rfl
section
variable {P:KW} {w:La} {H H':Hp} {h h':L4} {a C dx:Kx} {fs Vv:List (Kw×V)}
theorem r0 (hok:lp P w H h) (e:H a=some (.ins C dx fs)):∃mA,xp h a dx C mA/\(∀f,lc (fs.lookup f) (mA f))/\QE mA (fs.map (·.1))/\fs.length<=1000/\H dx=some (.own a):=by
 obtain⟨d,z,ne,ob,mA,n,r,q⟩:=(show ci P w H h a (.ins C dx fs)from hok a _ e)
 exact⟨mA,⟨ob,n,ne⟩,r,q,z,d⟩
end
structure vG (K:Ku) (C:Kx):Prop where
 pg:MD K C QK=true
 hd:ML K C=true
 po:N9 K C=true
 sa:KY K (.ref C) "__setattr__"=some (some (.builtin "object.__setattr__"))
theorem vG.get {K:Ku} {C:Kx} (c:vG K C) (f:Kw):MD K C f=true:=c.pg
def eC (K:Ku) (C:Kx) (f:Kw):Prop:=KY K (.ref C) f=some none
theorem eC.taker {K:Ku} {C:Kx} {f:Kw} (n:eC K C f):PH K C f=some none:=by
 unfold PH
 rw[show KY K (.ref C) f=some none from n]
 rfl
structure xq (K:Ku) (C:Kx) (m:Kw) (f:Kx):Prop where
 at_:KY K (.ref C) m=some (some (.ref f))
 fn:Of K (.ref f)=true
 kp:Ly K (.ref f)=true
section
variable {X:Cx} {S4:List (Kx×Lk)} {σ:St} {H:Hp} {s:Ky} {a C dx:Kx} {fs:List (Kw×V)} {f:Kw} {v:V} {A:Lg} {E:Kv->Ky->Prop}
theorem xr {b:Bool} {Q:Kv->Ky->Prop} (I:aP X S4 σ H s) (e:H a=some (.ins C dx fs)) (c:vG X.K C) (n:eC X.K C f) (l:fs.lookup f=some v)
  (h:∀u s',aP X S4 σ H s'->bT v u->Q u s'):KP (KS X.prog X.w) A (getAttr (.ref a) f b) Q E s:=by
 obtain⟨mA,O,r,_,_,_⟩:=r0 I.hok e
 obtain⟨u,hu,ru⟩:=lc.some_of (v:=v) (o:=mA f) (by rw[<-l];exact r f)
 exact Dy I.kIn O (c.get f) c.hd n hu (zY ru) (h u _ (I.tok _) ru)
theorem nA {m:Kw} {g:Kx} {pl:N_ Bool} {Q:Kv×List Kv->Ky->Prop} (I:aP X S4 σ H s) (e:H a=some (.ins C dx fs)) (c:vG X.K C) (k:xq X.K C m g) (l:fs.lookup m=none)
  (h:Q (.ref g,[.ref a]) s):KP (KS X.prog X.w) A (Nj (.ref a) m pl) Q E s:=by
 obtain⟨mA,O,r,_,_,_⟩:=r0 I.hok e
 have hn:mA m=none:=lc.none_of (by rw[<-l];exact r m)
 exact Bp I.kIn O (c.get m) k.at_ k.fn hn h
theorem rE {y:V} {u:Kv} {Q:Unit->Ky->Prop} (I:aP X S4 σ H s) (e:H a=some (.ins C dx fs)) (c:vG X.K C) (n:eC X.K C f) (hl:fs.length<1000) (ry:bT y u)
  (h:∀s',aP X S4 σ (b_ H a (.ins C dx (ij f y fs))) s'->Q () s'):KP (KS X.prog X.w) A (setAttr (.ref a) f u) Q E s:=by
 obtain⟨mA,O,r,wi,_,ho⟩:=r0 I.hok e
 have hz:(fs.map (·.1)).length<=sizeLine:=by rw[KA,M3];omega
 refine Dz I.kIn O c.sa c.po n.taker c.hd wi hz λh' O' sb=>h _ ?_
 have hd:∃o,h'.get? dx=some o:=let ⟨o,_,_,e',_⟩:=O'.ns;⟨o,e'⟩
 refine I.write (x:=a) (e:=dx) (by rw[e];exact MF) (.inr ho) (λb q hb z=>(sb.2 b hb).trans z) hd ?_
 refine⟨by rw[az O.ne];exact ho,?_,O.ne,O'.obj,_,O'.ns,λg=> ?_,λg hg=> ?_⟩
 ·have:=qi f y fs;omega
 ·show lc ((ij f y fs).lookup g) (if g=f then some u else mA g)
  rw[de]
  by_cases q:g=f
  ·rw[if_pos q,if_pos q];exact ry
  ·rw[if_neg q,if_neg q];exact r g
 ·by_cases q:g=f
  ·rw[q];exact(pD f y fs).1
  ·refine(pD f y fs).2 g (wi g λz=>hg ?_)
   show (if g=f then some u else mA g)=none
   rw[if_neg q];exact z
theorem aP.made (I:aP X S4 σ H s):aP X S4 σ (b_ (b_ H s.heap.objs.size (.own (s.heap.objs.size+1))) (s.heap.objs.size+1) (.ins C s.heap.objs.size []))
  {s with heap:=(s.heap.push Me).push (Mr C s.heap.objs.size)}:=by
 have e1:(s.heap.push Me).get? s.heap.objs.size=some Me:=Li s.heap rfl
 have e2:((s.heap.push Me).push (Mr C s.heap.objs.size)).get? (s.heap.objs.size+1)=some (Mr C s.heap.objs.size):=by
  have:=Li (s.heap.push Me) (o:=Mr C s.heap.objs.size) rfl
  rwa [Nc]at this
 have e3:(s.heap.push Me).Ns s.heap.objs.size (λ_=>none):=⟨Me,#[],_,e1,rfl,(λe he=>absurd he (by simp)),λ_=>rfl⟩
 have I1:=I.laid (a:=s.heap.objs.size) (o:= .own (s.heap.objs.size+1)) (h':=s.heap.push Me) (t':=s.toks) (λb u q=>KH _ q) (L7 _) ⟨_,e1⟩
 refine I1.laid (a:=s.heap.objs.size+1) (o:= .ins C s.heap.objs.size []) (t':=s.toks) (λb u q=>KH _ q) (P6 (Nc _ _)) ?_
 have ne:s.heap.objs.size≠s.heap.objs.size+1:=Lo (P7 _)
 refine⟨by rw[az ne,aE],Ml _,ne,e2,λ_=>none,(Heap.Ns1.of_empty e3).at λo q=>KH _ q,λ_=>MF,λy hy=>absurd rfl hy⟩
theorem DA {prog:KW} {w:La} {env:Mm} {e:KI} {f:Kw} {pos:Ls} {s:Ky} {Q:Kv->Ky->Prop} (hb:Lz e f env (L5 e env)=L5 e env)
  (h:KP (KS prog w) A (L5 e env) (λo s₁=>KP (KS prog w) A (getAttr o f true) Q E s₁) E s):KP (KS prog w) A (L5 (.Attribute e f pos) env) Q E s:=
 Attribute_any_ h (by rw[arm_eval_Attribute,hb])
end
def Jn (K:Ku) (ta:TE) (f:Kw):TE:=λσ H Q=>ta σ H λx H1=>∃a C dx fs v,x= .ref a/\H1 a=some (.ins C dx fs)/\vG K C/\eC K C f/\fs.lookup f=some v/\Q v H1
def Jo (K:Ku) (ta tv:TE) (f:Kw):TS:=λD σ H=>tv σ H λy H1=>ta σ H1 λx H2=>∃a C dx fs,x= .ref a/\H2 a=some (.ins C dx fs)/\vG K C/\eC K C f/\fs.length<1000/\
 D.nx σ (b_ H2 a (.ins C dx (ij f y fs)))
section
variable {X:Cx} {o e value:KI} {f:Kw} {pos Ss ZC:Ls} {ta tv:TE}
theorem rF (he:PE X e ta) (hb:Lz e f X.env (L5 e X.env)=L5 e X.env):PE X (.Attribute e f pos) (Jn X.K ta f):=by
 intro S4 s σ H Q I h
 refine DA hb (cV (he S4 s σ H _ I h) λu s1 z_=> ?_)
 obtain⟨x,H1,I1,rx,a,C,dx,fs,v,ex,ea,c,n,l,q⟩:=z_
 subst ex
 obtain rfl:u=Lh a:=rx
 exact xr I1 ea c n l λu' s2 I2 ru=>⟨v,H1,I2,ru,q⟩
theorem FO (ha:PE X o ta) (hv:PE X value tv) (hs:LI value (some (.Attribute o f Ss)) pos.line X.env=pure false):PS X (.Assign [.Attribute o f Ss] value pos) (Jo X.K ta tv f):=by
 intro S4 s σ H D I h
 refine Oa (cV (hv S4 s σ H _ I h) λu s1 ⟨y,H1,I1,ry,q⟩=>cV (ha S4 s1 σ H1 _ I1 q) λov s2 z_=> ?_) hs
 obtain⟨x,H2,I2,rx,a,C,dx,fs,ex,ea,c,n,l,q2⟩:=z_
 subst ex
 obtain rfl:ov=Lh a:=rx
 exact rE I2 ea c n l ry λs3 I3=>⟨σ,_,I3,q2⟩
theorem EQ {pl:N_ Bool} {m:Kw} {Sl:Ls} {args:List KI} {S4:List (Kx×Lk)} {s:Ky} {σ:St} {H:Hp} {Q:Kv->Ky->Prop} {te:TE} (he:PE X e te) (I:aP X S4 σ H s)
  (h:te σ H λx H1=>∃a C dx fs g,x= .ref a/\H1 a=some (.ins C dx fs)/\vG X.K C/\xq X.K C m g/\fs.lookup m=none/\
   ∀s1,aP X S4 σ H1 s1->KP (KS X.prog X.w) X.A (O4 pos (.ref g) [.ref a] (Ll pos (KC args X.env)) (Mu pos (M4 [] X.env))) Q X.xe s1)
  (ht:L5 (.Call (.Attribute e m Sl) args [] pos) X.env=(do
   let ov<-L5 e X.env
   M_ Sl.atName
   let (f,first)<-Mx [ov] (Nj ov m pl)
   O4 pos f first (Ll pos (KC args X.env)) (Mu pos (M4 [] X.env)))):
  KP (KS X.prog X.w) X.A (L5 (.Call (.Attribute e m Sl) args [] pos) X.env) Q X.xe s:=by
 refine O8 (pl:=pl) (cV (he S4 s σ H _ I h) λu s1 z_=> ?_) ht
 obtain⟨x,H1,I1,rx,a,C,dx,fs,g,ex,ea,c,k,l,q⟩:=z_
 subst ex
 obtain rfl:u=Lh a:=rx
 exact nA I1 ea c k l (q s1 I1)
end
section
variable {X:Cx} {S4:List (Kx×Lk)} {σ:St} {H:Hp} {s:Ky} {A:Lg} {E:Kv->Ky->Prop} {Q:Kv->Ky->Prop} {c:Kv} {b:Bool}
inductive oh (K:Ku) (H:Hp):V->Kv->Prop where
 |non:oh K H .non (.type "NoneType")
 |bl (x:Bool):oh K H (.bl x) (.type "bool")
 |int (i:Int):oh K H (.int i) (.type "int")
 |str (x:Kw):oh K H (.str x) (.type "str")
 |flt (x:UInt64):oh K H (.flt x) (.type "float")
 |lst {a:Kx} {xs:List V} (e:H a=some (.lst xs)):oh K H (.ref a) (.type "list")
 |frz {a:Kx} {o:Lk} {xs:List V} (e:H a=some (.frz o (.lst xs))):oh K H (.ref a) (.type "list")
 |tup {a:Kx} {xs:List V} (e:H a=some (.tup xs)):oh K H (.ref a) (.type "tuple")
 |dK {a:Kx} {kvs:List (cH×V)} (e:H a=some (.dK kvs)):oh K H (.ref a) (.type "dict")
 |dT {a:Kx} {kvs:List (List cH×V)} (e:H a=some (.dT kvs)):oh K H (.ref a) (.type "dict")
 |ins {a C dx:Kx} {fs:List (Kw×V)} (e:H a=some (.ins C dx fs)) (cl:vG K C) (ha:KY K (.ref C) "__class__"=some (some (.builtin "object.__class__")))
   (hn:Na K (.builtin "object.__class__") "__get__"=some (some (.builtin "getset_descriptor.__get__"))) (a0P:NA K (.builtin "object.__class__")=some true)
   (hm:Lr K C (.type "object")=some true):oh K H (.ref a) (.ref C)
theorem zZ {x:V} {u t:Kv} (I:aP X S4 σ H s) (rx:bT x u) (ty:oh X.K H x t) (e:LQ X.K t c=some b) (h:∀tk,Q (.bool b) {s with toks:=tk}):
  KP (KS X.prog X.w) A (call (.builtin "isinstance") [u,c]) Q E s:=by
 cases ty with
 |non=>cases (show u=LK from rx);exact LV PySem.W.kitx_none I.kIn MF e (λz=>nomatch z) h
 |bl y=>cases (show u=Qh y from rx);exact LV PySem.W.kitx_bool I.kIn MF e (λz=>nomatch z) h
 |int i=>obtain⟨t,q⟩:=(show ∃t,u=N0 i t from rx);cases q;exact LV PySem.W.kitx_int I.kIn MF e (λz=>nomatch z) h
 |str y=>obtain⟨t,q⟩:=(show ∃t,u=O7 y t from rx);cases q;exact LV PySem.W.kitx_str I.kIn MF e (λz=>nomatch z) h
 |flt y=>obtain⟨t,q⟩:=(show ∃t,u=R8 y t from rx);cases q;exact LV PySem.W.kitx_float I.kIn MF e (λz=>nomatch z) h
 | @lst a xs ea=>
  cases (show u=Lh a from rx)
  obtain⟨_,_,n,_,h1⟩:=(show ci X.prog X.w H s.heap a (.lst xs)from I.hok a _ ea)
  exact LV R1 I.kIn ⟨_,h1,rfl⟩ e (λz=>nomatch z) h
 | @frz a ob xs ea=>
  cases (show u=Lh a from rx)
  obtain⟨_,_,_,n,_,h1⟩:=(show ci X.prog X.w H s.heap a (.frz ob (.lst xs))from I.hok a _ ea)
  exact LV R1 I.kIn ⟨_,h1,rfl⟩ e (λz=>nomatch z) h
 | @tup a xs ea=>
  cases (show u=Lh a from rx)
  obtain⟨_,_,_,p⟩:=(show ci X.prog X.w H s.heap a (.tup xs)from I.hok a _ ea)
  obtain⟨o,h1,h2,_⟩:=p
  exact LV PySem.W.kitx_tuple I.kIn ⟨o,h1,h2⟩ e (λz=>nomatch z) h
 | @dK a kvs ea=>
  cases (show u=Lh a from rx)
  obtain⟨_,_,vs,_,p⟩:=(show ci X.prog X.w H s.heap a (.dK kvs)from I.hok a _ ea)
  obtain⟨o,es,ep,h1,h2,_⟩:=p
  exact LV R3 I.kIn ⟨o,h1,h2.1⟩ e (λz=>nomatch z) h
 | @dT a kvs ea=>
  cases (show u=Lh a from rx)
  obtain⟨_,_,xs,_,o,es,ep,h1,h2,_⟩:=(show ci X.prog X.w H s.heap a (.dT kvs)from I.hok a _ ea)
  exact LV R3 I.kIn ⟨o,h1,h2.1⟩ e (λz=>nomatch z) h
 | @ins a C dx fs ea cl ha hn a0P hm=>
  cases (show u=Lh a from rx)
  obtain⟨mA,O,_⟩:=r0 I.hok ea
  obtain⟨od,J,_⟩:=O.look
  exact LV (PySem.W.kitx_own (cl.get _) cl.hd ha hn a0P hm) I.kIn J e (λz=>nomatch z) h
end
end L2
namespace L2
open PySem PySem.Spec PyProof.Rows
structure cW (k:Nat) (A:Lg):Prop where
 hd:A.handled=none
 dp:A.depth+3*k+5<recursionLimit
 un:A.units+16*k+200<MQ
theorem cW.mono {j k:Nat} {A:Lg} (r:cW k A) (h:j<=k):cW j A:=⟨r.hd,by have:=r.dp;omega,by have:=r.un;omega⟩
theorem cW.deeper {k:Nat} {A:Lg} (r:cW (k+1) A) (env:Mm):cW k (A.deeper env):=
 ⟨r.hd,by have:=r.dp;show A.depth+1+3*k+5<_;omega,by have:=r.un;show A.units+3+16*k+200<_;omega⟩
theorem xt {A:Lg} {C:Kx} {us:List Kv} {kw:List (Kw×Kv)}:(A.under (.builtin "type.__call__" ⟨.ref C::us,kw⟩)).depth=A.depth+1:=by
 first|rfl|simp[QL,Code.weight,Code.isCreation,Code.isGuard,Code.isCaller,Code.frames,QM,guardIds]
theorem xu {A:Lg} {C:Kx} {us:List Kv} {kw:List (Kw×Kv)}:(A.under (.builtin "type.__call__" ⟨.ref C::us,kw⟩)).units=A.units+1:=by
 first|rfl|simp[QL,Code.cUnits,Code.frames,QM]
theorem cW.make {k:Nat} {A:Lg} (r:cW (k+1) A) (C:Kx) (us:List Kv) (kw:List (Kw×Kv)):cW k (A.under (.builtin "type.__call__" ⟨.ref C::us,kw⟩)):=
 ⟨r.hd,by have:=r.dp;rw[xt];omega,by have:=r.un;rw[xu];omega⟩
theorem cW.depth {k:Nat} {A:Lg} (r:cW k A):A.depth<recursionLimit:=by have:=r.dp;omega
theorem cW.units {k:Nat} {A:Lg} (r:cW k A):A.units+64<MQ:=by have:=r.un;omega
def HG:TA:=λ_ H Q=>Q [] H
def ER (ta:TE) (tr:TA):TA:=λσ H Q=>ta σ H λx H1=>tr σ H1 λxs H2=>Q (x::xs) H2
section
variable {X:Cx} {e:KI} {es:List KI} {te:TE} {t:TA} {pos:Ls}
theorem gP:PA X [] HG:=λ_ _ _ _ H Q I h=>R4 ⟨[],H,I, .nil,h⟩
theorem df (ha:PE X e te) (hr:PA X es t) (hs:KC (e::es) X.env=(false,L5 e X.env)::KC es X.env:=by rfl):PA X (e::es) (ER te t):=by
 intro pos S4 s σ H Q I h
 rw[hs]
 show KP _ _ (RF ((false,L5 e X.env)::Ll pos (KC es X.env))) _ _ s
 refine QN (cV (ha S4 s σ H _ I h) λu s1 z_=> ?_)
 obtain⟨x,H1,I1,r1,q1⟩:=z_
 exact cV (hr pos S4 s1 σ H1 _ I1 q1) λus s2 ⟨xs,H2,I2,r2,q2⟩=>⟨x::xs,H2,I2, .cons r1 r2,q2⟩
def Jp (t:TA):TE:=λσ H Q=>t σ H λxs H1=>xs.length<=sizeLine/\∀p,H1 p=none->Q (.ref p) (b_ H1 p (.tup xs))
def Jq (t:TA):TE:=λσ H Q=>t σ H λxs H1=>xs.length<=sizeLine/\∀p,H1 p=none->Q (.ref p) (b_ H1 p (.lst xs))
theorem FP {x1} (h:PA X es t):PE X (.Tuple es x1 pos) (Jp t):=by
 intro S4 s σ H Q I hq
 refine wpAny_Tuple_spliced (cV (h pos S4 s σ H _ I hq) λus s1 ⟨xs,H1,I1,r,z,q⟩=>⟨by rw[<-r.length];exact z,?_⟩)
 have hf:H1 s1.heap.objs.size=none:=I1.hok.fresh (L7 _)
 refine⟨.ref s1.heap.objs.size,b_ H1 s1.heap.objs.size (.tup xs),I1.laid (t':=s1.toks) (λb u e=>KH _ e) (L7 _) ?_,rfl,q _ hf⟩
 exact⟨z,us,r,⟨_,Li _ rfl,rfl,_,rfl,rfl⟩⟩
theorem rG (h:PA X es t):PE X (.List es pos) (Jq t):=by
 intro S4 s σ H Q I hq
 refine wpAny_List_spliced (cV (h pos S4 s σ H _ I hq) λus s1 ⟨xs,H1,I1,r,z,q⟩=>⟨by rw[<-r.length];exact z,?_⟩)
 have hf:H1 s1.heap.objs.size=none:=I1.hok.fresh (L7 _)
 refine⟨.ref s1.heap.objs.size,b_ H1 s1.heap.objs.size (.lst xs),I1.laid (t':=s1.toks) (λb u e=>KH _ e) (L7 _) ?_,rfl,q _ hf⟩
 exact⟨z,us,0,r,Li _ rfl⟩
end
abbrev Sp:=List V->Hp->VK->XK->Prop
abbrev xv:=List Mm->Hp->Ky->XK->Kv->Ky->Prop
structure xw (P:KW) (w:La) (K:Ku) (mg:Kw->Option Kv) (base:L4) (A:Lg) (outer:List Mm) (s:Ky) (H:Hp):Prop where
 frames:A.frames=some outer
 mod:Mod K mg base
 bs:∀b o,base.get? b=some o->s.heap.get? b=some o/\H b=none
 bsz:base.objs.size<=s.heap.objs.size
 funs:s.heap.FunFrames base outer
 frf:∀b∈q_ outer,H b=none
 hok:lp P w H s.heap
 bare:NO s.gens
def CE (outer:List Mm) (P:KW) (w:La) (H:Hp) (s:Ky) (Q:VK) (u:Kv) (s':Ky):Prop:=
 ∃v H',s'.os=s.os/\NO s'.gens/\Un (q_ outer) [] H H' s.heap s'.heap/\lp P w H' s'.heap/\bT v u/\Q v H'
def CR (CX:xv) (outer:List Mm) (P:KW) (w:La) (H:Hp) (s:Ky) (Q:VK) (E:XK) (r:QJ) (s':Ky):Prop:=
 match r with
 | .ok (.ret u)=>CE outer P w H s Q u s'
 | .ok _=>False
 | .error e=>CX outer H s E e s'
structure fJ (P:KW) (w:La) (K:Ku) (mg:Kw->Option Kv) (base:L4) (CX:xv) (k:Nat) (f:Kx) (fd:M0) (ps:List Kw) (sp:Sp):Prop where
 len:∀vs H Q E,sp vs H Q E->vs.length=ps.length
 run:∀(A:Lg) (outer:List Mm) (s:Ky) (H:Hp) (args:Args) (us:List Kv) (vs:List V) (Q:VK) (E:XK),cW k A->xw P w K mg base A outer s H->Q8 s fd args (ps.zip us)->bp vs us->sp vs H Q E->
  NP (KS P w) A (.call (.ref f) args) (CR CX outer P w H s Q E) s
theorem fJ.mono {P:KW} {w:La} {K:Ku} {mg:Kw->Option Kv} {base:L4} {CX:xv} {j k:Nat} {f:Kx} {fd:M0} {ps:List Kw} {sp:Sp} (F:fJ P w K mg base CX j f fd ps sp) (h:j<=k):
  fJ P w K mg base CX k f fd ps sp:=⟨F.len,λA outer s H args us vs Q E hr=>F.run A outer s H args us vs Q E (hr.mono h)⟩
theorem fJ.imp {P:KW} {w:La} {K:Ku} {mg:Kw->Option Kv} {base:L4} {CX:xv} {k:Nat} {f:Kx} {fd:M0} {ps:List Kw} {sp a0Q:Sp} (F:fJ P w K mg base CX k f fd ps sp)
  (h:∀vs H Q E,a0Q vs H Q E->sp vs H Q E):fJ P w K mg base CX k f fd ps a0Q:=
 ⟨λvs H Q E q=>F.len vs H Q E (h _ _ _ _ q),λA outer s H args us vs Q E hr he hb hv hs=>F.run A outer s H args us vs Q E hr he hb hv (h _ _ _ _ hs)⟩
theorem xw.make {P:KW} {w:La} {K:Ku} {mg:Kw->Option Kv} {base:L4} {A:Lg} {outer:List Mm} {s:Ky} {H:Hp} (e:xw P w K mg base A outer s H) (C:Kx) (us:List Kv) (kw:List (Kw×Kv)):
  xw P w K mg base (A.under (.builtin "type.__call__" ⟨.ref C::us,kw⟩)) outer s H:=⟨by first|exact e.frames|(simpa[QL,Code.envs,QM,pushEnvs]using e.frames),e.mod,e.bs,e.bsz,e.funs,e.frf,e.hok,e.bare⟩
section
variable {X:Cx} {S4:List (Kx×Lk)} {σ:St} {H:Hp} {s s':Ky}
theorem aP.env0 (I:aP X S4 σ H s):xw X.prog X.w X.K X.mg X.base X.A X.stack s H:=
 ⟨I.ok.frames,I.ok.mod,I.bs,Lq I.ok.bsz I.sz,I.stack,I.stkFree,I.hok,I.bare⟩
theorem aP.after {Q:VK} {u:Kv} (I:aP X S4 σ H s) (h:CE X.stack X.prog X.w H s Q u s'):EP X S4 σ Q u s':=by
 obtain⟨v,H',os,bare,un,hok,r,q⟩:=h
 obtain⟨hh,g,d,t,ZD⟩:=s'
 obtain rfl:ZD=s.os:=os
 exact⟨v,H',I.call (h':=hh) (g':=g) (d':=d) (t':=t) (ch:=[]) un hok bare (λb z=>absurd z (by simp)),r,q⟩
end
def ES (sp:Sp) (Vl:List V) (E:St->XK) (t:TA):TE:=λσ H Q=>t σ H λvs H1=>sp (vs++Vl) H1 Q (E σ)
def Br (C:Kx) (m:Kw) (sp:Sp) (Vl:List V) (E:St->XK) (ta:TE) (t:TA):TE:=λσ H Q=>ta σ H λx H1=>∃a dx fs,x= .ref a/\H1 a=some (.ins C dx fs)/\fs.lookup m=none/\
 t σ H1 λvs H2=>sp (x::(vs++Vl)) H2 Q (E σ)
def HH (C:Kx) (sp:Sp) (Vl:List V) (E:St->XK) (t:TA):TE:=λσ H Q=>t σ H λvs H1=>∀x dx,H1 x=none->H1 dx=none->dx≠x->
 sp (.ref x::(vs++Vl)) (b_ (b_ H1 dx (.own x)) x (.ins C dx [])) (λv H2=>v= .non/\Q (.ref x) H2) (E σ)
def gf (K:Ku) (fd:M0) (ps:List Kw) (ds:List Kv):Prop:=
 ∀(s:Ky) (us:List Kv),K.In s.heap->(us++ds).length=ps.length->Q8 s fd ⟨us,[]⟩ (ps.zip (us++ds))
theorem gf.all {K:Ku} {fd:M0} {ps:List Kw} (h:∀us:List Kv,us.length=ps.length->ME fd ⟨us,[]⟩=pure (ps.zip us)):gf K fd ps []:=λs us _ hl=>by
 rw[M5]at hl ⊢
 exact .of_eq (h us hl)
def lw (CX:xv) (X:Cx) (E:St->XK):Prop:=∀(S4:List (Kx×Lk)) (σ:St) (H:Hp) (s:Ky) (e:Kv) (s':Ky),aP X S4 σ H s->CX X.stack H s (E σ) e s'->X.xe e s'
section
variable {X:Cx} {CX:xv} {k:Nat} {f C:Kx} {fd:M0} {ps:List Kw} {sp:Sp} {Vl:List V} {ds:List Kv} {E:St->XK} {x m:Kw} {p pos Sl:Ls} {e o:KI} {es:List KI} {ta:TE} {t:TA}
theorem xx {S4:List (Kx×Lk)} {σ:St} {H:Hp} {s:Ky} {Q:VK} {us:List Kv} {vs:List V} (F:fJ X.prog X.w X.K X.mg X.base CX k f fd ps sp) (hr:cW k X.A) (hb:gf X.K fd ps ds) (hd:bp Vl ds) (hx:lw CX X E)
  (I:aP X S4 σ H s) (r:bp vs us) (h:sp (vs++Vl) H Q (E σ)):KP (KS X.prog X.w) X.A (call (.ref f) us) (EP X S4 σ Q) X.xe s:=by
 have r2:bp (vs++Vl) (us++ds):=r.append hd
 have hl:(us++ds).length=ps.length:=by rw[<-r2.length];exact F.len _ _ _ _ h
 refine OX (NJ (F.run X.A X.stack s H ⟨us,[]⟩ (us++ds) (vs++Vl) Q (E σ) hr I.env0 (hb s us I.kIn hl) r2 h) λr s' hq=> ?_)
 cases r with
 |error e=>exact hx S4 σ H s e s' I hq
 |ok fl=>
  cases fl with
  |ret u=>exact I.after hq
  |next=>exact Mf hq
  |brk=>exact Mf hq
  |cont=>exact Mf hq
theorem ux (F:fJ X.prog X.w X.K X.mg X.base CX k f fd ps sp) (hr:cW k X.A) (hg:Gl X x) (hm:X.mg x=some (.ref f)) (hk:Ly X.K (.ref f)=true) (hb:gf X.K fd ps ds) (hd:bp Vl ds) (hx:lw CX X E)
  (ha:PA X (e::es) t) (TX:(x==("__debug__":Kw))=false:=by decide) (he:KC (e::es) X.env=(false,L5 e X.env)::KC es X.env:=by rfl) (Tq:(Ll pos (KC es X.env)).any (·.1)=false:=by rfl):
  PE X (.Call (.Name x p) (e::es) [] pos) (ES sp Vl E t):=by
 intro S4 s σ H Q I h
 refine MH (o8 I hg hm ?_ TX)
 refine Oz (h₀:=X.base) I.ok.mod.kin hk (cV (ha pos S4 s σ H _ I h) λus s1 ⟨vs,H1,I1,r,q⟩=>⟨I1.kIn,?_⟩) he Tq
 exact xx F hr hb hd hx I1 r q
theorem yC {pl:N_ Bool} (he:PE X o ta) (c:vG X.K C) (hm:xq X.K C m f) (F:fJ X.prog X.w X.K X.mg X.base CX k f fd ps sp) (hr:cW k X.A) (hb:gf X.K fd ps ds) (hd:bp Vl ds) (hx:lw CX X E) (ha:PA X (e::es) t)
  (V2:KC (e::es) X.env=(false,L5 e X.env)::KC es X.env:=by rfl) (Tq:(Ll pos (KC es X.env)).any (·.1)=false:=by rfl)
  (ht:L5 (.Call (.Attribute o m Sl) (e::es) [] pos) X.env=(do
   let ov<-L5 o X.env
   M_ Sl.atName
   let (f,first)<-Mx [ov] (Nj ov m pl)
   O4 pos f first (Ll pos (KC (e::es) X.env)) (Mu pos (M4 [] X.env))):=by rfl):
  PE X (.Call (.Attribute o m Sl) (e::es) [] pos) (Br C m sp Vl E ta t):=by
 intro S4 s σ H Q I h
 refine O8 (pl:=pl) (cV (he S4 s σ H _ I h) λu s1 z_=> ?_) ht
 obtain⟨x,H1,I1,rx,a,dx,fs,ex,ea,l,q⟩:=z_
 subst ex
 obtain rfl:u=Lh a:=rx
 refine nA I1 ea c hm l ?_
 refine Oz (first:=[.ref a]) (h₀:=X.base) I.ok.mod.kin hm.kp (cV (ha pos S4 s1 σ H1 _ I1 q) λus s2 ⟨vs,H2,I2,r,q2⟩=>⟨I2.kIn,?_⟩) V2 Tq
 exact xx (us:= .ref a::us) (vs:= .ref a::vs) F hr hb hd hx I2 (.cons rfl r) q2
theorem vH {pl:N_ Bool} (he:PE X o ta) (c:vG X.K C) (hm:xq X.K C m f) (F:fJ X.prog X.w X.K X.mg X.base CX k f fd ps sp) (hr:cW k X.A) (hb:gf X.K fd ps ds) (hd:bp Vl ds) (hx:lw CX X E)
  (ht:L5 (.Call (.Attribute o m Sl) [] [] pos) X.env=(do
   let ov<-L5 o X.env
   M_ Sl.atName
   let (f,first)<-Mx [ov] (Nj ov m pl)
   O4 pos f first (Ll pos (KC [] X.env)) (Mu pos (M4 [] X.env))):=by rfl):
  PE X (.Call (.Attribute o m Sl) [] [] pos) (Br C m sp Vl E ta HG):=by
 intro S4 s σ H Q I h
 refine O8 (pl:=pl) (cV (he S4 s σ H _ I h) λu s1 z_=> ?_) ht
 obtain⟨x,H1,I1,rx,a,dx,fs,ex,ea,l,q⟩:=z_
 subst ex
 obtain rfl:u=Lh a:=rx
 refine nA I1 ea c hm l ?_
 exact PySem.W.callWith_K0 (first:=[.ref a]) I1.kIn hm.kp (xx (us:=[.ref a]) (vs:=[.ref a]) F hr hb hd hx I1 (.cons rfl .nil) q)
structure Mk (K:Ku) (C f:Kx):Prop where
 makes:N1 K C=true
 init:KY K (.ref C) "__init__"=some (some (.ref f))
 fn:Of K (.ref f)=true
 kp:Ly K (.ref C)=true
theorem Bs {S4:List (Kx×Lk)} {σ:St} {H:Hp} {s:Ky} {Q:VK} {us:List Kv} {vs:List V} (M:Mk X.K C f) (F:fJ X.prog X.w X.K X.mg X.base CX k f fd ps sp) (hr:cW (k+1) X.A) (hb:gf X.K fd ps ds) (hd:bp Vl ds)
  (hx:lw CX X E) (I:aP X S4 σ H s) (r:bp vs us)
  (h:∀x dx,H x=none->H dx=none->dx≠x->sp (.ref x::(vs++Vl)) (b_ (b_ H dx (.own x)) x (.ins C dx [])) (λv H2=>v= .non/\Q (.ref x) H2) (E σ)):
  KP (KS X.prog X.w) X.A (call (.ref C) us) (EP X S4 σ Q) X.xe s:=by
 have hq:=h (s.heap.objs.size+1) s.heap.objs.size (I.hok.fresh (R9 _)) (I.hok.fresh (L7 _)) (Lo (P7 _))
 have I2:=aP.made (C:=C) I
 have r2:bp (V.ref (s.heap.objs.size+1)::(vs++Vl)) (Lh (s.heap.objs.size+1)::(us++ds)):= .cons rfl (r.append hd)
 have hl:(Lh (s.heap.objs.size+1)::us++ds).length=ps.length:=by
  have e:=r2.length
  rw[F.len _ _ _ _ hq]at e
  exact e.symm
 refine OX (Bq (f:=f) I.kIn M.makes M.init (beq_iff_eq.mp M.fn) (NJ (F.run _ X.stack _ _ ⟨Lh (s.heap.objs.size+1)::us,[]⟩ (Lh (s.heap.objs.size+1)::(us++ds)) _ _ (E σ) (hr.make C us [])
  (I2.env0.make C us []) (hb _ (Lh (s.heap.objs.size+1)::us) I2.kIn hl) r2 hq) λr s' Yu=> ?_))
 cases r with
 |error e=>exact hx S4 σ _ _ e s' I2 Yu
 |ok fl=>
  cases fl with
  |ret u=>
   obtain⟨v,H',I3,rv,ev,q3⟩:=I2.after Yu
   subst ev
   exact⟨rv,⟨V.ref (s.heap.objs.size+1),H',I3,rfl,q3⟩⟩
  |next=>exact Mf Yu
  |brk=>exact Mf Yu
  |cont=>exact Mf Yu
theorem yD (M:Mk X.K C f) (F:fJ X.prog X.w X.K X.mg X.base CX k f fd ps sp) (hr:cW (k+1) X.A) (hg:Gl X x) (hm:X.mg x=some (.ref C)) (hb:gf X.K fd ps ds) (hd:bp Vl ds) (hx:lw CX X E)
  (ha:PA X (e::es) t) (TX:(x==("__debug__":Kw))=false:=by decide) (he:KC (e::es) X.env=(false,L5 e X.env)::KC es X.env:=by rfl) (Tq:(Ll pos (KC es X.env)).any (·.1)=false:=by rfl):
  PE X (.Call (.Name x p) (e::es) [] pos) (HH C sp Vl E t):=by
 intro S4 s σ H Q I h
 refine MH (o8 I hg hm ?_ TX)
 refine Oz (h₀:=X.base) I.ok.mod.kin M.kp (cV (ha pos S4 s σ H _ I h) λus s1 ⟨vs,H1,I1,r,q⟩=>⟨I1.kIn,?_⟩) he Tq
 exact Bs M F hr hb hd hx I1 r q
end
section
variable {X:Cx} {CX:xv} {k:Nat} {f C:Kx} {fd:M0} {ps ks:List Kw} {sp:Sp} {E:St->XK} {x m:Kw} {p pos Sl a1o:Ls} {e o:KI} {es:List KI} {a3p:List MJ} {te ta:TE} {t tk:TA} {nm:Option Kw}
variable {g:List Kv->List Kv->List Kv} {gV:List V->List V->List V}
end
structure aB (N P:List Kw) (sc:MB):Prop where
 kind:sc.kind= .function
 co:sc.isCoroutine=false
 gen:sc.isGenerator=false
 nd:N.Nodup
 pre:N.take P.length=P
 par:∀x∈P,sc.names.lookup x=some .local\/sc.names.lookup x=some .cell
 nofree:∀y∈sc.names,y.2≠ .free
theorem tw {kindOf:Kw->Option LC} {x:Kw}:∀{binds:List (Kw×Kv)} {m:Kw->Option Kv},(∀v,(x,v)∉binds)->Qk kindOf binds m x=m x
 |[],_,_=>rfl
 |(n,v)::r,m,h=>by
  unfold Qk
  rw[tw λw hw=>h w (L0 _ hw)]
  split
  ·have:x≠n:=by rintro rfl;exact h v K_
   simp[this]
  ·rfl
theorem tz {kindOf:Kw->Option LC} {x:Kw}:∀{binds:List (Kw×Kv)} {m:Kw->Option Kv},(∀v,(x,v)∉binds)->Ql kindOf binds m x=m x
 |[],_,_=>rfl
 |(n,v)::r,m,h=>by
  unfold Ql
  rw[tz λw hw=>h w (L0 _ hw)]
  split
  ·rfl
  ·have:x≠n:=by rintro rfl;exact h v K_
   simp[this]
theorem tD {kindOf:Kw->Option LC} {x:Kw} {v:Kv}:∀{P:List Kw} {vs:List Kv} {i:Nat} {m:Kw->Option Kv},P.Nodup->P[i]? =some x->vs[i]? =some v->kindOf x=some .local->
  Qk kindOf (P.zip vs) m x=some v
 |[],_,_,_,_,h,_,_=>by simp at h
 |_::_,[],_,_,_,_,h,_=>by simp at h
 |p::P,w::vs,0,m,nd,h1,h2,hk=>by
  simp at h1 h2;subst h1;subst h2
  show Qk kindOf ((p,w)::P.zip vs) m p=_
  unfold Qk
  rw[tw λv hv=>(N2.mp nd).1 (PJ hv).1,if_pos hk]
  simp
 |p::P,w::vs,i+1,m,nd,h1,h2,hk=>by
  show Qk kindOf ((p,w)::P.zip vs) m x=_
  unfold Qk
  exact tD (i:=i) (N2.mp nd).2 (by simpa using h1) (by simpa using h2) hk
theorem tE {kindOf:Kw->Option LC} {x:Kw} {v:Kv}:∀{P:List Kw} {vs:List Kv} {i:Nat} {m:Kw->Option Kv},P.Nodup->P[i]? =some x->vs[i]? =some v->kindOf x≠some .local->
  Ql kindOf (P.zip vs) m x=some v
 |[],_,_,_,_,h,_,_=>by simp at h
 |_::_,[],_,_,_,_,h,_=>by simp at h
 |p::P,w::vs,0,m,nd,h1,h2,hk=>by
  simp at h1 h2;subst h1;subst h2
  show Ql kindOf ((p,w)::P.zip vs) m p=_
  unfold Ql
  rw[tz λv hv=>(N2.mp nd).1 (PJ hv).1,if_neg hk]
  simp
 |p::P,w::vs,i+1,m,nd,h1,h2,hk=>by
  show Ql kindOf ((p,w)::P.zip vs) m x=_
  unfold Ql
  exact tE (i:=i) (N2.mp nd).2 (by simpa using h1) (by simpa using h2) hk
def dC (N:List Kw) (vs:List V):St:=vs.map some++Lf (N.length - vs.length) none
def iU (CX:xv) (P:KW) (w:La) (K:Ku) (mg:Kw->Option Kv) (base:L4) (N:List Kw) (qual:Kw) (scope:MB) (f:Kx) (cd:Kv) (A:Lg) (outer:List Mm) (s:Ky) (H:Hp) (E:XK):Cx where
 prog:=P
 w:=w
 K:=K
 mg:=mg
 base:=base
 A:=A.deeper (Mp qual scope s.heap.objs.size f cd)
 N:=N
 s₀:=s
 H₀:=H
 env:=Mp qual scope s.heap.objs.size f cd
 outer:=outer
 stack:=Mp qual scope s.heap.objs.size f cd::outer
 ex:=[]
 calm:=true
 fn:=λ_=>true
 pn:=[]
 xe:=λe s'=>KP (KS P w) (A.deeper (Mp qual scope s.heap.objs.size f cd)) (leaving (Mp qual scope s.heap.objs.size f cd) e) (λ_ Yv=>CX outer H s E e Yv) (λe' Yv=>CX outer H s E e' Yv) s'
theorem vI {sc:MB} {n:Nat} {x:Kw} (h:sc.names.lookup x=some .cell):∃c,(cellsFrom n sc.names []).lookup x=some c:=by
 have q:=PY sc.names n [] (.inl h)
 exact Option.isSome_iff_exists.mp q
theorem A1 {CX:xv} {P:KW} {w:La} {K:Ku} {mg:Kw->Option Kv} {base:L4} {N ps:List Kw} {qual:Kw} {scope:MB} {f:Kx} {cd:Kv} {A:Lg} {outer:List Mm} {s s1:Ky} {H:Hp} {E:XK} {us:List Kv} {vs:List V}
  (S:aB N ps scope) (hd:A.handled=none) (e0:xw P w K mg base A outer s H) (hl:vs.length=ps.length) (r:bp vs us)
  (x:InCallC s s.heap.objs.size (Qk (Mp qual scope s.heap.objs.size f cd).kindOf (ps.zip us) λ_=>none) (cellsFrom (s.heap.objs.size+1) scope.names []) (Ql (Mp qual scope s.heap.objs.size f cd).kindOf (ps.zip us) λ_=>none) s1):
  aP (iU CX P w K mg base N qual scope f cd A outer s H E) [] (dC N vs) H s1:=by
 have Tq:ps.length<=N.length:=by have:=congrArg Ox S.pre;rw[Nl]at this;omega
 obtain⟨h1,tk,rfl,hk⟩:=x.done
 have Yw:∀b:Kx,b∉(iU CX P w K mg base N qual scope f cd A outer s H E).ex:=λb z=>absurd (show b∈([]:List Kx)from z) (by simp)
 refine⟨⟨e0.mod,S.kind,rfl,rfl,L7 _,λy z c h1 h2=> ?_,λy hy=> ?_,λy c _ h=> ?_,λ_=>hd,Around.frames_deeper e0.frames, .inr ⟨rfl,rfl⟩,λb z=>absurd z (Yw b),e0.bs,e0.bsz,λb _ _=>Yw b,λb z=>absurd z (Yw b),e0.funs,e0.frf⟩,
  rfl,e0.bare,Un.kept hk,⟨_,x.toInCall.ns,λi y v h1 h2 h3=> ?_⟩,λy c h=>⟨_,x.cell y c h⟩,e0.hok.fresh (L7 _),λy c h=> ?_,λp hp=>absurd (show p∈([]:List (Kx×Lk))from hp) (by simp),e0.hok.kept hk,?_⟩
 ·exact name_of_addr x.apart (MX h1) (MX h2)
 ·have hy:scope.names.lookup y=some .cell\/scope.names.lookup y=some .free:=hy
  rcases hy with hy|hy
  ·exact vI hy
  ·exact absurd rfl (S.nofree _ (MX hy))
 ·exact QH (x.above y c (MX h))
 ·have hi:i<vs.length:=by
   unfold dC at h2
   by_cases hi:i<vs.length
   ·exact hi
   ·rw[Nr (by simpa using hi)]at h2
    rw[Mh]at h2
    split at h2<;>cases h2
  have ha:vs[i]? =some v:=by
   unfold dC at h2
   rw[Mq (by simpa using hi),L8]at h2
   cases e:vs[i]? with
   |none=>rw[e]at h2;cases h2
   |some a=>rw[e]at h2;cases h2;rfl
  obtain⟨u,hu,rv⟩:=r.get ha
  have hp:ps[i]? =some y:=by
   rw[<-S.pre,List.getElem?_take_of_lt (by omega)];exact h1
  have a0R:ps.Nodup:=by rw[<-S.pre];exact S.nd.sublist (List.take_sublist _ _)
  refine⟨u,rv,?_⟩
  rcases S.par y (M8 hp)with k|k
  ·exact .inl ⟨k,tD a0R hp hu k⟩
  ·obtain⟨c,e⟩:=vI (n:=s.heap.objs.size+1) k
   refine .inr ⟨.inl k,c,e,?_⟩
   have q:=x.cell y c e
   rw[tE a0R hp hu (by show scope.names.lookup y≠_;rw[k];decide)]at q
   exact q
 ·exact e0.hok.fresh (QH (x.above y c (MX h)))
 ·unfold dC
  show _=N.length
  rw[Lp,KA,O9]
  omega
theorem ET {CX:xv} {P:KW} {w:La} {K:Ku} {mg:Kw->Option Kv} {base:L4} {k:Nat} {f:Kx} {name qual:Kw} {params:Arguments} {body:List L9} {scope:MB} {dV kV Ts pm Sb ct oc:Kv} {an od:Option Kx}
  {Vm:Array (Option Kv)} {N ps:List Kw} {sp:Sp} (lk:K.lookup f=some ⟨oc,od, .func (LF name qual params body scope dV kV Ts pm an Sb ct),Vm⟩) (Tu:MS K Sb qual=true) (S:aB N ps scope)
  (len:∀vs H Q E,sp vs H Q E->vs.length=ps.length)
  (Sw:∀(A:Lg) (outer:List Mm) (s:Ky) (H:Hp) (vs:List V) (Q:VK) (E:XK),cW k (A.deeper (Mp qual scope s.heap.objs.size f Sb))->sp vs H Q E->
   ∃t,rA (iU CX P w K mg base N qual scope f Sb A outer s H E) body t/\t {nx:=λ_ H'=>Q .non H',rt:=Q} (dC N vs) H):
  fJ P w K mg base CX (k+1) f (LF name qual params body scope dV kV Ts pm an Sb ct) ps sp:=by
 refine⟨len,λA outer s H args us vs Q E hr e0 hb r Xi=> ?_⟩
 have hl:=len _ _ _ _ Xi
 have KX:K.In s.heap:=e0.mod.kin.keeps λb o e=>(e0.bs b o e).1
 have lim:s.heap.NoLimit:=e0.mod.nolimit.keeps λb o e=>(e0.bs b o e).1
 have Yx:∀y∈ps.zip us,scope.names.lookup y.1=some .local\/(scope.names.lookup y.1=some .cell/\((cellsFrom (s.heap.objs.size+1) scope.names []).lookup y.1).isSome=true):=λ⟨n,v⟩ hy=>by
  rcases S.par n (PJ hy).1 with q|q
  ·exact .inl q
  ·exact .inr ⟨q,PY _ _ _ (.inl q)⟩
 refine codeAny_call_function hr.depth (KX _ _ lk) rfl S.co S.gen rfl (PySem.W.codeRec_of KX Tu) (hb _ _ _ _ ?_)
 refine wpAny_newFunctionEnv_cells S.kind Yx λenv he s1 x=> ?_
 subst he
 refine⟨lim.keeps x.toInCall.keep,codeAny_func ?_⟩
 obtain⟨t,ht,hq⟩:=Sw A outer s H vs Q E (hr.deeper _) Xi
 have I:aP (iU CX P w K mg base N qual scope f Sb A outer s H E) [] (dC N vs) H s1:=A1 S hr.hd e0 hl r x
 refine Ms (ht [] s1 (dC N vs) H _ I hq) (λfl s' hs=> ?_) λe s' hs=>hs
 have TU:∀{σ':St} {H':Hp} {v:V} {u:Kv},aP (iU CX P w K mg base N qual scope f Sb A outer s H E) [] σ' H' s'->bT v u->Q v H'->CE outer P w H s Q u s':=
  λ{σ' H' v u} J rv q=>⟨v,H',J.os,J.bare,J.base,J.hok,rv,q⟩
 cases fl with
 |ret u=>
  obtain⟨v,σ',H',J,rv,q⟩:=hs
  exact TU J rv q
 |next=>
  obtain⟨σ',H',J,q⟩:=hs
  exact TU (v:=V.non) (u:=LK) J rfl q
 |brk=>
  obtain⟨_,_,_,q⟩:=hs
  exact Mf q
 |cont=>
  obtain⟨_,_,_,q⟩:=hs
  exact Mf q
end L2
namespace L2
open PySem PySem.Spec PyProof.Rows
section
variable {X:Cx} {x:Kw} {p pos:Ls} {e:KI} {es:List KI} {t:TA} {id T:String} {r:List V->Hp->VK->Prop}
def Jr (r:List V->Hp->VK->Prop) (t:TA):TE:=λσ H Q=>t σ H λvs H1=>r vs H1 Q
theorem oi (hc:dX X (.builtin id) r) (hg:Gl X x) (hm:X.mg x=none) (hv:Lu x=some (.builtin id)) (ha:PA X (e::es) t) (hn:x≠"__name__":=by decide) (TX:(x==("__debug__":Kw))=false:=by decide)
  (he:KC (e::es) X.env=(false,L5 e X.env)::KC es X.env:=by rfl) (Tq:(Ll pos (KC es X.env)).any (·.1)=false:=by rfl):PE X (.Call (.Name x p) (e::es) [] pos) (Jr r t):=by
 intro S4 s σ H Q I h
 refine MH (nv I hg hm hv ?_ hn TX)
 exact Og (cV (ha pos S4 s σ H _ I h) λus s1 ⟨vs,H1,I1,r1,q1⟩=>hc S4 s1 σ H1 vs us Q I1 r1 q1) he Tq
theorem A2 (hc:dX X (.type T) r) (hg:Gl X x) (hm:X.mg x=none) (hv:Lu x=some (.type T)) (ha:PA X (e::es) t) (hn:x≠"__name__":=by decide) (TX:(x==("__debug__":Kw))=false:=by decide)
  (he:KC (e::es) X.env=(false,L5 e X.env)::KC es X.env:=by rfl) (Tq:(Ll pos (KC es X.env)).any (·.1)=false:=by rfl):PE X (.Call (.Name x p) (e::es) [] pos) (Jr r t):=by
 intro S4 s σ H Q I h
 refine MH (nv I hg hm hv ?_ hn TX)
 exact MG (cV (ha pos S4 s σ H _ I h) λus s1 ⟨vs,H1,I1,r1,q1⟩=>hc S4 s1 σ H1 vs us Q I1 r1 q1) he Tq
end
end L2
namespace HT
open PySem PyProof.Rows
section
open PySem.SeqAt
open PySem.AutoSeq1 (wpAny_loadPart')
open PySem.MeetsSeq PySem.MeetsSeq2 PySem.MeetsSeq3
end
section
variable {prog:KW} {w:La} {A:Lg} {E:Kv->Ky->Prop} {s:Ky}
theorem DB {t b:Kx} {vs ws:List Kv} {Q:Kv->Ky->Prop} (ht:Qi s.heap t vs.toArray) (hb:Qi s.heap b ws.toArray) (hv:vs≠[])
  (h1:ws=[]->Q (.ref t) s) (h2:ws≠[]->Q (.ref s.heap.objs.size) {s with heap:=s.heap.push {cls:= .type "tuple",data:= .seq (vs++ws).toArray}})
  (hsz:vs.length+ws.length<=sizeLine):KP (KS prog w) A (Mt .Add (.ref t) (.ref b)) Q E s:=by
 obtain⟨⟨cls,dd,data,sl⟩,ho,hc,n,hd⟩:=id ht
 obtain⟨⟨ZE,Yi,data2,Yj⟩,XN,Yy,n2,Yz⟩:=id hb
 simp only at hc hd Yy Yz
 subst hc hd Yy Yz
 have e:vs.toArray++ws.toArray=(vs++ws).toArray:=by simp
 by_cases hw:ws=[]
 ·exact QO ⟨_,ho,rfl⟩ ⟨_,XN,rfl⟩ P8 Qu O0 NS (NK _ _)
   (tuple_addW1 t b vs.toArray ws.toArray n n2 dd Yi sl Yj (by simpa using hv) (by simp[hw])) ⟨ho,XN,h1 hw⟩
 ·refine QO ⟨_,ho,rfl⟩ ⟨_,XN,rfl⟩ P8 Qu O0 NS (NK _ _)
   (tuple_addW2 t b vs.toArray ws.toArray n n2 dd Yi sl Yj (by simpa using hv) (by simpa using hw) (by rw[KG,KG];exact hsz)) ⟨ho,XN,?_⟩
  rw[e]
  exact h2 hw
def fE (n d:Nat):Option Int->Nat
 |none=>d
 |some v=>if v<0 then (v+(n:Int)).toNat else min v.toNat n
theorem FQ (n d:Nat) (hd:d<=n) (o:Option Int):fE n d o<=n:=by
 cases o with
 |none=>exact hd
 |some v=>
  show (if v<0 then (v+(n:Int)).toNat else min v.toNat n)<=n
  by_cases hv:v<0
  ·rw[if_pos hv];omega
  ·rw[if_neg hv];exact Nat.min_le_right _ _
theorem yE (v:Int) (n d:Nat):(if v<0 then max (v+(n:Int)) 0 else min v (n:Int))=((fE n d (some v):Nat):Int):=by
 show (if v<0 then max (v+(n:Int)) 0 else min v (n:Int))=(((if v<0 then (v+(n:Int)).toNat else min v.toNat n):Nat):Int)
 by_cases hv:v<0
 ·simp only[if_pos hv];omega
 ·simp only[if_neg hv];omega
theorem xy (lo hi:Option Int) (n:Nat):NB lo hi 1 (n:Int)=(((fE n 0 lo:Nat):Int),((fE n n hi:Nat):Int)):=by
 have h1:¬((1:Int)<0):=by omega
 unfold NB
 simp only[h1,if_false]
 refine Prod.ext ?_ ?_
 ·cases lo with
  |none=>rfl
  |some v=>exact yE v n 0
 ·cases hi with
  |none=>rfl
  |some v=>exact yE v n n
theorem xz (i j:Nat):MR (i:Int) (j:Int) 1=j - i:=by
 unfold MR
 have h1:(1:Int)>0:=by omega
 simp only[h1,if_true,Int.ediv_one]
 split<;>omega
theorem rH {v:Kv} {o:Option Int} {Q:Option Int->Ky->Prop} (p:Oh v o) (h:Q o s):KP (KS prog w) A (Builtin.Slice.slicePartIndex v) Q E s:=by
 cases p with
 |none=>exact slicePart_none h
 |int i t=>exact slicePart_int h
theorem jS {sl:Kx} {vl vu:Kv} {lo hi:Option Int} {n:Nat} {Q:Int×Int×Nat->Ky->Prop} (hs:s.heap.IsSliceOf sl vl vu .none) (pl:Oh vl lo) (pu:Oh vu hi)
  (h:Q (((fE n 0 lo:Nat):Int),1,fE n n hi - fE n 0 lo) s):KP (KS prog w) A (OH (.ref sl) (pure (n:Int))) Q E s:=by
 obtain⟨os,XO,Za,YA⟩:=id hs
 unfold OH Builtin.Slice.sliceFields
 refine Kz (Kz (PZ XO YA (x:=vl) rfl (Kz (PZ XO YA (x:=vu) rfl (Kz (PZ XO YA (x:= .none) rfl (KN ?_)))))))
 refine Kz (slicePart_none ?_)
 show KP _ _ (if ((1:Int)==0)=true then _ else _) _ _ s
 rw[if_neg (by decide)]
 refine Kz (rH pl (Kz (rH pu (Kz (KN ?_)))))
 show KP _ _ (match NB lo hi 1 (n:Int)with|(lo,hi)=>pure (lo,(1:Int),MR lo hi 1)) _ _ s
 rw[xy lo hi n]
 show KP _ _ (pure (((fE n 0 lo:Nat):Int),(1:Int),MR ((fE n 0 lo:Nat):Int) ((fE n n hi:Nat):Int) 1)) _ _ s
 rw[xz]
 exact KN h
theorem Bt (xs:Array Kv) (i k:Nat):((LA k).filterMap λ(m:Nat)=>xs[((i:Int)+(m:Int)*1).toNat]?).toArray=((xs.toList.drop i).take k).toArray:=by
 have e:(λ(m:Nat)=>xs[((i:Int)+(m:Int)*1).toNat]?)=λm=>xs[i+m]? :=by
  funext m
  have:((i:Int)+(m:Int)*1).toNat=i+m:=by omega
  rw[this]
 rw[e]
 have:=pick_run xs i k
 rw[List.filterMap_map]at this
 have e2:((λx=>xs[x]?)∘λx=>i+x)=λm=>xs[i+m]? :=rfl
 rw[e2]at this
 rw[this]
theorem oj {t sl:Kx} {S8:Array Kv} {vl vu:Kv} {lo hi:Option Int} {Q:Kv->Ky->Prop} (ht:Qi s.heap t S8) (hs:s.heap.IsSliceOf sl vl vu .none) (pl:Oh vl lo) (pu:Oh vu hi)
  (hw:¬(fE S8.size 0 lo=0/\fE S8.size S8.size hi=S8.size))
  (h:Q (.ref s.heap.objs.size) {s with heap:=s.heap.push {cls:= .type "tuple",data:= .seq ((S8.toList.drop (fE S8.size 0 lo)).take (fE S8.size S8.size hi - fE S8.size 0 lo)).toArray}})
  (hsz:S8.size<=sizeLine):KP (KS prog w) A (NQ (.ref t) (.ref sl)) Q E s:=by
 have Wt:sizeOk (.seq ((S8.toList.drop (fE S8.size 0 lo)).take (fE S8.size S8.size hi - fE S8.size 0 lo)).toArray):=by
  show ((S8.toList.drop (fE S8.size 0 lo)).take (fE S8.size S8.size hi - fE S8.size 0 lo)).toArray.size<=sizeLine
  rw[KG,Nl,P9,Mj]
  omega
 have hj:fE S8.size S8.size hi<=S8.size:=FQ _ _ (L7 _) hi
 obtain⟨os,XO,Za,YA⟩:=id hs
 have ZF:s.TypeIs (.ref sl) "slice":=⟨os,XO,Za⟩
 unfold NQ
 try with_reducible refine LD ?_
 first|refine Kz (KN ?_)|skip
 refine Kz (R5 ht.typeIs (by decide) ?_)
 refine Kz (Pt (name:=NL "__getitem__") ht.typeIs LJ
  (Nm LJ ht.typeIs Qz ?_ (QP _ _)))
 show KP _ _ (OI (.ref t)>>=_) _ _ s
 refine Kz (OJ ht ?_)
 refine Kz (Pa ZF ?_)
 rw[if_pos (by decide)]
 refine Kz (jS hs pl pu ?_)
 have VV:¬((((fE S8.size 0 lo:Nat):Int)==0&&(1:Int)==1&&(fE S8.size S8.size hi - fE S8.size 0 lo)==S8.size)=true):=by
  intro q
  rw[LN,LN]at q
  have q1:((fE S8.size 0 lo:Nat):Int)=0:=eq_of_beq q.1.1
  have q2:fE S8.size S8.size hi - fE S8.size 0 lo=S8.size:=eq_of_beq q.2
  exact hw ⟨by omega,by omega⟩
 show KP _ _ (if (((fE S8.size 0 lo:Nat):Int)==0&&(1:Int)==1&&(fE S8.size S8.size hi - fE S8.size 0 lo)==S8.size)=true then _ else _) _ _ s
 rw[if_neg VV,Bt]
 first
  |exact Kz (m:=MT _) (NV (KN ⟨_,rfl,KN h⟩) Wt)
  |exact Kz (m:=MT _) (NV (Kz (KN (KN ⟨_,rfl,KN h⟩))) Wt)
  |exact Kz (Kz (m:=MT _) (NV (KN (KN ⟨_,rfl,KN h⟩)) Wt))
  |exact Kz (Kz (m:=MT _) (NV (KN ⟨_,rfl,KN h⟩) Wt))
end
end HT
namespace L2
open PySem PySem.Spec PyProof.Rows
abbrev TO:=St->Hp->(Option Int->Hp->Prop)->Prop
def PO (X:Cx) (e:Option KI) (t:TO):Prop:=
 ∀(S4:List (Kx×Lk)) (s:Ky) (σ:St) (H:Hp) (Q:Option Int->Hp->Prop),aP X S4 σ H s->t σ H Q->
  KP (KS X.prog X.w) X.A (evalPart e X.env) (λu s'=>∃o H',aP X S4 σ H' s'/\Oh u o/\Q o H') X.xe s
def DC:TO:=λ_ H Q=>Q none H
def HI (t:TE):TO:=λσ H Q=>t σ H λx H1=>∃i,x= .int i/\Q (some i) H1
theorem kr {ns:List Int}:∀{us:List Kv},bp (ns.map V.int) us->O_ us ns:=by
 induction ns with
 |nil=>intro us r;rw[Ma]at r;cases r;exact .nil
 |cons n ns ih=>
  intro us r
  rw[KO]at r
  cases r with
  |cons r1 r2=>
   obtain⟨t,e⟩:=r1
   subst e
   exact .cons n t (ih r2)
section
variable {X:Cx} {e:KI} {te:TE} {lo hi:Option KI} {tl th:TO} {pos p2:Ls}
theorem DD:PO X none DC:=by
 intro S4 s σ H Q I h
 rw[OK]
 exact KN ⟨none,H,I, .none,h⟩
theorem yF (h:PE X e te):PO X (some e) (HI te):=by
 intro S4 s σ H Q I hw
 rw[evalPart_some]
 refine cV (h S4 s σ H _ I hw) λu s1 z_=> ?_
 obtain⟨x,H1,I1,r1,q1⟩:=z_
 obtain⟨i,rfl,q⟩:=q1
 obtain⟨t,rfl⟩:=r1
 exact⟨some i,H1,I1, .int i t,q⟩
def EU (X:Cx) (r:V->Option Int->Option Int->Hp->VK->Prop):Prop:=
 ∀(S4:List (Kx×Lk)) (s:Ky) (σ:St) (H:Hp) (x:V) (v vl vu:Kv) (lo hi:Option Int) (sl:Kx) (Q:VK),aP X S4 σ H s->bT x v->s.heap.IsSliceOf sl vl vu .none->Oh vl lo->Oh vu hi->r x lo hi H Q->
  ∃T id,typeLookup (.type T) "__getitem__"=pure (some (.builtin id))/\s.TypeIs v T/\KP (KS X.prog X.w) X.A (NQ v (.ref sl)) (EP X S4 σ Q) X.xe s
theorem EU.or {r r':V->Option Int->Option Int->Hp->VK->Prop} (h:EU X r) (h':EU X r'):EU X (λx lo hi H Q=>r x lo hi H Q\/r' x lo hi H Q):=by
 intro S4 s σ H x v vl vu lo hi sl Q I rx hs pl pu q
 rcases q with q|q
 ·exact h S4 s σ H x v vl vu lo hi sl Q I rx hs pl pu q
 ·exact h' S4 s σ H x v vl vu lo hi sl Q I rx hs pl pu q
def Kb (r:V->Option Int->Option Int->Hp->VK->Prop) (te:TE) (tl th:TO):TE:=λσ H Q=>te σ H λx H1=>tl σ H1 λl H2=>th σ H2 λu H3=>r x l u H3 Q
theorem Bu {r:V->Option Int->Option Int->Hp->VK->Prop} (hr:EU X r) (he:PE X e te) (hl:PO X lo tl) (hu:PO X hi th):PE X (.Subscript e (.Slice lo hi none p2) pos) (Kb r te tl th):=by
 intro S4 s σ H Q I h
 refine Qm (cV (he S4 s σ H _ I h) λv s1 z_=> ?_)
 obtain⟨x,H1,I1,r1,q1⟩:=z_
 refine wpAny_Slice (cV (hl S4 s1 σ H1 _ I1 q1) λvl s2 ⟨l,H2,I2,pl,q2⟩=>cV (hu S4 s2 σ H2 _ I2 q2) λvu s3 z_=> ?_)
 obtain⟨u,H3,I3,pu,q3⟩:=z_
 rw[OK]
 refine KN ?_
 have I4:aP X S4 σ H3 {s3 with heap:=s3.heap.push {cls:= .type "slice",data:= .fields #[vl,vu, .none]}}:=I3.kept (t':=s3.toks) λb ob q=>KH _ q
 obtain⟨T,id,hT,ht,hg⟩:=hr S4 {s3 with heap:=s3.heap.push {cls:= .type "slice",data:= .fields #[vl,vu, .none]}} σ H3 x v vl vu l u s3.heap.objs.size Q I4 r1 (QQ ..) pl pu q3
 show KP (KS X.prog X.w) X.A (OL e (.Slice lo hi none p2) v (.ref s3.heap.objs.size)) (EP X S4 σ Q) X.xe {s3 with heap:=s3.heap.push {cls:= .type "slice",data:= .fields #[vl,vu, .none]}}
 exact tail_any (ops:=[.ref s3.heap.objs.size,v]) ht hT hg (by with_unfolding_all rfl)
def sT (xs:List V) (lo hi:Option Int):List V:=(xs.drop (HT.fE xs.length 0 lo)).take (HT.fE xs.length xs.length hi - HT.fE xs.length 0 lo)
theorem qj (xs:List V) (lo hi:Option Int):(sT xs lo hi).length<=xs.length:=by
 unfold sT
 rw[Nl,P9]
 omega
def Js (K:Ku):V->Option Int->Option Int->Hp->VK->Prop:=λx lo hi H Q=>∃a xs,x= .ref a/\iT K H a xs/\
 ¬(HT.fE xs.length 0 lo=0/\HT.fE xs.length xs.length hi=xs.length)/\∀p,H p=none->Q (.ref p) (b_ H p (.tup (sT xs lo hi)))
theorem FR:EU X (Js X.K):=by
 intro S4 s σ H x v vl vu lo hi sl Q I rx hs pl pu h
 obtain⟨a,xs,rfl,hx,hw,q⟩:=h
 cases rx
 obtain⟨its,r,ht,hz⟩:=I.tuple hx
 have Sq:its.toArray.size=xs.length:=by rw[KG];exact r.length.symm
 refine⟨"tuple",_,LJ.lookup,ht.typeIs,?_⟩
 refine HT.oj ht hs pl pu (by rw[Sq];exact hw) ?_ (by rw[Sq];exact hz)
 rw[Sq]
 refine⟨.ref s.heap.objs.size,_,I.laid (t':=s.toks) (o:= .tup (sT xs lo hi)) (λb ob q=>KH _ q) (L7 _) ?_,rfl,q _ (I.hok.fresh (L7 _))⟩
 exact⟨Lq (qj xs lo hi) hz,_,(r.drop (HT.fE xs.length 0 lo)).take (HT.fE xs.length xs.length hi - HT.fE xs.length 0 lo),jD.new _ _⟩
def EV (K:Ku):R2:=λx y H Q=>∃a b xs ys,x= .ref a/\y= .ref b/\iT K H a xs/\iT K H b ys/\xs≠[]/\xs.length+ys.length<=sizeLine/\
 (ys=[]->Q (.ref a) H)/\(ys≠[]->∀p,H p=none->Q (.ref p) (b_ H p (.tup (xs++ys))))
theorem bp.nil_iff {xs:List V} {us:List Kv} (r:bp xs us):us=[]<->xs=[]:=by
 cases r with
 |nil=>simp
 |cons _ _=>simp
theorem DE:lq X (Mt .Add) (EV X.K):=by
 intro S4 s σ H x y v u Q I rx ry h
 obtain⟨a,b,xs,ys,rfl,rfl,ha,hb,hx,hz,q1,q2⟩:=h
 cases rx
 cases ry
 obtain⟨its,r1,p1,_⟩:=I.tuple ha
 obtain⟨UM,r2,p2,_⟩:=I.tuple hb
 refine HT.DB p1 p2 (λz=>hx (r1.nil_iff.mp z)) (λz=>⟨.ref a,H,I,rfl,q1 (r2.nil_iff.mp z)⟩) (λz=> ?_) (by rw[<-r1.length,<-r2.length];exact hz)
 refine⟨.ref s.heap.objs.size,_,I.laid (t':=s.toks) (o:= .tup (xs++ys)) (λb ob q=>KH _ q) (L7 _) ?_,rfl,q2 (λw=>z (r2.nil_iff.mpr w)) _ (I.hok.fresh (L7 _))⟩
 exact⟨by rw[Lp];exact hz,_,r1.append r2,jD.new _ _⟩
end
end L2
namespace L2
open PySem PySem.Spec PyProof.Rows
def xi (n:Nat) (i:Int):Option Nat:=if 0<=i then (if i<n then some i.toNat else none)else if -(n:Int)<=i then some (i+n).toNat else none
def atI {α:Type} (xs:List α) (i:Int):Option α:=(xi xs.length i).bind λj=>xs[j]?
theorem yG {n:Nat} {i:Int} {j:Nat} (h:xi n i=some j):seqIndex? i n=some j/\j<n/\ -(n:Int)<=i/\i<n:=by
 unfold xi at h
 by_cases h0:0<=i
 ·rw[if_pos h0]at h
  by_cases h1:i<n
  ·rw[if_pos h1]at h
   have e:i.toNat=j:=LG h
   exact⟨by rw[Ra h0 h1,e],by omega,by omega,h1⟩
  ·rw[if_neg h1]at h;cases h
 ·rw[if_neg h0]at h
  by_cases h1: -(n:Int)<=i
  ·rw[if_pos h1]at h
   have e:(i+n).toNat=j:=LG h
   exact⟨by rw[QR (by omega) h1,e],by omega,h1,by omega⟩
  ·rw[if_neg h1]at h;cases h
theorem uy {α:Type} {xs:List α} {i:Int} {v:α} (h:atI xs i=some v):∃j,seqIndex? i xs.length=some j/\xs[j]? =some v/\j<xs.length/\ -(xs.length:Int)<=i/\i<xs.length:=by
 unfold atI at h
 cases e:xi xs.length i with
 |none=>rw[e]at h;cases h
 |some j=>
  rw[e]at h
  obtain⟨h1,h2,h3,h4⟩:=yG e
  exact⟨j,h1,h,h2,h3,h4⟩
theorem uz {α:Type} {xs:List α} {j:Nat} {v:α} (h:xs[j]? =some v):atI xs (j:Int)=some v:=by
 have hj:j<xs.length:=(L3.mp h).1
 have e:xi xs.length (j:Int)=some j:=by
  unfold xi
  rw[if_pos (by omega),if_pos (by omega)];simp
 unfold atI;rw[e];exact h
theorem vJ {α:Type} (xs:List α) (v:α):atI (xs++[v]) (-1)=some v:=by
 have hl:(xs++[v]).length=xs.length+1:=by simp
 have e:xi (xs++[v]).length (-1)=some xs.length:=by
  unfold xi
  rw[hl,if_neg (by decide),if_pos (by omega)]
  congr 1
  omega
 unfold atI
 rw[e]
 show (xs++[v])[xs.length]? =some v
 simp
def yH (b:KI):Prop:=∀o i,P_ b false o i=operate [o,i] (NQ o i)
def DF (X:Cx) (r:R2):Prop:=
 ∀(value TV:KI) (S4:List (Kx×Lk)) (s:Ky) (σ:St) (H:Hp) (x y:V) (v u:Kv) (Q:VK),aP X S4 σ H s->bT x v->bT y u->r x y H Q->
  P_ TV false v u=operate [v,u] (NQ v u)->KP (KS X.prog X.w) X.A (OL value TV v u) (EP X S4 σ Q) X.xe s
def JQ (X:Cx) (id:String) (r:V->List V->Hp->VK->Prop):Prop:=
 ∀(S4:List (Kx×Lk)) (s:Ky) (σ:St) (H:Hp) (x:V) (xs:List V) (v:Kv) (us:List Kv) (Q:VK),aP X S4 σ H s->bT x v->bp xs us->r x xs H Q->
  KP (KS X.prog X.w) X.A (call (.builtin id) (v::us)) (EP X S4 σ Q) X.xe s
section
variable {X:Cx} {a b:KI} {ta tb:TE} {pos:Ls}
theorem DF.or {r r':R2} (h:DF X r) (h':DF X r'):DF X (λx y H Q=>r x y H Q\/r' x y H Q):=by
 intro value TV S4 s σ H x y v u Q I rx ry q hs
 rcases q with q|q
 ·exact h value TV S4 s σ H x y v u Q I rx ry q hs
 ·exact h' value TV S4 s σ H x y v u Q I rx ry q hs
theorem HJ {r:R2} (hr:DF X r) (ha:PE X a ta) (hb:PE X b tb) (hs:yH b):PE X (.Subscript a b pos) (IW r ta tb):=by
 intro S4 s σ H Q I h
 exact Qm (FH ha hb I h λv u s2 x y H2 I2 rx ry q=>hr a b S4 s2 σ H2 x y v u Q I2 rx ry q (hs _ _))
def HK (K:Ku):R2:=λx y H Q=>∃p xs i v,x= .ref p/\y= .int i/\dA K H p xs/\atI xs i=some v/\Q v H
def HL (K:Ku):R2:=λx y H Q=>∃p xs i v,x= .ref p/\y= .int i/\iT K H p xs/\atI xs i=some v/\Q v H
def HM:R2:=λx y H Q=>∃z i c,x= .str z/\y= .int i/\z.length<=sizeLine/\atI z.cps.toList i=some c/\Q (.str ⟨#[c]⟩) H
theorem DG:DF X (HK X.K):=by
 intro value TV S4 s σ H x y v u Q I rx ry h hs
 obtain⟨p,xs,i,z,rfl,rfl,hq,he,q⟩:=h
 cases rx
 obtain⟨t,rfl⟩:=ry
 obtain⟨its,r,pl,hz⟩:=I.list hq
 obtain⟨j,h1,h2,h3,h4,h5⟩:=uy he
 obtain⟨w,ew,Wu⟩:=r.get h2
 have hl:=r.length
 have hn:=pA
 have TU:EP X S4 σ Q w s:=⟨z,H,I,Wu,q⟩
 by_cases h0:0<=i
 ·have hj:i.toNat=j:=by
   rw[Ra h0 h5]at h1
   exact LG h1
  exact item_listR pl.isList h0 (by omega) (by rw[hj];simpa using ew) TU hs
 ·have hj:(i+(its.toArray.size:Int)).toNat=j:=by
   rw[QR (by omega) h4]at h1
   rw[KG,<-hl]
   exact LG h1
  exact Q0 (x:=w) pl.isList.typeIs OR.lookup
   (wpAny_getItem_list_neg (Q:=λr s'=>r=w/\EP X S4 σ Q r s') pl.isList (by omega) (by rw[KG]<;>omega) (by omega) (by rw[hj];simpa using ew) ⟨rfl,TU⟩) hs
theorem FT:DF X (HL X.K):=by
 intro value TV S4 s σ H x y v u Q I rx ry h hs
 obtain⟨p,xs,i,z,rfl,rfl,hq,he,q⟩:=h
 cases rx
 obtain⟨t,rfl⟩:=ry
 obtain⟨its,r,pl,hz⟩:=I.tuple hq
 obtain⟨j,h1,h2,h3,h4,h5⟩:=uy he
 obtain⟨w,ew,Wu⟩:=r.get h2
 have hl:=r.length
 have hn:=pA
 have TU:EP X S4 σ Q w s:=⟨z,H,I,Wu,q⟩
 exact Q0 (x:=w) pl.typeIs LJ.lookup
  (getItem_tuple (j:=j) (Q:=λr s'=>r=w/\EP X S4 σ Q r s') pl (by omega) (by omega) (by rw[KG,<-hl];exact h1) (by simpa using ew) ⟨rfl,TU⟩) hs
theorem FU:DF X HM:=by
 intro value TV S4 s σ H x y v u Q I rx ry h hs
 obtain⟨z,i,c,rfl,rfl,hz,he,q⟩:=h
 obtain⟨t,rfl⟩:=rx
 obtain⟨t',rfl⟩:=ry
 obtain⟨j,h1,h2,h3,h4,h5⟩:=uy he
 have hl:z.cps.toList.length=z.length:=by simp[Str.length]
 rw[hl]at h1 h4 h5
 have hn:=pA
 exact tail_any (typeIs_str s z t) slot_str_getitem.lookup (getItem_str (c:=c) (by
  have e1:decide (i< -(2 ^63:Int))=false:=decide_eq_false (by omega)
  have e2:decide (i>=2 ^63)=false:=decide_eq_false (by omega)
  rw[e1,e2,RP]) (by rw[h1];simpa using h2) ⟨.str ⟨#[c]⟩,H,I.tok _,⟨_,rfl⟩,q⟩) hs
def JR (K:Ku):R2:=λx y H Q=>HK K x y H Q\/HL K x y H Q\/HM x y H Q
theorem FV:DF X (JR X.K):=DG.or (FT.or FU)
theorem xA (its:List Kv) (n j:Nat) (u:Kv):Mg (·.setIfInBounds j u) {cls:= .type "list",data:= .seq its.toArray n}={cls:= .type "list",data:= .seq (its.set j u).toArray n}:=by
 simp[Mg]
theorem aP.lst {S4:List (Kx×Lk)} {σ:St} {H:Hp} {s:Ky} {p:Kx} {xs:List V} (I:aP X S4 σ H s) (h:H p=some (.lst xs)):
  ∃(its:List Kv) (n:Nat),bp xs its/\s.heap.get? p=some {cls:= .type "list",data:= .seq its.toArray n}/\xs.length<=sizeLine:=by
 obtain⟨z,its,n,r,e⟩:=I.hok p _ h
 exact⟨its,n,r,e,z⟩
theorem aP.lstUpd {S4:List (Kx×Lk)} {σ:St} {H:Hp} {s:Ky} {p:Kx} {xs ys:List V} {its its':List Kv} {n n':Nat} {f:Lk->Lk} (I:aP X S4 σ H s) (h:H p=some (.lst xs))
  (ho:s.heap.get? p=some {cls:= .type "list",data:= .seq its.toArray n}) (hf:f {cls:= .type "list",data:= .seq its.toArray n}={cls:= .type "list",data:= .seq its'.toArray n'}) (r:bp ys its') (hz:ys.length<=sizeLine) (t:Nat):
  aP X S4 σ (b_ H p (.lst ys)) {s with heap:=s.heap.update p f,toks:=t}:=by
 have e:(s.heap.update p f).get? p=some {cls:= .type "list",data:= .seq its'.toArray n'}:=by
  rw[Heap.get?_update_self f ho (by rw[hf]<;>rfl),hf]
 refine I.write (x:=p) (e:=p) (by rw[h];trivial) (.inl rfl) (λb u hb q=>(Q1 _ _ (Mn hb)).trans q) ⟨_,e⟩ ?_
 exact⟨hz,its',n',r,e⟩
def HN:V->V->V->Hp->(Hp->Prop)->Prop:=λo i v H Q=>∃p xs k j,o= .ref p/\i= .int k/\H p=some (.lst xs)/\xi xs.length k=some j/\Q (b_ H p (.lst (xs.set j v)))
theorem Bv:Hv X HN:=by
 intro S4 s σ H o i v ov iv u Q I ro ri rv h
 obtain⟨p,xs,k,j,rfl,rfl,hp,hj,q⟩:=h
 cases ro
 obtain⟨t,rfl⟩:=ri
 obtain⟨its,n,r,ho,hz⟩:=I.lst hp
 obtain⟨h1,h2,h3,h4⟩:=yG hj
 have hl:=r.length
 have hn:=pA
 have I':aP X S4 σ (b_ H p (.lst (xs.set j v))) {s with heap:=s.heap.update p (Mg (·.setIfInBounds j u))}:=
  I.lstUpd hp ho (xA its n j u) (r.set rv j) (by rw[Oi];exact hz) s.toks
 by_cases h0:0<=k
 ·have hk:k.toNat=j:=by
   rw[Ra h0 h4]at h1
   exact LG h1
  exact PySem.W.ki_setAt ho h0 (by omega) (by rw[KG,<-hl];exact h4) (by rw[hk];exact⟨_,I',q⟩)
 ·have hk:(k+(its.toArray.size:Int)).toNat=j:=by
   rw[QR (by omega) h3]at h1
   rw[KG,<-hl]
   exact LG h1
  exact PySem.W.ki_setBack ho (by omega) (by rw[KG,<-hl];exact h3) (by omega) (by rw[hk];exact⟨_,I',q⟩)
theorem uA (lo hi:Option Int) (n:Nat):(Nw lo hi none n).1=((HT.fE n 0 lo:Nat):Int)/\(Nw lo hi none n).2.1=((HT.fE n n hi:Nat):Int)/\(Nw lo hi none n).2.2=1:=by
 refine⟨?_,?_,rfl⟩
 ·cases lo with
  |none=>simp[Nw,HT.fE]
  |some i=>
   simp only[Nw,HT.fE,Rh,show (1:Int)>0 by decide,if_true]
   by_cases h:i<0
   ·simp only[h,if_true]<;>omega
   ·simp only[h,if_false]<;>omega
 ·cases hi with
  |none=>simp[Nw,HT.fE]
  |some i=>
   simp only[Nw,HT.fE,Rh,show (1:Int)>0 by decide,if_true]
   by_cases h:i<0
   ·simp only[h,if_true]<;>omega
   ·simp only[h,if_false]<;>omega
theorem sU (its:List Kv) (lo hi:Option Int):slicePick its.toArray lo hi none=((its.drop (HT.fE its.length 0 lo)).take (HT.fE its.length its.length hi - HT.fE its.length 0 lo)).toArray:=by
 obtain⟨h1,h2,h3⟩:=uA lo hi its.toArray.size
 unfold slicePick
 rw[h1,h2,h3]
 simp only[sliceRange_one,pick_run,KG]<;>rfl
def Jt (K:Ku):V->Option Int->Option Int->Hp->VK->Prop:=λx lo hi H Q=>∃a xs,x= .ref a/\dA K H a xs/\∀p,H p=none->Q (.ref p) (b_ H p (.lst (sT xs lo hi)))
theorem DH:EU X (Jt X.K):=by
 intro S4 s σ H x v vl vu lo hi sl Q I rx hs pl pu h
 obtain⟨a,xs,rfl,hx,q⟩:=h
 cases rx
 obtain⟨its,r,ht,hz⟩:=I.list hx
 have Sq:=r.length
 refine⟨"list",_,OR.lookup,ht.isList.typeIs,?_⟩
 refine Pb ht.isList hs pl pu .none (by simp) ?_ (by rw[KG]<;>omega)
 rw[sU,<-Sq]
 refine⟨.ref s.heap.objs.size,_,I.laid (t':=s.toks) (o:= .lst (sT xs lo hi)) (λb ob q=>KH _ q) (L7 _) ?_,rfl,q _ (I.hok.fresh (L7 _))⟩
 exact⟨Lq (qj xs lo hi) hz,_,0,(r.drop (HT.fE xs.length 0 lo)).take (HT.fE xs.length xs.length hi - HT.fE xs.length 0 lo),Li _ rfl⟩
def iB:V->Bool
 | .non=>true
 | .bl _=>true
 | .int _=>true
 | .str _=>true
 |_=>false
def B5:V->V->Bool
 | .non, .non=>true
 | .bl a, .bl b=>a==b
 | .bl a, .int b=>(if a then 1 else 0)==b
 | .int a, .bl b=>a==(if b then 1 else 0)
 | .int a, .int b=>a==b
 | .str a, .str b=>a==b
 |_,_=>false
theorem Bw {A:Lg} {s:Ky} {y x:V} {u v:Kv} (ry:bT y u) (rx:bT x v) (fy:iB y=true) (fx:iB x=true):SeqAt.EqAt A s u v (B5 y x):=by
 cases y with
 |non=>
  cases ry
  cases x with
  |non=>cases rx;exact SeqAt.EqAt.same _
  |bl b=>cases rx;exact SeqAt.EqAt.none_bool b
  |int b=>obtain⟨t,rfl⟩:=rx;exact SeqAt.EqAt.none_int b t
  |str b=>obtain⟨t,rfl⟩:=rx;exact SeqAt.EqAt.none_str b t
  |_=>exact absurd (show false=true from fx) Lc
 |bl a=>
  cases ry
  cases x with
  |non=>cases rx;exact SeqAt.EqAt.bool_none a
  |bl b=>cases rx;exact NM a b
  |int b=>obtain⟨t,rfl⟩:=rx;exact SeqAt.EqAt.bool_int a b t
  |str b=>obtain⟨t,rfl⟩:=rx;exact SeqAt.EqAt.bool_str a b t
  |_=>exact absurd (show false=true from fx) Lc
 |int a=>
  obtain⟨t',rfl⟩:=ry
  cases x with
  |non=>cases rx;exact SeqAt.EqAt.int_none a t'
  |bl b=>cases rx;exact SeqAt.EqAt.int_bool a t' b
  |int b=>obtain⟨t,rfl⟩:=rx;exact O1 a t' b t
  |str b=>obtain⟨t,rfl⟩:=rx;exact QC a t' b t
  |_=>exact absurd (show false=true from fx) Lc
 |str a=>
  obtain⟨t',rfl⟩:=ry
  cases x with
  |non=>cases rx;exact SeqAt.EqAt.str_none a t'
  |bl b=>cases rx;exact SeqAt.EqAt.str_bool a t' b
  |int b=>obtain⟨t,rfl⟩:=rx;exact QD a t' b t
  |str b=>obtain⟨t,rfl⟩:=rx;exact SeqAt.EqAt.str_str a t' b t
  |_=>exact absurd (show false=true from fx) Lc
 |_=>exact absurd (show false=true from fy) Lc
def xB (x:V) (u:Kv):Bool:=match u with
 | .none=>B5 .non x
 | .bool b=>B5 (.bl b) x
 | .int i _=>B5 (.int i) x
 | .str z _=>B5 (.str z) x
 |_=>false
theorem Bx {x y:V} {u:Kv} (r:bT y u) (f:iB y=true):xB x u=B5 y x:=by
 cases y with
 |non=>cases r;rfl
 |bl b=>cases r;rfl
 |int i=>obtain⟨t,rfl⟩:=r;rfl
 |str z=>obtain⟨t,rfl⟩:=r;rfl
 |_=>exact absurd (show false=true from f) Lc
theorem ol {x:V}:∀{xs:List V} {us:List Kv},bp xs us->xs.all iB=true->us.any (xB x)=xs.any λy=>B5 y x
 |_,_, .nil,_=>rfl
 |y::xs,u::us, .cons r t,f=>by
  rw[L_,LN]at f
  rw[Mb,Mb,Bx r f.1,ol t f.2]
theorem lx {A:Lg} {s:Ky} {x:V} {v:Kv} (rx:bT x v) (fx:iB x=true):∀{xs:List V} {us:List Kv},bp xs us->xs.all iB=true->∀u∈us,SeqAt.EqAt A s u v (xB x u)
 |_,_, .nil,_=>λu hu=>by cases hu
 |y::xs,u::us, .cons r t,f=>λu' hu=>by
  rw[L_,LN]at f
  rcases KR.mp hu with rfl|hu
  ·rw[Bx r f.1];exact Bw r rx f.1 fx
  ·exact lx rx fx t f.2 u' hu
def inV (x:V) (xs:List V):Bool:=xs.any λy=>B5 y x
def Ju (K:Ku) (UY:Bool):R2:=λx y H Q=>∃p xs,y= .ref p/\(dA K H p xs\/iT K H p xs)/\iB x=true/\xs.all iB=true/\Q (.bl (if UY then !inV x xs else inV x xs)) H
theorem tF:lq X (M6 .In) (Ju X.K false):=by
 intro S4 s σ H x y v u Q I rx ry h
 obtain⟨p,xs,rfl,hq,fx,fs,q⟩:=h
 cases ry
 rcases hq with hq|hq
 ·obtain⟨its,r,pl,hz⟩:=I.list hq
  refine SeqAt.in_listAt (xB x) pl.isList (λw hw=>lx rx fx r fs w (by simpa using hw)) ⟨.bl _,H,I,rfl,?_⟩
  rw[show its.toArray.any (xB x)=its.any (xB x) by simp,ol r fs]
  exact q
 ·obtain⟨its,r,pl,hz⟩:=I.tuple hq
  refine SeqAt.in_tupleAt (xB x) pl (λw hw=>lx rx fx r fs w (by simpa using hw)) ⟨.bl _,H,I,rfl,?_⟩
  rw[show its.toArray.any (xB x)=its.any (xB x) by simp,ol r fs]
  exact q
theorem om:lq X (M6 .NotIn) (Ju X.K true):=by
 intro S4 s σ H x y v u Q I rx ry h
 obtain⟨p,xs,rfl,hq,fx,fs,q⟩:=h
 cases ry
 rcases hq with hq|hq
 ·obtain⟨its,r,pl,hz⟩:=I.list hq
  refine SeqAt.notIn_listAt (xB x) pl.isList (λw hw=>lx rx fx r fs w (by simpa using hw)) ⟨.bl _,H,I,rfl,?_⟩
  rw[show its.toArray.any (xB x)=its.any (xB x) by simp,ol r fs]
  exact q
 ·obtain⟨its,r,pl,hz⟩:=I.tuple hq
  refine SeqAt.notIn_tupleAt (xB x) pl (λw hw=>lx rx fx r fs w (by simpa using hw)) ⟨.bl _,H,I,rfl,?_⟩
  rw[show its.toArray.any (xB x)=its.any (xB x) by simp,ol r fs]
  exact q
theorem uB:dX X (.builtin "len") (λxs H Q=>∃p ys,xs=[.ref p]/\(dA X.K H p ys\/iT X.K H p ys)/\Q (.int ys.length) H):=by
 intro S4 s σ H xs us Q I r h
 obtain⟨p,ys,rfl,hq,q⟩:=h
 obtain⟨u,rfl,rx⟩:=jR r
 cases rx
 have hn:=pA
 rcases hq with hq|hq
 ·obtain⟨its,r',pl,hz⟩:=I.list hq
  have Sq:=r'.length
  exact Calls.call_len_list pl.isList (by simp only[KG]<;>omega) ⟨.int ys.length,H,I.tok _,⟨s.toks+1,by rw[KG,Sq]⟩,q⟩
 ·obtain⟨its,r',pl,hz⟩:=I.tuple hq
  have Sq:=r'.length
  exact len_tuple pl (by simp only[KG]<;>omega) ⟨.int ys.length,H,I.tok _,⟨s.toks+1,by rw[KG,Sq]⟩,q⟩
theorem dX.or {f:Kv} {r r':List V->Hp->VK->Prop} (h:dX X f r) (h':dX X f r'):dX X f (λxs H Q=>r xs H Q\/r' xs H Q):=by
 intro S4 s σ H xs us Q I rs q
 rcases q with q|q
 ·exact h S4 s σ H xs us Q I rs q
 ·exact h' S4 s σ H xs us Q I rs q
theorem gp:dX X (.type "list") (λxs H Q=>∃p ys,xs=[.ref p]/\(dA X.K H p ys\/iT X.K H p ys)/\∀l,H l=none->Q (.ref l) (b_ H l (.lst ys))):=by
 intro S4 s σ H xs us Q I r h
 obtain⟨p,ys,rfl,hq,q⟩:=h
 obtain⟨u,rfl,rx⟩:=jR r
 cases rx
 have TU:∀(its:List Kv),bp ys its->ys.length<=sizeLine->∀(h':L4) (c':Nat),(∀b o',s.heap.get? b=some o'->h'.get? b=some o')->
   h'.get? s.heap.objs.size=some {cls:= .type "list",dict:=none,data:= .seq its.toArray c',slots:= #[]}->EP X S4 σ Q (.ref s.heap.objs.size) {s with heap:=h'}:=λits r' hz h' c' kp e=>
  ⟨.ref s.heap.objs.size,_,I.laid (t':=s.toks) kp (L7 _) (show ci X.prog X.w _ h' _ (.lst ys)from ⟨hz,its,c',r',e⟩),rfl,q _ (I.hok.fresh (L7 _))⟩
 rcases hq with hq|hq
 ·obtain⟨its,r',pl,hz⟩:=I.list hq
  have Sq:=r'.length
  obtain⟨o,ho,hc,n,hd⟩:=pl.isList
  exact call_list_seq p (.inl rfl) ho hc hd (λh' c' kp e=>TU its r' hz h' c' kp e) (by simp only[KG]<;>omega)
 ·obtain⟨its,r',pl,hz⟩:=I.tuple hq
  have Sq:=r'.length
  obtain⟨o,ho,hc,n,hd⟩:=pl
  exact call_list_seq p (.inr rfl) ho hc hd (λh' c' kp e=>TU its r' hz h' c' kp e) (by simp only[KG]<;>omega)
theorem aH:dX X (.type "tuple") (λxs H Q=>∃p ys,xs=[.ref p]/\((dA X.K H p ys/\∀l,H l=none->Q (.ref l) (b_ H l (.tup ys)))\/(iT X.K H p ys/\Q (.ref p) H))):=by
 intro S4 s σ H xs us Q I r h
 obtain⟨p,ys,rfl,h⟩:=h
 obtain⟨u,rfl,rx⟩:=jR r
 cases rx
 rcases h with ⟨hq,q⟩|⟨hq,q⟩
 ·obtain⟨its,r',pl,hz⟩:=I.list hq
  have Sq:=r'.length
  refine call_tuple_list pl.isList (λh' kp=> ?_) (by simp only[KG]<;>omega)
  have I1:aP X S4 σ H {s with heap:=h'}:=I.kept (t':=s.toks) kp
  have I2:aP X S4 σ (b_ H h'.objs.size (.tup ys)) {s with heap:=h'.push {cls:= .type "tuple",data:= .seq its.toArray}}:=
   I1.laid (t':=s.toks) (λb o e=>KH _ e) (L7 _) (show ci X.prog X.w _ _ _ (.tup ys)from ⟨hz,its,r',jD.new _ _⟩)
  exact⟨.ref h'.objs.size,_,I2,rfl,q _ (I1.hok.fresh (L7 _))⟩
 ·obtain⟨its,r',pl,hz⟩:=I.tuple hq
  exact call_tuple_same pl ⟨.ref p,H,I,rfl,q⟩
def IY (K:Ku) (T:String) (x:V) (H:Hp):Prop:=match x with
 | .str _=>T="str"
 | .int _=>T="int"
 | .ref p=>(T="list"/\∃xs,dA K H p xs)\/(T="tuple"/\∃o,K.lookup p=some o/\o.cls= .type "tuple"/\o.dict=none)\/
   (T="dict"/\((∃kvs,H p=some (.dK kvs))\/∃kvs,H p=some (.dT kvs)))\/(T="set"/\∃S n,H p=some (.set S n))
 |_=>False
theorem xC {S4:List (Kx×Lk)} {σ:St} {H:Hp} {s:Ky} {T:String} {x:V} {v:Kv} (I:aP X S4 σ H s) (r:bT x v) (ty:IY X.K T x H):
  s.TypeIs v T/\∀a,v= .ref a->∃ob,s.heap.get? a=some ob/\ob.dict=none:=by
 cases x with
 |str z=>
  obtain⟨t,rfl⟩:=r
  cases (show T="str" from ty)
  exact⟨typeIs_str s z t,λ_ e=>nomatch e⟩
 |int i=>
  obtain⟨t,rfl⟩:=r
  cases (show T="int" from ty)
  exact⟨Rv s i t,λ_ e=>nomatch e⟩
 |ref p=>
  cases r
  rcases ty with ⟨rfl,xs,hq⟩|⟨rfl,o,hk,hc,hd⟩|⟨rfl,hk⟩|⟨rfl,S,n,hk⟩
  ·obtain⟨its,_,pl,_⟩:=I.list hq
   refine⟨pl.isList.typeIs,λa e=> ?_⟩
   cases e
   obtain⟨o,n,e,c,hd,_⟩:=pl
   exact⟨o,e,hd⟩
  ·refine⟨⟨o,I.kIn p o hk,hc⟩,λa e=> ?_⟩
   cases e
   exact⟨o,I.kIn _ o hk,hd⟩
  ·have z:∃o,s.heap.get? p=some o/\o.ExactDict:=by
    rcases hk with ⟨kvs,hk⟩|⟨kvs,hk⟩
    ·obtain⟨_,_,_,_,o,_,_,e,ex,_⟩:=I.hok p _ hk
     exact⟨o,e,ex⟩
    ·obtain⟨_,_,_,_,o,_,_,e,ex,_⟩:=I.hok p _ hk
     exact⟨o,e,ex⟩
   obtain⟨o,e,ex⟩:=z
   refine⟨⟨o,e,ex.1⟩,λa e2=> ?_⟩
   cases e2
   exact⟨o,e,ex.2.1⟩
  ·obtain⟨o,_,_,_,e,ex,_⟩:=I.hok p _ hk
   refine⟨⟨o,e,ex.1⟩,λa e2=> ?_⟩
   cases e2
   exact⟨o,e,ex.2.1⟩
 |_=>exact Mf ty
def Jv (K:Ku) (T:String) (r:V->List V->Hp->VK->Prop) (to:TE):TE:=λσ H Q=>to σ H λx H1=>IY K T x H1/\r x [] H1 Q
def Kc (K:Ku) (T:String) (r:V->List V->Hp->VK->Prop) (to:TE) (t:TA):TE:=λσ H Q=>to σ H λx H1=>IY K T x H1/\t σ H1 λxs H2=>r x xs H2 Q
variable {o e:KI} {es:List KI} {to:TE} {t:TA} {name:Kw} {Sl Sh:Ls} {T id:String} {r:V->List V->Hp->VK->Prop}
theorem By (pa:PlainAttrs T) (slot:Slot T name id) (ZG:typeOf (.builtin id)=pure (.type "method_descriptor")) (hm:JQ X id r) (ho:PE X o to)
  (SR:Lz o name X.env (L5 o X.env)=L5 o X.env:=by rfl) (SS:(Sl.endLine==Sh.line)=true:=by rfl):PE X (.Call (.Attribute o name Sl) [] [] Sh) (Jv X.K T r to):=by
 intro S4 s σ H Q I h
 refine wpAny_Call_method0_late SR SS (cV (ho S4 s σ H _ I h) λv s1 z_=> ?_)
 obtain⟨x,H1,I1,r1,ty,q1⟩:=z_
 obtain⟨h1,h2⟩:=xC I1 r1 ty
 exact⟨T,id,pa,slot,ZG,h1,h2,N8 rfl (PySem.evalArgs_none (hm S4 s1 σ H1 x [] v [] Q I1 r1 .nil q1))⟩
theorem yI (pa:PlainAttrs T) (slot:Slot T name id) (ZG:typeOf (.builtin id)=pure (.type "method_descriptor")) (hm:JQ X id r) (ho:PE X o to) (ha:PA X (e::es) t)
  (SR:Lz o name X.env (L5 o X.env)=L5 o X.env:=by rfl)
  (UN:((Ll Sh (KC (e::es) X.env)).all (λx=> !x.1)&&(Mu Sh (M4 [] X.env)).all (λx=>x.1.isSome)
   &&decide ((e::es).length+([]:List MJ).length+(if ([]:List MJ).isEmpty then 0 else 1)<30))=true:=by rfl)
  (SS:(Sl.endLine==Sh.line)=true:=by rfl) (hs:KC (e::es) X.env=(false,L5 e X.env)::KC es X.env:=by rfl) (SU:(Ll Sh (KC es X.env)).any (·.1)=false:=by rfl):
  PE X (.Call (.Attribute o name Sl) (e::es) [] Sh) (Kc X.K T r to t):=by
 intro S4 s σ H Q I h
 refine Q2 SR UN SS rfl (cV (ho S4 s σ H _ I h) λv s1 z_=> ?_)
 obtain⟨x,H1,I1,r1,ty,q1⟩:=z_
 obtain⟨h1,h2⟩:=xC I1 r1 ty
 refine⟨T,id,pa,slot,ZG,h1,h2,?_⟩
 have hA:=ha Sh S4 s1 σ H1 _ I1 q1
 rw[hs]at hA ⊢
 refine N8 (by show (false||(Ll Sh (KC es X.env)).any (·.1))=false;rw[SU]<;>rfl) (Nn ?_)
 exact cV hA λus s2 ⟨vs,H2,I2,r2,q2⟩=>hm S4 s2 σ H2 x vs v us Q I2 r1 r2 q2
end
end L2
namespace L2
open PySem PySem.Spec PyProof.Rows
def FW (X:Cx) (id:String) (r:V->List V->Hp->VK->Prop):Prop:=
 ∀(S4:List (Kx×Lk)) (s:Ky) (σ:St) (H:Hp) (x:V) (xs:List V) (v:Kv) (us:List Kv) (Q:VK),aP X S4 σ H s->bT x v->bp xs us->r x xs H Q->
  KP (KS X.prog X.w) X.A (call (.builtin id) (v::us)) (EP X S4 σ Q) X.xe s
theorem bp.one:∀{x:V} {us:List Kv},bp [x] us->∃u,us=[u]/\bT x u:=λh=>by
 cases h with
 |cons r t=>cases t;exact⟨_,rfl,r⟩
theorem bp.zero:∀{us:List Kv},bp [] us->us=[]
 |_, .nil=>rfl
theorem bp.dropLast {xs:List V} {us:List Kv} (h:bp xs us):bp xs.dropLast us.dropLast:=by
 induction h with
 |nil=>exact .nil
 |cons r t ih=>
  cases t with
  |nil=>exact .nil
  |cons q t'=>exact .cons r ih
theorem bp.reverse {xs:List V} {us:List Kv} (h:bp xs us):bp xs.reverse us.reverse:=by
 induction h with
 |nil=>exact .nil
 |cons r t ih=>rw[NW,NW];exact bp.append ih (.cons r .nil)
theorem bp.rep {xs:List V} {us:List Kv} (h:bp xs us):∀k:Nat,bp (Lf k xs).flatten (Lf k us).flatten
 |0=> .nil
 |k+1=>by
  rw[LY,LY,MA,MA]
  exact bp.append h (bp.rep h k)
theorem xD {α:Type} (l:List α):l.eraseIdx (l.length - 1)=l.dropLast:=by
 induction l with
 |nil=>rfl
 |cons a r ih=>
  cases r with
  |nil=>rfl
  |cons b r=>
   have e:(a::b::r).length - 1=((b::r).length - 1)+1:=by
    have h1:(a::b::r).length=r.length+2:=rfl
    have h2:(b::r).length=r.length+1:=rfl
    omega
   rw[e,List.eraseIdx_cons_succ,ih]
   all_goals rfl
theorem tH (its:List Kv):∀(k:Nat) (Tv:List Kv),
  Qn (λx1 x2=>x1++x2) Tv.toArray (Lf k its.toArray)=(Tv++(Lf k its).flatten).toArray
 |0,Tv=>by simp
 |k+1,Tv=>by
  have e:Tv.toArray++its.toArray=(Tv++its).toArray:=by simp
  have e2:(Tv++its)++(Lf k its).flatten=Tv++(Lf (k+1) its).flatten:=by
   rw[LY,MA,NX]
  rw[<-e2,<-tH its k (Tv++its),<-e,LY,Rw]
section
variable {X:Cx} {S4:List (Kx×Lk)} {σ:St} {H:Hp} {s:Ky} {l b:Kx} {xs ys zs:List V}
theorem aP.lset {its its':List Kv} {n:Nat} {f:Array Kv->Array Kv} {t':Nat} (I:aP X S4 σ H s) (hH:H l=some (.lst xs))
  (e:s.heap.get? l=some {cls:= .type "list",data:= .seq its.toArray n}) (hf:f its.toArray=its'.toArray) (hv:bp ys its') (hz:ys.length<=sizeLine):
  aP X S4 σ (b_ H l (.lst ys)) {s with heap:=s.heap.update l (Mg f),toks:=t'}:=by
 have q:=PySem.IsL.update e f
 rw[hf]at q
 refine I.write (x:=l) (e:=l) (by rw[hH];exact trivial) (.inl rfl) (λb' u hb hu=>(Q1 s.heap (Mg f) (Mn hb)).trans hu) ⟨_,q⟩ ?_
 exact⟨hz,its',_,hv,q⟩
theorem aP.lnew {its:List Kv} {t':Nat} (I:aP X S4 σ H s) (hv:bp ys its) (hz:ys.length<=sizeLine):
  aP X S4 σ (b_ H s.heap.objs.size (.lst ys)) {s with heap:=s.heap.push {cls:= .type "list",data:= .seq its.toArray},toks:=t'}:=
 I.laid (λ_ _ q=>KH _ q) (L7 _) ⟨hz,its,0,hv,Li _ rfl⟩
theorem aP.fresh (I:aP X S4 σ H s):H s.heap.objs.size=none:=I.hok.fresh (L7 _)
theorem aP.lstM (I:aP X S4 σ H s) (hH:H l=some (.lst xs)):xs.length<=sizeLine/\∃(its:List Kv) (n:Nat),bp xs its/\xs.length=its.length/\s.heap.get? l=some {cls:= .type "list",data:= .seq its.toArray n}:=by
 obtain⟨z,its,n,r,e⟩:=I.hok l _ hH
 exact⟨z,its,n,r,r.length,e⟩
theorem vK {n:Nat} (h:n<=sizeLine):MU n=false:=by
 unfold MU
 exact decide_eq_false (by omega)
end
section
variable {X:Cx}
def DI:V->List V->Hp->VK->Prop:=λx vs H Q=>∃l xs y,x= .ref l/\vs=[y]/\H l=some (.lst xs)/\xs.length<sizeLine/\Q .non (b_ H l (.lst (xs++[y])))
theorem pE:FW X "list.append" DI:=by
 intro S4 s σ H x vs v us Q I rx rv h
 obtain⟨l,xs,y,rfl,rfl,hH,hz,q⟩:=h
 cases rx
 obtain⟨u,rfl,ru⟩:=rv.one
 obtain⟨z,its,n,r,hl,e⟩:=I.lstM hH
 refine N3 F.slot_list_append ⟨_,e,rfl⟩ F.entry_list_append (F.args_list_append_2 _ _) (PySem.list_append l its.toArray n u (by rw[KG];omega)) ⟨e,?_⟩
 refine⟨.non,_,I.lset (its':=its++[u]) hH e (by simp) (r.append (.cons ru .nil)) ?_,rfl,q⟩
 rw[Lp,MK]
 omega
def DJ:V->List V->Hp->VK->Prop:=λx vs H Q=>∃l b xs zs,x= .ref l/\vs=[.ref b]/\H l=some (.lst xs)/\H b=some (.lst zs)/\xs.length+zs.length<=sizeLine/\Q .non (b_ H l (.lst (xs++zs)))
theorem Hc:FW X "list.extend" DJ:=by
 intro S4 s σ H x vs v us Q I rx rv h
 obtain⟨l,b,xs,zs,rfl,rfl,hH,hB,hz,q⟩:=h
 cases rx
 obtain⟨u,rfl,ru⟩:=rv.one
 cases ru
 obtain⟨z,its,n,r,hl,e⟩:=I.lstM hH
 obtain⟨z2,UM,n2,r2,Wv,e2⟩:=I.lstM hB
 have hsz:its.toArray.size+UM.toArray.size<=sizeLine:=by rw[KG,KG];omega
 have WY:¬(!its.toArray.isEmpty&&MU (its.toArray.size+UM.toArray.size))=true:=by
  rw[vK hsz,Q9]
  exact Lc
 refine N3 F.slot_list_extend ⟨_,e,rfl⟩ F.entry_list_extend (F.args_list_extend_2 _ _)
  (AutoSeq1.list_extend_list_list_0 l its.toArray n b UM.toArray n2 WY (by rw[KG];omega) (by omega)) ⟨e,e2,?_⟩
 refine⟨.non,_,I.lset (its':=its++UM) hH e (by simp) (r.append r2) ?_,rfl,q⟩
 rw[Lp]
 omega
def Jw:V->List V->Hp->VK->Prop:=λx vs H Q=>∃l xs y,x= .ref l/\vs=[]/\H l=some (.lst xs)/\xs[xs.length - 1]? =some y/\Q y (b_ H l (.lst xs.dropLast))
theorem Bz:FW X "list.pop" Jw:=by
 intro S4 s σ H x vs v us Q I rx rv h
 obtain⟨l,xs,y,rfl,rfl,hH,hy,q⟩:=h
 cases rx
 have a0S:=rv.zero
 subst a0S
 obtain⟨z,its,n,r,hl,e⟩:=I.lstM hH
 obtain⟨u,hu,ru⟩:=r.get hy
 have a1p:its.toArray[its.toArray.size - 1]? =some u:=by
  show its.toArray[its.length - 1]? =some u
  rw[<-Qa,<-hl]
  exact hu
 refine N3 F.slot_list_pop ⟨_,e,rfl⟩ F.entry_list_pop (F.args_list_pop_1 _) (MeetsSeq.list_pop_last l its.toArray n u a1p (by rw[KG];omega)) ⟨e,?_⟩
 refine⟨y,_,I.lset (its':=its.dropLast) hH e ?_ r.dropLast ?_,ru,q⟩
 ·show its.toArray.eraseIdxIfInBounds (its.toArray.size - 1)=its.dropLast.toArray
  rw[KG,List.eraseIdxIfInBounds_toArray,xD]
 ·rw[List.length_dropLast]
  omega
def HP:R2:=λx y H Q=>∃l b xs zs,x= .ref l/\y= .ref b/\H l=some (.lst xs)/\H b=some (.lst zs)/\xs.length+zs.length<=sizeLine/\∀p,H p=none->Q (.ref p) (b_ H p (.lst (xs++zs)))
theorem FX:lq X (Mt .Add) HP:=by
 intro S4 s σ H x y v u Q I rx ry h
 obtain⟨l,b,xs,zs,rfl,rfl,hH,hB,hz,q⟩:=h
 cases rx
 cases ry
 obtain⟨z,its,n,r,hl,e⟩:=I.lstM hH
 obtain⟨z2,UM,n2,r2,Wv,e2⟩:=I.lstM hB
 refine PySem.P.add_list e e2 ?_ (by rw[KG,KG];omega)
 have ea:its.toArray++UM.toArray=(its++UM).toArray:=by simp
 rw[ea]
 exact⟨.ref _,_,I.lnew (t':=s.toks) (r.append r2) (by rw[Lp];omega),rfl,q _ I.fresh⟩
def HQ:R2:=λx y H Q=>∃l k xs,x= .ref l/\y= .int k/\H l=some (.lst xs)/\ -(2 ^63)<=k/\k<2 ^63/\xs.length*k.toNat<=sizeLine/\
 ∀p,H p=none->Q (.ref p) (b_ H p (.lst (Lf k.toNat xs).flatten))
theorem DK {α:Type} (xs:List α) (k:Nat):(Lf k xs).flatten.length=k*xs.length:=by
 induction k with
 |zero=>simp
 |succ k ih=>rw[LY,MA,Lp,ih,Nat.succ_mul,Nat.add_comm]
theorem FY:lq X (Mt .Mult) HQ:=by
 intro S4 s σ H x y v u Q I rx ry h
 obtain⟨l,k,xs,rfl,rfl,hH,h1,h2,hz,q⟩:=h
 cases rx
 obtain⟨t,rfl⟩:=ry
 obtain⟨z,its,n,r,hl,e⟩:=I.lstM hH
 have Sq:its.toArray.size*k.toNat<=sizeLine:=by rw[KG,<-hl];exact hz
 have ZH:¬its.toArray.size*k.toNat>(2 ^63 - 1) / 8:=by
  have:(sizeLine:Nat)<=(2 ^63 - 1) / 8:=by decide
  omega
 have ZI:¬(!Builtin.List.listFitsIndex k)=true:=by
  rw[fitsIndex_both h1 h2]
  exact Lc
 have WY:¬MU (its.toArray.size*k.toNat)=true:=by
  rw[vK Sq]
  exact Lc
 have ZJ:Qn (λx1 x2=>x1++x2) #[] (Lf (if its.toArray.isEmpty=true then 0 else k.toNat) its.toArray)=(Lf k.toNat its).flatten.toArray:=by
  have f0:∀m:Nat,Qn (λx1 x2=>x1++x2) #[] (Lf m its.toArray)=(Lf m its).flatten.toArray:=λm=>by
   have:=tH its m []
   rw[PK]at this
   exact this
  rw[f0]
  cases its with
  |nil=>simp
  |cons a r'=>rw[if_neg (by simp)]
 refine wpAny_binaryOp_repeat_ref (T:="list") (U:="int") (by decide) ⟨_,e,rfl⟩ (λs'=>Rv s' k t) noFill_list_mul F.fills_int_mul F.slot_int_rmul repeat_list F.slot_int_index.lookup
  (N3 F.slot_int_rmul (Rv s k t) F.entry_int_rmul (F.args_int_rmul_2 _ _) (int___rmul___int_list k t l its.toArray n)
   ⟨e,rfl,⟨_,e,rfl⟩,N3 F.slot_list_mul ⟨_,e,rfl⟩ F.entry_list_mul (F.args_list_mul_2 _ _) (AutoListH.list___mul___list_int_3 l its.toArray n k t ZI ZH WY) ⟨e,?_⟩⟩)
 rw[ZJ]
 exact⟨.ref _,_,I.lnew (t':=s.toks) (r.rep k.toNat) (by rw[DK,Nat.mul_comm];exact hz),rfl,q _ I.fresh⟩
end
section
variable {prog:KW} {w:La} {A:Lg} {E:Kv->Ky->Prop} {s:Ky}
end
section
variable {X:Cx}
end
end L2
namespace L2
open PySem PySem.Spec PyProof.Rows
section
variable {κ:Type} [DecidableEq κ]
def kt (kvs:List (κ×V)) (k:κ):Option V:=(kvs.find? λkv=>decide (kv.1=k)).map (·.2)
def mK (kvs:List (κ×V)) (k:κ) (v:V):List (κ×V):=
 if (kvs.any λkv=>decide (kv.1=k))=true then kvs.map (λkv=>if kv.1=k then (kv.1,v)else kv)else kvs++[(k,v)]
theorem rJ {p:κ×V} {r:List (κ×V)} {k:κ} (e:p.1=k):kt (p::r) k=some p.2:=by simp[kt,N4,e]
theorem rK {p:κ×V} {r:List (κ×V)} {k:κ} (e:¬p.1=k):kt (p::r) k=kt r k:=by simp[kt,N4,e]
theorem vL (k:κ):∀kvs:List (κ×V),(kvs.any λkv=>decide (kv.1=k))=(kt kvs k).isSome
 |[]=>rfl
 |p::r=>by
  rw[Mb]
  by_cases e:p.1=k
  ·simp only[rJ e,decide_eq_true e,Pc,Option.isSome_some]
  ·rw[rK e,decide_eq_false e,OM];exact vL k r
theorem qk (kvs:List (κ×V)) (k:κ) (v:V):(mK kvs k v).length<=kvs.length+1:=by
 unfold mK
 split
 ·rw[KA];omega
 ·rw[Lp,L6,NC];omega
theorem lc.isSome_eq {o:Option V} {u:Option Kv} (r:lc o u):o.isSome=u.isSome:=by
 cases o with
 |none=>cases u with
  |none=>rfl
  |some _=>exact(show False from r).elim
 |some _=>cases u with
  |none=>exact(show False from r).elim
  |some _=>rfl
theorem lc.getD {o:Option V} {u:Option Kv} {d:V} {d':Kv} (r:lc o u) (rd:bT d d'):bT (o.getD d) (u.getD d'):=by
 cases o with
 |none=>cases u with
  |none=>exact rd
  |some _=>exact(show False from r).elim
 |some _=>cases u with
  |none=>exact(show False from r).elim
  |some _=>exact r
theorem KV.val {kvs:List (κ×V)} {vs:List (κ×Kv)} (r:KV kvs vs) (k:κ):lc (kt kvs k) (P0 vs k):=by
 unfold KV at r
 induction r with
 |nil=>exact MF
 | @cons p q ps qs h t ih=>
  obtain⟨h1,h2⟩:=h
  by_cases e:p.1=k
  ·have e':q.1=k:=h1.symm.trans e
   have b:P0 (q::qs) k=some q.2:=by simp[P0,N4,e']
   rw[rJ e,b];exact h2
  ·have e':¬q.1=k:=λz=>e (h1.trans z)
   have b:P0 (q::qs) k=P0 qs k:=by simp[P0,N4,e']
   rw[rK e,b];exact ih
theorem KV.any {kvs:List (κ×V)} {vs:List (κ×Kv)} (r:KV kvs vs) (k:κ):(kvs.any λkv=>decide (kv.1=k))=vs.any λkv=>decide (kv.1=k):=by
 unfold KV at r
 induction r with
 |nil=>rfl
 |cons h t ih=>rw[Mb,Mb,ih,h.1]
theorem KV.repl {kvs:List (κ×V)} {vs:List (κ×Kv)} (r:KV kvs vs) (k:κ) {y:V} {u:Kv} (ry:bT y u):
  KV (kvs.map λkv=>if kv.1=k then (kv.1,y)else kv) (vs.map λkv=>if kv.1=k then (kv.1,u)else kv):=by
 unfold KV at r ⊢
 induction r with
 |nil=>exact .nil
 | @cons p q ps qs h t ih=>
  rw[KO,KO]
  refine .cons ?_ ih
  obtain⟨h1,h2⟩:=h
  by_cases e:p.1=k
  ·rw[if_pos e,if_pos (h1.symm.trans e)];exact⟨h1,ry⟩
  ·rw[if_neg e,if_neg (λz=>e (h1.trans z))];exact⟨h1,h2⟩
theorem KV.put {kvs:List (κ×V)} {vs:List (κ×Kv)} (r:KV kvs vs) (k:κ) {y:V} {u:Kv} (ry:bT y u):KV (mK kvs k y) (stored vs k u):=by
 unfold mK stored
 rw[r.any k]
 by_cases e:(vs.any λkv=>decide (kv.1=k))=true
 ·rw[if_pos e,if_pos e];exact r.repl k ry
 ·rw[if_neg e,if_neg e];exact S2 r ⟨rfl,ry⟩
theorem KV.keys {kvs:List (κ×V)} {vs:List (κ×Kv)} (r:KV kvs vs):kvs.map (·.1)=vs.map (·.1):=by
 unfold KV at r
 induction r with
 |nil=>rfl
 |cons h t ih=>rw[KO,KO,ih,h.1]
theorem KV.length {kvs:List (κ×V)} {vs:List (κ×Kv)} (r:KV kvs vs):kvs.length=vs.length:=OD r
end
theorem vM {P:KW} {w:La} {k:cH} {u:Kv} (r:bT (kV k) u):(dG P w).is k u=true:=by
 cases k with
 |inl i=>obtain⟨t,e⟩:=(show ∃t,u=N0 i t from r);subst e;exact vB P w i t
 |inr x=>obtain⟨t,e⟩:=(show ∃t,u=O7 x t from r);subst e;exact vC P w x t
theorem tJ {P:KW} {w:La}:∀{ks:List cH} {us:List Kv},bp (ks.map kV) us->ItemsAre (dG P w) ks us
 |[],_,r=>by rw[Ma]at r;cases r;exact .nil
 |k::ks,_,r=>by
  rw[KO]at r
  cases r with
  |cons h t=>exact .cons (vM h) (tJ t)
abbrev KT (H:Hp):List (List cH×V)->List (List cH×Kx×Kv)->Prop:=Paired λp q=>p.1=q.1/\H q.2.1=some (.tup (p.1.map kV))/\bT p.2 q.2.2
theorem KT.val {H:Hp} {kvs:List (List cH×V)} {xs:List (List cH×Kx×Kv)} (r:KT H kvs xs) (k:List cH):lc (kt kvs k) ((PL xs k).map (·.2)):=by
 induction r with
 |nil=>exact MF
 | @cons p q ps qs h t ih=>
  obtain⟨h1,_,h2⟩:=h
  by_cases e:p.1=k
  ·have e':q.1=k:=h1.symm.trans e
   have b:PL (q::qs) k=some q.2:=by simp[PL,N4,e']
   rw[rJ e,b];exact h2
  ·have e':¬q.1=k:=λz=>e (h1.trans z)
   have b:PL (q::qs) k=PL qs k:=by simp[PL,N4,e']
   rw[rK e,b];exact ih
theorem KT.repl {H:Hp} {kvs:List (List cH×V)} {xs:List (List cH×Kx×Kv)} (r:KT H kvs xs) (k:List cH) {y:V} {u:Kv} (ry:bT y u):
  KT H (kvs.map λkv=>if kv.1=k then (kv.1,y)else kv) (xs.map (putAt k u)):=by
 induction r with
 |nil=>exact .nil
 | @cons p q ps qs h t ih=>
  rw[KO,KO]
  refine .cons ?_ ih
  obtain⟨h1,h2,h3⟩:=h
  unfold putAt
  by_cases e:p.1=k
  ·rw[if_pos e,if_pos (h1.symm.trans e)];exact⟨h1,h2,ry⟩
  ·rw[if_neg e,if_neg (λz=>e (h1.trans z))];exact⟨h1,h2,h3⟩
theorem KT.put {H:Hp} {kvs:List (List cH×V)} {xs:List (List cH×Kx×Kv)} (r:KT H kvs xs) (k:List cH) {b:Kx} {y:V} {u:Kv} (hb:H b=some (.tup (k.map kV))) (ry:bT y u):
  KT H (mK kvs k y) (storedH xs k b u):=by
 have e:(kvs.any λkv=>decide (kv.1=k))=(PL xs k).isSome:=by
  rw[vL,(r.val k).isSome_eq,OS]
 unfold mK storedH
 rw[e]
 by_cases q:(PL xs k).isSome=true
 ·rw[if_pos q,if_pos q];exact r.repl k ry
 ·rw[if_neg q,if_neg q];exact S2 r ⟨rfl,hb,ry⟩
theorem KT.keeps {H H':Hp} {kvs:List (List cH×V)} {xs:List (List cH×Kx×Kv)} (r:KT H kvs xs) (ht:∀b ys,H b=some (.tup ys)->H' b=some (.tup ys)):KT H' kvs xs:=
 Paired.mapP r λ_ _ z=>⟨z.1,ht _ _ z.2.1,z.2.2⟩
section
variable {P:KW} {w:La} {H:Hp} {h:L4} {a:Kx}
theorem EW {u:HO} (ok:lp P w H h) (e:Rd H a u):ci P w H h a u:=e.ok ok
theorem tK {kvs:List (cH×V)} (ok:lp P w H h) (e:Rd H a (.dK kvs)):kvs.length<=sizeLine/\(a==sysModules)=false/\∃vs,KV kvs vs/\h.DictOf (dG P w) a vs:=
 show ci P w H h a (.dK kvs)from EW ok e
theorem EX {kvs:List (cH×V)} (ok:lp P w H h) (e:H a=some (.dK kvs)):kvs.length<=sizeLine/\(a==sysModules)=false/\∃vs,KV kvs vs/\h.DictOf (dG P w) a vs:=tK ok (.inl e)
theorem rL {ks:List cH} (ok:lp P w H h) (e:H a=some (.tup (ks.map kV))):(PD (dG P w)).is h ks a:=by
 obtain⟨_,its,r,o,h1,h2,n,h3,_⟩:=(show ci P w H h a (.tup (ks.map kV))from ok a _ e)
 exact⟨o,its.toArray,n,h1,h2,h3,by simpa using tJ r⟩
theorem vN {kvs:List (List cH×V)} (ok:lp P w H h) (e:Rd H a (.dT kvs)):kvs.length<=sizeLine/\(a==sysModules)=false/\
  ∃xs,KT H kvs xs/\h.DictOfH (PD (dG P w)) a xs:=by
 obtain⟨z,y,xs,r,o,es,ep,h1,h2,h3,h4,h5⟩:=(show ci P w H h a (.dT kvs)from EW ok e)
 refine⟨z,y,xs,r,o,es,ep,h1,h2,h3,h4,λx hx=> ?_,h5⟩
 have all:∀{l:List (List cH×V)} {m:List (List cH×Kx×Kv)},KT H l m->∀x∈m,(PD (dG P w)).is h x.1 x.2.1:=by
  intro l m q
  induction q with
  |nil=>intro x hx;exact nomatch hx
  | @cons p q ps qs hq t ih=>
   intro x hx
   rcases KR.mp hx with e|hx
   ·subst e
    exact rL ok (by rw[<-hq.1];exact hq.2.1)
   ·exact ih x hx
 exact all r x hx
theorem HR {kvs:List (List cH×V)} (ok:lp P w H h) (e:H a=some (.dT kvs)):kvs.length<=sizeLine/\(a==sysModules)=false/\
  ∃xs,KT H kvs xs/\h.DictOfH (PD (dG P w)) a xs:=vN ok (.inl e)
end
def oo (H:Hp) (a:Kx) (y:V) (r:Option V):Prop:=
 (∃kvs k,Rd H a (.dK kvs)/\y=kV k/\r=kt kvs k)\/∃kvs k b,Rd H a (.dT kvs)/\y= .ref b/\H b=some (.tup (k.map kV))/\r=kt kvs k
def xE (H:Hp) (a:Kx) (y v:V) (H':Hp):Prop:=
 (∃kvs k,H a=some (.dK kvs)/\y=kV k/\kvs.length<sizeLine/\H'=b_ H a (.dK (mK kvs k v)))\/
 ∃kvs k b,H a=some (.dT kvs)/\y= .ref b/\H b=some (.tup (k.map kV))/\kvs.length<sizeLine/\H'=b_ H a (.dT (mK kvs k v))
theorem oo.k {H:Hp} {a:Kx} {kvs:List (cH×V)} {k:cH} (e:H a=some (.dK kvs)):oo H a (kV k) (kt kvs k):= .inl ⟨kvs,k, .inl e,rfl,rfl⟩
theorem oo.t {H:Hp} {a b:Kx} {kvs:List (List cH×V)} {k:List cH} (e:H a=some (.dT kvs)) (eb:H b=some (.tup (k.map kV))):oo H a (.ref b) (kt kvs k):= .inr ⟨kvs,k,b, .inl e,rfl,eb,rfl⟩
theorem xE.k {H:Hp} {a:Kx} {kvs:List (cH×V)} {k:cH} {v:V} (e:H a=some (.dK kvs)) (hl:kvs.length<sizeLine):xE H a (kV k) v (b_ H a (.dK (mK kvs k v))):= .inl ⟨kvs,k,e,rfl,hl,rfl⟩
theorem xE.t {H:Hp} {a b:Kx} {kvs:List (List cH×V)} {k:List cH} {v:V} (e:H a=some (.dT kvs)) (eb:H b=some (.tup (k.map kV))) (hl:kvs.length<sizeLine):
  xE H a (.ref b) v (b_ H a (.dT (mK kvs k v))):= .inr ⟨kvs,k,b,e,rfl,eb,hl,rfl⟩
section
variable {X:Cx} {S4:List (Kx×Lk)} {σ:St} {H:Hp} {s:Ky} {a:Kx} {y v:V} {u r:Kv} {o:Option V} {A:Lg} {E:Kv->Ky->Prop}
theorem A3 {Q:Kv->Ky->Prop} (hu:A.units+1<MQ) (I:aP X S4 σ H s) (g:oo H a y (some v)) (ry:bT y u) (h:∀w' s',aP X S4 σ H s'->bT v w'->Q w' s'):
  KP (KS X.prog X.w) A (NQ (.ref a) u) Q E s:=by
 rcases g with ⟨kvs,k,e,ey,l⟩|⟨kvs,k,b,e,ey,eb,l⟩
 ·subst ey
  obtain⟨z,hd,vs,UT,dd⟩:=tK I.hok e
  obtain⟨w',hw,Wu⟩:=lc.some_of (v:=v) (o:=P0 vs k) (by rw[l];exact UT.val k)
  exact wpAny_getItem_of (vM ry) dd.mapOf hw (h w' _ (I.tok _) Wu)
 ·subst ey
  cases (show u=Lh b from ry)
  obtain⟨z,hd,xs,UT,dd⟩:=vN I.hok e
  obtain⟨w',hw,Wu⟩:=lc.some_of (v:=v) (o:=(PL xs k).map (·.2)) (by rw[l];exact UT.val k)
  obtain⟨p,hp,XA⟩:=Option.map_eq_some_iff.mp hw
  refine wpAny_getItem_heap (NN hu) (rL I.hok eb) dd hp ?_
  rw[XA]
  exact h w' _ (I.tok _) Wu
theorem Jx {Q:Kv->Ky->Prop} (hu:A.units+1<MQ) (I:aP X S4 σ H s) (g:oo H a y o) (ry:bT y u) (h:∀s',aP X S4 σ H s'->Q (.bool o.isSome) s'):
  KP (KS X.prog X.w) A (M6 .In u (.ref a)) Q E s:=by
 rcases g with ⟨kvs,k,e,ey,l⟩|⟨kvs,k,b,e,ey,eb,l⟩
 ·subst ey
  obtain⟨z,hd,vs,UT,dd⟩:=tK I.hok e
  refine wpAny_in_of (vM ry) hd dd.mapOf ?_
  rw[<-(UT.val k).isSome_eq,<-l]
  exact h _ (I.tok _)
 ·subst ey
  cases (show u=Lh b from ry)
  obtain⟨z,hd,xs,UT,dd⟩:=vN I.hok e
  refine wpAny_in_heap (NN hu) (rL I.hok eb) hd dd ?_
  have q:=(UT.val k).isSome_eq
  rw[OS]at q
  rw[<-q,<-l]
  exact h _ (I.tok _)
theorem DL {Q:Kv->Ky->Prop} (hu:A.units+1<MQ) (I:aP X S4 σ H s) (g:oo H a y o) (ry:bT y u) (h:∀s',aP X S4 σ H s'->Q (.bool (!o.isSome)) s'):
  KP (KS X.prog X.w) A (M6 .NotIn u (.ref a)) Q E s:=by
 rcases g with ⟨kvs,k,e,ey,l⟩|⟨kvs,k,b,e,ey,eb,l⟩
 ·subst ey
  obtain⟨z,hd,vs,UT,dd⟩:=tK I.hok e
  refine wpAny_notIn_of (vM ry) hd dd.mapOf ?_
  rw[<-(UT.val k).isSome_eq,<-l]
  exact h _ (I.tok _)
 ·subst ey
  cases (show u=Lh b from ry)
  obtain⟨z,hd,xs,UT,dd⟩:=vN I.hok e
  refine wpAny_notIn_heap (NN hu) (rL I.hok eb) hd dd ?_
  have q:=(UT.val k).isSome_eq
  rw[OS]at q
  rw[<-q,<-l]
  exact h _ (I.tok _)
theorem yJ {h':L4} {t':Nat} {ob:HO} (I:aP X S4 σ H s) (mu:Hm (H a)) (hs:P5 a s.heap h') (he:∃q,h'.get? a=some q) (new:ci X.prog X.w (b_ H a ob) h' a ob):
  aP X S4 σ (b_ H a ob) {s with heap:=h',toks:=t'}:=
 I.write (x:=a) (e:=a) mu (.inl rfl) (λb q hb z=>(hs.2 b hb).trans z) he new
theorem FZ {P:KW} {w:La} {H':Hp} {h':L4} {kvs:List (cH×V)} {vs:List (cH×Kv)} (z:kvs.length<=sizeLine) (hd:(a==sysModules)=false) (UT:KV kvs vs) (dd:h'.DictOf (dG P w) a vs):
  ci P w H' h' a (.dK kvs):=⟨z,hd,vs,UT,dd⟩
theorem A4 {H':Hp} {Q:Unit->Ky->Prop} (hu:A.units+1<MQ) (I:aP X S4 σ H s) (g:xE H a y v H') (ry:bT y u) (rv:bT v r) (h:∀s',aP X S4 σ H' s'->Q () s'):
  KP (KS X.prog X.w) A (RG (.ref a) u r) Q E s:=by
 rcases g with ⟨kvs,k,e,ey,l,eH⟩|⟨kvs,k,b,e,ey,eb,l,eH⟩
 ·subst ey eH
  obtain⟨z,hd,vs,UT,dd⟩:=EX I.hok e
  have hz:vs.length<=sizeLine:=by rw[<-UT.length];exact z
  have hl:(mK kvs k v).length<=sizeLine:=by have:=qk kvs k v;omega
  refine wpAny_setItem_pairs (hsz:=hz) (vM ry) dd λh' Zb hs=>h _ ?_
  have he:∃q,h'.get? a=some q:=let ⟨q,_,_,hq,_⟩:=Zb;⟨q,hq⟩
  exact yJ I (by rw[e];exact MF) hs he (FZ hl hd (UT.put k rv) Zb)
 ·subst ey eH
  cases (show u=Lh b from ry)
  obtain⟨z,hd,xs,UT,dd⟩:=HR I.hok e
  have hz:xs.length<=sizeLine:=by rw[<-OD UT];exact z
  have hl:(mK kvs k v).length<=sizeLine:=by have:=qk kvs k v;omega
  refine wpAny_setItem_heap (hsz:=hz) (NN hu) (rL I.hok eb) dd λh' Zb hs=>h _ ?_
  obtain⟨q,es,ep,hq,h2,h3,h4,_,h5⟩:=Zb
  refine yJ I (by rw[e];exact MF) hs ⟨q,hq⟩ ⟨hl,hd,_,(UT.put k eb rv).keeps λc ys ec=> ?_,q,es,ep,hq,h2,h3,h4,h5⟩
  rw[az (Hl ec e (λz=>nomatch z))]
  exact ec
end
section
variable {X:Cx} {S4:List (Kx×Lk)} {σ:St} {H:Hp} {s:Ky} {a:Kx} {kvs:List (cH×V)} {k:cH} {u:Kv} {A:Lg} {E:Kv->Ky->Prop}
theorem HS {Q:Kv->Ky->Prop} (I:aP X S4 σ H s) (e:Rd H a (.dK kvs)) (h:∀t s',aP X S4 σ H s'->Q (.int kvs.length t) s'):KP (KS X.prog X.w) A (call (.builtin "len") [.ref a]) Q E s:=by
 obtain⟨z,hd,vs,UT,dd⟩:=tK I.hok e
 refine call_len_dict hd dd (by rw[<-UT.length];rw[M3]at z;omega) ?_
 rw[<-UT.length]
 exact h _ _ (I.tok _)
end
def HU (i:KI):Prop:=∀ov iv,P_ i false ov iv=operate [ov,iv] (NQ ov iv)
theorem DM {prog:KW} {w:La} {A:Lg} {E:Kv->Ky->Prop} {s:Ky} {env:Mm} {value TV:KI} {pos:Ls} {T id:String} {Q:Kv->Ky->Prop}
  (hl:typeLookup (.type T) "__getitem__"=pure (some (.builtin id))) (hs:HU TV)
  (h:KP (KS prog w) A (L5 value env) (λo s₁=>KP (KS prog w) A (L5 TV env) (λi s₂=>s₂.TypeIs o T/\KP (KS prog w) A (NQ o i) Q E s₂) E s₁) E s):
  KP (KS prog w) A (L5 (.Subscript value TV pos) env) Q E s:=by
 refine Qm (Ms h (λo s₁ h₁=>Ms h₁ (λi s₂ h₂=> ?_) λ_ _ x=>x) λ_ _ x=>x)
 obtain⟨hT,h₂⟩:=h₂
 unfold OL
 refine Kz ?_
 rw[getitemInPython_of_ne hT.not_modules]
 refine Kz (wpAny_specialOf hT hl ?_)
 have TU:KP (KS prog w) A (P_ TV false o i) (λr s₃=>KP (KS prog w) A (letTemporaryGo value o r>>=λ_=>pure r) Q E s₃) E s₂:=by
  rw[hs o i]
  exact wpAny_operating (Ms h₂ (λr s₃ h₃=>Kz (wpAny_letTemporaryGo (KN h₃))) λ_ _ x=>x)
 first
  |exact KN (Kz TU)
  |exact Kz (KN (Kz TU))
  |exact Kz TU
theorem vO {X:Cx} {S4:List (Kx×Lk)} {σ:St} {H:Hp} {s:Ky} {a:Kx} {y:V} {o:Option V} (I:aP X S4 σ H s) (g:oo H a y o):s.TypeIs (.ref a) "dict":=by
 rcases g with ⟨kvs,k,e,_,_⟩|⟨kvs,k,b,e,_,_,_⟩
 ·obtain⟨_,_,vs,_,dd⟩:=tK I.hok e
  exact dd.typeIs
 ·obtain⟨_,_,xs,_,dd⟩:=vN I.hok e
  exact dd.typeIs
def HV (td ty:TE):TE:=λσ H Q=>td σ H λx H1=>ty σ H1 λy H2=>∃a v,x= .ref a/\oo H2 a y (some v)/\Q v H2
def F_ (ty td:TE):TE:=λσ H Q=>ty σ H λy H1=>td σ H1 λx H2=>∃a o,x= .ref a/\oo H2 a y o/\Q (.bl o.isSome) H2
def uC (ty td:TE):TE:=λσ H Q=>ty σ H λy H1=>td σ H1 λx H2=>∃a o,x= .ref a/\oo H2 a y o/\Q (.bl (!o.isSome)) H2
def HW (td ty tv:TE):TS:=λD σ H=>tv σ H λv H1=>td σ H1 λx H2=>ty σ H2 λy H3=>∃a H4,x= .ref a/\xE H3 a y v H4/\D.nx σ H4
section
variable {X:Cx} {o i e value:KI} {pos Ss ZC:Ls} {td ty tv:TE}
theorem DN (hu:X.A.units+1<MQ) (ho:PE X o td) (hi:PE X i ty) (hs:HU i):PE X (.Subscript o i pos) (HV td ty):=by
 intro S4 s σ H Q I h
 refine DM PySem.F.slot_dict_getitem.lookup hs (cV (ho S4 s σ H _ I h) λu s1 ⟨x,H1,I1,rx,q1⟩=>cV (hi S4 s1 σ H1 _ I1 q1) λiv s2 z_=> ?_)
 obtain⟨y,H2,I2,ry,a,v,ex,g,q2⟩:=z_
 subst ex
 obtain rfl:u=Lh a:=rx
 exact⟨vO I2 g,A3 hu I2 g ry λw' s3 I3 Wu=>⟨v,H2,I3,Wu,q2⟩⟩
theorem BB (hu:X.A.units+1<MQ) (hi:PE X i ty) (ho:PE X o td):PC X .In i o (F_ ty td):=by
 intro S4 s σ H Q I h
 refine cV (hi S4 s σ H _ I h) λiv s1 ⟨y,H1,I1,ry,q1⟩=>cV (ho S4 s1 σ H1 _ I1 q1) λu s2 z_=> ?_
 obtain⟨x,H2,I2,rx,a,ov,ex,g,q2⟩:=z_
 subst ex
 obtain rfl:u=Lh a:=rx
 exact Jx hu I2 g ry λs3 I3=>⟨.bl ov.isSome,H2,I3,rfl,q2⟩
theorem tL (hu:X.A.units+1<MQ) (hi:PE X i ty) (ho:PE X o td):PC X .NotIn i o (uC ty td):=by
 intro S4 s σ H Q I h
 refine cV (hi S4 s σ H _ I h) λiv s1 ⟨y,H1,I1,ry,q1⟩=>cV (ho S4 s1 σ H1 _ I1 q1) λu s2 z_=> ?_
 obtain⟨x,H2,I2,rx,a,ov,ex,g,q2⟩:=z_
 subst ex
 obtain rfl:u=Lh a:=rx
 exact DL hu I2 g ry λs3 I3=>⟨.bl (!ov.isSome),H2,I3,rfl,q2⟩
theorem DO (hu:X.A.units+1<MQ) (ho:PE X o td) (hi:PE X i ty) (hv:PE X value tv) (hs:LI value (some (.Subscript o i Ss)) pos.line X.env=pure false):
  PS X (.Assign [.Subscript o i Ss] value pos) (HW td ty tv):=by
 intro S4 s σ H D I h
 refine wpAny_Assign_Subscript (cV (hv S4 s σ H _ I h) λr s1 ⟨v,H1,I1,rv,q1⟩=>cV (ho S4 s1 σ H1 _ I1 q1) λu s2 ⟨x,H2,I2,rx,q2⟩=>cV (hi S4 s2 σ H2 _ I2 q2) λiv s3 z_=> ?_) hs
 obtain⟨y,H3,I3,ry,a,H4,ex,g,q3⟩:=z_
 subst ex
 obtain rfl:u=Lh a:=rx
 exact A4 hu I3 g ry rv λs4 I4=>⟨σ,H4,I4,q3⟩
end
section
variable {X:Cx} {pos:Ls}
end
section
variable {X:Cx} {S4:List (Kx×Lk)} {σ:St} {H:Hp} {s:Ky} {a:Kx} {y d:V} {u r:Kv} {o:Option V} {A:Lg} {E:Kv->Ky->Prop}
end
section
variable {X:Cx} {o e f:KI} {Sl Sh:Ls} {td ty tx:TE}
end
section
variable {X:Cx} {S4:List (Kx×Lk)} {σ:St} {H:Hp} {s:Ky} {a:Kx} {kvs:List (cH×V)} {A:Lg} {E:Kv->Ky->Prop}
end
section
variable {X:Cx} {S4:List (Kx×Lk)} {σ:St} {H:Hp} {s:Ky} {a:Kx} {y:V} {u:Kv} {A:Lg} {E:Kv->Ky->Prop}
end
end L2
namespace Att
open PySem PySem.W PySem.Calls PyProof.Rows
theorem qJ {P:Params} {h:L4}:∀(ns:List Int) (vs:List Kv),WellAll P h vs (ns.map WData.int)->O_ vs ns:=by
 intro ns
 induction ns with
 |nil=>
  intro vs w
  rw[Ma]at w
  cases w
  exact .nil
 |cons n ns ih=>
  intro vs w
  rw[KO]at w
  cases w with
  |cons a b=>
   cases a
   exact .cons _ _ (ih _ b)
theorem A5 {l:OpenLaw} {n:Nat} (hn:l.most=some n) {P:Params} {h:L4} {args:List WData} {XQ:List Kv}
  (Xo:l.row.toRowW.claim.pre args=true) (ZK:WellAll P h XQ args):
  ∃a vs ns,XQ=[Lh a]/\args=[WData.list (ns.map WData.int)]/\h.get? a=some {cls:= .type "list",data:= .seq vs.toArray}/\O_ vs ns/\ns.length<=n:=by
 have a1q:WShape.hasAll [] args [.list .int]=true:=(pre_splitW Xo).1
 have hc:l.pre.holds [] {args:=args}=true:=(pre_splitW Xo).2
 obtain⟨d,r,rfl,h1,h2⟩:=hasAllW_cons a1q
 obtain rfl:=hasAllW_nil h2
 obtain⟨xs,rfl,h3⟩:=hasW_list h1
 obtain⟨ns,rfl⟩:=items_int h3
 have Sq:ns.length<=n:=by
  unfold OpenLaw.pre at hc
  have h4:(WTm.not (.lt (.lit (.int (n:Int))) (.len (.arg 0)))).holds [] {args:=[.list (ns.map .int)]}=true:=by
   have h4:=(holds_andW hc).1
   rw[hn]at h4
   exact h4
  have h5:=condW_of h4 (w_not (w_lt w_lit (w_len_list (w_arg rfl))))
  rw[KA]at h5
  refine Pd λq=> ?_
  have q':(n:Int)<((ns.length:Nat):Int):=by omega
  first
   |(rw[decide_eq_true q']at h5;exact absurd h5 (by decide))
   |(simp at h5;omega)
 cases ZK with
 |cons w1 w2=>
  cases w2
  cases w1 with
  |list ho ZL=>exact⟨_,_,ns,rfl,rfl,ho,qJ ns _ ZL,Sq⟩
theorem A6 (l:OpenLaw) (args:List WData):l.row.toRowW.claim.post args (.bool true) args=true:=
 postW_of (r:=l.row.toRowW) (X:=(true==true))
  (show WShape.has [] (.bool true) .bool=true by first|rfl|decide|simp[WShape.has,WShape.arms,WShape.armsAll])
  (show (WTm.eq .res (.lit (.bool true))).value [] {args:=args,res:=some (.bool true),after:=args}=some (.bool (true==true))from w_eq_bool (w_res rfl) w_lit) rfl
theorem attach_call {l:OpenLaw} {n:Nat} {q:KW} {Vw:List Kw} {XP:(Kw->Option Kv)->L4->Prop} {YP:La->L4->Prop} {d:DefRec}
  (hn:l.most=some n) (YB:d.params.defaults=[])
  (call:∀(w:La) (s₀ s₁:Ky) (mg mb:Kw->Option Kv) (fa:Kx) (o:Lk) (pm cd Ts:Kv) (a:Kx) (vs:List Kv) (ns:List Int),
   Ground q Vw [] XP w s₀ mg mb s₁.heap->YP w s₁.heap->
   s₁.heap.get? fa=some o->o.data= .func (docDef d.name d.params d.body d.scope pm cd Ts)->s₁.heap.CodeRec cd d.name->mg d.name=some (.ref fa)->
   s₁.heap.get? a=some {cls:= .type "list",data:= .seq vs.toArray}->O_ vs ns->ns.length<=n->s₁.gens= #[]->
   NP (KS l.prog w) P1 (.call (.ref fa) ⟨[.ref a],[]⟩) (λr s'=>r= .ok (.ret (.bool true))/\OldK s₁.heap s'.heap/\s'.os=s₁.os/\NO s'.gens) s₁):
  WalkO q Vw XP YP l.row.toRowW d [] (λf vs=>Rx f vs):=by
 intro w s₀ s₁ mg mb G Y fa o pm cd Ts dV kV ho hd Tu hD ZM hg args XQ as Xo a1r a1s ZK a3q
 obtain rfl:dV= .none:=Dflts.none hD YB
 obtain rfl:kV= .none:=Dflts.noKw hD
 obtain⟨a,vs,ns,rfl,rfl,XR,WZ,Sq⟩:=A5 hn Xo ZK
 refine enter_call (NJ (call w s₀ s₁ mg mb fa o pm cd Ts a vs ns G Y ho (fd_plain hd) Tu ZM XR WZ Sq hg) λr s' hq=> ?_)
 obtain⟨rfl,h2,h3,h4⟩:=hq
 exact⟨.inl ⟨.bool true, .bool true,[],rfl,λ_=>rfl, .bool true,A6 l _,λ_=>⟨OT,λ_ hm=>(nomatch hm)⟩⟩,h2,h3,h4⟩
section
variable {prog:KW} {w:La} {A:Lg} {E:Kv->Ky->Prop} {s:Ky} {K:Frag}
end
end Att
namespace L2
open PySem PySem.Spec PyProof.Rows
theorem jT:∀{vs:List Kv} {ns:List Int},O_ vs ns->bp (ns.map V.int) vs
 |_,_, .nil=> .nil
 |_,_, .cons n t h=> .cons ⟨t,rfl⟩ (jT h)
def G0 (H:Hp):Prop:=∀b,H b=none\/∃o xs,H b=some (.frz o (.lst xs))
theorem BC {P:KW} {w:La} {K:Ku} {mg mb:Kw->Option Kv} {CX:xv} {k:Nat} {fa a:Kx} {fd:M0} {x:Kw} {sp:Sp} {s₁:Ky} {vs:List Kv} {ns:List Int}
  (KX:K.In s₁.heap) (Wi:s₁.heap.Ns KJ mg) (hb:s₁.heap.Ns Rr mb) (a1t:∀x:Kw,x≠"__name__"->mb x=Lu x) (ZN:s₁.heap.NoLimit) (hg:s₁.gens= #[])
  (ha:s₁.heap.get? a=some {cls:= .type "list",data:= .seq vs.toArray}) (hi:O_ vs ns) (hl:ns.length<=sizeLine) (hr:cW k P1)
  (F:∀base:L4,K.In base->base.Ns KJ mg->fJ P w K mg base CX k fa fd [x] sp) (YC:∀(s:Ky) (u:Kv),Q8 s fd ⟨[u],[]⟩ [(x,u)])
  (Xi:∀H:Hp,G0 H->dA K H a (ns.map V.int)->sp [.ref a] H (λv _=>v= .bl true) λ_ _ _=>False)
  (ZO:∀H e s',CX [] H s₁ (λ_ _ _=>False) e s'->False):
  NP (KS P w) P1 (.call (.ref fa) ⟨[.ref a],[]⟩) (λr s'=>r= .ok (.ret (.bool true))/\OldK s₁.heap s'.heap/\s'.os=s₁.os/\NO s'.gens) s₁:=by
 have rv:=jT hi
 have ZP:=hi.length
 have YD:∀H:Hp,G0 H->dA K H a (ns.map V.int)->lp P w H s₁.heap->(∀b,H b≠none->b=a)->(H a≠none->K.lookup a=none)->
   NP (KS P w) P1 (.call (.ref fa) ⟨[.ref a],[]⟩) (λr s'=>r= .ok (.ret (.bool true))/\OldK s₁.heap s'.heap/\s'.os=s₁.os/\NO s'.gens) s₁:=by
  intro H hO hS hok hA hK
  have Ww:∀{b:Kx} {o:Lk},s₁.heap.get? b=some o->H b=none->(uv s₁.heap H).get? b=some o:=λe n=>B6 e n
  have Yw:∀{b:Kx} {o:Lk} {es:Array DictEntry} {ep:Nat},s₁.heap.get? b=some o->o.data= .dict es ep->H b=none:=λ{b o es ep} e d=>by
   cases q:H b with
   |none=>rfl
   |some u=>
    have e':b=a:=hA b (by rw[q];simp)
    subst e'
    rw[ha]at e;cases e
    have d':RX vs.toArray _=Data.dict es ep:=d
    cases d'
  have Zc:∀{b:Kx} {m:Kw->Option Kv},s₁.heap.Ns b m->(uv s₁.heap H).Ns b m:=λ{b m} ⟨o,es,ep,e,d,r⟩=>⟨o,es,ep,Ww e (Yw e d),d,r⟩
  have a0T:K.In (uv s₁.heap H):=λb o e=>Ww (KX b o e) (by
   cases q:H b with
   |none=>rfl
   |some u=>
    have e':b=a:=hA b (by rw[q];simp)
    subst e'
    rw[hK (by rw[q];simp)]at e;cases e)
  have hM:Mod K mg (uv s₁.heap H):=⟨a0T,Zc Wi,⟨mb,Zc hb,a1t⟩,let ⟨mc,h1,h2⟩:=ZN;⟨mc,Zc h1,h2⟩⟩
  have e0:xw P w K mg (uv s₁.heap H) P1 [] s₁ H:=⟨rfl,hM,λb o e=>Dq e,P6 (zN _ _),trivial,λb hb=>absurd (show b∈([]:List Kx)from hb) (by simp),hok, .of_eq hg⟩
  refine NJ ((F _ a0T (Zc Wi)).run P1 [] s₁ H ⟨[.ref a],[]⟩ [.ref a] [.ref a] _ _ hr e0 (YC s₁ (.ref a)) (.cons rfl .nil) (Xi H hO hS)) λr s' h=> ?_
  cases r with
  |error e=>exact(ZO H e s' h).elim
  |ok fl=>
   cases fl with
   |next=>exact Mf h
   |brk=>exact Mf h
   |cont=>exact Mf h
   |ret u=>
    obtain⟨v,H',os,bare,un,ZQ,r',q⟩:=h
    have q':v= .bl true:=q
    subst q'
    obtain rfl:u=Qh true:=r'
    refine⟨rfl,OldK.of_keep λb o e=> ?_,os,bare⟩
    cases q:H b with
    |none=>exact un.keep b o e q (by intro z;exact absurd (show b∈([]:List Kx)from z) (by simp)) (by simp)
    |some u=>
     rcases hO b with z|⟨ob,xs,z⟩
     ·rw[q]at z;cases z
     ·have z2:=un.frzs b ob _ z
      obtain⟨e1,_⟩:=hok b _ z
      obtain⟨e2,_⟩:=ZQ b _ z2
      rw[e]at e1;cases e1
      exact e2
 cases hk:K.lookup a with
 |some o=>
  have e:=KX a o hk
  rw[ha]at e
  cases e
  refine YD (λ_=>none) (λ_=> .inl rfl) (.inr ⟨_,vs.toArray,_,hk,rfl,rfl,rfl,by rw[KG,ZP];exact hl,by simpa using rv⟩) (λb u z=>by have z':(none:Option HO)=some u:=z;cases z') (λb z=>absurd rfl z) λz=>absurd rfl z
 |none=>
  refine YD (λb=>if b=a then some (.frz {cls:= .type "list",data:= .seq vs.toArray} (.lst (ns.map V.int)))else none) (λb=> ?_) (.inl (.inr ⟨{cls:= .type "list",data:= .seq vs.toArray},if_pos rfl⟩)) (λb u z=> ?_) (λb z=> ?_) λ_=>hk
  ·by_cases hb:b=a
   ·exact .inr ⟨_,_,if_pos hb⟩
   ·exact .inl (if_neg hb)
  ·by_cases hb:b=a
   ·have z':=(if_pos hb).symm.trans z
    cases z'
    subst hb
    exact⟨ha,by rw[KA];exact hl,vs,_,rv,ha⟩
   ·have z':=(if_neg hb).symm.trans z
    cases z'
  ·by_cases hb:b=a
   ·exact hb
   ·exact absurd (if_neg hb) z
end L2
namespace L2
open PySem PySem.Spec PyProof.Rows
theorem DP {l:PM} {n k:Nat} {q:KW} {Vw:List Kw} {XP:(Kw->Option Kv)->L4->Prop} {YP:La->L4->Prop} {d:DefRec} {K:Params->Ku} {CX:La->xv} {sp:La->Sp} {x:Kw}
  (hn:l.most=some n) (XM:n<=sizeLine) (YB:d.params.defaults=[]) (hr:cW k P1)
  (hY:∀(w:La) (h:L4),YP w h->(K w.params).In h)
  (F:∀(w:La) (mg:Kw->Option Kv) (fa:Kx) (h:L4),(K w.params).In h->h.Ns KJ mg->mg d.name=some (.ref fa)->
   ∃fd:M0,(∀(s:Ky) (u:Kv),Q8 s fd ⟨[u],[]⟩ [(x,u)])/\
    ∀base:L4,(K w.params).In base->base.Ns KJ mg->fJ l.prog w (K w.params) mg base (CX w) k fa fd [x] (sp w))
  (Xi:∀(w:La) (H:Hp) (a:Kx) (ns:List Int),ns.length<=n->G0 H->dA (K w.params) H a (ns.map V.int)->sp w [.ref a] H (λv _=>v= .bl true) λ_ _ _=>False)
  (ZO:∀(w:La) (H:Hp) (s:Ky) (e:Kv) (s':Ky),CX w [] H s (λ_ _ _=>False) e s'->False):
  RQ q Vw XP YP l.row.toRowW d [] (λf vs=>Rx f vs):=by
 refine Att.attach_call hn YB λw s₀ s₁ mg mb fa o pm cd Ts a vs ns G Y ho hd Tu ZM XR WZ Sq hg=> ?_
 have KX:=hY w _ Y
 obtain⟨fd,hb,hF⟩:=F w mg fa _ KX G.T.g ZM
 exact BC KX G.T.g G.T.b G.T.builtins G.T.nolimit hg XR WZ (Lq Sq XM) hr hF hb (λH hO hS=>Xi w H a ns Sq hO hS) λH e s'=>ZO w H s₁ e s'
end L2
namespace L2
open PySem PySem.Spec PyProof.Rows
def cN (s:L9) (j:Nat):L9:=match s with
 | .ClassDef _ _ _ body _ _ _ _ _ _ _=>body.getD j (.Pass ⟨0,0,0,0⟩)
 |_=> .Pass ⟨0,0,0,0⟩
def dr (s:L9):Arguments:=match s with
 | .FunctionDef _ a _ _ _ _ _ _ _ _=>a
 |_=>{posonlyargs:=[],args:=[],vararg:=none,kwonlyargs:=[],kw_defaults:=[],kwarg:=none,defaults:=[]}
def bK (s:L9):List L9:=match s with
 | .FunctionDef _ _ b _ _ _ _ _ _ _=>b
 |_=>[]
def ak (s:L9):MB:=match s with
 | .FunctionDef _ _ _ _ _ _ sc _ _ _=>sc
 |_=>{kind:= .function,names:=[],isGenerator:=false,isCoroutine:=false}
abbrev JS:xv:=λ_ _ _ _ _ _=>False
structure yK (K:Ku) (x qual:Kw) (st:L9) (f:Kx) (fd:M0):Prop where
 ex:∃(oc:Kv) (od:Option Kx) (kV Ts pm:Kv) (an:Option Kx) (Sb ct:Kv) (Vm:Array (Option Kv)),
  fd=LF x qual (dr st) (bK st) (ak st) .none kV Ts pm an Sb ct/\K.lookup f=some ⟨oc,od, .func fd,Vm⟩/\MS K Sb qual=true
 kp:Ly K (.ref f)=true
section
variable {P:KW} {w:La} {K:Ku} {mg:Kw->Option Kv} {base:L4}
theorem yK.ok {x qual:Kw} {st:L9} {f:Kx} {fd:M0} {N ps:List Kw} {k:Nat} {sp:Sp} (F:yK K x qual st f fd) (S:aB N ps (ak st)) (len:∀vs H Q E,sp vs H Q E->vs.length=ps.length)
  (Sw:∀(Sb:Kv) (A:Lg) (outer:List Mm) (s:Ky) (H:Hp) (vs:List V) (Q:VK) (E:XK),cW k (A.deeper (Mp qual (ak st) s.heap.objs.size f Sb))->sp vs H Q E->
   ∃t,rA (iU JS P w K mg base N qual (ak st) f Sb A outer s H E).nox (bK st) t/\t {nx:=λ_ H'=>Q .non H',rt:=Q} (dC N vs) H):fJ P w K mg base JS (k+1) f fd ps sp:=by
 obtain⟨oc,od,kV,Ts,pm,an,Sb,ct,Vm,rfl,lk,Tu⟩:=F.ex
 refine ET lk Tu S len λA outer s H vs Q E hr Xi=> ?_
 obtain⟨t,h,q⟩:=Sw Sb A outer s H vs Q E hr Xi
 exact⟨t,h.nox,q⟩
theorem yK.binds {x qual:Kw} {st:L9} {f:Kx} {fd:M0} {ps:List Kw} (F:yK K x qual st f fd)
  (h:∀(kV Ts pm:Kv) (an:Option Kx) (Sb ct:Kv) (us:List Kv),us.length=ps.length->ME (LF x qual (dr st) (bK st) (ak st) .none kV Ts pm an Sb ct) ⟨us,[]⟩=pure (ps.zip us)):gf K fd ps []:=by
 obtain⟨oc,od,kV,Ts,pm,an,Sb,ct,Vm,rfl,lk,Tu⟩:=F.ex
 exact .all (h kV Ts pm an Sb ct)
theorem nB {x qual:Kw} {st:L9} {f:Kx} {oc:Kv} {od an:Option Kx} {Vm:Array (Option Kv)} {kV Ts pm Sb ct:Kv} (l:K.lookup f=some ⟨oc,od, .func (LF x qual (dr st) (bK st) (ak st) .none kV Ts pm an Sb ct),Vm⟩)
  (c:MS K Sb qual=true) (k:Ly K (.ref f)=true):yK K x qual st f (LF x qual (dr st) (bK st) (ak st) .none kV Ts pm an Sb ct):=⟨⟨oc,od,kV,Ts,pm,an,Sb,ct,Vm,rfl,l,c⟩,k⟩
end
theorem bJ {A:Lg} {k:Nat} (hr:cW k A):A.units+1<MQ:=OA (Nat.add_le_add_left (by decide:1<=64) _) hr.units
section
variable {X:Cx}
theorem pv (i:Nat) {x:Kw} {pos:Ls} (hN:X.N[i]? =some x:=by rfl) (hv:pz X.env.scope x:=by first|exact Lx rfl|exact Lj (Lx rfl)|exact Lj (Lj rfl)) (hd:(x==("__debug__":Kw))=false:=by decide)
  (Tu:(x==("__classdict__":Kw))=false:=by decide):PE X (.Name x pos) (B7 i):=Ft hN hv hd Tu
end
def bd (H H':Hp):Prop:=∀b o,H b=some o->H' b=some o
theorem bd.refl (H:Hp):bd H H:=λ_ _ h=>h
theorem bd.trans {H H1 H2:Hp} (a:bd H H1) (b:bd H1 H2):bd H H2:=λc o h=>b c o (a c o h)
theorem bd.free {H H':Hp} (e:bd H H') {l:Kx} (h:H' l=S3):H l=S3:=by
 cases q:H l with
 |none=>rfl
 |some o=>
  rw[e l o q]at h
  cases h
theorem bd.seq {K:Ku} {H H':Hp} {a:Kx} {xs:List V} (e:bd H H') (h:dA K H a xs):dA K H' a xs:=by
 rcases h with (h|⟨o,h⟩)|h
 ·exact .inl (.inl (e _ _ h))
 ·exact .inl (.inr ⟨o,e _ _ h⟩)
 ·exact .inr h
section
variable {κ:Type} [DecidableEq κ]
end
end L2
namespace L2
open PySem PySem.Spec PyProof.Rows
def pF (env:Mm):List (Kw×LC)->List (Kw×Kx)->List (Kw×Kx)
 |[],cs=>cs
 |(n,k)::r,cs=>pF env r (if k= .free then (match env.cells.lookup n with|some c=>(n,c)::cs|none=>cs)else cs)
theorem rM (env:Mm):∀(names:List (Kw×LC)) (cs:List (Kw×Kx)),(∀y∈names,y.2= .free->∃c,env.cells.lookup y.1=some c)->
  (forIn names cs λ(x:Kw×LC) (r:List (Kw×Kx))=>(if (x.2==Mc)=true then do
    let a<-cellOf env x.1
    pure (Oj ((x.1,a)::r))else pure (Oj r):N_ (ForInStep (List (Kw×Kx)))))=pure (pF env names cs)
 |[],cs,_=>rfl
 |(n,k)::r,cs,h=>by
  rw[List.forIn_cons]
  by_cases hk:k= .free
  ·subst hk
   obtain⟨c,hc⟩:=h (n, .free) K_ rfl
   have e:cellOf env n=pure c:=by unfold cellOf;rw[hc]
   simp only[beq_self_eq_true,if_true,e]
   unfold pF
   simp only[if_true,hc]
   exact rM env r ((n,c)::cs) λy hy=>h y (L0 _ hy)
  ·have hb:(k==Mc)=false:=by simpa using hk
   simp only[hb,LM,if_false]
   unfold pF
   rw[if_neg hk]
   exact rM env r cs λy hy=>h y (L0 _ hy)
theorem yL {scope:MB} {env:Mm} (h:∀y∈scope.names,y.2= .free->∃c,env.cells.lookup y.1=some c):closureFor scope env=pure (pF env scope.names []):=by
 have:=rM env scope.names [] h
 unfold closureFor
 simp only[bind_pure]
 exact this
theorem i4 {env:Mm} {x:Kw} {c:Kx}:∀{names:List (Kw×LC)} {cs:List (Kw×Kx)},(∀c,cs.lookup x=some c->env.cells.lookup x=some c)->(pF env names cs).lookup x=some c->env.cells.lookup x=some c
 |[],cs,h,e=>h c e
 |(n,k)::r,cs,h,e=>by
  unfold pF at e
  refine i4 (names:=r) (λd hd=> ?_) e
  split at hd
  ·split at hd
   ·rename_i c' hc
    rw[LX]at hd
    cases hx:x==n with
    |true=>rw[hx]at hd;have:=eq_of_beq hx;subst this;rw[hc];exact hd
    |false=>rw[hx]at hd;exact h d hd
   ·exact h d hd
  ·exact h d hd
theorem tM {env:Mm} {x:Kw}:∀{names:List (Kw×LC)} {cs:List (Kw×Kx)},(∃c,cs.lookup x=some c)->∃c,(pF env names cs).lookup x=some c
 |[],cs,h=>h
 |(n,k)::r,cs,h=>by
  unfold pF
  refine tM (names:=r) ?_
  split
  ·split
   ·rename_i c' hc
    rw[LX]
    cases x==n with
    |true=>exact⟨_,rfl⟩
    |false=>exact h
   ·exact h
  ·exact h
theorem rN {env:Mm} {x:Kw}:∀{names:List (Kw×LC)} {cs:List (Kw×Kx)},(x,Mc)∈names->(∃c,env.cells.lookup x=some c)->∃c,(pF env names cs).lookup x=some c
 |(n,k)::r,cs,h,hc=>by
  unfold pF
  rcases KR.mp h with h|h
  ·cases h
   obtain⟨c,hc⟩:=hc
   refine tM (names:=r) ?_
   rw[if_pos rfl,hc]
   exact⟨c,by simp⟩
  ·exact rN h hc
def rO (N:List Kw) (names:List (Kw×LC)) (σ:St):St:=
 names.map λx=>if x.2= .free then ((N.findIdx? (·==x.1)).bind λi=>(σ[i]?).join)else none
def dH (X:Cx) (scope:MB) (s:Ky) (H:Hp) (ex:List Kx):Cx:=
 {X with N:=scope.names.map (·.1),s₀:=s,H₀:=H,env:=compEnvC scope (pF X.env scope.names []) s.heap.objs.size X.env,outer:=X.stack,ex:=ex,fn:=λ_=>false,pn:=[],xe:=λ_ _=>False}
structure aY (X:Cx) (scope:MB):Prop where
 kind:scope.kind= .function
 nocell:∀y∈scope.names,y.2≠ .cell
 loc:∀y∈scope.names,y.2= .local->scope.names.lookup y.1=some .local
 free:∀y∈scope.names,y.2= .free->X.env.kindOf y.1=some .cell\/X.env.kindOf y.1=some .free
 nd:(scope.names.map (·.1)).Nodup
theorem gq {env:Mm} {x:Kw}:∀{names:List (Kw×LC)} {k:LC},
  (names.map λ(n,k)=>if (k==Mc&&env.scope.kind== .function&&env.kindOf n==some .cell)then (n,Qv)else (n,k)).lookup x=some k->
  names.lookup x=some k\/(names.lookup x=some .free/\k= .cell)
 |[],k,h=>by simp at h
 |(n,j)::r,k,h=>by
  have ih:= @gq env x r k
  rw[KO,LX]at h
  rw[LX]
  by_cases hc:(j==Mc&&env.scope.kind== .function&&env.kindOf n==some .cell)=true
  ·rw[if_pos hc]at h
   have hj:j= .free:=by
    simp only[LN]at hc
    exact eq_of_beq hc.1.1
   cases hx:x==n with
   |true=>rw[hx]at h;simp at h;exact .inr ⟨by rw[hj],h.symm⟩
   |false=>rw[hx]at h;exact ih h
  ·rw[if_neg hc]at h
   cases hx:x==n with
   |true=>rw[hx]at h;exact .inl h
   |false=>rw[hx]at h;exact ih h
theorem i5 {α β:Type} [BEq α] [LawfulBEq α] {x:α} {b:β}:∀{l:List (α×β)},l.lookup x=some b->(x,b)∈l
 |[],h=>by simp at h
 |(a,c)::r,h=>by
  rw[LX]at h
  cases hx:x==a with
  |true=>rw[hx]at h;have:=eq_of_beq hx;subst this;cases h;exact K_
  |false=>rw[hx]at h;exact L0 _ (i5 h)
section
variable {X:Cx} {S4:List (Kx×Lk)} {σ:St} {H:Hp} {s:Ky} {scope:MB}
theorem aY.cellOf (S:aY X scope) (ok:X.Ok):∀y∈scope.names,y.2= .free->∃c,X.env.cells.lookup y.1=some c:=λy hy hf=>ok.has y.1 (S.free y hy hf)
theorem yM (S:aY X scope) (I:aP X S4 σ H s) {fp:List Kx} (VW:∀b∈fp,og X S4 H b/\b<s.heap.objs.size):(dH X scope s H fp).Ok where
 mod:=I.mod
 kind:=S.kind
 glob:=I.ok.glob
 blt:=I.ok.blt
 above:=L7 _
 inj:=λx y c hx hy=>I.ok.inj x y c (i4 (by intro c h;simp at h) hx) (i4 (by intro c h;simp at h) hy)
 has:=λx hx=>by
  have hm:(x,Mc)∈scope.names:=by
   rcases hx with hx|hx
   ·rcases gq hx with h|⟨h,_⟩
    ·exact absurd rfl (S.nocell _ (i5 h))
    ·exact i5 h
   ·rcases gq hx with h|⟨h,_⟩<;>exact i5 h
  exact rN hm (S.cellOf I.ok _ hm rfl)
 cab:=λx c h=>by cases h
 hd:=I.ok.hd
 frames:=I.ok.frames
 stk:= .inl rfl
 exf:=λb hb=>⟨Lo (VW b hb).2,λx c hx=>(VW b hb).1.2.2.2.2.1 x c (i4 (by intro c h;simp at h) hx)⟩
 bs:=I.bs
 bsz:=Lq I.ok.bsz I.sz
 noex:=λb o e hb=>by
  rcases(VW b hb).1.2.2.2.1 with h|h
  ·exact I.ok.noex b o e h
  ·have h1:b<X.base.objs.size:=KZ e
   exact LP _ (Ln h1 (Lq I.ok.bsz h))
 exfs:=λb hb hc=>by
  have:=I.stkSub b hc
  rcases KR.mp this with h|h
  ·exact(VW b hb).1.2.1 h
  ·exact(VW b hb).1.2.2.1 h
 funs:=I.stack
 frf:=I.stkFree
theorem G1 (S:aY X scope) (I:aP X S4 σ H s) {fp:List Kx} (VW:∀b∈fp,og X S4 H b/\b<s.heap.objs.size) {h':L4} {t':Nat}
  (hn:h'.Ns s.heap.objs.size λ_=>none) (k:∀b o,s.heap.get? b=some o->h'.get? b=some o):
  aP (dH X scope s H fp) [] (rO X.N scope.names σ) H {s with heap:=h',toks:=t'}where
 ok:=yM S I VW
 os:=rfl
 bare:=I.bare
 base:=Un.kept k
 loc:=by
  refine⟨_,hn,λi x v hi hv _=> ?_⟩
  have Wx:(scope.names.map (·.1))[i]? =some x:=hi
  rw[L8]at Wx
  unfold rO at hv
  rw[L8]at hv
  cases e:scope.names[i]? with
  |none=>rw[e]at Wx;cases Wx
  |some y=>
   rw[e]at Wx hv
   have hx:y.1=x:=by simpa using Wx
   have hy:y∈scope.names:=M8 e
   simp only[N5,OU]at hv
   by_cases hf:y.2= .free
   ·rw[if_pos hf]at hv
    cases ei:X.N.findIdx? (·==y.1)with
    |none=>rw[ei]at hv;cases hv
    |some j=>
     rw[ei]at hv
     have hj:σ[j]? =some (some v):=by
      cases e2:σ[j]? with
      |none=>simp[e2]at hv
      |some o=>simp only[Pe,e2,Option.join_some]at hv;rw[hv]
     obtain⟨hl,hp,_⟩:=List.findIdx?_eq_some_iff_getElem.mp ei
     have hN:X.N[j]? =some x:=by
      rw[Ld hl]
      have:=eq_of_beq hp
      rw[this,hx]
     have hk:=S.free y hy hf
     rw[hx]at hk
     obtain⟨m,_,hm⟩:=I.loc
     obtain⟨u,ru,lu⟩:=hm j x v hN hj (by
      rcases hk with q|q
      ·exact .inr (.inl q)
      ·exact .inr (.inr q))
     refine⟨u,ru,?_⟩
     rcases lu with ⟨q,_⟩|⟨_,c,hc,Ws⟩
     ·rcases hk with z|z<;>rw[z]at q<;>cases q
     ·have VC:(x,Mc)∈scope.names:=by
       have:y=(x,Mc):=by cases y;simp at hx hf;rw[hx,hf]
       rw[<-this];exact hy
      obtain⟨d,hd⟩:=rN (cs:=[]) VC (S.cellOf I.ok _ VC rfl)
      have a1u:d=c:=by
       have:=i4 (cs:=[]) (by intro c h;simp at h) hd
       rw[this]at hc
       exact LG hc
      refine .inr ⟨?_,d,hd,?_⟩
      ·show (R0 scope X.env).names.lookup x=some .cell\/(R0 scope X.env).names.lookup x=some .free
       have a1v:∃k,(R0 scope X.env).names.lookup x=some k:=by
        unfold R0
        cases el:(scope.names.map λ(n,k)=>if (k==Mc&&X.env.scope.kind== .function&&X.env.kindOf n==some .cell)then (n,Qv)else (n,k)).lookup x with
        |some k=>exact⟨k,rfl⟩
        |none=>
         exfalso
         rw[List.lookup_eq_none_iff]at el
         have:=el (if (Mc==Mc&&X.env.scope.kind== .function&&X.env.kindOf x==some .cell)then (x,Qv)else (x,Mc)) (Mv.mpr ⟨_,VC,rfl⟩)
         split at this<;>simp at this
       obtain⟨k,XS⟩:=a1v
       rcases gq XS with h|⟨_,h⟩
       ·have ZR:=i5 h
        have:k= .free:=by
         have nd:=S.nd
         obtain⟨a,ha,e1⟩:=Qo.mp VC
         obtain⟨b,hb,e2⟩:=Qo.mp ZR
         have:a=b:=by
          refine(P4 (h₀:=by simpa using ha) (h₁:=by simpa using hb) nd).mp ?_
          rw[Ri,Ri,e1,e2]
         subst this
         rw[e1]at e2
         cases e2;rfl
        subst this
        exact .inr XS
       ·subst h;exact .inl XS
      ·rw[a1u];exact Ws.keeps k
   ·rw[if_neg hf]at hv;cases hv
 cell:=λx c hx=>by
  obtain⟨v,hv⟩:=I.cell x c (i4 (cs:=[]) (by intro c h;simp at h) hx)
  exact⟨v,hv.keeps k⟩
 free:=I.hok.fresh (L7 _)
 freeC:=λx c hx=>I.freeC x c (i4 (cs:=[]) (by intro c h;simp at h) hx)
 pin:=λp hp=>by cases hp
 hok:=I.hok.kept k
 len:=by simp[dH,rO]
theorem yN (I:aP X S4 σ H s) {fp:List Kx} (VW:∀b∈fp,og X S4 H b/\b<s.heap.objs.size) {τ:St} {H':Hp} {s':Ky} (I':aP (dH X scope s H fp) [] τ H' s') {h':L4} {t':Nat}
  (hs:∀b o,b≠s.heap.objs.size->s'.heap.get? b=some o->h'.get? b=some o):aP X S4 σ H' {s' with heap:=h',toks:=t'}:=by
 have u:Un (q_ X.stack) fp H H' s.heap s'.heap:=I'.base
 have hC:H' s.heap.objs.size=none:=I'.free
 have nC:∀b o,s.heap.get? b=some o->b≠s.heap.objs.size:=λb o e=>Lo (KZ e)
 refine I.call' (ch:=fp) I'.os ⟨?_,?_,u.free,?_,u.tups,u.frzs,u.tbls⟩ (λb o e=> ?_) I'.bare λb hb=> ?_
 ·exact λb o e n a c=>hs b o (nC b o e) (u.keep b o e n a c)
 ·intro b o e n a c
  obtain⟨sl,q⟩:=u.slot b o e n a c
  exact⟨sl,hs b _ (nC b o e) q⟩
 ·intro b o e a
  obtain⟨o',q⟩:=u.there b o e a
  exact⟨o',hs b _ (nC b o e) q⟩
 ·refine(I'.hok b o e).stay (λc v hc q=>hs c v ?_ q) (λ_ q=>q) λ_ _ q=>q
  intro z
  subst z
  rcases hc with z|z
  ·rw[z]at hC;rw[hC]at e;cases e
  ·rw[hC]at z;cases z
 ·obtain⟨h1,h2,h3,h4,h5,h6⟩:=(VW b hb).1
  exact⟨h4,h2,h5,h6⟩
end
def EY (X:Cx) (UH:List KI) (t:TT):Prop:=
 ∀(S4:List (Kx×Lk)) (s:Ky) (σ:St) (H:Hp) (Q:Bool->Hp->Prop),aP X S4 σ H s->t σ H Q->
  KP (KS X.prog X.w) X.A (forIn UH true λc r=>if r=true then do let ok<-Q5 c X.env (L5 c X.env);pure (Oj ok)else pure (Oj r)) (TP X S4 σ Q) X.xe s
theorem DQ {X:Cx}:EY X [] (λ_ H Q=>Q true H):=λ_ _ _ H _ I h=>wpAny_tests_nil ⟨H,I,h⟩
theorem DR {X:Cx} {c:KI} {t:TT} (h:PT X c t):EY X [c] t:=λS4 s σ H Q I q=>wpAny_tests_one (h S4 s σ H Q I q)
def rP (J:It) (g:TG) (tt:TT) (te:TE) (D:Kx) (τ0:St) (Q:Hp->Prop) (H1:Hp):Prop:=
 ∃W:Nat->Nat->List V->St->Hp->Prop,(∃m,W 0 m [] τ0 H1)/\∀i m ys τ H,W i m ys τ H->H D=some (.lst ys)/\
  ((J.stop i H/\Q H)\/(J.go i H/\ys.length<sizeLine/\∀x H',J.yld i H x H'->g x τ H' λτ2 H2=>tt τ2 H2 λb H3=>
   if b=true then te τ2 H3 λy H4=>H4 D=some (.lst ys)/\∃m',m'<m/\W (i+1) m' (ys++[y]) τ2 (b_ H4 D (.lst (ys++[y])))else ∃m',m'<m/\W (i+1) m' ys τ2 H3))
def HX (N:List Kw) (names:List (Kw×LC)) (wi:TI) (g:TG) (tt:TT) (te:TE):TE:=λσ H Q=>
 wi σ H λJ H1=>∀D,H1 D=none->rP J g tt te D (rO N names σ) (λH2=>Q (.ref D) H2) (b_ H1 D (.lst []))
section
variable {X:Cx} {UU tg Sz:KI} {UH:List KI} {scope:MB} {pos:Ls} {wi:TI} {g:TG} {tt:TT} {te:TE}
theorem DS (S:aY X scope) (hc:X.calm=true) (hg:∀s H ex,PG (dH X scope s H ex) tg g) (WE:∀s H ex,EY (dH X scope s H ex) UH tt) (Wy:∀s H ex,PE (dH X scope s H ex) UU te)
  {S4:List (Kx×Lk)} {σ:St} {H:Hp} {s:Ky} (I:aP X S4 σ H s) {fp:List Kx} {it D:Kx} {tn:Nat->L4->Prop} {J:It} (T:zQ X.prog X.w X.K tg J fp it tn)
  (VW:∀b∈fp,og X S4 H b/\b<s.heap.objs.size) {Q:Hp->Prop} {R:QJ->Ky->Prop}
  (hR:∀τ H' s',aP (dH X scope s H fp) [] τ H' s'->Q H'->R (.ok .next) s')
  {s1:Ky} {τ0:St} (I1:aP (dH X scope s H fp) [] τ0 H s1) (ht:tn 0 s1.heap) (q:rP J g tt te D τ0 Q H):
  NP (KS X.prog X.w) X.A (.compLoop (.ListComp UU [⟨tg,Sz,UH,0⟩] scope pos) 0 (.ref it) (.ref D) (dH X scope s H fp).env) R s1:=by
 obtain⟨W,⟨m0,w0⟩,turn⟩:=q
 have Wh:∀{H':Hp},(∀b∈fp,H' b=none)->∀b∈fp,og (dH X scope s H fp) [] H' b:=λ{H'} hn b hb=>
  ⟨hn b hb,Lo (VW b hb).2,(yM S I VW).exfs b hb, .inl hb,λx c hx=>(VW b hb).1.2.2.2.2.1 x c (i4 (cs:=[]) (by intro c h;simp at h) hx),λp hp=>by cases hp⟩
 refine codeAny_loop rfl (λn s'=>∃i ys τ H',aP (dH X scope s H fp) [] τ H' s'/\tn i s'.heap/\(∀b∈fp,H' b=none)/\W i n ys τ H') (λn s2 hI=> ?_) m0 ⟨0,[],τ0,H,I1,ht,λb hb=>(VW b hb).1.1,w0⟩
 obtain⟨i,ys,τ,H2,I2,Xh,a0U,w2⟩:=hI
 show KP _ X.A ((compTurn (.ListComp UU [⟨tg,Sz,UH,0⟩] scope pos) 0 (.ref it) (.ref D) (dH X scope s H fp).env).onRaise (λx=>do QS x (dH X scope s H fp).env;theTreesLotGoes x)) _ _ s2
 refine wpAny_noted ?_
 rw[compTurn_list]
 have up:∀{α:Type} {t:N_ α} {Q:α->Ky->Prop} {E:Kv->Ky->Prop} {s:Ky},KP (KS X.prog X.w) X.A t Q (λ_ _=>False) s->KP (KS X.prog X.w) X.A t Q E s:=λh=>Ms h (λ_ _ q=>q) λ_ _ f=>f.elim
 obtain⟨hD,a1w⟩:=turn i n ys τ H2 w2
 rcases a1w with ⟨stop,qn⟩|⟨go,hz,step⟩
 ·refine Kz (O2 (Kz (up (cV (T.done (dH X scope s H fp) rfl rfl rfl hc i [] s2 τ H2 (λ_ _=>False) I2 (Wh a0U) Xh stop) λr s3 z_=> ?_))))
  obtain⟨hr,I3⟩:=z_
  subst hr
  exact KN (hR _ _ _ I3 qn)
 ·refine Kz (O2 (Kz (up (cV (T.item (dH X scope s H fp) rfl rfl rfl hc i [] s2 τ H2 (λ_ _=>False) I2 (Wh a0U) Xh go) λr s3 z_=> ?_))))
  obtain⟨u,hr,h3⟩:=z_
  subst hr
  refine Kz (up (cV h3 λ_ s4 z_=> ?_))
  obtain⟨x,H4,I4,r4,y4,ZS,a1x⟩:=z_
  have a1y:=I4.pinned (Wh a1x) (T.obj _ _ ZS)
  have back:∀{τ7:St} {H7:Hp} {s7:Ky},aP (dH X scope s H fp) ([]++rC fp s4.heap) τ7 H7 s7->aP (dH X scope s H fp) [] τ7 H7 s7/\tn (i+1) s7.heap/\∀b∈fp,H7 b=none:=λI7=>
   ⟨I7.unpinned,T.keep _ _ _ ZS λb hb o e=>(I7.pin (b,o) (Lm _ (Lm _ (kq hb e)))).1,λb hb=>by
    obtain⟨o,e,d⟩:=T.obj _ _ ZS b hb
    exact(I7.pin (b,o) (Lm _ (Lm _ (kq hb e)))).2.1⟩
  refine Kz (up (cV (hg s H fp _ s4 τ H4 x u _ a1y r4 (step x H4 y4)) λ_ s5 z_=> ?_))
  obtain⟨τ5,H5,I5,q5⟩:=z_
  refine Kz (up (cV (WE s H fp _ s5 τ5 H5 _ I5 q5) λok s6 z_=> ?_))
  obtain⟨H6,I6,q6⟩:=z_
  cases ok with
  |false=>
   obtain⟨m',hm,w'⟩:=q6
   obtain⟨a,b,c⟩:=back I6
   exact KN ⟨rfl,m',hm,i+1,ys,τ5,H6,a,b,c,w'⟩
  |true=>
   rw[if_pos rfl]at q6
   refine Kz (Kz (up (cV (Wy s H fp _ s6 τ5 H6 _ I6 q6) λv s7 z_=> ?_)))
   obtain⟨y,H7,I7,r7,a1z,m',hm,w'⟩:=z_
   refine Kz (up (cV (pE (X:=dH X scope s H fp) _ s7 τ5 H7 (.ref D) [y] (.ref D) [v] (λ_ H8=>H8=b_ H7 D (.lst (ys++[y]))) I7 rfl (.cons r7 .nil) ⟨D,ys,y,rfl,rfl,a1z,hz,rfl⟩) λ_ s8 z_=> ?_))
   obtain⟨_,H8,I8,_,e8⟩:=z_
   subst e8
   obtain⟨a,b,c⟩:=back I8
   exact KN (KN ⟨rfl,m',hm,i+1,ys++[y],τ5,_,a,b,c,w'⟩)
theorem vP (S:aY X scope) (hc:X.calm=true) (hg:∀s H ex,PG (dH X scope s H ex) tg g) (WE:∀s H ex,EY (dH X scope s H ex) UH tt) (Wy:∀s H ex,PE (dH X scope s H ex) UU te)
  {S4:List (Kx×Lk)} {σ:St} {H:Hp} {s:Ky} {E:Kv->Ky->Prop} (I:aP X S4 σ H s) {fp:List Kx} {it:Kx} {tn:Nat->L4->Prop} {J:It} (T:zQ X.prog X.w X.K tg J fp it tn)
  (VW:∀b∈fp,og X S4 H b) (ht:tn 0 s.heap) {Q:Kx->Hp->Prop} {RR:Kv->Kx->QJ->Ky->Prop}
  (hR:∀(D:Kx) (H3:Hp) (s3:Ky) (τ:St) (H':Hp) (s':Ky),aP X S4 σ H3 s3->(∀b∈fp,og X S4 H3 b/\b<s3.heap.objs.size)->aP (dH X scope s3 H3 fp) [] τ H' s'->Q D H'->RR (.ref D) s3.heap.objs.size (.ok .next) s')
  (q:∀D,H D=none->rP J g tt te D (rO X.N scope.names σ) (Q D) (b_ H D (.lst []))):
  KP (KS X.prog X.w) X.A (newList []) (λTv s₃=>KP (KS X.prog X.w) X.A (newFunctionEnv scope X.env.globals (pF X.env scope.names []) [] X.env.qual none .none (some X.env)) (λYE s₄=>
   NP (KS X.prog X.w) X.A (.compStart (.ListComp UU [⟨tg,Sz,UH,0⟩] scope pos) 0 (.ref it) Tv {YE with scope:=R0 scope X.env}) (RR Tv YE.locals) s₄) E s₃) E s:=by
 have UZ:∀b∈fp,b<s.heap.objs.size:=λb hb=>by
  obtain⟨o,e,_⟩:=T.obj _ _ ht b hb
  exact KZ e
 refine O3 ?_
 have I3:=I.lnew (ys:=[]) (its:=[]) (t':=s.toks) .nil (Ml _)
 have hD:H s.heap.objs.size=none:=I.hok.fresh (L7 _)
 have ZT:(s.heap.push {cls:= .type "list",data:= .seq ([]:List Kv).toArray}).objs.size=s.heap.objs.size+1:=Nc ..
 have XT:∀b∈fp,og X S4 (b_ H s.heap.objs.size (.lst [])) b/\b<({s with heap:=s.heap.push {cls:= .type "list",data:= .seq ([]:List Kv).toArray},toks:=s.toks}:Ky).heap.objs.size:=λb hb=>by
  refine⟨⟨?_,(VW b hb).2⟩,?_⟩
  ·rw[az (Lo (UZ b hb))];exact(VW b hb).1
  ·show b<(s.heap.push _).objs.size
   rw[ZT]
   exact MM (UZ b hb)
 refine wpAny_newFunctionEnv S.nocell (by intro y hy;simp at hy) (λh₁ YF YG=> ?_) S.kind
 dsimp only at YF YG ⊢
 have k1:∀b o,(s.heap.push {cls:= .type "list",data:= .seq ([]:List Kv).toArray}).get? b=some o->h₁.get? b=some o:=λb o e=>YG.extBut b o (Lo (KZ e)) (KH _ e)
 have I4:=G1 (t':=s.toks) S I3 XT (h':=h₁) YF k1
 have a0V:tn 0 h₁:=T.keep _ _ _ ht λb hb o e=>k1 b o (KH _ e)
 have VD:NP (KS X.prog X.w) X.A (.compLoop (.ListComp UU [⟨tg,Sz,UH,0⟩] scope pos) 0 (.ref it) (.ref s.heap.objs.size) (dH X scope {s with heap:=s.heap.push {cls:= .type "list",data:= .seq ([]:List Kv).toArray},toks:=s.toks} (b_ H s.heap.objs.size (.lst [])) fp).env)
   (RR (.ref s.heap.objs.size) (s.heap.push {cls:= .type "list",data:= .seq ([]:List Kv).toArray}).objs.size) {s with heap:=h₁,toks:=s.toks}:=
  DS S hc hg WE Wy I3 T XT (λτ H' s' I' q'=>hR _ _ _ τ H' s' I3 XT I' q') I4 a0V (q _ hD)
 exact codeAny_compStart_list VD (T.self _ 0 _ _ _ a0V VD)
theorem yO (S:aY X scope) (hc:X.calm=true) (hi:PI X tg Sz wi) (hg:∀s H ex,PG (dH X scope s H ex) tg g) (WE:∀s H ex,EY (dH X scope s H ex) UH tt) (Wy:∀s H ex,PE (dH X scope s H ex) UU te)
  (hs:∀x,Mz Sz X.env x=pure x:=by intro _;rfl):PE X (.ListComp UU [⟨tg,Sz,UH,0⟩] scope pos) (HX X.N scope.names wi g tt te):=by
 intro S4 s σ H Q I h
 rw[eval_ListComp]
 refine Pf (use:=none) rfl hs (yL (S.cellOf I.ok)) S.kind S.loc (cV (hi S4 s σ H _ I h) λv s1 h1=>cV h1 λZ9 s2 h2=> ?_)
 obtain⟨it,fp,tn,J,H2,e,I2,T,Xh,f2,q⟩:=h2
 subst e
 refine vP (Q:=λD H2=>Q (.ref D) H2) (RR:=λTv C=>compPost (KS X.prog X.w) X.A X.xe none (EP X S4 σ Q) Tv C) S hc hg WE Wy I2 T f2 Xh ?_ q
 intro D H3 s3 τ H' s' I3 f3 I' q'
 obtain⟨m,hm,_⟩:=I'.loc
 refine⟨m,hm,λh' Sy=> ?_⟩
 exact⟨.ref D,H',yN (t':=s'.toks) I3 f3 I' λb o hb e=>Sy.extBut b o hb e,rfl,q'⟩
def HY (N:List Kw) (names:List (Kw×LC)) (wi:TI) (g:TG) (tt:TT) (te:TE) (gy:TG):TS:=λD σ H=>
 wi σ H λJ H1=>∀p,H1 p=none->rP J g tt te p (rO N names σ) (λH2=>gy (.ref p) σ H2 D.nx) (b_ H1 p (.lst []))
theorem DT {y:Kw} {py V3:Ls} {gy:TG} (S:aY X scope) (hc:X.calm=true) (hi:PI X tg Sz wi) (hg:∀s H ex,PG (dH X scope s H ex) tg g) (WE:∀s H ex,EY (dH X scope s H ex) UH tt)
  (Wy:∀s H ex,PE (dH X scope s H ex) UU te) (hy:PG X (.Name y py) gy) (VX:LI (.ListComp UU [⟨tg,Sz,UH,0⟩] scope pos) (some (.Name y py)) V3.line X.env=pure true:=by rfl)
  (hs:∀x,Mz Sz X.env x=pure x:=by intro _;rfl):PS X (.Assign [.Name y py] (.ListComp UU [⟨tg,Sz,UH,0⟩] scope pos) V3) (HY X.N scope.names wi g tt te gy):=by
 intro S4 s σ H D I h
 rw[exec_Assign_Name_used _ _ _ _ VX]
 refine Kz (O2 (Kz ?_))
 show KP _ X.A (do let _<-comprehension (.ListComp UU [⟨tg,Sz,UH,0⟩] scope pos) scope X.env _ (newList []) false (L5 Sz X.env) (some (Nq (.Name y py) X.env))) _ _ s
 refine Kz (Ms (Pf (use:=some (Nq (.Name y py) X.env)) (Q:=λ_ s'=>SP X S4 D .next s') rfl hs (yL (S.cellOf I.ok)) S.kind S.loc
  (cV (hi S4 s σ H _ I h) λv s1 h1=>cV h1 λZ9 s2 h2=> ?_)) (λ_ s' hq=>KN (KN hq)) λ_ _ e=>e)
 obtain⟨it,fp,tn,J,H2,e,I2,T,Xh,f2,q⟩:=h2
 subst e
 refine vP (Q:=λp H2=>gy (.ref p) σ H2 D.nx) (RR:=λTv C=>compPost (KS X.prog X.w) X.A X.xe (some (Nq (.Name y py) X.env)) (λ_ s'=>SP X S4 D .next s') Tv C) S hc hg WE Wy I2 T f2 Xh ?_ q
 intro p H3 s3 τ H' s' I3 f3 I' q'
 obtain⟨m,hm,_⟩:=I'.loc
 obtain⟨oC,es,ep,a1A,a0W,a1B,a1C⟩:=hm
 have J1:aP X S4 σ H' s':=yN (t':=s'.toks) (h':=s'.heap) I3 f3 I' λb o _ e=>e
 have a1D:H' s3.heap.objs.size=none:=I'.free
 have a0X:s3.heap.objs.size≠X.env.locals:=λz=>by have:=I3.lt;rw[<-z]at this;exact LP _ this
 have J2:aP X (S4++[(s3.heap.objs.size,oC)]) σ H' s':=J1.pins_of λq hq=>by
  rcases LB.mp hq with hq|hq
  ·exact J1.pin q (Lm _ hq)
  ·have e:q=(s3.heap.objs.size,oC):=by simpa using hq
   subst e
   exact⟨a1A,a1D,a0X,I3.nofs (L7 _),λv z=>by rw[a0W]at z;cases z⟩
 refine cV (hy _ s' σ H' (.ref p) (.ref p) D.nx J2 rfl q') λ_ Yv z_=> ?_
 obtain⟨σ5,H5,I5,q5⟩:=z_
 have hp:=I5.pin (s3.heap.objs.size,oC) (Lm _ (Lm _ K_))
 refine⟨m,⟨oC,es,ep,hp.1,a0W,a1B,a1C⟩,λh' Sy=> ?_⟩
 refine⟨σ5,H5,(I5.unpinned).turned (it:=s3.heap.objs.size) (t':=Yv.toks) (λb o hb e=>Sy.extBut b o hb e) hp.2.1 a0X (.inr I3.sz) (λx c hx z=> ?_) (λq hq z=> ?_),q5⟩
 ·obtain⟨v,o,ho,_⟩:=I3.cell x c hx
  have:=KZ ho
  rw[z]at this
  exact LP _ this
 ·have:=(I3.pin q hq).1
  have:=KZ this
  rw[z]at this
  exact LP _ this
end
end L2
namespace L2
open PySem PySem.Spec PyProof.Rows
section
variable {X:Cx} {e a b st:KI} {te ta tb:TE} {XU:TO} {pos p2 p:Ls}
def Jy (K:Ku) (te:TE) (XU:TO):TE:=λσ H Q=>te σ H λx H1=>XU σ H1 λo H2=>o=some (-1)/\∃a xs,x= .ref a/\dA K H2 a xs/\∀p,H2 p=none->Q (.ref p) (b_ H2 p (.lst xs.reverse))
theorem G2 (he:PE X e te) (V2:PO X (some st) XU):PE X (.Subscript e (.Slice none none (some st) p2) pos) (Jy X.K te XU):=by
 intro S4 s σ H Q I h
 refine Qm (cV (he S4 s σ H _ I h) λv s1 z_=> ?_)
 obtain⟨x,H1,I1,r1,q1⟩:=z_
 refine wpAny_Slice ?_
 rw[OK]
 refine KN ?_
 try rw[OK]
 refine KN ?_
 refine cV (V2 S4 s1 σ H1 _ I1 q1) λvk s2 z_=> ?_
 obtain⟨o,H2,I2,pk,ho,a,xs,ex,hx,q⟩:=z_
 subst ho
 subst ex
 cases r1
 have I3:aP X S4 σ H2 {s2 with heap:=s2.heap.push {cls:= .type "slice",data:= .fields #[.none, .none,vk]}}:=I2.kept (t':=s2.toks) λb ob q=>KH _ q
 obtain⟨its,r,ht,hz⟩:=I3.list hx
 have Sq:=r.length
 show KP (KS X.prog X.w) X.A (OL e (.Slice none none (some st) p2) (.ref a) (.ref s2.heap.objs.size)) (EP X S4 σ Q) X.xe {s2 with heap:=s2.heap.push {cls:= .type "slice",data:= .fields #[.none, .none,vk]}}
 refine tail_any (ops:=[.ref a, .ref s2.heap.objs.size]) ht.isList.typeIs OR.lookup ?_ (by with_unfolding_all rfl)
 refine Pb ht.isList (QQ ..) .none .none pk (by decide) ?_ (by rw[KG]<;>omega)
 rw[PySem.W.krv_pick]
 refine⟨.ref _,_,I3.laid (t':=s2.toks) (o:= .lst xs.reverse) (λb ob q=>KH _ q) (L7 _) ?_,rfl,q _ (I3.hok.fresh (L7 _))⟩
 exact⟨by rw[List.length_reverse];exact hz,its.reverse,0,r.reverse,Li _ rfl⟩
def Jz (K:Ku):List V->Hp->VK->Prop:=λxs H Q=>∃x T t k,xs=[x, .ty T]/\oh K H x t/\LQ K t (.type T)=some k/\Q (.bl k) H
theorem BD:dX X (.builtin "isinstance") (Jz X.K):=by
 intro S4 s σ H xs us Q I rv h
 obtain⟨x,T,t,k,rfl,ty,e,q⟩:=h
 obtain⟨u,w',rfl,ru,Wu⟩:=yB rv
 cases Wu
 exact zZ I ru ty e λtk=>⟨.bl k,H,I.tok tk,rfl,q⟩
theorem rQ:Lu "isinstance"=some (.builtin "isinstance"):=by decide+kernel
def xF (x:Int):List Int->List Int
 |[]=>[x]
 |y::r=>if x<=y then x::y::r else y::xF x r
def cR:List Int->List Int
 |[]=>[]
 |x::r=>xF x (cR r)
theorem pG (x:Int):∀l:List Int,(xF x l).Perm (x::l)
 |[]=>Nd _
 |y::r=>by
  unfold xF
  split
  ·exact Nd _
  ·exact(RH y (pG x r)).trans (List.Perm.swap x y r)
theorem iV:∀l:List Int,(cR l).Perm l
 |[]=>Nd _
 |x::r=>(pG x _).trans (RH x (iV r))
theorem ql (x:Int):∀{l:List Int},l.Pairwise (·<=·)->(xF x l).Pairwise (·<=·)
 |[],_=>by simp[xF]
 |y::r,h=>by
  obtain⟨h1,h2⟩:=LW.mp h
  unfold xF
  split
  ·rename_i ZU
   refine LW.mpr ⟨λz hz=> ?_,h⟩
   rcases KR.mp hz with rfl|hz
   ·exact ZU
   ·exact Mw ZU (h1 z hz)
  ·rename_i ZU
   refine LW.mpr ⟨λz hz=> ?_,ql x h2⟩
   rcases KR.mp ((pG x r).mem_iff.mp hz)with rfl|hz
   ·omega
   ·exact h1 z hz
theorem iK:∀l:List Int,(cR l).Pairwise (·<=·)
 |[]=>OT
 |x::r=>ql x (iK r)
theorem hW:∀{a b:List Int},a.Perm b->a.Pairwise (·<=·)->b.Pairwise (·<=·)->a=b
 |[],b,p,_,_=>(List.nil_perm.mp p).symm
 |x::a,[],p,_,_=>(List.perm_nil.mp p)
 |x::a,y::b,p,h1,h2=>by
  obtain⟨a1,a2⟩:=LW.mp h1
  obtain⟨b1,b2⟩:=LW.mp h2
  have e:x=y:=by
   have hx:x∈y::b:=p.mem_iff.mp K_
   have hy:y∈x::a:=p.mem_iff.mpr K_
   rcases KR.mp hx with h|h
   ·exact h
   ·rcases KR.mp hy with h'|h'
    ·exact h'.symm
    ·exact Int.le_antisymm (a1 y h') (b1 x h)
  subst e
  rw[hW ((List.perm_cons x).mp p) a2 b2]
theorem uD:dX X (.builtin "sorted") (λxs H Q=>∃p ns,xs=[.ref p]/\dA X.K H p (ns.map V.int)/\ns.length<64/\∀l,H l=none->Q (.ref l) (b_ H l (.lst ((cR ns).map V.int)))):=by
 intro S4 s σ H xs us Q I rv h
 obtain⟨p,ns,rfl,hx,hl,q⟩:=h
 obtain⟨u,rfl,ru⟩:=jR rv
 cases ru
 obtain⟨its,r,ht,hz⟩:=I.list hx
 have hi:=kr r
 have Sq:=r.length
 rw[KA]at Sq
 refine sorted_ints ht.isList hi (by omega) λout ZV a1 a2 a3=> ?_
 obtain⟨e,he⟩:=sortedAll_at s.heap its out
 have en:ZV=cR ns:=hW (a2.trans (iV ns).symm) a3 (iK ns)
 subst en
 have k:∀b o,s.heap.get? b=some o->(sortedAll s.heap its out).get? b=some o:=λb o e=>sortedAll_old e
 refine⟨.ref (s.heap.objs.size+1),_,I.laid (t':=s.toks) (o:= .lst ((cR ns).map V.int)) k (R9 _) ?_,rfl,q _ (I.hok.fresh (R9 _))⟩
 refine⟨?_,out.toList,e,jT a1,by simpa[seqObj]using he⟩
 have h1:=a2.length_eq
 rw[KA]at hz ⊢
 omega
end
end L2
namespace L2
open PySem PySem.Spec PyProof.Rows
section
variable {P:KW} {w:La} {H:Hp} {h h':L4} {a:Kx} {o:HO}
theorem ci.got (x:ci P w H h a o):∃u,h.get? a=some u:=by
 cases o with
 |lst xs=>obtain⟨_,_,_,_,e⟩:=x;exact⟨_,e⟩
 |tup xs=>obtain⟨_,_,_,p⟩:=x;obtain⟨o,e,_⟩:=p;exact⟨_,e⟩
 |dK kvs=>obtain⟨_,_,_,_,o,_,_,e,_⟩:=x;exact⟨_,e⟩
 |dT kvs=>obtain⟨_,_,_,_,o,_,_,e,_⟩:=x;exact⟨_,e⟩
 |set S n=>obtain⟨o,_,_,_,e,_⟩:=x;exact⟨_,e⟩
 |ins C dx fs=>obtain⟨_,_,_,e,_⟩:=x;exact⟨_,e⟩
 |own y=>obtain⟨_,e⟩:=x;exact⟨_,e⟩
 |xd fs=>obtain⟨_,⟨_,_,_,e,_⟩,_⟩:=x;exact⟨_,e⟩
 |rng lo hi=>obtain⟨_,_,_,e⟩:=x;exact⟨_,e⟩
 |frz ob u=>obtain⟨e,_⟩:=x;exact⟨_,e⟩
 |tbl ps=>exact⟨_,x⟩
 |met f y=>exact⟨_,x⟩
 |ext φ=>obtain⟨_,e,_⟩:=x;exact e
theorem lp.nowhere (x:lp P w H h) (hn:h.get? a=none):H a=none:=by
 cases e:H a with
 |none=>rfl
 |some o=>obtain⟨u,q⟩:=(x a o e).got;rw[hn]at q;cases q
end
section
variable {X:Cx} {S4:List (Kx×Lk)} {σ:List (Option V)} {H:Hp} {s:Ky} {h':L4}
theorem aP.laidAt {a:Kx} {o:HO} {t':Nat} (I:aP X S4 σ H s) (k:∀b u,s.heap.get? b=some u->h'.get? b=some u) (hn:s.heap.get? a=none) (new:ci X.prog X.w (b_ H a o) h' a o):
  aP X S4 σ (b_ H a o) {s with heap:=h',toks:=t'}:=by
 have hH:=I.hok.nowhere hn
 have Ur:∀b u,s.heap.get? b=some u->b≠a:=λb u q z=>by rw[z,hn]at q;cases q
 refine I.un ⟨λb u q _ _ _=>k b u q,λb u q _ _ _=>⟨u.slots,k b u q⟩,λb u q n _=>by rw[az (Ur b u q)];exact n,λb u q _=>⟨u,k b u q⟩,λb xs q=>by rw[az (dk q hH)];exact q,
  λb u xs q=>by rw[az (dk q hH)];exact q,λb ps q=>⟨#[],by rw[az (dk q hH),q];simp⟩⟩ λb u e=> ?_
 by_cases hb:b=a
 ·subst hb;rw[aE]at e;cases e;exact new
 ·rw[az hb]at e
  exact(I.hok b u e).stay (λc v _ q=>k c v q) (λc q=>by rw[az (dk q hH)];exact q) λc xs q=>by rw[az (dk q hH)];exact q
end
section
variable {X:Cx}
theorem xG {ns:List Int} {Tv:Array Kv} (h:ItemsOf (λi v=>∃n t,ns[i]? =some n/\v= .int n t) Tv ns.length):bp (ns.map V.int) Tv.toList:=by
 have Sj:∀(vs:List Kv) (ns:List Int),vs.length=ns.length->(∀(j:Nat) v,vs[j]? =some v->∃n t,ns[j]? =some n/\v= .int n t)->bp (ns.map V.int) vs:=by
  intro vs
  induction vs with
  |nil=>intro ns h1 _;cases ns with
   |nil=>exact .nil
   |cons _ _=>cases h1
  |cons v r ih=>
   intro ns h1 h2
   cases ns with
   |nil=>cases h1
   |cons n ns=>
    obtain⟨m,t,e1,e2⟩:=h2 0 v rfl
    simp at e1
    subst e1
    refine .cons ⟨t,e2⟩ (ih ns (by simpa using h1) λj v hv=> ?_)
    have:=h2 (j+1) v (by simpa using hv)
    simpa using this
 refine Sj Tv.toList ns (by rw[Mj];exact h.1) λj v hv=>h.2 j v (by rw[<-Qa];exact hv)
theorem uE (hc:X.calm=true):dX X (.builtin "sorted") (λxs H Q=>∃p kvs ns,xs=[.ref p]/\H p=some (.dK kvs)/\kvs.map (·.1)=ns.map Nu/\ns.length<64/\∀l,H l=none->Q (.ref l) (b_ H l (.lst ((cR ns).map V.int)))):=by
 intro S4 s σ H xs us Q I rv h
 obtain⟨p,kvs,ns,rfl,hp,hk,hl,q⟩:=h
 obtain⟨u,rfl,ru⟩:=jR rv
 cases ru
 obtain⟨z,hd,vs,UT,dd⟩:=EX I.hok hp
 obtain⟨ep,a1E⟩:=dd.dictAt
 have Sq:vs.length=ns.length:=by
  rw[<-UT.length]
  have:=congrArg Ox hk
  simpa using this
 refine ND Rb QT QU (QV _) ?_
 unfold Ov.«sorted»
 refine Kz (m:=Ry "sorted" 1 1 _) (KN ?_)
 refine Kz (PySem.W.kdu_collect (A:=X.A.in1) (PySem.W.kdl_dict (knd:=dG X.prog X.w) (kvs:=vs) (ep:=ep) hd) (I.ok.hd hc) a1E (by rw[<-UT.length];exact z) λh' tk Tv Wj XW=> ?_)
 have hI:O_ Tv.toList ns:=by
  refine kr (xG ⟨by rw[XW.1];exact Sq,λj v hv=> ?_⟩)
  obtain⟨k,x,hx,XJ⟩:=XW.2 j v hv
  have YH:(vs.map (·.1))[j]? =some k:=by rw[L8,hx];rfl
  rw[<-UT.keys,hk,L8]at YH
  cases e:ns[j]? with
  |none=>rw[e]at YH;cases YH
  |some n=>
   rw[e]at YH
   cases YH
   rcases cQ (show rn (Nu n) v=true from XJ)with ⟨i,t,e1,e2⟩|⟨x',t,e1,e2⟩
   ·cases e1;exact⟨n,t,rfl,e2⟩
   ·cases e1
 have Wv:Tv.toList.length=ns.length:=by rw[Mj,XW.1];exact Sq
 refine Kz (O3 ?_ (by rw[Wv];have:sizeLine=16777216:=M3;omega))
 have WD:(h'.push (seqObj "list" Tv.toList.toArray 0)).get? h'.objs.size=some (seqObj "list" Tv.toList.toArray 0):=Li _ rfl
 refine Kz (LD (Nm Qb ⟨_,WD,rfl⟩ PR (list_sort_tree WD hI (by omega) λout ZV a1 a2 a3=>⟨_,rfl,?_⟩) (Qc _)))
 refine KN ⟨_,rfl,?_⟩
 have en:ZV=cR ns:=hW (a2.trans (iV ns).symm) a3 (iK ns)
 subst en
 obtain⟨e,he⟩:=Qw (out:=out) WD
 have Uh:s.heap.get? h'.objs.size=none:=by
  cases e:s.heap.get? h'.objs.size with
  |none=>rfl
  |some o=>exact absurd (KZ (Wj _ _ e)) (LP _)
 have kk:∀b o,s.heap.get? b=some o->(Qp (h'.push (seqObj "list" Tv.toList.toArray 0)) h'.objs.size Tv.toList out).get? b=some o:=λb o eb=>by
  have hb:=Wj b o eb
  have UZ:b<h'.objs.size:=KZ hb
  rw[Qd (Lo UZ) (by rw[Rz];exact MM UZ)]
  exact KH _ hb
 refine⟨.ref h'.objs.size,_,I.laidAt (o:= .lst ((cR ns).map V.int)) kk Uh ⟨?_,out.toList,e,jT a1,by simpa[seqObj]using he⟩,rfl,q _ (I.hok.nowhere Uh)⟩
 have:=a2.length_eq
 rw[KA]
 have:sizeLine=16777216:=M3
 omega
end
end L2
namespace L2
open PySem PySem.Spec PyProof.Rows
section
variable {prog:KW} {w:La} {A:Lg} {E:Kv->Ky->Prop} {s:Ky} {I:Kx} {fp wr:List Kx} {G:Array P2->Array P2->Prop} {n:Nat} {P:Nat->Kv->Prop} {St:Nat->Ky->Prop}
end
section
variable {X:Cx} {e:KI} {te:TE} {pos p1 p2 UI:Ls}
end
end L2
namespace L2
open PySem PySem.Spec PyProof.Rows
section
variable {prog:KW} {w:La} {A:Lg} {E:Kv->Ky->Prop} {s:Ky} {a:Kx}
end
section
variable {prog:KW} {w:La} {A:Lg} {R:QJ->Ky->Prop} {I:Kx} {fp wr:List Kx} {G:Array P2->Array P2->Prop} {n:Nat} {P:Nat->Kv->Prop} {St:Nat->Ky->Prop}
end
section
variable {prog:KW} {w:La} {A:Lg} {E:Kv->Ky->Prop} {s:Ky} {p:Kx}
end
section
variable {X:Cx}
end
end L2
namespace L2
open PySem PySem.Spec PyProof.Rows PySem.W
def mL {α:Type} (V:Nat->Nat->Prop) (lt:Nat->Nat->Bool):KasT α->(α->Prop)->Prop
 | .ret a,Q=>Q a
 | .ask i j k,Q=>V i j/\mL V lt (k (lt i j)) Q
theorem mL.imp {α:Type} {V:Nat->Nat->Prop} {lt:Nat->Nat->Bool} {Q Q':α->Prop} (w:∀a,Q a->Q' a):∀{t:KasT α},mL V lt t Q->mL V lt t Q'
 | .ret a,h=>w a h
 | .ask i j k,h=>⟨h.1,mL.imp w h.2⟩
theorem mL.bind {α β:Type} {V:Nat->Nat->Prop} {lt:Nat->Nat->Bool} {f:α->KasT β} {Q:β->Prop}:∀{t:KasT α},mL V lt t (λa=>mL V lt (f a) Q)->mL V lt (t.bind f) Q
 | .ret a,h=>h
 | .ask i j k,h=>⟨h.1,mL.bind h.2⟩
theorem mL.wp {α:Type} {V:Nat->Nat->Prop} {lt:Nat->Nat->Bool} {a0Y:Nat->Nat->(Bool->Ky->Prop)->Ky->Prop} {Good:Ky->Prop} (hc:∀i j C s,V i j->Good s->(∀s',Good s'->C (lt i j) s')->a0Y i j C s) {Q:α->Ky->Prop}:
  ∀{t:KasT α} {s:Ky},mL V lt t (λa=>∀s',Good s'->Q a s')->Good s->t.kasWp a0Y Q s
 | .ret a,s,h,g=>h s g
 | .ask i j k,s,h,g=>hc i j _ s h.1 g λs' g'=>mL.wp hc h.2 g'
section
variable {n:Nat} {Sj:Nat->Int}
def kk (Sj:Nat->Int) (p:Array Nat) (i:Nat):Int:=Sj (p.getD i 0)
def xH (Sj:Nat->Int) (i j:Nat):Bool:=decide (Sj i<Sj j)
def Pr (n i j:Nat):Prop:=i<n/\j<n/\i≠j
structure sS (n:Nat) (p:Array Nat):Prop where
 sz:p.size=n
 perm:p.toList.Perm (LA n)
theorem sS.lt {p:Array Nat} (h:sS n p) {i:Nat} (hi:i<n):p.getD i 0<n:=by
 have Wx:i<p.size:=by rw[h.sz];exact hi
 have:p.getD i 0=p[i]:=by simp[Qq,Wx]
 rw[this]
 exact Md.mp (h.perm.mem_iff.mp (by simp))
theorem sS.inj {p:Array Nat} (h:sS n p) {i j:Nat} (hi:i<n) (hj:j<n) (e:p.getD i 0=p.getD j 0):i=j:=by
 have Wx:i<p.size:=by rw[h.sz];exact hi
 have Wk:j<p.size:=by rw[h.sz];exact hj
 have e1:p.getD i 0=p[i]:=by simp[Qq,Wx]
 have e2:p.getD j 0=p[j]:=by simp[Qq,Wk]
 rw[e1,e2]at e
 have nd:p.toList.Nodup:=(h.perm.nodup_iff).mpr List.nodup_range
 have hp:=NF.mp nd
 have el:p.toList[i]'(by simpa using Wx)=p.toList[j]'(by simpa using Wk):=by simpa using e
 rcases R6 i j with z|z|z
 ·exact absurd el (hp i j _ _ z)
 ·exact z
 ·exact absurd el.symm (hp j i _ _ z)
theorem sS.pr {p:Array Nat} (h:sS n p) {i j:Nat} (hi:i<n) (hj:j<n) (Wz:i≠j):Pr n (p.getD i 0) (p.getD j 0):=⟨h.lt hi,h.lt hj,λz=>Wz (h.inj hi hj z)⟩
def xj (Sj:Nat->Int) (p:Array Nat) (m:Nat):Prop:=∀i j,i<j->j<m->kk Sj p i<kk Sj p j
def G3 (Sj:Nat->Int) (p:Array Nat) (m:Nat):Prop:=∀i j,i<j->j<m->kk Sj p j<kk Sj p i
theorem xj.more {p:Array Nat} {m:Nat} (h:xj Sj p (m+1)) (hl:kk Sj p m<kk Sj p (m+1)):xj Sj p (m+2):=λi j Wz hj=>by
 by_cases e:j=m+1
 ·subst e
  by_cases e2:i=m
  ·subst e2;exact hl
  ·exact Pg (h i m (by omega) (by omega)) hl
 ·exact h i j Wz (by omega)
theorem G3.more {p:Array Nat} {m:Nat} (h:G3 Sj p (m+1)) (hl:kk Sj p (m+1)<kk Sj p m):G3 Sj p (m+2):=λi j Wz hj=>by
 by_cases e:j=m+1
 ·subst e
  by_cases e2:i=m
  ·subst e2;exact hl
  ·exact Pg hl (h i m (by omega) (by omega))
 ·exact h i j Wz (by omega)
theorem xI {p:Array Nat} (o:sS n p) (hk:∀i j,i<n->j<n->Sj i=Sj j->i=j):∀(f m:Nat),xj Sj p (m+1)->m+1+f=n->mL (Pr n) (xH Sj) (kas_asc p f (m+1)) λr=>m+1<=r/\r<=n/\xj Sj p r/\(r<n->kk Sj p r<kk Sj p (r - 1))
 |0,m,h,e=>⟨L7 _,by omega,h,λz=>by omega⟩
 |f+1,m,h,e=>by
  refine⟨o.pr (by omega) (by omega) (by omega),?_⟩
  rw[OB]
  by_cases hl:kk Sj p (m+1)<kk Sj p m
  ·simp only[show xH Sj (p.getD (m+1) 0) (p.getD m 0)=true from decide_eq_true hl,if_true]
   exact⟨L7 _,by omega,h,λ_=>by rw[OB];exact hl⟩
  ·simp only[show xH Sj (p.getD (m+1) 0) (p.getD m 0)=false from decide_eq_false hl,LM,if_false]
   have Ur:kk Sj p m≠kk Sj p (m+1):=λz=>by
    have:=o.inj (i:=m) (j:=m+1) (by omega) (by omega) (hk _ _ (o.lt (by omega)) (o.lt (by omega)) z)
    omega
   refine mL.imp (λr ⟨a,b,c,d⟩=>⟨by omega,b,c,d⟩) (xI o hk f (m+1) (h.more (by omega)) (by omega))
theorem BE {p:Array Nat} (o:sS n p) (hk:∀i j,i<n->j<n->Sj i=Sj j->i=j):∀(f m:Nat),G3 Sj p (m+1)->m+1+f=n->mL (Pr n) (xH Sj) (kas_desc f p (m+1) 0) λr=>r.1=p/\r.2.2=0/\m+1<=r.2.1/\r.2.1<=n/\G3 Sj p r.2.1
 |0,m,h,e=>⟨rfl,rfl,L7 _,by show m+1<=n;omega,h⟩
 |f+1,m,h,e=>by
  refine⟨o.pr (by omega) (by omega) (by omega),?_⟩
  rw[OB]
  by_cases hl:kk Sj p (m+1)<kk Sj p m
  ·simp only[show xH Sj (p.getD (m+1) 0) (p.getD m 0)=true from decide_eq_true hl,if_true,gt_iff_lt,LP,if_false]
   exact mL.imp (λr ⟨a,b,c,d⟩=>⟨a,b,by omega,d⟩) (BE o hk f (m+1) (h.more hl) (by omega))
  ·simp only[show xH Sj (p.getD (m+1) 0) (p.getD m 0)=false from decide_eq_false hl,LM,if_false]
   have Ur:kk Sj p m≠kk Sj p (m+1):=λz=>by
    have:=o.inj (i:=m) (j:=m+1) (by omega) (by omega) (hk _ _ (o.lt (by omega)) (o.lt (by omega)) z)
    omega
   have Wv:kk Sj p m<kk Sj p (m+1):=by omega
   refine⟨o.pr (by omega) (by omega) (by omega),?_⟩
   simp only[show xH Sj (p.getD m 0) (p.getD (m+1) 0)=true from decide_eq_true Wv,if_true]
   exact⟨rfl,rfl,L7 _,by show m+1<=n;omega,h⟩
theorem r8 {p q:Array Nat} {i j:Nat} (h:p[i]? =q[j]?):p.getD i 0=q.getD j 0:=by
 rw[OC,OC,h]
theorem DU {p:Array Nat} (o:sS n p) (i j:Nat):sS n (kas_rev p i j):=
 ⟨by unfold kas_rev;rw[mirror_size];exact o.sz,(ON.mp (mirror_perm p i j _)).trans o.perm⟩
theorem DV {p:Array Nat} (o:sS n p) {m:Nat} (hm:m<=n) (h:G3 Sj p m):xj Sj (kas_rev p 0 m) m:=λi j Wz hj=>by
 have e:∀k,k<m->kk Sj (kas_rev p 0 m) k=kk Sj p (m - 1 - k):=λk hk=>by
  unfold kk
  congr 1
  refine r8 ?_
  have:=getElem?_mirror_all (xs:=p) (i:=0) (j:=m) (by rw[o.sz];exact hm) k
  unfold kas_rev
  rw[this,if_pos ⟨Ml _,hk⟩,Ph]
 rw[e i (by omega),e j hj]
 exact h _ _ (by omega) (by omega)
theorem BF {p:Array Nat} (o:sS n p) (hn:2<=n) (hk:∀i j,i<n->j<n->Sj i=Sj j->i=j):mL (Pr n) (xH Sj) (kas_count n p) λr=>1<=r.1/\r.1<=n/\sS n r.2/\xj Sj r.2 r.1:=by
 unfold kas_count
 refine mL.bind (mL.imp (λm ⟨h1,h2,h3,h4⟩=> ?_) (xI o hk (n - 1) 0 (λi j Wz hj=>by omega) (by omega)))
 by_cases e:m=n
 ·rw[if_pos (by simp[e])];exact⟨by show 1<=m;omega,h2,o,h3⟩
 ·rw[if_neg (by simp[e])]
  by_cases e1:m>1
  ·rw[if_pos e1]
   refine⟨o.pr (by omega) (by omega) (by omega),?_⟩
   simp only[show xH Sj (p.getD 0 0) (p.getD (m - 1) 0)=true from decide_eq_true (h3 0 (m - 1) (by omega) (by omega)),if_true]
   exact⟨by show 1<=m;omega,h2,o,h3⟩
  ·have em:m=1:=by omega
   subst em
   rw[if_neg (by omega)]
   have hd:G3 Sj p 2:=λi j Wz hj=>by
    have hi:i=0:=by omega
    have Wk:j=1:=by omega
    subst hi;subst Wk
    exact h4 (by omega)
   unfold kas_descPart
   refine mL.bind (mL.imp (λr ⟨a,b,c,d,g⟩=> ?_) (BE o hk (n - (1+1)) 1 hd (by omega)))
   rw[if_neg (by omega)]
   unfold kas_tail3
   rw[a]
   have o2:=DU o 0 r.2.1
   obtain⟨q,hq⟩:∃q,r.2.1=q+1:=⟨r.2.1 - 1,by omega⟩
   rw[hq]at d g o2 ⊢
   refine mL.bind (mL.imp (λm2 ⟨x1,x2,x3,_⟩=>⟨by show 1<=m2;omega,x2,o2,x3⟩) (xI o2 hk (n - (q+1)) q (DV o d g) (by omega)))
theorem rR {p:Array Nat} (o:sS n p) (hk:∀i j,i<n->j<n->Sj i=Sj j->i=j) {k:Nat} (Xj:k<n) (ha:xj Sj p k):∀(f l r:Nat),l<=r->r<=k->r - l<=f->(∀i,i<l->kk Sj p i<kk Sj p k)->(∀i,r<=i->i<k->kk Sj p k<kk Sj p i)->
  mL (Pr n) (xH Sj) (kas_place p k f l r) λm=>m<=k/\(∀i,i<m->kk Sj p i<kk Sj p k)/\∀i,m<=i->i<k->kk Sj p k<kk Sj p i
 |0,l,r,h1,h2,h3,h4,h5=>⟨by omega,h4,λi hi=>h5 i (by omega)⟩
 |f+1,l,r,h1,h2,h3,h4,h5=>by
  unfold kas_place
  by_cases e:l>=r
  ·rw[if_pos e];exact⟨by omega,h4,λi hi=>h5 i (by omega)⟩
  ·rw[if_neg e]
   refine⟨o.pr Xj (by omega) (by omega),?_⟩
   have Xp:(l+r) / 2<r:=by omega
   have ZR:l<=(l+r) / 2:=by omega
   by_cases hl:kk Sj p k<kk Sj p ((l+r) / 2)
   ·simp only[show xH Sj (p.getD k 0) (p.getD ((l+r) / 2) 0)=true from decide_eq_true hl,if_true]
    refine rR o hk Xj ha f l ((l+r) / 2) ZR (by omega) (by omega) h4 λi hi a1F=> ?_
    by_cases z:i=(l+r) / 2
    ·subst z;exact hl
    ·exact Pg hl (ha _ _ (by omega) a1F)
   ·simp only[show xH Sj (p.getD k 0) (p.getD ((l+r) / 2) 0)=false from decide_eq_false hl,LM,if_false]
    have Ur:kk Sj p ((l+r) / 2)≠kk Sj p k:=λz=>by
     have:=o.inj (i:=(l+r) / 2) (j:=k) (by omega) Xj (hk _ _ (o.lt (by omega)) (o.lt Xj) z)
     omega
    have Wv:kk Sj p ((l+r) / 2)<kk Sj p k:=by omega
    refine rR o hk Xj ha f ((l+r) / 2+1) r (by omega) h2 (by omega) (λi hi=> ?_) h5
    by_cases z:i=(l+r) / 2
    ·subst z;exact Wv
    ·exact Pg (ha _ _ (show i<(l+r) / 2 by omega) (by omega)) Wv
theorem DW {p:Array Nat} (o:sS n p) {k m:Nat} (Xj:k<n) (hm:m<=k) (ha:xj Sj p k) (h1:∀i,i<m->kk Sj p i<kk Sj p k) (h2:∀i,m<=i->i<k->kk Sj p k<kk Sj p i):sS n (bubble p k (k - m))/\xj Sj (bubble p k (k - m)) (k+1):=by
 refine⟨⟨by rw[bubble_size];exact o.sz,(ON.mp (bubble_perm p k _)).trans o.perm⟩,λi j Wz hj=> ?_⟩
 have e:∀q,kk Sj (bubble p k (k - m)) q=if q=m then kk Sj p k else if m<q/\q<=k then kk Sj p (q - 1)else kk Sj p q:=λq=>by
  have:=getElem?_bubble (xs:=p) (src:=k) (by rw[o.sz];exact Xj) (k - m) (by omega) q
  rw[show k - (k - m)=m by omega]at this
  unfold kk
  split
  ·rename_i z;rw[if_pos z]at this;congr 1;exact r8 this
  ·rename_i z
   rw[if_neg z]at this
   split
   ·rename_i z2;rw[if_pos z2]at this;congr 1;exact r8 this
   ·rename_i z2;rw[if_neg z2]at this;congr 1;exact r8 this
 rw[e i,e j]
 by_cases i1:i=m
 ·rw[if_pos i1,if_neg (by omega),if_pos (by omega)]
  exact h2 _ (by omega) (by omega)
 ·rw[if_neg i1]
  by_cases i2:m<i/\i<=k
  ·rw[if_pos i2,if_neg (by omega),if_pos (by omega)]
   exact ha _ _ (by omega) (by omega)
  ·rw[if_neg i2]
   by_cases j1:j=m
   ·rw[if_pos j1];exact h1 i (by omega)
   ·rw[if_neg j1]
    by_cases j2:m<j/\j<=k
    ·rw[if_pos j2]
     by_cases z:i=j - 1
     ·omega
     ·exact ha _ _ (by omega) (by omega)
    ·rw[if_neg j2];exact ha _ _ Wz (by omega)
theorem BG (hk:∀i j,i<n->j<n->Sj i=Sj j->i=j):∀(f:Nat) (p:Array Nat) (k:Nat),sS n p->xj Sj p k->k+f=n->mL (Pr n) (xH Sj) (kas_bin f p k) λq=>sS n q/\xj Sj q n
 |0,p,k,o,h,e=>⟨o,by rw[<-e];exact h⟩
 |f+1,p,k,o,h,e=>by
  unfold kas_bin
  refine mL.bind (mL.imp (λm ⟨h1,h2,h3⟩=> ?_) (rR o hk (show k<n by omega) h k 0 k (Ml _) (L7 _) (by omega) (λi hi=>by omega) λi h1 h2=>by omega))
  obtain⟨o2,a2⟩:=DW o (show k<n by omega) h1 h h2 h3
  exact BG hk f _ (k+1) o2 a2 (by omega)
theorem DX (hn:2<=n) (hk:∀i j,i<n->j<n->Sj i=Sj j->i=j):mL (Pr n) (xH Sj) (kas_sort n) λq=>sS n q/\xj Sj q n:=by
 have o:sS n (Nf (LA n)):=⟨by simp,by simp⟩
 unfold kas_sort
 refine mL.bind (mL.imp (λr ⟨h1,h2,h3,h4⟩=> ?_) (BF o hn hk))
 by_cases e:r.1<n
 ·rw[if_pos e,show max r.1 1=r.1 by omega]
  exact BG hk _ _ _ h3 h4 (by omega)
 ·rw[if_neg e]
  have:r.1=n:=by omega
  rw[this]at h4
  exact⟨h3,h4⟩
end
end L2
namespace L2
open PySem PySem.Spec PyProof.Rows PySem.W
section
variable {prog:KW} {w:La} {A:Lg} {E:Kv->Ky->Prop} {s:Ky}
def pH (h:L4) (v:Kv) (k:Int):Prop:=∃b o t rest m,v= .ref b/\h.get? b=some o/\o.cls= .type "tuple"/\o.data= .seq (Array.mk (N0 k t::rest)) m
theorem G4 {v u:Kv} {k l:Int} {Q:Bool->Ky->Prop} (hv:pH s.heap v k) (hu:pH s.heap u l) (Ur:k≠l) (h:Q (decide (k<l)) s):KP (KS prog w) A (keyLt' (tuples' true) v u) Q E s:=by
 obtain⟨b,o,t,rest,m,rfl,h1,h2,h3⟩:=hv
 obtain⟨b',o',t',YI,m',rfl,g1,g2,g3⟩:=hu
 refine kat_lt h1 h3 g1 g3 ?_
 show KatLex prog w A true _ Q ((N0 k t,N0 l t')::rest.zip YI) 0 s
 refine kat_cons (wpAny_eqBool_int ?_)
 have e:(k==l)=false:=beq_eq_false_iff_ne.mpr Ur
 rw[e]
 exact kat_no (oneLt_int h)
theorem tO:∀{vs:List Kv} {ks:List Int},vs.length=ks.length->(∀(i:Nat) v,vs[i]? =some v->pH s.heap v (ks.getD i 0))->∃fs:List Kv,KatTups s.heap vs fs/\fs.length=vs.length/\∀f∈fs,∃k t,f=N0 k t
 |[],ks,_,_=>⟨[], .nil,rfl,λf hf=>by cases hf⟩
 |v::vs,[],hl,_=>by cases hl
 |v::vs,k::ks,hl,h=>by
  obtain⟨fs,h1,h2,h3⟩:=tO (vs:=vs) (ks:=ks) (by simpa using hl) λi u hu=>by
   have:=h (i+1) u (by simpa using hu)
   simpa using this
  obtain⟨b,o,t,rest,m,rfl,g1,g2,g3⟩:=h 0 v rfl
  refine⟨_::fs,KatTups.cons g1 g2 g3 (f:=N0 ((k::ks).getD 0 0) t) rfl h1,by simp[h2],λf hf=> ?_⟩
  rcases KR.mp hf with rfl|hf
  ·exact⟨_,_,rfl⟩
  ·exact h3 f hf
def rS (ks:List Int) (p:List Nat):Prop:=p.Perm (LA ks.length)/\(p.map λi=>ks.getD i 0).Pairwise (·<·)
theorem uF {Sj:Nat->Int} {p:Array Nat} {n:Nat} (hs:p.size=n) (h:xj Sj p n):(p.toList.map Sj).Pairwise (·<·):=by
 refine NF.mpr λi j hi hj Wz=> ?_
 rw[KA,Mj]at hi hj
 have:=h i j Wz (by omega)
 unfold kk at this
 simpa[Qq,hi,hj]using this
theorem A7 {α β:Type} {vs:List α} {ks:List β} (hl:vs.length=ks.length) (h:vs.length<2):(vs=[]/\ks=[])\/∃v k,vs=[v]/\ks=[k]:=by
 cases vs with
 |nil=>exact .inl ⟨rfl,NT.mp hl.symm⟩
 |cons v vs=>
  cases vs with
  |nil=>
   obtain⟨k,hk⟩:=List.length_eq_one_iff.mp hl.symm
   exact .inr ⟨v,k,rfl,hk⟩
  |cons=>exact absurd h (by simp only[L6];omega)
theorem rT {a:Kx} {vs:List Kv} {ks:List Int} {n:Nat} {P:PySem.Fin->Ky->Prop} (ho:s.heap.get? a=some (seqObj "list" vs.toArray n)) (hl:vs.length=ks.length) (hv:∀(i:Nat) v,vs[i]? =some v->pH s.heap v (ks.getD i 0)) (ZW:ks.Nodup) (ZX:vs.length<64)
  (h:∀p:List Nat,rS ks p->P (.done (.ret .none)) {s with heap:=Qp s.heap a vs (Nf (p.map λi=>vs.getD i LK))}):
  KP (KS prog w) A (Ov.«list.sort» ⟨[.ref a],[]⟩) P E s:=by
 rw[list_sort_plain]
 have ha:a<s.heap.objs.size:=KZ ho
 refine Kz (listItems_at ho rfl ?_)
 refine Kz (Qx ho rfl ?_ (hsz2:=Ml _) (hsz:=by rw[KG,M3];omega))
 obtain⟨e1,a0Z⟩:∃e1,(s.heap.update a (Mg λ_=> #[])).get? a=some (seqObj "list" #[] e1):=⟨_,get?_update_seq ho (λ_=> #[])⟩
 refine Kz (Rc a0Z rfl ?_)
 refine Kz (wpAny_newTuple ?_ (by show vs.length<=_;rw[M3];omega))
 refine Kz (O3 ?_ (Ml _))
 refine LD ?_
 have a1G:∀b o,b≠a->s.heap.get? b=some o->(((s.heap.update a (Mg λ_=> #[])).push (seqObj "tuple" vs.toArray 0)).push (seqObj "list" #[] 0)).get? b=some o:=λb o hb e=>by
  refine KH _ (KH _ ?_)
  rw[Heap.get?_update_ne _ _ _ _ hb];exact e
 have Zd:(((s.heap.update a (Mg λ_=> #[])).push (seqObj "tuple" vs.toArray 0)).push (seqObj "list" #[] 0)).get? a=some (seqObj "list" #[] e1):=KH _ (KH _ a0Z)
 have Yt:∀(i:Nat) v,vs[i]? =some v->pH (((s.heap.update a (Mg λ_=> #[])).push (seqObj "tuple" vs.toArray 0)).push (seqObj "list" #[] 0)) v (ks.getD i 0):=λi v e=>by
  obtain⟨b,o,t,rest,m,rfl,g1,g2,g3⟩:=hv i v e
  refine⟨b,o,t,rest,m,rfl,a1G b o (λz=> ?_) g1,g2,g3⟩
  subst z
  rw[ho]at g1
  cases g1
  exact absurd (show MP "list"=MP "tuple" from g2) (by decide)
 show KP (KS prog w) A _ P E {s with heap:=((s.heap.update a (Mg λ_=> #[])).push (seqObj "tuple" vs.toArray 0)).push (seqObj "list" #[] 0)}
 dsimp only
 have hsz:vs.toArray.size=vs.length:=by simp
 have WG:∀p:List Nat,p.length=vs.length->(Nf (p.map λi=>vs.getD i LK)).size<=sizeLine:=λp hp=>by
  rw[KG,KA,hp,M3];omega
 by_cases h2:vs.toArray.size<2
 ·rw[if_pos h2,if_pos h2]
  refine Kz (KN ?_)
  rw[StateT.run_pure]
  refine Kz (KN ?_)
  dsimp only
  obtain⟨p,hp,Tq,a1H⟩:∃p:List Nat,rS ks p/\p.length=vs.length/\QW (λx=>x.2) (arrOf (SortSt.mk' general' (vs.toArray.zip vs.toArray) #[] 7 none))=Nf (p.map λi=>vs.getD i LK):=by
   rcases A7 hl (by simpa using h2)with ⟨rfl,rfl⟩|⟨v,k,rfl,rfl⟩
   ·exact⟨[],⟨Nd _,OT⟩,rfl,by show QW (λx:Keyed=>x.2) ((#[]:Array Kv).zip #[])=_;simp⟩
   ·exact⟨[0],⟨Nd _,List.pairwise_singleton _ _⟩,rfl,by show QW (λx:Keyed=>x.2) ((#[v]:Array Kv).zip #[v])=_;simp⟩
  refine Kz (Rc Zd rfl ?_)
  have YJ:QW (λx=>x.2) (arrOf (SortSt.mk' general' (vs.toArray.zip vs.toArray) #[] 7 none))=Nf (p.map λi=>vs.getD i LK):=a1H
  refine Kz (Qx Zd rfl ?_ (hsz2:=by have:=WG p Tq;rw[<-YJ]at this;exact OV this))
  simp only[bne_self_eq_false,LM,if_false]
  have hh:=h p hp
  rw[<-YJ]at hh
  exact KN hh
 ·rw[if_neg h2,if_neg h2]
  have XM:2<=vs.length:=by rw[hsz]at h2;omega
  obtain⟨fs,t1,t2,t3⟩:=tO (s:={s with heap:=((s.heap.update a (Mg λ_=> #[])).push (seqObj "tuple" vs.toArray 0)).push (seqObj "list" #[] 0)}) hl Yt
  refine Kz (kat_kind (T:= .type "int") t1 (by omega) (λv hv=> ?_) (by decide) ?_)
  ·obtain⟨k,t,rfl⟩:=t3 v hv
   exact .now
  rw[show (MP "int" != MP "tuple")=true by decide]
  have ZY:(kas_sort vs.length).kasWp (kas_ask prog w A (tuples' true) vs) (λp s'=>s'={s with heap:=((s.heap.update a (Mg λ_=> #[])).push (seqObj "tuple" vs.toArray 0)).push (seqObj "list" #[] 0)}/\sS vs.length p/\xj (λi=>ks.getD i 0) p vs.length) {s with heap:=((s.heap.update a (Mg λ_=> #[])).push (seqObj "tuple" vs.toArray 0)).push (seqObj "list" #[] 0)}:=by
   have YK:∀i j,i<vs.length->j<vs.length->ks.getD i 0=ks.getD j 0->i=j:=λi j hi hj e=>by
    have hp:=NF.mp ZW
    have e':ks[i]'(by omega)=ks[j]'(by omega):=by simpa[show i<ks.length by omega,show j<ks.length by omega]using e
    rcases R6 i j with z|z|z
    ·exact absurd e' (hp i j _ _ z)
    ·exact z
    ·exact absurd e'.symm (hp j i _ _ z)
   refine mL.wp (V:=Pr vs.length) (lt:=xH λi=>ks.getD i 0) (Good:=λs'=>s'={s with heap:=((s.heap.update a (Mg λ_=> #[])).push (seqObj "tuple" vs.toArray 0)).push (seqObj "list" #[] 0)}) (λi j C s' YL hg hC=> ?_) (mL.imp (λp hp s' Sy=>⟨Sy,hp⟩) (DX XM YK)) rfl
   subst hg
   have hi:vs[i]? =some (vs.getD i LK):=by simp[YL.1]
   have hj:vs[j]? =some (vs.getD j LK):=by simp[YL.2.1]
   exact G4 (Yt i _ hi) (Yt j _ hj) (λz=>YL.2.2 (YK i j YL.1 YL.2.1 z)) (hC _ rfl)
  refine Kz (Ms (kat_run (vs:=vs) (ks:=vs) (Q:=λWg s'=>∃p:Array Nat,arrOf Wg=p.map (kas_item (vs.toArray.zip vs.toArray))/\failedOf Wg=none/\s'={s with heap:=((s.heap.update a (Mg λ_=> #[])).push (seqObj "tuple" vs.toArray 0)).push (seqObj "list" #[] 0)}/\sS vs.length p/\xj (λi=>ks.getD i 0) p vs.length)
   rfl XM ZX (λp' Wg s' a1 a2 a3 a4=>⟨p',a2,a3,a4⟩) ZY) ?_ λ_ _ e=>e)
  rintro⟨⟨⟩,Wg⟩ s' ⟨p,a1I,hf,rfl,ZZ,a1J⟩
  dsimp only
  have Z_:=kat_snds (vs:=vs) (ks:=vs) rfl a1I
  have Tq:p.toList.length=vs.length:=by rw[Mj];exact ZZ.sz
  refine Kz (Rc Zd rfl ?_)
  rw[Z_]
  refine Kz (Qx Zd rfl ?_ (hsz2:=OV (WG _ Tq)))
  rw[hf]
  simp only[bne_self_eq_false,LM,if_false]
  exact KN (h p.toList ⟨by rw[<-hl];exact ZZ.perm,uF ZZ.sz a1J⟩)
end
section
variable {X:Cx}
inductive ku (H:Hp):List V->List Int->Prop
 |nil:ku H [] []
 |cons {a:Kx} {k:Int} {rest ys:List V} {ks:List Int}:H a=some (.tup (.int k::rest))->ku H ys ks->ku H (.ref a::ys) (k::ks)
theorem ku.length {H:Hp}:∀{ys:List V} {ks:List Int},ku H ys ks->ys.length=ks.length
 |_,_, .nil=>rfl
 |_,_, .cons _ t=>by rw[L6,L6,t.length]
theorem vQ {P:KW} {w:La} {H:Hp} {h h':L4} (ok:lp P w H h) (kp:∀b o,h.get? b=some o->h'.get? b=some o):∀{ys:List V} {ks:List Int} {us:List Kv},ku H ys ks->bp ys us->∀(i:Nat) v,us[i]? =some v->pH h' v (ks.getD i 0)
 |_,_,_, .nil, .nil,i,v,e=>by simp at e
 |_,_,_, .cons (a:=a) (k:=k) (rest:=rest) ha t, .cons ru rt,i,v,e=>by
  cases i with
  |zero=>
   simp at e
   subst e
   obtain⟨_,its,r,o,h1,h2,n,h3,_⟩:=(show ci P w H h a (.tup (.int k::rest))from ok a _ ha)
   cases r with
   |cons rk rr=>
    obtain⟨t,rfl⟩:=rk
    exact⟨a,o,t,_,n,ru,kp _ _ h1,h2,h3⟩
  |succ i=>exact vQ ok kp t rt i v (by simpa using e)
theorem tP {ys:List V} {us:List Kv} (r:bp ys us):∀p:List Nat,(∀i∈p,i<ys.length)->bp (p.map λi=>ys.getD i .non) (p.map λi=>us.getD i LK)
 |[],_=> .nil
 |i::p,h=>by
  have hi:=h i K_
  have hy:ys[i]? =some (ys.getD i .non):=by simp[hi]
  obtain⟨u,hu,ru⟩:=r.get hy
  have e:us.getD i LK=u:=by simp[hu]
  refine .cons ?_ (tP r p λj hj=>h j (L0 _ hj))
  show bT (ys.getD i .non) (us.getD i LK)
  rw[e];exact ru
theorem uG:dX X (.builtin "sorted") (λxs H Q=>∃p ys ks,xs=[.ref p]/\(H p=some (.lst ys)\/H p=some (.tup ys))/\ku H ys ks/\ks.Nodup/\ks.length<64/\
  ∀l q,H l=none->rS ks q->Q (.ref l) (b_ H l (.lst (q.map λi=>ys.getD i .non)))):=by
 intro S4 s σ H xs us Q I rv h
 obtain⟨p,ys,ks,rfl,hp,ra,nd,ZX,q⟩:=h
 obtain⟨u,rfl,ru⟩:=jR rv
 cases ru
 have hl:=ra.length
 obtain⟨its,r,T,o,n,hT,ho,hc,hd⟩:∃its:List Kv,bp ys its/\∃(T:String) (o:Lk) (n:Nat),(T="list"\/T="tuple")/\s.heap.get? p=some o/\o.cls= .type T/\o.data= .seq its.toArray n:=by
  rcases hp with hp|hp
  ·obtain⟨its,r,⟨o,n,e,c,_,d⟩,_⟩:=I.list (dA.of hp)
   exact⟨its,r,"list",o,n, .inl rfl,e,c,d⟩
  ·obtain⟨hz,its,r,o,e,c,n,d,_⟩:=(show ci X.prog X.w H s.heap p (.tup ys)from I.hok p _ hp)
   exact⟨its,r,"tuple",o,n, .inr rfl,e,c,d⟩
 have Sq:=r.length
 refine ND Rb QT QU (QV _) ?_
 unfold Ov.«sorted»
 refine Kz (m:=Ry "sorted" 1 1 _) (KN ?_)
 refine Kz (R7 p hT ho hc hd (λh' Wj=> ?_) (by rw[KG,M3];omega))
 have eT:its.toArray.toList=its:=by simp
 rw[eT]
 refine Kz (O3 ?_ (by rw[M3];omega))
 have WD:(h'.push (seqObj "list" its.toArray 0)).get? h'.objs.size=some (seqObj "list" its.toArray 0):=Li _ rfl
 refine Kz (LD (Nm Qb ⟨_,WD,rfl⟩ PR (rT WD (by omega) (vQ I.hok (λb o e=>KH _ (Wj b o e)) ra r) nd (by omega) λz hz=>⟨_,rfl,?_⟩) (Qc _)))
 refine KN ⟨_,rfl,?_⟩
 obtain⟨e,he⟩:=Qw (out:=Nf (z.map λi=>its.getD i LK)) WD
 have Uh:s.heap.get? h'.objs.size=none:=by
  cases e:s.heap.get? h'.objs.size with
  |none=>rfl
  |some o=>exact absurd (KZ (Wj _ _ e)) (LP _)
 have kk:∀b o,s.heap.get? b=some o->(Qp (h'.push (seqObj "list" its.toArray 0)) h'.objs.size its (Nf (z.map λi=>its.getD i LK))).get? b=some o:=λb o eb=>by
  have hb:=Wj b o eb
  have UZ:b<h'.objs.size:=KZ hb
  rw[Qd (Lo UZ) (by rw[Rz];exact MM UZ)]
  exact KH _ hb
 have a1K:z.length=ys.length:=by have:=hz.1.length_eq;rw[NY]at this;omega
 refine⟨.ref h'.objs.size,_,I.laidAt (o:= .lst (z.map λi=>ys.getD i .non)) kk Uh ⟨?_,z.map λi=>its.getD i LK,e,tP r z λi hi=> ?_,by simpa[seqObj]using he⟩,rfl,q _ z (I.hok.nowhere Uh) hz⟩
 ·rw[KA,a1K,M3];omega
 ·have:=Md.mp (hz.1.mem_iff.mp hi)
  omega
end
end L2
namespace L2
open PySem PySem.Spec PyProof.Rows
section
variable {prog:KW} {w:La} {A:Lg} {E:Kv->Ky->Prop} {s:Ky}
theorem tR {I:Kx} {fp wr:List Kx} {S8:Array Kv} {St:Nat->L4->Prop} (W:Walks prog w A I fp wr S8.size (λi v=>S8[i]? =some v) St):∀(n i:Nat) (s:Ky) (Q:List Kv->Ky->Prop),St i s.heap->i+n<=S8.size->
  (∀(h':L4) (tk:Nat),St (i+n) h'->(∀b o,b∉wr->s.heap.get? b=some o->h'.get? b=some o)->Q ((S8.toList.drop i).take n) {s with heap:=h',toks:=tk})->KP (KS prog w) A (draw (.ref I) n) Q E s
 |0,i,s,Q,st,hn,k=>by
  refine KN ?_
  have:=k s.heap s.toks st λ_ _ _ e=>e
  rw[List.take_zero]at this
  exact this
 |n+1,i,s,Q,st,hn,k=>by
  unfold draw
  refine Kz (W.item i s _ E (by omega) st λv h' tk hv Wg kp=> ?_)
  refine Kz (LD (tR W n (i+1) _ _ Wg (by omega) λh2 a00 Xh a01=>KN ?_))
  have e:(S8.toList.drop i).take (n+1)=v::(S8.toList.drop (i+1)).take n:=by
   obtain⟨hl,he⟩:=Array.getElem?_eq_some_iff.mp hv
   rw[NG (by simpa using hl),List.take_succ_cons]
   simp[he]
  have:=k h2 a00 (by rw[show i+(n+1)=i+1+n by omega];exact Xh) λb o hb e=>a01 b o hb (kp b o hb e)
  rw[e]at this
  exact this
theorem pI {l:Kx} {S8:Array Kv} {Q:List Kv->Ky->Prop} (hA:A.handled=none) (hl:s.heap.IsList l S8)
  (k:∀(h':L4) (tk:Nat),(∀b o,b≠s.heap.objs.size->s.heap.get? b=some o->h'.get? b=some o)->Q S8.toList {s with heap:=h',toks:=tk}):KP (KS prog w) A (unpackItems (.ref l) S8.size none) Q E s:=by
 have UZ:l<s.heap.objs.size:=by obtain⟨o,ho,_⟩:=id hl;exact KZ ho
 have ty:s.TypeIs (.ref l) "list":=by obtain⟨o,ho,hc,_⟩:=id hl;exact⟨o,ho,hc⟩
 unfold unpackItems notIterableAtAll
 refine Kz (Kz (wpAny_specialOf ty PySem.F.slot_list_iter.lookup ?_))
 refine KN ?_
 refine Kz (LD (OQ hl ?_))
 have W:=Walks.list (prog:=prog) (w:=w) (A:=A) hA s.heap.objs.size l (Lo UZ) S8
 refine Kz (LD (tR W S8.size 0 _ _ ⟨⟨_,Li _ rfl,rfl,rfl⟩,hl.push _⟩ (by omega) λh' tk st kp=> ?_))
 have e:((S8.toList.drop 0).take S8.size)=S8.toList:=by rw[RJ];exact List.take_of_length_le (by simp)
 rw[e]
 rw[if_neg (by simp)]
 rw[Ph]at st
 refine Kz (LD (W.done _ _ E st λh2 a00 a01=> ?_))
 refine KN (k h2 a00 λb o hb eb=> ?_)
 have nb:b∉[s.heap.objs.size]:=λz=>hb (KU.mp z)
 exact a01 b o nb (kp b o nb (KH _ eb))
theorem oq {env:Mm} {Xq:List KI} {x1:Nat} {pos:Ls} {l:Kx} {S8:Array Kv} {Q:Unit->Ky->Prop} (hA:A.handled=none) (hl:s.heap.IsList l S8) (hn:(LL Xq env).length=S8.size) (V2:(LL Xq env).findIdx? (·.1)=none)
  (k:∀(h':L4) (tk:Nat),(∀b o,b≠s.heap.objs.size->s.heap.get? b=some o->h'.get? b=some o)->KP (KS prog w) A (assignInOrder ((LL Xq env).map (·.2)) S8.toList) Q E {s with heap:=h',toks:=tk}):
  KP (KS prog w) A (Nq (.Tuple Xq x1 pos) env (.ref l)) Q E s:=by
 rw[assign_Tuple]
 refine Kz (O2 ?_)
 unfold unpack
 rw[V2,hn]
 exact Kz (LD (pI hA hl λh' tk kp=>k h' tk kp))
end
section
variable {X:Cx} {pos:Ls}
def JA (K:Ku) (n:Nat) (t:Be):TG:=λv σ H Q=>∃a xs,v= .ref a/\dA K H a xs/\xs.length=n/\t xs σ H Q
theorem BH {es:List KI} {k:Nat} {t:Be} {n:Nat} (hc:X.calm=true) (h:Bf X es t) (hn:(LL es X.env).length=n:=by rfl) (V2:(LL es X.env).findIdx? (·.1)=none:=by rfl):PG X (.Tuple es k pos) (JA X.K n t):=by
 intro S4 s σ H v u Q I r hw
 obtain⟨a,xs,e1,hq,hl,hw⟩:=hw
 subst e1
 cases r
 obtain⟨its,rv,ht,hz⟩:=I.list hq
 refine oq (I.ok.hd hc) ht.isList (by simp[hn,<-hl,rv.length]) V2 λh' tk hx=> ?_
 have I1:aP X S4 σ H {s with heap:=h',toks:=tk}:=I.kept (t':=tk) λb o e=>hx b o (Lo (KZ e)) e
 exact h S4 _ σ H xs _ Q I1 (by simpa using rv) hw
def JB (K:Ku):V->Option Int->Option Int->Hp->VK->Prop:=λx lo hi H Q=>∃a xs,x= .ref a/\iT K H a xs/\(HT.fE xs.length 0 lo=0/\HT.fE xs.length xs.length hi=xs.length)/\Q (.ref a) H
theorem mM {prog:KW} {w:La} {A:Lg} {E:Kv->Ky->Prop} {s:Ky} {t sl:Kx} {S8:Array Kv} {vl vu:Kv} {lo hi:Option Int} {Q:Kv->Ky->Prop} (ht:Qi s.heap t S8) (hs:s.heap.IsSliceOf sl vl vu .none) (pl:Oh vl lo) (pu:Oh vu hi)
  (hw:HT.fE S8.size 0 lo=0/\HT.fE S8.size S8.size hi=S8.size) (h:Q (.ref t) s):KP (KS prog w) A (NQ (.ref t) (.ref sl)) Q E s:=by
 obtain⟨os,XO,Za,YA⟩:=id hs
 have ZF:s.TypeIs (.ref sl) "slice":=⟨os,XO,Za⟩
 unfold NQ
 try with_reducible refine LD ?_
 first|refine Kz (KN ?_)|skip
 refine Kz (R5 ht.typeIs (by decide) ?_)
 refine Kz (Pt (name:=NL "__getitem__") ht.typeIs LJ
  (Nm LJ ht.typeIs Qz ?_ (QP _ _)))
 show KP _ _ (OI (.ref t)>>=_) _ _ s
 refine Kz (OJ ht ?_)
 refine Kz (Pa ZF ?_)
 rw[if_pos (by decide)]
 refine Kz (HT.jS hs pl pu ?_)
 show KP _ _ (if (((HT.fE S8.size 0 lo:Nat):Int)==0&&(1:Int)==1&&(HT.fE S8.size S8.size hi - HT.fE S8.size 0 lo)==S8.size)=true then _ else _) _ _ s
 rw[if_pos (by rw[hw.1,hw.2];simp)]
 unfold OO
 refine Kz (Kz (Pa ht.typeIs (KN ?_)))
 rw[if_pos (by decide)]
 refine Kz (RA ?_)
 exact NH ⟨_,rfl,KN h⟩
theorem DY:EU X (JB X.K):=by
 intro S4 s σ H x v vl vu lo hi sl Q I rx hs pl pu h
 obtain⟨a,xs,rfl,hx,hw,q⟩:=h
 cases rx
 obtain⟨its,r,ht,hz⟩:=I.tuple hx
 have Sq:its.toArray.size=xs.length:=by rw[KG];exact r.length.symm
 refine⟨"tuple",_,LJ.lookup,ht.typeIs,?_⟩
 exact mM ht hs pl pu (by rw[Sq];exact hw) ⟨.ref a,H,I,rfl,q⟩
theorem vR (l b:Kx) (S8 W_:Array Kv) (n n2:Nat) (dd Yi:Option Kx) (sl Yj:Array (Option Kv)) (h0:S8.isEmpty=true):
  Meets (Ov.«tuple.__add__» {pos:=[Lh l,Lh b]}) λx R s=>
    s.heap.get? l=some {cls:=MP "tuple",dict:=dd,data:=RX S8 n,slots:=sl}/\
     s.heap.get? b=some {cls:=MP "tuple",dict:=Yi,data:=RX W_ n2,slots:=Yj}/\R (Except.ok (Flow.ret (Lh b))) s:=by
 intro prog w A R s ⟨g1,g2,q⟩
 have t1:Qi s.heap l S8:=⟨_,g1,rfl,n,rfl⟩
 have t2:Qi s.heap b W_:=⟨_,g2,rfl,n2,rfl⟩
 unfold Ov.«tuple.__add__»
 refine Kz (KN (a:=(Lh l,[Lh b])) ?_)
 dsimp only
 refine Kz (wpAny_isInstance t2.typeIs sub_tuple_tuple ?_)
 rw[if_neg (by decide)]
 refine Kz (OJ t1 (Kz (OJ t2 ?_)))
 rw[if_pos h0]
 unfold OO
 refine Kz (Kz (Pa t2.typeIs (KN ?_)))
 rw[if_pos (by decide)]
 exact Kz (RA (NH q))
def EZ (K:Ku):R2:=λx y H Q=>∃a b ys,x= .ref a/\y= .ref b/\iT K H a []/\iT K H b ys/\Q (.ref b) H
theorem DZ:lq X (Mt .Add) (EZ X.K):=by
 intro S4 s σ H x y v u Q I rx ry h
 obtain⟨a,b,ys,rfl,rfl,ha,hb,q⟩:=h
 cases rx
 cases ry
 obtain⟨its,r1,p1,_⟩:=I.tuple ha
 obtain⟨UM,r2,p2,_⟩:=I.tuple hb
 cases r1
 obtain⟨⟨cls,dd,data,sl⟩,ho,hc,n,hd⟩:=id p1
 obtain⟨⟨ZE,Yi,data2,Yj⟩,XN,Yy,n2,Yz⟩:=id p2
 simp only at hc hd Yy Yz
 subst hc hd Yy Yz
 exact QO ⟨_,ho,rfl⟩ ⟨_,XN,rfl⟩ P8 Qu O0 NS (NK _ _)
   (vR a b _ _ n n2 dd Yi sl Yj rfl) ⟨ho,XN,⟨.ref b,H,I,rfl,q⟩⟩
end
end L2
namespace L2
open PySem PySem.Spec PyProof.Rows
section
variable {X:Cx}
theorem ou:∀{bs:List Bool} {its:List Kv},bp (bs.map V.bl) its->∀{i:Nat} {v:Kv},its[i]? =some v->∃b,bs[i]? =some b/\v= .bool b:=by
 intro bs its r i v e
 have hl:=r.length
 rw[KA]at hl
 have hi:i<bs.length:=by rw[hl];exact(L3.mp e).1
 obtain⟨u,h1,h2⟩:=r.get (i:=i) (x:=V.bl bs[i]) (by simp[hi])
 rw[e]at h1
 cases h1
 exact⟨bs[i],by simp[hi],h2⟩
theorem uH:∀{ns:List Int} {its:List Kv},bp (ns.map V.int) its->∀{i:Nat} {v:Kv},its[i]? =some v->∃t,v= .int (ns.getD i 0) t:=by
 intro ns its r i v e
 have hl:=r.length
 rw[KA]at hl
 have hi:i<ns.length:=by rw[hl];exact(L3.mp e).1
 obtain⟨u,h1,h2⟩:=r.get (i:=i) (x:=V.int ns[i]) (by simp[hi])
 rw[e]at h1
 cases h1
 obtain⟨t,ht⟩:=h2
 exact⟨t,by rw[ht];simp[hi]⟩
theorem xJ (bs:List Bool):((LA bs.length).any λi=>bs.getD i false)=bs.any id:=by
 rw[Nz,LO,LO]
 constructor
 ·rintro⟨i,h1,h2⟩
  have hi:=Md.mp h1
  exact⟨bs[i],O5 hi,by simpa[hi]using h2⟩
 ·rintro⟨b,h1,h2⟩
  obtain⟨i,hi,e⟩:=MY h1
  exact⟨i,Md.mpr hi,by simp[hi,e];exact h2⟩
theorem A8 {s:Ky} {it:Lk} {h':L4} (hk:∀b o,b∉[s.heap.objs.size]->(s.heap.push it).get? b=some o->h'.get? b=some o):∀b o,s.heap.get? b=some o->h'.get? b=some o:=λb o e=>
 hk b o (λz=>by rw[KU.mp z]at e;exact absurd (KZ e) (LP _)) (KH _ e)
theorem iR (hc:X.calm=true):dX X (.builtin "any") (λxs H Q=>∃(p:Kx) (bs:List Bool),xs=[.ref p]/\dA X.K H p (bs.map V.bl)/\Q (.bl (bs.any id)) H):=by
 intro S4 s σ H xs us Q I rv h
 obtain⟨p,bs,rfl,hx,q⟩:=h
 obtain⟨u,rfl,ru⟩:=jR rv
 cases ru
 obtain⟨its,r,ht,hz⟩:=I.list hx
 have hl:=ht.isList
 have UZ:p<s.heap.objs.size:=by obtain⟨_,e,_⟩:=hl;exact KZ e
 refine call_any_walk (OQ hl ?_)
 refine⟨s.heap.objs.size,[s.heap.objs.size,p],[s.heap.objs.size],its.toArray.size,_,_,λi=>bs.getD i false,rfl,Walks.list (A:=X.A.in1) (I.ok.hd hc) _ p (Lo UZ) its.toArray,⟨⟨_,Li _ rfl,rfl,rfl⟩,hl.push _⟩,λi v s' Q' E' hP hQ=> ?_,λh' tk hk=> ?_⟩
 ·obtain⟨b,e,rfl⟩:=ou r (i:=i) (v:=v) (by simpa using hP)
  have:bs.getD i false=b:=by simp[LR,e]
  dsimp only at hQ
  rw[this]at hQ
  exact Mi hQ
 ·have e:((LA its.toArray.size).any λi=>bs.getD i false)=bs.any id:=by
   have hl:=r.length
   rw[KA]at hl
   rw[KG,<-hl];exact xJ bs
  rw[e]
  exact⟨.bl _,H,I.kept (A8 hk),rfl,q⟩
def BI (k:Bool):Kv->Bool
 | .bool b=>b==k
 |_=>false
theorem yP {k:Bool}:∀{bs:List Bool} {its:List Kv},bp (bs.map V.bl) its->its.countP (BI k)=bs.count k
 |[],its,r=>by cases r;rfl
 |b::bs,its,r=>by
  cases r with
  |cons h t=>cases h;rw[Rj,RB,yP t];rfl
def D_ (K:Ku):V->List V->Hp->VK->Prop:=λx vs H Q=>∃(l:Kx) (k:Bool) (bs:List Bool),x= .ref l/\vs=[.bl k]/\dA K H l (bs.map V.bl)/\Q (.int (bs.count k)) H
theorem A9:FW X "list.count" (D_ X.K):=by
 intro S4 s σ H x vs v us Q I rx rv h
 obtain⟨l,k,bs,rfl,rfl,hx,q⟩:=h
 cases rx
 obtain⟨u,rfl,ru⟩:=rv.one
 cases ru
 obtain⟨its,r,ht,hz⟩:=I.list hx
 obtain⟨⟨cls,dd,data,sl⟩,ho,hc,n,hd⟩:=ht.isList
 simp only at hc hd
 subst hc hd
 refine N3 MZ ⟨_,ho,rfl⟩ Pj (OY _ _) (Pk l its.toArray n dd sl (.bool k) (BI k)) ⟨ho,λy hy=> ?_,?_⟩
 ·obtain⟨i,hi,e⟩:=MY (show y∈its by simpa using hy)
  obtain⟨b,_,rfl⟩:=ou r (i:=i) (v:=y) (by rw[Ld hi,e])
  exact NM b k
 ·rw[show its.toArray.toList=its from rfl,yP r]
  exact⟨.int _,H,I.tok _,⟨_,rfl⟩,q⟩
theorem HZ {k:Bool} {bs:List Bool} {its:List Kv} (r:bp (bs.map V.bl) its) {i:Nat} (hi:i<its.length):∃h:i<bs.length,its[i]= .bool bs[i]:=by
 obtain⟨b,h1,h2⟩:=ou r (i:=i) (v:=its[i]) (Ld hi)
 obtain⟨l,e⟩:=L3.mp h1
 exact⟨l,by rw[h2,e]⟩
theorem BJ {k:Bool}:∀{bs:List Bool} {m:Nat} (hm:m<bs.length),m<bs.idxOf k->(bs[m]==k)=false
 |b::bs,0,hm,h=>by
  rw[RC]at h
  cases e:b==k with
  |true=>rw[e]at h;simp at h
  |false=>exact e
 |b::bs,m+1,hm,h=>by
  rw[RC]at h
  cases e:b==k with
  |true=>rw[e]at h;simp at h
  |false=>
   rw[e]at h
   exact BJ (bs:=bs) (m:=m) (by simpa using hm) (by simp at h;omega)
def E0 (K:Ku):V->List V->Hp->VK->Prop:=λx vs H Q=>∃(l:Kx) (k:Bool) (bs:List Bool),x= .ref l/\vs=[.bl k]/\dA K H l (bs.map V.bl)/\k∈bs/\bs.length<1000/\Q (.int (bs.idxOf k)) H
theorem Aa:FW X "list.index" (E0 X.K):=by
 intro S4 s σ H x vs v us Q I rx rv h
 obtain⟨l,k,bs,rfl,rfl,hx,hk,hl,q⟩:=h
 cases rx
 obtain⟨u,rfl,ru⟩:=rv.one
 cases ru
 obtain⟨its,r,ht,hz⟩:=I.list hx
 have Sq:=r.length
 rw[KA]at Sq
 obtain⟨⟨cls,dd,data,sl⟩,ho,hc,n,hd⟩:=ht.isList
 simp only at hc hd
 subst hc hd
 have hj:=List.idxOf_lt_length_of_mem hk
 refine N3 Pw ⟨_,ho,rfl⟩ PySem.F.entry_list_index (PySem.F.args_list_index_2 _ _) (PySem.SeqAt.list_indexAt l its.toArray n dd sl (.bool k) (BI k) (bs.idxOf k) (by rw[KG,<-Sq];exact hj) (by omega) ?_ ?_) ⟨ho,λy hy=> ?_,?_⟩
 ·obtain⟨h1,e⟩:=HZ (k:=k) r (i:=bs.idxOf k) (by rw[<-Sq];exact hj)
  show BI k (its[bs.idxOf k]'_)=true
  rw[e]
  show (bs[bs.idxOf k]==k)=true
  simp
 ·intro m hm UZ
  obtain⟨h1,e⟩:=HZ (k:=k) r (i:=m) (by simpa using hm)
  show BI k (its[m]'_)=false
  rw[e]
  exact BJ h1 UZ
 ·obtain⟨i,hi,e⟩:=MY (show y∈its by simpa using hy)
  obtain⟨b,_,rfl⟩:=ou r (i:=i) (v:=y) (by rw[Ld hi,e])
  exact NM b k
 ·exact⟨.int _,H,I.tok _,⟨_,rfl⟩,q⟩
end
end L2
namespace L2
open PySem PySem.Spec PyProof.Rows
theorem sV:isSubtype (.type "tuple") (.type "set")=pure false:=by rw[isSubtype_type];kernel_rfl
theorem rV:isSubtype (.type "tuple") (.type "frozenset")=pure false:=by rw[isSubtype_type];kernel_rfl
abbrev setNew (WA:Bool):Lk:={cls:= .type "set",dict:=none,data:= .set #[] 0 (.fresh 0 0 WA)}
abbrev BK (prog:KW) (w:La) (h':L4) (a:Kx) (ns:List Int) (n:Nat):Prop:=h'.SetOf (intKind prog w) a (λk=>(Rl (λi=>ns.getD i 0) n).any (·==k)) (Rl (λi=>ns.getD i 0) n).length
set_option maxHeartbeats 8000000 in
theorem Ab {prog:KW} {w:La} {A:Lg} {E:Kv->Ky->Prop} {s:Ky} {u:Kx} {xs:Array Kv} {ns:List Int} {Q:Kv->Ky->Prop} (hh:A.handled=none) (ht:s.heap.IsTuple u xs) (hi:∀(i:Nat) (v:Kv),xs[i]? =some v->∃t,v= .int (ns.getD i 0) t) (hb:xs.size+1<QX)
  (TU:∀(h':L4) (tk:Nat),BK prog w h' s.heap.objs.size ns xs.size->(∀b o,b<s.heap.objs.size->s.heap.get? b=some o->h'.get? b=some o)->Q (.ref s.heap.objs.size) {s with heap:=h',toks:=tk}):KP (KS prog w) A (call (.type "set") [.ref u]) Q E s:=by
 obtain⟨c,tl,a1L⟩:=F.called_set.mro
 have m1:=F.called_set.made
 have m2:=F.called_set.sub
 have m3:=F.called_set.notType
 have m4:=F.called_set.canCreate
 have m5:=F.typeCall_set_1 (.ref u)
 refine OX (codeAny_of_tree ?_)
 show KP _ _ (callAny (.type "set") _) _ _ _
 refine KN ⟨QY _ (by decide+kernel),codeAny_builtin F.entry_type_call ?_⟩
 rw[Around.under_plain (weight_type_call_type "set" [.ref u] []) rfl]
 repeat (any_goals (first|assumption|wp_step))
 refine NJ (code_set_new_1 (.ref u) (E:=E) (Q₁:=λo s₁=>∃WA:Bool,o= .ref s.heap.objs.size/\s₁={s with heap:=s.heap.push (setNew WA)}) λWA=>⟨WA,rfl,rfl⟩) λr s₁ hr=> ?_
 cases r with
 |error e=>exact hr
 |ok fl=>
  cases fl with
  |ret o=>
   obtain⟨WA,rfl,rfl⟩:=hr
   have gS:(s.heap.push (setNew WA)).get? s.heap.objs.size=some (setNew WA):=Li _ rfl
   have tS:Shared.TypeIs {s with heap:=s.heap.push (setNew WA)} (.ref s.heap.objs.size) "set":=⟨_,gS,rfl⟩
   have n1:=F.called_set.init.lookup
   have n2:=F.called_set.init.bind (.ref s.heap.objs.size)
   repeat (any_goals (first|assumption|wp_step))
   refine NJ (Ol (R:=wants (λr s₂=>r= .none/\∃h' tk,s₂={s with heap:=h',toks:=tk}/\BK prog w h' s.heap.objs.size ns xs.size/\∀b o,b<s.heap.objs.size->s.heap.get? b=some o->h'.get? b=some o) E) F.called_set.init.plain F.entry_set_init (check_set_init_1 tS ?_)) λr₂ s₂ a02=> ?_
   ·have a3r:=ht
    obtain⟨ot,a0_,Ze,nt,a10⟩:=ht
    obtain⟨a1M,YM,a11,XX⟩:=ot
    simp only at Ze a10
    subst Ze
    subst a10
    have a03:(s.heap.push (setNew WA)).get? u=some {cls:= .type "tuple",dict:=YM,data:= .seq xs nt,slots:=XX}:=KH _ a0_
    have k1:=sV
    have k2:=rV
    have k3:(MP "tuple"==MP "dict")=false:=by decide
    have t1:(s.heap.push (setNew WA)).IsTuple u xs:=⟨_,a03,rfl,nt,rfl⟩
    unfold Ov.«set.__init__» noKeywords RK
    generalize a1N:pyIter=PI
    wp_walk
    subst a1N
    refine QI t1 (Kz (wpAny_runValue ?_))
    have hu:u<s.heap.objs.size:=KZ a0_
    have h3:A.in1.in1.in1.handled=none:=by simp[hh]
    have z1:u≠(s.heap.push (setNew WA)).objs.size:=by rw[Nc];exact Lo (MM hu)
    have z2:s.heap.objs.size∉[(s.heap.push (setNew WA)).objs.size,u]:=by
     rw[Nc]
     intro z
     rcases KR.mp z with z|z
     ·exact Lo (P7 _) z
     ·exact Nat.ne_of_gt hu (KU.mp z)
    refine codeAny_set_update_loopS (Walks.tuple h3 _ u z1 xs).toS s.heap.objs.size z2 (λi=>ns.getD i 0) (λi v hv=>hi i v hv) hb (xs.size - 0) 0 _ (by omega) (Ml _) ⟨⟨_,Li _ rfl,rfl,rfl⟩,t1.push _⟩ ?a0 ?a1
    case a0=>
     exact SetOf_congr ((setObjOf_fresh (knd:=intKind prog w) WA).setOf (KH _ gS) (by unfold QX;omega)) (λ_=>rfl) rfl
    case a1=>
     intro s' hm a04
     obtain⟨h',g',d',a1O,ZD⟩:=s'
     obtain rfl:g'=s.gens:=hm.gens
     obtain rfl:d'=s.drawn:=hm.drawn
     obtain rfl:ZD=s.os:=hm.os
     show KP _ _ _ _ _ _
     refine KN ?_
     show KP _ _ (ret LK) _ _ _
     refine KN ⟨rfl,h',a1O,rfl,a04,λb o hb e=>hm.heap b o ?_ (KH _ (KH _ e))⟩
     rw[Nc]
     intro z
     rcases KR.mp z with z|z
     ·exact Lo hb z
     ·exact Lo (MM hb) (KU.mp z)
   ·cases r₂ with
    |error e=>exact a02
    |ok a1P=>
     cases a1P with
     |ret r=>
      obtain⟨rfl,h',tk,rfl,a04,Wj⟩:=a02
      repeat (any_goals (first|assumption|wp_step))
      exact TU _ _ a04 Wj
     |_=>exact a02.elim
  |_=>exact hr.elim
def gr (ns:List Int):Nat:=(Rl (λi=>ns.getD i 0) ns.length).length
section
variable {X:Cx} {e:KI} {te:TE} {p1 p2 pos UI:Ls}
def E1 (K:Ku) (te:TE):TE:=λσ H Q=>te σ H λx H1=>∃(a:Kx) (ns:List Int),[x]=[V.ref a]/\(dA K H1 a (ns.map V.int)\/iT K H1 a (ns.map V.int))/\ns.length<4000/\Q (.int (gr ns)) H1
theorem BL:Lu "set"=some (.type "set"):=by decide+kernel
theorem Ac:Lu "len"=some (.builtin "len"):=by decide+kernel
theorem Ad (hc:X.calm=true) (he:PE X e te) (a05:X.mg "len"=none) (a06:X.mg "set"=none) (a07:Gl X "len") (a08:Gl X "set")
  (Zf:KC [e] X.env=(false,L5 e X.env)::KC [] X.env) (XY:(Ll UI (KC [] X.env)).any (·.1)=false)
  (WV:KC [.Call (.Name "set" p2) [e] [] UI] X.env=(false,L5 (.Call (.Name "set" p2) [e] [] UI) X.env)::KC [] X.env) (XZ:(Ll pos (KC [] X.env)).any (·.1)=false):
  PE X (.Call (.Name "len" p1) [.Call (.Name "set" p2) [e] [] UI] [] pos) (E1 X.K te):=by
 intro S4 s σ H Q I h
 refine MH (nv I a07 a05 Ac ?_ (by decide) (by decide))
 refine Og ?_ WV XZ
 rw[WV]
 show KP _ _ (RF ((false,L5 (.Call (.Name "set" p2) [e] [] UI) X.env)::Ll pos (KC [] X.env))) _ _ s
 refine QN ?_
 refine MH (nv I a08 a06 BL ?_ (by decide) (by decide))
 refine MG ?_ Zf XY
 refine cV (df he gP Zf UI S4 s σ H (λvs H1=>∃(a:Kx) (ns:List Int),vs=[V.ref a]/\(dA X.K H1 a (ns.map V.int)\/iT X.K H1 a (ns.map V.int))/\ns.length<4000/\Q (.int (gr ns)) H1) I h) λus s1 z_=> ?_
 obtain⟨vs,H1,I1,r1,a,ns,rfl,hx,hl,q⟩:=z_
 obtain⟨u,rfl,ru⟩:=jR r1
 cases ru
 have TU:∀(n:Nat),n=ns.length->∀(h':L4) (tk:Nat),BK X.prog X.w h' s1.heap.objs.size ns n->(∀b o,b<s1.heap.objs.size->s1.heap.get? b=some o->h'.get? b=some o)->
   KP (KS X.prog X.w) X.A (RF (Ll pos (KC [] X.env))) (λus s2=>KP (KS X.prog X.w) X.A (call (.builtin "len") (.ref s1.heap.objs.size::us)) (EP X S4 σ Q) X.xe s2) X.xe {s1 with heap:=h',toks:=tk}:=by
  rintro n rfl h' tk hS hk
  refine R4 ?_
  obtain⟨o,es,ep,t,ho,a1Q,hd,Wy,VC,_,hf,YN⟩:=hS
  have a1R:=firstMet_length_le (λi=>ns.getD i 0) ns.length
  refine call_len_set ho a1Q hd hf (by rw[YN];omega) ?_
  rw[YN]
  exact⟨.int _,H1,(I1.kept λb o e=>hk b o (KZ e) e).tok _,⟨_,rfl⟩,q⟩
 rcases hx with hx|hx
 ·obtain⟨its,r,ht,hz⟩:=I1.list hx
  have Sq:=r.length
  rw[KA]at Sq
  exact call_set_list (I1.ok.hd hc) ht.isList (kr r) (by rw[KG,<-Sq];unfold QX;omega) λh' tk a b=>TU _ (by rw[KG,Sq]) h' tk a b
 ·obtain⟨its,r,ht,hz⟩:=I1.tuple hx
  have Sq:=r.length
  rw[KA]at Sq
  exact Ab (I1.ok.hd hc) ht (λi v hv=>uH r (by simpa using hv)) (by rw[KG,<-Sq];unfold QX;omega) λh' tk a b=>TU _ (by rw[KG,Sq]) h' tk a b
end
end L2
namespace L2
open PySem PySem.Spec PyProof.Rows
theorem ci.there {P:KW} {w:La} {H:Hp} {h:L4} {a:Kx} {o:HO} (x:ci P w H h a o):∃ob,h.get? a=some ob:=by
 cases o with
 |lst xs=>obtain⟨_,_,_,_,e⟩:=x;exact⟨_,e⟩
 |tup xs=>obtain⟨_,_,_,o,e,_⟩:=x;exact⟨_,e⟩
 |dK kvs=>obtain⟨_,_,_,_,o,_,_,e,_⟩:=x;exact⟨_,e⟩
 |dT kvs=>obtain⟨_,_,_,_,o,_,_,e,_⟩:=x;exact⟨_,e⟩
 |set S n=>obtain⟨o,_,_,_,e,_⟩:=x;exact⟨_,e⟩
 |ins C dx fs=>obtain⟨_,_,_,e,_⟩:=x;exact⟨_,e⟩
 |own y=>obtain⟨_,e⟩:=x;exact⟨_,e⟩
 |xd fs=>obtain⟨_,⟨_,_,_,e,_⟩,_⟩:=x;exact⟨_,e⟩
 |rng lo hi=>obtain⟨_,_,_,e⟩:=x;exact⟨_,e⟩
 |frz ob u=>obtain⟨e,_⟩:=x;exact⟨_,e⟩
 |tbl ps=>exact⟨_,(show h.get? a=some _ from x)⟩
 |met f y=>exact⟨_,(show h.get? a=some _ from x)⟩
 |ext φ=>obtain⟨_,⟨_,e⟩,_⟩:=x;exact⟨_,e⟩
theorem lp.none_of {P:KW} {w:La} {H:Hp} {h:L4} {a:Kx} (x:lp P w H h) (e:h.get? a=none):H a=none:=by
 cases q:H a with
 |none=>rfl
 |some o=>obtain⟨ob,z⟩:=(x a o q).there;rw[e]at z;cases z
structure xK (X:Cx) (S4:List (Kx×Lk)) (H:Hp) (b:Kx):Prop where
 s0:X.s₀.heap.get? b=none
 no:H b=none
 pin:∀p∈X.pn++S4,p.1≠b
structure G5 (X:Cx) (S4:List (Kx×Lk)) (H:Hp) (h:L4) (a T:Kx) (fl:Kv):Prop where
 new:xK X S4 H T
 ne:T≠a
 at_:∃oT ts,h.get? T=some oT/\oT.data= .fields ts/\ts[3]? =some fl
structure Fl (X:Cx) (S4:List (Kx×Lk)) (H:Hp) (h:L4) (a:Kx) (cls:Kv):Prop where
 new:xK X S4 H a
 at_:∃oe vs,h.get? a=some oe/\oe.cls=cls/\oe.data= .fields vs/\(vs[1]? =some .none\/∃T fl,vs[1]? =some (.ref T)/\G5 X S4 H h a T fl/\(fl= .none\/fl=rawInt X.env.locals))
structure Hd (X:Cx) (S4:List (Kx×Lk)) (H:Hp) (h:L4) (a:Kx) (cls fl:Kv):Prop where
 new:xK X S4 H a
 at_:∃oe vs,h.get? a=some oe/\oe.cls=cls/\oe.data= .fields vs/\∃T,vs[1]? =some (.ref T)/\G5 X S4 H h a T fl
abbrev H_ (X:Cx) (S4:List (Kx×Lk)) (H:Hp) (h:L4) (a:Kx) (cls:Kv):Prop:=Hd X S4 H h a cls .none
theorem Hd.flo {X:Cx} {S4:List (Kx×Lk)} {H:Hp} {h:L4} {a:Kx} {cls fl:Kv} (f:Hd X S4 H h a cls fl) (hf:fl= .none\/fl=rawInt X.env.locals):Fl X S4 H h a cls:=
 let ⟨oe,vs,h1,h2,h3,T,h4,h5⟩:=f.at_;⟨f.new,oe,vs,h1,h2,h3, .inr ⟨T,fl,h4,h5,hf⟩⟩
theorem Hd.fl {X:Cx} {S4:List (Kx×Lk)} {H:Hp} {h:L4} {a:Kx} {cls:Kv} (f:Hd X S4 H h a cls .none):Fl X S4 H h a cls:=f.flo (.inl rfl)
section
variable {X:Cx} {S4:List (Kx×Lk)} {σ:St} {H H':Hp} {s s':Ky} {a:Kx} {cls:Kv}
structure jU (X:Cx):Prop where
 st:X.stack=X.env::X.outer
 fr:X.env.frame=some X.env.locals
 ex:X.ex=[]
theorem xK.of (I:aP X S4 σ H s) (p:jU X) {b:Kx} (h:s.heap.get? b=none) (hH:H' b=none):xK X S4 H' b:=by
 refine⟨?_,hH,λq hq z=> ?_⟩
 ·cases e:X.s₀.heap.get? b with
  |none=>rfl
  |some o=>
   obtain⟨o',e'⟩:=I.base.there b o e (by rw[p.ex];simp)
   rw[h]at e';cases e'
 ·have:=(I.pin q hq).1
  rw[z,h]at this;cases this
def yQ (h B:L4) (a:Kx) (cls fl:Kv):Prop:=∃oe vs T oT ts,h.get? a=some oe/\oe.cls=cls/\oe.data= .fields vs/\vs[1]? =some (.ref T)/\B.get? T=none/\T≠a/\h.get? T=some oT/\oT.data= .fields ts/\ts[3]? =some fl
theorem _root_.PySem.Heap.TracedAtW.tl {h B:L4} {a:Kx} {cls a0 fl:Kv} (t:h.TracedAtW B a cls a0 fl):yQ h B a cls fl:=
 let ⟨oe,vs,T,oT,ts,g1,g2,g3⟩:=t;⟨oe,vs,T,oT,ts,g1,g2.1,g3⟩
theorem tU (I:aP X S4 σ H s) (p:jU X) (fl:Fl X S4 H s.heap a cls):∃(B:L4) (oe:Lk) (vs:Array Kv),s.heap.get? a=some oe/\oe.cls=cls/\oe.data= .fields vs/\s.heap.FunFrames B (X.env::X.outer)/\B.StaysIn s.heap/\B.get? a=none/\
  (vs[1]? =some .none\/∃T oT ts fl,vs[1]? =some (.ref T)/\B.get? T=none/\T≠a/\s.heap.get? T=some oT/\oT.data= .fields ts/\ts[3]? =some fl/\(fl= .none\/fl=rawInt X.env.locals))/\
  ∀h' fl,B.StaysIn h'->yQ h' B a cls fl->s.heap.UpToSlots h'->aP X S4 σ H {s with heap:=h'}/\Hd X S4 H h' a cls fl:=by
 obtain⟨oe,vs,ge,gc,gd,gt⟩:=fl.at_
 obtain⟨rest,XB,YO⟩:∃rest:List Kx,(∀b∈rest,xK X S4 H b/\∃oT ts,s.heap.get? b=some oT/\oT.data= .fields ts)/\(vs[1]? =some .none\/∃T fl,vs[1]? =some (.ref T)/\G5 X S4 H s.heap a T fl/\(fl= .none\/fl=rawInt X.env.locals)/\T∈rest):=by
  rcases gt with g|⟨T,fl,g,t,a09⟩
  ·exact⟨[],(λb hb=>by cases hb), .inl g⟩
  ·obtain⟨oT,ts,e1,e2,_⟩:=t.at_
   exact⟨[T],λb hb=>by rw[KU.mp hb];exact⟨t.new,oT,ts,e1,e2⟩, .inr ⟨T,fl,g,t,a09,KU.mpr rfl⟩⟩
 have a0a:∀b,b∈X.fs->b∈q_ X.stack:=λb hb=>by
  rw[p.st]
  unfold q_
  rw[MW,p.fr]
  exact L0 _ hb
 have a0b:X.env.locals∈q_ X.stack:=by
  rw[p.st]
  unfold q_
  rw[MW,p.fr]
  exact K_
 have a0c:∀b∈a::rest,xK X S4 H b/\∃oT ts,s.heap.get? b=some oT/\oT.data= .fields ts:=λb hb=>by
  rcases KR.mp hb with rfl|hb
  ·exact⟨fl.new,oe,vs,ge,gd⟩
  ·exact XB b hb
 have Zg:∀b∈q_ X.stack,∃o,s.heap.get? b=some o/\∀vs:Array Kv,o.data≠Data.fields vs:=λb hb=>(I.stack.mem hb).2
 have apart:∀b∈a::rest,b∉q_ X.stack:=λb hb z=>by
  obtain⟨_,o,ts,e1,e2⟩:=a0c b hb
  obtain⟨o',e3,e4⟩:=Zg b z
  rw[e1]at e3;cases e3
  exact e4 ts e2
 let a12:List Kx:=(a::rest)++q_ X.stack
 let B:L4:=Rq s.heap a12
 have ff:s.heap.FunFrames B X.stack:=PySem.W.funFrames_hide I.stack λenv he b hb=>Lm _ (Oy.mpr ⟨env,he,hb⟩)
 have hB:B.StaysIn s.heap:=λb o e=>QG _ e
 have X_:B.get? a=none:=Ob _ (LU _ K_)
 have a1S:s.heap.FunFrames B (X.env::X.outer):=by rw[<-p.st];exact ff
 refine⟨B,oe,vs,ge,gc,gd,a1S,hB,X_,?_,λh' a3s st ⟨a13,Zh,T',a0d,Zi,g1,g2,g3,g4,g5,g6,g7,g8,g9⟩ up=> ?_⟩
 ·rcases YO with g|⟨T,fl,g,t,a09,hT⟩
  ·exact .inl g
  ·obtain⟨oT,ts,e1,e2,e3⟩:=t.at_
   exact .inr ⟨T,oT,ts,fl,g,Ob _ (LU _ (L0 _ hT)),t.ne,e1,e2,e3,a09⟩
 ·have Zj:∀b o,s.heap.get? b=some o->b∉a::rest->b∉q_ X.stack->h'.get? b=some o:=λb o e n1 n2=>
   st b o (Oq _ e λz=>(LB.mp z).elim n1 n2)
  have newT:xK X S4 H T':=by
   by_cases hr:T'∈rest
   ·exact(XB T' hr).1
   ·have hn:s.heap.get? T'=none:=by
     cases e:s.heap.get? T' with
     |none=>rfl
     |some o=>
      by_cases hf:T'∈q_ X.stack
      ·obtain⟨o',e3,e4⟩:=Zg T' hf
       obtain⟨sl,e5⟩:=up T' o' e3 e4
       rw[g7]at e5;cases e5
       exact absurd g8 (e4 Zi)
      ·have:=Oq a12 (b:=T') e λz=>(LB.mp z).elim (λq=>(KR.mp q).elim g6 hr) hf
       rw[g5]at this;cases this
    exact xK.of I p hn (I.hok.none_of hn)
  refine⟨I.step (g':=s.gens) (d':=s.drawn) (t':=s.toks) (ch:=a::rest) (λb hb=> ?_) (λb o n1 n2 n3 e _=> ?_) (λb o _ hb n3 e _=> ?_) (λ_ _ _ _ n=>n) (λb o n e=> ?_) (λ_ _ e=>e) (λ_ _ _ e=>e) (λb ps e=>⟨#[],by rw[e];simp⟩) (λm hm=> ?_) (λb u e=> ?_) I.bare,
   ⟨fl.new,a13,Zh,g1,g2,g3,T',g4,newT,g6,a0d,Zi,g7,g8,g9⟩⟩
  ·obtain⟨n,o,ts,e1,e2⟩:=a0c b hb
   refine⟨.inr n.s0,λz=>apart b hb (by rw[z];exact a0b),λx c hc z=> ?_,n.pin⟩
   obtain⟨v,o',e3,e4⟩:=I.cell x c hc
   rw[z,e1]at e3;cases e3
   rw[e2]at e4;cases e4
  ·exact Zj b o e n3 λz=>(KR.mp (I.stkSub b z)).elim n1 n2
  ·obtain⟨o',e3,e4⟩:=Zg b (a0a b hb)
   rw[e]at e3;cases e3
   exact up b o e e4
  ·by_cases hf:b∈q_ X.stack
   ·obtain⟨o',e3,e4⟩:=Zg b hf
    rw[e]at e3;cases e3
    obtain⟨sl,e5⟩:=up b o e e4
    exact⟨_,e5⟩
   ·exact⟨o,Zj b o e n hf⟩
  ·obtain⟨o,es,ep,ho,hd,r⟩:=hm
   obtain⟨sl,e5⟩:=up _ o ho λvs z=>by rw[hd]at z;cases z
   exact⟨_,es,ep,e5,hd,r⟩
  ·have nh:∀c v,H c=some v->c∉a::rest/\c∉q_ X.stack:=λc v hc=>⟨λz=>(by have:=(a0c c z).1.no;rw[hc]at this;cases this),λz=>(by have:=I.stkFree c z;rw[hc]at this;cases this)⟩
   refine(I.hok b u e).stay (λc v hc q=> ?_) (λ_ q=>q) λ_ _ q=>q
   rcases hc with z|z
   ·rw[z]at q ⊢;exact Zj b v q (nh b u e).1 (nh b u e).2
   ·exact Zj c v q (nh c _ z).1 (nh c _ z).2
theorem BM {vs:Array Kv} {v:Kv} (h:vs[1]? =some v):1<vs.size/\∃a0,vs[0]? =some a0:=by
 have VY:1<vs.size:=by
  by_cases z:1<vs.size
  ·exact z
  ·rw[Array.getElem?_eq_none (Pd z)]at h;cases h
 exact⟨VY,vs[0]'(by omega),by simp⟩
theorem vS {Q:Unit->Ky->Prop} {E:Kv->Ky->Prop} (I:aP X S4 σ H s) (p:jU X) (fl:Fl X S4 H s.heap a cls)
  (k:∀h',aP X S4 σ H {s with heap:=h'}->H_ X S4 H h' a cls->Q () {s with heap:=h'}):
  KP (KS X.prog X.w) X.A (QS (.ref a) X.env) (λ_ s₂=>KP (KS X.prog X.w) X.A (setFlight (.ref a) none) Q E s₂) E s:=by
 obtain⟨B,oe,vs,ge,gc,gd,ff,hB,X_,hn,hk⟩:=tU I p fl
 have Uh:X.A.frames=some (X.env::X.outer):=by rw[I.ok.frames,p.st]
 rcases hn with g|⟨T,oT,ts,f,g1,g2,g3,g4,g5,g6,g7⟩
 ·obtain⟨VY,a0,h0⟩:=BM g
  unfold QS
  rw[p.fr]
  refine Kz (PZ (o:=oe) ge (by rw[gd]) g ?_)
  refine wpAny_newEntryW (head:= .none) (hadNext:=false) Uh ff p.fr ge hB X_ gd VY h0 λh' z_=> ?_
  obtain⟨st,_,tr,up⟩:=z_
  rw[gc]at tr
  obtain⟨I',f'⟩:=hk h' _ st tr.at.tl up
  exact k h' I' f'
 ·obtain⟨VY,a0,h0⟩:=BM g1
  rcases g7 with rfl|rfl
  ·refine wpAny_looks_onW (cls:=cls) (a0:=a0) Uh p.fr ⟨hB,X_,ff,oe,vs,T,oT,ts,ge,⟨gc,h0⟩,gd,g1,g2,g3,g4,g5,g6⟩ λh1 a0e u1=> ?_
   refine wpAny_landsW a0e λh2 ⟨st,_,_,tr⟩ u2=> ?_
   obtain⟨I',f'⟩:=hk h2 _ st tr.at.tl (u1.trans u2)
   exact k h2 I' f'
  ·have tr0:s.heap.TracedAtW B a cls a0 (rawInt X.env.locals):=⟨oe,vs,T,oT,ts,ge,⟨gc,h0⟩,gd,g1,g2,g3,g4,g5,g6⟩
   refine wpAny_noteFrame_againW p.fr tr0 ?_
   refine wpAny_landsW (base:=B) (l:=X.env::X.outer) (L:=X.env.locals) ⟨hB,X_,ff,tr0⟩ λh2 ⟨st,_,_,tr⟩ u2=> ?_
   obtain⟨I',f'⟩:=hk h2 _ st tr.at.tl u2
   exact k h2 I' f'
theorem BO {Q:Unit->Ky->Prop} {E:Kv->Ky->Prop} (I:aP X S4 σ H s) (p:jU X) (fl:Fl X S4 H s.heap a cls)
  (k:∀h',aP X S4 σ H {s with heap:=h'}->H_ X S4 H h' a cls->Q () {s with heap:=h'}):KP (KS X.prog X.w) X.A (leaving X.env (.ref a)) Q E s:=
 Kz (vS I p fl k)
def Kd (g:L4) (H:Hp) (h:L4) (a:Kx) (cls:Kv):Prop:=g.get? a=none/\H a=none/\∃oe vs T oT ts,h.get? a=some oe/\oe.cls=cls/\oe.data= .fields vs/\vs[1]? =some (.ref T)/\g.get? T=none/\H T=none/\T≠a/\
 h.get? T=some oT/\oT.data= .fields ts/\ts[3]? =some .none
def lg (P:KW) (w:La):xv:=λouter H s E e s'=>∃a cls H',e= .ref a/\s'.os=s.os/\NO s'.gens/\Un (q_ outer) [] H H' s.heap s'.heap/\lp P w H' s'.heap/\Kd s.heap H' s'.heap a cls/\E cls (some a) H'
theorem G6 {E:XK} {e:Kv} (I:aP X S4 σ H s) (p:jU X) (h:lg X.prog X.w X.stack H s E e s'):∃a cls H',e= .ref a/\aP X S4 σ H' s'/\Fl X S4 H' s'.heap a cls/\E cls (some a) H':=by
 obtain⟨a,cls,H',rfl,os,bare,un,hok,⟨n1,n2,oe,vs,T,oT,ts,g1,g2,g3,g4,g5,g6,g7,g8,g9,a14⟩,q⟩:=h
 refine⟨a,cls,H',rfl,I.call' os un hok bare (λb hb=>by cases hb),⟨xK.of I p n1 n2,oe,vs,g1,g2,g3, .inr ⟨T, .none,g4,⟨xK.of I p g5 g6,g7,oT,ts,g8,g9,a14⟩, .inl rfl⟩⟩,q⟩
theorem rW {CX:xv} {P:KW} {w:La} {K:Ku} {mg:Kw->Option Kv} {base:L4} {N:List Kw} {qual:Kw} {scope:MB} {f:Kx} {cd:Kv} {A:Lg} {outer:List Mm} {s:Ky} {H:Hp} {E:XK}:
  jU (iU CX P w K mg base N qual scope f cd A outer s H E):=⟨rfl,rfl,rfl⟩
theorem xL {P:KW} {w:La} {K:Ku} {mg:Kw->Option Kv} {base:L4} {N:List Kw} {qual:Kw} {scope:MB} {f:Kx} {cd:Kv} {A:Lg} {outer:List Mm} {s0:Ky} {H0:Hp} {E:XK}
  (I:aP (iU (lg P w) P w K mg base N qual scope f cd A outer s0 H0 E) S4 σ H s) (fl:Fl (iU (lg P w) P w K mg base N qual scope f cd A outer s0 H0 E) S4 H s.heap a cls) (h:E cls (some a) H):
  (iU (lg P w) P w K mg base N qual scope f cd A outer s0 H0 E).xe (.ref a) s:=by
 refine BO I rW fl λh' I' f'=> ?_
 obtain⟨oe,vs,g1,g2,g3,T,g4,t⟩:=f'.at_
 obtain⟨oT,ts,g5,g6,g7⟩:=t.at_
 exact⟨a,cls,H,rfl,I'.os,I'.bare,I'.base,I'.hok,⟨f'.new.s0,f'.new.no,oe,vs,T,oT,ts,g1,g2,g3,g4,t.new.s0,t.new.no,t.ne,g5,g6,g7⟩,h⟩
end
end L2
namespace L2
open PySem PySem.Spec PyProof.Rows
theorem eN {α:Type} {M:Q_} {A:Lg} {t:N_ α} {r:α} {Q:α->Ky->Prop} {E:Kv->Ky->Prop} {s:Ky} (l:RS M s.heap t r) (q:Q r s):KP M A t Q E s:=l A Q E s (λ_ _ e=>e) q
theorem nD {M:Q_} {h:L4} {x C:Kx} {ox:Lk} (e:h.get? x=some ox) (hc:ox.cls= .ref C):RS M h (typeOf (.ref x)) (.ref C):=λA Q E s k q=>
 Kz (wpAny_loadPart (k _ _ e) (KN (by rw[hc];exact q)))
theorem xM {prog:KW} {w:La} {A:Lg} {s:Ky} {K:Ku} {x C:Kx} {R:QJ->Ky->Prop} {ox:Lk} {tp:Kv} (KX:K.In s.heap) (e:s.heap.get? x=some ox) (hc:ox.cls= .ref C) (hm:Lr K C (.type "object")=some true)
  (q:R (.ok (.ret (.ref C))) s):NP (KS prog w) A (.call (.builtin "getset_descriptor.__get__") {pos:=[.builtin "object.__class__", .ref x,tp]}) R s:=by
 refine Ol QZ.plain PySem.W.KF.entry_gs ?_
 refine QZ.check _ _ _ _ _ _ _ _ PySem.W.KF.type_class (PySem.W.KF.args_gs _ _ _) ?_
 show KP _ _ (NZ _) _ _ _
 unfold NZ
 rw[PySem.W.dga_obj]
 refine Kz (KN ?_)
 dsimp only
 unfold QB
 dsimp only
 unfold Q3 Q4
 dsimp only
 rw[PySem.W.KF.owner_class]
 refine Kz (Kz (KN ?_))
 refine Kz (Kz (eN (nD e hc) (eN (QA KX hm) ?_)))
 refine KN ?_
 refine NH ⟨QY _ (by decide+kernel),codeAny_builtin PySem.W.KF.entry_class ?_⟩
 show KP _ _ (do let t<-shownTypeOf (.ref x);ret t) _ _ _
 unfold shownTypeOf
 refine Kz (Kz (eN (nD e hc) ?_))
 rw[if_neg (by intro z;exact absurd z (by simp))]
 exact KN (NH q)
theorem E2 {prog:KW} {w:La} {A:Lg} {E:Kv->Ky->Prop} {s:Ky} {K:Ku} {x C:Kx} {ox:Lk} {Q:Option Kv->Ky->Prop} (KX:K.In s.heap) (e:s.heap.get? x=some ox) (hc:ox.cls= .ref C)
  (h1:KY K (.ref C) "__getattribute__"=some (some (.builtin "BaseException.__getattribute__"))) (h2:KY K (.ref C) "__getattr__"=some none) (h3:KY K (.ref C) "__class__"=some (some (.builtin "object.__class__")))
  (h4:Na K (.builtin "object.__class__") "__get__"=some (some (.builtin "getset_descriptor.__get__"))) (h5:NA K (.builtin "object.__class__")=some true) (h6:Lr K C (.type "object")=some true) (h7:Lr K C (.type "BaseException")=some true)
  (q:Q (some (.ref C)) {s with toks:=s.toks+1}):KP (KS prog w) A (getAttr? (.ref x) "__class__") Q E s:=by
 unfold getAttr?
 refine Kz (wpAny_mkText ?_)
 unfold getAttrBy?
 refine Kz (wpAny_attempt ?_)
 unfold getAttrBy
 refine LD (Kz (eN (nD e hc) (Kz (eN (Nk KX h1) ?_))))
 dsimp only
 rw[if_neg (by rw[show (Nt "BaseException.__getattribute__"==Nt "object.__getattribute__")=false by decide+kernel,Q9];simp)]
 unfold getAttrByItsOwn hookBefore
 refine Kz ?_
 rw[if_pos (by rfl)]
 refine eN (Nk KX h2) ?_
 refine Kz (wpAny_attempt (LD ?_))
 unfold callGetattribute
 rw[if_neg (by simp)]
 unfold boundAndCalled
 rw[F.attrBase_ValueError.ga.bind]
 refine Kz (KN ?_)
 dsimp only
 refine OX (Ol F.attrBase_ValueError.ga.plain F.entry_bexc_ga ?_)
 show KP _ _ (checkBuiltinCall "BaseException.__getattribute__" {pos:=Lh x::[O7 (NL "__class__") s.toks],kw:=[]}) _ _ _
 refine PySem.W.check_slot (i:="BaseException.__getattribute__") (owner:="BaseException") (n:="__getattribute__") Pl._proof_1_1 Pl._proof_1_2 (λA Q E s k q=>Kz (nD e hc A _ E s k (QA KX h7 A _ E s k q))) (F.args_bexc_ga _ _) ?_
 unfold Ov.«object.__getattribute__»
 refine Kz (KN (a:=(Lh x,[O7 (NL "__class__") s.toks])) ?_)
 dsimp only
 refine Kz (KN (a:=NL "__class__") ?_)
 refine Kz (eN (nD e hc) ?_)
 refine Kz ?_
 unfold R_
 refine Kz (eN (Nk KX h3) ?_)
 refine Kz ?_
 show KP _ _ (specialOf _ _) _ _ _
 refine eN (PySem.W.looks_specialIn KX h4) ?_
 refine Kz ?_
 show KP _ _ (do let b<-RD (Nt "object.__class__");if b=true then pure (some (Nt "getset_descriptor.__get__",Nt "object.__class__"))else pure none) _ _ _
 refine Kz (eN (PySem.W.looks_takesIn KX h5) ?_)
 rw[if_pos rfl]
 refine KN ?_
 dsimp only
 refine Kz (RA (KN ?_))
 dsimp only
 unfold RV
 dsimp only
 refine Kz (LD (OX (xM KX e hc h6 ?_)))
 refine NH ?_
 exact PySem.W.handed_on (by rfl) (KN q)
def vT:List Kv:=[.type "ValueError", .type "Exception", .type "BaseException", .type "object"]
structure uI (K:Ku) (C:Kx):Prop where
 exc:∃UW Bn a15 a16,LS K C vT UW=true/\ExcBaseFacts Bn UW a15 a16/\vT.contains (.type Bn)=true
 ga:KY K (.ref C) "__getattribute__"=some (some (.builtin "BaseException.__getattribute__"))
 gt:KY K (.ref C) "__getattr__"=some none
 kc:KY K (.ref C) "__class__"=some (some (.builtin "object.__class__"))
 sp:Na K (.builtin "object.__class__") "__get__"=some (some (.builtin "getset_descriptor.__get__"))
 tk:NA K (.builtin "object.__class__")=some true
 mo:Lr K C (.type "object")=some true
 mb:Lr K C (.type "BaseException")=some true
 kk:Ng K (.ref C) (.ref C)=some true
theorem yR {K:Ku} {h:L4} {C:Kx} {Xk:List Kv} {UW:String} (KX:K.In h) (e:LS K C Xk UW=true):∃bm N nm q bs hdct sn sub ab col dd k0 k1 k2 k3 k5 mN,
  h.get? C=some (excClassObj nm q C N bs bm hdct sn sub ab col dd k0 k1 k2 k3 k5 UW)/\h.Ns N mN/\mN (NL "__init__")=none/\OwnTail h Xk bm:=by
 unfold LS at e
 split at e
 ·split at e
  ·rename_i dd cd sl lk _ _ C' bm k0 k1 k2 k3 n k5 e1 e2
   simp only[LN]at e
   obtain⟨⟨⟨⟨⟨a1,a2⟩,a3⟩,a4⟩,a5⟩,a6⟩:=e
   have b1:C'=C:=eq_of_beq a1
   have b2:n=UW:=eq_of_beq a2
   subst b1 b2
   have g:=KX _ _ lk
   have a1T:sl= #[k0,k1,k2,k3,some (Nt n),k5]:=by rw[<-Array.toList_inj];exact e2
   have YQ:cd.hasDel=false:=by simpa using a3
   obtain⟨nm,bs,mro,N,q,hd,sn,sb,ab,col,a3t⟩:=cd
   dsimp only at e1 YQ a4 a5 a6
   subst e1 a1T YQ
   exact⟨bm,N,nm,q,bs,hd,sn,sb,ab,col,dd,k0,k1,k2,k3,k5,_,g,Heap.Ns.of_isNs (PySem.W.isNs_of_in KX a5),PySem.W.nsMap_none_of_in KX a5 (eq_of_beq a6),PySem.W.tail_of_in KX a4⟩
  ·cases e
 ·cases e
theorem BP {K:Ku} {x C:Kx} (k:uI K C):PySem.W.KitX K (.ref x) (.ref C) λh=>∃ox,h.get? x=some ox/\ox.cls= .ref C where
 ty:=λM h _ ⟨ox,e,hc⟩=>nD e hc
 it:=λM h KX _=>(PySem.W.kit_cls KX k.kk).2.1
 ne:=λh tp dd its n sl KX e=>by
  cases z:(Lh C==Lh tp)with
  |false=>rfl
  |true=>
   have ez:Lh C=Lh tp:=eq_of_beq z
   cases ez
   obtain⟨UW,_,_,_,ei,_⟩:=k.exc
   obtain⟨bm,N,nm,q,bs,hd,sn,sb,ab,col,dd,k0,k1,k2,k3,k5,mN,g,_⟩:=yR KX ei
   rw[e]at g
   exact absurd (congrArg Obj.data (LG g)) (λz=>by cases z)
 ca:=λ{prog w A E Q s} KX ⟨ox,e,hc⟩ q=>E2 KX e hc k.ga k.gt k.kc k.sp k.tk k.mo k.mb q
end L2
namespace L2
open PySem PySem.Spec PyProof.Rows
section
variable {X:Cx} {S4:List (Kx×Lk)} {σ:St} {H:Hp} {s:Ky} {a:Kx} {cls:Kv} {x:Kw} {np Sh pos:Ls} {e:KI} {es:List KI} {t:TA} {C:Kx}
def BQ (X:Cx) (C:Kx) (t:TA):TS:=λ_ σ H=>t σ H λvs H1=>vs.length<=sizeLine/\∀S4 s a,aP X S4 σ H1 s->Fl X S4 H1 s.heap a (.ref C)->X.xe (.ref a) s
theorem E3 {h':L4} {vs:List Kv} (I:aP X S4 σ H s) (p:jU X) (m:s.heap.MadeExcOf h' a cls vs):aP X S4 σ H {s with heap:=h'}/\Fl X S4 H h' a cls:=by
 obtain⟨tp,g1,g2,g3⟩:=m.there
 exact⟨I.kept (t':=s.toks) m.keeps,xK.of I p m.new (I.hok.none_of m.new),_,_,g1,rfl,rfl, .inl rfl⟩
theorem BR (k:uI X.K C) (hm:X.mg x=some (.ref C)) (p:jU X) (hc:X.calm=true) (ha:PA X (e::es) t) (hg:Gl X x:=by rfl) (TX:(x==("__debug__":Kw))=false:=by decide)
  (he:KC (e::es) X.env=(false,L5 e X.env)::KC es X.env:=by rfl) (Tq:(Ll Sh (KC es X.env)).any (·.1)=false:=by rfl):PS X (.Raise (some (.Call (.Name x np) (e::es) [] Sh)) none pos) (BQ X C t):=by
 intro S4 s σ H D I h
 obtain⟨UW,Bn,a15,a16,ei,fB,hB⟩:=k.exc
 obtain⟨bm,N,nm,q,bs,hd,sn,sb,ab,col,dd,k0,k1,k2,k3,k5,mN,g,ns,ni,tl⟩:=yR I.ok.mod.kin ei
 have Xa:Ll Sh (KC (e::es) X.env)=(false,L5 e X.env)::Ll Sh (KC es X.env):=by rw[he];rfl
 refine wpAny_Raise_call_subU (nm:=nm) (q:=q) (C:=C) (N:=N) (bs:=bs) (hdct:=hd) (sn:=sn) (sub:=sb) (ab:=ab) (col:=col) (dd:=dd) (k0:=k0) (k1:=k1) (k2:=k2) (k3:=k3) (k5:=k5) fB hB F.excBase_ValueError (tl.hasType (by decide)) (I.ok.hd hc) (by rw[Xa];exact Tq) ni (o8 I hg hm ⟨rfl,?_⟩ TX)
 rw[Xa]
 refine Nn ?_
 rw[<-Xa]
 refine cV (ha Sh S4 s σ H _ I h) λus s1 ⟨vs,H1,I1,r,z,q1⟩=>⟨rfl,by rw[<-r.length];exact z,I1.bk _ _ g,ns.keeps I1.bk,tl.keeps I1.bk,λh' a m=> ?_⟩
 obtain⟨I2,f2⟩:=E3 I1 p m
 exact q1 S4 _ a I2 f2
abbrev Cx.inH (X:Cx) (v:Kv):Cx:={X with A:=X.A.mark (some v),calm:=false,xe:=λ_ _=>False}
theorem Cx.Ok.inH {v:Kv} (ok:X.Ok):(X.inH v).Ok:=⟨ok.mod,ok.kind,ok.glob,ok.blt,ok.above,ok.inj,ok.has,ok.cab,(λz=>by cases z),ok.frames,ok.stk,ok.exf,ok.bs,ok.bsz,ok.noex,ok.exfs,ok.funs,ok.frf⟩
theorem aP.inH {v:Kv} (I:aP X S4 σ H s):aP (X.inH v) S4 σ H s:=⟨I.ok.inH,I.os,I.bare,I.base,I.loc,I.cell,I.free,I.freeC,I.pin,I.hok,I.len⟩
theorem aP.outH {v:Kv} (ok:X.Ok) (I:aP (X.inH v) S4 σ H s):aP X S4 σ H s:=⟨ok,I.os,I.bare,I.base,I.loc,I.cell,I.free,I.freeC,I.pin,I.hok,I.len⟩
theorem aP.track {o:HO} {oa:Lk} {vs:Array Kv} (I:aP X S4 σ H s) (n:xK X S4 H a) (ga:s.heap.get? a=some oa) (gd:oa.data= .fields vs) (new:ci X.prog X.w (b_ H a o) s.heap a o):aP X S4 σ (b_ H a o) s:=by
 have ne:∀b u,H b=some u->b≠a:=λb u e z=>by rw[z,n.no]at e;cases e
 have Xx:X.env.locals≠a:=λz=>by
  obtain⟨m,⟨o,es,ep,ho,hd,_⟩,_⟩:=I.loc
  rw[z,ga]at ho;cases ho
  rw[gd]at hd;cases hd
 have neC:∀y c,X.env.cells.lookup y=some c->c≠a:=λy c e z=>by
  obtain⟨v,o,ho,hd⟩:=I.cell y c e
  rw[z,ga]at ho;cases ho
  rw[gd]at hd;cases hd
 refine⟨I.ok,I.os,I.bare,⟨I.base.keep,I.base.slot,λb o e n' hx=> ?_,I.base.there,λb xs e=> ?_,λb o u e=> ?_,λb ps e=> ?_⟩,I.loc,I.cell,by rw[az Xx];exact I.free,λy c e=>by rw[az (neC y c e)];exact I.freeC y c e,λp hp=> ?_,λb u e=> ?_,I.len⟩
 ·rw[az (λz=>by rw[z,n.s0]at e;cases e)];exact I.base.free b o e n' hx
 ·have q:=I.base.tups b xs e
  rw[az (ne b _ q)];exact q
 ·have q:=I.base.frzs b o u e
  rw[az (ne b _ q)];exact q
 ·obtain⟨more,q⟩:=I.base.tbls b ps e
  exact⟨more,by rw[az (ne b _ q)];exact q⟩
 ·obtain⟨e,n',r⟩:=I.pin p hp
  exact⟨e,by rw[az (n.pin p hp)];exact n',r⟩
 ·by_cases z:b=a
  ·subst z;rw[aE]at e;cases e;exact new
  ·rw[az z]at e
   refine(I.hok b u e).stay (λ_ _ _ q=>q) (λc q=> ?_) λc xs q=> ?_
   ·rw[az (ne c _ q)];exact q
   ·rw[az (ne c _ q)];exact q
theorem Ae {M:Q_} {A:Lg} {E:Kv->Ky->Prop} {i:Nat} {n:Kw} {Q:Unit->Ky->Prop} (I:aP X S4 σ H s) (hN:X.N.Nodup) (hi:X.N[i]? =some n) (hk:X.env.kindOf n=some .local)
  (k:∀s',aP X S4 (σ.set i none) H s'->Q () s'):KP M A (do bindName X.env n LK;Om X.env n pos) Q E s:=by
 obtain⟨m,hn,hl⟩:=id I.loc
 refine wpAny_nameGoes_keeps hk hn (by rw[I.ok.kind];rfl) λh' v Zw hs=>k _ ?_
 have Xx:∀b o,X.s₀.heap.get? b=some o->b≠X.env.locals:=λb o e=>Lo (Ln (KZ e) I.ok.above)
 refine⟨I.ok,I.os,I.bare,⟨λb o e n hb hx=>(hs.2 b (Xx b o e)).trans (I.base.keep b o e n hb hx),λb o e n hb hx=> ?_,I.base.free,λb o e hx=> ?_,I.base.tups,I.base.frzs,I.base.tbls⟩,⟨_,Zw,λj y v' e1 e2 e3=> ?_⟩,λy c e=> ?_,I.free,I.freeC,λp hp=> ?_,λb u e=> ?_,by simpa using I.len⟩
 ·obtain⟨sl,e1⟩:=I.base.slot b o e n hb hx
  exact⟨sl,(hs.2 b (Xx b o e)).trans e1⟩
 ·obtain⟨o',e1⟩:=I.base.there b o e hx
  exact⟨o',(hs.2 b (Xx b o e)).trans e1⟩
 ·by_cases hj:j=i
  ·subst hj
   rw[MN]at e2
   split at e2
   ·split at e2<;>cases e2
   ·exact absurd rfl ‹_›
  ·rw[Od (Mn hj)]at e2
   obtain⟨u',r',q⟩:=hl j y v' e1 e2 e3
   refine⟨u',r',?_⟩
   have ny:y≠n:=λe=>hj (rq hN e1 (e▸hi))
   rcases q with ⟨k,e⟩|⟨k,c,e,z⟩
   ·exact .inl ⟨k,by show (if y=n then v else m y)=_;rw[if_neg ny];exact e⟩
   ·exact .inr ⟨k,c,e,z.sameBut hs (I.cne y c e)⟩
 ·obtain⟨w',z⟩:=I.cell y c e
  exact⟨w',z.sameBut hs (I.cne y c e)⟩
 ·obtain⟨e,n,ne,nf,d⟩:=I.pin p hp
  exact⟨(hs.2 p.1 ne).trans e,n,ne,nf,d⟩
 ·refine(I.hok b u e).stay (λc v hc q=>(hs.2 c ?_).trans q) (λ_ q=>q) λ_ _ q=>q
  rintro rfl
  have:=I.free
  rcases hc with z|z
  ·rw[<-z,this]at e;cases e
  ·rw[this]at z;cases z
def jV (a:Kx) (cls:Kv):L4->Prop:=λh=>∃o,h.get? a=some o/\o.cls=cls
theorem Af {P:KW} {w:La} {h:L4} (e:jV a cls h):ci P w H h a (.ext (jV a cls)):=by
 obtain⟨o,h1,h2⟩:=e
 exact⟨⟨o,h1,h2⟩,⟨o,h1⟩,λg1 g2 ⟨o',e1,e2⟩ k=>⟨o',k _ e1,e2⟩⟩
theorem G7 (I:aP X S4 σ H s) (p:jU X) (fl:H_ X S4 H s.heap a cls) {Q:Unit->Ky->Prop} {E:Kv->Ky->Prop} {A:Lg}
  (k:∀h',aP X S4 σ H {s with heap:=h'}->H_ X S4 H h' a cls->Q () {s with heap:=h'}):KP (KS X.prog X.w) A (setFlight (.ref a) none) Q E s:=by
 obtain⟨B,oe,vs,ge,gc,gd,ff,hB,X_,hn,hk⟩:=tU I p fl.fl
 obtain⟨a13,Zh,e1,e2,e3,T',e4,VE⟩:=fl.at_
 rw[ge]at e1;cases e1
 rw[gd]at e3;cases e3
 obtain⟨a0d,Zi,q1,q2,q3⟩:=VE.at_
 rcases hn with g|⟨T,oT,ts,f,g1,g2,g3,g4,g5,g6,g7⟩
 ·rw[g]at e4;cases e4
 ·rw[e4]at g1;cases g1
  obtain⟨VY,a0,h0⟩:=BM e4
  refine lands_againW (base:=B) (l:=X.env::X.outer) (cls:=cls) (a0:=a0) ⟨hB,X_,ff,oe,vs,T',a0d,Zi,ge,⟨gc,h0⟩,gd,e4,g2,g3,q1,q2,q3⟩ λh2 ⟨st,_,_,tr⟩ up=> ?_
  obtain⟨I',f'⟩:=hk h2 _ st tr.at.tl up
  exact k h2 I' f'
theorem Ag {a17:Kx} {cx n:Kw} {i:Nat} {WH:Ls} {b₀:L9} {Vx:List L9} {rest:List ExceptHandler} {Q:Flow->Ky->Prop} {E:Kv->Ky->Prop} (I:aP X S4 σ H s) (p:jU X) (fl:H_ X S4 H s.heap a (.ref C)) (hN:X.N.Nodup) (hi:X.N[i]? =some n)
  (hk:X.env.scope.names.lookup n=some .local) (hg:Gl X cx) (hm:X.mg cx=some (.ref a17)) (hx:Nh X.K (.ref C) (.ref a17)=some true) (TX:(cx==("__debug__":Kw))=false)
  (k:∀s',aP (X.inH (.ref a)) S4 (σ.set i (some (.ref a))) (b_ H a (.ext (jV a (.ref C)))) s'->
   KP (KS X.prog X.w) (X.inH (.ref a)).A (execs (b₀::Vx) X.env) (λf s3=>KP (KS X.prog X.w) X.A (do bindName X.env n LK;Om X.env n WH) (λ_ s5=>Q f s5) E s3) (λ_ _=>False) s'):
  KP (KS X.prog X.w) X.A (handleBy (.ref a) X.env (.ExceptHandler (some (.Name cx np)) (some n) (b₀::Vx) WH::rest)) Q E s:=by
 refine wpAny_handleBy_cons (codeAny_handlers_test ?_) (by intro z;cases z)
 refine o8 (X:=X.inH (.ref a)) I.inH hg hm ?_ TX
 obtain⟨oe,vs,ge,gc,gd,_⟩:=fl.at_
 refine eN (PySem.W.exm_one I.kIn (nD ge gc) hx) ?_
 rw[if_pos rfl]
 refine codeAny_handlers_suite_as ?_
 refine G7 I p fl λh2 I2 f2=> ?_
 obtain⟨oe,vs,ge,gc,gd,_⟩:=f2.at_
 have I3:aP X S4 σ (b_ H a (.ext (jV a (.ref C)))) {s with heap:=h2}:=I2.track f2.new ge gd (Af ⟨oe,ge,gc⟩)
 refine rz (X:=X.inH (.ref a)) I3.inH hN hi (.inl hk) (v:= .ref a) rfl (λs' I'=> ?_) (.inr hk)
 exact Ms (k s' I') (λf s3 q=>q) λ_ _ z=>z.elim
end
end L2
namespace L2
open PySem PySem.Spec PyProof.Rows
section
variable {X:Cx} {scope:MB} {s:Ky} {H:Hp} {ex:List Kx} {E:Kv->Ky->Prop} {Uq:List (Kx×Lk)} {τ:St} {H':Hp} {s':Ky}
end
section
variable {X:Cx} {UU tg Sz:KI} {UH:List KI} {scope:MB} {pos:Ls} {wi:TI} {g:TG} {tt:TT} {te:TE}
end
end L2
namespace L2.Pu
open PySem PySem.Spec PyProof.Rows
structure fz where
 x:Nat
 C:Kx
 fl:List (Kw×Nat)
variable {ly:List fz}
inductive D where
 |non|bl (b:Bool)|int (i:Int)|str (x:Kw)|tup (ds:List D)|lst (ds:List D)|dic (Ui:List (cH×D))|ins (x:Kw) (fs:List (Kw×D))|scr (ns:List Int)|exc (x:Kw)
mutual
inductive dU (K:Ku) (F:Hp):V->D->Prop
 |non:dU K F .non .non
 |bl (b:Bool):dU K F (.bl b) (.bl b)
 |int (i:Int):dU K F (.int i) (.int i)
 |str (x:Kw):dU K F (.str x) (.str x)
 |tup {a:Kx} {vs:List V} {ds:List D}:F a=some (.tup vs)->Reps K F vs ds->dU K F (.ref a) (.tup ds)
 |lst {a:Kx} {vs:List V} {ds:List D}:F a=some (.lst vs)->Reps K F vs ds->dU K F (.ref a) (.lst ds)
 |scr {a:Kx} {ns:List Int}:dA K F a (ns.map V.int)->dU K F (.ref a) (.scr ns)
 |dic {a:Kx} {kvs:List (cH×V)} {Ui:List (cH×D)}:F a=some (.dK kvs)->RepK K F kvs Ui->(kvs.map (·.1)).Nodup->dU K F (.ref a) (.dic Ui)
 |ins {a C dx:Kx} {x:Kw} {fs vs:List (Kw×V)} {fds:List (Kw×D)}:F a=some (.ins C dx fs)->F dx=some (.own a)->KQ K KJ x=some (some (.ref C))->(∀p∈vs,fs.lookup p.1=some p.2)->(∀f v,fs.lookup f=some v->f∈vs.map (·.1))->RepF K F vs fds->dU K F (.ref a) (.ins x fds)
 |exc {a C:Kx} {x:Kw}:F a=some (.ext (jV a (.ref C)))->KQ K KJ x=some (some (.ref C))->dU K F (.ref a) (.exc x)
inductive Reps (K:Ku) (F:Hp):List V->List D->Prop
 |nil:Reps K F [] []
 |cons {v:V} {d:D} {vs:List V} {ds:List D}:dU K F v d->Reps K F vs ds->Reps K F (v::vs) (d::ds)
inductive RepK (K:Ku) (F:Hp):List (cH×V)->List (cH×D)->Prop
 |nil:RepK K F [] []
 |cons {k:cH} {v:V} {d:D} {vs:List (cH×V)} {ds:List (cH×D)}:dU K F v d->RepK K F vs ds->RepK K F ((k,v)::vs) ((k,d)::ds)
inductive RepF (K:Ku) (F:Hp):List (Kw×V)->List (Kw×D)->Prop
 |nil:RepF K F [] []
 |cons {k:Kw} {v:V} {d:D} {vs:List (Kw×V)} {ds:List (Kw×D)}:dU K F v d->RepF K F vs ds->RepF K F ((k,v)::vs) ((k,d)::ds)
end
theorem oy {K:Ku} {F F':Hp} {a:Kx} {xs:List V} (e:bd F F') (h:dA K F a xs):dA K F' a xs:=e.seq h
theorem dU.mono {K:Ku} {F F':Hp} (e:bd F F') {v:V} {d:D} (h:dU K F v d):dU K F' v d:=
 dU.rec (motive_1:=λv d _=>dU K F' v d) (motive_2:=λv d _=>Reps K F' v d) (motive_3:=λv d _=>RepK K F' v d) (motive_4:=λv d _=>RepF K F' v d) .non .bl .int .str (λh _ r=> .tup (e _ _ h) r) (λh _ r=> .lst (e _ _ h) r) (λh=> .scr (oy e h)) (λh _ n r=> .dic (e _ _ h) r n) (λh h2 n l1 l2 _ r=> .ins (e _ _ h) (e _ _ h2) n l1 l2 r) (λh n=> .exc (e _ _ h) n) .nil (λ_ _ a b=> .cons a b) .nil (λ_ _ a b=> .cons a b) .nil (λ_ _ a b=> .cons a b) h
theorem Reps.mono {K:Ku} {F F':Hp} (e:bd F F') {v:List V} {d:List D} (h:Reps K F v d):Reps K F' v d:=
 Reps.rec (motive_1:=λv d _=>dU K F' v d) (motive_2:=λv d _=>Reps K F' v d) (motive_3:=λv d _=>RepK K F' v d) (motive_4:=λv d _=>RepF K F' v d) .non .bl .int .str (λh _ r=> .tup (e _ _ h) r) (λh _ r=> .lst (e _ _ h) r) (λh=> .scr (oy e h)) (λh _ n r=> .dic (e _ _ h) r n) (λh h2 n l1 l2 _ r=> .ins (e _ _ h) (e _ _ h2) n l1 l2 r) (λh n=> .exc (e _ _ h) n) .nil (λ_ _ a b=> .cons a b) .nil (λ_ _ a b=> .cons a b) .nil (λ_ _ a b=> .cons a b) h
theorem RepK.mono {K:Ku} {F F':Hp} (e:bd F F') {v:List (cH×V)} {d:List (cH×D)} (h:RepK K F v d):RepK K F' v d:=
 RepK.rec (motive_1:=λv d _=>dU K F' v d) (motive_2:=λv d _=>Reps K F' v d) (motive_3:=λv d _=>RepK K F' v d) (motive_4:=λv d _=>RepF K F' v d) .non .bl .int .str (λh _ r=> .tup (e _ _ h) r) (λh _ r=> .lst (e _ _ h) r) (λh=> .scr (oy e h)) (λh _ n r=> .dic (e _ _ h) r n) (λh h2 n l1 l2 _ r=> .ins (e _ _ h) (e _ _ h2) n l1 l2 r) (λh n=> .exc (e _ _ h) n) .nil (λ_ _ a b=> .cons a b) .nil (λ_ _ a b=> .cons a b) .nil (λ_ _ a b=> .cons a b) h
theorem RepF.mono {K:Ku} {F F':Hp} (e:bd F F') {v:List (Kw×V)} {d:List (Kw×D)} (h:RepF K F v d):RepF K F' v d:=
 RepF.rec (motive_1:=λv d _=>dU K F' v d) (motive_2:=λv d _=>Reps K F' v d) (motive_3:=λv d _=>RepK K F' v d) (motive_4:=λv d _=>RepF K F' v d) .non .bl .int .str (λh _ r=> .tup (e _ _ h) r) (λh _ r=> .lst (e _ _ h) r) (λh=> .scr (oy e h)) (λh _ n r=> .dic (e _ _ h) r n) (λh h2 n l1 l2 _ r=> .ins (e _ _ h) (e _ _ h2) n l1 l2 r) (λh n=> .exc (e _ _ h) n) .nil (λ_ _ a b=> .cons a b) .nil (λ_ _ a b=> .cons a b) .nil (λ_ _ a b=> .cons a b) h
section
variable {K:Ku} {F:Hp}
def BS (K:Ku) (F:Hp) (v:V):D->Prop
 | .non=>v= .non
 | .bl b=>v= .bl b
 | .int i=>v= .int i
 | .str x=>v= .str x
 | .tup ds=>∃a vs,v= .ref a/\F a=some (.tup vs)/\Reps K F vs ds
 | .lst ds=>∃a vs,v= .ref a/\F a=some (.lst vs)/\Reps K F vs ds
 | .scr ns=>∃a,v= .ref a/\dA K F a (ns.map V.int)
 | .dic Ui=>∃a kvs,v= .ref a/\F a=some (.dK kvs)/\RepK K F kvs Ui/\(kvs.map (·.1)).Nodup
 | .ins x fds=>∃a C dx fs vs,v= .ref a/\F a=some (.ins C dx fs)/\KQ K KJ x=some (some (.ref C))/\(∀p∈vs,fs.lookup p.1=some p.2)/\(∀f v,fs.lookup f=some v->f∈vs.map (·.1))/\RepF K F vs fds
 | .exc x=>∃a C,v= .ref a/\F a=some (.ext (jV a (.ref C)))/\KQ K KJ x=some (some (.ref C))
theorem dU.inv {v:V} {d:D} (h:dU K F v d):BS K F v d:=by
 cases h with
 |non=>exact rfl
 |bl=>exact rfl
 |int=>exact rfl
 |str=>exact rfl
 |tup h r=>exact⟨_,_,rfl,h,r⟩
 |lst h r=>exact⟨_,_,rfl,h,r⟩
 |scr h=>exact⟨_,rfl,h⟩
 |dic h r n=>exact⟨_,_,rfl,h,r,n⟩
 |ins h1 _ h3 h4 h5 h6=>exact⟨_,_,_,_,_,rfl,h1,h3,h4,h5,h6⟩
 |exc h n=>exact⟨_,_,rfl,h,n⟩
theorem RepK.nilI {vs:List (cH×V)} (h:RepK K F vs []):vs=[]:=by cases h;rfl
theorem RepK.consI {vs:List (cH×V)} {k:cH} {d:D} {ds:List (cH×D)} (h:RepK K F vs ((k,d)::ds)):∃v us,vs=(k,v)::us/\dU K F v d/\RepK K F us ds:=by
 cases h with
 |cons r t=>exact⟨_,_,rfl,r,t⟩
theorem Reps.nilI {vs:List V} (h:Reps K F vs []):vs=[]:=by cases h;rfl
theorem Reps.consI {vs:List V} {d:D} {ds:List D} (h:Reps K F vs (d::ds)):∃v us,vs=v::us/\dU K F v d/\Reps K F us ds:=by
 cases h with
 |cons r t=>exact⟨_,_,rfl,r,t⟩
theorem dU.intI {v:V} {i:Int} (h:dU K F v (.int i)):v= .int i:=h.inv
theorem dU.tupI {v:V} {ds:List D} (h:dU K F v (.tup ds)):∃a vs,v= .ref a/\F a=some (.tup vs)/\Reps K F vs ds:=h.inv
theorem Reps.int1 {vs:List V} {i:Int} (h:Reps K F vs [.int i]):vs=[.int i]:=by
 obtain⟨v,us,rfl,r,t⟩:=h.consI
 rw[t.nilI,r.intI]
theorem Reps.int2 {vs:List V} {i j:Int} (h:Reps K F vs [.int i, .int j]):vs=[.int i, .int j]:=by
 obtain⟨v,us,rfl,r,t⟩:=h.consI
 rw[t.int1,r.intI]
theorem Reps.length:∀{vs:List V} {ds:List D},Reps K F vs ds->vs.length=ds.length:=by
 intro vs ds
 induction ds generalizing vs with
 |nil=>intro h;rw[h.nilI];rfl
 |cons d ds ih=>
  intro h
  obtain⟨v,us,rfl,_,t⟩:=h.consI
  rw[L6,L6,ih t]
theorem RepK.length:∀{vs:List (cH×V)} {ds:List (cH×D)},RepK K F vs ds->vs.length=ds.length:=by
 intro vs ds
 induction ds generalizing vs with
 |nil=>intro h;rw[h.nilI];rfl
 |cons d ds ih=>
  intro h
  obtain⟨v,us,rfl,_,t⟩:=RepK.consI (k:=d.1) (d:=d.2) h
  rw[L6,L6,ih t]
theorem Reps.append:∀{vs us:List V} {ds es:List D},Reps K F vs ds->Reps K F us es->Reps K F (vs++us) (ds++es):=by
 intro vs us ds
 induction ds generalizing vs with
 |nil=>intro es h g;rw[h.nilI];exact g
 |cons d ds ih=>
  intro es h g
  obtain⟨v,us,rfl,r,t⟩:=h.consI
  exact .cons r (ih t g)
theorem Reps.get:∀{vs:List V} {ds:List D} {i:Nat} {d:D},Reps K F vs ds->ds[i]? =some d->∃v,vs[i]? =some v/\dU K F v d
 |_,_,_,_, .nil,h=>by simp at h
 |_,_,0,_, .cons r t,h=>by simp at h;subst h;exact⟨_,rfl,r⟩
 |_,_,i+1,_, .cons r t,h=>by
  obtain⟨v,h1,h2⟩:=t.get (i:=i) (by simpa using h)
  exact⟨v,by simpa using h1,h2⟩
theorem Reps.get':∀{vs:List V} {ds:List D} {i:Nat} {v:V},Reps K F vs ds->vs[i]? =some v->∃d,ds[i]? =some d/\dU K F v d
 |_,_,_,_, .nil,h=>by simp at h
 |_,_,0,_, .cons r t,h=>by simp at h;subst h;exact⟨_,rfl,r⟩
 |_,_,i+1,_, .cons r t,h=>by
  obtain⟨v,h1,h2⟩:=t.get' (i:=i) (by simpa using h)
  exact⟨v,by simpa using h1,h2⟩
theorem Reps.set:∀{vs:List V} {ds:List D} {v:V} {d:D} (i:Nat),Reps K F vs ds->dU K F v d->Reps K F (vs.set i v) (ds.set i d)
 |_,_,_,_,_, .nil,_=> .nil
 |_,_,_,_,0, .cons r t,h=> .cons h t
 |_,_,_,_,i+1, .cons r t,h=> .cons r (t.set i h)
theorem Reps.drop:∀{vs:List V} {ds:List D} (i:Nat),Reps K F vs ds->Reps K F (vs.drop i) (ds.drop i)
 |_,_,0,h=>h
 |_,_,_+1, .nil=> .nil
 |_,_,i+1, .cons r t=>t.drop i
theorem Reps.take:∀{vs:List V} {ds:List D} (i:Nat),Reps K F vs ds->Reps K F (vs.take i) (ds.take i)
 |_,_,0,h=> .nil
 |_,_,_+1, .nil=> .nil
 |_,_,i+1, .cons r t=> .cons r (t.take i)
theorem Reps.reverse {vs:List V} {ds:List D} (h:Reps K F vs ds):Reps K F vs.reverse ds.reverse:=by
 induction h using Reps.rec (motive_1:=λ_ _ _=>True) (motive_3:=λ_ _ _=>True) (motive_4:=λ_ _ _=>True)with
 |nil=>exact .nil
 |cons r t _ ih=>rw[NW,NW];exact ih.append (.cons r .nil)
 |_=>trivial
end
structure c8 (H F H' F':Hp):Prop where
 sub:bd F' H'
 keep:bd H H'
 grow:bd F F'
 new:∀a,F' a≠none->F a≠none\/H a=none
theorem c8.refl {H F:Hp} (h:bd F H):c8 H F H F:=⟨h,bd.refl _,bd.refl _,λ_ h=> .inl h⟩
theorem c8.trans {H F H1 F1 H2 F2:Hp} (a:c8 H F H1 F1) (b:c8 H1 F1 H2 F2):c8 H F H2 F2:=
 ⟨b.sub,a.keep.trans b.keep,a.grow.trans b.grow,λx h=>(b.new x h).elim (λq=>a.new x q) λq=> .inr (a.keep.free q)⟩
theorem cX {H:Hp} {p:Kx} {o:HO} (h:H p=none):bd H (b_ H p o):=λb u e=>by
 rw[az (λz=>by rw[z,h]at e;cases e)];exact e
theorem c8.lay {H F:Hp} (s:bd F H) {p:Kx} {o:HO} (h:H p=none):c8 H F (b_ H p o) (b_ F p o):=by
 refine⟨λb u e=> ?_,cX h,cX (s.free h),λb e=> ?_⟩
 ·by_cases z:b=p
  ·subst z;rw[aE]at e ⊢;exact e
  ·rw[az z]at e ⊢;exact s b u e
 ·by_cases z:b=p
  ·subst z;exact .inr h
  ·rw[az z]at e;exact .inl e
theorem c8.layOwn {H F:Hp} (s:bd F H) {p:Kx} {o:HO} (h:H p=none):c8 H F (b_ H p o) F:=
 ⟨s.trans (cX h),cX h,bd.refl _,λ_ e=> .inl e⟩
inductive Slot where
 |val (d:D)|own (d:D)|bor (d:D)|obj|cel (x:Kw) (Sf:List (Kw×D)) (f:Kw) (hs:List D)
def Slot.data:Slot->D
 | .val d=>d
 | .own d=>d
 | .bor d=>d
 | .obj=> .non
 | .cel .. => .non
def Slot.single:Slot->Bool
 | .obj=>true
 | .cel .. =>true
 |_=>false
abbrev af:=List (Option Slot)
inductive iW (K:Ku) (F:Hp):HO->D->Prop
 |lst {vs:List V} {ds:List D}:Reps K F vs ds->iW K F (.lst vs) (.lst ds)
 |dic {kvs:List (cH×V)} {Ui:List (cH×D)}:RepK K F kvs Ui->(kvs.map (·.1)).Nodup->iW K F (.dK kvs) (.dic Ui)
theorem iW.mono {K:Ku} {F F':Hp} (e:bd F F') {o:HO} {d:D}:iW K F o d->iW K F' o d
 | .lst r=> .lst (r.mono e)
 | .dic r n=> .dic (r.mono e) n
structure dW (ly:List fz)where
 H0:Hp
 F0:Hp
 B:Hp
 Er:Kw->af->Prop
 oa:Nat->Option Kx:=λ_=>none
 Fm:Hp:=λ_=>none
structure lz (K:Ku) (H0 H F:Hp) (a dx b:Kx) (x:Kw) (Sf:List (Kw×D)) (f:Kw) (hs:List D):Prop where
 ex:∃C fs vs us,H a=some (.ins C dx fs)/\KQ K KJ x=some (some (.ref C))/\fs.lookup f=some (.ref b)/\H b=some (.lst us)/\Reps K F us hs/\RepF K F vs Sf/\(∀p∈vs,fs.lookup p.1=some p.2)/\
  (∀g v,fs.lookup g=some v->g=f\/g∈vs.map (·.1))/\(fs.map (·.1)).Nodup/\f∉vs.map (·.1)
 own:H dx=some (.own a)
 fa:F a=none
 fd:F dx=none
 fb:F b=none
 za:H0 a=none
 zd:H0 dx=none
 zb:H0 b=none
theorem c8.out {H F H' F':Hp} (e:c8 H F H' F') {a:Kx} {o:HO} (h:H a=some o) (hF:F a=none):F' a=none:=by
 cases q:F' a with
 |none=>rfl
 |some u=>
  rcases e.new a (by rw[q];simp)with z|z
  ·exact absurd hF z
  ·rw[h]at z;cases z
theorem lz.step {K:Ku} {H0 H F H' F':Hp} {a dx b:Kx} {x:Kw} {Sf:List (Kw×D)} {f:Kw} {hs:List D} (h:lz K H0 H F a dx b x Sf f hs) (e:c8 H F H' F'):lz K H0 H' F' a dx b x Sf f hs:=by
 obtain⟨C,fs,vs,us,h1,h2,h3,h4,h5,h6,h7,h8⟩:=h.ex
 exact⟨⟨C,fs,vs,us,e.keep _ _ h1,h2,h3,e.keep _ _ h4,h5.mono e.grow,h6.mono e.grow,h7,h8⟩,e.keep _ _ h.own,e.out h1 h.fa,e.out h.own h.fd,e.out h4 h.fb,h.za,h.zd,h.zb⟩
structure oz (K:Ku) (H0:Hp) (ρ:af) (σ:St) (H F:Hp):Prop where
 ex:∀(i:Nat) x Sf f hs,ρ[i]? =some (some (.cel x Sf f hs))->∃a dx b,σ[i]? =some (some (.ref a))/\lz K H0 H F a dx b x Sf f hs/\∀(j:Nat) d,ρ[j]? =some (some (.own d))->σ[j]? ≠some (some (.ref b))
 one:∀(i j:Nat) x Sf f hs s,ρ[i]? =some (some (.cel x Sf f hs))->ρ[j]? =some (some s)->s.single=true->i=j
theorem oz.no {K:Ku} {H0:Hp} {ρ:af} {σ:St} {H F:Hp} (h:∀(i:Nat) x Sf f hs,ρ[i]? ≠some (some (.cel x Sf f hs))):oz K H0 ρ σ H F:=⟨λi x Sf f hs e=>absurd e (h i x Sf f hs),λi j x Sf f hs s e=>absurd e (h i x Sf f hs)⟩
theorem oz.step {K:Ku} {H0 H F H' F':Hp} {ρ:af} {σ:St} (h:oz K H0 ρ σ H F) (e:c8 H F H' F'):oz K H0 ρ σ H' F':=
 ⟨λi x Sf f hs q=>by obtain⟨a,dx,b,h1,h2,h3⟩:=h.ex i x Sf f hs q;exact⟨a,dx,b,h1,h2.step e,h3⟩,h.one⟩
structure RI (K:Ku) (c:dW ly) (ρ:af) (σ:St) (H F:Hp):Prop where
 ext:c8 c.H0 c.F0 H F
 val:∀(i:Nat) d,ρ[i]? =some (some (.val d))->∃v,σ[i]? =some (some v)/\dU K F v d
 own:∀(i:Nat) d,ρ[i]? =some (some (.own d))->∃a o,σ[i]? =some (some (.ref a))/\H a=some o/\F a=none/\c.H0 a=none/\iW K F o d
 bor:∀(i:Nat) d,ρ[i]? =some (some (.bor d))->∃a o,σ[i]? =some (some (.ref a))/\c.B a=some o/\iW K c.F0 o d
 bh:bd c.B c.H0
 dis:∀(i j:Nat) d d' a,ρ[i]? =some (some (.own d))->ρ[j]? =some (some (.own d'))->σ[i]? =some (some (.ref a))->σ[j]? =some (some (.ref a))->i=j
 len:ρ.length=σ.length
 obj:∀L∈ly,ρ[L.x]? =some (some .obj)->∃a dx fs,(∀b,c.oa L.x=some b->a=b)/\σ[L.x]? =some (some (.ref a))/\H a=some (.ins L.C dx fs)/\H dx=some (.own a)/\F a=none/\F dx=none/\c.H0 a=none/\c.H0 dx=none/\
  (∀p∈L.fl,fs.lookup p.1=(σ[p.2]?).join)/\(∀f v,fs.lookup f=some v->f∈L.fl.map (·.1))/\(fs.map (·.1)).Nodup
 odis:∀L∈ly,∀L'∈ly,ρ[L.x]? =some (some .obj)->ρ[L'.x]? =some (some .obj)->∀a,σ[L.x]? =some (some (.ref a))->σ[L'.x]? =some (some (.ref a))->L=L'
 fm:bd c.Fm F
 cel:oz K c.H0 ρ σ H F
 pin:∀L∈ly,∀a,c.oa L.x=some a->σ[L.x]? =some (some (.ref a))
def lh (ly:List fz) (i:Nat):Prop:=∀L∈ly,L.x≠i/\∀p∈L.fl,p.2≠i
theorem fK {i:Nat}:lh [] i:=λL h=>by cases h
theorem eo {L:fz} {ls:List fz} {i:Nat} (h:L.x≠i/\∀p∈L.fl,p.2≠i) (r:lh ls i):lh (L::ls) i:=λM hM=>by
 rcases KR.mp hM with rfl|hM
 ·exact h
 ·exact r M hM
section
variable {K:Ku} {c:dW ly} {ρ:af} {σ:St} {H F H' F':Hp}
theorem RI.step (r:RI K c ρ σ H F) (e:c8 H F H' F'):RI K c ρ σ H' F' where
 cel:=r.cel.step e
 pin:=r.pin
 obj:=λL hL hρ=>by
  obtain⟨a,dx,fs,h0,h1,h2,h3,h4,h5,h6,h7,h8⟩:=r.obj L hL hρ
  exact⟨a,dx,fs,h0,h1,e.keep _ _ h2,e.keep _ _ h3,e.out h2 h4,e.out h3 h5,h6,h7,h8⟩
 odis:=r.odis
 fm:=r.fm.trans e.grow
 ext:=r.ext.trans e
 val:=λi d h=>by obtain⟨v,h1,h2⟩:=r.val i d h;exact⟨v,h1,h2.mono e.grow⟩
 own:=λi d h=>by
  obtain⟨a,o,h1,h2,h3,h4,h5⟩:=r.own i d h
  refine⟨a,o,h1,e.keep _ _ h2,?_,h4,h5.mono e.grow⟩
  cases q:F' a with
  |none=>rfl
  |some u=>
   rcases e.new a (by rw[q];simp)with z|z
   ·exact absurd h3 z
   ·rw[h2]at z;cases z
 bor:=r.bor
 bh:=r.bh
 dis:=r.dis
 len:=r.len
theorem RI.sub (r:RI K c ρ σ H F):bd F H:=r.ext.sub
theorem aA {α:Type} {l:List α} {i j:Nat} {a b:α} (h:(l.set i a)[j]? =some b):(i=j/\a=b/\i<l.length)\/(i≠j/\l[j]? =some b):=by
 rw[MN]at h
 by_cases e:i=j
 ·rw[if_pos e]at h
  split at h
  ·cases h;exact .inl ⟨e,rfl,by assumption⟩
  ·cases h
 ·rw[if_neg e]at h;exact .inr ⟨e,h⟩
theorem gu {α:Type} {l:List α} {i:Nat} {a:α} (h:i<l.length):(l.set i a)[i]? =some a:=by
 rw[MN,if_pos rfl,if_pos h]
theorem ao {α:Type} {l:List α} {i j:Nat} {a:α} (h:i≠j):(l.set i a)[j]? =l[j]? :=by
 rw[MN,if_neg h]
theorem oz.set {K:Ku} {H0:Hp} {ρ:af} {σ:St} {H F:Hp} (h:oz K H0 ρ σ H F) (i:Nat) {s:Option Slot} {v:Option V} (hn:∀s',s=some s'->s'.single=false)
  (ho:∀d,s=some (.own d)->∀(j:Nat) x Sf f hs a C dx fs b,ρ[j]? =some (some (.cel x Sf f hs))->σ[j]? =some (some (.ref a))->H a=some (.ins C dx fs)->fs.lookup f=some (.ref b)->v≠some (.ref b)):oz K H0 (ρ.set i s) (σ.set i v) H F:=by
 refine⟨λj x Sf f hs q=> ?_,λj k x Sf f hs s' q q2 Sy=> ?_⟩
 ·rcases aA q with ⟨_,z,_⟩|⟨z,q⟩
  ·have:=hn _ z;cases this
  ·obtain⟨a,dx,b,h1,h2,h3⟩:=h.ex j x Sf f hs q
   refine⟨a,dx,b,by rw[ao z];exact h1,h2,λk d w=> ?_⟩
   rcases aA w with ⟨rfl,z',l⟩|⟨z',w⟩
   ·obtain⟨C,fs,vs,us,g1,g2,g3,_⟩:=h2.ex
    intro e
    rw[MN]at e
    split at e
    ·split at e
     ·exact ho d z' j x Sf f hs a C dx fs b q h1 g1 g3 (by simpa using e)
     ·cases e
    ·rename_i ne;exact absurd rfl ne
   ·rw[ao z'];exact h3 k d w
 ·rcases aA q with ⟨_,z,_⟩|⟨z,q⟩
  ·have:=hn _ z;cases this
  ·rcases aA q2 with ⟨_,z',_⟩|⟨z',q2⟩
   ·have:=hn _ z';rw[Sy]at this;cases this
   ·exact h.one j k x Sf f hs s' q q2 Sy
theorem RI.setVal (r:RI K c ρ σ H F) (i:Nat) {v:V} {d:D} (hf:lh ly i) (h:dU K F v d):RI K c (ρ.set i (some (.val d))) (σ.set i (some v)) H F where
 cel:=r.cel.set i (λs' e=>by cases e;rfl) (λd e=>by cases e)
 pin:=λL hL a h=>by rw[ao (hf L hL).1.symm];exact r.pin L hL a h
 obj:=λL hL hρ=>by
  rw[ao (hf L hL).1.symm]at hρ
  obtain⟨a,dx,fs,h0,h1,h2,h3,h4,h5,h6,h7,h8,h9⟩:=r.obj L hL hρ
  refine⟨a,dx,fs,h0,by rw[ao (hf L hL).1.symm];exact h1,h2,h3,h4,h5,h6,h7,λp hp=> ?_,h9⟩
  rw[ao ((hf L hL).2 p hp).symm];exact h8 p hp
 odis:=λL hL L' Vy q1 q2 a k1 k2=>by
  rw[ao (hf L hL).1.symm]at k1 q1
  rw[ao (hf L' Vy).1.symm]at k2 q2
  exact r.odis L hL L' Vy q1 q2 a k1 k2
 fm:=r.fm
 ext:=r.ext
 val:=λj e q=>by
  rcases aA q with ⟨rfl,z,l⟩|⟨z,q⟩
  ·cases z;exact⟨v,gu (by rw[<-r.len];exact l),h⟩
  ·rw[ao z];exact r.val j e q
 own:=λj e q=>by
  rcases aA q with ⟨rfl,z,l⟩|⟨z,q⟩
  ·cases z
  ·rw[ao z];exact r.own j e q
 bor:=λj e q=>by
  rcases aA q with ⟨rfl,z,l⟩|⟨z,q⟩
  ·cases z
  ·rw[ao z];exact r.bor j e q
 bh:=r.bh
 dis:=λj k e e' a q1 q2 q3 q4=>by
  rcases aA q1 with ⟨rfl,z,l⟩|⟨z,q1⟩
  ·cases z
  ·rcases aA q2 with ⟨rfl,z',l⟩|⟨z',q2⟩
   ·cases z'
   ·rw[ao z]at q3;rw[ao z']at q4
    exact r.dis j k e e' a q1 q2 q3 q4
 len:=by simp[r.len]
theorem RI.setNone (r:RI K c ρ σ H F) (i:Nat) {v:Option V} (hf:lh ly i):RI K c (ρ.set i none) (σ.set i v) H F where
 cel:=r.cel.set i (λs' e=>by cases e) (λd e=>by cases e)
 pin:=λL hL a h=>by rw[ao (hf L hL).1.symm];exact r.pin L hL a h
 obj:=λL hL hρ=>by
  rw[ao (hf L hL).1.symm]at hρ
  obtain⟨a,dx,fs,h0,h1,h2,h3,h4,h5,h6,h7,h8,h9⟩:=r.obj L hL hρ
  refine⟨a,dx,fs,h0,by rw[ao (hf L hL).1.symm];exact h1,h2,h3,h4,h5,h6,h7,λp hp=> ?_,h9⟩
  rw[ao ((hf L hL).2 p hp).symm];exact h8 p hp
 odis:=λL hL L' Vy q1 q2 a k1 k2=>by
  rw[ao (hf L hL).1.symm]at k1 q1
  rw[ao (hf L' Vy).1.symm]at k2 q2
  exact r.odis L hL L' Vy q1 q2 a k1 k2
 fm:=r.fm
 ext:=r.ext
 val:=λj e q=>by
  rcases aA q with ⟨rfl,z,l⟩|⟨z,q⟩
  ·cases z
  ·rw[ao z];exact r.val j e q
 own:=λj e q=>by
  rcases aA q with ⟨rfl,z,l⟩|⟨z,q⟩
  ·cases z
  ·rw[ao z];exact r.own j e q
 bor:=λj e q=>by
  rcases aA q with ⟨rfl,z,l⟩|⟨z,q⟩
  ·cases z
  ·rw[ao z];exact r.bor j e q
 bh:=r.bh
 dis:=λj k e e' a q1 q2 q3 q4=>by
  rcases aA q1 with ⟨rfl,z,l⟩|⟨z,q1⟩
  ·cases z
  ·rcases aA q2 with ⟨rfl,z',l⟩|⟨z',q2⟩
   ·cases z'
   ·rw[ao z]at q3;rw[ao z']at q4
    exact r.dis j k e e' a q1 q2 q3 q4
 len:=by simp[r.len]
theorem RI.setOwn (r:RI K c ρ σ H F) (i:Nat) {a:Kx} {o:HO} {d:D} (hf:lh ly i) (h:H a=some o) (hF:F a=none) (h0:c.H0 a=none) (q:iW K F o d)
  (ne:∀(j:Nat) d',j≠i->ρ[j]? =some (some (.own d'))->σ[j]? ≠some (some (.ref a)))
  (nb:∀(j:Nat) x Sf f hs a' C dx fs,ρ[j]? =some (some (.cel x Sf f hs))->σ[j]? =some (some (.ref a'))->H a'=some (.ins C dx fs)->fs.lookup f≠some (.ref a)):RI K c (ρ.set i (some (.own d))) (σ.set i (some (.ref a))) H F where
 cel:=r.cel.set i (λs' e=>by cases e;rfl) (λd e j x Sf f hs a' C dx fs b q1 q2 q3 q4 z=>by cases z;exact nb j x Sf f hs a' C dx fs q1 q2 q3 q4)
 pin:=λL hL b h=>by rw[ao (hf L hL).1.symm];exact r.pin L hL b h
 obj:=λL hL hρ=>by
  rw[ao (hf L hL).1.symm]at hρ
  obtain⟨b,dx,fs,h0,h1,h2,h3,h4,h5,h6,h7,h8,h9⟩:=r.obj L hL hρ
  refine⟨b,dx,fs,h0,by rw[ao (hf L hL).1.symm];exact h1,h2,h3,h4,h5,h6,h7,λp hp=> ?_,h9⟩
  rw[ao ((hf L hL).2 p hp).symm];exact h8 p hp
 odis:=λL hL L' Vy q1 q2 b k1 k2=>by
  rw[ao (hf L hL).1.symm]at k1 q1
  rw[ao (hf L' Vy).1.symm]at k2 q2
  exact r.odis L hL L' Vy q1 q2 b k1 k2
 fm:=r.fm
 ext:=r.ext
 val:=λj e q=>by
  rcases aA q with ⟨rfl,z,l⟩|⟨z,q⟩
  ·cases z
  ·rw[ao z];exact r.val j e q
 own:=λj e q'=>by
  rcases aA q' with ⟨rfl,z,l⟩|⟨z,q'⟩
  ·cases z;exact⟨a,o,gu (by rw[<-r.len];exact l),h,hF,h0,q⟩
  ·rw[ao z];exact r.own j e q'
 bor:=λj e q=>by
  rcases aA q with ⟨rfl,z,l⟩|⟨z,q⟩
  ·cases z
  ·rw[ao z];exact r.bor j e q
 bh:=r.bh
 dis:=λj k e e' b q1 q2 q3 q4=>by
  rcases aA q1 with ⟨rfl,z,l⟩|⟨z,q1⟩
  ·rw[gu (by rw[<-r.len];exact l)]at q3
   cases q3
   rcases aA q2 with ⟨rfl,z',l⟩|⟨z',q2⟩
   ·rfl
   ·rw[ao z']at q4
    exact absurd q4 (ne k e' (Mn z') q2)
  ·rw[ao z]at q3
   rcases aA q2 with ⟨rfl,z',l⟩|⟨z',q2⟩
   ·rw[gu (by rw[<-r.len];exact l)]at q4
    cases q4
    exact absurd q3 (ne j e (Mn z) q1)
   ·rw[ao z']at q4
    exact r.dis j k e e' b q1 q2 q3 q4
 len:=by simp[r.len]
theorem RI.celNe (r:RI K c ρ σ H F) {H2:Hp} (k:bd H H2) {p:Kx} (hp:H p=none):∀(j:Nat) x Sf f hs a' C dx fs,ρ[j]? =some (some (.cel x Sf f hs))->σ[j]? =some (some (.ref a'))->H2 a'=some (.ins C dx fs)->fs.lookup f≠some (.ref p):=λj x Sf f hs a' C dx fs q1 q2 q3 q4=>by
 obtain⟨a,a3u,b,h1,h2,_⟩:=r.cel.ex j x Sf f hs q1
 rw[q2]at h1
 cases h1
 obtain⟨C0,a3v,vs,us,g1,g2,g3,g4,_⟩:=h2.ex
 rw[k _ _ g1]at q3
 cases q3
 rw[g3]at q4
 cases q4
 rw[hp]at g4
 cases g4
theorem RI.setNew (r:RI K c ρ σ H F) (i:Nat) {a:Kx} {o:HO} {d:D} (hf:lh ly i) (h:H a=none) (q:iW K F o d):RI K c (ρ.set i (some (.own d))) (σ.set i (some (.ref a))) (b_ H a o) F:=by
 have r':=r.step (c8.layOwn r.sub (o:=o) h)
 refine r'.setOwn i hf aE (r.sub.free h) (r.ext.keep.free h) q (λj d' _ hj e=> ?_) (r.celNe (cX h) h)
 obtain⟨b,o',h1,h2,_⟩:=r.own j d' hj
 rw[e]at h1
 cases h1
 rw[h]at h2
 cases h2
theorem RI.change (r:RI K c ρ σ H F) {i:Nat} {a:Kx} {o o':HO} {d d':D} (hi:ρ[i]? =some (some (.own d))) (hs:σ[i]? =some (some (.ref a))) (q:iW K F o' d'):
  RI K c (ρ.set i (some (.own d'))) σ (b_ H a o') F:=by
 obtain⟨b,u,h1,h2,h3,h4,h5⟩:=r.own i d hi
 rw[hs]at h1
 cases h1
 refine⟨⟨λx y e=> ?_,λx y e=> ?_,r.ext.grow,r.ext.new⟩,λj e w=> ?_,λj e w=> ?_,λj e w=> ?_,r.bh,λj k e e' x q1 q2 q3 q4=> ?_,by simp[r.len],λL hL hρ=> ?_,λL hL L' Vy q1 q2=> ?_,r.fm,⟨λj x Sf f hs w=> ?_,λj k x Sf f hs s w w2 Sy=> ?_⟩,r.pin⟩
 ·rw[az (λz=>by rw[z,h3]at e;cases e)];exact r.sub x y e
 ·rw[az (λz=>by rw[z,h4]at e;cases e)];exact r.ext.keep x y e
 ·rcases aA w with ⟨rfl,z,l⟩|⟨z,w⟩
  ·cases z
  ·exact r.val j e w
 ·rcases aA w with ⟨rfl,z,l⟩|⟨z,w⟩
  ·cases z;exact⟨a,o',hs,aE,h3,h4,q⟩
  ·obtain⟨x,y,k1,k2,k3,k4,k5⟩:=r.own j e w
   refine⟨x,y,k1,?_,k3,k4,k5⟩
   rw[az (λzz=>by subst zz;exact z (r.dis i j d e x hi w hs k1))]
   exact k2
 ·rcases aA w with ⟨rfl,z,l⟩|⟨z,w⟩
  ·cases z
  ·exact r.bor j e w
 ·have own_of:∀{l:Nat} {x:D},(ρ.set i (some (.own d')))[l]? =some (some (.own x))->∃y,ρ[l]? =some (some (.own y)):=λ{l x} w=>by
   rcases aA w with ⟨rfl,z,_⟩|⟨z,w⟩
   ·exact⟨d,hi⟩
   ·exact⟨x,w⟩
  obtain⟨y1,w1⟩:=own_of q1
  obtain⟨y2,w2⟩:=own_of q2
  exact r.dis j k y1 y2 x w1 w2 q3 q4
 ·have a0f:ρ[L.x]? =some (some .obj):=by
   rcases aA hρ with ⟨_,z,_⟩|⟨_,w⟩
   ·cases z
   ·exact w
  obtain⟨b,dx,fs,k0,k1,k2,k3,k4⟩:=r.obj L hL a0f
  have n1:b≠a:=λz=>by subst z;rw[k2]at h2;cases h2;cases h5
  have n2:dx≠a:=λz=>by subst z;rw[k3]at h2;cases h2;cases h5
  exact⟨b,dx,fs,k0,k1,by rw[az n1];exact k2,by rw[az n2];exact k3,k4⟩
 ·refine r.odis L hL L' Vy ?_ ?_
  ·rcases aA q1 with ⟨_,z,_⟩|⟨_,w⟩
   ·cases z
   ·exact w
  ·rcases aA q2 with ⟨_,z,_⟩|⟨_,w⟩
   ·cases z
   ·exact w
 ·rcases aA w with ⟨rfl,z,l⟩|⟨z,w⟩
  ·cases z
  ·obtain⟨b,dx,bb,k1,k2,k3⟩:=r.cel.ex j x Sf f hs w
   obtain⟨C,fs,vs,us,g1,g2,g3,g4,g5⟩:=k2.ex
   have n1:b≠a:=λz=>by subst z;rw[g1]at h2;cases h2;cases h5
   have n2:dx≠a:=λz=>by subst z;rw[k2.own]at h2;cases h2;cases h5
   have n3:bb≠a:=λz=>by subst z;exact k3 i d hi hs
   refine⟨b,dx,bb,k1,⟨⟨C,fs,vs,us,by rw[az n1];exact g1,g2,g3,by rw[az n3];exact g4,g5⟩,by rw[az n2];exact k2.own,k2.fa,k2.fd,k2.fb,k2.za,k2.zd,k2.zb⟩,λk e w2=> ?_⟩
   rcases aA w2 with ⟨rfl,z',l⟩|⟨z',w2⟩
   ·exact k3 i d hi
   ·exact k3 k e w2
 ·rcases aA w with ⟨rfl,z,l⟩|⟨z,w⟩
  ·cases z
  ·rcases aA w2 with ⟨rfl,z',l⟩|⟨z',w2⟩
   ·cases z';cases Sy
   ·exact r.cel.one j k x Sf f hs s w w2 Sy
end
def frz1 (i:Nat) (ρ:af):af:=match ρ[i]? with
 |some (some (.own d))=>ρ.set i (some (.val d))
 |_=>ρ
def frz (L:List Nat) (ρ:af):af:=L.foldl (λr i=>frz1 i r) ρ
theorem RI.frz1 {K:Ku} {c:dW ly} {ρ:af} {σ:St} {H F:Hp} (r:RI K c ρ σ H F) (i:Nat):∃F',bd F F'/\RI K c (frz1 i ρ) σ H F':=by
 unfold L2.Pu.frz1
 split
 ·rename_i d hi
  obtain⟨a,o,h1,h2,h3,h4,h5⟩:=r.own i d hi
  have g:bd F (b_ F a o):=cX h3
  refine⟨b_ F a o,g,⟨⟨λb u e=> ?_,r.ext.keep,r.ext.grow.trans g,λb e=> ?_⟩,λj e w=> ?_,λj e w=> ?_,λj e w=> ?_,r.bh,λj k e e' x q1 q2 q3 q4=> ?_,by simp[r.len],λL hL hρ=> ?_,λL hL L' Vy q1 q2=> ?_,r.fm.trans g,⟨λj x Sf f hs w=> ?_,λj k x Sf f hs s w w2 Sy=> ?_⟩,r.pin⟩⟩
  ·by_cases z:b=a
   ·subst z;rw[aE]at e;rw[h2];exact e
   ·rw[az z]at e;exact r.sub b u e
  ·by_cases z:b=a
   ·subst z;exact .inr h4
   ·rw[az z]at e;exact r.ext.new b e
  ·rcases aA w with ⟨rfl,z,l⟩|⟨z,w⟩
   ·cases z
    refine⟨.ref a,h1,?_⟩
    cases h5 with
    |lst q=>exact .lst aE (q.mono g)
    |dic q n=>exact .dic aE (q.mono g) n
   ·obtain⟨v,k1,k2⟩:=r.val j e w;exact⟨v,k1,k2.mono g⟩
  ·rcases aA w with ⟨rfl,z,l⟩|⟨z,w⟩
   ·cases z
   ·obtain⟨x,y,k1,k2,k3,k4,k5⟩:=r.own j e w
    refine⟨x,y,k1,k2,?_,k4,k5.mono g⟩
    rw[az (λzz=>by subst zz;exact z (r.dis i j d e x hi w h1 k1))]
    exact k3
  ·rcases aA w with ⟨rfl,z,l⟩|⟨z,w⟩
   ·cases z
   ·exact r.bor j e w
  ·rcases aA q1 with ⟨rfl,z,l⟩|⟨z,q1⟩
   ·cases z
   ·rcases aA q2 with ⟨rfl,z',l⟩|⟨z',q2⟩
    ·cases z'
    ·exact r.dis j k e e' x q1 q2 q3 q4
  ·have a0f:ρ[L.x]? =some (some .obj):=by
    rcases aA hρ with ⟨_,z,_⟩|⟨_,w⟩
    ·cases z
    ·exact w
   obtain⟨b,dx,fs,k0,k1,k2,k3,k4,k5,k6⟩:=r.obj L hL a0f
   have n1:b≠a:=λz=>by subst z;rw[k2]at h2;cases h2;cases h5
   have n2:dx≠a:=λz=>by subst z;rw[k3]at h2;cases h2;cases h5
   exact⟨b,dx,fs,k0,k1,k2,k3,by rw[az n1];exact k4,by rw[az n2];exact k5,k6⟩
  ·refine r.odis L hL L' Vy ?_ ?_
   ·rcases aA q1 with ⟨_,z,_⟩|⟨_,w⟩
    ·cases z
    ·exact w
   ·rcases aA q2 with ⟨_,z,_⟩|⟨_,w⟩
    ·cases z
    ·exact w
  ·rcases aA w with ⟨rfl,z,l⟩|⟨z,w⟩
   ·cases z
   ·obtain⟨b,dx,bb,k1,k2,k3⟩:=r.cel.ex j x Sf f hs w
    obtain⟨C,fs,vs,us,g1,g2,g3,g4,g5,g6,g7⟩:=k2.ex
    have n1:b≠a:=λz=>by subst z;rw[g1]at h2;cases h2;cases h5
    have n2:dx≠a:=λz=>by subst z;rw[k2.own]at h2;cases h2;cases h5
    have n3:bb≠a:=λz=>by subst z;exact k3 i d hi h1
    refine⟨b,dx,bb,k1,⟨⟨C,fs,vs,us,g1,g2,g3,g4,g5.mono g,g6.mono g,g7⟩,k2.own,by rw[az n1];exact k2.fa,by rw[az n2];exact k2.fd,by rw[az n3];exact k2.fb,k2.za,k2.zd,k2.zb⟩,λk e w2=> ?_⟩
    rcases aA w2 with ⟨rfl,z',l⟩|⟨z',w2⟩
    ·cases z'
    ·exact k3 k e w2
  ·rcases aA w with ⟨rfl,z,l⟩|⟨z,w⟩
   ·cases z
   ·rcases aA w2 with ⟨rfl,z',l⟩|⟨z',w2⟩
    ·cases z';cases Sy
    ·exact r.cel.one j k x Sf f hs s w w2 Sy
 ·exact⟨F,bd.refl _,r⟩
theorem RI.frz {K:Ku} {c:dW ly} {σ:St} {H:Hp}:∀(L:List Nat) {ρ:af} {F:Hp},RI K c ρ σ H F->∃F',bd F F'/\RI K c (frz L ρ) σ H F'
 |[],ρ,F,r=>⟨F,bd.refl _,r⟩
 |i::L,ρ,F,r=>by
  obtain⟨F1,g1,r1⟩:=r.frz1 i
  obtain⟨F2,g2,r2⟩:=RI.frz L r1
  exact⟨F2,g1.trans g2,r2⟩
end L2.Pu
namespace L2.Pu
open PySem PySem.Spec PyProof.Rows
variable {ly:List fz}
inductive R (α:Type)where
 |ok (a:α)|err (c:Kw) (ρ:af)|bad
def R.bind {α β:Type}:R α->(α->R β)->R β
 | .ok a,f=>f a
 | .err c ρ,_=> .err c ρ
 | .bad,_=> .bad
instance:Monad R where
 pure:=R.ok
 bind:=R.bind
@[simp] theorem ar {α β:Type} (a:α) (f:α->R β):(R.ok a>>=f)=f a:=rfl
@[simp] theorem I0 {α β:Type} (c:Kw) (ρ:af) (f:α->R β):(R.err c ρ>>=f)=R.err c ρ:=rfl
@[simp] theorem I9 {α β:Type} (f:α->R β):(R.bad>>=f)=R.bad:=rfl
@[simp] theorem IZ {α:Type} (a:α):(pure a:R α)=R.ok a:=rfl
def R.of {α:Type}:Option α->R α
 |some a=> .ok a
 |none=> .bad
@[simp] theorem gw {α:Type} (a:α):R.of (some a)= .ok a:=rfl
@[simp] theorem I_ {α:Type}:R.of (none:Option α)= .bad:=rfl
def aN {α:Type} (c:dW ly) (r:R α) (P:α->Prop):Prop:=match r with
 | .ok a=>P a
 | .err e ρ=>c.Er e ρ
 | .bad=>False
theorem aN.imp {α:Type} {c:dW ly} {r:R α} {P P':α->Prop} (h:aN c r P) (w:∀a,r= .ok a->P a->P' a):aN c r P':=by
 cases r with
 |ok a=>exact w a rfl h
 |err e ρ=>exact h
 |bad=>exact h
theorem aN.bind {α β:Type} {c:dW ly} {r:R α} {f:α->R β} {P:β->Prop}:aN c (r>>=f) P<->aN c r λa=>aN c (f a) P:=by
 cases r<;>exact Iff.rfl
theorem aN.of {α:Type} {c:dW ly} {r:Option α} {P:α->Prop} (h:aN c (R.of r) P):∃a,r=some a/\P a:=by
 cases r with
 |none=>exact h.elim
 |some a=>exact⟨a,rfl,h⟩
def dg (K:Ku) (H F:Hp) (v:V) (d:D):Prop:=dU K F v d\/∃a o,v= .ref a/\H a=some o/\iW K F o d
theorem dg.mono {K:Ku} {H F H' F':Hp} {v:V} {d:D} (e:c8 H F H' F'):dg K H F v d->dg K H' F' v d
 | .inl r=> .inl (r.mono e.grow)
 | .inr ⟨a,o,h1,h2,h3⟩=> .inr ⟨a,o,h1,e.keep _ _ h2,h3.mono e.grow⟩
theorem dg.lst {K:Ku} {H F:Hp} {v:V} {ds:List D} (s:bd F H) (h:dg K H F v (.lst ds)):∃a vs,v= .ref a/\H a=some (.lst vs)/\Reps K F vs ds:=by
 rcases h with h|⟨a,o,h1,h2,q⟩
 ·obtain⟨a,vs,e,h,r⟩:=h.inv
  exact⟨a,vs,e,s _ _ h,r⟩
 ·cases q with
  |lst r=>exact⟨_,_,h1,h2,r⟩
theorem dg.dic {K:Ku} {H F:Hp} {v:V} {ds:List (cH×D)} (s:bd F H) (h:dg K H F v (.dic ds)):∃a vs,v= .ref a/\H a=some (.dK vs)/\RepK K F vs ds/\(vs.map (·.1)).Nodup:=by
 rcases h with h|⟨a,o,h1,h2,q⟩
 ·obtain⟨a,vs,e,h,r⟩:=h.inv
  exact⟨a,vs,e,s _ _ h,r⟩
 ·cases q with
  |dic r n=>exact⟨_,_,h1,h2,r,n⟩
def Ke:D->Bool
 | .lst _=>true
 | .dic _=>true
 |_=>false
theorem dg.in {K:Ku} {H F:Hp} {v:V} {d:D} (h:dg K H F v d) (n:Ke d=false):BS K F v d:=by
 rcases h with h|⟨a,o,h1,h2,q⟩
 ·exact h.inv
 ·cases q<;>cases n
theorem dg.tup {K:Ku} {H F:Hp} {v:V} {ds:List D} (s:bd F H) (h:dg K H F v (.tup ds)):∃a vs,v= .ref a/\H a=some (.tup vs)/\Reps K F vs ds:=by
 obtain⟨a,vs,e,h,r⟩:=h.in rfl
 exact⟨a,vs,e,s _ _ h,r⟩
theorem dg.scr {K:Ku} {H F:Hp} {v:V} {ns:List Int} (s:bd F H) (h:dg K H F v (.scr ns)):∃a,v= .ref a/\dA K H a (ns.map V.int):=by
 obtain⟨a,e,h⟩:=h.in rfl
 exact⟨a,e,s.seq h⟩
theorem dg.int {K:Ku} {H F:Hp} {v:V} {i:Int} (h:dg K H F v (.int i)):v= .int i:=h.in rfl
theorem dg.bl {K:Ku} {H F:Hp} {v:V} {i:Bool} (h:dg K H F v (.bl i)):v= .bl i:=h.in rfl
theorem dg.str {K:Ku} {H F:Hp} {v:V} {i:Kw} (h:dg K H F v (.str i)):v= .str i:=h.in rfl
theorem dg.non {K:Ku} {H F:Hp} {v:V} (h:dg K H F v .non):v= .non:=h.in rfl
inductive n4 (K:Ku) (H F:Hp):List V->List D->Prop
 |nil:n4 K H F [] []
 |cons {v:V} {d:D} {vs:List V} {ds:List D}:dg K H F v d->n4 K H F vs ds->n4 K H F (v::vs) (d::ds)
def eO (K:Ku) (x:Kw) (cls:Kv):Prop:=∃C,cls= .ref C/\KQ K KJ x=some (some (.ref C))
def E_ (X:Cx) (c:dW ly) (σ:St):XK:=λcls _ H'=>∃x ρ F',eO X.K x cls/\RI X.K c ρ σ H' F'/\c.Er x ρ
def G8 (X:Cx) (c:dW ly):Prop:=(jU X/\∀S4 σ ρ H F s a cls x,aP X S4 σ H s->RI X.K c ρ σ H F->Fl X S4 H s.heap a cls->eO X.K x cls->c.Er x ρ->X.xe (.ref a) s)\/(∀x ρ,¬c.Er x ρ)\/(X.stack=X.outer/\lw (lg X.prog X.w) X (E_ X c))
abbrev iX (ly:List fz) (X:Cx):Type:={c:dW ly // G8 X c}
theorem G8.no {X:Cx} {c:dW ly} (h:∀x ρ,¬c.Er x ρ):G8 X c:= .inr (.inl h)
theorem oA {X:Cx} (c:iX ly X):lw (lg X.prog X.w) X (E_ X c.1):=λS4 σ H s e s' I h=>by
 rcases c.2 with ⟨hp,Y0⟩|no|⟨_,ps⟩
 ·obtain⟨a,cls,H',rfl,I',fl,x,ρ,F',ec,ri,er⟩:=G6 I hp h
  exact Y0 S4 σ ρ H' F' s' a cls x I' ri fl ec er
 ·obtain⟨a,cls,H',_,_,_,_,_,_,x,ρ,F',ec,ri,er⟩:=h
  exact absurd er (no x ρ)
 ·exact ps S4 σ H s e s' I h
theorem G8.plain {X:Cx} {c:dW ly} (h:G8 X c) (V2:X.stack=X.env::X.outer):(jU X/\∀S4 σ ρ H F s a cls x,aP X S4 σ H s->RI X.K c ρ σ H F->Fl X S4 H s.heap a cls->eO X.K x cls->c.Er x ρ->X.xe (.ref a) s)\/∀x ρ,¬c.Er x ρ:=by
 rcases h with h|h|⟨h,_⟩
 ·exact .inl h
 ·exact .inr h
 ·rw[h]at V2
  have:=congrArg Ox V2
  simp at this
def tQ (K:Ku) (c:dW ly) (f:af->R D):TE:=λσ H Q=>∃F ρ,RI K c ρ σ H F/\aN c (f ρ) λd=>∀v H' F',c8 H F H' F'->dU K F' v d->Q v H'
def tB' (K:Ku) (c:dW ly) (f:af->R D):TE:=λσ H Q=>∃F ρ,RI K c ρ σ H F/\aN c (f ρ) λd=>∀v H' F',c8 H F H' F'->dg K H' F' v d->Q v H'
def tT (K:Ku) (c:dW ly) (f:af->R Bool):TT:=λσ H Q=>∃F ρ,RI K c ρ σ H F/\aN c (f ρ) λb=>∀H' F',c8 H F H' F'->Q b H'
def He (K:Ku) (c:dW ly) (f:af->R (List D)):TA:=λσ H Q=>∃F ρ,RI K c ρ σ H F/\aN c (f ρ) λds=>∀vs H' F',c8 H F H' F'->Reps K F' vs ds->Q vs H'
def Ia (K:Ku) (c:dW ly) (f:af->R (List D)):TA:=λσ H Q=>∃F ρ,RI K c ρ σ H F/\aN c (f ρ) λds=>∀vs H' F',c8 H F H' F'->n4 K H' F' vs ds->Q vs H'
def PQ (ly:List fz) (X:Cx) (e:KI) (f:af->R D):Prop:=∀c:iX ly X,PE X e (tQ X.K c.1 f)
def PB (ly:List fz) (X:Cx) (e:KI) (f:af->R D):Prop:=∀c:iX ly X,PE X e (tB' X.K c.1 f)
def vy (ly:List fz) (X:Cx) (e:KI) (f:af->R Bool):Prop:=∀c:iX ly X,PT X e (tT X.K c.1 f)
def qK (ly:List fz) (X:Cx) (e:KI) (f:af->R Bool):Prop:=∀c:iX ly X,PW X e (tT X.K c.1 f)
def vz (ly:List fz) (X:Cx) (es:List KI) (f:af->R (List D)):Prop:=∀c:iX ly X,PA X es (He X.K c.1 f)
def Ib (ly:List fz) (X:Cx) (es:List KI) (f:af->R (List D)):Prop:=∀c:iX ly X,PA X es (Ia X.K c.1 f)
theorem PE.weak {X:Cx} {e:KI} {t t':TE} (h:PE X e t) (w:∀σ H Q,t' σ H Q->t σ H Q):PE X e t':=λS4 s σ H Q I q=>h S4 s σ H Q I (w σ H Q q)
theorem PT.weak {X:Cx} {e:KI} {t t':TT} (h:PT X e t) (w:∀σ H Q,t' σ H Q->t σ H Q):PT X e t':=λS4 s σ H Q I q=>h S4 s σ H Q I (w σ H Q q)
theorem PW.weak {X:Cx} {e:KI} {t t':TT} (h:PW X e t) (w:∀σ H Q,t' σ H Q->t σ H Q):PW X e t':=λwh S4 s σ H Q I q=>h wh S4 s σ H Q I (w σ H Q q)
theorem PA.weak {X:Cx} {e:List KI} {t t':TA} (h:PA X e t) (w:∀σ H Q,t' σ H Q->t σ H Q):PA X e t':=λpos S4 s σ H Q I q=>h pos S4 s σ H Q I (w σ H Q q)
theorem PS.weak {X:Cx} {e:L9} {t t':TS} (h:PS X e t) (w:∀D σ H,t' D σ H->t D σ H):PS X e t':=λS4 s σ H D I q=>h S4 s σ H D I (w D σ H q)
theorem rA.weak {X:Cx} {e:List L9} {t t':TS} (h:rA X e t) (w:∀D σ H,t' D σ H->t D σ H):rA X e t':=λS4 s σ H D I q=>h S4 s σ H D I (w D σ H q)
theorem PG.weak {X:Cx} {e:KI} {t t':TG} (h:PG X e t) (w:∀v σ H Q,t' v σ H Q->t v σ H Q):PG X e t':=λS4 s σ H v u Q I r q=>h S4 s σ H v u Q I r (w v σ H Q q)
theorem two {K:Ku} {c:dW ly} {fa fb:af->R D} {g:D->D->R D} {σ:St} {H:Hp} {Q:VK} (h:tQ K c (λρ=>fa ρ>>=λx=>fb ρ>>=λy=>g x y) σ H Q)
  {T:V->V->Hp->Prop} (k:∀F H2 F2 v u x y,c8 H F H2 F2->dg K H2 F2 v x->dg K H2 F2 u y->aN c (g x y) (λd=>∀w H' F',c8 H F H' F'->dU K F' w d->Q w H')->T v u H2):
  tB' K c fa σ H λv H1=>tB' K c fb σ H1 λu H2=>T v u H2:=by
 obtain⟨F,ρ,ri,w⟩:=h
 refine⟨F,ρ,ri,(aN.bind.mp w).imp λx hx w1 v H1 F1 e1 r1=>⟨F1,ρ,ri.step e1,(aN.bind.mp w1).imp λy hy w2 u H2 F2 e2 r2=> ?_⟩⟩
 exact k F H2 F2 v u x y (e1.trans e2) (r1.mono e2) r2 w2
def jW (K:Ku) (r:R2) (g:D->D->Option D):Prop:=∀v u x y d H F Q,bd F H->dg K H F v x->dg K H F u y->g x y=some d->(∀w H' F',c8 H F H' F'->dU K F' w d->Q w H')->r v u H Q
def Ic (K:Ku) (r:V->Hp->VK->Prop) (g:D->Option D):Prop:=∀v x d H F Q,bd F H->dg K H F v x->g x=some d->(∀w H' F',c8 H F H' F'->dU K F' w d->Q w H')->r v H Q
def mO (K:Ku) (r:List V->Hp->VK->Prop) (g:List D->Option D):Prop:=∀vs ds d H F Q,bd F H->n4 K H F vs ds->g ds=some d->(∀w H' F',c8 H F H' F'->dU K F' w d->Q w H')->r vs H Q
section
variable {X:Cx} {a b e:KI} {es:List KI} {fa fb f:af->R D} {fs:af->R (List D)} {pos:Ls}
theorem PQ.bo (h:PQ ly X e f):PB ly X e f:=λc=>PE.weak (h c) λσ H Q ⟨F,ρ,ri,w⟩=>⟨F,ρ,ri,w.imp λd _ k v H' F' e r=>k v H' F' e (.inl r)⟩
def au (i:Nat):af->R D:=λρ=>match ρ[i]? with
 |some (some (.val d))=> .ok d
 |_=> .bad
def aa (i:Nat):af->R D:=λρ=>match ρ[i]? with
 |some (some .obj)=> .bad
 |some (some (.cel ..))=> .bad
 |some (some s)=> .ok s.data
 |_=> .bad
theorem JC (h:PE X e (B7 i)):PQ ly X e (au i):=λc=>PE.weak h λσ H Q ⟨F,ρ,ri,w⟩=>by
 unfold au at w
 split at w
 ·rename_i d hd
  obtain⟨v,h1,h2⟩:=ri.val i d hd
  exact⟨v,h1,w v H F (c8.refl ri.sub) h2⟩
 ·exact w.elim
theorem JD (h:PE X e (B7 i)):PB ly X e (aa i):=λc=>PE.weak h λσ H Q ⟨F,ρ,ri,w⟩=>by
 unfold aa at w
 split at w
 ·exact w.elim
 ·exact w.elim
 ·rename_i s a0g a0h hs
  cases s with
  |obj=>exact absurd rfl a0g
  |cel x Sf f hs=>exact absurd rfl (a0h _ _ _ _)
  |val d=>obtain⟨v,h1,h2⟩:=ri.val i d hs;exact⟨v,h1,w v H F (c8.refl ri.sub) (.inl h2)⟩
  |own d=>obtain⟨a,o,h1,h2,h3,h4,h5⟩:=ri.own i d hs;exact⟨_,h1,w _ H F (c8.refl ri.sub) (.inr ⟨a,o,rfl,h2,h5⟩)⟩
  |bor d=>obtain⟨a,o,h1,h2,h3⟩:=ri.bor i d hs;exact⟨_,h1,w _ H F (c8.refl ri.sub) (.inr ⟨a,o,rfl,ri.ext.keep _ _ (ri.bh _ _ h2),h3.mono ri.ext.grow⟩)⟩
 ·exact w.elim
theorem aq (i:Nat) {x:Kw} (hN:X.N[i]? =some x:=by rfl) (hv:pz X.env.scope x:=by first|exact Lx rfl|exact Lj (Lx rfl)|exact Lj (Lj rfl)) (hd:(x==("__debug__":Kw))=false:=by decide)
  (Tu:(x==("__classdict__":Kw))=false:=by decide):PQ ly X (.Name x pos) (au i):=JC (pv i hN hv hd Tu)
theorem ac (i:Nat) {x:Kw} (hN:X.N[i]? =some x:=by rfl) (hv:pz X.env.scope x:=by first|exact Lx rfl|exact Lj (Lx rfl)|exact Lj (Lj rfl)) (hd:(x==("__debug__":Kw))=false:=by decide)
  (Tu:(x==("__classdict__":Kw))=false:=by decide):PB ly X (.Name x pos) (aa i):=JD (pv i hN hv hd Tu)
def fC (d:D):af->R D:=λ_=> .ok d
theorem ag {i:Int} {j:Nat}:PQ ly X (.Constant (.int i) j pos) (fC (.int i)):=λc=>PE.weak B8 λσ H Q ⟨F,ρ,ri,w⟩=>w _ H F (c8.refl ri.sub) (.int i)
theorem nE {i:Bool} {j:Nat}:PQ ly X (.Constant (.bool i) j pos) (fC (.bl i)):=λc=>PE.weak Hn λσ H Q ⟨F,ρ,ri,w⟩=>w _ H F (c8.refl ri.sub) (.bl i)
theorem yS {j:Nat}:PQ ly X (.Constant .none j pos) (fC .non):=λc=>PE.weak Fu λσ H Q ⟨F,ρ,ri,w⟩=>w _ H F (c8.refl ri.sub) .non
theorem aJ {x:Kw} {j:Nat}:PQ ly X (.Constant (.str x) j pos) (fC (.str x)):=λc=>PE.weak Fv λσ H Q ⟨F,ρ,ri,w⟩=>w _ H F (c8.refl ri.sub) (.str x)
theorem kx {x:Kw} {i:Int} {t:NI} (hg:Gl X x) (hm:X.mg x=some (.int i t)) (hd:(x==("__debug__":Kw))=false:=by decide):PQ ly X (.Name x pos) (fC (.int i)):=
 λc=>PE.weak (yu hg hm (v:= .int i) ⟨t,rfl⟩ hd) λσ H Q ⟨F,ρ,ri,w⟩=>w _ H F (c8.refl ri.sub) (.int i)
def f2 (g:D->D->Option D) (fa fb:af->R D):af->R D:=λρ=>fa ρ>>=λx=>fb ρ>>=λy=>R.of (g x y)
theorem ay {op:Operator} {r:R2} {g:D->D->Option D} (ho:lq X (Mt op) r) (Wl:jW X.K r g) (ha:PB ly X a fa) (hb:PB ly X b fb):PQ ly X (.BinOp a op b pos) (f2 g fa fb):=λc=>
 PE.weak (EM ho (ha c) (hb c)) λσ H Q h=>two h λF H2 F2 v u x y e rx ry w=>by
  obtain⟨d,hd,k⟩:=w.of
  exact Wl v u x y d H2 F2 Q e.sub rx ry hd λw H' F' e' r'=>k w H' F' (e.trans e') r'
def f1 (g:D->Option D) (fa:af->R D):af->R D:=λρ=>fa ρ>>=λx=>R.of (g x)
theorem qL {op:UnaryOp} {r:V->Hp->VK->Prop} {g:D->Option D} (ho:IV X (unaryOp op) r) (Wl:Ic X.K r g) (ha:PB ly X a fa):PQ ly X (.UnaryOp op a pos) (f1 g fa):=λc=>
 PE.weak (EN ho (ha c)) λσ H Q ⟨F,ρ,ri,w⟩=>⟨F,ρ,ri,(aN.bind.mp w).imp λx hx w1 v H1 F1 e1 r1=>by
  obtain⟨d,hd,k⟩:=w1.of
  exact Wl v x d H1 F1 Q e1.sub r1 hd λw H' F' e' r'=>k w H' F' (e1.trans e') r'⟩
theorem iY {op:Qj} {r:R2} {g:D->D->Option D} (ho:lq X (M6 op) r) (Wl:jW X.K r g) (ha:PB ly X a fa) (hb:PB ly X b fb) (hm:M9 op b=false:=by first|exact Bm _|with_unfolding_all rfl):
  PQ ly X (.Compare a [op] [b] pos) (f2 g fa fb):=λc=>
 PE.weak (Dw ho (ha c) (hb c) hm) λσ H Q h=>two h λF H2 F2 v u x y e rx ry w=>by
  obtain⟨d,hd,k⟩:=w.of
  exact Wl v u x y d H2 F2 Q e.sub rx ry hd λw H' F' e' r'=>k w H' F' (e.trans e') r'
def fT (f:af->R D):af->R Bool:=λρ=>f ρ>>=λd=>match d with
 | .bl b=> .ok b
 |_=> .bad
theorem G9 {t:TE} (h:PT X e (EO t)) (w:∀σ H Q,tQ X.K c f σ H Q->t σ H Q):PT X e (tT X.K c (fT f)):=PT.weak h λσ H Q ⟨F,ρ,ri,k⟩=>by
 refine w σ H _ ⟨F,ρ,ri,(aN.bind.mp k).imp λd _ k1 v H' F' e r=> ?_⟩
 cases d with
 |bl b=>cases r;exact⟨b,rfl,k1 H' F' e⟩
 |_=>exact k1.elim
theorem aO {op:Qj} {r:R2} {g:D->D->Option D} (ho:lq X (M6 op) r) (Wl:jW X.K r g) (ha:PB ly X a fa) (hb:PB ly X b fb) (hm:M9 op b=false:=by first|exact Bm _|with_unfolding_all rfl):
  vy ly X (.Compare a [op] [b] pos) (fT (f2 g fa fb)):=λc=>G9 (Dx ho (ha c) (hb c) hm) λσ H Q h=>two h λF H2 F2 v u x y e rx ry w=>by
  obtain⟨d,hd,k⟩:=w.of
  exact Wl v u x y d H2 F2 Q e.sub rx ry hd λw H' F' e' r'=>k w H' F' (e.trans e') r'
def ai:af->R (List D):=λ_=> .ok []
def a8 (f:af->R D) (fs:af->R (List D)):af->R (List D):=λρ=>f ρ>>=λx=>fs ρ>>=λxs=> .ok (x::xs)
theorem ah:vz ly X [] ai:=λc=>PA.weak gP λσ H Q ⟨F,ρ,ri,w⟩=>w [] H F (c8.refl ri.sub) .nil
theorem a7 (h:PQ ly X e f) (hr:vz ly X es fs) (hs:KC (e::es) X.env=(false,L5 e X.env)::KC es X.env:=by rfl):vz ly X (e::es) (a8 f fs):=λc=>
 PA.weak (df (h c) (hr c) hs) λσ H Q ⟨F,ρ,ri,w⟩=>⟨F,ρ,ri,(aN.bind.mp w).imp λx hx w1 v H1 F1 e1 r1=>⟨F1,ρ,ri.step e1,(aN.bind.mp w1).imp λy hy w2 u H2 F2 e2 r2=>
  w2 _ H2 F2 (e1.trans e2) (.cons (r1.mono e2.grow) r2)⟩⟩
theorem aC:Ib ly X [] ai:=λc=>PA.weak gP λσ H Q ⟨F,ρ,ri,w⟩=>w [] H F (c8.refl ri.sub) .nil
theorem ax (h:PB ly X e f) (hr:Ib ly X es fs) (hs:KC (e::es) X.env=(false,L5 e X.env)::KC es X.env:=by rfl):Ib ly X (e::es) (a8 f fs):=λc=>
 PA.weak (df (h c) (hr c) hs) λσ H Q ⟨F,ρ,ri,w⟩=>⟨F,ρ,ri,(aN.bind.mp w).imp λx hx w1 v H1 F1 e1 r1=>⟨F1,ρ,ri.step e1,(aN.bind.mp w1).imp λy hy w2 u H2 F2 e2 r2=>
  w2 _ H2 F2 (e1.trans e2) (.cons (r1.mono e2) r2)⟩⟩
def lim:Nat:=100000
theorem gz:lim<=sizeLine:=by decide
def bU (fs:af->R (List D)):af->R D:=λρ=>fs ρ>>=λds=>if ds.length<=lim then .ok (.tup ds)else .bad
def eD (fs:af->R (List D)):af->R D:=λρ=>fs ρ>>=λds=>if ds.length<=lim then .ok (.lst ds)else .bad
theorem bP {x1:Nat} (h:vz ly X es fs):PQ ly X (.Tuple es x1 pos) (bU fs):=λc=>PE.weak (FP (h c)) λσ H Q ⟨F,ρ,ri,w⟩=>⟨F,ρ,ri,(aN.bind.mp w).imp λds hd w1 vs H1 F1 e1 r1=>by
 split at w1
 ·rename_i hl
  refine⟨Lq (by rw[r1.length];exact hl) gz,λp hp=> ?_⟩
  have e2:=c8.lay (o:= .tup vs) e1.sub hp
  exact w1 _ _ _ (e1.trans e2) (.tup aE (r1.mono e2.grow))
 ·exact w1.elim⟩
theorem eJ (h:vz ly X es fs):PQ ly X (.List es pos) (eD fs):=λc=>PE.weak (rG (h c)) λσ H Q ⟨F,ρ,ri,w⟩=>⟨F,ρ,ri,(aN.bind.mp w).imp λds hd w1 vs H1 F1 e1 r1=>by
 split at w1
 ·rename_i hl
  refine⟨Lq (by rw[r1.length];exact hl) gz,λp hp=> ?_⟩
  have e2:=c8.lay (o:= .lst vs) e1.sub hp
  exact w1 _ _ _ (e1.trans e2) (.lst aE (r1.mono e2.grow))
 ·exact w1.elim⟩
def cg (g:List D->Option D) (fs:af->R (List D)):af->R D:=λρ=>fs ρ>>=λds=>R.of (g ds)
variable {x:Kw} {p:Ls} {id T:String} {rc:List V->Hp->VK->Prop}
theorem yT {c:dW ly} {rc:List V->Hp->VK->Prop} {g:List D->Option D} (Wl:mO X.K rc g) {σ:St} {H:Hp} {Q:VK} (h:tQ X.K c (cg g fs) σ H Q):Jr rc (Ia X.K c fs) σ H Q:=by
 obtain⟨F,ρ,ri,w⟩:=h
 refine⟨F,ρ,ri,(aN.bind.mp w).imp λds hd w1 vs H1 F1 e1 r1=> ?_⟩
 obtain⟨d,hd,k⟩:=w1.of
 exact Wl vs ds d H1 F1 Q e1.sub r1 hd λw H' F' e' r'=>k w H' F' (e1.trans e') r'
theorem aT {g:List D->Option D} (hc:dX X (.builtin id) rc) (Wl:mO X.K rc g) (hm:X.mg x=none) (hv:Lu x=some (.builtin id)) (ha:Ib ly X (e::es) fs) (hg:Gl X x:=by rfl) (hn:x≠"__name__":=by decide) (TX:(x==("__debug__":Kw))=false:=by decide)
  (he:KC (e::es) X.env=(false,L5 e X.env)::KC es X.env:=by rfl) (Tq:(Ll pos (KC es X.env)).any (·.1)=false:=by rfl):PQ ly X (.Call (.Name x p) (e::es) [] pos) (cg g fs):=λc=>
 PE.weak (oi hc hg hm hv (ha c) hn TX he Tq) λσ H Q h=>yT Wl h
theorem b9 {g:List D->Option D} (hc:dX X (.type T) rc) (Wl:mO X.K rc g) (hm:X.mg x=none) (hv:Lu x=some (.type T)) (ha:Ib ly X (e::es) fs) (hg:Gl X x:=by rfl) (hn:x≠"__name__":=by decide) (TX:(x==("__debug__":Kw))=false:=by decide)
  (he:KC (e::es) X.env=(false,L5 e X.env)::KC es X.env:=by rfl) (Tq:(Ll pos (KC es X.env)).any (·.1)=false:=by rfl):PQ ly X (.Call (.Name x p) (e::es) [] pos) (cg g fs):=λc=>
 PE.weak (A2 hc hg hm hv (ha c) hn TX he Tq) λσ H Q h=>yT Wl h
def Ah (K:Ku) (n:Nat) (m:List D->R D):Sp:=λvs H Q E=>vs.length=n/\∃F ds,bd F H/\Reps K F vs ds/\match m ds with
 | .ok d=>∀v H' F',c8 H F H' F'->dU K F' v d->Q v H'
 | .err x _=>∀cls a H' F',eO K x cls->c8 H F H' F'->E cls a H'
 | .bad=>False
def aI (m:List D->R D) (n:Nat) (fs:af->R (List D)):af->R D:=λρ=>fs ρ>>=λds=>if ds.length=n then (match m ds with| .ok d=> .ok d| .err x _=> .err x ρ| .bad=> .bad)else .bad
theorem Ga {c:dW ly} {m:List D->R D} {n:Nat} {σ:St} {H:Hp} {Q:VK} (h:tQ X.K c (aI m n fs) σ H Q):ES (Ah X.K n m) [] (E_ X c) (He X.K c fs) σ H Q:=by
 obtain⟨F,ρ,ri,w⟩:=h
 refine⟨F,ρ,ri,(aN.bind.mp w).imp λds hd w1 vs H1 F1 e1 r1=> ?_⟩
 show Ah X.K n m (vs++[]) H1 Q (E_ X c σ)
 rw[M5]
 split at w1
 ·rename_i hl
  refine⟨by rw[r1.length];exact hl,F1,ds,e1.sub,r1,?_⟩
  split at w1
  ·exact λv H' F' e' r'=>w1 v H' F' (e1.trans e') r'
  ·exact λcls a H' F' ec e'=>⟨_,ρ,F',ec,ri.step (e1.trans e'),w1⟩
  ·exact w1.elim
 ·exact w1.elim
theorem Gb {n k:Nat} {m:List D->R D} {f:Kx} {fd:M0} {ps:List Kw} (F:fJ X.prog X.w X.K X.mg X.base (lg X.prog X.w) k f fd ps (Ah X.K n m)) (hr:cW k X.A) (hm:X.mg x=some (.ref f)) (hk:Ly X.K (.ref f)=true) (hb:gf X.K fd ps [])
  (ha:vz ly X (e::es) fs) (hg:Gl X x:=by rfl) (TX:(x==("__debug__":Kw))=false:=by decide) (he:KC (e::es) X.env=(false,L5 e X.env)::KC es X.env:=by rfl) (Tq:(Ll pos (KC es X.env)).any (·.1)=false:=by rfl):
  PQ ly X (.Call (.Name x p) (e::es) [] pos) (aI m n fs):=λc=>PE.weak (ux F hr hg hm hk hb .nil (oA c) (ha c) TX he Tq) λσ H Q h=>Ga h
variable {ga gb:af->R Bool} {rest:List KI}
def gA (ga gb:af->R Bool):af->R Bool:=λρ=>ga ρ>>=λb=>if b=true then gb ρ else .ok false
def o6 (ga gb:af->R Bool):af->R Bool:=λρ=>ga ρ>>=λb=>if b=true then .ok true else gb ρ
def iZ (ga:af->R Bool):af->R Bool:=λρ=>ga ρ>>=λb=> .ok (!b)
theorem qK.t (h:qK ly X e ga):vy ly X e ga:=λc=>(h c).pt
theorem pJ (h:vy ly X a ga):qK ly X (.BoolOp .And [a] pos) ga:=λc=>Ds (h c)
theorem lA (h:vy ly X a ga):qK ly X (.BoolOp .Or [a] pos) ga:=λc=>Fx (h c)
theorem tV (h:vy ly X a ga) (hb:qK ly X (.BoolOp .And (b::rest) pos) gb):qK ly X (.BoolOp .And (a::b::rest) pos) (gA ga gb):=λc=>PW.weak (Fy (h c) (hb c)) λσ H Q ⟨F,ρ,ri,w⟩=>
 ⟨F,ρ,ri,(aN.bind.mp w).imp λb hb w1 H1 F1 e1=>by
  cases b with
  |true=>exact⟨F1,ρ,ri.step e1,w1.imp λb' _ k H2 F2 e2=>k H2 F2 (e1.trans e2)⟩
  |false=>exact w1 H1 F1 e1⟩
theorem rX (h:vy ly X a ga) (hb:qK ly X (.BoolOp .Or (b::rest) pos) gb):qK ly X (.BoolOp .Or (a::b::rest) pos) (o6 ga gb):=λc=>PW.weak (Ho (h c) (hb c)) λσ H Q ⟨F,ρ,ri,w⟩=>
 ⟨F,ρ,ri,(aN.bind.mp w).imp λb hb w1 H1 F1 e1=>by
  cases b with
  |false=>exact⟨F1,ρ,ri.step e1,w1.imp λb' _ k H2 F2 e2=>k H2 F2 (e1.trans e2)⟩
  |true=>exact w1 H1 F1 e1⟩
theorem lB (h:vy ly X a ga):vy ly X (.UnaryOp .Not a pos) (iZ ga):=λc=>PT.weak (Bb (h c)) λσ H Q ⟨F,ρ,ri,w⟩=>⟨F,ρ,ri,(aN.bind.mp w).imp λb hb w1 H1 F1 e1=>w1 H1 F1 e1⟩
def qm (fa fb:af->R D):af->R D:=λρ=>fa ρ>>=λd=>match d with
 | .bl true=>fb ρ
 | .bl false=> .ok (.bl false)
 |_=> .bad
def E4 (fa fb:af->R D):af->R D:=λρ=>fa ρ>>=λd=>match d with
 | .bl true=> .ok (.bl true)
 | .bl false=>fb ρ
 |_=> .bad
def yU (fa:af->R D):af->R D:=λρ=>fa ρ>>=λd=>match d with
 | .bl b=> .ok (.bl (!b))
 |_=> .bad
theorem vU {op:RY} (h:PQ ly X a fa):PQ ly X (.BoolOp op [a] pos) fa:=λc=>Bc (h c)
theorem vV (ha:PQ ly X a fa) (hb:PQ ly X (.BoolOp .And (b::rest) pos) fb):PQ ly X (.BoolOp .And (a::b::rest) pos) (qm fa fb):=λc=>PE.weak (Bd (ha c) (hb c)) λσ H Q ⟨F,ρ,ri,w⟩=>
 ⟨F,ρ,ri,(aN.bind.mp w).imp λd hd w1 v H1 F1 e1 r1=>by
  cases d with
  |bl b=>
   cases r1
   cases b with
   |true=>exact⟨true,rfl,F1,ρ,ri.step e1,w1.imp λb' _ k v H2 F2 e2 r2=>k v H2 F2 (e1.trans e2) r2⟩
   |false=>exact⟨false,rfl,w1 _ H1 F1 e1 (.bl false)⟩
  |_=>exact w1.elim⟩
theorem JE (ha:PQ ly X a fa) (hb:PQ ly X (.BoolOp .Or (b::rest) pos) fb):PQ ly X (.BoolOp .Or (a::b::rest) pos) (E4 fa fb):=λc=>PE.weak (Hs (ha c) (hb c)) λσ H Q ⟨F,ρ,ri,w⟩=>
 ⟨F,ρ,ri,(aN.bind.mp w).imp λd hd w1 v H1 F1 e1 r1=>by
  cases d with
  |bl b=>
   cases r1
   cases b with
   |false=>exact⟨false,rfl,F1,ρ,ri.step e1,w1.imp λb' _ k v H2 F2 e2 r2=>k v H2 F2 (e1.trans e2) r2⟩
   |true=>exact⟨true,rfl,w1 _ H1 F1 e1 (.bl true)⟩
  |_=>exact w1.elim⟩
theorem F7 (ha:PQ ly X a fa):PQ ly X (.UnaryOp .Not a pos) (yU fa):=λc=>PE.weak (FA (ha c)) λσ H Q ⟨F,ρ,ri,w⟩=>⟨F,ρ,ri,(aN.bind.mp w).imp λd hd w1 v H1 F1 e1 r1=>by
  cases d with
  |bl b=>cases r1;exact⟨b,rfl,w1 _ H1 F1 e1 (.bl _)⟩
  |_=>exact w1.elim⟩
def Kf (gc:af->R Bool) (fa fb:af->R D):af->R D:=λρ=>gc ρ>>=λb=>if b=true then fa ρ else fb ρ
def BU:D->Option Bool
 | .non=>some false
 | .bl b=>some b
 | .int i=>some (i != 0)
 | .lst ds=>some (!ds.isEmpty)
 | .tup ds=>some (!ds.isEmpty)
 | .dic ds=>some (!ds.isEmpty)
 |_=>none
def eL (f:af->R D):af->R Bool:=λρ=>f ρ>>=λd=>R.of (BU d)
theorem Reps.isEmpty {K:Ku} {F:Hp}:∀{vs:List V} {ds:List D},Reps K F vs ds->vs.isEmpty=ds.isEmpty
 |_,_, .nil=>rfl
 |_,_, .cons _ _=>rfl
theorem RepK.isEmpty {K:Ku} {F:Hp}:∀{vs:List (cH×V)} {ds:List (cH×D)},RepK K F vs ds->vs.isEmpty=ds.isEmpty
 |_,_, .nil=>rfl
 |_,_, .cons _ _=>rfl
theorem eP (h:PB ly X e f) (he:∀TR,Q5 e X.env TR=(do let v<-TR;M_ e.pos;Mx [v] (Ru v)):=by intro _;rfl):vy ly X e (eL f):=λc=>PT.weak (Bo (h c) he) λσ H Q ⟨F,ρ,ri,w⟩=>
 ⟨F,ρ,ri,(aN.bind.mp w).imp λd hd w1 v H1 F1 e1 r1=>by
  obtain⟨b,hb,k⟩:=w1.of
  refine⟨b,?_,k H1 F1 e1⟩
  cases d with
  |non=>cases r1.non;cases hb;rfl
  |bl=>cases r1.bl;cases hb;rfl
  |int=>cases r1.int;cases hb;rfl
  |lst ds=>obtain⟨a,vs,rfl,h1,h2⟩:=r1.lst e1.sub;cases hb;exact .inl ⟨vs,dA.of h1,by rw[h2.isEmpty]⟩
  |tup ds=>obtain⟨a,vs,rfl,h1,h2⟩:=r1.tup e1.sub;cases hb;exact .inr (.inl ⟨vs,iT.of h1,by rw[h2.isEmpty]⟩)
  |dic ds=>obtain⟨a,vs,rfl,h1,h2,h3⟩:=r1.dic e1.sub;cases hb;exact .inr (.inr ⟨vs,h1,by rw[h2.isEmpty]⟩)
  |_=>cases hb⟩
end
end L2.Pu
namespace L2.Pu
open PySem PySem.Spec PyProof.Rows
variable {ly:List fz}
inductive br where
 |nx (ρ:af)|ret (d:D)|brk (ρ:af)|cnt (ρ:af)|retc (d:D) (ρ:af)
def i6 (K:Ku) (c:dW ly) (F:Hp) (D:o7):br->Prop
 | .nx ρ=>∀σ' H' F',bd F F'->RI K c ρ σ' H' F'->D.nx σ' H'
 | .brk ρ=>∀σ' H' F',bd F F'->RI K c ρ σ' H' F'->D.bk σ' H'
 | .cnt ρ=>∀σ' H' F',bd F F'->RI K c ρ σ' H' F'->D.ct σ' H'
 | .ret d=>∀v H' F',bd F F'->c8 c.H0 c.F0 H' F'->dU K F' v d->D.rt v H'
 | .retc d ρ=>∀v σ' H' F',bd F F'->RI K c ρ σ' H' F'->dU K F' v d->D.rt v H'
theorem i6.mono {K:Ku} {c:dW ly} {F F1:Hp} {D:o7} (g:bd F F1):∀{o:br},i6 K c F D o->i6 K c F1 D o
 | .nx ρ,h=>λσ' H' F' s r=>h σ' H' F' (g.trans s) r
 | .brk ρ,h=>λσ' H' F' s r=>h σ' H' F' (g.trans s) r
 | .cnt ρ,h=>λσ' H' F' s r=>h σ' H' F' (g.trans s) r
 | .ret d,h=>λv H' F' s e r=>h v H' F' (g.trans s) e r
 | .retc d ρ,h=>λv σ' H' F' s e r=>h v σ' H' F' (g.trans s) e r
def tS (K:Ku) (c:dW ly) (g:af->R br):TS:=λD σ H=>∃F ρ,RI K c ρ σ H F/\aN c (g ρ) (i6 K c F D)
def mP (ly:List fz) (X:Cx) (st:L9) (g:af->R br):Prop:=∀c:iX ly X,PS X st (tS X.K c.1 g)
def jE (ly:List fz) (X:Cx) (st:List L9) (g:af->R br):Prop:=∀c:iX ly X,rA X st (tS X.K c.1 g)
section
variable {X:Cx} {st:L9} {rest:List L9} {a b e:KI} {es:List KI} {fa fb f:af->R D} {fs:af->R (List D)} {ga gb g g':af->R br} {gt:af->R Bool} {pos:Ls}
def aF:af->R br:=λρ=> .ok (.nx ρ)
def aw (g g':af->R br):af->R br:=λρ=>g ρ>>=λo=>match o with
 | .nx ρ'=>g' ρ'
 |o=> .ok o
theorem aG:jE ly X [] aF:=λc=>rA.weak Dt λD σ H ⟨F,ρ,ri,w⟩=>w σ H F (bd.refl _) ri
theorem ae (h:mP ly X st g) (hr:jE ly X rest g'):jE ly X (st::rest) (aw g g'):=λc=>rA.weak (vD (h c) (hr c)) λD σ H ⟨F,ρ,ri,w⟩=>by
 refine⟨F,ρ,ri,(aN.bind.mp w).imp λo ho w1=> ?_⟩
 cases o with
 |nx ρ'=>exact λσ' H' F' s r=>⟨F',ρ',r,w1.imp λo' _ k=>k.mono s⟩
 |ret d=>exact w1
 |brk ρ'=>exact w1
 |cnt ρ'=>exact w1
 |retc d ρ'=>exact w1
theorem al (h:mP ly X st g):jE ly X [st] g:=λc=>rA.weak (yw (h c)) λD σ H w=>w
def pK (L:List Nat) (g:af->R br):af->R br:=λρ=>g (frz L ρ)
theorem vW (L:List Nat) (h:mP ly X st g):mP ly X st (pK L g):=λc=>PS.weak (h c) λD σ H ⟨F,ρ,ri,w⟩=>by
 obtain⟨F',s,Tt⟩:=ri.frz L
 exact⟨F',_,Tt,w.imp λo _ k=>k.mono s⟩
def bt (f:af->R D):af->R br:=λρ=>f ρ>>=λd=> .ok (.ret d)
theorem b8 (h:PQ ly X e f):mP ly X (.Return (some e) pos) (bt f):=λc=>PS.weak (rB (h c)) λD σ H ⟨F,ρ,ri,w⟩=>
 ⟨F,ρ,ri,(aN.bind.mp w).imp λd _ w1 v H' F' e r=>w1 v H' F' e.grow (ri.ext.trans e) r⟩
def cr (gc:af->R Bool) (g g':af->R br):af->R br:=λρ=>gc ρ>>=λb=>if b=true then g ρ else g' ρ
theorem bw {ta tb:List L9} (hc:vy ly X e gt) (ha:jE ly X ta g) (hb:jE ly X tb g'):mP ly X (.If e ta tb pos) (cr gt g g'):=λc=>PS.weak (EK (hc c) (ha c) (hb c)) λD σ H ⟨F,ρ,ri,w⟩=>
 ⟨F,ρ,ri,(aN.bind.mp w).imp λb hb w1 H1 F1 e1=>by
  cases b with
  |true=>exact⟨F1,ρ,ri.step e1,w1.imp λo _ k=>k.mono e1.grow⟩
  |false=>exact⟨F1,ρ,ri.step e1,w1.imp λo _ k=>k.mono e1.grow⟩⟩
def tG (K:Ku) (c:dW ly) (gt:D->af->R af):TG:=λv σ H Q=>∃F ρ d,RI K c ρ σ H F/\dU K F v d/\aN c (gt d ρ) λρ'=>∀σ' H' F',bd F F'->RI K c ρ' σ' H' F'->Q σ' H'
def E5 (ly:List fz) (X:Cx) (tg:KI) (gt:D->af->R af):Prop:=∀c:iX ly X,PG X tg (tG X.K c.1 gt)
def gN (i:Nat):D->af->R af:=λd ρ=> .ok (ρ.set i (some (.val d)))
theorem b6 (i:Nat) {x:Kw} (hN:X.N.Nodup) (hi:X.N[i]? =some x:=by rfl) (hx:zO X.env.scope x:=by first|exact Lx rfl|exact Lj rfl) (hf:X.fn x=true\/X.env.scope.names.lookup x=some .local:=by first|exact .inl rfl|exact .inr rfl|assumption) (Uh:lh ly i:=by(repeat (first|assumption|exact L2.Pu.fK|refine L2.Pu.eo ⟨by first|decide|simp,by first|decide|simp⟩ ?_))):E5 ly X (.Name x pos) (gN i):=
 λc=>PG.weak (yx hN hi hx hf) λv σ H Q ⟨F,ρ,d,ri,r,w⟩=>w _ H F (bd.refl _) (ri.setVal i Uh r)
def JT (K:Ku) (c:dW ly) (gt:List D->af->R af):Be:=λvs σ H Q=>∃F ρ ds,RI K c ρ σ H F/\Reps K F vs ds/\aN c (gt ds ρ) λρ'=>∀σ' H' F',bd F F'->RI K c ρ' σ' H' F'->Q σ' H'
def BV (ly:List fz) (X:Cx) (tg:List KI) (gt:List D->af->R af):Prop:=∀c:iX ly X,Bf X tg (JT X.K c.1 gt)
theorem Bf.weak {X:Cx} {e:List KI} {t t':Be} (h:Bf X e t) (w:∀v σ H Q,t' v σ H Q->t v σ H Q):Bf X e t':=λS4 s σ H v u Q I r q=>h S4 s σ H v u Q I r (w v σ H Q q)
def rY:List D->af->R af:=λds ρ=>match ds with
 |[]=> .ok ρ
 |_=> .bad
def eQ (g:D->af->R af) (gs:List D->af->R af):List D->af->R af:=λds ρ=>match ds with
 |[]=> .bad
 |d::r=>g d ρ>>=λρ'=>gs r ρ'
theorem uJ:BV ly X [] rY:=λc=>Bf.weak Du λvs σ H Q ⟨F,ρ,ds,ri,r,w⟩=>by
 cases r with
 |nil=>exact⟨rfl,w σ H F (bd.refl _) ri⟩
 |cons _ _=>exact w.elim
theorem f7 {g:D->af->R af} {gs:List D->af->R af} (h:E5 ly X e g) (hr:BV ly X es gs) (hs:(LL (e::es) X.env).map (·.2)=Nq e X.env::(LL es X.env).map (·.2):=by rfl):BV ly X (e::es) (eQ g gs):=
 λc=>Bf.weak (Bg (h c) (hr c) hs) λvs σ H Q ⟨F,ρ,ds,ri,r,w⟩=>by
 cases r with
 |nil=>exact w.elim
 | @cons v d vs ds r t=>
  refine⟨v,vs,rfl,F,ρ,d,ri,r,(aN.bind.mp w).imp λρ' _ w1 σ' H' F' s Tt=>⟨F',ρ',ds,Tt,t.mono s,w1.imp λρ2 _ k σ2 H2 F2 s2 r2=>k σ2 H2 F2 (s.trans s2) r2⟩⟩
def tW (n:Nat) (gs:List D->af->R af):D->af->R af:=λd ρ=>match d with
 | .tup ds=>if ds.length=n then gs ds ρ else .bad
 | .lst ds=>if ds.length=n then gs ds ρ else .bad
 |_=> .bad
theorem PG.or {X:Cx} {e:KI} {t t':TG} (h:PG X e t) (h':PG X e t'):PG X e (λv σ H Q=>t v σ H Q\/t' v σ H Q):=λS4 s σ H v u Q I r q=>q.elim (λq=>h S4 s σ H v u Q I r q) λq=>h' S4 s σ H v u Q I r q
theorem BW {k n:Nat} {gs:List D->af->R af} (hc:X.calm=true) (h:BV ly X es gs) (hn:(LL es X.env).length=n:=by rfl) (V2:(LL es X.env).findIdx? (·.1)=none:=by rfl):E5 ly X (.Tuple es k pos) (tW n gs):=
 λc=>PG.weak (PG.or (Bh hc (h c) hn V2) (BH hc (h c) hn V2)) λv σ H Q ⟨F,ρ,d,ri,r,w⟩=>by
 cases r with
 | @tup a vs ds h1 h2=>
  change aN c.1 (if ds.length=n then gs ds ρ else .bad) _ at w
  split at w
  ·rename_i hl
   exact .inl ⟨a,vs,rfl,iT.of (ri.sub _ _ h1),by rw[h2.length];exact hl,F,ρ,ds,ri,h2,w⟩
  ·exact w.elim
 | @lst a vs ds h1 h2=>
  change aN c.1 (if ds.length=n then gs ds ρ else .bad) _ at w
  split at w
  ·rename_i hl
   exact .inr ⟨a,vs,rfl,dA.of (ri.sub _ _ h1),by rw[h2.length];exact hl,F,ρ,ds,ri,h2,w⟩
  ·exact w.elim
 |_=>exact w.elim
def aU (f:af->R D) (g:D->af->R af):af->R br:=λρ=>f ρ>>=λd=>g d ρ>>=λρ'=> .ok (.nx ρ')
theorem Gc {c:dW ly} {g:D->af->R af} {K:Ku} {D':o7} {σ:St} {H:Hp} (h:tS K c (aU f g) D' σ H):FE (tQ K c f) (tG K c g) D' σ H:=by
 obtain⟨F,ρ,ri,w⟩:=h
 refine⟨F,ρ,ri,(aN.bind.mp w).imp λd _ w1 v H1 F1 e1 r1=>⟨F1,ρ,d,ri.step e1,r1,(aN.bind.mp w1).imp λρ' _ w2 σ' H' F' s r'=>w2 σ' H' F' (e1.grow.trans s) r'⟩⟩
theorem BX {tg:KI} {g:D->af->R af} (he:PQ ly X e f) (hg:E5 ly X tg g) (hs:OF [tg] e pos.line X.env=pure false:=by rfl) (hw:OG [tg] e X.env=pure none:=by rfl)
  (h1:(LL [tg] X.env).map (·.2)=[Nq tg X.env]:=by rfl):mP ly X (.Assign [tg] e pos) (aU f g):=λc=>PS.weak (xl (he c) (hg c) hs hw h1) λD σ H h=>Gc h
theorem aV (i:Nat) {x:Kw} {Ss:Ls} (hN:X.N.Nodup) (he:PQ ly X e f) (hi:X.N[i]? =some x:=by rfl) (hx:zO X.env.scope x:=by first|exact Lx rfl|exact Lj rfl) (hs:LI e (some (.Name x Ss)) pos.line X.env=pure false:=by rfl)
  (hf:X.fn x=true\/X.env.scope.names.lookup x=some .local:=by first|exact .inl rfl|exact .inr rfl|assumption) (Uh:lh ly i:=by(repeat (first|assumption|exact L2.Pu.fK|refine L2.Pu.eo ⟨by first|decide|simp,by first|decide|simp⟩ ?_))):mP ly X (.Assign [.Name x Ss] e pos) (aU f (gN i)):=λc=>
 PS.weak (nz hN hi hx (he c) hs hf) λD σ H h=>by
  obtain⟨F,ρ,ri,w⟩:=h
  exact⟨F,ρ,ri,(aN.bind.mp w).imp λd _ w1 v H1 F1 e1 r1=>w1 _ H1 F1 e1.grow ((ri.step e1).setVal i Uh r1)⟩
def Kg (i j:Nat) (fs:af->R (List D)):af->R br:=λρ=>fs ρ>>=λds=>match ds with
 |[x,y]=> .ok (.nx ((ρ.set i (some (.val x))).set j (some (.val y))))
 |_=> .bad
def n5 (i:Nat) (fs:af->R (List D)):af->R br:=λρ=>fs ρ>>=λds=>if ds.length<=lim then .ok (.nx (ρ.set i (some (.own (.lst ds)))))else .bad
theorem lC (i:Nat) {x:Kw} {Ss pl:Ls} (hN:X.N.Nodup) (h:vz ly X es fs) (hi:X.N[i]? =some x:=by rfl) (hx:zO X.env.scope x:=by first|exact Lx rfl|exact Lj rfl) (hs:LI (.List es pl) (some (.Name x Ss)) pos.line X.env=pure false:=by rfl)
  (hf:X.fn x=true\/X.env.scope.names.lookup x=some .local:=by first|exact .inl rfl|exact .inr rfl|assumption) (Uh:lh ly i:=by(repeat (first|assumption|exact L2.Pu.fK|refine L2.Pu.eo ⟨by first|decide|simp,by first|decide|simp⟩ ?_))):mP ly X (.Assign [.Name x Ss] (.List es pl) pos) (n5 i fs):=λc=>
 PS.weak (nz hN hi hx (rG (h c)) hs hf) λD σ H ⟨F,ρ,ri,w⟩=>⟨F,ρ,ri,(aN.bind.mp w).imp λds _ w1 vs H1 F1 e1 r1=>by
  split at w1
  ·rename_i hl
   refine⟨Lq (by rw[r1.length];exact hl) gz,λp hp=> ?_⟩
   exact w1 _ _ F1 e1.grow ((ri.step e1).setNew i Uh hp (.lst r1))
  ·exact w1.elim⟩
structure Ai (K:Ku) (F:Hp) (J:It) (ds:List D):Prop where
 go:∀i H,bd F H->i<ds.length->J.go i H
 stop:∀H,bd F H->J.stop ds.length H
 yld:∀i H F1 x H',bd F F1->bd F1 H->J.yld i H x H'->i<ds.length->∃F' d,ds[i]? =some d/\c8 H F1 H' F'/\dU K F' x d
def tI (K:Ku) (c:dW ly) (fi:af->R (List D)):TI:=λσ H Rk=>∃F ρ,RI K c ρ σ H F/\aN c (fi ρ) λds=>∀J H' F',c8 H F H' F'->Ai K F' J ds->Rk J H'
def Gd (ly:List fz) (X:Cx) (tg Sz:KI) (fi:af->R (List D)):Prop:=∀c:iX ly X,PI X tg Sz (tI X.K c.1 fi)
theorem PI.weak {X:Cx} {tg e:KI} {t t':TI} (h:PI X tg e t) (w:∀σ H Rk,t' σ H Rk->t σ H Rk):PI X tg e t':=λS4 s σ H Rk I q=>h S4 s σ H Rk I (w σ H Rk q)
def eK (g:D->af->R af) (gb:af->R br):List D->af->R br
 |[],ρ=> .ok (.nx ρ)
 |d::r,ρ=>g d ρ>>=λρ1=>gb ρ1>>=λo=>match o with
  | .nx ρ2=>eK g gb r ρ2
  | .cnt ρ2=>eK g gb r ρ2
  | .brk ρ2=> .ok (.nx ρ2)
  | .ret d=> .ok (.ret d)
  | .retc d ρ2=> .ok (.retc d ρ2)
def li (fi:af->R (List D)) (g:D->af->R af) (gb:af->R br):af->R br:=λρ=>fi ρ>>=λds=>eK g gb ds ρ
theorem xN {g:D->af->R af} {gb:af->R br} {ds:List D} {i:Nat} {d:D} {ρ:af} (h:ds[i]? =some d):eK g gb (ds.drop i) ρ=(g d ρ>>=λρ1=>gb ρ1>>=λo=>match o with
  | .nx ρ2=>eK g gb (ds.drop (i+1)) ρ2
  | .cnt ρ2=>eK g gb (ds.drop (i+1)) ρ2
  | .brk ρ2=> .ok (.nx ρ2)
  | .ret d=> .ok (.ret d)
  | .retc d ρ2=> .ok (.retc d ρ2)):=by
 obtain⟨hl,e⟩:=L3.mp h
 rw[NG hl,e]
 rfl
theorem Ge {K:Ku} {c:dW ly} {fi:af->R (List D)} {g:D->af->R af} {D':o7} {σ:St} {H:Hp} (h:tS K c (li fi g gb) D' σ H):HC (tI K c fi) (tG K c g) (tS K c gb) D' σ H:=by
 obtain⟨F,ρ,ri,w⟩:=h
 refine⟨F,ρ,ri,(aN.bind.mp w).imp λds _ w1 J H1 F1 e1 jo=> ?_⟩
 refine⟨λi m σ H=>∃F2 ρ2,RI K c ρ2 σ H F2/\bd F1 F2/\m=ds.length - i/\i<=ds.length/\aN c (eK g gb (ds.drop i) ρ2) (i6 K c F2 D'),⟨_,F1,ρ,ri.step e1,bd.refl _,rfl,Ml _,w1.imp λo _ k=>k.mono e1.grow⟩,?_⟩
 rintro i m σ2 H2 ⟨F2,ρ2,WW,s2,rfl,hi,w2⟩
 by_cases hl:i<ds.length
 ·refine .inr ⟨jo.go i H2 (s2.trans WW.sub) hl,λσ' H'=>∃F3 ρ3,RI K c ρ3 σ' H' F3/\bd F2 F3/\aN c (eK g gb (ds.drop (i+1)) ρ3) (i6 K c F3 D'),?_,λx H3 y=> ?_⟩
  ·rintro σ' H' ⟨F3,ρ3,WI,s3,w3⟩
   exact⟨ds.length - (i+1),by omega,F3,ρ3,WI,s2.trans s3,rfl,hl,w3⟩
  ·obtain⟨F3,d,hd,e3,r3⟩:=jo.yld i H2 F2 x H3 s2 WW.sub y hl
   rw[xN hd]at w2
   refine⟨F3,ρ2,d,WW.step e3,r3,(aN.bind.mp w2).imp λρ3 _ w3 σ4 H4 F4 s4 r4=>⟨F4,ρ3,r4,(aN.bind.mp w3).imp λo _ w4=> ?_⟩⟩
   have Y1:bd F2 F4:=e3.grow.trans s4
   cases o with
   |nx ρ5=>exact λσ' H' F' s' r'=>⟨F',ρ5,r',Y1.trans s',w4.imp λo _ k=>k.mono (Y1.trans s')⟩
   |cnt ρ5=>exact λσ' H' F' s' r'=>⟨F',ρ5,r',Y1.trans s',w4.imp λo _ k=>k.mono (Y1.trans s')⟩
   |brk ρ5=>exact λσ' H' F' s' r'=>w4 σ' H' F' (Y1.trans s') r'
   |ret d=>exact λv H' F' s' e' r'=>w4 v H' F' (Y1.trans s') e' r'
   |retc d ρ5=>exact λv σ' H' F' s' e' r'=>w4 v σ' H' F' (Y1.trans s') e' r'
 ·have e:i=ds.length:=by omega
  subst e
  rw[Rm]at w2
  exact .inl ⟨jo.stop H2 (s2.trans WW.sub),w2 σ2 H2 F2 (bd.refl _) WW⟩
theorem n6 {tg Sz:KI} {body:List L9} {fi:af->R (List D)} {g:D->af->R af} (hp:PassesOwn (KS X.prog X.w) X.A X.env X.xe) (hc:X.calm=true) (hi:Gd ly X tg Sz fi) (hg:E5 ly X tg g) (hb:jE ly X body gb)
  (hs:∀x,Mz Sz X.env x=pure x:=by intro _;rfl):mP ly X (.For tg Sz body [] pos) (li fi g gb):=λc=>PS.weak (FG hp hc (hi c) (hg c) (hb c) hs) λD σ H h=>Ge h
theorem Aj {K:Ku} {F:Hp} {a:Kx} {vs:List V} {ds:List D} (h:F a=some (.lst vs)) (r:Reps K F vs ds):Ai K F (IU K a) ds where
 go:=λi H s hi=>⟨vs,vs[i]'(by rw[r.length];exact hi),dA.of (s _ _ h),by simp[r.length,hi]⟩
 stop:=λH s=>⟨vs,dA.of (s _ _ h),P6 r.length⟩
 yld:=λi H F1 x H' s1 s2 y hi=>by
  obtain⟨rfl,y⟩:=y
  have:=y vs (dA.of (s2 _ _ (s1 _ _ h)))
  obtain⟨d,hd,rd⟩:=r.get' this
  exact⟨F1,d,hd,c8.refl s2,rd.mono s1⟩
theorem BY {K:Ku} {F:Hp} {a:Kx} {vs:List V} {ds:List D} (h:F a=some (.tup vs)) (r:Reps K F vs ds):Ai K F (Jj K a) ds where
 go:=λi H s hi=>⟨vs,vs[i]'(by rw[r.length];exact hi),iT.of (s _ _ h),by simp[r.length,hi]⟩
 stop:=λH s=>⟨vs,iT.of (s _ _ h),P6 r.length⟩
 yld:=λi H F1 x H' s1 s2 y hi=>by
  obtain⟨rfl,y⟩:=y
  have:=y vs (iT.of (s2 _ _ (s1 _ _ h)))
  obtain⟨d,hd,rd⟩:=r.get' this
  exact⟨F1,d,hd,c8.refl s2,rd.mono s1⟩
def cw (f:af->R D):af->R (List D):=λρ=>f ρ>>=λd=>match d with
 | .lst ds=> .ok ds
 | .tup ds=> .ok ds
 | .scr ns=> .ok (ns.map .int)
 |_=> .bad
theorem BZ {K:Ku} {F:Hp} {a:Kx} {ns:List Int} (h:dA K F a (ns.map V.int)):Ai K F (IU K a) (ns.map .int)where
 go:=λi H s hi=>⟨ns.map V.int,(ns.map V.int)[i]'(by simpa using hi),s.seq h,by simp at hi;simp[hi]⟩
 stop:=λH s=>⟨ns.map V.int,s.seq h,by simp⟩
 yld:=λi H F1 x H' s1 s2 y hi=>by
  obtain⟨rfl,y⟩:=y
  have:=y (ns.map V.int) ((s1.trans s2).seq h)
  rw[L8]at this
  cases e:ns[i]? with
  |none=>rw[e]at this;cases this
  |some n=>rw[e]at this;cases this;exact⟨F1, .int n,by rw[L8,e];rfl,c8.refl s2, .int n⟩
theorem cS {tg:KI} (h:PQ ly X e f):Gd ly X tg e (cw f):=by
 intro c S4 s σ H Rk I q
 obtain⟨F,ρ,ri,w⟩:=q
 have w':=aN.bind.mp w
 cases hf:f ρ with
 |bad=>rw[hf]at w';exact w'.elim
 |err er ρe=>
  rw[hf]at w'
  exact uw (h c) S4 s σ H Rk I ⟨F,ρ,ri,by rw[hf];exact w'⟩
 |ok d=>
  rw[hf]at w'
  cases d with
  |lst ds=>exact uw (h c) S4 s σ H Rk I ⟨F,ρ,ri,by
    rw[hf]
    intro v H1 F1 e1 r1
    cases r1 with
    |lst h1 h2=>exact⟨_,rfl,⟨_,dA.of (e1.sub _ _ h1)⟩,w' _ H1 F1 e1 (Aj h1 h2)⟩⟩
  |tup ds=>exact FF (h c) S4 s σ H Rk I ⟨F,ρ,ri,by
    rw[hf]
    intro v H1 F1 e1 r1
    cases r1 with
    |tup h1 h2=>exact⟨_,rfl,⟨_,iT.of (e1.sub _ _ h1)⟩,w' _ H1 F1 e1 (BY h1 h2)⟩⟩
  |scr ns=>exact uw (h c) S4 s σ H Rk I ⟨F,ρ,ri,by
    rw[hf]
    intro v H1 F1 e1 r1
    cases r1 with
    |scr h1=>exact⟨_,rfl,⟨_,e1.sub.seq h1⟩,w' _ H1 F1 e1 (BZ h1)⟩⟩
  |_=>exact w'.elim
def i_ (lo hi:Int):List D:=(LA (hi - lo).toNat).map λk:Nat=>D.int (lo+(k:Int))
theorem rZ {K:Ku} {F:Hp} {lo hi:Int}:Ai K F (Hx lo (hi - lo).toNat) (i_ lo hi)where
 go:=λi H s h=>by
  rw[i_,KA,NY]at h
  exact h
 stop:=λH s=>by show (hi - lo).toNat<=_;rw[i_,KA,NY];exact L7 _
 yld:=λi H F1 x H' s1 s2 y h=>by
  obtain⟨rfl,rfl⟩:=y
  have h':i<(hi - lo).toNat:=by rw[i_,KA,NY]at h;exact h
  exact⟨F1, .int (lo+i),by rw[i_,L8,List.getElem?_range h'];rfl,c8.refl s2, .int _⟩
def dI (f:af->R (List D)):af->R (List D):=λρ=>f ρ>>=λds=>match ds with
 |[.int j]=>if j.natAbs<=lim then .ok (i_ 0 j)else .bad
 |_=> .bad
def r9 (f:af->R (List D)):af->R (List D):=λρ=>f ρ>>=λds=>match ds with
 |[.int i, .int j]=>if i.natAbs<=lim/\j.natAbs<=lim then .ok (i_ i j)else .bad
 |_=> .bad
theorem hX {j:Int} (h:j.natAbs<=lim): -(2 ^62)<=j/\j<2 ^62:=by
 unfold lim at h
 omega
theorem i7 {tg:KI} {p:Ls} (hm:X.mg "range"=none) (ha:vz ly X [a] fs) (hg:Gl X "range":=by rfl) (hs:KC [a] X.env=[(false,L5 a X.env)]:=by rfl):Gd ly X tg (.Call (.Name "range" p) [a] [] pos) (dI fs):=λc=>
 PI.weak (zS hg hm (ha c) hs) λσ H Rk ⟨F,ρ,ri,w⟩=>⟨F,ρ,ri,(aN.bind.mp w).imp λds _ w1 vs H1 F1 e1 r1=>by
  split at w1
  ·split at w1
   ·rename_i j _ hj
    cases r1.int1
    exact⟨j,rfl,(hX hj).1,(hX hj).2,w1 _ H1 F1 e1 (by simpa using rZ (K:=X.K) (F:=F1) (lo:=0) (hi:=j))⟩
   ·exact w1.elim
  ·exact w1.elim⟩
theorem B_ {tg:KI} {p:Ls} (hm:X.mg "range"=none) (ha:vz ly X [a,b] fs) (hg:Gl X "range":=by rfl) (hs:KC [a,b] X.env=[(false,L5 a X.env),(false,L5 b X.env)]:=by rfl) (VU:KC [b] X.env=[(false,L5 b X.env)]:=by rfl):Gd ly X tg (.Call (.Name "range" p) [a,b] [] pos) (r9 fs):=λc=>
 PI.weak (zT hg hm (ha c) hs VU) λσ H Rk ⟨F,ρ,ri,w⟩=>⟨F,ρ,ri,(aN.bind.mp w).imp λds _ w1 vs H1 F1 e1 r1=>by
  split at w1
  ·split at w1
   ·rename_i i j _ hj
    cases r1.int2
    exact⟨i,j,rfl,⟨(hX hj.1).1,(hX hj.1).2,(hX hj.2).1,(hX hj.2).2⟩,w1 _ H1 F1 e1 rZ⟩
   ·exact w1.elim
  ·exact w1.elim⟩
end
def cY (n:Nat) (ds:List D):af:=ds.map (λd=>some (.val d))++Lf (n - ds.length) none
def bi (k n:Nat) (g:af->R br) (ds:List D):R D:=if ds.length=k then g (cY n ds)>>=λo=>match o with
 | .ret d=> .ok d
 | .nx _=> .ok .non
 |_=> .bad else .bad
theorem vX {K:Ku} {N:List Kw} {H F:Hp} {vs:List V} {ds:List D} {Er:Kw->af->Prop} (s:bd F H) (r:Reps K F vs ds):RI K (⟨H,F,λ_=>none,Er,λ_=>none,λ_=>none⟩:dW []) (cY N.length ds) (dC N vs) H F:=by
 have hv:∀(i:Nat) sl,(cY N.length ds)[i]? =some (some sl)->∃d,ds[i]? =some d/\sl= .val d:=λi sl h=>by
  unfold cY at h
  rw[Np]at h
  split at h
  ·rw[L8]at h
   cases e:ds[i]? with
   |none=>rw[e]at h;cases h
   |some d=>rw[e]at h;simp at h;exact⟨d,rfl,h.symm⟩
  ·rw[Mh]at h
   split at h<;>simp at h
 refine⟨c8.refl s,λi d h=> ?_,λi d h=> ?_,λi d h=> ?_,(λb o e=>by cases e),λi j d d' a h=> ?_,?_,(λL h=>by cases h),(λL h=>by cases h),(λ_ _ e=>by cases e), .no λi x Sf f hs h=>(by obtain⟨d,_,z⟩:=hv i _ h;cases z),λL h=>by cases h⟩
 ·obtain⟨d',e,z⟩:=hv i _ h
  cases z
  obtain⟨v,h1,h2⟩:=r.get e
  refine⟨v,?_,h2⟩
  unfold dC
  have hl:i<vs.length:=(L3.mp h1).1
  rw[Mq (by simpa using hl),L8,h1]
  rfl
 ·obtain⟨d',_,z⟩:=hv i _ h;cases z
 ·obtain⟨d',_,z⟩:=hv i _ h;cases z
 ·obtain⟨d',_,z⟩:=hv i _ h;cases z
 ·simp[cY,dC,r.length]
theorem Ie {P:KW} {w:La} {K:Ku} {mg:Kw->Option Kv} {base:L4} {x qual:Kw} {st:L9} {f:Kx} {fd:M0} {N ps:List Kw} {k:Nat} {sp:Sp} (F:yK K x qual st f fd) (S:aB N ps (ak st)) (len:∀vs H Q E,sp vs H Q E->vs.length=ps.length)
  (Sw:∀(Sb:Kv) (A:Lg) (outer:List Mm) (s:Ky) (H:Hp) (vs:List V) (Q:VK) (E:XK),cW k (A.deeper (Mp qual (ak st) s.heap.objs.size f Sb))->sp vs H Q E->
   ∃t,rA (iU (lg P w) P w K mg base N qual (ak st) f Sb A outer s H E) (bK st) t/\t {nx:=λ_ H'=>Q .non H',rt:=Q} (dC N vs) H):fJ P w K mg base (lg P w) (k+1) f fd ps sp:=by
 obtain⟨oc,od,kV,Ts,pm,an,Sb,ct,Vm,rfl,lk,Tu⟩:=F.ex
 exact ET lk Tu S len λA outer s H vs Q E hr Xi=>Sw Sb A outer s H vs Q E hr Xi
theorem r_ {P:KW} {w:La} {K:Ku} {mg:Kw->Option Kv} {base:L4} {N:List Kw} {qual:Kw} {scope:MB} {f:Kx} {cd:Kv} {A:Lg} {outer:List Mm} {s0:Ky} {H0:Hp} {E:XK} {c:dW ly}
  (h:∀x ρ,c.Er x ρ->∀cls a H' F' σ,eO K x cls->RI K c ρ σ H' F'->E cls a H'):G8 (iU (lg P w) P w K mg base N qual scope f cd A outer s0 H0 E) c:=
 .inl ⟨rW,λS4 σ ρ H F s a cls x I ri fl ec er=>xL I fl (h x ρ er cls (some a) H F σ ec ri)⟩
theorem Gf {P:KW} {w:La} {K:Ku} {mg:Kw->Option Kv} {base:L4} {x qual:Kw} {st:L9} {f:Kx} {fd:M0} {N ps:List Kw} {k n m:Nat} {g:af->R br} (F:yK K x qual st f fd) (S:aB N ps (ak st)) (hn:ps.length=n) (hm:N.length=m)
  (Sw:∀(Sb:Kv) (A:Lg) (outer:List Mm) (s:Ky) (H:Hp) (E:XK),cW k (A.deeper (Mp qual (ak st) s.heap.objs.size f Sb))->
   jE [] (iU (lg P w) P w K mg base N qual (ak st) f Sb A outer s H E) (bK st) g):fJ P w K mg base (lg P w) (k+1) f fd ps (Ah K n (bi n m g)):=by
 refine Ie F S (λvs H Q E h=>by rw[hn];exact h.1) (λSb A outer s H vs Q E hr h=> ?_)
 obtain⟨hl,Fz,ds,sub,r,w⟩:=h
 refine⟨_,Sw Sb A outer s H E hr ⟨⟨H,Fz,λ_=>none,λx _=>∀cls a H' F',eO K x cls->c8 H Fz H' F'->E cls a H',λ_=>none,λ_=>none⟩,r_ λx ρ er cls a H' F' σ ec ri=>er cls a H' F' ec ri.ext⟩,?_⟩
 refine⟨Fz,cY m ds,by rw[<-hm];exact vX sub r,?_⟩
 have hd:ds.length=n:=by rw[<-r.length];exact hl
 unfold bi at w
 rw[if_pos hd]at w
 cases e:g (cY m ds)with
 |bad=>rw[e]at w;exact w.elim
 |err c ρ=>rw[e]at w;exact w
 |ok o=>
  rw[e]at w
  cases o with
  |ret d=>exact λv H' F' _ e' r'=>w v H' F' e' r'
  |nx ρ=>exact λσ' H' F' _ r'=>w .non H' F' r'.ext .non
  |retc d ρ=>exact w.elim
  |brk ρ=>exact w.elim
  |cnt ρ=>exact w.elim
end L2.Pu
namespace L2.Pu
open PySem PySem.Spec PyProof.Rows
variable {ly:List fz}
def Slot.toBor:Slot->Slot
 | .val d=> .val d
 | .own d=> .bor d
 | .bor d=> .bor d
 | .obj=> .obj
 | .cel .. => .obj
def j0 (N:List Kw) (names:List (Kw×LC)) (ρ:af):af:=
 names.map λx=>if x.2= .free then ((N.findIdx? (·==x.1)).bind λi=>(ρ[i]?).join.map Slot.toBor)else none
theorem Ig {K:Ku} {c:dW ly} {ρ:af} {σ:St} {H F H1 F1:Hp} {N:List Kw} {names:List (Kw×LC)} {p:Kx} {o:HO} (ri:RI K c ρ σ H F) (e:c8 H F H1 F1) (hp:H1 p=none):
  RI K (⟨b_ H1 p o,F1,H1,λ_ _=>False,λ_=>none,λ_=>none⟩:dW []) (j0 N names ρ) (rO N names σ) (b_ H1 p o) F1:=by
 have r1:=ri.step e
 have Sj:∀(i:Nat) sl,(j0 N names ρ)[i]? =some (some sl)->∃(j:Nat) (Xw:Slot),ρ[j]? =some (some Xw)/\sl=Xw.toBor/\∀v,σ[j]? =some (some v)->(rO N names σ)[i]? =some (some v):=λi sl h=>by
  unfold j0 at h
  rw[L8]at h
  cases en:names[i]? with
  |none=>rw[en]at h;cases h
  |some y=>
   rw[en]at h
   simp only[N5,OU]at h
   by_cases hf:y.2= .free
   ·rw[if_pos hf]at h
    cases ei:N.findIdx? (·==y.1)with
    |none=>rw[ei]at h;cases h
    |some j=>
     rw[ei]at h
     cases e2:ρ[j]? with
     |none=>simp[e2]at h
     |some u=>
      cases u with
      |none=>simp[e2]at h
      |some Xw=>
       simp[e2]at h
       refine⟨j,Xw,e2,h.symm,λv hv=> ?_⟩
       unfold rO
       rw[L8,en]
       simp only[N5,OU]
       rw[if_pos hf,ei]
       show (σ[j]?).join=some v
       rw[hv];rfl
   ·rw[if_neg hf]at h;cases h
 refine⟨c8.refl (r1.sub.trans (cX hp)),λi d h=> ?_,λi d h=> ?_,λi d h=> ?_,cX hp,λi j d d' a h=> ?_,by simp[j0,rO],(λL h=>by cases h),(λL h=>by cases h),(λ_ _ e=>by cases e), .no λi x Sf f hs h=>(by obtain⟨j,sl,h1,h2,h3⟩:=Sj i _ h;cases sl<;>cases h2),λL h=>by cases h⟩
 ·obtain⟨j,sl,h1,h2,h3⟩:=Sj i _ h
  cases sl with
  |val d'=>cases h2;obtain⟨v,k1,k2⟩:=r1.val j d h1;exact⟨v,h3 v k1,k2⟩
  |own d'=>cases h2
  |bor d'=>cases h2
  |obj=>cases h2
  |cel=>cases h2
 ·obtain⟨j,sl,h1,h2,h3⟩:=Sj i _ h;cases sl<;>cases h2
 ·obtain⟨j,sl,h1,h2,h3⟩:=Sj i _ h
  cases sl with
  |val d'=>cases h2
  |own d'=>cases h2;obtain⟨a,o,k1,k2,k3,k4,k5⟩:=r1.own j d h1;exact⟨a,o,h3 _ k1,k2,k5⟩
  |bor d'=>cases h2;obtain⟨a,o,k1,k2,k3⟩:=r1.bor j d h1;exact⟨a,o,h3 _ k1,r1.ext.keep _ _ (r1.bh _ _ k2),k3.mono r1.ext.grow⟩
  |obj=>cases h2
  |cel=>cases h2
 ·obtain⟨k,sl,h1,h2,h3⟩:=Sj i _ h;cases sl<;>cases h2
theorem RI.bump {K:Ku} {ρ:af} {σ:St} {H F H1 F1:Hp} {p:Kx} {o o':HO} {Er:Kw->af->Prop} (r:RI K (⟨b_ H1 p o,F1,H1,Er,λ_=>none,λ_=>none⟩:dW []) ρ σ H F) (hp:H1 p=none) (hF:F p=none):
  RI K (⟨b_ H1 p o',F1,H1,Er,λ_=>none,λ_=>none⟩:dW []) ρ σ (b_ H p o') F:=by
 refine⟨⟨λb u e=> ?_,λb u e=> ?_,r.ext.grow,λb e=> ?_⟩,r.val,λi d h=> ?_,r.bor,cX hp,r.dis,r.len,(λL h=>by cases h),(λL h=>by cases h),(λ_ _ e=>by cases e),⟨λi x Sf f hs h=> ?_,r.cel.one⟩,λL h=>by cases h⟩
 ·rw[az (λz=>by rw[z,hF]at e;cases e)];exact r.sub b u e
 ·change b_ H1 p o' b=some u at e
  by_cases z:b=p
  ·subst z;rw[aE]at e ⊢;exact e
  ·rw[az z]at e ⊢;exact r.ext.keep b u (by show b_ H1 p o b=some u;rw[az z];exact e)
 ·by_cases z:b=p
  ·subst z;exact absurd hF e
  ·rcases r.ext.new b e with q|q
   ·exact .inl q
   ·refine .inr ?_
    change b_ H1 p o b=none at q
    show b_ H1 p o' b=none
    rw[az z]at q ⊢;exact q
 ·obtain⟨a,u,h1,h2,h3,h4,h5⟩:=r.own i d h
  change b_ H1 p o a=none at h4
  have z:a≠p:=λz=>by subst z;rw[aE]at h4;cases h4
  refine⟨a,u,h1,by rw[az z];exact h2,h3,?_,h5⟩
  show b_ H1 p o' a=none
  rw[az z]at h4 ⊢;exact h4
 ·obtain⟨a,dx,b,h1,h2,h3⟩:=r.cel.ex i x Sf f hs h
  obtain⟨C,fs,vs,us,g1,g2,g3,g4,g5⟩:=h2.ex
  have Sj:∀{z:Kx},b_ H1 p o z=none->z≠p/\b_ H1 p o' z=none:=λ{z} e=>by
   have n:z≠p:=λq=>by subst q;rw[aE]at e;cases e
   exact⟨n,by rw[az n]at e ⊢;exact e⟩
  obtain⟨na,ea⟩:=Sj h2.za
  obtain⟨nd,ed⟩:=Sj h2.zd
  obtain⟨nb,eb⟩:=Sj h2.zb
  exact⟨a,dx,b,h1,⟨⟨C,fs,vs,us,by rw[az na];exact g1,g2,g3,by rw[az nb];exact g4,g5⟩,by rw[az nd];exact h2.own,h2.fa,h2.fd,h2.fb,ea,ed,eb⟩,h3⟩
def lD (g:D->af->R af) (gt:af->R Bool) (fe:af->R D):List D->af->R (List D)
 |[],_=> .ok []
 |d::r,τ=>g d τ>>=λτ1=>gt τ1>>=λb=>if b=true then (fe τ1>>=λy=>lD g gt fe r τ1>>=λys=> .ok (y::ys))else lD g gt fe r τ1
def JU (K:Ku) (g:D->af->R af):TG:=λv σ H Q=>∃c:dW [],(∀e ρ,¬c.Er e ρ)/\tG K c g v σ H Q
def JV (K:Ku) (g:af->R Bool):TT:=λσ H Q=>∃c:dW [],(∀e ρ,¬c.Er e ρ)/\tT K c g σ H Q
def JW (K:Ku) (g:af->R D):TE:=λσ H Q=>∃c:dW [],(∀e ρ,¬c.Er e ρ)/\tQ K c g σ H Q
def Ak (ly:List fz) (X:Cx) (UH:List KI) (gt:af->R Bool):Prop:=∀c:iX ly X,EY X UH (tT X.K c.1 gt)
def gJ:af->R Bool:=λ_=> .ok true
theorem eE {X:Cx}:Ak ly X [] gJ:=λc S4 s σ H Q I q=>by
 obtain⟨F,ρ,ri,w⟩:=q
 exact DQ S4 s σ H Q I (w H F (c8.refl ri.sub))
theorem gQ {X:Cx} {c:KI} {gt:af->R Bool} (h:vy ly X c gt):Ak ly X [c] gt:=λc=>DR (h c)
theorem rb {α β:Type} {r:R α} {f:α->R β} {b:β} (h:(r>>=f)= .ok b):∃a,r= .ok a/\f a= .ok b:=by
 cases r with
 |ok a=>exact⟨a,rfl,h⟩
 |err c ρ=>cases h
 |bad=>cases h
theorem nF {K:Ku} {c:dW ly} {ρ:af} {σ:St} {H F H1 F1:Hp} {N:List Kw} {names:List (Kw×LC)} {p:Kx} {g:D->af->R af} {gt:af->R Bool} {fe:af->R D} {J:It} {ds es:List D} {Q:Hp->Prop}
  (ri:RI K c ρ σ H F) (e:c8 H F H1 F1) (jo:Ai K F1 J ds) (hp:H1 p=none) (hl:ds.length<=lim) (he:lD g gt fe ds (j0 N names ρ)= .ok es)
  (k:∀H2 F2 vs,c8 H1 F1 H2 F2->H2 p=some (.lst vs)->F2 p=none->Reps K F2 vs es->Q H2):
  rP J (JU K g) (JV K gt) (JW K fe) p (rO N names σ) Q (b_ H1 p (.lst [])):=by
 have s1:bd F1 H1:=e.sub
 have f1:F1 p=none:=s1.free hp
 refine⟨λi m ys τ H=>∃F ρ' pre rest,RI K (⟨b_ H1 p (.lst ys),F1,H1,λ_ _=>False,λ_=>none,λ_=>none⟩:dW []) ρ' τ H F/\Reps K F ys pre/\pre.length<=i/\m=ds.length - i/\i<=ds.length/\lD g gt fe (ds.drop i) ρ'= .ok rest/\pre++rest=es,
  ⟨_,F1,_,[],es,Ig ri e hp, .nil,L7 _,rfl,Ml _,he,rfl⟩,?_⟩
 rintro i m ys τ H2 ⟨F2,ρ',pre,rest,r2,rp,a3w,rfl,hi,hc,Zk⟩
 have a1U:F2 p=none:=by
  cases q:F2 p with
  |none=>rfl
  |some u=>
   rcases r2.ext.new p (by rw[q];simp)with z|z
   ·exact absurd f1 z
   ·change b_ H1 p (.lst ys) p=none at z;rw[aE]at z;cases z
 have hD:∀{ρ' τ H F},RI K (⟨b_ H1 p (.lst ys),F1,H1,λ_ _=>False,λ_=>none,λ_=>none⟩:dW []) ρ' τ H F->H p=some (.lst ys):=λr=>r.ext.keep p _ aE
 refine⟨hD r2,?_⟩
 by_cases UZ:i<ds.length
 ·refine .inr ⟨jo.go i H2 (r2.ext.grow.trans r2.sub) UZ,?_,λx H3 y=> ?_⟩
  ·have:=rp.length
   have:=gz
   omega
  ·obtain⟨F3,d,hd,e3,r3⟩:=jo.yld i H2 F2 x H3 r2.ext.grow r2.sub y UZ
   obtain⟨Wd,ed⟩:=L3.mp hd
   rw[NG Wd,ed]at hc
   obtain⟨τ1,h1,hc⟩:=rb (r:=g d ρ') hc
   obtain⟨b,h2,hc⟩:=rb (r:=gt τ1) hc
   refine⟨_,λe ρ h=>h,F3,ρ',d,r2.step e3,r3,?_⟩
   rw[h1]
   intro τ4 H4 F4 s4 r4
   refine⟨_,λe ρ h=>h,F4,τ1,r4,?_⟩
   rw[h2]
   intro H5 F5 e5
   cases b with
   |false=>
    exact⟨ds.length - (i+1),by omega,F5,τ1,pre,rest,r4.step e5,(rp.mono e3.grow).mono (s4.trans e5.grow),by omega,rfl,UZ,hc,Zk⟩
   |true=>
    rw[if_pos rfl]at hc ⊢
    obtain⟨y',h3,hc⟩:=rb (r:=fe τ1) hc
    obtain⟨a1V,h4,hc⟩:=rb (r:=lD g gt fe (ds.drop (i+1)) τ1) hc
    cases hc
    refine⟨_,λe ρ h=>h,F5,τ1,r4.step e5,?_⟩
    rw[h3]
    intro v H6 F6 e6 r6
    have a0i:=(r4.step e5).step e6
    refine⟨hD a0i,ds.length - (i+1),by omega,F6,τ1,pre++[y'],a1V,a0i.bump hp ?_,(((rp.mono e3.grow).mono (s4.trans e5.grow)).mono e6.grow).append (.cons r6 .nil),by simp;omega,rfl,UZ,h4,by rw[<-Zk];simp⟩
    cases q:F6 p with
    |none=>rfl
    |some u=>
     rcases a0i.ext.new p (by rw[q];simp)with z|z
     ·exact absurd f1 z
     ·change b_ H1 p (.lst ys) p=none at z;rw[aE]at z;cases z
 ·have ei:i=ds.length:=by omega
  subst ei
  rw[Rm]at hc
  cases hc
  rw[M5]at Zk
  subst Zk
  refine .inl ⟨jo.stop H2 (r2.ext.grow.trans r2.sub),k H2 F2 ys ⟨r2.sub,(cX hp).trans r2.ext.keep,r2.ext.grow,λa ha=> ?_⟩ (hD r2) a1U rp⟩
  rcases r2.ext.new a ha with z|z
  ·exact .inl z
  ·refine .inr ?_
   change b_ H1 p (.lst ys) a=none at z
   rw[az (λq=>by subst q;rw[aE]at z;cases z)]at z
   exact z
section
variable {X:Cx} {UU tg Sz:KI} {UH:List KI} {scope:MB} {pos:Ls} {fi:af->R (List D)} {g:D->af->R af} {gt:af->R Bool} {fe:af->R D}
def bM (N:List Kw) (names:List (Kw×LC)) (fi:af->R (List D)) (g:D->af->R af) (gt:af->R Bool) (fe:af->R D):af->R (List D):=λρ=>fi ρ>>=λds=>if ds.length<=lim then (match lD g gt fe ds (j0 N names ρ)with
 | .ok es=> .ok es
 |_=> .bad)else .bad
def fL (f:af->R (List D)):af->R D:=λρ=>f ρ>>=λds=> .ok (.lst ds)
theorem JF {X:Cx} (h:E5 [] X tg g):PG X tg (JU X.K g):=λS4 s σ H v u Q I r ⟨c,hn,q⟩=>h ⟨c, .no hn⟩ S4 s σ H v u Q I r q
theorem JG {X:Cx} (h:Ak [] X UH gt):EY X UH (JV X.K gt):=λS4 s σ H Q I ⟨c,hn,q⟩=>h ⟨c, .no hn⟩ S4 s σ H Q I q
theorem JH {X:Cx} (h:PQ [] X UU fe):PE X UU (JW X.K fe):=λS4 s σ H Q I ⟨c,hn,q⟩=>h ⟨c, .no hn⟩ S4 s σ H Q I q
theorem cO (S:aY X scope) (hc:X.calm=true) (hi:Gd ly X tg Sz fi) (hg:∀s H ex,E5 [] (dH X scope s H ex) tg g) (WE:∀s H ex,Ak [] (dH X scope s H ex) UH gt) (Wy:∀s H ex,PQ [] (dH X scope s H ex) UU fe)
  (hs:∀x,Mz Sz X.env x=pure x:=by intro _;rfl):PQ ly X (.ListComp UU [⟨tg,Sz,UH,0⟩] scope pos) (fL (bM X.N scope.names fi g gt fe)):=λc=>
 PE.weak (yO S hc (hi c) (λs H ex=>JF (hg s H ex)) (λs H ex=>JG (WE s H ex)) (λs H ex=>JH (Wy s H ex)) hs) λσ H Q ⟨F,ρ,ri,w⟩=>by
  refine⟨F,ρ,ri,(aN.bind.mp (aN.bind.mp w)).imp λds _ w1 J H1 F1 e1 jo p hp=> ?_⟩
  split at w1
  ·rename_i hl
   split at w1
   ·rename_i es he
    refine nF ri e1 jo hp hl he λH2 F2 vs e2 XA YR rv=> ?_
    have g2:bd F2 (b_ F2 p (.lst vs)):=cX YR
    refine w1 (.ref p) H2 (b_ F2 p (.lst vs)) ⟨λb u eb=> ?_,e1.keep.trans e2.keep,(e1.grow.trans e2.grow).trans g2,λa ha=> ?_⟩ (.lst aE (rv.mono g2))
    ·by_cases z:b=p
     ·subst z;rw[aE]at eb;rw[XA];exact eb
     ·rw[az z]at eb;exact e2.sub b u eb
    ·by_cases z:a=p
     ·subst z;exact .inr (e1.keep.free hp)
     ·rw[az z]at ha
      exact(e1.trans e2).new a ha
   ·exact w1.elim
  ·exact w1.elim
def oB (i:Nat) (f:af->R (List D)):af->R br:=λρ=>f ρ>>=λds=> .ok (.nx (ρ.set i (some (.own (.lst ds)))))
theorem xO (i:Nat) {y:Kw} {py V3:Ls} (S:aY X scope) (hc:X.calm=true) (hN:X.N.Nodup) (hi:Gd ly X tg Sz fi) (hg:∀s H ex,E5 [] (dH X scope s H ex) tg g) (WE:∀s H ex,Ak [] (dH X scope s H ex) UH gt) (Wy:∀s H ex,PQ [] (dH X scope s H ex) UU fe)
  (Wx:X.N[i]? =some y:=by rfl) (hx:zO X.env.scope y:=by first|exact Lx rfl|exact Lj rfl) (hf:X.fn y=true\/X.env.scope.names.lookup y=some .local:=by first|exact .inl rfl|exact .inr rfl|assumption)
  (VX:LI (.ListComp UU [⟨tg,Sz,UH,0⟩] scope pos) (some (.Name y py)) V3.line X.env=pure true:=by rfl) (hs:∀x,Mz Sz X.env x=pure x:=by intro _;rfl) (Uh:lh ly i:=by(repeat (first|assumption|exact L2.Pu.fK|refine L2.Pu.eo ⟨by first|decide|simp,by first|decide|simp⟩ ?_))):
  mP ly X (.Assign [.Name y py] (.ListComp UU [⟨tg,Sz,UH,0⟩] scope pos) V3) (oB i (bM X.N scope.names fi g gt fe)):=λc=>
 PS.weak (DT S hc (hi c) (λs H ex=>JF (hg s H ex)) (λs H ex=>JG (WE s H ex)) (λs H ex=>JH (Wy s H ex)) (yx hN Wx hx hf) VX hs) λD σ H ⟨F,ρ,ri,w⟩=>by
  refine⟨F,ρ,ri,(aN.bind.mp (aN.bind.mp w)).imp λds _ w1 J H1 F1 e1 jo p hp=> ?_⟩
  split at w1
  ·rename_i hl
   split at w1
   ·rename_i es he
    refine nF ri e1 jo hp hl he λH2 F2 vs e2 XA YR rv=> ?_
    refine w1 _ H2 F2 (e1.grow.trans e2.grow) ((ri.step (e1.trans e2)).setOwn i Uh XA YR (ri.ext.keep.free (e1.keep.free hp)) (.lst rv) (λj d' _ hj ej=> ?_) (ri.celNe (e1.trans e2).keep (e1.keep.free hp)))
    obtain⟨a,o,k1,k2,_⟩:=ri.own j d' hj
    rw[ej]at k1
    cases k1
    rw[e1.keep.free hp]at k2
    cases k2
   ·exact w1.elim
  ·exact w1.elim
end
def lE:D->Option cH
 | .int i=>some (.inl i)
 | .str x=>some (.inr x)
 |_=>none
def lF (Ui:List (cH×D)) (k:cH):Option D:=(Ui.find? λkv=>decide (kv.1=k)).map (·.2)
def Gg (Ui:List (cH×D)) (k:cH) (v:D):List (cH×D):=
 if (Ui.any λkv=>decide (kv.1=k))=true then Ui.map (λkv=>if kv.1=k then (kv.1,v)else kv)else Ui++[(k,v)]
theorem my {K:Ku} {H F:Hp} {v:V} {d:D} {k:cH} (h:lE d=some k) (r:dg K H F v d):v=kV k:=by
 cases d with
 |int i=>cases h;exact r.int
 |str x=>cases h;exact r.str
 |_=>cases h
section
variable {K:Ku} {F:Hp}
theorem RepK.any (k:cH):∀{vs:List (cH×V)} {ds:List (cH×D)},RepK K F vs ds->(vs.any λkv=>decide (kv.1=k))=ds.any λkv=>decide (kv.1=k):=by
 intro vs ds
 induction ds generalizing vs with
 |nil=>intro h;rw[h.nilI];rfl
 |cons d ds ih=>
  intro h
  obtain⟨v,us,rfl,_,t⟩:=RepK.consI (k:=d.1) (d:=d.2) h
  rw[Mb,Mb,ih t]
theorem RepK.get (k:cH):∀{vs:List (cH×V)} {ds:List (cH×D)},RepK K F vs ds->(kt vs k=none/\lF ds k=none)\/∃v d,kt vs k=some v/\lF ds k=some d/\dU K F v d:=by
 intro vs ds
 induction ds generalizing vs with
 |nil=>intro h;rw[h.nilI];exact .inl ⟨rfl,rfl⟩
 |cons d ds ih=>
  intro h
  obtain⟨a,d⟩:=d
  obtain⟨v,vs,rfl,r,t⟩:=h.consI
  by_cases e:a=k
  ·exact .inr ⟨v,d,by simp[kt,e],by simp[lF,e],r⟩
  ·have h1:kt ((a,v)::vs) k=kt vs k:=by simp[kt,e]
   have h2:lF ((a,d)::ds) k=lF ds k:=by simp[lF,e]
   rw[h1,h2]
   exact ih t
theorem RepK.repl (k:cH) {v:V} {d:D} (h:dU K F v d):∀{vs:List (cH×V)} {ds:List (cH×D)},RepK K F vs ds->RepK K F (vs.map λkv=>if kv.1=k then (kv.1,v)else kv) (ds.map λkv=>if kv.1=k then (kv.1,d)else kv):=by
 intro vs ds
 induction ds generalizing vs with
 |nil=>intro h;rw[h.nilI];exact .nil
 |cons x ds ih=>
  intro g
  obtain⟨a,x⟩:=x
  obtain⟨y,vs,rfl,r,t⟩:=g.consI
  rw[KO,KO]
  by_cases e:a=k
  ·simp only[e,if_true];exact .cons h (ih t)
  ·simp only[e,if_false];exact .cons r (ih t)
theorem RepK.append:∀{vs us:List (cH×V)} {ds es:List (cH×D)},RepK K F vs ds->RepK K F us es->RepK K F (vs++us) (ds++es):=by
 intro vs us ds
 induction ds generalizing vs with
 |nil=>intro es h g;rw[h.nilI];exact g
 |cons x ds ih=>
  intro es h g
  obtain⟨a,x⟩:=x
  obtain⟨y,vs,rfl,r,t⟩:=h.consI
  exact .cons r (ih t g)
theorem RepK.put (k:cH) {v:V} {d:D} (h:dU K F v d) {vs:List (cH×V)} {ds:List (cH×D)} (r:RepK K F vs ds):RepK K F (mK vs k v) (Gg ds k d):=by
 unfold mK Gg
 rw[r.any k]
 split
 ·exact r.repl k h
 ·exact r.append (.cons h .nil)
end
theorem Gh {kvs:List (cH×V)} {k:cH} (v:V) (hn:(kvs.map (·.1)).Nodup):((mK kvs k v).map (·.1)).Nodup:=by
 unfold mK
 split
 ·have e:(kvs.map λkv=>if kv.1=k then (kv.1,v)else kv).map (·.1)=kvs.map (·.1):=by
   rw[M1]
   refine Nx λkv _=> ?_
   show (if kv.1=k then (kv.1,v)else kv).1=kv.1
   split<;>rfl
  rw[e];exact hn
 ·rename_i h
  rw[Lv]
  refine Nb.mpr ⟨hn,by simp,λa ha b hb=> ?_⟩
  have eb:b=k:=by simpa using hb
  subst eb
  intro z
  subst z
  obtain⟨kv,h1,h2⟩:=Mv.mp ha
  exact h (LO.mpr ⟨kv,h1,by simp[h2]⟩)
section
variable {X:Cx} {a b e:KI} {es:List KI} {fa fb f fk fv:af->R D} {fs:af->R (List D)} {pos:Ls}
def oE (i:Nat) (f:af->R D):af->R br:=λρ=>match ρ[i]? with
 |some (some (.own (.lst ds)))=>f ρ>>=λd=>if ds.length<lim then .ok (.nx (ρ.set i (some (.own (.lst (ds++[d]))))))else .bad
 |_=> .bad
theorem RI.ownL {K:Ku} {c:dW ly} {ρ:af} {σ:St} {H F:Hp} (ri:RI K c ρ σ H F) {i:Nat} {ds:List D} (h:ρ[i]? =some (some (.own (.lst ds)))):∃a vs,σ[i]? =some (some (.ref a))/\H a=some (.lst vs)/\Reps K F vs ds:=by
 obtain⟨a,o,h1,h2,_,_,h5⟩:=ri.own i _ h
 cases h5 with
 |lst r=>exact⟨a,_,h1,h2,r⟩
theorem RI.ownD {K:Ku} {c:dW ly} {ρ:af} {σ:St} {H F:Hp} (ri:RI K c ρ σ H F) {i:Nat} {ds:List (cH×D)} (h:ρ[i]? =some (some (.own (.dic ds)))):∃a vs,σ[i]? =some (some (.ref a))/\H a=some (.dK vs)/\RepK K F vs ds/\(vs.map (·.1)).Nodup:=by
 obtain⟨a,o,h1,h2,_,_,h5⟩:=ri.own i _ h
 cases h5 with
 |dic r n=>exact⟨a,_,h1,h2,r,n⟩
theorem i8 (i:Nat) {x:Kw} {px Sl Sh:Ls} (h:PQ ly X e f) (hN:X.N[i]? =some x:=by rfl) (hv:pz X.env.scope x:=by first|exact Lx rfl|exact Lj (Lx rfl)|exact Lj (Lj rfl)) (hd:(x==("__debug__":Kw))=false:=by decide)
  (Tu:(x==("__classdict__":Kw))=false:=by decide) (SR:Lz (.Name x px) "append" X.env (L5 (.Name x px) X.env)=L5 (.Name x px) X.env:=by rfl)
  (UN:((Ll Sh (KC [e] X.env)).all (λx=> !x.1)&&(Mu Sh (M4 [] X.env)).all (λx=>x.1.isSome)
   &&decide (([e]:List KI).length+([]:List MJ).length+(if ([]:List MJ).isEmpty then 0 else 1)<30))=true:=by rfl)
  (SS:(Sl.endLine==Sh.line)=true:=by rfl) (hs:KC [e] X.env=(false,L5 e X.env)::KC [] X.env:=by rfl) (SU:(Ll Sh (KC [] X.env)).any (·.1)=false:=by rfl)
  (VX:LI (.Call (.Attribute (.Name x px) "append" Sl) [e] [] Sh) none pos.line X.env=pure false:=by rfl):mP ly X (.Expr (.Call (.Attribute (.Name x px) "append" Sl) [e] [] Sh) pos) (oE i f):=λc=>
 PS.weak (o9 (yI M7 Pm Pn pE (pv i hN hv hd Tu) (df (h c) gP hs) SR UN SS hs SU) VX) λD σ H ⟨F,ρ,ri,w⟩=>by
  unfold oE at w
  split at w
  ·rename_i ds hi
   obtain⟨a,vs,h1,h2,h3⟩:=ri.ownL hi
   refine⟨_,h1, .inl ⟨rfl,vs,dA.of h2⟩,F,ρ,ri,(aN.bind.mp w).imp λd _ w1 v H1 F1 e1 r1=> ?_⟩
   split at w1
   ·rename_i hl
    refine⟨a,vs,v,rfl,rfl,e1.keep _ _ h2,Ln (by rw[h3.length];exact hl) gz,?_⟩
    exact w1 σ _ F1 e1.grow ((ri.step e1).change (o:= .lst vs) hi h1 (.lst ((h3.mono e1.grow).append (.cons r1 .nil))))
   ·exact w1.elim
  ·exact w.elim
def C1 (i:Nat) (fk fv:af->R D):af->R br:=λρ=>match ρ[i]? with
 |some (some (.own (.dic Ui)))=>fv ρ>>=λv=>fk ρ>>=λk=>match lE k with
  |some Sj=>if Ui.length<lim then .ok (.nx (ρ.set i (some (.own (.dic (Gg Ui Sj v))))))else .bad
  |none=> .bad
 |some (some (.own (.lst ds)))=>fv ρ>>=λv=>fk ρ>>=λk=>match k with
  | .int j=>(match xi ds.length j with
   |some n=> .ok (.nx (ρ.set i (some (.own (.lst (ds.set n v))))))
   |none=> .bad)
  |_=> .bad
 |_=> .bad
theorem F8 (i:Nat) {x:Kw} {px Ss:Ls} (hu:X.A.units+1<MQ) (hk:PQ ly X a fk) (h:PQ ly X e fv) (hN:X.N[i]? =some x:=by rfl) (hv:pz X.env.scope x:=by first|exact Lx rfl|exact Lj (Lx rfl)|exact Lj (Lj rfl)) (hd:(x==("__debug__":Kw))=false:=by decide)
  (Tu:(x==("__classdict__":Kw))=false:=by decide) (hs:LI e (some (.Subscript (.Name x px) a Ss)) pos.line X.env=pure false:=by rfl)
  (ha:∀v,Nq (.Subscript (.Name x px) a Ss) X.env v=(do
   let ov<-Mx [v] (L5 (.Name x px) X.env)
   let iv<-Mx [v,ov] (L5 a X.env)
   M_ Ss
   Mx [v,ov,iv] (RG ov iv v)
   release [v,ov,iv] []):=by intro _;rfl)
  (VU:OF [.Subscript (.Name x px) a Ss] e pos.line X.env=pure false:=by rfl) (hw:OG [.Subscript (.Name x px) a Ss] e X.env=pure none:=by rfl)
  (h1:(LL [.Subscript (.Name x px) a Ss] X.env).map (·.2)=[Nq (.Subscript (.Name x px) a Ss) X.env]:=by rfl):mP ly X (.Assign [.Subscript (.Name x px) a Ss] e pos) (C1 i fk fv):=by
 intro c S4 s σ H D I q
 obtain⟨F,ρ,ri,w⟩:=q
 unfold C1 at w
 split at w
 ·rename_i Ui hi
  obtain⟨p,vs,g1,g2,g3,g4⟩:=ri.ownD hi
  refine DO hu (pv i hN hv hd Tu) (hk c) (h c) hs S4 s σ H D I ⟨F,ρ,ri,(aN.bind.mp w).imp λd _ w1 v H1 F1 e1 r1=> ?_⟩
  refine⟨_,g1,F1,ρ,ri.step e1,(aN.bind.mp w1).imp λk _ w2 u H2 F2 e2 r2=> ?_⟩
  cases Wj:lE k with
  |none=>rw[Wj]at w2;exact w2.elim
  |some Sj=>
   rw[Wj]at w2
   cases my (H:=H2) Wj (.inl r2)
   dsimp only at w2
   split at w2
   ·rename_i hl
    have Xr:=e1.trans e2
    refine⟨p,_,rfl,xE.k (k:=Sj) (Xr.keep _ _ g2) (Ln (by rw[g3.length];exact hl) gz),?_⟩
    exact w2 σ _ F2 Xr.grow ((ri.step Xr).change (o:= .dK vs) hi g1 (.dic ((g3.mono Xr.grow).put Sj (r1.mono e2.grow)) (Gh _ g4)))
   ·exact w2.elim
 ·rename_i ds hi
  obtain⟨p,vs,g1,g2,g3⟩:=ri.ownL hi
  refine xl (h c) (FD (pv i hN hv hd Tu) (hk c) Bv ha) VU hw h1 S4 s σ H D I ⟨F,ρ,ri,(aN.bind.mp w).imp λd _ w1 v H1 F1 e1 r1=> ?_⟩
  refine⟨_,g1,F1,ρ,ri.step e1,(aN.bind.mp w1).imp λk _ w2 u H2 F2 e2 r2=> ?_⟩
  cases k with
  |int j=>
   cases r2
   dsimp only at w2
   split at w2
   ·rename_i n hn
    have Xr:=e1.trans e2
    refine⟨p,vs,j,n,rfl,rfl,Xr.keep _ _ g2,by rw[g3.length];exact hn,?_⟩
    exact w2 σ _ F2 Xr.grow ((ri.step Xr).change (o:= .lst vs) hi g1 (.lst ((g3.mono Xr.grow).set n (r1.mono e2.grow))))
   ·exact w2.elim
  |_=>exact w2.elim
 ·exact w.elim
end
end L2.Pu
namespace L2.Pu
open PySem PySem.Spec PyProof.Rows
variable {ly:List fz}
section
variable {K:Ku}
def sW (i j:Int):Prop:=i.natAbs<18446744073709551616\/j.natAbs<18446744073709551616
def xP (_ j:Int):Prop:=0<j/\j.natAbs<1073741824
def C3 (i j:Int):Prop:=0<=j/\j.natAbs<=1000000/\i.natAbs<18446744073709551616
instance (i j:Int):Decidable (sW i j):=by unfold sW;infer_instance
instance (i j:Int):Decidable (xP i j):=by unfold xP;infer_instance
instance (i j:Int):Decidable (C3 i j):=by unfold C3;infer_instance
theorem sW.c {i j:Int} (h:sW i j):zW i j:=by
 unfold sW at h
 unfold zW
 omega
theorem xP.c {i j:Int} (h:xP i j):Dv i j:=by
 unfold xP at h
 unfold Dv
 omega
theorem C3.c {i j:Int} (h:C3 i j):HE i j:=by
 unfold C3 at h
 unfold HE
 omega
def bC:D->D->Option D
 | .int i, .int j=>some (.int (i+j))
 | .lst a, .lst b=>if a.length+b.length<=lim then some (.lst (a++b))else none
 | .tup a, .tup b=>if a.length+b.length<=lim then some (.tup (a++b))else none
 |_,_=>none
def F9 (K:Ku):R2:=λx y H Q=>(zV (λi j=> .int (i+j)) x y H Q\/HP x y H Q)\/(EV K x y H Q\/EZ K x y H Q)
theorem aL {X:Cx}:lq X (Mt .Add) (F9 X.K):=(FJ.or FX).or (DE.or DZ)
theorem aM:jW K (F9 K) bC:=by
 intro v u x y d H F Q s rx ry h k
 unfold bC at h
 split at h
 ·cases rx.int;cases ry.int;cases h;exact .inl (.inl ⟨_,_,rfl,rfl,k _ H F (c8.refl s) (.int _)⟩)
 ·rename_i a b
  split at h
  ·rename_i hl
   cases h
   obtain⟨p,vs,rfl,h1,h2⟩:=rx.lst s
   obtain⟨q,us,rfl,h3,h4⟩:=ry.lst s
   refine .inl (.inr ⟨p,q,vs,us,rfl,rfl,h1,h3,Lq (by rw[h2.length,h4.length];exact hl) gz,λl Wd=> ?_⟩)
   have e:=c8.lay (o:= .lst (vs++us)) s Wd
   exact k _ _ _ e (.lst aE ((h2.append h4).mono e.grow))
  ·cases h
 ·rename_i a b
  split at h
  ·rename_i hl
   cases h
   obtain⟨p,vs,rfl,h1,h2⟩:=rx.tup s
   obtain⟨q,us,rfl,h3,h4⟩:=ry.tup s
   cases a with
   |nil=>
    cases h2
    refine .inr (.inr ⟨p,q,us,rfl,rfl,iT.of h1,iT.of h3,?_⟩)
    match ry with
    | .inl ry=>exact k _ H F (c8.refl s) ry
   |cons a0 a1=>
    refine .inr (.inl ⟨p,q,vs,us,rfl,rfl,iT.of h1,iT.of h3,(λz=>by subst z;cases h2),Lq (by rw[h2.length,h4.length];exact hl) gz,λz=> ?_,λ_ l Wd=> ?_⟩)
    ·subst z
     cases h4
     rw[M5]at k
     match rx with
     | .inl rx=>exact k _ H F (c8.refl s) rx
    ·have e:=c8.lay (o:= .tup (vs++us)) s Wd
     exact k _ _ _ e (.tup aE ((h2.append h4).mono e.grow))
  ·cases h
 ·cases h
def Hf (g:Int->Int->D):D->D->Option D
 | .int i, .int j=>some (g i j)
 |_,_=>none
def Gi (C:Int->Int->Prop) [∀i j,Decidable (C i j)] (g:Int->Int->D):D->D->Option D
 | .int i, .int j=>if C i j then some (g i j)else none
 |_,_=>none
theorem uK {gv:Int->Int->V} {g:Int->Int->D} (hg:∀F i j,dU K F (gv i j) (g i j)):jW K (zV gv) (Hf g):=by
 intro v u x y d H F Q s rx ry h k
 cases x with
 |int i=>
  cases y with
  |int j=>cases rx.int;cases ry.int;cases h;exact⟨i,j,rfl,rfl,k _ H F (c8.refl s) (hg F i j)⟩
  |_=>cases h
 |_=>cases h
theorem C4 {C C':Int->Int->Prop} [∀i j,Decidable (C i j)] {gv:Int->Int->V} {g:Int->Int->D} (hC:∀i j,C i j->C' i j) (hg:∀F i j,dU K F (gv i j) (g i j)):jW K (rI C' gv) (Gi C g):=by
 intro v u x y d H F Q s rx ry h k
 cases x with
 |int i=>
  cases y with
  |int j=>
   cases rx.int;cases ry.int
   replace h:(if C i j then some (g i j)else none)=some d:=h
   split at h
   ·cases h;exact⟨i,j,rfl,rfl,hC i j (by assumption),k _ H F (c8.refl s) (hg F i j)⟩
   ·cases h
  |_=>cases h
 |_=>cases h
def iL:=Hf λi j=> .int (i - j)
def dY:=Gi xP λi j=> .int (i / j)
def bN:=Gi (λ_ j=>0<j) λi j=> .int (i%j)
def sX:=Hf λi j=> .bl (decide (i<j))
def Kh:=Hf λi j=> .bl (decide (i<=j))
def pL:=Hf λi j=> .bl (decide (j<i))
def E6:=Hf λi j=> .bl (decide (j<=i))
theorem fM:jW K (zV λi j=> .int (i - j)) iL:=uK λF i j=> .int _
theorem dh:jW K (rI Dv λi j=> .int (i / j)) dY:=C4 (λ_ _ h=>h.c) λF i j=> .int _
theorem ba:jW K (rI (λ_ j=>0<j) λi j=> .int (i%j)) bN:=C4 (λ_ _ h=>h) λF i j=> .int _
theorem ik:jW K (zV λi j=> .bl (decide (i<j))) sX:=uK λF i j=> .bl _
theorem gR:jW K (zV λi j=> .bl (decide (j<i))) pL:=uK λF i j=> .bl _
theorem s9:jW K (zV λi j=> .bl (decide (j<=i))) E6:=uK λF i j=> .bl _
def nG:D->D->Option D
 | .int i, .int j=>if sW i j then some (.int (i*j))else none
 | .lst a, .int k=>if k.natAbs<=lim/\a.length*k.toNat<=lim then some (.lst (Lf k.toNat a).flatten)else none
 |_,_=>none
def C5:R2:=λx y H Q=>rI zW (λi j=> .int (i*j)) x y H Q\/HQ x y H Q
theorem gB {X:Cx}:lq X (Mt .Mult) C5:=FK.or FY
theorem Reps.rep {F:Hp} {vs:List V} {ds:List D} (h:Reps K F vs ds):∀k:Nat,Reps K F (Lf k vs).flatten (Lf k ds).flatten
 |0=> .nil
 |k+1=>by
  rw[LY,LY,MA,MA]
  exact h.append (h.rep k)
theorem hZ:jW K C5 nG:=by
 intro v u x y d H F Q s rx ry h k
 unfold nG at h
 split at h
 ·rename_i i j
  cases rx.int;cases ry.int
  replace h:(if sW i j then some (D.int (i*j))else none)=some d:=h
  split at h
  ·rename_i hb;cases h;exact .inl ⟨i,j,rfl,rfl,sW.c hb,k _ H F (c8.refl s) (.int _)⟩
  ·cases h
 ·rename_i a j
  split at h
  ·rename_i hl
   cases h
   cases ry.int
   obtain⟨p,vs,rfl,h1,h2⟩:=rx.lst s
   refine .inr ⟨p,j,vs,rfl,rfl,h1,by have:=hX hl.1;omega,by have:=hX hl.1;omega,Lq (by rw[h2.length];exact hl.2) gz,λl Wd=> ?_⟩
   have e:=c8.lay (o:= .lst (Lf j.toNat vs).flatten) s Wd
   exact k _ _ _ e (.lst aE ((h2.rep _).mono e.grow))
  ·cases h
 ·cases h
def js:D->Option D
 | .int i=>some (.int (-i))
 |_=>none
theorem fN:Ic K (rU λi=> .int (-i)) js:=by
 intro v x d H F Q s rx h k
 cases x with
 |int i=>cases rx.int;cases h;exact⟨i,rfl,k _ H F (c8.refl s) (.int _)⟩
 |_=>cases h
def xQ:D->D->Option Bool
 | .non, .non=>some true
 | .non, .int _=>some false
 | .int _, .non=>some false
 | .non, .bl _=>some false
 | .bl _, .non=>some false
 | .non, .str _=>some false
 | .str _, .non=>some false
 | .int i, .int j=>some (decide (i=j))
 | .bl i, .bl j=>some (decide (i=j))
 | .str i, .str j=>some (decide (i=j))
 | .int _, .str _=>some false
 | .str _, .int _=>some false
 | .bl _, .str _=>some false
 | .str _, .bl _=>some false
 |_,_=>none
def dm (x y:D):Option D:=(xQ x y).map .bl
def sd (x y:D):Option D:=(xQ x y).map λb=> .bl (!b)
theorem tY {H F:Hp} {v u:V} {x y:D} {b:Bool} (rx:dg K H F v x) (ry:dg K H F u y) (h:xQ x y=some b):FL v u=true/\decide (v=u)=b:=by
 cases x<;>cases y<;>first
  |(exfalso;revert h;simp[xQ];done)
  |(first|cases rx.int|cases rx.bl|cases rx.str|cases rx.non)<;>(first|cases ry.int|cases ry.bl|cases ry.str|cases ry.non)<;>(refine⟨rfl,?_⟩;simp[xQ]at h ⊢;try exact h)
theorem bf:jW K IX dm:=by
 intro v u x y d H F Q s rx ry h k
 unfold dm at h
 cases e:xQ x y with
 |none=>rw[e]at h;cases h
 |some b=>
  rw[e]at h
  cases h
  obtain⟨h1,h2⟩:=tY rx ry e
  exact⟨h1,by rw[h2];exact k _ H F (c8.refl s) (.bl b)⟩
theorem j3:jW K JP sd:=by
 intro v u x y d H F Q s rx ry h k
 unfold sd at h
 cases e:xQ x y with
 |none=>rw[e]at h;cases h
 |some b=>
  rw[e]at h
  cases h
  obtain⟨h1,h2⟩:=tY rx ry e
  exact⟨h1,by rw[h2];exact k _ H F (c8.refl s) (.bl _)⟩
def vY:D->D->Option D
 | .non, .non=>some (.bl true)
 | .scr _, .non=>none
 |_, .non=>some (.bl false)
 |_,_=>none
def C6:D->Bool
 | .non=>true
 |_=>false
theorem Al {H F:Hp} {v:V} {x:D} (s:bd F H) (rx:dg K H F v x):decide (v= .non)=C6 x:=by
 cases x with
 |non=>cases rx.non;rfl
 |bl b=>cases rx.bl;rfl
 |int i=>cases rx.int;rfl
 |str z=>cases rx.str;rfl
 |tup ds=>obtain⟨a,vs,rfl,_⟩:=rx.tup s;rfl
 |lst ds=>obtain⟨a,vs,rfl,_⟩:=rx.lst s;rfl
 |dic ds=>obtain⟨a,vs,rfl,_⟩:=rx.dic s;rfl
 |scr ns=>obtain⟨a,rfl,_⟩:=rx.scr s;rfl
 |ins C fs=>
  rcases rx with rx|⟨a,o,rfl,_,q⟩
  ·cases rx;rfl
  ·cases q
 |exc C=>
  rcases rx with rx|⟨a,o,rfl,_,q⟩
  ·cases rx;rfl
  ·cases q
theorem Gj {x y d:D} (h:vY x y=some d):y= .non/\d= .bl (C6 x):=by
 unfold vY at h
 split at h
 ·cases h;exact⟨rfl,rfl⟩
 ·cases h
 ·rename_i n1 _
  cases h
  refine⟨rfl,?_⟩
  unfold C6
  split
  ·exact absurd rfl n1
  ·rfl
 ·cases h
theorem yV:jW K (λx y H Q=>y= .non/\Q (.bl (decide (x= .non))) H) vY:=by
 intro v u x y d H F Q s rx ry h k
 obtain⟨rfl,rfl⟩:=Gj h
 cases ry.non
 refine⟨rfl,?_⟩
 rw[Al s rx]
 exact k _ H F (c8.refl s) (.bl _)
def j4:D->Bool
 | .non=>true
 | .bl _=>true
 | .int _=>true
 | .str _=>true
 |_=>false
def Hg:D->D->Bool
 | .non, .non=>true
 | .bl a, .bl b=>a==b
 | .bl a, .int b=>(if a then 1 else 0)==b
 | .int a, .bl b=>a==(if b then 1 else 0)
 | .int a, .int b=>a==b
 | .str a, .str b=>a==b
 |_,_=>false
theorem vZ {F:Hp} {v:V} {d:D} (r:dU K F v d) (h:j4 d=true):iB v=true:=by
 cases r<;>first|rfl|cases h
theorem C7 {F:Hp} {v u:V} {x y:D} (r:dU K F v x) (q:dU K F u y) (hx:j4 x=true) (hy:j4 y=true):B5 v u=Hg x y:=by
 cases r<;>first|(cases hx;done)|(cases q<;>first|rfl|(cases hy;done))
theorem Reps.flat {F:Hp}:∀{vs:List V} {ds:List D},Reps K F vs ds->ds.all j4=true->vs.all iB=true:=by
 intro vs ds
 induction ds generalizing vs with
 |nil=>intro h _;rw[h.nilI];rfl
 |cons d ds ih=>
  intro g h
  obtain⟨v,us,rfl,r,t⟩:=g.consI
  rw[L_,LN]at h
  rw[L_,vZ r h.1,ih t h.2];rfl
theorem Reps.inV {F:Hp} {v:V} {x:D} (rx:dU K F v x) (hx:j4 x=true) {vs:List V} {ds:List D} (g:Reps K F vs ds):ds.all j4=true->L2.inV v vs=ds.any λy=>Hg y x:=by
 induction ds generalizing vs with
 |nil=>intro _;rw[g.nilI];rfl
 |cons d ds ih=>
  intro h
  obtain⟨w,us,e0,r,t⟩:=g.consI
  rw[L_,LN]at h
  have:=ih t h.2
  rw[e0]
  unfold L2.inV at this ⊢
  rw[Mb,Mb,C7 r rx h.1 hx,this]
def Hh (UY:Bool) (x:D) (ds:List D):Option D:=if j4 x=true/\ds.all j4=true then some (.bl (if UY then !(ds.any λy=>Hg y x)else ds.any λy=>Hg y x))else none
def xR (UY:Bool):D->D->Option D
 |x, .lst ds=>Hh UY x ds
 |x, .tup ds=>Hh UY x ds
 |_,_=>none
theorem v_ {H F:Hp} {UY:Bool} {v:V} {x d:D} {ds:List D} (rx:dg K H F v x) (h:Hh UY x ds=some d) {vs:List V} (rv:Reps K F vs ds):
  iB v=true/\vs.all iB=true/\d= .bl (if UY then !L2.inV v vs else L2.inV v vs):=by
 unfold Hh at h
 split at h
 ·rename_i hf
  cases h
  have a18:dU K F v x:=by
   rcases rx with rx|⟨a,o,rfl,_,q⟩
   ·exact rx
   ·cases q<;>cases hf.1
  exact⟨vZ a18 hf.1,rv.flat hf.2,by rw[rv.inV a18 hf.1 hf.2]⟩
 ·cases h
theorem mz {UY:Bool}:jW K (Ju K UY) (xR UY):=by
 intro v u x y d H F Q s rx ry h k
 cases y with
 |lst ds=>
  obtain⟨a,vs,rfl,h1,h2⟩:=ry.lst s
  obtain⟨g1,g2,rfl⟩:=v_ rx h h2
  exact⟨a,vs,rfl, .inl (dA.of h1),g1,g2,k _ H F (c8.refl s) (.bl _)⟩
 |tup ds=>
  obtain⟨a,vs,rfl,h1,h2⟩:=ry.tup s
  obtain⟨g1,g2,rfl⟩:=v_ rx h h2
  exact⟨a,vs,rfl, .inr (iT.of h1),g1,g2,k _ H F (c8.refl s) (.bl _)⟩
 |_=>cases h
def uL (UY:Bool):D->D->Option D
 |x, .dic Ui=>(lE x).map λk=> .bl (if UY then !(lF Ui k).isSome else (lF Ui k).isSome)
 |_,_=>none
def gT (UY:Bool) (x y:D):Option D:=match y with
 | .dic _=>uL UY x y
 |_=>xR UY x y
theorem RepK.look {F:Hp} {vs:List (cH×V)} {ds:List (cH×D)} (r:RepK K F vs ds) (k:cH):(kt vs k).isSome=(lF ds k).isSome:=by
 rcases r.get k with ⟨h1,h2⟩|⟨v,d,h1,h2,_⟩<;>rw[h1,h2]<;>rfl
end
section
variable {X:Cx} {a b e:KI} {es:List KI} {fa fb f fk fv:af->R D} {fs:af->R (List D)} {pos:Ls}
theorem C8 {g h:af->R D} (hg:PQ ly X e g) (hh:PQ ly X e h) (YS:∀ρ,f ρ=g ρ\/f ρ=h ρ):PQ ly X e f:=λc S4 s σ H Q I ⟨F,ρ,ri,w⟩=>
 (YS ρ).elim (λz=>hg c S4 s σ H Q I ⟨F,ρ,ri,z▸w⟩) λz=>hh c S4 s σ H Q I ⟨F,ρ,ri,z▸w⟩
theorem Fa {g h f:af->R Bool} (hg:vy ly X e g) (hh:vy ly X e h) (YS:∀ρ,f ρ=g ρ\/f ρ=h ρ):vy ly X e f:=λc S4 s σ H Q I ⟨F,ρ,ri,w⟩=>
 (YS ρ).elim (λz=>hg c S4 s σ H Q I ⟨F,ρ,ri,z▸w⟩) λz=>hh c S4 s σ H Q I ⟨F,ρ,ri,z▸w⟩
theorem uM {UY:Bool} (ρ:af):f2 (gT UY) fa fb ρ=f2 (xR UY) fa fb ρ\/f2 (gT UY) fa fb ρ=f2 (uL UY) fa fb ρ:=by
 unfold f2
 cases fa ρ with
 |ok x=>
  cases fb ρ with
  |ok y=>cases y<;>first|exact .inl rfl|exact .inr rfl
  |_=>exact .inl rfl
 |_=>exact .inl rfl
theorem w8 {K:Ku} {c:dW ly} {σ:St} {H:Hp} {Q:VK} (h:tQ K c (f2 (uL false) fa fb) σ H Q):F_ (tB' K c fa) (tB' K c fb) σ H Q:=two h λF H2 F2 v u x y e rx ry w=>by
 obtain⟨d,hd,k⟩:=w.of
 cases y with
 |dic Ui=>
  obtain⟨p,vs,rfl,h1,h2,h3⟩:=ry.dic e.sub
  replace hd:(lE x).map (λk=>D.bl (if false then !(lF Ui k).isSome else (lF Ui k).isSome))=some d:=hd
  cases hk:lE x with
  |none=>rw[hk]at hd;cases hd
  |some Sj=>
   rw[hk]at hd
   cases hd
   cases my hk rx
   exact⟨p,_,rfl,oo.k (k:=Sj) h1,k _ H2 F2 e (by rw[h2.look];exact .bl _)⟩
 |_=>cases hd
theorem qo {K:Ku} {c:dW ly} {σ:St} {H:Hp} {Q:VK} (h:tQ K c (f2 (uL true) fa fb) σ H Q):uC (tB' K c fa) (tB' K c fb) σ H Q:=two h λF H2 F2 v u x y e rx ry w=>by
 obtain⟨d,hd,k⟩:=w.of
 cases y with
 |dic Ui=>
  obtain⟨p,vs,rfl,h1,h2,h3⟩:=ry.dic e.sub
  replace hd:(lE x).map (λk=>D.bl (if true then !(lF Ui k).isSome else (lF Ui k).isSome))=some d:=hd
  cases hk:lE x with
  |none=>rw[hk]at hd;cases hd
  |some Sj=>
   rw[hk]at hd
   cases hd
   cases my hk rx
   exact⟨p,_,rfl,oo.k (k:=Sj) h1,k _ H2 F2 e (by rw[h2.look];exact .bl _)⟩
 |_=>cases hd
theorem E7 (hu:X.A.units+1<MQ) (ha:PB ly X a fa) (hb:PB ly X b fb) (hm:M9 .In b=false:=by with_unfolding_all rfl):PQ ly X (.Compare a [.In] [b] pos) (f2 (gT false) fa fb):=
 C8 (iY tF mz ha hb hm) (λc=>PE.weak (B9 (BB hu (ha c) (hb c)) hm) λσ H Q h=>w8 h) uM
theorem uN (hu:X.A.units+1<MQ) (ha:PB ly X a fa) (hb:PB ly X b fb) (hm:M9 .NotIn b=false:=by with_unfolding_all rfl):PQ ly X (.Compare a [.NotIn] [b] pos) (f2 (gT true) fa fb):=
 C8 (iY om mz ha hb hm) (λc=>PE.weak (B9 (tL hu (ha c) (hb c)) hm) λσ H Q h=>qo h) uM
theorem C9 {g h:af->R D} (YS:∀ρ,f ρ=g ρ\/f ρ=h ρ) (ρ:af):fT f ρ=fT g ρ\/fT f ρ=fT h ρ:=by
 unfold fT
 rcases YS ρ with z|z
 ·exact .inl (by rw[z])
 ·exact .inr (by rw[z])
theorem Ih (hu:X.A.units+1<MQ) (ha:PB ly X a fa) (hb:PB ly X b fb) (hm:M9 .In b=false:=by with_unfolding_all rfl):vy ly X (.Compare a [.In] [b] pos) (fT (f2 (gT false) fa fb)):=
 Fa (aO tF mz ha hb hm) (λc=>G9 (c:=c.1) (t:=F_ (tB' X.K c.1 fa) (tB' X.K c.1 fb)) (Ba (BB hu (ha c) (hb c)) hm) λσ H Q h=>w8 h) (C9 uM)
theorem oF (hu:X.A.units+1<MQ) (ha:PB ly X a fa) (hb:PB ly X b fb) (hm:M9 .NotIn b=false:=by with_unfolding_all rfl):vy ly X (.Compare a [.NotIn] [b] pos) (fT (f2 (gT true) fa fb)):=
 Fa (aO om mz ha hb hm) (λc=>G9 (c:=c.1) (t:=uC (tB' X.K c.1 fa) (tB' X.K c.1 fb)) (Ba (tL hu (ha c) (hb c)) hm) λσ H Q h=>qo h) (C9 uM)
def uO:D->D->Option D
 | .lst ds, .int i=>atI ds i
 | .tup ds, .int i=>atI ds i
 | .scr ns, .int i=>(atI ns i).map .int
 |_,_=>none
def Ca:D->D->Option D
 | .dic Ui,k=>(lE k).bind λSj=>lF Ui Sj
 |_,_=>none
def aQ (x y:D):Option D:=match x with
 | .dic _=>Ca x y
 |_=>uO x y
theorem Reps.atI {K:Ku} {F:Hp} {vs:List V} {ds:List D} {i:Int} {d:D} (r:Reps K F vs ds) (h:atI ds i=some d):∃v,L2.atI vs i=some v/\dU K F v d:=by
 unfold L2.atI at h ⊢
 rw[r.length]
 cases e:xi ds.length i with
 |none=>rw[e]at h;cases h
 |some j=>rw[e]at h;exact r.get h
theorem Am {K:Ku}:jW K (JR K) uO:=by
 intro v u x y d H F Q s rx ry h k
 unfold uO at h
 split at h
 ·cases ry.int
  obtain⟨a,vs,rfl,h1,h2⟩:=rx.lst s
  obtain⟨w,h3,h4⟩:=h2.atI h
  exact .inl ⟨a,vs,_,w,rfl,rfl,dA.of h1,h3,k _ H F (c8.refl s) h4⟩
 ·cases ry.int
  obtain⟨a,vs,rfl,h1,h2⟩:=rx.tup s
  obtain⟨w,h3,h4⟩:=h2.atI h
  exact .inr (.inl ⟨a,vs,_,w,rfl,rfl,iT.of h1,h3,k _ H F (c8.refl s) h4⟩)
 ·rename_i ns i
  cases ry.int
  obtain⟨a,rfl,h1⟩:=rx.scr s
  cases e:atI ns i with
  |none=>rw[e]at h;cases h
  |some n=>
   rw[e]at h
   cases h
   refine .inl ⟨a,ns.map V.int,i, .int n,rfl,rfl,h1,?_,k _ H F (c8.refl s) (.int n)⟩
   unfold L2.atI at e ⊢
   rw[KA]
   cases e2:xi ns.length i with
   |none=>rw[e2]at e;cases e
   |some j=>
    rw[e2]at e
    show (ns.map V.int)[j]? =_
    rw[L8,show ns[j]? =some n from e]
    rfl
 ·cases h
theorem Gk (ρ:af):f2 aQ fa fb ρ=f2 uO fa fb ρ\/f2 aQ fa fb ρ=f2 Ca fa fb ρ:=by
 unfold f2
 cases fa ρ with
 |ok x=>
  cases fb ρ with
  |ok y=>cases x<;>first|exact .inl rfl|exact .inr rfl
  |_=>exact .inl rfl
 |_=>exact .inl rfl
theorem aK (hu:X.A.units+1<MQ) (ha:PB ly X a fa) (hb:PB ly X b fb) (hs:yH b:=by intro _ _;rfl):PQ ly X (.Subscript a b pos) (f2 aQ fa fb):=
 C8 (λc=>PE.weak (HJ FV (ha c) (hb c) hs) λσ H Q h=>two h λF H2 F2 v u x y e rx ry w=>by
   obtain⟨d,hd,k⟩:=w.of
   exact Am v u x y d H2 F2 Q e.sub rx ry hd λw H' F' e' r'=>k w H' F' (e.trans e') r')
  (λc=>PE.weak (DN hu (ha c) (hb c) hs) λσ H Q h=>two h λF H2 F2 v u x y e rx ry w=>by
   obtain⟨d,hd,k⟩:=w.of
   cases x with
   |dic Ui=>
    obtain⟨p,vs,rfl,h1,h2,h3⟩:=rx.dic e.sub
    replace hd:((lE y).bind λSj=>lF Ui Sj)=some d:=hd
    cases hk:lE y with
    |none=>rw[hk]at hd;cases hd
    |some Sj=>
     rw[hk]at hd
     cases my hk ry
     rcases h2.get Sj with ⟨_,z⟩|⟨v',d',z1,z2,z3⟩
     ·rw[show lF Ui Sj=some d from hd]at z;cases z
     ·rw[show lF Ui Sj=some d from hd]at z2
      cases z2
      exact⟨p,v',rfl,z1▸oo.k (k:=Sj) h1,k _ H2 F2 e z3⟩
   |_=>cases hd) Gk
end
end L2.Pu
namespace L2.Pu
open PySem PySem.Spec PyProof.Rows
variable {ly:List fz}
section
variable {K:Ku}
theorem n4.one {H F:Hp} {vs:List V} {d:D}:n4 K H F vs [d]->∃v,vs=[v]/\dg K H F v d:=λh=>by
 cases h with
 |cons r t=>cases t;exact⟨_,rfl,r⟩
theorem n4.two {H F:Hp} {vs:List V} {d e:D}:n4 K H F vs [d,e]->∃v u,vs=[v,u]/\dg K H F v d/\dg K H F u e:=λh=>by
 cases h with
 |cons r t=>
  obtain⟨u,e,q⟩:=n4.one t
  exact⟨_,u,by rw[e],r,q⟩
def cf:List D->Option D
 |[.lst ds]=>some (.int ds.length)
 |[.tup ds]=>some (.int ds.length)
 |[.scr ns]=>some (.int ns.length)
 |[.dic ds]=>some (.int ds.length)
 |_=>none
def Fb (K:Ku):List V->Hp->VK->Prop:=λxs H Q=>(∃p ys,xs=[.ref p]/\(dA K H p ys\/iT K H p ys)/\Q (.int ys.length) H)\/∃p kvs,xs=[.ref p]/\H p=some (.dK kvs)/\Q (.int kvs.length) H
theorem b7 {X:Cx}:dX X (.builtin "len") (Fb X.K):=by
 intro S4 s σ H xs us Q I rv h
 rcases h with h|⟨p,kvs,rfl,hk,q⟩
 ·exact uB S4 s σ H xs us Q I rv h
 ·obtain⟨u,rfl,ru⟩:=jR rv
  cases ru
  exact HS I (.inl hk) λt s' I'=>⟨.int kvs.length,H,I',⟨t,rfl⟩,q⟩
theorem bH:mO K (Fb K) cf:=by
 intro vs ds d H F Q s rv h k
 match ds,h with
 |[.lst xs],h=>
  obtain⟨v,rfl,r⟩:=rv.one
  obtain⟨a,ws,rfl,h1,h2⟩:=r.lst s
  cases h
  exact .inl ⟨a,ws,rfl, .inl (dA.of h1),by rw[h2.length];exact k _ H F (c8.refl s) (.int _)⟩
 |[.tup xs],h=>
  obtain⟨v,rfl,r⟩:=rv.one
  obtain⟨a,ws,rfl,h1,h2⟩:=r.tup s
  cases h
  exact .inl ⟨a,ws,rfl, .inr (iT.of h1),by rw[h2.length];exact k _ H F (c8.refl s) (.int _)⟩
 |[.scr ns],h=>
  obtain⟨v,rfl,r⟩:=rv.one
  obtain⟨a,rfl,h1⟩:=r.scr s
  cases h
  exact .inl ⟨a,_,rfl, .inl h1,by rw[KA];exact k _ H F (c8.refl s) (.int _)⟩
 |[.dic xs],h=>
  obtain⟨v,rfl,r⟩:=rv.one
  obtain⟨a,ws,rfl,h1,h2,h3⟩:=r.dic s
  cases h
  exact .inr ⟨a,ws,rfl,h1,by rw[h2.length];exact k _ H F (c8.refl s) (.int _)⟩
def bV:List D->Option D
 |[.lst ds]=>some (.tup ds)
 |[.tup ds]=>some (.tup ds)
 |_=>none
theorem bq:mO K (λxs H Q=>∃p ys,xs=[.ref p]/\((dA K H p ys/\∀l,H l=none->Q (.ref l) (b_ H l (.tup ys)))\/(iT K H p ys/\Q (.ref p) H))) bV:=by
 intro vs ds d H F Q s rv h k
 match ds,h with
 |[.lst xs],h=>
  obtain⟨v,rfl,r⟩:=rv.one
  obtain⟨a,ws,rfl,h1,h2⟩:=r.lst s
  cases h
  refine⟨a,ws,rfl, .inl ⟨dA.of h1,λl hl=> ?_⟩⟩
  have e:=c8.lay (o:= .tup ws) s hl
  exact k _ _ _ e (.tup aE (h2.mono e.grow))
 |[.tup xs],h=>
  obtain⟨v,rfl,r⟩:=rv.one
  obtain⟨a,ws,rfl,h1,h2⟩:=r.tup s
  cases h
  refine⟨a,ws,rfl, .inr ⟨iT.of h1,?_⟩⟩
  match r with
  | .inl r=>exact k _ H F (c8.refl s) r
def oG:List D->Option D
 |[.lst ds]=>some (.lst ds)
 |[.tup ds]=>some (.lst ds)
 |[.scr ns]=>some (.lst (ns.map .int))
 |_=>none
theorem jX {F:Hp}:∀ns:List Int,Reps K F (ns.map V.int) (ns.map D.int)
 |[]=> .nil
 |n::r=> .cons (.int n) (jX r)
theorem lG:mO K (λxs H Q=>∃p ys,xs=[.ref p]/\(dA K H p ys\/iT K H p ys)/\∀l,H l=none->Q (.ref l) (b_ H l (.lst ys))) oG:=by
 intro vs ds d H F Q s rv h k
 match ds,h with
 |[.lst xs],h=>
  obtain⟨v,rfl,r⟩:=rv.one
  obtain⟨a,ws,rfl,h1,h2⟩:=r.lst s
  cases h
  refine⟨a,ws,rfl, .inl (dA.of h1),λl hl=> ?_⟩
  have e:=c8.lay (o:= .lst ws) s hl
  exact k _ _ _ e (.lst aE (h2.mono e.grow))
 |[.tup xs],h=>
  obtain⟨v,rfl,r⟩:=rv.one
  obtain⟨a,ws,rfl,h1,h2⟩:=r.tup s
  cases h
  refine⟨a,ws,rfl, .inr (iT.of h1),λl hl=> ?_⟩
  have e:=c8.lay (o:= .lst ws) s hl
  exact k _ _ _ e (.lst aE (h2.mono e.grow))
 |[.scr ns],h=>
  obtain⟨v,rfl,r⟩:=rv.one
  obtain⟨a,rfl,h1⟩:=r.scr s
  cases h
  refine⟨a,_,rfl, .inl h1,λl hl=> ?_⟩
  have e:=c8.lay (o:= .lst (ns.map V.int)) s hl
  exact k _ _ _ e (.lst aE (jX ns))
def cP:List D->Option (List Int)
 |[]=>some []
 | .int i::r=>(cP r).map (i::·)
 |_::_=>none
theorem gU {F:Hp}:∀{ds:List D} {ns:List Int} {vs:List V},cP ds=some ns->Reps K F vs ds->vs=ns.map V.int:=by
 intro ds
 induction ds with
 |nil=>intro ns vs h r;cases r.nilI;cases h;rfl
 |cons d r ih=>
  intro ns vs h rv
  obtain⟨v,us,rfl,r1,t⟩:=rv.consI
  cases d with
  |int i=>
   cases r1.intI
   replace h:(cP r).map (i::·)=some ns:=h
   cases e:cP r with
   |none=>rw[e]at h;cases h
   |some ms=>
    rw[e]at h
    cases h
    rw[ih e t];rfl
  |_=>cases h
theorem ky (ns:List Int):cP (ns.map .int)=some ns:=by
 induction ns with
 |nil=>rfl
 |cons n r ih=>show (cP (r.map D.int)).map (n::·)=_;rw[ih];rfl
def Ki:List D->Option D
 |[.lst ds]=>(cP ds).map λns=> .int ns.sum
 |_=>none
def uP:List D->Option D
 |[.lst ds]=>(cP ds).bind λns=>if ns.length<64 then some (.lst ((cR ns).map .int))else none
 |_=>none
theorem xS:mO K (λxs H Q=>∃p ns,xs=[.ref p]/\dA K H p (ns.map V.int)/\ns.length<64/\∀l,H l=none->Q (.ref l) (b_ H l (.lst ((cR ns).map V.int)))) uP:=by
 intro vs ds d H F Q s rv h k
 match ds,h with
 |[.lst xs],h=>
  obtain⟨v,rfl,r⟩:=rv.one
  obtain⟨a,ws,rfl,h1,h2⟩:=r.lst s
  replace h:((cP xs).bind λns=>if ns.length<64 then some (D.lst ((cR ns).map .int))else none)=some d:=h
  cases e:cP xs with
  |none=>rw[e]at h;cases h
  |some ns=>
   rw[e]at h
   replace h:(if ns.length<64 then some (D.lst ((cR ns).map .int))else none)=some d:=h
   split at h
   ·rename_i hl
    cases h
    rw[gU e h2]at h1
    refine⟨a,ns,rfl,dA.of h1,hl,λl Wd=> ?_⟩
    have e:=c8.lay (o:= .lst ((cR ns).map V.int)) s Wd
    exact k _ _ _ e (.lst aE (jX _))
   ·cases h
def xT:List D->Option D
 |[.int i, .int j]=>some (.int (if j<i then j else i))
 |_=>none
def An:List D->Option D
 |[.int i, .int j]=>some (.int (if j>i then j else i))
 |_=>none
theorem uQ:mO K (λxs H Q=>∃i j,xs=[.int i, .int j]/\Q (.int (if j<i then j else i)) H) xT:=by
 intro vs ds d H F Q s rv h k
 match ds,h with
 |[.int i, .int j],h=>
  obtain⟨v,u,rfl,r,q⟩:=rv.two
  cases r.int;cases q.int;cases h
  exact⟨i,j,rfl,k _ H F (c8.refl s) (.int _)⟩
theorem yW:mO K (λxs H Q=>∃i j,xs=[.int i, .int j]/\Q (.int (if j>i then j else i)) H) An:=by
 intro vs ds d H F Q s rv h k
 match ds,h with
 |[.int i, .int j],h=>
  obtain⟨v,u,rfl,r,q⟩:=rv.two
  cases r.int;cases q.int;cases h
  exact⟨i,j,rfl,k _ H F (c8.refl s) (.int _)⟩
def xU:List D->Option D
 |[.int i]=>some (.int i)
 |[.bl k]=>some (.int (if k then 1 else 0))
 |_=>none
theorem uR:mO K (λxs H Q=>(∃i,xs=[.int i]/\Q (.int i) H)\/∃k,xs=[.bl k]/\Q (.int (if k then 1 else 0)) H) xU:=by
 intro vs ds d H F Q s rv h k
 match ds,h with
 |[.int i],h=>obtain⟨v,rfl,r⟩:=rv.one;cases r.int;cases h;exact .inl ⟨i,rfl,k _ H F (c8.refl s) (.int _)⟩
 |[.bl i],h=>obtain⟨v,rfl,r⟩:=rv.one;cases r.bl;cases h;exact .inr ⟨i,rfl,k _ H F (c8.refl s) (.int _)⟩
end
section
variable {X:Cx} {a b e:KI} {es:List KI} {fa fb f fk fv:af->R D} {fs:af->R (List D)} {pos p p2:Ls}
def J0:D->Option String
 | .non=>some "NoneType"
 | .bl _=>some "bool"
 | .int _=>some "int"
 | .str _=>some "str"
 | .tup _=>some "tuple"
 | .lst _=>some "list"
 | .dic _=>some "dict"
 |_=>none
def tZ (t T:String):Option Bool:=if t=T then some true else if t="bool"/\T="int" then some true
 else if ["NoneType","bool","int","str","tuple","list","dict"].contains t/\["bool","int","str","tuple","list","dict"].contains T then some false else none
theorem Cb (K:Ku) {t T:String} {k:Bool} (ht:t="NoneType"\/t="bool"\/t="int"\/t="str"\/t="tuple"\/t="list"\/t="dict") (hT:T="bool"\/T="int"\/T="str"\/T="tuple"\/T="list"\/T="dict") (h:tZ t T=some k):
  LQ K (.type t) (.type T)=some k:=by
 rcases ht with rfl|rfl|rfl|rfl|rfl|rfl|rfl<;>rcases hT with rfl|rfl|rfl|rfl|rfl|rfl<;>(revert h;unfold tZ;simp+decide;rintro rfl;first|rfl|(unfold LQ Ng;decide+kernel))
def qM (T:String) (d:D):Option D:=(J0 d).bind λt=>(tZ t T).map .bl
def pM (T:String) (f:af->R D):af->R D:=λρ=>f ρ>>=λd=>R.of (qM T d)
theorem Gm {K:Ku} {H F:Hp} {v:V} {d:D} {t:String} (s:bd F H) (r:dg K H F v d) (h:J0 d=some t):oh K H v (.type t):=by
 cases d with
 |non=>cases r.non;cases h;exact .non
 |bl=>cases r.bl;cases h;exact .bl _
 |int=>cases r.int;cases h;exact .int _
 |str=>cases r.str;cases h;exact .str _
 |tup=>obtain⟨a,vs,rfl,h1,_⟩:=r.tup s;cases h;exact .tup h1
 |lst=>obtain⟨a,vs,rfl,h1,_⟩:=r.lst s;cases h;exact .lst h1
 |dic=>obtain⟨a,vs,rfl,h1,_⟩:=r.dic s;cases h;exact .dK h1
 |_=>cases h
theorem Ao {d:D} {t:String} (h:J0 d=some t):t="NoneType"\/t="bool"\/t="int"\/t="str"\/t="tuple"\/t="list"\/t="dict":=by
 cases d<;>cases h<;>simp
theorem qp {x:Kw} {T:String} (hT:T="bool"\/T="int"\/T="str"\/T="tuple"\/T="list"\/T="dict") (Xp:X.mg "isinstance"=none) (hm:X.mg x=none) (hv:Lu x=some (.type T)) (ha:PB ly X a fa) (Y2:Gl X "isinstance":=by rfl) (hg:Gl X x:=by rfl)
  (hn:x≠"__name__":=by decide) (TX:(x==("__debug__":Kw))=false:=by decide)
  (he:KC [a, .Name x p2] X.env=(false,L5 a X.env)::KC [.Name x p2] X.env:=by rfl) (WV:KC [.Name x p2] X.env=(false,L5 (.Name x p2) X.env)::KC [] X.env:=by rfl) (Tq:(Ll pos (KC [.Name x p2] X.env)).any (·.1)=false:=by rfl):
  PQ ly X (.Call (.Name "isinstance" p) [a, .Name x p2] [] pos) (pM T fa):=λc=>
 PE.weak (oi BD Y2 Xp rQ (df (ha c) (df (yv (v:= .ty T) hg hm hv rfl hn TX) gP WV) he) (by decide) (by decide) he Tq) λσ H Q ⟨F,ρ,ri,w⟩=>
  ⟨F,ρ,ri,(aN.bind.mp w).imp λd _ w1 v H1 F1 e1 r1=>by
   obtain⟨d',hd,k⟩:=w1.of
   unfold qM at hd
   cases ht:J0 d with
   |none=>rw[ht]at hd;cases hd
   |some t=>
    rw[ht]at hd
    cases hs:tZ t T with
    |none=>
     replace hd:(tZ t T).map D.bl=some d':=hd
     rw[hs]at hd;cases hd
    |some kk=>
     replace hd:(tZ t T).map D.bl=some d':=hd
     rw[hs]at hd
     cases hd
     exact⟨v,T,_,kk,rfl,Gm e1.sub r1 ht,Cb X.K (Ao ht) hT hs,k _ H1 F1 e1 (.bl kk)⟩⟩
def Cd (f:af->R D):af->R D:=λρ=>f ρ>>=λd=>match d with
 | .lst ds=> .ok (.lst ds.reverse)
 |_=> .bad
theorem Ii {j:Nat} {pu pk:Ls} (ha:PB ly X a fa):PQ ly X (.Subscript a (.Slice none none (some (.UnaryOp .USub (.Constant (.int 1) j pk) pu)) p2) pos) (Cd fa):=λc=>
 PE.weak (G2 (ha c) (yF (EN gO B8))) λσ H Q ⟨F,ρ,ri,w⟩=>⟨F,ρ,ri,(aN.bind.mp w).imp λd _ w1 v H1 F1 e1 r1=>by
  cases d with
  |lst ds=>
   obtain⟨p,vs,rfl,h1,h2⟩:=r1.lst e1.sub
   refine⟨1,rfl,-1,rfl,rfl,p,vs,rfl,dA.of h1,λl hl=> ?_⟩
   have e2:=c8.lay (o:= .lst vs.reverse) e1.sub hl
   exact w1 _ _ _ (e1.trans e2) (.lst aE (h2.reverse.mono e2.grow))
  |_=>exact w1.elim⟩
def sY (ds:List D) (lo hi:Option Int):List D:=(ds.drop (HT.fE ds.length 0 lo)).take (HT.fE ds.length ds.length hi - HT.fE ds.length 0 lo)
theorem Reps.cut {K:Ku} {F:Hp} {vs:List V} {ds:List D} (r:Reps K F vs ds) (lo hi:Option Int):Reps K F (sT vs lo hi) (sY ds lo hi):=by
 unfold sT sY
 rw[r.length]
 exact(r.drop _).take _
def Kj (K:Ku) (c:dW ly) (f:af->R (Option Int)):TO:=λσ H Q=>∃F ρ,RI K c ρ σ H F/\aN c (f ρ) λo=>∀H' F',c8 H F H' F'->Q o H'
def J3 (ly:List fz) (X:Cx) (e:Option KI) (f:af->R (Option Int)):Prop:=∀c:iX ly X,PO X e (Kj X.K c.1 f)
theorem PO.weak {X:Cx} {e:Option KI} {t t':TO} (h:PO X e t) (w:∀σ H Q,t' σ H Q->t σ H Q):PO X e t':=λS4 s σ H Q I q=>h S4 s σ H Q I (w σ H Q q)
def lH:af->R (Option Int):=λ_=> .ok none
def lI (f:af->R D):af->R (Option Int):=λρ=>f ρ>>=λd=>match d with
 | .int i=> .ok (some i)
 |_=> .bad
theorem nH:J3 ly X none lH:=λc=>PO.weak DD λσ H Q ⟨F,ρ,ri,w⟩=>w H F (c8.refl ri.sub)
theorem nI (h:PQ ly X e f):J3 ly X (some e) (lI f):=λc=>PO.weak (yF (h c)) λσ H Q ⟨F,ρ,ri,w⟩=>⟨F,ρ,ri,(aN.bind.mp w).imp λd _ w1 v H1 F1 e1 r1=>by
 cases d with
 |int i=>cases r1;exact⟨i,rfl,w1 H1 F1 e1⟩
 |_=>exact w1.elim⟩
variable {lo hi:Option KI} {fl fh:af->R (Option Int)}
def Fc (d:D) (lo hi:Option Int):Option D:=match d with
 | .lst ds=>some (.lst (sY ds lo hi))
 | .tup ds=>if HT.fE ds.length 0 lo=0/\HT.fE ds.length ds.length hi=ds.length then some (.tup ds)else some (.tup (sY ds lo hi))
 |_=>none
def yX (f:af->R D) (fl fh:af->R (Option Int)):af->R D:=λρ=>f ρ>>=λd=>fl ρ>>=λl=>fh ρ>>=λh=>R.of (Fc d l h)
theorem kA (ha:PB ly X a fa) (hl:J3 ly X lo fl) (hh:J3 ly X hi fh):PQ ly X (.Subscript a (.Slice lo hi none p2) pos) (yX fa fl fh):=λc=>
 PE.weak (Bu ((DH.or FR).or DY) (ha c) (hl c) (hh c)) λσ H Q ⟨F,ρ,ri,w⟩=>⟨F,ρ,ri,(aN.bind.mp w).imp λd _ w1 v H1 F1 e1 r1=>⟨F1,ρ,ri.step e1,(aN.bind.mp w1).imp λl _ w2 H2 F2 e2=>
  ⟨F2,ρ,(ri.step e1).step e2,(aN.bind.mp w2).imp λh _ w3 H3 F3 e3=>by
   obtain⟨d',hd,k⟩:=w3.of
   have XC:=(e1.trans e2).trans e3
   have r3:=(r1.mono e2).mono e3
   cases d with
   |lst ds=>
    cases hd
    obtain⟨p,vs,rfl,h1,h2⟩:=r3.lst XC.sub
    refine .inl (.inl ⟨p,vs,rfl,dA.of h1,λq hq=> ?_⟩)
    have e4:=c8.lay (o:= .lst (sT vs l h)) XC.sub hq
    exact k _ _ _ (XC.trans e4) (.lst aE ((h2.cut l h).mono e4.grow))
   |tup ds=>
    replace hd:(if HT.fE ds.length 0 l=0/\HT.fE ds.length ds.length h=ds.length then some (D.tup ds)else some (D.tup (sY ds l h)))=some d':=hd
    split at hd
    ·rename_i hw
     cases hd
     rcases r3 with r3|⟨_,_,_,_,q⟩
     ·cases r3 with
      | @tup p vs _ h1 h2=>exact .inr ⟨p,vs,rfl,iT.of (XC.sub _ _ h1),by rw[h2.length];exact hw,k _ _ _ XC (.tup h1 h2)⟩
     ·cases q
    ·rename_i hw
     cases hd
     obtain⟨p,vs,rfl,h1,h2⟩:=r3.tup XC.sub
     refine .inl <| .inr ⟨p,vs,rfl,iT.of h1,by rw[h2.length];exact hw,λq hq=> ?_⟩
     have e4:=c8.lay (o:= .tup (sT vs l h)) XC.sub hq
     exact k _ _ _ (XC.trans e4) (.tup aE ((h2.cut l h).mono e4.grow))
   |_=>cases hd⟩⟩⟩
inductive Ij (ly:List fz) (X:Cx) (pos:Ls):List (Option KI)->List KI->List ((af->R D)×(af->R D))->Prop
 |nil:Ij ly X pos [] [] []
 |cons {k v:KI} {ks:List (Option KI)} {vs:List KI} {fk fv:af->R D} {ps:List ((af->R D)×(af->R D))}:PQ ly X k fk->PQ ly X v fv->Ij ly X pos ks vs ps->Ij ly X pos (some k::ks) (v::vs) ((fk,fv)::ps)
theorem Ij.len {X:Cx} {pos:Ls}:∀{ks:List (Option KI)} {vs:List KI} {ps:List ((af->R D)×(af->R D))},Ij ly X pos ks vs ps->ks.length=vs.length/\ks.length=ps.length/\ks.all (·.isSome)=true
 |_,_,_, .nil=>⟨rfl,rfl,rfl⟩
 |_,_,_, .cons _ _ r=>by
  obtain⟨a,b,c⟩:=r.len
  exact⟨by simp[a],by simp[b],by simp[L_,c]⟩
end
end L2.Pu
namespace L2.Pu
open PySem PySem.Spec PyProof.Rows
variable {ly:List fz}
def w9 (scope outer:MB):Bool:=
 scope.kind== .function&&scope.names.all (λy=>y.2 != .cell)&&scope.names.all (λy=>y.2 != .local||scope.names.lookup y.1==some .local)&&
 scope.names.all (λy=>y.2 != .free||outer.names.lookup y.1==some .cell||outer.names.lookup y.1==some .free)&&decide ((scope.names.map (·.1)).Nodup)
theorem aY.of {X:Cx} {scope outer:MB} (h:X.env.scope=outer) (k:w9 scope outer=true):aY X scope:=by
 unfold w9 at k
 simp only[LN,MV,decide_eq_true_eq,PU,bne_iff_ne,beq_iff_eq]at k
 obtain⟨⟨⟨⟨k1,k2⟩,k3⟩,k4⟩,k5⟩:=k
 refine⟨k1,k2,λy hy hl=> ?_,λy hy hf=> ?_,k5⟩
 ·rcases k3 y hy with z|z
  ·exact absurd hl z
  ·exact z
 ·show X.env.scope.names.lookup y.1=_\/X.env.scope.names.lookup y.1=_
  rw[h]
  rcases k4 y hy with (z|z)|z
  ·exact absurd hf z
  ·exact .inl z
  ·exact .inr z
structure cA (K:Ku) (mg:Kw->Option Kv) (x:Kw) (st:L9) (ps:List Kw):Prop where
 ex:∃f fd,yK K x x st f fd/\mg x=some (.ref f)/\gf K fd ps []
structure bg (P:KW) (w:La) (K:Ku) (mg:Kw->Option Kv) (base:L4) (k:Nat) (x:Kw) (n:Nat) (m:List D->R D):Prop where
 ex:∃f fd ps,fJ P w K mg base (lg P w) k f fd ps (Ah K n m)/\mg x=some (.ref f)/\Ly K (.ref f)=true/\gf K fd ps []
section
variable {P:KW} {w:La} {K:Ku} {mg:Kw->Option Kv} {base:L4}
theorem bZ {x:Kw} {st:L9} {N ps:List Kw} {k n m:Nat} {g:af->R br} (A:cA K mg x st ps) (S:aB N ps (ak st)) (hn:ps.length=n) (hm:N.length=m)
  (Sw:∀(f:Kx) (Sb:Kv) (A:Lg) (outer:List Mm) (s:Ky) (H:Hp) (E:XK),cW k (A.deeper (Mp x (ak st) s.heap.objs.size f Sb))->
   jE [] (iU (lg P w) P w K mg base N x (ak st) f Sb A outer s H E) (bK st) g):bg P w K mg base (k+1) x n (bi n m g):=by
 obtain⟨f,fd,F,h1,h2⟩:=A.ex
 exact⟨f,fd,ps,Gf F S hn hm λSb A outer s H E hr=>Sw f Sb A outer s H E hr,h1,F.kp,h2⟩
theorem bg.mono {x:Kw} {j k n:Nat} {m:List D->R D} (F:bg P w K mg base j x n m) (h:j<=k):bg P w K mg base k x n m:=by
 obtain⟨f,fd,ps,h1,h2⟩:=F.ex
 exact⟨f,fd,ps,h1.mono h,h2⟩
theorem Cf {x:Kw} {st:L9} {ps:List Kw} {n:Nat} (A:cA K mg x st ps) (hn:ps.length=n):bg P w K mg base 0 x n (λ_=> .bad):=by
 obtain⟨f,fd,F,h1,h2⟩:=A.ex
 refine⟨f,fd,ps,⟨λvs H Q E h=>by rw[hn];exact h.1,λA outer s H args us vs Q E hr e0 hb rv h=> ?_⟩,h1,F.kp,h2⟩
 obtain⟨_,F',ds,_,_,z⟩:=h
 exact z.elim
end
section
variable {X:Cx} {e:KI} {es:List KI} {fs:af->R (List D)} {x:Kw} {p pos:Ls}
theorem ce {n k:Nat} {m:List D->R D} (F:bg X.prog X.w X.K X.mg X.base k x n m) (hr:cW k X.A)
  (ha:vz ly X (e::es) fs) (hg:Gl X x:=by rfl) (TX:(x==("__debug__":Kw))=false:=by decide) (he:KC (e::es) X.env=(false,L5 e X.env)::KC es X.env:=by rfl) (Tq:(Ll pos (KC es X.env)).any (·.1)=false:=by rfl):
  PQ ly X (.Call (.Name x p) (e::es) [] pos) (aI m n fs):=by
 obtain⟨f,fd,ps,h1,h2,h3,h4⟩:=F.ex
 exact Gb h1 hr h2 h3 h4 ha hg TX he Tq
end
structure Bl (mg:Kw->Option Kv) (xs:List Kw):Prop where
 no:∀x∈xs,mg x=none
theorem aW:Lu "tuple"=some (.type "tuple"):=by decide+kernel
theorem jY:Lu "list"=some (.type "list"):=by decide+kernel
theorem oH:Lu "int"=some (.type "int"):=by decide+kernel
theorem pN:Lu "bool"=some (.type "bool"):=by decide+kernel
theorem wa:Lu "str"=some (.type "str"):=by decide+kernel
theorem ju:Lu "sorted"=some (.builtin "sorted"):=by decide+kernel
theorem se:Lu "min"=some (.builtin "min"):=by decide+kernel
theorem wc:Lu "max"=some (.builtin "max"):=by decide+kernel
theorem Gn {K:Ku} {m:List D->R D} {H:Hp} {a:Kx} {ns:List Int} {E:XK} (h:m [.scr ns]= .ok (.bl true)) (hs:dA K H a (ns.map V.int)):Ah K 1 m [.ref a] H (λv _=>v= .bl true) E:=by
 refine⟨rfl,H,[.scr ns],bd.refl _, .cons (.scr hs) .nil,?_⟩
 rw[h]
 intro v H' F' e r
 cases r
 rfl
end L2.Pu
namespace L2.Pu
open PySem PySem.Spec PyProof.Rows
variable {ly:List fz}
section
variable {i j:Int}
theorem bc (h:0<j):bN (.int i) (.int j)=some (.int (i%j)):=if_pos h
theorem db (h:0<j/\j<1073741824):dY (.int i) (.int j)=some (.int (i / j)):=if_pos (show xP i j from ⟨h.1,by omega⟩)
theorem sf (h:j.natAbs<18446744073709551616):nG (.int i) (.int j)=some (.int (i*j)):=if_pos (show sW i j from .inr h)
theorem sg (h:i.natAbs<18446744073709551616):nG (.int i) (.int j)=some (.int (i*j)):=if_pos (show sW i j from .inl h)
theorem eF:bC (.int i) (.int j)=some (.int (i+j)):=rfl
theorem lJ:iL (.int i) (.int j)=some (.int (i - j)):=rfl
theorem lK:sX (.int i) (.int j)=some (.bl (decide (i<j))):=rfl
theorem Ik:Kh (.int i) (.int j)=some (.bl (decide (i<=j))):=rfl
theorem l7:pL (.int i) (.int j)=some (.bl (decide (j<i))):=rfl
theorem si:E6 (.int i) (.int j)=some (.bl (decide (j<=i))):=rfl
theorem i9:dm (.int i) (.int j)=some (.bl (decide (i=j))):=rfl
theorem yY:sd (.int i) (.int j)=some (.bl (!decide (i=j))):=rfl
theorem Il {a b:Bool}:dm (.bl a) (.bl b)=some (.bl (decide (a=b))):=rfl
theorem Go:js (.int i)=some (.int (-i)):=rfl
end
theorem Cg {a b:List D} (h:a.length+b.length<=lim):bC (.lst a) (.lst b)=some (.lst (a++b)):=if_pos h
theorem wd {ds:List D} {i:Int}:aQ (.lst ds) (.int i)=atI ds i:=rfl
theorem t_ {ds:List D} {i:Int}:aQ (.tup ds) (.int i)=atI ds i:=rfl
theorem Im {ns:List Int} {i:Int}:aQ (.scr ns) (.int i)=(atI ns i).map .int:=rfl
theorem jF {ds:List D}:cf [.lst ds]=some (.int ds.length):=rfl
theorem gW {ds:List D}:cf [.tup ds]=some (.int ds.length):=rfl
theorem xV {ds:List Int}:cf [.scr ds]=some (.int ds.length):=rfl
theorem Ch {ds:List D}:bV [.lst ds]=some (.tup ds):=rfl
theorem Ci {ds:List D}:bV [.tup ds]=some (.tup ds):=rfl
theorem E8 {ds:List D}:oG [.lst ds]=some (.lst ds):=rfl
theorem E9 {ds:List D}:oG [.tup ds]=some (.lst ds):=rfl
theorem il {α:Type} {xs:List α} {k:Nat} (h:k<xs.length):L2.atI xs (k:Int)=some xs[k]:=uz (by simp[h])
theorem Ea (x:Int) (xs:List Int):((xs.map D.int).any λy=>Hg y (.int x))=decide (x∈xs):=by
 induction xs with
 |nil=>rfl
 |cons y r ih=>
  rw[KO,Mb,ih]
  show (y==x||decide (x∈r))=decide (x∈y::r)
  by_cases e:x=y
  ·subst e;simp
  ·have:(y==x)=false:=beq_eq_false_iff_ne.mpr (Mn e)
   simp[this,e]
theorem Eb (xs:List Int):(xs.map D.int).all j4=true:=by
 induction xs with
 |nil=>rfl
 |cons y r ih=>rw[KO,L_,ih];rfl
theorem uS (UY:Bool) (x:Int) (xs:List Int):Hh UY (.int x) (xs.map .int)=some (.bl (if UY then !decide (x∈xs)else decide (x∈xs))):=by
 unfold Hh
 rw[if_pos ⟨rfl,Eb xs⟩,Ea]
theorem u0 {x:Int} {xs:List Int}:gT false (.int x) (.tup (xs.map .int))=some (.bl (decide (x∈xs))):=uS false x xs
theorem lL {x:Int} {xs:List Int}:gT true (.int x) (.lst (xs.map .int))=some (.bl (!decide (x∈xs))):=uS true x xs
theorem oI {x:Int} {xs:List Int}:gT true (.int x) (.tup (xs.map .int))=some (.bl (!decide (x∈xs))):=uS true x xs
theorem xW (n:Nat):i_ 0 (n:Int)=(LA n).map λk:Nat=>D.int (k:Int):=by
 unfold i_
 simp
theorem Gp {ds:List D}:qM "tuple" (.tup ds)=some (.bl true):=rfl
theorem Gq {i:Int}:qM "tuple" (.int i)=some (.bl false):=rfl
theorem Gr {i:Int}:qM "int" (.int i)=some (.bl true):=rfl
theorem Gs {i:Int}:qM "bool" (.int i)=some (.bl false):=rfl
theorem Cj {m:List D->R D} {n:Nat} {fs:af->R (List D)} {ρ:af} {ds:List D} {d:D} (h:fs ρ= .ok ds) (hl:ds.length=n) (hm:m ds= .ok d):aI m n fs ρ= .ok d:=by
 unfold aI
 rw[h,ar,if_pos hl,hm]
end L2.Pu
namespace L2.Pu
theorem mB {g:D->af->R af} {gb:af->R br} {d:D} {r:List D} {ρ ρ1 ρ2:af} (h1:g d ρ= .ok ρ1) (h2:gb ρ1= .ok (.nx ρ2)):eK g gb (d::r) ρ=eK g gb r ρ2:=by
 rw[eK,h1,ar,h2,ar]
theorem Ck {g:D->af->R af} {gb:af->R br} {d:D} {r:List D} {ρ ρ1 ρ2:af} (h1:g d ρ= .ok ρ1) (h2:gb ρ1= .ok (.cnt ρ2)):eK g gb (d::r) ρ=eK g gb r ρ2:=by
 rw[eK,h1,ar,h2,ar]
end L2.Pu
namespace L2.Pu
theorem bx {k n:Nat} {g:af->R br} {ds:List D} {d:D} (h:ds.length=k) (e:g (cY n ds)= .ok (.ret d)):bi k n g ds= .ok d:=by
 unfold bi
 rw[if_pos h,e,ar]
theorem Gu {k n:Nat} {g:af->R br} {ds:List D} {ρ:af} (h:ds.length=k) (e:g (cY n ds)= .ok (.nx ρ)):bi k n g ds= .ok .non:=by
 unfold bi
 rw[if_pos h,e,ar]
theorem av {g g':af->R br} {ρ ρ':af} (h:g ρ= .ok (.nx ρ')):aw g g' ρ=g' ρ':=by
 unfold aw
 rw[h,ar]
theorem dJ {g g':af->R br} {ρ:af} {d:D} (h:g ρ= .ok (.ret d)):aw g g' ρ= .ok (.ret d):=by
 unfold aw
 rw[h,ar]
theorem sj {fi:af->R (List D)} {g:D->af->R af} {gb:af->R br} {ρ:af} {ds:List D} (h:fi ρ= .ok ds):li fi g gb ρ=eK g gb ds ρ:=by
 unfold li
 rw[h,ar]
end L2.Pu
namespace L2.Pu
theorem mC {fs:af->R (List D)} {ρ:af} {n:Nat} (h:fs ρ= .ok [.int (n:Int)]) (hn:n<=lim):dI fs ρ= .ok ((LA n).map λk:Nat=>D.int (k:Int)):=by
 unfold dI
 rw[h,ar]
 have hc:(n:Int).natAbs<=lim:=by rw[Int.natAbs_natCast];exact hn
 exact(if_pos hc).trans (congrArg R.ok (xW n))
end L2.Pu
namespace L2.Pu
open PySem PySem.Spec PyProof.Rows
variable {ly:List fz}
section
variable {X:Cx} {UU tg Sz:KI} {UH:List KI} {scope:MB} {pos:Ls} {fi:af->R (List D)} {g:D->af->R af} {gt:af->R Bool} {fe:af->R D}
theorem re (i:Nat) {y:Kw} {py V3:Ls} (S:aY X scope) (hc:X.calm=true) (hN:X.N.Nodup) (hi:Gd ly X tg Sz fi) (hg:∀s H ex,E5 [] (dH X scope s H ex) tg g) (WE:∀s H ex,Ak [] (dH X scope s H ex) UH gt) (Wy:∀s H ex,PQ [] (dH X scope s H ex) UU fe)
  (Wx:X.N[i]? =some y:=by rfl) (hx:zO X.env.scope y:=by first|exact Lx rfl|exact Lj rfl) (hf:X.fn y=true\/X.env.scope.names.lookup y=some .local:=by first|exact .inl rfl|exact .inr rfl|assumption)
  (VX:LI (.ListComp UU [⟨tg,Sz,UH,0⟩] scope pos) (some (.Name y py)) V3.line X.env=pure false:=by rfl) (hs:∀x,Mz Sz X.env x=pure x:=by intro _;rfl) (Uh:lh ly i:=by(repeat (first|assumption|exact L2.Pu.fK|refine L2.Pu.eo ⟨by first|decide|simp,by first|decide|simp⟩ ?_))):
  mP ly X (.Assign [.Name y py] (.ListComp UU [⟨tg,Sz,UH,0⟩] scope pos) V3) (oB i (bM X.N scope.names fi g gt fe)):=λc=>
 PS.weak (nz hN Wx hx (yO S hc (hi c) (λs H ex=>JF (hg s H ex)) (λs H ex=>JG (WE s H ex)) (λs H ex=>JH (Wy s H ex)) hs) VX hf) λD σ H ⟨F,ρ,ri,w⟩=>by
  refine⟨F,ρ,ri,(aN.bind.mp (aN.bind.mp w)).imp λds _ w1 J H1 F1 e1 jo p hp=> ?_⟩
  split at w1
  ·rename_i hl
   split at w1
   ·rename_i es he
    refine nF ri e1 jo hp hl he λH2 F2 vs e2 XA YR rv=> ?_
    refine w1 _ H2 F2 (e1.grow.trans e2.grow) ((ri.step (e1.trans e2)).setOwn i Uh XA YR (ri.ext.keep.free (e1.keep.free hp)) (.lst rv) (λj d' _ hj ej=> ?_) (ri.celNe (e1.trans e2).keep (e1.keep.free hp)))
    obtain⟨a,o,k1,k2,_⟩:=ri.own j d' hj
    rw[ej]at k1
    cases k1
    rw[e1.keep.free hp]at k2
    cases k2
   ·exact w1.elim
  ·exact w1.elim
end
end L2.Pu
namespace L2.Pu
open PySem PySem.Spec PyProof.Rows
variable {ly:List fz}
theorem cJ {f:af->R D} {ρ:af} {d:D} (h:f ρ= .ok d):bt f ρ= .ok (.ret d):=by unfold bt;rw[h,ar]
theorem aS {g:List D->Option D} {fs:af->R (List D)} {ρ:af} {ds:List D} {d:D} (h:fs ρ= .ok ds) (h2:g ds=some d):cg g fs ρ= .ok d:=by unfold cg;rw[h,ar,h2,gw]
theorem a9 {f:af->R D} {fs:af->R (List D)} {ρ:af} {ds:List D} {d:D} (h:f ρ= .ok d) (h2:fs ρ= .ok ds):a8 f fs ρ= .ok (d::ds):=by unfold a8;rw[h,ar,h2,ar]
theorem nJ {f:af->R (List D)} {ρ:af} {ds:List D} (h:f ρ= .ok ds):fL f ρ= .ok (.lst ds):=by unfold fL;rw[h,ar]
theorem fO {N:List Kw} {names:List (Kw×LC)} {fi:af->R (List D)} {g:D->af->R af} {gt:af->R Bool} {fe:af->R D} {ρ τ:af} {ds es:List D} (h:fi ρ= .ok ds) (hl:ds.length<=lim) (hr:j0 N names ρ=τ) (hc:lD g gt fe ds τ= .ok es):
  bM N names fi g gt fe ρ= .ok es:=by
 unfold bM
 rw[h,ar,if_pos hl,hr,hc]
theorem own_of {i:Nat} {f:af->R (List D)} {ρ:af} {ds:List D} (h:f ρ= .ok ds):oB i f ρ= .ok (.nx (ρ.set i (some (.own (.lst ds))))):=by unfold oB;rw[h,ar]
theorem aX {f:af->R D} {g:D->af->R af} {ρ ρ':af} {d:D} (h:f ρ= .ok d) (h2:g d ρ= .ok ρ'):aU f g ρ= .ok (.nx ρ'):=by unfold aU;rw[h,ar,h2,ar]
theorem aZ {m:List D->R D} {n:Nat} {fs:af->R (List D)} {ρ:af} {ds:List D} {d:D} (h:fs ρ= .ok ds) (hl:ds.length=n) (hm:m ds= .ok d):aI m n fs ρ= .ok d:=Cj h hl hm
theorem aj {g:D->D->Option D} {fa fb:af->R D} {ρ:af} {a b d:D} (h:fa ρ= .ok a) (h2:fb ρ= .ok b) (h3:g a b=some d):f2 g fa fb ρ= .ok d:=by unfold f2;rw[h,ar,h2,ar,h3,gw]
end L2.Pu
namespace L2.Pu
theorem Cm (d:D):(Slot.val d).data=d:=rfl
theorem Cn (d:D):(Slot.own d).data=d:=rfl
theorem Co (d:D):(Slot.bor d).data=d:=rfl
end L2.Pu
namespace L2.Pu
open PySem PySem.Spec PyProof.Rows
variable {ly:List fz}
def kB:List (cH×D)->Option (List Int)
 |[]=>some []
 |(.inl i,_)::r=>(kB r).map (i::·)
 |(.inr _,_)::_=>none
def j5:List D->Option D
 |[.lst ds]=>(cP ds).bind λns=>if ns.length<64 then some (.lst ((cR ns).map .int))else none
 |[.dic Ui]=>(kB Ui).bind λns=>if ns.length<64 then some (.lst ((cR ns).map .int))else none
 |_=>none
theorem we {K:Ku} {F:Hp}:∀{ds:List (cH×D)} {ns:List Int} {vs:List (cH×V)},kB ds=some ns->RepK K F vs ds->vs.map (·.1)=ns.map Nu:=by
 intro ds
 induction ds with
 |nil=>intro ns vs h r;rw[r.nilI];cases h;rfl
 |cons d r ih=>
  intro ns vs h rr
  obtain⟨k,d⟩:=d
  obtain⟨v,us,rfl,_,t⟩:=rr.consI
  cases k with
  |inr i=>cases h
  |inl i=>
   replace h:(kB r).map (i::·)=some ns:=h
   cases e:kB r with
   |none=>rw[e]at h;cases h
   |some ms=>
    rw[e]at h
    cases h
    rw[KO,KO,ih e t]
def oJ (K:Ku):List V->Hp->VK->Prop:=λxs H Q=>
 (∃p ns,xs=[.ref p]/\dA K H p (ns.map V.int)/\ns.length<64/\∀l,H l=none->Q (.ref l) (b_ H l (.lst ((cR ns).map V.int))))\/
 ∃p kvs ns,xs=[.ref p]/\H p=some (.dK kvs)/\kvs.map (·.1)=ns.map Nu/\ns.length<64/\∀l,H l=none->Q (.ref l) (b_ H l (.lst ((cR ns).map V.int)))
theorem uT {X:Cx} (hc:X.calm=true):dX X (.builtin "sorted") (oJ X.K):=uD.or (uE hc)
theorem wg {K:Ku}:mO K (oJ K) j5:=by
 intro vs ds d H F Q s rv h k
 match ds,h with
 |[.lst xs],h=>exact .inl (xS vs _ d H F Q s rv h k)
 |[.dic xs],h=>
  obtain⟨v,rfl,r⟩:=rv.one
  obtain⟨a,ws,rfl,h1,h2,_⟩:=r.dic s
  replace h:((kB xs).bind λns=>if ns.length<64 then some (D.lst ((cR ns).map .int))else none)=some d:=h
  cases e:kB xs with
  |none=>rw[e]at h;cases h
  |some ns=>
   rw[e]at h
   replace h:(if ns.length<64 then some (D.lst ((cR ns).map .int))else none)=some d:=h
   split at h
   ·rename_i hl
    cases h
    refine .inr ⟨a,ws,ns,rfl,h1,we e h2,hl,λl Wd=> ?_⟩
    have e:=c8.lay (o:= .lst ((cR ns).map V.int)) s Wd
    exact k _ _ _ e (.lst aE (jX _))
   ·cases h
section
variable {X:Cx} {a b:KI} {fs:af->R (List D)} {pos p1 p2 UI:Ls}
end
end L2.Pu
namespace L2.Pu
open PySem PySem.Spec PyProof.Rows
variable {ly:List fz}
end L2.Pu
namespace L2.Pu
open PySem PySem.Spec PyProof.Rows
variable {ly:List fz}
section
variable {X:Cx} {a:KI} {fa:af->R D} {pos p1 p2 UI:Ls}
end
section
variable {K:Ku}
end
end L2.Pu
namespace L2.Pu
open PySem PySem.Spec PyProof.Rows
variable {ly:List fz}
structure jv (K:Ku) (x:Kw) (C:Kx):Prop where
 ns:KQ K KJ x=some (some (.ref C))
 cl:vG K C
theorem RepF.nilI {K:Ku} {F:Hp} {vs:List (Kw×V)} (h:RepF K F vs []):vs=[]:=by cases h;rfl
theorem RepF.consI {K:Ku} {F:Hp} {vs:List (Kw×V)} {k:Kw} {d:D} {ds:List (Kw×D)} (h:RepF K F vs ((k,d)::ds)):∃v us,vs=(k,v)::us/\dU K F v d/\RepF K F us ds:=by
 cases h with
 |cons r t=>exact⟨_,_,rfl,r,t⟩
theorem RepF.get {K:Ku} {F:Hp} {f:Kw} {d:D} {vs:List (Kw×V)} {ds:List (Kw×D)} (g:RepF K F vs ds):ds.lookup f=some d->∃v,(f,v)∈vs/\dU K F v d:=by
 induction ds generalizing vs with
 |nil=>intro h;cases h
 |cons p ds ih=>
  intro h
  obtain⟨v,us,e0,r,t⟩:=RepF.consI (k:=p.1) (d:=p.2) g
  subst e0
  rw[LX]at h
  cases e:f==p.1 with
  |true=>rw[e]at h;cases h;cases eq_of_beq e;exact⟨v,K_,r⟩
  |false=>
   rw[e]at h
   obtain⟨v',h1,h2⟩:=ih t h
   exact⟨v',L0 _ h1,h2⟩
theorem RepF.names {K:Ku} {F:Hp} {vs:List (Kw×V)} {ds:List (Kw×D)} (g:RepF K F vs ds):vs.map (·.1)=ds.map (·.1):=by
 induction ds generalizing vs with
 |nil=>rw[g.nilI];rfl
 |cons p ds ih=>
  obtain⟨v,us,e0,_,t⟩:=RepF.consI (k:=p.1) (d:=p.2) g
  rw[e0,KO,KO,ih t]
theorem gC {α:Type} {f:Kw}:∀{ds:List (Kw×α)},ds.lookup f=none->f∉ds.map (·.1)
 |[],_=>by simp
 |(k,v)::ds,h=>by
  rw[LX]at h
  cases e:f==k with
  |true=>rw[e]at h;cases h
  |false=>
   rw[e]at h
   rw[KO]
   intro z
   rcases KR.mp z with z|z
   ·rw[z]at e;simp at e
   ·exact gC h z
theorem dg.ins {K:Ku} {H F:Hp} {v:V} {x:Kw} {fds:List (Kw×D)} (s:bd F H):dg K H F v (.ins x fds)->∃a C dx fs vs,v= .ref a/\H a=some (.ins C dx fs)/\KQ K KJ x=some (some (.ref C))/\(∀p∈vs,fs.lookup p.1=some p.2)/\(∀f v,fs.lookup f=some v->f∈vs.map (·.1))/\RepF K F vs fds:=λh=>by
 obtain⟨a,C,dx,fs,vs,e,h,r⟩:=h.in rfl
 exact⟨a,C,dx,fs,vs,e,s _ _ h,r⟩
section
variable {X:Cx} {a o e:KI} {es:List KI} {fa fo:af->R D} {fs:af->R (List D)} {pos Sl p:Ls} {cls f m x:Kw} {C:Kx}
def cB (cls f:Kw) (fa:af->R D):af->R D:=λρ=>fa ρ>>=λd=>match d with
 | .ins y fds=>if y=cls then R.of (fds.lookup f)else .bad
 |_=> .bad
theorem Io (T:jv X.K cls C) (n:eC X.K C f) (ha:PB ly X a fa) (hb:Lz a f X.env (L5 a X.env)=L5 a X.env:=by rfl):PQ ly X (.Attribute a f pos) (cB cls f fa):=λc=>
 PE.weak (rF (ha c) hb) λσ H Q ⟨F,ρ,ri,w⟩=>⟨F,ρ,ri,(aN.bind.mp w).imp λd _ w1 v H1 F1 e1 r1=>by
  cases d with
  |ins y fds=>
   dsimp only at w1
   split at w1
   ·rename_i hy
    subst hy
    obtain⟨d',hd,k⟩:=w1.of
    obtain⟨a,C',dx,fs,vs,rfl,h1,h2,h3,h4,h5⟩:=r1.ins e1.sub
    have ec:C'=C:=by rw[T.ns]at h2;cases h2;rfl
    subst ec
    obtain⟨u,hu,ru⟩:=h5.get hd
    exact⟨a,C',dx,fs,u,rfl,h1,T.cl,n,h3 _ hu,k u H1 F1 e1 ru⟩
   ·exact w1.elim
  |_=>exact w1.elim⟩
structure bW (P:KW) (w:La) (K:Ku) (mg:Kw->Option Kv) (base:L4) (k:Nat) (cls m:Kw) (n:Nat) (r:List D->R D):Prop where
 ex:∃C f fd ps,fJ P w K mg base (lg P w) k f fd ps (Ah K n r)/\jv K cls C/\xq K C m f/\gf K fd ps []
def fA (cls m:Kw) (n:Nat) (r:List D->R D) (fo:af->R D) (fs:af->R (List D)):af->R D:=λρ=>fo ρ>>=λd=>match d with
 | .ins y fds=>if y=cls/\fds.lookup m=none then (fs ρ>>=λds=>if ds.length+1=n then (match r (d::ds)with| .ok z=> .ok z| .err x _=> .err x ρ| .bad=> .bad)else .bad)else .bad
 |_=> .bad
theorem yZ {c:dW ly} {r:List D->R D} {n:Nat} {σ:St} {H:Hp} {Q:VK} (T:jv X.K cls C) (h:tQ X.K c (fA cls m n r fo fs) σ H Q):Br C m (Ah X.K n r) [] (E_ X c) (tQ X.K c fo) (He X.K c fs) σ H Q:=by
 obtain⟨F,ρ,ri,w⟩:=h
 refine⟨F,ρ,ri,(aN.bind.mp w).imp λd hd w1 v H1 F1 e1 r1=> ?_⟩
 cases d with
 |ins y fds=>
  dsimp only at w1
  split at w1
  ·rename_i hy
   obtain⟨rfl,hm⟩:=hy
   obtain⟨a,C',dx,Vv,vs,rfl,h1,h2,h3,h4,h5⟩:=dg.ins e1.sub (H:=H1) (.inl r1)
   have ec:C'=C:=by rw[T.ns]at h2;cases h2;rfl
   subst ec
   have VV:Vv.lookup m=none:=by
    cases e:Vv.lookup m with
    |none=>rfl
    |some v=>
     have:=h4 m v e
     rw[h5.names]at this
     exact absurd this (gC hm)
   refine⟨a,dx,Vv,rfl,h1,VV,F1,ρ,ri.step e1,(aN.bind.mp w1).imp λds _ w2 us H2 F2 e2 r2=> ?_⟩
   show Ah X.K n r (V.ref a::(us++[])) H2 Q (E_ X c σ)
   rw[M5]
   split at w2
   ·rename_i hl
    refine⟨by rw[L6,r2.length];exact hl,F2,_,e2.sub, .cons (r1.mono e2.grow) r2,?_⟩
    split at w2
    ·rename_i z hz
     try rw[hz]
     exact λv H' F' e' r'=>w2 v H' F' ((e1.trans e2).trans e') r'
    ·rename_i z _ hz
     try rw[hz]
     exact λcls a H' F' ec e'=>⟨_,ρ,F',ec,ri.step ((e1.trans e2).trans e'),w2⟩
    ·exact w2.elim
   ·exact w2.elim
  ·exact w1.elim
 |_=>exact w1.elim
theorem pP {k n:Nat} {r:List D->R D} {pl:N_ Bool} (G:bW X.prog X.w X.K X.mg X.base k cls m n r) (hr:cW k X.A) (ho:PQ ly X o fo) (ha:vz ly X (e::es) fs)
  (V2:KC (e::es) X.env=(false,L5 e X.env)::KC es X.env:=by rfl) (Tq:(Ll pos (KC es X.env)).any (·.1)=false:=by rfl)
  (ht:L5 (.Call (.Attribute o m Sl) (e::es) [] pos) X.env=(do
   let ov<-L5 o X.env
   M_ Sl.atName
   let (f,first)<-Mx [ov] (Nj ov m pl)
   O4 pos f first (Ll pos (KC (e::es) X.env)) (Mu pos (M4 [] X.env))):=by rfl):
  PQ ly X (.Call (.Attribute o m Sl) (e::es) [] pos) (fA cls m n r fo fs):=by
 obtain⟨C,f,fd,ps,h1,h2,h3,h4⟩:=G.ex
 exact λc=>PE.weak (yC (pl:=pl) (ho c) h2.cl h3 h1 hr h4 .nil (oA c) (ha c) V2 Tq ht) λσ H Q h=>yZ h2 h
theorem oK {k n:Nat} {r:List D->R D} {pl:N_ Bool} (G:bW X.prog X.w X.K X.mg X.base k cls m n r) (hr:cW k X.A) (ho:PQ ly X o fo)
  (ht:L5 (.Call (.Attribute o m Sl) [] [] pos) X.env=(do
   let ov<-L5 o X.env
   M_ Sl.atName
   let (f,first)<-Mx [ov] (Nj ov m pl)
   O4 pos f first (Ll pos (KC [] X.env)) (Mu pos (M4 [] X.env))):=by rfl):
  PQ ly X (.Call (.Attribute o m Sl) [] [] pos) (fA cls m n r fo ai):=by
 obtain⟨C,f,fd,ps,h1,h2,h3,h4⟩:=G.ex
 refine λc=>PE.weak (vH (pl:=pl) (ho c) h2.cl h3 h1 hr h4 .nil (oA c) ht) λσ H Q h=> ?_
 obtain⟨F,ρ,ri,w⟩:=yZ h2 h
 refine⟨F,ρ,ri,w.imp λd _ k v H1 F1 e1 r1=> ?_⟩
 obtain⟨a,dx,Vv,g1,g2,g3,F2,ρ2,WW,w2⟩:=k v H1 F1 e1 r1
 exact⟨a,dx,Vv,g1,g2,g3,w2 [] H1 F2 (c8.refl WW.sub) .nil⟩
theorem aP.ghost {S4:List (Kx×Lk)} {σ:St} {H:Hp} {s:Ky} (I:aP X S4 σ H s) {i:Nat} {g:Kw} {v:Option V} (hi:X.N[i]? =some g) (hv:¬pz X.env.scope g):aP X S4 (σ.set i v) H s:=by
 refine {I with loc:= ?_,len:=by rw[Oi];exact I.len}
 obtain⟨mm,h1,h2⟩:=I.loc
 refine⟨mm,h1,λj x u e1 e2 e3=> ?_⟩
 by_cases z:i=j
 ·subst z
  rw[hi]at e1
  cases e1
  exact absurd e3 hv
 ·rw[ao z]at e2
  exact h2 j x u e1 e2 e3
def Ip (K:Ku) (i:Nat) (ta tv:TE) (f:Kw):TS:=λD σ H=>tv σ H λy H1=>ta σ H1 λx H2=>∃a C dx fs,x= .ref a/\H2 a=some (.ins C dx fs)/\vG K C/\eC K C f/\fs.length<1000/\
 D.nx (σ.set i (some y)) (b_ H2 a (.ins C dx (ij f y fs)))
theorem y_ {value:KI} {Ss:Ls} {ta tv:TE} {g:Kw} (i:Nat) (hi:X.N[i]? =some g) (hvis:¬pz X.env.scope g) (ha:PE X o ta) (hv:PE X value tv) (hs:LI value (some (.Attribute o f Ss)) pos.line X.env=pure false):
  PS X (.Assign [.Attribute o f Ss] value pos) (Ip X.K i ta tv f):=by
 intro S4 s σ H D I h
 refine Oa (cV (hv S4 s σ H _ I h) λu s1 z=> ?_) hs
 obtain⟨y,H1,I1,ry,q⟩:=z
 refine cV (ha S4 s1 σ H1 _ I1 q) λov s2 z=> ?_
 obtain⟨x,H2,I2,rx,a,C,dx,fs,ex,ea,c,n,l,q2⟩:=z
 subst ex
 obtain rfl:ov=Lh a:=rx
 exact rE I2 ea c n l ry λs3 I3=>⟨_,_,L2.Pu.aP.ghost I3 hi hvis,q2⟩
theorem ua (f:Kw) (v:V):∀fs:List (Kw×V),(ij f v fs).map (·.1)=if f∈fs.map (·.1)then fs.map (·.1)else fs.map (·.1)++[f]
 |[]=>rfl
 |(g,x)::r=>by
  show (if g=f then (g,v)::r else (g,x)::ij f v r).map (·.1)=_
  by_cases e:g=f
  ·subst e;simp
  ·rw[if_neg e,KO,ua f v r]
   by_cases h:f∈r.map (·.1)
   ·rw[if_pos h,if_pos (by rw[KO];exact L0 _ h)];rfl
   ·rw[if_neg h,if_neg (by rw[KO];intro z;exact(KR.mp z).elim (λq=>e q.symm) h)];rfl
theorem uU (f:Kw) (v:V) {fs:List (Kw×V)} (h:(fs.map (·.1)).Nodup):((ij f v fs).map (·.1)).Nodup:=by
 rw[ua]
 split
 ·exact h
 ·rename_i hf
  refine Nb.mpr ⟨h,by simp,λa ha b hb=> ?_⟩
  rw[KU.mp hb]
  intro z;subst z;exact hf ha
theorem h_ {α:Type} [DecidableEq α]:∀{l m:List α},l.Nodup->(∀x∈l,x∈m)->l.length<=m.length
 |[],_,_,_=>Ml _
 |a::l,m,h,s=>by
  obtain⟨h1,h2⟩:=N2.mp h
  have ha:=s a K_
  have:=h_ (m:=m.erase a) h2 λx hx=>(List.mem_erase_of_ne (λz=>h1 (by rw[<-z];exact hx))).mpr (s x (L0 _ hx))
  rw[List.length_erase_of_mem ha]at this
  have hp:0<m.length:=List.length_pos_of_mem ha
  rw[L6]
  omega
theorem kC {α:Type} {f:Kw}:∀{fs:List (Kw×α)},f∈fs.map (·.1)->∃v,fs.lookup f=some v
 |(g,x)::r,h=>by
  rw[LX]
  cases e:f==g with
  |true=>exact⟨x,rfl⟩
  |false=>
   rw[KO]at h
   rcases KR.mp h with z|z
   ·rw[z]at e;simp at e
   ·exact kC z
theorem RI.fld {K:Ku} {c:dW ly} {ρ:af} {σ:St} {H F:Hp} (r:RI K c ρ σ H F) {L:fz} (hL:L∈ly) (hρ:ρ[L.x]? =some (some .obj)) {a dx:Kx} {fs:List (Kw×V)} {i:Nat} (hx:σ[L.x]? =some (some (.ref a))) (ha:H a=some (.ins L.C dx fs)) (hf:(f,i)∈L.fl)
  (hn:∀p∈L.fl,p.1=f<->p.2=i) (Y3:L.x≠i) (Wm:∀M∈ly,M≠L->M.x≠i/\∀p∈M.fl,p.2≠i) {v:V} {d:D} (hd:dU K F v d) (Xb:i<σ.length):
  RI K c (ρ.set i (some (.val d))) (σ.set i (some v)) (b_ H a (.ins L.C dx (ij f v fs))) F:=by
 obtain⟨b,XD,Vv,k0,k1,k2,k3,k4,k5,k6,k7,k8,k9,Yk⟩:=r.obj L hL hρ
 rw[hx]at k1
 cases k1
 rw[ha]at k2
 cases k2
 have Ur:∀{b:Kx} {o:HO},H b=some o->iW K F o d->b≠a:=λ{b o} e q z=>by subst z;rw[ha]at e;cases e;cases q
 refine⟨⟨λx y e=> ?_,λx y e=> ?_,r.ext.grow,r.ext.new⟩,λj e q=> ?_,λj e q=> ?_,λj e q=> ?_,r.bh,λj k e e' x q1 q2 q3 q4=> ?_,by simp[r.len],λM hM hq=> ?_,λM hM M' Y4 YT YU x q1 q2=> ?_,r.fm, .no λj x Sf g hs w=> ?_,λM hM a h=> ?_⟩
 ·rw[az (λz=>by rw[z,k4]at e;cases e)];exact r.sub x y e
 ·rw[az (λz=>by rw[z,k6]at e;cases e)];exact r.ext.keep x y e
 ·rcases aA q with ⟨rfl,z,l⟩|⟨z,q⟩
  ·cases z;exact⟨v,gu Xb,hd⟩
  ·rw[ao z];exact r.val j e q
 ·rcases aA q with ⟨rfl,z,l⟩|⟨z,q⟩
  ·cases z
  ·obtain⟨x,o,g1,g2,g3,g4,g5⟩:=r.own j e q
   have nx:x≠a:=λz=>by subst z;rw[ha]at g2;cases g2;cases g5
   exact⟨x,o,by rw[ao z];exact g1,by rw[az nx];exact g2,g3,g4,g5⟩
 ·rcases aA q with ⟨rfl,z,l⟩|⟨z,q⟩
  ·cases z
  ·rw[ao z];exact r.bor j e q
 ·rcases aA q1 with ⟨rfl,z,l⟩|⟨z,q1⟩
  ·cases z
  ·rcases aA q2 with ⟨rfl,z',l⟩|⟨z',q2⟩
   ·cases z'
   ·rw[ao z]at q3;rw[ao z']at q4
    exact r.dis j k e e' x q1 q2 q3 q4
 ·by_cases VF:M=L
  ·subst VF
   refine⟨a,dx,ij f v fs,k0,by rw[ao Y3.symm];exact hx,aE,?_,k4,k5,k6,k7,λp hp=> ?_,λg u hu=> ?_,uU _ _ Yk⟩
   ·rw[az (λz=>by rw[z,ha]at k3;cases k3)];exact k3
   ·rw[de]
    by_cases e:p.1=f
    ·rw[if_pos e,(hn p hp).mp e,gu Xb];rfl
    ·rw[if_neg e,ao (λz=>e ((hn p hp).mpr z.symm))];exact k8 p hp
   ·rw[de]at hu
    by_cases e:g=f
    ·subst e;exact Mv.mpr ⟨_,hf,rfl⟩
    ·rw[if_neg e]at hu;exact k9 g u hu
  ·have ho:=Wm M hM VF
   rw[ao ho.1.symm]at hq
   obtain⟨b,dy,gs,g0,g1,g2,g3,g4,g5,g6,g7,g8,g9⟩:=r.obj M hM hq
   have nb:b≠a:=λz=>VF (r.odis M hM L hL hq hρ a (by rw[<-z];exact g1) hx)
   have nd:dy≠a:=λz=>by subst z;rw[ha]at g3;cases g3
   refine⟨b,dy,gs,g0,by rw[ao ho.1.symm];exact g1,by rw[az nb];exact g2,by rw[az nd];exact g3,g4,g5,g6,g7,λp hp=> ?_,g9⟩
   rw[ao (ho.2 p hp).symm];exact g8 p hp
 ·have Xs:∀M∈ly,M.x≠i:=λM hM=>by
   by_cases VF:M=L
   ·subst VF;exact Y3
   ·exact(Wm M hM VF).1
  rw[ao (Xs M hM).symm]at q1 YT
  rw[ao (Xs M' Y4).symm]at q2 YU
  exact r.odis M hM M' Y4 YT YU x q1 q2
 ·rcases aA w with ⟨rfl,z,l⟩|⟨z,w⟩
  ·cases z
  ·have:=r.cel.one j L.x x Sf g hs .obj w hρ rfl
   subst this
   rw[hρ]at w
   cases w
 ·have Xs:M.x≠i:=by
   by_cases VF:M=L
   ·subst VF;exact Y3
   ·exact(Wm M hM VF).1
  rw[ao Xs.symm];exact r.pin M hM a h
def oM (x:Nat) (g:af->R br):af->R br:=λρ=>match ρ[x]? with
 |some (some .obj)=>g ρ
 |_=> .bad
theorem Ec {c:dW ly} {x:Nat} {g:af->R br} {ρ:af} {P:br->Prop} (w:aN c (oM x g ρ) P):ρ[x]? =some (some .obj)/\aN c (g ρ) P:=by
 unfold oM at w
 split at w
 ·rename_i h;exact⟨h,w⟩
 ·exact w.elim
structure Cp (ly:List fz) (L:fz) (f:Kw) (i:Nat):Prop where
 mem:L∈ly
 fl:(f,i)∈L.fl
 un:∀p∈L.fl,p.1=f<->p.2=i
 x:L.x≠i
 oth:∀M∈ly,M≠L->M.x≠i/\∀p∈M.fl,p.2≠i
 few:L.fl.length<1000
theorem jG {value:KI} {Ss px:Ls} {fv:af->R D} {y g:Kw} {L:fz} (i:Nat) (hC:vG X.K L.C) (n:eC X.K L.C f) (A:Cp ly L f i) (hv:PQ ly X value fv) (hN:X.N[L.x]? =some y:=by rfl) (a0j:pz X.env.scope y:=by first|exact Lx rfl|exact Lj (Lx rfl)|exact Lj (Lj rfl)) (hd:(y==("__debug__":Kw))=false:=by decide)
  (Tu:(y==("__classdict__":Kw))=false:=by decide) (hi:X.N[i]? =some g:=by rfl) (hvis:¬pz X.env.scope g:=by decide+kernel) (hs:LI value (some (.Attribute (.Name y px) f Ss)) pos.line X.env=pure false:=by rfl):
  mP ly X (.Assign [.Attribute (.Name y px) f Ss] value pos) (oM L.x (aU fv (gN i))):=λc S4 s σ H D I q=>by
 refine y_ i hi hvis (pv L.x hN a0j hd Tu) (hv c) hs S4 s σ H D I ?_
 obtain⟨F,ρ,ri,w⟩:=q
 obtain⟨hρ,w⟩:=Ec w
 refine⟨F,ρ,ri,(aN.bind.mp w).imp λd _ w1 v H1 F1 e1 r1=> ?_⟩
 have VG:=ri.step e1
 obtain⟨a,dx,fs,h0,h1,h2,h3,h4,h5,h6,h7,h8,h9,Yl⟩:=VG.obj L A.mem hρ
 have Xb:i<σ.length:=by rw[I.len];exact(L3.mp hi).1
 have Sq:fs.length<1000:=by
  have:=h_ (m:=L.fl.map (·.1)) Yl λx hx=>by
   obtain⟨v,e⟩:=kC hx
   exact h9 x v e
  rw[KA,KA]at this
  exact OA this A.few
 refine⟨.ref a,h1,a,L.C,dx,fs,rfl,h2,hC,n,Sq,?_⟩
 exact w1 _ _ F1 e1.grow (VG.fld A.mem hρ h1 h2 A.fl A.un A.x A.oth r1 Xb)
end
end L2.Pu
namespace L2.Pu
open PySem PySem.Spec PyProof.Rows
variable {ly:List fz}
section
variable {X:Cx} {pos px:Ls} {f y:Kw}
def JX (x:Nat) (g:af->R D):af->R D:=λρ=>match ρ[x]? with
 |some (some .obj)=>g ρ
 |_=> .bad
end
def dZ:List (Kw×Nat)->af->Option (List (Kw×D))
 |[],_=>some []
 |p::r,ρ=>match ρ[p.2]? with
  |some (some (.val d))=>(dZ r ρ).map λt=>(p.1,d)::t
  |_=>none
def jH (n:Nat) (ds:List D):af:=some Slot.obj::cY n ds
def Ap (fl:List (Kw×Nat)) (ρ:af):R (List (Kw×D)):=match ρ[0]? with
 |some (some Slot.obj)=>R.of (dZ fl ρ)
 |_=> .bad
def mD (k n:Nat) (fl:List (Kw×Nat)) (g:af->R br) (ds:List D):R (List (Kw×D)):=if ds.length=k then g (jH n ds)>>=λo=>match o with
 | .nx ρ=>Ap fl ρ
 |_=> .bad else .bad
def Cq (K:Ku) (C:Kx) (cls:Kw) (k:Nat) (mi:List D->R (List (Kw×D))):Sp:=λvs H Q E=>∃F x dx us ds Hz,vs= .ref x::us/\us.length=k/\bd F Hz/\Hz x=none/\Hz dx=none/\dx≠x/\H=b_ (b_ Hz dx (.own x)) x (.ins C dx [])/\Reps K F us ds/\match mi ds with
 | .ok fds=>∀H' F',c8 Hz F H' F'->dU K F' (.ref x) (.ins cls fds)->Q .non H'
 | .err z _=>∀ec a H' F',eO K z ec->c8 Hz F H' F'->E ec a H'
 | .bad=>False
theorem nK {K:Ku} {c:dW ly} {ρ:af} {σ:St} {H F:Hp} (ri:RI K c ρ σ H F) {fs:List (Kw×V)}:∀{fl:List (Kw×Nat)} {fds:List (Kw×D)},dZ fl ρ=some fds->(∀p∈fl,fs.lookup p.1=(σ[p.2]?).join)->
  ∃vs:List (Kw×V),RepF K F vs fds/\vs.map (·.1)=fl.map (·.1)/\∀p∈vs,fs.lookup p.1=some p.2
 |[],fds,h,_=>by cases h;exact⟨[], .nil,rfl,λp hp=>by cases hp⟩
 |p::fl,fds,h,hl=>by
  unfold dZ at h
  split at h
  ·rename_i d hd
   cases e:dZ fl ρ with
   |none=>rw[e]at h;cases h
   |some t=>
    rw[e]at h
    cases h
    obtain⟨vs,h1,h2,h3⟩:=nK ri e λq hq=>hl q (L0 _ hq)
    obtain⟨v,g1,g2⟩:=ri.val _ d hd
    refine⟨(p.1,v)::vs, .cons g2 h1,by rw[KO,KO,h2],λq hq=> ?_⟩
    rcases KR.mp hq with rfl|hq
    ·have:=hl p K_
     rw[this,g1];rfl
    ·exact h3 q hq
  ·cases h
theorem ub {K:Ku} {N:List Kw} {C x dx:Kx} {fl:List (Kw×Nat)} {Hz F:Hp} {us:List V} {ds:List D} {Er:Kw->af->Prop} {n:Nat} (hn:N.length=n+1) (s:bd F Hz) (hx:Hz x=none) (YV:Hz dx=none) (Ur:dx≠x) (r:Reps K F us ds) (a0S:us.length<=n) (hg:∀p∈fl,us.length<p.2):
  RI K (⟨Hz,F,λ_=>none,Er,λ_=>some x,λ_=>none⟩:dW [⟨0,C,fl⟩]) (jH n ds) (dC N (.ref x::us)) (b_ (b_ Hz dx (.own x)) x (.ins C dx [])) F:=by
 have keep:bd Hz (b_ (b_ Hz dx (.own x)) x (.ins C dx [])):=(cX YV).trans (cX (by rw[az (Mn Ur)];exact hx))
 have hv:∀(i:Nat) sl,(jH n ds)[i]? =some (some sl)->(i=0/\sl= .obj)\/∃j d,i=j+1/\ds[j]? =some d/\sl= .val d:=λi sl h=>by
  cases i with
  |zero=>exact .inl ⟨rfl,by cases h;rfl⟩
  |succ j=>
   have h':(cY n ds)[j]? =some (some sl):=h
   refine .inr ?_
   unfold cY at h'
   rw[Np]at h'
   split at h'
   ·rw[L8]at h'
    cases e:ds[j]? with
    |none=>rw[e]at h';cases h'
    |some d=>rw[e]at h';simp at h';exact⟨j,d,rfl,e,h'.symm⟩
   ·rw[Mh]at h'
    split at h'<;>simp at h'
 have WB:(dC N (V.ref x::us))[0]? =some (some (V.ref x)):=rfl
 refine⟨⟨s.trans keep,keep,bd.refl _,λ_ h=> .inl h⟩,λi d h=> ?_,λi d h=> ?_,λi d h=> ?_,(λb o e=>by cases e),λi j d d' a h=> ?_,?_,λL hL _=> ?_,λL hL L' Vy _ _ a _ _=> ?_,(λ_ _ e=>by cases e), .no λi x Sf f hs h=>(by obtain⟨_,z⟩|⟨j,d',_,_,z⟩:=hv i _ h<;>cases z),λL hL a h=>by rw[KU.mp hL];cases h;exact WB⟩
 ·obtain⟨rfl,z⟩|⟨j,d',rfl,e,z⟩:=hv i _ h
  ·cases z
  cases z
  obtain⟨v,h1,h2⟩:=r.get e
  refine⟨v,?_,h2⟩
  unfold dC
  have hl:j<us.length:=(L3.mp h1).1
  rw[Mq (by simpa using hl),L8]
  show (us[j]?).map some=_
  rw[h1]
  rfl
 ·obtain⟨_,z⟩|⟨j,d',_,_,z⟩:=hv i _ h<;>cases z
 ·obtain⟨_,z⟩|⟨j,d',_,_,z⟩:=hv i _ h<;>cases z
 ·obtain⟨_,z⟩|⟨j,d',_,_,z⟩:=hv i _ h<;>cases z
 ·simp only[jH,cY,dC,L6,Lp,KA,O9,hn]
  have:=r.length
  omega
 ·rw[KU.mp hL]
  refine⟨x,dx,[],(λb hb=>by cases hb;rfl),WB,aE,?_,s.free hx,s.free YV,hx,YV,λp hp=> ?_,(λf v h=>by cases h),RM⟩
  ·rw[az Ur];exact aE
  ·have XA:=hg p hp
   show none=_
   unfold dC
   rw[Nr (by simp;omega),Mh]
   split<;>rfl
 ·rw[KU.mp hL,KU.mp Vy]
theorem Ed {K:Ku} {C:Kx} {cls:Kw} {fl:List (Kw×Nat)} {c:dW [⟨0,C,fl⟩]} {ρ:af} {σ:St} {H F:Hp} {fds:List (Kw×D)} {x:Kx} (ri:RI K c ρ σ H F) (hρ:ρ[0]? =some (some .obj)) (a0k:c.oa 0=some x) (Wi:KQ K KJ cls=some (some (.ref C))) (h:dZ fl ρ=some fds):
  ∃F',c8 c.H0 c.F0 H F'/\dU K F' (.ref x) (.ins cls fds):=by
 obtain⟨a,dx,fs,h0,h1,h2,h3,h4,h5,h6,h7,h8,h9,Yl⟩:=ri.obj _ (KU.mpr rfl) hρ
 cases h0 x a0k
 obtain⟨vs,g1,g2,g3⟩:=nK ri h h8
 have Ur:dx≠x:=λz=>by rw[z,h2]at h3;cases h3
 have s1:bd F (b_ F dx (.own x)):=cX h5
 have s2:bd (b_ F dx (.own x)) (b_ (b_ F dx (.own x)) x (.ins C dx fs)):=cX (by rw[az (Mn Ur)];exact h4)
 have sF:=s1.trans s2
 refine⟨b_ (b_ F dx (.own x)) x (.ins C dx fs),⟨λb u e=> ?_,ri.ext.keep,ri.ext.grow.trans sF,λb e=> ?_⟩, .ins aE (by rw[az Ur];exact aE) Wi g3 (λf v e=>by rw[g2];exact h9 f v e) (g1.mono sF)⟩
 ·by_cases z:b=x
  ·subst z;rw[aE]at e;rw[<-e];exact h2
  ·rw[az z]at e
   by_cases z2:b=dx
   ·subst z2;rw[aE]at e;rw[<-e];exact h3
   ·rw[az z2]at e;exact ri.sub b u e
 ·by_cases z:b=x
  ·subst z;exact .inr h6
  ·rw[az z]at e
   by_cases z2:b=dx
   ·subst z2;exact .inr h7
   ·rw[az z2]at e;exact ri.ext.new b e
theorem Ee {P:KW} {w:La} {K:Ku} {mg:Kw->Option Kv} {base:L4} {x qual cls:Kw} {st:L9} {f C:Kx} {fd:M0} {N ps:List Kw} {k n m:Nat} {fl:List (Kw×Nat)} {g:af->R br} (F:yK K x qual st f fd) (S:aB N ps (ak st))
  (Wi:KQ K KJ cls=some (some (.ref C))) (hn:ps.length=n+1) (hm:N.length=m+1) (hg:∀p∈fl,n<p.2) (Xl:n<=m)
  (Sw:∀(Sb:Kv) (A:Lg) (outer:List Mm) (s:Ky) (H:Hp) (E:XK),cW k (A.deeper (Mp qual (ak st) s.heap.objs.size f Sb))->
   jE [⟨0,C,fl⟩] (iU (lg P w) P w K mg base N qual (ak st) f Sb A outer s H E) (bK st) g):fJ P w K mg base (lg P w) (k+1) f fd ps (Cq K C cls n (mD n m fl g)):=by
 refine Ie F S (λvs H Q E h=> ?_) (λSb A outer s H vs Q E hr h=> ?_)
 ·obtain⟨Fz,y,dy,us,ds,Hz,rfl,hl,_⟩:=h
  rw[L6,hl,hn]
 ·obtain⟨Fz,y,dy,us,ds,Hz,rfl,hl,sub,hy,YW,Ur,rfl,r,w⟩:=h
  refine⟨_,Sw Sb A outer s _ E hr ⟨⟨Hz,Fz,λ_=>none,λz _=>∀ec a H' F',eO K z ec->c8 Hz Fz H' F'->E ec a H',λ_=>some y,λ_=>none⟩,r_ λz ρ er ec a H' F' σ hc ri=>er ec a H' F' hc ri.ext⟩,?_⟩
  refine⟨Fz,jH m ds,ub hm sub hy YW Ur r (by omega) (λp hp=>by rw[hl];exact hg p hp),?_⟩
  have hd:ds.length=n:=by rw[<-r.length];exact hl
  unfold mD at w
  rw[if_pos hd]at w
  cases e:g (jH m ds)with
  |bad=>rw[e]at w;exact w.elim
  |err c ρ=>rw[e]at w;exact w
  |ok o=>
   rw[e]at w
   cases o with
   |nx ρ=>
    intro σ' H' F' _ Tt
    rw[ar]at w
    split at w
    ·rename_i fds hf
     replace hf:Ap fl ρ= .ok fds:=hf
     unfold Ap at hf
     split at hf
     ·rename_i hρ
      cases e2:dZ fl ρ with
      |none=>rw[e2]at hf;cases hf
      |some a1W=>
       rw[e2]at hf
       cases hf
       obtain⟨F2,x1,x2⟩:=Ed Tt hρ rfl Wi e2
       exact w H' F2 x1 x2
     ·cases hf
    ·rename_i z ρe hf
     replace hf:Ap fl ρ= .err z ρe:=hf
     unfold Ap at hf
     split at hf
     ·cases e2:dZ fl ρ<;>rw[e2]at hf<;>cases hf
     ·cases hf
    ·exact w.elim
   |_=>exact w.elim
structure gX (P:KW) (w:La) (K:Ku) (mg:Kw->Option Kv) (base:L4) (k:Nat) (cls:Kw) (n:Nat) (mi:List D->R (List (Kw×D))):Prop where
 ex:∃C f fd ps,fJ P w K mg base (lg P w) k f fd ps (Cq K C cls n mi)/\mg cls=some (.ref C)/\Mk K C f/\gf K fd ps []
section
variable {X:Cx} {e:KI} {es:List KI} {fs:af->R (List D)} {cls:Kw} {p pos:Ls}
def lM (cls:Kw) (n:Nat) (mi:List D->R (List (Kw×D))) (fs:af->R (List D)):af->R D:=λρ=>fs ρ>>=λds=>if ds.length=n then (match mi ds with| .ok fds=> .ok (.ins cls fds)| .err x _=> .err x ρ| .bad=> .bad)else .bad
theorem nL {k n:Nat} {mi:List D->R (List (Kw×D))} (G:gX X.prog X.w X.K X.mg X.base k cls n mi) (hr:cW (k+1) X.A) (ha:vz ly X (e::es) fs) (hg:Gl X cls:=by rfl) (TX:(cls==("__debug__":Kw))=false:=by decide)
  (he:KC (e::es) X.env=(false,L5 e X.env)::KC es X.env:=by rfl) (Tq:(Ll pos (KC es X.env)).any (·.1)=false:=by rfl):PQ ly X (.Call (.Name cls p) (e::es) [] pos) (lM cls n mi fs):=by
 obtain⟨C,f,fd,ps,h1,h2,h3,h4⟩:=G.ex
 refine λc=>PE.weak (yD h3 h1 hr hg h2 h4 .nil (oA c) (ha c) TX he Tq) λσ H Q ⟨F,ρ,ri,w⟩=>⟨F,ρ,ri,(aN.bind.mp w).imp λds _ w1 vs H1 F1 e1 r1 x dx hx YV Ur=> ?_⟩
 rw[M5]
 split at w1
 ·rename_i hl
  refine⟨F1,x,dx,vs,ds,H1,rfl,by rw[r1.length];exact hl,e1.sub,hx,YV,Ur,rfl,r1,?_⟩
  split at w1
  ·rename_i fds hm
   exact λH' F' e' r'=>⟨rfl,w1 _ H' F' (e1.trans e') r'⟩
  ·exact λec a H' F' hc e'=>⟨_,ρ,F',hc,ri.step (e1.trans e'),w1⟩
  ·exact w1.elim
 ·exact w1.elim
end
end L2.Pu
namespace L2.Pu
open PySem PySem.Spec PyProof.Rows
variable {ly:List fz}
section
variable {X:Cx} {e:KI} {es:List KI} {fs:af->R (List D)} {x:Kw} {np Sh pos:Ls}
structure cI (K:Ku) (mg:Kw->Option Kv) (x:Kw):Prop where
 ex:∃C,KQ K KJ x=some (some (.ref C))/\mg x=some (.ref C)/\uI K C
def cK (x:Kw) (fs:af->R (List D)):af->R br:=λρ=>fs ρ>>=λds=>if ds.length<=lim then .err x ρ else .bad
theorem Cr {c:iX ly X} {C:Kx} {σ:St} {H:Hp} {D:o7} {ρ:af} {F:Hp} (Wi:KQ X.K KJ x=some (some (.ref C)))
  (Y0:∀S4 σ ρ H F s a cls x,aP X S4 σ H s->RI X.K c.1 ρ σ H F->Fl X S4 H s.heap a cls->eO X.K x cls->c.1.Er x ρ->X.xe (.ref a) s)
  (ri:RI X.K c.1 ρ σ H F) (w:aN c.1 (cK x fs ρ) (i6 X.K c.1 F D)):BQ X C (He X.K c.1 fs) D σ H:=by
 refine⟨F,ρ,ri,(aN.bind.mp w).imp λds _ w1 vs H1 F1 e1 r1=> ?_⟩
 split at w1
 ·rename_i hl
  exact⟨Lq (by rw[r1.length];exact hl) gz,λS4 s a I fl=>Y0 S4 σ ρ H1 F1 s a _ x I (ri.step e1) fl ⟨C,rfl,Wi⟩ w1⟩
 ·exact w1.elim
theorem Ct {c:dW ly} {ρ:af} {F:Hp} {D:o7} (no:∀x ρ,¬c.Er x ρ) (w:aN c (cK x fs ρ) (i6 X.K c F D)):False:=by
 unfold cK at w
 cases h:fs ρ with
 |bad=>rw[h]at w;exact w
 |err y ρ'=>rw[h]at w;exact no _ _ w
 |ok ds=>
  rw[h,ar]at w
  split at w
  ·exact no _ _ w
  ·exact w
theorem du (k:cI X.K X.mg x) (hc:X.calm=true) (ha:vz ly X (e::es) fs) (hg:Gl X x:=by rfl) (TX:(x==("__debug__":Kw))=false:=by decide)
  (he:KC (e::es) X.env=(false,L5 e X.env)::KC es X.env:=by rfl) (Tq:(Ll Sh (KC es X.env)).any (·.1)=false:=by rfl) (V2:X.stack=X.env::X.outer:=by rfl):mP ly X (.Raise (some (.Call (.Name x np) (e::es) [] Sh)) none pos) (cK x fs):=by
 obtain⟨C,h1,h2,h3⟩:=k.ex
 intro c S4 s σ H D I q
 obtain⟨F,ρ,ri,w⟩:=q
 rcases c.2.plain V2 with ⟨hp,Y0⟩|no
 ·exact BR h3 h2 hp hc (ha c) hg TX he Tq S4 s σ H D I (Cr h1 Y0 ri w)
 ·exact(Ct (X:=X) no w).elim
end
def Iq (i:Nat):br->br
 | .nx ρ=> .nx (ρ.set i none)
 | .brk ρ=> .brk (ρ.set i none)
 | .cnt ρ=> .cnt (ρ.set i none)
 | .ret d=> .ret d
 | .retc d ρ=> .retc d (ρ.set i none)
def wj (i:Nat) (sub:Kw->Bool) (gh:af->R br) (x:Kw) (ρ:af):R br:=if sub x=true then (match gh (ρ.set i (some (.val (.exc x))))with
 | .ok o=> .ok (Iq i o)
 |_=> .bad)else .bad
def Aq (i:Nat) (sub:Kw->Bool) (g gh:af->R br):af->R br:=λρ=>match g ρ with
 | .err x ρ'=>wj i sub gh x ρ'
 |r=>r
section
variable {X:Cx} {S4:List (Kx×Lk)} {σ:St} {H:Hp} {s:Ky}
abbrev _root_.L2.Cx.inT (X:Cx) (E:Kv->Ky->Prop) (pn:List (Kx×Lk)):Cx:={X with xe:=E,pn:=pn}
theorem Kk {E:Kv->Ky->Prop} {pn:List (Kx×Lk)} (ok:X.Ok):(X.inT E pn).Ok:=
 ⟨ok.mod,ok.kind,ok.glob,ok.blt,ok.above,ok.inj,ok.has,ok.cab,ok.hd,ok.frames,ok.stk,ok.exf,ok.bs,ok.bsz,ok.noex,ok.exfs,ok.funs,ok.frf⟩
theorem inT {E:Kv->Ky->Prop} (I:aP X S4 σ H s):aP (X.inT E (X.pn++S4)) [] σ H s:=⟨Kk I.ok,I.os,I.bare,I.base,I.loc,I.cell,I.free,I.freeC,λp hp=>I.pin p (by simpa using hp),I.hok,I.len⟩
theorem Cu {E:Kv->Ky->Prop} {Uq:List (Kx×Lk)} (ok:X.Ok) (I:aP (X.inT E (X.pn++S4)) Uq σ H s):aP X S4 σ H s:=⟨ok,I.os,I.bare,I.base,I.loc,I.cell,I.free,I.freeC,λp hp=>I.pin p (LU _ hp),I.hok,I.len⟩
theorem newT {E:Kv->Ky->Prop} {Uq:List (Kx×Lk)} {b:Kx} (n:xK (X.inT E (X.pn++S4)) Uq H b):xK X S4 H b:=⟨n.s0,n.no,λp hp=>n.pin p (LU _ hp)⟩
theorem Kl {E:Kv->Ky->Prop} {Uq:List (Kx×Lk)} {h:L4} {a:Kx} {cls:Kv} (f:Fl (X.inT E (X.pn++S4)) Uq H h a cls):Fl X S4 H h a cls:=by
 obtain⟨oe,vs,h1,h2,h3,h4⟩:=f.at_
 refine⟨newT f.new,oe,vs,h1,h2,h3,h4.imp id λ⟨T,fl,e,t,hf⟩=>⟨T,fl,e,⟨newT t.new,t.ne,t.at_⟩,hf⟩⟩
theorem Km {E:Kv->Ky->Prop} {D:o7} {f:Flow} (ok:X.Ok) (h:SP (X.inT E (X.pn++S4)) [] D f s):SP X S4 D f s:=by
 cases f with
 |next=>obtain⟨σ',H',I,q⟩:=h;exact⟨σ',H',Cu ok I,q⟩
 |brk=>obtain⟨σ',H',I,q⟩:=h;exact⟨σ',H',Cu ok I,q⟩
 |cont=>obtain⟨σ',H',I,q⟩:=h;exact⟨σ',H',Cu ok I,q⟩
 |ret u=>obtain⟨v,σ',H',I,r,q⟩:=h;exact⟨v,σ',H',Cu ok I,r,q⟩
end
section
variable {K:Ku} {c:dW ly} {ρ:af} {σ:St} {H F:Hp}
def dW.er (c:dW ly) (F:Hp) (Er:Kw->af->Prop):dW ly:=⟨c.H0,c.F0,c.B,Er,c.oa,F⟩
theorem RI.er {Er:Kw->af->Prop} (r:RI K c ρ σ H F):RI K (c.er F Er) ρ σ H F:=⟨r.ext,r.val,r.own,r.bor,r.bh,r.dis,r.len,r.obj,r.odis,bd.refl _,r.cel,r.pin⟩
theorem RI.unEr {F1:Hp} {Er:Kw->af->Prop} (r:RI K (c.er F1 Er) ρ σ H F) (m:bd c.Fm F1):RI K c ρ σ H F:=⟨r.ext,r.val,r.own,r.bor,r.bh,r.dis,r.len,r.obj,r.odis,m.trans r.fm,r.cel,r.pin⟩
theorem i6.er {D:o7} {o:br} {F1:Hp} {Er:Kw->af->Prop} (m:bd c.Fm F1) (h:i6 K c F D o):i6 K (c.er F1 Er) F D o:=by
 cases o with
 |nx ρ=>exact λσ' H' F' s r=>h σ' H' F' s (r.unEr m)
 |brk ρ=>exact λσ' H' F' s r=>h σ' H' F' s (r.unEr m)
 |cnt ρ=>exact λσ' H' F' s r=>h σ' H' F' s (r.unEr m)
 |ret d=>exact λv H' F' s e r=>h v H' F' s e r
 |retc d ρ=>exact λv σ' H' F' s e r=>h v σ' H' F' s (e.unEr m) r
end
section
variable {X:Cx} {body Vx:List L9} {b₀:L9} {g gh:af->R br} {cx n:Kw} {np WH pos:Ls} {sub:Kw->Bool}
structure wk (K:Ku) (mg:Kw->Option Kv) (cx:Kw) (sub:Kw->Bool):Prop where
 ex:∃C,mg cx=some (.ref C)/\∀x cls,sub x=true->eO K x cls->Nh K cls (.ref C)=some true
theorem Ir (i:Nat) (p:jU X) (hN:X.N.Nodup) (U:wk X.K X.mg cx sub) (hb:∀E pn,jE ly (X.inT E pn) body g) (hh:∀v,jE ly (X.inH v) (b₀::Vx) gh) (hi:X.N[i]? =some n:=by rfl) (hk:X.env.scope.names.lookup n=some .local:=by rfl) (hg:Gl X cx:=by rfl)
  (TX:(cx==("__debug__":Kw))=false:=by decide) (Uh:lh ly i:=by(repeat (first|assumption|exact L2.Pu.fK|refine L2.Pu.eo ⟨by first|decide|simp,by first|decide|simp⟩ ?_))):mP ly X (.Try body [.ExceptHandler (some (.Name cx np)) (some n) (b₀::Vx) WH] [] [] pos) (Aq i sub g gh):=by
 obtain⟨Cc,hm,a0l⟩:=U.ex
 intro c S4 s σ H D I q
 obtain⟨F,ρ,ri,w⟩:=q
 refine wpAny_Try_except ?_
 have ok:=I.ok
 let a19:Kv->Ky->Prop:=λe s₁=>KP (KS X.prog X.w) X.A (QS e X.env) (λ_ s₂=>KP (KS X.prog X.w) X.A (setFlight e none) (λ_ s₃=>KP (KS X.prog X.w) X.A (handleBy e X.env [.ExceptHandler (some (.Name cx np)) (some n) (b₀::Vx) WH]) (SP X S4 D) X.xe s₃) X.xe s₂) X.xe s₁
 let c':dW ly:=c.1.er F λx ρ'=>aN c.1 (wj i sub gh x ρ') (i6 X.K c.1 F D)
 have Y0:G8 (X.inT a19 (X.pn++S4)) c':=by
  refine .inl ⟨⟨p.st,p.fr,p.ex⟩,λUq σ' ρ' H' F' s' a cls x I' Tt fl ec er=> ?_⟩
  obtain⟨C,rfl,Wi⟩:=ec
  have XE:RI X.K c.1 ρ' σ' H' F':=Tt.unEr ri.fm
  have sF:bd F F':=Tt.fm
  refine vS (Cu ok I') p (Kl fl) λh2 I2 f2=> ?_
  replace er:aN c.1 (wj i sub gh x ρ') (i6 X.K c.1 F D):=er
  unfold wj at er
  split at er
  ·rename_i hs
   refine Ag I2 p f2 hN hi hk hg hm (a0l x _ hs ⟨C,rfl,Wi⟩) TX λs3 I3=> ?_
   have e2:=c8.lay (o:= .ext (jV a (.ref C))) XE.sub f2.new.no
   have WI:=(XE.step e2).setVal i Uh (dU.exc aE Wi)
   split at er
   ·rename_i o ho
    let D2:o7:={nx:=λσ1 H1=>D.nx (σ1.set i none) H1,rt:=D.rt,bk:=λσ1 H1=>D.bk (σ1.set i none) H1,ct:=λσ1 H1=>D.ct (σ1.set i none) H1}
    have a0m:i6 X.K (c.1.er F λ_ _=>False) (b_ F' a (.ext (jV a (.ref C)))) D2 o:=by
     have YX:=sF.trans e2.grow
     cases o with
     |nx ρ1=>exact λσ1 H1 F1 s1 r1=>er _ H1 F1 (YX.trans s1) ((r1.unEr ri.fm).setNone i Uh)
     |brk ρ1=>exact λσ1 H1 F1 s1 r1=>er _ H1 F1 (YX.trans s1) ((r1.unEr ri.fm).setNone i Uh)
     |cnt ρ1=>exact λσ1 H1 F1 s1 r1=>er _ H1 F1 (YX.trans s1) ((r1.unEr ri.fm).setNone i Uh)
     |ret d=>exact λv H1 F1 s1 e1 r1=>er v H1 F1 (YX.trans s1) e1 r1
     |retc d ρ1=>exact λv σ1 H1 F1 s1 e1 r1=>er v _ H1 F1 (YX.trans s1) ((e1.unEr ri.fm).setNone i (v:=none) Uh) r1
    have a1X:RI X.K (c.1.er F λ_ _=>False) (ρ'.set i (some (.val (.exc x)))) (σ'.set i (some (.ref a))) (b_ H' a (.ext (jV a (.ref C)))) (b_ F' a (.ext (jV a (.ref C)))):=⟨WI.ext,WI.val,WI.own,WI.bor,WI.bh,WI.dis,WI.len,WI.obj,WI.odis,sF.trans e2.grow,WI.cel,WI.pin⟩
    refine cV (hh (.ref a) ⟨c.1.er F λ_ _=>False, .no λ_ _ z=>z⟩ S4 s3 _ _ D2 I3 ⟨_,_,a1X,by rw[ho];exact a0m⟩) λf s4 q4=> ?_
    have Xt:∀{σ1 H1},aP (X.inH (.ref a)) S4 σ1 H1 s4->(∀s5,aP X S4 (σ1.set i none) H1 s5->SP X S4 D f s5)->KP (KS X.prog X.w) X.A (do bindName X.env n LK;Om X.env n WH) (λ_ s5=>SP X S4 D f s5) X.xe s4:=λI4 kk=>Ae (I4.outH ok) hN hi hk kk
    cases f with
    |next=>obtain⟨σ1,H1,I4,q5⟩:=q4;exact Xt I4 λs5 I5=>⟨_,H1,I5,q5⟩
    |brk=>obtain⟨σ1,H1,I4,q5⟩:=q4;exact Xt I4 λs5 I5=>⟨_,H1,I5,q5⟩
    |cont=>obtain⟨σ1,H1,I4,q5⟩:=q4;exact Xt I4 λs5 I5=>⟨_,H1,I5,q5⟩
    |ret u=>obtain⟨v,σ1,H1,I4,r,q5⟩:=q4;exact Xt I4 λs5 I5=>⟨v,_,H1,I5,r,q5⟩
   ·exact er.elim
  ·exact er.elim
 have wb:aN c' (g ρ) (i6 X.K c' F D):=by
  unfold Aq at w
  cases h:g ρ with
  |bad=>rw[h]at w;exact w
  |err x ρ'=>rw[h]at w;exact w
  |ok o=>rw[h]at w;exact i6.er ri.fm w
 refine cV (hb a19 (X.pn++S4) ⟨c',Y0⟩ [] s σ H D (inT I) ⟨F,ρ,ri.er,wb⟩) λf s1 q1=> ?_
 have q2:=Km ok q1
 cases f with
 |next=>exact Oe q2
 |brk=>exact q2
 |cont=>exact q2
 |ret u=>exact q2
end
section
variable {X:Cx} {a:KI} {fa:af->R D} {x:Kw} {p p2 pos:Ls} {tb:Kw->Option Bool}
structure qq (K:Ku) (v:Kv) (tb:Kw->Option Bool):Prop where
 ok:∀x b cls,tb x=some b->eO K x cls->LQ K cls v=some b/\∃C,cls= .ref C/\uI K C
def jt (tb:Kw->Option Bool) (f:af->R D):af->R D:=λρ=>f ρ>>=λd=>match d with
 | .exc x=>R.of ((tb x).map .bl)
 |_=> .bad
def Iu (K:Ku):List V->Hp->VK->Prop:=λxs H Q=>∃a C v c b,xs=[.ref a,v]/\H a=some (.ext (jV a (.ref C)))/\uI K C/\((∃T,v= .ty T/\c= .type T)\/∃C2,v= .ref C2/\c= .ref C2)/\LQ K (.ref C) c=some b/\Q (.bl b) H
theorem wl:dX X (.builtin "isinstance") (Iu X.K):=by
 intro S4 s σ H xs us Q I rv h
 obtain⟨a,C,v,c,b,rfl,ea,k,hc,e,q⟩:=h
 obtain⟨u,w',rfl,ru,Wu⟩:=yB rv
 cases (show u=Lh a from ru)
 obtain⟨⟨o,g1,g2⟩,_⟩:=(show ci X.prog X.w H s.heap a (.ext (jV a (.ref C)))from I.hok a _ ea)
 have ew:w'=c:=by
  rcases hc with ⟨T,rfl,rfl⟩|⟨C2,rfl,rfl⟩
  ·exact Wu
  ·exact Wu
 subst ew
 exact LV (BP k) I.kIn ⟨o,g1,g2⟩ e (λz=>nomatch z) λtk=>⟨.bl b,H,I.tok tk,rfl,q⟩
theorem dg.exc {K:Ku} {H F:Hp} {v:V} {x:Kw} (s:bd F H):dg K H F v (.exc x)->∃a C,v= .ref a/\H a=some (.ext (jV a (.ref C)))/\KQ K KJ x=some (some (.ref C)):=λh=>by
 obtain⟨a,C,e,h,n⟩:=h.in rfl
 exact⟨a,C,e,s _ _ h,n⟩
theorem Cv {K:Ku} {c:dW ly} {tv:V} {cv:Kv} {σ:St} {H:Hp} {Q:VK} (T:qq K cv tb) (hv:(∃T,tv= .ty T/\cv= .type T)\/∃C2,tv= .ref C2/\cv= .ref C2) (h:tQ K c (jt tb fa) σ H Q):
  tB' K c fa σ H λv H1=>Iu K [v,tv] H1 Q:=by
 obtain⟨F,ρ,ri,w⟩:=h
 refine⟨F,ρ,ri,(aN.bind.mp w).imp λd _ w1 v H1 F1 e1 r1=> ?_⟩
 cases d with
 |exc x=>
  obtain⟨d',hd,k⟩:=w1.of
  cases ht:tb x with
  |none=>rw[ht]at hd;cases hd
  |some b=>
   rw[ht]at hd
   cases hd
   obtain⟨a,C,rfl,h1,h2⟩:=r1.exc e1.sub
   obtain⟨g1,C',g2,g3⟩:=T.ok x b (.ref C) ht ⟨C,rfl,h2⟩
   cases g2
   exact⟨a,C,tv,cv,b,rfl,h1,g3,hv,g1,k _ H1 F1 e1 (.bl b)⟩
 |_=>exact w1.elim
theorem Iv {C2:Kx} (T:qq X.K (.ref C2) tb) (hm:X.mg x=some (.ref C2)) (Xp:X.mg "isinstance"=none) (ha:PB ly X a fa) (Y2:Gl X "isinstance":=by rfl) (hg:Gl X x:=by rfl) (TX:(x==("__debug__":Kw))=false:=by decide)
  (he:KC [a, .Name x p2] X.env=(false,L5 a X.env)::KC [.Name x p2] X.env:=by rfl) (WV:KC [.Name x p2] X.env=(false,L5 (.Name x p2) X.env)::KC [] X.env:=by rfl) (Tq:(Ll pos (KC [.Name x p2] X.env)).any (·.1)=false:=by rfl):
  PQ ly X (.Call (.Name "isinstance" p) [a, .Name x p2] [] pos) (jt tb fa):=λc=>
 PE.weak (oi wl Y2 Xp rQ (df (ha c) (df (yu hg hm (v:= .ref C2) rfl TX) gP WV) he) (by decide) (by decide) he Tq) λσ H Q h=>Cv T (.inr ⟨C2,rfl,rfl⟩) h
theorem Gv {Ty:String} (T:qq X.K (.type Ty) tb) (hv:Lu x=some (.type Ty)) (hm:X.mg x=none) (Xp:X.mg "isinstance"=none) (ha:PB ly X a fa) (Y2:Gl X "isinstance":=by rfl) (hg:Gl X x:=by rfl) (hn:x≠"__name__":=by decide) (TX:(x==("__debug__":Kw))=false:=by decide)
  (he:KC [a, .Name x p2] X.env=(false,L5 a X.env)::KC [.Name x p2] X.env:=by rfl) (WV:KC [.Name x p2] X.env=(false,L5 (.Name x p2) X.env)::KC [] X.env:=by rfl) (Tq:(Ll pos (KC [.Name x p2] X.env)).any (·.1)=false:=by rfl):
  PQ ly X (.Call (.Name "isinstance" p) [a, .Name x p2] [] pos) (jt tb fa):=λc=>
 PE.weak (oi wl Y2 Xp rQ (df (ha c) (df (yv (v:= .ty Ty) hg hm hv rfl hn TX) gP WV) he) (by decide) (by decide) he Tq) λσ H Q h=>Cv T (.inl ⟨Ty,rfl,rfl⟩) h
end
end L2.Pu
namespace L2.Pu
open PySem PySem.Spec PyProof.Rows
variable {ly:List fz}
def sZ:D->Option Int
 | .tup (.int k::_)=>some k
 |_=>none
def gY (d:D):Int:=(sZ d).getD 0
def f8:List D->Option (List Int)
 |[]=>some []
 |d::r=>(sZ d).bind λk=>(f8 r).map (k::·)
def xX (d:D):List D->List D
 |[]=>[d]
 |e::r=>if gY d<=gY e then d::e::r else e::xX d r
def n8:List D->List D
 |[]=>[]
 |d::r=>xX d (n8 r)
theorem pQ (d:D):∀l:List D,(xX d l).Perm (d::l)
 |[]=> .refl _
 |e::r=>by
  unfold xX
  split
  ·exact .refl _
  ·exact((pQ d r).cons e).trans (.swap d e r)
theorem sk:∀l:List D,(n8 l).Perm l
 |[]=> .refl _
 |d::r=>(pQ d _).trans ((sk r).cons d)
theorem qr (d:D):∀{l:List D},l.Pairwise (λa b=>gY a<=gY b)->(xX d l).Pairwise (λa b=>gY a<=gY b)
 |[],_=>by simp[xX]
 |e::r,h=>by
  obtain⟨h1,h2⟩:=LW.mp h
  unfold xX
  split
  ·rename_i hd
   refine LW.mpr ⟨λx hx=> ?_,h⟩
   rcases KR.mp hx with rfl|hx
   ·exact hd
   ·exact Mw hd (h1 x hx)
  ·rename_i hd
   refine LW.mpr ⟨λx hx=> ?_,qr d h2⟩
   rcases KR.mp ((pQ d r).mem_iff.mp hx)with rfl|hx
   ·omega
   ·exact h1 x hx
theorem oN:∀l:List D,(n8 l).Pairwise (λa b=>gY a<=gY b)
 |[]=> .nil
 |d::r=>qr d (oN r)
theorem qt:∀{l m:List D},l.Perm m->l.Pairwise (λa b=>gY a<gY b)->m.Pairwise (λa b=>gY a<gY b)->l=m
 |[],m,p,_,_=>(Rn p)
 |a::l,[],p,_,_=>absurd p.length_eq (by simp)
 |a::l,b::m,p,h1,h2=>by
  obtain⟨g1,g2⟩:=LW.mp h1
  obtain⟨k1,k2⟩:=LW.mp h2
  have e:a=b:=by
   have ha:a∈b::m:=p.mem_iff.mp K_
   have hb:b∈a::l:=p.mem_iff.mpr K_
   rcases KR.mp ha with z|ha
   ·exact z
   ·rcases KR.mp hb with z|hb
    ·exact z.symm
    ·have:=g1 b hb
     have:=k1 a ha
     omega
  subst e
  rw[qt (p.cons_inv) g2 k2]
theorem Ar {l:List D} (h:l.Pairwise (λa b=>gY a<=gY b)) (nd:(l.map gY).Nodup):l.Pairwise (λa b=>gY a<gY b):=by
 have:=MO.mp nd
 exact(h.and this).imp λ{x y} ⟨a,b⟩=>by omega
theorem wm {l m:List D} (p:l.Perm m) (h:m.Pairwise (λa b=>gY a<gY b)):n8 l=m:=by
 have q:=(sk l).trans p
 refine qt q (Ar (oN l) ?_) h
 refine(q.map gY).nodup_iff.mpr (MO.mpr (h.imp λz=>Int.ne_of_lt z))
theorem qu:∀{ds:List D} {ks:List Int},f8 ds=some ks->ks=ds.map gY
 |[],ks,h=>by cases h;rfl
 |d::r,ks,h=>by
  replace h:((sZ d).bind λk=>(f8 r).map (k::·))=some ks:=h
  cases e:sZ d with
  |none=>rw[e]at h;cases h
  |some k=>
   rw[e]at h
   cases e2:f8 r with
   |none=>rw[e2]at h;cases h
   |some q=>
    rw[e2]at h
    cases h
    rw[KO,<-qu e2]
    simp[gY,e]
theorem Ef {K:Ku} {H F:Hp} (s:bd F H):∀{ds:List D} {ks:List Int} {vs:List V},f8 ds=some ks->Reps K F vs ds->ku H vs ks:=by
 intro ds
 induction ds with
 |nil=>intro ks vs h r;cases r.nilI;cases h;exact .nil
 |cons d r ih=>
  intro ks vs h rr
  replace h:((sZ d).bind λk=>(f8 r).map (k::·))=some ks:=h
  obtain⟨v0,us,rfl,rv,t⟩:=rr.consI
  obtain⟨k,ds,rfl⟩:∃k ds,d= .tup (.int k::ds):=by
   cases d with
   |tup xs=>
    cases xs with
    |nil=>cases h
    |cons x xs=>
     cases x with
     |int k=>exact⟨k,xs,rfl⟩
     |_=>cases h
   |_=>cases h
  obtain⟨a0,xs,rfl,h1,r2⟩:=rv.tupI
  obtain⟨k1,a3x,rfl,rk,t1⟩:=r2.consI
  cases rk.intI
  ·cases e2:f8 r with
   |none=>rw[e2]at h;cases h
   |some q=>
    rw[e2]at h
    cases h
    exact .cons (s _ _ h1) (ih e2 t)
theorem uc {K:Ku} {F:Hp} {vs:List V} {ds:List D} (h:Reps K F vs ds):∀q:List Nat,(∀i∈q,i<ds.length)->Reps K F (q.map λi=>vs.getD i .non) (q.map λi=>ds.getD i .non)
 |[],_=> .nil
 |i::q,hq=>by
  have hi:=hq i K_
  obtain⟨v,h1,h2⟩:=h.get (i:=i) (d:=ds[i]) (Ld hi)
  refine .cons ?_ (uc h q λj hj=>hq j (L0 _ hj))
  show dU K F (vs.getD i .non) (ds.getD i .non)
  rw[LR,LR,h1,Ld hi]
  exact h2
theorem wo {ds:List D} {q:List Nat} (p:rS (ds.map gY) q):(q.map λi=>ds.getD i .non)=n8 ds:=by
 obtain⟨p1,p2⟩:=p
 rw[KA]at p1
 have hm:∀i∈q,i<ds.length:=λi hi=>Md.mp (p1.mem_iff.mp hi)
 have perm:(q.map λi=>ds.getD i .non).Perm ds:=by
  refine(p1.map λi=>ds.getD i .non).trans ?_
  have e:(LA ds.length).map (λi=>ds.getD i .non)=ds:=by
   refine Ro (by simp) λi h1 h2=> ?_
   simp[h2]
  rw[e]
 symm
 refine wm perm.symm ?_
 rw[MO]at p2 ⊢
 refine p2.imp_of_mem λ{a b} ha hb z=> ?_
 have ea:(ds.map gY).getD a 0=gY (ds.getD a .non):=by simp[hm a ha]
 have eb:(ds.map gY).getD b 0=gY (ds.getD b .non):=by simp[hm b hb]
 rw[ea,eb]at z
 exact z
def oO:List D->Option D
 |[.lst ds]=>(f8 ds).bind λks=>if ks.Nodup/\ks.length<64 then some (.lst (n8 ds))else none
 |[.tup ds]=>(f8 ds).bind λks=>if ks.Nodup/\ks.length<64 then some (.lst (n8 ds))else none
 |_=>none
def oP:List V->Hp->VK->Prop:=λxs H Q=>∃p ys ks,xs=[.ref p]/\(H p=some (.lst ys)\/H p=some (.tup ys))/\ku H ys ks/\ks.Nodup/\ks.length<64/\∀l q,H l=none->rS ks q->Q (.ref l) (b_ H l (.lst (q.map λi=>ys.getD i .non)))
theorem sq {K:Ku} {H F:Hp} {p:Kx} {ys:List V} {ds:List D} {d:D} {Q:VK} (s:bd F H) (hp:H p=some (.lst ys)\/H p=some (.tup ys)) (r:Reps K F ys ds) (h:((f8 ds).bind λks=>if ks.Nodup/\ks.length<64 then some (D.lst (n8 ds))else none)=some d)
  (k:∀w H' F',c8 H F H' F'->dU K F' w d->Q w H'):oP [.ref p] H Q:=by
 cases e:f8 ds with
 |none=>rw[e]at h;cases h
 |some ks=>
  rw[e]at h
  replace h:(if ks.Nodup/\ks.length<64 then some (D.lst (n8 ds))else none)=some d:=h
  split at h
  ·rename_i hk
   cases h
   refine⟨p,ys,ks,rfl,hp,Ef s e r,hk.1,hk.2,λl q hl pl=> ?_⟩
   have ek:=qu e
   subst ek
   have e2:=c8.lay (o:= .lst (q.map λi=>ys.getD i .non)) s hl
   refine k _ _ _ e2 (.lst aE ?_)
   rw[<-wo pl]
   refine(uc r q λi hi=> ?_).mono e2.grow
   have:=Md.mp (pl.1.mem_iff.mp hi)
   simpa using this
  ·cases h
theorem wq {K:Ku}:mO K oP oO:=by
 intro vs ds d H F Q s rv h k
 match ds,h with
 |[.lst xs],h=>
  obtain⟨v,rfl,r⟩:=rv.one
  obtain⟨a,ws,rfl,h1,h2⟩:=r.lst s
  exact sq s (.inl h1) h2 h k
 |[.tup xs],h=>
  obtain⟨v,rfl,r⟩:=rv.one
  obtain⟨a,ws,rfl,h1,h2⟩:=r.tup s
  exact sq s (.inr h1) h2 h k
def ia (ds:List D):Option D:=match j5 ds with
 |some d=>some d
 |none=>oO ds
theorem kD {X:Cx} (hc:X.calm=true):dX X (.builtin "sorted") (λxs H Q=>oJ X.K xs H Q\/oP xs H Q):=(uT hc).or uG
theorem lN {K:Ku}:mO K (λxs H Q=>oJ K xs H Q\/oP xs H Q) ia:=by
 intro vs ds d H F Q s rv h k
 unfold ia at h
 cases e:j5 ds with
 |some d'=>rw[e]at h;cases h;exact .inl (wg vs ds d H F Q s rv e k)
 |none=>rw[e]at h;exact .inr (wq vs ds d H F Q s rv h k)
def tN (K:Ku) (c:dW ly) (f:af->R D):TE:=λσ H Q=>∃F ρ,RI K c ρ σ H F/\aN c (f ρ) λd=>∀a o H' F',c8 H F H' F'->H a=none->H' a=some o->F' a=none->iW K F' o d->Q (.ref a) H'
def PN (ly:List fz) (X:Cx) (e:KI) (f:af->R D):Prop:=∀c:iX ly X,PE X e (tN X.K c.1 f)
def Fd (K:Ku) (r:R2) (g:D->D->Option D):Prop:=∀v u x y d H F Q,bd F H->dg K H F v x->dg K H F u y->g x y=some d->(∀a o,H a=none->iW K F o d->Q (.ref a) (b_ H a o))->r v u H Q
section
variable {X:Cx} {a b e:KI} {es:List KI} {fa fb f:af->R D} {fs:af->R (List D)} {pos p:Ls} {x:Kw} {id T:String} {rc:List V->Hp->VK->Prop}
theorem zc {K:Ku} {H F H1 F1:Hp} {d:D} {Q:VK} (e1:c8 H F H1 F1) (k:∀a o H' F',c8 H F H' F'->H a=none->H' a=some o->F' a=none->iW K F' o d->Q (.ref a) H'):∀a o,H1 a=none->iW K F1 o d->Q (.ref a) (b_ H1 a o):=
 λa o ha r=>k a o (b_ H1 a o) F1 (e1.trans (c8.layOwn e1.sub ha)) (e1.keep.free ha) aE (e1.sub.free ha) r
theorem Iw {op:Operator} {r:R2} {g:D->D->Option D} (ho:lq X (Mt op) r) (Wl:Fd X.K r g) (ha:PB ly X a fa) (hb:PB ly X b fb):PN ly X (.BinOp a op b pos) (f2 g fa fb):=λc=>
 PE.weak (EM ho (ha c) (hb c)) λσ H Q ⟨F,ρ,ri,w⟩=>⟨F,ρ,ri,(aN.bind.mp w).imp λx hx w1 v H1 F1 e1 r1=>⟨F1,ρ,ri.step e1,(aN.bind.mp w1).imp λy hy w2 u H2 F2 e2 r2=>by
  obtain⟨d,hd,k⟩:=w2.of
  exact Wl v u x y d H2 F2 Q (e1.trans e2).sub (r1.mono e2) r2 hd (zc (e1.trans e2) k)⟩⟩
def wt (i:Nat) (f:af->R D):af->R br:=λρ=>f ρ>>=λd=> .ok (.nx (ρ.set i (some (.own d))))
theorem Cw (i:Nat) {x:Kw} {Ss:Ls} (hN:X.N.Nodup) (h:PN ly X e f) (hi:X.N[i]? =some x:=by rfl) (hx:zO X.env.scope x:=by first|exact Lx rfl|exact Lj rfl) (hs:LI e (some (.Name x Ss)) pos.line X.env=pure false:=by rfl)
  (hf:X.fn x=true\/X.env.scope.names.lookup x=some .local:=by first|exact .inl rfl|exact .inr rfl|assumption) (Uh:lh ly i:=by(repeat (first|assumption|exact L2.Pu.fK|refine L2.Pu.eo ⟨by first|decide|simp,by first|decide|simp⟩ ?_))):mP ly X (.Assign [.Name x Ss] e pos) (wt i f):=λc=>
 PS.weak (nz hN hi hx (h c) hs hf) λD σ H ⟨F,ρ,ri,w⟩=>⟨F,ρ,ri,(aN.bind.mp w).imp λd _ w1 a o H1 F1 e1 n1 h1 f1 r1=>by
  refine w1 _ H1 F1 e1.grow ((ri.step e1).setOwn i Uh h1 f1 (ri.ext.keep.free n1) r1 (λj d' _ hj ej=> ?_) (ri.celNe e1.keep n1))
  obtain⟨b,o',k1,k2,_⟩:=ri.own j d' hj
  rw[ej]at k1
  cases k1
  rw[n1]at k2
  cases k2⟩
end
section
variable {K:Ku}
def wu:D->D->Option D
 | .lst a, .int k=>if k.natAbs<=lim/\a.length*k.toNat<=lim then some (.lst (Lf k.toNat a).flatten)else none
 |_,_=>none
theorem Cy:Fd K C5 wu:=by
 intro v u x y d H F Q s rx ry h k
 unfold wu at h
 split at h
 ·rename_i a j
  split at h
  ·rename_i hl
   cases h
   cases ry.int
   obtain⟨p,vs,rfl,h1,h2⟩:=rx.lst s
   refine .inr ⟨p,j,vs,rfl,rfl,h1,by have:=hX hl.1;omega,by have:=hX hl.1;omega,Lq (by rw[h2.length];exact hl.2) gz,λl Wd=> ?_⟩
   exact k _ _ Wd (.lst (h2.rep _))
  ·cases h
 ·cases h
end
end L2.Pu
namespace L2.Pu
open PySem PySem.Spec PyProof.Rows
variable {ly:List fz}
structure dL (K:Ku) (cls m qual:Kw) (st:L9) (ps:List Kw):Prop where
 ex:∃C f fd,yK K m qual st f fd/\jv K cls C/\xq K C m f/\gf K fd ps []
structure pR (K:Ku) (mg:Kw->Option Kv) (cls qual:Kw) (st:L9) (ps:List Kw) (fs:List Kw):Prop where
 ex:∃C f fd,yK K "__init__" qual st f fd/\jv K cls C/\mg cls=some (.ref C)/\Mk K C f/\gf K fd ps []/\∀x∈fs,eC K C x
structure cC (K:Ku) (cls:Kw) (fs:List Kw):Prop where
 ex:∃C,jv K cls C/\∀x∈fs,eC K C x
section
variable {P:KW} {w:La} {K:Ku} {mg:Kw->Option Kv} {base:L4}
theorem f9 {cls mm qual:Kw} {st:L9} {N ps:List Kw} {k n m:Nat} {g:af->R br} (A:dL K cls mm qual st ps) (S:aB N ps (ak st)) (hn:ps.length=n) (hm:N.length=m)
  (Sw:∀(f:Kx) (Sb:Kv) (A:Lg) (outer:List Mm) (s:Ky) (H:Hp) (E:XK),cW k (A.deeper (Mp qual (ak st) s.heap.objs.size f Sb))->
   jE [] (iU (lg P w) P w K mg base N qual (ak st) f Sb A outer s H E) (bK st) g):bW P w K mg base (k+1) cls mm n (bi n m g):=by
 obtain⟨C,f,fd,F,h1,h2,h3⟩:=A.ex
 exact⟨C,f,fd,ps,Gf F S hn hm λSb A outer s H E hr=>Sw f Sb A outer s H E hr,h1,h2,h3⟩
theorem ud {cls qual:Kw} {st:L9} {N ps fs:List Kw} {k n m:Nat} {fl:List (Kw×Nat)} {g:af->R br} (A:pR K mg cls qual st ps fs) (S:aB N ps (ak st)) (hn:ps.length=n+1) (hm:N.length=m+1) (hg:∀p∈fl,n<p.2) (Xl:n<=m)
  (Sw:∀(C f:Kx) (Sb:Kv) (A:Lg) (outer:List Mm) (s:Ky) (H:Hp) (E:XK),vG K C->(∀x∈fs,eC K C x)->cW k (A.deeper (Mp qual (ak st) s.heap.objs.size f Sb))->
   jE [⟨0,C,fl⟩] (iU (lg P w) P w K mg base N qual (ak st) f Sb A outer s H E) (bK st) g):gX P w K mg base (k+1) cls n (mD n m fl g):=by
 obtain⟨C,f,fd,F,h1,h2,h3,h4,h5⟩:=A.ex
 exact⟨C,f,fd,ps,Ee F S h1.ns hn hm hg Xl λSb A outer s H E hr=>Sw C f Sb A outer s H E h1.cl h5 hr,h2,h3,h4⟩
theorem j6 {C:Kx} {fl:List (Kw×Nat)} {f:Kw} {i:Nat} (h1:(f,i)∈fl) (h2:∀p∈fl,p.1=f<->p.2=i) (h3:0≠i) (h4:fl.length<1000):Cp [⟨0,C,fl⟩] ⟨0,C,fl⟩ f i:=
 ⟨K_,h1,h2,h3,λM hM Ur=>absurd (KU.mp hM) Ur,h4⟩
theorem Eg {C:Kx} (e1:LS K C vT "ValueError.__new__"=true) (e2:KY K (.ref C) "__getattribute__"=some (some (.builtin "BaseException.__getattribute__"))) (e3:KY K (.ref C) "__getattr__"=some none)
  (e4:KY K (.ref C) "__class__"=some (some (.builtin "object.__class__"))) (e5:Lr K C (.type "object")=some true) (e6:Lr K C (.type "BaseException")=some true) (e7:Ng K (.ref C) (.ref C)=some true)
  (e8:Na K (.builtin "object.__class__") "__get__"=some (some (.builtin "getset_descriptor.__get__"))) (e9:NA K (.builtin "object.__class__")=some true):uI K C:=
 ⟨⟨_,_,_,_,e1,F.excBase_ValueError,by decide⟩,e2,e3,e4,e8,e9,e5,e6,e7⟩
theorem xY {D:Kx} {Xk:List Kv} {Y5:String} (e:LS K D Xk Y5=true):((RT K D).isSome&&Q7 K (.ref D)==some (.type "type"))=true:=by
 unfold LS at e
 split at e
 ·rename_i lk
  unfold RT Q7
  simp only[lk]
  rfl
 ·cases e
theorem pS {C D:Kx} {b:Bool} {Xk:List Kv} {Y5:String} (e:LS K D Xk Y5=true) (m:Lr K C (.ref D)=some b):Ng K (.ref C) (.ref D)=some b:=by
 unfold Ng
 dsimp only
 rw[if_pos (xY e)]
 exact m
theorem As {C D:Kx} {b:Bool} {Xk:List Kv} {Y5:String} (e:LS K D Xk Y5=true) (m:Lr K C (.ref D)=some b) (s:Lr K C (.ref C)=some true):LQ K (.ref C) (.ref D)=some b:=by
 unfold LQ
 split
 ·rename_i h
  have ez:Lh C=Lh D:=eq_of_beq h
  cases ez
  exact s.symm.trans m
 ·exact pS e m
theorem qN:RE "ValueError"=true:=by unfold RE;decide+kernel
theorem Au {C:Kx} {b:Bool} (m:Lr K C (.type "ValueError")=some b):LQ K (.ref C) (.type "ValueError")=some b:=by
 unfold LQ
 rw[if_neg (by intro h;exact absurd (eq_of_beq h) (λz=>by cases z))]
 unfold Ng
 dsimp only
 rw[if_pos qN]
 exact m
theorem Av {C D:Kx} {b:Bool} {Xk:List Kv} {Y5:String} (e:LS K D Xk Y5=true) (m:Lr K C (.ref D)=some b) (mb:Lr K D (.type "BaseException")=some true):Nh K (.ref C) (.ref D)=some b:=by
 unfold Nh
 rw[if_pos (by show (Lr K D (.type "BaseException")==some true)=true;rw[mb];rfl)]
 exact pS e m
def Aw (xs:List Kw) (x:Kw):Bool:=xs.contains x
theorem Cz {cx:Kw} {C:Kx} {xs:List Kw} (hm:mg cx=some (.ref C)) (h:∀x∈xs,∃Ce,KQ K KJ x=some (some (.ref Ce))/\Nh K (.ref Ce) (.ref C)=some true):wk K mg cx (Aw xs):=by
 refine⟨C,hm,λx cls hx ⟨C',e,hc⟩=> ?_⟩
 obtain⟨Ce,h1,h2⟩:=h x (by simpa[Aw]using hx)
 rw[hc]at h1
 cases h1
 rw[e]
 exact h2
def Ax (l:List (Kw×Bool)) (x:Kw):Option Bool:=l.lookup x
theorem ue {α:Type} {x:Kw} {b:α}:∀{l:List (Kw×α)},l.lookup x=some b->(x,b)∈l
 |(k,v)::r,h=>by
  rw[LX]at h
  cases e:x==k with
  |true=>rw[e]at h;cases h;cases eq_of_beq e;exact K_
  |false=>rw[e]at h;exact L0 _ (ue h)
theorem wv {v:Kv} {l:List (Kw×Bool)} (h:∀p∈l,∃Ce,KQ K KJ p.1=some (some (.ref Ce))/\LQ K (.ref Ce) v=some p.2/\uI K Ce):qq K v (Ax l):=by
 refine⟨λx b cls hb ⟨C',e,hc⟩=> ?_⟩
 obtain⟨Ce,h1,h2,h3⟩:=h _ (ue hb)
 rw[hc]at h1
 cases h1
 subst e
 exact⟨h2,C',rfl,h3⟩
structure eM (K:Ku) (mg:Kw->Option Kv) (x:Kw) (tb:Kw->Option Bool):Prop where
 ex:∃C,mg x=some (.ref C)/\qq K (.ref C) tb
end
section
variable {X:Cx} {a e o:KI} {es:List KI} {fa f fo:af->R D} {fs:af->R (List D)} {cls fld x m:Kw} {p p2 pos Sl:Ls} {xs:List Kw} {tb:Kw->Option Bool}
theorem bu (T:cC X.K cls xs) (hf:fld∈xs) (ha:PB ly X a fa) (hb:Lz a fld X.env (L5 a X.env)=L5 a X.env:=by rfl):PQ ly X (.Attribute a fld pos) (cB cls fld fa):=by
 obtain⟨C,h1,h2⟩:=T.ex
 exact Io h1 (h2 fld hf) ha hb
theorem eR (T:eM X.K X.mg x tb) (Xp:X.mg "isinstance"=none) (ha:PB ly X a fa) (Y2:Gl X "isinstance":=by rfl) (hg:Gl X x:=by rfl) (TX:(x==("__debug__":Kw))=false:=by decide)
  (he:KC [a, .Name x p2] X.env=(false,L5 a X.env)::KC [.Name x p2] X.env:=by rfl) (WV:KC [.Name x p2] X.env=(false,L5 (.Name x p2) X.env)::KC [] X.env:=by rfl) (Tq:(Ll pos (KC [.Name x p2] X.env)).any (·.1)=false:=by rfl):
  PQ ly X (.Call (.Name "isinstance" p) [a, .Name x p2] [] pos) (jt tb fa):=by
 obtain⟨C,h1,h2⟩:=T.ex
 exact Iv h2 h1 Xp ha Y2 hg TX he WV Tq
def ib (f:af->R D):af->R br:=λρ=>f ρ>>=λ_=> .ok (.nx ρ)
theorem kE (h:PQ ly X e f) (VX:LI e none pos.line X.env=pure false:=by rfl):mP ly X (.Expr e pos) (ib f):=λc=>
 PS.weak (o9 (h c) VX) λD σ H ⟨F,ρ,ri,w⟩=>⟨F,ρ,ri,(aN.bind.mp w).imp λd _ w1 v H1 F1 e1 r1=>w1 σ H1 F1 e1.grow (ri.step e1)⟩
end
theorem Gw {P:KW} {w:La} {outer:List Mm} {H:Hp} {s s':Ky} {e:Kv} (h:lg P w outer H s (λ_ _ _=>False) e s'):False:=by
 obtain⟨_,_,_,_,_,_,_,_,_,z⟩:=h
 exact z
theorem qO:Lu "ValueError"=some (.type "ValueError"):=by decide+kernel
end L2.Pu
namespace L2.Pu
open PySem PySem.Spec PyProof.Rows
variable {ly:List fz}
theorem RI.up {K:Ku} {c:dW ly} {ρ:af} {σ:St} {H F H':Hp} (r:RI K c ρ σ H F) (e:bd H H'):RI K c ρ σ H' F:=r.step ⟨r.sub.trans e,e,bd.refl _,λ_ h=> .inl h⟩
def nM:D->Bool
 | .non=>true
 | .bl _=>true
 | .int _=>true
 | .str _=>true
 |_=>false
theorem ww {K:Ku} {F F':Hp} {v:V} {d:D} (h:nM d=true) (r:dU K F v d):dU K F' v d:=by
 cases r with
 |non=>exact .non
 |bl b=>exact .bl b
 |int i=>exact .int i
 |str x=>exact .str x
 |_=>cases h
theorem Ay {K:Ku} {F F':Hp} {vs:List V} {ds:List D} (h:ds.all nM=true) (g:Reps K F vs ds):Reps K F' vs ds:=by
 induction ds generalizing vs with
 |nil=>rw[g.nilI];exact .nil
 |cons d ds ih=>
  obtain⟨w,us,e0,r,t⟩:=g.consI
  rw[L_,LN]at h
  rw[e0]
  exact .cons (ww h.1 r) (ih h.2 t)
section
variable {X:Cx} {e:KI} {es:List KI} {f:af->R D} {g:af->R Bool} {pos:Ls}
def ze (L:List Nat) (f:af->R D):af->R D:=λρ=>f (frz L ρ)>>=λd=>if nM d=true then .ok d else .bad
theorem wx {H F H':Hp} (s:bd F H) (e:bd H H'):c8 H F H' F:=⟨s.trans e,e,bd.refl _,λ_ h=> .inl h⟩
theorem Gx (L:List Nat) (h:PQ ly X e f):PQ ly X e (ze L f):=λc=>PE.weak (h c) λσ H Q ⟨F,ρ,ri,w⟩=>by
 obtain⟨F',s,Tt⟩:=ri.frz L
 refine⟨F',_,Tt,(aN.bind.mp w).imp λd _ w1 v H1 F1 e1 r1=> ?_⟩
 split at w1
 ·rename_i hd
  exact w1 v H1 F (wx ri.sub e1.keep) (ww hd r1)
 ·exact w1.elim
def CA (L:List Nat) (f:af->R D) (n:Nat) (gs:List D->af->R af):af->R br:=λρ=>f (frz L ρ)>>=λd=>match d with
 | .lst ds=>if ds.length=n/\ds.all nM=true then (gs ds ρ>>=λρ'=> .ok (.nx ρ'))else .bad
 | .tup ds=>if ds.length=n/\ds.all nM=true then (gs ds ρ>>=λρ'=> .ok (.nx ρ'))else .bad
 |_=> .bad
theorem Gy (L:List Nat) {k n:Nat} {pt:Ls} {gs:List D->af->R af} (hc:X.calm=true) (he:PQ ly X e f) (h:BV ly X es gs) (hn:(LL es X.env).length=n:=by rfl) (V2:(LL es X.env).findIdx? (·.1)=none:=by rfl)
  (hs:OF [.Tuple es k pt] e pos.line X.env=pure false:=by rfl) (hw:OG [.Tuple es k pt] e X.env=pure none:=by rfl)
  (h1:(LL [.Tuple es k pt] X.env).map (·.2)=[Nq (.Tuple es k pt) X.env]:=by rfl):mP ly X (.Assign [.Tuple es k pt] e pos) (CA L f n gs):=λc=>
 PS.weak (xl (he c) (PG.or (Bh hc (h c) hn V2) (BH hc (h c) hn V2)) hs hw h1) λD σ H ⟨F,ρ,ri,w⟩=>by
  obtain⟨F',s,Tt⟩:=ri.frz L
  refine⟨F',_,Tt,(aN.bind.mp w).imp λd _ w1 v H1 F1 e1 r1=> ?_⟩
  have Sj:∀{ds:List L2.Pu.D} {vs:List V},Reps X.K F1 vs ds->aN c.1 (if ds.length=n/\ds.all nM=true then (gs ds ρ>>=λρ'=>R.ok (br.nx ρ'))else .bad) (i6 X.K c.1 F D)->
    vs.length=n/\JT X.K c.1 gs vs σ H1 (λσ' H'=>D.nx σ' H'):=by
   intro ds vs r2 w2
   split at w2
   ·rename_i hl
    refine⟨by rw[r2.length];exact hl.1,F,ρ,ds,ri.up e1.keep,Ay hl.2 r2,(aN.bind.mp w2).imp λρ' _ w3 σ' H' F2 s2 r'=>w3 σ' H' F2 s2 r'⟩
   ·exact w2.elim
  cases r1 with
  | @tup a vs ds g1 g2=>
   obtain⟨k1,k2⟩:=Sj g2 w1
   exact .inl ⟨a,vs,rfl,iT.of (e1.sub _ _ g1),k1,k2⟩
  | @lst a vs ds g1 g2=>
   obtain⟨k1,k2⟩:=Sj g2 w1
   exact .inr ⟨a,vs,rfl,dA.of (e1.sub _ _ g1),k1,k2⟩
  |_=>exact w1.elim
end
section
variable {X:Cx} {e:KI} {f:af->R D} {pos:Ls}
end
end L2.Pu
namespace L2
open PySem PySem.Spec PyProof.Rows
def wy:List V->List V->Bool
 |[],[]=>true
 |x::xs,y::ys=>B5 x y&&wy xs ys
 |_,_=>false
theorem wz:∀{xs ys:List V},xs.length≠ys.length->wy xs ys=false
 |[],[],h=>absurd rfl h
 |[],_::_,_=>rfl
 |_::_,[],_=>rfl
 |x::xs,y::ys,h=>by
  rw[wy,wz (λz=>h (by rw[L6,L6,z])),Q9]
theorem wA:∀{xs ys:List V},xs.length=ys.length->(LA xs.length).all (λj=>B5 (xs.getD j .non) (ys.getD j .non))=wy xs ys
 |[],[],_=>rfl
 |x::xs,y::ys,h=>by
  have h':xs.length=ys.length:=by simpa using h
  rw[L6,List.range_succ_eq_map,L_,List.all_map,wy,<-wA h']
  rfl
def Gz (K:Ku):R2:=λx y H Q=>∃p q xs ys,x= .ref p/\y= .ref q/\dA K H p xs/\dA K H q ys/\xs.all iB=true/\ys.all iB=true/\Q (.bl (wy xs ys)) H
theorem bp.getR {xs:List V} {us:List Kv} (r:bp xs us):∀(j:Nat) (h:j<us.length),bT (xs.getD j .non) us[j]:=by
 induction r with
 |nil=>intro j h;cases h
 |cons r t ih=>
  intro j h
  cases j with
  |zero=>exact r
  |succ j=>exact ih j (by simpa using h)
theorem wB {xs:List V} (h:xs.all iB=true) (j:Nat):iB (xs.getD j .non)=true:=by
 rw[LR]
 cases e:xs[j]? with
 |none=>rfl
 |some x=>exact MV.mp h x (M8 e)
theorem GA {X:Cx} (hu:X.A.units+1<MQ):lq X (M6 .Eq) (Gz X.K):=by
 intro S4 s σ H x y v u Q I rx ry h
 obtain⟨p,q,xs,ys,rfl,rfl,h1,h2,f1,f2,k⟩:=h
 cases rx
 cases ry
 obtain⟨its,r,pl,hz⟩:=I.list h1
 obtain⟨UM,r2,YY,a1Y⟩:=I.list h2
 have l1:=r.length
 have l2:=r2.length
 by_cases hl:its.length=UM.length
 ·refine SeqAt.eq_listAt (e:=λj=>B5 (xs.getD j .non) (ys.getD j .non)) pl.isList YY.isList (by simpa using hl) (by omega) (λj a b=> ?_) ⟨.bl _,H,I,rfl,?_⟩
  ·have a':j<its.length:=by simpa using a
   have b':j<UM.length:=by simpa using b
   simpa using Bw (r.getR j a') (r2.getR j b') (wB f1 j) (wB f2 j)
  ·have hx:its.toArray.size=xs.length:=by simpa using l1.symm
   rw[hx,wA (by omega)]
   exact k
 ·refine SeqAt.eq_list_lengthsAt pl.isList YY.isList (by simpa using hl) (by omega) ⟨.bl false,H,I,rfl,?_⟩
  rw[wz (by omega)]at k
  exact k
section
variable {X:Cx} {tg:KI}
end
end L2
namespace L2.Pu
open PySem PySem.Spec PyProof.Rows
variable {ly:List fz}
def CB:List D->List D->Bool
 |[],[]=>true
 |x::xs,y::ys=>Hg x y&&CB xs ys
 |_,_=>false
def Az (x y:D):Option D:=match x,y with
 | .lst a, .lst b=>if a.all j4=true/\b.all j4=true then some (.bl (CB a b))else none
 |x,y=>dm x y
theorem Reps.eqs {K:Ku} {F:Hp}:∀{vs us:List V} {ds es:List D},Reps K F vs ds->Reps K F us es->ds.all j4=true->es.all j4=true->wy vs us=CB ds es
 |_,_,_,_, .nil, .nil,_,_=>rfl
 |_,_,_,_, .nil, .cons _ _,_,_=>rfl
 |_,_,_,_, .cons _ _, .nil,_,_=>rfl
 |_,_,_,_, .cons r t, .cons r' t',h,h'=>by
  rw[L_,LN]at h h'
  rw[wy,CB,C7 r r' h.1 h'.1,Reps.eqs t t' h.2 h'.2]
theorem Eh {K:Ku}:jW K (λx y H Q=>IX x y H Q\/Gz K x y H Q) Az:=by
 intro v u x y d H F Q s rx ry h k
 unfold Az at h
 split at h
 ·split at h
  ·rename_i a b hf
   cases h
   obtain⟨p,vs,rfl,h1,h2⟩:=rx.lst s
   obtain⟨q,us,rfl,h3,h4⟩:=ry.lst s
   refine .inr ⟨p,q,vs,us,rfl,rfl,dA.of h1,dA.of h3,h2.flat hf.1,h4.flat hf.2,?_⟩
   rw[Reps.eqs h2 h4 hf.1 hf.2]
   exact k _ H F (c8.refl s) (.bl _)
  ·cases h
 ·exact .inl (bf v u x y d H F Q s rx ry h k)
theorem GB {X:Cx} (hu:X.A.units+1<MQ):lq X (M6 .Eq) (λx y H Q=>IX x y H Q\/Gz X.K x y H Q):=bL.or (GA hu)
section
variable {X:Cx} {a b d:KI} {fs:af->R (List D)} {pos:Ls}
end
end L2.Pu
namespace L2
open PySem PySem.Spec PyProof.Rows
end L2
namespace L2.Pu
open PySem PySem.Spec PyProof.Rows
variable {ly:List fz}
end L2.Pu
namespace L2.Pu
section
variable {α:Type} {P:List α->Prop}
theorem JY (h:P []):∀us:List α,us.length=0->P us:=λus e=>by
 rw[NT.mp e];exact h
theorem Iy {n:Nat} (h:∀a us,us.length=n->P (a::us)):∀us:List α,us.length=n+1->P us:=λus e=>by
 cases us with
 |nil=>cases e
 |cons a us=>exact h a us (Nat.succ.inj e)
theorem JZ (h:∀a,P [a]):∀us:List α,us.length=1->P us:=Iy λa=>JY (P:=λus=>P (a::us)) (h a)
theorem J_ (h:∀a b,P [a,b]):∀us:List α,us.length=2->P us:=Iy λa=>JZ (P:=λus=>P (a::us)) (h a)
theorem K0 (h:∀a b c,P [a,b,c]):∀us:List α,us.length=3->P us:=Iy λa=>J_ (P:=λus=>P (a::us)) (h a)
theorem K1 (h:∀a b c d,P [a,b,c,d]):∀us:List α,us.length=4->P us:=Iy λa=>K0 (P:=λus=>P (a::us)) (h a)
theorem Kn (h:∀a b c d e,P [a,b,c,d,e]):∀us:List α,us.length=5->P us:=Iy λa=>K1 (P:=λus=>P (a::us)) (h a)
end
end L2.Pu
namespace L2
open PySem PySem.Spec PyProof.Rows
end L2
namespace L2.Pu
open PySem PySem.Spec PyProof.Rows
variable {ly:List fz}
end L2.Pu
namespace L2.Pu
open PySem PySem.Spec PyProof.Rows
variable {ly:List fz}
def Slot.kind:Slot->Nat
 | .own _=>1
 | .cel .. =>2
 |_=>0
def fc (ρ:af):List Nat->Option (List Slot)
 |[]=>some []
 |i::r=>match ρ[i]? with
  |some (some s)=>(fc ρ r).map λt=>s::t
  |_=>none
def uV (ρ:af):List Nat->List Slot->af
 |i::is,s::ss=>uV (ρ.set i (some s)) is ss
 |_,_=>ρ
theorem wC:∀(is:List Nat) (ss:List Slot) (ρ:af),(uV ρ is ss).length=ρ.length
 |[],ss,ρ=>by cases ss<;>rfl
 |i::is,[],ρ=>rfl
 |i::is,s::ss,ρ=>by
  show (uV (ρ.set i (some s)) is ss).length=_
  rw[wC is ss];simp
theorem wD:∀{is:List Nat} {ss:List Slot} {ρ:af} {j:Nat} {s:Slot},is.Nodup->ss.length=is.length->(uV ρ is ss)[j]? =some (some s)->(∃k:Nat,is[k]? =some j/\ss[k]? =some s)\/(j∉is/\ρ[j]? =some (some s))
 |[],ss,ρ,j,s,_,_,h=>by
  refine .inr ⟨by simp,?_⟩
  cases ss<;>exact h
 |i::is,[],ρ,j,s,_,hl,h=>by simp at hl
 |i::is,t::ss,ρ,j,s,nd,hl,h=>by
  obtain⟨n1,n2⟩:=N2.mp nd
  rcases wD (ρ:=ρ.set i (some t)) n2 (by simpa using hl) h with ⟨k,h1,h2⟩|⟨h1,h2⟩
  ·exact .inl ⟨k+1,h1,h2⟩
  ·rcases aA h2 with ⟨rfl,z,_⟩|⟨z,h2⟩
   ·cases z;exact .inl ⟨0,rfl,rfl⟩
   ·exact .inr ⟨λm=>(KR.mp m).elim (λq=>z q.symm) h1,h2⟩
inductive At (ρ:af) (σ:St):List Nat->List Slot->List Kx->Prop
 |nil:At ρ σ [] [] []
 |cons {i:Nat} {s:Slot} {a:Kx} {is:List Nat} {ss:List Slot} {as:List Kx}:ρ[i]? =some (some s)->s.kind≠0->σ[i]? =some (some (.ref a))->At ρ σ is ss as->At ρ σ (i::is) (s::ss) (a::as)
theorem At.idx {ρ:af} {σ:St} {is:List Nat} {ss:List Slot} {as:List Kx} (h:At ρ σ is ss as):∀{k i:Nat},is[k]? =some i->∃s a,ss[k]? =some s/\as[k]? =some a/\ρ[i]? =some (some s)/\s.kind≠0/\σ[i]? =some (some (.ref a)):=by
 induction h with
 |nil=>intro k i e;simp at e
 |cons h1 h2 h3 _ ih=>
  intro k i e
  cases k with
  |zero=>cases e;exact⟨_,_,rfl,rfl,h1,h2,h3⟩
  |succ k=>exact ih e
theorem At.lens {ρ:af} {σ:St} {is:List Nat} {ss:List Slot} {as:List Kx} (h:At ρ σ is ss as):ss.length=is.length/\as.length=is.length:=by
 induction h with
 |nil=>exact⟨rfl,rfl⟩
 |cons _ _ _ _ ih=>exact⟨by simp[ih.1],by simp[ih.2]⟩
theorem At.get {ρ:af} {σ:St} {is:List Nat} {ss:List Slot} {as:List Kx} (h:At ρ σ is ss as) {k:Nat} {s:Slot} (e:ss[k]? =some s):∃i a,is[k]? =some i/\as[k]? =some a/\ρ[i]? =some (some s)/\s.kind≠0/\σ[i]? =some (some (.ref a)):=by
 have hk:k<is.length:=by rw[<-h.lens.1];exact(L3.mp e).1
 obtain⟨s',a,h1,h2,h3⟩:=h.idx (k:=k) (i:=is[k]) (by simp[hk])
 rw[e]at h1
 cases h1
 exact⟨is[k],a,by simp[hk],h2,h3⟩
def gm (H:Hp) (ρ:af) (σ:St) (i:Nat) (z:Kx):Prop:=
 (∃d,ρ[i]? =some (some (.own d))/\σ[i]? =some (some (.ref z)))\/∃x Sf f hs a C dx fs,ρ[i]? =some (some (.cel x Sf f hs))/\σ[i]? =some (some (.ref a))/\H a=some (.ins C dx fs)/\(z=a\/z=dx\/fs.lookup f=some (.ref z))
open Classical in
noncomputable def kF (H:Hp) (ρ:af) (σ:St) (is:List Nat):Hp:=λz=>if ∃i∈is,gm H ρ σ i z then none else H z
theorem lO {H:Hp} {ρ:af} {σ:St} {is:List Nat} {z:Kx} {i:Nat} (hi:i∈is) (h:gm H ρ σ i z):kF H ρ σ is z=none:=if_pos ⟨i,hi,h⟩
theorem Ei {H:Hp} {ρ:af} {σ:St} {is:List Nat} {z:Kx} (h:∀i∈is,¬gm H ρ σ i z):kF H ρ σ is z=H z:=if_neg λ⟨i,hi,o⟩=>h i hi o
theorem uf {H:Hp} {ρ:af} {σ:St} {is:List Nat} {z:Kx} {u:HO} (h:kF H ρ σ is z=some u):H z=some u:=by
 unfold kF at h
 split at h
 ·cases h
 ·exact h
section
variable {K:Ku} {c:dW ly} {ρ:af} {σ:St} {H F:Hp} {i j:Nat} {z:Kx}
theorem RI.celIn (r:RI K c ρ σ H F) {x:Kw} {Sf:List (Kw×D)} {f:Kw} {hs:List D} {a:Kx} {C dx:Kx} {fs:List (Kw×V)} (h1:ρ[i]? =some (some (.cel x Sf f hs))) (h2:σ[i]? =some (some (.ref a))) (h3:H a=some (.ins C dx fs)):
  ∃b,lz K c.H0 H F a dx b x Sf f hs/\fs.lookup f=some (.ref b)/\∀(j:Nat) d,ρ[j]? =some (some (.own d))->σ[j]? ≠some (some (.ref b)):=by
 obtain⟨a',XD,b,k1,k2,k3⟩:=r.cel.ex i x Sf f hs h1
 rw[h2]at k1
 cases k1
 obtain⟨C',Vv,vs,us,g1,g2,g3,g4⟩:=k2.ex
 rw[h3]at g1
 cases g1
 exact⟨b,k2,g3,k3⟩
theorem RI.owns (r:RI K c ρ σ H F) (o:gm H ρ σ i z):c.H0 z=none/\F z=none/\∃u,H z=some u:=by
 rcases o with ⟨d,h1,h2⟩|⟨x,Sf,f,hs,a,C,dx,fs,h1,h2,h3,h4⟩
 ·obtain⟨p,u,k1,k2,k3,k4,_⟩:=r.own i d h1
  rw[h2]at k1
  cases k1
  exact⟨k4,k3,u,k2⟩
 ·obtain⟨b,k1,k2,_⟩:=r.celIn h1 h2 h3
  rcases h4 with rfl|rfl|h4
  ·exact⟨k1.za,k1.fa,_,h3⟩
  ·exact⟨k1.zd,k1.fd,_,k1.own⟩
  ·rw[k2]at h4
   cases h4
   obtain⟨C',Vv,vs,us,g1,g2,g3,g4,_⟩:=k1.ex
   exact⟨k1.zb,k1.fb,_,g4⟩
theorem RI.owns_inj (r:RI K c ρ σ H F) (o:gm H ρ σ i z) (o':gm H ρ σ j z):i=j:=by
 have oc:∀{i j:Nat},(∃d,ρ[i]? =some (some (.own d))/\σ[i]? =some (some (.ref z)))->(∃x Sf f hs a C dx fs,ρ[j]? =some (some (.cel x Sf f hs))/\σ[j]? =some (some (.ref a))/\H a=some (.ins C dx fs)/\(z=a\/z=dx\/fs.lookup f=some (.ref z)))->False:=by
  rintro i j ⟨d,h1,h2⟩ ⟨x,Sf,f,hs,a,C,dx,fs,k1,k2,k3,k4⟩
  obtain⟨p,u,g1,g2,g3,g4,g5⟩:=r.own i d h1
  rw[h2]at g1
  cases g1
  obtain⟨b,m1,m2,m3⟩:=r.celIn k1 k2 k3
  rcases k4 with rfl|rfl|k4
  ·rw[k3]at g2;cases g2;cases g5
  ·rw[m1.own]at g2;cases g2;cases g5
  ·rw[m2]at k4;cases k4;exact m3 i d h1 h2
 rcases o with h|h
 ·rcases o' with k|k
  ·obtain⟨d,h1,h2⟩:=h
   obtain⟨d',k1,k2⟩:=k
   exact r.dis i j d d' z h1 k1 h2 k2
  ·exact(oc h k).elim
 ·rcases o' with k|k
  ·exact(oc k h).elim
  ·obtain⟨x,Sf,f,hs,a,C,dx,fs,h1,_⟩:=h
   obtain⟨x',WJ,f',Sy,a',C',XD,Vv,k1,_⟩:=k
   exact r.cel.one i j x Sf f hs _ h1 k1 rfl
end
abbrev MC (Hz F:Hp):dW []:=⟨Hz,F,λ_=>none,λ_ _=>False,λ_=>none,λ_=>none⟩
def Ej (K:Ku) (Hz F:Hp) (ss:List Slot) (as:List Kx) (H' F':Hp):Prop:=RI K (MC Hz F) (ss.map some) (as.map λa=>some (.ref a)) H' F'
theorem map_some {α β:Type} {l:List α} {g:α->β} {k:Nat} {b:β} (h:(l.map g)[k]? =some b):∃a,l[k]? =some a/\g a=b:=by
 rw[L8]at h
 cases e:l[k]? with
 |none=>rw[e]at h;cases h
 |some a=>rw[e]at h;exact⟨a,rfl,by simpa using h⟩
theorem mE {α β:Type} {l:List α} {g:α->β} {k:Nat} {a:α} (h:l[k]? =some a):(l.map g)[k]? =some (g a):=by rw[L8,h];rfl
theorem CC {is:List Nat} (nd:is.Nodup) {k k' i:Nat} (h:is[k]? =some i) (h':is[k']? =some i):k=k':=by
 obtain⟨l,e⟩:=L3.mp h
 obtain⟨l',e'⟩:=L3.mp h'
 exact(P4 nd).mp (e.trans e'.symm)
section
variable {K:Ku} {c:dW ly} {ρ:af} {σ:St} {H F H' F':Hp} {is:List Nat} {ss ss':List Slot} {as:List Kx}
theorem RI.split (r:RI K c ρ σ H F) (A:At ρ σ is ss as) (nd:is.Nodup):Ej K (kF H ρ σ is) F ss as H F:=by
 have got:∀{k:Nat} {s:Slot},(ss.map some)[k]? =some (some s)->∃i a,is[k]? =some i/\as[k]? =some a/\ρ[i]? =some (some s)/\s.kind≠0/\σ[i]? =some (some (.ref a)):=λ{k s} h=>by
  obtain⟨s',h1,h2⟩:=map_some h
  cases h2
  exact A.get h1
 have VH:∀{k:Nat} {a:Kx},as[k]? =some a->(as.map λa=>some (V.ref a))[k]? =some (some (.ref a)):=λh=>mE h
 have a0n:∀{k:Nat} {a a':Kx},as[k]? =some a->(as.map λa=>some (V.ref a))[k]? =some (some (.ref a'))->a=a':=λ{k a a'} h h'=>by
  rw[VH h]at h';cases h';rfl
 refine⟨⟨r.sub,λz u e=>uf e,bd.refl _,λ_ h=> .inl h⟩,λk d h=> ?_,λk d h=> ?_,λk d h=> ?_,(λ_ _ e=>by cases e),λk k' d d' a h h' e e'=> ?_,?_,(λL h=>by cases h),(λL h=>by cases h),(λ_ _ e=>by cases e),⟨λk x Sf f hs h=> ?_,λk k' x Sf f hs s h h' Sy=> ?_⟩,(λL h=>by cases h)⟩
 ·obtain⟨i,a,_,_,_,z,_⟩:=got h;exact absurd rfl z
 ·obtain⟨i,a,h1,h2,h3,h4,h5⟩:=got h
  obtain⟨p,u,k1,k2,k3,k4,k5⟩:=r.own i d h3
  rw[h5]at k1
  cases k1
  exact⟨a,u,VH h2,k2,k3,lO (M8 h1) (.inl ⟨d,h3,h5⟩),k5⟩
 ·obtain⟨i,a,_,_,_,z,_⟩:=got h;exact absurd rfl z
 ·obtain⟨i1,a1,h1,h2,h3,h4,h5⟩:=got h
  obtain⟨i2,a2,g1,g2,g3,g4,g5⟩:=got h'
  cases a0n h2 e
  cases a0n g2 e'
  cases r.dis i1 i2 d d' _ h3 g3 h5 g5
  exact CC nd h1 g1
 ·simp only[KA];rw[A.lens.1,A.lens.2]
 ·obtain⟨i,a,h1,h2,h3,h4,h5⟩:=got h
  obtain⟨a',dx,b,k1,k2,k3⟩:=r.cel.ex i x Sf f hs h3
  rw[h5]at k1
  cases k1
  have YZ:=k2
  obtain⟨C,fs,vs,us,g1,g2,g3,g4⟩:=k2.ex
  have o:∀z,(z=a\/z=dx\/fs.lookup f=some (.ref z))->kF H ρ σ is z=none:=λz hz=>lO (M8 h1) (.inr ⟨x,Sf,f,hs,a,C,dx,fs,h3,h5,g1,hz⟩)
  refine⟨a,dx,b,VH h2,⟨k2.ex,k2.own,k2.fa,k2.fd,k2.fb,o a (.inl rfl),o dx (.inr (.inl rfl)),o b (.inr (.inr g3))⟩,λk' d h' e=> ?_⟩
  obtain⟨i2,a2,m1,m2,m3,m4,m5⟩:=got h'
  cases a0n m2 e
  exact k3 i2 d m3 m5
 ·obtain⟨i1,a1,h1,h2,h3,h4,h5⟩:=got h
  obtain⟨i2,a2,g1,g2,g3,g4,g5⟩:=got h'
  cases r.cel.one i1 i2 x Sf f hs s h3 g3 Sy
  exact CC nd h1 g1
theorem CD {s:Slot} (h:s.kind=2):∃x Sf f hs,s= .cel x Sf f hs:=by cases s<;>first|exact⟨_,_,_,_,rfl⟩|cases h
theorem RI.join (r:RI K c ρ σ H F) (A:At ρ σ is ss as) (nd:is.Nodup) (m:Ej K (kF H ρ σ is) F ss' as H' F') (hk:ss'.map Slot.kind=ss.map Slot.kind):RI K c (uV ρ is ss') σ H' F':=by
 have hl:ss'.length=is.length:=by rw[<-A.lens.1,<-KA (f:=Slot.kind),hk,KA]
 have Ue:∀{k:Nat} {s:Slot},ss'[k]? =some s->∃s0 i a,is[k]? =some i/\as[k]? =some a/\ρ[i]? =some (some s0)/\s0.kind=s.kind/\s.kind≠0/\σ[i]? =some (some (.ref a)):=λ{k s} h=>by
  have h1:(ss.map Slot.kind)[k]? =some s.kind:=by rw[<-hk];exact mE h
  obtain⟨s0,g1,g2⟩:=map_some h1
  obtain⟨i,a,k1,k2,k3,k4,k5⟩:=A.get g1
  exact⟨s0,i,a,k1,k2,k3,g2,by rw[<-g2];exact k4,k5⟩
 have ms:∀{k:Nat} {s:Slot},ss'[k]? =some s->(ss'.map some)[k]? =some (some s):=λh=>mE h
 have VH:∀{k:Nat} {a:Kx},as[k]? =some a->(as.map λa=>some (V.ref a))[k]? =some (some (.ref a)):=λh=>mE h
 have hz:∀{z:Kx},kF H ρ σ is z=none->c.H0 z=none:=λ{z} e=>by
  unfold kF at e
  split at e
  ·rename_i h
   obtain⟨i,hi,o⟩:=h
   exact(r.owns o).1
  ·exact r.ext.keep.free e
 have kz:∀{z:Kx} {u:HO},H z=some u->(∀i∈is,¬gm H ρ σ i z)->kF H ρ σ is z=some u:=λh n=>by rw[Ei n];exact h
 have me:=m.ext
 have V4:∀{z:Kx} {u:HO},H z=some u->(∀i∈is,¬gm H ρ σ i z)->H' z=some u:=λh n=>me.keep _ _ (kz h n)
 have WK:∀{z:Kx} {u:HO},H z=some u->(∀i∈is,¬gm H ρ σ i z)->F z=none->F' z=none:=λh n f=>me.out (kz h n) f
 have Xc:∀{j:Nat} {z:Kx},j∉is->gm H ρ σ j z->∀i∈is,¬gm H ρ σ i z:=λ{j z} hj o i hi o'=>hj (by rw[r.owns_inj o o'];exact hi)
 have Us:∀{j:Nat} {s:Slot},(uV ρ is ss')[j]? =some (some s)->(∃k:Nat,is[k]? =some j/\ss'[k]? =some s)\/(j∉is/\ρ[j]? =some (some s)):=λh=>wD nd hl h
 have WM:∀{k j:Nat} {d:D},is[k]? =some j->ss'[k]? =some (.own d)->∃a o,σ[j]? =some (some (.ref a))/\as[k]? =some a/\H' a=some o/\F' a=none/\kF H ρ σ is a=none/\iW K F' o d:=λ{k j d} h1 h2=>by
  obtain⟨s0,i,a,k1,k2,k3,k4,k5,k6⟩:=Ue h2
  rw[h1]at k1
  cases k1
  obtain⟨p,u,g1,g2,g3,g4,g5⟩:=m.own k d (ms h2)
  rw[VH k2]at g1
  cases g1
  exact⟨a,u,k6,k2,g2,g3,g4,g5⟩
 have Y6:∀{j:Nat} {d:D} {p:Kx} {u:HO},j∉is->ρ[j]? =some (some (.own d))->σ[j]? =some (some (.ref p))->H p=some u->kF H ρ σ is p=some u:=λhj h1 h2 h3=>kz h3 (Xc hj (.inl ⟨_,h1,h2⟩))
 refine⟨⟨me.sub,λz u e=>V4 (r.ext.keep z u e) λi hi o=>(by rw[(r.owns o).1]at e;cases e),r.ext.grow.trans me.grow,λz e=>(me.new z e).elim (λq=>r.ext.new z q) λq=> .inr (hz q)⟩,λj d h=> ?_,λj d h=> ?_,λj d h=> ?_,r.bh,λj j' d d' p h h' e e'=> ?_,?_,λL hL h=> ?_,λL hL L' Vy h h'=> ?_,r.fm.trans me.grow,⟨λj x Sf f hs h=> ?_,λj j' x Sf f hs s h h' Sy=> ?_⟩,r.pin⟩
 ·rcases Us h with ⟨k,h1,h2⟩|⟨_,h2⟩
  ·obtain⟨_,_,_,_,_,_,_,z,_⟩:=Ue h2;exact absurd rfl z
  ·obtain⟨v,k1,k2⟩:=r.val j d h2;exact⟨v,k1,k2.mono me.grow⟩
 ·rcases Us h with ⟨k,h1,h2⟩|⟨hj,h2⟩
  ·obtain⟨a,o,k1,k2,k3,k4,k5,k6⟩:=WM h1 h2
   exact⟨a,o,k1,k3,k4,hz k5,k6⟩
  ·obtain⟨p,u,k1,k2,k3,k4,k5⟩:=r.own j d h2
   have n:=Xc hj (.inl ⟨d,h2,k1⟩)
   exact⟨p,u,k1,V4 k2 n,WK k2 n k3,k4,k5.mono me.grow⟩
 ·rcases Us h with ⟨k,h1,h2⟩|⟨_,h2⟩
  ·obtain⟨_,_,_,_,_,_,_,z,_⟩:=Ue h2;exact absurd rfl z
  ·exact r.bor j d h2
 ·rcases Us h with ⟨k,h1,h2⟩|⟨hj,h2⟩
  ·obtain⟨a,o,k1,k2,k3,k4,k5,k6⟩:=WM h1 h2
   rw[k1]at e
   cases e
   rcases Us h' with ⟨k',We,UJ⟩|⟨Wk,UJ⟩
   ·obtain⟨a',o',a0o,YZ,a1Z,a1_,a0p,a20⟩:=WM We UJ
    rw[a0o]at e'
    cases e'
    have:=m.dis k k' d d' p (ms h2) (ms UJ) (VH k2) (VH YZ)
    subst this
    rw[h1]at We
    exact LG We
   ·obtain⟨p',u,g1,g2,g3,g4,g5⟩:=r.own j' d' UJ
    rw[e']at g1
    cases g1
    rw[Y6 Wk UJ e' g2]at k5
    cases k5
  ·rcases Us h' with ⟨k',We,UJ⟩|⟨Wk,UJ⟩
   ·obtain⟨a',o',a0o,YZ,a1Z,a1_,a0p,a20⟩:=WM We UJ
    rw[a0o]at e'
    cases e'
    obtain⟨p',u,g1,g2,g3,g4,g5⟩:=r.own j d h2
    rw[e]at g1
    cases g1
    rw[Y6 hj h2 e g2]at a0p
    cases a0p
   ·exact r.dis j j' d d' p h2 UJ e e'
 ·rw[wC];exact r.len
 ·rcases Us h with ⟨k,h1,h2⟩|⟨hj,h2⟩
  ·obtain⟨_,_,_,_,_,_,_,z,_⟩:=Ue h2;exact absurd rfl z
  ·obtain⟨a,dx,fs,k0,k1,k2,k3,k4,k5,k6⟩:=r.obj L hL h2
   have no:∀{z:Kx} {u:HO},H z=some u->(∀d,¬iW K F u d)->∀i∈is,¬gm H ρ σ i z:=λ{z u} hz nr i hi o=>by
    rcases o with ⟨d,g1,g2⟩|⟨x,Sf,f,hs,a,C,dx,fs,g1,_⟩
    ·obtain⟨p,u',q1,q2,_,_,q5⟩:=r.own i d g1
     rw[g2]at q1
     cases q1
     rw[hz]at q2
     cases q2
     exact nr d q5
    ·exact hj (by rw[<-r.cel.one i L.x x Sf f hs _ g1 h2 rfl];exact hi)
   have na:=no k2 (λd q=>by cases q)
   have nd:=no k3 (λd q=>by cases q)
   exact⟨a,dx,fs,k0,k1,V4 k2 na,V4 k3 nd,WK k2 na k4,WK k3 nd k5,k6⟩
 ·refine r.odis L hL L' Vy ?_ ?_
  ·rcases Us h with ⟨k,h1,h2⟩|⟨_,h2⟩
   ·obtain⟨_,_,_,_,_,_,_,z,_⟩:=Ue h2;exact absurd rfl z
   ·exact h2
  ·rcases Us h' with ⟨k,h1,h2⟩|⟨_,h2⟩
   ·obtain⟨_,_,_,_,_,_,_,z,_⟩:=Ue h2;exact absurd rfl z
   ·exact h2
 ·rcases Us h with ⟨k,h1,h2⟩|⟨hj,h2⟩
  ·obtain⟨s0,i,a,k1,k2,k3,k4,k5,k6⟩:=Ue h2
   rw[h1]at k1
   cases k1
   obtain⟨a',dx,b,g1,g2,g3⟩:=m.cel.ex k x Sf f hs (ms h2)
   rw[VH k2]at g1
   cases g1
   refine⟨a,dx,b,k6,⟨g2.ex,g2.own,g2.fa,g2.fd,g2.fb,hz g2.za,hz g2.zd,hz g2.zb⟩,λj' d h' e=> ?_⟩
   rcases Us h' with ⟨k',We,UJ⟩|⟨Wk,UJ⟩
   ·obtain⟨a',o',q1,q2,_⟩:=WM We UJ
    rw[q1]at e
    cases e
    exact g3 k' d (ms UJ) (VH q2)
   ·obtain⟨p',u,q1,q2,_⟩:=r.own j' d UJ
    rw[e]at q1
    cases q1
    have:kF H ρ σ is b=none:=g2.zb
    rw[Y6 Wk UJ e q2]at this
    cases this
  ·obtain⟨a,dx,b,g1,g2,g3⟩:=r.cel.ex j x Sf f hs h2
   have a3y:=g2
   obtain⟨C,fs,vs,us,q1,q2,q3,q4,q5,q6,q7⟩:=g2.ex
   have ow:∀z,(z=a\/z=dx\/fs.lookup f=some (.ref z))->∀i∈is,¬gm H ρ σ i z:=λz hz=>Xc hj (.inr ⟨x,Sf,f,hs,a,C,dx,fs,h2,g1,q1,hz⟩)
   have na:=ow a (.inl rfl)
   have nd:=ow dx (.inr (.inl rfl))
   have nb:=ow b (.inr (.inr q3))
   refine⟨a,dx,b,g1,⟨⟨C,fs,vs,us,V4 q1 na,q2,q3,V4 q4 nb,q5.mono me.grow,q6.mono me.grow,q7⟩,V4 g2.own nd,WK q1 na g2.fa,WK g2.own nd g2.fd,WK q4 nb g2.fb,g2.za,g2.zd,g2.zb⟩,λj' d h' e=> ?_⟩
   rcases Us h' with ⟨k',We,UJ⟩|⟨Wk,UJ⟩
   ·obtain⟨a',o',w1,w2,w3,w4,w5,w6⟩:=WM We UJ
    rw[w1]at e
    cases e
    rw[kz q4 nb]at w5
    cases w5
   ·exact g3 j' d UJ e
 ·have Y_:∀{k:Nat} {s:Slot},ss'[k]? =some s->s.single=true->∃x Sf f hs i,is[k]? =some i/\ρ[i]? =some (some (.cel x Sf f hs)):=λ{k s} h hs=>by
   obtain⟨s0,i,a,k1,k2,k3,k4,k5,k6⟩:=Ue h
   have:s.kind=2:=by cases s<;>first|rfl|exact absurd rfl k5|cases hs
   rw[this]at k4
   obtain⟨x,Sf,f,hs,rfl⟩:=CD k4
   exact⟨x,Sf,f,hs,i,k1,k3⟩
  rcases Us h with ⟨k,h1,h2⟩|⟨hj,h2⟩
  ·rcases Us h' with ⟨k',We,UJ⟩|⟨Wk,UJ⟩
   ·have:=m.cel.one k k' x Sf f hs s (ms h2) (ms UJ) Sy
    subst this
    rw[h1]at We
    exact LG We
   ·obtain⟨x0,Z0,f0,WB,i,g1,g2⟩:=Y_ h2 rfl
    have:=r.cel.one i j' x0 Z0 f0 WB s g2 UJ Sy
    subst this
    exact absurd (M8 g1) Wk
  ·rcases Us h' with ⟨k',We,UJ⟩|⟨Wk,UJ⟩
   ·obtain⟨x0,Z0,f0,WB,i,g1,g2⟩:=Y_ UJ Sy
    have:=r.cel.one j i x Sf f hs _ h2 g2 rfl
    subst this
    exact absurd (M8 g1) hj
   ·exact r.cel.one j j' x Sf f hs s h2 UJ Sy
end
end L2.Pu
namespace L2.Pu
open PySem PySem.Spec PyProof.Rows
variable {ly:List fz}
def dD:Nat->af->Option (List Slot)
 |0,_=>some []
 |n+1,some s::ρ=>(dD n ρ).map λt=>s::t
 |_+1,_=>none
theorem ug:∀{n:Nat} {ρ:af} {ss:List Slot},dD n ρ=some ss->ss.length=n/\∀(k:Nat) s,ss[k]? =some s->ρ[k]? =some (some s)
 |0,ρ,ss,h=>by cases h;exact⟨rfl,λk s e=>by simp at e⟩
 |n+1,some s::ρ,ss,h=>by
  unfold dD at h
  cases e:dD n ρ with
  |none=>rw[e]at h;cases h
  |some t=>
   rw[e]at h
   cases h
   obtain⟨h1,h2⟩:=ug e
   refine⟨by simp[h1],λk s' e'=> ?_⟩
   cases k with
   |zero=>cases e';rfl
   |succ k=>exact h2 k s' e'
 |n+1,none::ρ,ss,h=>by cases h
 |n+1,[],ss,h=>by cases h
def fQ (n:Nat) (ss:List Slot) (ds:List D):af:=ss.map some++cY n ds
def iM (nm k n:Nat) (g:af->R br) (ss:List Slot) (ds:List D):R (D×List Slot):=if ss.length=nm/\ds.length=k then (match g (fQ n ss ds)with
 | .ok (.retc d ρ)=>(match dD nm ρ with|some ss'=> .ok (d,ss')|none=> .bad)
 | .ok (.nx ρ)=>(match dD nm ρ with|some ss'=> .ok (.non,ss')|none=> .bad)
 | .err z ρ=> .err z ρ
 |_=> .bad)else .bad
def J4 (K:Ku) (nm n:Nat) (m:List Slot->List D->R (D×List Slot)):Sp:=λvs H Q E=>∃F as ws ss ds Hz,vs=as.map V.ref++ws/\as.length=nm/\ws.length=n/\Ej K Hz F ss as H F/\(∀s∈ss,s.kind≠0)/\Reps K F ws ds/\match m ss ds with
 | .ok r=>∀v H' F',Ej K Hz F r.2 as H' F'->dU K F' v r.1->Q v H'
 | .err z ρe=>∃ss',dD nm ρe=some ss'/\∀ec q H' F',eO K z ec->Ej K Hz F ss' as H' F'->E ec q H'
 | .bad=>False
theorem RI.restrict {K:Ku} {c:dW ly} {ρ:af} {σ:St} {H F:Hp} {nm:Nat} {ss:List Slot} {as:List Kx} (r:RI K c ρ σ H F) (hB:c.B=λ_=>none) (ht:dD nm ρ=some ss) (hl:as.length=nm) (hσ:∀(j:Nat) a,as[j]? =some a->σ[j]? =some (some (.ref a))):Ej K c.H0 c.F0 ss as H F:=by
 obtain⟨t1,t2⟩:=ug ht
 have up:∀{k:Nat} {s:Slot},(ss.map some)[k]? =some (some s)->ρ[k]? =some (some s)/\k<as.length:=λ{k s} h=>by
  obtain⟨s',h1,h2⟩:=map_some h
  cases h2
  exact⟨t2 k s h1,by rw[hl,<-t1];exact(L3.mp h1).1⟩
 have at_:∀{k:Nat},k<as.length->(as.map λa=>some (V.ref a))[k]? =σ[k]? :=λ{k} h=>by
  have:as[k]? =some as[k]:=Ld h
  rw[hσ k _ this,mE this]
 refine⟨r.ext,λk d h=> ?_,λk d h=> ?_,λk d h=> ?_,(λ_ _ e=>by cases e),λk k' d d' a h h' e e'=> ?_,?_,(λL h=>by cases h),(λL h=>by cases h),(λ_ _ e=>by cases e),⟨λk x Sf f hs h=> ?_,λk k' x Sf f hs s h h' Sy=> ?_⟩,(λL h=>by cases h)⟩
 ·obtain⟨h1,h2⟩:=up h
  rw[at_ h2];exact r.val k d h1
 ·obtain⟨h1,h2⟩:=up h
  rw[at_ h2];exact r.own k d h1
 ·obtain⟨h1,h2⟩:=up h
  obtain⟨a,o,_,z,_⟩:=r.bor k d h1
  rw[hB]at z
  cases z
 ·obtain⟨h1,h2⟩:=up h
  obtain⟨g1,g2⟩:=up h'
  rw[at_ h2]at e
  rw[at_ g2]at e'
  exact r.dis k k' d d' a h1 g1 e e'
 ·simp only[KA];rw[t1,hl]
 ·obtain⟨h1,h2⟩:=up h
  obtain⟨a,dx,b,k1,k2,k3⟩:=r.cel.ex k x Sf f hs h1
  refine⟨a,dx,b,by rw[at_ h2];exact k1,k2,λj d hj e=> ?_⟩
  obtain⟨g1,g2⟩:=up hj
  rw[at_ g2]at e
  exact k3 j d g1 e
 ·exact r.cel.one k k' x Sf f hs s (up h).1 (up h').1 Sy
theorem AA {K:Ku} {N:List Kw} {Hz F H:Hp} {ss:List Slot} {as:List Kx} {ws:List V} {ds:List D} {Er:Kw->af->Prop} {nm m:Nat} (mr:Ej K Hz F ss as H F) (hk:∀s∈ss,s.kind≠0) (r:Reps K F ws ds) (hl:as.length=nm) (hN:N.length=nm+m) (hw:ws.length<=m)
  (Z1:∀L∈ly,L.x<nm):RI K (⟨Hz,F,λ_=>none,Er,λj=>as[j]?,λ_=>none⟩:dW ly) (fQ m ss ds) (dC N (as.map V.ref++ws)) H F:=by
 have Y7:ss.length=as.length:=by have:=mr.len;simpa using this
 have pre:∀{i:Nat},i<as.length->(dC N (as.map V.ref++ws))[i]? =(as.map λa=>some (V.ref a))[i]? :=λ{i} h=>by
  unfold dC
  rw[Lv,NX,Mq (by simpa using h),M1];rfl
 have hv:∀{i:Nat} {sl:Slot},(fQ m ss ds)[i]? =some (some sl)->((ss.map some)[i]? =some (some sl)/\i<as.length/\sl.kind≠0)\/∃(j:Nat) (d:D),i=as.length+j/\ds[j]? =some d/\sl= .val d:=λ{i sl} h=>by
  unfold fQ at h
  rw[Np]at h
  split at h
  ·rename_i hi
   obtain⟨s',h1,h2⟩:=map_some h
   cases h2
   exact .inl ⟨h,by rw[<-Y7];simpa using hi,hk _ (M8 h1)⟩
  ·rename_i hi
   refine .inr ⟨i - as.length,?_⟩
   have e:(ss.map (some:Slot->Option Slot)).length=as.length:=by simp[Y7]
   rw[e]at h
   unfold cY at h
   rw[Np]at h
   split at h
   ·rw[L8]at h
    cases e2:ds[i - as.length]? with
    |none=>rw[e2]at h;cases h
    |some d=>rw[e2]at h;simp at h;exact⟨d,by simp at hi;omega,rfl,h.symm⟩
   ·rw[Mh]at h
    split at h<;>simp at h
 have VZ:∀{i:Nat} {sl:Slot},(fQ m ss ds)[i]? =some (some sl)->(∀d,sl≠ .val d)->(ss.map some)[i]? =some (some sl)/\i<as.length:=λh n=>by
  rcases hv h with ⟨a,b,_⟩|⟨j,d,_,_,z⟩
  ·exact⟨a,b⟩
  ·exact absurd z (n d)
 refine⟨mr.ext,λi d h=> ?_,λi d h=> ?_,λi d h=> ?_,(λ_ _ e=>by cases e),λi j d d' a h h' e e'=> ?_,?_,λL hL h=> ?_,λL hL L' Vy h _=> ?_,(λ_ _ e=>by cases e),⟨λi x Sf f hs h=> ?_,λi j x Sf f hs s h h' Sy=> ?_⟩,λL hL a h=> ?_⟩
 ·rcases hv h with ⟨a,b,z⟩|⟨j,d',rfl,e,z⟩
  ·exact absurd rfl z
  ·cases z
   obtain⟨v,h1,h2⟩:=r.get e
   refine⟨v,?_,h2⟩
   unfold dC
   have hj:j<ws.length:=(L3.mp h1).1
   rw[Lv,NX,Nr (by simp),Mq (by simp;omega)]
   simp[h1]
 ·obtain⟨h1,h2⟩:=VZ h (λd' z=>by cases z)
  rw[pre h2];exact mr.own i d h1
 ·obtain⟨h1,h2⟩:=VZ h (λd' z=>by cases z)
  obtain⟨a,o,_,z,_⟩:=mr.bor i d h1
  cases z
 ·obtain⟨h1,h2⟩:=VZ h (λd' z=>by cases z)
  obtain⟨g1,g2⟩:=VZ h' (λd' z=>by cases z)
  rw[pre h2]at e
  rw[pre g2]at e'
  exact mr.dis i j d d' a h1 g1 e e'
 ·have:=r.length
  simp only[fQ,cY,dC,Lp,KA,O9,Y7]
  omega
 ·rcases hv h with ⟨a,b,z⟩|⟨j,d',_,_,z⟩
  ·exact absurd rfl z
  ·cases z
 ·rcases hv h with ⟨a,b,z⟩|⟨j,d',_,_,z⟩
  ·exact absurd rfl z
  ·cases z
 ·obtain⟨h1,h2⟩:=VZ h (λd' z=>by cases z)
  obtain⟨a,dx,b,k1,k2,k3⟩:=mr.cel.ex i x Sf f hs h1
  refine⟨a,dx,b,by rw[pre h2];exact k1,k2,λj d hj e=> ?_⟩
  obtain⟨g1,g2⟩:=VZ hj (λd' z=>by cases z)
  rw[pre g2]at e
  exact k3 j d g1 e
 ·exact mr.cel.one i j x Sf f hs s (VZ h (λd' z=>by cases z)).1 (VZ h' (λd' z=>by subst z;cases Sy)).1 Sy
 ·have:=Z1 L hL
  rw[pre (by omega)]
  exact mE (show as[L.x]? =some a from h)
theorem Iz {P:KW} {w:La} {K:Ku} {mg:Kw->Option Kv} {base:L4} {x qual:Kw} {st:L9} {f:Kx} {fd:M0} {N ps:List Kw} {k nm n m:Nat} {g:af->R br} (F:yK K x qual st f fd) (S:aB N ps (ak st))
  (hn:ps.length=nm+n) (hm:N.length=nm+m) (Xl:n<=m) (Z1:∀j,j<nm->∃L∈ly,L.x=j) (Y8:∀L∈ly,L.x<nm)
  (Sw:∀(Sb:Kv) (A:Lg) (outer:List Mm) (s:Ky) (H:Hp) (E:XK),cW k (A.deeper (Mp qual (ak st) s.heap.objs.size f Sb))->
   jE ly (iU (lg P w) P w K mg base N qual (ak st) f Sb A outer s H E) (bK st) g):fJ P w K mg base (lg P w) (k+1) f fd ps (J4 K nm n (iM nm n m g)):=by
 refine Ie F S (λvs H Q E h=> ?_) (λSb A outer s H vs Q E hr h=> ?_)
 ·obtain⟨Fz,as,ws,ss,ds,Hz,rfl,h1,h2,_⟩:=h
  rw[Lp,KA,h1,h2,hn]
 ·obtain⟨Fz,as,ws,ss,ds,Hz,rfl,h1,h2,mr,hk,r,w⟩:=h
  let c:dW ly:=⟨Hz,Fz,λ_=>none,λz ρe=>∃ss',dD nm ρe=some ss'/\∀ec q H' F',eO K z ec->Ej K Hz Fz ss' as H' F'->E ec q H',λj=>as[j]?,λ_=>none⟩
  have back:∀{ρ σ H' F' ss'},RI K c ρ σ H' F'->dD nm ρ=some ss'->Ej K Hz Fz ss' as H' F':=λ{ρ σ H' F' ss'} ri t=>ri.restrict rfl t h1 λj a e=>by
   have hj:j<nm:=by rw[<-h1];exact(L3.mp e).1
   obtain⟨L,hL,rfl⟩:=Z1 j hj
   exact ri.pin L hL a e
  refine⟨_,Sw Sb A outer s H E hr ⟨c,r_ λz ρ er ec a H' F' σ hc ri=> ?_⟩,?_⟩
  ·obtain⟨ss',t,q⟩:=er
   exact q ec a H' F' hc (back ri t)
  refine⟨Fz,fQ m ss ds,AA mr hk r h1 hm (by omega) Y8,?_⟩
  have hd:ss.length=nm/\ds.length=n:=⟨by have:=mr.len;simp only[KA]at this;omega,by rw[<-r.length];exact h2⟩
  unfold iM at w
  rw[if_pos hd]at w
  cases e:g (fQ m ss ds)with
  |bad=>rw[e]at w;exact w.elim
  |err z ρ=>rw[e]at w;exact w
  |ok o=>
   rw[e]at w
   cases o with
   |retc d ρ=>
    intro v σ' H' F' _ Tt rv
    dsimp only at w
    cases t:dD nm ρ with
    |none=>rw[t]at w;exact w.elim
    |some ss'=>rw[t]at w;exact w v H' F' (back Tt t) rv
   |nx ρ=>
    intro σ' H' F' _ Tt
    dsimp only at w
    cases t:dD nm ρ with
    |none=>rw[t]at w;exact w.elim
    |some ss'=>rw[t]at w;exact w .non H' F' (back Tt t) .non
   |_=>exact w.elim
structure xZ (P:KW) (w:La) (K:Ku) (mg:Kw->Option Kv) (base:L4) (k:Nat) (x:Kw) (nm n:Nat) (m:List Slot->List D->R (D×List Slot)):Prop where
 ex:∃f fd ps,fJ P w K mg base (lg P w) k f fd ps (J4 K nm n m)/\mg x=some (.ref f)/\Ly K (.ref f)=true/\gf K fd ps []
structure dq (P:KW) (w:La) (K:Ku) (mg:Kw->Option Kv) (base:L4) (k:Nat) (cls mm:Kw) (n:Nat) (m:List Slot->List D->R (D×List Slot)):Prop where
 ex:∃C f fd ps,fJ P w K mg base (lg P w) k f fd ps (J4 K 1 n m)/\jv K cls C/\xq K C mm f/\gf K fd ps []
section
variable {P:KW} {w:La} {K:Ku} {mg:Kw->Option Kv} {base:L4}
theorem uW {x:Kw} {st:L9} {N ps:List Kw} {k nm n m:Nat} {g:af->R br} (ly:List fz) (A:cA K mg x st ps) (S:aB N ps (ak st)) (hn:ps.length=nm+n) (hm:N.length=nm+m) (Xl:n<=m) (Z1:∀j,j<nm->∃L∈ly,L.x=j) (Y8:∀L∈ly,L.x<nm)
  (Sw:∀(f:Kx) (Sb:Kv) (A:Lg) (outer:List Mm) (s:Ky) (H:Hp) (E:XK),cW k (A.deeper (Mp x (ak st) s.heap.objs.size f Sb))->
   jE ly (iU (lg P w) P w K mg base N x (ak st) f Sb A outer s H E) (bK st) g):xZ P w K mg base (k+1) x nm n (iM nm n m g):=by
 obtain⟨f,fd,F,h1,h2⟩:=A.ex
 exact⟨f,fd,ps,Iz F S hn hm Xl Z1 Y8 λSb A outer s H E hr=>Sw f Sb A outer s H E hr,h1,F.kp,h2⟩
theorem j7 {cls mm qual:Kw} {st:L9} {N ps:List Kw} {k n m:Nat} {g:af->R br} (A:dL K cls mm qual st ps) (S:aB N ps (ak st)) (hn:ps.length=1+n) (hm:N.length=1+m) (Xl:n<=m)
  (Sw:∀(f:Kx) (Sb:Kv) (A:Lg) (outer:List Mm) (s:Ky) (H:Hp) (E:XK),cW k (A.deeper (Mp qual (ak st) s.heap.objs.size f Sb))->
   jE [⟨0,0,[]⟩] (iU (lg P w) P w K mg base N qual (ak st) f Sb A outer s H E) (bK st) g):dq P w K mg base (k+1) cls mm n (iM 1 n m g):=by
 obtain⟨C,f,fd,F,h1,h2,h3⟩:=A.ex
 exact⟨C,f,fd,ps,Iz F S hn hm Xl (λj hj=>⟨_,KU.mpr rfl,by show (0:Nat)=j;omega⟩) (λL hL=>by rw[KU.mp hL];exact Nat.zero_lt_one) λSb A outer s H E hr=>Sw f Sb A outer s H E hr,h1,h2,h3⟩
end
def fj (is:List Nat) (m:List Slot->List D->R (D×List Slot)) (n:Nat) (fs:af->R (List D)):af->R (D×af):=λρ=>match fc ρ is with
 |some ss=>if (ss.all λs=>s.kind != 0)=true/\is.Nodup then (fs ρ>>=λds=>if ds.length=n then (match m ss ds with
  | .ok r=>if r.2.map Slot.kind=ss.map Slot.kind then .ok (r.1,uV ρ is r.2)else .bad
  | .err z ρe=>(match dD is.length ρe with
   |some ss'=>if ss'.map Slot.kind=ss.map Slot.kind then .err z (uV ρ is ss')else .bad
   |none=> .bad)
  | .bad=> .bad)else .bad)else .bad
 |none=> .bad
def tX (K:Ku) (c:dW ly) (fx:af->R (D×af)):TE:=λσ H Q=>∃F ρ,RI K c ρ σ H F/\aN c (fx ρ) λr=>∀v H' F',bd F F'->RI K c r.2 σ H' F'->dU K F' v r.1->Q v H'
def PX (ly:List fz) (X:Cx) (e:KI) (fx:af->R (D×af)):Prop:=∀c:iX ly X,PE X e (tX X.K c.1 fx)
theorem At.of {K:Ku} {c:dW ly} {ρ:af} {σ:St} {H F:Hp} (r:RI K c ρ σ H F):∀{is:List Nat} {ss:List Slot},fc ρ is=some ss->(ss.all λs=>s.kind != 0)=true->∃as,At ρ σ is ss as
 |[],ss,h,_=>by cases h;exact⟨[], .nil⟩
 |i::is,ss,h,k=>by
  unfold fc at h
  split at h
  ·rename_i s hs
   cases e:fc ρ is with
   |none=>rw[e]at h;cases h
   |some t=>
    rw[e]at h
    cases h
    rw[L_,LN]at k
    obtain⟨as,A⟩:=At.of r e k.2
    have hk:s.kind≠0:=by simpa using k.1
    have:∃a,σ[i]? =some (some (.ref a)):=by
     cases s with
     |own d=>obtain⟨a,o,h1,_⟩:=r.own i d hs;exact⟨a,h1⟩
     |cel x Sf f Sy=>obtain⟨a,dx,b,h1,_⟩:=r.cel.ex i x Sf f Sy hs;exact⟨a,h1⟩
     |_=>exact absurd rfl hk
    obtain⟨a,ha⟩:=this
    exact⟨a::as, .cons hs hk ha A⟩
  ·cases h
section
variable {X:Cx} {e:KI} {es:List KI} {fs:af->R (List D)} {is:List Nat} {p pos Sl:Ls} {x m:Kw}
theorem x_ {c:iX ly X} {mf:List Slot->List D->R (D×List Slot)} {n:Nat} {ρ:af} {σ:St} {H F:Hp} {Q:VK} (ri:RI X.K c.1 ρ σ H F) (w:aN c.1 (fj is mf n fs ρ) λr=>∀v H' F',bd F F'->RI X.K c.1 r.2 σ H' F'->dU X.K F' v r.1->Q v H'):
  ∃ss as,At ρ σ is ss as/\He X.K c.1 fs σ H λvs H1=>J4 X.K is.length n mf (as.map V.ref++vs) H1 Q (E_ X c.1 σ):=by
 unfold fj at w
 split at w
 ·rename_i ss hs
  split at w
  ·rename_i hk
   obtain⟨hk,nd⟩:=hk
   obtain⟨as,A⟩:=At.of ri hs hk
   refine⟨ss,as,A,F,ρ,ri,(aN.bind.mp w).imp λds _ w1 vs H1 F1 e1 r1=> ?_⟩
   split at w1
   ·rename_i hl
    have r':=ri.step e1
    refine⟨F1,as,vs,ss,ds,kF H1 ρ σ is,rfl,A.lens.2,by rw[r1.length];exact hl,r'.split A nd,λs Sy=>by have:=MV.mp hk s Sy;simpa using this,r1,?_⟩
    split at w1
    ·rename_i r hr
     split at w1
     ·rename_i XS
      intro v H' F' mr rv
      exact w1 v H' F' (e1.grow.trans mr.ext.grow) (r'.join A nd mr XS) rv
     ·exact w1.elim
    ·rename_i z ρe hr
     split at w1
     ·rename_i ss' ht
      split at w1
      ·rename_i XS
       exact⟨ss',ht,λec q H' F' hc mr=>⟨z,_,F',hc,r'.join A nd mr XS,w1⟩⟩
      ·exact w1.elim
     ·exact w1.elim
    ·exact w1.elim
   ·exact w1.elim
  ·exact w.elim
 ·exact w.elim
def y0:List Nat->TA->TA
 |[],t=>t
 |i::is,t=>ER (B7 i) (y0 is t)
theorem uh {t:TA} {ρ:af} {σ:St} {H:Hp}:∀{is:List Nat} {ss:List Slot} {as:List Kx} {Q:List V->Hp->Prop},At ρ σ is ss as->t σ H (λvs H1=>Q (as.map V.ref++vs) H1)->y0 is t σ H Q
 |[],_,_,Q, .nil,h=>h
 |i::is,_,_,Q, .cons h1 h2 h3 A,h=>⟨_,h3,uh A h⟩
def J5 (ly:List fz) (X:Cx) (es:List KI) (is:List Nat) (fs:af->R (List D)):Prop:=∀c:iX ly X,PA X es (y0 is (He X.K c.1 fs))
theorem pT (h:vz ly X es fs):J5 ly X es [] fs:=λc=>h c
theorem i0 (i:Nat) (h:J5 ly X es is fs) (hN:X.N[i]? =some x:=by rfl) (hv:pz X.env.scope x:=by first|exact Lx rfl|exact Lj (Lx rfl)|exact Lj (Lj rfl)) (hd:(x==("__debug__":Kw))=false:=by decide)
  (Tu:(x==("__classdict__":Kw))=false:=by decide) (hs:KC (.Name x p::es) X.env=(false,L5 (.Name x p) X.env)::KC es X.env:=by rfl):J5 ly X (.Name x p::es) (i::is) fs:=λc=>df (pv i hN hv hd Tu) (h c) hs
theorem AB {k n:Nat} {mf:List Slot->List D->R (D×List Slot)} (G:xZ X.prog X.w X.K X.mg X.base k x is.length n mf) (hr:cW k X.A) (ha:J5 ly X (e::es) is fs) (hg:Gl X x:=by rfl) (TX:(x==("__debug__":Kw))=false:=by decide)
  (he:KC (e::es) X.env=(false,L5 e X.env)::KC es X.env:=by rfl) (Tq:(Ll pos (KC es X.env)).any (·.1)=false:=by rfl):PX ly X (.Call (.Name x p) (e::es) [] pos) (fj is mf n fs):=λc=>by
 obtain⟨f,fd,ps,h1,h2,h3,h4⟩:=G.ex
 refine PE.weak (ux h1 hr hg h2 h3 h4 .nil (oA c) (ha c) TX he Tq) λσ H Q q=> ?_
 obtain⟨F,ρ,ri,w⟩:=q
 obtain⟨ss,as,A,t⟩:=x_ ri w
 refine uh A ?_
 obtain⟨F0,ρ0,XE,w0⟩:=t
 exact⟨F0,ρ0,XE,w0.imp λds _ k vs H1 F1 e1 r1=>by dsimp only;rw[M5];exact k vs H1 F1 e1 r1⟩
def kG (i:Nat) (cls m:Kw) (fx:af->R (D×af)):af->R (D×af):=λρ=>match ρ[i]? with
 |some (some (.cel y Sf f hs))=>if y=cls/\m≠f/\Sf.lookup m=none then fx ρ else .bad
 |_=> .bad
theorem zf {c:iX ly X} {i:Nat} {cls:Kw} {fx:af->R (D×af)} {ρ:af} {σ:St} {H F:Hp} {C:Kx} {P:D×af->Prop} (T:jv X.K cls C) (ri:RI X.K c.1 ρ σ H F) (w:aN c.1 (kG i cls m fx ρ) P):
  ∃a dx fs,σ[i]? =some (some (.ref a))/\H a=some (.ins C dx fs)/\fs.lookup m=none/\aN c.1 (fx ρ) P:=by
 unfold kG at w
 split at w
 ·rename_i y Sf f hs hi
  split at w
  ·rename_i hc
   obtain⟨rfl,h1,h2⟩:=hc
   obtain⟨a,dx,b,k1,k2,k3⟩:=ri.cel.ex i y Sf f hs hi
   obtain⟨C',fs,vs,us,g1,g2,g3,g4,g5,g6,g7,g8,_⟩:=k2.ex
   have:C'=C:=by have:=T.ns;rw[g2]at this;cases this;rfl
   subst this
   refine⟨a,dx,fs,k1,g1,?_,w⟩
   cases q:fs.lookup m with
   |none=>rfl
   |some v=>
    rcases g8 m v q with z|z
    ·exact absurd z h1
    ·rw[g6.names]at z
     exact absurd z (gC h2)
  ·exact w.elim
 ·exact w.elim
theorem jI (i:Nat) {cls y:Kw} {py:Ls} {k n:Nat} {mf:List Slot->List D->R (D×List Slot)} {pl:N_ Bool} (G:dq X.prog X.w X.K X.mg X.base k cls m n mf) (hr:cW k X.A) (ha:vz ly X (e::es) fs)
  (hN:X.N[i]? =some y:=by rfl) (hv:pz X.env.scope y:=by first|exact Lx rfl|exact Lj (Lx rfl)|exact Lj (Lj rfl)) (hd:(y==("__debug__":Kw))=false:=by decide) (Tu:(y==("__classdict__":Kw))=false:=by decide)
  (V2:KC (e::es) X.env=(false,L5 e X.env)::KC es X.env:=by rfl) (Tq:(Ll pos (KC es X.env)).any (·.1)=false:=by rfl)
  (ht:L5 (.Call (.Attribute (.Name y py) m Sl) (e::es) [] pos) X.env=(do
   let ov<-L5 (.Name y py) X.env
   M_ Sl.atName
   let (f,first)<-Mx [ov] (Nj ov m pl)
   O4 pos f first (Ll pos (KC (e::es) X.env)) (Mu pos (M4 [] X.env))):=by rfl):
  PX ly X (.Call (.Attribute (.Name y py) m Sl) (e::es) [] pos) (kG i cls m (fj [i] mf n fs)):=λc=>by
 obtain⟨C,f,fd,ps,h1,h2,h3,h4⟩:=G.ex
 refine PE.weak (yC (pv i hN hv hd Tu) h2.cl h3 h1 hr h4 .nil (oA c) (ha c) V2 Tq ht) λσ H Q q=> ?_
 obtain⟨F,ρ,ri,w⟩:=q
 obtain⟨a,dx,Vv,k1,k2,k3,w⟩:=zf h2 ri w
 obtain⟨ss,as,A,t⟩:=x_ ri w
 cases A with
 |cons q1 q2 q3 A0=>
  cases A0
  rw[k1]at q3
  cases q3
  refine⟨.ref a,k1,a,dx,Vv,rfl,k2,k3,?_⟩
  obtain⟨F0,ρ0,XE,w0⟩:=t
  exact⟨F0,ρ0,XE,w0.imp λds _ k vs H1 F1 e1 r1=>by dsimp only;rw[M5];exact k vs H1 F1 e1 r1⟩
theorem Ek (i:Nat) {cls y:Kw} {py:Ls} {k n:Nat} {mf:List Slot->List D->R (D×List Slot)} {pl:N_ Bool} (G:dq X.prog X.w X.K X.mg X.base k cls m n mf) (hr:cW k X.A)
  (hN:X.N[i]? =some y:=by rfl) (hv:pz X.env.scope y:=by first|exact Lx rfl|exact Lj (Lx rfl)|exact Lj (Lj rfl)) (hd:(y==("__debug__":Kw))=false:=by decide) (Tu:(y==("__classdict__":Kw))=false:=by decide)
  (ht:L5 (.Call (.Attribute (.Name y py) m Sl) [] [] pos) X.env=(do
   let ov<-L5 (.Name y py) X.env
   M_ Sl.atName
   let (f,first)<-Mx [ov] (Nj ov m pl)
   O4 pos f first (Ll pos (KC [] X.env)) (Mu pos (M4 [] X.env))):=by rfl):
  PX ly X (.Call (.Attribute (.Name y py) m Sl) [] [] pos) (kG i cls m (fj [i] mf n ai)):=λc=>by
 obtain⟨C,f,fd,ps,h1,h2,h3,h4⟩:=G.ex
 refine PE.weak (vH (pv i hN hv hd Tu) h2.cl h3 h1 hr h4 .nil (oA c) ht) λσ H Q q=> ?_
 obtain⟨F,ρ,ri,w⟩:=q
 obtain⟨a,dx,Vv,k1,k2,k3,w⟩:=zf h2 ri w
 obtain⟨ss,as,A,t⟩:=x_ ri w
 cases A with
 |cons q1 q2 q3 A0=>
  cases A0
  rw[k1]at q3
  cases q3
  refine⟨.ref a,k1,a,dx,Vv,rfl,k2,k3,?_⟩
  obtain⟨F0,ρ0,XE,w0⟩:=t
  exact w0 [] H F0 (c8.refl XE.sub) .nil
end
end L2.Pu
namespace L2.Pu
open PySem PySem.Spec PyProof.Rows
variable {ly:List fz}
def AD (g:Kw) (d:D) (Sf:List (Kw×D)):List (Kw×D):=Sf.map λp=>if p.1=g then (p.1,d)else p
section
variable {K:Ku} {c:dW ly} {ρ:af} {σ:St} {H F:Hp} {i:Nat} {z:Kx}
theorem RepF.put {vs:List (Kw×V)} {Sf:List (Kw×D)} {g:Kw} {v:V} {d:D} (h:RepF K F vs Sf) (r:dU K F v d):RepF K F (vs.map λp=>if p.1=g then (p.1,v)else p) (AD g d Sf):=by
 induction Sf generalizing vs with
 |nil=>rw[h.nilI];exact .nil
 |cons p Sf ih=>
  obtain⟨k,x⟩:=p
  obtain⟨u,us,rfl,h1,h2⟩:=h.consI
  have:=ih h2
  unfold AD at this ⊢
  rw[KO,KO]
  dsimp only
  by_cases e:k=g
  ·rw[if_pos e,if_pos e];exact .cons r this
  ·rw[if_neg e,if_neg e];exact .cons h1 this
theorem RI.celUpd (r:RI K c ρ σ H F) {x x':Kw} {Sf WJ:List (Kw×D)} {f f':Kw} {hs Sy:List D} {a dx b:Kx} {o':HO} (hi:ρ[i]? =some (some (.cel x Sf f hs))) (h1:σ[i]? =some (some (.ref a))) (hz:gm H ρ σ i z)
  (A':lz K (kF H ρ σ [i]) (b_ H z o') F a dx b x' WJ f' Sy):RI K c (ρ.set i (some (.cel x' WJ f' Sy))) σ (b_ H z o') F:=by
 refine r.join (is:=[i]) (ss:=[.cel x Sf f hs]) (ss':=[.cel x' WJ f' Sy]) (as:=[a]) (.cons hi (by intro e;cases e) h1 .nil) (by simp) ?_ rfl
 have a21:kF H ρ σ [i] z=none:=lO (KU.mpr rfl) hz
 have only:∀{k:Nat} {s:Slot},(([Slot.cel x' WJ f' Sy]:List Slot).map some)[k]? =some (some s)->k=0/\s= .cel x' WJ f' Sy:=λ{k s} h=>by
  cases k with
  |zero=>cases h;exact⟨rfl,rfl⟩
  |succ k=>simp at h
 refine⟨⟨λy u e=> ?_,λy u e=> ?_,bd.refl _,λ_ h=> .inl h⟩,λk d h=> ?_,λk d h=> ?_,λk d h=> ?_,(λ_ _ e=>by cases e),λk k' d d' a h=> ?_,rfl,(λL h=>by cases h),(λL h=>by cases h),(λ_ _ e=>by cases e),⟨λk y vd g hh h=> ?_,λk k' y vd g hh s h h' _=> ?_⟩,(λL h=>by cases h)⟩
 ·rw[az (λq=>by rw[q,(r.owns hz).2.1]at e;cases e)];exact r.sub y u e
 ·have e':kF H ρ σ [i] y=some u:=e
  rw[az (λq=>by rw[q,a21]at e';cases e')];exact uf e'
 ·obtain⟨_,q⟩:=only h;cases q
 ·obtain⟨_,q⟩:=only h;cases q
 ·obtain⟨_,q⟩:=only h;cases q
 ·obtain⟨_,q⟩:=only h;cases q
 ·obtain⟨rfl,q⟩:=only h
  cases q
  exact⟨a,dx,b,rfl,A',λj d hj=>by obtain⟨_,q⟩:=only hj;cases q⟩
 ·rw[(only h).1,(only h').1]
end
section
variable {X:Cx} {a b e value:KI} {es:List KI} {fa fb f fv:af->R D} {fs:af->R (List D)} {pos px Sl Vn Sh Ss:Ls} {y g cls:Kw} {xs:List Kw}
def cZ (i:Nat) (cls g:Kw):af->R D:=λρ=>match ρ[i]? with
 |some (some (.cel x Sf _ _))=>if x=cls then R.of (Sf.lookup g)else .bad
 |_=> .bad
theorem oQ {K:Ku} {c:dW ly} {ρ:af} {σ:St} {H F:Hp} {i:Nat} {C:Kx} {x:Kw} {Sf:List (Kw×D)} {f:Kw} {hs:List D} (ri:RI K c ρ σ H F) (T:jv K x C) (hi:ρ[i]? =some (some (.cel x Sf f hs))):
  ∃a dx b fs vs us,σ[i]? =some (some (.ref a))/\H a=some (.ins C dx fs)/\lz K c.H0 H F a dx b x Sf f hs/\fs.lookup f=some (.ref b)/\H b=some (.lst us)/\Reps K F us hs/\RepF K F vs Sf/\(∀p∈vs,fs.lookup p.1=some p.2)/\
   (∀g v,fs.lookup g=some v->g=f\/g∈vs.map (·.1))/\(fs.map (·.1)).Nodup/\f∉vs.map (·.1):=by
 obtain⟨a,dx,b,k1,k2,k3⟩:=ri.cel.ex i x Sf f hs hi
 obtain⟨C',fs,vs,us,g1,g2,g3⟩:=k2.ex
 have:C'=C:=by have:=T.ns;rw[g2]at this;cases this;rfl
 subst this
 exact⟨a,dx,b,fs,vs,us,k1,g1,k2,g3⟩
theorem dn (i:Nat) (T:cC X.K cls xs) (hx:g∈xs) (hN:X.N[i]? =some y:=by rfl) (hv:pz X.env.scope y:=by first|exact Lx rfl|exact Lj (Lx rfl)|exact Lj (Lj rfl)) (hd:(y==("__debug__":Kw))=false:=by decide)
  (Tu:(y==("__classdict__":Kw))=false:=by decide) (hb:Lz (.Name y px) g X.env (L5 (.Name y px) X.env)=L5 (.Name y px) X.env:=by rfl):PQ ly X (.Attribute (.Name y px) g pos) (cZ i cls g):=by
 obtain⟨C,h1,h2⟩:=T.ex
 exact λc=>PE.weak (rF (pv i hN hv hd Tu) hb) λσ H Q ⟨F,ρ,ri,w⟩=>by
  unfold cZ at w
  split at w
  ·rename_i x Sf f hs hi
   split at w
   ·rename_i hc
    subst hc
    obtain⟨d,hd,k⟩:=w.of
    obtain⟨a,dx,b,fs,vs,us,k1,k2,k3,k4,k5,k6,k7,k8,_⟩:=oQ ri h1 hi
    obtain⟨v,m1,m2⟩:=k7.get hd
    exact⟨.ref a,k1,a,C,dx,fs,v,rfl,k2,h1.cl,h2 g hx,k8 _ m1,k v H F (c8.refl ri.sub) m2⟩
   ·exact w.elim
  ·exact w.elim
def qv (i:Nat) (cls g:Kw):af->R D:=λρ=>match ρ[i]? with
 |some (some (.cel x _ f hs))=>if x=cls/\f=g then .ok (.lst hs)else .bad
 |_=> .bad
theorem CF (i:Nat) (T:cC X.K cls xs) (hx:g∈xs) (hN:X.N[i]? =some y:=by rfl) (hv:pz X.env.scope y:=by first|exact Lx rfl|exact Lj (Lx rfl)|exact Lj (Lj rfl)) (hd:(y==("__debug__":Kw))=false:=by decide)
  (Tu:(y==("__classdict__":Kw))=false:=by decide) (hb:Lz (.Name y px) g X.env (L5 (.Name y px) X.env)=L5 (.Name y px) X.env:=by rfl):PB ly X (.Attribute (.Name y px) g pos) (qv i cls g):=by
 obtain⟨C,h1,h2⟩:=T.ex
 exact λc=>PE.weak (rF (pv i hN hv hd Tu) hb) λσ H Q ⟨F,ρ,ri,w⟩=>by
  unfold qv at w
  split at w
  ·rename_i x Sf f hs hi
   split at w
   ·rename_i hc
    obtain⟨rfl,rfl⟩:=hc
    obtain⟨a,dx,b,fs,vs,us,k1,k2,k3,k4,k5,k6,_⟩:=oQ ri h1 hi
    exact⟨.ref a,k1,a,C,dx,fs, .ref b,rfl,k2,h1.cl,h2 _ hx,k4,w (.ref b) H F (c8.refl ri.sub) (.inr ⟨b, .lst us,rfl,k5, .lst k6⟩)⟩
   ·exact w.elim
  ·exact w.elim
def rf (i:Nat) (cls g:Kw) (fv:af->R D):af->R br:=λρ=>match ρ[i]? with
 |some (some (.cel x Sf f hs))=>fv ρ>>=λd=>if x=cls/\(Sf.lookup g).isSome=true/\Sf.length<900 then .ok (.nx (ρ.set i (some (.cel x (AD g d Sf) f hs))))else .bad
 |_=> .bad
theorem wF {α:Type} {g:Kw}:∀{l:List (Kw×α)},(l.lookup g).isSome=true->g∈l.map (·.1)
 |(k,v)::r,h=>by
  rw[LX]at h
  cases e:g==k with
  |true=>rw[eq_of_beq e];exact K_
  |false=>rw[e]at h;exact L0 _ (wF h)
theorem wG (i:Nat) (T:cC X.K cls xs) (hx:g∈xs) (hv:PQ ly X value fv) (hN:X.N[i]? =some y:=by rfl) (a22:pz X.env.scope y:=by first|exact Lx rfl|exact Lj (Lx rfl)|exact Lj (Lj rfl)) (hd:(y==("__debug__":Kw))=false:=by decide)
  (Tu:(y==("__classdict__":Kw))=false:=by decide) (hs:LI value (some (.Attribute (.Name y px) g Ss)) pos.line X.env=pure false:=by rfl):mP ly X (.Assign [.Attribute (.Name y px) g Ss] value pos) (rf i cls g fv):=by
 obtain⟨C,h1,h2⟩:=T.ex
 exact λc=>PS.weak (FO (pv i hN a22 hd Tu) (hv c) hs) λD σ H ⟨F,ρ,ri,w⟩=>by
  unfold rf at w
  split at w
  ·rename_i x Sf f hs hi
   refine⟨F,ρ,ri,(aN.bind.mp w).imp λd _ w1 v H1 F1 e1 r1=> ?_⟩
   split at w1
   ·rename_i hc
    obtain⟨rfl,hl,Sq⟩:=hc
    have VG:=ri.step e1
    obtain⟨a,dx,b,fs,vs,us,k1,k2,k3,k4,k5,k6,k7,k8,k9,Yk,a1a⟩:=oQ VG h1 hi
    have a0q:g∈vs.map (·.1):=by rw[k7.names];exact wF hl
    have a23:g≠f:=λz=>by rw[z]at a0q;exact a1a a0q
    have Z2:fs.length<1000:=by
     have:(fs.map (·.1)).length<=(f::vs.map (·.1)).length:=h_ Yk λq hq=>by
      obtain⟨u,hu⟩:=kC hq
      rcases k9 q u hu with z|z
      ·rw[z];exact K_
      ·exact L0 _ z
     rw[KA,L6,k7.names,KA]at this
     omega
    refine⟨_,k1,a,C,dx,fs,rfl,k2,h1.cl,h2 g hx,Z2,?_⟩
    have oa:gm H1 ρ σ i a:= .inr ⟨x,Sf,f,hs,a,C,dx,fs,hi,k1,k2, .inl rfl⟩
    have cz:∀z,(z=a\/z=dx\/fs.lookup f=some (.ref z))->kF H1 ρ σ [i] z=none:=λz hz=>lO (KU.mpr rfl) (.inr ⟨x,Sf,f,hs,a,C,dx,fs,hi,k1,k2,hz⟩)
    have a24:dx≠a:=λz=>by have:=k3.own;rw[z,k2]at this;cases this
    have a25:b≠a:=λz=>by rw[z,k2]at k5;cases k5
    refine w1 σ _ F1 e1.grow (VG.celUpd (dx:=dx) (b:=b) hi k1 oa ⟨⟨C,ij g v fs,vs.map (λp=>if p.1=g then (p.1,v)else p),us,aE,h1.ns,?_,?_,k6,k7.put r1,λp hp=> ?_,λq u hq=> ?_,uU _ _ Yk,?_⟩,?_,k3.fa,k3.fd,k3.fb,cz a (.inl rfl),cz dx (.inr (.inl rfl)),cz b (.inr (.inr k4))⟩)
    ·rw[de,if_neg (Mn a23)];exact k4
    ·rw[az a25];exact k5
    ·obtain⟨q,hq,rfl⟩:=Mv.mp hp
     rw[de]
     by_cases z:q.1=g
     ·rw[if_pos z,if_pos z]
     ·rw[if_neg z,if_neg z];exact k8 q hq
    ·have WG:(vs.map (λp=>if p.1=g then (p.1,v)else p)).map (·.1)=vs.map (·.1):=by
      rw[M1];refine Nx λp _=> ?_
      show (if p.1=g then (p.1,v)else p).1=p.1
      split<;>rfl
     rw[WG]
     rw[de]at hq
     by_cases z:q=g
     ·rw[z];exact .inr a0q
     ·rw[if_neg z]at hq;exact k9 q u hq
    ·have WG:(vs.map (λp=>if p.1=g then (p.1,v)else p)).map (·.1)=vs.map (·.1):=by
      rw[M1];refine Nx λp _=> ?_
      show (if p.1=g then (p.1,v)else p).1=p.1
      split<;>rfl
     rw[WG];exact a1a
    ·rw[az a24];exact k3.own
   ·exact w1.elim
  ·exact w.elim
theorem zg {K:Ku} {c:dW ly} {ρ:af} {σ:St} {H F:Hp} {i:Nat} {C:Kx} {x:Kw} {Sf:List (Kw×D)} {f:Kw} {hs Sy:List D} {a dx b:Kx} {fs:List (Kw×V)} {us a0r:List V} (ri:RI K c ρ σ H F) (hi:ρ[i]? =some (some (.cel x Sf f hs))) (k1:σ[i]? =some (some (.ref a))) (k2:H a=some (.ins C dx fs))
  (k3:lz K c.H0 H F a dx b x Sf f hs) (k4:fs.lookup f=some (.ref b)) (k5:H b=some (.lst us)) (q:Reps K F a0r Sy):RI K c (ρ.set i (some (.cel x Sf f Sy))) σ (b_ H b (.lst a0r)) F:=by
 have cz:∀z,(z=a\/z=dx\/fs.lookup f=some (.ref z))->gm H ρ σ i z:=λz hz=> .inr ⟨x,Sf,f,hs,a,C,dx,fs,hi,k1,k2,hz⟩
 have cy:∀z,gm H ρ σ i z->kF H ρ σ [i] z=none:=λz o=>lO (KU.mpr rfl) o
 have a26:a≠b:=λz=>by rw[<-z,k2]at k5;cases k5
 have a27:dx≠b:=λz=>by have:=k3.own;rw[z,k5]at this;cases this
 obtain⟨C',Vv,vs,a3z,g1,g2,g3,g4,g5,g6,g7⟩:=k3.ex
 rw[k2]at g1
 cases g1
 exact ri.celUpd (dx:=dx) (b:=b) hi k1 (cz b (.inr (.inr k4))) ⟨⟨C,fs,vs,a0r,by rw[az a26];exact k2,g2,k4,aE,q,g6,g7⟩,by rw[az a27];exact k3.own,k3.fa,k3.fd,k3.fb,cy _ (cz a (.inl rfl)),cy _ (cz dx (.inr (.inl rfl))),cy _ (cz b (.inr (.inr k4)))⟩
def rh (i:Nat) (cls g:Kw) (f:af->R D):af->R br:=λρ=>match ρ[i]? with
 |some (some (.cel x Sf h hs))=>if x=cls/\h=g then (f ρ>>=λd=>if hs.length<lim then .ok (.nx (ρ.set i (some (.cel x Sf h (hs++[d])))))else .bad)else .bad
 |_=> .bad
theorem CG (i:Nat) (T:cC X.K cls xs) (hx:g∈xs) (h:PQ ly X e f) (hN:X.N[i]? =some y:=by rfl) (hv:pz X.env.scope y:=by first|exact Lx rfl|exact Lj (Lx rfl)|exact Lj (Lj rfl)) (hd:(y==("__debug__":Kw))=false:=by decide)
  (Tu:(y==("__classdict__":Kw))=false:=by decide) (hb:Lz (.Name y px) g X.env (L5 (.Name y px) X.env)=L5 (.Name y px) X.env:=by rfl)
  (SR:Lz (.Attribute (.Name y px) g Vn) "append" X.env (L5 (.Attribute (.Name y px) g Vn) X.env)=L5 (.Attribute (.Name y px) g Vn) X.env:=by rfl)
  (UN:((Ll Sh (KC [e] X.env)).all (λx=> !x.1)&&(Mu Sh (M4 [] X.env)).all (λx=>x.1.isSome)
   &&decide (([e]:List KI).length+([]:List MJ).length+(if ([]:List MJ).isEmpty then 0 else 1)<30))=true:=by rfl)
  (SS:(Sl.endLine==Sh.line)=true:=by rfl) (hs:KC [e] X.env=(false,L5 e X.env)::KC [] X.env:=by rfl) (SU:(Ll Sh (KC [] X.env)).any (·.1)=false:=by rfl)
  (VX:LI (.Call (.Attribute (.Attribute (.Name y px) g Vn) "append" Sl) [e] [] Sh) none pos.line X.env=pure false:=by rfl):mP ly X (.Expr (.Call (.Attribute (.Attribute (.Name y px) g Vn) "append" Sl) [e] [] Sh) pos) (rh i cls g f):=by
 obtain⟨C,h1,h2⟩:=T.ex
 exact λc=>PS.weak (o9 (yI M7 Pm Pn pE (rF (pv i hN hv hd Tu) hb) (df (h c) gP hs) SR UN SS hs SU) VX) λD σ H ⟨F,ρ,ri,w⟩=>by
  unfold rh at w
  split at w
  ·rename_i x Sf f' hs hi
   split at w
   ·rename_i hc
    obtain⟨rfl,rfl⟩:=hc
    obtain⟨a,dx,b,fs,vs,us,k1,k2,k3,k4,k5,k6,_⟩:=oQ ri h1 hi
    refine⟨.ref a,k1,a,C,dx,fs, .ref b,rfl,k2,h1.cl,h2 _ hx,k4, .inl ⟨rfl,us,dA.of k5⟩,F,ρ,ri,(aN.bind.mp w).imp λd _ w1 v H1 F1 e1 r1=> ?_⟩
    split at w1
    ·rename_i hl
     refine⟨b,us,v,rfl,rfl,e1.keep _ _ k5,Ln (by rw[k6.length];exact hl) gz,?_⟩
     exact w1 σ _ F1 e1.grow (zg (ri.step e1) hi k1 (e1.keep _ _ k2) (k3.step e1) k4 (e1.keep _ _ k5) ((k6.mono e1.grow).append (.cons r1 .nil)))
    ·exact w1.elim
   ·exact w.elim
  ·exact w.elim
def uX (j i:Nat) (cls g:Kw):af->R br:=λρ=>match ρ[i]? with
 |some (some (.cel x Sf h hs))=>if x=cls/\h=g then (match hs[hs.length - 1]? with
  |some d=> .ok (.nx ((ρ.set i (some (.cel x Sf h hs.dropLast))).set j (some (.val d))))
  |none=> .bad)else .bad
 |_=> .bad
theorem Reps.dropLast {K:Ku} {F:Hp} {vs:List V} {ds:List D} (h:Reps K F vs ds):Reps K F vs.dropLast ds.dropLast:=by
 rw[Qe,Qe,h.length];exact h.take _
theorem CH (j i:Nat) {z:Kw} (a0s:X.N.Nodup) (T:cC X.K cls xs) (hx:g∈xs) (hN:X.N[i]? =some y:=by rfl) (hv:pz X.env.scope y:=by first|exact Lx rfl|exact Lj (Lx rfl)|exact Lj (Lj rfl)) (hd:(y==("__debug__":Kw))=false:=by decide)
  (Tu:(y==("__classdict__":Kw))=false:=by decide) (hb:Lz (.Name y px) g X.env (L5 (.Name y px) X.env)=L5 (.Name y px) X.env:=by rfl)
  (SR:Lz (.Attribute (.Name y px) g Vn) "pop" X.env (L5 (.Attribute (.Name y px) g Vn) X.env)=L5 (.Attribute (.Name y px) g Vn) X.env:=by rfl) (SS:(Sl.endLine==Sh.line)=true:=by rfl)
  (a28:X.N[j]? =some z:=by rfl) (a29:zO X.env.scope z:=by first|exact Lx rfl|exact Lj rfl) (VX:LI (.Call (.Attribute (.Attribute (.Name y px) g Vn) "pop" Sl) [] [] Sh) (some (.Name z Ss)) pos.line X.env=pure false:=by rfl)
  (hf:X.fn z=true\/X.env.scope.names.lookup z=some .local:=by first|exact .inl rfl|exact .inr rfl|assumption) (Uh:lh ly j:=by(repeat (first|assumption|exact L2.Pu.fK|refine L2.Pu.eo ⟨by first|decide|simp,by first|decide|simp⟩ ?_))):
  mP ly X (.Assign [.Name z Ss] (.Call (.Attribute (.Attribute (.Name y px) g Vn) "pop" Sl) [] [] Sh) pos) (uX j i cls g):=by
 obtain⟨C,h1,h2⟩:=T.ex
 exact λc=>PS.weak (nz a0s a28 a29 (By M7 Qf Qg Bz (rF (pv i hN hv hd Tu) hb) SR SS) VX hf) λD σ H ⟨F,ρ,ri,w⟩=>by
  unfold uX at w
  split at w
  ·rename_i x Sf f' hs hi
   split at w
   ·rename_i hc
    obtain⟨rfl,rfl⟩:=hc
    obtain⟨a,dx,b,fs,vs,us,k1,k2,k3,k4,k5,k6,_⟩:=oQ ri h1 hi
    split at w
    ·rename_i d hd
     obtain⟨v,m1,m2⟩:=k6.get hd
     refine⟨.ref a,k1,a,C,dx,fs, .ref b,rfl,k2,h1.cl,h2 _ hx,k4, .inl ⟨rfl,us,dA.of k5⟩,b,us,v,rfl,rfl,k5,by rw[k6.length];exact m1,?_⟩
     exact w _ _ F (bd.refl _) ((zg ri hi k1 k2 k3 k4 k5 k6.dropLast).setVal j Uh m2)
    ·exact w.elim
   ·exact w.elim
  ·exact w.elim
variable {fx:af->R (D×af)}
def iC (f:af->R D):af->R br:=λρ=>f ρ>>=λd=> .ok (.retc d ρ)
theorem kH (h:PQ ly X e f):mP ly X (.Return (some e) pos) (iC f):=λc=>PS.weak (rB (h c)) λD σ H ⟨F,ρ,ri,w⟩=>
 ⟨F,ρ,ri,(aN.bind.mp w).imp λd _ w1 v H' F' e r=>w1 v σ H' F' e.grow (ri.step e) r⟩
def j8 (fx:af->R (D×af)):af->R br:=λρ=>fx ρ>>=λr=> .ok (.retc r.1 r.2)
theorem nN (h:PX ly X e fx):mP ly X (.Return (some e) pos) (j8 fx):=λc=>PS.weak (rB (h c)) λD σ H ⟨F,ρ,ri,w⟩=>
 ⟨F,ρ,ri,(aN.bind.mp w).imp λr _ w1 v H' F' e Tt rv=>w1 v σ H' F' e Tt rv⟩
def j9 (fx:af->R (D×af)):af->R br:=λρ=>fx ρ>>=λr=> .ok (.nx r.2)
theorem oR (h:PX ly X e fx) (VX:LI e none pos.line X.env=pure false:=by rfl):mP ly X (.Expr e pos) (j9 fx):=λc=>PS.weak (o9 (h c) VX) λD σ H ⟨F,ρ,ri,w⟩=>
 ⟨F,ρ,ri,(aN.bind.mp w).imp λr _ w1 v H' F' e Tt rv=>w1 σ H' F' e Tt⟩
def zh (i:Nat) (fx:af->R (D×af)):af->R br:=λρ=>fx ρ>>=λr=> .ok (.nx (r.2.set i (some (.val r.1))))
theorem GC (i:Nat) {x:Kw} (hN:X.N.Nodup) (he:PX ly X e fx) (hi:X.N[i]? =some x:=by rfl) (hx:zO X.env.scope x:=by first|exact Lx rfl|exact Lj rfl) (hs:LI e (some (.Name x Ss)) pos.line X.env=pure false:=by rfl)
  (hf:X.fn x=true\/X.env.scope.names.lookup x=some .local:=by first|exact .inl rfl|exact .inr rfl|assumption) (Uh:lh ly i:=by(repeat (first|assumption|exact L2.Pu.fK|refine L2.Pu.eo ⟨by first|decide|simp,by first|decide|simp⟩ ?_))):mP ly X (.Assign [.Name x Ss] e pos) (zh i fx):=λc=>
 PS.weak (nz hN hi hx (he c) hs hf) λD σ H ⟨F,ρ,ri,w⟩=>⟨F,ρ,ri,(aN.bind.mp w).imp λr _ w1 v H' F' e Tt rv=>w1 _ H' F' e (Tt.setVal i Uh rv)⟩
def lP (f:af->R D) (fx:af->R (D×af)):af->R (D×af):=λρ=>f ρ>>=λd=>fx ρ>>=λr=> .ok (.lst [d,r.1],r.2)
theorem GD (h:PQ ly X a f) (hx:PX ly X b fx) (hs:KC [a,b] X.env=(false,L5 a X.env)::KC [b] X.env:=by rfl) (VU:KC [b] X.env=(false,L5 b X.env)::KC [] X.env:=by rfl):PX ly X (.List [a,b] pos) (lP f fx):=λc=>
 PE.weak (rG (df (h c) (df (hx c) gP VU) hs)) λσ H Q ⟨F,ρ,ri,w⟩=>⟨F,ρ,ri,(aN.bind.mp w).imp λd _ w1 v H1 F1 e1 r1=>⟨F1,ρ,ri.step e1,(aN.bind.mp w1).imp λr _ w2 u H2 F2 e2 WW r2=>by
  refine⟨by show 2<=sizeLine;exact Lq (by decide) gz,λp hp=> ?_⟩
  have e3:=c8.lay (o:= .lst [v,u]) WW.sub hp
  exact w2 _ _ _ ((e1.grow.trans e2).trans e3.grow) (WW.step e3) (.lst aE (.cons ((r1.mono e2).mono e3.grow) (.cons (r2.mono e3.grow) .nil)))⟩⟩
def K2 (K:Ku) (c:dW ly) (gx:af->R (Bool×af)):TT:=λσ H Q=>∃F ρ,RI K c ρ σ H F/\aN c (gx ρ) λr=>∀H' F',bd F F'->RI K c r.2 σ H' F'->Q r.1 H'
def IA (ly:List fz) (X:Cx) (e:KI) (gx:af->R (Bool×af)):Prop:=∀c:iX ly X,PT X e (K2 X.K c.1 gx)
def AE (fx:af->R (D×af)):af->R (Bool×af):=λρ=>fx ρ>>=λr=>match r.1 with
 | .bl b=> .ok (b,r.2)
 |_=> .bad
theorem y3 (h:PX ly X e fx) (he:∀TR,Q5 e X.env TR=(do let v<-TR;M_ e.pos;Mx [v] (Ru v)):=by intro _;rfl):IA ly X e (AE fx):=λc=>PT.weak (Fw (h c) he) λσ H Q ⟨F,ρ,ri,w⟩=>
 ⟨F,ρ,ri,(aN.bind.mp w).imp λr _ w1 v H' F' e Tt rv=>by
  cases q:r.1 with
  |bl b=>rw[q]at w1 rv;cases rv;exact⟨b,rfl,w1 H' F' e Tt⟩
  |_=>rw[q]at w1;exact w1.elim⟩
def ui (gx:af->R (Bool×af)):af->R (Bool×af):=λρ=>gx ρ>>=λr=> .ok (!r.1,r.2)
theorem y6 {gx:af->R (Bool×af)} (h:IA ly X e gx):IA ly X (.UnaryOp .Not e pos) (ui gx):=λc=>PT.weak (Bb (h c)) λσ H Q ⟨F,ρ,ri,w⟩=>⟨F,ρ,ri,(aN.bind.mp w).imp λr _ w1 H' F' e Tt=>w1 H' F' e Tt⟩
def AF (gx:af->R (Bool×af)) (g g':af->R br):af->R br:=λρ=>gx ρ>>=λr=>if r.1=true then g r.2 else g' r.2
theorem CI {gx:af->R (Bool×af)} {g g':af->R br} {ta tb:List L9} (hc:IA ly X e gx) (ha:jE ly X ta g) (hb:jE ly X tb g'):mP ly X (.If e ta tb pos) (AF gx g g'):=λc=>PS.weak (EK (hc c) (ha c) (hb c)) λD σ H ⟨F,ρ,ri,w⟩=>
 ⟨F,ρ,ri,(aN.bind.mp w).imp λr _ w1 H1 F1 e1 VG=>by
  cases q:r.1 with
  |true=>rw[q]at w1;rw[if_pos rfl]at w1 ⊢;exact⟨F1,r.2,VG,w1.imp λo _ k=>k.mono e1⟩
  |false=>rw[q]at w1;rw[if_neg Lc]at w1 ⊢;exact⟨F1,r.2,VG,w1.imp λo _ k=>k.mono e1⟩⟩
end
end L2.Pu
namespace L2.Pu
open PySem PySem.Spec PyProof.Rows
variable {ly:List fz}
mutual
inductive jZ (f:Kw):D->Prop
 |non:jZ f .non
 |bl (b:Bool):jZ f (.bl b)
 |int (i:Int):jZ f (.int i)
 |str (x:Kw):jZ f (.str x)
 |tup {ds:List D}:Cleans f ds->jZ f (.tup ds)
 |ins {x:Kw} {fds:List (Kw×D)}:fds.lookup f=none->CleanF f fds->jZ f (.ins x fds)
inductive Cleans (f:Kw):List D->Prop
 |nil:Cleans f []
 |cons {d:D} {ds:List D}:jZ f d->Cleans f ds->Cleans f (d::ds)
inductive CleanF (f:Kw):List (Kw×D)->Prop
 |nil:CleanF f []
 |cons {k:Kw} {d:D} {ds:List (Kw×D)}:jZ f d->CleanF f ds->CleanF f ((k,d)::ds)
end
open Classical in
noncomputable def kI (F:Hp) (Ow:Kx->Prop):Hp:=λz=>if Ow z then none else F z
theorem oS {F:Hp} {Ow:Kx->Prop} {z:Kx} (h:¬Ow z):kI F Ow z=F z:=if_neg h
theorem sr {F:Hp} {Ow:Kx->Prop} {z:Kx} {u:HO} (h:kI F Ow z=some u):¬Ow z/\F z=some u:=by
 unfold kI at h
 split at h
 ·cases h
 ·rename_i n;exact⟨n,h⟩
theorem dU.cut {K:Ku} {F:Hp} {Ow:Kx->Prop} {f:Kw} (hn:∀z,Ow z->∀vs,F z≠some (.tup vs)) (hi:∀z,Ow z->∀C dx fs,F z=some (.ins C dx fs)->fs.lookup f≠none) (ho:∀z a,Ow z->F z=some (.own a)->Ow a) {v:V} {d:D} (h:dU K F v d):jZ f d->dU K (kI F Ow) v d:=by
 refine dU.rec (motive_1:=λv d _=>jZ f d->dU K (kI F Ow) v d) (motive_2:=λv d _=>Cleans f d->Reps K (kI F Ow) v d) (motive_3:=λv d _=>True) (motive_4:=λv d _=>CleanF f d->RepF K (kI F Ow) v d)
  (λ_=> .non) (λb _=> .bl b) (λi _=> .int i) (λx _=> .str x) (λ{a vs ds} h _ ih c=> ?_) (λh _ ih c=>by cases c) (λh c=>by cases c) (λh _ n ih c=>by cases c) (λ{a C dx x fs vs fds} h1 h2 h3 h4 h5 h6 ih c=> ?_) (λh n c=>by cases c) (λ_=> .nil) (λ_ _ ih a0t c=> ?_) trivial (λ_ _ _ _=>trivial) (λ_=> .nil) (λ_ _ ih a0t c=> ?_) h
 ·cases c with
  |tup c=>exact .tup (by rw[oS (λo=>hn a o vs h)];exact h) (ih c)
 ·cases c with
  |ins cl c=>
   have na:¬Ow a:=λo=>by
    refine hi a o C dx fs h1 ?_
    cases q:fs.lookup f with
    |none=>rfl
    |some u=>
     have:=h5 f u q
     rw[h6.names]at this
     exact absurd this (gC cl)
   have nd:¬Ow dx:=λo=>na (ho dx a o h2)
   exact .ins (by rw[oS na];exact h1) (by rw[oS nd];exact h2) h3 h4 h5 (ih c)
 ·cases c with
  |cons c1 c2=>exact .cons (ih c1) (a0t c2)
 ·cases c with
  |cons c1 c2=>exact .cons (ih c1) (a0t c2)
def Slot.frozen:Slot->Slot
 | .own d=> .val d
 | .cel x Sf f hs=> .val (.ins x (Sf++[(f, .lst hs)]))
 |s=>s
theorem uY (s:Slot):s.frozen.frozen=s.frozen:=by cases s<;>rfl
def su (i:Nat) (ρ:af):af:=match ρ[i]? with
 |some (some s)=>ρ.set i (some s.frozen)
 |_=>ρ
def oU (L:List Nat) (ρ:af):af:=L.foldl (λr i=>su i r) ρ
theorem AG (i:Nat) (ρ:af):(su i ρ).length=ρ.length:=by
 unfold su
 split
 ·simp
 ·rfl
theorem uj:∀(L:List Nat) (ρ:af),(oU L ρ).length=ρ.length
 |[],ρ=>rfl
 |i::L,ρ=>(uj L (su i ρ)).trans (AG i ρ)
theorem uk {i j:Nat} {ρ:af} {s:Slot} (h:(su i ρ)[j]? =some (some s)):(i=j/\∃s0,ρ[j]? =some (some s0)/\s=s0.frozen)\/(i≠j/\ρ[j]? =some (some s)):=by
 unfold su at h
 split at h
 ·rename_i s0 hs
  rcases aA h with ⟨rfl,z,_⟩|⟨z,h⟩
  ·cases z;exact .inl ⟨rfl,s0,hs,rfl⟩
  ·exact .inr ⟨z,h⟩
 ·rename_i n
  refine .inr ⟨λe=> ?_,h⟩
  subst e
  exact n s h
theorem et:∀{L:List Nat} {j:Nat} {ρ:af} {s:Slot},(oU L ρ)[j]? =some (some s)->(j∈L/\∃s0,ρ[j]? =some (some s0)/\s=s0.frozen)\/(j∉L/\ρ[j]? =some (some s))
 |[],j,ρ,s,h=> .inr ⟨by simp,h⟩
 |i::L,j,ρ,s,h=>by
  rcases et (L:=L) (ρ:=su i ρ) h with ⟨h1,s0,h2,h3⟩|⟨h1,h2⟩
  ·refine .inl ⟨L0 _ h1,?_⟩
   rcases uk h2 with ⟨rfl,s1,g1,g2⟩|⟨_,g1⟩
   ·exact⟨s1,g1,by rw[h3,g2,uY]⟩
   ·exact⟨s0,g1,h3⟩
  ·rcases uk h2 with ⟨rfl,s1,g1,g2⟩|⟨n,g1⟩
   ·exact .inl ⟨K_,s1,g1,g2⟩
   ·exact .inr ⟨λm=>(KR.mp m).elim (λq=>n q.symm) h1,g1⟩
open Classical in
noncomputable def lQ (H F:Hp) (ρ:af) (σ:St) (L:List Nat):Hp:=λz=>if ∃i∈L,gm H ρ σ i z then H z else F z
section
variable {K:Ku} {c:dW ly} {ρ:af} {σ:St} {H F H' F':Hp} {L:List Nat}
theorem mF {i:Nat} {z:Kx} (hi:i∈L) (h:gm H ρ σ i z):lQ H F ρ σ L z=H z:=if_pos ⟨i,hi,h⟩
theorem ja {z:Kx} (h:¬∃i∈L,gm H ρ σ i z):lQ H F ρ σ L z=F z:=if_neg h
theorem RepF.snoc {vs:List (Kw×V)} {Sf:List (Kw×D)} {f:Kw} {v:V} {d:D} (h:RepF K F vs Sf) (r:dU K F v d):RepF K F (vs++[(f,v)]) (Sf++[(f,d)]):=by
 induction Sf generalizing vs with
 |nil=>rw[h.nilI];exact .cons r .nil
 |cons p Sf ih=>
  obtain⟨k,x⟩:=p
  obtain⟨u,us,rfl,h1,h2⟩:=h.consI
  exact .cons h1 (ih h2)
theorem RI.lend (r:RI K c ρ σ H F) (L:List Nat):bd F (lQ H F ρ σ L)/\RI K c (oU L ρ) σ H (lQ H F ρ σ L):=by
 have grow:bd F (lQ H F ρ σ L):=λz u e=>by
  by_cases o:∃i∈L,gm H ρ σ i z
  ·obtain⟨i,hi,o⟩:=o
   rw[(r.owns o).2.1]at e
   cases e
  ·rw[ja o];exact e
 have out:∀{j:Nat} {z:Kx},j∉L->gm H ρ σ j z->lQ H F ρ σ L z=none:=λ{j z} hj o=>by
  rw[ja (λ⟨i,hi,o'⟩=>hj (by rw[r.owns_inj o o'];exact hi))]
  exact(r.owns o).2.1
 refine⟨grow,⟨⟨λz u e=> ?_,r.ext.keep,r.ext.grow.trans grow,λz e=> ?_⟩,λj d h=> ?_,λj d h=> ?_,λj d h=> ?_,r.bh,λj j' d d' a h h'=> ?_,?_,λM hM h=> ?_,λM hM M' Y4 h h'=> ?_,r.fm.trans grow,⟨λj x Sf f hs h=> ?_,λj j' x Sf f hs s h h' Sy=> ?_⟩,r.pin⟩⟩
 ·by_cases o:∃i∈L,gm H ρ σ i z
  ·obtain⟨i,hi,o⟩:=o
   rw[mF hi o]at e;exact e
  ·rw[ja o]at e;exact r.sub z u e
 ·by_cases o:∃i∈L,gm H ρ σ i z
  ·obtain⟨i,hi,o⟩:=o
   exact .inr (r.owns o).1
  ·rw[ja o]at e;exact r.ext.new z e
 ·rcases et h with ⟨hj,s0,h1,h2⟩|⟨_,h1⟩
  ·cases s0 with
   |val d'=>cases h2;obtain⟨v,k1,k2⟩:=r.val j d h1;exact⟨v,k1,k2.mono grow⟩
   |own d'=>
    cases h2
    obtain⟨a,o,k1,k2,k3,k4,k5⟩:=r.own j d h1
    have fa:lQ H F ρ σ L a=some o:=by rw[mF hj (.inl ⟨d,h1,k1⟩)];exact k2
    refine⟨.ref a,k1,?_⟩
    cases k5 with
    |lst q=>exact .lst fa (q.mono grow)
    |dic q n=>exact .dic fa (q.mono grow) n
   |cel x Sf f hs=>
    cases h2
    obtain⟨a,dx,b,k1,k2,k3⟩:=r.cel.ex j x Sf f hs h1
    have YZ:=k2
    obtain⟨C,fs,vs,us,g1,g2,g3,g4,g5,g6,g7,g8,g9,a14⟩:=k2.ex
    have ow:∀z,(z=a\/z=dx\/fs.lookup f=some (.ref z))->lQ H F ρ σ L z=H z:=λz hz=>mF hj (.inr ⟨x,Sf,f,hs,a,C,dx,fs,h1,k1,g1,hz⟩)
    refine⟨.ref a,k1, .ins (by rw[ow a (.inl rfl)];exact g1) (by rw[ow dx (.inr (.inl rfl))];exact k2.own) g2 (vs:=vs++[(f, .ref b)]) (λp hp=> ?_) (λg v hg=> ?_) ((g6.mono grow).snoc (.lst (by rw[ow b (.inr (.inr g3))];exact g4) (g5.mono grow)))⟩
    ·rcases LB.mp hp with q|q
     ·exact g7 p q
     ·rw[KU.mp q];exact g3
    ·rw[Lv]
     rcases g8 g v hg with q|q
     ·rw[q];exact Lm _ K_
     ·exact LU _ q
   |bor d'=>cases h2
   |obj=>cases h2
  ·obtain⟨v,k1,k2⟩:=r.val j d h1;exact⟨v,k1,k2.mono grow⟩
 ·rcases et h with ⟨hj,s0,h1,h2⟩|⟨hj,h1⟩
  ·cases s0<;>cases h2
  ·obtain⟨a,o,k1,k2,k3,k4,k5⟩:=r.own j d h1
   exact⟨a,o,k1,k2,out hj (.inl ⟨d,h1,k1⟩),k4,k5.mono grow⟩
 ·rcases et h with ⟨hj,s0,h1,h2⟩|⟨hj,h1⟩
  ·cases s0 with
   |bor d'=>cases h2;exact r.bor j d h1
   |_=>cases h2
  ·exact r.bor j d h1
 ·have un:∀{j:Nat} {d:D},(oU L ρ)[j]? =some (some (.own d))->ρ[j]? =some (some (.own d)):=λh=>by
   rcases et h with ⟨hj,s0,h1,h2⟩|⟨hj,h1⟩
   ·cases s0<;>cases h2
   ·exact h1
  exact r.dis j j' d d' a (un h) (un h')
 ·rw[uj];exact r.len
 ·have h1:ρ[M.x]? =some (some .obj):=by
   rcases et h with ⟨hj,s0,h1,h2⟩|⟨hj,h1⟩
   ·cases s0 with
    |obj=>exact h1
    |_=>cases h2
   ·exact h1
  obtain⟨a,dx,fs,k0,k1,k2,k3,k4,k5,k6⟩:=r.obj M hM h1
  have no:∀{z:Kx} {u:HO},H z=some u->(∀d,¬iW K F u d)->F z=none->lQ H F ρ σ L z=none:=λ{z u} hz nr hf=>by
   rw[ja]
   ·exact hf
   ·rintro⟨i,hi,o⟩
    rcases o with ⟨d,g1,g2⟩|⟨x,Sf,f,hs,a,C,dx,fs,g1,_⟩
    ·obtain⟨p,u',q1,q2,_,_,q5⟩:=r.own i d g1
     rw[g2]at q1
     cases q1
     rw[hz]at q2
     cases q2
     exact nr d q5
    ·have:=r.cel.one i M.x x Sf f hs _ g1 h1 rfl
     subst this
     rw[h1]at g1
     cases g1
  exact⟨a,dx,fs,k0,k1,k2,k3,no k2 (λd q=>by cases q) k4,no k3 (λd q=>by cases q) k5,k6⟩
 ·have un:∀{j:Nat},(oU L ρ)[j]? =some (some .obj)->ρ[j]? =some (some .obj):=λh=>by
   rcases et h with ⟨hj,s0,h1,h2⟩|⟨hj,h1⟩
   ·cases s0 with
    |obj=>exact h1
    |_=>cases h2
   ·exact h1
  exact r.odis M hM M' Y4 (un h) (un h')
 ·rcases et h with ⟨hj,s0,h1,h2⟩|⟨hj,h1⟩
  ·cases s0<;>cases h2
  ·obtain⟨a,dx,b,k1,k2,k3⟩:=r.cel.ex j x Sf f hs h1
   have YZ:=k2
   obtain⟨C,fs,vs,us,g1,g2,g3,g4,g5,g6,g7⟩:=k2.ex
   have ow:∀z,(z=a\/z=dx\/fs.lookup f=some (.ref z))->lQ H F ρ σ L z=none:=λz hz=>out hj (.inr ⟨x,Sf,f,hs,a,C,dx,fs,h1,k1,g1,hz⟩)
   refine⟨a,dx,b,k1,⟨⟨C,fs,vs,us,g1,g2,g3,g4,g5.mono grow,g6.mono grow,g7⟩,k2.own,ow a (.inl rfl),ow dx (.inr (.inl rfl)),ow b (.inr (.inr g3)),k2.za,k2.zd,k2.zb⟩,λj' d h'=> ?_⟩
   rcases et h' with ⟨Wk,s0,We,UJ⟩|⟨Wk,We⟩
   ·cases s0<;>cases UJ
   ·exact k3 j' d We
 ·have un:∀{j:Nat} {s:Slot},(oU L ρ)[j]? =some (some s)->s.single=true->ρ[j]? =some (some s):=λh hs=>by
   rcases et h with ⟨hj,s0,h1,h2⟩|⟨hj,h1⟩
   ·cases s0 with
    |obj=>rw[h2];exact h1
    |_=>rw[h2]at hs;cases hs
   ·exact h1
  exact r.cel.one j j' x Sf f hs s (un h rfl) (un h' Sy) Sy
def zi (f:Kw) (ρ:af) (i:Nat):Bool:=match ρ[i]? with
 |some (some (.cel _ _ g _))=>g==f
 |_=>true
theorem RI.unlend (r:RI K c ρ σ H F) {f:Kw} (hc:L.all (zi f ρ)=true) (e:c8 H (lQ H F ρ σ L) H' F') {v:V} {d:D} (q:dU K F' v d) (cl:jZ f d):∃F2,c8 H F H' F2/\dU K F2 v d:=by
 have up:∀{i:Nat} {z:Kx} {u:HO},i∈L->gm H ρ σ i z->H z=some u->F' z=some u:=λhi o h=>e.grow _ _ (by rw[mF hi o];exact h)
 have Ue:∀{i:Nat} {z:Kx},i∈L->gm H ρ σ i z->(∃d,iW K F (Option.getD (H z) (.own 0)) d/\∃u,H z=some u)\/(∃C dx fs,H z=some (.ins C dx fs)/\fs.lookup f≠none)\/(∃a,H z=some (.own a)/\gm H ρ σ i a)\/∃us,H z=some (.lst us):=λ{i z} hi o=>by
  rcases o with ⟨d,g1,g2⟩|⟨x,Sf,g,hs,a,C,dx,fs,g1,g2,g3,g4⟩
  ·obtain⟨p,u,q1,q2,_,_,q5⟩:=r.own i d g1
   rw[g2]at q1
   cases q1
   exact .inl ⟨d,by rw[q2];exact q5,u,q2⟩
  ·obtain⟨b,m1,m2,m3⟩:=r.celIn g1 g2 g3
   have hg:g=f:=by
    have:=MV.mp hc i hi
    unfold zi at this
    rw[g1]at this
    simpa using this
   rcases g4 with rfl|rfl|g4
   ·exact .inr (.inl ⟨C,dx,fs,g3,by rw[<-hg,m2];simp⟩)
   ·exact .inr (.inr (.inl ⟨a,m1.own, .inr ⟨x,Sf,g,hs,a,C,_,fs,g1,g2,g3, .inl rfl⟩⟩))
   ·rw[m2]at g4
    cases g4
    obtain⟨C',Vv,vs,us,q1,q2,q3,q4,_⟩:=m1.ex
    exact .inr (.inr (.inr ⟨us,q4⟩))
 refine⟨kI F' (λz=>∃i∈L,gm H ρ σ i z),⟨λz u h=>e.sub z u (sr h).2,e.keep,λz u h=> ?_,λz h=> ?_⟩,q.cut (f:=f) ?_ ?_ ?_ cl⟩
 ·have no:¬∃i∈L,gm H ρ σ i z:=λ⟨i,hi,o⟩=>by rw[(r.owns o).2.1]at h;cases h
  rw[oS no]
  exact e.grow z u (by rw[ja no];exact h)
 ·cases w:kI F' (λz=>∃i∈L,gm H ρ σ i z) z with
  |none=>exact absurd w h
  |some u=>
   obtain⟨no,w2⟩:=sr w
   rcases e.new z (by rw[w2];simp)with k|k
   ·rw[ja no]at k;exact .inl k
   ·exact .inr k
 ·rintro z ⟨i,hi,o⟩ vs h
  obtain⟨_,_,u,hu⟩:=r.owns o
  rw[up hi o hu]at h
  cases h
  rcases Ue hi o with ⟨d,k,_⟩|⟨C,dx,fs,k,_⟩|⟨a,k,_⟩|⟨us,k⟩
  ·rw[hu]at k;cases k
  ·rw[hu]at k;cases k
  ·rw[hu]at k;cases k
  ·rw[hu]at k;cases k
 ·rintro z ⟨i,hi,o⟩ C dx fs h
  obtain⟨_,_,u,hu⟩:=r.owns o
  rw[up hi o hu]at h
  cases h
  rcases Ue hi o with ⟨d,k,_⟩|⟨C',XD,Vv,k,k2⟩|⟨a,k,_⟩|⟨us,k⟩
  ·rw[hu]at k;cases k
  ·rw[hu]at k;cases k;exact k2
  ·rw[hu]at k;cases k
  ·rw[hu]at k;cases k
 ·rintro z a ⟨i,hi,o⟩ h
  obtain⟨_,_,u,hu⟩:=r.owns o
  rw[up hi o hu]at h
  cases h
  rcases Ue hi o with ⟨d,k,_⟩|⟨C',XD,Vv,k,k2⟩|⟨a',k,k2⟩|⟨us,k⟩
  ·rw[hu]at k;cases k
  ·rw[hu]at k;cases k
  ·rw[hu]at k;cases k;exact⟨i,hi,k2⟩
  ·rw[hu]at k;cases k
end
section
variable {X:Cx} {e:KI} {es:List KI} {f:af->R D} {g:af->R Bool} {pos:Ls}
open Classical in
noncomputable def nO (x:Kw) (L:List Nat) (f:af->R D):af->R D:=λρ=>if L.all (zi x ρ)=true then (f (oU L ρ)>>=λd=>if jZ x d then .ok d else .bad)else .bad
theorem zj (x:Kw) (L:List Nat) (h:PQ ly X e f):PQ ly X e (nO x L f):=λc=>PE.weak (h c) λσ H Q ⟨F,ρ,ri,w⟩=>by
 unfold nO at w
 split at w
 ·rename_i hc
  obtain⟨s,Tt⟩:=ri.lend L
  refine⟨_,_,Tt,(aN.bind.mp w).imp λd _ w1 v H1 F1 e1 r1=> ?_⟩
  split at w1
  ·rename_i cl
   obtain⟨F2,e2,r2⟩:=ri.unlend hc e1 r1 cl
   exact w1 v H1 F2 e2 r2
  ·exact w1.elim
 ·exact w.elim
def uZ (L:List Nat) (g:af->R Bool):af->R Bool:=λρ=>g (oU L ρ)
theorem zk (L:List Nat) (h:vy ly X e g):vy ly X e (uZ L g):=λc=>PT.weak (h c) λσ H Q ⟨F,ρ,ri,w⟩=>by
 obtain⟨s,Tt⟩:=ri.lend L
 exact⟨_,_,Tt,aN.imp w λb _ w1 H1 F1 e1=>w1 H1 F (wx ri.sub e1.keep)⟩
end
end L2.Pu
namespace L2.Pu
open PySem PySem.Spec PyProof.Rows
variable {ly:List fz}
theorem RI.fldO {K:Ku} {c:dW ly} {ρ:af} {σ:St} {H F:Hp} (r:RI K c ρ σ H F) {f:Kw} {L:fz} (hL:L∈ly) (hρ:ρ[L.x]? =some (some .obj)) {a dx p:Kx} {fs:List (Kw×V)} {i:Nat} {o:HO} {d:D} (hx:σ[L.x]? =some (some (.ref a))) (ha:H a=some (.ins L.C dx fs)) (hf:(f,i)∈L.fl)
  (hn:∀p∈L.fl,p.1=f<->p.2=i) (Y3:L.x≠i) (Wm:∀M∈ly,M≠L->M.x≠i/\∀p∈M.fl,p.2≠i) (Xb:i<σ.length) (hp:H p=some o) (fp:F p=none) (zp:c.H0 p=none) (ro:iW K F o d) (ne:∀(j:Nat) d',ρ[j]? =some (some (.own d'))->σ[j]? ≠some (some (.ref p))):
  RI K c (ρ.set i (some (.own d))) (σ.set i (some (.ref p))) (b_ H a (.ins L.C dx (ij f (.ref p) fs))) F:=by
 obtain⟨b,XD,Vv,k0,k1,k2,k3,k4,k5,k6,k7,k8,k9,Yk⟩:=r.obj L hL hρ
 rw[hx]at k1
 cases k1
 rw[ha]at k2
 cases k2
 have a2a:p≠a:=λz=>by subst z;rw[ha]at hp;cases hp;cases ro
 refine⟨⟨λx y e=> ?_,λx y e=> ?_,r.ext.grow,r.ext.new⟩,λj e q=> ?_,λj e q=> ?_,λj e q=> ?_,r.bh,λj k e e' x q1 q2 q3 q4=> ?_,by simp[r.len],λM hM hq=> ?_,λM hM M' Y4 YT YU x q1 q2=> ?_,r.fm, .no λj x Sf g hs w=> ?_,λM hM a h=> ?_⟩
 ·rw[az (λz=>by rw[z,k4]at e;cases e)];exact r.sub x y e
 ·rw[az (λz=>by rw[z,k6]at e;cases e)];exact r.ext.keep x y e
 ·rcases aA q with ⟨rfl,z,l⟩|⟨z,q⟩
  ·cases z
  ·rw[ao z];exact r.val j e q
 ·rcases aA q with ⟨rfl,z,l⟩|⟨z,q⟩
  ·cases z;exact⟨p,o,gu Xb,by rw[az a2a];exact hp,fp,zp,ro⟩
  ·obtain⟨x,o,g1,g2,g3,g4,g5⟩:=r.own j e q
   have nx:x≠a:=λz=>by subst z;rw[ha]at g2;cases g2;cases g5
   exact⟨x,o,by rw[ao z];exact g1,by rw[az nx];exact g2,g3,g4,g5⟩
 ·rcases aA q with ⟨rfl,z,l⟩|⟨z,q⟩
  ·cases z
  ·rw[ao z];exact r.bor j e q
 ·rcases aA q1 with ⟨rfl,z,l⟩|⟨z,q1⟩
  ·rw[gu Xb]at q3
   cases q3
   rcases aA q2 with ⟨rfl,z',l⟩|⟨z',q2⟩
   ·rfl
   ·rw[ao z']at q4;exact absurd q4 (ne k e' q2)
  ·rw[ao z]at q3
   rcases aA q2 with ⟨rfl,z',l⟩|⟨z',q2⟩
   ·rw[gu Xb]at q4
    cases q4
    exact absurd q3 (ne j e q1)
   ·rw[ao z']at q4
    exact r.dis j k e e' x q1 q2 q3 q4
 ·by_cases VF:M=L
  ·subst VF
   refine⟨a,dx,ij f (.ref p) fs,k0,by rw[ao Y3.symm];exact hx,aE,?_,k4,k5,k6,k7,λp hp=> ?_,λg u hu=> ?_,uU _ _ Yk⟩
   ·rw[az (λz=>by rw[z,ha]at k3;cases k3)];exact k3
   ·rw[de]
    by_cases e:p.1=f
    ·rw[if_pos e,(hn p hp).mp e,gu Xb];rfl
    ·rw[if_neg e,ao (λz=>e ((hn p hp).mpr z.symm))];exact k8 p hp
   ·rw[de]at hu
    by_cases e:g=f
    ·subst e;exact Mv.mpr ⟨_,hf,rfl⟩
    ·rw[if_neg e]at hu;exact k9 g u hu
  ·have ho:=Wm M hM VF
   rw[ao ho.1.symm]at hq
   obtain⟨b,dy,gs,g0,g1,g2,g3,g4,g5,g6,g7,g8,g9⟩:=r.obj M hM hq
   have nb:b≠a:=λz=>VF (r.odis M hM L hL hq hρ a (by rw[<-z];exact g1) hx)
   have nd:dy≠a:=λz=>by subst z;rw[ha]at g3;cases g3
   refine⟨b,dy,gs,g0,by rw[ao ho.1.symm];exact g1,by rw[az nb];exact g2,by rw[az nd];exact g3,g4,g5,g6,g7,λp hp=> ?_,g9⟩
   rw[ao (ho.2 p hp).symm];exact g8 p hp
 ·have Xs:∀M∈ly,M.x≠i:=λM hM=>by
   by_cases VF:M=L
   ·subst VF;exact Y3
   ·exact(Wm M hM VF).1
  rw[ao (Xs M hM).symm]at q1 YT
  rw[ao (Xs M' Y4).symm]at q2 YU
  exact r.odis M hM M' Y4 YT YU x q1 q2
 ·rcases aA w with ⟨rfl,z,l⟩|⟨z,w⟩
  ·cases z
  ·have:=r.cel.one j L.x x Sf g hs .obj w hρ rfl
   subst this
   rw[hρ]at w
   cases w
 ·have Xs:M.x≠i:=by
   by_cases VF:M=L
   ·subst VF;exact Y3
   ·exact(Wm M hM VF).1
  rw[ao Xs.symm];exact r.pin M hM a h
section
variable {X:Cx} {pos Ss px pl:Ls} {f y g:Kw}
def CJ (x i:Nat):af->R br:=λρ=>match ρ[x]? with
 |some (some .obj)=> .ok (.nx (ρ.set i (some (.own (.lst [])))))
 |_=> .bad
theorem GF {L:fz} (i:Nat) (hC:vG X.K L.C) (n:eC X.K L.C f) (A:Cp ly L f i) (hN:X.N[L.x]? =some y:=by rfl) (a0j:pz X.env.scope y:=by first|exact Lx rfl|exact Lj (Lx rfl)|exact Lj (Lj rfl)) (hd:(y==("__debug__":Kw))=false:=by decide)
  (Tu:(y==("__classdict__":Kw))=false:=by decide) (hi:X.N[i]? =some g:=by rfl) (hvis:¬pz X.env.scope g:=by decide+kernel) (hs:LI (.List [] pl) (some (.Attribute (.Name y px) f Ss)) pos.line X.env=pure false:=by rfl):
  mP ly X (.Assign [.Attribute (.Name y px) f Ss] (.List [] pl) pos) (CJ L.x i):=by
 intro c S4 s σ H D I q
 obtain⟨F,ρ,ri,w⟩:=q
 have Xb:i<σ.length:=by rw[I.len];exact(L3.mp hi).1
 unfold CJ at w
 split at w
 ·rename_i hρ
  refine y_ i hi hvis (pv L.x hN a0j hd Tu) (rG gP) hs S4 s σ H D I ⟨Ml _,λp hp=> ?_⟩
  have VG:=ri.step (c8.layOwn ri.sub (o:= .lst []) hp)
  obtain⟨a,dx,fs,h0,h1,h2,h3,h4,h5,h6,h7,h8,h9,Yl⟩:=VG.obj L A.mem hρ
  have Sq:fs.length<1000:=by
   have:(fs.map (·.1)).length<=(L.fl.map (·.1)).length:=h_ Yl λq hq=>by
    obtain⟨u,hu⟩:=kC hq
    exact h9 q u hu
   rw[KA,KA]at this
   exact OA this A.few
  refine⟨_,h1,a,L.C,dx,fs,rfl,h2,hC,n,Sq,?_⟩
  refine w _ _ F (bd.refl _) (VG.fldO A.mem hρ h1 h2 A.fl A.un A.x A.oth Xb aE (ri.sub.free hp) (ri.ext.keep.free hp) (.lst .nil) λj d' hj e=> ?_)
  obtain⟨b,o',q1,q2,_⟩:=ri.own j d' hj
  rw[e]at q1
  cases q1
  rw[hp]at q2
  cases q2
 ·exact w.elim
end
def s_ (fl:List (Kw×Nat)) (fo:Kw) (io:Nat) (ρ:af):R (List (Kw×D)×Kw×List D):=match ρ[0]? with
 |some (some Slot.obj)=>(match ρ[io]? with
  |some (some (.own (.lst hs)))=>(match dZ fl ρ with
   |some fds=> .ok (fds,fo,hs)
   |none=> .bad)
  |_=> .bad)
 |_=> .bad
def lS (k n:Nat) (fl:List (Kw×Nat)) (fo:Kw) (io:Nat) (g:af->R br) (ds:List D):R (List (Kw×D)×Kw×List D):=if ds.length=k then g (jH n ds)>>=λo=>match o with
 | .nx ρ=>s_ fl fo io ρ
 |_=> .bad else .bad
def zl (K:Ku) (C:Kx) (cls:Kw) (k:Nat) (mi:List D->R (List (Kw×D)×Kw×List D)):Sp:=λvs H Q E=>∃F x dx us ds Hz,vs= .ref x::us/\us.length=k/\bd F Hz/\Hz x=none/\Hz dx=none/\dx≠x/\H=b_ (b_ Hz dx (.own x)) x (.ins C dx [])/\Reps K F us ds/\match mi ds with
 | .ok r=>∀H' F' XD b,c8 Hz F H' F'->lz K Hz H' F' x XD b cls r.1 r.2.1 r.2.2->Q .non H'
 | .err z _=>∀ec a H' F',eO K z ec->c8 Hz F H' F'->E ec a H'
 | .bad=>False
theorem El {K:Ku} {C:Kx} {cls fo:Kw} {io:Nat} {fl:List (Kw×Nat)} {c:dW [⟨0,C,fl++[(fo,io)]⟩]} {ρ:af} {σ:St} {H F:Hp} {fds:List (Kw×D)} {hs:List D} {x:Kx} (ri:RI K c ρ σ H F) (hρ:ρ[0]? =some (some .obj)) (a0k:c.oa 0=some x) (Wi:KQ K KJ cls=some (some (.ref C)))
  (ho:ρ[io]? =some (some (.own (.lst hs)))) (h:dZ fl ρ=some fds) (Z3:fo∉fl.map (·.1)):∃dx b,lz K c.H0 H F x dx b cls fds fo hs:=by
 obtain⟨a,dx,fs,h0,h1,h2,h3,h4,h5,h6,h7,h8,h9,Yl⟩:=ri.obj _ (KU.mpr rfl) hρ
 cases h0 x a0k
 obtain⟨vs,g1,g2,g3⟩:=nK ri h λp hp=>h8 p (LU _ hp)
 obtain⟨b,o,k1,k2,k3,k4,k5⟩:=ri.own io _ ho
 cases k5 with
 |lst q=>
  have lf:fs.lookup fo=some (.ref b):=by
   have:=h8 (fo,io) (Lm _ K_)
   rw[this]
   show (σ[io]?).join=_
   rw[k1];rfl
  refine⟨dx,b,⟨⟨C,fs,vs,_,h2,Wi,lf,k2,q,g1,g3,λg v hg=> ?_,Yl,by rw[g2];exact Z3⟩,h3,h4,h5,k3,h6,h7,k4⟩⟩
  have:=h9 g v hg
  rw[Lv]at this
  rcases LB.mp this with z|z
  ·exact .inr (by rw[g2];exact z)
  ·exact .inl (KU.mp z)
theorem CK {P:KW} {w:La} {K:Ku} {mg:Kw->Option Kv} {base:L4} {x qual cls fo:Kw} {st:L9} {f C:Kx} {fd:M0} {N ps:List Kw} {k n m io:Nat} {fl:List (Kw×Nat)} {g:af->R br} (F:yK K x qual st f fd) (S:aB N ps (ak st))
  (Wi:KQ K KJ cls=some (some (.ref C))) (hn:ps.length=n+1) (hm:N.length=m+1) (hg:∀p∈fl++[(fo,io)],n<p.2) (Xl:n<=m) (Z3:fo∉fl.map (·.1))
  (Sw:∀(Sb:Kv) (A:Lg) (outer:List Mm) (s:Ky) (H:Hp) (E:XK),cW k (A.deeper (Mp qual (ak st) s.heap.objs.size f Sb))->
   jE [⟨0,C,fl++[(fo,io)]⟩] (iU (lg P w) P w K mg base N qual (ak st) f Sb A outer s H E) (bK st) g):fJ P w K mg base (lg P w) (k+1) f fd ps (zl K C cls n (lS n m fl fo io g)):=by
 refine Ie F S (λvs H Q E h=> ?_) (λSb A outer s H vs Q E hr h=> ?_)
 ·obtain⟨Fz,y,dy,us,ds,Hz,rfl,hl,_⟩:=h
  rw[L6,hl,hn]
 ·obtain⟨Fz,y,dy,us,ds,Hz,rfl,hl,sub,hy,YW,Ur,rfl,r,w⟩:=h
  refine⟨_,Sw Sb A outer s _ E hr ⟨⟨Hz,Fz,λ_=>none,λz _=>∀ec a H' F',eO K z ec->c8 Hz Fz H' F'->E ec a H',λ_=>some y,λ_=>none⟩,r_ λz ρ er ec a H' F' σ hc ri=>er ec a H' F' hc ri.ext⟩,?_⟩
  refine⟨Fz,jH m ds,ub hm sub hy YW Ur r (by omega) (λp hp=>by rw[hl];exact hg p hp),?_⟩
  have hd:ds.length=n:=by rw[<-r.length];exact hl
  unfold lS at w
  rw[if_pos hd]at w
  cases e:g (jH m ds)with
  |bad=>rw[e]at w;exact w.elim
  |err c ρ=>rw[e]at w;exact w
  |ok o=>
   rw[e]at w
   cases o with
   |nx ρ=>
    intro σ' H' F' _ Tt
    rw[ar]at w
    cases hρ:ρ[0]? with
    |none=>simp only[s_,hρ]at w
    |some s0=>
     cases s0 with
     |none=>simp only[s_,hρ]at w
     |some s0=>
      cases s0 with
      |obj=>
       cases ho:ρ[io]? with
       |none=>simp only[s_,hρ,ho]at w
       |some s1=>
        cases s1 with
        |none=>simp only[s_,hρ,ho]at w
        |some s1=>
         cases s1 with
         |own d=>
          cases d with
          |lst hs=>
           cases e2:dZ fl ρ with
           |none=>simp only[s_,hρ,ho,e2]at w
           |some a1W=>
            simp only[s_,hρ,ho,e2]at w
            obtain⟨dx,b,A⟩:=El Tt hρ rfl Wi ho e2 Z3
            exact w H' F' dx b Tt.ext A
          |_=>simp only[s_,hρ,ho]at w
         |_=>simp only[s_,hρ,ho]at w
      |_=>simp only[s_,hρ]at w
   |_=>exact w.elim
structure wH (P:KW) (w:La) (K:Ku) (mg:Kw->Option Kv) (base:L4) (k:Nat) (cls:Kw) (n:Nat) (mi:List D->R (List (Kw×D)×Kw×List D)):Prop where
 ex:∃C f fd ps,fJ P w K mg base (lg P w) k f fd ps (zl K C cls n mi)/\mg cls=some (.ref C)/\Mk K C f/\gf K fd ps []
theorem CL {P:KW} {w:La} {K:Ku} {mg:Kw->Option Kv} {base:L4} {cls qual fo:Kw} {st:L9} {N ps fs:List Kw} {k n m io:Nat} {fl:List (Kw×Nat)} {g:af->R br} (A:pR K mg cls qual st ps fs) (S:aB N ps (ak st)) (hn:ps.length=n+1) (hm:N.length=m+1) (hg:∀p∈fl++[(fo,io)],n<p.2) (Xl:n<=m) (Z3:fo∉fl.map (·.1))
  (Sw:∀(C f:Kx) (Sb:Kv) (A:Lg) (outer:List Mm) (s:Ky) (H:Hp) (E:XK),vG K C->(∀x∈fs,eC K C x)->cW k (A.deeper (Mp qual (ak st) s.heap.objs.size f Sb))->
   jE [⟨0,C,fl++[(fo,io)]⟩] (iU (lg P w) P w K mg base N qual (ak st) f Sb A outer s H E) (bK st) g):wH P w K mg base (k+1) cls n (lS n m fl fo io g):=by
 obtain⟨C,f,fd,F,h1,h2,h3,h4,h5⟩:=A.ex
 exact⟨C,f,fd,ps,CK F S h1.ns hn hm hg Xl Z3 λSb A outer s H E hr=>Sw C f Sb A outer s H E h1.cl h5 hr,h2,h3,h4⟩
def J6 (i:Nat) (ρ:af):Bool:=(LA ρ.length).all λj=>j==i||(match ρ[j]? with
 |some (some s)=> !s.single
 |_=>true)
theorem u_ {i j:Nat} {ρ:af} {s:Slot} (h:J6 i ρ=true) (hs:ρ[j]? =some (some s)) (hj:j≠i):s.single=false:=by
 have:=MV.mp h j (Md.mpr (L3.mp hs).1)
 rw[hs]at this
 simpa[hj]using this
theorem RI.setCel {K:Ku} {c:dW ly} {ρ:af} {σ:St} {H F:Hp} (r:RI K c ρ σ H F) (i:Nat) {a dx b:Kx} {x:Kw} {Sf:List (Kw×D)} {f:Kw} {hs:List D} (hf:lh ly i) (hn:J6 i ρ=true) (A:lz K c.H0 H F a dx b x Sf f hs) (ne:∀(j:Nat) d',ρ[j]? =some (some (.own d'))->σ[j]? ≠some (some (.ref b))):
  RI K c (ρ.set i (some (.cel x Sf f hs))) (σ.set i (some (.ref a))) H F where
 obj:=λL hL hρ=>by
  rw[ao (hf L hL).1.symm]at hρ
  have:=u_ hn hρ (hf L hL).1
  cases this
 odis:=λL hL L' Vy q1 q2 b k1 k2=>by
  rw[ao (hf L hL).1.symm]at k1 q1
  rw[ao (hf L' Vy).1.symm]at k2 q2
  exact r.odis L hL L' Vy q1 q2 b k1 k2
 fm:=r.fm
 ext:=r.ext
 val:=λj e q=>by
  rcases aA q with ⟨rfl,z,l⟩|⟨z,q⟩
  ·cases z
  ·rw[ao z];exact r.val j e q
 own:=λj e q=>by
  rcases aA q with ⟨rfl,z,l⟩|⟨z,q⟩
  ·cases z
  ·rw[ao z];exact r.own j e q
 bor:=λj e q=>by
  rcases aA q with ⟨rfl,z,l⟩|⟨z,q⟩
  ·cases z
  ·rw[ao z];exact r.bor j e q
 bh:=r.bh
 dis:=λj k e e' a q1 q2 q3 q4=>by
  rcases aA q1 with ⟨rfl,z,l⟩|⟨z,q1⟩
  ·cases z
  ·rcases aA q2 with ⟨rfl,z',l⟩|⟨z',q2⟩
   ·cases z'
   ·rw[ao z]at q3;rw[ao z']at q4
    exact r.dis j k e e' a q1 q2 q3 q4
 len:=by simp[r.len]
 pin:=λL hL b h=>by rw[ao (hf L hL).1.symm];exact r.pin L hL b h
 cel:=by
  refine⟨λj y vd g hh q=> ?_,λj k y vd g hh s q1 q2 Sy=> ?_⟩
  ·rcases aA q with ⟨rfl,z,l⟩|⟨z,q⟩
   ·cases z
    refine⟨a,dx,b,gu (by rw[<-r.len];exact l),A,λk d hk=> ?_⟩
    rcases aA hk with ⟨rfl,z',l'⟩|⟨z',hk⟩
    ·cases z'
    ·rw[ao z'];exact ne k d hk
   ·have:=u_ hn q (Mn z)
    cases this
  ·rcases aA q1 with ⟨rfl,z,l⟩|⟨z,q1⟩
   ·rcases aA q2 with ⟨rfl,z',l'⟩|⟨z',q2⟩
    ·rfl
    ·have:=u_ hn q2 (Mn z')
     rw[Sy]at this
     cases this
   ·have:=u_ hn q1 (Mn z)
    cases this
section
variable {X:Cx} {e:KI} {es:List KI} {fs:af->R (List D)} {cls:Kw} {p pos V3 Ss:Ls}
def v3 (i:Nat) (cls:Kw) (n:Nat) (mi:List D->R (List (Kw×D)×Kw×List D)) (fs:af->R (List D)):af->R br:=λρ=>if J6 i ρ=true then (fs ρ>>=λds=>if ds.length=n then (match mi ds with
 | .ok r=> .ok (.nx (ρ.set i (some (.cel cls r.1 r.2.1 r.2.2))))
 | .err x _=> .err x ρ
 | .bad=> .bad)else .bad)else .bad
theorem Em (i:Nat) {x:Kw} {k n:Nat} {mi:List D->R (List (Kw×D)×Kw×List D)} (a0s:X.N.Nodup) (G:wH X.prog X.w X.K X.mg X.base k cls n mi) (hr:cW (k+1) X.A) (ha:vz ly X (e::es) fs) (hi:X.N[i]? =some x:=by rfl) (hx:zO X.env.scope x:=by first|exact Lx rfl|exact Lj rfl)
  (hs:LI (.Call (.Name cls p) (e::es) [] pos) (some (.Name x Ss)) V3.line X.env=pure false:=by rfl) (hf:X.fn x=true\/X.env.scope.names.lookup x=some .local:=by first|exact .inl rfl|exact .inr rfl|assumption)
  (hg:Gl X cls:=by rfl) (TX:(cls==("__debug__":Kw))=false:=by decide) (he:KC (e::es) X.env=(false,L5 e X.env)::KC es X.env:=by rfl) (Tq:(Ll pos (KC es X.env)).any (·.1)=false:=by rfl)
  (Uh:lh ly i:=by(repeat (first|assumption|exact L2.Pu.fK|refine L2.Pu.eo ⟨by first|decide|simp,by first|decide|simp⟩ ?_))):mP ly X (.Assign [.Name x Ss] (.Call (.Name cls p) (e::es) [] pos) V3) (v3 i cls n mi fs):=by
 obtain⟨C,f,fd,ps,h1,h2,h3,h4⟩:=G.ex
 refine λc=>PS.weak (nz a0s hi hx (yD h3 h1 hr hg h2 h4 .nil (oA c) (ha c) TX he Tq) hs hf) λD σ H q=> ?_
 obtain⟨F,ρ,ri,w⟩:=q
 unfold v3 at w
 split at w
 ·rename_i hn
  refine⟨F,ρ,ri,(aN.bind.mp w).imp λds _ w1 vs H1 F1 e1 r1 y dy hy YW Ur=> ?_⟩
  rw[M5]
  split at w1
  ·rename_i hl
   have VG:=ri.step e1
   refine⟨F1,y,dy,vs,ds,H1,rfl,by rw[r1.length];exact hl,e1.sub,hy,YW,Ur,rfl,r1,?_⟩
   split at w1
   ·rename_i r hm
    intro H' F' XD b e' A
    refine⟨rfl,?_⟩
    have kf:∀{z:Kx},H1 z=none->c.1.H0 z=none:=λh=>VG.ext.keep.free h
    refine w1 _ H' F' (e1.grow.trans e'.grow) ((VG.step e').setCel i Uh hn ⟨A.ex,A.own,A.fa,A.fd,A.fb,kf A.za,kf A.zd,kf A.zb⟩ λj d' hj ej=> ?_)
    obtain⟨q,o,q1,q2,_⟩:=VG.own j d' hj
    rw[ej]at q1
    cases q1
    have:=A.zb
    rw[q2]at this
    cases this
   ·exact λec a H' F' hc e'=>⟨_,ρ,F',hc,VG.step e',w1⟩
   ·exact w1.elim
  ·exact w1.elim
 ·exact w.elim
end
end L2.Pu
namespace L2.Pu
open PySem PySem.Spec PyProof.Rows
variable {ly:List fz}
section
variable {K:Ku} {F:Hp}
def jb:List D->Option (List Bool)
 |[]=>some []
 | .bl b::r=>(jb r).map (b::·)
 |_=>none
theorem pU:∀{ds:List D} {bs:List Bool} {vs:List V},jb ds=some bs->Reps K F vs ds->vs=bs.map V.bl:=by
 intro ds
 induction ds with
 |nil=>intro bs vs h r;cases h;rw[r.nilI];rfl
 |cons d r ih=>
  intro bs vs h g
  obtain⟨v,us,rfl,r1,t⟩:=g.consI
  cases d with
  |bl b=>
   cases r1
   replace h:(jb r).map (b::·)=some bs:=h
   cases e:jb r with
   |none=>rw[e]at h;cases h
   |some ms=>rw[e]at h;cases h;rw[ih e t];rfl
  |_=>cases h
theorem AH (bs:List Bool):jb (bs.map .bl)=some bs:=by
 induction bs with
 |nil=>rfl
 |cons n r ih=>show (jb (r.map D.bl)).map (n::·)=_;rw[ih];rfl
def v4:List D->Option D
 |[.lst ds]=>(jb ds).map λbs=> .bl (bs.any id)
 |_=>none
theorem mG:mO K (λxs H Q=>∃(p:Kx) (bs:List Bool),xs=[.ref p]/\dA K H p (bs.map V.bl)/\Q (.bl (bs.any id)) H) v4:=by
 intro vs ds d H F Q s rv h k
 match ds,h with
 |[.lst xs],h=>
  obtain⟨v,rfl,r⟩:=rv.one
  obtain⟨a,ws,rfl,h1,h2⟩:=r.lst s
  replace h:(jb xs).map (λbs=>D.bl (bs.any id))=some d:=h
  cases e:jb xs with
  |none=>rw[e]at h;cases h
  |some bs=>
   rw[e]at h
   cases h
   rw[pU e h2]at h1
   exact⟨a,bs,rfl,dA.of h1,k _ H F (c8.refl s) (.bl _)⟩
theorem j_:Lu "any"=some (.builtin "any"):=by decide+kernel
end
section
variable {X:Cx} {a o e:KI} {fa fo fk:af->R D} {Sl Sh pos UI p1 p2:Ls}
def rj (f:af->R D):af->R D:=λρ=>f ρ>>=λd=>match d with
 | .lst ds=>(match cP ds with|some ns=>if ns.length<4000 then .ok (.int (gr ns))else .bad|none=> .bad)
 | .tup ds=>(match cP ds with|some ns=>if ns.length<4000 then .ok (.int (gr ns))else .bad|none=> .bad)
 |_=> .bad
theorem CM (hc:X.calm=true) (a05:X.mg "len"=none) (a06:X.mg "set"=none) (ha:PB ly X a fa) (a07:Gl X "len":=by rfl) (a08:Gl X "set":=by rfl)
  (Zf:KC [a] X.env=(false,L5 a X.env)::KC [] X.env:=by rfl) (XY:(Ll UI (KC [] X.env)).any (·.1)=false:=by rfl)
  (WV:KC [.Call (.Name "set" p2) [a] [] UI] X.env=(false,L5 (.Call (.Name "set" p2) [a] [] UI) X.env)::KC [] X.env:=by rfl) (XZ:(Ll pos (KC [] X.env)).any (·.1)=false:=by rfl):
  PQ ly X (.Call (.Name "len" p1) [.Call (.Name "set" p2) [a] [] UI] [] pos) (rj fa):=λc=>
 PE.weak (Ad hc (ha c) a05 a06 a07 a08 Zf XY WV XZ) λσ H Q ⟨F,ρ,ri,w⟩=>⟨F,ρ,ri,(aN.bind.mp w).imp λd _ w1 v H1 F1 e1 r1=>by
  cases d with
  |lst ds=>
   obtain⟨p,vs,rfl,h1,h2⟩:=r1.lst e1.sub
   cases q:cP ds with
   |none=>simp only[q]at w1;exact w1.elim
   |some ns=>
    simp only[q]at w1
    split at w1
    ·rename_i hl
     rw[gU q h2]at h1
     exact⟨p,ns,rfl, .inl (dA.of h1),hl,w1 _ H1 F1 e1 (.int _)⟩
    ·exact w1.elim
  |tup ds=>
   obtain⟨p,vs,rfl,h1,h2⟩:=r1.tup e1.sub
   cases q:cP ds with
   |none=>simp only[q]at w1;exact w1.elim
   |some ns=>
    simp only[q]at w1
    split at w1
    ·rename_i hl
     rw[gU q h2]at h1
     exact⟨p,ns,rfl, .inr (iT.of h1),hl,w1 _ H1 F1 e1 (.int _)⟩
    ·exact w1.elim
  |_=>exact w1.elim⟩
def Fe (fo fk:af->R D):af->R D:=λρ=>fo ρ>>=λd=>match d with
 | .lst ds=>fk ρ>>=λk=>(match jb ds,k with
  |some bs, .bl b=> .ok (.int (bs.count b))
  |_,_=> .bad)
 |_=> .bad
def Ff (fo fk:af->R D):af->R D:=λρ=>fo ρ>>=λd=>match d with
 | .lst ds=>fk ρ>>=λk=>(match jb ds,k with
  |some bs, .bl b=>if b∈bs/\bs.length<1000 then .ok (.int (bs.idxOf b))else .bad
  |_,_=> .bad)
 |_=> .bad
theorem GG (ho:PB ly X o fo) (hk:PQ ly X a fk) (SR:Lz o "count" X.env (L5 o X.env)=L5 o X.env:=by rfl)
  (UN:((Ll Sh (KC [a] X.env)).all (λx=> !x.1)&&(Mu Sh (M4 [] X.env)).all (λx=>x.1.isSome)
   &&decide (([a]:List KI).length+([]:List MJ).length+(if ([]:List MJ).isEmpty then 0 else 1)<30))=true:=by rfl)
  (SS:(Sl.endLine==Sh.line)=true:=by rfl) (hs:KC [a] X.env=(false,L5 a X.env)::KC [] X.env:=by rfl) (SU:(Ll Sh (KC [] X.env)).any (·.1)=false:=by rfl):
  PQ ly X (.Call (.Attribute o "count" Sl) [a] [] Sh) (Fe fo fk):=λc=>
 PE.weak (yI M7 MZ Px A9 (ho c) (df (hk c) gP hs) SR UN SS hs SU) λσ H Q ⟨F,ρ,ri,w⟩=>⟨F,ρ,ri,(aN.bind.mp w).imp λd _ w1 v H1 F1 e1 r1=>by
  cases d with
  |lst ds=>
   obtain⟨p,vs,rfl,h1,h2⟩:=r1.lst e1.sub
   refine⟨.inl ⟨rfl,vs,dA.of h1⟩,F1,ρ,ri.step e1,(aN.bind.mp w1).imp λk _ w2 u H2 F2 e2 r2=> ?_⟩
   cases q:jb ds with
   |none=>simp only[q]at w2;exact w2.elim
   |some bs=>
    cases k with
    |bl b=>
     cases r2
     simp only[q]at w2
     rw[pU q h2]at h1
     exact⟨p,b,bs,rfl,rfl,dA.of (e2.keep _ _ h1),w2 _ H2 F2 (e1.trans e2) (.int _)⟩
    |_=>simp only[q]at w2;exact w2.elim
  |_=>exact w1.elim⟩
theorem GH (ho:PB ly X o fo) (hk:PQ ly X a fk) (SR:Lz o "index" X.env (L5 o X.env)=L5 o X.env:=by rfl)
  (UN:((Ll Sh (KC [a] X.env)).all (λx=> !x.1)&&(Mu Sh (M4 [] X.env)).all (λx=>x.1.isSome)
   &&decide (([a]:List KI).length+([]:List MJ).length+(if ([]:List MJ).isEmpty then 0 else 1)<30))=true:=by rfl)
  (SS:(Sl.endLine==Sh.line)=true:=by rfl) (hs:KC [a] X.env=(false,L5 a X.env)::KC [] X.env:=by rfl) (SU:(Ll Sh (KC [] X.env)).any (·.1)=false:=by rfl):
  PQ ly X (.Call (.Attribute o "index" Sl) [a] [] Sh) (Ff fo fk):=λc=>
 PE.weak (yI M7 Pw PySem.F.type_list_index Aa (ho c) (df (hk c) gP hs) SR UN SS hs SU) λσ H Q ⟨F,ρ,ri,w⟩=>⟨F,ρ,ri,(aN.bind.mp w).imp λd _ w1 v H1 F1 e1 r1=>by
  cases d with
  |lst ds=>
   obtain⟨p,vs,rfl,h1,h2⟩:=r1.lst e1.sub
   refine⟨.inl ⟨rfl,vs,dA.of h1⟩,F1,ρ,ri.step e1,(aN.bind.mp w1).imp λk _ w2 u H2 F2 e2 r2=> ?_⟩
   cases q:jb ds with
   |none=>simp only[q]at w2;exact w2.elim
   |some bs=>
    cases k with
    |bl b=>
     cases r2
     simp only[q]at w2
     split at w2
     ·rename_i hb
      rw[pU q h2]at h1
      exact⟨p,b,bs,rfl,rfl,dA.of (e2.keep _ _ h1),hb.1,hb.2,w2 _ H2 F2 (e1.trans e2) (.int _)⟩
     ·exact w2.elim
    |_=>simp only[q]at w2;exact w2.elim
  |_=>exact w1.elim⟩
end
end L2.Pu
namespace L2
open PySem PySem.Spec PyProof.Rows
section
variable {X:Cx}
def GI (k:Int):Kv->Bool
 | .int b _=>b==k
 |_=>false
theorem v5 {k:Int}:∀{ns:List Int} {its:List Kv},bp (ns.map V.int) its->its.countP (GI k)=ns.count k
 |[],its,r=>by cases r;rfl
 |b::bs,its,r=>by
  cases r with
  |cons h t=>obtain⟨u,rfl⟩:=h;rw[Rj,RB,v5 t];rfl
def zm (K:Ku):V->List V->Hp->VK->Prop:=λx vs H Q=>∃(l:Kx) (k:Int) (ns:List Int),x= .ref l/\vs=[.int k]/\dA K H l (ns.map V.int)/\Q (.int (ns.count k)) H
theorem AI:FW X "list.count" (zm X.K):=by
 intro S4 s σ H x vs v us Q I rx rv h
 obtain⟨l,k,bs,rfl,rfl,hx,q⟩:=h
 cases rx
 obtain⟨u,rfl,ru⟩:=rv.one
 obtain⟨tk,rfl⟩:=ru
 obtain⟨its,r,ht,hz⟩:=I.list hx
 obtain⟨⟨cls,dd,data,sl⟩,ho,hc,n,hd⟩:=ht.isList
 simp only at hc hd
 subst hc hd
 refine N3 MZ ⟨_,ho,rfl⟩ Pj (OY _ _) (Pk l its.toArray n dd sl (.int k tk) (GI k)) ⟨ho,λy hy=> ?_,?_⟩
 ·obtain⟨i,hi,e⟩:=MY (show y∈its by simpa using hy)
  obtain⟨t,rfl⟩:=uH r (i:=i) (v:=y) (by rw[Ld hi,e])
  exact O1 _ t k tk
 ·rw[show its.toArray.toList=its from rfl,v5 r]
  exact⟨.int _,H,I.tok _,⟨_,rfl⟩,q⟩
def IB (K:Ku):R2:=λx y H Q=>∃p q xs,x= .ref p/\y= .ref q/\dA K H p xs/\dA K H q []/\Q (.bl (!xs.isEmpty)) H
theorem pV (hu:X.A.units+1<MQ):lq X (M6 .NotEq) (IB X.K):=by
 intro S4 s σ H x y v u Q I rx ry h
 obtain⟨p,q,xs,rfl,rfl,h1,h2,k⟩:=h
 cases rx
 cases ry
 obtain⟨its,r,pl,hz⟩:=I.list h1
 obtain⟨UM,r2,YY,a1Y⟩:=I.list h2
 cases r2
 have l:=r.length
 cases xs with
 |nil=>
  cases its with
  |nil=>exact SeqAt.RcNeAt.lists (e:=λ_=>true) pl.isList YY.isList rfl (by omega) (λj a b=>by simp at b) X.prog X.w X.xe (EP X S4 σ Q) ⟨.bl _,H,I,rfl,by simpa using k⟩
  |cons a b=>cases l
 |cons a b=>
  cases its with
  |nil=>cases l
  |cons c d=>exact SeqAt.RcNeAt.lists_lengths pl.isList YY.isList (by simp) (by omega) X.prog X.w X.xe (EP X S4 σ Q) ⟨.bl _,H,I,rfl,by simpa using k⟩
end
end L2
namespace L2.Pu
open PySem PySem.Spec PyProof.Rows
variable {ly:List fz}
section
variable {K:Ku} {F:Hp}
def Ko:List D->Option D
 |[.lst ds]=>(jb ds).map λbs=> .bl (bs.all id)
 |_=>none
def qP:D->D->Option D
 | .lst ds, .lst []=>some (.bl (!ds.isEmpty))
 |_,_=>none
theorem mH:jW K (IB K) qP:=by
 intro v u x y d H F Q s rx ry h k
 unfold qP at h
 split at h
 ·rename_i ds
  cases h
  obtain⟨p,vs,rfl,h1,h2⟩:=rx.lst s
  obtain⟨q,us,rfl,h3,h4⟩:=ry.lst s
  rw[h4.nilI]at h3
  refine⟨p,q,vs,rfl,rfl,dA.of h1,dA.of h3,?_⟩
  have l:=h2.length
  have e:vs.isEmpty=ds.isEmpty:=by
   cases vs<;>cases ds<;>first|rfl|cases l
  rw[e]
  exact k _ H F (c8.refl s) (.bl _)
 ·cases h
end
section
variable {X:Cx} {a b o e:KI} {fa fb fo fk:af->R D} {Sl Sh pos:Ls}
end
end L2.Pu
namespace L2.Pu
open PySem PySem.Spec PyProof.Rows
variable {ly:List fz}
section
variable {X:Cx} {UU tg Sz:KI} {UH:List KI} {scope:MB} {pos:Ls} {fi:af->R (List D)} {g:D->af->R af} {gt:af->R Bool} {fe:af->R D}
end
end L2.Pu
namespace L2
open PySem PySem.Spec PyProof.Rows
section
variable {X:Cx} {S4:List (Kx×Lk)} {σ:St} {H:Hp} {s:Ky}
theorem AJ:dX X (.builtin "abs") (λxs H Q=>∃i,xs=[.int i]/\Q (.int (if i<0 then -i else i)) H):=by
 intro S4 s σ H xs us Q I r h
 obtain⟨i,rfl,q⟩:=h
 obtain⟨u,rfl,t,rfl⟩:=jR r
 exact call_abs_int λu tk=>⟨.int _,H,I.tok _,⟨_,rfl⟩,q⟩
end
end L2
namespace L2.Pu
open PySem PySem.Spec PyProof.Rows
variable {ly:List fz}
def IC:List D->Option D
 |[.int i]=>some (.int (if i<0 then -i else i))
 |_=>none
theorem En {K:Ku}:mO K (λxs H Q=>∃i,xs=[.int i]/\Q (.int (if i<0 then -i else i)) H) IC:=by
 intro vs ds d H F Q s rv h k
 match ds,h with
 |[.int i],h=>
  obtain⟨v,rfl,r⟩:=rv.one
  cases r.int
  cases h
  exact⟨i,rfl,k _ H F (c8.refl s) (.int _)⟩
theorem AK:Lu "abs"=some (.builtin "abs"):=by decide+kernel
section
variable {X:Cx} {a b e:KI} {f fk fv:af->R D} {pos:Ls}
end
end L2.Pu
namespace L2
open PySem PySem.Spec PyProof.Rows
section
variable {X:Cx} {S4:List (Kx×Lk)} {σ:St} {H:Hp} {s:Ky} {h':L4}
variable {o:KI} {to:TE} {p1 Sl Sh pos:Ls}
end
end L2
namespace L2.Pu
open PySem PySem.Spec PyProof.Rows
variable {ly:List fz}
section
variable {K:Ku} {F:Hp}
end
section
variable {X:Cx} {o:KI} {fo:af->R D} {p1 Sl Sh pos:Ls}
end
end L2.Pu
namespace L2.Pu
open PySem PySem.Spec PyProof.Rows
variable {ly:List fz}
section
variable {X:Cx} {e:KI} {f:af->R D} {pos:Ls}
def K3 (i:Nat) (fk:af->R D):af->R br:=λρ=>match ρ[i]? with
 |some (some (.own (.lst ds)))=>fk ρ>>=λk=>match k with
  | .int n=>if n.natAbs<=lim then (match seqIndex? n ds.length with
   |some m=>(match ds[m]? with
    |some _=> .ok (.nx (ρ.set i (some (.own (.lst (ds.eraseIdx m))))))
    |none=> .bad)
   |none=> .bad)else .bad
  |_=> .bad
 |_=> .bad
def zn (i:Nat):af->R br:=λρ=>match ρ[i]? with
 |some (some (.own (.lst ds)))=>(match ds[ds.length - 1]? with
  |some _=> .ok (.nx (ρ.set i (some (.own (.lst ds.dropLast)))))
  |none=> .bad)
 |_=> .bad
theorem GJ (i:Nat) {x:Kw} {px Sl Sh:Ls} (hN:X.N[i]? =some x:=by rfl) (hv:pz X.env.scope x:=by first|exact Lx rfl|exact Lj (Lx rfl)|exact Lj (Lj rfl)) (hd:(x==("__debug__":Kw))=false:=by decide)
  (Tu:(x==("__classdict__":Kw))=false:=by decide) (SR:Lz (.Name x px) "pop" X.env (L5 (.Name x px) X.env)=L5 (.Name x px) X.env:=by rfl)
  (SS:(Sl.endLine==Sh.line)=true:=by rfl)
  (VX:LI (.Call (.Attribute (.Name x px) "pop" Sl) [] [] Sh) none pos.line X.env=pure false:=by rfl):mP ly X (.Expr (.Call (.Attribute (.Name x px) "pop" Sl) [] [] Sh) pos) (zn i):=λc=>
 PS.weak (o9 (By M7 Qf Qg Bz (pv i hN hv hd Tu) SR SS) VX) λD σ H ⟨F,ρ,ri,w⟩=>by
  unfold zn at w
  split at w
  ·rename_i ds hi
   obtain⟨a,vs,h1,h2,h3⟩:=ri.ownL hi
   split at w
   ·rename_i d hd
    obtain⟨v,m1,m2⟩:=h3.get hd
    refine⟨_,h1, .inl ⟨rfl,vs,dA.of h2⟩,a,vs,v,rfl,rfl,h2,by rw[h3.length];exact m1,?_⟩
    exact w _ _ F (bd.refl _) (ri.change (o:= .lst vs) hi h1 (.lst h3.dropLast))
   ·exact w.elim
  ·exact w.elim
end
end L2.Pu
namespace L2.Pu
open PySem PySem.Spec PyProof.Rows
variable {ly:List fz}
section
variable {X:Cx} {a b e:KI} {rest:List KI} {f:af->R D} {fx fy:af->R (D×af)} {gx gy:af->R (Bool×af)} {g:af->R Bool} {pos:Ls}
def CN (fx:af->R (D×af)):af->R br:=λρ=>fx ρ>>=λr=> .ok (.ret r.1)
theorem GK (h:PX ly X e fx):mP ly X (.Return (some e) pos) (CN fx):=λc=>PS.weak (rB (h c)) λD σ H ⟨F,ρ,ri,w⟩=>
 ⟨F,ρ,ri,(aN.bind.mp w).imp λr _ w1 v H' F' e Tt rv=>w1 v H' F' e Tt.ext rv⟩
def ID (f:af->R D):af->R (D×af):=λρ=>f ρ>>=λd=> .ok (d,ρ)
theorem Kp (h:PQ ly X e f):PX ly X e (ID f):=λc=>PE.weak (h c) λσ H Q ⟨F,ρ,ri,w⟩=>⟨F,ρ,ri,(aN.bind.mp w).imp λd _ w1 v H1 F1 e1 r1=>w1 v H1 F1 e1.grow (ri.step e1) r1⟩
theorem IE {op:RY} (h:PX ly X a fx):PX ly X (.BoolOp op [a] pos) fx:=λc=>Bc (h c)
def CO (fx fy:af->R (D×af)):af->R (D×af):=λρ=>fx ρ>>=λr=>match r.1 with
 | .bl true=>fy r.2
 | .bl false=> .ok (.bl false,r.2)
 |_=> .bad
theorem IF (ha:PX ly X a fx) (hb:PX ly X (.BoolOp .And (b::rest) pos) fy):PX ly X (.BoolOp .And (a::b::rest) pos) (CO fx fy):=λc=>PE.weak (Bd (ha c) (hb c)) λσ H Q ⟨F,ρ,ri,w⟩=>
 ⟨F,ρ,ri,(aN.bind.mp w).imp λr hd w1 v H1 F1 e1 VG r1=>by
  cases q:r.1 with
  |bl b=>
   rw[q]at w1 r1
   cases r1
   cases b with
   |true=>exact⟨true,rfl,F1,r.2,VG,w1.imp λb' _ k v H2 F2 e2 WW r2=>k v H2 F2 (e1.trans e2) WW r2⟩
   |false=>exact⟨false,rfl,w1 _ H1 F1 e1 VG (.bl false)⟩
  |_=>rw[q]at w1;exact w1.elim⟩
def K4 (ly:List fz) (X:Cx) (e:KI) (gx:af->R (Bool×af)):Prop:=∀c:iX ly X,PW X e (K2 X.K c.1 gx)
theorem K4.t (h:K4 ly X e gx):IA ly X e gx:=λc=>(h c).pt
end
end L2.Pu
namespace L2.Pu
open PySem PySem.Spec PyProof.Rows
section
variable {K:Ku} {mg:Kw->Option Kv} {h:L4}
def UF (K:Ku) (x:Kw) (st:L9):Prop:=∃(f:Kx) (oc:Kv) (od:Option Kx) (kV Ts pm:Kv) (an:Option Kx) (Sb ct:Kv) (Vm:Array (Option Kv)),KQ K KJ x=some (some (.ref f))/\K.lookup f=some ⟨oc,od, .func (LF x x (dr st) (bK st) (ak st) .none kV Ts pm an Sb ct),Vm⟩/\MS K Sb x=true/\Ly K (.ref f)=true
def qw (K:Ku) (C:Kx) (m qual:Kw) (st:L9):Prop:=∃(f:Kx) (oc:Kv) (od:Option Kx) (kV Ts pm:Kv) (an:Option Kx) (Sb ct:Kv) (Vm:Array (Option Kv)),KY K (.ref C) m=some (some (.ref f))/\K.lookup f=some ⟨oc,od, .func (LF m qual (dr st) (bK st) (ak st) .none kV Ts pm an Sb ct),Vm⟩/\MS K Sb qual=true/\Ly K (.ref f)=true/\Of K (.ref f)=true
def BA (x qual:Kw) (st:L9) (ps:List Kw):Prop:=∀(kV Ts pm:Kv) (an:Option Kx) (Sb ct:Kv) (us:List Kv),us.length=ps.length->ME (LF x qual (dr st) (bK st) (ak st) .none kV Ts pm an Sb ct) ⟨us,[]⟩=pure (ps.zip us)
theorem UF.at {x:Kw} {st:L9} {ps:List Kw} (u:UF K x st) (X:K.In h) (G:h.Ns KJ mg) (hb:BA x x st ps):cA K mg x st ps:=by
 obtain⟨f,oc,od,kV,Ts,pm,an,Sb,ct,Vm,h1,h2,h3,h4⟩:=u
 exact⟨_,_,nB (st:=st) h2 h3 h4,Le X G h1,(nB (st:=st) h2 h3 h4).binds hb⟩
theorem qw.at {C:Kx} {cls m qual:Kw} {st:L9} {ps:List Kw} (u:qw K C m qual st) (c:jv K cls C) (hb:BA m qual st ps):dL K cls m qual st ps:=by
 obtain⟨f,oc,od,kV,Ts,pm,an,Sb,ct,Vm,h1,h2,h3,h4,h5⟩:=u
 exact⟨_,_,_,nB (st:=st) h2 h3 h4,c,⟨h1,h5,h4⟩,(nB (st:=st) h2 h3 h4).binds hb⟩
theorem qw.mk {C:Kx} {cls qual:Kw} {st:L9} {ps fs:List Kw} (u:qw K C "__init__" qual st) (c:jv K cls C) (hm:mg cls=some (.ref C)) (p5:N1 K C=true) (p6:Ly K (.ref C)=true) (no:∀x∈fs,eC K C x) (hb:BA "__init__" qual st ps):pR K mg cls qual st ps fs:=by
 obtain⟨f,oc,od,kV,Ts,pm,an,Sb,ct,Vm,h1,h2,h3,h4,h5⟩:=u
 exact⟨_,_,_,nB (st:=st) h2 h3 h4,c,hm,⟨p5,h1,h5,p6⟩,(nB (st:=st) h2 h3 h4).binds hb,no⟩
def Eo (K:Ku) (C:Kx):Prop:=LS K C vT "ValueError.__new__"=true/\KY K (.ref C) "__getattribute__"=some (some (.builtin "BaseException.__getattribute__"))/\KY K (.ref C) "__getattr__"=some none/\KY K (.ref C) "__class__"=some (some (.builtin "object.__class__"))/\
 Lr K C (.type "object")=some true/\Lr K C (.type "BaseException")=some true/\Lr K C (.ref C)=some true
def ya (K:Ku):List Kx->Prop
 |[]=>True
 |C::r=>Eo K C/\ya K r
def v6 (K:Ku):List Kw->List Kx->Prop
 |[],[]=>True
 |x::xs,C::Cs=>KQ K KJ x=some (some (.ref C))/\v6 K xs Cs
 |_,_=>False
def im (K:Ku) (v:Kv) (f:Nat->Bool):Nat->List Kx->Prop
 |_,[]=>True
 |i,C::r=>Lr K C v=some (f i)/\im K v f (i+1) r
def yb {α:Type} (f:Nat->Bool):Nat->List α->List (α×Bool)
 |_,[]=>[]
 |i,x::r=>(x,f i)::yb f (i+1) r
def Hi (K:Ku):Prop:=Na K (.builtin "object.__class__") "__get__"=some (some (.builtin "getset_descriptor.__get__"))/\NA K (.builtin "object.__class__")=some true
theorem Eo.ok {C:Kx} (e:Eo K C) (s:Hi K):uI K C:=by
 obtain⟨e1,e2,e3,e4,e5,e6,e7⟩:=e
 exact Eg e1 e2 e3 e4 e5 e6 (pS e1 e7) s.1 s.2
theorem pW {v:Kv} {f:Nat->Bool} (s:Hi K) (hk:∀C b,Lr K C v=some b->Lr K C (.ref C)=some true->LQ K (.ref C) v=some b):∀{xs:List Kw} {Cs:List Kx} {i:Nat},v6 K xs Cs->ya K Cs->im K v f i Cs->
  ∀p∈yb f i xs,∃Ce,KQ K KJ p.1=some (some (.ref Ce))/\LQ K (.ref Ce) v=some p.2/\uI K Ce
 |[],[],i,n,e,r,p,hp=>by cases hp
 |[],_::_,i,n,e,r,p,hp=>n.elim
 |_::_,[],i,n,e,r,p,hp=>n.elim
 |x::xs,C::Cs,i,n,e,r,p,hp=>by
  rcases KR.mp hp with rfl|hp
  ·exact⟨C,n.1,hk C _ r.1 e.1.2.2.2.2.2.2,e.1.ok s⟩
  ·exact pW s hk n.2 e.2 r.2 p hp
theorem cD {x:Kw} {C:Kx} {f:Nat->Bool} {xs:List Kw} {Cs:List Kx} (s:Hi K) (N:v6 K xs Cs) (E:ya K Cs) (hm:mg x=some (.ref C)) (e1:LS K C vT "ValueError.__new__"=true) (R:im K (.ref C) f 0 Cs):eM K mg x (Ax (yb f 0 xs)):=
 ⟨_,hm,wv (pW s (λ_ _ m q=>As e1 m q) N E R)⟩
theorem Ep {f:Nat->Bool} {xs:List Kw} {Cs:List Kx} (s:Hi K) (N:v6 K xs Cs) (E:ya K Cs) (R:im K (.type "ValueError") f 0 Cs):qq K (.type "ValueError") (Ax (yb f 0 xs)):=
 wv (pW s (λ_ _ m _=>Au m) N E R)
theorem di (s:Hi K) (X:K.In h) (G:h.Ns KJ mg):∀{xs:List Kw} {Cs:List Kx},v6 K xs Cs->ya K Cs->∀x∈xs,cI K mg x
 |[],[],n,e,x,hx=>by cases hx
 |[],_::_,n,e,x,hx=>n.elim
 |_::_,[],n,e,x,hx=>n.elim
 |y::xs,C::Cs,n,e,x,hx=>by
  rcases KR.mp hx with rfl|hx
  ·exact⟨C,n.1,Le X G n.1,e.1.ok s⟩
  ·exact di s X G n.2 e.2 x hx
theorem bz:∀{xs:List Kw} {Cs:List Kx},v6 K xs Cs->ya K Cs->∀(x:Kw) (C:Kx),(xs.zip Cs).lookup x=some C->KQ K KJ x=some (some (.ref C))/\Eo K C
 |[],Cs,n,e,x,C,hx=>by cases hx
 |_::_,[],n,e,x,C,hx=>n.elim
 |y::xs,C'::Cs,n,e,x,C,hx=>by
  rw[List.zip_cons_cons,LX]at hx
  cases q:x==y with
  |true=>rw[q]at hx;cases hx;rw[eq_of_beq q];exact⟨n.1,e.1⟩
  |false=>rw[q]at hx;exact bz n.2 e.2 x C hx
theorem AL {cx:Kw} {D:Kx} (hm:mg cx=some (.ref D)) (e1:LS K D vT "ValueError.__new__"=true) (e6:Lr K D (.type "BaseException")=some true) {xs:List Kw} {Cs:List Kx} (N:v6 K xs Cs) (R:im K (.ref D) (λ_=>true) 0 Cs):wk K mg cx (Aw xs):=by
 refine Cz hm ?_
 have:∀{xs:List Kw} {Cs:List Kx} {i:Nat},v6 K xs Cs->im K (.ref D) (λ_=>true) i Cs->∀x∈xs,∃Ce,KQ K KJ x=some (some (.ref Ce))/\Nh K (.ref Ce) (.ref D)=some true:=by
  intro xs
  induction xs with
  |nil=>intro Cs i n r x hx;cases hx
  |cons y xs ih=>
   intro Cs i n r x hx
   cases Cs with
   |nil=>exact n.elim
   |cons C Cs=>
    rcases KR.mp hx with rfl|hx
    ·exact⟨C,n.1,Av e1 r.1 e6⟩
    ·exact ih n.2 r.2 x hx
 exact this N R
end
section
variable {x qual:Kw} {st:L9}
theorem b0 (h:∀kV Ts pm an Sb ct,ME (LF x qual (dr st) (bK st) (ak st) .none kV Ts pm an Sb ct) ⟨[],[]⟩=pure []:=by intros;rfl):BA x qual st []:=λ_ _ _ _ _ _=>JY (h _ _ _ _ _ _)
theorem b1 {p:Kw} (h:∀kV Ts pm an Sb ct a,ME (LF x qual (dr st) (bK st) (ak st) .none kV Ts pm an Sb ct) ⟨[a],[]⟩=pure [(p,a)]:=by intros;rfl):BA x qual st [p]:=λ_ _ _ _ _ _=>JZ (P:=λus=>ME _ ⟨us,[]⟩=pure (Qr _ us)) (h _ _ _ _ _ _)
theorem b2 {p q:Kw} (h:∀kV Ts pm an Sb ct a b,ME (LF x qual (dr st) (bK st) (ak st) .none kV Ts pm an Sb ct) ⟨[a,b],[]⟩=pure [(p,a),(q,b)]:=by intros;rfl):BA x qual st [p,q]:=λ_ _ _ _ _ _=>J_ (P:=λus=>ME _ ⟨us,[]⟩=pure (Qr _ us)) (h _ _ _ _ _ _)
theorem b3 {p q r:Kw} (h:∀kV Ts pm an Sb ct a b c,ME (LF x qual (dr st) (bK st) (ak st) .none kV Ts pm an Sb ct) ⟨[a,b,c],[]⟩=pure [(p,a),(q,b),(r,c)]:=by intros;rfl):BA x qual st [p,q,r]:=λ_ _ _ _ _ _=>K0 (P:=λus=>ME _ ⟨us,[]⟩=pure (Qr _ us)) (h _ _ _ _ _ _)
theorem b4 {p q r t:Kw} (h:∀kV Ts pm an Sb ct a b c d,ME (LF x qual (dr st) (bK st) (ak st) .none kV Ts pm an Sb ct) ⟨[a,b,c,d],[]⟩=pure [(p,a),(q,b),(r,c),(t,d)]:=by intros;rfl):BA x qual st [p,q,r,t]:=λ_ _ _ _ _ _=>K1 (P:=λus=>ME _ ⟨us,[]⟩=pure (Qr _ us)) (h _ _ _ _ _ _)
theorem b5 {p q r t u:Kw} (h:∀kV Ts pm an Sb ct a b c d e,ME (LF x qual (dr st) (bK st) (ak st) .none kV Ts pm an Sb ct) ⟨[a,b,c,d,e],[]⟩=pure [(p,a),(q,b),(r,c),(t,d),(u,e)]:=by intros;rfl):BA x qual st [p,q,r,t,u]:=λ_ _ _ _ _ _=>Kn (P:=λus=>ME _ ⟨us,[]⟩=pure (Qr _ us)) (h _ _ _ _ _ _)
end
end L2.Pu
namespace L2.Pu
open PySem PySem.Spec PyProof.Rows
variable {ly:List fz}
section
variable {X:Cx} {a b e:KI} {es:List KI} {st:L9} {rest:List L9} {f:af->R D} {fs:af->R (List D)} {g:af->R br} {gn:af->R D} {pos p:Ls} {x:Kw}
theorem IG {e:KI} {es:List KI} (h:vz ly X (e::es) fs):PN ly X (.List (e::es) pos) (eD fs):=λc=>
 PE.weak (rG (h c)) λσ H Q ⟨F,ρ,ri,w⟩=>⟨F,ρ,ri,(aN.bind.mp w).imp λds hd w1 vs H1 F1 e1 r1=>by
  split at w1
  ·rename_i hl
   exact⟨Lq (by rw[r1.length];exact hl) gz,λp hp=>zc e1 w1 p (.lst vs) hp (.lst r1)⟩
  ·exact w1.elim⟩
def Kq (K:Ku) (c:dW ly) (g:af->R D):TS:=λD σ H=>∃F ρ,RI K c ρ σ H F/\aN c (g ρ) λd=>∀a o H' F',c8 c.H0 c.F0 H' F'->c.H0 a=none->H' a=some o->F' a=none->iW K F' o d->D.rt (.ref a) H'
def Es (ly:List fz) (X:Cx) (st:List L9) (g:af->R D):Prop:=∀c:iX ly X,rA X st (Kq X.K c.1 g)
theorem GL (h:PN ly X e f):Es ly X [.Return (some e) pos] f:=λc=>rA.weak (yw (rB (h c))) λD σ H ⟨F,ρ,ri,w⟩=>
 ⟨F,ρ,ri,w.imp λd _ k a o H' F' e h1 h2 h3 h4=>k a o H' F' (ri.ext.trans e) (ri.ext.keep.free h1) h2 h3 h4⟩
def CP (g:af->R br) (gn:af->R D):af->R D:=λρ=>g ρ>>=λo=>match o with
 | .nx ρ'=>gn ρ'
 |_=> .bad
theorem Et {s2:L9} (h:mP ly X st g) (h2:Es ly X (s2::rest) gn):Es ly X (st::s2::rest) (CP g gn):=λc=>rA.weak (vD (h c) (h2 c)) λD σ H ⟨F,ρ,ri,w⟩=>by
 refine⟨F,ρ,ri,(aN.bind.mp w).imp λo ho w1=> ?_⟩
 cases o with
 |nx ρ'=>exact λσ' H' F' s r=>⟨F',ρ',r,w1⟩
 |_=>exact w1.elim
def K5 (K:Ku) (n:Nat) (m:List D->R D):Sp:=λvs H Q E=>vs.length=n/\∃F ds,bd F H/\Reps K F vs ds/\match m ds with
 | .ok d=>∀a o H' F',c8 H F H' F'->H a=none->H' a=some o->F' a=none->iW K F' o d->Q (.ref a) H'
 | .err x _=>∀cls a H' F',eO K x cls->c8 H F H' F'->E cls a H'
 | .bad=>False
def Eu (k n:Nat) (g:af->R D) (ds:List D):R D:=if ds.length=k then g (cY n ds)else .bad
structure IH (P:KW) (w:La) (K:Ku) (mg:Kw->Option Kv) (base:L4) (k:Nat) (x:Kw) (n:Nat) (m:List D->R D):Prop where
 ex:∃f fd ps,fJ P w K mg base (lg P w) k f fd ps (K5 K n m)/\mg x=some (.ref f)/\Ly K (.ref f)=true/\gf K fd ps []
theorem JI {n k:Nat} {m:List D->R D} (F:IH X.prog X.w X.K X.mg X.base k x n m) (hr:cW k X.A)
  (ha:vz ly X (e::es) fs) (hg:Gl X x:=by rfl) (TX:(x==("__debug__":Kw))=false:=by decide) (he:KC (e::es) X.env=(false,L5 e X.env)::KC es X.env:=by rfl) (Tq:(Ll pos (KC es X.env)).any (·.1)=false:=by rfl):
  PN ly X (.Call (.Name x p) (e::es) [] pos) (aI m n fs):=by
 obtain⟨f,fd,ps,h1,h2,h3,h4⟩:=F.ex
 exact λc=>PE.weak (ux h1 hr hg h2 h3 h4 .nil (oA c) (ha c) TX he Tq) λσ H Q ⟨F,ρ,ri,w⟩=>by
  refine⟨F,ρ,ri,(aN.bind.mp w).imp λds hd w1 vs H1 F1 e1 r1=> ?_⟩
  show K5 X.K n m (vs++[]) H1 Q (E_ X c.1 σ)
  rw[M5]
  split at w1
  ·rename_i hl
   refine⟨by rw[r1.length];exact hl,F1,ds,e1.sub,r1,?_⟩
   cases q:m ds with
   |ok d=>rw[q]at w1;exact λa o H' F' e' n1 h1 f1 r'=>w1 a o H' F' (e1.trans e') (e1.keep.free n1) h1 f1 r'
   |err z ρe=>rw[q]at w1;exact λcls a H' F' ec e'=>⟨_,ρ,F',ec,ri.step (e1.trans e'),w1⟩
   |bad=>rw[q]at w1;exact w1.elim
  ·exact w1.elim
end
section
variable {P:KW} {w:La} {K:Ku} {mg:Kw->Option Kv} {base:L4}
theorem GN {x:Kw} {st:L9} {N ps:List Kw} {k n m:Nat} {g:af->R D} (A:cA K mg x st ps) (S:aB N ps (ak st)) (hn:ps.length=n) (hm:N.length=m)
  (Sw:∀(f:Kx) (Sb:Kv) (A:Lg) (outer:List Mm) (s:Ky) (H:Hp) (E:XK),cW k (A.deeper (Mp x (ak st) s.heap.objs.size f Sb))->
   Es [] (iU (lg P w) P w K mg base N x (ak st) f Sb A outer s H E) (bK st) g):IH P w K mg base (k+1) x n (Eu n m g):=by
 obtain⟨f,fd,F,h1,h2⟩:=A.ex
 refine⟨f,fd,ps,Ie F S (λvs H Q E h=>by rw[hn];exact h.1) (λSb A outer s H vs Q E hr h=> ?_),h1,F.kp,h2⟩
 obtain⟨hl,Fz,ds,sub,r,w⟩:=h
 refine⟨_,Sw f Sb A outer s H E hr ⟨⟨H,Fz,λ_=>none,λx _=>∀cls a H' F',eO K x cls->c8 H Fz H' F'->E cls a H',λ_=>none,λ_=>none⟩,r_ λx ρ er cls a H' F' σ ec ri=>er cls a H' F' ec ri.ext⟩,?_⟩
 refine⟨Fz,cY m ds,by rw[<-hm];exact vX sub r,?_⟩
 have hd:ds.length=n:=by rw[<-r.length];exact hl
 unfold Eu at w
 rw[if_pos hd]at w
 cases e:g (cY m ds)with
 |bad=>rw[e]at w;exact w.elim
 |err c ρ=>rw[e]at w;exact w
 |ok d=>rw[e]at w;exact w
end
end L2.Pu
namespace L2
open PySem PySem.Spec PyProof.Rows
section
variable {X:Cx}
theorem t6:dX X (.builtin "sorted") (λxs H Q=>∃p ns,xs=[.ref p]/\H p=some (.tup (ns.map V.int))/\ns.length<64/\∀l,H l=none->Q (.ref l) (b_ H l (.lst ((cR ns).map V.int)))):=by
 intro S4 s σ H xs us Q I rv h
 obtain⟨p,ns,rfl,hp,ZX,q⟩:=h
 obtain⟨u,rfl,ru⟩:=jR rv
 cases ru
 obtain⟨hz,its,r,o,ho,hc,n,hd,_⟩:=(show ci X.prog X.w H s.heap p (.tup (ns.map V.int))from I.hok p _ hp)
 have hI:=kr r
 have Sq:=r.length
 rw[KA]at Sq
 refine ND Rb QT QU (QV _) ?_
 unfold Ov.«sorted»
 refine Kz (m:=Ry "sorted" 1 1 _) (KN ?_)
 refine Kz (R7 p (.inr rfl) ho hc hd (λh' Wj=> ?_) (by rw[KG,M3];omega))
 have eT:its.toArray.toList=its:=by simp
 rw[eT]
 refine Kz (O3 ?_ (by rw[M3];omega))
 have WD:(h'.push (seqObj "list" its.toArray 0)).get? h'.objs.size=some (seqObj "list" its.toArray 0):=Li _ rfl
 refine Kz (LD (Nm Qb ⟨_,WD,rfl⟩ PR (list_sort_tree WD hI (by omega) λz zs a1 a2 a3=>⟨_,rfl,?_⟩) (Qc _)))
 refine KN ⟨_,rfl,?_⟩
 obtain⟨e,he⟩:=Qw (out:=z) WD
 have en:zs=cR ns:=hW (a2.trans (iV ns).symm) a3 (iK ns)
 subst en
 have Uh:s.heap.get? h'.objs.size=none:=by
  cases e:s.heap.get? h'.objs.size with
  |none=>rfl
  |some o=>exact absurd (KZ (Wj _ _ e)) (LP _)
 have kk:∀b o,s.heap.get? b=some o->(Qp (h'.push (seqObj "list" its.toArray 0)) h'.objs.size its z).get? b=some o:=λb o eb=>by
  have hb:=Wj b o eb
  have UZ:b<h'.objs.size:=KZ hb
  rw[Qd (Lo UZ) (by rw[Rz];exact MM UZ)]
  exact KH _ hb
 refine⟨.ref h'.objs.size,_,I.laidAt (o:= .lst ((cR ns).map V.int)) kk Uh ⟨?_,z.toList,e,jT a1,by simpa[seqObj]using he⟩,rfl,q _ (I.hok.nowhere Uh)⟩
 have h1:=a2.length_eq
 rw[KA,h1,M3];omega
end
end L2
namespace L2.Pu
open PySem PySem.Spec PyProof.Rows
def ul:List D->Option D
 |[.tup ds]=>(cP ds).bind λns=>if ns.length<64 then some (.lst ((cR ns).map .int))else none
 |_=>none
theorem v7 {K:Ku}:mO K (λxs H Q=>∃p ns,xs=[.ref p]/\H p=some (.tup (ns.map V.int))/\ns.length<64/\∀l,H l=none->Q (.ref l) (b_ H l (.lst ((cR ns).map V.int)))) ul:=by
 intro vs ds d H F Q s rv h k
 match ds,h with
 |[.tup xs],h=>
  obtain⟨v,rfl,r⟩:=rv.one
  obtain⟨a,ws,rfl,h1,h2⟩:=r.tup s
  replace h:((cP xs).bind λns=>if ns.length<64 then some (D.lst ((cR ns).map .int))else none)=some d:=h
  cases e:cP xs with
  |none=>rw[e]at h;cases h
  |some ns=>
   rw[e]at h
   dsimp only[Option.bind]at h
   split at h
   ·rename_i hl
    cases h
    rw[gU e h2]at h1
    exact⟨a,ns,rfl,h1,hl,λl hn=>by
     have e2:=c8.lay (o:= .lst ((cR ns).map V.int)) s hn
     exact k _ _ _ e2 (.lst aE (jX _))⟩
   ·cases h
end L2.Pu
namespace L2
open PySem PySem.Spec PyProof.Rows L2.Pu
section
variable {X:Cx} {o e:KI} {es:List KI} {to:TE} {t:TA} {Sl Sh:Ls}
def zo:V->List V->Hp->VK->Prop:=λx vs H Q=>∃(l:Kx) (k:Int) (ns:List Int),x= .ref l/\vs=[.int k]/\H l=some (.tup (ns.map V.int))/\Q (.int (ns.count k)) H
theorem AM:FW X "tuple.count" zo:=by
 intro S4 s σ H x vs v us Q I rx rv h
 obtain⟨l,k,bs,rfl,rfl,hx,q⟩:=h
 cases rx
 obtain⟨u,rfl,ru⟩:=rv.one
 obtain⟨tk,rfl⟩:=ru
 obtain⟨hz,its,r,⟨cls,dd,data,sl⟩,ho,hc,n,hd,_⟩:=(show ci X.prog X.w H s.heap l (.tup (bs.map V.int))from I.hok l _ hx)
 simp only at hc hd
 subst hc hd
 refine N3 Po ⟨_,ho,rfl⟩ PySem.F.entry_tuple_count (PySem.F.args_tuple_count_2 _ _) (PySem.SeqAt.tuple_countAt l its.toArray n dd sl (.int k tk) (GI k)) ⟨ho,λy hy=> ?_,?_⟩
 ·obtain⟨i,hi,e⟩:=MY (show y∈its by simpa using hy)
  obtain⟨t,rfl⟩:=uH r (i:=i) (v:=y) (by rw[Ld hi,e])
  exact O1 _ t k tk
 ·rw[show its.toArray.toList=its from rfl,v5 r]
  exact⟨.int _,H,I.tok _,⟨_,rfl⟩,q⟩
theorem GO (ho:PE X o to) (ha:PA X (e::es) t) (SR:Lz o "count" X.env (L5 o X.env)=L5 o X.env)
  (UN:((Ll Sh (KC (e::es) X.env)).all (λx=> !x.1)&&(Mu Sh (M4 [] X.env)).all (λx=>x.1.isSome)
   &&decide ((e::es).length+([]:List MJ).length+(if ([]:List MJ).isEmpty then 0 else 1)<30))=true)
  (SS:(Sl.endLine==Sh.line)=true) (hs:KC (e::es) X.env=(false,L5 e X.env)::KC es X.env) (SU:(Ll Sh (KC es X.env)).any (·.1)=false):
  PE X (.Call (.Attribute o "count" Sl) (e::es) [] Sh) (λσ H Q=>to σ H λx H1=>(IY X.K "list" x H1/\t σ H1 λxs H2=>zm X.K x xs H2 Q)\/∃p vs,x= .ref p/\H1 p=some (.tup vs)/\t σ H1 λxs H2=>zo x xs H2 Q):=by
 intro S4 s σ H Q I h
 refine Q2 SR UN SS rfl (cV (ho S4 s σ H _ I h) λv s1 z_=> ?_)
 obtain⟨x,H1,I1,r1,z⟩:=z_
 rcases z with ⟨ty,q1⟩|⟨p,vs,rfl,hp,q1⟩
 ·obtain⟨h1,h2⟩:=xC I1 r1 ty
  refine⟨"list","list.count",M7,MZ,Px,h1,h2,?_⟩
  have hA:=ha Sh S4 s1 σ H1 _ I1 q1
  rw[hs]at hA ⊢
  refine N8 (by show (false||(Ll Sh (KC es X.env)).any (·.1))=false;rw[SU]<;>rfl) (Nn ?_)
  exact cV hA λus s2 ⟨vs,H2,I2,r2,q2⟩=>AI S4 s2 σ H2 x vs v us Q I2 r1 r2 q2
 ·cases r1
  obtain⟨hz,its,r,ob,Xg,hc,n,hd,a0u⟩:=(show ci X.prog X.w H1 s1.heap p (.tup vs)from I1.hok p _ hp)
  refine⟨"tuple","tuple.count",PySem.F.plainAttrs_tuple,Po,PySem.F.type_tuple_count,⟨ob,Xg,hc⟩,λa e=>by cases e;exact⟨ob,Xg,a0u⟩,?_⟩
  have hA:=ha Sh S4 s1 σ H1 _ I1 q1
  rw[hs]at hA ⊢
  refine N8 (by show (false||(Ll Sh (KC es X.env)).any (·.1))=false;rw[SU]<;>rfl) (Nn ?_)
  exact cV hA λus s2 ⟨Zh,H2,I2,r2,q2⟩=>AM S4 s2 σ H2 (.ref p) Zh (.ref p) us Q I2 rfl r2 q2
end
end L2
namespace L2.Pu
open PySem PySem.Spec PyProof.Rows
variable {ly:List fz} {X:Cx} {a o:KI} {fo fk:af->R D} {Sl Sh:Ls}
def zq (fo fk:af->R D):af->R D:=λρ=>fo ρ>>=λd=>match d with
 | .lst ds=>fk ρ>>=λk=>(match cP ds,k with
  |some bs, .int b=> .ok (.int (bs.count b))
  |_,_=> .bad)
 | .tup ds=>fk ρ>>=λk=>(match cP ds,k with
  |some bs, .int b=> .ok (.int (bs.count b))
  |_,_=> .bad)
 |_=> .bad
theorem GP (ho:PB ly X o fo) (hk:PQ ly X a fk) (SR:Lz o "count" X.env (L5 o X.env)=L5 o X.env:=by rfl)
  (UN:((Ll Sh (KC [a] X.env)).all (λx=> !x.1)&&(Mu Sh (M4 [] X.env)).all (λx=>x.1.isSome)
   &&decide (([a]:List KI).length+([]:List MJ).length+(if ([]:List MJ).isEmpty then 0 else 1)<30))=true:=by rfl)
  (SS:(Sl.endLine==Sh.line)=true:=by rfl) (hs:KC [a] X.env=(false,L5 a X.env)::KC [] X.env:=by rfl) (SU:(Ll Sh (KC [] X.env)).any (·.1)=false:=by rfl):
  PQ ly X (.Call (.Attribute o "count" Sl) [a] [] Sh) (zq fo fk):=λc=>
 PE.weak (GO (ho c) (df (hk c) gP hs) SR UN SS hs SU) λσ H Q ⟨F,ρ,ri,w⟩=>⟨F,ρ,ri,(aN.bind.mp w).imp λd _ w1 v H1 F1 e1 r1=>by
  cases d with
  |lst ds=>
   obtain⟨p,vs,rfl,h1,h2⟩:=r1.lst e1.sub
   refine .inl ⟨.inl ⟨rfl,vs,dA.of h1⟩,F1,ρ,ri.step e1,(aN.bind.mp w1).imp λk _ w2 u H2 F2 e2 r2=> ?_⟩
   cases q:cP ds with
   |none=>simp only[q]at w2;exact w2.elim
   |some bs=>
    cases k with
    |int b=>
     cases r2
     simp only[q]at w2
     rw[gU q h2]at h1
     exact⟨p,b,bs,rfl,rfl,dA.of (e2.keep _ _ h1),w2 _ H2 F2 (e1.trans e2) (.int _)⟩
    |_=>simp only[q]at w2;exact w2.elim
  |tup ds=>
   obtain⟨p,vs,rfl,h1,h2⟩:=r1.tup e1.sub
   refine .inr ⟨p,vs,rfl,h1,F1,ρ,ri.step e1,(aN.bind.mp w1).imp λk _ w2 u H2 F2 e2 r2=> ?_⟩
   cases q:cP ds with
   |none=>simp only[q]at w2;exact w2.elim
   |some bs=>
    cases k with
    |int b=>
     cases r2
     simp only[q]at w2
     rw[gU q h2]at h1
     exact⟨p,b,bs,rfl,rfl,e2.keep _ _ h1,w2 _ H2 F2 (e1.trans e2) (.int _)⟩
    |_=>simp only[q]at w2;exact w2.elim
  |_=>exact w1.elim⟩
end L2.Pu
namespace L2.Pu
open PySem PySem.Spec PyProof.Rows
section
variable {K:Ku} {f:Kx} {oc:Kv} {od:Option Kx} {kV Ts pm:Kv} {an:Option Kx} {Sb ct:Kv} {Vm:Array (Option Kv)} {x qual:Kw} {st:L9} {C:Kx}
theorem UF.of (h1:KQ K KJ x=some (some (.ref f))) (h2:K.lookup f=some ⟨oc,od, .func (LF x x (dr st) (bK st) (ak st) .none kV Ts pm an Sb ct),Vm⟩) (h3:MS K Sb x=true) (h4:Ly K (.ref f)=true):UF K x st:=
 ⟨f,oc,od,kV,Ts,pm,an,Sb,ct,Vm,h1,h2,h3,h4⟩
theorem qw.of (h1:KY K (.ref C) x=some (some (.ref f))) (h2:K.lookup f=some ⟨oc,od, .func (LF x qual (dr st) (bK st) (ak st) .none kV Ts pm an Sb ct),Vm⟩) (h3:MS K Sb qual=true) (h4:Ly K (.ref f)=true) (h5:Of K (.ref f)=true):qw K C x qual st:=
 ⟨f,oc,od,kV,Ts,pm,an,Sb,ct,Vm,h1,h2,h3,h4,h5⟩
end
end L2.Pu
namespace My
open PySem PySem.Spec PyProof.Rows L2 L2.Pu
def iD (i:Nat):L9:=PySem.Challenge.pw_tankbalance_k36_whole_history.main.body.getD i (.Pass ⟨0,0,0,0⟩)
abbrev RL:List Kw:=["BadTanks","UnknownDay","UnknownPlace","SamePlace","WrongRises","UnknownStream","Twice","AlreadyMetered","NotMetered","ReadingMissing","OutOfRange","TooManyStreams","TooManyMeters","TooManyDays","TooManyDeeds","NothingDone"]
abbrev tb (k:Nat):Kw->Option Bool:=Ax (yb (·==k) 0 RL)
abbrev JJ:Kw->Option Bool:=Ax (yb (λ_=>true) 0 RL)
abbrev JK:Kw->Option Bool:=Ax (yb (λ_=>false) 0 RL)
abbrev sv:List Kw:=["tanks","streams","rises","readings"]
abbrev bD:List Kw:=["came","streams","meters","passed"]
abbrev cq:List Kw:=["tanks","now","history"]
abbrev kJ:L9:=cN (iD 21) 0
def sx:af->R br:=
 aw (oM 0 (aU (au 1) (gN 5)))
  (aw (oM 0 (aU (cg bV (a8 (cg ia (a8 (aa 2) (ai))) (ai))) (gN 6)))
  (aw (oM 0 (aU (cg bV (a8 (aa 3) (ai))) (gN 7)))
  (oM 0 (aU (cg bV (a8 (cg ia (a8 (aa 4) (ai))) (ai))) (gN 8)))))
def qx:List (Kw×Nat):=[("tanks",5),("streams",6),("rises",7),("readings",8)]
def gZ:List D->R (List (Kw×D)):=mD 4 8 qx sx
abbrev fP:L9:=cN (iD 30) 0
def qQ:af->R br:=
 aw (oM 0 (aU (au 1) (gN 5)))
  (aw (oM 0 (aU (au 2) (gN 6)))
  (aw (oM 0 (aU (au 3) (gN 7)))
  (oM 0 (aU (au 4) (gN 8)))))
def pX:List (Kw×Nat):=[("came",5),("streams",6),("meters",7),("passed",8)]
def a_:List D->R (List (Kw×D)):=mD 4 8 pX qQ
abbrev dM:L9:=cN (iD 30) 1
def dN:af->R br:=
 aw (aU (f2 bC (cB "Standing" "came" (aa 0)) (fC (.int 1))) (gN 3))
  (bt (lM "Standing" 4 a_ (a8 (au 3) (a8 (f2 bC (cB "Standing" "streams" (aa 0)) (bU (a8 (bU (a8 (au 3) (a8 (au 1) (a8 (au 2) (ai))))) (ai)))) (a8 (cB "Standing" "meters" (aa 0)) (a8 (cB "Standing" "passed" (aa 0)) (ai)))))))
def cj:List D->R D:=bi 3 4 dN
abbrev d6:L9:=cN (iD 30) 2
def d7:af->R br:=
 aw (aU (cg bV (a8 (fL (bM ["self","number","streams","meters"] [(".0", .local),("stream", .local),("number", .free)] (cw (cB "Standing" "streams" (aa 0))) (gN 1) (fT (f2 sd (f2 aQ (aa 1) (fC (.int 0))) (aa 2))) (au 1))) (ai))) (gN 2))
  (aw (aU (cg bV (a8 (fL (bM ["self","number","streams","meters"] [(".0", .local),("meter", .local),("number", .free)] (cw (cB "Standing" "meters" (aa 0))) (gN 1) (fT (f2 sd (aa 1) (aa 2))) (au 1))) (ai))) (gN 3))
  (bt (lM "Standing" 4 a_ (a8 (cB "Standing" "came" (aa 0)) (a8 (au 2) (a8 (au 3) (a8 (cB "Standing" "passed" (aa 0)) (ai))))))))
def bQ:List D->R D:=bi 2 4 d7
abbrev dO:L9:=cN (iD 30) 3
def kK:af->R br:=
 bt (lM "Standing" 4 a_ (a8 (cB "Standing" "came" (aa 0)) (a8 (cB "Standing" "streams" (aa 0)) (a8 (f2 bC (cB "Standing" "meters" (aa 0)) (cg bV (a8 (aa 1) (ai)))) (a8 (cB "Standing" "passed" (aa 0)) (ai))))))
def ck:List D->R D:=bi 2 2 kK
abbrev d8:L9:=cN (iD 30) 4
def da:af->R br:=
 aw (aU (cg bV (a8 (fL (bM ["self","numbers","meters"] [(".0", .local),("meter", .local),("numbers", .free)] (cw (cB "Standing" "meters" (aa 0))) (gN 1) (fT (f2 (gT true) (aa 1) (aa 2))) (au 1))) (ai))) (gN 2))
  (bt (lM "Standing" 4 a_ (a8 (cB "Standing" "came" (aa 0)) (a8 (cB "Standing" "streams" (aa 0)) (a8 (au 2) (a8 (cB "Standing" "passed" (aa 0)) (ai)))))))
def bR:List D->R D:=bi 2 3 da
abbrev fF:L9:=cN (iD 30) 5
def mQ:af->R br:=
 bt (lM "Standing" 4 a_ (a8 (cB "Standing" "came" (aa 0)) (a8 (cB "Standing" "streams" (aa 0)) (a8 (cB "Standing" "meters" (aa 0)) (a8 (f2 bC (cB "Standing" "passed" (aa 0)) (bU (a8 (au 1) (ai)))) (ai))))))
def cL:List D->R D:=bi 2 2 mQ
abbrev ip:L9:=iD 32
def qR:af->R br:=
 aw (cr (eL (cg v4 (a8 (fL (bM ["tanks","places"] [(".0", .local),("place", .local),("OUTSIDE", .globalImplicit),("tanks", .free)] (cw (au 1)) (gN 1) (gJ) (E4 (f2 sX (aa 1) (fC (.int 0))) (f2 pL (aa 1) (aa 3))))) (ai))))
  (cK "UnknownPlace" (a8 (fC (.str "a place is neither the outside nor one of the tanks")) (ai)))
  (aF))
  (cr (fT (f2 dm (f2 aQ (aa 1) (fC (.int 0))) (f2 aQ (aa 1) (fC (.int 1)))))
  (cK "SamePlace" (a8 (fC (.str "a stream leads from one place to another one")) (ai)))
  (aF))
def d_:List D->R D:=bi 2 2 qR
abbrev g_:L9:=iD 33
def pY:af->R br:=
 aw (oB 2 (bM ["standing","numbers","there"] [(".0", .local),("stream", .local)] (cw (cB "Standing" "streams" (aa 0))) (gN 1) (gJ) (f2 aQ (aa 1) (fC (.int 0)))))
  (aw (cr (eL (cg v4 (a8 (fL (bM ["standing","numbers","there"] [(".0", .local),("number", .local),("there", .free)] (cw (au 1)) (gN 1) (gJ) (f2 (gT true) (aa 1) (aa 2)))) (ai))))
  (cK "UnknownStream" (a8 (fC (.str "a stream that is named is not there")) (ai)))
  (aF))
  (cr (fT (f2 sX (rj (aa 1)) (cg cf (a8 (aa 1) (ai)))))
  (cK "Twice" (a8 (fC (.str "a stream is named twice")) (ai)))
  (aF)))
def bB:List D->R D:=bi 2 3 pY
abbrev fR:L9:=iD 34
def nP:af->R br:=
 cr (eL (cg v4 (a8 (fL (bM ["standing","numbers"] [(".0", .local),("number", .local),("standing", .free)] (cw (au 1)) (gN 1) (gJ) (f2 (gT true) (aa 1) (cB "Standing" "meters" (aa 2))))) (ai))))
  (cK "NotMetered" (a8 (fC (.str "a stream that is named has no meter")) (ai)))
  (aF)
def c9:List D->R D:=bi 2 2 nP
abbrev hE:L9:=iD 35
def pZ:af->R br:=
 cr (eL (cg v4 (a8 (fL (bM ["amounts"] [(".0", .local),("amount", .local),("abs", .globalImplicit),("MOST_AMOUNT", .globalImplicit)] (cw (au 0)) (gN 1) (gJ) (f2 pL (cg IC (a8 (aa 1) (ai))) (fC (.int 1000))))) (ai))))
  (cK "OutOfRange" (a8 (fC (.str "a rise or a reading lies out of range")) (ai)))
  (aF)
def cU:List D->R D:=bi 1 1 pZ
abbrev i3:L9:=cN (iD 36) 0
def jJ:af->R br:=
 aw (cr (o6 (fT (f2 sX (aa 1) (fC (.int 0)))) (fT (f2 pL (aa 1) (fC (.int 7)))))
  (cK "BadTanks" (a8 (fC (.str "a cellar can't have that many tanks")) (ai)))
  (aF))
  (aw (oM 0 (aU (au 1) (gN 2)))
  (aw (oM 0 (aU (lM "Standing" 4 a_ (a8 (fC (.int 0)) (a8 (bU (ai)) (a8 (bU (ai)) (a8 (bU (ai)) (ai)))))) (gN 3)))
  (CJ 0 4)))
def sy:List (Kw×Nat):=[("tanks",2),("now",3)]
def eu:List D->R (List (Kw×D)×Kw×List D):=lS 1 4 sy "history" 4 jJ
abbrev fS:L9:=cN (iD 36) 1
def fU:af->R br:=
 aw (cr (fT (f2 E6 (cg cf (a8 (qv 0 "Cellar" "history") (ai))) (fC (.int 60))))
  (cK "TooManyDeeds" (a8 (fC (.str "no more deeds can be kept")) (ai)))
  (aF))
  (aw (rh 0 "Cellar" "history" (bU (a8 (au 1) (a8 (cZ 0 "Cellar" "now") (ai)))))
  (rf 0 "Cellar" "now" (au 2)))
def aR:List Slot->List D->R (D×List Slot):=iM 1 2 2 fU
abbrev eG:L9:=cN (iD 36) 2
def lj:af->R br:=
 aw (ib (aI d_ 2 (a8 (cZ 0 "Cellar" "tanks") (a8 (bU (a8 (au 1) (a8 (au 2) (ai)))) (ai)))))
  (aw (cr (fT (f2 E6 (cg cf (a8 (cB "Standing" "streams" (cZ 0 "Cellar" "now")) (ai))) (fC (.int 12))))
  (cK "TooManyStreams" (a8 (fC (.str "no more streams can be there")) (ai)))
  (aF))
  (aw (j9 (kG 0 "Cellar" "keep_deed" (fj [0] aR 2 (a8 (bU (a8 (fC (.str "stream comes")) (a8 (au 1) (a8 (au 2) (ai))))) (a8 (fA "Standing" "with_stream" 3 cj (cZ 0 "Cellar" "now") (a8 (au 1) (a8 (au 2) (ai)))) (ai))))))
  (iC (cB "Standing" "came" (cZ 0 "Cellar" "now")))))
def cu:List Slot->List D->R (D×List Slot):=iM 1 2 2 lj
abbrev eS:L9:=cN (iD 36) 3
def lT:af->R br:=
 aw (ib (aI bB 2 (a8 (cZ 0 "Cellar" "now") (a8 (bU (a8 (au 1) (ai))) (ai)))))
  (j9 (kG 0 "Cellar" "keep_deed" (fj [0] aR 2 (a8 (bU (a8 (fC (.str "stream goes")) (a8 (au 1) (ai)))) (a8 (fA "Standing" "without_stream" 2 bQ (cZ 0 "Cellar" "now") (a8 (au 1) (ai))) (ai))))))
def cE:List Slot->List D->R (D×List Slot):=iM 1 1 1 lT
abbrev eU:L9:=cN (iD 36) 4
def lU:af->R br:=
 aw (ib (aI bB 2 (a8 (cZ 0 "Cellar" "now") (a8 (au 1) (ai)))))
  (aw (cr (uZ [0] (eL (cg v4 (a8 (fL (bM ["self","numbers"] [(".0", .local),("number", .local),("self", .free)] (cw (au 1)) (gN 1) (gJ) (f2 (gT false) (aa 1) (cB "Standing" "meters" (cB "Cellar" "now" (aa 2)))))) (ai)))))
  (cK "AlreadyMetered" (a8 (fC (.str "a stream that is named has a meter already")) (ai)))
  (aF))
  (aw (cr (fT (f2 pL (f2 bC (cg cf (a8 (cB "Standing" "meters" (cZ 0 "Cellar" "now")) (ai))) (cg cf (a8 (aa 1) (ai)))) (fC (.int 10))))
  (cK "TooManyMeters" (a8 (fC (.str "no more meters can be there")) (ai)))
  (aF))
  (j9 (kG 0 "Cellar" "keep_deed" (fj [0] aR 2 (a8 (bU (a8 (fC (.str "meters come")) (a8 (cg bV (a8 (aa 1) (ai))) (ai)))) (a8 (fA "Standing" "with_meters" 2 ck (cZ 0 "Cellar" "now") (a8 (au 1) (ai))) (ai))))))))
def cF:List Slot->List D->R (D×List Slot):=iM 1 1 1 lU
abbrev fV:L9:=cN (iD 36) 5
def nQ:af->R br:=
 aw (ib (aI bB 2 (a8 (cZ 0 "Cellar" "now") (a8 (au 1) (ai)))))
  (aw (ib (aI c9 2 (a8 (cZ 0 "Cellar" "now") (a8 (au 1) (ai)))))
  (j9 (kG 0 "Cellar" "keep_deed" (fj [0] aR 2 (a8 (bU (a8 (fC (.str "meters go")) (a8 (cg bV (a8 (aa 1) (ai))) (ai)))) (a8 (fA "Standing" "without_meters" 2 bR (cZ 0 "Cellar" "now") (a8 (au 1) (ai))) (ai)))))))
def c_:List Slot->List D->R (D×List Slot):=iM 1 1 1 nQ
abbrev fW:L9:=cN (iD 36) 10
def nR:af->R br:=
 bt (cg cf (a8 (cB "Standing" "passed" (cB "Cellar" "now" (aa 0))) (ai)))
def bj:List D->R D:=bi 1 1 nR
abbrev fG:L9:=cN (iD 36) 6
def mR:af->R br:=
 aw (cr (fT (f2 sd (cg cf (a8 (aa 1) (ai))) (cZ 0 "Cellar" "tanks")))
  (cK "WrongRises" (a8 (fC (.str "each tank has one rise")) (ai)))
  (aF))
  (aw (oB 3 (bM ["self","rises","readings","numbers","day"] [(".0", .local),("pair", .local)] (cw (au 2)) (gN 1) (gJ) (f2 aQ (aa 1) (fC (.int 0)))))
  (aw (pK [3] (ib (aI bB 2 (a8 (cZ 0 "Cellar" "now") (a8 (au 3) (ai))))))
  (aw (pK [3] (ib (aI c9 2 (a8 (cZ 0 "Cellar" "now") (a8 (au 3) (ai))))))
  (aw (cr (eL (cg v4 (a8 (fL (bM ["self","rises","readings","numbers","day"] [(".0", .local),("meter", .local),("numbers", .free)] (cw (cB "Standing" "meters" (cZ 0 "Cellar" "now"))) (gN 1) (gJ) (f2 (gT true) (aa 1) (aa 2)))) (ai))))
  (cK "ReadingMissing" (a8 (fC (.str "a stream that has a meter has no reading")) (ai)))
  (aF))
  (aw (ib (aI cU 1 (a8 (au 1) (ai))))
  (aw (ib (aI cU 1 (a8 (fL (bM ["self","rises","readings","numbers","day"] [(".0", .local),("pair", .local)] (cw (au 2)) (gN 1) (gJ) (f2 aQ (aa 1) (fC (.int 1))))) (ai))))
  (aw (cr (fT (f2 E6 (cg cf (a8 (cB "Standing" "passed" (cZ 0 "Cellar" "now")) (ai))) (fC (.int 12))))
  (cK "TooManyDays" (a8 (fC (.str "no more days can be kept")) (ai)))
  (aF))
  (aw (aU (lM "Day" 4 gZ (a8 (cZ 0 "Cellar" "tanks") (a8 (cB "Standing" "streams" (cZ 0 "Cellar" "now")) (a8 (au 1) (a8 (au 2) (ai)))))) (gN 4))
  (aw (j9 (kG 0 "Cellar" "keep_deed" (fj [0] aR 2 (a8 (bU (a8 (fC (.str "day passes")) (a8 (cg bV (a8 (aa 1) (ai))) (a8 (cg bV (a8 (aa 2) (ai))) (ai))))) (a8 (fA "Standing" "with_day" 2 cL (cZ 0 "Cellar" "now") (a8 (au 4) (ai))) (ai))))))
  (iC (nO "history" [0] (fA "Cellar" "days_gone" 1 bj (au 0) ai))))))))))))
def cM:List Slot->List D->R (D×List Slot):=iM 1 2 4 mR
abbrev fX:L9:=cN (iD 36) 7
def fY:af->R br:=
 aw (cr (fT (f2 dm (cg cf (a8 (qv 0 "Cellar" "history") (ai))) (fC (.int 0))))
  (cK "NothingDone" (a8 (fC (.str "no deed stands")) (ai)))
  (aF))
  (aw (uX 1 0 "Cellar" "history")
  (aw (rf 0 "Cellar" "now" (f2 aQ (aa 1) (fC (.int 1))))
  (iC (f2 aQ (aa 1) (fC (.int 0))))))
def cb:List Slot->List D->R (D×List Slot):=iM 1 0 1 fY
abbrev iq:L9:=cN (iD 36) 8
def ir:af->R br:=
 aw (aU (cB "Standing" "meters" (cB "Cellar" "now" (aa 0))) (gN 1))
  (bt (cg bV (a8 (fL (bM ["self","meters"] [(".0", .local),("stream", .local),("meters", .free)] (cw (cB "Standing" "streams" (cB "Cellar" "now" (aa 0)))) (gN 1) (gJ) (f2 bC (aa 1) (bU (a8 (f2 (gT false) (f2 aQ (aa 1) (fC (.int 0))) (aa 2)) (ai)))))) (ai))))
def dc:List D->R D:=bi 1 2 ir
abbrev jc:L9:=cN (iD 36) 9
def sA:af->R br:=
 bt (cg bV (a8 (fL (bM ["self"] [(".0", .local),("kept", .local)] (cw (cB "Cellar" "history" (aa 0))) (gN 1) (gJ) (f2 aQ (aa 1) (fC (.int 0))))) (ai)))
def dv:List D->R D:=bi 1 1 sA
abbrev kL:L9:=cN (iD 36) 11
def kM:af->R br:=
 aw (cr (o6 (fT (f2 sX (aa 1) (fC (.int 1)))) (fT (f2 pL (aa 1) (fA "Cellar" "days_gone" 1 bj (au 0) ai))))
  (cK "UnknownDay" (a8 (fC (.str "no day has that number")) (ai)))
  (aF))
  (bt (f2 aQ (cB "Standing" "passed" (cB "Cellar" "now" (aa 0))) (f2 iL (aa 1) (fC (.int 1)))))
def fq:List D->R D:=bi 2 2 kM
abbrev sB:L9:=iD 38
def wI:af->R br:=
 aw (cr (fT (f2 sX (aa 1) (cg cf (a8 (aa 0) (ai)))))
  (bt (f2 aQ (aa 0) (aa 1)))
  (aF))
  (bt (fC (.int 0)))
def d0:List D->R D:=bi 2 2 wI
abbrev nS:L9:=iD 39
def nT:af->R br:=
 aw (cr (fT (f2 dm (f2 bN (aI d0 2 (a8 (au 0) (a8 (fC (.int 0)) (ai)))) (fC (.int 2))) (fC (.int 0))))
  (bt (aI d0 2 (a8 (au 0) (a8 (au 1) (ai)))))
  (aF))
  (aw (aU (f2 bN (f2 nG (f2 bC (f2 bC (f2 bC (aI d0 2 (a8 (au 0) (a8 (au 1) (ai)))) (f2 dY (aI d0 2 (a8 (au 0) (a8 (fC (.int 0)) (ai)))) (fC (.int 2)))) (f2 nG (fC (.int 7919)) (aa 1))) (fC (.int 1))) (fC (.int 48271))) (fC (.int 2147483647))) (gN 2))
  (bt (f2 bN (f2 nG (f2 bC (aa 2) (aa 1)) (fC (.int 69621))) (fC (.int 2147483647)))))
def cc:List D->R D:=bi 2 3 nT
abbrev jK:L9:=iD 40
def gD:af->R br:=
 cr (eL (aa 1))
  (aw (aU (f2 bN (f2 nG (f2 bC (f2 bC (aa 0) (f2 nG (fC (.int 7919)) (aa 6))) (fC (.int 1))) (fC (.int 48271))) (fC (.int 2147483647))) (gN 7))
  (oE 4 (f2 bN (f2 bN (f2 nG (f2 bC (aa 7) (aa 6)) (fC (.int 69621))) (fC (.int 2147483647))) (aa 3))))
  (aw (oE 4 (f2 bN (aa 5) (aa 3)))
  (aU (f2 dY (aa 5) (aa 3)) (gN 5)))
def jL:af->R br:=
 aw (n5 4 (ai))
  (aw (aU (au 0) (gN 5))
  (aw (li (dI (a8 (au 2) (ai))) (gN 6) (gD))
  (pK [4] (bt (au 4)))))
def bX:List D->R D:=bi 4 8 jL
abbrev kN:L9:=iD 41
def jw (VI:List D->R D):af->R br:=
 cr (iZ (eL (aI VI 2 (a8 (f2 aQ (aa 0) (aa 2)) (a8 (f2 aQ (aa 1) (aa 2)) (ai))))))
  (bt (fC (.bl false)))
  (aF)
def dP (VI:List D->R D):af->R br:=
 aw (cr (eL (pM "tuple" (aa 1)))
  (aw (cr (o6 (iZ (eL (pM "tuple" (aa 0)))) (fT (f2 sd (cg cf (a8 (aa 0) (ai))) (cg cf (a8 (aa 1) (ai))))))
  (bt (fC (.bl false)))
  (aF))
  (aw (li (dI (a8 (cg cf (a8 (aa 1) (ai))) (ai))) (gN 2) (jw VI))
  (bt (fC (.bl true)))))
  (aF))
  (aw (cr (fT (f2 vY (aa 1) (fC .non)))
  (bt (f2 vY (aa 0) (fC .non)))
  (aF))
  (aw (cr (eL (pM "bool" (aa 1)))
  (bt (qm (pM "bool" (aa 0)) (f2 dm (aa 0) (aa 1))))
  (aF))
  (aw (cr (eL (pM "str" (aa 1)))
  (bt (qm (pM "str" (aa 0)) (f2 dm (aa 0) (aa 1))))
  (aF))
  (bt (qm (pM "int" (aa 0)) (qm (yU (pM "bool" (aa 0))) (f2 dm (aa 0) (aa 1))))))))
def dE:Nat->List D->R D
 |0=>λ_=> .bad
 |n+1=>bi 2 3 (dP (dE n))
def bn:List D->R D:=dE 8
abbrev nU:L9:=iD 42
def nV:af->R br:=
 aw (aU (f1 js (aa 3)) (gN 4))
  (aw (aU (au 3) (gN 5))
  (aw (cr (fT (f2 pL (aa 1) (fC (.int 0))))
  (aw (aU (cg An (a8 (aa 4) (a8 (f2 iL (f2 aQ (aa 0) (aa 1)) (fC (.int 1000))) (ai)))) (gN 4))
  (aU (cg xT (a8 (aa 5) (a8 (f2 bC (f2 aQ (aa 0) (aa 1)) (fC (.int 1000))) (ai)))) (gN 5)))
  (aF))
  (aw (cr (fT (f2 pL (aa 2) (fC (.int 0))))
  (aw (aU (cg An (a8 (aa 4) (a8 (f2 iL (f1 js (fC (.int 1000))) (f2 aQ (aa 0) (aa 2))) (ai)))) (gN 4))
  (aU (cg xT (a8 (aa 5) (a8 (f2 iL (fC (.int 1000)) (f2 aQ (aa 0) (aa 2))) (ai)))) (gN 5)))
  (aF))
  (bt (eD (a8 (au 4) (a8 (au 5) (ai))))))))
def jd:List D->R D:=bi 4 6 nV
abbrev lV:L9:=iD 43
def iN:af->R br:=
 aw (aU (f2 aQ (aa 2) (aa 7)) (tW 3 (eQ (gN 8) (eQ (gN 9) (eQ (gN 10) (rY))))))
  (aw (CA [5] (aI jd 4 (a8 (au 5) (a8 (au 9) (a8 (au 10) (a8 (f2 aQ (aa 4) (cg xU (a8 (f2 (gT false) (aa 8) (aa 3)) (ai)))) (ai)))))) 2 (eQ (gN 11) (eQ (gN 12) (rY))))
  (aw (aU (f2 bC (aa 11) (f2 bN (f2 aQ (aa 0) (aa 7)) (f2 bC (f2 iL (aa 12) (aa 11)) (fC (.int 1))))) (gN 13))
  (aw (C1 5 (au 9) (f2 iL (f2 aQ (aa 5) (aa 9)) (aa 13)))
  (aw (C1 5 (au 10) (f2 bC (f2 aQ (aa 5) (aa 10)) (aa 13)))
  (oE 6 (bU (a8 (au 8) (a8 (au 13) (ai)))))))))
def lW:af->R br:=
 aw (wt 5 (f2 wu (eD (a8 (fC (.int 0)) (ai))) (f2 bC (aa 1) (fC (.int 1)))))
  (aw (n5 6 (ai))
  (aw (li (dI (a8 (cg cf (a8 (aa 2) (ai))) (ai))) (gN 7) (iN))
  (bt (eD (a8 (cg bV (a8 (aa 6) (ai))) (a8 (cg bV (a8 (yX (aa 5) (lI (fC (.int 1))) (lH)) (ai))) (ai)))))))
def ic:List D->R D:=bi 5 14 lW
abbrev nW:L9:=iD 44
def nX:af->R br:=
 aw (cr (o6 (iZ (eL (aI bn 2 (a8 (cB "Day" "tanks" (aa 0)) (a8 (f2 aQ (aa 1) (fC (.int 0))) (ai)))))) (iZ (eL (aI bn 2 (a8 (cB "Day" "streams" (aa 0)) (a8 (f2 aQ (aa 1) (fC (.int 1))) (ai)))))))
  (bt (fC (.bl false)))
  (aF))
  (bt (qm (aI bn 2 (a8 (cB "Day" "rises" (aa 0)) (a8 (f2 aQ (aa 1) (fC (.int 2))) (ai)))) (aI bn 2 (a8 (cB "Day" "readings" (aa 0)) (a8 (f2 aQ (aa 1) (fC (.int 3))) (ai))))))
def hG:List D->R D:=bi 2 2 nX
abbrev sC:L9:=iD 45
def lX:af->R br:=
 aw (cr (fT (f2 dm (f2 aQ (aa 1) (fC (.int 0))) (fC (.str "stream comes"))))
  (j8 (kG 0 "Cellar" "stream_comes" (fj [0] cu 2 (a8 (f2 aQ (aa 1) (fC (.int 1))) (a8 (f2 aQ (aa 1) (fC (.int 2))) (ai))))))
  (aF))
  (aw (cr (fT (f2 dm (f2 aQ (aa 1) (fC (.int 0))) (fC (.str "stream goes"))))
  (j8 (kG 0 "Cellar" "stream_goes" (fj [0] cE 1 (a8 (f2 aQ (aa 1) (fC (.int 1))) (ai)))))
  (aF))
  (aw (cr (fT (f2 dm (f2 aQ (aa 1) (fC (.int 0))) (fC (.str "meters come"))))
  (j8 (kG 0 "Cellar" "meters_come" (fj [0] cF 1 (a8 (cg oG (a8 (f2 aQ (aa 1) (fC (.int 1))) (ai))) (ai)))))
  (aF))
  (aw (cr (fT (f2 dm (f2 aQ (aa 1) (fC (.int 0))) (fC (.str "meters go"))))
  (j8 (kG 0 "Cellar" "meters_go" (fj [0] c_ 1 (a8 (cg oG (a8 (f2 aQ (aa 1) (fC (.int 1))) (ai))) (ai)))))
  (aF))
  (aw (cr (fT (f2 dm (f2 aQ (aa 1) (fC (.int 0))) (fC (.str "day passes"))))
  (j8 (kG 0 "Cellar" "day_passes" (fj [0] cM 2 (a8 (cg oG (a8 (f2 aQ (aa 1) (fC (.int 1))) (ai))) (a8 (cg oG (a8 (f2 aQ (aa 1) (fC (.int 2))) (ai))) (ai))))))
  (aF))
  (j8 (kG 0 "Cellar" "take_back" (fj [0] cb 0 ai)))))))
def eV:List Slot->List D->R (D×List Slot):=iM 1 1 1 lX
abbrev nY:L9:=iD 46
def je:af->R br:=
 aw (n5 2 (ai))
  (aw (Aq 3 (Aw RL)
  (j8 (lP (fC (.str "")) (fj [0] eV 1 (a8 (au 1) (ai)))))
  (aw (n5 2 (a8 (jt (tb 2) (aa 3)) (a8 (jt (tb 3) (aa 3)) (a8 (jt (tb 4) (aa 3)) (ai)))))
  (aw (aU (f2 bC (aa 2) (eD (a8 (jt (tb 5) (aa 3)) (a8 (jt (tb 6) (aa 3)) (a8 (jt (tb 7) (aa 3)) (ai)))))) (gN 2))
  (aw (aU (f2 bC (aa 2) (eD (a8 (jt (tb 8) (aa 3)) (a8 (jt (tb 9) (aa 3)) (a8 (jt (tb 10) (aa 3)) (ai)))))) (gN 2))
  (aw (aU (f2 bC (aa 2) (eD (a8 (jt (tb 11) (aa 3)) (a8 (jt (tb 12) (aa 3)) (a8 (jt (tb 13) (aa 3)) (ai)))))) (gN 2))
  (aw (aU (f2 bC (aa 2) (eD (a8 (jt (tb 14) (aa 3)) (a8 (jt (tb 15) (aa 3)) (a8 (jt (tb 0) (aa 3)) (ai)))))) (gN 2))
  (aU (f2 bC (aa 2) (eD (a8 (jt (tb 1) (aa 3)) (a8 (jt JK (aa 3)) (a8 (yU (jt JJ (aa 3))) (ai)))))) (gN 2))))))))
  (aw (n5 4 (a8 (fC (.str "UnknownPlace")) (a8 (fC (.str "SamePlace")) (a8 (fC (.str "WrongRises")) (a8 (fC (.str "UnknownStream")) (a8 (fC (.str "Twice")) (a8 (fC (.str "AlreadyMetered")) (a8 (fC (.str "NotMetered")) (ai)))))))))
  (aw (aU (f2 bC (aa 4) (eD (a8 (fC (.str "ReadingMissing")) (a8 (fC (.str "OutOfRange")) (a8 (fC (.str "TooManyStreams")) (a8 (fC (.str "TooManyMeters")) (a8 (fC (.str "TooManyDays")) (ai)))))))) (gN 4))
  (aw (aU (f2 bC (aa 4) (eD (a8 (fC (.str "TooManyDeeds")) (a8 (fC (.str "NothingDone")) (a8 (fC (.str "BadTanks")) (a8 (fC (.str "UnknownDay")) (a8 (fC (.str "Clashing")) (a8 (fC (.str "another")) (ai))))))))) (gN 4))
  (aw (aU (fC (.str "another")) (gN 5))
  (aw (cr (fT (f2 dm (Fe (aa 2) (fC (.bl true))) (fC (.int 1))))
  (aU (f2 aQ (aa 4) (Ff (aa 2) (fC (.bl true)))) (gN 5))
  (aF))
  (iC (eD (a8 (au 5) (a8 (fC .non) (ai)))))))))))
def eW:List Slot->List D->R (D×List Slot):=iM 1 1 5 je
abbrev iu:L9:=iD 47
def bI:af->R br:=
 cr (o6 (fT (f2 sX (aa 3) (fC (.int 0)))) (fT (f2 pL (aa 3) (f2 aQ (aa 0) (fC (.int 0))))))
  (bt (fC (.str "UnknownPlace")))
  (aF)
def iw:af->R br:=
 aw (li (cw (bU (a8 (au 1) (a8 (au 2) (ai))))) (gN 3) (bI))
  (aw (cr (fT (f2 dm (aa 1) (aa 2)))
  (bt (fC (.str "SamePlace")))
  (aF))
  (aw (cr (fT (f2 E6 (cg cf (a8 (f2 aQ (aa 0) (fC (.int 2))) (ai))) (fC (.int 12))))
  (bt (fC (.str "TooManyStreams")))
  (aF))
  (bt (fC (.str "")))))
def ee:List D->R D:=bi 3 4 iw
abbrev jf:L9:=iD 48
def sD:af->R br:=
 aw (oB 2 (bM ["_law_model","_law_named","_law_there"] [(".0", .local),("_law_stream", .local)] (cw (f2 aQ (aa 0) (fC (.int 2)))) (gN 1) (gJ) (f2 aQ (aa 1) (fC (.int 0)))))
  (aw (cr (fT (f2 qP (fL (bM ["_law_model","_law_named","_law_there"] [(".0", .local),("_law_number", .local),("_law_there", .free)] (cw (au 1)) (gN 1) (fT (f2 (gT true) (aa 1) (aa 2))) (au 1))) (eD (ai))))
  (bt (fC (.str "UnknownStream")))
  (aF))
  (aw (cr (fT (f2 qP (fL (bM ["_law_model","_law_named","_law_there"] [(".0", .local),("_law_number", .local),("_law_named", .free)] (cw (au 1)) (gN 1) (fT (f2 pL (zq (aa 2) (au 1)) (fC (.int 1)))) (au 1))) (eD (ai))))
  (bt (fC (.str "Twice")))
  (aF))
  (bt (fC (.str "")))))
def cn:List D->R D:=bi 2 3 sD
abbrev kO:L9:=iD 49
def v8:af->R br:=
 aw (cr (fT (f2 sd (cg cf (a8 (aa 1) (ai))) (f2 aQ (aa 0) (fC (.int 0)))))
  (bt (fC (.str "WrongRises")))
  (aF))
  (aw (oB 3 (bM ["_law_model","_law_rises","_law_readings","_law_named","_law_word","_law_amounts"] [(".0", .local),("_law_row", .local)] (cw (au 2)) (gN 1) (gJ) (f2 aQ (aa 1) (fC (.int 0)))))
  (aw (pK [3] (aU (aI cn 2 (a8 (au 0) (a8 (au 3) (ai)))) (gN 4)))
  (aw (cr (fT (f2 sd (aa 4) (fC (.str ""))))
  (bt (au 4))
  (aF))
  (aw (pK [3] (cr (fT (f2 qP (fL (bM ["_law_model","_law_rises","_law_readings","_law_named","_law_word","_law_amounts"] [(".0", .local),("_law_number", .local),("_law_model", .free)] (cw (au 3)) (gN 1) (fT (f2 (gT true) (aa 1) (f2 aQ (aa 2) (fC (.int 3))))) (au 1))) (eD (ai))))
  (bt (fC (.str "NotMetered")))
  (aF)))
  (aw (cr (fT (f2 qP (fL (bM ["_law_model","_law_rises","_law_readings","_law_named","_law_word","_law_amounts"] [(".0", .local),("_law_number", .local),("_law_named", .free)] (cw (f2 aQ (aa 0) (fC (.int 3)))) (gN 1) (fT (f2 (gT true) (aa 1) (aa 2))) (au 1))) (eD (ai))))
  (bt (fC (.str "ReadingMissing")))
  (aF))
  (aw (aU (f2 bC (cg oG (a8 (aa 1) (ai))) (fL (bM ["_law_model","_law_rises","_law_readings","_law_named","_law_word","_law_amounts"] [(".0", .local),("_law_row", .local)] (cw (au 2)) (gN 1) (gJ) (f2 aQ (aa 1) (fC (.int 1)))))) (gN 5))
  (aw (cr (fT (f2 qP (fL (bM ["_law_model","_law_rises","_law_readings","_law_named","_law_word","_law_amounts"] [(".0", .local),("_law_amount", .local)] (cw (au 5)) (gN 1) (o6 (fT (f2 sX (aa 1) (f1 js (fC (.int 1000))))) (fT (f2 pL (aa 1) (fC (.int 1000))))) (au 1))) (eD (ai))))
  (bt (fC (.str "OutOfRange")))
  (aF))
  (aw (cr (fT (f2 E6 (cg cf (a8 (f2 aQ (aa 0) (fC (.int 4))) (ai))) (fC (.int 12))))
  (bt (fC (.str "TooManyDays")))
  (aF))
  (bt (fC (.str "")))))))))))
def gE:List D->R D:=bi 3 6 v8
abbrev ix:L9:=iD 50
def qS:af->R br:=
 aw (aU (aI cn 2 (a8 (au 0) (a8 (au 2) (ai)))) (gN 3))
  (aw (cr (fT (f2 sd (aa 3) (fC (.str ""))))
  (bt (au 3))
  (aF))
  (aw (oB 4 (bM ["_law_model","_law_come","_law_named","_law_word","_law_have"] [(".0", .local),("_law_number", .local),("_law_model", .free)] (cw (au 2)) (gN 1) (fT (f2 (gT false) (aa 1) (f2 aQ (aa 2) (fC (.int 3))))) (au 1)))
  (aw (cr (gA (eL (aa 1)) (fT (f2 qP (aa 4) (eD (ai)))))
  (bt (fC (.str "AlreadyMetered")))
  (aF))
  (aw (cr (gA (eL (aa 1)) (fT (f2 pL (f2 bC (cg cf (a8 (f2 aQ (aa 0) (fC (.int 3))) (ai))) (cg cf (a8 (aa 2) (ai)))) (fC (.int 10)))))
  (bt (fC (.str "TooManyMeters")))
  (aF))
  (aw (cr (gA (iZ (eL (aa 1))) (fT (f2 sX (cg cf (a8 (aa 4) (ai))) (cg cf (a8 (aa 2) (ai))))))
  (bt (fC (.str "NotMetered")))
  (aF))
  (bt (fC (.str ""))))))))
def ef:List D->R D:=bi 3 5 qS
abbrev jM:L9:=iD 51
def jN:af->R br:=
 aw (aU (f2 aQ (aa 0) (f1 js (fC (.int 1)))) (gN 2))
  (aw (cr (fT (f2 dm (f2 aQ (aa 1) (fC (.int 0))) (fC (.str "take back"))))
  (bt (f2 aQ (eD (a8 (fC (.str "")) (a8 (fC (.str "NothingDone")) (ai)))) (cg xU (a8 (f2 dm (cg cf (a8 (aa 0) (ai))) (fC (.int 1))) (ai)))))
  (aF))
  (aw (cr (fT (f2 dm (f2 aQ (aa 1) (fC (.int 0))) (fC (.str "stream comes"))))
  (aU (aI ee 3 (a8 (au 2) (a8 (f2 aQ (aa 1) (fC (.int 1))) (a8 (f2 aQ (aa 1) (fC (.int 2))) (ai))))) (gN 3))
  (cr (fT (f2 dm (f2 aQ (aa 1) (fC (.int 0))) (fC (.str "stream goes"))))
  (aU (aI cn 2 (a8 (au 2) (a8 (eD (a8 (f2 aQ (aa 1) (fC (.int 1))) (ai))) (ai)))) (gN 3))
  (cr (fT (f2 dm (f2 aQ (aa 1) (fC (.int 0))) (fC (.str "day passes"))))
  (aU (aI gE 3 (a8 (au 2) (a8 (f2 aQ (aa 1) (fC (.int 1))) (a8 (f2 aQ (aa 1) (fC (.int 2))) (ai))))) (gN 3))
  (aU (aI ef 3 (a8 (au 2) (a8 (f2 dm (f2 aQ (aa 1) (fC (.int 0))) (fC (.str "meters come"))) (a8 (f2 aQ (aa 1) (fC (.int 1))) (ai))))) (gN 3)))))
  (aw (cr (gA (fT (f2 dm (aa 3) (fC (.str "")))) (fT (f2 pL (cg cf (a8 (aa 0) (ai))) (fC (.int 60)))))
  (aU (fC (.str "TooManyDeeds")) (gN 3))
  (aF))
  (bt (au 3)))))
def eA:List D->R D:=bi 2 4 jN
abbrev kP:L9:=iD 52
def kQ:af->R br:=
 aw (aU (au 0) (tW 6 (eQ (gN 2) (eQ (gN 3) (eQ (gN 4) (eQ (gN 5) (eQ (gN 6) (eQ (gN 7) (rY)))))))))
  (aw (aU (f2 bC (aa 7) (bU (a8 (au 1) (ai)))) (gN 7))
  (aw (cr (fT (f2 dm (f2 aQ (aa 1) (fC (.int 0))) (fC (.str "stream comes"))))
  (aw (aU (f2 bC (aa 4) (bU (a8 (bU (a8 (au 3) (a8 (f2 aQ (aa 1) (fC (.int 1))) (a8 (f2 aQ (aa 1) (fC (.int 2))) (ai))))) (ai)))) (gN 4))
  (aU (f2 bC (aa 3) (fC (.int 1))) (gN 3)))
  (cr (fT (f2 dm (f2 aQ (aa 1) (fC (.int 0))) (fC (.str "stream goes"))))
  (aw (aU (cg bV (a8 (fL (bM ["_law_model","_law_deed_here","_law_n","_law_following","_law_streams","_law_meters","_law_days","_law_deeds"] [(".0", .local),("_law_stream", .local),("_law_deed_here", .free)] (cw (au 4)) (gN 1) (fT (f2 sd (f2 aQ (aa 1) (fC (.int 0))) (f2 aQ (aa 2) (fC (.int 1))))) (au 1))) (ai))) (gN 4))
  (aU (cg bV (a8 (fL (bM ["_law_model","_law_deed_here","_law_n","_law_following","_law_streams","_law_meters","_law_days","_law_deeds"] [(".0", .local),("_law_number", .local),("_law_deed_here", .free)] (cw (au 5)) (gN 1) (fT (f2 sd (aa 1) (f2 aQ (aa 2) (fC (.int 1))))) (au 1))) (ai))) (gN 5)))
  (cr (fT (f2 dm (f2 aQ (aa 1) (fC (.int 0))) (fC (.str "meters come"))))
  (aU (cg bV (a8 (cg ul (a8 (f2 bC (aa 5) (f2 aQ (aa 1) (fC (.int 1)))) (ai))) (ai))) (gN 5))
  (cr (fT (f2 dm (f2 aQ (aa 1) (fC (.int 0))) (fC (.str "meters go"))))
  (aU (cg bV (a8 (fL (bM ["_law_model","_law_deed_here","_law_n","_law_following","_law_streams","_law_meters","_law_days","_law_deeds"] [(".0", .local),("_law_number", .local),("_law_deed_here", .free)] (cw (au 5)) (gN 1) (fT (f2 (gT true) (aa 1) (f2 aQ (aa 2) (fC (.int 1))))) (au 1))) (ai))) (gN 5))
  (aU (f2 bC (aa 6) (bU (a8 (bU (a8 (au 2) (a8 (au 4) (a8 (f2 aQ (aa 1) (fC (.int 1))) (a8 (cg bV (a8 (cg ia (a8 (f2 aQ (aa 1) (fC (.int 2))) (ai))) (ai))) (ai)))))) (ai)))) (gN 6))))))
  (bt (bU (a8 (au 2) (a8 (au 3) (a8 (au 4) (a8 (au 5) (a8 (au 6) (a8 (au 7) (ai)))))))))))
def dQ:List D->R D:=bi 2 8 kQ
abbrev kR:L9:=iD 53
def kS:af->R br:=
 aw (cr (fT (f2 dm (f2 aQ (aa 1) (fC (.int 0))) (fC (.str "stream comes"))))
  (bt (f2 aQ (aa 0) (fC (.int 1))))
  (aF))
  (aw (cr (fT (f2 dm (f2 aQ (aa 1) (fC (.int 0))) (fC (.str "day passes"))))
  (bt (f2 bC (cg cf (a8 (f2 aQ (aa 0) (fC (.int 4))) (ai))) (fC (.int 1))))
  (aF))
  (bt (fC .non)))
def ft:List D->R D:=bi 2 2 kS
abbrev nZ:L9:=iD 54
def fZ:af->R br:=
 aw (aU (f2 aQ (aa 1) (f1 js (fC (.int 1)))) (gN 3))
  (aw (aU (ze [1] (aI eA 2 (a8 (au 1) (a8 (au 2) (ai))))) (gN 4))
  (aw (zh 5 (fj [0] eW 1 (a8 (au 2) (ai))))
  (aw (cr (o6 (fT (f2 sd (aa 4) (fC (.str "")))) (fT (f2 sd (f2 aQ (aa 5) (fC (.int 0))) (fC (.str "")))))
  (iC (f2 dm (aa 4) (f2 aQ (aa 5) (fC (.int 0)))))
  (aF))
  (aw (cr (fT (f2 dm (f2 aQ (aa 2) (fC (.int 0))) (fC (.str "take back"))))
  (aw (zn 1)
  (iC (aI bn 2 (a8 (f2 aQ (aa 5) (fC (.int 1))) (a8 (f2 aQ (f2 aQ (aa 3) (fC (.int 5))) (f1 js (fC (.int 1)))) (ai))))))
  (aF))
  (aw (oE 1 (aI dQ 2 (a8 (au 3) (a8 (au 2) (ai)))))
  (iC (aI bn 2 (a8 (f2 aQ (aa 5) (fC (.int 1))) (a8 (aI ft 2 (a8 (au 3) (a8 (au 2) (ai)))) (ai))))))))))
def dR:List Slot->List D->R (D×List Slot):=iM 2 1 4 fZ
abbrev kT:L9:=iD 55
def v9:af->R br:=
 bt (cg bV (a8 (fL (bM ["_law_model"] [(".0", .local),("_law_stream", .local),("_law_model", .free)] (cw (f2 aQ (aa 0) (fC (.int 2)))) (gN 1) (gJ) (f2 bC (aa 1) (bU (a8 (f2 (gT false) (f2 aQ (aa 1) (fC (.int 0))) (f2 aQ (aa 2) (fC (.int 3)))) (ai)))))) (ai)))
def fu:List D->R D:=bi 1 1 v9
abbrev lY:L9:=iD 56
def kU:af->R br:=
 cr (iZ (eL (aI hG 2 (a8 (fA "Cellar" "day" 2 fq (au 0) (a8 (f2 bC (aa 2) (fC (.int 1))) (ai))) (a8 (f2 aQ (f2 aQ (aa 1) (fC (.int 4))) (aa 2)) (ai))))))
  (bt (fC (.bl false)))
  (aF)
def lZ:af->R br:=
 aw (cr (o6 (iZ (eL (aI bn 2 (a8 (cB "Cellar" "tanks" (aa 0)) (a8 (f2 aQ (aa 1) (fC (.int 0))) (ai)))))) (iZ (eL (aI bn 2 (a8 (fA "Cellar" "layout" 1 dc (au 0) ai) (a8 (aI fu 1 (a8 (au 1) (ai))) (ai)))))))
  (bt (fC (.bl false)))
  (aF))
  (aw (cr (o6 (iZ (eL (aI bn 2 (a8 (fA "Cellar" "deeds" 1 dv (au 0) ai) (a8 (f2 aQ (aa 1) (fC (.int 5))) (ai)))))) (iZ (eL (aI bn 2 (a8 (fA "Cellar" "days_gone" 1 bj (au 0) ai) (a8 (cg cf (a8 (f2 aQ (aa 1) (fC (.int 4))) (ai))) (ai)))))))
  (bt (fC (.bl false)))
  (aF))
  (aw (li (dI (a8 (cg cf (a8 (f2 aQ (aa 1) (fC (.int 4))) (ai))) (ai))) (gN 2) (kU))
  (bt (fC (.bl true)))))
def cT:List D->R D:=bi 2 3 lZ
abbrev jg:L9:=iD 57
def eg:af->R br:=
 aw (aU (f2 aQ (f2 aQ (aa 6) (fC (.int 0))) (aa 8)) (tW 2 (eQ (gN 9) (eQ (gN 10) (rY)))))
  (aw (aU (f2 aQ (aa 5) (f2 bC (aa 4) (aa 8))) (gN 11))
  (aw (cr (o6 (fT (f2 dm (aa 3) (fC (.int 2)))) (gA (fT (f2 dm (aa 3) (fC (.int 1)))) (fT (f2 dm (f2 bN (aa 11) (fC (.int 3))) (fC (.int 0))))))
  (aU (f2 iL (f2 bN (f2 dY (aa 11) (fC (.int 3))) (fC (.int 2001))) (fC (.int 1000))) (gN 10))
  (aF))
  (aw (cr (gA (fT (f2 dm (aa 3) (fC (.int 4)))) (fT (f2 dm (f2 bN (aa 11) (fC (.int 2))) (fC (.int 0)))))
  (aU (f2 iL (f2 bN (f2 dY (aa 11) (fC (.int 2))) (fC (.int 3))) (fC (.int 1))) (gN 10))
  (aF))
  (cr (fT (f2 (gT false) (aa 9) (f2 aQ (aa 0) (fC (.int 3)))))
  (oE 7 (bU (a8 (au 9) (a8 (au 10) (ai)))))
  (aF)))))
def jh:af->R br:=
 aw (aU (f2 bN (aa 1) (fC (.int 5))) (gN 3))
  (aw (aU (cg cf (a8 (f2 aQ (aa 0) (fC (.int 2))) (ai))) (gN 4))
  (aw (aU (aI bX 4 (a8 (f2 dY (aa 1) (fC (.int 10))) (a8 (au 2) (a8 (f2 bC (f2 nG (fC (.int 2)) (aa 4)) (f2 aQ (aa 0) (fC (.int 0)))) (a8 (fC (.int 10010)) (ai)))))) (gN 5))
  (aw (aU (aI ic 5 (a8 (au 5) (a8 (f2 aQ (aa 0) (fC (.int 0))) (a8 (f2 aQ (aa 0) (fC (.int 2))) (a8 (f2 aQ (aa 0) (fC (.int 3))) (a8 (f2 aQ (eD (a8 (eD (a8 (fC (.int 5000)) (a8 (fC (.int 1000)) (ai)))) (a8 (eD (a8 (fC (.int 1)) (a8 (fC (.int 1)) (ai)))) (ai)))) (cg xU (a8 (f2 pL (aa 3) (fC (.int 2))) (ai)))) (ai))))))) (gN 6))
  (aw (n5 7 (ai))
  (aw (li (dI (a8 (au 4) (ai))) (gN 8) (eg))
  (aw (aU (f2 aQ (aa 6) (fC (.int 1))) (gN 12))
  (aw (cr (fT (f2 dm (aa 3) (fC (.int 2))))
  (aU (cg bV (a8 (fL (bM ["_law_model","_law_cell_here","_law_mixed","_law_mode","_law_many","_law_figures_here","_law_flows_here","_law_readings","_law_k","_law_number","_law_amount","_law_other","_law_rises"] [(".0", .local),("_law_k", .local),("_law_figures_here", .free),("_law_many", .free)] (dI (a8 (f2 aQ (aa 0) (fC (.int 0))) (ai))) (gN 1) (gJ) (f2 iL (f2 bN (f2 aQ (aa 2) (f2 bC (f2 nG (fC (.int 2)) (aa 3)) (aa 1))) (fC (.int 2001))) (fC (.int 1000))))) (ai))) (gN 12))
  (aF))
  (aw (cr (fT (f2 dm (f2 bN (f2 dY (aa 1) (fC (.int 5))) (fC (.int 2))) (fC (.int 1))))
  (aU (Cd (aa 7)) (gN 7))
  (aF))
  (bt (bU (a8 (fC (.str "day passes")) (a8 (au 12) (a8 (cg bV (a8 (aa 7) (ai))) (ai))))))))))))))
def cG:List D->R D:=bi 3 13 jh
abbrev l_:L9:=iD 58
def gF:af->R br:=
 cr (o6 (fT (f2 Az (aa 2) (eD (ai)))) (fT (f2 dm (f2 bN (aa 4) (fC (.int 9))) (fC (.int 8)))))
  (oE 3 (f2 iL (f2 bN (f2 dY (aa 4) (fC (.int 9))) (fC (.int 70))) (fC (.int 2))))
  (oE 3 (f2 aQ (aa 2) (f2 bN (f2 dY (aa 4) (fC (.int 9))) (cg cf (a8 (aa 2) (ai))))))
def m6:af->R br:=
 aw (oB 2 (bM ["_law_model","_law_figures_here","_law_there","_law_found","_law_one"] [(".0", .local),("_law_stream", .local)] (cw (f2 aQ (aa 0) (fC (.int 2)))) (gN 1) (gJ) (f2 aQ (aa 1) (fC (.int 0)))))
  (aw (n5 3 (ai))
  (aw (li (cw (au 1)) (gN 4) (gF))
  (bt (cg bV (a8 (aa 3) (ai))))))
def dF:List D->R D:=bi 2 5 m6
abbrev n_:L9:=iD 59
def o0:af->R br:=
 aw (aU (f2 aQ (aa 0) (fC (.int 1))) (gN 2))
  (aw (aU (f2 aQ (aa 0) (fC (.int 2))) (gN 3))
  (aw (cr (fT (f2 dm (f2 bN (aa 1) (fC (.int 5))) (fC (.int 0))))
  (aU (f2 bC (aa 2) (bU (a8 (fC (.int 0)) (ai)))) (gN 2))
  (cr (fT (f2 dm (f2 bN (aa 1) (fC (.int 5))) (fC (.int 1))))
  (aU (f2 bC (aa 3) (bU (a8 (bU (a8 (f2 bN (f2 dY (aa 1) (fC (.int 5))) (fC (.int 40))) (a8 (fC (.int 1)) (ai)))) (ai)))) (gN 3))
  (cr (fT (f2 dm (f2 bN (aa 1) (fC (.int 5))) (fC (.int 2))))
  (aU (f2 bC (bU (a8 (bU (a8 (f2 bN (f2 dY (aa 1) (fC (.int 5))) (fC (.int 14))) (a8 (f1 js (fC (.int 1))) (ai)))) (ai))) (yX (aa 3) (lI (fC (.int 1))) (lH))) (gN 3))
  (cr (fT (f2 dm (f2 bN (aa 1) (fC (.int 5))) (fC (.int 3))))
  (aU (yX (aa 3) (lH) (lI (f1 js (fC (.int 1))))) (gN 3))
  (aU (cg bV (a8 (fL (bM ["_law_day","_law_figure","_law_rises","_law_readings"] [(".0", .local),("_law_rise", .local)] (cw (au 2)) (gN 1) (gJ) (f2 bC (f2 nG (aa 1) (fC (.int 25))) (fC (.int 1))))) (ai))) (gN 2))))))
  (bt (bU (a8 (fC (.str "day passes")) (a8 (au 2) (a8 (au 3) (ai))))))))
def ji:List D->R D:=bi 2 4 o0
abbrev o1:L9:=iD 60
def o3:af->R br:=
 aw (aU (f2 bN (aa 1) (fC (.int 16))) (gN 3))
  (aw (aU (f2 bN (f2 dY (aa 1) (fC (.int 16))) (fC (.int 4))) (gN 4))
  (aw (aU (aI bX 4 (a8 (f2 dY (aa 1) (fC (.int 64))) (a8 (au 2) (a8 (fC (.int 3)) (a8 (fC (.int 630)) (ai)))))) (gN 5))
  (aw (cr (fT (f2 sX (aa 3) (fC (.int 5))))
  (aw (aU (f2 bN (f2 aQ (aa 5) (fC (.int 0))) (f2 bC (f2 aQ (aa 0) (fC (.int 0))) (fC (.int 1)))) (gN 6))
  (aw (cr (fT (f2 dm (f2 bN (f2 aQ (aa 5) (fC (.int 2))) (fC (.int 13))) (fC (.int 12))))
  (bt (bU (a8 (fC (.str "stream comes")) (a8 (f2 iL (f2 bN (f2 aQ (aa 5) (fC (.int 0))) (fC (.int 11))) (fC (.int 1))) (a8 (f2 iL (f2 bN (f2 aQ (aa 5) (fC (.int 1))) (fC (.int 11))) (fC (.int 1))) (ai))))))
  (aF))
  (aw (cr (fT (f2 dm (f2 aQ (aa 0) (fC (.int 0))) (fC (.int 0))))
  (bt (bU (a8 (fC (.str "stream comes")) (a8 (fC (.int 0)) (a8 (f2 bN (f2 aQ (aa 5) (fC (.int 1))) (fC (.int 2))) (ai))))))
  (aF))
  (bt (bU (a8 (fC (.str "stream comes")) (a8 (au 6) (a8 (f2 bN (f2 bC (f2 bC (aa 6) (fC (.int 1))) (f2 bN (f2 aQ (aa 5) (fC (.int 1))) (f2 aQ (aa 0) (fC (.int 0))))) (f2 bC (f2 aQ (aa 0) (fC (.int 0))) (fC (.int 1)))) (ai)))))))))
  (aF))
  (aw (cr (fT (f2 dm (aa 3) (fC (.int 5))))
  (bt (bU (a8 (fC (.str "stream goes")) (a8 (f2 aQ (aI dF 2 (a8 (au 0) (a8 (yX (aa 5) (lH) (lI (fC (.int 1)))) (ai)))) (fC (.int 0))) (ai)))))
  (aF))
  (aw (cr (fT (f2 sX (aa 3) (fC (.int 9))))
  (bt (bU (a8 (fC (.str "meters come")) (a8 (aI dF 2 (a8 (au 0) (a8 (yX (aa 5) (lH) (lI (au 4))) (ai)))) (ai)))))
  (aF))
  (aw (cr (fT (f2 dm (aa 3) (fC (.int 9))))
  (bt (bU (a8 (fC (.str "meters go")) (a8 (aI dF 2 (a8 (au 0) (a8 (yX (aa 5) (lH) (lI (au 4))) (ai)))) (ai)))))
  (aF))
  (aw (cr (fT (f2 sX (aa 3) (fC (.int 14))))
  (aw (aU (aI cG 3 (a8 (au 0) (a8 (f2 dY (aa 1) (fC (.int 64))) (a8 (au 2) (ai))))) (gN 7))
  (aw (cr (fT (f2 dm (aa 4) (fC (.int 3))))
  (bt (aI ji 2 (a8 (au 7) (a8 (f2 aQ (aa 5) (fC (.int 0))) (ai)))))
  (aF))
  (bt (au 7))))
  (aF))
  (bt (bU (a8 (fC (.str "take back")) (ai)))))))))))
def jj:List D->R D:=bi 3 8 o3
abbrev hJ:L9:=iD 61
def gG:af->R br:=
 aw (aU (f2 bN (f2 aQ (aa 4) (aa 9)) (f2 bC (aa 1) (fC (.int 1)))) (gN 10))
  (oE 8 (bU (a8 (fC (.str "stream comes")) (a8 (au 10) (a8 (f2 bN (f2 bC (f2 bC (aa 10) (fC (.int 1))) (f2 bN (f2 aQ (aa 5) (aa 9)) (aa 1))) (f2 bC (aa 1) (fC (.int 1)))) (ai))))))
def hU:af->R br:=
 aw (aU (f2 dm (f2 bN (aI d0 2 (a8 (au 0) (a8 (fC (.int 0)) (ai)))) (fC (.int 2))) (fC (.int 1))) (gN 2))
  (aw (aU (f2 nG (cg xT (a8 (aa 1) (a8 (fC (.int 1)) (ai)))) (f2 bN (aI cc 2 (a8 (au 0) (a8 (fC (.int 2)) (ai)))) (fC (.int 13)))) (gN 3))
  (aw (aU (aI bX 4 (a8 (aI cc 2 (a8 (au 0) (a8 (fC (.int 3)) (ai)))) (a8 (au 2) (a8 (au 3) (a8 (fC (.int 8)) (ai)))))) (gN 4))
  (aw (aU (aI bX 4 (a8 (aI cc 2 (a8 (au 0) (a8 (fC (.int 4)) (ai)))) (a8 (au 2) (a8 (au 3) (a8 (fC (.int 7)) (ai)))))) (gN 5))
  (aw (aU (aI bX 4 (a8 (f2 dY (aI cc 2 (a8 (au 0) (a8 (fC (.int 5)) (ai)))) (fC (.int 5))) (a8 (au 2) (a8 (au 3) (a8 (fC (.int 4)) (ai)))))) (gN 6))
  (aw (aU (f2 bN (aI cc 2 (a8 (au 0) (a8 (fC (.int 5)) (ai)))) (fC (.int 5))) (gN 7))
  (aw (n5 8 (ai))
  (aw (li (dI (a8 (au 3) (ai))) (gN 9) (gG))
  (aw (oB 11 (bM ["_law_script","_law_n","_law_mixed","_law_many","_law_sources","_law_targets","_law_fitted","_law_share","_law_deeds","_law_k","_law_source","_law_named"] [(".0", .local),("_law_k", .local),("_law_fitted", .free),("_law_share", .free)] (dI (a8 (au 3) (ai))) (gN 1) (fT (f2 sX (f2 aQ (aa 2) (aa 1)) (aa 3))) (f2 bC (aa 1) (fC (.int 1)))))
  (bt (f2 bC (aa 8) (eD (a8 (bU (a8 (fC (.str "meters come")) (a8 (cg bV (a8 (yX (aa 11) (lH) (lI (fC (.int 10)))) (ai))) (ai)))) (ai)))))))))))))
def dw:List D->R D:=bi 2 12 hU
abbrev iy:L9:=iD 62
def hV:af->R br:=
 AF (ui (AE (fj [0,1] dR 1 (a8 (au 3) (ai)))))
  (iC (fC (.bl false)))
  (aF)
def iz:af->R br:=
 aw (li (cw (aI dw 2 (a8 (au 2) (a8 (f2 aQ (f2 aQ (aa 1) (fC (.int 0))) (fC (.int 0))) (ai))))) (gN 3) (hV))
  (iC (fC (.bl true)))
def eh:List Slot->List D->R (D×List Slot):=iM 2 1 2 iz
abbrev m7:L9:=iD 63
def m8:af->R D:=
 CP (aU (f2 bN (aI cc 2 (a8 (au 0) (a8 (fC (.int 1)) (ai)))) (fC (.int 8))) (gN 1))
  (eD (a8 (bU (a8 (au 1) (a8 (fC (.int 1)) (a8 (bU (ai)) (a8 (bU (ai)) (a8 (bU (ai)) (a8 (bU (ai)) (ai)))))))) (ai)))
def gg:List D->R D:=Eu 1 2 m8
abbrev sE:L9:=iD 64
def va:af->R br:=
 aw (AF (ui (AE (fj [2,1] dR 1 (a8 (aI jj 3 (a8 (f2 aQ (aa 1) (f1 js (fC (.int 1)))) (a8 (aI cc 2 (a8 (au 0) (a8 (au 4) (ai)))) (a8 (au 3) (ai))))) (ai)))))
  (bt (fC (.bl false)))
  (aF))
  (cr (uZ [2] (iZ (eL (aI cT 2 (a8 (au 2) (a8 (f2 aQ (aa 1) (f1 js (fC (.int 1)))) (ai)))))))
  (bt (fC (.bl false)))
  (aF))
def CQ:af->R br:=
 aw (wt 1 (aI gg 1 (a8 (au 0) (ai))))
  (aw (v3 2 "Cellar" 1 eu (a8 (f2 aQ (f2 aQ (aa 1) (fC (.int 0))) (fC (.int 0))) (ai)))
  (aw (aU (f2 dm (f2 bN (aI d0 2 (a8 (au 0) (a8 (fC (.int 0)) (ai)))) (fC (.int 2))) (fC (.int 1))) (gN 3))
  (aw (AF (ui (AE (fj [2,1] eh 1 (a8 (au 0) (ai)))))
  (bt (fC (.bl false)))
  (aF))
  (aw (li (r9 (a8 (fC (.int 6)) (a8 (cg cf (a8 (aa 0) (ai))) (ai)))) (gN 4) (va))
  (aw (aU (aI cG 3 (a8 (f2 aQ (aa 1) (f1 js (fC (.int 1)))) (a8 (aI cc 2 (a8 (au 0) (a8 (f2 bC (fC (.int 6)) (cg cf (a8 (aa 0) (ai)))) (ai)))) (a8 (au 3) (ai))))) (gN 5))
  (CN (CO (fj [2,1] dR 1 (a8 (au 5) (ai))) (ID (nO "history" [2] (aI cT 2 (a8 (au 2) (a8 (f2 aQ (aa 1) (f1 js (fC (.int 1)))) (ai)))))))))))))
def um:List D->R D:=bi 1 6 CQ
end My
namespace My
open PySem PySem.Spec PyProof.Rows L2 L2.Pu
section
variable {P:KW} {w:La} {K:Ku} {mg:Kw->Option Kv} {base:L4}
abbrev BN:List Kw:=["ValueError","abs","any","bool","int","isinstance","len","list","max","min","range","set","sorted","str","tuple"]
theorem qy:aB ["self","tanks","streams","rises","readings","self.tanks","self.streams","self.rises","self.readings"] ["self","tanks","streams","rises","readings"] (ak kJ):=⟨rfl,rfl,rfl,by decide+kernel,rfl,by decide+kernel,by decide+kernel⟩
theorem jx:∀g∈(["self.tanks","self.streams","self.rises","self.readings"]:List Kw),¬pz (ak kJ) g:=by unfold pz;decide+kernel
theorem wJ (A:pR K mg "Day" "Day.__init__" kJ ["self","tanks","streams","rises","readings"] sv) (B:Bl mg BN):gX P w K mg base 1 "Day" 4 gZ:=by
 refine ud A qy rfl rfl (by decide) (by decide) λC f Sb A outer s H E hC VV hr=> ?_
 have hu:=bJ hr
 have S:=qy
 exact ae (jG 5 hC (VV "tanks" (by decide)) (j6 (by decide) (by decide) (by decide) (by decide)) (aq 1) (hvis:=jx "self.tanks" (by decide))) (ae (jG 6 hC (VV "streams" (by decide)) (j6 (by decide) (by decide) (by decide) (by decide)) (b9 aH bq (B.no "tuple" (by decide)) L2.Pu.aW (ax (PQ.bo (aT (kD rfl) lN (B.no "sorted" (by decide)) L2.Pu.ju (ax (ac 2) (aC)))) (aC))) (hvis:=jx "self.streams" (by decide))) (ae (jG 7 hC (VV "rises" (by decide)) (j6 (by decide) (by decide) (by decide) (by decide)) (b9 aH bq (B.no "tuple" (by decide)) L2.Pu.aW (ax (ac 3) (aC))) (hvis:=jx "self.rises" (by decide))) (al (jG 8 hC (VV "readings" (by decide)) (j6 (by decide) (by decide) (by decide) (by decide)) (b9 aH bq (B.no "tuple" (by decide)) L2.Pu.aW (ax (PQ.bo (aT (kD rfl) lN (B.no "sorted" (by decide)) L2.Pu.ju (ax (ac 4) (aC)))) (aC))) (hvis:=jx "self.readings" (by decide))))))
theorem ka:aB ["self","came","streams","meters","passed","self.came","self.streams","self.meters","self.passed"] ["self","came","streams","meters","passed"] (ak fP):=⟨rfl,rfl,rfl,by decide+kernel,rfl,by decide+kernel,by decide+kernel⟩
theorem fw:∀g∈(["self.came","self.streams","self.meters","self.passed"]:List Kw),¬pz (ak fP) g:=by unfold pz;decide+kernel
theorem p_ (A:pR K mg "Standing" "Standing.__init__" fP ["self","came","streams","meters","passed"] bD) (B:Bl mg BN):gX P w K mg base 1 "Standing" 4 a_:=by
 refine ud A ka rfl rfl (by decide) (by decide) λC f Sb A outer s H E hC VV hr=> ?_
 have hu:=bJ hr
 have S:=ka
 exact ae (jG 5 hC (VV "came" (by decide)) (j6 (by decide) (by decide) (by decide) (by decide)) (aq 1) (hvis:=fw "self.came" (by decide))) (ae (jG 6 hC (VV "streams" (by decide)) (j6 (by decide) (by decide) (by decide) (by decide)) (aq 2) (hvis:=fw "self.streams" (by decide))) (ae (jG 7 hC (VV "meters" (by decide)) (j6 (by decide) (by decide) (by decide) (by decide)) (aq 3) (hvis:=fw "self.meters" (by decide))) (al (jG 8 hC (VV "passed" (by decide)) (j6 (by decide) (by decide) (by decide) (by decide)) (aq 4) (hvis:=fw "self.passed" (by decide))))))
theorem gi:aB ["self","source","target","number"] ["self","source","target"] (ak dM):=⟨rfl,rfl,rfl,by decide+kernel,rfl,by decide+kernel,by decide+kernel⟩
theorem kb (A:dL K "Standing" "with_stream" "Standing.with_stream" dM ["self","source","target"]) (B:Bl mg BN) (S9:gX P w K mg base 1 "Standing" 4 a_) (S5:cC K "Standing" bD):bW P w K mg base 3 "Standing" "with_stream" 3 cj:=by
 refine f9 A gi rfl rfl λf Sb A outer s H E hr=> ?_
 have hu:=bJ hr
 have S:=gi
 exact ae (aV 3 S.nd (ay aL aM (PQ.bo (bu S5 (by decide) (ac 0))) (PQ.bo (ag)))) (al (b8 (nL S9 (hr.mono (by decide)) (a7 (aq 3) (a7 (ay aL aM (PQ.bo (bu S5 (by decide) (ac 0))) (PQ.bo (bP (a7 (bP (a7 (aq 3) (a7 (aq 1) (a7 (aq 2) (ah))))) (ah))))) (a7 (bu S5 (by decide) (ac 0)) (a7 (bu S5 (by decide) (ac 0)) (ah))))))))
theorem eX:aB ["self","number","streams","meters"] ["self","number"] (ak d6):=⟨rfl,rfl,rfl,by decide+kernel,rfl,by decide+kernel,by decide+kernel⟩
theorem jk (A:dL K "Standing" "without_stream" "Standing.without_stream" d6 ["self","number"]) (B:Bl mg BN) (S9:gX P w K mg base 1 "Standing" 4 a_) (S5:cC K "Standing" bD):bW P w K mg base 3 "Standing" "without_stream" 2 bQ:=by
 refine f9 A eX rfl rfl λf Sb A outer s H E hr=> ?_
 have hu:=bJ hr
 have S:=eX
 exact ae (aV 2 S.nd (b9 aH bq (B.no "tuple" (by decide)) L2.Pu.aW (ax (PQ.bo (cO (aY.of rfl (by first|decide+kernel|rfl)) rfl (cS (bu S5 (by decide) (ac 0))) (λ_ _ _=>b6 1 (show ([".0","stream","number"]:List Kw).Nodup by decide+kernel)) (λ_ _ _=>gQ (aO lr j3 (PQ.bo (aK hu (ac 1) (PQ.bo (ag)))) (ac 2))) (λ_ _ _=>aq 1))) (aC)))) (ae (aV 3 S.nd (b9 aH bq (B.no "tuple" (by decide)) L2.Pu.aW (ax (PQ.bo (cO (aY.of rfl (by first|decide+kernel|rfl)) rfl (cS (bu S5 (by decide) (ac 0))) (λ_ _ _=>b6 1 (show ([".0","meter","number"]:List Kw).Nodup by decide+kernel)) (λ_ _ _=>gQ (aO lr j3 (ac 1) (ac 2))) (λ_ _ _=>aq 1))) (aC)))) (al (b8 (nL S9 (hr.mono (by decide)) (a7 (bu S5 (by decide) (ac 0)) (a7 (aq 2) (a7 (aq 3) (a7 (bu S5 (by decide) (ac 0)) (ah)))))))))
theorem gj:aB ["self","numbers"] ["self","numbers"] (ak dO):=⟨rfl,rfl,rfl,by decide+kernel,rfl,by decide+kernel,by decide+kernel⟩
theorem ke (A:dL K "Standing" "with_meters" "Standing.with_meters" dO ["self","numbers"]) (B:Bl mg BN) (S9:gX P w K mg base 1 "Standing" 4 a_) (S5:cC K "Standing" bD):bW P w K mg base 3 "Standing" "with_meters" 2 ck:=by
 refine f9 A gj rfl rfl λf Sb A outer s H E hr=> ?_
 have hu:=bJ hr
 have S:=gj
 exact al (b8 (nL S9 (hr.mono (by decide)) (a7 (bu S5 (by decide) (ac 0)) (a7 (bu S5 (by decide) (ac 0)) (a7 (ay aL aM (PQ.bo (bu S5 (by decide) (ac 0))) (PQ.bo (b9 aH bq (B.no "tuple" (by decide)) L2.Pu.aW (ax (ac 1) (aC))))) (a7 (bu S5 (by decide) (ac 0)) (ah)))))))
theorem eY:aB ["self","numbers","meters"] ["self","numbers"] (ak d8):=⟨rfl,rfl,rfl,by decide+kernel,rfl,by decide+kernel,by decide+kernel⟩
theorem jl (A:dL K "Standing" "without_meters" "Standing.without_meters" d8 ["self","numbers"]) (B:Bl mg BN) (S9:gX P w K mg base 1 "Standing" 4 a_) (S5:cC K "Standing" bD):bW P w K mg base 3 "Standing" "without_meters" 2 bR:=by
 refine f9 A eY rfl rfl λf Sb A outer s H E hr=> ?_
 have hu:=bJ hr
 have S:=eY
 exact ae (aV 2 S.nd (b9 aH bq (B.no "tuple" (by decide)) L2.Pu.aW (ax (PQ.bo (cO (aY.of rfl (by first|decide+kernel|rfl)) rfl (cS (bu S5 (by decide) (ac 0))) (λ_ _ _=>b6 1 (show ([".0","meter","numbers"]:List Kw).Nodup by decide+kernel)) (λ_ _ _=>gQ (oF hu (ac 1) (ac 2))) (λ_ _ _=>aq 1))) (aC)))) (al (b8 (nL S9 (hr.mono (by decide)) (a7 (bu S5 (by decide) (ac 0)) (a7 (bu S5 (by decide) (ac 0)) (a7 (aq 2) (a7 (bu S5 (by decide) (ac 0)) (ah))))))))
theorem ie:aB ["self","day"] ["self","day"] (ak fF):=⟨rfl,rfl,rfl,by decide+kernel,rfl,by decide+kernel,by decide+kernel⟩
theorem m9 (A:dL K "Standing" "with_day" "Standing.with_day" fF ["self","day"]) (B:Bl mg BN) (S9:gX P w K mg base 1 "Standing" 4 a_) (S5:cC K "Standing" bD):bW P w K mg base 3 "Standing" "with_day" 2 cL:=by
 refine f9 A ie rfl rfl λf Sb A outer s H E hr=> ?_
 have hu:=bJ hr
 have S:=ie
 exact al (b8 (nL S9 (hr.mono (by decide)) (a7 (bu S5 (by decide) (ac 0)) (a7 (bu S5 (by decide) (ac 0)) (a7 (bu S5 (by decide) (ac 0)) (a7 (ay aL aM (PQ.bo (bu S5 (by decide) (ac 0))) (PQ.bo (bP (a7 (aq 1) (ah))))) (ah)))))))
theorem kg:aB ["tanks","places"] ["tanks","places"] (ak ip):=⟨rfl,rfl,rfl,by decide+kernel,rfl,by decide+kernel,by decide+kernel⟩
theorem q0 (A:cA K mg "refuse_places" ip ["tanks","places"]) (B:Bl mg BN) {UO:NI} (Ut:mg "OUTSIDE"=some (.int 0 UO)) (Uj:cI K mg "SamePlace") (Tf:cI K mg "UnknownPlace"):bg P w K mg base 1 "refuse_places" 2 d_:=by
 refine bZ A kg rfl rfl λf Sb A outer s H E hr=> ?_
 have hu:=bJ hr
 have S:=kg
 exact ae (bw (eP (PQ.bo (aT (iR rfl) mG (B.no "any" (by decide)) L2.Pu.j_ (ax (PQ.bo (cO (aY.of rfl (by first|decide+kernel|rfl)) rfl (cS (aq 1)) (λ_ _ _=>b6 1 (show ([".0","place","OUTSIDE","tanks"]:List Kw).Nodup by decide+kernel)) (λ_ _ _=>eE) (λ_ _ _=>JE (iY k_ ik (ac 1) (PQ.bo (kx rfl Ut))) (vU (iY jQ gR (ac 1) (ac 3)))))) (aC))))) (al (du Tf rfl (a7 (aJ) (ah)))) (aG)) (al (bw (aO bL bf (PQ.bo (aK hu (ac 1) (PQ.bo (ag)))) (PQ.bo (aK hu (ac 1) (PQ.bo (ag))))) (al (du Uj rfl (a7 (aJ) (ah)))) (aG)))
theorem jy:aB ["standing","numbers","there"] ["standing","numbers"] (ak g_):=⟨rfl,rfl,rfl,by decide+kernel,rfl,by decide+kernel,by decide+kernel⟩
theorem oV (A:cA K mg "refuse_numbers" g_ ["standing","numbers"]) (B:Bl mg BN) (VJ:cI K mg "Twice") (T5:cI K mg "UnknownStream") (S5:cC K "Standing" bD):bg P w K mg base 1 "refuse_numbers" 2 bB:=by
 refine bZ A jy rfl rfl λf Sb A outer s H E hr=> ?_
 have hu:=bJ hr
 have S:=jy
 exact ae (re 2 (aY.of rfl (by first|decide+kernel|rfl)) rfl S.nd (cS (bu S5 (by decide) (ac 0))) (λ_ _ _=>b6 1 (show ([".0","stream"]:List Kw).Nodup by decide+kernel)) (λ_ _ _=>eE) (λ_ _ _=>aK hu (ac 1) (PQ.bo (ag)))) (ae (bw (eP (PQ.bo (aT (iR rfl) mG (B.no "any" (by decide)) L2.Pu.j_ (ax (PQ.bo (cO (aY.of rfl (by first|decide+kernel|rfl)) rfl (cS (aq 1)) (λ_ _ _=>b6 1 (show ([".0","number","there"]:List Kw).Nodup by decide+kernel)) (λ_ _ _=>eE) (λ_ _ _=>uN hu (ac 1) (ac 2)))) (aC))))) (al (du T5 rfl (a7 (aJ) (ah)))) (aG)) (al (bw (aO k_ ik (PQ.bo (CM rfl (B.no "len" (by decide)) (B.no "set" (by decide)) (ac 1))) (PQ.bo (aT b7 bH (B.no "len" (by decide)) Lb (ax (ac 1) (aC))))) (al (du VJ rfl (a7 (aJ) (ah)))) (aG))))
theorem iE:aB ["standing","numbers"] ["standing","numbers"] (ak fR):=⟨rfl,rfl,rfl,by decide+kernel,rfl,by decide+kernel,by decide+kernel⟩
theorem mS (A:cA K mg "refuse_unmetered" fR ["standing","numbers"]) (B:Bl mg BN) (TY:cI K mg "NotMetered") (S5:cC K "Standing" bD):bg P w K mg base 1 "refuse_unmetered" 2 c9:=by
 refine bZ A iE rfl rfl λf Sb A outer s H E hr=> ?_
 have hu:=bJ hr
 have S:=iE
 exact al (bw (eP (PQ.bo (aT (iR rfl) mG (B.no "any" (by decide)) L2.Pu.j_ (ax (PQ.bo (cO (aY.of rfl (by first|decide+kernel|rfl)) rfl (cS (aq 1)) (λ_ _ _=>b6 1 (show ([".0","number","standing"]:List Kw).Nodup by decide+kernel)) (λ_ _ _=>eE) (λ_ _ _=>uN hu (ac 1) (PQ.bo (bu S5 (by decide) (ac 2)))))) (aC))))) (al (du TY rfl (a7 (aJ) (ah)))) (aG))
theorem jz:aB ["amounts"] ["amounts"] (ak hE):=⟨rfl,rfl,rfl,by decide+kernel,rfl,by decide+kernel,by decide+kernel⟩
theorem oW (A:cA K mg "refuse_amounts" hE ["amounts"]) (B:Bl mg BN) {Tz:NI} (Tg:mg "MOST_AMOUNT"=some (.int 1000 Tz)) (TZ:cI K mg "OutOfRange"):bg P w K mg base 1 "refuse_amounts" 1 cU:=by
 refine bZ A jz rfl rfl λf Sb A outer s H E hr=> ?_
 have hu:=bJ hr
 have S:=jz
 exact al (bw (eP (PQ.bo (aT (iR rfl) mG (B.no "any" (by decide)) L2.Pu.j_ (ax (PQ.bo (cO (aY.of rfl (by first|decide+kernel|rfl)) rfl (cS (aq 0)) (λ_ _ _=>b6 1 (show ([".0","amount","abs","MOST_AMOUNT"]:List Kw).Nodup by decide+kernel)) (λ_ _ _=>eE) (λ_ _ _=>iY jQ gR (PQ.bo (aT AJ En (B.no "abs" (by decide)) L2.Pu.AK (ax (ac 1) (aC)))) (PQ.bo (kx rfl Tg))))) (aC))))) (al (du TZ rfl (a7 (aJ) (ah)))) (aG))
theorem ma:aB ["self","tanks","self.tanks","self.now","self.history"] ["self","tanks"] (ak i3):=⟨rfl,rfl,rfl,by decide+kernel,rfl,by decide+kernel,by decide+kernel⟩
theorem jm:∀g∈(["self.tanks","self.now","self.history"]:List Kw),¬pz (ak i3) g:=by unfold pz;decide+kernel
theorem sG (A:pR K mg "Cellar" "Cellar.__init__" i3 ["self","tanks"] cq) (B:Bl mg BN) (S9:gX P w K mg base 1 "Standing" 4 a_) {T_:NI} (TB:mg "MOST_TANKS"=some (.int 7 T_)) (Uu:cI K mg "BadTanks"):wH P w K mg base 3 "Cellar" 1 eu:=by
 refine CL A ma rfl rfl (by decide) (by decide) (by decide) λC f Sb A outer s H E hC VV hr=> ?_
 have hu:=bJ hr
 have S:=ma
 exact ae (bw (qK.t (rX (aO k_ ik (ac 1) (PQ.bo (ag))) (lA (aO jQ gR (ac 1) (PQ.bo (kx rfl TB)))))) (al (du Uu rfl (a7 (aJ) (ah)))) (aG)) (ae (jG 2 hC (VV "tanks" (by decide)) (j6 (by decide) (by decide) (by decide) (by decide)) (aq 1) (hvis:=jm "self.tanks" (by decide))) (ae (jG 3 hC (VV "now" (by decide)) (j6 (by decide) (by decide) (by decide) (by decide)) (nL S9 (hr.mono (by decide)) (a7 (ag) (a7 (bP (ah)) (a7 (bP (ah)) (a7 (bP (ah)) (ah)))))) (hvis:=jm "self.now" (by decide))) (al (GF 4 hC (VV "history" (by decide)) (j6 (by decide) (by decide) (by decide) (by decide)) (hvis:=jm "self.history" (by decide))))))
theorem iF:aB ["self","deed","after"] ["self","deed","after"] (ak fS):=⟨rfl,rfl,rfl,by decide+kernel,rfl,by decide+kernel,by decide+kernel⟩
theorem mT (A:dL K "Cellar" "keep_deed" "Cellar.keep_deed" fS ["self","deed","after"]) (B:Bl mg BN) {U0:NI} (TC:mg "MOST_DEEDS"=some (.int 60 U0)) (Th:cI K mg "TooManyDeeds") (S6:cC K "Cellar" cq):dq P w K mg base 1 "Cellar" "keep_deed" 2 aR:=by
 refine j7 A iF rfl rfl (by decide) λf Sb A outer s H E hr=> ?_
 have hu:=bJ hr
 have S:=iF
 exact ae (bw (aO vF s9 (PQ.bo (aT b7 bH (B.no "len" (by decide)) Lb (ax (CF 0 S6 (by decide)) (aC)))) (PQ.bo (kx rfl TC))) (al (du Th rfl (a7 (aJ) (ah)))) (aG)) (ae (CG 0 S6 (by decide) (bP (a7 (aq 1) (a7 (dn 0 S6 (by decide)) (ah))))) (al (wG 0 S6 (by decide) (aq 2))))
theorem gH:aB ["self","source","target"] ["self","source","target"] (ak eG):=⟨rfl,rfl,rfl,by decide+kernel,rfl,by decide+kernel,by decide+kernel⟩
theorem kW (A:dL K "Cellar" "stream_comes" "Cellar.stream_comes" eG ["self","source","target"]) (B:Bl mg BN) (T6:bg P w K mg base 1 "refuse_places" 2 d_) (S7:dq P w K mg base 1 "Cellar" "keep_deed" 2 aR) (SA:bW P w K mg base 3 "Standing" "with_stream" 3 cj) {Ti:NI} (T7:mg "MOST_STREAMS"=some (.int 12 Ti)) (SV:cI K mg "TooManyStreams") (S6:cC K "Cellar" cq) (S5:cC K "Standing" bD):dq P w K mg base 4 "Cellar" "stream_comes" 2 cu:=by
 refine j7 A gH rfl rfl (by decide) λf Sb A outer s H E hr=> ?_
 have hu:=bJ hr
 have S:=gH
 exact ae (kE (ce T6 (hr.mono (by decide)) (a7 (dn 0 S6 (by decide)) (a7 (bP (a7 (aq 1) (a7 (aq 2) (ah)))) (ah))))) (ae (bw (aO vF s9 (PQ.bo (aT b7 bH (B.no "len" (by decide)) Lb (ax (PQ.bo (bu S5 (by decide) (PQ.bo (dn 0 S6 (by decide))))) (aC)))) (PQ.bo (kx rfl T7))) (al (du SV rfl (a7 (aJ) (ah)))) (aG)) (ae (oR (jI 0 S7 (hr.mono (by decide)) (a7 (bP (a7 (aJ) (a7 (aq 1) (a7 (aq 2) (ah))))) (a7 (pP SA (hr.mono (by decide)) (dn 0 S6 (by decide)) (a7 (aq 1) (a7 (aq 2) (ah)))) (ah))))) (al (kH (bu S5 (by decide) (PQ.bo (dn 0 S6 (by decide))))))))
theorem gL:aB ["self","number"] ["self","number"] (ak eS):=⟨rfl,rfl,rfl,by decide+kernel,rfl,by decide+kernel,by decide+kernel⟩
theorem ll (A:dL K "Cellar" "stream_goes" "Cellar.stream_goes" eS ["self","number"]) (B:Bl mg BN) (Sa:bg P w K mg base 1 "refuse_numbers" 2 bB) (S7:dq P w K mg base 1 "Cellar" "keep_deed" 2 aR) (Su:bW P w K mg base 3 "Standing" "without_stream" 2 bQ) (S6:cC K "Cellar" cq):dq P w K mg base 4 "Cellar" "stream_goes" 1 cE:=by
 refine j7 A gL rfl rfl (by decide) λf Sb A outer s H E hr=> ?_
 have hu:=bJ hr
 have S:=gL
 exact ae (kE (ce Sa (hr.mono (by decide)) (a7 (dn 0 S6 (by decide)) (a7 (bP (a7 (aq 1) (ah))) (ah))))) (al (oR (jI 0 S7 (hr.mono (by decide)) (a7 (bP (a7 (aJ) (a7 (aq 1) (ah)))) (a7 (pP Su (hr.mono (by decide)) (dn 0 S6 (by decide)) (a7 (aq 1) (ah))) (ah))))))
theorem gM:aB ["self","numbers"] ["self","numbers"] (ak eU):=⟨rfl,rfl,rfl,by decide+kernel,rfl,by decide+kernel,by decide+kernel⟩
theorem lm (A:dL K "Cellar" "meters_come" "Cellar.meters_come" eU ["self","numbers"]) (B:Bl mg BN) (Sa:bg P w K mg base 1 "refuse_numbers" 2 bB) (S7:dq P w K mg base 1 "Cellar" "keep_deed" 2 aR) (SD:bW P w K mg base 3 "Standing" "with_meters" 2 ck) {TF:NI} (Tj:mg "MOST_METERS"=some (.int 10 TF)) (SW:cI K mg "AlreadyMetered") (T8:cI K mg "TooManyMeters") (S6:cC K "Cellar" cq) (S5:cC K "Standing" bD):dq P w K mg base 4 "Cellar" "meters_come" 1 cF:=by
 refine j7 A gM rfl rfl (by decide) λf Sb A outer s H E hr=> ?_
 have hu:=bJ hr
 have S:=gM
 exact ae (kE (ce Sa (hr.mono (by decide)) (a7 (dn 0 S6 (by decide)) (a7 (aq 1) (ah))))) (ae (bw (zk [0] (eP (PQ.bo (aT (iR rfl) mG (B.no "any" (by decide)) L2.Pu.j_ (ax (PQ.bo (cO (aY.of rfl (by first|decide+kernel|rfl)) rfl (cS (aq 1)) (λ_ _ _=>b6 1 (show ([".0","number","self"]:List Kw).Nodup by decide+kernel)) (λ_ _ _=>eE) (λ_ _ _=>E7 hu (ac 1) (PQ.bo (bu S5 (by decide) (PQ.bo (bu S6 (by decide) (ac 2)))))))) (aC)))))) (al (du SW rfl (a7 (aJ) (ah)))) (aG)) (ae (bw (aO jQ gR (PQ.bo (ay aL aM (PQ.bo (aT b7 bH (B.no "len" (by decide)) Lb (ax (PQ.bo (bu S5 (by decide) (PQ.bo (dn 0 S6 (by decide))))) (aC)))) (PQ.bo (aT b7 bH (B.no "len" (by decide)) Lb (ax (ac 1) (aC)))))) (PQ.bo (kx rfl Tj))) (al (du T8 rfl (a7 (aJ) (ah)))) (aG)) (al (oR (jI 0 S7 (hr.mono (by decide)) (a7 (bP (a7 (aJ) (a7 (b9 aH bq (B.no "tuple" (by decide)) L2.Pu.aW (ax (ac 1) (aC))) (ah)))) (a7 (pP SD (hr.mono (by decide)) (dn 0 S6 (by decide)) (a7 (aq 1) (ah))) (ah))))))))
theorem iG:aB ["self","numbers"] ["self","numbers"] (ak fV):=⟨rfl,rfl,rfl,by decide+kernel,rfl,by decide+kernel,by decide+kernel⟩
theorem mU (A:dL K "Cellar" "meters_go" "Cellar.meters_go" fV ["self","numbers"]) (B:Bl mg BN) (Sa:bg P w K mg base 1 "refuse_numbers" 2 bB) (So:bg P w K mg base 1 "refuse_unmetered" 2 c9) (S7:dq P w K mg base 1 "Cellar" "keep_deed" 2 aR) (Sv:bW P w K mg base 3 "Standing" "without_meters" 2 bR) (S6:cC K "Cellar" cq):dq P w K mg base 4 "Cellar" "meters_go" 1 c_:=by
 refine j7 A iG rfl rfl (by decide) λf Sb A outer s H E hr=> ?_
 have hu:=bJ hr
 have S:=iG
 exact ae (kE (ce Sa (hr.mono (by decide)) (a7 (dn 0 S6 (by decide)) (a7 (aq 1) (ah))))) (ae (kE (ce So (hr.mono (by decide)) (a7 (dn 0 S6 (by decide)) (a7 (aq 1) (ah))))) (al (oR (jI 0 S7 (hr.mono (by decide)) (a7 (bP (a7 (aJ) (a7 (b9 aH bq (B.no "tuple" (by decide)) L2.Pu.aW (ax (ac 1) (aC))) (ah)))) (a7 (pP Sv (hr.mono (by decide)) (dn 0 S6 (by decide)) (a7 (aq 1) (ah))) (ah)))))))
theorem iH:aB ["self"] ["self"] (ak fW):=⟨rfl,rfl,rfl,by decide+kernel,rfl,by decide+kernel,by decide+kernel⟩
theorem mV (A:dL K "Cellar" "days_gone" "Cellar.days_gone" fW ["self"]) (B:Bl mg BN) (S6:cC K "Cellar" cq) (S5:cC K "Standing" bD):bW P w K mg base 1 "Cellar" "days_gone" 1 bj:=by
 refine f9 A iH rfl rfl λf Sb A outer s H E hr=> ?_
 have hu:=bJ hr
 have S:=iH
 exact al (b8 (aT b7 bH (B.no "len" (by decide)) Lb (ax (PQ.bo (bu S5 (by decide) (PQ.bo (bu S6 (by decide) (ac 0))))) (aC))))
theorem ig:aB ["self","rises","readings","numbers","day"] ["self","rises","readings"] (ak fG):=⟨rfl,rfl,rfl,by decide+kernel,rfl,by decide+kernel,by decide+kernel⟩
theorem mh (A:dL K "Cellar" "day_passes" "Cellar.day_passes" fG ["self","rises","readings"]) (B:Bl mg BN) (Sa:bg P w K mg base 1 "refuse_numbers" 2 bB) (So:bg P w K mg base 1 "refuse_unmetered" 2 c9) (SJ:bg P w K mg base 1 "refuse_amounts" 1 cU) (Uv:gX P w K mg base 1 "Day" 4 gZ) (S7:dq P w K mg base 1 "Cellar" "keep_deed" 2 aR) (SK:bW P w K mg base 3 "Standing" "with_day" 2 cL) (Sd:bW P w K mg base 1 "Cellar" "days_gone" 1 bj) {Uk:NI} (U1:mg "MOST_DAYS"=some (.int 12 Uk)) (SX:cI K mg "ReadingMissing") (TH:cI K mg "TooManyDays") (U2:cI K mg "WrongRises") (S6:cC K "Cellar" cq) (S5:cC K "Standing" bD):dq P w K mg base 4 "Cellar" "day_passes" 2 cM:=by
 refine j7 A ig rfl rfl (by decide) λf Sb A outer s H E hr=> ?_
 have hu:=bJ hr
 have S:=ig
 exact ae (bw (aO lr j3 (PQ.bo (aT b7 bH (B.no "len" (by decide)) Lb (ax (ac 1) (aC)))) (PQ.bo (dn 0 S6 (by decide)))) (al (du U2 rfl (a7 (aJ) (ah)))) (aG)) (ae (re 3 (aY.of rfl (by first|decide+kernel|rfl)) rfl S.nd (cS (aq 2)) (λ_ _ _=>b6 1 (show ([".0","pair"]:List Kw).Nodup by decide+kernel)) (λ_ _ _=>eE) (λ_ _ _=>aK hu (ac 1) (PQ.bo (ag)))) (ae (vW [3] (kE (ce Sa (hr.mono (by decide)) (a7 (dn 0 S6 (by decide)) (a7 (aq 3) (ah)))))) (ae (vW [3] (kE (ce So (hr.mono (by decide)) (a7 (dn 0 S6 (by decide)) (a7 (aq 3) (ah)))))) (ae (bw (eP (PQ.bo (aT (iR rfl) mG (B.no "any" (by decide)) L2.Pu.j_ (ax (PQ.bo (cO (aY.of rfl (by first|decide+kernel|rfl)) rfl (cS (bu S5 (by decide) (PQ.bo (dn 0 S6 (by decide))))) (λ_ _ _=>b6 1 (show ([".0","meter","numbers"]:List Kw).Nodup by decide+kernel)) (λ_ _ _=>eE) (λ_ _ _=>uN hu (ac 1) (ac 2)))) (aC))))) (al (du SX rfl (a7 (aJ) (ah)))) (aG)) (ae (kE (ce SJ (hr.mono (by decide)) (a7 (aq 1) (ah)))) (ae (kE (ce SJ (hr.mono (by decide)) (a7 (cO (aY.of rfl (by first|decide+kernel|rfl)) rfl (cS (aq 2)) (λ_ _ _=>b6 1 (show ([".0","pair"]:List Kw).Nodup by decide+kernel)) (λ_ _ _=>eE) (λ_ _ _=>aK hu (ac 1) (PQ.bo (ag)))) (ah)))) (ae (bw (aO vF s9 (PQ.bo (aT b7 bH (B.no "len" (by decide)) Lb (ax (PQ.bo (bu S5 (by decide) (PQ.bo (dn 0 S6 (by decide))))) (aC)))) (PQ.bo (kx rfl U1))) (al (du TH rfl (a7 (aJ) (ah)))) (aG)) (ae (aV 4 S.nd (nL Uv (hr.mono (by decide)) (a7 (dn 0 S6 (by decide)) (a7 (bu S5 (by decide) (PQ.bo (dn 0 S6 (by decide)))) (a7 (aq 1) (a7 (aq 2) (ah))))))) (ae (oR (jI 0 S7 (hr.mono (by decide)) (a7 (bP (a7 (aJ) (a7 (b9 aH bq (B.no "tuple" (by decide)) L2.Pu.aW (ax (ac 1) (aC))) (a7 (b9 aH bq (B.no "tuple" (by decide)) L2.Pu.aW (ax (ac 2) (aC))) (ah))))) (a7 (pP SK (hr.mono (by decide)) (dn 0 S6 (by decide)) (a7 (aq 4) (ah))) (ah))))) (al (kH (zj "history" [0] (oK Sd (hr.mono (by decide)) (aq 0))))))))))))))
theorem iI:aB ["self","last"] ["self"] (ak fX):=⟨rfl,rfl,rfl,by decide+kernel,rfl,by decide+kernel,by decide+kernel⟩
theorem mW (A:dL K "Cellar" "take_back" "Cellar.take_back" fX ["self"]) (B:Bl mg BN) (TJ:cI K mg "NothingDone") (S6:cC K "Cellar" cq):dq P w K mg base 1 "Cellar" "take_back" 0 cb:=by
 refine j7 A iI rfl rfl (by decide) λf Sb A outer s H E hr=> ?_
 have hu:=bJ hr
 have S:=iI
 exact ae (bw (aO bL bf (PQ.bo (aT b7 bH (B.no "len" (by decide)) Lb (ax (CF 0 S6 (by decide)) (aC)))) (PQ.bo (ag))) (al (du TJ rfl (a7 (aJ) (ah)))) (aG)) (ae (CH 1 0 S.nd S6 (by decide)) (ae (wG 0 S6 (by decide) (aK hu (ac 1) (PQ.bo (ag)))) (al (kH (aK hu (ac 1) (PQ.bo (ag)))))))
theorem kh:aB ["self","meters"] ["self"] (ak iq):=⟨rfl,rfl,rfl,by decide+kernel,rfl,by decide+kernel,by decide+kernel⟩
theorem q8 (A:dL K "Cellar" "layout" "Cellar.layout" iq ["self"]) (B:Bl mg BN) (S6:cC K "Cellar" cq) (S5:cC K "Standing" bD):bW P w K mg base 1 "Cellar" "layout" 1 dc:=by
 refine f9 A kh rfl rfl λf Sb A outer s H E hr=> ?_
 have hu:=bJ hr
 have S:=kh
 exact ae (aV 1 S.nd (bu S5 (by decide) (PQ.bo (bu S6 (by decide) (ac 0))))) (al (b8 (b9 aH bq (B.no "tuple" (by decide)) L2.Pu.aW (ax (PQ.bo (cO (aY.of rfl (by first|decide+kernel|rfl)) rfl (cS (bu S5 (by decide) (PQ.bo (bu S6 (by decide) (ac 0))))) (λ_ _ _=>b6 1 (show ([".0","stream","meters"]:List Kw).Nodup by decide+kernel)) (λ_ _ _=>eE) (λ_ _ _=>ay aL aM (ac 1) (PQ.bo (bP (a7 (E7 hu (PQ.bo (aK hu (ac 1) (PQ.bo (ag)))) (ac 2)) (ah))))))) (aC)))))
theorem l8:aB ["self"] ["self"] (ak jc):=⟨rfl,rfl,rfl,by decide+kernel,rfl,by decide+kernel,by decide+kernel⟩
theorem qT (A:dL K "Cellar" "deeds" "Cellar.deeds" jc ["self"]) (B:Bl mg BN) (S6:cC K "Cellar" cq):bW P w K mg base 1 "Cellar" "deeds" 1 dv:=by
 refine f9 A l8 rfl rfl λf Sb A outer s H E hr=> ?_
 have hu:=bJ hr
 have S:=l8
 exact al (b8 (b9 aH bq (B.no "tuple" (by decide)) L2.Pu.aW (ax (PQ.bo (cO (aY.of rfl (by first|decide+kernel|rfl)) rfl (cS (bu S6 (by decide) (ac 0))) (λ_ _ _=>b6 1 (show ([".0","kept"]:List Kw).Nodup by decide+kernel)) (λ_ _ _=>eE) (λ_ _ _=>aK hu (ac 1) (PQ.bo (ag))))) (aC))))
theorem n9:aB ["self","number"] ["self","number"] (ak kL):=⟨rfl,rfl,rfl,by decide+kernel,rfl,by decide+kernel,by decide+kernel⟩
theorem t7 (A:dL K "Cellar" "day" "Cellar.day" kL ["self","number"]) (B:Bl mg BN) (Sd:bW P w K mg base 1 "Cellar" "days_gone" 1 bj) (U3:cI K mg "UnknownDay") (S6:cC K "Cellar" cq) (S5:cC K "Standing" bD):bW P w K mg base 2 "Cellar" "day" 2 fq:=by
 refine f9 A n9 rfl rfl λf Sb A outer s H E hr=> ?_
 have hu:=bJ hr
 have S:=n9
 exact ae (bw (qK.t (rX (aO k_ ik (ac 1) (PQ.bo (ag))) (lA (aO jQ gR (ac 1) (PQ.bo (oK Sd (hr.mono (by decide)) (aq 0))))))) (al (du U3 rfl (a7 (aJ) (ah)))) (aG)) (al (b8 (aK hu (PQ.bo (bu S5 (by decide) (PQ.bo (bu S6 (by decide) (ac 0))))) (PQ.bo (ay ii fM (ac 1) (PQ.bo (ag)))))))
theorem uo:aB ["_law_script","_law_k"] ["_law_script","_law_k"] (ak sB):=⟨rfl,rfl,rfl,by decide+kernel,rfl,by decide+kernel,by decide+kernel⟩
theorem AN (A:cA K mg "_law_at" sB ["_law_script","_law_k"]) (B:Bl mg BN):bg P w K mg base 1 "_law_at" 2 d0:=by
 refine bZ A uo rfl rfl λf Sb A outer s H E hr=> ?_
 have hu:=bJ hr
 have S:=uo
 exact ae (bw (aO k_ ik (ac 1) (PQ.bo (aT b7 bH (B.no "len" (by decide)) Lb (ax (ac 0) (aC))))) (al (b8 (aK hu (ac 0) (ac 1)))) (aG)) (al (b8 (ag)))
theorem qz:aB ["_law_script","_law_k","_law_mixed"] ["_law_script","_law_k"] (ak nS):=⟨rfl,rfl,rfl,by decide+kernel,rfl,by decide+kernel,by decide+kernel⟩
theorem wK (A:cA K mg "_law_cell" nS ["_law_script","_law_k"]) (B:Bl mg BN) (SE:bg P w K mg base 1 "_law_at" 2 d0):bg P w K mg base 2 "_law_cell" 2 cc:=by
 refine bZ A qz rfl rfl λf Sb A outer s H E hr=> ?_
 have hu:=bJ hr
 have S:=qz
 exact ae (bw (aO bL bf (PQ.bo (ay bA ba (PQ.bo (ce SE (hr.mono (by decide)) (a7 (aq 0) (a7 (ag) (ah))))) (PQ.bo (ag)))) (PQ.bo (ag))) (al (b8 (ce SE (hr.mono (by decide)) (a7 (aq 0) (a7 (aq 1) (ah)))))) (aG)) (ae (aV 2 S.nd (ay bA ba (PQ.bo (ay gB hZ (PQ.bo (ay aL aM (PQ.bo (ay aL aM (PQ.bo (ay aL aM (PQ.bo (ce SE (hr.mono (by decide)) (a7 (aq 0) (a7 (aq 1) (ah))))) (PQ.bo (ay eI dh (PQ.bo (ce SE (hr.mono (by decide)) (a7 (aq 0) (a7 (ag) (ah))))) (PQ.bo (ag)))))) (PQ.bo (ay gB hZ (PQ.bo (ag)) (ac 1))))) (PQ.bo (ag)))) (PQ.bo (ag)))) (PQ.bo (ag)))) (al (b8 (ay bA ba (PQ.bo (ay gB hZ (PQ.bo (ay aL aM (ac 2) (ac 1))) (PQ.bo (ag)))) (PQ.bo (ag))))))
theorem mj:aB ["_law_cell_here","_law_mixed","_law_many","_law_size","_law_found","_law_rest","_law_k","_law_one"] ["_law_cell_here","_law_mixed","_law_many","_law_size"] (ak jK):=⟨rfl,rfl,rfl,by decide+kernel,rfl,by decide+kernel,by decide+kernel⟩
theorem sH (A:cA K mg "_law_figures" jK ["_law_cell_here","_law_mixed","_law_many","_law_size"]) (B:Bl mg BN):bg P w K mg base 1 "_law_figures" 4 bX:=by
 refine bZ A mj rfl rfl λf Sb A outer s H E hr=> ?_
 have hu:=bJ hr
 have S:=mj
 exact ae (lC 4 S.nd (ah)) (ae (aV 5 S.nd (aq 0)) (ae (n6 LZ rfl (i7 (B.no "range" (by decide)) (a7 (aq 2) (ah))) (b6 6 S.nd) (al (bw (eP (ac 1)) (ae (aV 7 S.nd (ay bA ba (PQ.bo (ay gB hZ (PQ.bo (ay aL aM (PQ.bo (ay aL aM (ac 0) (PQ.bo (ay gB hZ (PQ.bo (ag)) (ac 6))))) (PQ.bo (ag)))) (PQ.bo (ag)))) (PQ.bo (ag)))) (al (i8 4 (ay bA ba (PQ.bo (ay bA ba (PQ.bo (ay gB hZ (PQ.bo (ay aL aM (ac 7) (ac 6))) (PQ.bo (ag)))) (PQ.bo (ag)))) (ac 3))))) (ae (i8 4 (ay bA ba (ac 5) (ac 3))) (al (aV 5 S.nd (ay eI dh (ac 5) (ac 3)))))))) (al (vW [4] (b8 (aq 4))))))
theorem qA:aB ["_law_found","_law_due","_law_k"] ["_law_found","_law_due"] (ak kN):=⟨rfl,rfl,rfl,by decide+kernel,rfl,by decide+kernel,by decide+kernel⟩
theorem oX (A:cA K mg "_law_same" kN ["_law_found","_law_due"]) (B:Bl mg BN):∀n:Nat,bg P w K mg base n "_law_same" 2 (dE n)
 |0=>Cf A rfl
 |n+1=>by
  have a0v:=oX A B n
  refine bZ A qA rfl rfl λf Sb A outer s H E hr=> ?_
  have hu:=bJ hr
  have S:=qA
  exact ae (bw (eP (PQ.bo (qp (.inr (.inr (.inr (.inl rfl)))) (B.no "isinstance" (by decide)) (B.no "tuple" (by decide)) L2.Pu.aW (ac 1)))) (ae (bw (qK.t (rX (lB (eP (PQ.bo (qp (.inr (.inr (.inr (.inl rfl)))) (B.no "isinstance" (by decide)) (B.no "tuple" (by decide)) L2.Pu.aW (ac 0))))) (lA (aO lr j3 (PQ.bo (aT b7 bH (B.no "len" (by decide)) Lb (ax (ac 0) (aC)))) (PQ.bo (aT b7 bH (B.no "len" (by decide)) Lb (ax (ac 1) (aC)))))))) (al (b8 (nE))) (aG)) (ae (n6 LZ rfl (i7 (B.no "range" (by decide)) (a7 (aT b7 bH (B.no "len" (by decide)) Lb (ax (ac 1) (aC))) (ah))) (b6 2 S.nd) (al (bw (lB (eP (PQ.bo (ce a0v (hr.mono (by omega)) (a7 (aK hu (ac 0) (ac 2)) (a7 (aK hu (ac 1) (ac 2)) (ah))))))) (al (b8 (nE))) (aG)))) (al (b8 (nE))))) (aG)) (ae (bw (aO Bk yV (ac 1) (PQ.bo (yS))) (al (b8 (iY Bk yV (ac 0) (PQ.bo (yS))))) (aG)) (ae (bw (eP (PQ.bo (qp (.inl rfl) (B.no "isinstance" (by decide)) (B.no "bool" (by decide)) L2.Pu.pN (ac 1)))) (al (b8 (vV (qp (.inl rfl) (B.no "isinstance" (by decide)) (B.no "bool" (by decide)) L2.Pu.pN (ac 0)) (vU (iY bL bf (ac 0) (ac 1)))))) (aG)) (ae (bw (eP (PQ.bo (qp (.inr (.inr (.inl rfl))) (B.no "isinstance" (by decide)) (B.no "str" (by decide)) L2.Pu.wa (ac 1)))) (al (b8 (vV (qp (.inr (.inr (.inl rfl))) (B.no "isinstance" (by decide)) (B.no "str" (by decide)) L2.Pu.wa (ac 0)) (vU (iY bL bf (ac 0) (ac 1)))))) (aG)) (al (b8 (vV (qp (.inr (.inl rfl)) (B.no "isinstance" (by decide)) (B.no "int" (by decide)) L2.Pu.oH (ac 0)) (vV (F7 (qp (.inl rfl) (B.no "isinstance" (by decide)) (B.no "bool" (by decide)) L2.Pu.pN (ac 0))) (vU (iY bL bf (ac 0) (ac 1))))))))))
theorem wL (A:cA K mg "_law_same" kN ["_law_found","_law_due"]) (B:Bl mg BN):bg P w K mg base 8 "_law_same" 2 bn:=(oX A B 8).mono (by decide)
theorem qB:aB ["_law_levels","_law_source","_law_target","_law_most","_law_low","_law_high"] ["_law_levels","_law_source","_law_target","_law_most"] (ak nU):=⟨rfl,rfl,rfl,by decide+kernel,rfl,by decide+kernel,by decide+kernel⟩
theorem wM (A:cA K mg "_law_span" nU ["_law_levels","_law_source","_law_target","_law_most"]) (B:Bl mg BN):bg P w K mg base 1 "_law_span" 4 jd:=by
 refine bZ A qB rfl rfl λf Sb A outer s H E hr=> ?_
 have hu:=bJ hr
 have S:=qB
 exact ae (aV 4 S.nd (qL gO fN (ac 3))) (ae (aV 5 S.nd (aq 3)) (ae (bw (aO jQ gR (ac 1) (PQ.bo (ag))) (ae (aV 4 S.nd (aT (tu rfl) yW (B.no "max" (by decide)) L2.Pu.wc (ax (ac 4) (ax (PQ.bo (ay ii fM (PQ.bo (aK hu (ac 0) (ac 1))) (PQ.bo (ag)))) (aC))))) (al (aV 5 S.nd (aT (pB rfl) uQ (B.no "min" (by decide)) L2.Pu.se (ax (ac 5) (ax (PQ.bo (ay aL aM (PQ.bo (aK hu (ac 0) (ac 1))) (PQ.bo (ag)))) (aC))))))) (aG)) (ae (bw (aO jQ gR (ac 2) (PQ.bo (ag))) (ae (aV 4 S.nd (aT (tu rfl) yW (B.no "max" (by decide)) L2.Pu.wc (ax (ac 4) (ax (PQ.bo (ay ii fM (PQ.bo (qL gO fN (PQ.bo (ag)))) (PQ.bo (aK hu (ac 0) (ac 2))))) (aC))))) (al (aV 5 S.nd (aT (pB rfl) uQ (B.no "min" (by decide)) L2.Pu.se (ax (ac 5) (ax (PQ.bo (ay ii fM (PQ.bo (ag)) (PQ.bo (aK hu (ac 0) (ac 2))))) (aC))))))) (aG)) (al (b8 (eJ (a7 (aq 4) (a7 (aq 5) (ah)))))))))
theorem oY:aB ["_law_figures_here","_law_n","_law_streams","_law_meters","_law_bounds","_law_levels","_law_rows","_law_k","_law_number","_law_source","_law_target","_law_low","_law_high","_law_amount"] ["_law_figures_here","_law_n","_law_streams","_law_meters","_law_bounds"] (ak lV):=⟨rfl,rfl,rfl,by decide+kernel,rfl,by decide+kernel,by decide+kernel⟩
theorem vb (A:cA K mg "_law_flows" lV ["_law_figures_here","_law_n","_law_streams","_law_meters","_law_bounds"]) (B:Bl mg BN) (Uw:bg P w K mg base 1 "_law_span" 4 jd):bg P w K mg base 2 "_law_flows" 5 ic:=by
 refine bZ A oY rfl rfl λf Sb A outer s H E hr=> ?_
 have hu:=bJ hr
 have S:=oY
 exact ae (Cw 5 S.nd (Iw gB Cy (PQ.bo (eJ (a7 (ag) (ah)))) (PQ.bo (ay aL aM (ac 1) (PQ.bo (ag)))))) (ae (lC 6 S.nd (ah)) (ae (n6 LZ rfl (i7 (B.no "range" (by decide)) (a7 (aT b7 bH (B.no "len" (by decide)) Lb (ax (ac 2) (aC))) (ah))) (b6 7 S.nd) (ae (BX (aK hu (ac 2) (ac 7)) (BW rfl (f7 (b6 8 S.nd) (f7 (b6 9 S.nd) (f7 (b6 10 S.nd) (uJ)))))) (ae (Gy [5] rfl (ce Uw (hr.mono (by decide)) (a7 (aq 5) (a7 (aq 9) (a7 (aq 10) (a7 (aK hu (ac 4) (PQ.bo (b9 pC uR (B.no "int" (by decide)) L2.Pu.oH (ax (PQ.bo (E7 hu (ac 8) (ac 3))) (aC))))) (ah)))))) (f7 (b6 11 S.nd) (f7 (b6 12 S.nd) (uJ)))) (ae (aV 13 S.nd (ay aL aM (ac 11) (PQ.bo (ay bA ba (PQ.bo (aK hu (ac 0) (ac 7))) (PQ.bo (ay aL aM (PQ.bo (ay ii fM (ac 12) (ac 11))) (PQ.bo (ag)))))))) (ae (F8 5 hu (aq 9) (ay ii fM (PQ.bo (aK hu (ac 5) (ac 9))) (ac 13))) (ae (F8 5 hu (aq 10) (ay aL aM (PQ.bo (aK hu (ac 5) (ac 10))) (ac 13))) (al (i8 6 (bP (a7 (aq 8) (a7 (aq 13) (ah)))))))))))) (al (b8 (eJ (a7 (b9 aH bq (B.no "tuple" (by decide)) L2.Pu.aW (ax (ac 6) (aC))) (a7 (b9 aH bq (B.no "tuple" (by decide)) L2.Pu.aW (ax (PQ.bo (kA (ac 5) (nI (ag)) (nH))) (aC))) (ah))))))))
theorem qC:aB ["_law_day","_law_case"] ["_law_day","_law_case"] (ak nW):=⟨rfl,rfl,rfl,by decide+kernel,rfl,by decide+kernel,by decide+kernel⟩
theorem wN (A:cA K mg "_law_kept" nW ["_law_day","_law_case"]) (B:Bl mg BN) (Si:bg P w K mg base 8 "_law_same" 2 bn) (Vz:cC K "Day" sv):bg P w K mg base 9 "_law_kept" 2 hG:=by
 refine bZ A qC rfl rfl λf Sb A outer s H E hr=> ?_
 have hu:=bJ hr
 have S:=qC
 exact ae (bw (qK.t (rX (lB (eP (PQ.bo (ce Si (hr.mono (by decide)) (a7 (bu Vz (by decide) (ac 0)) (a7 (aK hu (ac 1) (PQ.bo (ag))) (ah))))))) (lA (lB (eP (PQ.bo (ce Si (hr.mono (by decide)) (a7 (bu Vz (by decide) (ac 0)) (a7 (aK hu (ac 1) (PQ.bo (ag))) (ah)))))))))) (al (b8 (nE))) (aG)) (al (b8 (vV (ce Si (hr.mono (by decide)) (a7 (bu Vz (by decide) (ac 0)) (a7 (aK hu (ac 1) (PQ.bo (ag))) (ah)))) (vU (ce Si (hr.mono (by decide)) (a7 (bu Vz (by decide) (ac 0)) (a7 (aK hu (ac 1) (PQ.bo (ag))) (ah))))))))
theorem uq:aB ["_law_cellar","_law_deed_here"] ["_law_cellar","_law_deed_here"] (ak sC):=⟨rfl,rfl,rfl,by decide+kernel,rfl,by decide+kernel,by decide+kernel⟩
theorem AO (A:cA K mg "_law_do" sC ["_law_cellar","_law_deed_here"]) (B:Bl mg BN) (SF:dq P w K mg base 4 "Cellar" "stream_comes" 2 cu) (SG:dq P w K mg base 4 "Cellar" "stream_goes" 1 cE) (SH:dq P w K mg base 4 "Cellar" "meters_come" 1 cF) (SN:dq P w K mg base 4 "Cellar" "meters_go" 1 c_) (SM:dq P w K mg base 4 "Cellar" "day_passes" 2 cM) (SO:dq P w K mg base 1 "Cellar" "take_back" 0 cb):xZ P w K mg base 5 "_law_do" 1 1 eV:=by
 refine uW [⟨0,0,[]⟩] A uq rfl rfl (by decide) (by decide) (by decide) λf Sb A outer s H E hr=> ?_
 have hu:=bJ hr
 have S:=uq
 exact ae (bw (aO bL bf (PQ.bo (aK hu (ac 1) (PQ.bo (ag)))) (PQ.bo (aJ))) (al (nN (jI 0 SF (hr.mono (by decide)) (a7 (aK hu (ac 1) (PQ.bo (ag))) (a7 (aK hu (ac 1) (PQ.bo (ag))) (ah)))))) (aG)) (ae (bw (aO bL bf (PQ.bo (aK hu (ac 1) (PQ.bo (ag)))) (PQ.bo (aJ))) (al (nN (jI 0 SG (hr.mono (by decide)) (a7 (aK hu (ac 1) (PQ.bo (ag))) (ah))))) (aG)) (ae (bw (aO bL bf (PQ.bo (aK hu (ac 1) (PQ.bo (ag)))) (PQ.bo (aJ))) (al (nN (jI 0 SH (hr.mono (by decide)) (a7 (b9 gp lG (B.no "list" (by decide)) L2.Pu.jY (ax (PQ.bo (aK hu (ac 1) (PQ.bo (ag)))) (aC))) (ah))))) (aG)) (ae (bw (aO bL bf (PQ.bo (aK hu (ac 1) (PQ.bo (ag)))) (PQ.bo (aJ))) (al (nN (jI 0 SN (hr.mono (by decide)) (a7 (b9 gp lG (B.no "list" (by decide)) L2.Pu.jY (ax (PQ.bo (aK hu (ac 1) (PQ.bo (ag)))) (aC))) (ah))))) (aG)) (ae (bw (aO bL bf (PQ.bo (aK hu (ac 1) (PQ.bo (ag)))) (PQ.bo (aJ))) (al (nN (jI 0 SM (hr.mono (by decide)) (a7 (b9 gp lG (B.no "list" (by decide)) L2.Pu.jY (ax (PQ.bo (aK hu (ac 1) (PQ.bo (ag)))) (aC))) (a7 (b9 gp lG (B.no "list" (by decide)) L2.Pu.jY (ax (PQ.bo (aK hu (ac 1) (PQ.bo (ag)))) (aC))) (ah)))))) (aG)) (al (nN (Ek 0 SO (hr.mono (by decide)))))))))
theorem qD:aB ["_law_cellar","_law_deed_here","_law_kinds","e","_law_words","_law_word"] ["_law_cellar","_law_deed_here"] (ak nY):=⟨rfl,rfl,rfl,by decide+kernel,rfl,by decide+kernel,by decide+kernel⟩
theorem wO (A:cA K mg "_law_done" nY ["_law_cellar","_law_deed_here"]) (B:Bl mg BN) (V5:xZ P w K mg base 5 "_law_do" 1 1 eV) (SY:eM K mg "AlreadyMetered" (tb 7)) (Ux:eM K mg "BadTanks" (tb 0)) (Uy:eM K mg "Clashing" JK) (U4:eM K mg "NotMetered" (tb 8)) (TK:eM K mg "NothingDone" (tb 15)) (U5:eM K mg "OutOfRange" (tb 10)) (S_:eM K mg "ReadingMissing" (tb 9)) (Ul:eM K mg "SamePlace" (tb 3)) (TL:eM K mg "TooManyDays" (tb 13)) (Tn:eM K mg "TooManyDeeds" (tb 14)) (T9:eM K mg "TooManyMeters" (tb 12)) (T1:eM K mg "TooManyStreams" (tb 11)) (VL:eM K mg "Twice" (tb 6)) (U6:eM K mg "UnknownDay" (tb 1)) (To:eM K mg "UnknownPlace" (tb 2)) (Ta:eM K mg "UnknownStream" (tb 5)) (U7:qq K (.type "ValueError") JJ) (U8:eM K mg "WrongRises" (tb 4)) (TM:wk K mg "CellarError" (Aw RL)):xZ P w K mg base 6 "_law_done" 1 1 eW:=by
 refine uW [⟨0,0,[]⟩] A qD rfl rfl (by decide) (by decide) (by decide) λf Sb A outer s H E hr=> ?_
 have hu:=bJ hr
 have S:=qD
 exact ae (lC 2 S.nd (ah)) (ae (Ir 3 rW S.nd TM (λ_ _=>al (nN (GD (aJ) (AB V5 (hr.mono (by decide)) (i0 0 (pT (a7 (aq 1) (ah)))))))) (λ_=>ae (lC 2 S.nd (a7 (eR To (B.no "isinstance" (by decide)) (ac 3)) (a7 (eR Ul (B.no "isinstance" (by decide)) (ac 3)) (a7 (eR U8 (B.no "isinstance" (by decide)) (ac 3)) (ah))))) (ae (aV 2 S.nd (ay aL aM (ac 2) (PQ.bo (eJ (a7 (eR Ta (B.no "isinstance" (by decide)) (ac 3)) (a7 (eR VL (B.no "isinstance" (by decide)) (ac 3)) (a7 (eR SY (B.no "isinstance" (by decide)) (ac 3)) (ah)))))))) (ae (aV 2 S.nd (ay aL aM (ac 2) (PQ.bo (eJ (a7 (eR U4 (B.no "isinstance" (by decide)) (ac 3)) (a7 (eR S_ (B.no "isinstance" (by decide)) (ac 3)) (a7 (eR U5 (B.no "isinstance" (by decide)) (ac 3)) (ah)))))))) (ae (aV 2 S.nd (ay aL aM (ac 2) (PQ.bo (eJ (a7 (eR T1 (B.no "isinstance" (by decide)) (ac 3)) (a7 (eR T9 (B.no "isinstance" (by decide)) (ac 3)) (a7 (eR TL (B.no "isinstance" (by decide)) (ac 3)) (ah)))))))) (ae (aV 2 S.nd (ay aL aM (ac 2) (PQ.bo (eJ (a7 (eR Tn (B.no "isinstance" (by decide)) (ac 3)) (a7 (eR TK (B.no "isinstance" (by decide)) (ac 3)) (a7 (eR Ux (B.no "isinstance" (by decide)) (ac 3)) (ah)))))))) (al (aV 2 S.nd (ay aL aM (ac 2) (PQ.bo (eJ (a7 (eR U6 (B.no "isinstance" (by decide)) (ac 3)) (a7 (eR Uy (B.no "isinstance" (by decide)) (ac 3)) (a7 (F7 (Gv U7 L2.Pu.qO (B.no "ValueError" (by decide)) (B.no "isinstance" (by decide)) (ac 3))) (ah))))))))))))))) (ae (lC 4 S.nd (a7 (aJ) (a7 (aJ) (a7 (aJ) (a7 (aJ) (a7 (aJ) (a7 (aJ) (a7 (aJ) (ah))))))))) (ae (aV 4 S.nd (ay aL aM (ac 4) (PQ.bo (eJ (a7 (aJ) (a7 (aJ) (a7 (aJ) (a7 (aJ) (a7 (aJ) (ah)))))))))) (ae (aV 4 S.nd (ay aL aM (ac 4) (PQ.bo (eJ (a7 (aJ) (a7 (aJ) (a7 (aJ) (a7 (aJ) (a7 (aJ) (a7 (aJ) (ah))))))))))) (ae (aV 5 S.nd (aJ)) (ae (bw (aO bL bf (PQ.bo (GG (ac 2) (nE))) (PQ.bo (ag))) (al (aV 5 S.nd (aK hu (ac 4) (PQ.bo (GH (ac 2) (nE)))))) (aG)) (al (kH (eJ (a7 (aq 5) (a7 (yS) (ah))))))))))))
theorem ki:aB ["_law_model","_law_source","_law_target","_law_place"] ["_law_model","_law_source","_law_target"] (ak iu):=⟨rfl,rfl,rfl,by decide+kernel,rfl,by decide+kernel,by decide+kernel⟩
theorem q9 (A:cA K mg "_law_no_stream" iu ["_law_model","_law_source","_law_target"]) (B:Bl mg BN):bg P w K mg base 1 "_law_no_stream" 3 ee:=by
 refine bZ A ki rfl rfl λf Sb A outer s H E hr=> ?_
 have hu:=bJ hr
 have S:=ki
 exact ae (n6 LZ rfl (cS (bP (a7 (aq 1) (a7 (aq 2) (ah))))) (b6 3 S.nd) (al (bw (qK.t (rX (aO k_ ik (ac 3) (PQ.bo (ag))) (lA (aO jQ gR (ac 3) (PQ.bo (aK hu (ac 0) (PQ.bo (ag)))))))) (al (b8 (aJ))) (aG)))) (ae (bw (aO bL bf (ac 1) (ac 2)) (al (b8 (aJ))) (aG)) (ae (bw (aO vF s9 (PQ.bo (aT b7 bH (B.no "len" (by decide)) Lb (ax (PQ.bo (aK hu (ac 0) (PQ.bo (ag)))) (aC)))) (PQ.bo (ag))) (al (b8 (aJ))) (aG)) (al (b8 (aJ)))))
theorem l9:aB ["_law_model","_law_named","_law_there"] ["_law_model","_law_named"] (ak jf):=⟨rfl,rfl,rfl,by decide+kernel,rfl,by decide+kernel,by decide+kernel⟩
theorem qU (A:cA K mg "_law_no_names" jf ["_law_model","_law_named"]) (B:Bl mg BN):bg P w K mg base 1 "_law_no_names" 2 cn:=by
 refine bZ A l9 rfl rfl λf Sb A outer s H E hr=> ?_
 have hu:=bJ hr
 have S:=l9
 exact ae (re 2 (aY.of rfl (by first|decide+kernel|rfl)) rfl S.nd (cS (aK hu (ac 0) (PQ.bo (ag)))) (λ_ _ _=>b6 1 (show ([".0","_law_stream"]:List Kw).Nodup by decide+kernel)) (λ_ _ _=>eE) (λ_ _ _=>aK hu (ac 1) (PQ.bo (ag)))) (ae (bw (aO (pV hu) mH (PQ.bo (cO (aY.of rfl (by first|decide+kernel|rfl)) rfl (cS (aq 1)) (λ_ _ _=>b6 1 (show ([".0","_law_number","_law_there"]:List Kw).Nodup by decide+kernel)) (λ_ _ _=>gQ (oF hu (ac 1) (ac 2))) (λ_ _ _=>aq 1))) (PQ.bo (eJ (ah)))) (al (b8 (aJ))) (aG)) (ae (bw (aO (pV hu) mH (PQ.bo (cO (aY.of rfl (by first|decide+kernel|rfl)) rfl (cS (aq 1)) (λ_ _ _=>b6 1 (show ([".0","_law_number","_law_named"]:List Kw).Nodup by decide+kernel)) (λ_ _ _=>gQ (aO jQ gR (PQ.bo (GP (ac 2) (aq 1))) (PQ.bo (ag)))) (λ_ _ _=>aq 1))) (PQ.bo (eJ (ah)))) (al (b8 (aJ))) (aG)) (al (b8 (aJ)))))
theorem nc:aB ["_law_model","_law_rises","_law_readings","_law_named","_law_word","_law_amounts"] ["_law_model","_law_rises","_law_readings"] (ak kO):=⟨rfl,rfl,rfl,by decide+kernel,rfl,by decide+kernel,by decide+kernel⟩
theorem t8 (A:cA K mg "_law_no_day" kO ["_law_model","_law_rises","_law_readings"]) (B:Bl mg BN) (Sm:bg P w K mg base 1 "_law_no_names" 2 cn):bg P w K mg base 2 "_law_no_day" 3 gE:=by
 refine bZ A nc rfl rfl λf Sb A outer s H E hr=> ?_
 have hu:=bJ hr
 have S:=nc
 exact ae (bw (aO lr j3 (PQ.bo (aT b7 bH (B.no "len" (by decide)) Lb (ax (ac 1) (aC)))) (PQ.bo (aK hu (ac 0) (PQ.bo (ag))))) (al (b8 (aJ))) (aG)) (ae (re 3 (aY.of rfl (by first|decide+kernel|rfl)) rfl S.nd (cS (aq 2)) (λ_ _ _=>b6 1 (show ([".0","_law_row"]:List Kw).Nodup by decide+kernel)) (λ_ _ _=>eE) (λ_ _ _=>aK hu (ac 1) (PQ.bo (ag)))) (ae (vW [3] (aV 4 S.nd (ce Sm (hr.mono (by decide)) (a7 (aq 0) (a7 (aq 3) (ah)))))) (ae (bw (aO lr j3 (ac 4) (PQ.bo (aJ))) (al (b8 (aq 4))) (aG)) (ae (vW [3] (bw (aO (pV hu) mH (PQ.bo (cO (aY.of rfl (by first|decide+kernel|rfl)) rfl (cS (aq 3)) (λ_ _ _=>b6 1 (show ([".0","_law_number","_law_model"]:List Kw).Nodup by decide+kernel)) (λ_ _ _=>gQ (oF hu (ac 1) (PQ.bo (aK hu (ac 2) (PQ.bo (ag)))))) (λ_ _ _=>aq 1))) (PQ.bo (eJ (ah)))) (al (b8 (aJ))) (aG))) (ae (bw (aO (pV hu) mH (PQ.bo (cO (aY.of rfl (by first|decide+kernel|rfl)) rfl (cS (aK hu (ac 0) (PQ.bo (ag)))) (λ_ _ _=>b6 1 (show ([".0","_law_number","_law_named"]:List Kw).Nodup by decide+kernel)) (λ_ _ _=>gQ (oF hu (ac 1) (ac 2))) (λ_ _ _=>aq 1))) (PQ.bo (eJ (ah)))) (al (b8 (aJ))) (aG)) (ae (aV 5 S.nd (ay aL aM (PQ.bo (b9 gp lG (B.no "list" (by decide)) L2.Pu.jY (ax (ac 1) (aC)))) (PQ.bo (cO (aY.of rfl (by first|decide+kernel|rfl)) rfl (cS (aq 2)) (λ_ _ _=>b6 1 (show ([".0","_law_row"]:List Kw).Nodup by decide+kernel)) (λ_ _ _=>eE) (λ_ _ _=>aK hu (ac 1) (PQ.bo (ag))))))) (ae (bw (aO (pV hu) mH (PQ.bo (cO (aY.of rfl (by first|decide+kernel|rfl)) rfl (cS (aq 5)) (λ_ _ _=>b6 1 (show ([".0","_law_amount"]:List Kw).Nodup by decide+kernel)) (λ_ _ _=>gQ (qK.t (rX (aO k_ ik (ac 1) (PQ.bo (qL gO fN (PQ.bo (ag))))) (lA (aO jQ gR (ac 1) (PQ.bo (ag))))))) (λ_ _ _=>aq 1))) (PQ.bo (eJ (ah)))) (al (b8 (aJ))) (aG)) (ae (bw (aO vF s9 (PQ.bo (aT b7 bH (B.no "len" (by decide)) Lb (ax (PQ.bo (aK hu (ac 0) (PQ.bo (ag)))) (aC)))) (PQ.bo (ag))) (al (b8 (aJ))) (aG)) (al (b8 (aJ)))))))))))
theorem kj:aB ["_law_model","_law_come","_law_named","_law_word","_law_have"] ["_law_model","_law_come","_law_named"] (ak ix):=⟨rfl,rfl,rfl,by decide+kernel,rfl,by decide+kernel,by decide+kernel⟩
theorem qa (A:cA K mg "_law_no_meters" ix ["_law_model","_law_come","_law_named"]) (B:Bl mg BN) (Sm:bg P w K mg base 1 "_law_no_names" 2 cn):bg P w K mg base 2 "_law_no_meters" 3 ef:=by
 refine bZ A kj rfl rfl λf Sb A outer s H E hr=> ?_
 have hu:=bJ hr
 have S:=kj
 exact ae (aV 3 S.nd (ce Sm (hr.mono (by decide)) (a7 (aq 0) (a7 (aq 2) (ah))))) (ae (bw (aO lr j3 (ac 3) (PQ.bo (aJ))) (al (b8 (aq 3))) (aG)) (ae (xO 4 (aY.of rfl (by first|decide+kernel|rfl)) rfl S.nd (cS (aq 2)) (λ_ _ _=>b6 1 (show ([".0","_law_number","_law_model"]:List Kw).Nodup by decide+kernel)) (λ_ _ _=>gQ (Ih hu (ac 1) (PQ.bo (aK hu (ac 2) (PQ.bo (ag)))))) (λ_ _ _=>aq 1)) (ae (bw (qK.t (tV (eP (ac 1)) (pJ (aO (pV hu) mH (ac 4) (PQ.bo (eJ (ah))))))) (al (b8 (aJ))) (aG)) (ae (bw (qK.t (tV (eP (ac 1)) (pJ (aO jQ gR (PQ.bo (ay aL aM (PQ.bo (aT b7 bH (B.no "len" (by decide)) Lb (ax (PQ.bo (aK hu (ac 0) (PQ.bo (ag)))) (aC)))) (PQ.bo (aT b7 bH (B.no "len" (by decide)) Lb (ax (ac 2) (aC)))))) (PQ.bo (ag)))))) (al (b8 (aJ))) (aG)) (ae (bw (qK.t (tV (lB (eP (ac 1))) (pJ (aO k_ ik (PQ.bo (aT b7 bH (B.no "len" (by decide)) Lb (ax (ac 4) (aC)))) (PQ.bo (aT b7 bH (B.no "len" (by decide)) Lb (ax (ac 2) (aC)))))))) (al (b8 (aJ))) (aG)) (al (b8 (aJ))))))))
theorem ml:aB ["_law_past","_law_deed_here","_law_model","_law_word"] ["_law_past","_law_deed_here"] (ak jM):=⟨rfl,rfl,rfl,by decide+kernel,rfl,by decide+kernel,by decide+kernel⟩
theorem sI (A:cA K mg "_law_refusal" jM ["_law_past","_law_deed_here"]) (B:Bl mg BN) (Tb:bg P w K mg base 1 "_law_no_stream" 3 ee) (Sm:bg P w K mg base 1 "_law_no_names" 2 cn) (U9:bg P w K mg base 2 "_law_no_day" 3 gE) (Tc:bg P w K mg base 2 "_law_no_meters" 3 ef):bg P w K mg base 3 "_law_refusal" 2 eA:=by
 refine bZ A ml rfl rfl λf Sb A outer s H E hr=> ?_
 have hu:=bJ hr
 have S:=ml
 exact ae (aV 2 S.nd (aK hu (ac 0) (PQ.bo (qL gO fN (PQ.bo (ag)))))) (ae (bw (aO bL bf (PQ.bo (aK hu (ac 1) (PQ.bo (ag)))) (PQ.bo (aJ))) (al (b8 (aK hu (PQ.bo (eJ (a7 (aJ) (a7 (aJ) (ah))))) (PQ.bo (b9 pC uR (B.no "int" (by decide)) L2.Pu.oH (ax (PQ.bo (iY bL bf (PQ.bo (aT b7 bH (B.no "len" (by decide)) Lb (ax (ac 0) (aC)))) (PQ.bo (ag)))) (aC))))))) (aG)) (ae (bw (aO bL bf (PQ.bo (aK hu (ac 1) (PQ.bo (ag)))) (PQ.bo (aJ))) (al (aV 3 S.nd (ce Tb (hr.mono (by decide)) (a7 (aq 2) (a7 (aK hu (ac 1) (PQ.bo (ag))) (a7 (aK hu (ac 1) (PQ.bo (ag))) (ah))))))) (al (bw (aO bL bf (PQ.bo (aK hu (ac 1) (PQ.bo (ag)))) (PQ.bo (aJ))) (al (aV 3 S.nd (ce Sm (hr.mono (by decide)) (a7 (aq 2) (a7 (eJ (a7 (aK hu (ac 1) (PQ.bo (ag))) (ah))) (ah)))))) (al (bw (aO bL bf (PQ.bo (aK hu (ac 1) (PQ.bo (ag)))) (PQ.bo (aJ))) (al (aV 3 S.nd (ce U9 (hr.mono (by decide)) (a7 (aq 2) (a7 (aK hu (ac 1) (PQ.bo (ag))) (a7 (aK hu (ac 1) (PQ.bo (ag))) (ah))))))) (al (aV 3 S.nd (ce Tc (hr.mono (by decide)) (a7 (aq 2) (a7 (iY bL bf (PQ.bo (aK hu (ac 1) (PQ.bo (ag)))) (PQ.bo (aJ))) (a7 (aK hu (ac 1) (PQ.bo (ag))) (ah)))))))))))) (ae (bw (qK.t (tV (aO bL bf (ac 3) (PQ.bo (aJ))) (pJ (aO jQ gR (PQ.bo (aT b7 bH (B.no "len" (by decide)) Lb (ax (ac 0) (aC)))) (PQ.bo (ag)))))) (al (aV 3 S.nd (aJ))) (aG)) (al (b8 (aq 3))))))
theorem ng:aB ["_law_model","_law_deed_here","_law_n","_law_following","_law_streams","_law_meters","_law_days","_law_deeds"] ["_law_model","_law_deed_here"] (ak kP):=⟨rfl,rfl,rfl,by decide+kernel,rfl,by decide+kernel,by decide+kernel⟩
theorem t9 (A:cA K mg "_law_behind" kP ["_law_model","_law_deed_here"]) (B:Bl mg BN):bg P w K mg base 1 "_law_behind" 2 dQ:=by
 refine bZ A ng rfl rfl λf Sb A outer s H E hr=> ?_
 have hu:=bJ hr
 have S:=ng
 exact ae (BX (aq 0) (BW rfl (f7 (b6 2 S.nd) (f7 (b6 3 S.nd) (f7 (b6 4 S.nd) (f7 (b6 5 S.nd) (f7 (b6 6 S.nd) (f7 (b6 7 S.nd) (uJ))))))))) (ae (aV 7 S.nd (ay aL aM (ac 7) (PQ.bo (bP (a7 (aq 1) (ah)))))) (ae (bw (aO bL bf (PQ.bo (aK hu (ac 1) (PQ.bo (ag)))) (PQ.bo (aJ))) (ae (aV 4 S.nd (ay aL aM (ac 4) (PQ.bo (bP (a7 (bP (a7 (aq 3) (a7 (aK hu (ac 1) (PQ.bo (ag))) (a7 (aK hu (ac 1) (PQ.bo (ag))) (ah))))) (ah)))))) (al (aV 3 S.nd (ay aL aM (ac 3) (PQ.bo (ag)))))) (al (bw (aO bL bf (PQ.bo (aK hu (ac 1) (PQ.bo (ag)))) (PQ.bo (aJ))) (ae (aV 4 S.nd (b9 aH bq (B.no "tuple" (by decide)) L2.Pu.aW (ax (PQ.bo (cO (aY.of rfl (by first|decide+kernel|rfl)) rfl (cS (aq 4)) (λ_ _ _=>b6 1 (show ([".0","_law_stream","_law_deed_here"]:List Kw).Nodup by decide+kernel)) (λ_ _ _=>gQ (aO lr j3 (PQ.bo (aK hu (ac 1) (PQ.bo (ag)))) (PQ.bo (aK hu (ac 2) (PQ.bo (ag)))))) (λ_ _ _=>aq 1))) (aC)))) (al (aV 5 S.nd (b9 aH bq (B.no "tuple" (by decide)) L2.Pu.aW (ax (PQ.bo (cO (aY.of rfl (by first|decide+kernel|rfl)) rfl (cS (aq 5)) (λ_ _ _=>b6 1 (show ([".0","_law_number","_law_deed_here"]:List Kw).Nodup by decide+kernel)) (λ_ _ _=>gQ (aO lr j3 (ac 1) (PQ.bo (aK hu (ac 2) (PQ.bo (ag)))))) (λ_ _ _=>aq 1))) (aC)))))) (al (bw (aO bL bf (PQ.bo (aK hu (ac 1) (PQ.bo (ag)))) (PQ.bo (aJ))) (al (aV 5 S.nd (b9 aH bq (B.no "tuple" (by decide)) L2.Pu.aW (ax (PQ.bo (aT t6 v7 (B.no "sorted" (by decide)) L2.Pu.ju (ax (PQ.bo (ay aL aM (ac 5) (PQ.bo (aK hu (ac 1) (PQ.bo (ag)))))) (aC)))) (aC))))) (al (bw (aO bL bf (PQ.bo (aK hu (ac 1) (PQ.bo (ag)))) (PQ.bo (aJ))) (al (aV 5 S.nd (b9 aH bq (B.no "tuple" (by decide)) L2.Pu.aW (ax (PQ.bo (cO (aY.of rfl (by first|decide+kernel|rfl)) rfl (cS (aq 5)) (λ_ _ _=>b6 1 (show ([".0","_law_number","_law_deed_here"]:List Kw).Nodup by decide+kernel)) (λ_ _ _=>gQ (oF hu (ac 1) (PQ.bo (aK hu (ac 2) (PQ.bo (ag)))))) (λ_ _ _=>aq 1))) (aC))))) (al (aV 6 S.nd (ay aL aM (ac 6) (PQ.bo (bP (a7 (bP (a7 (aq 2) (a7 (aq 4) (a7 (aK hu (ac 1) (PQ.bo (ag))) (a7 (b9 aH bq (B.no "tuple" (by decide)) L2.Pu.aW (ax (PQ.bo (aT (kD rfl) lN (B.no "sorted" (by decide)) L2.Pu.ju (ax (PQ.bo (aK hu (ac 1) (PQ.bo (ag)))) (aC)))) (aC))) (ah)))))) (ah)))))))))))))) (al (b8 (bP (a7 (aq 2) (a7 (aq 3) (a7 (aq 4) (a7 (aq 5) (a7 (aq 6) (a7 (aq 7) (ah))))))))))))
theorem nj:aB ["_law_model","_law_deed_here"] ["_law_model","_law_deed_here"] (ak kR):=⟨rfl,rfl,rfl,by decide+kernel,rfl,by decide+kernel,by decide+kernel⟩
theorem tf (A:cA K mg "_law_answer" kR ["_law_model","_law_deed_here"]) (B:Bl mg BN):bg P w K mg base 1 "_law_answer" 2 ft:=by
 refine bZ A nj rfl rfl λf Sb A outer s H E hr=> ?_
 have hu:=bJ hr
 have S:=nj
 exact ae (bw (aO bL bf (PQ.bo (aK hu (ac 1) (PQ.bo (ag)))) (PQ.bo (aJ))) (al (b8 (aK hu (ac 0) (PQ.bo (ag))))) (aG)) (ae (bw (aO bL bf (PQ.bo (aK hu (ac 1) (PQ.bo (ag)))) (PQ.bo (aJ))) (al (b8 (ay aL aM (PQ.bo (aT b7 bH (B.no "len" (by decide)) Lb (ax (PQ.bo (aK hu (ac 0) (PQ.bo (ag)))) (aC)))) (PQ.bo (ag))))) (aG)) (al (b8 (yS))))
theorem qE:aB ["_law_cellar","_law_past","_law_deed_here","_law_model","_law_word","_law_found"] ["_law_cellar","_law_past","_law_deed_here"] (ak nZ):=⟨rfl,rfl,rfl,by decide+kernel,rfl,by decide+kernel,by decide+kernel⟩
theorem wQ (A:cA K mg "_law_step" nZ ["_law_cellar","_law_past","_law_deed_here"]) (B:Bl mg BN) (TN:bg P w K mg base 3 "_law_refusal" 2 eA) (Uz:xZ P w K mg base 6 "_law_done" 1 1 eW) (Si:bg P w K mg base 8 "_law_same" 2 bn) (Ua:bg P w K mg base 1 "_law_behind" 2 dQ) (Ub:bg P w K mg base 1 "_law_answer" 2 ft):xZ P w K mg base 9 "_law_step" 2 1 dR:=by
 refine uW [⟨0,0,[]⟩,⟨1,0,[]⟩] A qE rfl rfl (by decide) (by decide) (by decide) λf Sb A outer s H E hr=> ?_
 have hu:=bJ hr
 have S:=qE
 exact ae (aV 3 S.nd (aK hu (ac 1) (PQ.bo (qL gO fN (PQ.bo (ag)))))) (ae (aV 4 S.nd (Gx [1] (ce TN (hr.mono (by decide)) (a7 (aq 1) (a7 (aq 2) (ah)))))) (ae (GC 5 S.nd (AB Uz (hr.mono (by decide)) (i0 0 (pT (a7 (aq 2) (ah)))))) (ae (bw (qK.t (rX (aO lr j3 (ac 4) (PQ.bo (aJ))) (lA (aO lr j3 (PQ.bo (aK hu (ac 5) (PQ.bo (ag)))) (PQ.bo (aJ)))))) (al (kH (iY bL bf (ac 4) (PQ.bo (aK hu (ac 5) (PQ.bo (ag))))))) (aG)) (ae (bw (aO bL bf (PQ.bo (aK hu (ac 2) (PQ.bo (ag)))) (PQ.bo (aJ))) (ae (GJ 1) (al (kH (ce Si (hr.mono (by decide)) (a7 (aK hu (ac 5) (PQ.bo (ag))) (a7 (aK hu (PQ.bo (aK hu (ac 3) (PQ.bo (ag)))) (PQ.bo (qL gO fN (PQ.bo (ag))))) (ah))))))) (aG)) (ae (i8 1 (ce Ua (hr.mono (by decide)) (a7 (aq 3) (a7 (aq 2) (ah))))) (al (kH (ce Si (hr.mono (by decide)) (a7 (aK hu (ac 5) (PQ.bo (ag))) (a7 (ce Ub (hr.mono (by decide)) (a7 (aq 3) (a7 (aq 2) (ah)))) (ah)))))))))))
theorem nk:aB ["_law_model"] ["_law_model"] (ak kT):=⟨rfl,rfl,rfl,by decide+kernel,rfl,by decide+kernel,by decide+kernel⟩
theorem tj (A:cA K mg "_law_layout" kT ["_law_model"]) (B:Bl mg BN):bg P w K mg base 1 "_law_layout" 1 fu:=by
 refine bZ A nk rfl rfl λf Sb A outer s H E hr=> ?_
 have hu:=bJ hr
 have S:=nk
 exact al (b8 (b9 aH bq (B.no "tuple" (by decide)) L2.Pu.aW (ax (PQ.bo (cO (aY.of rfl (by first|decide+kernel|rfl)) rfl (cS (aK hu (ac 0) (PQ.bo (ag)))) (λ_ _ _=>b6 1 (show ([".0","_law_stream","_law_model"]:List Kw).Nodup by decide+kernel)) (λ_ _ _=>eE) (λ_ _ _=>ay aL aM (ac 1) (PQ.bo (bP (a7 (E7 hu (PQ.bo (aK hu (ac 1) (PQ.bo (ag)))) (PQ.bo (aK hu (ac 2) (PQ.bo (ag))))) (ah))))))) (aC))))
theorem oZ:aB ["_law_cellar","_law_model","_law_k"] ["_law_cellar","_law_model"] (ak lY):=⟨rfl,rfl,rfl,by decide+kernel,rfl,by decide+kernel,by decide+kernel⟩
theorem vc (A:cA K mg "_law_looks" lY ["_law_cellar","_law_model"]) (B:Bl mg BN) (Si:bg P w K mg base 8 "_law_same" 2 bn) (Td:bW P w K mg base 1 "Cellar" "layout" 1 dc) (Uc:bg P w K mg base 1 "_law_layout" 1 fu) (Tp:bW P w K mg base 1 "Cellar" "deeds" 1 dv) (Sd:bW P w K mg base 1 "Cellar" "days_gone" 1 bj) (UA:bg P w K mg base 9 "_law_kept" 2 hG) (Ud:bW P w K mg base 2 "Cellar" "day" 2 fq) (S6:cC K "Cellar" cq):bg P w K mg base 10 "_law_looks" 2 cT:=by
 refine bZ A oZ rfl rfl λf Sb A outer s H E hr=> ?_
 have hu:=bJ hr
 have S:=oZ
 exact ae (bw (qK.t (rX (lB (eP (PQ.bo (ce Si (hr.mono (by decide)) (a7 (bu S6 (by decide) (ac 0)) (a7 (aK hu (ac 1) (PQ.bo (ag))) (ah))))))) (lA (lB (eP (PQ.bo (ce Si (hr.mono (by decide)) (a7 (oK Td (hr.mono (by decide)) (aq 0)) (a7 (ce Uc (hr.mono (by decide)) (a7 (aq 1) (ah))) (ah)))))))))) (al (b8 (nE))) (aG)) (ae (bw (qK.t (rX (lB (eP (PQ.bo (ce Si (hr.mono (by decide)) (a7 (oK Tp (hr.mono (by decide)) (aq 0)) (a7 (aK hu (ac 1) (PQ.bo (ag))) (ah))))))) (lA (lB (eP (PQ.bo (ce Si (hr.mono (by decide)) (a7 (oK Sd (hr.mono (by decide)) (aq 0)) (a7 (aT b7 bH (B.no "len" (by decide)) Lb (ax (PQ.bo (aK hu (ac 1) (PQ.bo (ag)))) (aC))) (ah)))))))))) (al (b8 (nE))) (aG)) (ae (n6 LZ rfl (i7 (B.no "range" (by decide)) (a7 (aT b7 bH (B.no "len" (by decide)) Lb (ax (PQ.bo (aK hu (ac 1) (PQ.bo (ag)))) (aC))) (ah))) (b6 2 S.nd) (al (bw (lB (eP (PQ.bo (ce UA (hr.mono (by decide)) (a7 (pP Ud (hr.mono (by decide)) (aq 0) (a7 (ay aL aM (ac 2) (PQ.bo (ag))) (ah))) (a7 (aK hu (PQ.bo (aK hu (ac 1) (PQ.bo (ag)))) (ac 2)) (ah))))))) (al (b8 (nE))) (aG)))) (al (b8 (nE)))))
theorem la:aB ["_law_model","_law_cell_here","_law_mixed","_law_mode","_law_many","_law_figures_here","_law_flows_here","_law_readings","_law_k","_law_number","_law_amount","_law_other","_law_rises"] ["_law_model","_law_cell_here","_law_mixed"] (ak jg):=⟨rfl,rfl,rfl,by decide+kernel,rfl,by decide+kernel,by decide+kernel⟩
theorem qV (A:cA K mg "_law_day_deed" jg ["_law_model","_law_cell_here","_law_mixed"]) (B:Bl mg BN) (Sk:bg P w K mg base 1 "_law_figures" 4 bX) (Um:bg P w K mg base 2 "_law_flows" 5 ic):bg P w K mg base 3 "_law_day_deed" 3 cG:=by
 refine bZ A la rfl rfl λf Sb A outer s H E hr=> ?_
 have hu:=bJ hr
 have S:=la
 exact ae (aV 3 S.nd (ay bA ba (ac 1) (PQ.bo (ag)))) (ae (aV 4 S.nd (aT b7 bH (B.no "len" (by decide)) Lb (ax (PQ.bo (aK hu (ac 0) (PQ.bo (ag)))) (aC)))) (ae (aV 5 S.nd (ce Sk (hr.mono (by decide)) (a7 (ay eI dh (ac 1) (PQ.bo (ag))) (a7 (aq 2) (a7 (ay aL aM (PQ.bo (ay gB hZ (PQ.bo (ag)) (ac 4))) (PQ.bo (aK hu (ac 0) (PQ.bo (ag))))) (a7 (ag) (ah))))))) (ae (aV 6 S.nd (ce Um (hr.mono (by decide)) (a7 (aq 5) (a7 (aK hu (ac 0) (PQ.bo (ag))) (a7 (aK hu (ac 0) (PQ.bo (ag))) (a7 (aK hu (ac 0) (PQ.bo (ag))) (a7 (aK hu (PQ.bo (eJ (a7 (eJ (a7 (ag) (a7 (ag) (ah)))) (a7 (eJ (a7 (ag) (a7 (ag) (ah)))) (ah))))) (PQ.bo (b9 pC uR (B.no "int" (by decide)) L2.Pu.oH (ax (PQ.bo (iY jQ gR (ac 3) (PQ.bo (ag)))) (aC))))) (ah)))))))) (ae (lC 7 S.nd (ah)) (ae (n6 LZ rfl (i7 (B.no "range" (by decide)) (a7 (aq 4) (ah))) (b6 8 S.nd) (ae (BX (aK hu (PQ.bo (aK hu (ac 6) (PQ.bo (ag)))) (ac 8)) (BW rfl (f7 (b6 9 S.nd) (f7 (b6 10 S.nd) (uJ))))) (ae (aV 11 S.nd (aK hu (ac 5) (PQ.bo (ay aL aM (ac 4) (ac 8))))) (ae (bw (qK.t (rX (aO bL bf (ac 3) (PQ.bo (ag))) (lA (qK.t (tV (aO bL bf (ac 3) (PQ.bo (ag))) (pJ (aO bL bf (PQ.bo (ay bA ba (ac 11) (PQ.bo (ag)))) (PQ.bo (ag))))))))) (al (aV 10 S.nd (ay ii fM (PQ.bo (ay bA ba (PQ.bo (ay eI dh (ac 11) (PQ.bo (ag)))) (PQ.bo (ag)))) (PQ.bo (ag))))) (aG)) (ae (bw (qK.t (tV (aO bL bf (ac 3) (PQ.bo (ag))) (pJ (aO bL bf (PQ.bo (ay bA ba (ac 11) (PQ.bo (ag)))) (PQ.bo (ag)))))) (al (aV 10 S.nd (ay ii fM (PQ.bo (ay bA ba (PQ.bo (ay eI dh (ac 11) (PQ.bo (ag)))) (PQ.bo (ag)))) (PQ.bo (ag))))) (aG)) (al (bw (Ih hu (ac 9) (PQ.bo (aK hu (ac 0) (PQ.bo (ag))))) (al (i8 7 (bP (a7 (aq 9) (a7 (aq 10) (ah)))))) (aG)))))))) (ae (aV 12 S.nd (aK hu (ac 6) (PQ.bo (ag)))) (ae (bw (aO bL bf (ac 3) (PQ.bo (ag))) (al (aV 12 S.nd (b9 aH bq (B.no "tuple" (by decide)) L2.Pu.aW (ax (PQ.bo (cO (aY.of rfl (by first|decide+kernel|rfl)) rfl (i7 (B.no "range" (by decide)) (a7 (aK hu (ac 0) (PQ.bo (ag))) (ah))) (λ_ _ _=>b6 1 (show ([".0","_law_k","_law_figures_here","_law_many"]:List Kw).Nodup by decide+kernel)) (λ_ _ _=>eE) (λ_ _ _=>ay ii fM (PQ.bo (ay bA ba (PQ.bo (aK hu (ac 2) (PQ.bo (ay aL aM (PQ.bo (ay gB hZ (PQ.bo (ag)) (ac 3))) (ac 1))))) (PQ.bo (ag)))) (PQ.bo (ag))))) (aC))))) (aG)) (ae (bw (aO bL bf (PQ.bo (ay bA ba (PQ.bo (ay eI dh (ac 1) (PQ.bo (ag)))) (PQ.bo (ag)))) (PQ.bo (ag))) (al (aV 7 S.nd (Ii (ac 7)))) (aG)) (al (b8 (bP (a7 (aJ) (a7 (aq 12) (a7 (b9 aH bq (B.no "tuple" (by decide)) L2.Pu.aW (ax (ac 7) (aC))) (ah)))))))))))))))
theorem o_:aB ["_law_model","_law_figures_here","_law_there","_law_found","_law_one"] ["_law_model","_law_figures_here"] (ak l_):=⟨rfl,rfl,rfl,by decide+kernel,rfl,by decide+kernel,by decide+kernel⟩
theorem ve (A:cA K mg "_law_names" l_ ["_law_model","_law_figures_here"]) (B:Bl mg BN):bg P w K mg base 1 "_law_names" 2 dF:=by
 refine bZ A o_ rfl rfl λf Sb A outer s H E hr=> ?_
 have hu:=bJ hr
 have S:=o_
 exact ae (xO 2 (aY.of rfl (by first|decide+kernel|rfl)) rfl S.nd (cS (aK hu (ac 0) (PQ.bo (ag)))) (λ_ _ _=>b6 1 (show ([".0","_law_stream"]:List Kw).Nodup by decide+kernel)) (λ_ _ _=>eE) (λ_ _ _=>aK hu (ac 1) (PQ.bo (ag)))) (ae (lC 3 S.nd (ah)) (ae (n6 LZ rfl (cS (aq 1)) (b6 4 S.nd) (al (bw (qK.t (rX (aO (GB hu) Eh (ac 2) (PQ.bo (eJ (ah)))) (lA (aO bL bf (PQ.bo (ay bA ba (ac 4) (PQ.bo (ag)))) (PQ.bo (ag)))))) (al (i8 3 (ay ii fM (PQ.bo (ay bA ba (PQ.bo (ay eI dh (ac 4) (PQ.bo (ag)))) (PQ.bo (ag)))) (PQ.bo (ag))))) (al (i8 3 (aK hu (ac 2) (PQ.bo (ay bA ba (PQ.bo (ay eI dh (ac 4) (PQ.bo (ag)))) (PQ.bo (aT b7 bH (B.no "len" (by decide)) Lb (ax (ac 2) (aC)))))))))))) (al (b8 (b9 aH bq (B.no "tuple" (by decide)) L2.Pu.aW (ax (ac 3) (aC)))))))
theorem qF:aB ["_law_day","_law_figure","_law_rises","_law_readings"] ["_law_day","_law_figure"] (ak n_):=⟨rfl,rfl,rfl,by decide+kernel,rfl,by decide+kernel,by decide+kernel⟩
theorem wR (A:cA K mg "_law_bent" n_ ["_law_day","_law_figure"]) (B:Bl mg BN):bg P w K mg base 1 "_law_bent" 2 ji:=by
 refine bZ A qF rfl rfl λf Sb A outer s H E hr=> ?_
 have hu:=bJ hr
 have S:=qF
 exact ae (aV 2 S.nd (aK hu (ac 0) (PQ.bo (ag)))) (ae (aV 3 S.nd (aK hu (ac 0) (PQ.bo (ag)))) (ae (bw (aO bL bf (PQ.bo (ay bA ba (ac 1) (PQ.bo (ag)))) (PQ.bo (ag))) (al (aV 2 S.nd (ay aL aM (ac 2) (PQ.bo (bP (a7 (ag) (ah))))))) (al (bw (aO bL bf (PQ.bo (ay bA ba (ac 1) (PQ.bo (ag)))) (PQ.bo (ag))) (al (aV 3 S.nd (ay aL aM (ac 3) (PQ.bo (bP (a7 (bP (a7 (ay bA ba (PQ.bo (ay eI dh (ac 1) (PQ.bo (ag)))) (PQ.bo (ag))) (a7 (ag) (ah)))) (ah))))))) (al (bw (aO bL bf (PQ.bo (ay bA ba (ac 1) (PQ.bo (ag)))) (PQ.bo (ag))) (al (aV 3 S.nd (ay aL aM (PQ.bo (bP (a7 (bP (a7 (ay bA ba (PQ.bo (ay eI dh (ac 1) (PQ.bo (ag)))) (PQ.bo (ag))) (a7 (qL gO fN (PQ.bo (ag))) (ah)))) (ah)))) (PQ.bo (kA (ac 3) (nI (ag)) (nH)))))) (al (bw (aO bL bf (PQ.bo (ay bA ba (ac 1) (PQ.bo (ag)))) (PQ.bo (ag))) (al (aV 3 S.nd (kA (ac 3) (nH) (nI (qL gO fN (PQ.bo (ag))))))) (al (aV 2 S.nd (b9 aH bq (B.no "tuple" (by decide)) L2.Pu.aW (ax (PQ.bo (cO (aY.of rfl (by first|decide+kernel|rfl)) rfl (cS (aq 2)) (λ_ _ _=>b6 1 (show ([".0","_law_rise"]:List Kw).Nodup by decide+kernel)) (λ_ _ _=>eE) (λ_ _ _=>ay aL aM (PQ.bo (ay gB hZ (ac 1) (PQ.bo (ag)))) (PQ.bo (ag))))) (aC)))))))))))) (al (b8 (bP (a7 (aJ) (a7 (aq 2) (a7 (aq 3) (ah)))))))))
theorem qG:aB ["_law_model","_law_cell_here","_law_mixed","_law_kind","_law_count","_law_figures_here","_law_source","_law_day"] ["_law_model","_law_cell_here","_law_mixed"] (ak o1):=⟨rfl,rfl,rfl,by decide+kernel,rfl,by decide+kernel,by decide+kernel⟩
theorem wU (A:cA K mg "_law_deed" o1 ["_law_model","_law_cell_here","_law_mixed"]) (B:Bl mg BN) (Sk:bg P w K mg base 1 "_law_figures" 4 bX) (T4:bg P w K mg base 1 "_law_names" 2 dF) (Sx:bg P w K mg base 3 "_law_day_deed" 3 cG) (UB:bg P w K mg base 1 "_law_bent" 2 ji):bg P w K mg base 4 "_law_deed" 3 jj:=by
 refine bZ A qG rfl rfl λf Sb A outer s H E hr=> ?_
 have hu:=bJ hr
 have S:=qG
 exact ae (aV 3 S.nd (ay bA ba (ac 1) (PQ.bo (ag)))) (ae (aV 4 S.nd (ay bA ba (PQ.bo (ay eI dh (ac 1) (PQ.bo (ag)))) (PQ.bo (ag)))) (ae (aV 5 S.nd (ce Sk (hr.mono (by decide)) (a7 (ay eI dh (ac 1) (PQ.bo (ag))) (a7 (aq 2) (a7 (ag) (a7 (ag) (ah))))))) (ae (bw (aO k_ ik (ac 3) (PQ.bo (ag))) (ae (aV 6 S.nd (ay bA ba (PQ.bo (aK hu (ac 5) (PQ.bo (ag)))) (PQ.bo (ay aL aM (PQ.bo (aK hu (ac 0) (PQ.bo (ag)))) (PQ.bo (ag)))))) (ae (bw (aO bL bf (PQ.bo (ay bA ba (PQ.bo (aK hu (ac 5) (PQ.bo (ag)))) (PQ.bo (ag)))) (PQ.bo (ag))) (al (b8 (bP (a7 (aJ) (a7 (ay ii fM (PQ.bo (ay bA ba (PQ.bo (aK hu (ac 5) (PQ.bo (ag)))) (PQ.bo (ag)))) (PQ.bo (ag))) (a7 (ay ii fM (PQ.bo (ay bA ba (PQ.bo (aK hu (ac 5) (PQ.bo (ag)))) (PQ.bo (ag)))) (PQ.bo (ag))) (ah))))))) (aG)) (ae (bw (aO bL bf (PQ.bo (aK hu (ac 0) (PQ.bo (ag)))) (PQ.bo (ag))) (al (b8 (bP (a7 (aJ) (a7 (ag) (a7 (ay bA ba (PQ.bo (aK hu (ac 5) (PQ.bo (ag)))) (PQ.bo (ag))) (ah))))))) (aG)) (al (b8 (bP (a7 (aJ) (a7 (aq 6) (a7 (ay bA ba (PQ.bo (ay aL aM (PQ.bo (ay aL aM (ac 6) (PQ.bo (ag)))) (PQ.bo (ay bA ba (PQ.bo (aK hu (ac 5) (PQ.bo (ag)))) (PQ.bo (aK hu (ac 0) (PQ.bo (ag)))))))) (PQ.bo (ay aL aM (PQ.bo (aK hu (ac 0) (PQ.bo (ag)))) (PQ.bo (ag))))) (ah)))))))))) (aG)) (ae (bw (aO bL bf (ac 3) (PQ.bo (ag))) (al (b8 (bP (a7 (aJ) (a7 (aK hu (PQ.bo (ce T4 (hr.mono (by decide)) (a7 (aq 0) (a7 (kA (ac 5) (nH) (nI (ag))) (ah))))) (PQ.bo (ag))) (ah)))))) (aG)) (ae (bw (aO k_ ik (ac 3) (PQ.bo (ag))) (al (b8 (bP (a7 (aJ) (a7 (ce T4 (hr.mono (by decide)) (a7 (aq 0) (a7 (kA (ac 5) (nH) (nI (aq 4))) (ah)))) (ah)))))) (aG)) (ae (bw (aO bL bf (ac 3) (PQ.bo (ag))) (al (b8 (bP (a7 (aJ) (a7 (ce T4 (hr.mono (by decide)) (a7 (aq 0) (a7 (kA (ac 5) (nH) (nI (aq 4))) (ah)))) (ah)))))) (aG)) (ae (bw (aO k_ ik (ac 3) (PQ.bo (ag))) (ae (aV 7 S.nd (ce Sx (hr.mono (by decide)) (a7 (aq 0) (a7 (ay eI dh (ac 1) (PQ.bo (ag))) (a7 (aq 2) (ah)))))) (ae (bw (aO bL bf (ac 4) (PQ.bo (ag))) (al (b8 (ce UB (hr.mono (by decide)) (a7 (aq 7) (a7 (aK hu (ac 5) (PQ.bo (ag))) (ah)))))) (aG)) (al (b8 (aq 7))))) (aG)) (al (b8 (bP (a7 (aJ) (ah))))))))))))
theorem jA:aB ["_law_script","_law_n","_law_mixed","_law_many","_law_sources","_law_targets","_law_fitted","_law_share","_law_deeds","_law_k","_law_source","_law_named"] ["_law_script","_law_n"] (ak hJ):=⟨rfl,rfl,rfl,by decide+kernel,rfl,by decide+kernel,by decide+kernel⟩
theorem p0 (A:cA K mg "_law_furnishing" hJ ["_law_script","_law_n"]) (B:Bl mg BN) (SE:bg P w K mg base 1 "_law_at" 2 d0) (Sn:bg P w K mg base 2 "_law_cell" 2 cc) (Sk:bg P w K mg base 1 "_law_figures" 4 bX):bg P w K mg base 3 "_law_furnishing" 2 dw:=by
 refine bZ A jA rfl rfl λf Sb A outer s H E hr=> ?_
 have hu:=bJ hr
 have S:=jA
 exact ae (aV 2 S.nd (iY bL bf (PQ.bo (ay bA ba (PQ.bo (ce SE (hr.mono (by decide)) (a7 (aq 0) (a7 (ag) (ah))))) (PQ.bo (ag)))) (PQ.bo (ag)))) (ae (aV 3 S.nd (ay gB hZ (PQ.bo (aT (pB rfl) uQ (B.no "min" (by decide)) L2.Pu.se (ax (ac 1) (ax (PQ.bo (ag)) (aC))))) (PQ.bo (ay bA ba (PQ.bo (ce Sn (hr.mono (by decide)) (a7 (aq 0) (a7 (ag) (ah))))) (PQ.bo (ag)))))) (ae (aV 4 S.nd (ce Sk (hr.mono (by decide)) (a7 (ce Sn (hr.mono (by decide)) (a7 (aq 0) (a7 (ag) (ah)))) (a7 (aq 2) (a7 (aq 3) (a7 (ag) (ah))))))) (ae (aV 5 S.nd (ce Sk (hr.mono (by decide)) (a7 (ce Sn (hr.mono (by decide)) (a7 (aq 0) (a7 (ag) (ah)))) (a7 (aq 2) (a7 (aq 3) (a7 (ag) (ah))))))) (ae (aV 6 S.nd (ce Sk (hr.mono (by decide)) (a7 (ay eI dh (PQ.bo (ce Sn (hr.mono (by decide)) (a7 (aq 0) (a7 (ag) (ah))))) (PQ.bo (ag))) (a7 (aq 2) (a7 (aq 3) (a7 (ag) (ah))))))) (ae (aV 7 S.nd (ay bA ba (PQ.bo (ce Sn (hr.mono (by decide)) (a7 (aq 0) (a7 (ag) (ah))))) (PQ.bo (ag)))) (ae (lC 8 S.nd (ah)) (ae (n6 LZ rfl (i7 (B.no "range" (by decide)) (a7 (aq 3) (ah))) (b6 9 S.nd) (ae (aV 10 S.nd (ay bA ba (PQ.bo (aK hu (ac 4) (ac 9))) (PQ.bo (ay aL aM (ac 1) (PQ.bo (ag)))))) (al (i8 8 (bP (a7 (aJ) (a7 (aq 10) (a7 (ay bA ba (PQ.bo (ay aL aM (PQ.bo (ay aL aM (ac 10) (PQ.bo (ag)))) (PQ.bo (ay bA ba (PQ.bo (aK hu (ac 5) (ac 9))) (ac 1))))) (PQ.bo (ay aL aM (ac 1) (PQ.bo (ag))))) (ah))))))))) (ae (xO 11 (aY.of rfl (by first|decide+kernel|rfl)) rfl S.nd (i7 (B.no "range" (by decide)) (a7 (aq 3) (ah))) (λ_ _ _=>b6 1 (show ([".0","_law_k","_law_fitted","_law_share"]:List Kw).Nodup by decide+kernel)) (λ_ _ _=>gQ (aO k_ ik (PQ.bo (aK hu (ac 2) (ac 1))) (ac 3))) (λ_ _ _=>ay aL aM (ac 1) (PQ.bo (ag)))) (al (b8 (ay aL aM (ac 8) (PQ.bo (eJ (a7 (bP (a7 (aJ) (a7 (b9 aH bq (B.no "tuple" (by decide)) L2.Pu.aW (ax (PQ.bo (kA (ac 11) (nH) (nI (ag)))) (aC))) (ah)))) (ah)))))))))))))))
theorem kl:aB ["_law_cellar","_law_past","_law_script","_law_deed_here"] ["_law_cellar","_law_past","_law_script"] (ak iy):=⟨rfl,rfl,rfl,by decide+kernel,rfl,by decide+kernel,by decide+kernel⟩
theorem qb (A:cA K mg "_law_furnished" iy ["_law_cellar","_law_past","_law_script"]) (B:Bl mg BN) (T2:bg P w K mg base 3 "_law_furnishing" 2 dw) (SQ:xZ P w K mg base 9 "_law_step" 2 1 dR):xZ P w K mg base 10 "_law_furnished" 2 1 eh:=by
 refine uW [⟨0,0,[]⟩,⟨1,0,[]⟩] A kl rfl rfl (by decide) (by decide) (by decide) λf Sb A outer s H E hr=> ?_
 have hu:=bJ hr
 have S:=kl
 exact ae (n6 LZ rfl (cS (ce T2 (hr.mono (by decide)) (a7 (aq 2) (a7 (aK hu (PQ.bo (aK hu (ac 1) (PQ.bo (ag)))) (PQ.bo (ag))) (ah))))) (b6 3 S.nd) (al (CI (y6 (y3 (AB SQ (hr.mono (by decide)) (i0 0 (i0 1 (pT (a7 (aq 3) (ah)))))))) (al (kH (nE))) (aG)))) (al (kH (nE)))
theorem p7:aB ["_law_script","_law_n"] ["_law_script"] (ak m7):=⟨rfl,rfl,rfl,by decide+kernel,rfl,by decide+kernel,by decide+kernel⟩
theorem vf (A:cA K mg "_law_begun" m7 ["_law_script"]) (B:Bl mg BN) (Sn:bg P w K mg base 2 "_law_cell" 2 cc):IH P w K mg base 3 "_law_begun" 1 gg:=by
 refine GN A p7 rfl rfl λf Sb A outer s H E hr=> ?_
 have hu:=bJ hr
 have S:=p7
 exact Et (aV 1 S.nd (ay bA ba (PQ.bo (ce Sn (hr.mono (by decide)) (a7 (aq 0) (a7 (ag) (ah))))) (PQ.bo (ag)))) (GL (IG (a7 (bP (a7 (aq 1) (a7 (ag) (a7 (bP (ah)) (a7 (bP (ah)) (a7 (bP (ah)) (a7 (bP (ah)) (ah)))))))) (ah))))
theorem CS:aB ["_law_script","_law_past","_law_cellar","_law_mixed","_law_k","_law_deed_here"] ["_law_script"] (ak sE):=⟨rfl,rfl,rfl,by decide+kernel,rfl,by decide+kernel,by decide+kernel⟩
theorem GQ {f:Kx} {fd:M0} (F:yK K "law" "law" sE f fd) (B:Bl mg BN) (Uo:IH P w K mg base 3 "_law_begun" 1 gg) (TQ:wH P w K mg base 3 "Cellar" 1 eu) (SE:bg P w K mg base 1 "_law_at" 2 d0) (Te:xZ P w K mg base 10 "_law_furnished" 2 1 eh) (SQ:xZ P w K mg base 9 "_law_step" 2 1 dR) (UC:bg P w K mg base 4 "_law_deed" 3 jj) (Sn:bg P w K mg base 2 "_law_cell" 2 cc) (Tw:bg P w K mg base 10 "_law_looks" 2 cT) (Sx:bg P w K mg base 3 "_law_day_deed" 3 cG):fJ P w K mg base (lg P w) 11 f fd ["_law_script"] (Ah K 1 um):=by
 refine Gf F CS rfl rfl λSb A outer s H E hr=> ?_
 have hu:=bJ hr
 have S:=CS
 exact ae (Cw 1 S.nd (JI Uo (hr.mono (by decide)) (a7 (aq 0) (ah)))) (ae (Em 2 S.nd TQ (hr.mono (by decide)) (a7 (aK hu (PQ.bo (aK hu (ac 1) (PQ.bo (ag)))) (PQ.bo (ag))) (ah))) (ae (aV 3 S.nd (iY bL bf (PQ.bo (ay bA ba (PQ.bo (ce SE (hr.mono (by decide)) (a7 (aq 0) (a7 (ag) (ah))))) (PQ.bo (ag)))) (PQ.bo (ag)))) (ae (CI (y6 (y3 (AB Te (hr.mono (by decide)) (i0 2 (i0 1 (pT (a7 (aq 0) (ah)))))))) (al (b8 (nE))) (aG)) (ae (n6 LZ rfl (B_ (B.no "range" (by decide)) (a7 (ag) (a7 (aT b7 bH (B.no "len" (by decide)) Lb (ax (ac 0) (aC))) (ah)))) (b6 4 S.nd) (ae (CI (y6 (y3 (AB SQ (hr.mono (by decide)) (i0 2 (i0 1 (pT (a7 (ce UC (hr.mono (by decide)) (a7 (aK hu (ac 1) (PQ.bo (qL gO fN (PQ.bo (ag))))) (a7 (ce Sn (hr.mono (by decide)) (a7 (aq 0) (a7 (aq 4) (ah)))) (a7 (aq 3) (ah))))) (ah)))))))) (al (b8 (nE))) (aG)) (al (bw (zk [2] (lB (eP (PQ.bo (ce Tw (hr.mono (by decide)) (a7 (aq 2) (a7 (aK hu (ac 1) (PQ.bo (qL gO fN (PQ.bo (ag))))) (ah)))))))) (al (b8 (nE))) (aG))))) (ae (aV 5 S.nd (ce Sx (hr.mono (by decide)) (a7 (aK hu (ac 1) (PQ.bo (qL gO fN (PQ.bo (ag))))) (a7 (ce Sn (hr.mono (by decide)) (a7 (aq 0) (a7 (ay aL aM (PQ.bo (ag)) (PQ.bo (aT b7 bH (B.no "len" (by decide)) Lb (ax (ac 0) (aC))))) (ah)))) (a7 (aq 3) (ah)))))) (al (GK (IF (AB SQ (hr.mono (by decide)) (i0 2 (i0 1 (pT (a7 (aq 5) (ah)))))) (IE (Kp (zj "history" [2] (ce Tw (hr.mono (by decide)) (a7 (aq 2) (a7 (aK hu (ac 1) (PQ.bo (qL gO fN (PQ.bo (ag))))) (ah)))))))))))))))
theorem GR {l:PM} {h:L4} {fa Tx Se Sg T3 UD X0 X1 X2 X3 X4 X5 X6 X7 X8 X9 Vf Vg Vh Vi Vj Vk:Kx} (X:K.In h) (G:h.Ns KJ mg) (a2b:mg "law"=some (.ref fa))
  (XF:KQ K KJ "Day"=some (some (.ref Tx)))
  (V6:KQ K KJ "Standing"=some (some (.ref Se)))
  (V_:KQ K KJ "Cellar"=some (some (.ref Sg)))
  (Vo:KQ K KJ "CellarError"=some (some (.ref T3)))
  (Wn:KQ K KJ "Clashing"=some (some (.ref UD)))
  (N:v6 K RL [X0,X1,X2,X3,X4,X5,X6,X7,X8,X9,Vf,Vg,Vh,Vi,Vj,Vk])
  (Y9:MD K Tx QK=true)
  (Ya:ML K Tx=true)
  (Yb:N9 K Tx=true)
  (Yc:KY K (.ref Tx) "__setattr__"=some (some (.builtin "object.__setattr__")))
  (W0:KY K (.ref Tx) "tanks"=some none)
  (Vp:KY K (.ref Tx) "streams"=some none)
  (W2:KY K (.ref Tx) "rises"=some none)
  (V7:KY K (.ref Tx) "readings"=some none)
  (Yd:N1 K Tx=true)
  (Ye:Ly K (.ref Tx)=true)
  (W3:MD K Se QK=true)
  (W4:ML K Se=true)
  (W5:N9 K Se=true)
  (W6:KY K (.ref Se) "__setattr__"=some (some (.builtin "object.__setattr__")))
  (U_:KY K (.ref Se) "came"=some none)
  (UE:KY K (.ref Se) "streams"=some none)
  (UK:KY K (.ref Se) "meters"=some none)
  (UL:KY K (.ref Se) "passed"=some none)
  (W7:N1 K Se=true)
  (W8:Ly K (.ref Se)=true)
  (WN:MD K Sg QK=true)
  (WO:ML K Sg=true)
  (WQ:N9 K Sg=true)
  (WR:KY K (.ref Sg) "__setattr__"=some (some (.builtin "object.__setattr__")))
  (V8:KY K (.ref Sg) "tanks"=some none)
  (VM:KY K (.ref Sg) "now"=some none)
  (UP:KY K (.ref Sg) "history"=some none)
  (WS:N1 K Sg=true)
  (WT:Ly K (.ref Sg)=true)
  (u1:qw K Tx "__init__" "Day.__init__" kJ)
  (u2:qw K Se "__init__" "Standing.__init__" fP)
  (u3:qw K Se "with_stream" "Standing.with_stream" dM)
  (u4:qw K Se "without_stream" "Standing.without_stream" d6)
  (u5:qw K Se "with_meters" "Standing.with_meters" dO)
  (u6:qw K Se "without_meters" "Standing.without_meters" d8)
  (u7:qw K Se "with_day" "Standing.with_day" fF)
  (u8:UF K "refuse_places" ip)
  (u9:UF K "refuse_numbers" g_)
  (a2c:UF K "refuse_unmetered" fR)
  (a2d:UF K "refuse_amounts" hE)
  (a2e:qw K Sg "__init__" "Cellar.__init__" i3)
  (a2f:qw K Sg "keep_deed" "Cellar.keep_deed" fS)
  (a2g:qw K Sg "stream_comes" "Cellar.stream_comes" eG)
  (a2h:qw K Sg "stream_goes" "Cellar.stream_goes" eS)
  (a2i:qw K Sg "meters_come" "Cellar.meters_come" eU)
  (a2j:qw K Sg "meters_go" "Cellar.meters_go" fV)
  (a2k:qw K Sg "days_gone" "Cellar.days_gone" fW)
  (a2l:qw K Sg "day_passes" "Cellar.day_passes" fG)
  (a2m:qw K Sg "take_back" "Cellar.take_back" fX)
  (a2n:qw K Sg "layout" "Cellar.layout" iq)
  (a2o:qw K Sg "deeds" "Cellar.deeds" jc)
  (a2p:qw K Sg "day" "Cellar.day" kL)
  (a2q:UF K "_law_at" sB)
  (a2r:UF K "_law_cell" nS)
  (a2s:UF K "_law_figures" jK)
  (a2t:UF K "_law_same" kN)
  (a2u:UF K "_law_span" nU)
  (a2v:UF K "_law_flows" lV)
  (a2w:UF K "_law_kept" nW)
  (a2x:UF K "_law_do" sC)
  (a2y:UF K "_law_done" nY)
  (a2z:UF K "_law_no_stream" iu)
  (a2A:UF K "_law_no_names" jf)
  (a2B:UF K "_law_no_day" kO)
  (a2C:UF K "_law_no_meters" ix)
  (a2D:UF K "_law_refusal" jM)
  (a2E:UF K "_law_behind" kP)
  (a2F:UF K "_law_answer" kR)
  (a2G:UF K "_law_step" nZ)
  (a2H:UF K "_law_layout" kT)
  (a2I:UF K "_law_looks" lY)
  (a2J:UF K "_law_day_deed" jg)
  (a2K:UF K "_law_names" l_)
  (a2L:UF K "_law_bent" n_)
  (a2M:UF K "_law_deed" o1)
  (a2N:UF K "_law_furnishing" hJ)
  (a2O:UF K "_law_furnished" iy)
  (a2P:UF K "_law_begun" m7)
  (a2Q:UF K "law" sE)
  (Z:Hi K)
  (E:ya K [X0,X1,X2,X3,X4,X5,X6,X7,X8,X9,Vf,Vg,Vh,Vi,Vj,Vk])
  (V9:LS K T3 vT "ValueError.__new__"=true)
  (Va:Lr K T3 (.type "BaseException")=some true)
  (W9:LS K UD vT "ValueError.__new__"=true)
  (UQ:im K (.ref X7) (·==7) 0 [X0,X1,X2,X3,X4,X5,X6,X7,X8,X9,Vf,Vg,Vh,Vi,Vj,Vk])
  (Wo:im K (.ref X0) (·==0) 0 [X0,X1,X2,X3,X4,X5,X6,X7,X8,X9,Vf,Vg,Vh,Vi,Vj,Vk])
  (Wq:im K (.ref UD) (λ_=>false) 0 [X0,X1,X2,X3,X4,X5,X6,X7,X8,X9,Vf,Vg,Vh,Vi,Vj,Vk])
  (VN:im K (.ref X8) (·==8) 0 [X0,X1,X2,X3,X4,X5,X6,X7,X8,X9,Vf,Vg,Vh,Vi,Vj,Vk])
  (Vq:im K (.ref Vk) (·==15) 0 [X0,X1,X2,X3,X4,X5,X6,X7,X8,X9,Vf,Vg,Vh,Vi,Vj,Vk])
  (VO:im K (.ref Vf) (·==10) 0 [X0,X1,X2,X3,X4,X5,X6,X7,X8,X9,Vf,Vg,Vh,Vi,Vj,Vk])
  (UR:im K (.ref X9) (·==9) 0 [X0,X1,X2,X3,X4,X5,X6,X7,X8,X9,Vf,Vg,Vh,Vi,Vj,Vk])
  (Wa:im K (.ref X3) (·==3) 0 [X0,X1,X2,X3,X4,X5,X6,X7,X8,X9,Vf,Vg,Vh,Vi,Vj,Vk])
  (Vr:im K (.ref Vi) (·==13) 0 [X0,X1,X2,X3,X4,X5,X6,X7,X8,X9,Vf,Vg,Vh,Vi,Vj,Vk])
  (Vb:im K (.ref Vj) (·==14) 0 [X0,X1,X2,X3,X4,X5,X6,X7,X8,X9,Vf,Vg,Vh,Vi,Vj,Vk])
  (V0:im K (.ref Vh) (·==12) 0 [X0,X1,X2,X3,X4,X5,X6,X7,X8,X9,Vf,Vg,Vh,Vi,Vj,Vk])
  (US:im K (.ref Vg) (·==11) 0 [X0,X1,X2,X3,X4,X5,X6,X7,X8,X9,Vf,Vg,Vh,Vi,Vj,Vk])
  (Xu:im K (.ref X6) (·==6) 0 [X0,X1,X2,X3,X4,X5,X6,X7,X8,X9,Vf,Vg,Vh,Vi,Vj,Vk])
  (VP:im K (.ref X1) (·==1) 0 [X0,X1,X2,X3,X4,X5,X6,X7,X8,X9,Vf,Vg,Vh,Vi,Vj,Vk])
  (Vc:im K (.ref X2) (·==2) 0 [X0,X1,X2,X3,X4,X5,X6,X7,X8,X9,Vf,Vg,Vh,Vi,Vj,Vk])
  (V1:im K (.ref X5) (·==5) 0 [X0,X1,X2,X3,X4,X5,X6,X7,X8,X9,Vf,Vg,Vh,Vi,Vj,Vk])
  (VQ:im K (.type "ValueError") (λ_=>true) 0 [X0,X1,X2,X3,X4,X5,X6,X7,X8,X9,Vf,Vg,Vh,Vi,Vj,Vk])
  (VR:im K (.ref X4) (·==4) 0 [X0,X1,X2,X3,X4,X5,X6,X7,X8,X9,Vf,Vg,Vh,Vi,Vj,Vk])
  (Vs:im K (.ref T3) (λ_=>true) 0 [X0,X1,X2,X3,X4,X5,X6,X7,X8,X9,Vf,Vg,Vh,Vi,Vj,Vk])
  {Tz:NI}
  (Vt:KQ K KJ "MOST_AMOUNT"=some (some (.int 1000 Tz)))
  {Uk:NI}
  (Wb:KQ K KJ "MOST_DAYS"=some (some (.int 12 Uk)))
  {U0:NI}
  (VS:KQ K KJ "MOST_DEEDS"=some (some (.int 60 U0)))
  {TF:NI}
  (Vu:KQ K KJ "MOST_METERS"=some (some (.int 10 TF)))
  {Ti:NI}
  (Vd:KQ K KJ "MOST_STREAMS"=some (some (.int 12 Ti)))
  {T_:NI}
  (VT:KQ K KJ "MOST_TANKS"=some (some (.int 7 T_)))
  {UO:NI}
  (WU:KQ K KJ "OUTSIDE"=some (some (.int 0 UO)))
  (z0:KQ K KJ "ValueError"=some none)
  (z1:KQ K KJ "abs"=some none)
  (z2:KQ K KJ "any"=some none)
  (z3:KQ K KJ "bool"=some none)
  (z4:KQ K KJ "int"=some none)
  (z5:KQ K KJ "isinstance"=some none)
  (z6:KQ K KJ "len"=some none)
  (z7:KQ K KJ "list"=some none)
  (z8:KQ K KJ "max"=some none)
  (z9:KQ K KJ "min"=some none)
  (Zl:KQ K KJ "range"=some none)
  (Zm:KQ K KJ "set"=some none)
  (a1b:KQ K KJ "sorted"=some none)
  (a1c:KQ K KJ "str"=some none)
  (a2R:KQ K KJ "tuple"=some none)
  :∃fd:M0,(∀(s:Ky) (v:Kv),Q8 s fd ⟨[v],[]⟩ [("_law_script",v)])/\∀base:L4,K.In base->base.Ns KJ mg->fJ l.prog w K mg base (lg l.prog w) 11 fa fd ["_law_script"] (Ah K 1 um):=by
 obtain⟨f0,a3A,a3B,a2S,a2T,a2U,a2V,a2W,a2X,a3C,a0,l0,c0,k0⟩:=a2Q
 have e:=a2b.symm.trans (Le X G a0)
 cases e
 have B:Bl mg BN:=⟨λx hx=>by
  simp only[BN,KR,LH,or_false]at hx
  rcases hx with rfl|rfl|rfl|rfl|rfl|rfl|rfl|rfl|rfl|rfl|rfl|rfl|rfl|rfl|rfl
  ·exact Lw X G z0
  ·exact Lw X G z1
  ·exact Lw X G z2
  ·exact Lw X G z3
  ·exact Lw X G z4
  ·exact Lw X G z5
  ·exact Lw X G z6
  ·exact Lw X G z7
  ·exact Lw X G z8
  ·exact Lw X G z9
  ·exact Lw X G Zl
  ·exact Lw X G Zm
  ·exact Lw X G a1b
  ·exact Lw X G a1c
  ·exact Lw X G a2R⟩
 have Xd:jv K "Day" Tx:=⟨XF,Y9,Ya,Yb,Yc⟩
 have Xe:∀x∈sv,eC K Tx x:=λx hx=>by
  simp only[sv,KR,LH,or_false]at hx
  rcases hx with rfl|rfl|rfl|rfl
  ·exact W0
  ·exact Vp
  ·exact W2
  ·exact V7
 have Vz:cC K "Day" sv:=⟨_,Xd,Xe⟩
 have SI:jv K "Standing" Se:=⟨V6,W3,W4,W5,W6⟩
 have UX:∀x∈bD,eC K Se x:=λx hx=>by
  simp only[bD,KR,LH,or_false]at hx
  rcases hx with rfl|rfl|rfl|rfl
  ·exact U_
  ·exact UE
  ·exact UK
  ·exact UL
 have S5:cC K "Standing" bD:=⟨_,SI,UX⟩
 have Sr:jv K "Cellar" Sg:=⟨V_,WN,WO,WQ,WR⟩
 have VA:∀x∈cq,eC K Sg x:=λx hx=>by
  simp only[cq,KR,LH,or_false]at hx
  rcases hx with rfl|rfl|rfl
  ·exact V8
  ·exact VM
  ·exact UP
 have S6:cC K "Cellar" cq:=⟨_,Sr,VA⟩
 have Tg:=Le X G Vt
 have U1:=Le X G Wb
 have TC:=Le X G VS
 have Tj:=Le X G Vu
 have T7:=Le X G Vd
 have TB:=Le X G VT
 have Ut:=Le X G WU
 have SW:cI K mg "AlreadyMetered":=di Z X G N E _ (by decide+kernel)
 have Uu:cI K mg "BadTanks":=di Z X G N E _ (by decide+kernel)
 have TY:cI K mg "NotMetered":=di Z X G N E _ (by decide+kernel)
 have TJ:cI K mg "NothingDone":=di Z X G N E _ (by decide+kernel)
 have TZ:cI K mg "OutOfRange":=di Z X G N E _ (by decide+kernel)
 have SX:cI K mg "ReadingMissing":=di Z X G N E _ (by decide+kernel)
 have Uj:cI K mg "SamePlace":=di Z X G N E _ (by decide+kernel)
 have TH:cI K mg "TooManyDays":=di Z X G N E _ (by decide+kernel)
 have Th:cI K mg "TooManyDeeds":=di Z X G N E _ (by decide+kernel)
 have T8:cI K mg "TooManyMeters":=di Z X G N E _ (by decide+kernel)
 have SV:cI K mg "TooManyStreams":=di Z X G N E _ (by decide+kernel)
 have VJ:cI K mg "Twice":=di Z X G N E _ (by decide+kernel)
 have U3:cI K mg "UnknownDay":=di Z X G N E _ (by decide+kernel)
 have Tf:cI K mg "UnknownPlace":=di Z X G N E _ (by decide+kernel)
 have T5:cI K mg "UnknownStream":=di Z X G N E _ (by decide+kernel)
 have U2:cI K mg "WrongRises":=di Z X G N E _ (by decide+kernel)
 have SY:eM K mg "AlreadyMetered" (tb 7):=cD Z N E (Le X G (bz N E "AlreadyMetered" _ rfl).1) (bz N E "AlreadyMetered" _ rfl).2.1 UQ
 have Ux:eM K mg "BadTanks" (tb 0):=cD Z N E (Le X G (bz N E "BadTanks" _ rfl).1) (bz N E "BadTanks" _ rfl).2.1 Wo
 have Uy:eM K mg "Clashing" JK:=cD Z N E (Le X G Wn) W9 Wq
 have U4:eM K mg "NotMetered" (tb 8):=cD Z N E (Le X G (bz N E "NotMetered" _ rfl).1) (bz N E "NotMetered" _ rfl).2.1 VN
 have TK:eM K mg "NothingDone" (tb 15):=cD Z N E (Le X G (bz N E "NothingDone" _ rfl).1) (bz N E "NothingDone" _ rfl).2.1 Vq
 have U5:eM K mg "OutOfRange" (tb 10):=cD Z N E (Le X G (bz N E "OutOfRange" _ rfl).1) (bz N E "OutOfRange" _ rfl).2.1 VO
 have S_:eM K mg "ReadingMissing" (tb 9):=cD Z N E (Le X G (bz N E "ReadingMissing" _ rfl).1) (bz N E "ReadingMissing" _ rfl).2.1 UR
 have Ul:eM K mg "SamePlace" (tb 3):=cD Z N E (Le X G (bz N E "SamePlace" _ rfl).1) (bz N E "SamePlace" _ rfl).2.1 Wa
 have TL:eM K mg "TooManyDays" (tb 13):=cD Z N E (Le X G (bz N E "TooManyDays" _ rfl).1) (bz N E "TooManyDays" _ rfl).2.1 Vr
 have Tn:eM K mg "TooManyDeeds" (tb 14):=cD Z N E (Le X G (bz N E "TooManyDeeds" _ rfl).1) (bz N E "TooManyDeeds" _ rfl).2.1 Vb
 have T9:eM K mg "TooManyMeters" (tb 12):=cD Z N E (Le X G (bz N E "TooManyMeters" _ rfl).1) (bz N E "TooManyMeters" _ rfl).2.1 V0
 have T1:eM K mg "TooManyStreams" (tb 11):=cD Z N E (Le X G (bz N E "TooManyStreams" _ rfl).1) (bz N E "TooManyStreams" _ rfl).2.1 US
 have VL:eM K mg "Twice" (tb 6):=cD Z N E (Le X G (bz N E "Twice" _ rfl).1) (bz N E "Twice" _ rfl).2.1 Xu
 have U6:eM K mg "UnknownDay" (tb 1):=cD Z N E (Le X G (bz N E "UnknownDay" _ rfl).1) (bz N E "UnknownDay" _ rfl).2.1 VP
 have To:eM K mg "UnknownPlace" (tb 2):=cD Z N E (Le X G (bz N E "UnknownPlace" _ rfl).1) (bz N E "UnknownPlace" _ rfl).2.1 Vc
 have Ta:eM K mg "UnknownStream" (tb 5):=cD Z N E (Le X G (bz N E "UnknownStream" _ rfl).1) (bz N E "UnknownStream" _ rfl).2.1 V1
 have U7:qq K (.type "ValueError") JJ:=Ep Z N E VQ
 have U8:eM K mg "WrongRises" (tb 4):=cD Z N E (Le X G (bz N E "WrongRises" _ rfl).1) (bz N E "WrongRises" _ rfl).2.1 VR
 have TM:wk K mg "CellarError" (Aw RL):=AL (Le X G Vo) V9 Va N Vs
 refine⟨LF "law" "law" (dr sE) (bK sE) (ak sE) .none a2S a2T a2U a2V a2W a2X,λs v=> .of_eq rfl,λbase _ _=> ?_⟩
 have Uv:gX l.prog w K mg base 1 "Day" 4 gZ:=wJ (u1.mk Xd (Le X G XF) Yd Ye Xe b5) B
 have S9:gX l.prog w K mg base 1 "Standing" 4 a_:=p_ (u2.mk SI (Le X G V6) W7 W8 UX b5) B
 have SA:bW l.prog w K mg base 3 "Standing" "with_stream" 3 cj:=kb (u3.at SI b3) B S9 S5
 have Su:bW l.prog w K mg base 3 "Standing" "without_stream" 2 bQ:=jk (u4.at SI b2) B S9 S5
 have SD:bW l.prog w K mg base 3 "Standing" "with_meters" 2 ck:=ke (u5.at SI b2) B S9 S5
 have Sv:bW l.prog w K mg base 3 "Standing" "without_meters" 2 bR:=jl (u6.at SI b2) B S9 S5
 have SK:bW l.prog w K mg base 3 "Standing" "with_day" 2 cL:=m9 (u7.at SI b2) B S9 S5
 have T6:bg l.prog w K mg base 1 "refuse_places" 2 d_:=q0 (u8.at X G b2) B Ut Uj Tf
 have Sa:bg l.prog w K mg base 1 "refuse_numbers" 2 bB:=oV (u9.at X G b2) B VJ T5 S5
 have So:bg l.prog w K mg base 1 "refuse_unmetered" 2 c9:=mS (a2c.at X G b2) B TY S5
 have SJ:bg l.prog w K mg base 1 "refuse_amounts" 1 cU:=oW (a2d.at X G b1) B Tg TZ
 have TQ:wH l.prog w K mg base 3 "Cellar" 1 eu:=sG (a2e.mk Sr (Le X G V_) WS WT VA b2) B S9 TB Uu
 have S7:dq l.prog w K mg base 1 "Cellar" "keep_deed" 2 aR:=mT (a2f.at Sr b3) B TC Th S6
 have SF:dq l.prog w K mg base 4 "Cellar" "stream_comes" 2 cu:=kW (a2g.at Sr b3) B T6 S7 SA T7 SV S6 S5
 have SG:dq l.prog w K mg base 4 "Cellar" "stream_goes" 1 cE:=ll (a2h.at Sr b2) B Sa S7 Su S6
 have SH:dq l.prog w K mg base 4 "Cellar" "meters_come" 1 cF:=lm (a2i.at Sr b2) B Sa S7 SD Tj SW T8 S6 S5
 have SN:dq l.prog w K mg base 4 "Cellar" "meters_go" 1 c_:=mU (a2j.at Sr b2) B Sa So S7 Sv S6
 have Sd:bW l.prog w K mg base 1 "Cellar" "days_gone" 1 bj:=mV (a2k.at Sr b1) B S6 S5
 have SM:dq l.prog w K mg base 4 "Cellar" "day_passes" 2 cM:=mh (a2l.at Sr b3) B Sa So SJ Uv S7 SK Sd U1 SX TH U2 S6 S5
 have SO:dq l.prog w K mg base 1 "Cellar" "take_back" 0 cb:=mW (a2m.at Sr b1) B TJ S6
 have Td:bW l.prog w K mg base 1 "Cellar" "layout" 1 dc:=q8 (a2n.at Sr b1) B S6 S5
 have Tp:bW l.prog w K mg base 1 "Cellar" "deeds" 1 dv:=qT (a2o.at Sr b1) B S6
 have Ud:bW l.prog w K mg base 2 "Cellar" "day" 2 fq:=t7 (a2p.at Sr b2) B Sd U3 S6 S5
 have SE:bg l.prog w K mg base 1 "_law_at" 2 d0:=AN (a2q.at X G b2) B
 have Sn:bg l.prog w K mg base 2 "_law_cell" 2 cc:=wK (a2r.at X G b2) B SE
 have Sk:bg l.prog w K mg base 1 "_law_figures" 4 bX:=sH (a2s.at X G b4) B
 have Si:bg l.prog w K mg base 8 "_law_same" 2 bn:=wL (a2t.at X G b2) B
 have Uw:bg l.prog w K mg base 1 "_law_span" 4 jd:=wM (a2u.at X G b4) B
 have Um:bg l.prog w K mg base 2 "_law_flows" 5 ic:=vb (a2v.at X G b5) B Uw
 have UA:bg l.prog w K mg base 9 "_law_kept" 2 hG:=wN (a2w.at X G b2) B Si Vz
 have V5:xZ l.prog w K mg base 5 "_law_do" 1 1 eV:=AO (a2x.at X G b2) B SF SG SH SN SM SO
 have Uz:xZ l.prog w K mg base 6 "_law_done" 1 1 eW:=wO (a2y.at X G b2) B V5 SY Ux Uy U4 TK U5 S_ Ul TL Tn T9 T1 VL U6 To Ta U7 U8 TM
 have Tb:bg l.prog w K mg base 1 "_law_no_stream" 3 ee:=q9 (a2z.at X G b3) B
 have Sm:bg l.prog w K mg base 1 "_law_no_names" 2 cn:=qU (a2A.at X G b2) B
 have U9:bg l.prog w K mg base 2 "_law_no_day" 3 gE:=t8 (a2B.at X G b3) B Sm
 have Tc:bg l.prog w K mg base 2 "_law_no_meters" 3 ef:=qa (a2C.at X G b3) B Sm
 have TN:bg l.prog w K mg base 3 "_law_refusal" 2 eA:=sI (a2D.at X G b2) B Tb Sm U9 Tc
 have Ua:bg l.prog w K mg base 1 "_law_behind" 2 dQ:=t9 (a2E.at X G b2) B
 have Ub:bg l.prog w K mg base 1 "_law_answer" 2 ft:=tf (a2F.at X G b2) B
 have SQ:xZ l.prog w K mg base 9 "_law_step" 2 1 dR:=wQ (a2G.at X G b3) B TN Uz Si Ua Ub
 have Uc:bg l.prog w K mg base 1 "_law_layout" 1 fu:=tj (a2H.at X G b1) B
 have Tw:bg l.prog w K mg base 10 "_law_looks" 2 cT:=vc (a2I.at X G b2) B Si Td Uc Tp Sd UA Ud S6
 have Sx:bg l.prog w K mg base 3 "_law_day_deed" 3 cG:=qV (a2J.at X G b3) B Sk Um
 have T4:bg l.prog w K mg base 1 "_law_names" 2 dF:=ve (a2K.at X G b2) B
 have UB:bg l.prog w K mg base 1 "_law_bent" 2 ji:=wR (a2L.at X G b2) B
 have UC:bg l.prog w K mg base 4 "_law_deed" 3 jj:=wU (a2M.at X G b3) B Sk T4 Sx UB
 have T2:bg l.prog w K mg base 3 "_law_furnishing" 2 dw:=p0 (a2N.at X G b2) B SE Sn Sk
 have Te:xZ l.prog w K mg base 10 "_law_furnished" 2 1 eh:=qb (a2O.at X G b3) B T2 SQ
 have Uo:IH l.prog w K mg base 3 "_law_begun" 1 gg:=vf (a2P.at X G b1) B Sn
 exact GQ (nB (st:=sE) l0 c0 k0) B Uo TQ SE Te SQ UC Sn Tw Sx
end
theorem walk {l:PM} {q:KW} {Vw:List Kw} {XP:(Kw->Option Kv)->L4->Prop} {YP:La->L4->Prop} {d:DefRec} {K:Params->Ku} (hn:l.most=some 63) (YB:d.params.defaults=[])
  (hY:∀(w:La) (h:L4),YP w h->(K w.params).In h) (main:∀ns:List Int,ns.length<=63->um [.scr ns]= .ok (.bl true))
  (F:∀(w:La) (mg:Kw->Option Kv) (fa:Kx) (h:L4),(K w.params).In h->h.Ns KJ mg->mg d.name=some (.ref fa)->
   ∃fd:M0,(∀(s:Ky) (u:Kv),Q8 s fd ⟨[u],[]⟩ [("_law_script",u)])/\∀base:L4,(K w.params).In base->base.Ns KJ mg->fJ l.prog w (K w.params) mg base (lg l.prog w) 11 fa fd ["_law_script"] (Ah (K w.params) 1 um)):
  RQ q Vw XP YP l.row.toRowW d [] (λf vs=>Rx f vs):=
 L2.DP (n:=63) (k:=11) (x:="_law_script") (CX:=λw=>lg l.prog w) (sp:=λw=>Ah (K w.params) 1 um) hn (by decide) YB ⟨rfl,by decide,by decide⟩ hY F (λ_ _ a ns hl _ hS=>Gn (main ns hl) hS) λ_ _ _ _ _ z=>L2.Pu.Gw z
end My
namespace My
open PySem PySem.Spec PyProof.Rows L2 L2.Pu
local macro_rules|`(tactic|simp! [$xs,*])=>`(tactic|simp only[aw,aU,gN,cr,bt,aF,pK,li,n5,oB,oE,frz,frz1,Qn,cw,f2,f1,cg,eD,bU,fL,aI,qm,E4,yU,Kf,fT,eL,gA,o6,iZ,a8,ai,au,aa,fC,Cd,ar,gw,Py,Pz,List.set_cons_zero,List.set_cons_succ,Cm,Cn,Co,L6,NC,Ph,Nat.reduceAdd,if_true,if_false,LM,RU,RN,BU,decide_true,decide_false,eF,lJ,i9,yY,lK,Ik,l7,si,Go,Il,jF,gW,E8,E9,Ch,Ci,wd,t_,PK,N5,Ml,$xs,*])
def cel (ns:List Int) (k:Nat):Int:=ns.getD k 0
theorem zr (ns:List Int) (k:Nat):d0 [.scr ns, .int (k:Int)]= .ok (.int (cel ns k)):=by
 unfold d0 bi
 simp only[cY,wI,aw,cr,bt,aF,f2,cg,aa,fC,fT,a8,ai,xV,lK,Im,L6,NC,if_true,KO,Ma,Lf,Nat.sub_self,M5,Py,Pz,Slot.data,ar,gw]
 by_cases h:k<ns.length
 ·have h':(k:Int)<(ns.length:Int):=by omega
  simp only[h',decide_true,if_true,il h,N5,gw,ar]
  simp[cel,h]
 ·have h':¬(k:Int)<(ns.length:Int):=by omega
  simp only[h',decide_false,if_false,LM,ar]
  simp[cel,Pd h]
theorem K6 (ns:List Int):d0 [.scr ns, .int 0]= .ok (.int (cel ns 0)):=zr ns 0
def cl (ns:List Int) (k:Nat):Int:=if cel ns 0%2=0 then cel ns k else ((cel ns k+cel ns 0 / 2+7919*(k:Int)+1)*48271%2147483647+(k:Int))*69621%2147483647
theorem qc (ns:List Int) (k:Nat):cc [.scr ns, .int (k:Int)]= .ok (.int (cl ns k)):=by
 refine bx rfl ?_
 show nT [some (.val (.scr ns)),some (.val (.int (k:Int))),none]=_
 by_cases h:cel ns 0%2=0<;>simp! [nT,K6,zr,h,bc (show (0:Int)<2 by decide),db (show (0:Int)<2/\(2:Int)<1073741824 by decide),sf (show Oo 48271<18446744073709551616 by decide),sf (show Oo 69621<18446744073709551616 by decide),sg (show Oo 7919<18446744073709551616 by decide),bc (show (0:Int)<2147483647 by decide),cl]
theorem wV {g:D->af->R af} {gb:af->R br} {n:Nat} {P:Nat->af->Prop} (h:∀k,k<n->∀ρ,P k ρ->∃ρ1 ρ2,g (.int (k:Int)) ρ= .ok ρ1/\(gb ρ1= .ok (.nx ρ2)\/gb ρ1= .ok (.cnt ρ2))/\P (k+1) ρ2):∀(j k:Nat) (ρ:af),k+j=n->P k ρ->∃ρ',eK g gb ((List.range' k j).map λk:Nat=>D.int (k:Int)) ρ= .ok (.nx ρ')/\P n ρ'
 |0,k,ρ,e,hp=>⟨ρ,rfl,by rw[Nat.add_zero]at e;exact e▸hp⟩
 |j+1,k,ρ,e,hp=>by
  obtain⟨ρ1,ρ2,e1,e2,h2⟩:=h k (by omega) ρ hp
  obtain⟨ρ',e3,h3⟩:=wV h j (k+1) ρ2 (by omega) h2
  refine⟨ρ',?_,h3⟩
  rw[List.range'_succ,KO]
  rcases e2 with e2|e2
  ·rw[mB e1 e2,e3]
  ·rw[Ck e1 e2,e3]
theorem p8 {g:D->af->R af} {gb:af->R br} {n:Nat} {P:Nat->af->Prop} {fs:af->R (List D)} {ρ:af} (hf:fs ρ= .ok [.int (n:Int)]) (hn:n<=1000) (h0:P 0 ρ) (h:∀k,k<n->∀ρ,P k ρ->∃ρ1 ρ2,g (.int (k:Int)) ρ= .ok ρ1/\(gb ρ1= .ok (.nx ρ2)\/gb ρ1= .ok (.cnt ρ2))/\P (k+1) ρ2):∃ρ',li (dI fs) g gb ρ= .ok (.nx ρ')/\P n ρ':=by
 obtain⟨ρ',e,hp⟩:=wV h n 0 ρ (by omega) h0
 rw[<-List.range_eq_range']at e
 exact⟨ρ',(sj (mC hf (by unfold lim;omega))).trans e,hp⟩
theorem CT {α β:Type} (f:α->β) {l:List α} {k:Nat} (h:k<l.length):(l.take (k+1)).map f=(l.take k).map f++[f l[k]]:=by
 rw[<-List.take_append_getElem h,Lv];rfl
inductive Wf:Nat->D->Prop
 |int (n:Nat) (i:Int):Wf n (.int i)
 |bl (n:Nat) (b:Bool):Wf n (.bl b)
 |str (n:Nat) (x:Kw):Wf n (.str x)
 |non (n:Nat):Wf n .non
 |tup {n:Nat} {ds:List D}:ds.length<=1000->(∀d∈ds,Wf n d)->Wf (n+1) (.tup ds)
theorem Wf.up {n:Nat} {d:D} (h:Wf n d):∀k,Wf (n+k) d:=by
 induction h with
 |int n i=>exact λk=> .int _ i
 |bl n b=>exact λk=> .bl _ b
 |str n x=>exact λk=> .str _ x
 |non n=>exact λk=> .non _
 | @tup n ds h1 h2 ih=>exact λk=>by rw[Nat.add_right_comm];exact .tup h1 λd hd=>ih d hd k
theorem AQ {VI:List D->R D} {ds:List D} (h:∀d∈ds,VI [d,d]= .ok (.bl true)) {k:Nat} (hk:k<ds.length):
  jw VI [some (.val (.tup ds)),some (.val (.tup ds)),some (.val (.int (k:Int)))]= .ok (.nx [some (.val (.tup ds)),some (.val (.tup ds)),some (.val (.int (k:Int)))]):=by
 have hr:=h ds[k] (O5 hk)
 simp! [jw,il hk,hr]
theorem ur {VI:List D->R D} {ds:List D} (h:∀d∈ds,VI [d,d]= .ok (.bl true)):∀(ks:List Nat) (x:Option Slot),(∀k∈ks,k<ds.length)->
  ∃y,eK (gN 2) (jw VI) (ks.map λk:Nat=>D.int (k:Int)) [some (.val (.tup ds)),some (.val (.tup ds)),x]= .ok (.nx [some (.val (.tup ds)),some (.val (.tup ds)),y])
 |[],x,_=>⟨x,rfl⟩
 |k::ks,x,hk=>by
  obtain⟨y,e⟩:=ur h ks (some (.val (.int (k:Int)))) λj hj=>hk j (L0 _ hj)
  exact⟨y,by rw[KO,mB rfl (AQ h (hk k K_)),e]⟩
theorem sJ {x y:Kw}:dm (.str x) (.str y)=some (.bl (decide (x=y))):=rfl
theorem AR {n:Nat} {d:D} (h:Wf n d):dE (n+1) [d,d]= .ok (.bl true):=by
 induction h with
 |int n i=>
  refine bx rfl ?_
  show dP (dE n) [some (.val (.int i)),some (.val (.int i)),none]=_
  have a:vY (.int i) .non=some (.bl false):=rfl
  have b:qM "str" (.int i)=some (.bl false):=rfl
  simp! [dP,pM,Gq,Gr,Gs,a,b]
 |bl n i=>
  refine bx rfl ?_
  show dP (dE n) [some (.val (.bl i)),some (.val (.bl i)),none]=_
  have a:vY (.bl i) .non=some (.bl false):=rfl
  have b:qM "bool" (.bl i)=some (.bl true):=rfl
  have c:qM "tuple" (.bl i)=some (.bl false):=rfl
  simp! [dP,pM,a,b,c]
 |str n i=>
  refine bx rfl ?_
  show dP (dE n) [some (.val (.str i)),some (.val (.str i)),none]=_
  have a:vY (.str i) .non=some (.bl false):=rfl
  have b:qM "bool" (.str i)=some (.bl false):=rfl
  have c:qM "tuple" (.str i)=some (.bl false):=rfl
  have d:qM "str" (.str i)=some (.bl true):=rfl
  simp! [dP,pM,a,b,c,d,sJ]
 |non n=>rfl
 | @tup n ds h1 h2 ih=>
  obtain⟨y,e⟩:=ur ih (LA ds.length) none λk hk=>Md.mp hk
  refine bx rfl ?_
  show dP (dE (n+1)) [some (.val (.tup ds)),some (.val (.tup ds)),none]=_
  have hr:dI (a8 (cg cf (a8 (aa 1) (ai))) (ai)) [some (.val (.tup ds)),some (.val (.tup ds)),none]= .ok ((LA ds.length).map λk:Nat=>D.int (k:Int)):=mC (n:=ds.length) (by simp! []) (by unfold lim;omega)
  simp! [dP,pM,Gp,hr,e]
theorem jn {n:Nat} (hn:n<=7) {d:D} (h:Wf n d):bn [d,d]= .ok (.bl true):=by
 have:=AR (h.up (7 - n))
 rw[show n+(7 - n)+1=8 by omega]at this
 exact this
theorem zt (ns:List Int) (h:ns.length<=1000):Wf 1 (.tup (ns.map .int)):= .tup (by simpa using h) λd hd=>by obtain⟨i,_,rfl⟩:=Mv.mp hd;exact .int 0 i
theorem vg {α:Type} {n:Nat} {f:α->D} {l:List α} (hl:l.length<=1000) (h:∀a∈l,Wf n (f a)):Wf (n+1) (.tup (l.map f)):= .tup (by simpa using hl) λd hd=>by obtain⟨a,ha,rfl⟩:=Mv.mp hd;exact h a ha
abbrev zu:=Int×Int×Int
def d3 (r:zu):D:= .tup [.int r.1, .int r.2.1, .int r.2.2]
def kX (n:Int) (now:D):List (Kw×D):=[("tanks", .int n),("now",now)]
def aD (n:Int) (now:D) (hs:List D):Slot:= .cel "Cellar" (kX n now) "history" hs
theorem CU (n:Int) (now:D):(kX n now).lookup ("tanks":Kw)=some (D.int n):=rfl
theorem sK (n:Int) (now:D):(kX n now).lookup ("now":Kw)=some now:=rfl
theorem zv (n:Int) (now d:D):AD "now" d (kX n now)=kX n d:=rfl
theorem fH {cls g:Kw} {f:af->R D} {ρ:af} {fds:List (Kw×D)} {d:D} (h:f ρ= .ok (.ins cls fds)) (h2:fds.lookup g=some d):cB cls g f ρ= .ok d:=by
 unfold cB
 rw[h,ar]
 dsimp only
 rw[if_pos rfl,h2,gw]
theorem rl {i:Nat} {g:Kw} {ρ:af} {n:Int} {now d:D} {hs:List D} (h:ρ[i]? =some (some (aD n now hs))) (h2:(kX n now).lookup g=some d):cZ i "Cellar" g ρ= .ok d:=by
 unfold cZ
 rw[h]
 show (if ("Cellar":Kw)="Cellar" then R.of ((kX n now).lookup g)else .bad)=_
 rw[if_pos rfl,h2,gw]
theorem rm {i:Nat} {ρ:af} {n:Int} {now:D} {hs:List D} (h:ρ[i]? =some (some (aD n now hs))):qv i "Cellar" "history" ρ= .ok (.lst hs):=by
 unfold qv
 rw[h]
 exact if_pos ⟨rfl,rfl⟩
theorem kY {g g':af->R br} {ρ ρ':af} {x:Kw} (h:g ρ= .err x ρ'):aw g g' ρ= .err x ρ':=by
 unfold aw
 rw[h];rfl
theorem p9 {g g':af->R br} {ρ ρ':af} {d:D} (h:g ρ= .ok (.retc d ρ')):aw g g' ρ= .ok (.retc d ρ'):=by
 unfold aw
 rw[h,ar]
theorem dB {gc:af->R Bool} {g g':af->R br} {ρ:af} (h:gc ρ= .ok true):cr gc g g' ρ=g ρ:=by unfold cr;rw[h,ar];rfl
theorem bO {gc:af->R Bool} {g g':af->R br} {ρ:af} (h:gc ρ= .ok false):cr gc g g' ρ=g' ρ:=by unfold cr;rw[h,ar];rfl
theorem bv {f:af->R D} {ρ:af} {b:Bool} (h:f ρ= .ok (.bl b)):fT f ρ= .ok b:=by unfold fT;rw[h,ar]
theorem jO {f:af->R D} {ρ:af} {b:Bool} (h:f ρ= .ok (.bl b)):eL f ρ= .ok b:=by unfold eL;rw[h,ar];rfl
theorem pb {x:Kw} {s:Kw} {ρ:af}:cK x (a8 (fC (.str s)) ai) ρ= .err x ρ:=by
 unfold cK a8 fC ai
 simp only[ar]
 exact if_pos (show 1<=lim by decide)
theorem bS {fs:af->R (List D)} {ρ:af} {ds:List D} (h:fs ρ= .ok ds) (hl:ds.length<=lim):bU fs ρ= .ok (.tup ds):=by unfold bU;rw[h,ar,if_pos hl]
theorem Ew {f:af->R D} {ρ:af} {d:D} (h:f ρ= .ok d):ib f ρ= .ok (.nx ρ):=by unfold ib;rw[h,ar]
theorem wW {f:af->R D} {ρ ρ':af} {x:Kw} (h:f ρ= .err x ρ'):ib f ρ= .err x ρ':=by unfold ib;rw[h];rfl
theorem wX {m:List D->R D} {n:Nat} {fs:af->R (List D)} {ρ ρ':af} {ds:List D} {x:Kw} (h:fs ρ= .ok ds) (hl:ds.length=n) (hm:m ds= .err x ρ'):aI m n fs ρ= .err x ρ:=by
 unfold aI
 rw[h,ar,if_pos hl,hm]
theorem iO {cls m:Kw} {n:Nat} {r:List D->R D} {fo:af->R D} {fs:af->R (List D)} {ρ:af} {fds:List (Kw×D)} {ds:List D} {z:D} (h1:fo ρ= .ok (.ins cls fds)) (h2:fs ρ= .ok ds) (hl:ds.length+1=n) (e:r (.ins cls fds::ds)= .ok z) (hm:fds.lookup m=none):fA cls m n r fo fs ρ= .ok z:=by
 unfold fA
 rw[h1,ar]
 dsimp only
 rw[if_pos ⟨rfl,hm⟩,h2,ar,if_pos hl,e]
theorem yc {i:Nat} {mf:List Slot->List D->R (D×List Slot)} {k:Nat} {fs:af->R (List D)} {ρ:af} {ds:List D} {n n':Int} {now Up d:D} {hs Sy:List D} (h:ρ[i]? =some (some (aD n now hs))) (h2:fs ρ= .ok ds) (hl:ds.length=k) (e:mf [aD n now hs] ds= .ok (d,[aD n' Up Sy])):
  fj [i] mf k fs ρ= .ok (d,ρ.set i (some (aD n' Up Sy))):=by
 unfold fj
 have XG:fc ρ [i]=some [aD n now hs]:=by unfold fc fc;rw[h];rfl
 rw[XG]
 dsimp only
 rw[if_pos ⟨rfl,by simp⟩,h2,ar,if_pos hl,e]
 dsimp only
 rw[if_pos (show Pp Slot.kind [aD n' Up Sy]=Pp Slot.kind [aD n now hs]from rfl)]
 rfl
theorem vh {i:Nat} {mf:List Slot->List D->R (D×List Slot)} {k:Nat} {fs:af->R (List D)} {ρ ρe:af} {ds:List D} {n:Int} {now:D} {hs:List D} {x:Kw} (h:ρ[i]? =some (some (aD n now hs))) (h2:fs ρ= .ok ds) (hl:ds.length=k) (e:mf [aD n now hs] ds= .err x ρe) (ht:dD 1 ρe=some [aD n now hs]) (hi:ρ.set i (some (aD n now hs))=ρ):
  fj [i] mf k fs ρ= .err x ρ:=by
 unfold fj
 have Sy:fc ρ [i]=some [aD n now hs]:=by unfold fc fc;rw[h];rfl
 rw[Sy]
 dsimp only
 rw[if_pos ⟨rfl,by simp⟩,h2,ar,if_pos hl,e]
 dsimp only
 rw[show dD [i].length ρe=some [aD n now hs]from ht]
 dsimp only
 rw[if_pos rfl]
 show R.err x (ρ.set i (some (aD n now hs)))=_
 rw[hi]
theorem vi {i:Nat} {m:Kw} {fx:af->R (D×af)} {ρ:af} {n:Int} {now:D} {hs:List D} (h:ρ[i]? =some (some (aD n now hs))) (h1:m≠"history":=by decide) (h2:(kX n now).lookup m=none:=by rfl):kG i "Cellar" m fx ρ=fx ρ:=by
 unfold kG
 rw[h]
 exact if_pos ⟨rfl,h1,h2⟩
theorem CV {fx:af->R (D×af)} {ρ ρ':af} {d:D} (h:fx ρ= .ok (d,ρ')):j9 fx ρ= .ok (.nx ρ'):=by unfold j9;rw[h,ar]
theorem AS {fx:af->R (D×af)} {ρ ρ':af} {x:Kw} (h:fx ρ= .err x ρ'):j9 fx ρ= .err x ρ':=by unfold j9;rw[h];rfl
theorem gk {nm k n:Nat} {g:af->R br} {ss ss':List Slot} {ds:List D} {d:D} {ρ:af} (h:ss.length=nm/\ds.length=k) (e:g (fQ n ss ds)= .ok (.retc d ρ)) (ht:dD nm ρ=some ss'):iM nm k n g ss ds= .ok (d,ss'):=by
 unfold iM
 rw[if_pos h,e]
 dsimp only
 rw[ht]
theorem zw {nm k n:Nat} {g:af->R br} {ss ss':List Slot} {ds:List D} {ρ:af} (h:ss.length=nm/\ds.length=k) (e:g (fQ n ss ds)= .ok (.nx ρ)) (ht:dD nm ρ=some ss'):iM nm k n g ss ds= .ok (.non,ss'):=by
 unfold iM
 rw[if_pos h,e]
 dsimp only
 rw[ht]
theorem pc {nm k n:Nat} {g:af->R br} {ss:List Slot} {ds:List D} {x:Kw} {ρ:af} (h:ss.length=nm/\ds.length=k) (e:g (fQ n ss ds)= .err x ρ):iM nm k n g ss ds= .err x ρ:=by
 unfold iM
 rw[if_pos h,e]
theorem CW {k n:Nat} {g:af->R br} {ds:List D} {x:Kw} {ρ:af} (h:ds.length=k) (e:g (cY n ds)= .err x ρ):bi k n g ds= .err x ρ:=by
 unfold bi
 rw[if_pos h,e];rfl
theorem pd {f:af->R D} {ρ:af} {d:D} (h:f ρ= .ok d):iC f ρ= .ok (.retc d ρ):=by unfold iC;rw[h,ar]
theorem km {α:Type} {gt:af->R Bool} {fe:af->R D} {enc out:α->D} {p:α->Bool} {a0:Option Slot} {rest:af}:∀(xs:List α) (v:Option Slot),(∀x∈xs,gt (a0::some (.val (enc x))::rest)= .ok (p x))->(∀x∈xs,p x=true->fe (a0::some (.val (enc x))::rest)= .ok (out x))->
  lD (gN 1) gt fe (xs.map enc) (a0::v::rest)= .ok ((xs.filter p).map out)
 |[],v,h1,h2=>rfl
 |x::xs,v,h1,h2=>by
  have e1:=h1 x K_
  have ih:=km (gt:=gt) (fe:=fe) (enc:=enc) (out:=out) (p:=p) (a0:=a0) (rest:=rest) xs (some (.val (enc x))) (λy hy=>h1 y (L0 _ hy)) (λy hy=>h2 y (L0 _ hy))
  rw[KO,lD]
  show (gt (a0::some (.val (enc x))::rest)>>=λb=>if b=true then (fe (a0::some (.val (enc x))::rest)>>=λy=>lD (gN 1) gt fe (xs.map enc) (a0::some (.val (enc x))::rest)>>=λys=> .ok (y::ys))else lD (gN 1) gt fe (xs.map enc) (a0::some (.val (enc x))::rest))=_
  rw[e1,ar,ih]
  cases q:p x with
  |true=>rw[if_pos rfl,h2 x K_ q,ar,ar,Pq,if_pos q];rfl
  |false=>rw[if_neg (by simp),Pq,if_neg (by rw[q];simp)]
theorem o4 {α:Type} (xs:List α):xs.filter (λ_=>true)=xs:=by simp
theorem Dp {x:D} {r:List D}:aQ (.tup (x::r)) (.int 0)=some x:=by
 rw[t_]
 have:=il (xs:=x::r) (k:=0) (by simp)
 simpa using this
theorem JL {x y:D} {r:List D}:aQ (.tup (x::y::r)) (.int 1)=some y:=by
 rw[t_]
 have:=il (xs:=x::y::r) (k:=1) (by simp)
 simpa using this
theorem II {x:D} {r:List D}:aQ (.lst (x::r)) (.int 0)=some x:=by
 rw[wd]
 have:=il (xs:=x::r) (k:=0) (by simp)
 simpa using this
theorem IJ {x y:D} {r:List D}:aQ (.lst (x::y::r)) (.int 1)=some y:=by
 rw[wd]
 have:=il (xs:=x::y::r) (k:=1) (by simp)
 simpa using this
theorem pe {r:zu}:aQ (d3 r) (.int 0)=some (.int r.1):=Dp
abbrev Rd:=Int×Int
def jr (r:Rd):D:= .tup [.int r.1, .int r.2]
structure CY where
 ss:List zu
 ri:List Int
 rd:List Rd
structure Mo where
 c:Int
 ss:List zu
 ms:List Int
 mm:List Int
 ds:List CY
 dd:List D
def CZ (n:Int) (d:CY):List (Kw×D):=[("tanks", .int n),("streams", .tup (d.ss.map d3)),("rises", .tup (d.ri.map .int)),("readings", .tup (d.rd.map jr))]
def sL (n:Int) (d:CY):D:= .ins "Day" (CZ n d)
def ut (n:Int) (m:Mo):List (Kw×D):=[("came", .int m.c),("streams", .tup (m.ss.map d3)),("meters", .tup (m.ms.map .int)),("passed", .tup (m.ds.map (sL n)))]
def bG (n:Int) (m:Mo):D:= .ins "Standing" (ut n m)
abbrev Mo.nu (m:Mo):List Int:=m.ss.map (·.1)
theorem mI (n:Int) (m:Mo):(ut n m).lookup ("came":Kw)=some (D.int m.c):=rfl
theorem dS (n:Int) (m:Mo):(ut n m).lookup ("streams":Kw)=some (D.tup (m.ss.map d3)):=rfl
theorem eB (n:Int) (m:Mo):(ut n m).lookup ("meters":Kw)=some (D.tup (m.ms.map .int)):=rfl
theorem gl (n:Int) (m:Mo):(ut n m).lookup ("passed":Kw)=some (D.tup (m.ds.map (sL n))):=rfl
def Mo.comes (m:Mo) (a b:Int):Mo:={m with c:=m.c+1,ss:=m.ss++[(m.c+1,a,b)],dd:=m.dd++[.tup [.str "stream comes", .int a, .int b]]}
def Mo.goes (m:Mo) (a:Int):Mo:={m with ss:=m.ss.filter λr=>decide (r.1≠a),ms:=m.ms.filter λx=>decide (x≠a),mm:=m.mm.filter λx=>decide (x≠a),dd:=m.dd++[.tup [.str "stream goes", .int a]]}
def Mo.mcome (m:Mo) (ns:List Int):Mo:={m with ms:=m.ms++ns,mm:=cR (m.mm++ns),dd:=m.dd++[.tup [.str "meters come", .tup (ns.map .int)]]}
def Mo.mgo (m:Mo) (ns:List Int):Mo:={m with ms:=m.ms.filter λx=> !decide (x∈ns),mm:=m.mm.filter λx=> !decide (x∈ns),dd:=m.dd++[.tup [.str "meters go", .tup (ns.map .int)]]}
def xk (rd:List Rd):List Rd:=rd.mergeSort λa b=>decide (a.1<=b.1)
def Mo.passes (m:Mo) (ri:List Int) (rd:List Rd):Mo:={m with ds:=m.ds++[⟨m.ss,ri,xk rd⟩],dd:=m.dd++[.tup [.str "day passes", .tup (ri.map .int), .tup (rd.map jr)]]}
structure Mo.Ok (m:Mo):Prop where
 inc:m.ss.Pairwise λa b=>a.1<b.1
 le:∀r∈m.ss,r.1<=m.c
 len:m.ss.length<=12
 per:m.mm.Perm m.ms
 nd:m.ms.Nodup
 sub:∀x∈m.ms,x∈m.nu
 ten:m.ms.length<=10
 dl:m.ds.length<=12
theorem kn (rd:List Rd):rd.Perm (xk rd):=(List.mergeSort_perm rd _).symm
theorem zx {rd:List Rd} (h:(rd.map (·.1)).Nodup):(xk rd).Pairwise λa b=>a.1<b.1:=by
 have h1:(xk rd).Pairwise λa b=>decide (a.1<=b.1)=true:=List.pairwise_mergeSort (λa b c h1 h2=>by simp only[decide_eq_true_eq]at*;omega) (λa b=>by simp only[PU,decide_eq_true_eq];omega) rd
 have h2:((xk rd).map (·.1)).Nodup:=((kn rd).map (·.1)).nodup_iff.mp h
 rw[List.Nodup,MO]at h2
 refine(h1.and h2).imp λ{a b} h=> ?_
 have:=of_decide_eq_true h.1
 have:=h.2
 omega
theorem pf {fs:af->R (List D)} {ρ:af} {a b c d:D} (h:fs ρ= .ok [a,b,c,d]):lM "Standing" 4 a_ fs ρ= .ok (.ins "Standing" [("came",a),("streams",b),("meters",c),("passed",d)]):=by
 unfold lM
 rw[h,ar,if_pos (show [a,b,c,d].length=4 from rfl),show a_ [a,b,c,d]= .ok [("came",a),("streams",b),("meters",c),("passed",d)]from rfl]
theorem iA {a b:List D} (h:a.length+b.length<=1000):bC (.tup a) (.tup b)=some (.tup (a++b)):=if_pos (by unfold lim;omega)
theorem vj {a b:Int}:sd (.int a) (.int b)=some (.bl (decide (a≠b))):=by rw[yY];first|rfl|simp
section
variable {n:Int} {m:Mo} {hs:List D}
theorem vA {x:List (Option Slot)} {g:Kw} {d:D} (h:(ut n m).lookup g=some d):cB "Standing" g (aa 0) (some (.val (bG n m))::x)= .ok d:=fH rfl h
theorem qd (g:m.Ok) (a b:Int):cj [bG n m, .int a, .int b]= .ok (bG n (m.comes a b)):=by
 refine bx rfl ?_
 show dN [some (.val (bG n m)),some (.val (.int a)),some (.val (.int b)),none]=_
 unfold dN
 rw[av (ρ':=[some (.val (bG n m)),some (.val (.int a)),some (.val (.int b)),some (.val (.int (m.c+1)))]) (aX (aj (vA (mI n m)) rfl rfl) rfl)]
 refine cJ ((pf (a9 rfl (a9 (aj (vA (dS n m)) (bS (ds:=[d3 (m.c+1,a,b)]) (a9 (bS (ds:=[.int (m.c+1), .int a, .int b]) rfl (show 3<=lim by decide)) rfl) (show 1<=lim by decide)) (iA (by have:=g.len;simp;omega))) (a9 (vA (eB n m)) (a9 (vA (gl n m)) rfl))))).trans ?_)
 simp only[bG,ut,Mo.comes,Lv,KO,Ma,d3]
theorem vm {x:List (Option Slot)} {g:Kw} {l:List D} (h:(ut n m).lookup g=some (.tup l)):cw (cB "Standing" g (aa 0)) (some (.val (bG n m))::x)= .ok l:=by
 unfold cw
 rw[vA h,ar]
theorem mX (g:m.Ok) (a:Int):bQ [bG n m, .int a]= .ok (bG n (m.goes a)):=by
 refine bx rfl ?_
 show d7 [some (.val (bG n m)),some (.val (.int a)),none,none]=_
 unfold d7
 rw[av (ρ':=[some (.val (bG n m)),some (.val (.int a)),some (.val (.tup ((m.ss.filter λr=>decide (r.1≠a)).map d3))),none]) (aX (aS (a9 (nJ (fO (vm (dS n m)) (by have:=g.len;simp;unfold lim;omega) (τ:=[none,none,some (.val (.int a))]) rfl (km (p:=λr:zu=>decide (r.1≠a)) (out:=d3) m.ss none (λr _=>bv (aj (aj rfl rfl pe) rfl vj)) (λr _ _=>rfl)))) rfl) rfl) rfl)]
 rw[av (ρ':=[some (.val (bG n m)),some (.val (.int a)),some (.val (.tup ((m.ss.filter λr=>decide (r.1≠a)).map d3))),some (.val (.tup ((m.ms.filter λr=>decide (r≠a)).map .int)))]) (aX (aS (a9 (nJ (fO (vm (eB n m)) (by have:=g.ten;simp;unfold lim;omega) (τ:=[none,none,some (.val (.int a))]) rfl (km (p:=λr:Int=>decide (r≠a)) (out:= .int) m.ms none (λr _=>bv (aj (a:= .int r) rfl rfl vj)) (λr _ _=>rfl)))) rfl) rfl) rfl)]
 exact cJ (pf (a9 (vA (mI n m)) (a9 rfl (a9 rfl (a9 (vA (gl n m)) rfl)))))
def eZ (d:D) (row:List Int):Prop:=d= .lst (row.map .int)\/d= .tup (row.map .int)
theorem eZ.seq {d:D} {row:List Int} (h:eZ d row) {ρ:af} {f:af->R D} (e:f ρ= .ok d):cw f ρ= .ok (row.map .int):=by
 unfold cw
 rw[e]
 rcases h with rfl|rfl<;>rfl
theorem eZ.len {d:D} {row:List Int} (h:eZ d row):cf [d]=some (.int (row.length:Int)):=by
 rcases h with rfl|rfl
 ·rw[jF,KA]
 ·rw[gW,KA]
theorem eZ.set {d:D} {row:List Int} (h:eZ d row) (hl:row.length<4000) {ρ:af} {f:af->R D} (e:f ρ= .ok d):rj f ρ= .ok (.int (L2.gr row)):=by
 unfold rj
 rw[e]
 rcases h with rfl|rfl<;>simp only[ar,ky,hl,if_true]
theorem eZ.out {d:D} {row:List Int} (h:eZ d row) (k:Int):gT true (.int k) d=some (.bl (!decide (k∈row))):=by
 rcases h with rfl|rfl
 ·exact lL
 ·exact oI
theorem eZ.tup {d:D} {row:List Int} (h:eZ d row):bV [d]=some (.tup (row.map .int)):=by rcases h with rfl|rfl<;>rfl
theorem qe (g:m.Ok) {d:D} {ns:List Int} (h:eZ d ns) (hl:ns.length<=100):ck [bG n m,d]= .ok (bG n (m.mcome ns)):=by
 refine bx rfl (cJ ((pf (a9 (vA (x:=[some (.val d)]) (mI n m)) (a9 (vA (dS n m)) (a9 (aj (vA (eB n m)) (aS (a9 rfl rfl) h.tup) (iA (by have:=g.ten;simp;omega))) (a9 (vA (gl n m)) rfl))))).trans ?_))
 simp only[bG,ut,Mo.mcome,Lv]
theorem mY (g:m.Ok) {d:D} {ns:List Int} (h:eZ d ns):bR [bG n m,d]= .ok (bG n (m.mgo ns)):=by
 refine bx rfl ?_
 show da [some (.val (bG n m)),some (.val d),none]=_
 unfold da
 rw[av (ρ':=[some (.val (bG n m)),some (.val d),some (.val (.tup ((m.ms.filter λr=> !decide (r∈ns)).map .int)))]) (aX (aS (a9 (nJ (fO (vm (eB n m)) (by have:=g.ten;simp;unfold lim;omega) (τ:=[none,none,some (.val d)]) rfl (km (p:=λr:Int=> !decide (r∈ns)) (out:= .int) m.ms none (λr _=>bv (aj (a:= .int r) rfl rfl (h.out r))) (λr _ _=>rfl)))) rfl) rfl) rfl)]
 exact cJ (pf (a9 (vA (mI n m)) (a9 (vA (dS n m)) (a9 rfl (a9 (vA (gl n m)) rfl)))))
theorem tq (g:m.Ok) (ri:List Int) (rd:List Rd):cL [bG n m,sL n ⟨m.ss,ri,xk rd⟩]= .ok (bG n (m.passes ri rd)):=by
 refine bx rfl (cJ ((pf (a9 (vA (x:=[some (.val (sL n ⟨m.ss,ri,xk rd⟩))]) (mI n m)) (a9 (vA (dS n m)) (a9 (vA (eB n m)) (a9 (aj (vA (gl n m)) (bS (ds:=[sL n ⟨m.ss,ri,xk rd⟩]) (a9 rfl rfl) (show 1<=lim by decide)) (iA (by have:=g.dl;simp;omega))) rfl))))).trans ?_))
 simp only[bG,ut,Mo.passes,Lv,KO,Ma]
end
theorem vn:∀(ns Tv:List Int),Tv.Nodup->(ns.foldl NR Tv).length<=Tv.length+ns.length/\((ns.foldl NR Tv).length=Tv.length+ns.length<->(Tv++ns).Nodup)
 |[],Tv,h=>⟨by simp,by simpa using h⟩
 |k::ns,Tv,h=>by
  rw[Rw]
  unfold NR
  by_cases hk:k∈Tv
  ·have e:Tv.any (·==k)=true:=LO.mpr ⟨k,hk,by simp⟩
   rw[if_pos e]
   obtain⟨h1,_⟩:=vn ns Tv h
   refine⟨by rw[L6];exact OV h1,λz=> ?_,λz=> ?_⟩
   ·rw[L6]at z
    have:=h1
    unfold NR at this
    omega
   ·exact absurd rfl ((Nb.mp z).2.2 k hk k K_)
  ·have e:¬Tv.any (·==k)=true:=λz=>by
    obtain⟨x,hx,a2Y⟩:=LO.mp z
    have:x=k:=by simpa using a2Y
    exact hk (this▸hx)
   rw[if_neg e]
   have hn:(Tv++[k]).Nodup:=Nb.mpr ⟨h,by simp,λa ha b hb=>by
    have:b=k:=by simpa using hb
    subst this
    intro z
    exact hk (z▸ha)⟩
   obtain⟨h1,h2⟩:=vn ns (Tv++[k]) hn
   rw[Lp,MK]at h1 h2
   rw[NX]at h2
   rw[L6]
   unfold NR at h1 h2
   refine⟨by omega,?_⟩
   rw[show Tv.length+(ns.length+1)=Tv.length+1+ns.length by omega]
   exact h2
theorem yd (ns:List Int):(LA ns.length).map (λi=>ns.getD i 0)=ns:=by
 apply Ro
 ·simp
 ·intro i h1 h2
  simp[h2]
theorem wY (ns:List Int):decide ((L2.gr ns:Int)<(ns.length:Int))= !decide ns.Nodup:=by
 have e:L2.gr ns=(ns.foldl NR []).length:=by
  unfold L2.gr Rl
  rw[yd]
 obtain⟨h1,h2⟩:=vn ns [] RM
 rw[NC,Ph]at h1 h2
 rw[PK]at h2
 rw[e]
 by_cases h:ns.Nodup
 ·have:=h2.mpr h
  simp[h,this]
 ·have:(ns.foldl NR []).length≠ns.length:=λz=>h (h2.mp z)
  simp[h]
  omega
def fD (a b:Kw):Kw:=if a="" then b else a
def iP (b:Bool) (w:Kw):Kw:=if b=true then w else ""
def GS (r:R D) (w:Kw):Prop:=(w≠""->∃ρ,r= .err w ρ)/\(w=""->r= .ok .non)
def ph (g:af->R br) (ρ:af) (w:Kw) (r:R br):Prop:=(w≠""->∃ρe,g ρ= .err w ρe/\dD 1 ρe=dD 1 ρ)/\(w=""->g ρ=r)
def mZ (r:R (D×List Slot)) (s:Slot) (w:Kw) (a:D) (s':Slot):Prop:=(w≠""->∃ρ,r= .err w ρ/\dD 1 ρ=some [s])/\(w=""->r= .ok (a,[s']))
theorem iQ {m:List D->R D} {k:Nat} {fs:af->R (List D)} {ρ:af} {ds:List D} {g':af->R br} {w w':Kw} {r:R br} (h:fs ρ= .ok ds) (hl:ds.length=k) (hr:GS (m ds) w) (h2:ph g' ρ w' r):ph (aw (ib (aI m k fs)) g') ρ (fD w w') r:=by
 by_cases e:w=""
 ·have:aw (ib (aI m k fs)) g' ρ=g' ρ:=av (Ew (aZ h hl (hr.2 e)))
  unfold fD ph
  rw[if_pos e,this];exact h2
 ·unfold fD
  rw[if_neg e]
  obtain⟨ρe,e1⟩:=hr.1 e
  exact⟨λ_=>⟨ρ,kY (wW (wX h hl e1)),rfl⟩,λz=>absurd z e⟩
theorem mn {t:af->R Bool} {ρ:af} {b:Bool} {x s w':Kw} {g':af->R br} {r:R br} (h:t ρ= .ok b) (h2:ph g' ρ w' r) (hx:x≠"":=by decide):ph (aw (cr t (cK x (a8 (fC (.str s)) ai)) aF) g') ρ (fD (iP b x) w') r:=by
 cases b with
 |true=>
  have:fD (iP true x) w'=x:=by unfold fD iP;rw[if_pos rfl,if_neg hx]
  rw[this]
  exact⟨λ_=>⟨ρ,kY (by rw[dB h];exact pb),rfl⟩,λz=>absurd z hx⟩
 |false=>
  have:fD (iP false x) w'=w':=rfl
  have e:aw (cr t (cK x (a8 (fC (.str s)) ai)) aF) g' ρ=g' ρ:=av (by rw[bO h];rfl)
  unfold ph
  rw[this,e];exact h2
theorem ye {g g':af->R br} {ρ ρ':af} {w:Kw} {r:R br} (h:g ρ= .ok (.nx ρ')) (ht:dD 1 ρ'=dD 1 ρ) (h2:ph g' ρ' w r):ph (aw g g') ρ w r:=by
 unfold ph
 rw[av h,<-ht];exact h2
theorem zy {g:af->R br} {ρ ρ':af} {w:Kw} {f:af->R D} {d:D} (h:ph g ρ w (.ok (.nx ρ'))) (hf:f ρ'= .ok d):ph (aw g (iC f)) ρ w (.ok (.retc d ρ')):=
 ⟨λz=>by obtain⟨ρe,e,t⟩:=h.1 z;exact⟨ρe,kY e,t⟩,λz=>by rw[av (h.2 z)];exact pd hf⟩
theorem zA {g g':af->R br} {ρ ρ':af} {w:Kw} {r:R br} {L:List Nat} (hf:frz L ρ=ρ') (ht:dD 1 ρ'=dD 1 ρ) (h:ph (aw g g') ρ' w r):ph (aw (pK L g) g') ρ w r:=by
 have:aw (pK L g) g' ρ=aw g g' ρ':=by unfold aw pK;rw[hf]
 unfold ph
 rw[this,<-ht];exact h
theorem vo {g:af->R br} {k n:Nat} {s s':Slot} {ds:List D} {w:Kw} {ρ':af} (hl:ds.length=k) (h:ph g (fQ n [s] ds) w (.ok (.nx ρ'))) (ht:dD 1 ρ'=some [s']):mZ (iM 1 k n g [s] ds) s w .non s':=
 ⟨λz=>by obtain⟨ρe,e,t⟩:=h.1 z;exact⟨ρe,pc ⟨rfl,hl⟩ e,t⟩,λz=>zw ⟨rfl,hl⟩ (h.2 z) ht⟩
theorem mJ {g:af->R br} {k n:Nat} {s s':Slot} {ds:List D} {w:Kw} {ρ':af} {d:D} (hl:ds.length=k) (h:ph g (fQ n [s] ds) w (.ok (.retc d ρ'))) (ht:dD 1 ρ'=some [s']):mZ (iM 1 k n g [s] ds) s w d s':=
 ⟨λz=>by obtain⟨ρe,e,t⟩:=h.1 z;exact⟨ρe,pc ⟨rfl,hl⟩ e,t⟩,λz=>gk ⟨rfl,hl⟩ (h.2 z) ht⟩
theorem pi {t:af->R Bool} {ρ:af} {b:Bool} {x s:Kw} (h:t ρ= .ok b) (hx:x≠"":=by decide):ph (cr t (cK x (a8 (fC (.str s)) ai)) aF) ρ (iP b x) (.ok (.nx ρ)):=by
 cases b with
 |true=>exact⟨λ_=>⟨ρ,by rw[dB h];exact pb,rfl⟩,λz=>absurd z hx⟩
 |false=>exact⟨λz=>absurd rfl z,λ_=>by rw[bO h];rfl⟩
theorem vp {g:af->R br} {k n:Nat} {ds:List D} {w:Kw} {ρ':af} (hl:ds.length=k) (h:ph g (cY n ds) w (.ok (.nx ρ'))):GS (bi k n g ds) w:=
 ⟨λz=>by obtain⟨ρe,e,_⟩:=h.1 z;exact⟨ρe,CW hl e⟩,λz=>Gu hl (h.2 z)⟩
theorem GU {α:Type} (l:List α) (p:α->Bool):v4 [.lst ((l.filter λ_=>true).map λx=>D.bl (p x))]=some (.bl (l.any p)):=by
 rw[o4]
 show (jb (l.map λx=>D.bl (p x))).map (λbs=>D.bl (bs.any id))=_
 rw[show l.map (λx=>D.bl (p x))=(l.map p).map .bl by rw[M1];rfl,AH]
 show some (D.bl ((l.map p).any id))=_
 rw[List.any_map];rfl
theorem AT {α:Type} {N:List Kw} {names:List (Kw×LC)} {fi:af->R (List D)} {fe:af->R D} {ρ rest:af} {enc:α->D} {l:List α} {p:α->Bool} (h:fi ρ= .ok (l.map enc)) (hl:l.length<=1000) (hr:j0 N names ρ=none::none::rest) (he:∀x∈l,fe (none::some (.val (enc x))::rest)= .ok (.bl (p x))):
  eL (cg v4 (a8 (fL (bM N names fi (gN 1) gJ fe)) ai)) ρ= .ok (l.any p):=
 jO (aS (a9 (nJ (fO h (by rw[KA];unfold lim;omega) hr (km (p:=λ_=>true) (out:=λx=> .bl (p x)) l none (λr _=>rfl) (λr Xv _=>he r Xv)))) rfl) (GU l p))
def yf (n a:Int):Bool:=decide (a<0)||decide (a>n)
def GV (n a b:Int):Kw:=fD (iP ([a,b].any (yf n)) "UnknownPlace") (iP (decide (a=b)) "SamePlace")
theorem yg (n a b:Int):GS (d_ [.int n, .tup [.int a, .int b]]) (GV n a b):=by
 refine vp rfl (mn (ρ:=[some (.val (.int n)),some (.val (.tup [.int a, .int b]))]) (AT (enc:= .int) (l:=[a,b]) rfl (by simp) (rest:=[none,some (.val (.int n))]) rfl λr _=> ?_) (pi (bv (aj (aj rfl rfl Dp) (aj rfl rfl JL) i9))))
 unfold E4
 rw[aj (a:= .int r) (b:= .int 0) rfl rfl lK,ar]
 by_cases h:r<0
 ·simp only[h,decide_true,yf,Pc]
 ·simp only[h,decide_false,yf,OM]
  exact aj (a:= .int r) (b:= .int n) rfl rfl l7
def vq (nu ns:List Int):Kw:=fD (iP (ns.any λx=> !decide (x∈nu)) "UnknownStream") (iP (!decide ns.Nodup) "Twice")
section
variable {n:Int} {m:Mo} {hs:List D}
theorem C_ {N:List Kw} {names:List (Kw×LC)} {fi:af->R (List D)} {ρ rest:af} (g:m.Ok) (h:fi ρ= .ok (m.ss.map d3)) (hr:j0 N names ρ=none::none::rest):bM N names fi (gN 1) gJ (f2 aQ (aa 1) (fC (.int 0))) ρ= .ok (m.nu.map .int):=by
 rw[fO h (by have:=g.len;rw[KA];unfold lim;omega) hr (km (p:=λ_=>true) (out:=λr=> .int r.1) m.ss none (λr _=>rfl) (λr _ _=>aj rfl rfl pe)),o4,M1];rfl
theorem own_of {i:Nat} {f:af->R (List D)} {ρ:af} {ds:List D} (h:f ρ= .ok ds):oB i f ρ= .ok (.nx (ρ.set i (some (.own (.lst ds))))):=by unfold oB;rw[h,ar]
theorem jB (g:m.Ok) {d:D} {ns:List Int} (h:eZ d ns) (hl:ns.length<=100):GS (bB [bG n m,d]) (vq m.nu ns):=by
 refine vp rfl (ye (ρ:=[some (.val (bG n m)),some (.val d),none]) (ρ':=[some (.val (bG n m)),some (.val d),some (.own (.lst (m.nu.map .int)))]) (own_of (C_ g (vm (dS n m)) rfl)) rfl (mn (AT (enc:= .int) (l:=ns) (h.seq rfl) (by omega) (rest:=[some (.bor (.lst (m.nu.map .int)))]) rfl λr _=>aj (a:= .int r) (b:= .lst (m.nu.map .int)) rfl rfl lL) (pi (bv (aj (a:= .int (L2.gr ns)) (h.set (by omega) rfl) (aS (a9 rfl rfl) h.len) ?_)))))
 rw[lK,wY]
def Hj (ms ns:List Int):Kw:=iP (ns.any λx=> !decide (x∈ms)) "NotMetered"
theorem nl {d:D} {ns:List Int} (h:eZ d ns) (hl:ns.length<=100):GS (c9 [bG n m,d]) (Hj m.ms ns):=
 vp rfl (pi (ρ:=[some (.val (bG n m)),some (.val d)]) (AT (enc:= .int) (l:=ns) (h.seq rfl) (by omega) (rest:=[some (.val (bG n m))]) rfl λr _=>aj (a:= .int r) (b:= .tup (m.ms.map .int)) rfl (fH (fds:=ut n m) rfl (eB n m)) oI))
def GW (i:Int):Bool:=decide (i< -1000)||decide (i>1000)
def Ex (ns:List Int):Kw:=iP (ns.any GW) "OutOfRange"
theorem qH {d:D} {ns:List Int} (h:eZ d ns) (hl:ns.length<=100):GS (cU [d]) (Ex ns):=
 vp rfl (pi (ρ:=[some (.val d)]) (AT (enc:= .int) (l:=ns) (h.seq rfl) (by omega) (rest:=[none,none]) rfl λr _=>(aj (a:= .int (if r<0 then -r else r)) (b:= .int 1000) rfl rfl l7).trans (by
  unfold GW
  congr 2
  rw[<-Bool.decide_or]
  refine decide_eq_decide.mpr ?_
  split<;>omega)))
def m_ (hs:List D):Kw:=iP (decide ((60:Int)<=(hs.length:Int))) "TooManyDeeds"
theorem AU {now deed after:D}:mZ (aR [aD n now hs] [deed,after]) (aD n now hs) (m_ hs) .non (aD n after (hs++[.tup [deed,now]])):=by
 by_cases Zn:(60:Int)<=(hs.length:Int)
 ·have e1:fT (f2 E6 (cg cf (a8 (qv 0 "Cellar" "history") (ai))) (fC (.int 60))) [some (aD n now hs),some (.val deed),some (.val after)]= .ok true:=bv (aj (aS (a9 (rm rfl) rfl) jF) rfl (by rw[si,decide_eq_true Zn]))
  have w:m_ hs="TooManyDeeds":=by unfold m_ iP;rw[decide_eq_true Zn,if_pos rfl]
  rw[w]
  exact⟨λ_=>⟨_,pc ⟨rfl,rfl⟩ (ρ:=[some (aD n now hs),some (.val deed),some (.val after)]) (kY (by rw[show fQ 2 [aD n now hs] [deed,after]=[some (aD n now hs),some (.val deed),some (.val after)]from rfl,dB e1];exact pb)),rfl⟩,λz=>absurd z (by decide)⟩
 ·have e1:fT (f2 E6 (cg cf (a8 (qv 0 "Cellar" "history") (ai))) (fC (.int 60))) [some (aD n now hs),some (.val deed),some (.val after)]= .ok false:=bv (aj (aS (a9 (rm rfl) rfl) jF) rfl (by rw[si,decide_eq_false Zn]))
  have w:m_ hs="":=by unfold m_ iP;rw[decide_eq_false Zn];rfl
  rw[w]
  refine⟨λz=>absurd rfl z,λ_=>zw ⟨rfl,rfl⟩ (ρ:=[some (aD n after (hs++[.tup [deed,now]])),some (.val deed),some (.val after)]) ?_ rfl⟩
  show fU [some (aD n now hs),some (.val deed),some (.val after)]=_
  unfold fU
  rw[av (by rw[bO e1];rfl)]
  have e2:rh 0 "Cellar" "history" (bU (a8 (au 1) (a8 (cZ 0 "Cellar" "now") (ai)))) [some (aD n now hs),some (.val deed),some (.val after)]= .ok (.nx [some (aD n now (hs++[.tup [deed,now]])),some (.val deed),some (.val after)]):=by
   have hf:bU (a8 (au 1) (a8 (cZ 0 "Cellar" "now") (ai))) [some (aD n now hs),some (.val deed),some (.val after)]= .ok (.tup [deed,now]):=bS (a9 rfl (a9 (rl (n:=n) (now:=now) (hs:=hs) rfl (sK n now)) rfl)) (show 2<=lim by decide)
   show (if ("Cellar":Kw)="Cellar"/\("history":Kw)="history" then (bU (a8 (au 1) (a8 (cZ 0 "Cellar" "now") (ai))) [some (aD n now hs),some (.val deed),some (.val after)]>>=λd=>if hs.length<lim then R.ok (br.nx ([some (aD n now hs),some (.val deed),some (.val after)].set 0 (some (.cel "Cellar" (kX n now) "history" (hs++[d])))))else .bad)else .bad)=_
   rw[if_pos ⟨rfl,rfl⟩,hf,ar,if_pos (by unfold lim;omega)]
   rfl
  rw[av e2]
  show ((au 2:af->R D) [some (aD n now (hs++[.tup [deed,now]])),some (.val deed),some (.val after)]>>=λd=>if ("Cellar":Kw)="Cellar"/\((kX n now).lookup ("now":Kw)).isSome=true/\(kX n now).length<900 then R.ok (br.nx ([some (aD n now (hs++[.tup [deed,now]])),some (.val deed),some (.val after)].set 0 (some (.cel "Cellar" (AD "now" d (kX n now)) "history" (hs++[.tup [deed,now]])))))else .bad)=_
  rw[show (au 2:af->R D) [some (aD n now (hs++[.tup [deed,now]])),some (.val deed),some (.val after)]= .ok after from rfl,ar,if_pos ⟨rfl,by rw[sK];rfl,show 2<900 by decide⟩,zv]
  rfl
theorem mq {now deed after:D} {fs:af->R (List D)} {rest:af} (h:fs (some (aD n now hs)::rest)= .ok [deed,after]):ph (j9 (kG 0 "Cellar" "keep_deed" (fj [0] aR 2 fs))) (some (aD n now hs)::rest) (m_ hs) (.ok (.nx (some (aD n after (hs++[.tup [deed,now]]))::rest))):=by
 have k:=AU (n:=n) (hs:=hs) (now:=now) (deed:=deed) (after:=after)
 refine⟨λz=> ?_,λz=>CV (by rw[vi (n:=n) (now:=now) (hs:=hs) rfl];exact yc (k:=2) (n:=n) (now:=now) (hs:=hs) rfl h rfl (k.2 z))⟩
 obtain⟨ρe,e,t⟩:=k.1 z
 exact⟨_,AS (by rw[vi (n:=n) (now:=now) (hs:=hs) rfl];exact vh (k:=2) (n:=n) (now:=now) (hs:=hs) rfl h rfl e t rfl),rfl⟩
theorem qW {rest:af}:cZ 0 "Cellar" "now" (some (aD n (bG n m) hs)::rest)= .ok (bG n m):=rl (n:=n) (now:=bG n m) (hs:=hs) rfl (sK n _)
theorem D0 {now:D} {rest:af}:cZ 0 "Cellar" "tanks" (some (aD n now hs)::rest)= .ok (.int n):=rl (n:=n) (now:=now) (hs:=hs) rfl (CU n _)
theorem IK {rest:af} {g:Kw} {d:D} (h:(ut n m).lookup g=some d):cB "Standing" g (cZ 0 "Cellar" "now") (some (aD n (bG n m) hs)::rest)= .ok d:=fH qW h
def kZ (a b:Int):D:= .tup [.str "stream comes", .int a, .int b]
def D1 (n:Int) (m:Mo) (hs:List D) (a b:Int):Kw:=fD (GV n a b) (fD (iP (decide ((12:Int)<=(m.ss.length:Int))) "TooManyStreams") (m_ hs))
theorem yh (g:m.Ok) (a b:Int):mZ (cu [aD n (bG n m) hs] [.int a, .int b]) (aD n (bG n m) hs) (D1 n m hs a b) (.int (m.c+1)) (aD n (bG n (m.comes a b)) (hs++[.tup [kZ a b,bG n m]])):=
 mJ rfl (iQ (ρ:=[some (aD n (bG n m) hs),some (.val (.int a)),some (.val (.int b))]) (ds:=[.int n, .tup [.int a, .int b]]) (a9 D0 (a9 (bS (ds:=[.int a, .int b]) rfl (show 2<=lim by decide)) rfl)) rfl (yg n a b)
  (mn (bv (aj (aS (a9 (IK (dS n m)) rfl) gW) rfl (by rw[si,KA])))
  (zy (mq (a9 (bS (ds:=[.str "stream comes", .int a, .int b]) rfl (show 3<=lim by decide)) (a9 (iO (n:=3) (fds:=ut n m) (ds:=[.int a, .int b]) qW rfl rfl (qd g a b) rfl) rfl)))
   (fH (rl (n:=n) (now:=bG n (m.comes a b)) (hs:=hs++[.tup [kZ a b,bG n m]]) rfl (sK n _)) (mI n (m.comes a b)))))) rfl
def qI (a:Int):D:= .tup [.str "stream goes", .int a]
def Fg (m:Mo) (hs:List D) (a:Int):Kw:=fD (vq m.nu [a]) (m_ hs)
theorem AV (g:m.Ok) (a:Int):mZ (cE [aD n (bG n m) hs] [.int a]) (aD n (bG n m) hs) (Fg m hs a) .non (aD n (bG n (m.goes a)) (hs++[.tup [qI a,bG n m]])):=
 vo rfl (iQ (ρ:=[some (aD n (bG n m) hs),some (.val (.int a))]) (ds:=[bG n m, .tup [.int a]]) (a9 qW (a9 (bS (ds:=[.int a]) rfl (show 1<=lim by decide)) rfl)) rfl (jB g (ns:=[a]) (.inr rfl) (by simp))
  (mq (a9 (bS (ds:=[.str "stream goes", .int a]) rfl (show 2<=lim by decide)) (a9 (iO (n:=2) (fds:=ut n m) (ds:=[.int a]) qW rfl rfl (mX g a) rfl) rfl)))) rfl
def qf (ns:List Int):D:= .tup [.str "meters come", .tup (ns.map .int)]
def D3 (m:Mo) (hs:List D) (ns:List Int):Kw:=fD (vq m.nu ns) (fD (iP (ns.any λx=>decide (x∈m.ms)) "AlreadyMetered") (fD (iP (decide ((m.ms.length:Int)+(ns.length:Int)>10)) "TooManyMeters") (m_ hs)))
def gK (n:Int) (now:D) (hs:List D):List (Kw×D):=kX n now++[(("history":Kw),D.lst hs)]
theorem yi (g:m.Ok) {d:D} {ns:List Int} (h:eZ d ns) (hl:ns.length<=100):mZ (cF [aD n (bG n m) hs] [d]) (aD n (bG n m) hs) (D3 m hs ns) .non (aD n (bG n (m.mcome ns)) (hs++[.tup [qf ns,bG n m]])):=
 vo rfl (iQ (ρ:=[some (aD n (bG n m) hs),some (.val d)]) (ds:=[bG n m,d]) (a9 qW rfl) rfl (jB g h hl)
  (mn (b:=ns.any λx=>decide (x∈m.ms)) (AT (ρ:=[some (.val (.ins "Cellar" (gK n (bG n m) hs))),some (.val d)]) (enc:= .int) (l:=ns) (h.seq rfl) (by omega) (rest:=[some (.val (.ins "Cellar" (gK n (bG n m) hs)))]) rfl λr _=>aj (a:= .int r) (b:= .tup (m.ms.map .int)) rfl (fH (fds:=ut n m) (fH (fds:=gK n (bG n m) hs) rfl rfl) (eB n m)) u0)
  (mn (bv (aj (aj (aS (a9 (IK (eB n m)) rfl) gW) (aS (a9 rfl rfl) h.len) eF) rfl (by rw[l7,KA])))
  (mq (a9 (bS (ds:=[.str "meters come", .tup (ns.map .int)]) (a9 rfl (a9 (aS (a9 rfl rfl) h.tup) rfl)) (show 2<=lim by decide)) (a9 (iO (n:=2) (fds:=ut n m) (ds:=[d]) qW rfl rfl (qe g h hl) rfl) rfl)))))) rfl
def wZ (ns:List Int):D:= .tup [.str "meters go", .tup (ns.map .int)]
def IL (m:Mo) (hs:List D) (ns:List Int):Kw:=fD (vq m.nu ns) (fD (Hj m.ms ns) (m_ hs))
theorem D4 (g:m.Ok) {d:D} {ns:List Int} (h:eZ d ns) (hl:ns.length<=100):mZ (c_ [aD n (bG n m) hs] [d]) (aD n (bG n m) hs) (IL m hs ns) .non (aD n (bG n (m.mgo ns)) (hs++[.tup [wZ ns,bG n m]])):=
 vo rfl (iQ (ρ:=[some (aD n (bG n m) hs),some (.val d)]) (ds:=[bG n m,d]) (a9 qW rfl) rfl (jB g h hl)
  (iQ (ds:=[bG n m,d]) (a9 qW rfl) rfl (nl h hl)
  (mq (a9 (bS (ds:=[.str "meters go", .tup (ns.map .int)]) (a9 rfl (a9 (aS (a9 rfl rfl) h.tup) rfl)) (show 2<=lim by decide)) (a9 (iO (n:=2) (fds:=ut n m) (ds:=[d]) qW rfl rfl (mY g h) rfl) rfl))))) rfl
end
theorem sM {α:Type} {f:α->D} {k:α->Int} (hk:∀a,sZ (f a)=some (k a)):∀l:List α,f8 (l.map f)=some (l.map k)
 |[]=>rfl
 |a::l=>by
  rw[KO,f8,hk,sM hk l];rfl
theorem AW {α:Type} {f:α->D} {k:α->Int} (hk:∀a,sZ (f a)=some (k a)) {l:List α} (h:l≠[]):cP (l.map f)=none:=by
 cases l with
 |nil=>exact absurd rfl h
 |cons a l=>
  have:=hk a
  rw[KO]
  cases e:f a<;>rw[e]at this<;>first|rfl|cases this
theorem vt {α:Type} {f:α->D} {k:α->Int} (hk:∀a,sZ (f a)=some (k a)) {l m:List α} (p:l.Perm m) (inc:m.Pairwise λa b=>k a<k b) (hl:m.length<64) {d:D} (hd:d= .lst (l.map f)\/d= .tup (l.map f)):ia [d]=some (.lst (m.map f)):=by
 by_cases h0:l=[]
 ·subst h0
  have:m=[]:=(Rn p).symm
  subst this
  rcases hd with rfl|rfl<;>rfl
 ·have hn:(l.map k).Nodup:=(p.map k).nodup_iff.mpr (MO.mpr (inc.imp λh=>Int.ne_of_lt h))
  have hs:n8 (l.map f)=m.map f:=wm (p.map f) (by
   rw[MO]
   refine inc.imp λ{a b} h=> ?_
   show (sZ (f a)).getD 0<(sZ (f b)).getD 0
   rw[hk,hk];exact h)
  have Wd:(l.map k).length<64:=by rw[KA,p.length_eq];exact hl
  have hr:=sM hk l
  have ha:=AW hk h0
  rcases hd with rfl|rfl
  ·have:j5 [.lst (l.map f)]=none:=by simp[j5,uP,ha]
   simp only[ia,this,oO,hr,Pe,hn,Wd,and_self,if_true,hs]
  ·have:j5 [.tup (l.map f)]=none:=by simp[j5,uP,ha]
   simp only[ia,this,oO,hr,Pe,hn,Wd,and_self,if_true,hs]
theorem D5 {m:List D->R D} {k:Nat} {fs:af->R (List D)} {ρ:af} {ds:List D} {g':af->R br} {w w':Kw} {r:R br} (h:fs ρ= .ok ds) (hl:ds.length=k) (hr:GS (m ds) w) (h2:w=""->ph g' ρ w' r):ph (aw (ib (aI m k fs)) g') ρ (fD w w') r:=by
 by_cases e:w=""
 ·exact iQ h hl hr (h2 e)
 ·unfold fD
  rw[if_neg e]
  obtain⟨ρe,e1⟩:=hr.1 e
  exact⟨λ_=>⟨ρ,kY (wW (wX h hl e1)),rfl⟩,λz=>absurd z e⟩
theorem w_ {f:af->R D} {ρ:af} {d:D} {L:List Nat} {x:Kw} (hc:L.all (zi x ρ)=true) (h:f (oU L ρ)= .ok d) (cl:jZ x d):nO x L f ρ= .ok d:=by
 unfold nO
 rw[if_pos hc,h,ar,if_pos cl]
def yj (d:D) (rd:List Rd):Prop:=d= .lst (rd.map jr)\/d= .tup (rd.map jr)
theorem yj.seq {d:D} {rd:List Rd} (h:yj d rd) {ρ:af} {f:af->R D} (e:f ρ= .ok d):cw f ρ= .ok (rd.map jr):=by
 unfold cw
 rw[e]
 rcases h with rfl|rfl<;>rfl
theorem yj.tup {d:D} {rd:List Rd} (h:yj d rd):bV [d]=some (.tup (rd.map jr)):=by rcases h with rfl|rfl<;>rfl
theorem D6 {r:Rd}:aQ (jr r) (.int 0)=some (.int r.1):=Dp
theorem D7 {r:Rd}:aQ (jr r) (.int 1)=some (.int r.2):=JL
theorem pj {α:Type} {N:List Kw} {names:List (Kw×LC)} {fi:af->R (List D)} {fe:af->R D} {ρ rest:af} {enc out:α->D} {l:List α} (h:fi ρ= .ok (l.map enc)) (hl:l.length<=1000) (hr:j0 N names ρ=none::none::rest) (he:∀x∈l,fe (none::some (.val (enc x))::rest)= .ok (out x)):
  bM N names fi (gN 1) gJ fe ρ= .ok (l.map out):=by
 rw[fO h (by rw[KA];unfold lim;omega) hr (km (p:=λ_=>true) (out:=out) l none (λr _=>rfl) (λr Xv _=>he r Xv)),o4]
theorem yk {nu ns:List Int} (h:vq nu ns=""):ns.Nodup/\∀x∈ns,x∈nu:=by
 unfold vq fD iP at h
 by_cases a:(ns.any λx=> !decide (x∈nu))=true
 ·rw[if_pos a,if_neg (by decide)]at h;exact absurd h (by decide)
 ·rw[if_neg a,if_pos rfl]at h
  by_cases b:ns.Nodup
  ·refine⟨b,λx hx=> ?_⟩
   by_cases c:x∈nu
   ·exact c
   ·exact absurd (LO.mpr ⟨x,hx,by simp[c]⟩) a
  ·rw[decide_eq_false b]at h;exact absurd h (by decide)
section
variable {n:Int} {m:Mo} {hs:List D}
theorem jp:bj [.ins "Cellar" (gK n (bG n m) hs)]= .ok (.int (m.ds.length:Int)):=
 bx rfl (cJ (aS (a9 (fH (fds:=ut n m) (fH (fds:=gK n (bG n m) hs) rfl rfl) (gl n m)) rfl) (by rw[gW,KA])))
theorem vv (g:m.Ok) {d1 d2:D} {ri:List Int} {rd:List Rd} (h1:eZ d1 ri) (h2:yj d2 rd) (nd:(rd.map (·.1)).Nodup) (hl:rd.length<=60):gZ [.int n, .tup (m.ss.map d3),d1,d2]= .ok (CZ n ⟨m.ss,ri,xk rd⟩):=by
 have e1:=vt (f:=d3) (k:=(·.1)) (λa=>rfl) (Nd m.ss) g.inc (by have:=g.len;omega) (.inr rfl)
 have e3:=vt (f:=jr) (k:=(·.1)) (λa=>rfl) (kn rd) (zx nd) (by have:=(kn rd).length_eq;omega) h2
 have e2:=h1.tup
 simp! [gZ,mD,jH,cY,sx,oM,e1,e2,e3,KO,Ma,Lf,List.cons_append,Nat.reduceSub,Ap,qx,L2.Pu.dZ,N5,CZ]
def dz (ri:List Int) (rd:List Rd):D:= .tup [.str "day passes", .tup (ri.map .int), .tup (rd.map jr)]
def Fh (n:Int) (m:Mo) (hs:List D) (ri:List Int) (rd:List Rd):Kw:=fD (iP (!decide ((ri.length:Int)=n)) "WrongRises") (fD (vq m.nu (rd.map (·.1))) (fD (Hj m.ms (rd.map (·.1))) (fD (iP (m.ms.any λx=> !decide (x∈rd.map (·.1))) "ReadingMissing") (fD (Ex ri) (fD (Ex (rd.map (·.2))) (fD (iP (decide ((12:Int)<=(m.ds.length:Int))) "TooManyDays") (m_ hs)))))))
theorem AX (g:m.Ok) {d1 d2:D} {ri:List Int} {rd:List Rd} (h1:eZ d1 ri) (h2:yj d2 rd) (l1:ri.length<=100) (l2:rd.length<=60):mZ (cM [aD n (bG n m) hs] [d1,d2]) (aD n (bG n m) hs) (Fh n m hs ri rd) (.int ((m.ds.length:Int)+1)) (aD n (bG n (m.passes ri rd)) (hs++[.tup [dz ri rd,bG n m]])):=by
 let ks:=rd.map (·.1)
 have hk:∀{x:Option Slot} {N:List Kw} {names:List (Kw×LC)} {ρ:af},ρ[2]? =some (some (.val d2))->j0 N names ρ=[none,none]->bM N names (cw (au 2)) (gN 1) gJ (f2 aQ (aa 1) (fC (.int 0))) ρ= .ok (ks.map .int):=λ{x N names ρ} e hr=>by
  rw[pj (rest:=[]) (h2.seq (by unfold au;rw[e])) (by omega) hr (out:=λr=> .int r.1) λr _=>aj rfl rfl D6,M1];rfl
 have hv:∀{N:List Kw} {names:List (Kw×LC)} {ρ:af},ρ[2]? =some (some (.val d2))->j0 N names ρ=[none,none]->bM N names (cw (au 2)) (gN 1) gJ (f2 aQ (aa 1) (fC (.int 1))) ρ= .ok ((rd.map (·.2)).map .int):=λ{N names ρ} e hr=>by
  rw[pj (rest:=[]) (h2.seq (by unfold au;rw[e])) (by omega) hr (out:=λr=> .int r.2) λr _=>aj rfl rfl D7,M1];rfl
 have lk:ks.length<=100:=by simp only[ks,KA];omega
 let R (x y:Option Slot):af:=[some (aD n (bG n m) hs),some (.val d1),some (.val d2),x,y]
 refine mJ rfl (mn (ρ:=R none none) (bv (aj (aS (a9 rfl rfl) h1.len) D0 yY)) (ye (ρ':=R (some (.own (.lst (ks.map .int)))) none) (own_of (hk (x:=none) rfl rfl)) rfl (zA (ρ':=R (some (.val (.lst (ks.map .int)))) none) rfl rfl
  (D5 (ds:=[bG n m, .lst (ks.map .int)]) (a9 qW rfl) rfl (jB g (.inl rfl) lk) λhw=>zA (ρ':=R (some (.val (.lst (ks.map .int)))) none) rfl rfl
  (iQ (ds:=[bG n m, .lst (ks.map .int)]) (a9 qW rfl) rfl (nl (.inl rfl) lk)
  (mn (AT (enc:= .int) (l:=m.ms) (by unfold cw;rw[IK (eB n m)];rfl) (by have:=g.ten;omega) (rest:=[some (.val (.lst (ks.map .int)))]) rfl λr _=>aj (a:= .int r) (b:= .lst (ks.map .int)) rfl rfl lL)
  (iQ (ds:=[d1]) rfl rfl (qH h1 l1)
  (iQ (ds:=[.lst ((rd.map (·.2)).map .int)]) (a9 (nJ (hv rfl rfl)) rfl) rfl (qH (.inl rfl) (by rw[KA];omega))
  (mn (bv (aj (aS (a9 (IK (gl n m)) rfl) gW) rfl (by rw[si,KA])))
  (ye (ρ':=R (some (.val (.lst (ks.map .int)))) (some (.val (sL n ⟨m.ss,ri,xk rd⟩)))) (aX (d:=sL n ⟨m.ss,ri,xk rd⟩) ?_ rfl) rfl
  (zy (mq (a9 (bS (ds:=[.str "day passes", .tup (ri.map .int), .tup (rd.map jr)]) (a9 rfl (a9 (aS (a9 rfl rfl) h1.tup) (a9 (aS (a9 rfl rfl) h2.tup) rfl))) (show 3<=lim by decide)) (a9 (iO (n:=2) (fds:=ut n m) (ds:=[sL n ⟨m.ss,ri,xk rd⟩]) qW rfl rfl (tq g ri rd) rfl) rfl)))
   (w_ rfl ((iO (n:=1) (fds:=gK n (bG n (m.passes ri rd)) (hs++[.tup [dz ri rd,bG n m]])) (ds:=[]) rfl rfl rfl jp rfl).trans ?_) (.int _))))))))))))) rfl
 ·unfold lM
  rw[a9 (ds:=[.tup (m.ss.map d3),d1,d2]) D0 (a9 (IK (dS n m)) rfl),ar,if_pos (show [D.int n, .tup (m.ss.map d3),d1,d2].length=4 from rfl),vv g h1 h2 (yk hw).1 l2]
  rfl
 ·simp only[Mo.passes,Lp,L6,NC]
  rfl
theorem AY:mZ (cb [aD n (bG n m) []] []) (aD n (bG n m) []) "NothingDone" .non (aD n (bG n m) []):=
 ⟨λ_=>⟨_,pc ⟨rfl,rfl⟩ (ρ:=[some (aD n (bG n m) []),none]) (kY (by rw[show fQ 1 [aD n (bG n m) []] []=[some (aD n (bG n m) []),none]from rfl,dB (bv (aj (aS (a9 (rm rfl) rfl) jF) rfl i9))];exact pb)),rfl⟩,λz=>absurd z (by decide)⟩
theorem AZ {now d st:D}:cb [aD n now (hs++[.tup [d,st]])] []= .ok (d,[aD n st hs]):=by
 have Sq:((hs++[D.tup [d,st]]).length:Int)≠0:=by simp;omega
 refine gk ⟨rfl,rfl⟩ (ρ:=[some (aD n st hs),some (.val (.tup [d,st]))]) ?_ rfl
 show fY [some (aD n now (hs++[.tup [d,st]])),none]=_
 unfold fY
 rw[av (ρ':=[some (aD n now (hs++[.tup [d,st]])),none]) (by rw[bO (bv (aj (aS (a9 (rm rfl) rfl) jF) rfl (by rw[i9,decide_eq_false Sq])))];rfl)]
 rw[av (ρ':=[some (aD n now hs),some (.val (.tup [d,st]))]) (by
  show (if ("Cellar":Kw)="Cellar"/\("history":Kw)="history" then (match (hs++[D.tup [d,st]])[(hs++[D.tup [d,st]]).length - 1]? with
   |some d'=>R.ok (br.nx ((([some (aD n now (hs++[D.tup [d,st]])),none]:af).set 0 (some (.cel "Cellar" (kX n now) "history" (hs++[D.tup [d,st]]).dropLast))).set 1 (some (.val d'))))
   |none=> .bad)else .bad)=_
  rw[if_pos ⟨rfl,rfl⟩,Qs,show (hs++[D.tup [d,st]])[(hs++[D.tup [d,st]]).length - 1]? =some (D.tup [d,st]) by simp]
  rfl)]
 rw[av (ρ':=[some (aD n st hs),some (.val (.tup [d,st]))]) (by
  show (f2 aQ (aa 1) (fC (.int 1)) [some (aD n now hs),some (.val (.tup [d,st]))]>>=λd'=>if ("Cellar":Kw)="Cellar"/\((kX n now).lookup ("now":Kw)).isSome=true/\(kX n now).length<900 then R.ok (br.nx ([some (aD n now hs),some (.val (.tup [d,st]))].set 0 (some (.cel "Cellar" (AD "now" d' (kX n now)) "history" hs))))else .bad)=_
  rw[aj rfl rfl JL,ar,if_pos ⟨rfl,by rw[sK];rfl,show 2<900 by decide⟩,zv]
  rfl)]
 exact pd (aj rfl rfl Dp)
def yl (ms:List Int) (r:zu):D:= .tup [.int r.1, .int r.2.1, .int r.2.2, .bl (decide (r.1∈ms))]
theorem x4 (g:m.Ok):dc [.ins "Cellar" (gK n (bG n m) hs)]= .ok (.tup (m.ss.map (yl m.ms))):=by
 refine bx rfl ?_
 show ir [some (.val (.ins "Cellar" (gK n (bG n m) hs))),none]=_
 unfold ir
 have nw:∀{x:Option Slot},cB "Cellar" "now" (aa 0) [some (.val (.ins "Cellar" (gK n (bG n m) hs))),x]= .ok (bG n m):=λ{x}=>fH (fds:=gK n (bG n m) hs) rfl rfl
 rw[av (ρ':=[some (.val (.ins "Cellar" (gK n (bG n m) hs))),some (.val (.tup (m.ms.map .int)))]) (aX (fH nw (eB n m)) rfl)]
 refine cJ (aS (a9 (nJ (pj (enc:=d3) (l:=m.ss) (by unfold cw;rw[fH nw (dS n m)];rfl) (by have:=g.len;omega) (rest:=[some (.val (.tup (m.ms.map .int)))]) rfl λr _=>aj (a:=d3 r) (b:= .tup [.bl (decide (r.1∈m.ms))]) rfl (bS (ds:=[.bl (decide (r.1∈m.ms))]) (a9 (aj (aj rfl rfl pe) rfl u0) rfl) (show 1<=lim by decide)) (iA (by simp[d3])))) rfl) rfl)
theorem D8 {k:Nat} (h:k<m.ds.length):fq [.ins "Cellar" (gK n (bG n m) hs), .int ((k:Int)+1)]= .ok (sL n m.ds[k]):=by
 refine bx rfl ?_
 show kM [some (.val (.ins "Cellar" (gK n (bG n m) hs))),some (.val (.int ((k:Int)+1)))]=_
 unfold kM
 have t1:fT (f2 sX (aa 1) (fC (.int 1))) [some (.val (.ins "Cellar" (gK n (bG n m) hs))),some (.val (.int ((k:Int)+1)))]= .ok false:=bv (aj (a:= .int ((k:Int)+1)) (b:= .int 1) rfl rfl (by rw[lK,decide_eq_false (by omega)]))
 have t2:fT (f2 pL (aa 1) (fA "Cellar" "days_gone" 1 bj (au 0) ai)) [some (.val (.ins "Cellar" (gK n (bG n m) hs))),some (.val (.int ((k:Int)+1)))]= .ok false:=bv (aj (a:= .int ((k:Int)+1)) rfl (iO (n:=1) (fds:=gK n (bG n m) hs) (ds:=[]) rfl rfl rfl jp rfl) (by rw[l7,decide_eq_false (by omega)]))
 rw[av (by rw[bO (by unfold o6;rw[t1,ar,if_neg (by simp),t2])];rfl)]
 refine cJ (aj (fH (fds:=ut n m) (fH (fds:=gK n (bG n m) hs) rfl rfl) (gl n m)) (aj (a:= .int ((k:Int)+1)) (b:= .int 1) rfl rfl lJ) ?_)
 rw[t_,show (k:Int)+1 - 1=(k:Int) by omega,il (by simpa using h)]
 simp
end
def qX (n:Int) (d:CY):D:= .tup [.int n, .tup (d.ss.map d3), .tup (d.ri.map .int), .tup (d.rd.map jr)]
def bF (n:Int) (m:Mo):D:= .tup [.int n, .int (m.c+1), .tup (m.ss.map d3), .tup (m.mm.map .int), .tup (m.ds.map (qX n)), .tup m.dd]
theorem e_ {l:List D} {d:D} (k:Nat) (h:l[k]? =some d):aQ (.tup l) (.int (k:Int))=some d:=by rw[t_];exact uz h
theorem sN {l:List D} {d:D} (k:Nat) (h:l[k]? =some d):aQ (.lst l) (.int (k:Int))=some d:=by rw[wd];exact uz h
section
variable {n:Int} {m:Mo} {hs:List D}
theorem Ey:aQ (bF n m) (.int 0)=some (.int n):=e_ 0 rfl
theorem Kr:aQ (bF n m) (.int 1)=some (.int (m.c+1)):=e_ 1 rfl
theorem Hk:aQ (bF n m) (.int 2)=some (.tup (m.ss.map d3)):=e_ 2 rfl
theorem GX:aQ (bF n m) (.int 3)=some (.tup (m.mm.map .int)):=e_ 3 rfl
theorem IM:aQ (bF n m) (.int 4)=some (.tup (m.ds.map (qX n))):=e_ 4 rfl
theorem K7:aQ (bF n m) (.int 5)=some (.tup m.dd):=e_ 5 rfl
theorem Mo.Ok.mem (g:m.Ok) (x:Int):decide (x∈m.mm)=decide (x∈m.ms):=decide_eq_decide.mpr g.per.mem_iff
def D9 (g:af->R br) (ρ:af) (w:Kw):Prop:=g ρ= .ok (.ret (.str w))
theorem f_ {t:af->R Bool} {ρ:af} {b:Bool} {x w':Kw} {g':af->R br} (h:t ρ= .ok b) (h2:D9 g' ρ w') (hx:x≠"":=by decide):D9 (aw (cr t (bt (fC (.str x))) aF) g') ρ (fD (iP b x) w'):=by
 cases b with
 |true=>
  have:fD (iP true x) w'=x:=by unfold fD iP;rw[if_pos rfl,if_neg hx]
  unfold D9
  rw[this];exact dJ (by rw[dB h];rfl)
 |false=>exact(av (by rw[bO h];rfl)).trans h2
theorem pq {ρ:af}:D9 (bt (fC (.str ""))) ρ "":=rfl
theorem o5 {g g':af->R br} {ρ ρ':af} {w:Kw} (h:g ρ= .ok (.nx ρ')) (h2:D9 g' ρ' w):D9 (aw g g') ρ w:=(av h).trans h2
theorem x5 (w:Kw):fD w ""=w:=by unfold fD;split<;>simp_all
theorem uu (a b c:Kw):fD (fD a b) c=fD a (fD b c):=by
 unfold fD
 by_cases h:a=""
 ·simp[h]
 ·simp[h]
theorem GY {a b:Bool} {w:Kw} (hw:w≠""):fD (iP a w) (iP b w)=iP (a||b) w:=by
 cases a<;>cases b<;>simp[fD,iP,hw]
theorem sO {α:Type} (p:α->Bool):∀l:List α,(!(l.filter p).isEmpty)=l.any p
 |[]=>rfl
 |a::l=>by
  rw[Mb,Pq]
  cases q:p a with
  |true=>rfl
  |false=>exact sO p l
theorem neC {α:Type} {N:List Kw} {names:List (Kw×LC)} {fi:af->R (List D)} {gt:af->R Bool} {ρ rest:af} {enc:α->D} {l:List α} {p:α->Bool} (h:fi ρ= .ok (l.map enc)) (hl:l.length<=1000) (hr:j0 N names ρ=none::none::rest) (ht:∀x∈l,gt (none::some (.val (enc x))::rest)= .ok (p x)):
  fT (f2 qP (fL (bM N names fi (gN 1) gt (au 1))) (eD ai)) ρ= .ok (l.any p):=by
 refine bv (aj (nJ (fO h (by rw[KA];unfold lim;omega) hr (km (p:=p) (out:=enc) l none (λr Xv=>ht r Xv) (λr _ _=>rfl)))) rfl ?_)
 show some (D.bl (!((l.filter p).map enc).isEmpty))=_
 congr 2
 rw[Rp]
 rw[sO]
theorem sP (a b:Int):ee [bF n m, .int a, .int b]= .ok (.str (fD (GV n a b) (iP (decide ((12:Int)<=(m.ss.length:Int))) "TooManyStreams"))):=by
 have XU:∀{x:Int},o6 (fT (f2 sX (aa 3) (fC (.int 0)))) (fT (f2 pL (aa 3) (f2 aQ (aa 0) (fC (.int 0))))) [some (.val (bF n m)),some (.val (.int a)),some (.val (.int b)),some (.val (.int x))]= .ok (yf n x):=λ{x}=>by
  have t2:fT (f2 pL (aa 3) (f2 aQ (aa 0) (fC (.int 0)))) [some (.val (bF n m)),some (.val (.int a)),some (.val (.int b)),some (.val (.int x))]= .ok (decide (x>n)):=bv (aj (a:= .int x) rfl (aj (a:=bF n m) rfl rfl Ey) l7)
  unfold o6
  rw[bv (aj (a:= .int x) (b:= .int 0) rfl rfl lK),ar]
  unfold yf
  by_cases h:x<0
  ·simp only[h,decide_true,if_true,Pc]
  ·simp only[h,decide_false,LM,if_false,t2,OM]
 have VD:∀(x:Int) (r:List D) (y:Option Slot),eK (gN 3) bI (.int x::r) [some (.val (bF n m)),some (.val (.int a)),some (.val (.int b)),y]=if yf n x=true then .ok (.ret (.str "UnknownPlace"))else eK (gN 3) bI r [some (.val (bF n m)),some (.val (.int a)),some (.val (.int b)),some (.val (.int x))]:=λx r y=>by
  cases q:yf n x with
  |true=>
   rw[if_pos rfl,eK]
   show (bI [some (.val (bF n m)),some (.val (.int a)),some (.val (.int b)),some (.val (.int x))]>>=_)=_
   rw[show bI [some (.val (bF n m)),some (.val (.int a)),some (.val (.int b)),some (.val (.int x))]= .ok (.ret (.str "UnknownPlace")) by unfold bI;rw[dB (by rw[XU,q])];rfl]
   rfl
  |false=>
   rw[if_neg (by simp)]
   exact mB (ρ1:=[some (.val (bF n m)),some (.val (.int a)),some (.val (.int b)),some (.val (.int x))]) rfl (by unfold bI;rw[bO (by rw[XU,q])];rfl)
 refine bx rfl ?_
 show iw [some (.val (bF n m)),some (.val (.int a)),some (.val (.int b)),none]=_
 unfold iw
 have hf:li (cw (bU (a8 (au 1) (a8 (au 2) (ai))))) (gN 3) bI [some (.val (bF n m)),some (.val (.int a)),some (.val (.int b)),none]=eK (gN 3) bI [.int a, .int b] [some (.val (bF n m)),some (.val (.int a)),some (.val (.int b)),none]:=sj (by unfold cw;rw[bS (ds:=[.int a, .int b]) rfl (show 2<=lim by decide)];rfl)
 rw[VD,VD]at hf
 by_cases h:[a,b].any (yf n)=true
 ·have e:li (cw (bU (a8 (au 1) (a8 (au 2) (ai))))) (gN 3) bI [some (.val (bF n m)),some (.val (.int a)),some (.val (.int b)),none]= .ok (.ret (.str "UnknownPlace")):=by
   rw[hf]
   simp only[Mb,List.any_nil,RP,PU]at h
   by_cases ha:yf n a=true
   ·rw[if_pos ha]
   ·rw[if_neg ha,if_pos (h.resolve_left ha)]
  rw[dJ e]
  simp only[GV,h,iP,if_true,fD]
  rfl
 ·have ha:¬yf n a=true:=λz=>h (by simp[z])
  have hb:¬yf n b=true:=λz=>h (by simp[z])
  rw[if_neg ha,if_neg hb]at hf
  rw[av hf]
  have:GV n a b=iP (decide (a=b)) "SamePlace":=by unfold GV;rw[show [a,b].any (yf n)=false from OW.mpr h];rfl
  rw[this]
  exact f_ (bv (aj (a:= .int a) (b:= .int b) rfl rfl i9)) ((f_ (bv (aj (aS (a9 (aj (a:=bF n m) rfl rfl Hk) rfl) gW) rfl (by rw[si,KA]))) pq).trans (by rw[x5]))
theorem zB {x y:Kw}:sd (.str x) (.str y)=some (.bl (!decide (x=y))):=rfl
theorem zC {i:Nat} {ρ:af} {w w':Kw} {g':af->R br} (h:ρ[i]? =some (some (.val (.str w)))) (h2:w=""->D9 g' ρ w'):D9 (aw (cr (fT (f2 sd (aa i) (fC (.str "")))) (bt (au i)) aF) g') ρ (fD w w'):=by
 have hb:aa i ρ= .ok (.str w):=by unfold aa;rw[h];rfl
 have hv:au i ρ= .ok (.str w):=by unfold au;rw[h]
 by_cases e:w=""
 ·have e1:fT (f2 sd (aa i) (fC (.str ""))) ρ= .ok false:=bv (aj hb rfl (by rw[zB,decide_eq_true e];rfl))
  unfold fD
  rw[if_pos e]
  exact o5 (by rw[bO e1];rfl) (h2 e)
 ·have e1:fT (f2 sd (aa i) (fC (.str ""))) ρ= .ok true:=bv (aj hb rfl (by rw[zB,decide_eq_false e];rfl))
  unfold fD
  rw[if_neg e]
  exact dJ (by rw[dB e1];exact cJ hv)
theorem Ez {fo fk:af->R D} {ρ:af} {d:D} {ns:List Int} {k:Int} (h:eZ d ns) (ho:fo ρ= .ok d) (hk:fk ρ= .ok (.int k)):zq fo fk ρ= .ok (.int (ns.count k)):=by
 unfold zq
 rw[ho,ar]
 rcases h with rfl|rfl
 ·dsimp only
  rw[hk,ar,ky]
 ·dsimp only
  rw[hk,ar,ky]
theorem EA (ns:List Int):(ns.any λx=>decide ((ns.count x:Int)>1))= !decide ns.Nodup:=by
 by_cases h:ns.Nodup
 ·rw[decide_eq_true h,RU,OW]
  intro z
  obtain⟨x,_,hx⟩:=LO.mp z
  have:=Qt.mp h x
  have:=of_decide_eq_true hx
  omega
 ·rw[decide_eq_false h,RN]
  refine LO.mpr ?_
  by_cases z:∃x∈ns,decide ((ns.count x:Int)>1)=true
  ·exact z
  ·refine absurd (Qt.mpr λa=> ?_) h
   by_cases ha:a∈ns
   ·have:¬((ns.count a:Int)>1):=λq=>z ⟨a,ha,decide_eq_true q⟩
    omega
   ·rw[List.count_eq_zero_of_not_mem ha];omega
theorem EB {x:List (Option Slot)} {k:Int} {l:List D} (h:aQ (bF n m) (.int k)=some (.tup l)):cw (f2 aQ (aa 0) (fC (.int k))) (some (.val (bF n m))::x)= .ok l:=by
 unfold cw
 rw[aj (a:=bF n m) rfl rfl h,ar]
theorem jP (g:m.Ok) {d:D} {ns:List Int} (h:eZ d ns) (hl:ns.length<=100):cn [bF n m,d]= .ok (.str (vq m.nu ns)):=by
 refine bx rfl (o5 (ρ:=[some (.val (bF n m)),some (.val d),none]) (ρ':=[some (.val (bF n m)),some (.val d),some (.own (.lst (m.nu.map .int)))]) (own_of (C_ g (EB Hk) rfl)) ?_)
 refine(f_ (neC (enc:= .int) (l:=ns) (h.seq rfl) (by omega) (rest:=[some (.bor (.lst (m.nu.map .int)))]) rfl λr _=>bv (aj (a:= .int r) (b:= .lst (m.nu.map .int)) rfl rfl lL)) (f_ (neC (enc:= .int) (l:=ns) (h.seq rfl) (by omega) (rest:=[some (.val d)]) rfl λr _=>bv (aj (Ez h rfl rfl) rfl l7)) pq)).trans ?_
 rw[x5,EA]
 rfl
theorem mv (g:m.Ok) (c:Bool) {ns:List Int} (hl:ns.length<=100):ef [bF n m, .bl c, .tup (ns.map .int)]= .ok (.str (fD (vq m.nu ns) (if c=true then fD (iP (ns.any λx=>decide (x∈m.ms)) "AlreadyMetered") (iP (decide ((m.ms.length:Int)+(ns.length:Int)>10)) "TooManyMeters")else Hj m.ms ns))):=by
 have hr:eZ (.tup (ns.map .int)) ns:= .inr rfl
 let R (x y:Option Slot):af:=[some (.val (bF n m)),some (.val (.bl c)),some (.val (.tup (ns.map .int))),x,y]
 refine bx rfl (o5 (ρ:=R none none) (ρ':=R (some (.val (.str (vq m.nu ns)))) none) (aX (aZ (n:=2) (a9 rfl (a9 rfl rfl)) rfl (jP g hr hl)) rfl) (zC rfl λ_=> ?_))
 have hf:bM ["_law_model","_law_come","_law_named","_law_word","_law_have"] [(".0", .local),("_law_number", .local),("_law_model", .free)] (cw (au 2)) (gN 1) (fT (f2 (gT false) (aa 1) (f2 aQ (aa 2) (fC (.int 3))))) (au 1) (R (some (.val (.str (vq m.nu ns)))) none)= .ok ((ns.filter λx=>decide (x∈m.ms)).map .int):=
  fO (hr.seq rfl) (by rw[KA];unfold lim;omega) (τ:=[none,none,some (.val (bF n m))]) rfl (km (p:=λx=>decide (x∈m.ms)) (out:= .int) ns none (λr _=>by
   rw[bv (aj (a:= .int r) (b:= .tup (m.mm.map .int)) rfl (aj (a:=bF n m) rfl rfl GX) u0),g.mem]) (λr _ _=>rfl))
 refine o5 (ρ':=R (some (.val (.str (vq m.nu ns)))) (some (.own (.lst ((ns.filter λx=>decide (x∈m.ms)).map .int))))) (own_of hf) ?_
 let ρ:=R (some (.val (.str (vq m.nu ns)))) (some (.own (.lst ((ns.filter λx=>decide (x∈m.ms)).map .int))))
 have tc:eL (aa 1) ρ= .ok c:=jO rfl
 have t1:fT (f2 qP (aa 4) (eD (ai))) ρ= .ok (ns.any λx=>decide (x∈m.ms)):=bv (aj (a:= .lst ((ns.filter λx=>decide (x∈m.ms)).map .int)) (b:= .lst []) rfl rfl (by
  show some (D.bl (!((ns.filter λx=>decide (x∈m.ms)).map D.int).isEmpty))=_
  rw[Rp,sO]))
 have t2:fT (f2 pL (f2 bC (cg cf (a8 (f2 aQ (aa 0) (fC (.int 3))) (ai))) (cg cf (a8 (aa 2) (ai)))) (fC (.int 10))) ρ= .ok (decide ((m.ms.length:Int)+(ns.length:Int)>10)):=bv (aj (aj (aS (a9 (aj (a:=bF n m) rfl rfl GX) rfl) gW) (aS (a9 rfl rfl) hr.len) eF) rfl (by rw[l7,KA,g.per.length_eq]))
 have t3:fT (f2 sX (cg cf (a8 (aa 4) (ai))) (cg cf (a8 (aa 2) (ai)))) ρ= .ok (ns.any λx=> !decide (x∈m.ms)):=bv (aj (aS (a9 (d:= .lst ((ns.filter λx=>decide (x∈m.ms)).map .int)) rfl rfl) jF) (aS (a9 rfl rfl) hr.len) (by
  rw[lK,KA]
  congr 2
  have a1R:=Ni (λx=>decide (x∈m.ms)) ns
  by_cases z:(ns.any λx=> !decide (x∈m.ms))=true
  ·rw[z,decide_eq_true_eq]
   obtain⟨x,hx,hp⟩:=LO.mp z
   have:(ns.filter λx=>decide (x∈m.ms)).length≠ns.length:=λe=>by
    have:=O6.mp e x hx
    rw[this]at hp;cases hp
   omega
  ·rw[OW.mpr z,decide_eq_false_iff_not]
   have:(ns.filter λx=>decide (x∈m.ms)).length=ns.length:=O6.mpr λx hx=>by
    cases q:decide (x∈m.ms)with
    |true=>rfl
    |false=>exact absurd (LO.mpr ⟨x,hx,by rw[q];rfl⟩) z
   omega))
 cases c with
 |true=>
  rw[if_pos rfl]
  have a1:gA (eL (aa 1)) (fT (f2 qP (aa 4) (eD (ai)))) ρ= .ok (ns.any λx=>decide (x∈m.ms)):=by unfold gA;rw[tc,ar,if_pos rfl,t1]
  have a2:gA (eL (aa 1)) (fT (f2 pL (f2 bC (cg cf (a8 (f2 aQ (aa 0) (fC (.int 3))) (ai))) (cg cf (a8 (aa 2) (ai)))) (fC (.int 10)))) ρ= .ok (decide ((m.ms.length:Int)+(ns.length:Int)>10)):=by unfold gA;rw[tc,ar,if_pos rfl,t2]
  have a3:gA (iZ (eL (aa 1))) (fT (f2 sX (cg cf (a8 (aa 4) (ai))) (cg cf (a8 (aa 2) (ai))))) ρ= .ok false:=by unfold gA iZ;rw[tc];rfl
  exact(f_ a1 (f_ a2 (f_ a3 pq))).trans (by rw[show fD (iP false "NotMetered") ""="" from rfl,x5])
 |false=>
  rw[if_neg (by simp)]
  have a1:gA (eL (aa 1)) (fT (f2 qP (aa 4) (eD (ai)))) ρ= .ok false:=by unfold gA;rw[tc];rfl
  have a2:gA (eL (aa 1)) (fT (f2 pL (f2 bC (cg cf (a8 (f2 aQ (aa 0) (fC (.int 3))) (ai))) (cg cf (a8 (aa 2) (ai)))) (fC (.int 10)))) ρ= .ok false:=by unfold gA;rw[tc];rfl
  have a3:gA (iZ (eL (aa 1))) (fT (f2 sX (cg cf (a8 (aa 4) (ai))) (cg cf (a8 (aa 2) (ai))))) ρ= .ok (ns.any λx=> !decide (x∈m.ms)):=by unfold gA iZ;rw[tc,ar,ar,if_pos (show (!false)=true from rfl),t3]
  exact(f_ a1 (f_ a2 (f_ a3 pq))).trans (by rw[x5];rfl)
end
section
variable {n:Int} {m:Mo} {hs:List D}
theorem zD {g g':af->R br} {ρ ρ':af} {w:Kw} {L:List Nat} (hf:frz L ρ=ρ') (h:D9 (aw g g') ρ' w):D9 (aw (pK L g) g') ρ w:=by
 have:aw (pK L g) g' ρ=aw g g' ρ':=by unfold aw pK;rw[hf]
 unfold D9
 rw[this];exact h
theorem x6 (g:m.Ok) {ri:List Int} {rd:List Rd} (l1:ri.length<=100) (l2:rd.length<=60):gE [bF n m, .tup (ri.map .int), .tup (rd.map jr)]= .ok (.str (fD (iP (!decide ((ri.length:Int)=n)) "WrongRises") (fD (vq m.nu (rd.map (·.1))) (fD (Hj m.ms (rd.map (·.1))) (fD (iP (m.ms.any λx=> !decide (x∈rd.map (·.1))) "ReadingMissing") (fD (Ex ri) (fD (Ex (rd.map (·.2))) (iP (decide ((12:Int)<=(m.ds.length:Int))) "TooManyDays")))))))):=by
 let ks:=rd.map (·.1)
 have lk:ks.length<=100:=by simp only[ks,KA];omega
 have h1:eZ (.tup (ri.map .int)) ri:= .inr rfl
 have h2:yj (.tup (rd.map jr)) rd:= .inr rfl
 let R (x y z:Option Slot):af:=[some (.val (bF n m)),some (.val (.tup (ri.map .int))),some (.val (.tup (rd.map jr))),x,y,z]
 have hk:∀{N:List Kw} {names:List (Kw×LC)} {ρ:af},ρ[2]? =some (some (.val (.tup (rd.map jr))))->j0 N names ρ=[none,none]->bM N names (cw (au 2)) (gN 1) gJ (f2 aQ (aa 1) (fC (.int 0))) ρ= .ok (ks.map .int):=λ{N names ρ} e hr=>by
  rw[pj (rest:=[]) (h2.seq (by unfold au;rw[e])) (by omega) hr (out:=λr=> .int r.1) λr _=>aj rfl rfl D6,M1];rfl
 have hv:∀{N:List Kw} {names:List (Kw×LC)} {ρ:af},ρ[2]? =some (some (.val (.tup (rd.map jr))))->j0 N names ρ=[none,none]->bM N names (cw (au 2)) (gN 1) gJ (f2 aQ (aa 1) (fC (.int 1))) ρ= .ok ((rd.map (·.2)).map .int):=λ{N names ρ} e hr=>by
  rw[pj (rest:=[]) (h2.seq (by unfold au;rw[e])) (by omega) hr (out:=λr=> .int r.2) λr _=>aj rfl rfl D7,M1];rfl
 have a2Z:m.mm.length<=10:=by rw[g.per.length_eq];exact g.ten
 let w:=vq m.nu ks
 let K:Option Slot:=some (.val (.lst (ks.map .int)))
 let W:Option Slot:=some (.val (.str w))
 let am:=ri++rd.map (·.2)
 have a3D:am.length<=160:=by simp only[am,Lp,KA];omega
 have a5:f2 bC (cg oG (a8 (aa 1) (ai))) (fL (bM ["_law_model","_law_rises","_law_readings","_law_named","_law_word","_law_amounts"] [(".0", .local),("_law_row", .local)] (cw (au 2)) (gN 1) (gJ) (f2 aQ (aa 1) (fC (.int 1))))) (R K W none)= .ok (.lst (am.map .int)):=
  aj (a:= .lst (ri.map .int)) (b:= .lst ((rd.map (·.2)).map .int)) (aS (a9 rfl rfl) rfl) (nJ (hv rfl rfl)) (by rw[Cg (by simp only[KA];unfold lim;omega),<-Lv])
 refine bx rfl ((f_ (ρ:=R none none none) (bv (aj (aS (a9 rfl rfl) h1.len) (aj (a:=bF n m) rfl rfl Ey) yY)) (o5 (ρ':=R (some (.own (.lst (ks.map .int)))) none none) (own_of (hk rfl rfl)) (zD (ρ':=R K none none) rfl (o5 (ρ':=R K W none) (aX (aZ (n:=2) (a9 rfl (a9 rfl rfl)) rfl (jP g (.inl rfl) lk)) rfl)
  (zC (w:=w) rfl λ_=>zD (ρ':=R K W none) rfl (f_ (neC (enc:= .int) (l:=ks) (p:=λx=> !decide (x∈m.ms)) rfl (by omega) (rest:=[some (.val (bF n m))]) rfl λr _=>by
    rw[bv (aj (a:= .int r) (b:= .tup (m.mm.map .int)) rfl (aj (a:=bF n m) rfl rfl GX) oI),g.mem])
   (f_ (neC (enc:= .int) (l:=m.mm) (EB GX) (by omega) (rest:=[K]) rfl λr _=>bv (aj (a:= .int r) (b:= .lst (ks.map .int)) rfl rfl lL))
   (o5 (ρ':=R K W (some (.val (.lst (am.map .int))))) (aX a5 rfl)
   (f_ (neC (enc:= .int) (l:=am) (p:=GW) rfl (by omega) (rest:=[]) rfl λr _=>by
    unfold o6
    rw[bv (aj (a:= .int r) (b:= .int (-1000)) rfl rfl lK),ar]
    unfold GW
    by_cases z:r< -1000
    ·simp only[z,decide_true,if_true,Pc]
    ·simp only[z,decide_false,LM,if_false,OM]
     exact bv (aj (a:= .int r) (b:= .int 1000) rfl rfl l7))
   (f_ (bv (aj (aS (a9 (aj (a:=bF n m) rfl rfl IM) rfl) gW) rfl (by rw[si,KA]))) pq)))))))))).trans ?_)
 have e1:(m.mm.any λx=> !decide (x∈ks))=m.ms.any λx=> !decide (x∈ks):=g.per.any_eq
 have e2:fD (iP (am.any GW) "OutOfRange")=λx=>fD (Ex ri) (fD (Ex (rd.map (·.2))) x):=by
  funext x
  rw[<-uu,show fD (Ex ri) (Ex (rd.map (·.2)))=iP (ri.any GW||(rd.map (·.2)).any GW) "OutOfRange" from GY (by decide),List.any_append]
 rw[x5,e1,e2]
 rfl
inductive cp where
 |comes (a b:Int)|goes (a:Int)|mcome (ns:List Int)|mgo (ns:List Int)|pass (ri:List Int) (rd:List Rd)|back
def cp.dt:cp->L2.Pu.D
 | .comes a b=>kZ a b
 | .goes a=>qI a
 | .mcome ns=>qf ns
 | .mgo ns=>wZ ns
 | .pass ri rd=>dz ri rd
 | .back=> .tup [.str "take back"]
def cp.Fit:cp->Prop
 | .mcome ns=>ns.length<=40
 | .mgo ns=>ns.length<=40
 | .pass ri rd=>ri.length<=100/\rd.length<=60
 |_=>True
def cp.W (n:Int) (m:Mo) (hs:List L2.Pu.D):cp->Kw
 | .comes a b=>D1 n m hs a b
 | .goes a=>Fg m hs a
 | .mcome ns=>D3 m hs ns
 | .mgo ns=>IL m hs ns
 | .pass ri rd=>Fh n m hs ri rd
 | .back=>iP (decide (hs.length=0)) "NothingDone"
def cp.next (m:Mo):cp->Mo
 | .comes a b=>m.comes a b
 | .goes a=>m.goes a
 | .mcome ns=>m.mcome ns
 | .mgo ns=>m.mgo ns
 | .pass ri rd=>m.passes ri rd
 | .back=>m
end
section
variable {n:Int} {m:Mo} {hs:List D}
theorem iJ {i:Nat} {s x:Kw} {l:List D} {ρ:af} (h:ρ[i]? =some (some (.val (.tup (.str s::l))))) (e:s=x):fT (f2 dm (f2 aQ (aa i) (fC (.int 0))) (fC (.str x))) ρ= .ok true:=bv (aj (aj (a:= .tup (.str s::l)) (by unfold aa;rw[h];rfl) rfl Dp) rfl (by rw[sJ,decide_eq_true e]))
theorem bY {i:Nat} {s x:Kw} {l:List D} {ρ:af} (h:ρ[i]? =some (some (.val (.tup (.str s::l))))) (e:s≠x):fT (f2 dm (f2 aQ (aa i) (fC (.int 0))) (fC (.str x))) ρ= .ok false:=bv (aj (aj (a:= .tup (.str s::l)) (by unfold aa;rw[h];rfl) rfl Dp) rfl (by rw[sJ,decide_eq_false e]))
theorem ym {b:Bool}:xU [.bl b]=some (.int (if b=true then 1 else 0)):=rfl
def d4 (n:Int) (tr:List Mo) (m:Mo):List D:=(tr++[m]).map (bF n)
theorem iS {tr:List Mo}:aQ (.lst (d4 n tr m)) (.int (-1))=some (bF n m):=by
 rw[wd]
 unfold d4
 rw[Lv]
 exact vJ _ _
theorem pw {tr:List Mo}:(d4 n tr m).length=tr.length+1:=by unfold d4;simp
theorem vw (g:m.Ok) {tr:List Mo} (hl:hs.length=tr.length) (d:cp) (hf:d.Fit):eA [.lst (d4 n tr m),d.dt]= .ok (.str (d.W n m hs)):=by
 let R (y:Option Slot):af:=[some (.val (.lst (d4 n tr m))),some (.val d.dt),some (.val (bF n m)),y]
 have hw:m_ hs=iP (decide (((d4 n tr m).length:Int)>60)) "TooManyDeeds":=by
  unfold m_
  rw[pw,<-hl]
  congr 1
  refine decide_eq_decide.mpr ?_
  omega
 have e0:aU (f2 aQ (aa 0) (f1 js (fC (.int 1)))) (gN 2) [some (.val (.lst (d4 n tr m))),some (.val d.dt),none,none]= .ok (.nx (R none)):=aX (aj (a:= .lst (d4 n tr m)) (b:= .int (-1)) rfl rfl iS) rfl
 have TU:∀{w:Kw},aw (cr (gA (fT (f2 dm (aa 3) (fC (.str "")))) (fT (f2 pL (cg cf (a8 (aa 0) (ai))) (fC (.int 60))))) (aU (fC (.str "TooManyDeeds")) (gN 3)) (aF)) (bt (au 3)) (R (some (.val (.str w))))= .ok (.ret (.str (fD w (m_ hs)))):=λ{w}=>by
  have t1:fT (f2 dm (aa 3) (fC (.str ""))) (R (some (.val (.str w))))= .ok (decide (w="")):=bv (aj (a:= .str w) (b:= .str "") rfl rfl sJ)
  have t2:fT (f2 pL (cg cf (a8 (aa 0) (ai))) (fC (.int 60))) (R (some (.val (.str w))))= .ok (decide (((d4 n tr m).length:Int)>60)):=bv (aj (aS (a9 rfl rfl) jF) rfl l7)
  rw[hw]
  by_cases e:w=""
  ·have a:gA (fT (f2 dm (aa 3) (fC (.str "")))) (fT (f2 pL (cg cf (a8 (aa 0) (ai))) (fC (.int 60)))) (R (some (.val (.str w))))= .ok (decide (((d4 n tr m).length:Int)>60)):=by unfold gA;rw[t1,decide_eq_true e,ar,if_pos rfl,t2]
   unfold fD
   rw[if_pos e]
   by_cases z:((d4 n tr m).length:Int)>60
   ·rw[decide_eq_true z]at a ⊢
    rw[av (ρ':=R (some (.val (.str "TooManyDeeds")))) (by rw[dB a];rfl)]
    rfl
   ·rw[decide_eq_false z]at a ⊢
    rw[av (ρ':=R (some (.val (.str w)))) (by rw[bO a];rfl),e]
    rfl
  ·have a:gA (fT (f2 dm (aa 3) (fC (.str "")))) (fT (f2 pL (cg cf (a8 (aa 0) (ai))) (fC (.int 60)))) (R (some (.val (.str w))))= .ok false:=by unfold gA;rw[t1,decide_eq_false e];rfl
   unfold fD
   rw[if_neg e,av (ρ':=R (some (.val (.str w)))) (by rw[bO a];rfl)]
   rfl
 refine bx rfl ?_
 show jN [some (.val (.lst (d4 n tr m))),some (.val d.dt),none,none]=_
 unfold jN
 rw[av e0]
 cases d with
 |back=>
  refine dJ ?_
  rw[dB (iJ rfl rfl)]
  have hc:cg xU (a8 (f2 dm (cg cf (a8 (aa 0) (ai))) (fC (.int 1))) (ai)) (R none)= .ok (.int (if decide (((d4 n tr m).length:Int)=1)=true then 1 else 0)):=aS (a9 (aj (aS (a9 rfl rfl) jF) rfl i9) rfl) ym
  show bt (f2 aQ (eD (a8 (fC (.str "")) (a8 (fC (.str "NothingDone")) (ai)))) (cg xU (a8 (f2 dm (cg cf (a8 (aa 0) (ai))) (fC (.int 1))) (ai)))) (R none)= .ok (.ret (.str (iP (decide (hs.length=0)) "NothingDone")))
  refine cJ (aj (a:= .lst [.str "", .str "NothingDone"]) rfl hc ?_)
  by_cases z:hs.length=0
  ·rw[decide_eq_true z,decide_eq_true (by rw[pw];omega)]
   exact IJ
  ·rw[decide_eq_false z,decide_eq_false (by rw[pw];omega)]
   exact II
 |comes a b=>
  rw[av (by rw[bO (bY rfl (by decide))];rfl),av (ρ':=R (some (.val (.str (fD (GV n a b) (iP (decide ((12:Int)<=(m.ss.length:Int))) "TooManyStreams")))))) (by rw[dB (iJ rfl rfl)];exact aX (aZ (n:=3) (a9 rfl (a9 (aj (a:=kZ a b) rfl rfl (e_ 1 rfl)) (a9 (aj (a:=kZ a b) rfl rfl (e_ 2 rfl)) rfl))) rfl (sP a b)) rfl),TU,uu]
  rfl
 |goes a=>
  rw[av (by rw[bO (bY rfl (by decide))];rfl),av (ρ':=R (some (.val (.str (vq m.nu [a]))))) (by rw[bO (bY rfl (by decide)),dB (iJ rfl rfl)];exact aX (aZ (n:=2) (a9 rfl (a9 (d:= .lst [.int a]) (by unfold eD;rw[a9 (aj (a:=qI a) rfl rfl (e_ 1 rfl)) rfl,ar];exact if_pos (show 1<=lim by decide)) rfl)) rfl (jP g (ns:=[a]) (.inl rfl) (by simp))) rfl),TU]
  rfl
 |mcome ns=>
  rw[av (by rw[bO (bY rfl (by decide))];rfl),av (ρ':=R (some (.val (.str (fD (vq m.nu ns) (fD (iP (ns.any λx=>decide (x∈m.ms)) "AlreadyMetered") (iP (decide ((m.ms.length:Int)+(ns.length:Int)>10)) "TooManyMeters"))))))) (by rw[bO (bY rfl (by decide)),bO (bY rfl (by decide)),bO (bY rfl (by decide))];exact aX (aZ (n:=3) (ds:=[bF n m, .bl true, .tup (ns.map .int)]) (a9 rfl (a9 (aj (aj (a:=qf ns) rfl rfl Dp) rfl (by rw[sJ,decide_eq_true rfl])) (a9 (aj (a:=qf ns) rfl rfl (e_ 1 rfl)) rfl))) rfl (mv g true (by have:ns.length<=40:=hf;omega))) rfl),TU,uu,uu]
  rfl
 |mgo ns=>
  rw[av (by rw[bO (bY rfl (by decide))];rfl),av (ρ':=R (some (.val (.str (fD (vq m.nu ns) (Hj m.ms ns)))))) (by rw[bO (bY rfl (by decide)),bO (bY rfl (by decide)),bO (bY rfl (by decide))];exact aX (aZ (n:=3) (ds:=[bF n m, .bl false, .tup (ns.map .int)]) (a9 rfl (a9 (aj (aj (a:=wZ ns) rfl rfl Dp) rfl (by rw[sJ,decide_eq_false (by decide)])) (a9 (aj (a:=wZ ns) rfl rfl (e_ 1 rfl)) rfl))) rfl (mv g false (by have:ns.length<=40:=hf;omega))) rfl),TU,uu]
  rfl
 |pass ri rd=>
  rw[av (by rw[bO (bY rfl (by decide))];rfl),av (by rw[bO (bY rfl (by decide)),bO (bY rfl (by decide)),dB (iJ rfl rfl)];exact aX (aZ (n:=3) (a9 rfl (a9 (aj (a:=dz ri rd) rfl rfl (e_ 1 rfl)) (a9 (aj (a:=dz ri rd) rfl rfl (e_ 2 rfl)) rfl))) rfl (x6 g hf.1 hf.2)) rfl)]
  refine TU.trans ?_
  simp only[uu]
  rfl
theorem xa (g:m.Ok) (d:cp) (hf:d.Fit) (hd:m.dd.length<=100) (hp:∀ri rd,d= .pass ri rd->(rd.map (·.1)).Nodup) (hb:d≠ .back):dQ [bF n m,d.dt]= .ok (bF n (d.next m)):=by
 let R (a b c e f:D):af:=[some (.val (bF n m)),some (.val d.dt),some (.val (.int n)),some (.val a),some (.val b),some (.val c),some (.val e),some (.val f)]
 let S:=D.tup (m.ss.map d3);let Q:=D.tup (m.mm.map .int);let Y:=D.tup (m.ds.map (qX n));let Z:=D.tup (m.dd++[d.dt])
 have a2Z:m.mm.length<=10:=by rw[g.per.length_eq];exact g.ten
 refine bx rfl ?_
 show kQ [some (.val (bF n m)),some (.val d.dt),none,none,none,none,none,none]=_
 unfold kQ
 rw[av (ρ':=R (.int (m.c+1)) S Q Y (.tup m.dd)) rfl,av (ρ':=R (.int (m.c+1)) S Q Y Z) (aX (aj (a:= .tup m.dd) (b:= .tup [d.dt]) rfl rfl (iA (by simp;omega))) rfl)]
 have TU:∀{a b c e f:D},bt (bU (a8 (au 2) (a8 (au 3) (a8 (au 4) (a8 (au 5) (a8 (au 6) (a8 (au 7) (ai)))))))) (R a b c e f)= .ok (.ret (.tup [.int n,a,b,c,e,f])):=λ{a b c e f}=>cJ (bS (ds:=[.int n,a,b,c,e,f]) rfl (show 6<=lim by decide))
 cases d with
 |back=>exact absurd rfl hb
 |comes a b=>
  rw[av (ρ':=R (.int (m.c+1+1)) (.tup (m.ss.map d3++[d3 (m.c+1,a,b)])) Q Y Z) (by
   rw[dB (iJ rfl rfl),av (ρ':=R (.int (m.c+1)) (.tup (m.ss.map d3++[d3 (m.c+1,a,b)])) Q Y Z) (aX (aj (a:=S) (b:= .tup [d3 (m.c+1,a,b)]) rfl (bS (ds:=[d3 (m.c+1,a,b)]) (a9 (bS (ds:=[.int (m.c+1), .int a, .int b]) (a9 rfl (a9 (aj (a:=kZ a b) rfl rfl (e_ 1 rfl)) (a9 (aj (a:=kZ a b) rfl rfl (e_ 2 rfl)) rfl))) (show 3<=lim by decide)) rfl) (show 1<=lim by decide)) (iA (by have:=g.len;simp;omega))) rfl)]
   rfl),TU]
  simp only[bF,cp.next,Mo.comes,Lv,KO,Ma]
  rfl
 |goes a=>
  have h1:∀{b c:D},f2 aQ (aa 2) (fC (.int 1)) [none,some (.val b),some (.val (qI a))]= .ok (.int a):=λ{b c}=>aj (a:=qI a) rfl rfl (e_ 1 rfl)
  rw[av (ρ':=R (.int (m.c+1)) (.tup ((m.ss.filter λr=>decide (r.1≠a)).map d3)) (.tup ((m.mm.filter λx=>decide (x≠a)).map .int)) Y Z) (by
   rw[bO (bY rfl (by decide)),dB (iJ rfl rfl),av (ρ':=R (.int (m.c+1)) (.tup ((m.ss.filter λr=>decide (r.1≠a)).map d3)) Q Y Z) (aX (aS (a9 (nJ (fO (ds:=m.ss.map d3) rfl (by have:=g.len;rw[KA];unfold lim;omega) (τ:=[none,none,some (.val (qI a))]) rfl (km (p:=λr:zu=>decide (r.1≠a)) (out:=d3) m.ss none (λr _=>bv (aj (aj rfl rfl pe) (h1 (c:= .non)) vj)) (λr _ _=>rfl)))) rfl) rfl) rfl)]
   exact aX (aS (a9 (nJ (fO (ds:=m.mm.map .int) rfl (by rw[KA];unfold lim;omega) (τ:=[none,none,some (.val (qI a))]) rfl (km (p:=λr:Int=>decide (r≠a)) (out:= .int) m.mm none (λr _=>bv (aj (a:= .int r) rfl (h1 (c:= .non)) vj)) (λr _ _=>rfl)))) rfl) rfl) rfl),TU]
  rfl
 |mcome ns=>
  have hn:ns.length<=40:=hf
  rw[av (ρ':=R (.int (m.c+1)) S (.tup ((cR (m.mm++ns)).map .int)) Y Z) (by
   rw[bO (bY rfl (by decide)),bO (bY rfl (by decide)),dB (iJ rfl rfl)]
   refine aX (aS (a9 (aS (a9 (aj (a:=Q) (b:= .tup (ns.map .int)) rfl (aj (a:=qf ns) rfl rfl (e_ 1 rfl)) (iA (by simp;omega))) rfl) (d:= .lst ((cR (m.mm++ns)).map .int)) ?_) rfl) rfl) rfl
   rw[<-Lv]
   show ((cP ((m.mm++ns).map D.int)).bind λns=>if ns.length<64 then some (D.lst ((cR ns).map .int))else none)=_
   rw[ky]
   exact if_pos (by rw[Lp];omega)),TU]
  rfl
 |mgo ns=>
  have h1:∀{b:D},f2 aQ (aa 2) (fC (.int 1)) [none,some (.val b),some (.val (wZ ns))]= .ok (.tup (ns.map .int)):=λ{b}=>aj (a:=wZ ns) rfl rfl (e_ 1 rfl)
  rw[av (ρ':=R (.int (m.c+1)) S (.tup ((m.mm.filter λx=> !decide (x∈ns)).map .int)) Y Z) (by
   rw[bO (bY rfl (by decide)),bO (bY rfl (by decide)),bO (bY rfl (by decide)),dB (iJ rfl rfl)]
   exact aX (aS (a9 (nJ (fO (ds:=m.mm.map .int) rfl (by rw[KA];unfold lim;omega) (τ:=[none,none,some (.val (wZ ns))]) rfl (km (p:=λr:Int=> !decide (r∈ns)) (out:= .int) m.mm none (λr _=>bv (aj (a:= .int r) rfl h1 oI)) (λr _ _=>rfl)))) rfl) rfl) rfl),TU]
  rfl
 |pass ri rd=>
  have nd:=hp ri rd rfl
  have e3:=vt (f:=jr) (k:=(·.1)) (λa=>rfl) (kn rd) (zx nd) (by have:=(kn rd).length_eq;have:=hf.2;omega) (.inr rfl)
  rw[av (ρ':=R (.int (m.c+1)) S Q (.tup (m.ds.map (qX n)++[qX n ⟨m.ss,ri,xk rd⟩])) Z) (by
   rw[bO (bY rfl (by decide)),bO (bY rfl (by decide)),bO (bY rfl (by decide)),bO (bY rfl (by decide))]
   exact aX (aj (a:=Y) (b:= .tup [qX n ⟨m.ss,ri,xk rd⟩]) rfl (bS (ds:=[qX n ⟨m.ss,ri,xk rd⟩]) (a9 (bS (ds:=[.int n,S, .tup (ri.map .int), .tup ((xk rd).map jr)]) (a9 rfl (a9 rfl (a9 (aj (a:=dz ri rd) rfl rfl (e_ 1 rfl)) (a9 (aS (a9 (aS (a9 (aj (a:=dz ri rd) rfl rfl (e_ 2 rfl)) rfl) e3) rfl) rfl) rfl)))) (show 4<=lim by decide)) rfl) (show 1<=lim by decide)) (iA (by have:=g.dl;simp;omega))) rfl),TU]
  simp only[bF,cp.next,Mo.passes,Lv,KO,Ma]
  rfl
def cp.ans (m:Mo):cp->L2.Pu.D
 | .comes _ _=> .int (m.c+1)
 | .pass _ _=> .int ((m.ds.length:Int)+1)
 |_=> .non
theorem xb (d:cp):ft [bF n m,d.dt]= .ok (d.ans m):=by
 refine bx rfl ?_
 show kS [some (.val (bF n m)),some (.val d.dt)]=_
 unfold kS
 have no:∀{s:Kw} {l:List D},d.dt= .tup (.str s::l)->s≠"stream comes"->s≠"day passes"->d.ans m= .non->aw (cr (fT (f2 dm (f2 aQ (aa 1) (fC (.int 0))) (fC (.str "stream comes")))) (bt (f2 aQ (aa 0) (fC (.int 1)))) (aF)) (aw (cr (fT (f2 dm (f2 aQ (aa 1) (fC (.int 0))) (fC (.str "day passes")))) (bt (f2 bC (cg cf (a8 (f2 aQ (aa 0) (fC (.int 4))) (ai))) (fC (.int 1)))) (aF)) (bt (fC .non))) [some (.val (bF n m)),some (.val d.dt)]= .ok (.ret (d.ans m)):=λ{s l} h1 h2 h3 h4=>by
  rw[h1,h4,av (by rw[bO (bY rfl h2)];rfl),av (by rw[bO (bY rfl h3)];rfl)];rfl
 cases d with
 |comes a b=>exact dJ (by rw[dB (iJ rfl rfl)];exact cJ (aj (a:=bF n m) rfl rfl Kr))
 |pass ri rd=>
  rw[av (by rw[bO (bY rfl (by decide))];rfl)]
  exact dJ (by rw[dB (iJ rfl rfl)];exact cJ (aj (aS (a9 (aj (a:=bF n m) rfl rfl IM) rfl) gW) rfl (by rw[eF,KA];rfl)))
 |goes a=>exact no rfl (by decide) (by decide) rfl
 |mcome ns=>exact no rfl (by decide) (by decide) rfl
 |mgo ns=>exact no rfl (by decide) (by decide) rfl
 |back=>exact no rfl (by decide) (by decide) rfl
end
def WL:List Kw:=["UnknownPlace","SamePlace","WrongRises","UnknownStream","Twice","AlreadyMetered","NotMetered","ReadingMissing","OutOfRange","TooManyStreams","TooManyMeters","TooManyDays","TooManyDeeds","NothingDone"]
def KL:List Kw:=WL++(["BadTanks","UnknownDay","Clashing"]:List Kw)
def GZ (w:Kw):Prop:=w=""\/w∈WL
theorem f6 {a b:Kw} (h:GZ a) (h2:GZ b):GZ (fD a b):=by unfold fD;split<;>assumption
theorem fI {b:Bool} {x:Kw} (h:x∈WL:=by decide+kernel):GZ (iP b x):=by cases b;exact .inl rfl;exact .inr h
theorem bE {a b:Kw} (h:fD a b=""):a=""/\b="":=by
 unfold fD at h
 split at h
 ·exact⟨by assumption,h⟩
 ·exact absurd h (by assumption)
theorem jC {b:Bool} {x:Kw} (h:iP b x="") (hx:x≠"":=by decide):b=false:=by
 cases b
 ·rfl
 ·exact absurd h hx
section
variable {n:Int} {m:Mo} {hs:List D}
theorem cp.inW (d:cp):GZ (d.W n m hs):=by
 have nm:∀{a b:List Int},GZ (vq a b):=f6 fI fI
 have lt:GZ (m_ hs):=fI
 cases d with
 |comes a b=>exact f6 (f6 fI fI) (f6 fI lt)
 |goes a=>exact f6 nm lt
 |mcome ns=>exact f6 nm (f6 fI (f6 fI lt))
 |mgo ns=>exact f6 nm (f6 fI lt)
 |pass ri rd=>exact f6 fI (f6 nm (f6 fI (f6 fI (f6 fI (f6 fI (f6 fI lt))))))
 |back=>exact fI
theorem mw (h:m_ hs=""):hs.length<60:=by
 have:=of_decide_eq_false (jC h)
 omega
theorem cp.lt60 (d:cp) (hb:d≠ .back) (h:d.W n m hs=""):hs.length<60:=by
 cases d with
 |comes a b=>exact mw (bE (bE h).2).2
 |goes a=>exact mw (bE h).2
 |mcome ns=>exact mw (bE (bE (bE h).2).2).2
 |mgo ns=>exact mw (bE (bE h).2).2
 |pass ri rd=>exact mw (bE (bE (bE (bE (bE (bE (bE h).2).2).2).2).2).2).2
 |back=>exact absurd rfl hb
theorem cp.nodup (ri:List Int) (rd:List Rd) (h:(cp.pass ri rd).W n m hs=""):(rd.map (·.1)).Nodup:=(yk (bE (bE h).2).1).1
theorem cp.ok (d:cp) (g:m.Ok) (h:d.W n m hs=""):(d.next m).Ok:=by
 cases d with
 |back=>exact g
 |comes a b=>
  have a3E:m.ss.length<12:=by
   have:=of_decide_eq_false (jC (bE (bE h).2).1)
   omega
  exact⟨List.pairwise_append.mpr ⟨g.inc,by simp,λr hr r' Xv=>by rw[KU.mp Xv];have:=g.le r hr;show r.1<m.c+1;omega⟩,λr hr=>by
    show r.1<=m.c+1
    rcases LB.mp hr with hr|hr
    ·have:=g.le r hr;omega
    ·rw[KU.mp hr];exact Int.le_refl _,by show (m.ss++_).length<=12;rw[Lp,MK];omega,g.per,g.nd,λx hx=>by
    show x∈(m.ss++_).map (·.1)
    rw[Lv];exact LU _ (g.sub x hx),g.ten,g.dl⟩
 |goes a=>
  exact⟨g.inc.filter _,λr hr=>g.le r (MI.mp hr).1,Lq (Ni _ _) g.len,g.per.filter _,g.nd.filter _,λx hx=>by
    obtain⟨h1,h2⟩:=MI.mp hx
    obtain⟨r,hr,rfl⟩:=Mv.mp (g.sub x h1)
    exact Mv.mpr ⟨r,MI.mpr ⟨hr,h2⟩,rfl⟩,Lq (Ni _ _) g.ten,g.dl⟩
 |mcome ns=>
  obtain⟨w1,w2⟩:=bE h
  obtain⟨w3,w4⟩:=bE w2
  obtain⟨nd,sb⟩:=yk w1
  have dj:=jC w3
  have tn:=of_decide_eq_false (jC (bE w4).1)
  exact⟨g.inc,g.le,g.len,(iV _).trans (g.per.append_right ns),Nb.mpr ⟨g.nd,nd,λx hx y hy e=>by
    subst e
    exact absurd (LO.mpr ⟨x,hy,decide_eq_true hx⟩) (by rw[dj];simp)⟩,λx hx=>by
    rcases LB.mp hx with hx|hx
    ·exact g.sub x hx
    ·exact sb x hx,by show (m.ms++ns).length<=10;rw[Lp];omega,g.dl⟩
 |mgo ns=>exact⟨g.inc,g.le,g.len,g.per.filter _,g.nd.filter _,λx hx=>g.sub x (MI.mp hx).1,Lq (Ni _ _) g.ten,g.dl⟩
 |pass ri rd=>
  have hd:=of_decide_eq_false (jC (bE (bE (bE (bE (bE (bE (bE h).2).2).2).2).2).2).1)
  exact⟨g.inc,g.le,g.len,g.per,g.nd,g.sub,g.ten,by show (m.ds++_).length<=12;rw[Lp,MK];omega⟩
theorem cp.dd (d:cp) (hb:d≠ .back):(d.next m).dd=m.dd++[d.dt]:=by
 cases d with
 |back=>exact absurd rfl hb
 |_=>rfl
theorem zE {fx:af->R (D×af)} {ρ ρ':af} {d:D} (h:fx ρ= .ok (d,ρ')):j8 fx ρ= .ok (.retc d ρ'):=by unfold j8;rw[h,ar]
theorem xc {fx:af->R (D×af)} {ρ ρ':af} {x:Kw} (h:fx ρ= .err x ρ'):j8 fx ρ= .err x ρ':=by unfold j8;rw[h];rfl
theorem ko {mt:Kw} {mf:List Slot->List D->R (D×List Slot)} {k:Nat} {fs:af->R (List D)} {rest:af} {ds:List D} {now Up a:D} {Sy:List D} {w:Kw} (h:fs (some (aD n now hs)::rest)= .ok ds) (hl:ds.length=k) (d:mZ (mf [aD n now hs] ds) (aD n now hs) w a (aD n Up Sy)) (hm:mt≠"history":=by decide) (h2:(kX n now).lookup mt=none:=by rfl):
  ph (j8 (kG 0 "Cellar" mt (fj [0] mf k fs))) (some (aD n now hs)::rest) w (.ok (.retc a (some (aD n Up Sy)::rest))):=by
 refine⟨λz=> ?_,λz=>zE (by rw[vi (n:=n) (now:=now) (hs:=hs) rfl hm h2];exact yc (n:=n) (now:=now) (hs:=hs) rfl h hl (d.2 z))⟩
 obtain⟨ρe,e,t⟩:=d.1 z
 exact⟨_,xc (by rw[vi (n:=n) (now:=now) (hs:=hs) rfl hm h2];exact vh (n:=n) (now:=now) (hs:=hs) rfl h hl e t rfl),rfl⟩
theorem xf {t:af->R Bool} {g g':af->R br} {ρ ρ':af} {w:Kw} {a:D} (h:t ρ= .ok true) (h2:ph g ρ w (.ok (.retc a ρ'))):ph (aw (cr t g aF) g') ρ w (.ok (.retc a ρ')):=
 ⟨λz=>by obtain⟨ρe,e,k⟩:=h2.1 z;exact⟨ρe,kY (by rw[dB h];exact e),k⟩,λz=>p9 (by rw[dB h];exact h2.2 z)⟩
theorem jq {t:af->R Bool} {g g':af->R br} {ρ:af} {w:Kw} {r:R br} (h:t ρ= .ok false) (h2:ph g' ρ w r):ph (aw (cr t g aF) g') ρ w r:=by
 have:aw (cr t g aF) g' ρ=g' ρ:=av (by rw[bO h];rfl)
 unfold ph
 rw[this];exact h2
theorem zF (g:m.Ok) (d:cp) (hb:d≠ .back) (hf:d.Fit):mZ (eV [aD n (bG n m) hs] [d.dt]) (aD n (bG n m) hs) (d.W n m hs) (d.ans m) (aD n (bG n (d.next m)) (hs++[.tup [d.dt,bG n m]])):=by
 refine mJ rfl (ρ':=[some (aD n (bG n (d.next m)) (hs++[.tup [d.dt,bG n m]])),some (.val d.dt)]) ?_ rfl
 show ph lX [some (aD n (bG n m) hs),some (.val d.dt)] _ _
 unfold lX
 cases d with
 |back=>exact absurd rfl hb
 |comes a b=>exact xf (iJ rfl rfl) (ko (a9 (aj (a:=kZ a b) rfl rfl (e_ 1 rfl)) (a9 (aj (a:=kZ a b) rfl rfl (e_ 2 rfl)) rfl)) rfl (yh g a b))
 |goes a=>exact jq (bY rfl (by decide)) (xf (iJ rfl rfl) (ko (a9 (aj (a:=qI a) rfl rfl (e_ 1 rfl)) rfl) rfl (AV g a)))
 |mcome ns=>exact jq (bY rfl (by decide)) (jq (bY rfl (by decide)) (xf (iJ rfl rfl) (ko (a9 (aS (a9 (aj (a:=qf ns) rfl rfl (e_ 1 rfl)) rfl) rfl) rfl) rfl (yi g (.inl rfl) (by have:ns.length<=40:=hf;omega)))))
 |mgo ns=>exact jq (bY rfl (by decide)) (jq (bY rfl (by decide)) (jq (bY rfl (by decide)) (xf (iJ rfl rfl) (ko (a9 (aS (a9 (aj (a:=wZ ns) rfl rfl (e_ 1 rfl)) rfl) rfl) rfl) rfl (D4 g (.inl rfl) (by have:ns.length<=40:=hf;omega))))))
 |pass ri rd=>exact jq (bY rfl (by decide)) (jq (bY rfl (by decide)) (jq (bY rfl (by decide)) (jq (bY rfl (by decide)) (xf (iJ rfl rfl) (ko (a9 (aS (a9 (aj (a:=dz ri rd) rfl rfl (e_ 1 rfl)) rfl) rfl) (a9 (aS (a9 (aj (a:=dz ri rd) rfl rfl (e_ 2 rfl)) rfl) rfl) rfl)) rfl (AX g (.inl rfl) (.inl rfl) hf.1 hf.2))))))
theorem zG {now a Up:D} {Sy:List D} {w:Kw} (h:mZ (cb [aD n now hs] []) (aD n now hs) w a (aD n Up Sy)):mZ (eV [aD n now hs] [cp.back.dt]) (aD n now hs) w a (aD n Up Sy):=by
 refine mJ rfl (ρ':=[some (aD n Up Sy),some (.val cp.back.dt)]) ?_ rfl
 show ph lX [some (aD n now hs),some (.val cp.back.dt)] _ _
 unfold lX
 exact jq (bY rfl (by decide)) (jq (bY rfl (by decide)) (jq (bY rfl (by decide)) (jq (bY rfl (by decide)) (jq (bY rfl (by decide)) (ko rfl rfl h)))))
theorem EC {f:af->R D} {fx:af->R (D×af)} {ρ ρ':af} {d e:D} (h:f ρ= .ok d) (h2:fx ρ= .ok (e,ρ')):lP f fx ρ= .ok (.lst [d,e],ρ'):=by unfold lP;rw[h,ar,h2,ar]
theorem Dc {f:af->R D} {fx:af->R (D×af)} {ρ ρ':af} {d:D} {x:Kw} (h:f ρ= .ok d) (h2:fx ρ= .err x ρ'):lP f fx ρ= .err x ρ':=by unfold lP;rw[h,ar,h2];rfl
theorem zH {now a d Up:D} {Sy:List D} {w:Kw} (h:mZ (eV [aD n now hs] [d]) (aD n now hs) w a (aD n Up Sy)) (hw:w=""):eW [aD n now hs] [d]= .ok (.lst [.str "",a],[aD n Up Sy]):=by
 refine gk ⟨rfl,rfl⟩ (ρ:=[some (aD n Up Sy),some (.val d),some (.own (.lst [])),none,none,none]) ?_ rfl
 show je [some (aD n now hs),some (.val d),none,none,none,none]=_
 unfold je
 rw[av (ρ':=[some (aD n now hs),some (.val d),some (.own (.lst [])),none,none,none]) rfl]
 refine p9 ?_
 unfold Aq
 rw[zE (ρ':=[some (aD n Up Sy),some (.val d),some (.own (.lst [])),none,none,none]) (EC (d:= .str "") (e:=a) rfl (yc (k:=1) (n:=n) (now:=now) (hs:=hs) rfl (a9 rfl rfl) rfl (h.2 hw)))]
theorem xg {now a d Up:D} {Sy:List D} {w:Kw} (h:mZ (eV [aD n now hs] [d]) (aD n now hs) w a (aD n Up Sy)) (hw:w∈WL):eW [aD n now hs] [d]= .ok (.lst [.str w, .non],[aD n now hs]):=by
 have nw:w≠"":=λz=>by rw[z]at hw;exact absurd hw (by decide+kernel)
 obtain⟨ρe,e,t⟩:=h.1 nw
 let ρ1:af:=[some (aD n now hs),some (.val d),some (.own (.lst [])),none,none,none]
 have h1:j8 (lP (fC (.str "")) (fj [0] eV 1 (a8 (au 1) (ai)))) ρ1= .err w ρ1:=xc (Dc rfl (vh (n:=n) (now:=now) (hs:=hs) rfl (a9 rfl rfl) rfl e t rfl))
 have hT:∀{i:Nat} {sub:Kw->Bool} {hd rest:af->R br},aw (Aq i sub (j8 (lP (fC (.str "")) (fj [0] eV 1 (a8 (au 1) (ai))))) hd) rest ρ1=aw (λ_=>wj i sub hd w ρ1) rest ρ1:=by
  intro i sub hd rest
  unfold aw Aq
  rw[h1]
 have go:je [some (aD n now hs),some (.val d),none,none,none,none]= .ok (.retc (.lst [.str w, .non]) [some (aD n now hs),some (.val d),some (.val (.lst ((KL.map λx=> .bl (decide (w=x)))++[.bl false]))),none,some (.val (.lst ((KL++(["another"]:List Kw)).map .str))),some (.val (.str w))]):=by
  unfold je
  rw[av (ρ':=ρ1) rfl,hT]
  unfold WL at hw
  simp only[KR,LH,or_false]at hw
  rcases hw with rfl|rfl|rfl|rfl|rfl|rfl|rfl|rfl|rfl|rfl|rfl|rfl|rfl|rfl<;>kernel_rfl
 exact gk ⟨rfl,rfl⟩ go rfl
end
structure Mo.Rg (n:Int) (m:Mo):Prop where
 row:∀r∈m.ss,(0<=r.2.1/\r.2.1<=n)/\(0<=r.2.2/\r.2.2<=n)/\r.2.1≠r.2.2
 day:∀d∈m.ds,d.ss.length<=12/\d.ri.length<=100/\d.rd.length<=60
theorem cp.rg {n:Int} {m:Mo} {hs:List D} (d:cp) (hf:d.Fit) (k:m.Ok) (g:m.Rg n) (h:d.W n m hs=""):(d.next m).Rg n:=by
 cases d with
 |back=>exact g
 |comes a b=>
  obtain⟨w1,w2⟩:=bE (bE h).1
  have ho:=jC w1
  have Ur:=of_decide_eq_false (jC w2)
  have Z4:∀x∈[a,b],0<=x/\x<=n:=λx hx=>by
   have:yf n x=false:=by
    cases q:yf n x with
    |false=>rfl
    |true=>rw[LO.mpr ⟨x,hx,q⟩]at ho;cases ho
   unfold yf at this
   simp only[Bool.or_eq_false_iff,decide_eq_false_iff_not]at this
   omega
  refine⟨λr hr=> ?_,g.day⟩
  rcases LB.mp hr with hr|hr
  ·exact g.row r hr
  ·rw[KU.mp hr];exact⟨Z4 a (by simp),Z4 b (by simp),Ur⟩
 |goes a=>exact⟨λr hr=>g.row r (MI.mp hr).1,g.day⟩
 |mcome ns=>exact⟨g.row,g.day⟩
 |mgo ns=>exact⟨g.row,g.day⟩
 |pass ri rd=>
  refine⟨g.row,λd hd=> ?_⟩
  rcases LB.mp hd with hd|hd
  ·exact g.day d hd
  ·rw[KU.mp hd];exact⟨k.len,hf.1,by rw[<-(kn rd).length_eq];exact hf.2⟩
inductive Tr (n:Int):List Mo->Mo->List D->Prop
 |nil {m:Mo}:m.Ok->m.Rg n->m.dd=[]->Tr n [] m []
 |snoc {tr:List Mo} {m:Mo} {hs:List D} {m':Mo} {d:D}:Tr n tr m hs->m'.Ok->m'.Rg n->m'.dd=m.dd++[d]->hs.length<60->Wf 3 d->Tr n (tr++[m]) m' (hs++[.tup [d,bG n m]])
section
variable {n:Int} {tr:List Mo} {m:Mo} {hs:List D}
theorem Tr.ok (t:Tr n tr m hs):m.Ok:=by cases t<;>assumption
theorem Tr.rg (t:Tr n tr m hs):m.Rg n:=by cases t<;>assumption
theorem Tr.len (t:Tr n tr m hs):hs.length=tr.length:=by
 induction t with
 |nil _ _ _=>rfl
 |snoc _ _ _ _ _ _ ih=>simp[ih]
theorem Tr.le (t:Tr n tr m hs):hs.length<=60:=by
 cases t with
 |nil _ _ _=>simp
 |snoc _ _ _ _ h _=>rw[Lp,MK];omega
theorem Tr.prs (t:Tr n tr m hs):∃l:List (D×D),hs=l.map (λp=> .tup [p.1,p.2])/\l.map (·.1)=m.dd/\∀d∈m.dd,Wf 3 d:=by
 induction t with
 |nil _ _ h=>exact⟨[],rfl,h.symm,λd hd=>by rw[h]at hd;cases hd⟩
 | @snoc tr m hs m' d _ _ _ h _ hw ih=>
  obtain⟨l,h1,h2,h3⟩:=ih
  refine⟨l++[(d,bG n m)],by rw[h1];simp,by rw[h,<-h2];simp,λe he=> ?_⟩
  rw[h]at he
  rcases LB.mp he with he|he
  ·exact h3 e he
  ·rw[KU.mp he];exact hw
theorem Tr.dl (t:Tr n tr m hs):m.dd.length<=60:=by
 obtain⟨l,h1,h2,_⟩:=t.prs
 have:=t.le
 rw[<-h2,KA]
 rw[h1,KA]at this
 exact this
theorem yn (t:Tr n tr m hs):dv [.ins "Cellar" (gK n (bG n m) hs)]= .ok (.tup m.dd):=by
 obtain⟨l,h1,h2,_⟩:=t.prs
 have hl:=t.le
 rw[h1,KA]at hl
 refine bx rfl (cJ (aS (a9 (d:= .lst m.dd) (nJ ?_) rfl) rfl))
 rw[<-h2]
 exact pj (enc:=λp:D×D=> .tup [p.1,p.2]) (l:=l) (out:=(·.1)) (by unfold cw;rw[fH (fds:=gK n (bG n m) hs) (d:= .lst hs) rfl rfl,h1];rfl) (by omega) (rest:=[]) rfl λp _=>aj (a:= .tup [p.1,p.2]) rfl rfl Dp
theorem G_ (r:zu):Wf 1 (d3 r):= .tup (by simp) λd hd=>by
 simp only[KR,LH,or_false]at hd
 rcases hd with rfl|rfl|rfl<;>exact .int 0 _
theorem Fi (r:Rd):Wf 1 (jr r):= .tup (by simp) λd hd=>by
 simp only[KR,LH,or_false]at hd
 rcases hd with rfl|rfl<;>exact .int 0 _
theorem cp.wf (d:cp) (hf:d.Fit):Wf 3 d.dt:=by
 have i1:∀{ns:List Int},ns.length<=100->Wf 2 (.tup (ns.map .int)):=λ{ns} h=>(zt ns (by omega)).up 1
 cases d with
 |back=>exact .tup (by simp) λd hd=>by rw[KU.mp hd];exact .str _ _
 |comes a b=>
  refine .tup (by simp) λd hd=> ?_
  simp only[KR,LH,or_false]at hd
  rcases hd with rfl|rfl|rfl
  ·exact .str _ _
  ·exact .int _ _
  ·exact .int _ _
 |goes a=>
  refine .tup (by simp) λd hd=> ?_
  simp only[KR,LH,or_false]at hd
  rcases hd with rfl|rfl
  ·exact .str _ _
  ·exact .int _ _
 |mcome ns=>
  refine .tup (by simp) λd hd=> ?_
  simp only[KR,LH,or_false]at hd
  rcases hd with rfl|rfl
  ·exact .str _ _
  ·exact i1 (Lq (show ns.length<=40 from hf) (by decide))
 |mgo ns=>
  refine .tup (by simp) λd hd=> ?_
  simp only[KR,LH,or_false]at hd
  rcases hd with rfl|rfl
  ·exact .str _ _
  ·exact i1 (Lq (show ns.length<=40 from hf) (by decide))
 |pass ri rd=>
  refine .tup (by simp) λd hd=> ?_
  simp only[KR,LH,or_false]at hd
  rcases hd with rfl|rfl|rfl
  ·exact .str _ _
  ·exact i1 hf.1
  ·exact vg (by have:=hf.2;omega) λa _=>Fi a
theorem cp.wfa (d:cp):Wf 0 (d.ans m):=by cases d<;>first|exact .int _ _|exact .non _
abbrev pO (n:Int) (tr:List Mo) (m:Mo):Slot:= .own (.lst (d4 n tr m))
theorem ED {i:Nat} {fx:af->R (D×af)} {ρ ρ':af} {d:D} (h:fx ρ= .ok (d,ρ')):zh i fx ρ= .ok (.nx (ρ'.set i (some (.val d)))):=by unfold zh;rw[h,ar]
theorem JM {mf:List Slot->List D->R (D×List Slot)} {k:Nat} {fs:af->R (List D)} {rest:af} {ds:List D} {now d:D} {s':Slot} (h2:fs (some (aD n now hs)::rest)= .ok ds) (hl:ds.length=k) (e:mf [aD n now hs] ds= .ok (d,[s'])) (hk:s'.kind=(aD n now hs).kind):fj [0] mf k fs (some (aD n now hs)::rest)= .ok (d,some s'::rest):=by
 unfold fj
 rw[show fc (some (aD n now hs)::rest) [0]=some [aD n now hs]from rfl]
 dsimp only
 rw[if_pos ⟨rfl,by simp⟩,h2,ar,if_pos hl,e]
 dsimp only
 rw[if_pos (show Pp Slot.kind [s']=Pp Slot.kind [aD n now hs] by simp only[KO,Ma,hk])]
 rfl
theorem qg (t:Tr n tr m hs) (d:cp) (hf:d.Fit):∃VE m' Sy,Tr n VE m' Sy/\dR [aD n (bG n m) hs,pO n tr m] [d.dt]= .ok (.bl true,[aD n (bG n m') Sy,pO n VE m']):=by
 have g:=t.ok
 let w:=d.W n m hs
 have a0w:=vw g t.len d hf (n:=n)
 let Z (s p:Slot) (x y z:Option Slot):af:=[some s,some p,some (.val d.dt),x,y,z]
 let s:=aD n (bG n m) hs
 let p:=pO n tr m
 let M:Option Slot:=some (.val (bF n m))
 let W:Option Slot:=some (.val (.str w))
 have e1:aU (f2 aQ (aa 1) (f1 js (fC (.int 1)))) (gN 3) (Z s p none none none)= .ok (.nx (Z s p M none none)):=aX (aj (a:= .lst (d4 n tr m)) (b:= .int (-1)) rfl rfl iS) rfl
 have e2:aU (ze [1] (aI eA 2 (a8 (au 1) (a8 (au 2) (ai))))) (gN 4) (Z s p M none none)= .ok (.nx (Z s p M W none)):=by
  refine aX (d:= .str w) ?_ rfl
  unfold ze
  rw[show frz [1] (Z s p M none none)=Z s (.val (.lst (d4 n tr m))) M none none from rfl,aZ (n:=2) (a9 rfl (a9 rfl rfl)) rfl a0w,ar]
  rfl
 have dC:∀{r:R (D×List Slot)},iM 2 1 4 fZ [s,p] [d.dt]=r->dR [s,p] [d.dt]=r:=λh=>h
 have Ym:∀{v s':_} (hm:eW [s] [d.dt]= .ok (v,[s'])) (hk:s'.kind=s.kind),fZ (Z s p none none none)=aw (cr (o6 (fT (f2 sd (aa 4) (fC (.str "")))) (fT (f2 sd (f2 aQ (aa 5) (fC (.int 0))) (fC (.str ""))))) (iC (f2 dm (aa 4) (f2 aQ (aa 5) (fC (.int 0))))) (aF)) (aw (cr (fT (f2 dm (f2 aQ (aa 2) (fC (.int 0))) (fC (.str "take back")))) (aw (zn 1) (iC (aI bn 2 (a8 (f2 aQ (aa 5) (fC (.int 1))) (a8 (f2 aQ (f2 aQ (aa 3) (fC (.int 5))) (f1 js (fC (.int 1)))) (ai)))))) (aF)) (aw (oE 1 (aI dQ 2 (a8 (au 3) (a8 (au 2) (ai))))) (iC (aI bn 2 (a8 (f2 aQ (aa 5) (fC (.int 1))) (a8 (aI ft 2 (a8 (au 3) (a8 (au 2) (ai)))) (ai))))))) (Z s' p M W (some (.val v))):=λ{v s'} hm hk=>by
  unfold fZ
  rw[av e1,av e2,av (ED (JM (n:=n) (hs:=hs) (now:=bG n m) (k:=1) (a9 rfl rfl) rfl hm hk))]
  rfl
 have t4:∀{s':Slot} {v:D},fT (f2 sd (aa 4) (fC (.str ""))) (Z s' p M W (some (.val v)))= .ok (!decide (w="")):=λ{s' v}=>bv (aj (a:= .str w) (b:= .str "") rfl rfl zB)
 have t5:∀{s':Slot} {a:D},fT (f2 sd (f2 aQ (aa 5) (fC (.int 0))) (fC (.str ""))) (Z s' p M W (some (.val (.lst [.str "",a]))))= .ok false:=λ{s' a}=>bv (aj (aj (a:= .lst [.str "",a]) rfl rfl II) rfl zB)
 by_cases hw:w=""
 ·by_cases hb:d= .back
  ·subst hb
   have Zo:hs.length≠0:=of_decide_eq_false (jC hw)
   cases t with
   |nil _ _ _=>exact absurd rfl Zo
   | @snoc tr0 m0 WB _ e t0 _ _ a0u _ a2_=>
    have a0x:mZ (eV [aD n (bG n m) (WB++[.tup [e,bG n m0]])] [cp.back.dt]) (aD n (bG n m) (WB++[.tup [e,bG n m0]])) "" e (aD n (bG n m0) WB):=zG ⟨λz=>absurd rfl z,λ_=>AZ⟩
    have Wc:=zH a0x rfl
    refine⟨tr0,m0,WB,t0,dC (gk ⟨rfl,rfl⟩ (ρ:=Z (aD n (bG n m0) WB) (pO n tr0 m0) M W (some (.val (.lst [.str "",e])))) ?_ rfl)⟩
    show fZ (Z s p none none none)=_
    rw[Ym Wc rfl,av (by rw[bO (by unfold o6;rw[t4,decide_eq_true hw];exact t5 (s':=aD n (bG n m0) WB) (a:=e))];rfl)]
    refine p9 ?_
    rw[dB (iJ rfl rfl),av (ρ':=Z (aD n (bG n m0) WB) (pO n tr0 m0) M W (some (.val (.lst [.str "",e])))) (by
     show (match (d4 n (tr0++[m0]) m)[(d4 n (tr0++[m0]) m).length - 1]? with|some _=>R.ok (br.nx ((Z (aD n (bG n m0) WB) (pO n (tr0++[m0]) m) M W (some (.val (.lst [.str "",e])))).set 1 (some (.own (.lst (d4 n (tr0++[m0]) m).dropLast)))))|none=> .bad)=_
     unfold d4
     rw[Lv,KO,Ma,Qs,show (Pp (bF n) (tr0++[m0])++[bF n m])[(Pp (bF n) (tr0++[m0])++[bF n m]).length - 1]? =some (bF n m) by simp]
     rfl)]
    refine pd (aZ (n:=2) (a9 (aj (a:= .lst [.str "",e]) rfl rfl IJ) (a9 (aj (b:= .int (-1)) (aj (a:=bF n m) rfl rfl K7) rfl (by rw[t_,a0u];exact vJ _ _)) rfl)) rfl (jn (by decide) a2_))
  ·
   have a0x:=zF g d hb hf (n:=n) (hs:=hs)
   have Wc:=zH a0x hw
   have ZW:∀ri rd,d= .pass ri rd->(rd.map (·.1)).Nodup:=λri rd e=>by subst e;exact cp.nodup (n:=n) (hs:=hs) ri rd hw
   have Xn:=xa g d hf (by have:=t.dl;omega) ZW hb (n:=n)
   have a30:∀{ρ:af},ρ[2]? =some (some (.val d.dt))->fT (f2 dm (f2 aQ (aa 2) (fC (.int 0))) (fC (.str "take back"))) ρ= .ok false:=λ{ρ} h=>by
    cases d with
    |back=>exact absurd rfl hb
    |_=>exact bY h (by decide)
   refine⟨tr++[m],d.next m,_, .snoc t (d.ok g hw) (d.rg hf g t.rg hw) (d.dd hb) (d.lt60 hb hw) (d.wf hf),dC (gk ⟨rfl,rfl⟩ (ρ:=Z (aD n (bG n (d.next m)) (hs++[.tup [d.dt,bG n m]])) (pO n (tr++[m]) (d.next m)) M W (some (.val (.lst [.str "",d.ans m])))) ?_ rfl)⟩
   show fZ (Z s p none none none)=_
   rw[Ym Wc rfl,av (by rw[bO (by unfold o6;rw[t4,decide_eq_true hw];exact t5 (s':=aD n (bG n (d.next m)) (hs++[.tup [d.dt,bG n m]])) (a:=d.ans m))];rfl),av (by rw[bO (a30 rfl)];rfl),av (ρ':=Z (aD n (bG n (d.next m)) (hs++[.tup [d.dt,bG n m]])) (pO n (tr++[m]) (d.next m)) M W (some (.val (.lst [.str "",d.ans m])))) (by
    show (aI dQ 2 (a8 (au 3) (a8 (au 2) (ai))) (Z (aD n (bG n (d.next m)) (hs++[.tup [d.dt,bG n m]])) p M W (some (.val (.lst [.str "",d.ans m]))))>>=λx=>if (d4 n tr m).length<lim then R.ok (br.nx ((Z (aD n (bG n (d.next m)) (hs++[.tup [d.dt,bG n m]])) p M W (some (.val (.lst [.str "",d.ans m])))).set 1 (some (.own (.lst (d4 n tr m++[x]))))))else .bad)=_
    rw[aZ (n:=2) (a9 rfl (a9 rfl rfl)) rfl Xn,ar,if_pos (by rw[pw,<-t.len];have:=t.le;unfold lim;omega)]
    unfold pO d4
    rw[Lv (l₁:=tr++[m]),KO,Ma]
    rfl)]
   exact pd (aZ (n:=2) (a9 (aj (a:= .lst [.str "",d.ans m]) rfl rfl IJ) (a9 (aZ (n:=2) (a9 rfl (a9 rfl rfl)) rfl (xb d)) rfl)) rfl (jn (by decide) d.wfa))
 ·
  have a0y:w∈WL:=(d.inW (n:=n) (m:=m) (hs:=hs)).resolve_left hw
  have Wc:eW [s] [d.dt]= .ok (.lst [.str w, .non],[s]):=by
   by_cases hb:d= .back
   ·subst hb
    have Zo:hs.length=0:=by
     by_cases z:hs.length=0
     ·exact z
     ·exact absurd (show iP (decide (hs.length=0)) "NothingDone"="" by rw[decide_eq_false z];rfl) hw
    have h0:hs=[]:=NT.mp Zo
    have a31:w="NothingDone":=by show iP (decide (hs.length=0)) "NothingDone"=_;rw[decide_eq_true Zo];rfl
    subst h0
    rw[a31]
    exact xg (zG AY) (by decide+kernel)
   ·exact xg (zF g d hb hf (n:=n) (hs:=hs)) a0y
  refine⟨tr,m,hs,t,dC (gk ⟨rfl,rfl⟩ (ρ:=Z s p M W (some (.val (.lst [.str w, .non])))) ?_ rfl)⟩
  show fZ (Z s p none none none)=_
  rw[Ym Wc rfl]
  refine p9 ?_
  rw[dB (by unfold o6;rw[t4,decide_eq_false hw];rfl)]
  exact pd (aj (a:= .str w) rfl (aj (a:= .lst [.str w, .non]) rfl rfl II) (by rw[sJ,decide_eq_true rfl]))
end
theorem H9 {ss:List zu} {k:Nat} (h:k<ss.length):L2.atI (ss.map d3) (k:Int)=some (d3 ss[k]):=by
 rw[il (by simpa using h)]
 simp
theorem IN {α:Type} {x:α} {xs:List α}:L2.atI (x::xs) 0=some x:=by
 have:=il (xs:=x::xs) (k:=0) (by simp)
 simpa using this
theorem IP {α:Type} {x y:α} {xs:List α}:L2.atI (x::y::xs) 1=some y:=by
 have:=il (xs:=x::y::xs) (k:=1) (by simp)
 simpa using this
structure Good (n:Nat) (ss:List zu):Prop where
 src:∀r∈ss,0<=r.2.1/\r.2.1<=n
 tgt:∀r∈ss,0<=r.2.2/\r.2.2<=n
 ne:∀r∈ss,r.2.1≠r.2.2
def lv (L:List Int) (i:Int):Int:=L.getD i.toNat 0
theorem zI {L:List Int} {i:Int} (h0:0<=i) (h1:i<L.length):L2.atI (L.map D.int) i=some (.int (lv L i)):=by
 obtain⟨k,rfl⟩:=NU h0
 have hk:k<L.length:=by omega
 rw[il (by simpa using hk)]
 simp[lv,hk]
theorem Dd {i j:Int}:An [.int i, .int j]=some (.int (if j>i then j else i)):=rfl
theorem yo {i j:Int}:xT [.int i, .int j]=some (.int (if j<i then j else i)):=rfl
theorem Fj {a b c:Int} (h1:a<=c) (h2:b<=c):(if b>a then b else a)<=c:=by split<;>assumption
theorem De {a b c:Int} (h:c<=a):c<=(if b>a then b else a):=by
 split
 ·exact Mw h (Int.le_of_lt (by assumption))
 ·exact h
theorem Df {a b c:Int} (h:c<=b):c<=(if b>a then b else a):=by
 split
 ·exact h
 ·exact Mw h (Int.not_lt.mp (by assumption))
theorem Fk {a b c:Int} (h1:c<=a) (h2:c<=b):c<=(if b<a then b else a):=by split<;>assumption
theorem Dg {a b c:Int} (h:a<=c):(if b<a then b else a)<=c:=by
 split
 ·exact Mw (Int.le_of_lt (by assumption)) h
 ·exact h
theorem Dh {a b c:Int} (h:b<=c):(if b<a then b else a)<=c:=by
 split
 ·exact h
 ·exact Mw (Int.not_lt.mp (by assumption)) h
theorem A_ {L:List Int} {n:Nat} {s t most:Int} (hL:L.length=n+1) (hs:0<=s/\s<=n) (ht:0<=t/\t<=n) (hm:0<=most) (hb:∀i:Int,1<=i->i<=n-> -1000<=lv L i/\lv L i<=1000):
  ∃lo hi:Int,jd [.lst (L.map .int), .int s, .int t, .int most]= .ok (.lst [.int lo, .int hi])/\lo<=0/\0<=hi/\ -most<=lo/\hi<=most/\(0<s->lv L s - 1000<=lo/\hi<=lv L s+1000)/\(0<t-> -1000 - lv L t<=lo/\hi<=1000 - lv L t):=by
 have Y7:L2.atI (L.map D.int) s=some (.int (lv L s)):=zI hs.1 (by omega)
 have a0z:L2.atI (L.map D.int) t=some (.int (lv L t)):=zI ht.1 (by omega)
 have Wv:(2:Nat)<=lim:=by decide
 have a1d: -most<=0:=Int.neg_nonpos_of_nonneg hm
 have r:= @Int.le_refl
 have Sj:∀i:Int,0<i->i<=n->(lv L i - 1000<=0/\0<=lv L i+1000)/\ -1000 - lv L i<=0/\0<=1000 - lv L i:=λi h1 h2=>by
  have:=hb i h1 h2
  omega
 obtain⟨lo1,Xm,e1,p1,p2,p3,p4,p5⟩:∃lo1 Xm:Int,cr (fT (f2 pL (aa 1) (fC (.int 0)))) (aw (aU (cg An (a8 (aa 4) (a8 (f2 iL (f2 aQ (aa 0) (aa 1)) (fC (.int 1000))) (ai)))) (gN 4)) (aU (cg xT (a8 (aa 5) (a8 (f2 bC (f2 aQ (aa 0) (aa 1)) (fC (.int 1000))) (ai)))) (gN 5))) (aF) [some (.val (.lst (L.map .int))),some (.val (.int s)),some (.val (.int t)),some (.val (.int most)),some (.val (.int (-most))),some (.val (.int most))]
   = .ok (.nx [some (.val (.lst (L.map .int))),some (.val (.int s)),some (.val (.int t)),some (.val (.int most)),some (.val (.int lo1)),some (.val (.int Xm))])/\lo1<=0/\0<=Xm/\ -most<=lo1/\Xm<=most/\(0<s->lv L s - 1000<=lo1/\Xm<=lv L s+1000):=by
  by_cases h1:0<s
  ·have k:=(Sj s h1 hs.2).1
   exact⟨_,_,by simp! [h1,Y7,Dd,yo],Fj a1d k.1,Fk hm k.2,De (r _),Dg (r _),λ_=>⟨Df (r _),Dh (r _)⟩⟩
  ·exact⟨-most,most,by simp! [h1],a1d,hm,r _,r _,λz=>absurd z h1⟩
 obtain⟨Yn,Yo,e2,q1,q2,q3,q4,q5⟩:∃Yn Yo:Int,cr (fT (f2 pL (aa 2) (fC (.int 0)))) (aw (aU (cg An (a8 (aa 4) (a8 (f2 iL (f1 js (fC (.int 1000))) (f2 aQ (aa 0) (aa 2))) (ai)))) (gN 4)) (aU (cg xT (a8 (aa 5) (a8 (f2 iL (fC (.int 1000)) (f2 aQ (aa 0) (aa 2))) (ai)))) (gN 5))) (aF) [some (.val (.lst (L.map .int))),some (.val (.int s)),some (.val (.int t)),some (.val (.int most)),some (.val (.int lo1)),some (.val (.int Xm))]
   = .ok (.nx [some (.val (.lst (L.map .int))),some (.val (.int s)),some (.val (.int t)),some (.val (.int most)),some (.val (.int Yn)),some (.val (.int Yo))])/\Yn<=0/\0<=Yo/\lo1<=Yn/\Yo<=Xm/\(0<t-> -1000 - lv L t<=Yn/\Yo<=1000 - lv L t):=by
  by_cases h1:0<t
  ·have k:=(Sj t h1 ht.2).2
   exact⟨_,_,by simp! [h1,a0z,Dd,yo],Fj p1 k.1,Fk p2 k.2,De (r _),Dg (r _),λ_=>⟨Df (r _),Dh (r _)⟩⟩
  ·exact⟨lo1,Xm,by simp! [h1],p1,p2,r _,r _,λz=>absurd z h1⟩
 refine⟨Yn,Yo,bx rfl ?_,q1,q2,Mw p3 q3,Mw q4 p4,λz=>⟨Mw (p5 z).1 q3,Mw q4 (p5 z).2⟩,q5⟩
 show nV [some (.val (.lst (L.map .int))),some (.val (.int s)),some (.val (.int t)),some (.val (.int most)),none,none]=_
 unfold nV
 rw[av (ρ':=[some (.val (.lst (L.map .int))),some (.val (.int s)),some (.val (.int t)),some (.val (.int most)),some (.val (.int (-most))),none]) rfl,
  av (ρ':=[some (.val (.lst (L.map .int))),some (.val (.int s)),some (.val (.int t)),some (.val (.int most)),some (.val (.int (-most))),some (.val (.int most))]) rfl,av e1,av e2]
 simp! [Wv]
def lb (p:Int×Int):D:= .tup [.int p.1, .int p.2]
theorem yp {L:List Int} {i j v:Int} (hi:0<=i) (hl:i<L.length) (hj:0<=j):lv (L.set i.toNat v) j=if j=i then v else lv L j:=by
 unfold lv
 rw[LR,MN]
 by_cases h:j=i
 ·subst h
  rw[if_pos rfl,if_pos (by omega),if_pos rfl];rfl
 ·rw[if_neg (by omega),if_neg h,LR]
theorem Di {n:Nat} {i:Int} (h0:0<=i) (h1:i<n):L2.xi n i=some i.toNat:=by unfold L2.xi;rw[if_pos h0,if_pos h1]
theorem xh (L:List Int) (i:Nat) (v:Int):(L.map D.int).set i (.int v)=(L.set i v).map D.int:=by rw[List.map_set]
theorem Ks {i:Nat} {gs:List D->af->R af} {d:D} {ds:List D} {ρ:af}:eQ (gN i) gs (d::ds) ρ=gs ds (ρ.set i (some (.val d))):=rfl
theorem Kt {ρ:af}:rY [] ρ= .ok ρ:=rfl
theorem B0 {n:Nat} {figs:List Int} {ss:List zu} {mm:List Int} {b0 b1:Int} {L:List Int} {rows:List (Int×Int)} {k:Nat} {x8 x9 x10 x11 x12 x13:Option Slot} (hk:k<ss.length) (hf:k<figs.length) (g:Good n ss) (hn:n<=7) (hL:L.length=n+1) (h0:0<=b0) (h1:0<=b1)
  (hb:∀i:Int,1<=i->i<=n-> -1000<=lv L i/\lv L i<=1000) (hr:rows.length<=1000):
  ∃(a:Int) (L':List Int) (y8 y9 Ug UG XH Yp:Option Slot),iN [some (.val (.lst (figs.map .int))),some (.val (.int (n:Int))),some (.val (.tup (ss.map d3))),some (.val (.tup (mm.map .int))),some (.val (.lst [.int b0, .int b1])),some (.own (.lst (L.map .int))),some (.own (.lst (rows.map lb))),some (.val (.int (k:Int))),x8,x9,x10,x11,x12,x13]
   = .ok (.nx [some (.val (.lst (figs.map .int))),some (.val (.int (n:Int))),some (.val (.tup (ss.map d3))),some (.val (.tup (mm.map .int))),some (.val (.lst [.int b0, .int b1])),some (.own (.lst (L'.map .int))),some (.own (.lst ((rows++[(ss[k].1,a)]).map lb))),some (.val (.int (k:Int))),y8,y9,Ug,UG,XH,Yp])/\
   L'.length=n+1/\(∀i:Int,1<=i->i<=n-> -1000<=lv L' i/\lv L' i<=1000):=by
 have VC:=O5 hk
 have a0A:=H9 hk
 have hs:=g.src _ VC
 have ht:=g.tgt _ VC
 have Ur:=g.ne _ VC
 generalize ss[k]=row at*
 obtain⟨Yf,s,t⟩:=row
 replace hs:0<=s/\s<=n:=hs
 replace ht:0<=t/\t<=n:=ht
 replace Ur:s≠t:=Ur
 have hm:0<=(if Yf∈mm then b1 else b0):=by split<;>omega
 obtain⟨lo,hi,e,c1,c2,c3,c4,c5,c6⟩:=A_ hL hs ht hm hb
 have Z5:L2.atI (figs.map D.int) (k:Int)=some (.int figs[k]):=by
  rw[il (by simpa using hf)];simp
 have hd:(0:Int)<hi - lo+1:=by omega
 generalize figs[k]=fg at Z5
 have a1:=N6 fg (show hi - lo+1≠0 by omega)
 have a2:=N7 fg hd
 have Y7:L2.atI (L.map D.int) s=some (.int (lv L s)):=zI hs.1 (by omega)
 have a32:L2.atI [D.int b0,D.int b1] (if decide (Yf∈mm)=true then 1 else 0)=some (.int (if Yf∈mm then b1 else b0)):=by
  by_cases h:Yf∈mm
  ·simp only[h,decide_true,if_true,IP]
  ·simp only[h,decide_false,LM,if_false,IN]
 have a0B:L2.xi (L.map D.int).length s=some s.toNat:=Di hs.1 (by rw[KA];omega)
 have Z6:(L.set s.toNat (lv L s - (lo+fg%(hi - lo+1)))).length=n+1:=by rw[Oi];exact hL
 have a0z:L2.atI ((L.set s.toNat (lv L s - (lo+fg%(hi - lo+1)))).map D.int) t=some (.int (lv L t)):=by
  rw[zI ht.1 (by omega),yp hs.1 (by omega) ht.1,if_neg (Mn Ur)]
 have a0C:L2.xi ((L.set s.toNat (lv L s - (lo+fg%(hi - lo+1)))).map D.int).length t=some t.toNat:=Di ht.1 (by rw[KA];omega)
 have a0D:(rows.map lb).length<lim:=by rw[KA];unfold lim;omega
 have Wv:(2:Nat)<=lim:=by decide
 have ap:rows.map lb++[D.tup [.int Yf, .int (lo+fg%(hi - lo+1))]]=(rows++[(Yf,lo+fg%(hi - lo+1))]).map lb:=by simp[lb]
 generalize ha:lo+fg%(hi - lo+1)=a at*
 refine⟨a,(L.set s.toNat (lv L s - a)).set t.toNat (lv L t+a),some (.val (.int Yf)),some (.val (.int s)),some (.val (.int t)),some (.val (.int lo)),some (.val (.int hi)),some (.val (.int a)),?_,by rw[Oi];exact Z6,?_⟩
 ·simp! [iN,CA,tW,Ks,Kt,C1,a0A,d3,e,u0,ym,a32,nM,L_,RZ,Bool.and_true,and_self,Z5,bc hd,ha,Y7,a0B,xh,a0z,a0C,a0D,Wv,ap]
 ·intro i Xm a0y
  rw[yp ht.1 (by omega) (by omega),yp hs.1 (by omega) (by omega)]
  by_cases h1:i=t
  ·subst h1
   rw[if_pos rfl]
   have:=c6 (by omega);omega
  ·rw[if_neg h1]
   by_cases h2:i=s
   ·subst h2
    rw[if_pos rfl]
    have:=c5 (by omega);omega
   ·rw[if_neg h2];exact hb i Xm a0y
theorem EE {k:Int} (h0:0<=k) (h:k<=1000):wu (.lst [.int 0]) (.int k)=some (.lst ((Lf k.toNat (0:Int)).map .int)):=by
 show (if k.natAbs<=lim/\[D.int 0].length*k.toNat<=lim then some (D.lst (Lf k.toNat [D.int 0]).flatten)else none)=_
 rw[if_pos ⟨by unfold lim;omega,by unfold lim;simp;omega⟩]
 congr 2
 induction k.toNat with
 |zero=>rfl
 |succ m ih=>rw[LY,LY,MA,ih];rfl
theorem JN {x:D} {ds:List D}:Fc (.lst (x::ds)) (some 1) none=some (.lst ds):=by
 show some (D.lst (L2.Pu.sY (x::ds) (some 1) none))=_
 unfold L2.Pu.sY HT.fE
 simp
theorem EF {m:Nat} (i:Int):lv (Lf m 0) i=0:=by
 unfold lv
 rw[LR,Mh]
 split<;>rfl
theorem yq {n:Nat} {figs:List Int} {ss:List zu} {mm:List Int} {b0 b1:Int} (hf:ss.length<=figs.length) (g:Good n ss) (hn:n<=7) (h0:0<=b0) (h1:0<=b1) (hs:ss.length<=1000):
  ∃(ps:List (Int×Int)) (WC:List Int),ic [.lst (figs.map .int), .int (n:Int), .tup (ss.map d3), .tup (mm.map .int), .lst [.int b0, .int b1]]= .ok (.lst [.tup (ps.map lb), .tup (WC.map .int)])/\ps.map (·.1)=ss.map (·.1)/\WC.length=n:=by
 have hd:wu (.lst [.int 0]) (.int ((n:Int)+1))=some (.lst ((Lf (n+1) (0:Int)).map .int)):=by
  have:=EE (k:=(n:Int)+1) (by omega) (by omega)
  rwa [show ((n:Int)+1).toNat=n+1 by omega]at this
 have a33:(1:Nat)<=lim:=by decide
 have Wv:(2:Nat)<=lim:=by decide
 obtain⟨ρ',e,L',rows,y7,y8,y9,Ug,UG,XH,Yp,rfl,e2,_,e4⟩:=p8 (g:=gN 7) (gb:=iN) (n:=ss.length) (fs:=a8 (cg cf (a8 (aa 2) (ai))) (ai)) (ρ:=[some (.val (.lst (figs.map .int))),some (.val (.int (n:Int))),some (.val (.tup (ss.map d3))),some (.val (.tup (mm.map .int))),some (.val (.lst [.int b0, .int b1])),some (.own (.lst ((Lf (n+1) (0:Int)).map .int))),some (.own (.lst (([]:List (Int×Int)).map lb))),none,none,none,none,none,none,none])
  (P:=λk ρ=>∃(L:List Int) (rows:List (Int×Int)) (y7 y8 y9 Ug UG XH Yp:Option Slot),ρ=[some (.val (.lst (figs.map .int))),some (.val (.int (n:Int))),some (.val (.tup (ss.map d3))),some (.val (.tup (mm.map .int))),some (.val (.lst [.int b0, .int b1])),some (.own (.lst (L.map .int))),some (.own (.lst (rows.map lb))),y7,y8,y9,Ug,UG,XH,Yp]/\L.length=n+1/\(∀i:Int,1<=i->i<=n-> -1000<=lv L i/\lv L i<=1000)/\rows.map (·.1)=(ss.take k).map (·.1))
  (by simp! [KA]) hs ⟨_,_,_,_,_,_,_,_,_,rfl,by simp,λi _ _=>by rw[EF];omega,rfl⟩ (λk hk ρ hρ=>by
   obtain⟨L,rows,y7,y8,y9,Ug,UG,XH,Yp,rfl,hL,hb,hr⟩:=hρ
   have a0D:rows.length<=1000:=by
    have:=congrArg Ox hr
    simp at this
    omega
   obtain⟨a,L1,z8,z9,Zl,Zm,a1b,a1c,e1,l1,a34⟩:=B0 (figs:=figs) (mm:=mm) (b0:=b0) (b1:=b1) (L:=L) (rows:=rows) (k:=k) (x8:=y8) (x9:=y9) (x10:=Ug) (x11:=UG) (x12:=XH) (x13:=Yp) hk (by omega) g hn hL h0 h1 hb a0D
   exact⟨_,_,rfl, .inl e1,L1,_,_,_,_,_,_,_,_,rfl,l1,a34,by rw[Lv,hr,CT _ hk];rfl⟩)
 rw[List.take_length]at e4
 obtain⟨z,WC,rfl⟩:∃z WC,L'=z::WC:=by
  cases L' with
  |nil=>simp at e2
  |cons z WC=>exact⟨z,WC,rfl⟩
 refine⟨rows,WC,bx rfl ?_,e4,by simpa using e2⟩
 show lW [some (.val (.lst (figs.map .int))),some (.val (.int (n:Int))),some (.val (.tup (ss.map d3))),some (.val (.tup (mm.map .int))),some (.val (.lst [.int b0, .int b1])),none,none,none,none,none,none,none,none,none]=_
 unfold lW
 rw[av (ρ':=[some (.val (.lst (figs.map .int))),some (.val (.int (n:Int))),some (.val (.tup (ss.map d3))),some (.val (.tup (mm.map .int))),some (.val (.lst [.int b0, .int b1])),some (.own (.lst ((Lf (n+1) (0:Int)).map .int))),none,none,none,none,none,none,none,none]) (by simp! [wt,hd,a33]),
  av (ρ':=[some (.val (.lst (figs.map .int))),some (.val (.int (n:Int))),some (.val (.tup (ss.map d3))),some (.val (.tup (mm.map .int))),some (.val (.lst [.int b0, .int b1])),some (.own (.lst ((Lf (n+1) (0:Int)).map .int))),some (.own (.lst (([]:List (Int×Int)).map lb))),none,none,none,none,none,none,none]) rfl,av e]
 simp! [yX,lI,lH,KO,JN,Wv]
section
variable {n:Int} {tr:List Mo} {m:Mo} {hs:List D}
theorem EG (g:m.Ok) (r:zu):yl m.mm r=yl m.ms r:=by unfold yl;rw[g.mem]
theorem qY (g:m.Ok):fu [bF n m]= .ok (.tup (m.ss.map (yl m.ms))):=by
 refine bx rfl (cJ (aS (a9 (nJ (pj (enc:=d3) (l:=m.ss) (out:=yl m.ms) (EB Hk) (by have:=g.len;omega) (rest:=[some (.val (bF n m))]) rfl λr _=> ?_)) rfl) rfl))
 rw[<-EG g]
 exact aj (a:=d3 r) (b:= .tup [.bl (decide (r.1∈m.mm))]) rfl (bS (ds:=[.bl (decide (r.1∈m.mm))]) (a9 (aj (aj rfl rfl pe) (aj (a:=bF n m) rfl rfl GX) u0) rfl) (show 1<=lim by decide)) (iA (by simp[d3]))
theorem Ha (ms:List Int) (r:zu):Wf 1 (yl ms r):= .tup (by simp) λd hd=>by
 simp only[KR,LH,or_false]at hd
 rcases hd with rfl|rfl|rfl|rfl
 ·exact .int _ _
 ·exact .int _ _
 ·exact .int _ _
 ·exact .bl _ _
theorem B1 (d:CY) (h1:d.ss.length<=12) (h2:d.ri.length<=100) (h3:d.rd.length<=60):hG [sL n d,qX n d]= .ok (.bl true):=by
 let ρ:af:=[some (.val (sL n d)),some (.val (qX n d))]
 have sm:∀{f:Kw} {k:Int} {x:D} {j:Nat},(CZ n d).lookup f=some x->aQ (qX n d) (.int k)=some x->j<=7->Wf j x->aI bn 2 (a8 (cB "Day" f (aa 0)) (a8 (f2 aQ (aa 1) (fC (.int k))) (ai))) ρ= .ok (.bl true):=λ{f k x j} e1 e2 hj hw=>
  aZ (n:=2) (a9 (fH (fds:=CZ n d) rfl e1) (a9 (aj (a:=qX n d) rfl rfl e2) rfl)) rfl (jn hj hw)
 have a0:=sm (f:="tanks") (k:=0) rfl (e_ 0 rfl) (by decide) (.int 0 n)
 have a1:=sm (f:="streams") (k:=1) rfl (e_ 1 rfl) (by decide) (vg (f:=d3) (l:=d.ss) (by omega) λr _=>G_ r)
 have a2:=sm (f:="rises") (k:=2) rfl (e_ 2 rfl) (by decide) (zt d.ri (by omega))
 have a3:=sm (f:="readings") (k:=3) rfl (e_ 3 rfl) (by decide) (vg (f:=jr) (l:=d.rd) (by omega) λr _=>Fi r)
 refine bx rfl ?_
 show nX ρ=_
 unfold nX
 rw[av (ρ':=ρ) (by rw[bO (by unfold o6 iZ;rw[jO a0,jO a1];rfl)];rfl)]
 exact cJ (by unfold qm;rw[a2,ar];exact a3)
theorem sQ (t:Tr n tr m hs):cT [.ins "Cellar" (gK n (bG n m) hs),bF n m]= .ok (.bl true):=by
 have g:=t.ok
 let C:D:= .ins "Cellar" (gK n (bG n m) hs)
 let P (x:Option Slot):af:=[some (.val C),some (.val (bF n m)),x]
 have mt:∀{x:Option Slot} {f:Kw} {r:List D->R D} {z:D},r [C]= .ok z->(gK n (bG n m) hs).lookup f=none->fA "Cellar" f 1 r (au 0) ai (P x)= .ok z:=λ{x f r z} h1 h2=>iO (n:=1) (fds:=gK n (bG n m) hs) (ds:=[]) rfl rfl rfl h1 h2
 have b0:aI bn 2 (a8 (cB "Cellar" "tanks" (aa 0)) (a8 (f2 aQ (aa 1) (fC (.int 0))) (ai))) (P none)= .ok (.bl true):=aZ (n:=2) (a9 (fH (fds:=gK n (bG n m) hs) rfl rfl) (a9 (aj (a:=bF n m) rfl rfl Ey) rfl)) rfl (jn (by decide) (.int 0 n))
 have b1:aI bn 2 (a8 (fA "Cellar" "layout" 1 dc (au 0) ai) (a8 (aI fu 1 (a8 (au 1) (ai))) (ai))) (P none)= .ok (.bl true):=aZ (n:=2) (a9 (mt (x4 g) rfl) (a9 (aZ (n:=1) (a9 rfl rfl) rfl (qY g)) rfl)) rfl (jn (by decide) (vg (by have:=g.len;omega) λr _=>Ha _ r))
 have b2:aI bn 2 (a8 (fA "Cellar" "deeds" 1 dv (au 0) ai) (a8 (f2 aQ (aa 1) (fC (.int 5))) (ai))) (P none)= .ok (.bl true):=aZ (n:=2) (a9 (mt (yn t) rfl) (a9 (aj (a:=bF n m) rfl rfl K7) rfl)) rfl (jn (n:=4) (by decide) (.tup (by have:=t.dl;omega) (by obtain⟨_,_,_,h⟩:=t.prs;exact h)))
 have b3:aI bn 2 (a8 (fA "Cellar" "days_gone" 1 bj (au 0) ai) (a8 (cg cf (a8 (f2 aQ (aa 1) (fC (.int 4))) (ai))) (ai))) (P none)= .ok (.bl true):=aZ (n:=2) (a9 (mt jp rfl) (a9 (aS (a9 (aj (a:=bF n m) rfl rfl IM) rfl) (by rw[gW,KA])) rfl)) rfl (jn (by decide) (.int 0 _))
 refine bx rfl ?_
 show lZ (P none)=_
 unfold lZ
 rw[av (ρ':=P none) (by rw[bO (by unfold o6 iZ;rw[jO b0,jO b1];rfl)];rfl),av (ρ':=P none) (by rw[bO (by unfold o6 iZ;rw[jO b2,jO b3];rfl)];rfl)]
 obtain⟨ρ',e,y,rfl⟩:=p8 (g:=gN 2) (gb:=kU) (n:=m.ds.length) (fs:=a8 (cg cf (a8 (f2 aQ (aa 1) (fC (.int 4))) (ai))) (ai)) (ρ:=P none) (P:=λ_ ρ=>∃y,ρ=P y) (a9 (aS (a9 (aj (a:=bF n m) rfl rfl IM) rfl) (by rw[gW,KA])) rfl) (by have:=g.dl;omega) ⟨none,rfl⟩ λk hk ρ ⟨y,hy⟩=>by
  subst hy
  have hd:=t.rg.day _ (O5 hk)
  refine⟨P (some (.val (.int (k:Int)))),P (some (.val (.int (k:Int)))),rfl, .inl ?_,_,rfl⟩
  have a0E:aI hG 2 (a8 (fA "Cellar" "day" 2 fq (au 0) (a8 (f2 bC (aa 2) (fC (.int 1))) (ai))) (a8 (f2 aQ (f2 aQ (aa 1) (fC (.int 4))) (aa 2)) (ai))) (P (some (.val (.int (k:Int)))))= .ok (.bl true):=
   aZ (n:=2) (a9 (iO (n:=2) (fds:=gK n (bG n m) hs) (ds:=[.int ((k:Int)+1)]) rfl (a9 (aj (a:= .int (k:Int)) (b:= .int 1) rfl rfl eF) rfl) rfl (D8 hk) rfl) (a9 (d:=qX n m.ds[k]) (aj (b:= .int (k:Int)) (aj (a:=bF n m) rfl rfl IM) rfl (e_ k (by rw[L8,Ld hk];rfl))) rfl)) rfl (B1 _ hd.1 hd.2.1 hd.2.2)
  unfold kU
  rw[bO (by unfold iZ;rw[jO a0E];rfl)]
  rfl
 rw[av e]
 rfl
end
theorem Dj {ga gb:af->R Bool} {ρ:af} (h:∃b,ga ρ= .ok b) (h2:∃b,gb ρ= .ok b):∃b,o6 ga gb ρ= .ok b:=by
 obtain⟨a,ha⟩:=h;obtain⟨b,hb⟩:=h2
 unfold o6;rw[ha,ar]
 cases a
 ·exact⟨b,hb⟩
 ·exact⟨true,rfl⟩
theorem zJ {ga gb:af->R Bool} {ρ:af} (h:∃b,ga ρ= .ok b) (h2:∃b,gb ρ= .ok b):∃b,gA ga gb ρ= .ok b:=by
 obtain⟨a,ha⟩:=h;obtain⟨b,hb⟩:=h2
 unfold gA;rw[ha,ar]
 cases a
 ·exact⟨false,rfl⟩
 ·exact⟨b,hb⟩
theorem gI (c:Int) (mx:Bool) (k:Nat) (sz:Int) (hs:0<sz/\sz<1073741824) (hk:k<=100):∃xs:List Int,bX [.int c, .bl mx, .int (k:Int), .int sz]= .ok (.lst (xs.map .int))/\xs.length=k/\∀x∈xs,0<=x:=by
 let P (xs:List Int) (r:Int) (y z:Option Slot):af:=[some (.val (.int c)),some (.val (.bl mx)),some (.val (.int (k:Int))),some (.val (.int sz)),some (.own (.lst (xs.map .int))),some (.val (.int r)),y,z]
 obtain⟨ρ',e,xs,r,y,z,rfl,h1,h2⟩:=p8 (g:=gN 6) (gb:=gD) (n:=k) (fs:=a8 (au 2) (ai)) (ρ:=P [] c none none) (P:=λj ρ=>∃xs r y z,ρ=P xs r y z/\xs.length=j/\∀x∈xs,0<=x) (a9 rfl rfl) (by omega) ⟨[],c,none,none,rfl,rfl,λx hx=>by cases hx⟩ λj hj ρ hρ=>by
  obtain⟨xs,r,y,z,rfl,h1,h2⟩:=hρ
  have hl:(xs.map D.int).length<lim:=by rw[KA];unfold lim;omega
  refine⟨P xs r (some (.val (.int (j:Int)))) z,?_⟩
  have nn:∀{v:Int},∀x∈xs++[v%sz],0<=x:=λ{v} x hx=>by
   rcases LB.mp hx with hx|hx
   ·exact h2 x hx
   ·rw[KU.mp hx];exact N6 _ (by omega)
  have ap:∀v:Int,xs.map D.int++[.int v]=(xs++[v]).map .int:=λv=>by simp
  cases mx with
  |true=>exact⟨P (xs++[((c+7919*(j:Int)+1)*48271%2147483647+(j:Int))*69621%2147483647%sz]) r (some (.val (.int (j:Int)))) (some (.val (.int ((c+7919*(j:Int)+1)*48271%2147483647)))),rfl, .inl (by simp! [P,gD,sf (show Oo 48271<18446744073709551616 by decide),sf (show Oo 69621<18446744073709551616 by decide),sg (show Oo 7919<18446744073709551616 by decide),bc (show (0:Int)<2147483647 by decide),bc hs.1,hl,ap]),_,_,_,_,rfl,by simp[h1],nn⟩
  |false=>exact⟨P (xs++[r%sz]) (r / sz) (some (.val (.int (j:Int)))) z,rfl, .inl (by simp! [P,gD,bc hs.1,db hs,hl,ap]),_,_,_,_,rfl,by simp[h1],nn⟩
 refine⟨xs,bx rfl ?_,h1,h2⟩
 show jL [some (.val (.int c)),some (.val (.bl mx)),some (.val (.int (k:Int))),some (.val (.int sz)),none,none,none,none]=_
 unfold jL
 rw[av (ρ':=[some (.val (.int c)),some (.val (.bl mx)),some (.val (.int (k:Int))),some (.val (.int sz)),some (.own (.lst [])),none,none,none]) rfl,av (ρ':=P [] c none none) rfl,av e]
 rfl
theorem Dk {ds:List D} {k:Int} (h0:0<=k):Fc (.lst ds) none (some k)=some (.lst (ds.take k.toNat)):=by
 show some (D.lst (L2.Pu.sY ds none (some k)))=_
 unfold L2.Pu.sY HT.fE
 simp only[if_neg (show ¬k<0 by omega),RJ,Nat.sub_zero]
 congr 2
 rw[List.take_eq_take_iff]
 omega
theorem Dl {α:Type} {f:α->D} {l:List α} {lo hi:Option Int}:∃l':List α,Fc (.tup (l.map f)) lo hi=some (.tup (l'.map f))/\l'.length<=l.length:=by
 unfold Fc
 dsimp only
 split
 ·exact⟨l,rfl,L7 _⟩
 ·unfold L2.Pu.sY
  rw[<-List.map_drop,<-Qy]
  exact⟨_,rfl,by rw[Nl,P9];omega⟩
section
variable {n:Int} {m:Mo} {hs:List D}
theorem EH {xs:List Int}:Az (.lst (xs.map .int)) (.lst [])=some (.bl xs.isEmpty):=by
 show (if (xs.map D.int).all j4=true/\([]:List D).all j4=true then some (D.bl (CB (xs.map D.int) []))else none)=_
 rw[if_pos ⟨MV.mpr λd hd=>by obtain⟨i,_,rfl⟩:=Mv.mp hd;rfl,rfl⟩]
 cases xs<;>rfl
theorem yr (g:m.Ok) (fs:List Int) (hl:fs.length<=40):∃xs:List Int,dF [bF n m, .lst (fs.map .int)]= .ok (.tup (xs.map .int))/\xs.length=fs.length:=by
 let P (xs:List Int) (y:Option Slot):af:=[some (.val (bF n m)),some (.val (.lst (fs.map .int))),some (.own (.lst (m.nu.map .int))),some (.own (.lst (xs.map .int))),y]
 have step:∀(xs:List Int) (y:Option Slot) (x:Int),xs.length<=100->∃v:Int,gF (P xs (some (.val (.int x))))= .ok (.nx (P (xs++[v]) (some (.val (.int x))))):=λxs y x hx=>by
  have hl:(xs.map D.int).length<lim:=by rw[KA];unfold lim;omega
  have ap:∀v:Int,xs.map D.int++[.int v]=(xs++[v]).map .int:=λv=>by simp
  let ρ:=P xs (some (.val (.int x)))
  have t1:fT (f2 Az (aa 2) (eD (ai))) ρ= .ok m.nu.isEmpty:=bv (aj (a:= .lst (m.nu.map .int)) (b:= .lst []) rfl rfl EH)
  have t2:fT (f2 dm (f2 bN (aa 4) (fC (.int 9))) (fC (.int 8))) ρ= .ok (decide (x%9=8)):=bv (aj (aj (a:= .int x) (b:= .int 9) rfl rfl (bc (by decide))) rfl i9)
  have a1e:∀{f:af->R D} {v:Int},f ρ= .ok (.int v)->oE 3 f ρ= .ok (.nx (P (xs++[v]) (some (.val (.int x))))):=λ{f v} h=>by
   show (f ρ>>=λd=>if (xs.map D.int).length<lim then R.ok (br.nx (ρ.set 3 (some (.own (.lst (xs.map D.int++[d]))))))else .bad)=_
   rw[h,ar,if_pos hl,ap];rfl
  obtain⟨b,hb⟩:=Dj ⟨_,t1⟩ ⟨_,t2⟩
  have d9:f2 dY (aa 4) (fC (.int 9)) ρ= .ok (.int (x / 9)):=aj (a:= .int x) (b:= .int 9) rfl rfl (db (by decide))
  cases b with
  |true=>exact⟨x / 9%70 - 2,by unfold gF;rw[dB hb];exact a1e (aj (aj d9 rfl (bc (by decide))) rfl lJ)⟩
  |false=>
   have Ur:m.nu≠[]:=λz=>by
    have:o6 (fT (f2 Az (aa 2) (eD (ai)))) (fT (f2 dm (f2 bN (aa 4) (fC (.int 9))) (fC (.int 8)))) ρ= .ok true:=by unfold o6;rw[t1,z];rfl
    rw[this]at hb;cases hb
   have hp:0<m.nu.length:=List.length_pos_iff.mpr Ur
   have a35:=N6 (x / 9) (show (m.nu.length:Int)≠0 by omega)
   have Xp:=N7 (x / 9) (show (0:Int)<m.nu.length by omega)
   obtain⟨j,hj⟩:=NU a35
   have a36:j<m.nu.length:=by omega
   have a37:aQ (.lst (m.nu.map .int)) (.int (x / 9%(m.nu.length:Int)))=some (.int m.nu[j]):=by rw[hj];exact sN j (by rw[L8,Ld a36];rfl)
   refine⟨m.nu[j],by unfold gF;rw[bO hb];exact a1e (aj (a:= .lst (m.nu.map .int)) rfl (aj d9 (aS (a9 (d:= .lst (m.nu.map .int)) rfl rfl) jF) (by rw[KA];exact bc (by omega))) a37)⟩
 have VD:∀(l:List Int) (xs:List Int) (y:Option Slot),xs.length+l.length<=100->∃Zp y',eK (gN 4) gF (l.map .int) (P xs y)= .ok (.nx (P Zp y'))/\Zp.length=xs.length+l.length:=by
  intro l
  induction l with
  |nil=>exact λxs y _=>⟨xs,y,rfl,rfl⟩
  |cons x l ih=>
   intro xs y h
   rw[L6]at h
   obtain⟨v,hv⟩:=step xs y x (by omega)
   obtain⟨Zp,y',e,h2⟩:=ih (xs++[v]) (some (.val (.int x))) (by simp;omega)
   exact⟨Zp,y',by rw[KO,mB (ρ1:=P xs (some (.val (.int x)))) rfl hv,e],by rw[h2];simp;omega⟩
 obtain⟨xs,y,e,h2⟩:=VD fs [] none (by simp;omega)
 refine⟨xs,bx rfl ?_,by rw[h2];simp⟩
 show m6 [some (.val (bF n m)),some (.val (.lst (fs.map .int))),none,none,none]=_
 unfold m6
 rw[av (ρ':=[some (.val (bF n m)),some (.val (.lst (fs.map .int))),some (.own (.lst (m.nu.map .int))),none,none]) (own_of (C_ g (EB Hk) rfl)),av (ρ':=P [] none) rfl,av ((sj (ds:=fs.map .int) rfl).trans e)]
 rfl
theorem B2 (ri:List Int) (rd:List Rd) (x:Int) (l1:ri.length<=50) (l2:rd.length<=50):∃Tt VB,ji [dz ri rd, .int x]= .ok (dz Tt VB)/\Tt.length<=ri.length+1/\VB.length<=rd.length+1:=by
 let P (a b:D):af:=[some (.val (dz ri rd)),some (.val (.int x)),some (.val a),some (.val b)]
 let A:=D.tup (ri.map .int);let B:=D.tup (rd.map jr)
 have tk:∀{k:Int},fT (f2 dm (f2 bN (aa 1) (fC (.int 5))) (fC (.int k))) (P A B)= .ok (decide (x%5=k)):=λ{k}=>bv (aj (aj (a:= .int x) (b:= .int 5) rfl rfl (bc (by decide))) rfl i9)
 have d5:f2 dY (aa 1) (fC (.int 5)) (P A B)= .ok (.int (x / 5)):=aj (a:= .int x) (b:= .int 5) rfl rfl (db (by decide))
 have TU:∀{a:List Int} {b:List Rd},bt (bU (a8 (fC (.str "day passes")) (a8 (au 2) (a8 (au 3) (ai))))) (P (.tup (a.map .int)) (.tup (b.map jr)))= .ok (.ret (dz a b)):=λ{a b}=>cJ (bS (ds:=[.str "day passes", .tup (a.map .int), .tup (b.map jr)]) rfl (show 3<=lim by decide))
 have go:∃Tt VB,o0 [some (.val (dz ri rd)),some (.val (.int x)),none,none]= .ok (.ret (dz Tt VB))/\Tt.length<=ri.length+1/\VB.length<=rd.length+1:=by
  unfold o0
  rw[av (ρ':=[some (.val (dz ri rd)),some (.val (.int x)),some (.val A),none]) (aX (aj (a:=dz ri rd) rfl rfl (e_ 1 rfl)) rfl),av (ρ':=P A B) (aX (aj (a:=dz ri rd) rfl rfl (e_ 2 rfl)) rfl)]
  by_cases h0:x%5=0
  ·refine⟨ri++[0],rd,?_,by simp,by omega⟩
   rw[av (ρ':=P (.tup ((ri++[0]).map .int)) B) (by rw[dB (by rw[tk,decide_eq_true h0])];exact aX (aj (a:=A) (b:= .tup [.int 0]) rfl rfl (by rw[iA (by simp;omega)];simp)) rfl),TU]
  by_cases h1:x%5=1
  ·refine⟨ri,rd++[(x / 5%40,1)],?_,by omega,by simp⟩
   rw[av (ρ':=P A (.tup ((rd++[(x / 5%40,1)]).map jr))) (by rw[bO (by rw[tk,decide_eq_false h0]),dB (by rw[tk,decide_eq_true h1])];exact aX (aj (a:=B) (b:= .tup [jr (x / 5%40,1)]) rfl (bS (ds:=[jr (x / 5%40,1)]) (a9 (bS (ds:=[.int (x / 5%40), .int 1]) (a9 (aj d5 rfl (bc (by decide))) rfl) (show 2<=lim by decide)) rfl) (show 1<=lim by decide)) (by rw[iA (by simp;omega)];simp)) rfl),TU]
  by_cases h2:x%5=2
  ·obtain⟨l',e,hl⟩:=Dl (f:=jr) (l:=rd) (lo:=some 1) (hi:=none)
   refine⟨ri,(x / 5%14,-1)::l',?_,by omega,by simp;omega⟩
   rw[av (ρ':=P A (.tup (((x / 5%14,-1)::l').map jr))) (by rw[bO (by rw[tk,decide_eq_false h0]),bO (by rw[tk,decide_eq_false h1]),dB (by rw[tk,decide_eq_true h2])];exact aX (aj (a:= .tup [jr (x / 5%14,-1)]) (b:= .tup (l'.map jr)) (bS (ds:=[jr (x / 5%14,-1)]) (a9 (bS (ds:=[.int (x / 5%14), .int (-1)]) (a9 (aj d5 rfl (bc (by decide))) (a9 (d:= .int (-1)) rfl rfl)) (show 2<=lim by decide)) rfl) (show 1<=lim by decide)) (by unfold yX;rw[show (aa 3:af->R D) (P A B)= .ok B from rfl,ar];show R.of (Fc B (some 1) none)=_;rw[e,gw]) (by rw[iA (by simp;omega)];rfl)) rfl),TU]
  by_cases h3:x%5=3
  ·obtain⟨l',e,hl⟩:=Dl (f:=jr) (l:=rd) (lo:=none) (hi:=some (-1))
   refine⟨ri,l',?_,by omega,by omega⟩
   rw[av (ρ':=P A (.tup (l'.map jr))) (by rw[bO (by rw[tk,decide_eq_false h0]),bO (by rw[tk,decide_eq_false h1]),bO (by rw[tk,decide_eq_false h2]),dB (by rw[tk,decide_eq_true h3])];exact aX (d:= .tup (l'.map jr)) (by unfold yX;rw[show (aa 3:af->R D) (P A B)= .ok B from rfl,ar];show R.of (Fc B none (some (-1)))=_;rw[e,gw]) rfl),TU]
  ·refine⟨ri.map λr=>r*25+1,rd,?_,by simp,by omega⟩
   rw[av (ρ':=P (.tup ((ri.map λr=>r*25+1).map .int)) B) (by rw[bO (by rw[tk,decide_eq_false h0]),bO (by rw[tk,decide_eq_false h1]),bO (by rw[tk,decide_eq_false h2]),bO (by rw[tk,decide_eq_false h3])];exact aX (aS (a9 (nJ (pj (enc:= .int) (l:=ri) (out:=λr=> .int (r*25+1)) (by rfl) (by omega) (rest:=[]) rfl λr _=>aj (aj (a:= .int r) (b:= .int 25) rfl rfl (sf (by decide))) rfl eF)) rfl) (by rw[M1];rfl)) rfl),TU]
 obtain⟨Tt,VB,e,h1,h2⟩:=go
 exact⟨Tt,VB,bx rfl e,h1,h2⟩
end
section
variable {n:Nat} {m:Mo} {hs:List D}
theorem EI (g:m.Rg (n:Int)):Good n m.ss:=⟨λr hr=>(g.row r hr).1,λr hr=>(g.row r hr).2.1,λr hr=>(g.row r hr).2.2⟩
theorem zK {t:af->R Bool} {f:af->R D} {i:Nat} {ρ:af} {v:Int} (ht:∃b,t ρ= .ok b) (hf:f ρ= .ok (.int v)):cr t (aU f (gN i)) aF ρ= .ok (.nx (ρ.set i (some (.val (.int v)))))\/cr t (aU f (gN i)) aF ρ= .ok (.nx ρ):=by
 obtain⟨b,hb⟩:=ht
 cases b with
 |true=>exact .inl (by rw[dB hb];exact aX hf rfl)
 |false=>exact .inr (by rw[bO hb];rfl)
theorem nq (g:m.Ok) (q:m.Rg (n:Int)) (h7:n<=7) (c:Int) (mx:Bool):∃ri rd,cG [bF (n:Int) m, .int c, .bl mx]= .ok (dz ri rd)/\ri.length<=7/\rd.length<=12:=by
 have hm:=g.len
 obtain⟨fg,e1,l1,_⟩:=gI (c / 10) mx (2*m.ss.length+n) 10010 (by decide) (by omega)
 let Ve:=c%5
 have hb:∃b0 b1:Int,0<=b0/\0<=b1/\aQ (.lst [.lst [.int 5000, .int 1000], .lst [.int 1, .int 1]]) (.int (if decide (Ve>2)=true then 1 else 0))=some (.lst [.int b0, .int b1]):=by
  by_cases z:Ve>2
  ·exact⟨1,1,by decide,by decide,by rw[decide_eq_true z];exact IJ⟩
  ·exact⟨5000,1000,by decide,by decide,by rw[decide_eq_false z];exact II⟩
 obtain⟨b0,b1,a38,a39,a3a⟩:=hb
 obtain⟨ps,WC,e2,l2,l3⟩:=yq (figs:=fg) (mm:=m.mm) (b0:=b0) (b1:=b1) (by omega) (EI q) h7 a38 a39 (by omega)
 have a3F:ps.length=m.ss.length:=by have:=congrArg Ox l2;simpa using this
 let M:=bF (n:Int) m
 let F:=D.lst (fg.map .int)
 let W:=D.lst [.tup (ps.map lb), .tup (WC.map .int)]
 let P (s7 y8 y9 Ug UG XH:Option Slot):af:=[some (.val M),some (.val (.int c)),some (.val (.bl mx)),some (.val (.int Ve)),some (.val (.int (m.ss.length:Int))),some (.val F),some (.val W),s7,y8,y9,Ug,UG,XH]
 let O (rd:List Rd):Option Slot:=some (.own (.lst (rd.map jr)))
 have body:∀k,k<m.ss.length->∀rd y9 Ug UG,rd.length<=k->∃VB a3b a0F a0G,eg (P (O rd) (some (.val (.int (k:Int)))) y9 Ug UG none)= .ok (.nx (P (O VB) (some (.val (.int (k:Int)))) a3b a0F a0G none))/\VB.length<=k+1:=λk hk rd y9 Ug UG hr=>by
  let K:Option Slot:=some (.val (.int (k:Int)))
  have a0E:k<ps.length:=by omega
  have a3c:m.ss.length+k<fg.length:=by omega
  let N:=ps[k].1
  let a0:=ps[k].2
  let ot:=fg[m.ss.length+k]
  have s1:aU (f2 aQ (f2 aQ (aa 6) (fC (.int 0))) (aa 8)) (tW 2 (eQ (gN 9) (eQ (gN 10) (rY)))) (P (O rd) K y9 Ug UG none)= .ok (.nx (P (O rd) K (some (.val (.int N))) (some (.val (.int a0))) UG none)):=
   aX (d:=lb ps[k]) (aj (b:= .int (k:Int)) (aj (a:=W) rfl rfl II) rfl (e_ k (by rw[L8,Ld a0E];rfl))) rfl
  have s2:aU (f2 aQ (aa 5) (f2 bC (aa 4) (aa 8))) (gN 11) (P (O rd) K (some (.val (.int N))) (some (.val (.int a0))) UG none)= .ok (.nx (P (O rd) K (some (.val (.int N))) (some (.val (.int a0))) (some (.val (.int ot))) none)):=
   aX (d:= .int ot) (aj (a:=F) (b:= .int ((m.ss.length+k:Nat):Int)) rfl (aj (a:= .int (m.ss.length:Int)) (b:= .int (k:Int)) rfl rfl (by rw[eF];congr 2)) (sN (m.ss.length+k) (by rw[L8,Ld a3c];rfl))) rfl
  have md:∀{j:Int} {am:Int},∃b,fT (f2 dm (aa 3) (fC (.int j))) (P (O rd) K (some (.val (.int N))) (some (.val (.int am))) (some (.val (.int ot))) none)= .ok b:=λ{j am}=>⟨_,bv (aj (a:= .int Ve) (b:= .int j) rfl rfl i9)⟩
  have mo:∀{j:Int} {am:Int},0<j->∃b,fT (f2 dm (f2 bN (aa 11) (fC (.int j))) (fC (.int 0))) (P (O rd) K (some (.val (.int N))) (some (.val (.int am))) (some (.val (.int ot))) none)= .ok b:=λ{j am} hj=>⟨_,bv (aj (aj (a:= .int ot) (b:= .int j) rfl rfl (bc hj)) rfl i9)⟩
  have v1:∀{am:Int},f2 iL (f2 bN (f2 dY (aa 11) (fC (.int 3))) (fC (.int 2001))) (fC (.int 1000)) (P (O rd) K (some (.val (.int N))) (some (.val (.int am))) (some (.val (.int ot))) none)= .ok (.int (ot / 3%2001 - 1000)):=λ{am}=>aj (aj (aj (a:= .int ot) (b:= .int 3) rfl rfl (db (by decide))) rfl (bc (by decide))) rfl lJ
  have v2:∀{am:Int},f2 iL (f2 bN (f2 dY (aa 11) (fC (.int 2))) (fC (.int 3))) (fC (.int 1)) (P (O rd) K (some (.val (.int N))) (some (.val (.int am))) (some (.val (.int ot))) none)= .ok (.int (ot / 2%3 - 1)):=λ{am}=>aj (aj (aj (a:= .int ot) (b:= .int 2) rfl rfl (db (by decide))) rfl (bc (by decide))) rfl lJ
  obtain⟨a1,h1⟩:∃a1:Int,cr (o6 (fT (f2 dm (aa 3) (fC (.int 2)))) (gA (fT (f2 dm (aa 3) (fC (.int 1)))) (fT (f2 dm (f2 bN (aa 11) (fC (.int 3))) (fC (.int 0)))))) (aU (f2 iL (f2 bN (f2 dY (aa 11) (fC (.int 3))) (fC (.int 2001))) (fC (.int 1000))) (gN 10)) (aF) (P (O rd) K (some (.val (.int N))) (some (.val (.int a0))) (some (.val (.int ot))) none)= .ok (.nx (P (O rd) K (some (.val (.int N))) (some (.val (.int a1))) (some (.val (.int ot))) none)):=by
   rcases zK (i:=10) (Dj (md (j:=2)) (zJ (md (j:=1)) (mo (j:=3) (by decide)))) v1 with h|h
   ·exact⟨_,h⟩
   ·exact⟨a0,h⟩
  obtain⟨a2,h2⟩:∃a2:Int,cr (gA (fT (f2 dm (aa 3) (fC (.int 4)))) (fT (f2 dm (f2 bN (aa 11) (fC (.int 2))) (fC (.int 0))))) (aU (f2 iL (f2 bN (f2 dY (aa 11) (fC (.int 2))) (fC (.int 3))) (fC (.int 1))) (gN 10)) (aF) (P (O rd) K (some (.val (.int N))) (some (.val (.int a1))) (some (.val (.int ot))) none)= .ok (.nx (P (O rd) K (some (.val (.int N))) (some (.val (.int a2))) (some (.val (.int ot))) none)):=by
   rcases zK (i:=10) (zJ (md (j:=4) (am:=a1)) (mo (j:=2) (am:=a1) (by decide))) (v2 (am:=a1))with h|h
   ·exact⟨_,h⟩
   ·exact⟨a1,h⟩
  let ρ2:=P (O rd) K (some (.val (.int N))) (some (.val (.int a2))) (some (.val (.int ot))) none
  have t3:fT (f2 (gT false) (aa 9) (f2 aQ (aa 0) (fC (.int 3)))) ρ2= .ok (decide (N∈m.mm)):=bv (aj (a:= .int N) rfl (aj (a:=M) rfl rfl GX) u0)
  have Ym:∀{r:R br},cr (fT (f2 (gT false) (aa 9) (f2 aQ (aa 0) (fC (.int 3))))) (oE 7 (bU (a8 (au 9) (a8 (au 10) (ai))))) (aF) ρ2=r->eg (P (O rd) K y9 Ug UG none)=r:=λ{r} h=>by
   unfold eg
   rw[av s1,av s2,av h1,av h2];exact h
  by_cases z:N∈m.mm
  ·refine⟨rd++[(N,a2)],some (.val (.int N)),some (.val (.int a2)),some (.val (.int ot)),Ym ?_,by simp;omega⟩
   rw[dB (by rw[t3,decide_eq_true z])]
   show (bU (a8 (au 9) (a8 (au 10) (ai))) ρ2>>=λd=>if (rd.map jr).length<lim then R.ok (br.nx (ρ2.set 7 (some (.own (.lst (rd.map jr++[d]))))))else .bad)=_
   rw[bS (ds:=[.int N, .int a2]) rfl (show 2<=lim by decide),ar,if_pos (by rw[KA];unfold lim;omega),show rd.map jr++[D.tup [.int N, .int a2]]=(rd++[(N,a2)]).map jr by simp[jr]]
   rfl
  ·exact⟨rd,some (.val (.int N)),some (.val (.int a2)),some (.val (.int ot)),Ym (by rw[bO (by rw[t3,decide_eq_false z])];rfl),by omega⟩
 obtain⟨ρ',e3,rd,y8,y9,Ug,UG,rfl,a1s⟩:=p8 (g:=gN 8) (gb:=eg) (n:=m.ss.length) (fs:=a8 (au 4) (ai)) (ρ:=P (O []) none none none none none) (P:=λk ρ=>∃rd y8 y9 Ug UG,ρ=P (O rd) y8 y9 Ug UG none/\rd.length<=k) (a9 rfl rfl) (by omega) ⟨[],none,none,none,none,rfl,L7 _⟩ λk hk ρ hρ=>by
  obtain⟨rd,y8,y9,Ug,UG,rfl,hr⟩:=hρ
  obtain⟨VB,z9,Zl,Zm,e,Xv⟩:=body k hk rd y9 Ug UG hr
  exact⟨_,_,rfl, .inl e,VB,_,z9,Zl,Zm,rfl,Xv⟩
 obtain⟨ri,a3G,h4⟩:∃ri:List Int,ri.length=n/\cr (fT (f2 dm (aa 3) (fC (.int 2)))) (aU (cg bV (a8 (fL (bM ["_law_model","_law_cell_here","_law_mixed","_law_mode","_law_many","_law_figures_here","_law_flows_here","_law_readings","_law_k","_law_number","_law_amount","_law_other","_law_rises"] [(".0", .local),("_law_k", .local),("_law_figures_here", .free),("_law_many", .free)] (dI (a8 (f2 aQ (aa 0) (fC (.int 0))) (ai))) (gN 1) (gJ) (f2 iL (f2 bN (f2 aQ (aa 2) (f2 bC (f2 nG (fC (.int 2)) (aa 3)) (aa 1))) (fC (.int 2001))) (fC (.int 1000))))) (ai))) (gN 12)) (aF) (P (O rd) y8 y9 Ug UG (some (.val (.tup (WC.map .int)))))= .ok (.nx (P (O rd) y8 y9 Ug UG (some (.val (.tup (ri.map .int)))))):=by
  have tm:fT (f2 dm (aa 3) (fC (.int 2))) (P (O rd) y8 y9 Ug UG (some (.val (.tup (WC.map .int)))))= .ok (decide (Ve=2)):=bv (aj (a:= .int Ve) (b:= .int 2) rfl rfl i9)
  by_cases z:Ve=2
  ·refine⟨(LA n).map λk=>fg.getD (2*m.ss.length+k) 0%2001 - 1000,by simp,?_⟩
   rw[dB (by rw[tm,decide_eq_true z])]
   refine aX (aS (a9 (nJ (pj (enc:=λk:Nat=>D.int (k:Int)) (l:=LA n) (out:=λk=> .int (fg.getD (2*m.ss.length+k) 0%2001 - 1000)) (mC (a9 (aj (a:=M) rfl rfl Ey) rfl) (by unfold lim;omega)) (by simp;omega) (rest:=[some (.val F),some (.val (.int (m.ss.length:Int)))]) rfl λk hk=> ?_)) rfl) (by rw[M1];rfl)) rfl
   have Xj:k<n:=Md.mp hk
   have UZ:2*m.ss.length+k<fg.length:=by omega
   exact aj (aj (aj (a:=F) (b:= .int ((2*m.ss.length+k:Nat):Int)) (d:= .int (fg.getD (2*m.ss.length+k) 0)) rfl (aj (a:= .int (2*(m.ss.length:Int))) (b:= .int (k:Int)) (aj (a:= .int 2) (b:= .int (m.ss.length:Int)) rfl rfl (sg (by decide))) rfl (by rw[eF];congr 2)) (sN (2*m.ss.length+k) (by rw[L8,Ld UZ];simp[UZ]))) rfl (bc (by decide))) rfl lJ
  ·exact⟨WC,l3,by rw[bO (by rw[tm,decide_eq_false z])];rfl⟩
 obtain⟨VB,s7,a3d,a3e,h5⟩:∃(VB:List Rd) (s7:Option Slot),VB.length=rd.length/\(aa 7:af->R D) (P s7 y8 y9 Ug UG (some (.val (.tup (ri.map .int)))))= .ok (.lst (VB.map jr))/\cr (fT (f2 dm (f2 bN (f2 dY (aa 1) (fC (.int 5))) (fC (.int 2))) (fC (.int 1)))) (aU (Cd (aa 7)) (gN 7)) (aF) (P (O rd) y8 y9 Ug UG (some (.val (.tup (ri.map .int)))))= .ok (.nx (P s7 y8 y9 Ug UG (some (.val (.tup (ri.map .int)))))):=by
  have tt:fT (f2 dm (f2 bN (f2 dY (aa 1) (fC (.int 5))) (fC (.int 2))) (fC (.int 1))) (P (O rd) y8 y9 Ug UG (some (.val (.tup (ri.map .int)))))= .ok (decide (c / 5%2=1)):=bv (aj (aj (aj (a:= .int c) (b:= .int 5) rfl rfl (db (by decide))) rfl (bc (by decide))) rfl i9)
  by_cases z:c / 5%2=1
  ·exact⟨rd.reverse,some (.val (.lst (rd.reverse.map jr))),by simp,rfl,by rw[dB (by rw[tt,decide_eq_true z])];exact aX (d:= .lst (rd.reverse.map jr)) (by unfold Cd;rw[show (aa 7:af->R D) (P (O rd) y8 y9 Ug UG (some (.val (.tup (ri.map .int)))))= .ok (.lst (rd.map jr))from rfl,ar,List.map_reverse]) rfl⟩
  ·exact⟨rd,O rd,rfl,rfl,by rw[bO (by rw[tt,decide_eq_false z])];rfl⟩
 refine⟨ri,VB,bx rfl ?_,by omega,by omega⟩
 show jh [some (.val M),some (.val (.int c)),some (.val (.bl mx)),none,none,none,none,none,none,none,none,none,none]=_
 unfold jh
 rw[av (ρ':=[some (.val M),some (.val (.int c)),some (.val (.bl mx)),some (.val (.int Ve)),none,none,none,none,none,none,none,none,none]) (aX (aj (a:= .int c) (b:= .int 5) rfl rfl (bc (by decide))) rfl)]
 rw[av (ρ':=[some (.val M),some (.val (.int c)),some (.val (.bl mx)),some (.val (.int Ve)),some (.val (.int (m.ss.length:Int))),none,none,none,none,none,none,none,none]) (aX (aS (a9 (aj (a:=M) rfl rfl Hk) rfl) (by rw[gW,KA])) rfl)]
 rw[av (ρ':=[some (.val M),some (.val (.int c)),some (.val (.bl mx)),some (.val (.int Ve)),some (.val (.int (m.ss.length:Int))),some (.val F),none,none,none,none,none,none,none]) (aX (aZ (n:=4) (ds:=[.int (c / 10), .bl mx, .int ((2*m.ss.length+n:Nat):Int), .int 10010]) (a9 (aj (a:= .int c) (b:= .int 10) rfl rfl (db (by decide))) (a9 rfl (a9 (aj (a:= .int (2*(m.ss.length:Int))) (b:= .int (n:Int)) (aj (a:= .int 2) (b:= .int (m.ss.length:Int)) rfl rfl (sg (by decide))) (aj (a:=M) rfl rfl Ey) (by rw[eF];congr 2)) rfl))) rfl e1) rfl)]
 rw[av (ρ':=P none none none none none none) (aX (aZ (n:=5) (a9 rfl (a9 (aj (a:=M) rfl rfl Ey) (a9 (aj (a:=M) rfl rfl Hk) (a9 (aj (a:=M) rfl rfl GX) (a9 (aj (a:= .lst [.lst [.int 5000, .int 1000], .lst [.int 1, .int 1]]) rfl (aS (a9 (aj (a:= .int Ve) (b:= .int 2) rfl rfl l7) rfl) ym) a3a) rfl))))) rfl e2) rfl)]
 rw[av (ρ':=P (O []) none none none none none) rfl,av e3,av (ρ':=P (O rd) y8 y9 Ug UG (some (.val (.tup (WC.map .int))))) (aX (aj (a:=W) rfl rfl IJ) rfl),av h4,av h5]
 exact cJ (bS (ds:=[.str "day passes", .tup (ri.map .int), .tup (VB.map jr)]) (a9 rfl (a9 rfl (a9 (aS (a9 a3e rfl) rfl) rfl))) (show 3<=lim by decide))
end
section
variable {n:Nat} {m:Mo} {hs:List D}
theorem B3 (g:m.Ok) (q:m.Rg (n:Int)) (h7:n<=7) (c:Int) (mx:Bool):∃d:cp,jj [bF (n:Int) m, .int c, .bl mx]= .ok d.dt/\d.Fit:=by
 obtain⟨fg,e1,l1,p1⟩:=gI (c / 64) mx 3 630 (by decide) (by decide)
 obtain⟨x0,x1,x2,rfl⟩:∃x0 x1 x2,fg=[x0,x1,x2]:=by
  match fg,l1 with
  |[x0,x1,x2],_=>exact⟨x0,x1,x2,rfl⟩
 let kd:=c%16
 let ct:=c / 16%4
 let M:=bF (n:Int) m
 let P (y z:Option Slot):af:=[some (.val M),some (.val (.int c)),some (.val (.bl mx)),some (.val (.int kd)),some (.val (.int ct)),some (.val (.lst [.int x0, .int x1, .int x2])),y,z]
 have f0:∀{y z:Option Slot},f2 aQ (aa 5) (fC (.int 0)) (P y z)= .ok (.int x0):=λ{y z}=>aj (a:= .lst [.int x0, .int x1, .int x2]) rfl rfl (sN 0 rfl)
 have f1:∀{y z:Option Slot},f2 aQ (aa 5) (fC (.int 1)) (P y z)= .ok (.int x1):=λ{y z}=>aj (a:= .lst [.int x0, .int x1, .int x2]) rfl rfl (sN 1 rfl)
 have a3f:∀{y z:Option Slot},f2 aQ (aa 5) (fC (.int 2)) (P y z)= .ok (.int x2):=λ{y z}=>aj (a:= .lst [.int x0, .int x1, .int x2]) rfl rfl (sN 2 rfl)
 have fn:∀{y z:Option Slot},f2 aQ (aa 0) (fC (.int 0)) (P y z)= .ok (.int (n:Int)):=λ{y z}=>aj (a:=M) rfl rfl Ey
 have tl:∀{y z:Option Slot} {k:Int},fT (f2 sX (aa 3) (fC (.int k))) (P y z)= .ok (decide (kd<k)):=λ{y z k}=>bv (aj (a:= .int kd) (b:= .int k) rfl rfl lK)
 have te:∀{y z:Option Slot} {k:Int},fT (f2 dm (aa 3) (fC (.int k))) (P y z)= .ok (decide (kd=k)):=λ{y z k}=>bv (aj (a:= .int kd) (b:= .int k) rfl rfl i9)
 have Ze:0<=ct/\ct<4:=⟨N6 _ (by decide),N7 _ (by decide)⟩
 have nm:∀{k:Int} {fk:af->R (Option Int)},0<=k->fk (P none none)= .ok (some k)->∃xs:List Int,aI dF 2 (a8 (au 0) (a8 (yX (aa 5) (lH) fk) (ai))) (P none none)= .ok (.tup (xs.map .int))/\xs.length=min k.toNat 3:=λ{k fk} hk hf=>by
  obtain⟨xs,e,hl⟩:=yr (n:=(n:Int)) g ([x0,x1,x2].take k.toNat) (by simp;omega)
  refine⟨xs,aZ (n:=2) (a9 rfl (a9 (d:= .lst (([x0,x1,x2].take k.toNat).map .int)) ?_ rfl)) rfl e,by rw[hl];simp⟩
  unfold yX
  rw[show (aa 5:af->R D) (P none none)= .ok (.lst ([x0,x1,x2].map .int))from rfl,ar,show lH (P none none)= .ok none from rfl,ar,hf,ar,Dk hk,gw,Qy]
 have go:∃d:cp,o3 [some (.val M),some (.val (.int c)),some (.val (.bl mx)),none,none,none,none,none]= .ok (.ret d.dt)/\d.Fit:=by
  unfold o3
  rw[av (ρ':=[some (.val M),some (.val (.int c)),some (.val (.bl mx)),some (.val (.int kd)),none,none,none,none]) (aX (aj (a:= .int c) (b:= .int 16) rfl rfl (bc (by decide))) rfl),av (ρ':=[some (.val M),some (.val (.int c)),some (.val (.bl mx)),some (.val (.int kd)),some (.val (.int ct)),none,none,none]) (aX (aj (aj (a:= .int c) (b:= .int 16) rfl rfl (db (by decide))) rfl (bc (by decide))) rfl),av (ρ':=P none none) (aX (aZ (n:=4) (ds:=[.int (c / 64), .bl mx, .int ((3:Nat):Int), .int 630]) (a9 (aj (a:= .int c) (b:= .int 64) rfl rfl (db (by decide))) rfl) rfl e1) rfl)]
  by_cases k5:kd<5
  ·
   have cm:∀{a b:Int} {fa fb:af->R D} {y:Option Slot},fa (P y none)= .ok (.int a)->fb (P y none)= .ok (.int b)->bt (bU (a8 (fC (.str "stream comes")) (a8 fa (a8 fb (ai))))) (P y none)= .ok (.ret (cp.comes a b).dt):=λ{a b fa fb y} h1 h2=>cJ (bS (ds:=[.str "stream comes", .int a, .int b]) (a9 rfl (a9 h1 (a9 h2 rfl))) (show 3<=lim by decide))
   have n1:∀{y:Option Slot},f2 bC (f2 aQ (aa 0) (fC (.int 0))) (fC (.int 1)) (P y none)= .ok (.int ((n:Int)+1)):=λ{y}=>aj fn rfl eF
   let S:Option Slot:=some (.val (.int (x0%((n:Int)+1))))
   have a1f:fT (f2 dm (f2 bN (f2 aQ (aa 5) (fC (.int 2))) (fC (.int 13))) (fC (.int 12))) (P S none)= .ok (decide (x2%13=12)):=bv (aj (aj a3f rfl (bc (by decide))) rfl i9)
   have t0:fT (f2 dm (f2 aQ (aa 0) (fC (.int 0))) (fC (.int 0))) (P S none)= .ok (decide ((n:Int)=0)):=bv (aj fn rfl i9)
   have Z7:∃d:cp,aw (aU (f2 bN (f2 aQ (aa 5) (fC (.int 0))) (f2 bC (f2 aQ (aa 0) (fC (.int 0))) (fC (.int 1)))) (gN 6)) (aw (cr (fT (f2 dm (f2 bN (f2 aQ (aa 5) (fC (.int 2))) (fC (.int 13))) (fC (.int 12)))) (bt (bU (a8 (fC (.str "stream comes")) (a8 (f2 iL (f2 bN (f2 aQ (aa 5) (fC (.int 0))) (fC (.int 11))) (fC (.int 1))) (a8 (f2 iL (f2 bN (f2 aQ (aa 5) (fC (.int 1))) (fC (.int 11))) (fC (.int 1))) (ai)))))) (aF)) (aw (cr (fT (f2 dm (f2 aQ (aa 0) (fC (.int 0))) (fC (.int 0)))) (bt (bU (a8 (fC (.str "stream comes")) (a8 (fC (.int 0)) (a8 (f2 bN (f2 aQ (aa 5) (fC (.int 1))) (fC (.int 2))) (ai)))))) (aF)) (bt (bU (a8 (fC (.str "stream comes")) (a8 (au 6) (a8 (f2 bN (f2 bC (f2 bC (aa 6) (fC (.int 1))) (f2 bN (f2 aQ (aa 5) (fC (.int 1))) (f2 aQ (aa 0) (fC (.int 0))))) (f2 bC (f2 aQ (aa 0) (fC (.int 0))) (fC (.int 1)))) (ai)))))))) (P none none)= .ok (.ret d.dt)/\d.Fit:=by
    rw[av (ρ':=P S none) (aX (aj f0 n1 (bc (by omega))) rfl)]
    by_cases z:x2%13=12
    ·exact⟨.comes (x0%11 - 1) (x1%11 - 1),dJ (by rw[dB (by rw[a1f,decide_eq_true z])];exact cm (aj (aj f0 rfl (bc (by decide))) rfl lJ) (aj (aj f1 rfl (bc (by decide))) rfl lJ)),trivial⟩
    rw[av (by rw[bO (by rw[a1f,decide_eq_false z])];rfl)]
    by_cases z0:(n:Int)=0
    ·exact⟨.comes 0 (x1%2),dJ (by rw[dB (by rw[t0,decide_eq_true z0])];exact cm rfl (aj f1 rfl (bc (by decide)))),trivial⟩
    rw[av (by rw[bO (by rw[t0,decide_eq_false z0])];rfl)]
    exact⟨.comes (x0%((n:Int)+1)) ((x0%((n:Int)+1)+1+x1%(n:Int))%((n:Int)+1)),cm rfl (aj (aj (aj (a:= .int (x0%((n:Int)+1))) (b:= .int 1) rfl rfl eF) (aj f1 fn (bc (by omega))) eF) n1 (bc (by omega))),trivial⟩
   obtain⟨d,e,hf⟩:=Z7
   exact⟨d,dJ (by rw[dB (by rw[tl,decide_eq_true k5])];exact e),hf⟩
  rw[av (by rw[bO (by rw[tl,decide_eq_false k5])];rfl)]
  by_cases a1g:kd=5
  ·obtain⟨xs,e,hl⟩:=nm (k:=1) (fk:=lI (fC (.int 1))) (by decide) rfl
   match xs,hl with
   |[x],_=>exact⟨.goes x,dJ (by rw[dB (by rw[te,decide_eq_true a1g])];exact cJ (bS (ds:=[.str "stream goes", .int x]) (a9 rfl (a9 (aj e rfl Dp) rfl)) (show 2<=lim by decide))),trivial⟩
  rw[av (by rw[bO (by rw[te,decide_eq_false a1g])];rfl)]
  obtain⟨xs,e,hl⟩:=nm (k:=ct) (fk:=lI (au 4)) Ze.1 rfl
  by_cases k9:kd<9
  ·exact⟨.mcome xs,dJ (by rw[dB (by rw[tl,decide_eq_true k9])];exact cJ (bS (ds:=[.str "meters come", .tup (xs.map .int)]) (a9 rfl (a9 e rfl)) (show 2<=lim by decide))),by show xs.length<=40;omega⟩
  rw[av (by rw[bO (by rw[tl,decide_eq_false k9])];rfl)]
  by_cases a1h:kd=9
  ·exact⟨.mgo xs,dJ (by rw[dB (by rw[te,decide_eq_true a1h])];exact cJ (bS (ds:=[.str "meters go", .tup (xs.map .int)]) (a9 rfl (a9 e rfl)) (show 2<=lim by decide))),by show xs.length<=40;omega⟩
  rw[av (by rw[bO (by rw[te,decide_eq_false a1h])];rfl)]
  by_cases a0H:kd<14
  ·obtain⟨ri,rd,e2,h1,h2⟩:=nq g q h7 (c / 64) mx
   have a1:aU (aI cG 3 (a8 (au 0) (a8 (f2 dY (aa 1) (fC (.int 64))) (a8 (au 2) (ai))))) (gN 7) (P none none)= .ok (.nx (P none (some (.val (dz ri rd))))):=aX (aZ (n:=3) (a9 rfl (a9 (aj (a:= .int c) (b:= .int 64) rfl rfl (db (by decide))) rfl)) rfl e2) rfl
   have t3:fT (f2 dm (aa 4) (fC (.int 3))) (P none (some (.val (dz ri rd))))= .ok (decide (ct=3)):=bv (aj (a:= .int ct) (b:= .int 3) rfl rfl i9)
   by_cases z:ct=3
   ·obtain⟨Tt,VB,e3,h3,h4⟩:=B2 ri rd x0 (by omega) (by omega)
    exact⟨.pass Tt VB,dJ (by rw[dB (by rw[tl,decide_eq_true a0H]),av a1];exact dJ (by rw[dB (by rw[t3,decide_eq_true z])];exact cJ (aZ (n:=2) (a9 rfl (a9 f0 rfl)) rfl e3))),⟨by omega,by omega⟩⟩
   ·exact⟨.pass ri rd,dJ (by rw[dB (by rw[tl,decide_eq_true a0H]),av a1,av (by rw[bO (by rw[t3,decide_eq_false z])];rfl)];rfl),⟨by omega,by omega⟩⟩
  rw[av (by rw[bO (by rw[tl,decide_eq_false a0H])];rfl)]
  exact⟨.back,cJ (bS (ds:=[.str "take back"]) rfl (show 1<=lim by decide)),trivial⟩
 obtain⟨d,e,hf⟩:=go
 exact⟨d,bx rfl e,hf⟩
theorem qh (ns:List Int) (k:Nat) {x:Int} (h:x=(k:Int)):cc [.scr ns, .int x]= .ok (.int (cl ns k)):=by rw[h];exact qc ns k
def Hb (ns:List Int):Bool:=decide (cel ns 0%2=1)
theorem Dm (ns:List Int) {ρ:af} (h:(au 0:af->R D) ρ= .ok (.scr ns)):f2 dm (f2 bN (aI d0 2 (a8 (au 0) (a8 (fC (.int 0)) (ai)))) (fC (.int 2))) (fC (.int 1)) ρ= .ok (.bl (Hb ns)):=aj (aj (aZ (n:=2) (a9 h (a9 rfl rfl)) rfl (K6 ns)) rfl (bc (by decide))) rfl i9
theorem qZ (ns:List Int) (h7:n<=7):∃ds:List cp,dw [.scr ns, .int (n:Int)]= .ok (.lst (ds.map cp.dt))/\(∀d∈ds,d.Fit)/\ds.length<=20:=by
 obtain⟨k,hk,a3g,Xj⟩:∃k:Nat,(if (1:Int)<(n:Int)then (1:Int)else (n:Int))*(cl ns 2%13)=(k:Int)/\k<=12/\(0<k->0<n):=by
  have a:=N6 (cl ns 2) (show (13:Int)≠0 by decide)
  have b:=N7 (cl ns 2) (show (0:Int)<13 by decide)
  by_cases z:n=0
  ·exact⟨0,by rw[z];simp,by omega,λh=>absurd h (LP _)⟩
  ·have:(if (1:Int)<(n:Int)then (1:Int)else (n:Int))=1:=by split<;>omega
   exact⟨(cl ns 2%13).toNat,by rw[this];omega,by omega,λ_=>by omega⟩
 let mx:=Hb ns
 obtain⟨so,e4,l4,_⟩:=gI (cl ns 3) mx k 8 (by decide) (by omega)
 obtain⟨ta,e5,l5,_⟩:=gI (cl ns 4) mx k 7 (by decide) (by omega)
 obtain⟨fi,e6,l6,_⟩:=gI (cl ns 5 / 5) mx k 4 (by decide) (by omega)
 let sh:=cl ns 5%5
 let P (y8 y9 Ug UG:Option Slot):af:=[some (.val (.scr ns)),some (.val (.int (n:Int))),some (.val (.bl mx)),some (.val (.int (k:Int))),some (.val (.lst (so.map .int))),some (.val (.lst (ta.map .int))),some (.val (.lst (fi.map .int))),some (.val (.int sh)),y8,y9,Ug,UG]
 let O (ds:List cp):Option Slot:=some (.own (.lst (ds.map cp.dt)))
 obtain⟨ρ',e8,ds,y9,Ug,rfl,hl,hf⟩:=p8 (g:=gN 9) (gb:=gG) (n:=k) (fs:=a8 (au 3) (ai)) (ρ:=P (O []) none none none) (P:=λj ρ=>∃ds y9 Ug,ρ=P (O ds) y9 Ug none/\ds.length=j/\∀d∈ds,d.Fit) (a9 rfl rfl) (by omega) ⟨[],none,none,rfl,rfl,λd hd=>by cases hd⟩ λj hj ρ hρ=>by
  obtain⟨ds,y9,Ug,rfl,hl,hf⟩:=hρ
  have n0:=Xj (by omega)
  have a3h:j<so.length:=by omega
  have a3i:j<ta.length:=by omega
  let J:Option Slot:=some (.val (.int (j:Int)))
  let s:=so[j]%((n:Int)+1)
  have s1:aU (f2 bN (f2 aQ (aa 4) (aa 9)) (f2 bC (aa 1) (fC (.int 1)))) (gN 10) (P (O ds) J Ug none)= .ok (.nx (P (O ds) J (some (.val (.int s))) none)):=aX (aj (aj (a:= .lst (so.map .int)) (b:= .int (j:Int)) rfl rfl (sN j (by rw[L8,Ld a3h];rfl))) (aj (a:= .int (n:Int)) (b:= .int 1) rfl rfl eF) (bc (by omega))) rfl
  let t:=(s+1+ta[j]%(n:Int))%((n:Int)+1)
  have s2:bU (a8 (fC (.str "stream comes")) (a8 (au 10) (a8 (f2 bN (f2 bC (f2 bC (aa 10) (fC (.int 1))) (f2 bN (f2 aQ (aa 5) (aa 9)) (aa 1))) (f2 bC (aa 1) (fC (.int 1)))) (ai)))) (P (O ds) J (some (.val (.int s))) none)= .ok (cp.comes s t).dt:=
   bS (ds:=[.str "stream comes", .int s, .int t]) (a9 rfl (a9 rfl (a9 (aj (aj (aj (a:= .int s) (b:= .int 1) rfl rfl eF) (aj (aj (a:= .lst (ta.map .int)) (b:= .int (j:Int)) rfl rfl (sN j (by rw[L8,Ld a3i];rfl))) rfl (bc (by omega))) eF) (aj (a:= .int (n:Int)) (b:= .int 1) rfl rfl eF) (bc (by omega))) rfl))) (show 3<=lim by decide)
  refine⟨P (O ds) J Ug none,P (O (ds++[.comes s t])) J (some (.val (.int s))) none,rfl, .inl ?_,_,_,_,rfl,by simp[hl],λd hd=> ?_⟩
  ·unfold gG
   rw[av s1]
   show (bU (a8 (fC (.str "stream comes")) (a8 (au 10) (a8 (f2 bN (f2 bC (f2 bC (aa 10) (fC (.int 1))) (f2 bN (f2 aQ (aa 5) (aa 9)) (aa 1))) (f2 bC (aa 1) (fC (.int 1)))) (ai)))) (P (O ds) J (some (.val (.int s))) none)>>=λd=>if (ds.map cp.dt).length<lim then R.ok (br.nx ((P (O ds) J (some (.val (.int s))) none).set 8 (some (.own (.lst (ds.map cp.dt++[d]))))))else .bad)=_
   rw[s2,ar,if_pos (by rw[KA];unfold lim;omega),show ds.map cp.dt++[(cp.comes s t).dt]=(ds++[cp.comes s t]).map cp.dt by simp]
   rfl
  ·rcases LB.mp hd with hd|hd
   ·exact hf d hd
   ·rw[KU.mp hd];exact trivial
 let a3j:=(LA k).filter λj=>decide (fi.getD j 0<sh)
 let Xf:=a3j.map λj:Nat=>(j:Int)+1
 have a3k:bM ["_law_script","_law_n","_law_mixed","_law_many","_law_sources","_law_targets","_law_fitted","_law_share","_law_deeds","_law_k","_law_source","_law_named"] [(".0", .local),("_law_k", .local),("_law_fitted", .free),("_law_share", .free)] (dI (a8 (au 3) (ai))) (gN 1) (fT (f2 sX (f2 aQ (aa 2) (aa 1)) (aa 3))) (f2 bC (aa 1) (fC (.int 1))) (P (O ds) y9 Ug none)= .ok (Xf.map .int):=by
  rw[fO (mC (n:=k) (a9 rfl rfl) (by unfold lim;omega)) (by simp;unfold lim;omega) (τ:=[none,none,some (.val (.lst (fi.map .int))),some (.val (.int sh))]) rfl (km (enc:=λj:Nat=>D.int (j:Int)) (p:=λj=>decide (fi.getD j 0<sh)) (out:=λj=> .int ((j:Int)+1)) (LA k) none (λj hj=> ?_) (λj _ _=>aj (a:= .int (j:Int)) (b:= .int 1) rfl rfl eF)),M1]
  ·rfl
  ·have a1i:j<fi.length:=by have:=Md.mp hj;omega
   exact bv (aj (a:= .int (fi.getD j 0)) (b:= .int sh) (aj (a:= .lst (fi.map .int)) (b:= .int (j:Int)) rfl rfl (sN j (by rw[L8,Ld a1i];simp[a1i]))) rfl lK)
 refine⟨ds++[.mcome (Xf.take 10)],bx rfl ?_,λd hd=> ?_,by simp;omega⟩
 ·show hU [some (.val (.scr ns)),some (.val (.int (n:Int))),none,none,none,none,none,none,none,none,none,none]=_
  unfold hU
  rw[av (ρ':=[some (.val (.scr ns)),some (.val (.int (n:Int))),some (.val (.bl mx)),none,none,none,none,none,none,none,none,none]) (aX (Dm ns rfl) rfl)]
  rw[av (ρ':=[some (.val (.scr ns)),some (.val (.int (n:Int))),some (.val (.bl mx)),some (.val (.int (k:Int))),none,none,none,none,none,none,none,none]) (aX (aj (aS (a9 (d:= .int (n:Int)) rfl rfl) yo) (aj (aZ (n:=2) (a9 rfl (a9 rfl rfl)) rfl (qh ns 2 rfl)) rfl (bc (by decide))) ((sg (by split<;>omega)).trans (by rw[hk]))) rfl)]
  rw[av (ρ':=[some (.val (.scr ns)),some (.val (.int (n:Int))),some (.val (.bl mx)),some (.val (.int (k:Int))),some (.val (.lst (so.map .int))),none,none,none,none,none,none,none]) (aX (aZ (n:=4) (a9 (aZ (n:=2) (a9 rfl (a9 rfl rfl)) rfl (qh ns 3 rfl)) rfl) rfl e4) rfl)]
  rw[av (ρ':=[some (.val (.scr ns)),some (.val (.int (n:Int))),some (.val (.bl mx)),some (.val (.int (k:Int))),some (.val (.lst (so.map .int))),some (.val (.lst (ta.map .int))),none,none,none,none,none,none]) (aX (aZ (n:=4) (a9 (aZ (n:=2) (a9 rfl (a9 rfl rfl)) rfl (qh ns 4 rfl)) rfl) rfl e5) rfl)]
  rw[av (ρ':=[some (.val (.scr ns)),some (.val (.int (n:Int))),some (.val (.bl mx)),some (.val (.int (k:Int))),some (.val (.lst (so.map .int))),some (.val (.lst (ta.map .int))),some (.val (.lst (fi.map .int))),none,none,none,none,none]) (aX (aZ (n:=4) (a9 (aj (aZ (n:=2) (a9 rfl (a9 rfl rfl)) rfl (qh ns 5 rfl)) rfl (db (by decide))) rfl) rfl e6) rfl)]
  rw[av (ρ':=P none none none none) (aX (aj (aZ (n:=2) (a9 rfl (a9 rfl rfl)) rfl (qh ns 5 rfl)) rfl (bc (by decide))) rfl)]
  rw[av (ρ':=P (O []) none none none) rfl,av e8,av (ρ':=P (O ds) y9 Ug (some (.own (.lst (Xf.map .int))))) (own_of a3k)]
  refine cJ (aj (a:= .lst (ds.map cp.dt)) (b:= .lst [(cp.mcome (Xf.take 10)).dt]) rfl ?_ (by rw[Cg (by simp;unfold lim;omega)];simp))
  unfold eD
  rw[a9 (ds:=[]) (d:=(cp.mcome (Xf.take 10)).dt) (bS (ds:=[.str "meters come", .tup ((Xf.take 10).map .int)]) (a9 rfl (a9 (aS (a9 (d:= .lst ((Xf.take 10).map .int)) (by unfold yX;rw[show (aa 11:af->R D) (P (O ds) y9 Ug (some (.own (.lst (Xf.map .int)))))= .ok (.lst (Xf.map .int))from rfl,ar];show R.of (Fc (.lst (Xf.map .int)) none (some 10))=_;rw[Dk (by decide),gw,Qy];rfl) rfl) rfl) rfl)) (show 2<=lim by decide)) rfl,ar]
  exact if_pos (show 1<=lim by decide)
 ·rcases LB.mp hd with hd|hd
  ·exact hf d hd
  ·rw[KU.mp hd]
   show (Xf.take 10).length<=40
   rw[Nl];omega
end
theorem EJ {i j:Nat} {mf:List Slot->List D->R (D×List Slot)} {k:Nat} {fs:af->R (List D)} {ρ:af} {ds:List D} {d:D} {s p s' p':Slot} (h:fc ρ [i,j]=some [s,p]) (Wz:i≠j) (k1:s.kind=2) (k2:p.kind=1) (h2:fs ρ= .ok ds) (hl:ds.length=k) (e:mf [s,p] ds= .ok (d,[s',p'])) (k3:s'.kind=2) (k4:p'.kind=1):fj [i,j] mf k fs ρ= .ok (d,uV ρ [i,j] [s',p']):=by
 unfold fj
 rw[h]
 dsimp only
 rw[if_pos ⟨by simp only[L_,RZ,k1,k2];rfl,by simp[Wz]⟩,h2,ar,if_pos hl,e]
 dsimp only
 rw[if_pos (by simp only[KO,Ma,k1,k2,k3,k4])]
theorem vx {fx:af->R (D×af)} {ρ ρ':af} {b:Bool} (h:fx ρ= .ok (.bl b,ρ')):ui (AE fx) ρ= .ok (!b,ρ'):=by unfold ui AE;rw[h];rfl
theorem Dn {gx:af->R (Bool×af)} {g g':af->R br} {ρ ρ':af} (h:gx ρ= .ok (false,ρ')):AF gx g g' ρ=g' ρ':=by unfold AF;rw[h];rfl
def m0:Mo:=⟨0,[],[],[],[],[]⟩
theorem IQ:m0.Ok:=⟨.nil,λr h=>(by cases h),by decide, .refl _, .nil,λx h=>(by cases h),by decide,by decide⟩
theorem IS (n:Int):m0.Rg n:=⟨λr h=>(by cases h),λr h=>(by cases h)⟩
theorem tr0 (n:Int):Tr n [] m0 []:= .nil IQ (IS n) rfl
theorem yt (ns:List Int):gg [.scr ns]= .ok (.lst (d4 (cl ns 1%8) [] m0)):=by
 unfold gg L2.Pu.Eu
 rw[if_pos (show [D.scr ns].length=1 from rfl)]
 show m8 [some (.val (.scr ns)),none]=_
 unfold m8 CP
 rw[aX (ρ':=[some (.val (.scr ns)),some (.val (.int (cl ns 1%8)))]) (aj (aZ (n:=2) (a9 rfl (a9 rfl rfl)) rfl (qh ns 1 rfl)) rfl (bc (by decide))) rfl,ar]
 rfl
theorem B4 {n:Int} (h0:0<=n) (h7:n<=7):eu [.int n]= .ok (kX n (bG n m0),"history",[]):=by
 unfold eu lS
 rw[if_pos (show [D.int n].length=1 from rfl)]
 show (jJ [some .obj,some (.val (.int n)),none,none,none]>>=_)=_
 unfold jJ
 rw[av (ρ':=[some .obj,some (.val (.int n)),none,none,none]) (by
  rw[bO]
  ·rfl
  ·unfold o6
   rw[bv (aj (a:= .int n) (b:= .int 0) rfl rfl lK),ar,decide_eq_false (by omega),if_neg (by simp)]
   rw[bv (aj (a:= .int n) (b:= .int 7) rfl rfl l7),decide_eq_false (by omega)])]
 rfl
theorem sR (ns:List Int) {n:Nat} (h7:n<=7):∃tr m hs,Tr (n:Int) tr m hs/\eh [aD (n:Int) (bG (n:Int) m0) [],pO (n:Int) [] m0] [.scr ns]= .ok (.bl true,[aD (n:Int) (bG (n:Int) m) hs,pO (n:Int) tr m]):=by
 obtain⟨ds,e,hf,_⟩:=qZ ns h7
 let F (s p:Slot) (y:Option Slot):af:=[some s,some p,some (.val (.scr ns)),y]
 have VD:∀(ds:List cp),(∀d∈ds,d.Fit)->∀tr m hs y,Tr (n:Int) tr m hs->∃VE m' Sy y',Tr (n:Int) VE m' Sy/\eK (gN 3) hV (ds.map cp.dt) (F (aD (n:Int) (bG (n:Int) m) hs) (pO (n:Int) tr m) y)= .ok (.nx (F (aD (n:Int) (bG (n:Int) m') Sy) (pO (n:Int) VE m') y')):=by
  intro ds
  induction ds with
  |nil=>exact λ_ tr m hs y t=>⟨tr,m,hs,y,t,rfl⟩
  |cons d ds ih=>
   intro hf tr m hs y t
   obtain⟨Yq,m1,XG,t1,e1⟩:=qg t d (hf d K_)
   obtain⟨Yg,m2,VU,y2,t2,e2⟩:=ih (λx hx=>hf x (L0 _ hx)) Yq m1 XG (some (.val d.dt)) t1
   refine⟨Yg,m2,VU,y2,t2,?_⟩
   rw[KO,mB (ρ1:=F (aD (n:Int) (bG (n:Int) m) hs) (pO (n:Int) tr m) (some (.val d.dt))) rfl (show hV _= .ok (.nx (F (aD (n:Int) (bG (n:Int) m1) XG) (pO (n:Int) Yq m1) (some (.val d.dt))))from (Dn (vx (EJ (i:=0) (j:=1) (k:=1) rfl (by decide) rfl rfl (a9 rfl rfl) rfl e1 rfl rfl)))),e2]
 obtain⟨tr,m,hs,y,t,e2⟩:=VD ds hf [] m0 [] none (tr0 n)
 refine⟨tr,m,hs,t,gk ⟨rfl,rfl⟩ (ρ:=F (aD (n:Int) (bG (n:Int) m) hs) (pO (n:Int) tr m) y) ?_ rfl⟩
 show iz (F (aD (n:Int) (bG (n:Int) m0) []) (pO (n:Int) [] m0) none)=_
 unfold iz
 rw[av ((sj (by
  unfold cw
  rw[aZ (n:=2) (ds:=[.scr ns, .int (n:Int)]) (a9 rfl (a9 (aj (aj (a:= .lst (d4 (n:Int) [] m0)) rfl rfl (sN 0 rfl)) rfl Ey) rfl)) rfl e]
  rfl)).trans e2)]
 rfl
abbrev lR (ns:List Int) (s p:Slot) (b k d:Option Slot):af:=[some (.val (.scr ns)),some p,some s,b,k,d]
theorem turn {ns:List Int} {n:Nat} (h7:n<=7) {tr:List Mo} {m:Mo} {hs:List D} (t:Tr (n:Int) tr m hs) (k:Nat) (b:Bool):∃VE m' Sy,Tr (n:Int) VE m' Sy/\va (lR ns (aD (n:Int) (bG (n:Int) m) hs) (pO (n:Int) tr m) (some (.val (.bl b))) (some (.val (.int (k:Int)))) none)= .ok (.nx (lR ns (aD (n:Int) (bG (n:Int) m') Sy) (pO (n:Int) VE m') (some (.val (.bl b))) (some (.val (.int (k:Int)))) none)):=by
 obtain⟨d,e,hf⟩:=B3 t.ok t.rg h7 (cl ns k) b
 obtain⟨VE,m',Sy,t',e'⟩:=qg t d hf
 refine⟨VE,m',Sy,t',?_⟩
 unfold va
 rw[av (ρ':=lR ns (aD (n:Int) (bG (n:Int) m') Sy) (pO (n:Int) VE m') (some (.val (.bl b))) (some (.val (.int (k:Int)))) none) (Dn (vx (EJ (i:=2) (j:=1) (k:=1) rfl (by decide) rfl rfl (a9 (aZ (n:=3) (a9 (aj (a:= .lst (d4 (n:Int) tr m)) (b:= .int (-1)) rfl rfl iS) (a9 (aZ (n:=2) (a9 rfl (a9 rfl rfl)) rfl (qc ns k)) rfl)) rfl e) rfl) rfl e' rfl rfl)))]
 have hl:aI cT 2 (a8 (au 2) (a8 (f2 aQ (aa 1) (f1 js (fC (.int 1)))) (ai))) (lR ns (.val (.ins "Cellar" (gK (n:Int) (bG (n:Int) m') Sy))) (pO (n:Int) VE m') (some (.val (.bl b))) (some (.val (.int (k:Int)))) none)= .ok (.bl true):=aZ (n:=2) (a9 rfl (a9 (aj (a:= .lst (d4 (n:Int) VE m')) (b:= .int (-1)) rfl rfl iS) rfl)) rfl (sQ t')
 rw[bO (show uZ [2] _ _=_ from (by
  show iZ (eL (aI cT 2 (a8 (au 2) (a8 (f2 aQ (aa 1) (f1 js (fC (.int 1)))) (ai))))) (lR ns (.val (.ins "Cellar" (gK (n:Int) (bG (n:Int) m') Sy))) (pO (n:Int) VE m') (some (.val (.bl b))) (some (.val (.int (k:Int)))) none)=_
  unfold iZ
  rw[jO hl]
  rfl))]
 rfl
theorem Fn {ns:List Int} {n:Nat} (h7:n<=7) (b:Bool):∀(ks:List Nat) {tr:List Mo} {m:Mo} {hs:List D} (y:Option Slot),Tr (n:Int) tr m hs->∃VE m' Sy y',Tr (n:Int) VE m' Sy/\eK (gN 4) va (ks.map λk:Nat=>D.int (k:Int)) (lR ns (aD (n:Int) (bG (n:Int) m) hs) (pO (n:Int) tr m) (some (.val (.bl b))) y none)= .ok (.nx (lR ns (aD (n:Int) (bG (n:Int) m') Sy) (pO (n:Int) VE m') (some (.val (.bl b))) y' none))
 |[],tr,m,hs,y,t=>⟨tr,m,hs,y,t,rfl⟩
 |k::ks,tr,m,hs,y,t=>by
  obtain⟨Yq,m1,XG,t1,e1⟩:=turn (ns:=ns) h7 t k b
  obtain⟨Yg,m2,VU,y2,t2,e2⟩:=Fn h7 b ks (some (.val (.int (k:Int)))) t1
  exact⟨Yg,m2,VU,y2,t2,by rw[KO,mB rfl e1,e2]⟩
theorem main (ns:List Int) (hl:ns.length<=63):um [.scr ns]= .ok (.bl true):=by
 obtain⟨n,hn⟩:=NU (N6 (cl ns 1) (show (8:Int)≠0 by decide))
 have h7:n<=7:=by have:=N7 (cl ns 1) (show (0:Int)<8 by decide);omega
 obtain⟨Yq,m1,XG,t1,e1⟩:=sR ns h7
 let b:=Hb ns
 obtain⟨Yg,m2,VU,y2,t2,e2⟩:=Fn (ns:=ns) h7 b ((LA ((ns.length:Int) - 6).toNat).map λk:Nat=>k+6) none t1
 obtain⟨ri,rd,e3,l1,l2⟩:=nq t2.ok t2.rg h7 (cl ns (6+ns.length)) b
 obtain⟨Z8,m4,Zq,t4,e4⟩:=qg t2 (.pass ri rd) ⟨by omega,by omega⟩
 refine bx rfl ?_
 show CQ [some (.val (.scr ns)),none,none,none,none,none]=_
 unfold CQ
 rw[av (ρ':=[some (.val (.scr ns)),some (pO (n:Int) [] m0),none,none,none,none]) (by unfold wt;rw[aZ (n:=1) (a9 rfl rfl) rfl (yt ns),ar,hn];rfl)]
 rw[av (ρ':=lR ns (aD (n:Int) (bG (n:Int) m0) []) (pO (n:Int) [] m0) none none none) (by
  unfold v3
  rw[if_pos (show J6 2 [some (.val (.scr ns)),some (pO (n:Int) [] m0),none,none,none,none]=true from rfl),a9 (d:= .int (n:Int)) (ds:=[]) (aj (aj (a:= .lst (d4 (n:Int) [] m0)) rfl rfl (sN 0 rfl)) rfl Ey) rfl,ar,if_pos (show [D.int (n:Int)].length=1 from rfl),B4 (by omega) (by omega)]
  rfl)]
 rw[av (ρ':=lR ns (aD (n:Int) (bG (n:Int) m0) []) (pO (n:Int) [] m0) (some (.val (.bl b))) none none) (aX (Dm ns rfl) rfl)]
 rw[av (ρ':=lR ns (aD (n:Int) (bG (n:Int) m1) XG) (pO (n:Int) Yq m1) (some (.val (.bl b))) none none) (Dn (vx (EJ (i:=2) (j:=1) (k:=1) rfl (by decide) rfl rfl (a9 rfl rfl) rfl e1 rfl rfl)))]
 have er:r9 (a8 (fC (.int 6)) (a8 (cg cf (a8 (aa 0) (ai))) (ai))) (lR ns (aD (n:Int) (bG (n:Int) m1) XG) (pO (n:Int) Yq m1) (some (.val (.bl b))) none none)= .ok (((LA ((ns.length:Int) - 6).toNat).map λk:Nat=>k+6).map λk:Nat=>D.int (k:Int)):=by
  unfold r9
  rw[a9 rfl (a9 (aS rfl xV) rfl),ar]
  show (if (6:Int).natAbs<=lim/\(ns.length:Int).natAbs<=lim then R.ok (i_ 6 (ns.length:Int))else .bad)=_
  rw[if_pos ⟨by decide,by unfold lim;omega⟩]
  unfold i_
  rw[M1]
  congr 1
  refine Nx λk _=> ?_
  show D.int (6+(k:Int))=D.int ((k+6:Nat):Int)
  congr 1
  omega
 rw[av ((sj er).trans e2)]
 rw[av (ρ':=lR ns (aD (n:Int) (bG (n:Int) m2) VU) (pO (n:Int) Yg m2) (some (.val (.bl b))) y2 (some (.val (dz ri rd)))) (aX (aZ (n:=3) (a9 (aj (a:= .lst (d4 (n:Int) Yg m2)) (b:= .int (-1)) rfl rfl iS) (a9 (aZ (n:=2) (a9 rfl (a9 (d:= .int ((6+ns.length:Nat):Int)) (aj (a:= .int 6) (b:= .int (ns.length:Int)) rfl (aS rfl xV) (by rw[eF];congr 2)) rfl)) rfl (qc ns (6+ns.length))) rfl)) rfl e3) rfl)]
 unfold CN CO
 rw[EJ (i:=2) (j:=1) (k:=1) (ρ:=lR ns (aD (n:Int) (bG (n:Int) m2) VU) (pO (n:Int) Yg m2) (some (.val (.bl b))) y2 (some (.val (dz ri rd)))) rfl (by decide) rfl rfl (a9 (d:=(cp.pass ri rd).dt) rfl rfl) rfl e4 rfl rfl,ar]
 have a3l:ID (nO "history" [2] (aI cT 2 (a8 (au 2) (a8 (f2 aQ (aa 1) (f1 js (fC (.int 1)))) (ai))))) (lR ns (aD (n:Int) (bG (n:Int) m4) Zq) (pO (n:Int) Z8 m4) (some (.val (.bl b))) y2 (some (.val (dz ri rd))))= .ok (.bl true,lR ns (aD (n:Int) (bG (n:Int) m4) Zq) (pO (n:Int) Z8 m4) (some (.val (.bl b))) y2 (some (.val (dz ri rd)))):=by
  unfold ID
  rw[w_ (L:=[2]) rfl (show aI cT 2 (a8 (au 2) (a8 (f2 aQ (aa 1) (f1 js (fC (.int 1)))) (ai))) (lR ns (.val (.ins "Cellar" (gK (n:Int) (bG (n:Int) m4) Zq))) (pO (n:Int) Z8 m4) (some (.val (.bl b))) y2 (some (.val (dz ri rd))))= .ok (.bl true)from aZ (n:=2) (a9 rfl (a9 (aj (a:= .lst (d4 (n:Int) Z8 m4)) (b:= .int (-1)) rfl rfl iS) rfl)) rfl (sQ t4)) (.bl true),ar]
 show ((ID _ (lR ns (aD (n:Int) (bG (n:Int) m4) Zq) (pO (n:Int) Z8 m4) (some (.val (.bl b))) y2 (some (.val (dz ri rd)))))>>=_)=_
 rw[a3l]
 rfl
end My
end
inductive PySem.W.Fast
|tw10114936774849278880|tw10512220303137872744|tw1077942854601660672|tw10823938631782656885|tw10890960988749218505|tw10942656279517037576|tw11011267592401999496|tw11227068912691120314|tw11278201235392717729|tw1143659963464710205|tw11526498704000237502|tw11595080213675890839|tw11735665543069344668|tw11813376142464874540|tw11837787111836950968|tw11850369417075736283|tw11990187620682372108|tw12314192753243260857|tw12332367720360165790|tw12425797658215698663|tw12566490346519804702|tw1261269311352288648|tw13051523204168749723|tw13071208205651668136|tw13168410410057361457|tw13236785163908705992|tw13252238076878794359|tw13339487509653531372|tw13352753431714133880|tw13481220754352002699|tw13533337777174262777|tw1371537502379018047|tw13976549061627511860|tw1417824533303284774|tw14179647725141422206|tw14248414264777927503|tw14384969325520478140|tw14476955398687963701|tw14577582018102041350|tw14676961588498203498|tw14776305749748163679|tw15075617024505835185|tw15119676017131639420|tw1518615676433686491|tw15344642004561720744|tw1572939085399931234|tw15765000562287225760|tw15769161238745037802|tw16029282602703520870|tw16101670199761259701|tw16169682434043190655|tw16191353480490522155|tw16217716232115971284|tw16237374019368106348|tw16524230511380678298|tw16593229437055814437|tw16639948775642728516|tw16870004399388327098|tw16947079575763108682|tw17015781871757598962|tw17126882509956663751|tw1731769081780683878|tw17322402930457485156|tw17570307386686174651|tw17697478352743102891|tw17722685139825455195|tw1776972273376960849|tw17819851086413599162|tw17872300203723734955|tw17885495326713226681|tw18049505092205306973|tw18286136608297521410|tw18310973846588157978|tw18434942314271694140|tw1922243718101075309|tw1927443898076465277|tw1953960745376129824|tw2045405693380068253|tw2223432487488867656|tw233745488170206472|tw2666799265116185372|tw2770419436448077416|tw2835977028372584093|tw2849909312695571763|tw2913147023804747950|tw292302591084702079|tw3145510387455912159|tw3238016880043160341|tw3279324330887210188|tw3508983656862550681|tw3552537562359309819|tw3649491106761557062|tw3682463060888328610|tw3846287300577095009|tw3852776224489625324|tw3869803443404756013|tw3984233531265270587|tw4016044797630394057|tw4549501134004218414|tw4598514824218803497|tw463839004369275905|tw4709627931869634222|tw4811636583369435150|tw4821754692365191664|tw486113059896758562|tw4865275505223082460|tw4872379236177129900|tw4979137520703496993|tw505473232371553738|tw5352649829915571189|tw5400504824917513215|tw559836358852072035|tw5686060752856783276|tw6077683498400717530|tw6082506731708302886|tw6089471881268213447|tw6120642351329729545|tw6224987250366867486|tw6292795459594207101|tw6360469673464296388|tw6452034112049194741|tw6454381424096948322|tw6594566946670254305|tw6950398804055586106|tw6999329717898228434|tw7139965749661983185|tw717549085528015345|tw7246767426665562843|tw7298130276083642214|tw7356805173417295000|tw7362734723272018021|tw7445084817908484048|tw7451318298615797894|tw7478962556399460104|tw7557503280454740354|tw7601428232595691861|tw7738224812493612338|tw7808544551975214504|tw7816306642301449262|tw79912934499873214|tw8144124134950188048|tw8206116116005661548|tw8344902301573740694|tw8360090074851410393|tw839330963128237763|tw8415264506027601063|tw8442160364077305386|tw8456944801768685407|tw8667494024062225464|tw8770239087870304312|tw8784085137633836497|tw8801540128452747752|tw8831951308493014572|tw8859690441636711664|tw8872112500962543219|tw894058981746273003|tw9132210030048574534|tw9140572702678510120|tw9173142976871778015|tw9210995304322399082|tw9411032547315592060|tw9452717428189144005|tw9574080126336986262|tw9574388875894064716|tw9578396409263097293|tw9615350251944056800|tw9664251634215882164|tw9707082477792413072|tw9840165125163362508|tw9881651948178881172|tw9925993695722536563|tw9935873310065914179|tw9945980606413387679
open PySem PySem.W PyProof.Rows
set_option maxRecDepth 100000 in
set_option maxHeartbeats 0 in
theorem PySem.Challenge.cw_tankbalance_k36_whole_history_holds : PySem.Challenge.rw_tankbalance_k36_whole_history.Holds := by
  w_on; o_law; k_head; (case hw => w_witness2)
  k_fill
  refine My.walk (l := PySem.Challenge.rw_tankbalance_k36_whole_history) rfl rfl (fun w h Y => PySem.W.kIn_of Y) My.main ?F
  case F =>
    intro w mg fa h KX G hmg
    refine' My.GR KX G hmg ?_ ?_ ?_ ?_ ?_ ?_ ?_ ?_ ?_ ?_ ?_ ?_ ?_ ?_ ?_ ?_ ?_ ?_ ?_ ?_ ?_ ?_ ?_ ?_ ?_ ?_ ?_ ?_ ?_ ?_ ?_ ?_ ?_ ?_ ?_ ?_ ?_ ?_ ?_ ?_ ?_ ?_ ?_ ?_ ?_ ?_ ?_ ?_ ?_ ?_ ?_ ?_ ?_ ?_ ?_ ?_ ?_ ?_ ?_ ?_ ?_ ?_ ?_ ?_ ?_ ?_ ?_ ?_ ?_ ?_ ?_ ?_ ?_ ?_ ?_ ?_ ?_ ?_ ?_ ?_ ?_ ?_ ?_ ?_ ?_ ?_ ?_ ?_ ?_ ?_ ?_ ?_ ?_ ?_ ?_ ?_ ?_ ?_ ?_ ?_ ?_ ?_ ?_ ?_ ?_ ?_ ?_ ?_ ?_ ?_ ?_ ?_ ?_ ?_ ?_ ?_ ?_ ?_ ?_ ?_ ?_ ?_ ?_ ?_ ?_ ?_ ?_ ?_ ?_ ?_ ?_
    all_goals try first | k_is | k_exc | (refine' L2.Pu.UF.of ?_ ?_ ?_ ?_ <;> try k_is) | (refine' L2.Pu.qw.of ?_ ?_ ?_ ?_ ?_ <;> try k_is)
    all_goals try (repeat' (first | exact True.intro | refine And.intro ?_ ?_ | (refine @Eq.trans _ _ (some true) _ ?_ rfl; k_is) | (refine @Eq.trans _ _ (some false) _ ?_ rfl; k_is) | k_is | k_exc))
