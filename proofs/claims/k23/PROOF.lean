import PyProof.Rows.All
import Wide.All
import OpenK.AllK
import Wide.FinOn
import Lean
import PyProof.EqAt
import PyProof.EqKinds
import PyProof.TupleCall
import PyProof.NeKinds
import PySem.Challenge.RW_tankbalance_k23_bounds
set_option Elab.async false
set_option linter.all false
set_option maxRecDepth 100000
set_option maxHeartbeats 40000000
open PySem.W renaming Frag->JL,nsIn->K0,findIn->K4,mg_of->Kg,mroIn->Kz,mg_none_of->KD,keepIn->KJ,fnOf->KP,kitOne->L0,excIn->L3,kia_one->L5,emptyDict->Lk,instObj->LB,plainGet->LM,hasDictIn->LU,codeIn->L_,makesIn->M9,plainOver->Mg,specialIn->Mh,kitCls->Mn,exmOne->Mp,looks_findIn->Mt,takesIn->MI,nd_pure->MO,methodCall_KW->Ni,hideAll_none->Nl,isFn->Nq,hideAll_get->Ny,plainGet_of->Nz,lookIn->NA,callWith_K->ND,methodObj->NU,takerIn->OH,OpenLaw->OL,cellsFrom_some->OQ,typeIn->O_,looks_mroIn->Pt,of_hideAll->PF,kitx_list->Qb,kitx_dict->Qc,handedIn->Qm,hideAll->Qv,kitMeta->QI,WalkO->QT,Looks->QU,clsIn->QV
open PySem renaming Value->JM,Str->JN,Addr->JO,Shared->JP,wpAny_bind->JQ,starEach->JS,Spec->JT,Expr->JW,mainGlobals->JX,wpAny_pure->JY,wpAny->JZ,model->K2,Program->K3,Heap->Ka,eval->Kb,World->Kd,Stmt->Ke,boot_len->Kj,Around->Kl,Obj->Kq,backTo->Ks,bootBuiltins->KA,Pos->KC,attributeBase->KI,wpAny_holding->KO,swapsWith->KR,assignEach->KW,FuncData->Lc,sizeLine_eq->Ld,keywordEach->Le,behindInMarks->Lg,compareOp->Lo,wpAny_truthy_bool->Lv,Env->Ly,wpAny_mono->LC,binaryOp->LD,backToKw->LF,holding->LI,foldedSetIterable->LJ,Scope->LL,bindArgs->LN,wpAny_Call_Name_kw->LP,Keyword->LR,mem_of_lookup->M4,standAt->M7,cLine->Ma,call_meets->Mc,getMethod->Ms,wpAny_call_entry->Mu,assign->Mx,sliceBounds->ME,wpAny_passesOwn->MG,Tok->MP,codeAny_mono->MQ,tupleKind_room_in1->MU,codeAny->MW,getItem->MX,wpAny_newObj_type->N0,Sem->N5,wpAny_standAt->N9,wpAny_newList->Na,callWith->Nb,plainObj_wpAny_Assign_Attribute->Nk,wpAny_execs_nil->Np,IsPart->Nt,codeAny_call_builtin->Nw,unbindBehindTheSuite->Nx,Builtin->NB,swapsWithSole->NK,swappedStores->NL,evalPart_none->NP,wpAny_pyIter_list->NV,slot_list_getitem->NW,wpAny_call->O1,valueAt->O5,callerA->O6,GenState->O7,noFill_tuple_add->Oc,wpAny_typeOf->Oe,wpAny_getItem_list_slice->Of,wpAny_comprehension_free->Oj,wpAny_check_ga_own->Ot,wpAny_callSpecial?_slot->OA,tupleKind->OF,letOwnedTupleGo->OG,atKey->OK,wpAny_field->OR,subscripted->OS,wpAny_Call_method_late->OV,isTrue->OY,wpAny_isTrue_Compare1->OZ,BindsTo->P0,CmpOp->Pb,bindL->Pc,bindC->Pd,seq_tuple_add->Pn,Within->Pz,wpAny_pyIter_tuple->PJ,Result->PK,concat_meets->PV,seqIndex_neg->P_,noteFrame->Q0,scanBound->Q5,Model->Q9,relabel->Qa,wpAny_sequenceKey->Qe,wpAny_collect_seq->Qg,seqIndex_of->Qj,builtinsNs->Qw,wpAny_Name->Qx,truthy->Qy,typeIs_int->Qz,call->QB,checkCount->QC,wpAny_rule->QE,spliced->QK,setItem->QL
open List renaming length_map->JR,size_toArray->JU,map_cons->J_,mem_cons->K1,mem_cons_self->K6,mem_singleton->K7,mem_cons_of_mem->K8,getElem?_eq_some_iff->K9,length_cons->Kh,replicate->Ki,getElem?_map->Km,map_append->Kn,mem_append_right->Kr,length_append->Kv,range->Kw,getElem?_eq_getElem->Kx,mem_append->KH,not_mem_nil->KN,any_eq_true->KZ,map_map->K_,mem_append_left->L4,pairwise_cons->L6,lookup_cons->L8,replicate_succ->L9,map_nil->Lh,any_cons->Li,getD_eq_getElem?_getD->Lj,append_nil->Lm,mem_map->Lp,all_cons->Lq,mem_range->Lr,mem_of_getElem?->Ls,getElem?_replicate->Lu,getElem?_append_left->LA,flatten_cons->LK,mem_filter->LQ,length_singleton->LS,getElem?_set->LW,pairwise_map->LX,filterMap_cons->M3,getElem_of_mem->M5,nodup_cons->Mb,find?_cons->Md,nodup_append->Mi,toArray->Mm,length_filter_le->Mq,getElem?_append->Mw,getElem?_append_right->Mz,lookup->MD,map_congr_left->MF,length_nil->MK,pairwise_iff_getElem->MM,drop_eq_getElem_cons->MN,length_eq_zero_iff->M_,reverse_cons->N1,append_assoc->N2,length_range->N3,length->N6,length_take->Nc,getElem_mem->Nd,all_eq_true->Nf,length_filter_eq_length_iff->Ng,length_replicate->Nj,getElem?_set_ne->Nn,length_set->Nu,mem_filterMap->NC,getElem_inj->O8,length_drop->Od,map->Oy,filter_cons->Oz,getElem?_cons_zero->OD,getElem?_cons_succ->OE,of_mem_zip->OI,nil_append->OJ,getElem?_set_self->OP,dropLast_eq_take->P6,foldl->Pf,mem_iff_getElem->Pg,zip->Pk,dropLast_concat->Pl,nodup_iff_count->Pm,getElem_map->Qo,countP_cons->Qp,drop_length->Qr,ext_getElem->Qt,isEmpty_map->Qu,foldl_cons->QA,count_cons->QF,idxOf_cons->QG,nodup_nil->QP,all_nil->Q_
open PySem.Heap renaming get?_push_of_some->JV,lt_size->K5,get?_push_size->Ko,size_push->Mj,get?_none_of_le->Nm,SameBut->O9,get?_update_other->OU
open Nat renaming le_refl->Kc,lt_of_lt_of_le->Kt,ne_of_lt->Ku,le_trans->Ky,lt_irrefl->Lb,zero_le->Lx,lt_succ_of_lt->LV,lt_of_le_of_lt->NF,add_sub_cancel->NG,le_succ_of_le->N_,le_of_eq->Oa,lt_succ_self->Ob,le_of_not_lt->Oh,zero_add->Om,le_of_lt->PH,lt_trichotomy->Qf,le_succ->Qi
open Bool renaming false_ne_true->Kf,false_eq_true->KY,and_eq_true->L7,eq_iff_iff->MH,false_or->NR,eq_false_iff->O0,true_or->Og,or_eq_true->ON,and_false->QM,not_false->QQ,or_false->QS,not_true->QW
open PySem.Value renaming ref->Kk,none->KU,type->LY,int->M8,builtin->MA,str->Nh,bool->P9,float->Qh,isStrOf->QR,isInt->R1,bytes->R3
open Or renaming inr->Kp,inl->KG
open Option.some renaming inj->KQ,injEq->NZ
open PyProof.Rows renaming slot_tuple_getitem->KS,envOfC->LG,callWith_type1->Mr,AllBare->MV,step_dedup->MY,callWith_builtin1->Nr,tupleItemsOf_->NO,subscriptTail->NQ,IntsAre->O4,entry_list_sort->OM,subscriptTail_builtinR->OT,slot_list_sort->P2,args_list_sort->P4,sortedHeap_old->P5,IsTup->Pa,Subscript_->Pe,sortedHeap->Ph,sortedHeap_at->Po,listUpdate_at->Pp,entry_tuple_getitem->Pq,args_tuple_getitem->PY,plain_sorted->Q1,entry_sorted->Q2,args_sorted1->Q3,kind_sorted->Qk,seqEpoch_at->Ql,firstMet->Qq,size_push'->QD
open PySem.PassesOwn renaming leaving->La
open PySem.F renaming plainAttrs_list->Lf,slot_list_count->M6,args_tuple_add_2->MR,entry_tuple_add->MZ,slot_tuple_add->N7,args_list_count_2->O2,entry_list_count->Oo,slot_list_append->Ou,type_list_append->Ov,slot_tuple_count->Ox,slot_list_index->OB,type_list_count->OC,slot_list_pop->P7,type_list_pop->P8
open False renaming elim->Ll
open PySem.Obj renaming mapSeq->Ln
open Array renaming length_toList->Lw,getD_eq_getD_getElem?->NH,perm_iff_toList_perm->NS,getElem?_toList->P1,getD->Pj,append_assoc->PD,map->Q4,toList->QY
open Ne renaming symm->Lz
open Int renaming le_trans->LH,lt_trans->Ol,emod_nonneg->OO,emod_lt_of_pos->Q8,natAbs->QJ
open True renaming intro->LO
open PySem.Builtin.Slice renaming slicePlaces->LZ,sliceAdjust->MJ,sliceApplied->NM
open PySem.Builtin.Tuple renaming tupleExact->M0,tupleItemsOf->NN,tupleIsExact->NT
open PySem.Builtin.List renaming listTooLong->M1
open Option renaming map_some->Me,isSome_map->NX,bind_some->Oi,getD_none->Qn,none->R5
open PySem.Calls renaming callWith_builtin->Mf,evalArgs_plain->Mv,call_function_entry->ML,Name_function_global->NJ,spliced_cons->PU,spliced_nil->Qd
open List.Perm renaming refl->Ml,nil_eq->Qs,cons->QN
open Sum renaming inl->MB,inr->O3
open PySem.Str renaming ofString->MS,empty->PL
open PySem.SeqAt.EqAt renaming bool_bool->MT,int_int->N8,int_str->Px,str_int->Py
open PySem.Builtin.Getset_descriptor renaming descrGet->N4,descrCheckInstance->OW,descrNameAndClass->OX,descrGetter->Pw
open ForInStep renaming yield->Nv
open PySem.Paired renaming length->NI,snoc->R4
open List.Pairwise renaming nil->NY
open PySem.SeqAt renaming list_countAt->Oq
open PySem.Around renaming under->PM
open PySem.Code renaming isFrame->PR,quiet_builtin->Q6
open PySem.Heap.IsSliceOf renaming new->PZ
open PySem.W.KF renaming slot_gs->Q7
open PySem.Builtin.ObjectAttr renaming takesStores->QH,bindTo->QX,find->R0
open PySem.Builtin.Frozenset renaming updateFrom->QO
open PySem.Data renaming seq->QZ
local macro_rules | `(tactic| omega) => `(tactic| lia)
noncomputable section
namespace L2
open PySem PySem.Spec PyProof.Rows
abbrev cI:=Sum Int JN
def qR:cI->JM->Bool
 | .inl k,v=>R1 k v
 | .inr x,v=>QR x v
def Ii (w:Kd):cI->Int
 | .inl k=>hashInt k
 | .inr x=>hashStr w x
theorem cR:∀{k:cI} {v:JM},qR k v=true->(∃i t,k=MB i/\v=M8 i t)\/(∃x t,k=O3 x/\v=Nh x t)
 | .inl i,v,h=>by
  obtain⟨t,e⟩:=Value.isInt_shape (k:=i) (v:=v) h
  exact .inl ⟨i,t,rfl,e⟩
 | .inr x,v,h=>by
  obtain⟨t,e⟩:=Value.isStrOf_shape (x:=x) (v:=v) h
  exact .inr ⟨x,t,rfl,e⟩
theorem zc (i:Int) (t:MP):qR (.inl i) (.int i t)=true:=by simp[qR,R1]
theorem ze (x:JN) (t:MP):qR (.inr x) (.str x t)=true:=by simp[qR,QR]
theorem Ew (a b:Int):decide ((MB a:cI)=MB b)=(a==b):=by
 by_cases e:a=b
 ·subst e;simp
 ·have h:¬(MB a:cI)=MB b:=λq=>e (Sum.inl.inj q)
  rw[decide_eq_false h]
  exact(beq_eq_false_iff_ne.mpr e).symm
theorem Ex (a b:JN):decide ((O3 a:cI)=O3 b)=decide (a=b):=by
 by_cases e:a=b
 ·subst e;simp
 ·have h:¬(O3 a:cI)=O3 b:=λq=>e (Sum.inr.inj q)
  rw[decide_eq_false h,decide_eq_false e]
theorem Ey (a:Int) (b:JN):decide ((MB a:cI)=O3 b)=false:=decide_eq_false (λq=>nomatch q)
theorem Ez (a:JN) (b:Int):decide ((O3 a:cI)=MB b)=false:=decide_eq_false (λq=>nomatch q)
def dG (prog:K3) (w:Kd):PySem.KeyKind prog w cI where
 is:=qR
 hash:=Ii w
 inj:=λv a b ha hb=>by
  rcases cR ha with ⟨i,t,rfl,rfl⟩|⟨x,t,rfl,rfl⟩
  ·rcases cR hb with ⟨j,u,rfl,e⟩|⟨y,u,rfl,e⟩
   ·injection e with e1 _;rw[e1]
   ·exact nomatch e
  ·rcases cR hb with ⟨j,u,rfl,e⟩|⟨y,u,rfl,e⟩
   ·exact nomatch e
   ·injection e with e1 _;rw[e1]
 byValue:=λk v h=>by
  rcases cR h with ⟨i,t,rfl,rfl⟩|⟨x,t,rfl,rfl⟩<;>rfl
 pyHash:=λhv h=>by
  rcases cR hv with ⟨i,t,rfl,rfl⟩|⟨x,t,rfl,rfl⟩
  ·exact wpAny_pyHash_int h
  ·exact wpAny_pyHash_str h
 eqBool:=λhu hv h=>by
  rcases cR hu with ⟨i,t,rfl,rfl⟩|⟨x,t,rfl,rfl⟩
  ·rcases cR hv with ⟨j,u,rfl,rfl⟩|⟨y,u,rfl,rfl⟩
   ·rw[Ew]at h;exact wpAny_eqBool_int h
   ·rw[Ey]at h;exact Px i t y u _ _ _ _ h
  ·rcases cR hv with ⟨j,u,rfl,rfl⟩|⟨y,u,rfl,rfl⟩
   ·rw[Ez]at h;exact Py x t j u _ _ _ _ h
   ·rw[Ex]at h;exact wpAny_eqBool_str h
 «strs»:=λk x t v h=>by
  rcases cR h with ⟨i,u,rfl,e⟩|⟨y,u,rfl,e⟩
  ·exact nomatch e
  ·injection e with e1 _
   subst e1
   cases v<;>rfl
theorem v3 (prog:K3) (w:Kd) (i:Int) (t:MP):(dG prog w).is (.inl i) (.int i t)=true:=zc i t
theorem v4 (prog:K3) (w:Kd) (x:JN) (t:MP):(dG prog w).is (.inr x) (.str x t)=true:=ze x t
end L2
namespace L2
open PySem PySem.Spec PyProof.Rows
inductive V where
 |non|bl (b:Bool)|int (i:Int)|str (x:JN)|byt (b:Array UInt8)|flt (b:UInt64)|ref (a:JO)|ty (n:String)
 deriving DecidableEq
def bU:V->JM->Prop
 | .non,u=>u=KU
 | .bl b,u=>u=P9 b
 | .int i,u=>∃t,u=M8 i t
 | .str x,u=>∃t,u=Nh x t
 | .byt b,u=>∃t,u=R3 b t
 | .flt b,u=>∃t,u=Qh b t
 | .ref a,u=>u=Kk a
 | .ty n,u=>u=LY n
abbrev bi:List V->List JM->Prop:=Paired bU
theorem bi.length {xs:List V} {us:List JM} (r:bi xs us):xs.length=us.length:=NI r
theorem bi.get:∀{xs:List V} {us:List JM} {i:Nat} {x:V},bi xs us->xs[i]? =some x->∃u,us[i]? =some u/\bU x u
 |_,_,_,_, .nil,e=>by simp at e
 |_,_,0,_, .cons r _,e=>by simp at e;subst e;exact⟨_,rfl,r⟩
 |_,_,i+1,x, .cons _ t,e=>by
  obtain⟨u,h1,h2⟩:=bi.get (i:=i) (x:=x) t (by simpa using e)
  exact⟨u,by simpa using h1,h2⟩
theorem bi.set {x:V} {u:JM} (r:bU x u):∀{xs:List V} {us:List JM} (i:Nat),bi xs us->bi (xs.set i x) (us.set i u)
 |_,_,_, .nil=> .nil
 |_,_,0, .cons _ t=> .cons r t
 |_,_,i+1, .cons q t=> .cons q (bi.set r i t)
theorem bi.append:∀{xs ys:List V} {us ws:List JM},bi xs us->bi ys ws->bi (xs++ys) (us++ws)
 |_,_,_,_, .nil,s=>s
 |_,_,_,_, .cons r t,s=> .cons r (bi.append t s)
theorem bi.take:∀{xs:List V} {us:List JM} (n:Nat),bi xs us->bi (xs.take n) (us.take n)
 |_,_,0,_=> .nil
 |_,_,_+1, .nil=> .nil
 |_,_,n+1, .cons r t=> .cons r (bi.take n t)
theorem bi.drop:∀{xs:List V} {us:List JM} (n:Nat),bi xs us->bi (xs.drop n) (us.drop n)
 |_,_,0,r=>r
 |_,_,_+1, .nil=> .nil
 |_,_,n+1, .cons _ t=>bi.drop n t
def kY:Option V->Option JM->Prop
 |some v,some u=>bU v u
 |none,none=>True
 |_,_=>False
def KV {κ:Type}:List (κ×V)->List (κ×JM)->Prop:=Paired λ(p:κ×V) (q:κ×JM)=>p.1=q.1/\bU p.2 q.2
def kV:cI->V
 | .inl i=> .int i
 | .inr x=> .str x
inductive HO where
 |lst (xs:List V)
 |tup (xs:List V)
 |dK (kvs:List (cI×V))|dT (kvs:List (List cI×V))
 |set (S:Int->Bool) (n:Nat)
 |ins (C dx:JO) (fs:List (JN×V))
 |own (x:JO)
 |xd (fs:List (JN×V))
 |met (f x:JO)
 |rng (lo hi:Int)
 |frz (o:Kq) (u:HO)
 |tbl (ps:Array JM)
 |ext (φ:Ka->Prop)
abbrev Hp:=JO->Option HO
def bY (H:Hp) (a:JO) (o:HO):Hp:=λb=>if b=a then some o else H b
theorem aH {H:Hp} {a:JO} {o:HO}:bY H a o a=some o:=by unfold bY;rw[if_pos rfl]
theorem ay {H:Hp} {a b:JO} {o:HO} (h:b≠a):bY H a o b=H b:=by unfold bY;rw[if_neg h]
theorem Gx {H:Hp} {a b:JO} {o u:HO} (h:H a=some o) (h':H b=some u) (d:o≠u):a≠b:=by
 intro e;subst e;rw[h]at h';exact d (KQ h')
theorem di {H:Hp} {a b:JO} {o:HO} (h:H a=some o) (h':H b=none):a≠b:=by
 intro e;subst e;rw[h]at h';cases h'
def jh (h:Ka) (a:JO) (Ra:Array JM):Prop:=∃o,h.get? a=some o/\o.cls= .type "tuple"/\∃n,o.data= .seq Ra n/\o.dict=none
theorem jh.tup {h:Ka} {a:JO} {Ra:Array JM} (x:jh h a Ra):Pa h a Ra:=let ⟨o,ho,hc,n,hd,_⟩:=x;⟨o,ho,hc,n,hd⟩
theorem jh.lt {h:Ka} {a:JO} {Ra:Array JM} (x:jh h a Ra):a<h.objs.size:=x.tup.lt
theorem jh.new (h:Ka) (Ra:Array JM):jh (h.push {cls:= .type "tuple",data:= .seq Ra}) h.objs.size Ra:=⟨_,Ko _ rfl,rfl,_,rfl,rfl⟩
section
variable (P:K3) (w:Kd)
def ce (H:Hp) (h:Ka) (a:JO):HO->Prop
 | .lst xs=>xs.length<=sizeLine/\∃(its:List JM) (n:Nat),bi xs its/\h.get? a=some {cls:= .type "list",data:= .seq its.toArray n}
 | .tup xs=>xs.length<=sizeLine/\∃its:List JM,bi xs its/\jh h a its.toArray
 | .dK kvs=>kvs.length<=sizeLine/\(a==sysModules)=false/\∃vs,KV kvs vs/\h.DictOf (dG P w) a vs
 | .dT kvs=>kvs.length<=sizeLine/\(a==sysModules)=false/\∃xs:List (List cI×JO×JM),
   Paired (λ(p:List cI×V) (q:List cI×JO×JM)=>p.1=q.1/\H q.2.1=some (.tup (p.1.map kV))/\bU p.2 q.2.2) kvs xs/\
   ∃o es ep,h.get? a=some o/\o.ExactDict/\o.data= .dict es ep/\es.toList=xs.map (entryOfKey (OF (dG P w)))/\(xs.map (·.1)).Nodup
 | .set S n=>h.SetOf (intKind P w) a S n
 | .ins C dx fs=>H dx=some (.own a)/\fs.length<=1000/\dx≠a/\h.get? a=some (LB C dx)/\
   ∃mA,h.Ns1 dx mA/\(∀f,kY (fs.lookup f) (mA f))/\Pz mA (fs.map (·.1))
 | .own _=>∃o,h.get? a=some o
 | .xd fs=>∃mA,h.Ns1 a mA/\∀f,kY (fs.lookup f) (mA f)
 | .rng lo hi=>∃t u v,h.get? a=some {cls:= .type "range",data:= .fields #[.int lo t, .int hi u, .int 1 v]}
 | .frz o u=>h.get? a=some o/\ce H h a u
 | .tbl ps=>h.get? a=some {cls:= .none,data:= .fields ps}
 | .met f x=>h.get? a=some (NU (.ref f) (.ref x))
 | .ext φ=>φ h/\(∃o,h.get? a=some o)/\∀h1 h2:Ka,φ h1->(∀o,h1.get? a=some o->h2.get? a=some o)->φ h2
def la (H:Hp) (h:Ka):Prop:=∀a o,H a=some o->ce P w H h a o
end
section
variable {P:K3} {w:Kd} {H H':Hp} {h h':Ka} {a:JO} {o:HO}
theorem ce.lt (x:ce P w H h a o):a<h.objs.size:=by
 cases o with
 |lst xs=>obtain⟨_,_,_,_,e⟩:=x;exact K5 e
 |tup xs=>obtain⟨_,_,_,p⟩:=x;exact p.lt
 |dK kvs=>obtain⟨_,_,_,_,o,_,_,e,_⟩:=x;exact K5 e
 |dT kvs=>obtain⟨_,_,_,_,o,_,_,e,_⟩:=x;exact K5 e
 |set S n=>obtain⟨o,_,_,_,e,_⟩:=x;exact K5 e
 |ins C dx fs=>obtain⟨_,_,_,e,_⟩:=x;exact K5 e
 |own y=>obtain⟨_,e⟩:=x;exact K5 e
 |xd fs=>obtain⟨_,⟨_,_,_,e,_⟩,_⟩:=x;exact K5 e
 |rng lo hi=>obtain⟨_,_,_,e⟩:=x;exact K5 e
 |frz ob u=>obtain⟨e,_⟩:=x;exact K5 e
 |tbl ps=>exact K5 (show h.get? a=some _ from x)
 |met f y=>exact K5 (show h.get? a=some _ from x)
 |ext φ=>obtain⟨_,⟨_,e⟩,_⟩:=x;exact K5 e
theorem Paired.mapP {α β:Type} {F G:α->β->Prop}:∀{l₁:List α} {l₂:List β},Paired F l₁ l₂->(∀a b,F a b->G a b)->Paired G l₁ l₂
 |_,_, .nil,_=> .nil
 |_,_, .cons r t,f=> .cons (f _ _ r) (Paired.mapP t f)
theorem ce.stay (x:ce P w H h a o) (k:∀b u,(b=a\/H b=some (.own a))->h.get? b=some u->h'.get? b=some u)
  (ho:∀b,H b=some (.own a)->H' b=some (.own a)) (ht:∀b xs,H b=some (.tup xs)->H' b=some (.tup xs)):ce P w H' h' a o:=by
 induction o with
 |lst xs=>obtain⟨z,its,n,r,e⟩:=x;exact⟨z,its,n,r,k _ _ (.inl rfl) e⟩
 |tup xs=>obtain⟨z,its,r,ob,e,c⟩:=x;exact⟨z,its,r,ob,k _ _ (.inl rfl) e,c⟩
 |dK kvs=>obtain⟨z,y,vs,r,ob,es,ep,e,c⟩:=x;exact⟨z,y,vs,r,ob,es,ep,k _ _ (.inl rfl) e,c⟩
 |dT kvs=>
  obtain⟨z,y,xs,r,ob,es,ep,e,c⟩:=x
  exact⟨z,y,xs,Paired.mapP r λp q z=>⟨z.1,ht _ _ z.2.1,z.2.2⟩,ob,es,ep,k _ _ (.inl rfl) e,c⟩
 |set S n=>obtain⟨ob,es,ep,t,e,c⟩:=x;exact⟨ob,es,ep,t,k _ _ (.inl rfl) e,c⟩
 |ins C dx fs=>
  obtain⟨d,z,ne,e,mA,⟨od,es,ep,e2,c⟩,r⟩:=x
  exact⟨ho _ d,z,ne,k _ _ (.inl rfl) e,mA,⟨od,es,ep,k _ _ (.inr d) e2,c⟩,r⟩
 |own y=>obtain⟨ob,e⟩:=x;exact⟨ob,k _ _ (.inl rfl) e⟩
 |xd fs=>obtain⟨mA,⟨od,es,ep,e,c⟩,r⟩:=x;exact⟨mA,⟨od,es,ep,k _ _ (.inl rfl) e,c⟩,r⟩
 |rng lo hi=>obtain⟨t,u,v,e⟩:=x;exact⟨t,u,v,k _ _ (.inl rfl) e⟩
 |frz ob u ih=>obtain⟨e,q⟩:=x;exact⟨k _ _ (.inl rfl) e,ih q⟩
 |tbl ps=>
  have e:h.get? a=some {cls:= .none,data:= .fields ps}:=x
  show h'.get? a=some {cls:= .none,data:= .fields ps}
  exact k a _ (.inl rfl) e
 |met f y=>
  have e:h.get? a=some (NU (.ref f) (.ref y)):=x
  show h'.get? a=some (NU (.ref f) (.ref y))
  exact k a _ (.inl rfl) e
 |ext φ=>obtain⟨p,⟨o,e⟩,st⟩:=x;exact⟨st _ _ p λo q=>k _ _ (.inl rfl) q,⟨o,k _ _ (.inl rfl) e⟩,st⟩
theorem la.lt (x:la P w H h) (e:H a=some o):a<h.objs.size:=(x a o e).lt
theorem la.fresh (x:la P w H h) (e:h.objs.size<=a):H a=none:=by
 cases q:H a with
 |none=>rfl
 |some u=>exact absurd (Kt (x.lt q) e) (Lb _)
theorem la.kept (x:la P w H h) (k:∀b u,h.get? b=some u->h'.get? b=some u):la P w H h':=λa o e=>
 (x a o e).stay (λb u _ q=>k b u q) (λ_ q=>q) λ_ _ q=>q
theorem la.laid (x:la P w H h) (k:∀b u,h.get? b=some u->h'.get? b=some u) (hp:h.objs.size<=a) (new:ce P w (bY H a o) h' a o):la P w (bY H a o) h':=λb u e=>by
 have hn:=x.fresh hp
 by_cases hb:b=a
 ·subst hb;rw[aH]at e;cases e;exact new
 ·rw[ay hb]at e
  exact(x b u e).stay (λc v _ q=>k c v q) (λc q=>by rw[ay (di q hn)];exact q) λc xs q=>by rw[ay (di q hn)];exact q
end
def Rd (H:Hp) (a:JO) (u:HO):Prop:=H a=some u\/∃o,H a=some (.frz o u)
theorem Rd.of {H:Hp} {a:JO} {u:HO} (h:H a=some u):Rd H a u:= .inl h
theorem Rd.ok {P:K3} {w:Kd} {H:Hp} {h:Ka} {a:JO} {u:HO} (r:Rd H a u) (x:la P w H h):ce P w H h a u:=by
 rcases r with r|⟨o,r⟩
 ·exact x a u r
 ·obtain⟨_,q⟩:=x a _ r
  exact q
def Gy:Option HO->Prop
 |some (.lst _)=>True
 |some (.dK _)=>True
 |some (.dT _)=>True
 |some (.set _ _)=>True
 |some (.ins _ _ _)=>True
 |some (.ext _)=>True
 |_=>False
section
variable {P:K3} {w:Kd} {H:Hp} {h h':Ka} {x e:JO} {o':HO}
theorem la.write (ok:la P w H h) (mu:Gy (H x)) (he:e=x\/H e=some (.own x)) (k:∀b u,b≠e->h.get? b=some u->h'.get? b=some u) (Xk:∃u,h'.get? e=some u)
  (new:ce P w (bY H x o') h' x o'):la P w (bY H x o') h':=λb u q=>by
 have Xu:∀c y,H c=some (.own y)->c≠x:=λc y r z=>by subst z;rw[r]at mu;exact mu
 have Yu:∀c xs,H c=some (.tup xs)->c≠x:=λc xs r z=>by subst z;rw[r]at mu;exact mu
 by_cases hb:b=x
 ·subst hb;rw[aH]at q;cases q;exact new
 ·rw[ay hb]at q
  by_cases Wd:b=e
  ·have q':H b=some (.own x):=by
    rcases he with z|z
    ·exact absurd (Wd.trans z) hb
    ·rw[Wd];exact z
   rw[q]at q';cases q'
   obtain⟨v,hv⟩:=Xk
   exact⟨v,by rw[Wd];exact hv⟩
  ·refine(ok b u q).stay (λc v hc r=>k c v ?_ r) (λc r=>by rw[ay (Xu c b r)];exact r) λc xs r=>by rw[ay (Yu c xs r)];exact r
   rcases hc with rfl|hc
   ·exact Wd
   ·rintro rfl
    rcases he with z|z
    ·exact Xu c b hc z
    ·rw[hc]at z;cases z;exact hb rfl
end
structure Un (fs ex:List JO) (H H':Hp) (h h':Ka):Prop where
 keep:∀b o,h.get? b=some o->H b=none->b∉fs->b∉ex->h'.get? b=some o
 slot:∀b o,h.get? b=some o->H b=none->b∈fs->b∉ex->∃sl,h'.get? b=some {o with slots:=sl}
 free:∀b o,h.get? b=some o->H b=none->b∉ex->H' b=none
 there:∀b o,h.get? b=some o->b∉ex->∃o',h'.get? b=some o'
 tups:∀b xs,H b=some (.tup xs)->H' b=some (.tup xs)
 frzs:∀b o u,H b=some (.frz o u)->H' b=some (.frz o u)
 tbls:∀b ps,H b=some (.tbl ps)->∃more,H' b=some (.tbl (ps++more))
section
variable {fs UB ex a2d:List JO} {H H1 H2:Hp} {h h1 h2 h':Ka} {a x e:JO} {o:HO}
theorem Un.any (u:Un fs ex H H1 h h1) {b:JO} {ob:Kq} (q:h.get? b=some ob) (n:H b=none) (hx:b∉ex):∃sl,h1.get? b=some {ob with slots:=sl}:=by
 by_cases hb:b∈fs
 ·exact u.slot b ob q n hb hx
 ·exact⟨ob.slots,u.keep b ob q n hb hx⟩
theorem Un.trans (a:Un fs ex H H1 h h1) (b:Un fs ex H1 H2 h1 h2):Un fs ex H H2 h h2 where
 keep:=λc ob q n hc hx=>b.keep c ob (a.keep c ob q n hc hx) (a.free c ob q n hx) hc hx
 slot:=λc ob q n hc hx=>by
  obtain⟨sl,e1⟩:=a.slot c ob q n hc hx
  obtain⟨Wm,e2⟩:=b.slot c _ e1 (a.free c ob q n hx) hc hx
  exact⟨Wm,e2⟩
 free:=λc ob q n hx=>by
  obtain⟨o',e1⟩:=a.there c ob q hx
  exact b.free c o' e1 (a.free c ob q n hx) hx
 there:=λc ob q hx=>by
  obtain⟨o',e1⟩:=a.there c ob q hx
  exact b.there c o' e1 hx
 tups:=λc xs q=>b.tups c xs (a.tups c xs q)
 frzs:=λc ob xs q=>b.frzs c ob xs (a.frzs c ob xs q)
 tbls:=λc ps q=>by
  obtain⟨m1,e1⟩:=a.tbls c ps q
  obtain⟨m2,e2⟩:=b.tbls c _ e1
  exact⟨m1++m2,by rw[e2,PD]⟩
theorem Un.kept (k:∀b u,h.get? b=some u->h'.get? b=some u):Un fs ex H H h h':=
 ⟨λb ob q _ _ _=>k b ob q,λb ob q _ _ _=>⟨ob.slots,k b ob q⟩,λ_ _ _ n _=>n,λb ob q _=>⟨ob,k b ob q⟩,λ_ _ q=>q,λ_ _ _ q=>q,λ_ ps q=>⟨#[],by rw[q];simp⟩⟩
theorem Un.refl:Un fs ex H H h h:=Un.kept λ_ _ q=>q
theorem Un.laid (k:∀b u,h.get? b=some u->h'.get? b=some u) (hp:h.objs.size<=a) (hn:H a=none):Un fs ex H (bY H a o) h h' where
 keep:=λb u q _ _ _=>k b u q
 slot:=λb u q _ _ _=>⟨u.slots,k b u q⟩
 free:=λb u q n _=>by rw[ay (Ku (Kt (K5 q) hp))];exact n
 there:=λb u q _=>⟨u,k b u q⟩
 tups:=λb xs q=>by rw[ay (di q hn)];exact q
 frzs:=λb u xs q=>by rw[ay (di q hn)];exact q
 tbls:=λb ps q=>⟨#[],by rw[ay (di q hn),q];simp⟩
theorem Un.write (mu:Gy (H x)) (he:e=x\/H e=some (.own x)) (k:∀b u,b≠e->h.get? b=some u->h'.get? b=some u) (Xk:∃u,h'.get? e=some u):Un fs ex H (bY H x o) h h':=by
 have hx:∀b,H b=none->b≠x:=λb n z=>by subst z;rw[n]at mu;exact mu
 have hb:∀b,H b=none->b≠e:=λb n z=>by
  subst z
  rcases he with r|r
  ·exact hx b n r
  ·rw[n]at r;cases r
 have hm:∀b u,H b=some u->¬Gy (some u)->b≠x:=λb u q nm z=>by subst z;rw[q]at mu;exact nm mu
 refine⟨λb u q n _ _=>k b u (hb b n) q,λb u q n _ _=>⟨u.slots,k b u (hb b n) q⟩,λb u q n _=>by rw[ay (hx b n)];exact n,λb u q _=> ?_,
  λb xs q=>by rw[ay (hm b _ q λz=>z)];exact q,λb u xs q=>by rw[ay (hm b _ q λz=>z)];exact q,λb ps q=>⟨#[],by rw[ay (hm b _ q λz=>z),q];simp⟩⟩
 by_cases Wd:b=e
 ·subst Wd;exact Xk
 ·exact⟨u,k b u Wd q⟩
end
def HV (h:Ka) (H:Hp):List JO:=(Kw h.objs.size).filter λa=>(H a).isSome
def tP (h:Ka) (H:Hp):Ka:=Qv h (HV h H)
theorem zf (h:Ka) (H:Hp):(tP h H).objs.size=h.objs.size:=PySem.W.hideAll_size _ _
theorem Av {h:Ka} {H:Hp} {b:JO} {o:Kq} (e:h.get? b=some o) (n:H b=none):(tP h H).get? b=some o:=
 Ny _ e λhm=>by
  have q:(H b).isSome=true:=(LQ.mp hm).2
  rw[n]at q;simp at q
theorem CG {h:Ka} {H:Hp} {b:JO} {o:Kq} (e:(tP h H).get? b=some o):h.get? b=some o/\H b=none:=by
 have e':h.get? b=some o:=PF (HV h H) e
 refine⟨e',?_⟩
 cases q:H b with
 |none=>rfl
 |some x=>
  have hm:b∈HV h H:=LQ.mpr ⟨Lr.mpr (K5 e'),by simp[q]⟩
  have z:(tP h H).get? b=none:=Nl (HV h H) hm
  rw[z]at e;cases e
def CH (g h:Ka) (L:JO):List (JO×Kq):=(Kw h.objs.size).filterMap λa=>if a=L\/(g.get? a).isSome=true then none else (h.get? a).map λo=>(a,o)
def rest (g h:Ka) (L d:JO):List (JO×Kq):=(CH g h L).filter λp=>decide (p.1≠d)
end L2
namespace L2
open PySem PySem.Spec PyProof.Rows
structure Mod (K:JL) (mg:JN->Option JM) (base:Ka):Prop where
 kin:K.In base
 glob:base.Ns JX mg
 blt:∃mb,base.Ns Qw mb/\∀x:JN,x≠"__name__"->mb x=KA x
 nolimit:base.NoLimit
structure Cx where
 prog:K3
 w:Kd
 K:JL
 mg:JN->Option JM
 base:Ka
 A:Kl
 N:List JN
 s₀:JP
 H₀:Hp
 env:Ly
 outer:List Ly
 stack:List Ly
 ex:List JO
 fn:JN->Bool
 calm:Bool
 pn:List (JO×Kq)
 xe:JM->JP->Prop
def qE (l:List Ly):List JO:=l.filterMap (·.frame)
abbrev Cx.fs (X:Cx):List JO:=qE X.outer
def oO (sc:LL) (x:JN):Prop:=sc.names.lookup x=some .local\/sc.names.lookup x=some .cell\/sc.names.lookup x=some .free
def zg (sc:LL) (x:JN):Prop:=sc.names.lookup x=some .local\/sc.names.lookup x=some .cell
def Ij (env:Ly) (h:Ka) (m:JN->Option JM) (x:JN) (u:JM):Prop:=
 (env.kindOf x=some .local/\m x=some u)\/((env.kindOf x=some .cell\/env.kindOf x=some .free)/\∃c,env.cells.lookup x=some c/\h.IsCell c (some u))
structure Cx.Ok (X:Cx):Prop where
 mod:Mod X.K X.mg X.base
 kind:X.env.scope.kind= .function
 glob:X.env.globals=JX
 blt:X.env.builtins=Qw
 above:X.s₀.heap.objs.size<=X.env.locals
 inj:∀x y c,X.env.cells.lookup x=some c->X.env.cells.lookup y=some c->x=y
 has:∀x,(X.env.kindOf x=some .cell\/X.env.kindOf x=some .free)->∃c,X.env.cells.lookup x=some c
 cab:∀x c,X.fn x=true->X.env.cells.lookup x=some c->X.s₀.heap.objs.size<=c
 hd:X.calm=true->X.A.handled=none
 frames:X.A.frames=some X.stack
 stk:X.stack=X.outer\/(X.stack=X.env::X.outer/\X.env.frame=some X.env.locals)
 exf:∀b∈X.ex,b≠X.env.locals/\∀x c,X.env.cells.lookup x=some c->c≠b
 bs:∀b o,X.base.get? b=some o->X.s₀.heap.get? b=some o/\X.H₀ b=none
 bsz:X.base.objs.size<=X.s₀.heap.objs.size
 noex:∀b o,X.base.get? b=some o->b∉X.ex
 exfs:∀b∈X.ex,b∉X.fs
 funs:X.s₀.heap.FunFrames X.base X.outer
 frf:∀b∈X.fs,X.H₀ b=none
structure aM (X:Cx) (R6:List (JO×Kq)) (σ:List (Option V)) (H:Hp) (s:JP):Prop where
 ok:X.Ok
 os:s.os=X.s₀.os
 bare:MV s.gens
 base:Un X.fs X.ex X.H₀ H X.s₀.heap s.heap
 loc:∃m,s.heap.Ns X.env.locals m/\∀(i:Nat) (x:JN) (v:V),X.N[i]? =some x->σ[i]? =some (some v)->oO X.env.scope x->∃u,bU v u/\Ij X.env s.heap m x u
 cell:∀x c,X.env.cells.lookup x=some c->∃v,s.heap.IsCell c v
 free:H X.env.locals=none
 freeC:∀x c,X.env.cells.lookup x=some c->H c=none
 pin:∀p∈X.pn++R6,s.heap.get? p.1=some p.2/\H p.1=none/\p.1≠X.env.locals/\p.1∉X.fs/\∀v,p.2.data≠ .cell v
 hok:la X.prog X.w H s.heap
 len:σ.length=X.N.length
section
variable {X:Cx} {R6:List (JO×Kq)} {σ:List (Option V)} {H H':Hp} {s:JP} {h':Ka}
theorem Cx.Ok.nofr (ok:X.Ok) {b:JO} {o:Kq} (e:X.base.get? b=some o):b∉X.fs:=λhb=>by
 have:=(ok.funs.mem hb).1
 rw[e]at this;cases this
theorem aM.bs (I:aM X R6 σ H s):∀b o,X.base.get? b=some o->s.heap.get? b=some o/\H b=none:=λb o e=>
 ⟨I.base.keep b o (I.ok.bs b o e).1 (I.ok.bs b o e).2 (I.ok.nofr e) (I.ok.noex b o e),I.base.free b o (I.ok.bs b o e).1 (I.ok.bs b o e).2 (I.ok.noex b o e)⟩
theorem aM.bk (I:aM X R6 σ H s):∀b o,X.base.get? b=some o->s.heap.get? b=some o:=λb o e=>(I.bs b o e).1
theorem aM.mod (I:aM X R6 σ H s):Mod X.K X.mg X.base:=I.ok.mod
theorem aM.kIn (I:aM X R6 σ H s):X.K.In s.heap:=I.ok.mod.kin.keeps I.bk
theorem aM.lt (I:aM X R6 σ H s):X.env.locals<s.heap.objs.size:=let ⟨_,hn,_⟩:=I.loc;hn.lt
theorem aM.sz (I:aM X R6 σ H s):X.s₀.heap.objs.size<=s.heap.objs.size:=Ky I.ok.above (PH I.lt)
theorem aM.nofs (I:aM X R6 σ H s) {a:JO} (h:s.heap.objs.size<=a):a∉X.fs:=λhb=>by
 obtain⟨_,o,ho,_⟩:=I.ok.funs.mem hb
 exact absurd (Kt (K5 ho) (Ky I.sz h)) (Lb _)
theorem aM.cne (I:aM X R6 σ H s):∀x c,X.env.cells.lookup x=some c->c≠X.env.locals:=λx c e z=>by
 obtain⟨v,o,ho,hd⟩:=I.cell x c e
 obtain⟨m,⟨o',es,ep,W6,Yv,_⟩,_⟩:=I.loc
 rw[z,W6]at ho;cases ho;rw[Yv]at hd;cases hd
theorem aM.funs (I:aM X R6 σ H s):s.heap.FunFrames X.base X.outer:=by
 have all:∀(l:List Ly),(∀b∈qE l,b∈X.fs)->X.s₀.heap.FunFrames X.base l->s.heap.FunFrames X.base l:=by
  intro l
  induction l with
  |nil=>intro _ _;trivial
  |cons env r ih=>
   intro hs hl
   obtain⟨hk,⟨L,o,hf,hn,ho,hd⟩,hr⟩:=hl
   have hL:L∈X.fs:=hs L (by unfold qE;rw[M3,hf];exact K6)
   obtain⟨sl,e⟩:=I.base.slot L o ho (I.ok.frf L hL) hL λz=>I.ok.exfs L z hL
   exact⟨hk,⟨L,_,hf,hn,e,hd⟩,ih (λb hb=>hs b (by unfold qE;rw[M3,hf];exact K8 _ hb)) hr⟩
 exact all X.outer (λ_ hb=>hb) I.ok.funs
theorem aM.stack (I:aM X R6 σ H s):s.heap.FunFrames X.base X.stack:=by
 rcases I.ok.stk with e|⟨e,hf⟩
 ·rw[e];exact I.funs
 ·rw[e]
  obtain⟨m,hn,_⟩:=I.loc
  refine .cons (by rw[I.ok.kind];decide) hf hn ?_ I.funs
  exact Nm (Ky I.ok.bsz I.ok.above)
theorem aM.stkSub (I:aM X R6 σ H s):∀b∈qE X.stack,b∈X.env.locals::X.fs:=λb hb=>by
 rcases I.ok.stk with e|⟨e,hf⟩
 ·rw[e]at hb;exact K8 _ hb
 ·rw[e]at hb
  unfold qE at hb
  rw[M3,hf]at hb
  exact hb
theorem aM.stkFree (I:aM X R6 σ H s):∀b∈qE X.stack,H b=none:=λb hb=>by
 rcases K1.mp (I.stkSub b hb)with e|hb
 ·rw[e];exact I.free
 ·obtain⟨_,o,ho,_⟩:=I.ok.funs.mem hb
  exact I.base.free b o ho (I.ok.frf b hb) λz=>I.ok.exfs b z hb
theorem aM.step {g':Array O7} {t':Nat} {d':Drawn} {ch:List JO} (I:aM X R6 σ H s)
  (VW:∀b∈ch,(b∈X.ex\/X.s₀.heap.get? b=none)/\b≠X.env.locals/\(∀x c,X.env.cells.lookup x=some c->c≠b)/\∀p∈X.pn++R6,p.1≠b)
  (keep:∀b o,b≠X.env.locals->b∉X.fs->b∉ch->s.heap.get? b=some o->H b=none->h'.get? b=some o)
  (slot:∀b o,b≠X.env.locals->b∈X.fs->b∉ch->s.heap.get? b=some o->H b=none->∃sl,h'.get? b=some {o with slots:=sl}) (free:∀b o,b∉ch->s.heap.get? b=some o->H b=none->H' b=none)
  (there:∀b o,b∉ch->s.heap.get? b=some o->∃o',h'.get? b=some o')
  (tups:∀b xs,H b=some (.tup xs)->H' b=some (.tup xs)) (frzs:∀b o u,H b=some (.frz o u)->H' b=some (.frz o u)) (tbls:∀b ps,H b=some (.tbl ps)->∃more,H' b=some (.tbl (ps++more)))
  (ns:∀m,s.heap.Ns X.env.locals m->h'.Ns X.env.locals m) (hok:la X.prog X.w H' h') (hg:MV g'):
  aM X R6 σ H' {s with heap:=h',gens:=g',drawn:=d',toks:=t'}:=by
 have Wn:∀b o,X.s₀.heap.get? b=some o->b≠X.env.locals:=λb o e=>Ku (Kt (K5 e) I.ok.above)
 have neC:∀b o,X.s₀.heap.get? b=some o->b∉X.ex->b∉ch:=λb o e hx hb=>by
  rcases(VW b hb).1 with z|z
  ·exact hx z
  ·rw[e]at z;cases z
 have Wo:∀x c,X.env.cells.lookup x=some c->∀v,s.heap.IsCell c v->h'.IsCell c v:=λx c e v ⟨o,ho,hd⟩=>by
  have Xv:c∉ch:=λz=>(VW c z).2.2.1 x c e rfl
  by_cases hc:c∈X.fs
  ·obtain⟨sl,q⟩:=slot c o (I.cne x c e) hc Xv ho (I.freeC x c e)
   exact⟨_,q,hd⟩
  ·exact⟨o,keep c o (I.cne x c e) hc Xv ho (I.freeC x c e),hd⟩
 refine⟨I.ok,I.os,hg,⟨λb o e n hb hx=> ?_,λb o e n hb hx=> ?_,λb o e n hx=> ?_,λb o e hx=> ?_,λb xs e=>tups b xs (I.base.tups b xs e),λb o xs e=>frzs b o xs (I.base.frzs b o xs e),λb ps e=> ?_⟩,?_,λx c e=> ?_,?_,λx c e=> ?_,λp hp=> ?_,hok,I.len⟩
 ·exact keep b o (Wn b o e) hb (neC b o e hx) (I.base.keep b o e n hb hx) (I.base.free b o e n hx)
 ·obtain⟨sl,e1⟩:=I.base.slot b o e n hb hx
  obtain⟨Wm,e2⟩:=slot b _ (Wn b o e) hb (neC b o e hx) e1 (I.base.free b o e n hx)
  exact⟨Wm,e2⟩
 ·obtain⟨o',e1⟩:=I.base.there b o e hx
  exact free b o' (neC b o e hx) e1 (I.base.free b o e n hx)
 ·obtain⟨o',e1⟩:=I.base.there b o e hx
  exact there b o' (neC b o e hx) e1
 ·obtain⟨m1,e1⟩:=I.base.tbls b ps e
  obtain⟨m2,e2⟩:=tbls b _ e1
  exact⟨m1++m2,by rw[e2,PD]⟩
 ·obtain⟨m,hn,hl⟩:=I.loc
  refine⟨m,ns m hn,λi x v e1 e2 e3=> ?_⟩
  obtain⟨u,r,l⟩:=hl i x v e1 e2 e3
  refine⟨u,r,?_⟩
  rcases l with l|⟨k,c,e,z⟩
  ·exact .inl l
  ·exact .inr ⟨k,c,e,Wo x c e _ z⟩
 ·obtain⟨v,z⟩:=I.cell x c e
  exact⟨v,Wo x c e v z⟩
 ·obtain⟨m,⟨o,_,_,ho,_⟩,_⟩:=I.loc
  exact free _ o (λz=>(VW _ z).2.1 rfl) ho I.free
 ·obtain⟨v,o,ho,hd⟩:=I.cell x c e
  exact free c o (λz=>(VW c z).2.2.1 x c e rfl) ho (I.freeC x c e)
 ·obtain⟨e,n,ne,nf,d⟩:=I.pin p hp
  have Xv:p.1∉ch:=λz=>(VW p.1 z).2.2.2 p hp rfl
  exact⟨keep p.1 p.2 ne nf Xv e n,free p.1 p.2 Xv e n,ne,nf,d⟩
theorem aM.un {t':Nat} (I:aM X R6 σ H s) (u:Un X.fs [] H H' s.heap h') (hok:la X.prog X.w H' h'):aM X R6 σ H' {s with heap:=h',toks:=t'}:=by
 obtain⟨m,⟨o,es,ep,ho,r⟩,_⟩:=id I.loc
 obtain⟨sl,hL⟩:=u.any ho I.free (by simp)
 exact I.step (g':=s.gens) (d':=s.drawn) (ch:=[]) (λ_ z=>nomatch z) (λb o _ hb _ e n=>u.keep b o e n hb (by simp)) (λb o _ hb _ e n=>u.slot b o e n hb (by simp)) (λb o _ e n=>u.free b o e n (by simp)) (λb o _ e=>u.there b o e (by simp)) u.tups u.frzs u.tbls (λm' hm=>by
  obtain⟨o',Yw,Yx,W6,r'⟩:=hm
  rw[ho]at W6;cases W6
  exact⟨_,Yw,Yx,hL,r'⟩) hok I.bare
theorem aM.call {g':Array O7} {t':Nat} {d':Drawn} {ch:List JO} (I:aM X R6 σ H s) (u:Un (qE X.stack) ch H H' s.heap h') (hok:la X.prog X.w H' h') (hg:MV g')
  (VW:∀b∈ch,(b∈X.ex\/X.s₀.heap.objs.size<=b)/\b≠X.env.locals/\(∀x c,X.env.cells.lookup x=some c->c≠b)/\∀p∈X.pn++R6,p.1≠b):
  aM X R6 σ H' {s with heap:=h',gens:=g',drawn:=d',toks:=t'}:=by
 obtain⟨m,⟨o,es,ep,ho,r⟩,_⟩:=id I.loc
 obtain⟨sl,hL⟩:=u.any ho I.free λz=>(VW _ z).2.1 rfl
 exact I.step (ch:=ch) (λb hb=>⟨(VW b hb).1.imp id Nm,(VW b hb).2⟩) (λb o hL hb hc e n=>u.keep b o e n (λz=>(K1.mp (I.stkSub b z)).elim hL hb) hc) (λb o _ _ hc e n=>u.any e n hc) (λb o hc e n=>u.free b o e n hc) (λb o hc e=>u.there b o e hc) u.tups u.frzs u.tbls (λm' hm=>by
  obtain⟨o',Yw,Yx,W6,r'⟩:=hm
  rw[ho]at W6;cases W6
  exact⟨_,Yw,Yx,hL,r'⟩) hok hg
theorem aM.turned {t':Nat} {it:JO} (I:aM X R6 σ H s) (k:∀b o,b≠it->s.heap.get? b=some o->h'.get? b=some o) (hn:H it=none) (hL:it≠X.env.locals)
  (h1:it∈X.ex\/X.s₀.heap.objs.size<=it) (h2:∀x c,X.env.cells.lookup x=some c->c≠it) (h3:∀p∈X.pn++R6,p.1≠it):aM X R6 σ H {s with heap:=h',toks:=t'}:=by
 have ZL:∀b u,H b=some u->b≠it:=λb u e z=>by rw[z,hn]at e;cases e
 refine I.step (g':=s.gens) (d':=s.drawn) (ch:=[it]) (λb hb=> ?_) (λb o _ _ hc e _=>k b o (λz=>hc (by simp[z])) e) (λb o _ _ hc e _=>⟨o.slots,k b o (λz=>hc (by simp[z])) e⟩) (λ_ _ _ _ n=>n)
  (λb o hc e=>⟨o,k b o (λz=>hc (by simp[z])) e⟩) (λ_ _ e=>e) (λ_ _ _ e=>e) (λb ps e=>⟨#[],by rw[e];simp⟩) (λm hm=> ?_) (λb u e=> ?_) I.bare
 ·have e:b=it:=by simpa using hb
  subst e
  exact⟨h1.imp id Nm,hL,h2,h3⟩
 ·obtain⟨o,es,ep,ho,r⟩:=hm
  exact⟨o,es,ep,k _ o (Lz hL) ho,r⟩
 ·refine(I.hok b u e).stay (λc v hc q=>k c v ?_ q) (λ_ q=>q) λ_ _ q=>q
  rcases hc with z|z
  ·rw[z];exact ZL b u e
  ·exact ZL c _ z
theorem aM.tok (I:aM X R6 σ H s) (t:Nat):aM X R6 σ H {s with toks:=t}:=I.un (h':=s.heap) (t':=t) Un.refl I.hok
theorem aM.kept {t':Nat} (I:aM X R6 σ H s) (k:∀b u,s.heap.get? b=some u->h'.get? b=some u):aM X R6 σ H {s with heap:=h',toks:=t'}:=I.un (Un.kept k) (I.hok.kept k)
theorem aM.laid {a:JO} {o:HO} {t':Nat} (I:aM X R6 σ H s) (k:∀b u,s.heap.get? b=some u->h'.get? b=some u) (hp:s.heap.objs.size<=a) (new:ce X.prog X.w (bY H a o) h' a o):
  aM X R6 σ (bY H a o) {s with heap:=h',toks:=t'}:=I.un (Un.laid k hp (I.hok.fresh hp)) (I.hok.laid k hp new)
theorem aM.write {x e:JO} {o:HO} {t':Nat} (I:aM X R6 σ H s) (mu:Gy (H x)) (he:e=x\/H e=some (.own x)) (k:∀b u,b≠e->s.heap.get? b=some u->h'.get? b=some u) (Xk:∃u,h'.get? e=some u)
  (new:ce X.prog X.w (bY H x o) h' x o):aM X R6 σ (bY H x o) {s with heap:=h',toks:=t'}:=I.un (Un.write mu he k Xk) (I.hok.write mu he k Xk new)
theorem aM.pins_of {Th:List (JO×Kq)} (I:aM X R6 σ H s) (h:∀p∈Th,s.heap.get? p.1=some p.2/\H p.1=none/\p.1≠X.env.locals/\p.1∉X.fs/\∀v,p.2.data≠ .cell v):aM X Th σ H s:=
 ⟨I.ok,I.os,I.bare,I.base,I.loc,I.cell,I.free,I.freeC,λp hp=>(KH.mp hp).elim (λz=>I.pin p (L4 _ z)) (h p),I.hok,I.len⟩
theorem qS {N:List JN} (hN:N.Nodup) {i j:Nat} {x:JN} (a:N[i]? =some x) (b:N[j]? =some x):i=j:=by
 obtain⟨h1,e1⟩:=K9.mp a
 obtain⟨h2,e2⟩:=K9.mp b
 exact(O8 hN).mp (e1.trans e2.symm)
theorem zh {M:Q9} {A:Kl} {E:JM->JP->Prop} {i:Nat} {x:JN} {v:V} {u:JM} {Q:Unit->JP->Prop} (I:aM X R6 σ H s) (hN:X.N.Nodup) (hi:X.N[i]? =some x) (hx:zg X.env.scope x) (r:bU v u)
  (h:∀s',aM X R6 (σ.set i (some v)) H s'->(∃a,O9 a s.heap s'.heap/\(a=X.env.locals\/X.env.cells.lookup x=some a))->Q () s') (hf:X.fn x=true\/X.env.scope.names.lookup x=some .local:=by first|exact .inl rfl|exact .inr rfl|assumption):JZ M A (storeName X.env x u) Q E s:=by
 obtain⟨m,hn,hl⟩:=id I.loc
 have Yy:(X.env.scope.kind== .class||(X.env.scope.kind== .module&&X.env.locals != X.env.globals))=false:=by rw[I.ok.kind];rfl
 have ZM:i<σ.length:=by rw[I.len];exact(K9.mp hi).1
 have cne:=I.cne
 have Vu:∀{a:JO} {h':Ka},(∃o,s.heap.get? a=some o/\H a=none)->O9 a s.heap h'->la X.prog X.w H h':=λ{a h'} ha hs b ob e=>by
  obtain⟨_,_,Wq⟩:=ha
  refine(I.hok b ob e).stay (λc w' hc q=>(hs.2 c ?_).trans q) (λ_ q=>q) λ_ _ q=>q
  rintro rfl
  rcases hc with rfl|hc
  ·rw[Wq]at e;cases e
  ·rw[Wq]at hc;cases hc
 rcases hx with hk|hk
 ·refine wpAny_storeName_local hk hn (λh' Yz hs=> ?_) Yy
  obtain⟨oL,_,_,VF,_⟩:=id hn
  refine h _ ⟨I.ok,I.os,I.bare,⟨λb o e n hb hx=> ?_,λb o e n hb hx=> ?_,I.base.free,λb o e hx=> ?_,I.base.tups,I.base.frzs,I.base.tbls⟩,⟨_,Yz,λj y v' e1 e2 e3=> ?_⟩,λy c e=> ?_,I.free,I.freeC,λp hp=> ?_,Vu ⟨oL,VF,I.free⟩ hs,by simpa using I.len⟩ ⟨_,hs, .inl rfl⟩
  ·exact(hs.2 b (Ku (Kt (K5 e) I.ok.above))).trans (I.base.keep b o e n hb hx)
  ·obtain⟨sl,e1⟩:=I.base.slot b o e n hb hx
   exact⟨sl,(hs.2 b (Ku (Kt (K5 e) I.ok.above))).trans e1⟩
  ·obtain⟨o',e1⟩:=I.base.there b o e hx
   exact⟨o',(hs.2 b (Ku (Kt (K5 e) I.ok.above))).trans e1⟩
  ·by_cases hj:j=i
   ·subst hj
    rw[hi]at e1;cases e1
    rw[OP ZM]at e2
    cases e2
    exact⟨u,r, .inl ⟨hk,by simp⟩⟩
   ·rw[Nn (Lz hj)]at e2
    obtain⟨u',r',q⟩:=hl j y v' e1 e2 e3
    refine⟨u',r',?_⟩
    rcases q with ⟨k,e⟩|⟨k,c,e,z⟩
    ·refine .inl ⟨k,?_⟩
     have:y≠x:=λe=>hj (qS hN e1 (e▸hi))
     simp[this,e]
    ·exact .inr ⟨k,c,e,z.sameBut hs (cne y c e)⟩
  ·obtain⟨w',z⟩:=I.cell y c e
   exact⟨w',z.sameBut hs (cne y c e)⟩
  ·obtain⟨e,n,ne,nf,d⟩:=I.pin p hp
   exact⟨(hs.2 p.1 ne).trans e,n,ne,nf,d⟩
 ·have YA:X.fn x=true:=by
   rcases hf with z|z
   ·exact z
   ·rw[z]at hk;cases hk
  obtain⟨c,hc⟩:=I.ok.has x (.inl hk)
  obtain⟨w',z⟩:=I.cell x c hc
  refine wpAny_storeName_cell I.ok.kind hk hc z (λh' ZN hs=> ?_)
  obtain⟨oc,ZO,YB⟩:=id z
  refine h {s with heap:=h'} ⟨I.ok,I.os,I.bare,⟨λb o e n hb hx=> ?_,λb o e n hb hx=> ?_,I.base.free,λb o e hx=> ?_,I.base.tups,I.base.frzs,I.base.tbls⟩,⟨m,hn.sameBut hs (Lz (cne x c hc)),λj y v' e1 e2 e3=> ?_⟩,λy c' e=> ?_,I.free,I.freeC,λp hp=> ?_,Vu ⟨oc,ZO,I.freeC x c hc⟩ hs,by simpa using I.len⟩ ⟨c,hs, .inr hc⟩
  ·exact(hs.2 b (Ku (Kt (K5 e) (I.ok.cab x c YA hc)))).trans (I.base.keep b o e n hb hx)
  ·obtain⟨sl,e1⟩:=I.base.slot b o e n hb hx
   exact⟨sl,(hs.2 b (Ku (Kt (K5 e) (I.ok.cab x c YA hc)))).trans e1⟩
  ·obtain⟨o',e1⟩:=I.base.there b o e hx
   exact⟨o',(hs.2 b (Ku (Kt (K5 e) (I.ok.cab x c YA hc)))).trans e1⟩
  ·by_cases hj:j=i
   ·subst hj
    rw[hi]at e1;cases e1
    rw[OP ZM]at e2
    cases e2
    exact⟨u,r, .inr ⟨.inl hk,c,hc,ZN⟩⟩
   ·rw[Nn (Lz hj)]at e2
    obtain⟨u',r',q⟩:=hl j y v' e1 e2 e3
    refine⟨u',r',?_⟩
    rcases q with q|⟨k,c',e,z'⟩
    ·exact .inl q
    ·refine .inr ⟨k,c',e,z'.sameBut hs ?_⟩
     rintro rfl
     exact hj (qS hN e1 (I.ok.inj _ _ _ e hc▸hi))
  ·by_cases ZP:c'=c
   ·subst ZP;exact⟨_,ZN⟩
   ·obtain⟨w2,z2⟩:=I.cell y c' e
    exact⟨w2,z2.sameBut hs ZP⟩
  ·obtain⟨e,n,ne,nf,d⟩:=I.pin p hp
   refine⟨(hs.2 p.1 ?_).trans e,n,ne,nf,d⟩
   intro q
   rw[q,ZO]at e
   have q':oc=p.2:=KQ e
   exact d w' (by rw[<-q'];exact YB)
theorem qT {M:Q9} {A:Kl} {E:JM->JP->Prop} {i:Nat} {x:JN} {v:V} {u:JM} {Q:Unit->JP->Prop} (I:aM X R6 σ H s) (hN:X.N.Nodup) (hi:X.N[i]? =some x) (hx:zg X.env.scope x) (r:bU v u)
  (h:∀s',aM X R6 (σ.set i (some v)) H s'->Q () s') (hf:X.fn x=true\/X.env.scope.names.lookup x=some .local:=by first|exact .inl rfl|exact .inr rfl|assumption):JZ M A (storeName X.env x u) Q E s:=
 zh I hN hi hx r (λs' I' _=>h s' I') hf
theorem aM.call' {s':JP} {ch:List JO} (I:aM X R6 σ H s) (ho:s'.os=s.os) (u:Un (qE X.stack) ch H H' s.heap s'.heap) (hok:la X.prog X.w H' s'.heap) (hg:MV s'.gens)
  (VW:∀b∈ch,(b∈X.ex\/X.s₀.heap.objs.size<=b)/\b≠X.env.locals/\(∀x c,X.env.cells.lookup x=some c->c≠b)/\∀p∈X.pn++R6,p.1≠b):aM X R6 σ H' s':=by
 obtain⟨h',g',d',t',o'⟩:=s'
 have e:o'=s.os:=ho
 subst e
 exact I.call (g':=g') (t':=t') (d':=d') u hok hg VW
end
abbrev XK:=JM->Option JO->Hp->Prop
abbrev St:=List (Option V)
abbrev VK:=V->Hp->Prop
abbrev TE:=St->Hp->VK->Prop
abbrev TT:=St->Hp->(Bool->Hp->Prop)->Prop
abbrev TA:=St->Hp->(List V->Hp->Prop)->Prop
structure nM where
 nx:St->Hp->Prop
 rt:VK
 bk:St->Hp->Prop:=λ_ _=>False
 ct:St->Hp->Prop:=λ_ _=>False
abbrev TS:=nM->St->Hp->Prop
def EP (X:Cx) (R6:List (JO×Kq)) (σ:St) (Q:VK) (u:JM) (s':JP):Prop:=∃v H',aM X R6 σ H' s'/\bU v u/\Q v H'
def TP (X:Cx) (R6:List (JO×Kq)) (σ:St) (Q:Bool->Hp->Prop) (b:Bool) (s':JP):Prop:=∃H',aM X R6 σ H' s'/\Q b H'
def AP (X:Cx) (R6:List (JO×Kq)) (σ:St) (Q:List V->Hp->Prop) (us:List JM) (s':JP):Prop:=∃vs H',aM X R6 σ H' s'/\bi vs us/\Q vs H'
def SP (X:Cx) (R6:List (JO×Kq)) (D:nM) (f:Flow) (s':JP):Prop:=
 match f with
 | .next=>∃σ' H',aM X R6 σ' H' s'/\D.nx σ' H'
 | .brk=>∃σ' H',aM X R6 σ' H' s'/\D.bk σ' H'
 | .cont=>∃σ' H',aM X R6 σ' H' s'/\D.ct σ' H'
 | .ret u=>∃v σ' H',aM X R6 σ' H' s'/\bU v u/\D.rt v H'
def PE (X:Cx) (e:JW) (t:TE):Prop:=
 ∀(R6:List (JO×Kq)) (s:JP) (σ:St) (H:Hp) (Q:VK),aM X R6 σ H s->t σ H Q->JZ (K2 X.prog X.w) X.A (Kb e X.env) (EP X R6 σ Q) X.xe s
def PT (X:Cx) (e:JW) (t:TT):Prop:=
 ∀(R6:List (JO×Kq)) (s:JP) (σ:St) (H:Hp) (Q:Bool->Hp->Prop),aM X R6 σ H s->t σ H Q->JZ (K2 X.prog X.w) X.A (OY e X.env (Kb e X.env)) (TP X R6 σ Q) X.xe s
def PW (X:Cx) (e:JW) (t:TT):Prop:=
 ∀(SG:N5 JM) (R6:List (JO×Kq)) (s:JP) (σ:St) (H:Hp) (Q:Bool->Hp->Prop),aM X R6 σ H s->t σ H Q->JZ (K2 X.prog X.w) X.A (OY e X.env SG) (TP X R6 σ Q) X.xe s
theorem PW.pt {X:Cx} {e:JW} {t:TT} (h:PW X e t):PT X e t:=h _
def PA (X:Cx) (es:List JW) (t:TA):Prop:=
 ∀(pos:KC) (R6:List (JO×Kq)) (s:JP) (σ:St) (H:Hp) (Q:List V->Hp->Prop),aM X R6 σ H s->t σ H Q->JZ (K2 X.prog X.w) X.A (QK (Ks pos (JS es X.env))) (AP X R6 σ Q) X.xe s
def PS (X:Cx) (st:Ke) (t:TS):Prop:=
 ∀(R6:List (JO×Kq)) (s:JP) (σ:St) (H:Hp) (D:nM),aM X R6 σ H s->t D σ H->JZ (K2 X.prog X.w) X.A (exec st X.env) (SP X R6 D) X.xe s
def sB (X:Cx) (st:List Ke) (t:TS):Prop:=
 ∀(R6:List (JO×Kq)) (s:JP) (σ:St) (H:Hp) (D:nM),aM X R6 σ H s->t D σ H->JZ (K2 X.prog X.w) X.A (execs st X.env) (SP X R6 D) X.xe s
theorem d0 {α:Type} {t:N5 α} {Q Q':α->JP->Prop} {M:Q9} {A:Kl} {E:JM->JP->Prop} {s:JP} (h:JZ M A t Q E s) (hQ:∀a s,Q a s->Q' a s):JZ M A t Q' E s:=LC h hQ λ_ _ x=>x
end L2
namespace L2
open PySem PySem.Spec PyProof.Rows
section
variable {X:Cx}
def Aw (i:Nat):TE:=λσ H Q=>∃v,σ[i]? =some (some v)/\Q v H
def tC (v:V):TE:=λ_ H Q=>Q v H
theorem EA {i:Nat} {x:JN} {pos:KC} (hN:X.N[i]? =some x) (hv:oO X.env.scope x) (hd:(x==("__debug__":JN))=false:=by decide) (Sl:(x==("__classdict__":JN))=false:=by decide):PE X (.Name x pos) (Aw i):=by
 intro R6 s σ H Q I h
 obtain⟨v,e,h⟩:=h
 obtain⟨m,hn,hl⟩:=I.loc
 obtain⟨u,r,l⟩:=hl i x v hN e hv
 have SH:EP X R6 σ Q u s:=⟨v,H,I,r,h⟩
 rcases l with ⟨hk,hm⟩|⟨hk,c,hc,Vv⟩
 ·exact Qx (wpAny_loadName_local I.ok.kind hk hn hm SH) hd
 ·rcases hk with hk|hk
  ·exact Qx (wpAny_loadName_cell I.ok.kind hk hc Vv SH) hd
  ·exact Qx (wpAny_loadName_free I.ok.kind hk hc Vv SH Sl) hd
theorem Ax {i j pos}:PE X (.Constant (.int i) j pos) (tC (.int i)):=λ_ _ _ H _ I h=>wpAny_Constant_int ⟨.int i,H,I.tok _,⟨_,rfl⟩,h⟩
theorem Gz {b j pos}:PE X (.Constant (.bool b) j pos) (tC (.bl b)):=λ_ _ _ H _ I h=>Constant_bool ⟨.bl b,H,I,rfl,h⟩
theorem EB {j pos}:PE X (.Constant .none j pos) (tC .non):=λ_ _ _ H _ I h=>Constant_none ⟨.non,H,I,rfl,h⟩
theorem EC {x j pos}:PE X (.Constant (.str x) j pos) (tC (.str x)):=λ_ _ _ H _ I h=>Calls.Constant_str ⟨.str x,H,I.tok _,⟨_,rfl⟩,h⟩
def Gl (X:Cx) (x:JN):Prop:=X.env.kindOf x=some .globalImplicit
theorem nN {E:JM->JP->Prop} {R6:List (JO×Kq)} {s:JP} {σ:St} {H:Hp} {x:JN} {u:JM} {pos:KC} {Q:JM->JP->Prop} (I:aM X R6 σ H s) (hg:Gl X x) (hm:X.mg x=some u) (h:Q u s)
  (hd:(x==("__debug__":JN))=false:=by decide):JZ (K2 X.prog X.w) X.A (Kb (.Name x pos) X.env) Q E s:=
 NJ I.ok.kind hg (Calls.loadGlobal_global (by rw[I.ok.glob];exact I.mod.glob.keeps I.bk) hm h) hd
theorem oP {E:JM->JP->Prop} {R6:List (JO×Kq)} {s:JP} {σ:St} {H:Hp} {x:JN} {u:JM} {pos:KC} {Q:JM->JP->Prop} (I:aM X R6 σ H s) (hg:Gl X x) (hm:X.mg x=none) (hv:KA x=some u) (h:Q u s)
  (hn:x≠"__name__":=by decide) (hd:(x==("__debug__":JN))=false:=by decide):JZ (K2 X.prog X.w) X.A (Kb (.Name x pos) X.env) Q E s:=by
 obtain⟨mb,h1,h2⟩:=I.mod.blt
 exact NJ I.ok.kind hg (Calls.loadGlobal_builtin (by rw[I.ok.glob];exact I.mod.glob.keeps I.bk) hm (by rw[I.ok.blt];exact h1.keeps I.bk) ((h2 x hn).trans hv) h) hd
theorem xT {x:JN} {v:V} {u:JM} {pos:KC} (hg:Gl X x) (hm:X.mg x=some u) (r:bU v u) (hd:(x==("__debug__":JN))=false:=by decide):PE X (.Name x pos) (tC v):=
 λ_ _ _ H _ I h=>nN I hg hm ⟨v,H,I,r,h⟩ hd
theorem xU {x:JN} {v:V} {u:JM} {pos:KC} (hg:Gl X x) (hm:X.mg x=none) (hv:KA x=some u) (r:bU v u) (hn:x≠"__name__":=by decide) (hd:(x==("__debug__":JN))=false:=by decide):PE X (.Name x pos) (tC v):=
 λ_ _ _ H _ I h=>oP I hg hm hv ⟨v,H,I,r,h⟩ hn hd
variable {a b:JW} {ta tb:TE} {pos:KC}
def PC (X:Cx) (op:Pb) (a b:JW) (t:TE):Prop:=
 ∀(R6:List (JO×Kq)) (s:JP) (σ:St) (H:Hp) (Q:VK),aM X R6 σ H s->t σ H Q->
  JZ (K2 X.prog X.w) X.A (Kb a X.env) (λv s₁=>JZ (K2 X.prog X.w) X.A (Kb b X.env) (λu s₂=>JZ (K2 X.prog X.w) X.A (Lo op v u) (EP X R6 σ Q) X.xe s₂) X.xe s₁) X.xe s
def tB (t:TE):TT:=λσ H Q=>t σ H λx H1=>∃c,x= .bl c/\Q c H1
theorem Ay {op:Pb} {t:TE} (h:PC X op a b t) (h1:Lg op b=false:=by first|exact nobehind _ (by decide) (by decide)|rfl):PE X (.Compare a [op] [b] pos) t:=λR6 s σ H Q I hw=>wpAny_Compare1 (h R6 s σ H Q I hw) h1
theorem Az {op:Pb} {t:TE} (h:PC X op a b t) (h1:Lg op b=false:=by first|exact nobehind _ (by decide) (by decide)|rfl):PT X (.Compare a [op] [b] pos) (tB t):=by
 intro R6 s σ H Q I hw
 refine OZ (d0 (h R6 s σ H _ I hw) λv s1 h1=>d0 h1 λu s2 h2=>d0 h2 λc s3 z_=> ?_) h1
 obtain⟨x,H1,I1,r1,q1⟩:=z_
 obtain⟨d,rfl,q⟩:=q1
 cases r1
 exact Lv ⟨H1,I1,q⟩
theorem ED {e:JW} {t:TE} (h:PE X e t) (he:∀SG,OY e X.env SG=(do let v<-SG;M7 e.pos;LI [v] (Qy v)):=by intro _;rfl):PT X e (tB t):=by
 intro R6 s σ H Q I hw
 refine isTrue_plain (d0 (h R6 s σ H _ I hw) λv s1 z_=> ?_) (he _)
 obtain⟨x,H1,I1,r1,q1⟩:=z_
 obtain⟨d,rfl,q⟩:=q1
 cases r1
 exact Lv ⟨H1,I1,q⟩
variable {tA tB':TT} {rest:List JW}
def Ik (t u:TT):TT:=λσ H Q=>t σ H λc H1=>if c=true then u σ H1 Q else Q false H1
def Jq (t u:TT):TT:=λσ H Q=>t σ H λc H1=>if c=true then Q true H1 else u σ H1 Q
def Il (t:TT):TT:=λσ H Q=>t σ H λc H1=>Q (!c) H1
theorem CI (ha:PT X a tA):PW X (.BoolOp .And [a] pos) tA:=by
 intro wh R6 s σ H Q I h
 refine isTrue_and (d0 (ha R6 s σ H Q I h) λc s1 e=> ?_)
 cases c with
 |true=>exact isTrue_and_nil e
 |false=>exact e
theorem EE (ha:PT X a tA):PW X (.BoolOp .Or [a] pos) tA:=by
 intro wh R6 s σ H Q I h
 refine isTrue_or (d0 (ha R6 s σ H Q I h) λc s1 e=> ?_)
 cases c with
 |false=>exact isTrue_or_nil e
 |true=>exact e
theorem EF (ha:PT X a tA) (hb:PW X (.BoolOp .And (b::rest) pos) tB'):PW X (.BoolOp .And (a::b::rest) pos) (Ik tA tB'):=by
 intro wh R6 s σ H Q I h
 refine isTrue_and (d0 (ha R6 s σ H _ I h) λc s1 z_=> ?_)
 obtain⟨H1,I1,q1⟩:=z_
 cases c with
 |true=>exact hb wh R6 s1 σ H1 Q I1 q1
 |false=>exact⟨H1,I1,q1⟩
theorem GA (ha:PT X a tA) (hb:PW X (.BoolOp .Or (b::rest) pos) tB'):PW X (.BoolOp .Or (a::b::rest) pos) (Jq tA tB'):=by
 intro wh R6 s σ H Q I h
 refine isTrue_or (d0 (ha R6 s σ H _ I h) λc s1 z_=> ?_)
 obtain⟨H1,I1,q1⟩:=z_
 cases c with
 |true=>exact⟨H1,I1,q1⟩
 |false=>exact hb wh R6 s1 σ H1 Q I1 q1
theorem AA (ha:PT X a tA):PT X (.UnaryOp .Not a pos) (Il tA):=by
 intro R6 s σ H Q I h
 exact isTrue_not (ha R6 s σ H (λc H1=>Q (!c) H1) I h)
def GB (ta tb:TE):TE:=λσ H Q=>ta σ H λx H1=>∃c,x= .bl c/\if c=true then tb σ H1 Q else Q (.bl false) H1
def Im (ta tb:TE):TE:=λσ H Q=>ta σ H λx H1=>∃c,x= .bl c/\if c=true then Q (.bl true) H1 else tb σ H1 Q
def GC (ta:TE):TE:=λσ H Q=>ta σ H λx H1=>∃c,x= .bl c/\Q (.bl (!c)) H1
theorem EG {op} {t:TE} (h:PE X a t):PE X (.BoolOp op [a] pos) t:=λR6 s σ H Q I hw=>BoolOp_one (h R6 s σ H Q I hw)
theorem EH (ha:PE X a ta) (hb:PE X (.BoolOp .And (b::rest) pos) tb):PE X (.BoolOp .And (a::b::rest) pos) (GB ta tb):=by
 intro R6 s σ H Q I h
 refine BoolOp_and (d0 (ha R6 s σ H _ I h) λv s1 z_=> ?_)
 obtain⟨x,H1,I1,r1,q1⟩:=z_
 obtain⟨c,rfl,q1⟩:=q1
 cases r1
 refine Lv ?_
 cases c with
 |true=>exact hb R6 s1 σ H1 Q I1 q1
 |false=>exact⟨.bl false,H1,I1,rfl,q1⟩
theorem GD (ha:PE X a ta) (hb:PE X (.BoolOp .Or (b::rest) pos) tb):PE X (.BoolOp .Or (a::b::rest) pos) (Im ta tb):=by
 intro R6 s σ H Q I h
 refine BoolOp_or (d0 (ha R6 s σ H _ I h) λv s1 z_=> ?_)
 obtain⟨x,H1,I1,r1,q1⟩:=z_
 obtain⟨c,rfl,q1⟩:=q1
 cases r1
 refine Lv ?_
 cases c with
 |false=>exact hb R6 s1 σ H1 Q I1 q1
 |true=>exact⟨.bl true,H1,I1,rfl,q1⟩
theorem EI (ha:PE X a ta):PE X (.UnaryOp .Not a pos) (GC ta):=by
 intro R6 s σ H Q I h
 refine UnaryOp_ (d0 (ha R6 s σ H _ I h) λv s1 z_=> ?_)
 obtain⟨x,H1,I1,r1,q1⟩:=z_
 obtain⟨c,rfl,q1⟩:=q1
 cases r1
 exact not_of (Lv ⟨.bl (!c),H1,I1,rfl,q1⟩)
end
end L2
namespace L2
open PySem PySem.Spec PyProof.Rows
def dS (K:JL) (H:Hp) (a:JO) (xs:List V):Prop:=
 Rd H a (.lst xs)\/
  ∃(o:Kq) (its:Array JM) (n:Nat),K.lookup a=some o/\o.cls= .type "list"/\o.dict=none/\o.data= .seq its n/\its.size<=sizeLine/\bi xs its.toList
def iE (K:JL) (H:Hp) (a:JO) (xs:List V):Prop:=
 Rd H a (.tup xs)\/
  ∃(o:Kq) (its:Array JM) (n:Nat),K.lookup a=some o/\o.cls= .type "tuple"/\o.data= .seq its n/\its.size<=sizeLine/\bi xs its.toList
def Io:JM->Option V
 | .none=>some .non
 | .bool b=>some (.bl b)
 | .int i _=>some (.int i)
 | .str x _=>some (.str x)
 | .bytes b _=>some (.byt b)
 | .float b _=>some (.flt b)
 | .ref a=>some (.ref a)
 | .type n=>some (.ty n)
 |_=>none
theorem bU.abs {x:V} {u:JM} (r:bU x u):Io u=some x:=by
 cases x with
 |non=>cases r;rfl
 |bl _=>cases r;rfl
 |int _=>obtain⟨t,rfl⟩:=r;rfl
 |str _=>obtain⟨t,rfl⟩:=r;rfl
 |byt _=>obtain⟨t,rfl⟩:=r;rfl
 |flt _=>obtain⟨t,rfl⟩:=r;rfl
 |ref _=>cases r;rfl
 |ty _=>cases r;rfl
theorem bU.inj {x y:V} {u:JM} (r:bU x u) (q:bU y u):x=y:=KQ (r.abs.symm.trans q.abs)
theorem bi.inj:∀{xs ys:List V} {us:List JM},bi xs us->bi ys us->xs=ys
 |_,_,_, .nil, .nil=>rfl
 |_,_,_, .cons r t, .cons r' t'=>by rw[r.inj r',bi.inj t t']
section
variable {X:Cx} {R6:List (JO×Kq)} {σ:St} {H:Hp} {s:JP} {a:JO} {xs ys:List V}
theorem dS.of {K:JL} (h:H a=some (.lst xs)):dS K H a xs:= .inl (.inl h)
theorem iE.of {K:JL} (h:H a=some (.tup xs)):iE K H a xs:= .inl (.inl h)
theorem aM.list (I:aM X R6 σ H s) (h:dS X.K H a xs):∃its:List JM,bi xs its/\PlainL s.heap a its.toArray/\xs.length<=sizeLine:=by
 rcases h with h|⟨o,its,n,hk,hc,hd,hs,hz,r⟩
 ·obtain⟨z,its,n,r,e⟩:=h.ok I.hok
  exact⟨its,r,⟨_,n,e,rfl,rfl,rfl⟩,z⟩
 ·refine⟨its.toList,r,⟨o,n,I.kIn a o hk,hc,hd,by simpa using hs⟩,?_⟩
  have e:=r.length
  simp only[Lw]at e
  omega
theorem aM.tuple (I:aM X R6 σ H s) (h:iE X.K H a xs):∃its:List JM,bi xs its/\Pa s.heap a its.toArray/\xs.length<=sizeLine:=by
 rcases h with h|⟨o,its,n,hk,hc,hs,hz,r⟩
 ·obtain⟨z,its,r,p⟩:=h.ok I.hok
  exact⟨its,r,p.tup,z⟩
 ·refine⟨its.toList,r,⟨o,I.kIn a o hk,hc,n,by simpa using hs⟩,?_⟩
  have e:=r.length
  simp only[Lw]at e
  omega
theorem aM.list_inj (I:aM X R6 σ H s) (h:dS X.K H a xs) (h':dS X.K H a ys):xs=ys:=by
 obtain⟨its,r,⟨o,n,e,_,_,d⟩,_⟩:=I.list h
 obtain⟨its',r',⟨o',n',e',_,_,d'⟩,_⟩:=I.list h'
 rw[e]at e';cases e'
 rw[d]at d'
 injection d' with d1 _
 have:its=its':=by simpa using congrArg QY d1
 subst this
 exact r.inj r'
theorem aM.tuple_inj (I:aM X R6 σ H s) (h:iE X.K H a xs) (h':iE X.K H a ys):xs=ys:=by
 obtain⟨its,r,⟨o,e,_,n,d⟩,_⟩:=I.tuple h
 obtain⟨its',r',⟨o',e',_,n',d'⟩,_⟩:=I.tuple h'
 rw[e]at e';cases e'
 rw[d]at d'
 injection d' with d1 _
 have:its=its':=by simpa using congrArg QY d1
 subst this
 exact r.inj r'
end
abbrev Cx.wish (X:Cx) (E:JM->JP->Prop):Cx:={X with xe:=E}
abbrev Cx.nox (X:Cx):Cx:=X.wish λ_ _=>False
theorem Cx.Ok.wish {X:Cx} (ok:X.Ok) (E:JM->JP->Prop):(X.wish E).Ok:=
 ⟨ok.mod,ok.kind,ok.glob,ok.blt,ok.above,ok.inj,ok.has,ok.cab,ok.hd,ok.frames,ok.stk,ok.exf,ok.bs,ok.bsz,ok.noex,ok.exfs,ok.funs,ok.frf⟩
theorem Cx.Ok.unwish {X:Cx} {E:JM->JP->Prop} (ok:(X.wish E).Ok):X.Ok:=
 ⟨ok.mod,ok.kind,ok.glob,ok.blt,ok.above,ok.inj,ok.has,ok.cab,ok.hd,ok.frames,ok.stk,ok.exf,ok.bs,ok.bsz,ok.noex,ok.exfs,ok.funs,ok.frf⟩
section
variable {X:Cx} {R6:List (JO×Kq)} {σ:St} {H:Hp} {s:JP} {E:JM->JP->Prop}
theorem aM.wish (I:aM X R6 σ H s) (E:JM->JP->Prop):aM (X.wish E) R6 σ H s:=⟨I.ok.wish E,I.os,I.bare,I.base,I.loc,I.cell,I.free,I.freeC,I.pin,I.hok,I.len⟩
theorem aM.unwish (I:aM (X.wish E) R6 σ H s):aM X R6 σ H s:=⟨I.ok.unwish,I.os,I.bare,I.base,I.loc,I.cell,I.free,I.freeC,I.pin,I.hok,I.len⟩
theorem SP.unwish {D:nM} {f:Flow} {s':JP} (h:SP (X.wish E) R6 D f s'):SP X R6 D f s':=by
 cases f with
 |next=>obtain⟨σ',H',I,q⟩:=h;exact⟨σ',H',I.unwish,q⟩
 |brk=>obtain⟨σ',H',I,q⟩:=h;exact⟨σ',H',I.unwish,q⟩
 |cont=>obtain⟨σ',H',I,q⟩:=h;exact⟨σ',H',I.unwish,q⟩
 |ret u=>obtain⟨v,σ',H',I,r,q⟩:=h;exact⟨v,σ',H',I.unwish,r,q⟩
theorem PE.nox {e:JW} {t:TE} (h:PE X.nox e t):PE X e t:=λR6 s σ H Q I hw=>
 LC (h R6 s σ H Q (I.wish _) hw) (λ_ _ ⟨v,H',I',r,q⟩=>⟨v,H',I'.unwish,r,q⟩) λ_ _ z=>Ll z
theorem PT.nox {e:JW} {t:TT} (h:PT X.nox e t):PT X e t:=λR6 s σ H Q I hw=>
 LC (h R6 s σ H Q (I.wish _) hw) (λ_ _ ⟨H',I',q⟩=>⟨H',I'.unwish,q⟩) λ_ _ z=>Ll z
theorem sB.nox {st:List Ke} {t:TS} (h:sB X.nox st t):sB X st t:=λR6 s σ H D I hw=>
 LC (h R6 s σ H D (I.wish _) hw) (λ_ _ q=>q.unwish) λ_ _ z=>Ll z
end
section
variable {X:Cx} {st:Ke} {rest:List Ke} {t u:TS} {e:JW} {te:TE} {pos:KC}
def GF:TS:=λD σ H=>D.nx σ H
def Ip (t u:TS):TS:=λD σ H=>t {D with nx:=u D} σ H
theorem CJ:sB X [] GF:=λ_ _ σ H _ I h=>Np ⟨σ,H,I,h⟩
theorem AB (h1:PS X st t) (h2:sB X rest u):sB X (st::rest) (Ip t u):=by
 intro R6 s σ H D I h
 refine wpAny_execs_cons (d0 (h1 R6 s σ H {D with nx:=u D} I h) λf s1 q=> ?_)
 cases f with
 |next=>
  obtain⟨σ',H',I',q⟩:=q
  exact h2 R6 s1 σ' H' D I' q
 |ret v=>exact q
 |brk=>exact q
 |cont=>exact q
theorem CK (h1:PS X st t):sB X [st] t:=by
 intro R6 s σ H D I h
 refine wpAny_execs_cons (d0 (h1 R6 s σ H D I h) λf s1 q=> ?_)
 cases f with
 |next=>exact Np q
 |ret v=>exact q
 |brk=>exact q
 |cont=>exact q
theorem aM.quiet {R6:List (JO×Kq)} {σ:St} {H:Hp} {s:JP} (I:aM X R6 σ H s):interactive X.env=false:=by simp[interactive,I.ok.kind]
def GG (te:TE):TS:=λD σ H=>te σ H λ_ H1=>D.nx σ H1
theorem nO (he:PE X e te) (hs:KR e none pos.line X.env=pure false:=by rfl):PS X (.Expr e pos) (GG te):=by
 intro R6 s σ H D I h
 exact wpAny_Expr_any (d0 (he R6 s σ H _ I h) λv s1 ⟨x,H1,I1,r1,q1⟩=>⟨σ,H1,I1,q1⟩) I.quiet hs
def Iq (te:TE):TS:=λD σ H=>te σ H D.rt
theorem wB (he:PE X e te):PS X (.Return (some e) pos) (Iq te):=by
 intro R6 s σ H D I h
 exact wpAny_Return_some (d0 (he R6 s σ H _ I h) λv s1 ⟨x,H1,I1,r1,q1⟩=>⟨x,σ,H1,I1,r1,q1⟩)
def Ir (c:TT) (t u:TS):TS:=λD σ H=>c σ H λb H1=>if b=true then t D σ H1 else u D σ H1
theorem D_ {c:JW} {a b:List Ke} {tc:TT} (hc:PT X c tc) (ha:sB X a t) (hb:sB X b u):PS X (.If c a b pos) (Ir tc t u):=by
 intro R6 s σ H D I h
 refine wpAny_If (d0 (hc R6 s σ H _ I h) λd s1 z_=> ?_)
 obtain⟨H1,I1,q1⟩:=z_
 cases d with
 |true=>exact ha R6 s1 σ H1 D I1 q1
 |false=>exact hb R6 s1 σ H1 D I1 q1
end
abbrev TG:=V->St->Hp->(St->Hp->Prop)->Prop
abbrev AD:=List V->St->Hp->(St->Hp->Prop)->Prop
def PG (X:Cx) (WA:JW) (t:TG):Prop:=
 ∀(R6:List (JO×Kq)) (s:JP) (σ:St) (H:Hp) (v:V) (u:JM) (Q:St->Hp->Prop),aM X R6 σ H s->bU v u->t v σ H Q->
  JZ (K2 X.prog X.w) X.A (Mx WA X.env u) (λ_ s'=>∃σ' H',aM X R6 σ' H' s'/\Q σ' H') X.xe s
def AE (X:Cx) (ts:List JW) (t:AD):Prop:=
 ∀(R6:List (JO×Kq)) (s:JP) (σ:St) (H:Hp) (vs:List V) (us:List JM) (Q:St->Hp->Prop),aM X R6 σ H s->bi vs us->t vs σ H Q->
  JZ (K2 X.prog X.w) X.A (assignInOrder ((KW ts X.env).map (·.2)) us) (λ_ s'=>∃σ' H',aM X R6 σ' H' s'/\Q σ' H') X.xe s
abbrev EJ:=V->V->V->Hp->(Hp->Prop)->Prop
def GH (X:Cx) (t:EJ):Prop:=
 ∀(R6:List (JO×Kq)) (s:JP) (σ:St) (H:Hp) (o i v:V) (ov iv u:JM) (Q:Hp->Prop),aM X R6 σ H s->bU o ov->bU i iv->bU v u->t o i v H Q->
  JZ (K2 X.prog X.w) X.A (QL ov iv u) (λ_ s'=>∃H',aM X R6 σ H' s'/\Q H') X.xe s
section
variable {X:Cx} {pos:KC}
def E0 (i:Nat):TG:=λv σ H Q=>Q (σ.set i (some v)) H
theorem xV {i:Nat} {x:JN} (hN:X.N.Nodup) (hi:X.N[i]? =some x) (hx:zg X.env.scope x) (hf:X.fn x=true\/X.env.scope.names.lookup x=some .local:=by first|exact .inl rfl|exact .inr rfl|assumption):PG X (.Name x pos) (E0 i):=by
 intro R6 s σ H v u Q I r h
 exact wpAny_assign_Name (qT I hN hi hx r (λs' I'=>⟨_,H,I',h⟩) hf)
def Iu:AD:=λvs σ H Q=>vs=[]/\Q σ H
def GI (t:TG) (u:AD):AD:=λvs σ H Q=>∃v r,vs=v::r/\t v σ H λσ' H'=>u r σ' H' Q
theorem CL:AE X [] Iu:=by
 intro R6 s σ H vs us Q I r h
 obtain⟨e,h⟩:=h
 subst e
 cases r
 exact assignInOrder_nil ⟨σ,H,I,h⟩
theorem AF {e:JW} {es:List JW} {t:TG} {u:AD} (h1:PG X e t) (h2:AE X es u)
  (hs:(KW (e::es) X.env).map (·.2)=Mx e X.env::(KW es X.env).map (·.2):=by rfl):AE X (e::es) (GI t u):=by
 intro R6 s σ H vs us Q I r h
 obtain⟨v,vr,e1,h⟩:=h
 subst e1
 cases r with
 |cons r rr=>
  rw[hs]
  refine assignInOrder_cons (d0 (h1 R6 s σ H _ _ _ I r h) λ_ s1 z_=> ?_)
  obtain⟨σ1,H1,I1,q1⟩:=z_
  exact h2 R6 s1 σ1 H1 _ _ Q I1 rr q1
def Iv (K:JL) (n:Nat) (t:AD):TG:=λv σ H Q=>∃a xs,v= .ref a/\iE K H a xs/\xs.length=n/\t xs σ H Q
theorem AG {es:List JW} {k:Nat} {t:AD} {n:Nat} (hc:X.calm=true) (h:AE X es t)
  (hn:(KW es X.env).length=n:=by rfl) (U5:(KW es X.env).findIdx? (·.1)=none:=by rfl):PG X (.Tuple es k pos) (Iv X.K n t):=by
 intro R6 s σ H v u Q I r hw
 obtain⟨a,xs,e1,hq,hl,hw⟩:=hw
 subst e1
 cases r
 obtain⟨its,rv,ht,hz⟩:=I.tuple hq
 refine assign_Tuple_tuple (I.ok.hd hc) ht (by simp[hn,<-hl,rv.length]) U5 λh' hx=> ?_
 have I1:aM X R6 σ H {s with heap:=h'}:=I.kept (t':=s.toks) λb o e=>hx b o (Ku (K5 e)) e
 exact h R6 _ σ H xs _ Q I1 (by simpa using rv) hw
def Iw (to ti:TE) (t:EJ):TG:=λv σ H Q=>to σ H λo H1=>ti σ H1 λi H2=>t o i v H2 λH3=>Q σ H3
theorem EK {o i:JW} {to ti:TE} {t:EJ} (ho:PE X o to) (hi:PE X i ti) (hs:GH X t)
  (ha:∀v,Mx (.Subscript o i pos) X.env v=(do
   let ov<-LI [v] (Kb o X.env)
   let iv<-LI [v,ov] (Kb i X.env)
   M7 pos
   LI [v,ov,iv] (QL ov iv v)
   release [v,ov,iv] []):=by intro _;rfl):PG X (.Subscript o i pos) (Iw to ti t):=by
 intro R6 s σ H v u Q I r h
 rw[ha]
 refine JQ (KO (d0 (ho R6 s σ H _ I h) λov s1 z_=> ?_))
 obtain⟨x,H1,I1,r1,q1⟩:=z_
 refine JQ (KO (d0 (hi R6 s1 σ H1 _ I1 q1) λiv s2 z_=> ?_))
 obtain⟨y,H2,I2,r2,q2⟩:=z_
 refine JQ (N9 (JQ (KO (d0 (hs R6 s2 σ H2 x y v ov iv u _ I2 r1 r2 r q2) λ_ s3 z_=> ?_))))
 obtain⟨H3,I3,q3⟩:=z_
 exact wpAny_release ⟨σ,H3,I3,q3⟩
def EL (te:TE) (g:TG):TS:=λD σ H=>te σ H λx H1=>g x σ H1 D.nx
theorem wC {tg e:JW} {te:TE} {g:TG} (he:PE X e te) (hg:PG X tg g) (hs:NK [tg] e pos.line X.env=pure false:=by rfl) (hw:NL [tg] e X.env=pure none:=by rfl)
  (h1:(KW [tg] X.env).map (·.2)=[Mx tg X.env]:=by rfl):PS X (.Assign [tg] e pos) (EL te g):=by
 intro R6 s σ H D I h
 refine wpAny_Assign_stores (d0 (he R6 s σ H _ I h) λv s1 z_=> ?_) hs hw
 obtain⟨x,H1,I1,r1,q1⟩:=z_
 rw[h1]
 exact d0 (hg R6 s1 σ H1 x v _ I1 r1 q1) λ_ s2 q=>q
theorem mZ {i:Nat} {x:JN} {e:JW} {te:TE} {Rx:KC} (hN:X.N.Nodup) (hi:X.N[i]? =some x) (hx:zg X.env.scope x) (he:PE X e te) (hs:KR e (some (.Name x Rx)) pos.line X.env=pure false:=by rfl) (hf:X.fn x=true\/X.env.scope.names.lookup x=some .local:=by first|exact .inl rfl|exact .inr rfl|assumption):
  PS X (.Assign [.Name x Rx] e pos) (EL te (E0 i)):=by
 intro R6 s σ H D I h
 refine wpAny_Assign_Name (d0 (he R6 s σ H _ I h) λv s1 z_=> ?_) hs
 obtain⟨y,H1,I1,r1,q1⟩:=z_
 exact qT I1 hN hi hx r1 (λs2 I2=>⟨_,H1,I2,q1⟩) hf
end
section
variable {X:Cx} {pos:KC}
end
structure It where
 go:Nat->Hp->Prop
 yld:Nat->Hp->V->Hp->Prop
 stop:Nat->Hp->Prop
def nP (X:Cx) (R6:List (JO×Kq)) (H:Hp) (b:JO):Prop:=
 H b=none/\b≠X.env.locals/\b∉X.fs/\(b∈X.ex\/X.s₀.heap.objs.size<=b)/\(∀x c,X.env.cells.lookup x=some c->c≠b)/\∀p∈X.pn++R6,p.1≠b
theorem aM.fpOk {X:Cx} {R6:List (JO×Kq)} {σ:St} {H H':Hp} {s:JP} {b:JO} (I:aM X R6 σ H s) (hb:s.heap.objs.size<=b) (hn:H' b=none):nP X R6 H' b:=by
 refine⟨hn,Nat.ne_of_gt (Kt I.lt hb),I.nofs hb, .inr (Ky I.sz hb),λx c e z=> ?_,λp hp z=> ?_⟩
 ·obtain⟨v,q⟩:=I.cell x c e
  exact absurd (Kt q.lt (by rw[z];exact hb)) (Lb _)
 ·exact absurd (Kt (K5 (I.pin p hp).1) (by rw[z];exact hb)) (Lb _)
structure zi (P:K3) (w:Kd) (K:JL) (tg:JW) (J:It) (fp:List JO) (it:JO) (tn:Nat->Ka->Prop):Prop where
 mem:it∈fp
 obj:∀i h,tn i h->∀b∈fp,∃o,h.get? b=some o/\∀v,o.data≠ .cell v
 keep:∀i h h',tn i h->(∀b∈fp,∀o,h.get? b=some o->h'.get? b=some o)->tn i h'
 item:∀(X:Cx),X.prog=P->X.w=w->X.K=K->X.calm=true->∀(i:Nat) (R6:List (JO×Kq)) (s:JP) (σ:St) (H:Hp) (E:JM->JP->Prop),aM X R6 σ H s->(∀b∈fp,nP X R6 H b)->tn i s.heap->J.go i H->
  JZ (K2 P w) X.A (pyNext (.ref it)) (λr s1=>∃u,r=some u/\
   JZ (K2 P w) X.A (OG tg (.ref it) u) (λ_ s2=>∃x H',aM X R6 σ H' s2/\bU x u/\J.yld i H x H'/\tn (i+1) s2.heap/\∀b∈fp,H' b=none) E s1) E s
 done:∀(X:Cx),X.prog=P->X.w=w->X.K=K->X.calm=true->∀(i:Nat) (R6:List (JO×Kq)) (s:JP) (σ:St) (H:Hp) (E:JM->JP->Prop),aM X R6 σ H s->(∀b∈fp,nP X R6 H b)->tn i s.heap->J.stop i H->
  JZ (K2 P w) X.A (pyNext (.ref it)) (λr s1=>r=none/\aM X R6 σ H s1) E s
 self:∀(A:Kl) (i:Nat) (s:JP) (Q:JM->JP->Prop) (E:JM->JP->Prop),tn i s.heap->Q (.ref it) s->JZ (K2 P w) A (pyIter (.ref it)) Q E s
abbrev TI:=St->Hp->(It->Hp->Prop)->Prop
def J5 (X:Cx) (R6:List (JO×Kq)) (σ:St) (tg:JW) (R:It->Hp->Prop) (Ye:JM) (s2:JP):Prop:=
 ∃(it:JO) (fp:List JO) (tn:Nat->Ka->Prop) (J:It) (H':Hp),Ye= .ref it/\aM X R6 σ H' s2/\zi X.prog X.w X.K tg J fp it tn/\tn 0 s2.heap/\(∀b∈fp,nP X R6 H' b)/\R J H'
def PI (X:Cx) (tg RB:JW) (wi:TI):Prop:=
 ∀(R6:List (JO×Kq)) (s:JP) (σ:St) (H:Hp) (R:It->Hp->Prop),aM X R6 σ H s->wi σ H R->
  JZ (K2 X.prog X.w) X.A (Kb RB X.env) (λv s1=>JZ (K2 X.prog X.w) X.A (pyIter v) (J5 X R6 σ tg R) X.xe s1) X.xe s
theorem AH {M:Q9} {A:Kl} {E:JM->JP->Prop} {s:JP} {tg:JW} {it:JO} {u:JM} {o:Kq} {n:String} {vs:Array JM} {Q:Unit->JP->Prop} (ho:s.heap.get? it=some o) (hc:o.cls= .type n) (hd:o.data= .fields vs)
  (hn:["enumerate","zip","dict_itemiterator","dict_reverseitemiterator","odict_iterator","itertools.zip_longest","itertools.pairwise"].contains n=false) (hQ:Q () s):JZ M A (OG tg (.ref it) u) Q E s:=by
 unfold OG
 cases tg<;>first
  |exact JY hQ
  |(cases u<;>first
    |exact JY hQ
    |(refine JQ (wpAny_load ho ?_)
      rw[hc,hd]
      show JZ M A (if (["enumerate","zip","dict_itemiterator","dict_reverseitemiterator","odict_iterator","itertools.zip_longest","itertools.pairwise"].contains n&&vs[0]? ==some (rawInt _))=true then _ else _) Q E s
      rw[if_neg (by intro h;rw[hn,Bool.false_and]at h;cases h)]
      exact JY hQ))
def HW (K:JL) (a:JO):It:=
 ⟨λi H=>∃xs x,dS K H a xs/\xs[i]? =some x,λi H x H'=>H'=H/\∀xs,dS K H a xs->xs[i]? =some x,λi H=>∃xs,dS K H a xs/\xs.length<=i⟩
def Iy (K:JL) (a:JO):It:=
 ⟨λi H=>∃xs x,iE K H a xs/\xs[i]? =some x,λi H x H'=>H'=H/\∀xs,iE K H a xs->xs[i]? =some x,λi H=>∃xs,iE K H a xs/\xs.length<=i⟩
def HX (lo:Int) (n:Nat):It:=⟨λi _=>i<n,λi H x H'=>H'=H/\x= .int (lo+i),λi _=>n<=i⟩
theorem zj {P:K3} {w:Kd} {K:JL} {tg:JW} (a it:JO):zi P w K tg (HW K a) [it] it (λi h=>h.IsListIter it a i)where
 mem:=by simp
 obj:=λi h st b hb=>by
  have e:b=it:=by simpa using hb
  subst e
  obtain⟨o,e,c,d⟩:=st
  exact⟨o,e,λv z=>by rw[d]at z;cases z⟩
 keep:=λi h h' st k=>st.at λo e=>k it (by simp) o e
 item:=by
  intro X hP hw hK hc i R6 s σ H E I hf st hg
  subst hP hw hK
  obtain⟨xs,x,hq,hx⟩:=hg
  obtain⟨its,rv,p,hz⟩:=I.list hq
  obtain⟨u,hu,ru⟩:=rv.get hx
  obtain⟨f0,f1,f2,f3,f4,f5⟩:=hf it (by simp)
  refine wpAny_pyNext_list_item st p.isList (x:=u) (by simpa using hu) λh' Vi sb=> ?_
  have I1:aM X R6 σ H {s with heap:=h'}:=I.turned (t':=s.toks) (λb o hb e=>(sb.2 b hb).trans e) f0 f1 f3 f4 f5
  obtain⟨o,e,c,d⟩:=id Vi
  exact⟨u,rfl,AH (s:={s with heap:=h'}) e c d (by decide) ⟨x,H,I1,ru,⟨rfl,λys hy=>by rw[I.list_inj hy hq];exact hx⟩,Vi,λb hb=>(hf b hb).1⟩⟩
 done:=by
  intro X hP hw hK hc i R6 s σ H E I hf st hg
  subst hP hw hK
  obtain⟨xs,hq,hx⟩:=hg
  obtain⟨its,rv,p,hz⟩:=I.list hq
  obtain⟨f0,f1,f2,f3,f4,f5⟩:=hf it (by simp)
  have hl:=rv.length
  exact wpAny_pyNext_list_end (I.ok.hd hc) st p.isList (by simp;omega) λh' eb=>⟨rfl,I.turned (t':=s.toks) (λb o hb e=>eb b o hb e) f0 f1 f3 f4 f5⟩
 self:=λ_ _ _ _ _ st h=>wpAny_pyIter_listiter st h
theorem wD {P:K3} {w:Kd} {K:JL} {tg:JW} (a it:JO):zi P w K tg (Iy K a) [it] it (λi h=>h.IsTupleIter it a i)where
 mem:=by simp
 obj:=λi h st b hb=>by
  have e:b=it:=by simpa using hb
  subst e
  obtain⟨o,e,c,d⟩:=st
  exact⟨o,e,λv z=>by rw[d]at z;cases z⟩
 keep:=λi h h' st k=>st.at λo e=>k it (by simp) o e
 item:=by
  intro X hP hw hK hc i R6 s σ H E I hf st hg
  subst hP hw hK
  obtain⟨xs,x,hq,hx⟩:=hg
  obtain⟨its,rv,p,hz⟩:=I.tuple hq
  obtain⟨u,hu,ru⟩:=rv.get hx
  obtain⟨f0,f1,f2,f3,f4,f5⟩:=hf it (by simp)
  refine wpAny_pyNext_tuple_item st (show s.heap.IsTuple a its.toArray from p) (x:=u) (by simpa using hu) λh' Vi sb=> ?_
  have I1:aM X R6 σ H {s with heap:=h'}:=I.turned (t':=s.toks) (λb o hb e=>(sb.2 b hb).trans e) f0 f1 f3 f4 f5
  obtain⟨o,e,c,d⟩:=id Vi
  exact⟨u,rfl,AH (s:={s with heap:=h'}) e c d (by decide) ⟨x,H,I1,ru,⟨rfl,λys hy=>by rw[I.tuple_inj hy hq];exact hx⟩,Vi,λb hb=>(hf b hb).1⟩⟩
 done:=by
  intro X hP hw hK hc i R6 s σ H E I hf st hg
  subst hP hw hK
  obtain⟨xs,hq,hx⟩:=hg
  obtain⟨its,rv,p,hz⟩:=I.tuple hq
  obtain⟨f0,f1,f2,f3,f4,f5⟩:=hf it (by simp)
  have hl:=rv.length
  exact wpAny_pyNext_tuple_end (I.ok.hd hc) st (show s.heap.IsTuple a its.toArray from p) (by simp;omega) λh' eb=>⟨rfl,I.turned (t':=s.toks) (λb o hb e=>eb b o hb e) f0 f1 f3 f4 f5⟩
 self:=λ_ _ _ _ _ st h=>wpAny_pyIter_tupleiter st h
theorem wF {P:K3} {w:Kd} {K:JL} {tg:JW} (it:JO) (lo:Int) (n:Nat):zi P w K tg (HX lo n) [it] it (λi h=>IsRangeIter h it (lo+(i:Nat)*1) ((n:Int) - (i:Nat)) 1)where
 mem:=by simp
 obj:=λi h st b hb=>by
  have e:b=it:=by simpa using hb
  subst e
  exact⟨_,st,λv z=>by
   have z':Data.fields _=Data.cell v:=z
   cases z'⟩
 keep:=λi h h' st k=>k it (by simp) _ st
 item:=by
  intro X hP hw hK hc i R6 s σ H E I hf st hg
  subst hP hw hK
  obtain⟨f0,f1,f2,f3,f4,f5⟩:=hf it (by simp)
  have W:=Walks.range (prog:=X.prog) (w:=X.w) (I.ok.hd hc) it lo 1 n
  refine W.item i s _ _ hg st λv h' tk hv Vi kk=> ?_
  obtain⟨t,rfl⟩:=hv
  have I1:aM X R6 σ H {s with heap:=h',toks:=tk}:=I.turned (λb o hb e=>kk b o (by simpa using hb) e) f0 f1 f3 f4 f5
  refine⟨_,rfl,AH (s:={s with heap:=h',toks:=tk}) (n:="range_iterator") Vi rfl rfl (by decide) ⟨.int (lo+i),H,I1,⟨t,?_⟩,⟨rfl,rfl⟩,Vi,λb hb=>(hf b hb).1⟩⟩
  rw[Int.mul_one]
 done:=by
  intro X hP hw hK hc i R6 s σ H E I hf st hg
  subst hP hw hK
  obtain⟨f0,f1,f2,f3,f4,f5⟩:=hf it (by simp)
  exact wpAny_pyNext_range_end (I.ok.hd hc) st (by have:n<=i:=hg;omega) λh' eb=>⟨rfl,I.turned (t':=s.toks) (λb o hb e=>eb b o hb e) f0 f1 f3 f4 f5⟩
 self:=λ_ _ _ _ _ st h=>wpAny_pyIter_rangeiter st h
end L2
namespace L2
open PySem PySem.Spec PyProof.Rows
section
variable {X:Cx} {tg:JW}
def GJ (K:JL) (tl:TE):TI:=λσ H R=>tl σ H λx H1=>∃a,x= .ref a/\(∃xs,dS K H1 a xs)/\R (HW K a) H1
def Iz (K:JL) (tl:TE):TI:=λσ H R=>tl σ H λx H1=>∃a,x= .ref a/\(∃xs,iE K H1 a xs)/\R (Iy K a) H1
theorem tR {l:JW} {tl:TE} (hl:PE X l tl):PI X tg l (GJ X.K tl):=by
 intro R6 s σ H R I h
 refine d0 (hl R6 s σ H _ I h) λv s1 z_=> ?_
 obtain⟨x,H1,I1,r1,q1⟩:=z_
 obtain⟨a,e,⟨xs,hq⟩,q⟩:=q1
 subst e
 cases r1
 obtain⟨its,rv,p,hz⟩:=I1.list hq
 refine NV p.isList ?_
 refine⟨s1.heap.objs.size,[s1.heap.objs.size],_,_,H1,rfl,I1.kept (t':=s1.toks) λb o e=>JV _ e,zj a _,⟨_,Ko _ rfl,rfl,rfl⟩,λb hb=> ?_,q⟩
 have e:b=s1.heap.objs.size:=by simpa using hb
 subst e
 exact I1.fpOk (Kc _) (I1.hok.fresh (Kc _))
theorem EM {l:JW} {tl:TE} (hl:PE X l tl):PI X tg l (Iz X.K tl):=by
 intro R6 s σ H R I h
 refine d0 (hl R6 s σ H _ I h) λv s1 z_=> ?_
 obtain⟨x,H1,I1,r1,q1⟩:=z_
 obtain⟨a,e,⟨xs,hq⟩,q⟩:=q1
 subst e
 cases r1
 obtain⟨its,rv,p,hz⟩:=I1.tuple hq
 refine PJ (show s1.heap.IsTuple a its.toArray from p) ?_
 refine⟨s1.heap.objs.size,[s1.heap.objs.size],_,_,H1,rfl,I1.kept (t':=s1.toks) λb o e=>JV _ e,wD a _,⟨_,Ko _ rfl,rfl,rfl⟩,λb hb=> ?_,q⟩
 have e:b=s1.heap.objs.size:=by simpa using hb
 subst e
 exact I1.fpOk (Kc _) (I1.hok.fresh (Kc _))
theorem AI {R6:List (JO×Kq)} {σ:St} {H:Hp} {s:JP} {R:It->Hp->Prop} {E:JM->JP->Prop} {lo hi:Int} {t u v:MP} {tk:Nat} (I:aM X R6 σ H s) (h1: -(2 ^62)<=lo) (h2:lo<2 ^62) (h3: -(2 ^62)<=hi) (h4:hi<2 ^62)
  (q:R (HX lo (hi - lo).toNat) H):JZ (K2 X.prog X.w) X.A (pyIter (.ref s.heap.objs.size)) (J5 X R6 σ tg R) E {s with heap:=s.heap.push {cls:= .type "range",data:= .fields #[.int lo t, .int hi u, .int 1 v]},toks:=tk}:=by
 refine wpAny_pyIter_range (IsRange.new ..) (small_one h1 h2 h3 h4) ?_
 have I1:aM X R6 σ H {s with heap:=s.heap.push {cls:= .type "range",data:= .fields #[.int lo t, .int hi u, .int 1 v]},toks:=tk}:=I.kept λb o e=>JV _ e
 refine⟨(s.heap.push {cls:= .type "range",data:= .fields #[.int lo t, .int hi u, .int 1 v]}).objs.size,[(s.heap.push {cls:= .type "range",data:= .fields #[.int lo t, .int hi u, .int 1 v]}).objs.size],_,_,H,rfl,
  I1.kept (t':=tk) λb o e=>JV _ e,wF _ lo (hi - lo).toNat,?_,λb hb=> ?_,q⟩
 ·have e1:lo+((0:Nat):Int)*1=lo:=by simp
  have e2:(((hi - lo).toNat:Nat):Int) - ((0:Nat):Int)=Builtin.Range.rangeSize lo hi 1:=by rw[rangeSize_one];split<;>omega
  show IsRangeIter _ _ (lo+((0:Nat):Int)*1) ((((hi - lo).toNat:Nat):Int) - ((0:Nat):Int)) 1
  rw[e1,e2]
  exact Ko _ rfl
 ·have e:b=(s.heap.push {cls:= .type "range",data:= .fields #[.int lo t, .int hi u, .int 1 v]}).objs.size:=by simpa using hb
  subst e
  exact I1.fpOk (Kc _) (I1.hok.fresh (Kc _))
def GK (ta:TA):TI:=λσ H R=>ta σ H λvs H1=>∃j:Int,vs=[.int j]/\ -(2 ^62)<=j/\j<2 ^62/\R (HX 0 j.toNat) H1
theorem zk {a:JW} {ta:TA} {p pos:KC} (hg:Gl X "range") (hm:X.mg "range"=none) (ha:PA X [a] ta) (hs:JS [a] X.env=[(false,Kb a X.env)]:=by rfl):PI X tg (.Call (.Name "range" p) [a] [] pos) (GK ta):=by
 intro R6 s σ H R I h
 refine Call_ (oP I hg hm boot_range (Mr (d0 (ha pos R6 s σ H _ I h) λus s1 z_=> ?_) hs rfl))
 obtain⟨vs,H1,I1,r1,q1⟩:=z_
 obtain⟨j,e,q1,q2,q⟩:=q1
 subst e
 cases r1 with
 |cons r rr=>
  cases rr
  obtain⟨t,rfl⟩:=r
  exact call_range_1 (AI I1 (by omega) (by omega) q1 q2 (by simpa using q))
def GL (wi:TI) (g:TG) (tb:TS):TS:=λD σ H=>wi σ H λJ H1=>∃W:Nat->Nat->St->Hp->Prop,(∃m,W 0 m σ H1)/\∀i m σ H,W i m σ H->
 (J.stop i H/\D.nx σ H)\/(J.go i H/\∃N:St->Hp->Prop,(∀σ' H',N σ' H'->∃m',m'<m/\W (i+1) m' σ' H')/\∀x H',J.yld i H x H'->g x σ H' λσ2 H2=>tb {D with nx:=N,ct:=N,bk:=D.nx} σ2 H2)
def qU (fp:List JO) (h:Ka):List (JO×Kq):=fp.filterMap λb=>(h.get? b).map λo=>(b,o)
theorem jX {fp:List JO} {h:Ka} {b:JO} {o:Kq} (hb:b∈fp) (e:h.get? b=some o):(b,o)∈qU fp h:=NC.mpr ⟨b,hb,by rw[e];rfl⟩
theorem zl {fp:List JO} {h:Ka} {p:JO×Kq} (hp:p∈qU fp h):p.1∈fp/\h.get? p.1=some p.2:=by
 obtain⟨b,hb,e⟩:=NC.mp hp
 cases q:h.get? b with
 |none=>rw[q]at e;cases e
 |some o=>
  rw[q]at e
  have e':(b,o)=p:=KQ e
  subst e'
  exact⟨hb,q⟩
theorem aM.pinned {R6:List (JO×Kq)} {σ:St} {H:Hp} {s:JP} {fp:List JO} (I:aM X R6 σ H s) (hf:∀b∈fp,nP X R6 H b) (ho:∀b∈fp,∃o,s.heap.get? b=some o/\∀v,o.data≠ .cell v):aM X (R6++qU fp s.heap) σ H s:=
 I.pins_of λp hp=>(KH.mp hp).elim (λz=>I.pin p (Kr _ z)) λz=>by
  obtain⟨hb,e⟩:=zl z
  obtain⟨f0,f1,f2,_⟩:=hf p.1 hb
  obtain⟨o,e',d⟩:=ho p.1 hb
  rw[e]at e';cases e'
  exact⟨e,f0,f1,f2,d⟩
theorem aM.unpinned {R6 pl:List (JO×Kq)} {σ:St} {H:Hp} {s:JP} (I:aM X (R6++pl) σ H s):aM X R6 σ H s:=I.pins_of λp hp=>I.pin p (Kr _ (L4 _ hp))
theorem EN {RB:JW} {body:List Ke} {wi:TI} {g:TG} {tb:TS} {pos:KC} (hp:PassesOwn (K2 X.prog X.w) X.A X.env X.xe) (hc:X.calm=true) (hi:PI X tg RB wi) (hg:PG X tg g) (hb:sB X body tb)
  (hs:∀x,LJ RB X.env x=pure x:=by intro _;rfl):PS X (.For tg RB body [] pos) (GL wi g tb):=by
 intro R6 s σ H D I h
 refine wpAny_For (d0 (hi R6 s σ H _ I h) λv s1 h1=>d0 h1 λYe s2 h2=> ?_) hs
 obtain⟨it,fp,tn,J,H2,e,I2,T,W7,f2,W,⟨m0,w0⟩,WB⟩:=h2
 subst e
 have Vj:∀{H':Hp},(∀b∈fp,H' b=none)->∀b∈fp,nP X R6 H' b:=λhn b hb=>⟨hn b hb,(f2 b hb).2⟩
 refine codeAny_forLoop_any (λn s'=>∃i σ' H',aM X R6 σ' H' s'/\tn i s'.heap/\(∀b∈fp,H' b=none)/\W i n σ' H') ?_ m0 ⟨0,σ,H2,I2,W7,λb hb=>(f2 b hb).1,w0⟩
 rintro n s3 ⟨i,σ3,H3,I3,ZQ,ZR,w3⟩
 rcases WB i n σ3 H3 w3 with ⟨stop,qn⟩|⟨go,N,hN,step⟩
 ·refine MG hp (d0 (T.done X rfl rfl rfl hc i R6 s3 σ3 H3 X.xe I3 (Vj ZR) ZQ stop) λr s4 z_=> ?_)
  obtain⟨hr,I4⟩:=z_
  subst hr
  exact Np ⟨σ3,H3,I4,qn⟩
 ·refine MG hp (d0 (T.item X rfl rfl rfl hc i R6 s3 σ3 H3 X.xe I3 (Vj ZR) ZQ go) λr s4 z_=> ?_)
  obtain⟨u,hr,h4⟩:=z_
  subst hr
  refine MG hp (d0 h4 λ_ s5 z_=> ?_)
  obtain⟨x,H5,I5,r5,y5,YC,a0l⟩:=z_
  have a0m:=I5.pinned (Vj a0l) (T.obj _ _ YC)
  refine MG hp (d0 (hg _ s5 σ3 H5 x u _ a0m r5 (step x H5 y5)) λ_ s6 z_=> ?_)
  obtain⟨σ6,H6,I6,q6⟩:=z_
  refine MG hp (d0 (hb _ s6 σ6 H6 _ I6 q6) λf s7 q7=> ?_)
  have again:∀{σ7:St} {H7:Hp},aM X (R6++qU fp s5.heap) σ7 H7 s7->N σ7 H7->∃m,m<n/\∃i σ' H',aM X R6 σ' H' s7/\tn i s7.heap/\(∀b∈fp,H' b=none)/\W i m σ' H':=λ{σ7 H7} I7 n7=>by
   obtain⟨m',hm,w7⟩:=hN σ7 H7 n7
   refine⟨m',hm,i+1,σ7,H7,I7.unpinned,T.keep _ _ _ YC λb hb o e=>(I7.pin (b,o) (Kr _ (Kr _ (jX hb e)))).1,λb hb=> ?_,w7⟩
   obtain⟨o,e,d⟩:=T.obj _ _ YC b hb
   exact(I7.pin (b,o) (Kr _ (Kr _ (jX hb e)))).2.1
  cases f with
  |next=>obtain⟨σ7,H7,I7,n7⟩:=q7;exact again I7 n7
  |cont=>obtain⟨σ7,H7,I7,n7⟩:=q7;exact again I7 n7
  |brk=>obtain⟨σ7,H7,I7,q7⟩:=q7;exact⟨σ7,H7,I7.unpinned,q7⟩
  |ret v=>obtain⟨x7,σ7,H7,I7,r7,q7⟩:=q7;exact⟨x7,σ7,H7,I7.unpinned,r7,q7⟩
end
end L2
namespace L2
open PySem PySem.Spec PyProof.Rows
abbrev R2:=V->V->Hp->VK->Prop
def lX (X:Cx) (f:JM->JM->N5 JM) (r:R2):Prop:=
 ∀(R6:List (JO×Kq)) (s:JP) (σ:St) (H:Hp) (x y:V) (v u:JM) (Q:VK),aM X R6 σ H s->bU x v->bU y u->r x y H Q->
  JZ (K2 X.prog X.w) X.A (f v u) (EP X R6 σ Q) X.xe s
def HY (X:Cx) (f:JM->N5 JM) (r:V->Hp->VK->Prop):Prop:=
 ∀(R6:List (JO×Kq)) (s:JP) (σ:St) (H:Hp) (x:V) (v:JM) (Q:VK),aM X R6 σ H s->bU x v->r x H Q->
  JZ (K2 X.prog X.w) X.A (f v) (EP X R6 σ Q) X.xe s
def dU (X:Cx) (f:JM) (r:List V->Hp->VK->Prop):Prop:=
 ∀(R6:List (JO×Kq)) (s:JP) (σ:St) (H:Hp) (xs:List V) (us:List JM) (Q:VK),aM X R6 σ H s->bi xs us->r xs H Q->
  JZ (K2 X.prog X.w) X.A (call f us) (EP X R6 σ Q) X.xe s
def IA (X:Cx) (r:V->Hp->(Bool->Hp->Prop)->Prop):Prop:=
 ∀(R6:List (JO×Kq)) (s:JP) (σ:St) (H:Hp) (x:V) (v:JM) (Q:Bool->Hp->Prop),aM X R6 σ H s->bU x v->r x H Q->
  JZ (K2 X.prog X.w) X.A (Qy v) (TP X R6 σ Q) X.xe s
def HZ (r:R2) (ta tb:TE):TE:=λσ H Q=>ta σ H λx H1=>tb σ H1 λy H2=>r x y H2 Q
def Jr (r:V->Hp->VK->Prop) (ta:TE):TE:=λσ H Q=>ta σ H λx H1=>r x H1 Q
def rI (C:Int->Int->Prop) (g:Int->Int->V):R2:=λx y H Q=>∃i j,x= .int i/\y= .int j/\C i j/\Q (g i j) H
def zm (g:Int->Int->V):R2:=λx y H Q=>∃i j,x= .int i/\y= .int j/\Q (g i j) H
def rU (g:Int->V):V->Hp->VK->Prop:=λx H Q=>∃i,x= .int i/\Q (g i) H
section
variable {X:Cx} {a b c:JW} {ta tb tc:TE} {pos:KC}
theorem EO (ha:PE X a ta) (hb:PE X b tb) {R6:List (JO×Kq)} {s:JP} {σ:St} {H:Hp} {R:V->V->Hp->Prop} (I:aM X R6 σ H s)
  (h:ta σ H λx H1=>tb σ H1 λy H2=>R x y H2) {Q:JM->JP->Prop} {f:JM->JM->N5 JM}
  (hf:∀v u s2 x y H2,aM X R6 σ H2 s2->bU x v->bU y u->R x y H2->JZ (K2 X.prog X.w) X.A (f v u) Q X.xe s2):
  JZ (K2 X.prog X.w) X.A (Kb a X.env) (λv s₁=>JZ (K2 X.prog X.w) X.A (Kb b X.env) (λu s₂=>JZ (K2 X.prog X.w) X.A (f v u) Q X.xe s₂) X.xe s₁) X.xe s:=by
 refine d0 (ha R6 s σ H _ I h) λv s1 z_=> ?_
 obtain⟨x,H1,I1,r1,q1⟩:=z_
 refine d0 (hb R6 s1 σ H1 _ I1 q1) λu s2 z_=> ?_
 obtain⟨y,H2,I2,r2,q2⟩:=z_
 exact hf v u s2 x y H2 I2 r1 r2 q2
theorem E1 {op:Operator} {r:R2} (ho:lX X (LD op) r) (ha:PE X a ta) (hb:PE X b tb):PE X (.BinOp a op b pos) (HZ r ta tb):=by
 intro R6 s σ H Q I h
 exact wpAny_BinOp (EO ha hb I h λv u s2 x y H2 I2 rx ry q=>ho R6 s2 σ H2 x y v u Q I2 rx ry q)
theorem E2 {op:UnaryOp} {r:V->Hp->VK->Prop} (ho:HY X (unaryOp op) r) (ha:PE X a ta):PE X (.UnaryOp op a pos) (Jr r ta):=by
 intro R6 s σ H Q I h
 exact UnaryOp_ (d0 (ha R6 s σ H _ I h) λv s1 ⟨x,H1,I1,r1,q1⟩=>ho R6 s1 σ H1 x v Q I1 r1 q1)
theorem IB {f:JM->JM->N5 JM} {C:Int->Int->Prop} {g:Int->Int->Int}
  (rule:∀(i j:Int) (t u:MP) (s:JP) (Q:JM->JP->Prop) (E:JM->JP->Prop),C i j->Q (.int (g i j) s.toks) {s with toks:=s.toks+1}->JZ (K2 X.prog X.w) X.A (f (.int i t) (.int j u)) Q E s):
  lX X f (rI C λi j=> .int (g i j)):=by
 intro R6 s σ H x y v u Q I rx ry h
 obtain⟨i,j,rfl,rfl,hc,q⟩:=h
 obtain⟨t,rfl⟩:=rx
 obtain⟨t',rfl⟩:=ry
 exact rule i j t t' s _ _ hc ⟨.int (g i j),H,I.tok _,⟨_,rfl⟩,q⟩
theorem GN {f:JM->JM->N5 JM} {g:Int->Int->Int}
  (rule:∀(i j:Int) (t u:MP) (s:JP) (Q:JM->JP->Prop) (E:JM->JP->Prop),Q (.int (g i j) s.toks) {s with toks:=s.toks+1}->JZ (K2 X.prog X.w) X.A (f (.int i t) (.int j u)) Q E s):
  lX X f (zm λi j=> .int (g i j)):=by
 intro R6 s σ H x y v u Q I rx ry h
 obtain⟨i,j,rfl,rfl,q⟩:=h
 obtain⟨t,rfl⟩:=rx
 obtain⟨t',rfl⟩:=ry
 exact rule i j t t' s _ _ ⟨.int (g i j),H,I.tok _,⟨_,rfl⟩,q⟩
theorem EQ {f:JM->JM->N5 JM} {g:Int->Int->Bool}
  (rule:∀(i j:Int) (t u:MP) (s:JP) (Q:JM->JP->Prop) (E:JM->JP->Prop),Q (.bool (g i j)) s->JZ (K2 X.prog X.w) X.A (f (.int i t) (.int j u)) Q E s):
  lX X f (zm λi j=> .bl (g i j)):=by
 intro R6 s σ H x y v u Q I rx ry h
 obtain⟨i,j,rfl,rfl,q⟩:=h
 obtain⟨t,rfl⟩:=rx
 obtain⟨t',rfl⟩:=ry
 exact rule i j t t' s _ _ ⟨.bl (g i j),H,I,rfl,q⟩
def CM (i j:Int):Prop:=0<j/\j<1073741824
def GO (i j:Int):Prop:=0<=j/\j<=1000000/\i.natAbs<2 ^64
def zn (i j:Int):Prop:=(-(2 ^64)<i/\i<2 ^64)\/(-(2 ^64)<j/\j<2 ^64)
theorem zn.ok {i j:Int} (h:zn i j):IntMulOk i j:=by
 rcases h with ⟨h1,h2⟩|⟨h1,h2⟩
 ·exact .of_left (intBits_le_64 h1 h2)
 ·exact .of_right (intBits_le_64 h1 h2)
theorem ER:lX X (LD .Add) (zm λi j=> .int (i+j)):=GN λ_ _ _ _ _ _ _ q=>add_int q
theorem ji:lX X (LD .Sub) (zm λi j=> .int (i - j)):=GN λ_ _ _ _ _ _ _ q=>sub_int q
theorem ES:lX X (LD .Mult) (rI zn λi j=> .int (i*j)):=IB λ_ _ _ _ _ _ _ hc q=>mul_int q hc.ok
theorem j6:lX X (LD .FloorDiv) (rI CM λi j=> .int (i / j)):=IB λi j _ _ _ _ _ hc q=>by
 have h1:(0:Int)<j:=hc.1
 have h2:j<1073741824:=hc.2
 exact floordiv_int (by omega) (by rw[Int.fdiv_eq_ediv_of_nonneg i (by omega)];exact q) (.inl (PyProof.noPylong_small (by omega)))
theorem bR:lX X (LD .Mod) (rI (λ_ j=>0<j) λi j=> .int (i%j)):=IB λi j _ _ _ _ _ hc q=>by
 have h1:(0:Int)<j:=hc
 exact mod_int' (by omega) (by rw[Int.fmod_eq_emod_of_nonneg i (by omega)];exact q)
theorem Js {f:JM->N5 JM} {g:Int->Int}
  (rule:∀(i:Int) (t:MP) (s:JP) (Q:JM->JP->Prop) (E:JM->JP->Prop),Q (.int (g i) s.toks) {s with toks:=s.toks+1}->JZ (K2 X.prog X.w) X.A (f (.int i t)) Q E s):
  HY X f (rU λi=> .int (g i)):=by
 intro R6 s σ H x v Q I rx h
 obtain⟨i,rfl,q⟩:=h
 obtain⟨t,rfl⟩:=rx
 exact rule i t s _ _ ⟨.int (g i),H,I.tok _,⟨_,rfl⟩,q⟩
theorem gF:HY X (unaryOp .USub) (rU λi=> .int (-i)):=Js λ_ _ _ _ _ q=>neg_int q
end
def ET:V->V->Bool
 | .non, .non=>true| .non, .int _=>true| .int _, .non=>true| .non, .bl _=>true| .bl _, .non=>true| .non, .str _=>true| .str _, .non=>true
 | .int _, .int _=>true| .bl _, .bl _=>true| .str _, .str _=>true| .byt _, .byt _=>true
 | .int _, .str _=>true| .str _, .int _=>true| .bl _, .str _=>true| .str _, .bl _=>true
 |_,_=>false
def J6:R2:=λx y H Q=>ET x y=true/\Q (.bl (decide (x=y))) H
def J7:R2:=λx y H Q=>ET x y=true/\Q (.bl (!decide (x=y))) H
theorem xW {i j:Int}:decide (V.int i=V.int j)=(i==j):=by
 rw[MH]
 simp
theorem AJ {i j:Bool}:decide (V.bl i=V.bl j)=(i==j):=by
 rw[MH]
 simp
theorem xX {i j:JN}:decide (V.str i=V.str j)=(i==j):=by
 rw[MH]
 simp
theorem xY {i j:Array UInt8}:decide (V.byt i=V.byt j)=(i.toList==j.toList):=by
 rw[MH]
 cases i
 cases j
 simp
section
variable {X:Cx} {a b c:JW} {ta tb tc:TE} {pos:KC}
theorem bZ {R6:List (JO×Kq)} {σ:St} {H:Hp} {s:JP} {Q:VK} {k k':Bool} (I:aM X R6 σ H s) (q:Q (.bl k) H) (e:k=k'):EP X R6 σ Q (.bool k') s:=by
 subst e
 exact⟨.bl k,H,I,rfl,q⟩
theorem cb:lX X (Lo .Eq) J6:=by
 intro R6 s σ H x y v u Q I rx ry h
 obtain⟨hs,q⟩:=h
 cases x with
 |non=>
  cases rx
  cases y with
  |non=>cases ry;exact PySem.EqNone.eq_none_none (bZ I q (by simp))
  |bl j=>cases ry;exact PySem.EqNone.eq_none_bool (bZ I q (by simp))
  |int j=>obtain⟨t',rfl⟩:=ry;exact PySem.EqNone.eq_none_int (bZ I q (by simp))
  |str j=>obtain⟨t',rfl⟩:=ry;exact PySem.EqNone.eq_none_str (bZ I q (by simp))
  |_=>exact absurd (show false=true from hs) Kf
 |bl i=>
  cases rx
  cases y with
  |non=>cases ry;exact PySem.EqNone.eq_bool_none (bZ I q (by simp))
  |bl j=>cases ry;exact eq_bool (bZ I q AJ)
  |str j=>obtain⟨t',rfl⟩:=ry;exact PySem.EqMixed.eq_bool_str (bZ I q (by simp))
  |_=>exact absurd (show false=true from hs) Kf
 |int i=>
  obtain⟨t,rfl⟩:=rx
  cases y with
  |non=>cases ry;exact PySem.EqNone.eq_int_none (bZ I q (by simp))
  |int j=>obtain⟨t',rfl⟩:=ry;exact eq_int (bZ I q xW)
  |str j=>obtain⟨t',rfl⟩:=ry;exact PySem.EqMixed.eq_int_str (bZ I q (by simp))
  |_=>exact absurd (show false=true from hs) Kf
 |str i=>
  obtain⟨t,rfl⟩:=rx
  cases y with
  |non=>cases ry;exact PySem.EqNone.eq_str_none (bZ I q (by simp))
  |bl j=>cases ry;exact PySem.EqMixed.eq_str_bool (bZ I q (by simp))
  |int j=>obtain⟨t',rfl⟩:=ry;exact PySem.EqMixed.eq_str_int (bZ I q (by simp))
  |str j=>obtain⟨t',rfl⟩:=ry;exact eq_str (bZ I q xX)
  |_=>exact absurd (show false=true from hs) Kf
 |byt i=>
  obtain⟨t,rfl⟩:=rx
  cases y with
  |byt j=>obtain⟨t',rfl⟩:=ry;exact PySem.W.eq_bytes (bZ I q xY)
  |_=>exact absurd (show false=true from hs) Kf
 |_=>cases y<;>exact absurd (show false=true from hs) Kf
theorem lb:lX X (Lo .NotEq) J7:=by
 intro R6 s σ H x y v u Q I rx ry h
 obtain⟨hs,q⟩:=h
 cases x with
 |non=>
  cases rx
  cases y with
  |non=>cases ry;exact PySem.EqNone.ne_none_none (bZ I q (by simp))
  |bl j=>cases ry;exact PySem.EqNone.ne_none_bool (bZ I q (by simp))
  |int j=>obtain⟨t',rfl⟩:=ry;exact PySem.EqNone.ne_none_int (bZ I q (by simp))
  |str j=>obtain⟨t',rfl⟩:=ry;exact PySem.EqNone.ne_none_str (bZ I q (by simp))
  |_=>exact absurd (show false=true from hs) Kf
 |bl i=>
  cases rx
  cases y with
  |non=>cases ry;exact PySem.EqNone.ne_bool_none (bZ I q (by simp))
  |bl j=>cases ry;exact ne_bool (bZ I q (congrArg not AJ))
  |str j=>obtain⟨t',rfl⟩:=ry;exact PySem.EqMixed.ne_bool_str (bZ I q (by simp))
  |_=>exact absurd (show false=true from hs) Kf
 |int i=>
  obtain⟨t,rfl⟩:=rx
  cases y with
  |non=>cases ry;exact PySem.EqNone.ne_int_none (bZ I q (by simp))
  |int j=>obtain⟨t',rfl⟩:=ry;exact ne_int (bZ I q (congrArg not xW))
  |str j=>obtain⟨t',rfl⟩:=ry;exact PySem.EqMixed.ne_int_str (bZ I q (by simp))
  |_=>exact absurd (show false=true from hs) Kf
 |str i=>
  obtain⟨t,rfl⟩:=rx
  cases y with
  |non=>cases ry;exact PySem.EqNone.ne_str_none (bZ I q (by simp))
  |bl j=>cases ry;exact PySem.EqMixed.ne_str_bool (bZ I q (by simp))
  |int j=>obtain⟨t',rfl⟩:=ry;exact PySem.EqMixed.ne_str_int (bZ I q (by simp))
  |str j=>obtain⟨t',rfl⟩:=ry;exact ne_str (bZ I q (congrArg not xX))
  |_=>exact absurd (show false=true from hs) Kf
 |byt i=>
  obtain⟨t,rfl⟩:=rx
  cases y with
  |byt j=>obtain⟨t',rfl⟩:=ry;exact PySem.W.ne_bytes (bZ I q (congrArg not xY))
  |_=>exact absurd (show false=true from hs) Kf
 |_=>cases y<;>exact absurd (show false=true from hs) Kf
theorem pP:lX X (Lo .Lt) (zm λi j=> .bl (decide (i<j))):=EQ λ_ _ _ _ _ _ _ q=>lt_int q
theorem jy:lX X (Lo .Gt) (zm λi j=> .bl (decide (j<i))):=EQ λ_ _ _ _ _ _ _ q=>gt_int q
theorem v5:lX X (Lo .GtE) (zm λi j=> .bl (decide (j<=i))):=EQ λ_ _ _ _ _ _ _ q=>ge_int q
theorem AK:lX X (Lo .Is) (λx y H Q=>y= .non/\Q (.bl (decide (x= .non))) H):=by
 intro R6 s σ H x y v u Q I rx ry h
 obtain⟨rfl,q⟩:=h
 cases ry
 refine is_none_gen (bZ I q ?_)
 cases x<;>first
  |(cases rx;rfl)
  |(obtain⟨t,rfl⟩:=rx;rfl)
theorem lX.or {f:JM->JM->N5 JM} {r r':R2} (h:lX X f r) (h':lX X f r'):lX X f (λx y H Q=>r x y H Q\/r' x y H Q):=by
 intro R6 s σ H x y v u Q I rx ry q
 rcases q with q|q
 ·exact h R6 s σ H x y v u Q I rx ry q
 ·exact h' R6 s σ H x y v u Q I rx ry q
theorem AL (b:JW) {op:Pb} (h:op≠ .In:=by decide) (h2:op≠ .NotIn:=by decide):Lg op b=false:=by
 have e1:(op==CmpOp.In)=false:=by cases op<;>first|rfl|exact absurd rfl h
 have e2:(op==CmpOp.NotIn)=false:=by cases op<;>first|rfl|exact absurd rfl h2
 cases b<;>simp[Lg,e1,e2]
theorem CN {op:Pb} {r:R2} (ho:lX X (Lo op) r) (ha:PE X a ta) (hb:PE X b tb) (hm:Lg op b=false):PE X (.Compare a [op] [b] pos) (HZ r ta tb):=by
 intro R6 s σ H Q I h
 exact wpAny_Compare1 (EO ha hb I h λv u s2 x y H2 I2 rx ry q=>ho R6 s2 σ H2 x y v u Q I2 rx ry q) hm
def E3 (t:TE):TT:=λσ H Q=>t σ H λx H'=>∃k,x= .bl k/\Q k H'
theorem CO {op:Pb} {r:R2} (ho:lX X (Lo op) r) (ha:PE X a ta) (hb:PE X b tb) (hm:Lg op b=false):PT X (.Compare a [op] [b] pos) (E3 (HZ r ta tb)):=by
 intro R6 s σ H Q I h
 refine OZ (d0 (ha R6 s σ H _ I h) λv s1 ⟨x,H1,I1,r1,q1⟩=>d0 (hb R6 s1 σ H1 _ I1 q1) λu s2 ⟨y,H2,I2,r2,q2⟩=>
  d0 (ho R6 s2 σ H2 x y v u _ I2 r1 r2 q2) λc s3 ⟨z,H3,I3,r3,k,e,q3⟩=> ?_) hm
 subst e
 cases r3
 exact Lv ⟨H3,I3,q3⟩
def GP (K:JL) (x:V) (H:Hp) (k:Bool):Prop:=
 match x with
 | .non=>k=false
 | .bl b=>k=b
 | .int i=>k=(i != 0)
 | .str y=>y.length<=sizeLine/\k=((y.length:Int) != 0)
 | .byt y=>y.size<=sizeLine/\k=((y.size:Int) != 0)
 | .ref p=>(∃xs,dS K H p xs/\k= !xs.isEmpty)\/(∃xs,iE K H p xs/\k= !xs.isEmpty)\/∃kvs,H p=some (.dK kvs)/\k= !kvs.isEmpty
 |_=>False
theorem wG {κ:Type} {kvs:List (κ×V)} {vs:List (κ×JM)} (r:KV kvs vs):(!vs.isEmpty)= !kvs.isEmpty:=by
 cases r<;>rfl
theorem qV {xs:List V} {its:List JM} (r:bi xs its):(!its.toArray.isEmpty)= !xs.isEmpty:=by
 cases r<;>simp
theorem oQ:(sizeLine:Nat)<2 ^63:=by rw[Ld];decide
theorem EU:IA X (λx H Q=>∃k,GP X.K x H k/\Q k H):=by
 intro R6 s σ H x v Q I rx h
 obtain⟨k,e,q⟩:=h
 have hl:=oQ
 have hs:sizeLine=16777216:=Ld
 cases x with
 |non=>
  cases rx
  have e':k=false:=e
  subst e'
  exact truthy_none ⟨H,I,q⟩
 |bl b=>
  cases rx
  have e':k=b:=e
  subst e'
  exact Lv ⟨H,I,q⟩
 |int i=>
  obtain⟨t,rfl⟩:=rx
  have e':k=(i != 0):=e
  subst e'
  exact PySem.P.truthy_int ⟨H,I,q⟩
 |str y=>
  obtain⟨t,rfl⟩:=rx
  obtain⟨hy,e'⟩:y.length<=sizeLine/\k=((y.length:Int) != 0):=e
  subst e'
  exact PySem.P.truthy_str (by omega) ⟨H,I.tok _,q⟩
 |byt y=>
  obtain⟨t,rfl⟩:=rx
  obtain⟨hy,e'⟩:y.size<=sizeLine/\k=((y.size:Int) != 0):=e
  subst e'
  exact PySem.W.truthy_bytes (by omega) ⟨H,I.tok _,q⟩
 |ref p=>
  cases rx
  have e':(∃xs,dS X.K H p xs/\k= !xs.isEmpty)\/(∃xs,iE X.K H p xs/\k= !xs.isEmpty)\/∃kvs,H p=some (.dK kvs)/\k= !kvs.isEmpty:=e
  rcases e' with ⟨xs,hx,e'⟩|⟨xs,hx,e'⟩|⟨kvs,hx,e'⟩
  ·subst e'
   obtain⟨its,r,pl,hz⟩:=I.list hx
   have Rt:=r.length
   exact wpAny_truthy_list pl.isList (by simp only[JU];omega) ⟨H,I.tok _,by rw[qV r];exact q⟩
  ·subst e'
   obtain⟨its,r,pl,hz⟩:=I.tuple hx
   have Rt:=r.length
   exact truthy_tuple pl (by simp only[JU];omega) ⟨H,I.tok _,by rw[qV r];exact q⟩
  ·subst e'
   obtain⟨hz,hS,vs,r,m⟩:kvs.length<=sizeLine/\(p==sysModules)=false/\∃vs,KV kvs vs/\s.heap.DictOf (dG X.prog X.w) p vs:=I.hok p _ hx
   have Rt:kvs.length=vs.length:=NI r
   exact wpAny_truthy_dict hS m (by omega) ⟨H,I.tok _,by rw[wG r];exact q⟩
 |_=>exact(show False from e).elim
theorem AM (ha:PE X a ta) (he:∀SG,OY a X.env SG=(do let v<-SG;M7 a.pos;LI [v] (Qy v))):
  PT X a (λσ H Q=>ta σ H λx H'=>∃k,GP X.K x H' k/\Q k H'):=by
 intro R6 s σ H Q I h
 exact isTrue_plain (d0 (ha R6 s σ H _ I h) λv s1 ⟨x,H1,I1,r1,q1⟩=>EU R6 s1 σ H1 x v Q I1 r1 q1) (he _)
theorem jz {x:V} {us:List JM} (r:bi [x] us):∃u,us=[u]/\bU x u:=by
 cases r with
 |cons r1 r2=>cases r2;exact⟨_,rfl,r1⟩
theorem xZ {x y:V} {us:List JM} (r:bi [x,y] us):∃u w',us=[u,w']/\bU x u/\bU y w':=by
 cases r with
 |cons r1 r2=>
  cases r2 with
  |cons r3 r4=>cases r4;exact⟨_,_,rfl,r1,r3⟩
theorem sC (hc:X.calm=true):dU X (.builtin "max") (λxs H Q=>∃i j,xs=[.int i, .int j]/\Q (.int (if j>i then j else i)) H):=by
 intro R6 s σ H xs us Q I r h
 obtain⟨i,j,rfl,q⟩:=h
 obtain⟨u,w',rfl,⟨t,rfl⟩,⟨t',rfl⟩⟩:=xZ r
 refine max_two_ints (I.ok.hd hc) λh' tk k=>⟨_,H,I.kept k,?_,q⟩
 by_cases hj:j>i
 ·rw[if_pos hj,if_pos hj];exact⟨_,rfl⟩
 ·rw[if_neg hj,if_neg hj];exact⟨_,rfl⟩
theorem sD (hc:X.calm=true):dU X (.builtin "min") (λxs H Q=>∃i j,xs=[.int i, .int j]/\Q (.int (if j<i then j else i)) H):=by
 intro R6 s σ H xs us Q I r h
 obtain⟨i,j,rfl,q⟩:=h
 obtain⟨u,w',rfl,⟨t,rfl⟩,⟨t',rfl⟩⟩:=xZ r
 refine min_two_ints (I.ok.hd hc) λh' tk k=>⟨_,H,I.kept k,?_,q⟩
 by_cases hj:j<i
 ·rw[if_pos hj,if_pos hj];exact⟨_,rfl⟩
 ·rw[if_neg hj,if_neg hj];exact⟨_,rfl⟩
theorem oR:dU X (.type "int") (λxs H Q=>(∃i,xs=[.int i]/\Q (.int i) H)\/∃k,xs=[.bl k]/\Q (.int (if k then 1 else 0)) H):=by
 intro R6 s σ H xs us Q I r h
 rcases h with ⟨i,rfl,q⟩|⟨k,rfl,q⟩
 ·obtain⟨u,rfl,t,rfl⟩:=jz r
  exact call_int_int ⟨.int i,H,I,⟨_,rfl⟩,q⟩
 ·obtain⟨u,rfl,r1⟩:=jz r
  cases r1
  exact call_int_bool ⟨.int (if k then 1 else 0),H,I.tok _,⟨_,rfl⟩,q⟩
end
end L2
namespace L2
open PySem PySem.Spec PyProof.Rows
structure wH (h:Ka) (x dx C:JO) (mA:JN->Option JM):Prop where
 obj:h.get? x=some (LB C dx)
 ns:h.Ns1 dx mA
 ne:dx≠x
theorem zo {h:Ka} {dx:JO} {mA:JN->Option JM} (n:h.Ns1 dx mA):∃od,h.get? dx=some od/\∀name,NA name od=some (mA name):=by
 obtain⟨o,es,ep,ho,hd,hk,_,hm⟩:=n
 refine⟨o,ho,λname=> ?_⟩
 have e:=hm name
 unfold nsFind findBy at e
 rw[<-Array.find?_toList]at e
 unfold NA
 rw[hd]
 dsimp only
 split
 ·rename_i y q
  rw[q]at e
  exact congrArg some e
 ·rename_i q
  rw[q]at e
  have a:es.toList.any (·.refKey)=false:=by
   rw[List.any_eq_false]
   intro y hy
   obtain⟨z,t,WC⟩:=hk y (Array.mem_toList_iff.mp hy)
   simp[DictEntry.refKey,WC]
  have a':¬es.toList.any (·.refKey)=true:=by rw[a];exact Kf
  rw[if_neg a']
  exact congrArg some e
theorem wH.look {h:Ka} {x dx C:JO} {mA:JN->Option JM} (I:wH h x dx C mA):∃od,PySem.W.InstAt h x (LB C dx) C (some od)/\∀name,NA name od=some (mA name):=
 let ⟨od,ho,hl⟩:=zo I.ns
 ⟨od,⟨I.obj,rfl,rfl,ho⟩,hl⟩
section
variable {prog:K3} {w:Kd} {A:Kl} {E:JM->JP->Prop} {s:JP} {K:JL} {x dx C f:JO} {mA:JN->Option JM} {name:JN} {v:JM}
theorem CP {YD:Bool} {Q:JM->JP->Prop} (X:K.In s.heap) (I:wH s.heap x dx C mA) (hg:LM K C name=true) (hh:LU K C=true)
  (ha:K4 K (.ref C) name=some none) (hv:mA name=some v) (Xw:Qm v=true) (h:Q v {s with toks:=s.toks+1}):
  JZ (K2 prog w) A (getAttr (.ref x) name YD) Q E s:=by
 obtain⟨od,J,hl⟩:=I.look
 exact PySem.W.get_value X J (Nz hg).1 (PySem.W.findObj_own hh ha rfl (by rw[hl,hv])) Xw h
theorem AN {pl:N5 Bool} {Q:JM×List JM->JP->Prop} (X:K.In s.heap) (I:wH s.heap x dx C mA) (hg:LM K C name=true)
  (hf:K4 K (.ref C) name=some (some (.ref f))) (ht:Nq K (.ref f)=true) (hv:mA name=none) (h:Q (.ref f,[.ref x]) s):
  JZ (K2 prog w) A (Ms (.ref x) name pl) Q E s:=by
 obtain⟨od,J,hl⟩:=I.look
 exact PySem.W.method_fn X J (Nz hg).1 (Nz hg).2 hf (beq_iff_eq.mp ht) (by show (NA name od).map (·.isSome)=some false;rw[hl,hv];rfl) h
theorem CQ {ns:List JN} {Q:Unit->JP->Prop} (X:K.In s.heap) (I:wH s.heap x dx C mA)
  (hs:K4 K (.ref C) "__setattr__"=some (some (.builtin "object.__setattr__"))) (hp:Mg K C=true) (ht:OH K C name=some none) (hh:LU K C=true)
  (hw:Pz mA ns) (hsz:ns.length<=sizeLine)
  (h:∀h',wH h' x dx C (λy=>if y=name then some v else mA y)->O9 dx s.heap h'->Q () {s with heap:=h',toks:=s.toks+2}):
  JZ (K2 prog w) A (setAttr (.ref x) name v) Q E s:=by
 obtain⟨od,J,hl⟩:=I.look
 refine PySem.W.set_plain X J hs (PySem.W.osa_open (s:={s with toks:=s.toks+1}) (r:=none) X J hp ht λb=> ?_)
 obtain⟨cd,hc,Yv⟩:=PySem.W.any_some hh
 have hx:s.heap.get? x=some ⟨.ref C,some dx, .plain,#[]⟩:=I.obj
 refine JQ (JY (JQ (JQ (wpAny_loadPart hx (JQ (PySem.W.Looks.here (s:={s with toks:=s.toks+1}) (PySem.W.looks_clsIn X hc) ?_))))))
 rw[Yv]
 refine JY (a:=some dx) (JQ (JY (JQ ?_)))
 refine wpAny_nsSet1 (s:={s with toks:=s.toks+1}) I.ns λh' WD VX=> ?_
 obtain⟨oD,a2e,a2f,a0n,a0o,a0p⟩:=WD.count (PySem.Within.cons name v hw)
 refine JQ (wpAny_lookBehind a0n (by rw[a0o];exact pastItsLine_dict (Ky a0p (by rw[Kh];omega))) ?_)
 exact JY (h _ ⟨(VX.2 _ (Lz I.ne)).trans I.obj,WD,I.ne⟩ VX)
theorem AO {R:PK->JP->Prop} {vs:List JM} {kw:List (JN×JM)} (X:K.In s.heap) (hm:M9 K C=true)
  (hi:K4 K (.ref C) "__init__"=some (some (.ref f))) (hf:O_ K (.ref f)=some (.type "function"))
  (h:MW (K2 prog w) (A.under (.builtin "type.__call__" ⟨.ref C::vs,kw⟩)) (.call (.ref f) ⟨.ref (s.heap.objs.size+1)::vs,kw⟩) (PySem.W.InitBack (s.heap.objs.size+1) R)
   {s with heap:=(s.heap.push Lk).push (LB C s.heap.objs.size)}):
  MW (K2 prog w) A (.call (.ref C) ⟨vs,kw⟩) R s:=by
 obtain⟨hh,g,d,t,os⟩:=s
 exact PySem.W.make_core (PySem.W.makes_of X hm) (Mt X hi) (λself=>PySem.W.bind_fn X self hf) (.inl rfl) h
end
def i3 (f:JN) (v:V):List (JN×V)->List (JN×V)
 |[]=>[(f,v)]
 |(g,x)::r=>if g=f then (g,v)::r else (g,x)::i3 f v r
theorem de (f g:JN) (v:V):∀fs:List (JN×V),(i3 f v fs).lookup g=if g=f then some v else fs.lookup g
 |[]=>by
  show MD g [(f,v)]=_
  by_cases h:g=f
  ·have hb:(g==f)=true:=beq_iff_eq.mpr h
   simp only[MD,hb,if_pos h]
  ·have hb:(g==f)=false:=beq_eq_false_iff_ne.mpr h
   simp only[MD,hb,if_neg h]
 |(k,x)::r=>by
  have ih:=de f g v r
  rw[show i3 f v ((k,x)::r)=(if k=f then (k,v)::r else (k,x)::i3 f v r)from rfl]
  by_cases hk:k=f
  ·rw[if_pos hk]
   by_cases h:g=k
   ·have hb:(g==k)=true:=beq_iff_eq.mpr h
    simp only[MD,hb,if_pos (h.trans hk)]
   ·have hb:(g==k)=false:=beq_eq_false_iff_ne.mpr h
    simp only[MD,hb,if_neg (λe:g=f=>h (e.trans hk.symm))]
  ·rw[if_neg hk]
   by_cases h:g=k
   ·have hb:(g==k)=true:=beq_iff_eq.mpr h
    simp only[MD,hb,if_neg (λe:g=f=>hk (h.symm.trans e))]
   ·have hb:(g==k)=false:=beq_eq_false_iff_ne.mpr h
    simp only[MD,hb]
    exact ih
theorem oS (f:JN) (v:V):∀fs:List (JN×V),f∈(i3 f v fs).map (·.1)/\∀g,g∈fs.map (·.1)->g∈(i3 f v fs).map (·.1)
 |[]=>⟨by simp[i3],λg h=>by simp at h⟩
 |(k,x)::r=>by
  obtain⟨i1,i2⟩:=oS f v r
  rw[show i3 f v ((k,x)::r)=(if k=f then (k,v)::r else (k,x)::i3 f v r)from rfl]
  by_cases hk:k=f
  ·rw[if_pos hk]
   subst hk
   exact⟨by simp,λg h=>by simpa using h⟩
  ·rw[if_neg hk]
   refine⟨?_,λg h=> ?_⟩
   ·rw[J_]
    exact K8 _ i1
   ·rw[J_]at h ⊢
    rcases K1.mp h with e|e
    ·exact K1.mpr (.inl e)
    ·exact K8 _ (i2 g e)
theorem pQ (f:JN) (v:V):∀fs:List (JN×V),(i3 f v fs).length<=fs.length+1
 |[]=>by simp[i3]
 |(k,x)::r=>by
  have ih:=pQ f v r
  rw[show i3 f v ((k,x)::r)=(if k=f then (k,v)::r else (k,x)::i3 f v r)from rfl]
  by_cases hk:k=f
  ·rw[if_pos hk,Kh,Kh];omega
  ·rw[if_neg hk,Kh,Kh];omega
theorem kY.some_of {v:V} {o:Option JM} (r:kY (some v) o):∃u,o=some u/\bU v u:=by
 cases o with
 |none=>exact(show False from r).elim
 |some u=>exact⟨u,rfl,r⟩
theorem kY.none_of {o:Option JM} (r:kY none o):o=none:=by
 cases o with
 |none=>rfl
 |some u=>exact(show False from r).elim
theorem zq {v:V} {u:JM} (r:bU v u):Qm u=true:=by
 cases v with
 |non=>cases (show u=KU from r);rfl
 |bl b=>cases (show u=P9 b from r);rfl
 |int i=>obtain⟨t,e⟩:=(show ∃t,u=M8 i t from r);cases e;rfl
 |str x=>obtain⟨t,e⟩:=(show ∃t,u=Nh x t from r);cases e;rfl
 |byt b=>obtain⟨t,e⟩:=(show ∃t,u=R3 b t from r);cases e;rfl
 |flt b=>obtain⟨t,e⟩:=(show ∃t,u=Qh b t from r);cases e;rfl
 |ref a=>cases (show u=Kk a from r);rfl
 |ty n=>cases (show u=LY n from r);rfl
section
variable {P:K3} {w:Kd} {H H':Hp} {h h':Ka} {a C dx:JO} {fs UB:List (JN×V)}
theorem qF (hok:la P w H h) (e:H a=some (.ins C dx fs)):∃mA,wH h a dx C mA/\(∀f,kY (fs.lookup f) (mA f))/\Pz mA (fs.map (·.1))/\fs.length<=1000/\H dx=some (.own a):=by
 obtain⟨d,z,ne,ob,mA,n,r,q⟩:=(show ce P w H h a (.ins C dx fs)from hok a _ e)
 exact⟨mA,⟨ob,n,ne⟩,r,q,z,d⟩
end
structure v6 (K:JL) (C:JO):Prop where
 pg:LM K C PL=true
 hd:LU K C=true
 po:Mg K C=true
 sa:K4 K (.ref C) "__setattr__"=some (some (.builtin "object.__setattr__"))
theorem v6.get {K:JL} {C:JO} (c:v6 K C) (f:JN):LM K C f=true:=c.pg
def eu (K:JL) (C:JO) (f:JN):Prop:=K4 K (.ref C) f=some none
theorem eu.taker {K:JL} {C:JO} {f:JN} (n:eu K C f):OH K C f=some none:=by
 unfold OH
 rw[show K4 K (.ref C) f=some none from n]
 rfl
structure wI (K:JL) (C:JO) (m:JN) (f:JO):Prop where
 at_:K4 K (.ref C) m=some (some (.ref f))
 fn:Nq K (.ref f)=true
 kp:KJ K (.ref f)=true
section
variable {X:Cx} {R6:List (JO×Kq)} {σ:St} {H:Hp} {s:JP} {a C dx:JO} {fs:List (JN×V)} {f:JN} {v:V} {A:Kl} {E:JM->JP->Prop}
theorem wJ {b:Bool} {Q:JM->JP->Prop} (I:aM X R6 σ H s) (e:H a=some (.ins C dx fs)) (c:v6 X.K C) (n:eu X.K C f) (l:fs.lookup f=some v)
  (h:∀u s',aM X R6 σ H s'->bU v u->Q u s'):JZ (K2 X.prog X.w) A (getAttr (.ref a) f b) Q E s:=by
 obtain⟨mA,O,r,_,_,_⟩:=qF I.hok e
 obtain⟨u,hu,ru⟩:=kY.some_of (v:=v) (o:=mA f) (by rw[<-l];exact r f)
 exact CP I.kIn O (c.get f) c.hd n hu (zq ru) (h u _ (I.tok _) ru)
theorem m_ {m:JN} {g:JO} {pl:N5 Bool} {Q:JM×List JM->JP->Prop} (I:aM X R6 σ H s) (e:H a=some (.ins C dx fs)) (c:v6 X.K C) (k:wI X.K C m g) (l:fs.lookup m=none)
  (h:Q (.ref g,[.ref a]) s):JZ (K2 X.prog X.w) A (Ms (.ref a) m pl) Q E s:=by
 obtain⟨mA,O,r,_,_,_⟩:=qF I.hok e
 have hn:mA m=none:=kY.none_of (by rw[<-l];exact r m)
 exact AN I.kIn O (c.get m) k.at_ k.fn hn h
theorem qW {y:V} {u:JM} {Q:Unit->JP->Prop} (I:aM X R6 σ H s) (e:H a=some (.ins C dx fs)) (c:v6 X.K C) (n:eu X.K C f) (hl:fs.length<1000) (ry:bU y u)
  (h:∀s',aM X R6 σ (bY H a (.ins C dx (i3 f y fs))) s'->Q () s'):JZ (K2 X.prog X.w) A (setAttr (.ref a) f u) Q E s:=by
 obtain⟨mA,O,r,wi,_,ho⟩:=qF I.hok e
 have hz:(fs.map (·.1)).length<=sizeLine:=by rw[JR,Ld];omega
 refine CQ I.kIn O c.sa c.po n.taker c.hd wi hz λh' O' sb=>h _ ?_
 have hd:∃o,h'.get? dx=some o:=let ⟨o,_,_,e',_⟩:=O'.ns;⟨o,e'⟩
 refine I.write (x:=a) (e:=dx) (by rw[e];exact LO) (.inr ho) (λb q hb z=>(sb.2 b hb).trans z) hd ?_
 refine⟨by rw[ay O.ne];exact ho,?_,O.ne,O'.obj,_,O'.ns,λg=> ?_,λg hg=> ?_⟩
 ·have:=pQ f y fs;omega
 ·show kY ((i3 f y fs).lookup g) (if g=f then some u else mA g)
  rw[de]
  by_cases q:g=f
  ·rw[if_pos q,if_pos q];exact ry
  ·rw[if_neg q,if_neg q];exact r g
 ·by_cases q:g=f
  ·rw[q];exact(oS f y fs).1
  ·refine(oS f y fs).2 g (wi g λz=>hg ?_)
   show (if g=f then some u else mA g)=none
   rw[if_neg q];exact z
theorem aM.made (I:aM X R6 σ H s):aM X R6 σ (bY (bY H s.heap.objs.size (.own (s.heap.objs.size+1))) (s.heap.objs.size+1) (.ins C s.heap.objs.size []))
  {s with heap:=(s.heap.push Lk).push (LB C s.heap.objs.size)}:=by
 have e1:(s.heap.push Lk).get? s.heap.objs.size=some Lk:=Ko s.heap rfl
 have e2:((s.heap.push Lk).push (LB C s.heap.objs.size)).get? (s.heap.objs.size+1)=some (LB C s.heap.objs.size):=by
  have:=Ko (s.heap.push Lk) (o:=LB C s.heap.objs.size) rfl
  rwa [Mj]at this
 have e3:(s.heap.push Lk).Ns s.heap.objs.size (λ_=>none):=⟨Lk,#[],_,e1,rfl,(λe he=>absurd he (by simp)),λ_=>rfl⟩
 have I1:=I.laid (a:=s.heap.objs.size) (o:= .own (s.heap.objs.size+1)) (h':=s.heap.push Lk) (t':=s.toks) (λb u q=>JV _ q) (Kc _) ⟨_,e1⟩
 refine I1.laid (a:=s.heap.objs.size+1) (o:= .ins C s.heap.objs.size []) (t':=s.toks) (λb u q=>JV _ q) (Oa (Mj _ _)) ?_
 have ne:s.heap.objs.size≠s.heap.objs.size+1:=Ku (Ob _)
 refine⟨by rw[ay ne,aH],Lx _,ne,e2,λ_=>none,(Heap.Ns1.of_empty e3).at λo q=>JV _ q,λ_=>LO,λy hy=>absurd rfl hy⟩
theorem CS {prog:K3} {w:Kd} {env:Ly} {e:JW} {f:JN} {pos:KC} {s:JP} {Q:JM->JP->Prop} (hb:KI e f env (Kb e env)=Kb e env)
  (h:JZ (K2 prog w) A (Kb e env) (λo s₁=>JZ (K2 prog w) A (getAttr o f true) Q E s₁) E s):JZ (K2 prog w) A (Kb (.Attribute e f pos) env) Q E s:=
 Attribute_any_ h (by rw[arm_eval_Attribute,hb])
end
def IC (K:JL) (ta:TE) (f:JN):TE:=λσ H Q=>ta σ H λx H1=>∃a C dx fs v,x= .ref a/\H1 a=some (.ins C dx fs)/\v6 K C/\eu K C f/\fs.lookup f=some v/\Q v H1
def ID (K:JL) (ta tv:TE) (f:JN):TS:=λD σ H=>tv σ H λy H1=>ta σ H1 λx H2=>∃a C dx fs,x= .ref a/\H2 a=some (.ins C dx fs)/\v6 K C/\eu K C f/\fs.length<1000/\
 D.nx σ (bY H2 a (.ins C dx (i3 f y fs)))
section
variable {X:Cx} {o e value:JW} {f:JN} {pos Rx YE:KC} {ta tv:TE}
theorem qX (he:PE X e ta) (hb:KI e f X.env (Kb e X.env)=Kb e X.env):PE X (.Attribute e f pos) (IC X.K ta f):=by
 intro R6 s σ H Q I h
 refine CS hb (d0 (he R6 s σ H _ I h) λu s1 z_=> ?_)
 obtain⟨x,H1,I1,rx,a,C,dx,fs,v,ex,ea,c,n,l,q⟩:=z_
 subst ex
 obtain rfl:u=Kk a:=rx
 exact wJ I1 ea c n l λu' s2 I2 ru=>⟨v,H1,I2,ru,q⟩
theorem EV (ha:PE X o ta) (hv:PE X value tv) (hs:KR value (some (.Attribute o f Rx)) pos.line X.env=pure false):PS X (.Assign [.Attribute o f Rx] value pos) (ID X.K ta tv f):=by
 intro R6 s σ H D I h
 refine Nk (d0 (hv R6 s σ H _ I h) λu s1 ⟨y,H1,I1,ry,q⟩=>d0 (ha R6 s1 σ H1 _ I1 q) λov s2 z_=> ?_) hs
 obtain⟨x,H2,I2,rx,a,C,dx,fs,ex,ea,c,n,l,q2⟩:=z_
 subst ex
 obtain rfl:ov=Kk a:=rx
 exact qW I2 ea c n l ry λs3 I3=>⟨σ,_,I3,q2⟩
theorem E4 {pl:N5 Bool} {m:JN} {Rp:KC} {args:List JW} {R6:List (JO×Kq)} {s:JP} {σ:St} {H:Hp} {Q:JM->JP->Prop} {te:TE} (he:PE X e te) (I:aM X R6 σ H s)
  (h:te σ H λx H1=>∃a C dx fs g,x= .ref a/\H1 a=some (.ins C dx fs)/\v6 X.K C/\wI X.K C m g/\fs.lookup m=none/\
   ∀s1,aM X R6 σ H1 s1->JZ (K2 X.prog X.w) X.A (Nb pos (.ref g) [.ref a] (Ks pos (JS args X.env)) (LF pos (Le [] X.env))) Q X.xe s1)
  (ht:Kb (.Call (.Attribute e m Rp) args [] pos) X.env=(do
   let ov<-Kb e X.env
   M7 Rp.atName
   let (f,first)<-LI [ov] (Ms ov m pl)
   Nb pos f first (Ks pos (JS args X.env)) (LF pos (Le [] X.env)))):
  JZ (K2 X.prog X.w) X.A (Kb (.Call (.Attribute e m Rp) args [] pos) X.env) Q X.xe s:=by
 refine Ni (pl:=pl) (d0 (he R6 s σ H _ I h) λu s1 z_=> ?_) ht
 obtain⟨x,H1,I1,rx,a,C,dx,fs,g,ex,ea,c,k,l,q⟩:=z_
 subst ex
 obtain rfl:u=Kk a:=rx
 exact m_ I1 ea c k l (q s1 I1)
end
section
variable {X:Cx} {R6:List (JO×Kq)} {σ:St} {H:Hp} {s:JP} {A:Kl} {E:JM->JP->Prop} {Q:JM->JP->Prop} {c:JM} {b:Bool}
inductive nQ (K:JL) (H:Hp):V->JM->Prop where
 |non:nQ K H .non (.type "NoneType")
 |bl (x:Bool):nQ K H (.bl x) (.type "bool")
 |int (i:Int):nQ K H (.int i) (.type "int")
 |str (x:JN):nQ K H (.str x) (.type "str")
 |flt (x:UInt64):nQ K H (.flt x) (.type "float")
 |lst {a:JO} {xs:List V} (e:H a=some (.lst xs)):nQ K H (.ref a) (.type "list")
 |frz {a:JO} {o:Kq} {xs:List V} (e:H a=some (.frz o (.lst xs))):nQ K H (.ref a) (.type "list")
 |tup {a:JO} {xs:List V} (e:H a=some (.tup xs)):nQ K H (.ref a) (.type "tuple")
 |dK {a:JO} {kvs:List (cI×V)} (e:H a=some (.dK kvs)):nQ K H (.ref a) (.type "dict")
 |dT {a:JO} {kvs:List (List cI×V)} (e:H a=some (.dT kvs)):nQ K H (.ref a) (.type "dict")
 |ins {a C dx:JO} {fs:List (JN×V)} (e:H a=some (.ins C dx fs)) (cl:v6 K C) (ha:K4 K (.ref C) "__class__"=some (some (.builtin "object.__class__")))
   (hn:Mh K (.builtin "object.__class__") "__get__"=some (some (.builtin "getset_descriptor.__get__"))) (ZS:MI K (.builtin "object.__class__")=some true)
   (hm:Kz K C (.type "object")=some true):nQ K H (.ref a) (.ref C)
theorem zr {x:V} {u t:JM} (I:aM X R6 σ H s) (rx:bU x u) (ty:nQ X.K H x t) (e:L0 X.K t c=some b) (h:∀tk,Q (.bool b) {s with toks:=tk}):
  JZ (K2 X.prog X.w) A (call (.builtin "isinstance") [u,c]) Q E s:=by
 cases ty with
 |non=>cases (show u=KU from rx);exact L5 PySem.W.kitx_none I.kIn LO e (λz=>nomatch z) h
 |bl y=>cases (show u=P9 y from rx);exact L5 PySem.W.kitx_bool I.kIn LO e (λz=>nomatch z) h
 |int i=>obtain⟨t,q⟩:=(show ∃t,u=M8 i t from rx);cases q;exact L5 PySem.W.kitx_int I.kIn LO e (λz=>nomatch z) h
 |str y=>obtain⟨t,q⟩:=(show ∃t,u=Nh y t from rx);cases q;exact L5 PySem.W.kitx_str I.kIn LO e (λz=>nomatch z) h
 |flt y=>obtain⟨t,q⟩:=(show ∃t,u=Qh y t from rx);cases q;exact L5 PySem.W.kitx_float I.kIn LO e (λz=>nomatch z) h
 | @lst a xs ea=>
  cases (show u=Kk a from rx)
  obtain⟨_,_,n,_,h1⟩:=(show ce X.prog X.w H s.heap a (.lst xs)from I.hok a _ ea)
  exact L5 Qb I.kIn ⟨_,h1,rfl⟩ e (λz=>nomatch z) h
 | @frz a ob xs ea=>
  cases (show u=Kk a from rx)
  obtain⟨_,_,_,n,_,h1⟩:=(show ce X.prog X.w H s.heap a (.frz ob (.lst xs))from I.hok a _ ea)
  exact L5 Qb I.kIn ⟨_,h1,rfl⟩ e (λz=>nomatch z) h
 | @tup a xs ea=>
  cases (show u=Kk a from rx)
  obtain⟨_,_,_,p⟩:=(show ce X.prog X.w H s.heap a (.tup xs)from I.hok a _ ea)
  obtain⟨o,h1,h2,_⟩:=p
  exact L5 PySem.W.kitx_tuple I.kIn ⟨o,h1,h2⟩ e (λz=>nomatch z) h
 | @dK a kvs ea=>
  cases (show u=Kk a from rx)
  obtain⟨_,_,vs,_,p⟩:=(show ce X.prog X.w H s.heap a (.dK kvs)from I.hok a _ ea)
  obtain⟨o,es,ep,h1,h2,_⟩:=p
  exact L5 Qc I.kIn ⟨o,h1,h2.1⟩ e (λz=>nomatch z) h
 | @dT a kvs ea=>
  cases (show u=Kk a from rx)
  obtain⟨_,_,xs,_,o,es,ep,h1,h2,_⟩:=(show ce X.prog X.w H s.heap a (.dT kvs)from I.hok a _ ea)
  exact L5 Qc I.kIn ⟨o,h1,h2.1⟩ e (λz=>nomatch z) h
 | @ins a C dx fs ea cl ha hn ZS hm=>
  cases (show u=Kk a from rx)
  obtain⟨mA,O,_⟩:=qF I.hok ea
  obtain⟨od,J,_⟩:=O.look
  exact L5 (PySem.W.kitx_own (cl.get _) cl.hd ha hn ZS hm) I.kIn J e (λz=>nomatch z) h
end
end L2
namespace L2
open PySem PySem.Spec PyProof.Rows
structure d7 (k:Nat) (A:Kl):Prop where
 hd:A.handled=none
 dp:A.depth+3*k+5<recursionLimit
 un:A.units+16*k+200<Ma
theorem d7.mono {j k:Nat} {A:Kl} (r:d7 k A) (h:j<=k):d7 j A:=⟨r.hd,by have:=r.dp;omega,by have:=r.un;omega⟩
theorem d7.deeper {k:Nat} {A:Kl} (r:d7 (k+1) A) (env:Ly):d7 k (A.deeper env):=
 ⟨r.hd,by have:=r.dp;show A.depth+1+3*k+5<_;omega,by have:=r.un;show A.units+3+16*k+200<_;omega⟩
theorem wK {A:Kl} {C:JO} {us:List JM} {kw:List (JN×JM)}:(A.under (.builtin "type.__call__" ⟨.ref C::us,kw⟩)).depth=A.depth+1:=by
 first|rfl|simp[PM,Code.weight,Code.isCreation,Code.isGuard,Code.isCaller,Code.frames,PR,guardIds]
theorem wL {A:Kl} {C:JO} {us:List JM} {kw:List (JN×JM)}:(A.under (.builtin "type.__call__" ⟨.ref C::us,kw⟩)).units=A.units+1:=by
 first|rfl|simp[PM,Code.cUnits,Code.frames,PR]
theorem d7.make {k:Nat} {A:Kl} (r:d7 (k+1) A) (C:JO) (us:List JM) (kw:List (JN×JM)):d7 k (A.under (.builtin "type.__call__" ⟨.ref C::us,kw⟩)):=
 ⟨r.hd,by have:=r.dp;rw[wK];omega,by have:=r.un;rw[wL];omega⟩
theorem d7.depth {k:Nat} {A:Kl} (r:d7 k A):A.depth<recursionLimit:=by have:=r.dp;omega
theorem d7.units {k:Nat} {A:Kl} (r:d7 k A):A.units+64<Ma:=by have:=r.un;omega
def GQ:TA:=λ_ H Q=>Q [] H
def E5 (ta:TE) (tr:TA):TA:=λσ H Q=>ta σ H λx H1=>tr σ H1 λxs H2=>Q (x::xs) H2
section
variable {X:Cx} {e:JW} {es:List JW} {te:TE} {t:TA} {pos:KC}
theorem gG:PA X [] GQ:=λ_ _ _ _ H Q I h=>Qd ⟨[],H,I, .nil,h⟩
theorem df (ha:PE X e te) (hr:PA X es t) (hs:JS (e::es) X.env=(false,Kb e X.env)::JS es X.env:=by rfl):PA X (e::es) (E5 te t):=by
 intro pos R6 s σ H Q I h
 rw[hs]
 show JZ _ _ (QK ((false,Kb e X.env)::Ks pos (JS es X.env))) _ _ s
 refine PU (d0 (ha R6 s σ H _ I h) λu s1 z_=> ?_)
 obtain⟨x,H1,I1,r1,q1⟩:=z_
 exact d0 (hr pos R6 s1 σ H1 _ I1 q1) λus s2 ⟨xs,H2,I2,r2,q2⟩=>⟨x::xs,H2,I2, .cons r1 r2,q2⟩
def IE (t:TA):TE:=λσ H Q=>t σ H λxs H1=>xs.length<=sizeLine/\∀p,H1 p=none->Q (.ref p) (bY H1 p (.tup xs))
def IF (t:TA):TE:=λσ H Q=>t σ H λxs H1=>xs.length<=sizeLine/\∀p,H1 p=none->Q (.ref p) (bY H1 p (.lst xs))
theorem EW {x1} (h:PA X es t):PE X (.Tuple es x1 pos) (IE t):=by
 intro R6 s σ H Q I hq
 refine wpAny_Tuple_spliced (d0 (h pos R6 s σ H _ I hq) λus s1 ⟨xs,H1,I1,r,z,q⟩=>⟨by rw[<-r.length];exact z,?_⟩)
 have hf:H1 s1.heap.objs.size=none:=I1.hok.fresh (Kc _)
 refine⟨.ref s1.heap.objs.size,bY H1 s1.heap.objs.size (.tup xs),I1.laid (t':=s1.toks) (λb u e=>JV _ e) (Kc _) ?_,rfl,q _ hf⟩
 exact⟨z,us,r,⟨_,Ko _ rfl,rfl,_,rfl,rfl⟩⟩
theorem tU (h:PA X es t):PE X (.List es pos) (IF t):=by
 intro R6 s σ H Q I hq
 refine wpAny_List_spliced (d0 (h pos R6 s σ H _ I hq) λus s1 ⟨xs,H1,I1,r,z,q⟩=>⟨by rw[<-r.length];exact z,?_⟩)
 have hf:H1 s1.heap.objs.size=none:=I1.hok.fresh (Kc _)
 refine⟨.ref s1.heap.objs.size,bY H1 s1.heap.objs.size (.lst xs),I1.laid (t':=s1.toks) (λb u e=>JV _ e) (Kc _) ?_,rfl,q _ hf⟩
 exact⟨z,us,0,r,Ko _ rfl⟩
end
abbrev Sp:=List V->Hp->VK->XK->Prop
abbrev wM:=List Ly->Hp->JP->XK->JM->JP->Prop
structure wN (P:K3) (w:Kd) (K:JL) (mg:JN->Option JM) (base:Ka) (A:Kl) (outer:List Ly) (s:JP) (H:Hp):Prop where
 frames:A.frames=some outer
 mod:Mod K mg base
 bs:∀b o,base.get? b=some o->s.heap.get? b=some o/\H b=none
 bsz:base.objs.size<=s.heap.objs.size
 funs:s.heap.FunFrames base outer
 frf:∀b∈qE outer,H b=none
 hok:la P w H s.heap
 bare:MV s.gens
def CE (outer:List Ly) (P:K3) (w:Kd) (H:Hp) (s:JP) (Q:VK) (u:JM) (s':JP):Prop:=
 ∃v H',s'.os=s.os/\MV s'.gens/\Un (qE outer) [] H H' s.heap s'.heap/\la P w H' s'.heap/\bU v u/\Q v H'
def CR (CX:wM) (outer:List Ly) (P:K3) (w:Kd) (H:Hp) (s:JP) (Q:VK) (E:XK) (r:PK) (s':JP):Prop:=
 match r with
 | .ok (.ret u)=>CE outer P w H s Q u s'
 | .ok _=>False
 | .error e=>CX outer H s E e s'
structure fH (P:K3) (w:Kd) (K:JL) (mg:JN->Option JM) (base:Ka) (CX:wM) (k:Nat) (f:JO) (fd:Lc) (ps:List JN) (sp:Sp):Prop where
 len:∀vs H Q E,sp vs H Q E->vs.length=ps.length
 run:∀(A:Kl) (outer:List Ly) (s:JP) (H:Hp) (args:Args) (us:List JM) (vs:List V) (Q:VK) (E:XK),d7 k A->wN P w K mg base A outer s H->P0 s fd args (ps.zip us)->bi vs us->sp vs H Q E->
  MW (K2 P w) A (.call (.ref f) args) (CR CX outer P w H s Q E) s
theorem fH.mono {P:K3} {w:Kd} {K:JL} {mg:JN->Option JM} {base:Ka} {CX:wM} {j k:Nat} {f:JO} {fd:Lc} {ps:List JN} {sp:Sp} (F:fH P w K mg base CX j f fd ps sp) (h:j<=k):
  fH P w K mg base CX k f fd ps sp:=⟨F.len,λA outer s H args us vs Q E hr=>F.run A outer s H args us vs Q E (hr.mono h)⟩
theorem fH.imp {P:K3} {w:Kd} {K:JL} {mg:JN->Option JM} {base:Ka} {CX:wM} {k:Nat} {f:JO} {fd:Lc} {ps:List JN} {sp ZT:Sp} (F:fH P w K mg base CX k f fd ps sp)
  (h:∀vs H Q E,ZT vs H Q E->sp vs H Q E):fH P w K mg base CX k f fd ps ZT:=
 ⟨λvs H Q E q=>F.len vs H Q E (h _ _ _ _ q),λA outer s H args us vs Q E hr he hb hv hs=>F.run A outer s H args us vs Q E hr he hb hv (h _ _ _ _ hs)⟩
theorem wN.make {P:K3} {w:Kd} {K:JL} {mg:JN->Option JM} {base:Ka} {A:Kl} {outer:List Ly} {s:JP} {H:Hp} (e:wN P w K mg base A outer s H) (C:JO) (us:List JM) (kw:List (JN×JM)):
  wN P w K mg base (A.under (.builtin "type.__call__" ⟨.ref C::us,kw⟩)) outer s H:=⟨by first|exact e.frames|(simpa[PM,Code.envs,PR,pushEnvs]using e.frames),e.mod,e.bs,e.bsz,e.funs,e.frf,e.hok,e.bare⟩
section
variable {X:Cx} {R6:List (JO×Kq)} {σ:St} {H:Hp} {s s':JP}
theorem aM.env0 (I:aM X R6 σ H s):wN X.prog X.w X.K X.mg X.base X.A X.stack s H:=
 ⟨I.ok.frames,I.ok.mod,I.bs,Ky I.ok.bsz I.sz,I.stack,I.stkFree,I.hok,I.bare⟩
theorem aM.after {Q:VK} {u:JM} (I:aM X R6 σ H s) (h:CE X.stack X.prog X.w H s Q u s'):EP X R6 σ Q u s':=by
 obtain⟨v,H',os,bare,un,hok,r,q⟩:=h
 obtain⟨hh,g,d,t,YF⟩:=s'
 obtain rfl:YF=s.os:=os
 exact⟨v,H',I.call (h':=hh) (g':=g) (d':=d) (t':=t) (ch:=[]) un hok bare (λb z=>absurd z (by simp)),r,q⟩
end
def E6 (sp:Sp) (Uq:List V) (E:St->XK) (t:TA):TE:=λσ H Q=>t σ H λvs H1=>sp (vs++Uq) H1 Q (E σ)
def AQ (C:JO) (m:JN) (sp:Sp) (Uq:List V) (E:St->XK) (ta:TE) (t:TA):TE:=λσ H Q=>ta σ H λx H1=>∃a dx fs,x= .ref a/\H1 a=some (.ins C dx fs)/\fs.lookup m=none/\
 t σ H1 λvs H2=>sp (x::(vs++Uq)) H2 Q (E σ)
def GR (C:JO) (sp:Sp) (Uq:List V) (E:St->XK) (t:TA):TE:=λσ H Q=>t σ H λvs H1=>∀x dx,H1 x=none->H1 dx=none->dx≠x->
 sp (.ref x::(vs++Uq)) (bY (bY H1 dx (.own x)) x (.ins C dx [])) (λv H2=>v= .non/\Q (.ref x) H2) (E σ)
def gk (K:JL) (fd:Lc) (ps:List JN) (ds:List JM):Prop:=
 ∀(s:JP) (us:List JM),K.In s.heap->(us++ds).length=ps.length->P0 s fd ⟨us,[]⟩ (ps.zip (us++ds))
theorem gk.all {K:JL} {fd:Lc} {ps:List JN} (h:∀us:List JM,us.length=ps.length->LN fd ⟨us,[]⟩=pure (ps.zip us)):gk K fd ps []:=λs us _ hl=>by
 rw[Lm]at hl ⊢
 exact .of_eq (h us hl)
def lc (CX:wM) (X:Cx) (E:St->XK):Prop:=∀(R6:List (JO×Kq)) (σ:St) (H:Hp) (s:JP) (e:JM) (s':JP),aM X R6 σ H s->CX X.stack H s (E σ) e s'->X.xe e s'
section
variable {X:Cx} {CX:wM} {k:Nat} {f C:JO} {fd:Lc} {ps:List JN} {sp:Sp} {Uq:List V} {ds:List JM} {E:St->XK} {x m:JN} {p pos Rp:KC} {e o:JW} {es:List JW} {ta:TE} {t:TA}
theorem wO {R6:List (JO×Kq)} {σ:St} {H:Hp} {s:JP} {Q:VK} {us:List JM} {vs:List V} (F:fH X.prog X.w X.K X.mg X.base CX k f fd ps sp) (hr:d7 k X.A) (hb:gk X.K fd ps ds) (hd:bi Uq ds) (hx:lc CX X E)
  (I:aM X R6 σ H s) (r:bi vs us) (h:sp (vs++Uq) H Q (E σ)):JZ (K2 X.prog X.w) X.A (call (.ref f) us) (EP X R6 σ Q) X.xe s:=by
 have r2:bi (vs++Uq) (us++ds):=r.append hd
 have hl:(us++ds).length=ps.length:=by rw[<-r2.length];exact F.len _ _ _ _ h
 refine O1 (MQ (F.run X.A X.stack s H ⟨us,[]⟩ (us++ds) (vs++Uq) Q (E σ) hr I.env0 (hb s us I.kIn hl) r2 h) λr s' hq=> ?_)
 cases r with
 |error e=>exact hx R6 σ H s e s' I hq
 |ok fl=>
  cases fl with
  |ret u=>exact I.after hq
  |next=>exact Ll hq
  |brk=>exact Ll hq
  |cont=>exact Ll hq
theorem x_ (F:fH X.prog X.w X.K X.mg X.base CX k f fd ps sp) (hr:d7 k X.A) (hg:Gl X x) (hm:X.mg x=some (.ref f)) (hk:KJ X.K (.ref f)=true) (hb:gk X.K fd ps ds) (hd:bi Uq ds) (hx:lc CX X E)
  (ha:PA X (e::es) t) (T8:(x==("__debug__":JN))=false:=by decide) (he:JS (e::es) X.env=(false,Kb e X.env)::JS es X.env:=by rfl) (Sm:(Ks pos (JS es X.env)).any (·.1)=false:=by rfl):
  PE X (.Call (.Name x p) (e::es) [] pos) (E6 sp Uq E t):=by
 intro R6 s σ H Q I h
 refine LP (nN I hg hm ?_ T8)
 refine ND (h₀:=X.base) I.ok.mod.kin hk (d0 (ha pos R6 s σ H _ I h) λus s1 ⟨vs,H1,I1,r,q⟩=>⟨I1.kIn,?_⟩) he Sm
 exact wO F hr hb hd hx I1 r q
theorem y0 {pl:N5 Bool} (he:PE X o ta) (c:v6 X.K C) (hm:wI X.K C m f) (F:fH X.prog X.w X.K X.mg X.base CX k f fd ps sp) (hr:d7 k X.A) (hb:gk X.K fd ps ds) (hd:bi Uq ds) (hx:lc CX X E) (ha:PA X (e::es) t)
  (U5:JS (e::es) X.env=(false,Kb e X.env)::JS es X.env:=by rfl) (Sm:(Ks pos (JS es X.env)).any (·.1)=false:=by rfl)
  (ht:Kb (.Call (.Attribute o m Rp) (e::es) [] pos) X.env=(do
   let ov<-Kb o X.env
   M7 Rp.atName
   let (f,first)<-LI [ov] (Ms ov m pl)
   Nb pos f first (Ks pos (JS (e::es) X.env)) (LF pos (Le [] X.env))):=by rfl):
  PE X (.Call (.Attribute o m Rp) (e::es) [] pos) (AQ C m sp Uq E ta t):=by
 intro R6 s σ H Q I h
 refine Ni (pl:=pl) (d0 (he R6 s σ H _ I h) λu s1 z_=> ?_) ht
 obtain⟨x,H1,I1,rx,a,dx,fs,ex,ea,l,q⟩:=z_
 subst ex
 obtain rfl:u=Kk a:=rx
 refine m_ I1 ea c hm l ?_
 refine ND (first:=[.ref a]) (h₀:=X.base) I.ok.mod.kin hm.kp (d0 (ha pos R6 s1 σ H1 _ I1 q) λus s2 ⟨vs,H2,I2,r,q2⟩=>⟨I2.kIn,?_⟩) U5 Sm
 exact wO (us:= .ref a::us) (vs:= .ref a::vs) F hr hb hd hx I2 (.cons rfl r) q2
theorem v7 {pl:N5 Bool} (he:PE X o ta) (c:v6 X.K C) (hm:wI X.K C m f) (F:fH X.prog X.w X.K X.mg X.base CX k f fd ps sp) (hr:d7 k X.A) (hb:gk X.K fd ps ds) (hd:bi Uq ds) (hx:lc CX X E)
  (ht:Kb (.Call (.Attribute o m Rp) [] [] pos) X.env=(do
   let ov<-Kb o X.env
   M7 Rp.atName
   let (f,first)<-LI [ov] (Ms ov m pl)
   Nb pos f first (Ks pos (JS [] X.env)) (LF pos (Le [] X.env))):=by rfl):
  PE X (.Call (.Attribute o m Rp) [] [] pos) (AQ C m sp Uq E ta GQ):=by
 intro R6 s σ H Q I h
 refine Ni (pl:=pl) (d0 (he R6 s σ H _ I h) λu s1 z_=> ?_) ht
 obtain⟨x,H1,I1,rx,a,dx,fs,ex,ea,l,q⟩:=z_
 subst ex
 obtain rfl:u=Kk a:=rx
 refine m_ I1 ea c hm l ?_
 exact PySem.W.callWith_K0 (first:=[.ref a]) I1.kIn hm.kp (wO (us:=[.ref a]) (vs:=[.ref a]) F hr hb hd hx I1 (.cons rfl .nil) q)
structure Mk (K:JL) (C f:JO):Prop where
 makes:M9 K C=true
 init:K4 K (.ref C) "__init__"=some (some (.ref f))
 fn:Nq K (.ref f)=true
 kp:KJ K (.ref C)=true
theorem AR {R6:List (JO×Kq)} {σ:St} {H:Hp} {s:JP} {Q:VK} {us:List JM} {vs:List V} (M:Mk X.K C f) (F:fH X.prog X.w X.K X.mg X.base CX k f fd ps sp) (hr:d7 (k+1) X.A) (hb:gk X.K fd ps ds) (hd:bi Uq ds)
  (hx:lc CX X E) (I:aM X R6 σ H s) (r:bi vs us)
  (h:∀x dx,H x=none->H dx=none->dx≠x->sp (.ref x::(vs++Uq)) (bY (bY H dx (.own x)) x (.ins C dx [])) (λv H2=>v= .non/\Q (.ref x) H2) (E σ)):
  JZ (K2 X.prog X.w) X.A (call (.ref C) us) (EP X R6 σ Q) X.xe s:=by
 have hq:=h (s.heap.objs.size+1) s.heap.objs.size (I.hok.fresh (Qi _)) (I.hok.fresh (Kc _)) (Ku (Ob _))
 have I2:=aM.made (C:=C) I
 have r2:bi (V.ref (s.heap.objs.size+1)::(vs++Uq)) (Kk (s.heap.objs.size+1)::(us++ds)):= .cons rfl (r.append hd)
 have hl:(Kk (s.heap.objs.size+1)::us++ds).length=ps.length:=by
  have e:=r2.length
  rw[F.len _ _ _ _ hq]at e
  exact e.symm
 refine O1 (AO (f:=f) I.kIn M.makes M.init (beq_iff_eq.mp M.fn) (MQ (F.run _ X.stack _ _ ⟨Kk (s.heap.objs.size+1)::us,[]⟩ (Kk (s.heap.objs.size+1)::(us++ds)) _ _ (E σ) (hr.make C us [])
  (I2.env0.make C us []) (hb _ (Kk (s.heap.objs.size+1)::us) I2.kIn hl) r2 hq) λr s' Xx=> ?_))
 cases r with
 |error e=>exact hx R6 σ _ _ e s' I2 Xx
 |ok fl=>
  cases fl with
  |ret u=>
   obtain⟨v,H',I3,rv,ev,q3⟩:=I2.after Xx
   subst ev
   exact⟨rv,⟨V.ref (s.heap.objs.size+1),H',I3,rfl,q3⟩⟩
  |next=>exact Ll Xx
  |brk=>exact Ll Xx
  |cont=>exact Ll Xx
theorem y6 (M:Mk X.K C f) (F:fH X.prog X.w X.K X.mg X.base CX k f fd ps sp) (hr:d7 (k+1) X.A) (hg:Gl X x) (hm:X.mg x=some (.ref C)) (hb:gk X.K fd ps ds) (hd:bi Uq ds) (hx:lc CX X E)
  (ha:PA X (e::es) t) (T8:(x==("__debug__":JN))=false:=by decide) (he:JS (e::es) X.env=(false,Kb e X.env)::JS es X.env:=by rfl) (Sm:(Ks pos (JS es X.env)).any (·.1)=false:=by rfl):
  PE X (.Call (.Name x p) (e::es) [] pos) (GR C sp Uq E t):=by
 intro R6 s σ H Q I h
 refine LP (nN I hg hm ?_ T8)
 refine ND (h₀:=X.base) I.ok.mod.kin M.kp (d0 (ha pos R6 s σ H _ I h) λus s1 ⟨vs,H1,I1,r,q⟩=>⟨I1.kIn,?_⟩) he Sm
 exact AR M F hr hb hd hx I1 r q
end
section
variable {X:Cx} {CX:wM} {k:Nat} {f C:JO} {fd:Lc} {ps ks:List JN} {sp:Sp} {E:St->XK} {x m:JN} {p pos Rp a0q:KC} {e o:JW} {es:List JW} {a2g:List LR} {te ta:TE} {t tk:TA} {nm:Option JN}
variable {g:List JM->List JM->List JM} {gV:List V->List V->List V}
end
structure aE (N P:List JN) (sc:LL):Prop where
 kind:sc.kind= .function
 co:sc.isCoroutine=false
 gen:sc.isGenerator=false
 nd:N.Nodup
 pre:N.take P.length=P
 par:∀x∈P,sc.names.lookup x=some .local\/sc.names.lookup x=some .cell
 nofree:∀y∈sc.names,y.2≠ .free
theorem sE {kindOf:JN->Option NameKind} {x:JN}:∀{binds:List (JN×JM)} {m:JN->Option JM},(∀v,(x,v)∉binds)->Pc kindOf binds m x=m x
 |[],_,_=>rfl
 |(n,v)::r,m,h=>by
  unfold Pc
  rw[sE λw hw=>h w (K8 _ hw)]
  split
  ·have:x≠n:=by rintro rfl;exact h v K6
   simp[this]
  ·rfl
theorem sG {kindOf:JN->Option NameKind} {x:JN}:∀{binds:List (JN×JM)} {m:JN->Option JM},(∀v,(x,v)∉binds)->Pd kindOf binds m x=m x
 |[],_,_=>rfl
 |(n,v)::r,m,h=>by
  unfold Pd
  rw[sG λw hw=>h w (K8 _ hw)]
  split
  ·rfl
  ·have:x≠n:=by rintro rfl;exact h v K6
   simp[this]
theorem sH {kindOf:JN->Option NameKind} {x:JN} {v:JM}:∀{P:List JN} {vs:List JM} {i:Nat} {m:JN->Option JM},P.Nodup->P[i]? =some x->vs[i]? =some v->kindOf x=some .local->
  Pc kindOf (P.zip vs) m x=some v
 |[],_,_,_,_,h,_,_=>by simp at h
 |_::_,[],_,_,_,_,h,_=>by simp at h
 |p::P,w::vs,0,m,nd,h1,h2,hk=>by
  simp at h1 h2;subst h1;subst h2
  show Pc kindOf ((p,w)::P.zip vs) m p=_
  unfold Pc
  rw[sE λv hv=>(Mb.mp nd).1 (OI hv).1,if_pos hk]
  simp
 |p::P,w::vs,i+1,m,nd,h1,h2,hk=>by
  show Pc kindOf ((p,w)::P.zip vs) m x=_
  unfold Pc
  exact sH (i:=i) (Mb.mp nd).2 (by simpa using h1) (by simpa using h2) hk
theorem sI {kindOf:JN->Option NameKind} {x:JN} {v:JM}:∀{P:List JN} {vs:List JM} {i:Nat} {m:JN->Option JM},P.Nodup->P[i]? =some x->vs[i]? =some v->kindOf x≠some .local->
  Pd kindOf (P.zip vs) m x=some v
 |[],_,_,_,_,h,_,_=>by simp at h
 |_::_,[],_,_,_,_,h,_=>by simp at h
 |p::P,w::vs,0,m,nd,h1,h2,hk=>by
  simp at h1 h2;subst h1;subst h2
  show Pd kindOf ((p,w)::P.zip vs) m p=_
  unfold Pd
  rw[sG λv hv=>(Mb.mp nd).1 (OI hv).1,if_neg hk]
  simp
 |p::P,w::vs,i+1,m,nd,h1,h2,hk=>by
  show Pd kindOf ((p,w)::P.zip vs) m x=_
  unfold Pd
  exact sI (i:=i) (Mb.mp nd).2 (by simpa using h1) (by simpa using h2) hk
def dB (N:List JN) (vs:List V):St:=vs.map some++Ki (N.length - vs.length) none
def j3 (CX:wM) (P:K3) (w:Kd) (K:JL) (mg:JN->Option JM) (base:Ka) (N:List JN) (qual:JN) (scope:LL) (f:JO) (cd:JM) (A:Kl) (outer:List Ly) (s:JP) (H:Hp) (E:XK):Cx where
 prog:=P
 w:=w
 K:=K
 mg:=mg
 base:=base
 A:=A.deeper (LG qual scope s.heap.objs.size f cd)
 N:=N
 s₀:=s
 H₀:=H
 env:=LG qual scope s.heap.objs.size f cd
 outer:=outer
 stack:=LG qual scope s.heap.objs.size f cd::outer
 ex:=[]
 calm:=true
 fn:=λ_=>true
 pn:=[]
 xe:=λe s'=>JZ (K2 P w) (A.deeper (LG qual scope s.heap.objs.size f cd)) (leaving (LG qual scope s.heap.objs.size f cd) e) (λ_ Xy=>CX outer H s E e Xy) (λe' Xy=>CX outer H s E e' Xy) s'
theorem v8 {sc:LL} {n:Nat} {x:JN} (h:sc.names.lookup x=some .cell):∃c,(cellsFrom n sc.names []).lookup x=some c:=by
 have q:=OQ sc.names n [] (.inl h)
 exact Option.isSome_iff_exists.mp q
theorem zt {CX:wM} {P:K3} {w:Kd} {K:JL} {mg:JN->Option JM} {base:Ka} {N ps:List JN} {qual:JN} {scope:LL} {f:JO} {cd:JM} {A:Kl} {outer:List Ly} {s s1:JP} {H:Hp} {E:XK} {us:List JM} {vs:List V}
  (S:aE N ps scope) (hd:A.handled=none) (e0:wN P w K mg base A outer s H) (hl:vs.length=ps.length) (r:bi vs us)
  (x:InCallC s s.heap.objs.size (Pc (LG qual scope s.heap.objs.size f cd).kindOf (ps.zip us) λ_=>none) (cellsFrom (s.heap.objs.size+1) scope.names []) (Pd (LG qual scope s.heap.objs.size f cd).kindOf (ps.zip us) λ_=>none) s1):
  aM (j3 CX P w K mg base N qual scope f cd A outer s H E) [] (dB N vs) H s1:=by
 have Sm:ps.length<=N.length:=by have:=congrArg N6 S.pre;rw[Nc]at this;omega
 obtain⟨h1,tk,rfl,hk⟩:=x.done
 have Xz:∀b:JO,b∉(j3 CX P w K mg base N qual scope f cd A outer s H E).ex:=λb z=>absurd (show b∈([]:List JO)from z) (by simp)
 refine⟨⟨e0.mod,S.kind,rfl,rfl,Kc _,λy z c h1 h2=> ?_,λy hy=> ?_,λy c _ h=> ?_,λ_=>hd,Around.frames_deeper e0.frames, .inr ⟨rfl,rfl⟩,λb z=>absurd z (Xz b),e0.bs,e0.bsz,λb _ _=>Xz b,λb z=>absurd z (Xz b),e0.funs,e0.frf⟩,
  rfl,e0.bare,Un.kept hk,⟨_,x.toInCall.ns,λi y v h1 h2 h3=> ?_⟩,λy c h=>⟨_,x.cell y c h⟩,e0.hok.fresh (Kc _),λy c h=> ?_,λp hp=>absurd (show p∈([]:List (JO×Kq))from hp) (by simp),e0.hok.kept hk,?_⟩
 ·exact name_of_addr x.apart (M4 h1) (M4 h2)
 ·have hy:scope.names.lookup y=some .cell\/scope.names.lookup y=some .free:=hy
  rcases hy with hy|hy
  ·exact v8 hy
  ·exact absurd rfl (S.nofree _ (M4 hy))
 ·exact PH (x.above y c (M4 h))
 ·have hi:i<vs.length:=by
   unfold dB at h2
   by_cases hi:i<vs.length
   ·exact hi
   ·rw[Mz (by simpa using hi)]at h2
    rw[Lu]at h2
    split at h2<;>cases h2
  have ha:vs[i]? =some v:=by
   unfold dB at h2
   rw[LA (by simpa using hi),Km]at h2
   cases e:vs[i]? with
   |none=>rw[e]at h2;cases h2
   |some a=>rw[e]at h2;cases h2;rfl
  obtain⟨u,hu,rv⟩:=r.get ha
  have hp:ps[i]? =some y:=by
   rw[<-S.pre,List.getElem?_take_of_lt (by omega)];exact h1
  have ZU:ps.Nodup:=by rw[<-S.pre];exact S.nd.sublist (List.take_sublist _ _)
  refine⟨u,rv,?_⟩
  rcases S.par y (Ls hp)with k|k
  ·exact .inl ⟨k,sH ZU hp hu k⟩
  ·obtain⟨c,e⟩:=v8 (n:=s.heap.objs.size+1) k
   refine .inr ⟨.inl k,c,e,?_⟩
   have q:=x.cell y c e
   rw[sI ZU hp hu (by show scope.names.lookup y≠_;rw[k];decide)]at q
   exact q
 ·exact e0.hok.fresh (PH (x.above y c (M4 h)))
 ·unfold dB
  show _=N.length
  rw[Kv,JR,Nj]
  omega
theorem E7 {CX:wM} {P:K3} {w:Kd} {K:JL} {mg:JN->Option JM} {base:Ka} {k:Nat} {f:JO} {name qual:JN} {params:Arguments} {body:List Ke} {scope:LL} {dV kV Sk pm Rj ct oc:JM} {an od:Option JO}
  {Ur:Array (Option JM)} {N ps:List JN} {sp:Sp} (lk:K.lookup f=some ⟨oc,od, .func (KP name qual params body scope dV kV Sk pm an Rj ct),Ur⟩) (Sl:L_ K Rj qual=true) (S:aE N ps scope)
  (len:∀vs H Q E,sp vs H Q E->vs.length=ps.length)
  (RE:∀(A:Kl) (outer:List Ly) (s:JP) (H:Hp) (vs:List V) (Q:VK) (E:XK),d7 k (A.deeper (LG qual scope s.heap.objs.size f Rj))->sp vs H Q E->
   ∃t,sB (j3 CX P w K mg base N qual scope f Rj A outer s H E) body t/\t {nx:=λ_ H'=>Q .non H',rt:=Q} (dB N vs) H):
  fH P w K mg base CX (k+1) f (KP name qual params body scope dV kV Sk pm an Rj ct) ps sp:=by
 refine⟨len,λA outer s H args us vs Q E hr e0 hb r W8=> ?_⟩
 have hl:=len _ _ _ _ W8
 have KX:K.In s.heap:=e0.mod.kin.keeps λb o e=>(e0.bs b o e).1
 have lim:s.heap.NoLimit:=e0.mod.nolimit.keeps λb o e=>(e0.bs b o e).1
 have XA:∀y∈ps.zip us,scope.names.lookup y.1=some .local\/(scope.names.lookup y.1=some .cell/\((cellsFrom (s.heap.objs.size+1) scope.names []).lookup y.1).isSome=true):=λ⟨n,v⟩ hy=>by
  rcases S.par n (OI hy).1 with q|q
  ·exact .inl q
  ·exact .inr ⟨q,OQ _ _ _ (.inl q)⟩
 refine codeAny_call_function hr.depth (KX _ _ lk) rfl S.co S.gen rfl (PySem.W.codeRec_of KX Sl) (hb _ _ _ _ ?_)
 refine wpAny_newFunctionEnv_cells S.kind XA λenv he s1 x=> ?_
 subst he
 refine⟨lim.keeps x.toInCall.keep,codeAny_func ?_⟩
 obtain⟨t,ht,hq⟩:=RE A outer s H vs Q E (hr.deeper _) W8
 have I:aM (j3 CX P w K mg base N qual scope f Rj A outer s H E) [] (dB N vs) H s1:=zt S hr.hd e0 hl r x
 refine LC (ht [] s1 (dB N vs) H _ I hq) (λfl s' hs=> ?_) λe s' hs=>hs
 have SH:∀{σ':St} {H':Hp} {v:V} {u:JM},aM (j3 CX P w K mg base N qual scope f Rj A outer s H E) [] σ' H' s'->bU v u->Q v H'->CE outer P w H s Q u s':=
  λ{σ' H' v u} J rv q=>⟨v,H',J.os,J.bare,J.base,J.hok,rv,q⟩
 cases fl with
 |ret u=>
  obtain⟨v,σ',H',J,rv,q⟩:=hs
  exact SH J rv q
 |next=>
  obtain⟨σ',H',J,q⟩:=hs
  exact SH (v:=V.non) (u:=KU) J rfl q
 |brk=>
  obtain⟨_,_,_,q⟩:=hs
  exact Ll q
 |cont=>
  obtain⟨_,_,_,q⟩:=hs
  exact Ll q
end L2
namespace L2
open PySem PySem.Spec PyProof.Rows
section
variable {X:Cx} {x:JN} {p pos:KC} {e:JW} {es:List JW} {t:TA} {id T:String} {r:List V->Hp->VK->Prop}
def IG (r:List V->Hp->VK->Prop) (t:TA):TE:=λσ H Q=>t σ H λvs H1=>r vs H1 Q
theorem nR (hc:dU X (.builtin id) r) (hg:Gl X x) (hm:X.mg x=none) (hv:KA x=some (.builtin id)) (ha:PA X (e::es) t) (hn:x≠"__name__":=by decide) (T8:(x==("__debug__":JN))=false:=by decide)
  (he:JS (e::es) X.env=(false,Kb e X.env)::JS es X.env:=by rfl) (Sm:(Ks pos (JS es X.env)).any (·.1)=false:=by rfl):PE X (.Call (.Name x p) (e::es) [] pos) (IG r t):=by
 intro R6 s σ H Q I h
 refine LP (oP I hg hm hv ?_ hn T8)
 exact Nr (d0 (ha pos R6 s σ H _ I h) λus s1 ⟨vs,H1,I1,r1,q1⟩=>hc R6 s1 σ H1 vs us Q I1 r1 q1) he Sm
theorem zu (hc:dU X (.type T) r) (hg:Gl X x) (hm:X.mg x=none) (hv:KA x=some (.type T)) (ha:PA X (e::es) t) (hn:x≠"__name__":=by decide) (T8:(x==("__debug__":JN))=false:=by decide)
  (he:JS (e::es) X.env=(false,Kb e X.env)::JS es X.env:=by rfl) (Sm:(Ks pos (JS es X.env)).any (·.1)=false:=by rfl):PE X (.Call (.Name x p) (e::es) [] pos) (IG r t):=by
 intro R6 s σ H Q I h
 refine LP (oP I hg hm hv ?_ hn T8)
 exact Mr (d0 (ha pos R6 s σ H _ I h) λus s1 ⟨vs,H1,I1,r1,q1⟩=>hc R6 s1 σ H1 vs us Q I1 r1 q1) he Sm
end
end L2
namespace HT
open PySem PyProof.Rows
section
open PySem.SeqAt
open PySem.AutoSeq1 (wpAny_loadPart')
open PySem.MeetsSeq PySem.MeetsSeq2 PySem.MeetsSeq3
end
section
variable {prog:K3} {w:Kd} {A:Kl} {E:JM->JP->Prop} {s:JP}
theorem CT {t b:JO} {vs ws:List JM} {Q:JM->JP->Prop} (ht:Pa s.heap t vs.toArray) (hb:Pa s.heap b ws.toArray) (hv:vs≠[])
  (h1:ws=[]->Q (.ref t) s) (h2:ws≠[]->Q (.ref s.heap.objs.size) {s with heap:=s.heap.push {cls:= .type "tuple",data:= .seq (vs++ws).toArray}})
  (hsz:vs.length+ws.length<=sizeLine):JZ (K2 prog w) A (LD .Add (.ref t) (.ref b)) Q E s:=by
 obtain⟨⟨cls,dd,data,sl⟩,ho,hc,n,hd⟩:=id ht
 obtain⟨⟨YG,Xl,data2,Xm⟩,WE,XB,n2,XC⟩:=id hb
 simp only at hc hd XB XC
 subst hc hd XB XC
 have e:vs.toArray++ws.toArray=(vs++ws).toArray:=by simp
 by_cases hw:ws=[]
 ·exact PV ⟨_,ho,rfl⟩ ⟨_,WE,rfl⟩ Oc Pn N7 MZ (MR _ _)
   (tuple_addW1 t b vs.toArray ws.toArray n n2 dd Xl sl Xm (by simpa using hv) (by simp[hw])) ⟨ho,WE,h1 hw⟩
 ·refine PV ⟨_,ho,rfl⟩ ⟨_,WE,rfl⟩ Oc Pn N7 MZ (MR _ _)
   (tuple_addW2 t b vs.toArray ws.toArray n n2 dd Xl sl Xm (by simpa using hv) (by simpa using hw) (by rw[JU,JU];exact hsz)) ⟨ho,WE,?_⟩
  rw[e]
  exact h2 hw
def fA (n d:Nat):Option Int->Nat
 |none=>d
 |some v=>if v<0 then (v+(n:Int)).toNat else min v.toNat n
theorem EX (n d:Nat) (hd:d<=n) (o:Option Int):fA n d o<=n:=by
 cases o with
 |none=>exact hd
 |some v=>
  show (if v<0 then (v+(n:Int)).toNat else min v.toNat n)<=n
  by_cases hv:v<0
  ·rw[if_pos hv];omega
  ·rw[if_neg hv];exact Nat.min_le_right _ _
theorem ya (v:Int) (n d:Nat):(if v<0 then max (v+(n:Int)) 0 else min v (n:Int))=((fA n d (some v):Nat):Int):=by
 show (if v<0 then max (v+(n:Int)) 0 else min v (n:Int))=(((if v<0 then (v+(n:Int)).toNat else min v.toNat n):Nat):Int)
 by_cases hv:v<0
 ·simp only[if_pos hv];omega
 ·simp only[if_neg hv];omega
theorem wQ (lo hi:Option Int) (n:Nat):MJ lo hi 1 (n:Int)=(((fA n 0 lo:Nat):Int),((fA n n hi:Nat):Int)):=by
 have h1:¬((1:Int)<0):=by omega
 unfold MJ
 simp only[h1,if_false]
 refine Prod.ext ?_ ?_
 ·cases lo with
  |none=>rfl
  |some v=>exact ya v n 0
 ·cases hi with
  |none=>rfl
  |some v=>exact ya v n n
theorem wR (i j:Nat):LZ (i:Int) (j:Int) 1=j - i:=by
 unfold LZ
 have h1:(1:Int)>0:=by omega
 simp only[h1,if_true,Int.ediv_one]
 split<;>omega
theorem qY {v:JM} {o:Option Int} {Q:Option Int->JP->Prop} (p:Nt v o) (h:Q o s):JZ (K2 prog w) A (Builtin.Slice.slicePartIndex v) Q E s:=by
 cases p with
 |none=>exact slicePart_none h
 |int i t=>exact slicePart_int h
theorem jA {sl:JO} {vl vu:JM} {lo hi:Option Int} {n:Nat} {Q:Int×Int×Nat->JP->Prop} (hs:s.heap.IsSliceOf sl vl vu .none) (pl:Nt vl lo) (pu:Nt vu hi)
  (h:Q (((fA n 0 lo:Nat):Int),1,fA n n hi - fA n 0 lo) s):JZ (K2 prog w) A (NM (.ref sl) (pure (n:Int))) Q E s:=by
 obtain⟨os,WG,Yf,XD⟩:=id hs
 unfold NM Builtin.Slice.sliceFields
 refine JQ (JQ (OR WG XD (x:=vl) rfl (JQ (OR WG XD (x:=vu) rfl (JQ (OR WG XD (x:= .none) rfl (JY ?_)))))))
 refine JQ (slicePart_none ?_)
 show JZ _ _ (if ((1:Int)==0)=true then _ else _) _ _ s
 rw[if_neg (by decide)]
 refine JQ (qY pl (JQ (qY pu (JQ (JY ?_)))))
 show JZ _ _ (match MJ lo hi 1 (n:Int)with|(lo,hi)=>pure (lo,(1:Int),LZ lo hi 1)) _ _ s
 rw[wQ lo hi n]
 show JZ _ _ (pure (((fA n 0 lo:Nat):Int),(1:Int),LZ ((fA n 0 lo:Nat):Int) ((fA n n hi:Nat):Int) 1)) _ _ s
 rw[wR]
 exact JY h
theorem AS (xs:Array JM) (i k:Nat):((Kw k).filterMap λ(m:Nat)=>xs[((i:Int)+(m:Int)*1).toNat]?).toArray=((xs.toList.drop i).take k).toArray:=by
 have e:(λ(m:Nat)=>xs[((i:Int)+(m:Int)*1).toNat]?)=λm=>xs[i+m]? :=by
  funext m
  have:((i:Int)+(m:Int)*1).toNat=i+m:=by omega
  rw[this]
 rw[e]
 have:=pick_run xs i k
 rw[List.filterMap_map]at this
 have e2:((λx=>xs[x]?)∘λx=>i+x)=λm=>xs[i+m]? :=rfl
 rw[e2]at this
 rw[this]
theorem nS {t sl:JO} {Ra:Array JM} {vl vu:JM} {lo hi:Option Int} {Q:JM->JP->Prop} (ht:Pa s.heap t Ra) (hs:s.heap.IsSliceOf sl vl vu .none) (pl:Nt vl lo) (pu:Nt vu hi)
  (hw:¬(fA Ra.size 0 lo=0/\fA Ra.size Ra.size hi=Ra.size))
  (h:Q (.ref s.heap.objs.size) {s with heap:=s.heap.push {cls:= .type "tuple",data:= .seq ((Ra.toList.drop (fA Ra.size 0 lo)).take (fA Ra.size Ra.size hi - fA Ra.size 0 lo)).toArray}})
  (hsz:Ra.size<=sizeLine):JZ (K2 prog w) A (MX (.ref t) (.ref sl)) Q E s:=by
 have Vw:sizeOk (.seq ((Ra.toList.drop (fA Ra.size 0 lo)).take (fA Ra.size Ra.size hi - fA Ra.size 0 lo)).toArray):=by
  show ((Ra.toList.drop (fA Ra.size 0 lo)).take (fA Ra.size Ra.size hi - fA Ra.size 0 lo)).toArray.size<=sizeLine
  rw[JU,Nc,Od,Lw]
  omega
 have hj:fA Ra.size Ra.size hi<=Ra.size:=EX _ _ (Kc _) hi
 obtain⟨os,WG,Yf,XD⟩:=id hs
 have YH:s.TypeIs (.ref sl) "slice":=⟨os,WG,Yf⟩
 unfold MX
 try with_reducible refine KO ?_
 first|refine JQ (JY ?_)|skip
 refine JQ (Qe ht.typeIs (by decide) ?_)
 refine JQ (OA (name:=MS "__getitem__") ht.typeIs KS
  (Mu KS ht.typeIs Pq ?_ (PY _ _)))
 show JZ _ _ (NN (.ref t)>>=_) _ _ s
 refine JQ (NO ht ?_)
 refine JQ (Oe YH ?_)
 rw[if_pos (by decide)]
 refine JQ (jA hs pl pu ?_)
 have UY:¬((((fA Ra.size 0 lo:Nat):Int)==0&&(1:Int)==1&&(fA Ra.size Ra.size hi - fA Ra.size 0 lo)==Ra.size)=true):=by
  intro q
  rw[L7,L7]at q
  have q1:((fA Ra.size 0 lo:Nat):Int)=0:=eq_of_beq q.1.1
  have q2:fA Ra.size Ra.size hi - fA Ra.size 0 lo=Ra.size:=eq_of_beq q.2
  exact hw ⟨by omega,by omega⟩
 show JZ _ _ (if (((fA Ra.size 0 lo:Nat):Int)==0&&(1:Int)==1&&(fA Ra.size Ra.size hi - fA Ra.size 0 lo)==Ra.size)=true then _ else _) _ _ s
 rw[if_neg UY,AS]
 first
  |exact JQ (m:=M0 _) (N0 (JY ⟨_,rfl,JY h⟩) Vw)
  |exact JQ (m:=M0 _) (N0 (JQ (JY (JY ⟨_,rfl,JY h⟩))) Vw)
  |exact JQ (JQ (m:=M0 _) (N0 (JY (JY ⟨_,rfl,JY h⟩)) Vw))
  |exact JQ (JQ (m:=M0 _) (N0 (JY ⟨_,rfl,JY h⟩) Vw))
end
end HT
namespace L2
open PySem PySem.Spec PyProof.Rows
abbrev TO:=St->Hp->(Option Int->Hp->Prop)->Prop
def PO (X:Cx) (e:Option JW) (t:TO):Prop:=
 ∀(R6:List (JO×Kq)) (s:JP) (σ:St) (H:Hp) (Q:Option Int->Hp->Prop),aM X R6 σ H s->t σ H Q->
  JZ (K2 X.prog X.w) X.A (evalPart e X.env) (λu s'=>∃o H',aM X R6 σ H' s'/\Nt u o/\Q o H') X.xe s
def CU:TO:=λ_ H Q=>Q none H
def GS (t:TE):TO:=λσ H Q=>t σ H λx H1=>∃i,x= .int i/\Q (some i) H1
theorem jY {ns:List Int}:∀{us:List JM},bi (ns.map V.int) us->O4 us ns:=by
 induction ns with
 |nil=>intro us r;rw[Lh]at r;cases r;exact .nil
 |cons n ns ih=>
  intro us r
  rw[J_]at r
  cases r with
  |cons r1 r2=>
   obtain⟨t,e⟩:=r1
   subst e
   exact .cons n t (ih r2)
section
variable {X:Cx} {e:JW} {te:TE} {lo hi:Option JW} {tl th:TO} {pos p2:KC}
theorem CV:PO X none CU:=by
 intro R6 s σ H Q I h
 rw[NP]
 exact JY ⟨none,H,I, .none,h⟩
theorem yb (h:PE X e te):PO X (some e) (GS te):=by
 intro R6 s σ H Q I hw
 rw[evalPart_some]
 refine d0 (h R6 s σ H _ I hw) λu s1 z_=> ?_
 obtain⟨x,H1,I1,r1,q1⟩:=z_
 obtain⟨i,rfl,q⟩:=q1
 obtain⟨t,rfl⟩:=r1
 exact⟨some i,H1,I1, .int i t,q⟩
def E8 (X:Cx) (r:V->Option Int->Option Int->Hp->VK->Prop):Prop:=
 ∀(R6:List (JO×Kq)) (s:JP) (σ:St) (H:Hp) (x:V) (v vl vu:JM) (lo hi:Option Int) (sl:JO) (Q:VK),aM X R6 σ H s->bU x v->s.heap.IsSliceOf sl vl vu .none->Nt vl lo->Nt vu hi->r x lo hi H Q->
  ∃T id,typeLookup (.type T) "__getitem__"=pure (some (.builtin id))/\s.TypeIs v T/\JZ (K2 X.prog X.w) X.A (MX v (.ref sl)) (EP X R6 σ Q) X.xe s
theorem E8.or {r r':V->Option Int->Option Int->Hp->VK->Prop} (h:E8 X r) (h':E8 X r'):E8 X (λx lo hi H Q=>r x lo hi H Q\/r' x lo hi H Q):=by
 intro R6 s σ H x v vl vu lo hi sl Q I rx hs pl pu q
 rcases q with q|q
 ·exact h R6 s σ H x v vl vu lo hi sl Q I rx hs pl pu q
 ·exact h' R6 s σ H x v vl vu lo hi sl Q I rx hs pl pu q
def Jt (r:V->Option Int->Option Int->Hp->VK->Prop) (te:TE) (tl th:TO):TE:=λσ H Q=>te σ H λx H1=>tl σ H1 λl H2=>th σ H2 λu H3=>r x l u H3 Q
theorem AT {r:V->Option Int->Option Int->Hp->VK->Prop} (hr:E8 X r) (he:PE X e te) (hl:PO X lo tl) (hu:PO X hi th):PE X (.Subscript e (.Slice lo hi none p2) pos) (Jt r te tl th):=by
 intro R6 s σ H Q I h
 refine Pe (d0 (he R6 s σ H _ I h) λv s1 z_=> ?_)
 obtain⟨x,H1,I1,r1,q1⟩:=z_
 refine wpAny_Slice (d0 (hl R6 s1 σ H1 _ I1 q1) λvl s2 ⟨l,H2,I2,pl,q2⟩=>d0 (hu R6 s2 σ H2 _ I2 q2) λvu s3 z_=> ?_)
 obtain⟨u,H3,I3,pu,q3⟩:=z_
 rw[NP]
 refine JY ?_
 have I4:aM X R6 σ H3 {s3 with heap:=s3.heap.push {cls:= .type "slice",data:= .fields #[vl,vu, .none]}}:=I3.kept (t':=s3.toks) λb ob q=>JV _ q
 obtain⟨T,id,hT,ht,hg⟩:=hr R6 {s3 with heap:=s3.heap.push {cls:= .type "slice",data:= .fields #[vl,vu, .none]}} σ H3 x v vl vu l u s3.heap.objs.size Q I4 r1 (PZ ..) pl pu q3
 show JZ (K2 X.prog X.w) X.A (NQ e (.Slice lo hi none p2) v (.ref s3.heap.objs.size)) (EP X R6 σ Q) X.xe {s3 with heap:=s3.heap.push {cls:= .type "slice",data:= .fields #[vl,vu, .none]}}
 exact tail_any (ops:=[.ref s3.heap.objs.size,v]) ht hT hg (by with_unfolding_all rfl)
def se (xs:List V) (lo hi:Option Int):List V:=(xs.drop (HT.fA xs.length 0 lo)).take (HT.fA xs.length xs.length hi - HT.fA xs.length 0 lo)
theorem pR (xs:List V) (lo hi:Option Int):(se xs lo hi).length<=xs.length:=by
 unfold se
 rw[Nc,Od]
 omega
def IH (K:JL):V->Option Int->Option Int->Hp->VK->Prop:=λx lo hi H Q=>∃a xs,x= .ref a/\iE K H a xs/\
 ¬(HT.fA xs.length 0 lo=0/\HT.fA xs.length xs.length hi=xs.length)/\∀p,H p=none->Q (.ref p) (bY H p (.tup (se xs lo hi)))
theorem EY:E8 X (IH X.K):=by
 intro R6 s σ H x v vl vu lo hi sl Q I rx hs pl pu h
 obtain⟨a,xs,rfl,hx,hw,q⟩:=h
 cases rx
 obtain⟨its,r,ht,hz⟩:=I.tuple hx
 have Rt:its.toArray.size=xs.length:=by rw[JU];exact r.length.symm
 refine⟨"tuple",_,KS.lookup,ht.typeIs,?_⟩
 refine HT.nS ht hs pl pu (by rw[Rt];exact hw) ?_ (by rw[Rt];exact hz)
 rw[Rt]
 refine⟨.ref s.heap.objs.size,_,I.laid (t':=s.toks) (o:= .tup (se xs lo hi)) (λb ob q=>JV _ q) (Kc _) ?_,rfl,q _ (I.hok.fresh (Kc _))⟩
 exact⟨Ky (pR xs lo hi) hz,_,(r.drop (HT.fA xs.length 0 lo)).take (HT.fA xs.length xs.length hi - HT.fA xs.length 0 lo),jh.new _ _⟩
def E9 (K:JL):R2:=λx y H Q=>∃a b xs ys,x= .ref a/\y= .ref b/\iE K H a xs/\iE K H b ys/\xs≠[]/\xs.length+ys.length<=sizeLine/\
 (ys=[]->Q (.ref a) H)/\(ys≠[]->∀p,H p=none->Q (.ref p) (bY H p (.tup (xs++ys))))
theorem bi.nil_iff {xs:List V} {us:List JM} (r:bi xs us):us=[]<->xs=[]:=by
 cases r with
 |nil=>simp
 |cons _ _=>simp
theorem CW:lX X (LD .Add) (E9 X.K):=by
 intro R6 s σ H x y v u Q I rx ry h
 obtain⟨a,b,xs,ys,rfl,rfl,ha,hb,hx,hz,q1,q2⟩:=h
 cases rx
 cases ry
 obtain⟨its,r1,p1,_⟩:=I.tuple ha
 obtain⟨Us,r2,p2,_⟩:=I.tuple hb
 refine HT.CT p1 p2 (λz=>hx (r1.nil_iff.mp z)) (λz=>⟨.ref a,H,I,rfl,q1 (r2.nil_iff.mp z)⟩) (λz=> ?_) (by rw[<-r1.length,<-r2.length];exact hz)
 refine⟨.ref s.heap.objs.size,_,I.laid (t':=s.toks) (o:= .tup (xs++ys)) (λb ob q=>JV _ q) (Kc _) ?_,rfl,q2 (λw=>z (r2.nil_iff.mpr w)) _ (I.hok.fresh (Kc _))⟩
 exact⟨by rw[Kv];exact hz,_,r1.append r2,jh.new _ _⟩
end
end L2
namespace L2
open PySem PySem.Spec PyProof.Rows
def wy (n:Nat) (i:Int):Option Nat:=if 0<=i then (if i<n then some i.toNat else none)else if -(n:Int)<=i then some (i+n).toNat else none
def atI {α:Type} (xs:List α) (i:Int):Option α:=(wy xs.length i).bind λj=>xs[j]?
theorem yc {n:Nat} {i:Int} {j:Nat} (h:wy n i=some j):seqIndex? i n=some j/\j<n/\ -(n:Int)<=i/\i<n:=by
 unfold wy at h
 by_cases h0:0<=i
 ·rw[if_pos h0]at h
  by_cases h1:i<n
  ·rw[if_pos h1]at h
   have e:i.toNat=j:=KQ h
   exact⟨by rw[Qj h0 h1,e],by omega,by omega,h1⟩
  ·rw[if_neg h1]at h;cases h
 ·rw[if_neg h0]at h
  by_cases h1: -(n:Int)<=i
  ·rw[if_pos h1]at h
   have e:(i+n).toNat=j:=KQ h
   exact⟨by rw[P_ (by omega) h1,e],by omega,h1,by omega⟩
  ·rw[if_neg h1]at h;cases h
theorem tV {α:Type} {xs:List α} {i:Int} {v:α} (h:atI xs i=some v):∃j,seqIndex? i xs.length=some j/\xs[j]? =some v/\j<xs.length/\ -(xs.length:Int)<=i/\i<xs.length:=by
 unfold atI at h
 cases e:wy xs.length i with
 |none=>rw[e]at h;cases h
 |some j=>
  rw[e]at h
  obtain⟨h1,h2,h3,h4⟩:=yc e
  exact⟨j,h1,h,h2,h3,h4⟩
theorem tW {α:Type} {xs:List α} {j:Nat} {v:α} (h:xs[j]? =some v):atI xs (j:Int)=some v:=by
 have hj:j<xs.length:=(K9.mp h).1
 have e:wy xs.length (j:Int)=some j:=by
  unfold wy
  rw[if_pos (by omega),if_pos (by omega)];simp
 unfold atI;rw[e];exact h
theorem v9 {α:Type} (xs:List α) (v:α):atI (xs++[v]) (-1)=some v:=by
 have hl:(xs++[v]).length=xs.length+1:=by simp
 have e:wy (xs++[v]).length (-1)=some xs.length:=by
  unfold wy
  rw[hl,if_neg (by decide),if_pos (by omega)]
  congr 1
  omega
 unfold atI
 rw[e]
 show (xs++[v])[xs.length]? =some v
 simp
def yd (b:JW):Prop:=∀o i,OS b false o i=operate [o,i] (MX o i)
def CY (X:Cx) (r:R2):Prop:=
 ∀(value SI:JW) (R6:List (JO×Kq)) (s:JP) (σ:St) (H:Hp) (x y:V) (v u:JM) (Q:VK),aM X R6 σ H s->bU x v->bU y u->r x y H Q->
  OS SI false v u=operate [v,u] (MX v u)->JZ (K2 X.prog X.w) X.A (NQ value SI v u) (EP X R6 σ Q) X.xe s
def J8 (X:Cx) (id:String) (r:V->List V->Hp->VK->Prop):Prop:=
 ∀(R6:List (JO×Kq)) (s:JP) (σ:St) (H:Hp) (x:V) (xs:List V) (v:JM) (us:List JM) (Q:VK),aM X R6 σ H s->bU x v->bi xs us->r x xs H Q->
  JZ (K2 X.prog X.w) X.A (call (.builtin id) (v::us)) (EP X R6 σ Q) X.xe s
section
variable {X:Cx} {a b:JW} {ta tb:TE} {pos:KC}
theorem CY.or {r r':R2} (h:CY X r) (h':CY X r'):CY X (λx y H Q=>r x y H Q\/r' x y H Q):=by
 intro value SI R6 s σ H x y v u Q I rx ry q hs
 rcases q with q|q
 ·exact h value SI R6 s σ H x y v u Q I rx ry q hs
 ·exact h' value SI R6 s σ H x y v u Q I rx ry q hs
theorem GU {r:R2} (hr:CY X r) (ha:PE X a ta) (hb:PE X b tb) (hs:yd b):PE X (.Subscript a b pos) (HZ r ta tb):=by
 intro R6 s σ H Q I h
 exact Pe (EO ha hb I h λv u s2 x y H2 I2 rx ry q=>hr a b R6 s2 σ H2 x y v u Q I2 rx ry q (hs _ _))
def GV (K:JL):R2:=λx y H Q=>∃p xs i v,x= .ref p/\y= .int i/\dS K H p xs/\atI xs i=some v/\Q v H
def GW (K:JL):R2:=λx y H Q=>∃p xs i v,x= .ref p/\y= .int i/\iE K H p xs/\atI xs i=some v/\Q v H
def GX:R2:=λx y H Q=>∃z i c,x= .str z/\y= .int i/\z.length<=sizeLine/\atI z.cps.toList i=some c/\Q (.str ⟨#[c]⟩) H
theorem CZ:CY X (GV X.K):=by
 intro value SI R6 s σ H x y v u Q I rx ry h hs
 obtain⟨p,xs,i,z,rfl,rfl,hq,he,q⟩:=h
 cases rx
 obtain⟨t,rfl⟩:=ry
 obtain⟨its,r,pl,hz⟩:=I.list hq
 obtain⟨j,h1,h2,h3,h4,h5⟩:=tV he
 obtain⟨w,ew,Vx⟩:=r.get h2
 have hl:=r.length
 have hn:=oQ
 have SH:EP X R6 σ Q w s:=⟨z,H,I,Vx,q⟩
 by_cases h0:0<=i
 ·have hj:i.toNat=j:=by
   rw[Qj h0 h5]at h1
   exact KQ h1
  exact item_listR pl.isList h0 (by omega) (by rw[hj];simpa using ew) SH hs
 ·have hj:(i+(its.toArray.size:Int)).toNat=j:=by
   rw[P_ (by omega) h4]at h1
   rw[JU,<-hl]
   exact KQ h1
  exact OT (x:=w) pl.isList.typeIs NW.lookup
   (wpAny_getItem_list_neg (Q:=λr s'=>r=w/\EP X R6 σ Q r s') pl.isList (by omega) (by rw[JU]<;>omega) (by omega) (by rw[hj];simpa using ew) ⟨rfl,SH⟩) hs
theorem EZ:CY X (GW X.K):=by
 intro value SI R6 s σ H x y v u Q I rx ry h hs
 obtain⟨p,xs,i,z,rfl,rfl,hq,he,q⟩:=h
 cases rx
 obtain⟨t,rfl⟩:=ry
 obtain⟨its,r,pl,hz⟩:=I.tuple hq
 obtain⟨j,h1,h2,h3,h4,h5⟩:=tV he
 obtain⟨w,ew,Vx⟩:=r.get h2
 have hl:=r.length
 have hn:=oQ
 have SH:EP X R6 σ Q w s:=⟨z,H,I,Vx,q⟩
 exact OT (x:=w) pl.typeIs KS.lookup
  (getItem_tuple (j:=j) (Q:=λr s'=>r=w/\EP X R6 σ Q r s') pl (by omega) (by omega) (by rw[JU,<-hl];exact h1) (by simpa using ew) ⟨rfl,SH⟩) hs
theorem E_:CY X GX:=by
 intro value SI R6 s σ H x y v u Q I rx ry h hs
 obtain⟨z,i,c,rfl,rfl,hz,he,q⟩:=h
 obtain⟨t,rfl⟩:=rx
 obtain⟨t',rfl⟩:=ry
 obtain⟨j,h1,h2,h3,h4,h5⟩:=tV he
 have hl:z.cps.toList.length=z.length:=by simp[Str.length]
 rw[hl]at h1 h4 h5
 have hn:=oQ
 exact tail_any (typeIs_str s z t) slot_str_getitem.lookup (getItem_str (c:=c) (by
  have e1:decide (i< -(2 ^63:Int))=false:=decide_eq_false (by omega)
  have e2:decide (i>=2 ^63)=false:=decide_eq_false (by omega)
  rw[e1,e2,QS]) (by rw[h1];simpa using h2) ⟨.str ⟨#[c]⟩,H,I.tok _,⟨_,rfl⟩,q⟩) hs
def J9 (K:JL):R2:=λx y H Q=>GV K x y H Q\/GW K x y H Q\/GX x y H Q
theorem F7:CY X (J9 X.K):=CZ.or (EZ.or E_)
theorem wU (its:List JM) (n j:Nat) (u:JM):Ln (·.setIfInBounds j u) {cls:= .type "list",data:= .seq its.toArray n}={cls:= .type "list",data:= .seq (its.set j u).toArray n}:=by
 simp[Ln]
theorem aM.lst {R6:List (JO×Kq)} {σ:St} {H:Hp} {s:JP} {p:JO} {xs:List V} (I:aM X R6 σ H s) (h:H p=some (.lst xs)):
  ∃(its:List JM) (n:Nat),bi xs its/\s.heap.get? p=some {cls:= .type "list",data:= .seq its.toArray n}/\xs.length<=sizeLine:=by
 obtain⟨z,its,n,r,e⟩:=I.hok p _ h
 exact⟨its,n,r,e,z⟩
theorem aM.lstUpd {R6:List (JO×Kq)} {σ:St} {H:Hp} {s:JP} {p:JO} {xs ys:List V} {its its':List JM} {n n':Nat} {f:Kq->Kq} (I:aM X R6 σ H s) (h:H p=some (.lst xs))
  (ho:s.heap.get? p=some {cls:= .type "list",data:= .seq its.toArray n}) (hf:f {cls:= .type "list",data:= .seq its.toArray n}={cls:= .type "list",data:= .seq its'.toArray n'}) (r:bi ys its') (hz:ys.length<=sizeLine) (t:Nat):
  aM X R6 σ (bY H p (.lst ys)) {s with heap:=s.heap.update p f,toks:=t}:=by
 have e:(s.heap.update p f).get? p=some {cls:= .type "list",data:= .seq its'.toArray n'}:=by
  rw[Heap.get?_update_self f ho (by rw[hf]<;>rfl),hf]
 refine I.write (x:=p) (e:=p) (by rw[h];trivial) (.inl rfl) (λb u hb q=>(OU _ _ (Lz hb)).trans q) ⟨_,e⟩ ?_
 exact⟨hz,its',n',r,e⟩
def GY:V->V->V->Hp->(Hp->Prop)->Prop:=λo i v H Q=>∃p xs k j,o= .ref p/\i= .int k/\H p=some (.lst xs)/\wy xs.length k=some j/\Q (bY H p (.lst (xs.set j v)))
theorem AU:GH X GY:=by
 intro R6 s σ H o i v ov iv u Q I ro ri rv h
 obtain⟨p,xs,k,j,rfl,rfl,hp,hj,q⟩:=h
 cases ro
 obtain⟨t,rfl⟩:=ri
 obtain⟨its,n,r,ho,hz⟩:=I.lst hp
 obtain⟨h1,h2,h3,h4⟩:=yc hj
 have hl:=r.length
 have hn:=oQ
 have I':aM X R6 σ (bY H p (.lst (xs.set j v))) {s with heap:=s.heap.update p (Ln (·.setIfInBounds j u))}:=
  I.lstUpd hp ho (wU its n j u) (r.set rv j) (by rw[Nu];exact hz) s.toks
 by_cases h0:0<=k
 ·have hk:k.toNat=j:=by
   rw[Qj h0 h4]at h1
   exact KQ h1
  exact PySem.W.ki_setAt ho h0 (by omega) (by rw[JU,<-hl];exact h4) (by rw[hk];exact⟨_,I',q⟩)
 ·have hk:(k+(its.toArray.size:Int)).toNat=j:=by
   rw[P_ (by omega) h3]at h1
   rw[JU,<-hl]
   exact KQ h1
  exact PySem.W.ki_setBack ho (by omega) (by rw[JU,<-hl];exact h3) (by omega) (by rw[hk];exact⟨_,I',q⟩)
theorem tY (lo hi:Option Int) (n:Nat):(ME lo hi none n).1=((HT.fA n 0 lo:Nat):Int)/\(ME lo hi none n).2.1=((HT.fA n n hi:Nat):Int)/\(ME lo hi none n).2.2=1:=by
 refine⟨?_,?_,rfl⟩
 ·cases lo with
  |none=>simp[ME,HT.fA]
  |some i=>
   simp only[ME,HT.fA,Qn,show (1:Int)>0 by decide,if_true]
   by_cases h:i<0
   ·simp only[h,if_true]<;>omega
   ·simp only[h,if_false]<;>omega
 ·cases hi with
  |none=>simp[ME,HT.fA]
  |some i=>
   simp only[ME,HT.fA,Qn,show (1:Int)>0 by decide,if_true]
   by_cases h:i<0
   ·simp only[h,if_true]<;>omega
   ·simp only[h,if_false]<;>omega
theorem sf (its:List JM) (lo hi:Option Int):slicePick its.toArray lo hi none=((its.drop (HT.fA its.length 0 lo)).take (HT.fA its.length its.length hi - HT.fA its.length 0 lo)).toArray:=by
 obtain⟨h1,h2,h3⟩:=tY lo hi its.toArray.size
 unfold slicePick
 rw[h1,h2,h3]
 simp only[sliceRange_one,pick_run,JU]<;>rfl
def II (K:JL):V->Option Int->Option Int->Hp->VK->Prop:=λx lo hi H Q=>∃a xs,x= .ref a/\dS K H a xs/\∀p,H p=none->Q (.ref p) (bY H p (.lst (se xs lo hi)))
theorem C_:E8 X (II X.K):=by
 intro R6 s σ H x v vl vu lo hi sl Q I rx hs pl pu h
 obtain⟨a,xs,rfl,hx,q⟩:=h
 cases rx
 obtain⟨its,r,ht,hz⟩:=I.list hx
 have Rt:=r.length
 refine⟨"list",_,NW.lookup,ht.isList.typeIs,?_⟩
 refine Of ht.isList hs pl pu .none (by simp) ?_ (by rw[JU]<;>omega)
 rw[sf,<-Rt]
 refine⟨.ref s.heap.objs.size,_,I.laid (t':=s.toks) (o:= .lst (se xs lo hi)) (λb ob q=>JV _ q) (Kc _) ?_,rfl,q _ (I.hok.fresh (Kc _))⟩
 exact⟨Ky (pR xs lo hi) hz,_,0,(r.drop (HT.fA xs.length 0 lo)).take (HT.fA xs.length xs.length hi - HT.fA xs.length 0 lo),Ko _ rfl⟩
def kP:V->Bool
 | .non=>true
 | .bl _=>true
 | .int _=>true
 | .str _=>true
 |_=>false
def D0:V->V->Bool
 | .non, .non=>true
 | .bl a, .bl b=>a==b
 | .bl a, .int b=>(if a then 1 else 0)==b
 | .int a, .bl b=>a==(if b then 1 else 0)
 | .int a, .int b=>a==b
 | .str a, .str b=>a==b
 |_,_=>false
theorem F8 {A:Kl} {s:JP} {y x:V} {u v:JM} (ry:bU y u) (rx:bU x v) (fy:kP y=true) (fx:kP x=true):SeqAt.EqAt A s u v (D0 y x):=by
 cases y with
 |non=>
  cases ry
  cases x with
  |non=>cases rx;exact SeqAt.EqAt.same _
  |bl b=>cases rx;exact SeqAt.EqAt.none_bool b
  |int b=>obtain⟨t,rfl⟩:=rx;exact SeqAt.EqAt.none_int b t
  |str b=>obtain⟨t,rfl⟩:=rx;exact SeqAt.EqAt.none_str b t
  |_=>exact absurd (show false=true from fx) Kf
 |bl a=>
  cases ry
  cases x with
  |non=>cases rx;exact SeqAt.EqAt.bool_none a
  |bl b=>cases rx;exact MT a b
  |int b=>obtain⟨t,rfl⟩:=rx;exact SeqAt.EqAt.bool_int a b t
  |str b=>obtain⟨t,rfl⟩:=rx;exact SeqAt.EqAt.bool_str a b t
  |_=>exact absurd (show false=true from fx) Kf
 |int a=>
  obtain⟨t',rfl⟩:=ry
  cases x with
  |non=>cases rx;exact SeqAt.EqAt.int_none a t'
  |bl b=>cases rx;exact SeqAt.EqAt.int_bool a t' b
  |int b=>obtain⟨t,rfl⟩:=rx;exact N8 a t' b t
  |str b=>obtain⟨t,rfl⟩:=rx;exact Px a t' b t
  |_=>exact absurd (show false=true from fx) Kf
 |str a=>
  obtain⟨t',rfl⟩:=ry
  cases x with
  |non=>cases rx;exact SeqAt.EqAt.str_none a t'
  |bl b=>cases rx;exact SeqAt.EqAt.str_bool a t' b
  |int b=>obtain⟨t,rfl⟩:=rx;exact Py a t' b t
  |str b=>obtain⟨t,rfl⟩:=rx;exact SeqAt.EqAt.str_str a t' b t
  |_=>exact absurd (show false=true from fx) Kf
 |_=>exact absurd (show false=true from fy) Kf
def wV (x:V) (u:JM):Bool:=match u with
 | .none=>D0 .non x
 | .bool b=>D0 (.bl b) x
 | .int i _=>D0 (.int i) x
 | .str z _=>D0 (.str z) x
 |_=>false
theorem AV {x y:V} {u:JM} (r:bU y u) (f:kP y=true):wV x u=D0 y x:=by
 cases y with
 |non=>cases r;rfl
 |bl b=>cases r;rfl
 |int i=>obtain⟨t,rfl⟩:=r;rfl
 |str z=>obtain⟨t,rfl⟩:=r;rfl
 |_=>exact absurd (show false=true from f) Kf
theorem nT {x:V}:∀{xs:List V} {us:List JM},bi xs us->xs.all kP=true->us.any (wV x)=xs.any λy=>D0 y x
 |_,_, .nil,_=>rfl
 |y::xs,u::us, .cons r t,f=>by
  rw[Lq,L7]at f
  rw[Li,Li,AV r f.1,nT t f.2]
theorem lg {A:Kl} {s:JP} {x:V} {v:JM} (rx:bU x v) (fx:kP x=true):∀{xs:List V} {us:List JM},bi xs us->xs.all kP=true->∀u∈us,SeqAt.EqAt A s u v (wV x u)
 |_,_, .nil,_=>λu hu=>by cases hu
 |y::xs,u::us, .cons r t,f=>λu' hu=>by
  rw[Lq,L7]at f
  rcases K1.mp hu with rfl|hu
  ·rw[AV r f.1];exact F8 r rx f.1 fx
  ·exact lg rx fx t f.2 u' hu
def inV (x:V) (xs:List V):Bool:=xs.any λy=>D0 y x
def IJ (K:JL) (U0:Bool):R2:=λx y H Q=>∃p xs,y= .ref p/\(dS K H p xs\/iE K H p xs)/\kP x=true/\xs.all kP=true/\Q (.bl (if U0 then !inV x xs else inV x xs)) H
theorem sJ:lX X (Lo .In) (IJ X.K false):=by
 intro R6 s σ H x y v u Q I rx ry h
 obtain⟨p,xs,rfl,hq,fx,fs,q⟩:=h
 cases ry
 rcases hq with hq|hq
 ·obtain⟨its,r,pl,hz⟩:=I.list hq
  refine SeqAt.in_listAt (wV x) pl.isList (λw hw=>lg rx fx r fs w (by simpa using hw)) ⟨.bl _,H,I,rfl,?_⟩
  rw[show its.toArray.any (wV x)=its.any (wV x) by simp,nT r fs]
  exact q
 ·obtain⟨its,r,pl,hz⟩:=I.tuple hq
  refine SeqAt.in_tupleAt (wV x) pl (λw hw=>lg rx fx r fs w (by simpa using hw)) ⟨.bl _,H,I,rfl,?_⟩
  rw[show its.toArray.any (wV x)=its.any (wV x) by simp,nT r fs]
  exact q
theorem nU:lX X (Lo .NotIn) (IJ X.K true):=by
 intro R6 s σ H x y v u Q I rx ry h
 obtain⟨p,xs,rfl,hq,fx,fs,q⟩:=h
 cases ry
 rcases hq with hq|hq
 ·obtain⟨its,r,pl,hz⟩:=I.list hq
  refine SeqAt.notIn_listAt (wV x) pl.isList (λw hw=>lg rx fx r fs w (by simpa using hw)) ⟨.bl _,H,I,rfl,?_⟩
  rw[show its.toArray.any (wV x)=its.any (wV x) by simp,nT r fs]
  exact q
 ·obtain⟨its,r,pl,hz⟩:=I.tuple hq
  refine SeqAt.notIn_tupleAt (wV x) pl (λw hw=>lg rx fx r fs w (by simpa using hw)) ⟨.bl _,H,I,rfl,?_⟩
  rw[show its.toArray.any (wV x)=its.any (wV x) by simp,nT r fs]
  exact q
theorem tZ:dU X (.builtin "len") (λxs H Q=>∃p ys,xs=[.ref p]/\(dS X.K H p ys\/iE X.K H p ys)/\Q (.int ys.length) H):=by
 intro R6 s σ H xs us Q I r h
 obtain⟨p,ys,rfl,hq,q⟩:=h
 obtain⟨u,rfl,rx⟩:=jz r
 cases rx
 have hn:=oQ
 rcases hq with hq|hq
 ·obtain⟨its,r',pl,hz⟩:=I.list hq
  have Rt:=r'.length
  exact Calls.call_len_list pl.isList (by simp only[JU]<;>omega) ⟨.int ys.length,H,I.tok _,⟨s.toks+1,by rw[JU,Rt]⟩,q⟩
 ·obtain⟨its,r',pl,hz⟩:=I.tuple hq
  have Rt:=r'.length
  exact len_tuple pl (by simp only[JU]<;>omega) ⟨.int ys.length,H,I.tok _,⟨s.toks+1,by rw[JU,Rt]⟩,q⟩
theorem dU.or {f:JM} {r r':List V->Hp->VK->Prop} (h:dU X f r) (h':dU X f r'):dU X f (λxs H Q=>r xs H Q\/r' xs H Q):=by
 intro R6 s σ H xs us Q I rs q
 rcases q with q|q
 ·exact h R6 s σ H xs us Q I rs q
 ·exact h' R6 s σ H xs us Q I rs q
theorem gl:dU X (.type "list") (λxs H Q=>∃p ys,xs=[.ref p]/\(dS X.K H p ys\/iE X.K H p ys)/\∀l,H l=none->Q (.ref l) (bY H l (.lst ys))):=by
 intro R6 s σ H xs us Q I r h
 obtain⟨p,ys,rfl,hq,q⟩:=h
 obtain⟨u,rfl,rx⟩:=jz r
 cases rx
 have SH:∀(its:List JM),bi ys its->ys.length<=sizeLine->∀(h':Ka) (c':Nat),(∀b o',s.heap.get? b=some o'->h'.get? b=some o')->
   h'.get? s.heap.objs.size=some {cls:= .type "list",dict:=none,data:= .seq its.toArray c',slots:= #[]}->EP X R6 σ Q (.ref s.heap.objs.size) {s with heap:=h'}:=λits r' hz h' c' kp e=>
  ⟨.ref s.heap.objs.size,_,I.laid (t':=s.toks) kp (Kc _) (show ce X.prog X.w _ h' _ (.lst ys)from ⟨hz,its,c',r',e⟩),rfl,q _ (I.hok.fresh (Kc _))⟩
 rcases hq with hq|hq
 ·obtain⟨its,r',pl,hz⟩:=I.list hq
  have Rt:=r'.length
  obtain⟨o,ho,hc,n,hd⟩:=pl.isList
  exact call_list_seq p (.inl rfl) ho hc hd (λh' c' kp e=>SH its r' hz h' c' kp e) (by simp only[JU]<;>omega)
 ·obtain⟨its,r',pl,hz⟩:=I.tuple hq
  have Rt:=r'.length
  obtain⟨o,ho,hc,n,hd⟩:=pl
  exact call_list_seq p (.inr rfl) ho hc hd (λh' c' kp e=>SH its r' hz h' c' kp e) (by simp only[JU]<;>omega)
theorem aJ:dU X (.type "tuple") (λxs H Q=>∃p ys,xs=[.ref p]/\((dS X.K H p ys/\∀l,H l=none->Q (.ref l) (bY H l (.tup ys)))\/(iE X.K H p ys/\Q (.ref p) H))):=by
 intro R6 s σ H xs us Q I r h
 obtain⟨p,ys,rfl,h⟩:=h
 obtain⟨u,rfl,rx⟩:=jz r
 cases rx
 rcases h with ⟨hq,q⟩|⟨hq,q⟩
 ·obtain⟨its,r',pl,hz⟩:=I.list hq
  have Rt:=r'.length
  refine call_tuple_list pl.isList (λh' kp=> ?_) (by simp only[JU]<;>omega)
  have I1:aM X R6 σ H {s with heap:=h'}:=I.kept (t':=s.toks) kp
  have I2:aM X R6 σ (bY H h'.objs.size (.tup ys)) {s with heap:=h'.push {cls:= .type "tuple",data:= .seq its.toArray}}:=
   I1.laid (t':=s.toks) (λb o e=>JV _ e) (Kc _) (show ce X.prog X.w _ _ _ (.tup ys)from ⟨hz,its,r',jh.new _ _⟩)
  exact⟨.ref h'.objs.size,_,I2,rfl,q _ (I1.hok.fresh (Kc _))⟩
 ·obtain⟨its,r',pl,hz⟩:=I.tuple hq
  exact call_tuple_same pl ⟨.ref p,H,I,rfl,q⟩
def H_ (K:JL) (T:String) (x:V) (H:Hp):Prop:=match x with
 | .str _=>T="str"
 | .int _=>T="int"
 | .ref p=>(T="list"/\∃xs,dS K H p xs)\/(T="tuple"/\∃o,K.lookup p=some o/\o.cls= .type "tuple"/\o.dict=none)\/
   (T="dict"/\((∃kvs,H p=some (.dK kvs))\/∃kvs,H p=some (.dT kvs)))\/(T="set"/\∃S n,H p=some (.set S n))
 |_=>False
theorem wW {R6:List (JO×Kq)} {σ:St} {H:Hp} {s:JP} {T:String} {x:V} {v:JM} (I:aM X R6 σ H s) (r:bU x v) (ty:H_ X.K T x H):
  s.TypeIs v T/\∀a,v= .ref a->∃ob,s.heap.get? a=some ob/\ob.dict=none:=by
 cases x with
 |str z=>
  obtain⟨t,rfl⟩:=r
  cases (show T="str" from ty)
  exact⟨typeIs_str s z t,λ_ e=>nomatch e⟩
 |int i=>
  obtain⟨t,rfl⟩:=r
  cases (show T="int" from ty)
  exact⟨Qz s i t,λ_ e=>nomatch e⟩
 |ref p=>
  cases r
  rcases ty with ⟨rfl,xs,hq⟩|⟨rfl,o,hk,hc,hd⟩|⟨rfl,hk⟩|⟨rfl,S,n,hk⟩
  ·obtain⟨its,_,pl,_⟩:=I.list hq
   refine⟨pl.isList.typeIs,λa e=> ?_⟩
   cases e
   obtain⟨o,n,e,c,hd,_⟩:=pl
   exact⟨o,e,hd⟩
  ·refine⟨⟨o,I.kIn p o hk,hc⟩,λa e=> ?_⟩
   cases e
   exact⟨o,I.kIn _ o hk,hd⟩
  ·have z:∃o,s.heap.get? p=some o/\o.ExactDict:=by
    rcases hk with ⟨kvs,hk⟩|⟨kvs,hk⟩
    ·obtain⟨_,_,_,_,o,_,_,e,ex,_⟩:=I.hok p _ hk
     exact⟨o,e,ex⟩
    ·obtain⟨_,_,_,_,o,_,_,e,ex,_⟩:=I.hok p _ hk
     exact⟨o,e,ex⟩
   obtain⟨o,e,ex⟩:=z
   refine⟨⟨o,e,ex.1⟩,λa e2=> ?_⟩
   cases e2
   exact⟨o,e,ex.2.1⟩
  ·obtain⟨o,_,_,_,e,ex,_⟩:=I.hok p _ hk
   refine⟨⟨o,e,ex.1⟩,λa e2=> ?_⟩
   cases e2
   exact⟨o,e,ex.2.1⟩
 |_=>exact Ll ty
def IK (K:JL) (T:String) (r:V->List V->Hp->VK->Prop) (to:TE):TE:=λσ H Q=>to σ H λx H1=>H_ K T x H1/\r x [] H1 Q
def Ju (K:JL) (T:String) (r:V->List V->Hp->VK->Prop) (to:TE) (t:TA):TE:=λσ H Q=>to σ H λx H1=>H_ K T x H1/\t σ H1 λxs H2=>r x xs H2 Q
variable {o e:JW} {es:List JW} {to:TE} {t:TA} {name:JN} {Rp Rm:KC} {T id:String} {r:V->List V->Hp->VK->Prop}
theorem AW (pa:PlainAttrs T) (slot:Slot T name id) (YI:typeOf (.builtin id)=pure (.type "method_descriptor")) (hm:J8 X id r) (ho:PE X o to)
  (RT:KI o name X.env (Kb o X.env)=Kb o X.env:=by rfl) (RU:(Rp.endLine==Rm.line)=true:=by rfl):PE X (.Call (.Attribute o name Rp) [] [] Rm) (IK X.K T r to):=by
 intro R6 s σ H Q I h
 refine wpAny_Call_method0_late RT RU (d0 (ho R6 s σ H _ I h) λv s1 z_=> ?_)
 obtain⟨x,H1,I1,r1,ty,q1⟩:=z_
 obtain⟨h1,h2⟩:=wW I1 r1 ty
 exact⟨T,id,pa,slot,YI,h1,h2,Mf rfl (PySem.evalArgs_none (hm R6 s1 σ H1 x [] v [] Q I1 r1 .nil q1))⟩
theorem ye (pa:PlainAttrs T) (slot:Slot T name id) (YI:typeOf (.builtin id)=pure (.type "method_descriptor")) (hm:J8 X id r) (ho:PE X o to) (ha:PA X (e::es) t)
  (RT:KI o name X.env (Kb o X.env)=Kb o X.env:=by rfl)
  (TM:((Ks Rm (JS (e::es) X.env)).all (λx=> !x.1)&&(LF Rm (Le [] X.env)).all (λx=>x.1.isSome)
   &&decide ((e::es).length+([]:List LR).length+(if ([]:List LR).isEmpty then 0 else 1)<30))=true:=by rfl)
  (RU:(Rp.endLine==Rm.line)=true:=by rfl) (hs:JS (e::es) X.env=(false,Kb e X.env)::JS es X.env:=by rfl) (RV:(Ks Rm (JS es X.env)).any (·.1)=false:=by rfl):
  PE X (.Call (.Attribute o name Rp) (e::es) [] Rm) (Ju X.K T r to t):=by
 intro R6 s σ H Q I h
 refine OV RT TM RU rfl (d0 (ho R6 s σ H _ I h) λv s1 z_=> ?_)
 obtain⟨x,H1,I1,r1,ty,q1⟩:=z_
 obtain⟨h1,h2⟩:=wW I1 r1 ty
 refine⟨T,id,pa,slot,YI,h1,h2,?_⟩
 have hA:=ha Rm R6 s1 σ H1 _ I1 q1
 rw[hs]at hA ⊢
 refine Mf (by show (false||(Ks Rm (JS es X.env)).any (·.1))=false;rw[RV]<;>rfl) (Mv ?_)
 exact d0 hA λus s2 ⟨vs,H2,I2,r2,q2⟩=>hm R6 s2 σ H2 x vs v us Q I2 r1 r2 q2
end
end L2
namespace L2
open PySem PySem.Spec PyProof.Rows
def F9 (X:Cx) (id:String) (r:V->List V->Hp->VK->Prop):Prop:=
 ∀(R6:List (JO×Kq)) (s:JP) (σ:St) (H:Hp) (x:V) (xs:List V) (v:JM) (us:List JM) (Q:VK),aM X R6 σ H s->bU x v->bi xs us->r x xs H Q->
  JZ (K2 X.prog X.w) X.A (call (.builtin id) (v::us)) (EP X R6 σ Q) X.xe s
theorem bi.one:∀{x:V} {us:List JM},bi [x] us->∃u,us=[u]/\bU x u:=λh=>by
 cases h with
 |cons r t=>cases t;exact⟨_,rfl,r⟩
theorem bi.zero:∀{us:List JM},bi [] us->us=[]
 |_, .nil=>rfl
theorem bi.dropLast {xs:List V} {us:List JM} (h:bi xs us):bi xs.dropLast us.dropLast:=by
 induction h with
 |nil=>exact .nil
 |cons r t ih=>
  cases t with
  |nil=>exact .nil
  |cons q t'=>exact .cons r ih
theorem bi.reverse {xs:List V} {us:List JM} (h:bi xs us):bi xs.reverse us.reverse:=by
 induction h with
 |nil=>exact .nil
 |cons r t ih=>rw[N1,N1];exact bi.append ih (.cons r .nil)
theorem bi.rep {xs:List V} {us:List JM} (h:bi xs us):∀k:Nat,bi (Ki k xs).flatten (Ki k us).flatten
 |0=> .nil
 |k+1=>by
  rw[L9,L9,LK,LK]
  exact bi.append h (bi.rep h k)
theorem wX {α:Type} (l:List α):l.eraseIdx (l.length - 1)=l.dropLast:=by
 induction l with
 |nil=>rfl
 |cons a r ih=>
  cases r with
  |nil=>rfl
  |cons b r=>
   have e:(a::b::r).length - 1=((b::r).length - 1)+1:=by
    have h1:(a::b::r).length=r.length+2:=rfl
    have h2:(b::r).length=r.length+1:=rfl
    omega
   rw[e,List.eraseIdx_cons_succ,ih]
   all_goals rfl
theorem sK (its:List JM):∀(k:Nat) (Sn:List JM),
  Pf (λx1 x2=>x1++x2) Sn.toArray (Ki k its.toArray)=(Sn++(Ki k its).flatten).toArray
 |0,Sn=>by simp
 |k+1,Sn=>by
  have e:Sn.toArray++its.toArray=(Sn++its).toArray:=by simp
  have e2:(Sn++its)++(Ki k its).flatten=Sn++(Ki (k+1) its).flatten:=by
   rw[L9,LK,N2]
  rw[<-e2,<-sK its k (Sn++its),<-e,L9,QA]
section
variable {X:Cx} {R6:List (JO×Kq)} {σ:St} {H:Hp} {s:JP} {l b:JO} {xs ys zs:List V}
theorem aM.lset {its its':List JM} {n:Nat} {f:Array JM->Array JM} {t':Nat} (I:aM X R6 σ H s) (hH:H l=some (.lst xs))
  (e:s.heap.get? l=some {cls:= .type "list",data:= .seq its.toArray n}) (hf:f its.toArray=its'.toArray) (hv:bi ys its') (hz:ys.length<=sizeLine):
  aM X R6 σ (bY H l (.lst ys)) {s with heap:=s.heap.update l (Ln f),toks:=t'}:=by
 have q:=PySem.IsL.update e f
 rw[hf]at q
 refine I.write (x:=l) (e:=l) (by rw[hH];exact trivial) (.inl rfl) (λb' u hb hu=>(OU s.heap (Ln f) (Lz hb)).trans hu) ⟨_,q⟩ ?_
 exact⟨hz,its',_,hv,q⟩
theorem aM.lnew {its:List JM} {t':Nat} (I:aM X R6 σ H s) (hv:bi ys its) (hz:ys.length<=sizeLine):
  aM X R6 σ (bY H s.heap.objs.size (.lst ys)) {s with heap:=s.heap.push {cls:= .type "list",data:= .seq its.toArray},toks:=t'}:=
 I.laid (λ_ _ q=>JV _ q) (Kc _) ⟨hz,its,0,hv,Ko _ rfl⟩
theorem aM.fresh (I:aM X R6 σ H s):H s.heap.objs.size=none:=I.hok.fresh (Kc _)
theorem aM.lstM (I:aM X R6 σ H s) (hH:H l=some (.lst xs)):xs.length<=sizeLine/\∃(its:List JM) (n:Nat),bi xs its/\xs.length=its.length/\s.heap.get? l=some {cls:= .type "list",data:= .seq its.toArray n}:=by
 obtain⟨z,its,n,r,e⟩:=I.hok l _ hH
 exact⟨z,its,n,r,r.length,e⟩
theorem va {n:Nat} (h:n<=sizeLine):M1 n=false:=by
 unfold M1
 exact decide_eq_false (by omega)
end
section
variable {X:Cx}
def D1:V->List V->Hp->VK->Prop:=λx vs H Q=>∃l xs y,x= .ref l/\vs=[y]/\H l=some (.lst xs)/\xs.length<sizeLine/\Q .non (bY H l (.lst (xs++[y])))
theorem oU:F9 X "list.append" D1:=by
 intro R6 s σ H x vs v us Q I rx rv h
 obtain⟨l,xs,y,rfl,rfl,hH,hz,q⟩:=h
 cases rx
 obtain⟨u,rfl,ru⟩:=rv.one
 obtain⟨z,its,n,r,hl,e⟩:=I.lstM hH
 refine Mc F.slot_list_append ⟨_,e,rfl⟩ F.entry_list_append (F.args_list_append_2 _ _) (PySem.list_append l its.toArray n u (by rw[JU];omega)) ⟨e,?_⟩
 refine⟨.non,_,I.lset (its':=its++[u]) hH e (by simp) (r.append (.cons ru .nil)) ?_,rfl,q⟩
 rw[Kv,LS]
 omega
def D3:V->List V->Hp->VK->Prop:=λx vs H Q=>∃l b xs zs,x= .ref l/\vs=[.ref b]/\H l=some (.lst xs)/\H b=some (.lst zs)/\xs.length+zs.length<=sizeLine/\Q .non (bY H l (.lst (xs++zs)))
theorem Gn:F9 X "list.extend" D3:=by
 intro R6 s σ H x vs v us Q I rx rv h
 obtain⟨l,b,xs,zs,rfl,rfl,hH,hB,hz,q⟩:=h
 cases rx
 obtain⟨u,rfl,ru⟩:=rv.one
 cases ru
 obtain⟨z,its,n,r,hl,e⟩:=I.lstM hH
 obtain⟨z2,Us,n2,r2,Vy,e2⟩:=I.lstM hB
 have hsz:its.toArray.size+Us.toArray.size<=sizeLine:=by rw[JU,JU];omega
 have VY:¬(!its.toArray.isEmpty&&M1 (its.toArray.size+Us.toArray.size))=true:=by
  rw[va hsz,QM]
  exact Kf
 refine Mc F.slot_list_extend ⟨_,e,rfl⟩ F.entry_list_extend (F.args_list_extend_2 _ _)
  (AutoSeq1.list_extend_list_list_0 l its.toArray n b Us.toArray n2 VY (by rw[JU];omega) (by omega)) ⟨e,e2,?_⟩
 refine⟨.non,_,I.lset (its':=its++Us) hH e (by simp) (r.append r2) ?_,rfl,q⟩
 rw[Kv]
 omega
def IL:V->List V->Hp->VK->Prop:=λx vs H Q=>∃l xs y,x= .ref l/\vs=[]/\H l=some (.lst xs)/\xs[xs.length - 1]? =some y/\Q y (bY H l (.lst xs.dropLast))
theorem AX:F9 X "list.pop" IL:=by
 intro R6 s σ H x vs v us Q I rx rv h
 obtain⟨l,xs,y,rfl,rfl,hH,hy,q⟩:=h
 cases rx
 have ZV:=rv.zero
 subst ZV
 obtain⟨z,its,n,r,hl,e⟩:=I.lstM hH
 obtain⟨u,hu,ru⟩:=r.get hy
 have a0r:its.toArray[its.toArray.size - 1]? =some u:=by
  show its.toArray[its.length - 1]? =some u
  rw[<-P1,<-hl]
  exact hu
 refine Mc F.slot_list_pop ⟨_,e,rfl⟩ F.entry_list_pop (F.args_list_pop_1 _) (MeetsSeq.list_pop_last l its.toArray n u a0r (by rw[JU];omega)) ⟨e,?_⟩
 refine⟨y,_,I.lset (its':=its.dropLast) hH e ?_ r.dropLast ?_,ru,q⟩
 ·show its.toArray.eraseIdxIfInBounds (its.toArray.size - 1)=its.dropLast.toArray
  rw[JU,List.eraseIdxIfInBounds_toArray,wX]
 ·rw[List.length_dropLast]
  omega
def GZ:R2:=λx y H Q=>∃l b xs zs,x= .ref l/\y= .ref b/\H l=some (.lst xs)/\H b=some (.lst zs)/\xs.length+zs.length<=sizeLine/\∀p,H p=none->Q (.ref p) (bY H p (.lst (xs++zs)))
theorem Fa:lX X (LD .Add) GZ:=by
 intro R6 s σ H x y v u Q I rx ry h
 obtain⟨l,b,xs,zs,rfl,rfl,hH,hB,hz,q⟩:=h
 cases rx
 cases ry
 obtain⟨z,its,n,r,hl,e⟩:=I.lstM hH
 obtain⟨z2,Us,n2,r2,Vy,e2⟩:=I.lstM hB
 refine PySem.P.add_list e e2 ?_ (by rw[JU,JU];omega)
 have ea:its.toArray++Us.toArray=(its++Us).toArray:=by simp
 rw[ea]
 exact⟨.ref _,_,I.lnew (t':=s.toks) (r.append r2) (by rw[Kv];omega),rfl,q _ I.fresh⟩
def G_:R2:=λx y H Q=>∃l k xs,x= .ref l/\y= .int k/\H l=some (.lst xs)/\ -(2 ^63)<=k/\k<2 ^63/\xs.length*k.toNat<=sizeLine/\
 ∀p,H p=none->Q (.ref p) (bY H p (.lst (Ki k.toNat xs).flatten))
theorem D4 {α:Type} (xs:List α) (k:Nat):(Ki k xs).flatten.length=k*xs.length:=by
 induction k with
 |zero=>simp
 |succ k ih=>rw[L9,LK,Kv,ih,Nat.succ_mul,Nat.add_comm]
theorem Fb:lX X (LD .Mult) G_:=by
 intro R6 s σ H x y v u Q I rx ry h
 obtain⟨l,k,xs,rfl,rfl,hH,h1,h2,hz,q⟩:=h
 cases rx
 obtain⟨t,rfl⟩:=ry
 obtain⟨z,its,n,r,hl,e⟩:=I.lstM hH
 have Rt:its.toArray.size*k.toNat<=sizeLine:=by rw[JU,<-hl];exact hz
 have YJ:¬its.toArray.size*k.toNat>(2 ^63 - 1) / 8:=by
  have:(sizeLine:Nat)<=(2 ^63 - 1) / 8:=by decide
  omega
 have YK:¬(!Builtin.List.listFitsIndex k)=true:=by
  rw[fitsIndex_both h1 h2]
  exact Kf
 have VY:¬M1 (its.toArray.size*k.toNat)=true:=by
  rw[va Rt]
  exact Kf
 have YL:Pf (λx1 x2=>x1++x2) #[] (Ki (if its.toArray.isEmpty=true then 0 else k.toNat) its.toArray)=(Ki k.toNat its).flatten.toArray:=by
  have f0:∀m:Nat,Pf (λx1 x2=>x1++x2) #[] (Ki m its.toArray)=(Ki m its).flatten.toArray:=λm=>by
   have:=sK its m []
   rw[OJ]at this
   exact this
  rw[f0]
  cases its with
  |nil=>simp
  |cons a r'=>rw[if_neg (by simp)]
 refine wpAny_binaryOp_repeat_ref (T:="list") (U:="int") (by decide) ⟨_,e,rfl⟩ (λs'=>Qz s' k t) noFill_list_mul F.fills_int_mul F.slot_int_rmul repeat_list F.slot_int_index.lookup
  (Mc F.slot_int_rmul (Qz s k t) F.entry_int_rmul (F.args_int_rmul_2 _ _) (int___rmul___int_list k t l its.toArray n)
   ⟨e,rfl,⟨_,e,rfl⟩,Mc F.slot_list_mul ⟨_,e,rfl⟩ F.entry_list_mul (F.args_list_mul_2 _ _) (AutoListH.list___mul___list_int_3 l its.toArray n k t YK YJ VY) ⟨e,?_⟩⟩)
 rw[YL]
 exact⟨.ref _,_,I.lnew (t':=s.toks) (r.rep k.toNat) (by rw[D4,Nat.mul_comm];exact hz),rfl,q _ I.fresh⟩
end
section
variable {prog:K3} {w:Kd} {A:Kl} {E:JM->JP->Prop} {s:JP}
end
section
variable {X:Cx}
end
end L2
namespace L2
open PySem PySem.Spec PyProof.Rows
section
variable {κ:Type} [DecidableEq κ]
def jZ (kvs:List (κ×V)) (k:κ):Option V:=(kvs.find? λkv=>decide (kv.1=k)).map (·.2)
def mq (kvs:List (κ×V)) (k:κ) (v:V):List (κ×V):=
 if (kvs.any λkv=>decide (kv.1=k))=true then kvs.map (λkv=>if kv.1=k then (kv.1,v)else kv)else kvs++[(k,v)]
theorem qZ {p:κ×V} {r:List (κ×V)} {k:κ} (e:p.1=k):jZ (p::r) k=some p.2:=by simp[jZ,Md,e]
theorem q_ {p:κ×V} {r:List (κ×V)} {k:κ} (e:¬p.1=k):jZ (p::r) k=jZ r k:=by simp[jZ,Md,e]
theorem vb (k:κ):∀kvs:List (κ×V),(kvs.any λkv=>decide (kv.1=k))=(jZ kvs k).isSome
 |[]=>rfl
 |p::r=>by
  rw[Li]
  by_cases e:p.1=k
  ·simp only[qZ e,decide_eq_true e,Og,Option.isSome_some]
  ·rw[q_ e,decide_eq_false e,NR];exact vb k r
theorem pS (kvs:List (κ×V)) (k:κ) (v:V):(mq kvs k v).length<=kvs.length+1:=by
 unfold mq
 split
 ·rw[JR];omega
 ·rw[Kv,Kh,MK];omega
theorem kY.isSome_eq {o:Option V} {u:Option JM} (r:kY o u):o.isSome=u.isSome:=by
 cases o with
 |none=>cases u with
  |none=>rfl
  |some _=>exact(show False from r).elim
 |some _=>cases u with
  |none=>exact(show False from r).elim
  |some _=>rfl
theorem kY.getD {o:Option V} {u:Option JM} {d:V} {d':JM} (r:kY o u) (rd:bU d d'):bU (o.getD d) (u.getD d'):=by
 cases o with
 |none=>cases u with
  |none=>exact rd
  |some _=>exact(show False from r).elim
 |some _=>cases u with
  |none=>exact(show False from r).elim
  |some _=>exact r
theorem KV.val {kvs:List (κ×V)} {vs:List (κ×JM)} (r:KV kvs vs) (k:κ):kY (jZ kvs k) (O5 vs k):=by
 unfold KV at r
 induction r with
 |nil=>exact LO
 | @cons p q ps qs h t ih=>
  obtain⟨h1,h2⟩:=h
  by_cases e:p.1=k
  ·have e':q.1=k:=h1.symm.trans e
   have b:O5 (q::qs) k=some q.2:=by simp[O5,Md,e']
   rw[qZ e,b];exact h2
  ·have e':¬q.1=k:=λz=>e (h1.trans z)
   have b:O5 (q::qs) k=O5 qs k:=by simp[O5,Md,e']
   rw[q_ e,b];exact ih
theorem KV.any {kvs:List (κ×V)} {vs:List (κ×JM)} (r:KV kvs vs) (k:κ):(kvs.any λkv=>decide (kv.1=k))=vs.any λkv=>decide (kv.1=k):=by
 unfold KV at r
 induction r with
 |nil=>rfl
 |cons h t ih=>rw[Li,Li,ih,h.1]
theorem KV.repl {kvs:List (κ×V)} {vs:List (κ×JM)} (r:KV kvs vs) (k:κ) {y:V} {u:JM} (ry:bU y u):
  KV (kvs.map λkv=>if kv.1=k then (kv.1,y)else kv) (vs.map λkv=>if kv.1=k then (kv.1,u)else kv):=by
 unfold KV at r ⊢
 induction r with
 |nil=>exact .nil
 | @cons p q ps qs h t ih=>
  rw[J_,J_]
  refine .cons ?_ ih
  obtain⟨h1,h2⟩:=h
  by_cases e:p.1=k
  ·rw[if_pos e,if_pos (h1.symm.trans e)];exact⟨h1,ry⟩
  ·rw[if_neg e,if_neg (λz=>e (h1.trans z))];exact⟨h1,h2⟩
theorem KV.put {kvs:List (κ×V)} {vs:List (κ×JM)} (r:KV kvs vs) (k:κ) {y:V} {u:JM} (ry:bU y u):KV (mq kvs k y) (stored vs k u):=by
 unfold mq stored
 rw[r.any k]
 by_cases e:(vs.any λkv=>decide (kv.1=k))=true
 ·rw[if_pos e,if_pos e];exact r.repl k ry
 ·rw[if_neg e,if_neg e];exact R4 r ⟨rfl,ry⟩
theorem KV.keys {kvs:List (κ×V)} {vs:List (κ×JM)} (r:KV kvs vs):kvs.map (·.1)=vs.map (·.1):=by
 unfold KV at r
 induction r with
 |nil=>rfl
 |cons h t ih=>rw[J_,J_,ih,h.1]
theorem KV.length {kvs:List (κ×V)} {vs:List (κ×JM)} (r:KV kvs vs):kvs.length=vs.length:=NI r
end
theorem vc {P:K3} {w:Kd} {k:cI} {u:JM} (r:bU (kV k) u):(dG P w).is k u=true:=by
 cases k with
 |inl i=>obtain⟨t,e⟩:=(show ∃t,u=M8 i t from r);subst e;exact v3 P w i t
 |inr x=>obtain⟨t,e⟩:=(show ∃t,u=Nh x t from r);subst e;exact v4 P w x t
theorem sL {P:K3} {w:Kd}:∀{ks:List cI} {us:List JM},bi (ks.map kV) us->ItemsAre (dG P w) ks us
 |[],_,r=>by rw[Lh]at r;cases r;exact .nil
 |k::ks,_,r=>by
  rw[J_]at r
  cases r with
  |cons h t=>exact .cons (vc h) (sL t)
abbrev KT (H:Hp):List (List cI×V)->List (List cI×JO×JM)->Prop:=Paired λp q=>p.1=q.1/\H q.2.1=some (.tup (p.1.map kV))/\bU p.2 q.2.2
theorem KT.val {H:Hp} {kvs:List (List cI×V)} {xs:List (List cI×JO×JM)} (r:KT H kvs xs) (k:List cI):kY (jZ kvs k) ((OK xs k).map (·.2)):=by
 induction r with
 |nil=>exact LO
 | @cons p q ps qs h t ih=>
  obtain⟨h1,_,h2⟩:=h
  by_cases e:p.1=k
  ·have e':q.1=k:=h1.symm.trans e
   have b:OK (q::qs) k=some q.2:=by simp[OK,Md,e']
   rw[qZ e,b];exact h2
  ·have e':¬q.1=k:=λz=>e (h1.trans z)
   have b:OK (q::qs) k=OK qs k:=by simp[OK,Md,e']
   rw[q_ e,b];exact ih
theorem KT.repl {H:Hp} {kvs:List (List cI×V)} {xs:List (List cI×JO×JM)} (r:KT H kvs xs) (k:List cI) {y:V} {u:JM} (ry:bU y u):
  KT H (kvs.map λkv=>if kv.1=k then (kv.1,y)else kv) (xs.map (putAt k u)):=by
 induction r with
 |nil=>exact .nil
 | @cons p q ps qs h t ih=>
  rw[J_,J_]
  refine .cons ?_ ih
  obtain⟨h1,h2,h3⟩:=h
  unfold putAt
  by_cases e:p.1=k
  ·rw[if_pos e,if_pos (h1.symm.trans e)];exact⟨h1,h2,ry⟩
  ·rw[if_neg e,if_neg (λz=>e (h1.trans z))];exact⟨h1,h2,h3⟩
theorem KT.put {H:Hp} {kvs:List (List cI×V)} {xs:List (List cI×JO×JM)} (r:KT H kvs xs) (k:List cI) {b:JO} {y:V} {u:JM} (hb:H b=some (.tup (k.map kV))) (ry:bU y u):
  KT H (mq kvs k y) (storedH xs k b u):=by
 have e:(kvs.any λkv=>decide (kv.1=k))=(OK xs k).isSome:=by
  rw[vb,(r.val k).isSome_eq,NX]
 unfold mq storedH
 rw[e]
 by_cases q:(OK xs k).isSome=true
 ·rw[if_pos q,if_pos q];exact r.repl k ry
 ·rw[if_neg q,if_neg q];exact R4 r ⟨rfl,hb,ry⟩
theorem KT.keeps {H H':Hp} {kvs:List (List cI×V)} {xs:List (List cI×JO×JM)} (r:KT H kvs xs) (ht:∀b ys,H b=some (.tup ys)->H' b=some (.tup ys)):KT H' kvs xs:=
 Paired.mapP r λ_ _ z=>⟨z.1,ht _ _ z.2.1,z.2.2⟩
section
variable {P:K3} {w:Kd} {H:Hp} {h:Ka} {a:JO}
theorem Ea {u:HO} (ok:la P w H h) (e:Rd H a u):ce P w H h a u:=e.ok ok
theorem sM {kvs:List (cI×V)} (ok:la P w H h) (e:Rd H a (.dK kvs)):kvs.length<=sizeLine/\(a==sysModules)=false/\∃vs,KV kvs vs/\h.DictOf (dG P w) a vs:=
 show ce P w H h a (.dK kvs)from Ea ok e
theorem Eb {kvs:List (cI×V)} (ok:la P w H h) (e:H a=some (.dK kvs)):kvs.length<=sizeLine/\(a==sysModules)=false/\∃vs,KV kvs vs/\h.DictOf (dG P w) a vs:=sM ok (.inl e)
theorem r0 {ks:List cI} (ok:la P w H h) (e:H a=some (.tup (ks.map kV))):(OF (dG P w)).is h ks a:=by
 obtain⟨_,its,r,o,h1,h2,n,h3,_⟩:=(show ce P w H h a (.tup (ks.map kV))from ok a _ e)
 exact⟨o,its.toArray,n,h1,h2,h3,by simpa using sL r⟩
theorem ve {kvs:List (List cI×V)} (ok:la P w H h) (e:Rd H a (.dT kvs)):kvs.length<=sizeLine/\(a==sysModules)=false/\
  ∃xs,KT H kvs xs/\h.DictOfH (OF (dG P w)) a xs:=by
 obtain⟨z,y,xs,r,o,es,ep,h1,h2,h3,h4,h5⟩:=(show ce P w H h a (.dT kvs)from Ea ok e)
 refine⟨z,y,xs,r,o,es,ep,h1,h2,h3,h4,λx hx=> ?_,h5⟩
 have all:∀{l:List (List cI×V)} {m:List (List cI×JO×JM)},KT H l m->∀x∈m,(OF (dG P w)).is h x.1 x.2.1:=by
  intro l m q
  induction q with
  |nil=>intro x hx;exact nomatch hx
  | @cons p q ps qs hq t ih=>
   intro x hx
   rcases K1.mp hx with e|hx
   ·subst e
    exact r0 ok (by rw[<-hq.1];exact hq.2.1)
   ·exact ih x hx
 exact all r x hx
theorem H9 {kvs:List (List cI×V)} (ok:la P w H h) (e:H a=some (.dT kvs)):kvs.length<=sizeLine/\(a==sysModules)=false/\
  ∃xs,KT H kvs xs/\h.DictOfH (OF (dG P w)) a xs:=ve ok (.inl e)
end
def nV (H:Hp) (a:JO) (y:V) (r:Option V):Prop:=
 (∃kvs k,Rd H a (.dK kvs)/\y=kV k/\r=jZ kvs k)\/∃kvs k b,Rd H a (.dT kvs)/\y= .ref b/\H b=some (.tup (k.map kV))/\r=jZ kvs k
def wY (H:Hp) (a:JO) (y v:V) (H':Hp):Prop:=
 (∃kvs k,H a=some (.dK kvs)/\y=kV k/\kvs.length<sizeLine/\H'=bY H a (.dK (mq kvs k v)))\/
 ∃kvs k b,H a=some (.dT kvs)/\y= .ref b/\H b=some (.tup (k.map kV))/\kvs.length<sizeLine/\H'=bY H a (.dT (mq kvs k v))
theorem nV.k {H:Hp} {a:JO} {kvs:List (cI×V)} {k:cI} (e:H a=some (.dK kvs)):nV H a (kV k) (jZ kvs k):= .inl ⟨kvs,k, .inl e,rfl,rfl⟩
theorem nV.t {H:Hp} {a b:JO} {kvs:List (List cI×V)} {k:List cI} (e:H a=some (.dT kvs)) (eb:H b=some (.tup (k.map kV))):nV H a (.ref b) (jZ kvs k):= .inr ⟨kvs,k,b, .inl e,rfl,eb,rfl⟩
theorem wY.k {H:Hp} {a:JO} {kvs:List (cI×V)} {k:cI} {v:V} (e:H a=some (.dK kvs)) (hl:kvs.length<sizeLine):wY H a (kV k) v (bY H a (.dK (mq kvs k v))):= .inl ⟨kvs,k,e,rfl,hl,rfl⟩
theorem wY.t {H:Hp} {a b:JO} {kvs:List (List cI×V)} {k:List cI} {v:V} (e:H a=some (.dT kvs)) (eb:H b=some (.tup (k.map kV))) (hl:kvs.length<sizeLine):
  wY H a (.ref b) v (bY H a (.dT (mq kvs k v))):= .inr ⟨kvs,k,b,e,rfl,eb,hl,rfl⟩
section
variable {X:Cx} {R6:List (JO×Kq)} {σ:St} {H:Hp} {s:JP} {a:JO} {y v:V} {u r:JM} {o:Option V} {A:Kl} {E:JM->JP->Prop}
theorem zv {Q:JM->JP->Prop} (hu:A.units+1<Ma) (I:aM X R6 σ H s) (g:nV H a y (some v)) (ry:bU y u) (h:∀w' s',aM X R6 σ H s'->bU v w'->Q w' s'):
  JZ (K2 X.prog X.w) A (MX (.ref a) u) Q E s:=by
 rcases g with ⟨kvs,k,e,ey,l⟩|⟨kvs,k,b,e,ey,eb,l⟩
 ·subst ey
  obtain⟨z,hd,vs,TX,dd⟩:=sM I.hok e
  obtain⟨w',hw,Vx⟩:=kY.some_of (v:=v) (o:=O5 vs k) (by rw[l];exact TX.val k)
  exact wpAny_getItem_of (vc ry) dd.mapOf hw (h w' _ (I.tok _) Vx)
 ·subst ey
  cases (show u=Kk b from ry)
  obtain⟨z,hd,xs,TX,dd⟩:=ve I.hok e
  obtain⟨w',hw,Vx⟩:=kY.some_of (v:=v) (o:=(OK xs k).map (·.2)) (by rw[l];exact TX.val k)
  obtain⟨p,hp,Wr⟩:=Option.map_eq_some_iff.mp hw
  refine wpAny_getItem_heap (MU hu) (r0 I.hok eb) dd hp ?_
  rw[Wr]
  exact h w' _ (I.tok _) Vx
theorem IM {Q:JM->JP->Prop} (hu:A.units+1<Ma) (I:aM X R6 σ H s) (g:nV H a y o) (ry:bU y u) (h:∀s',aM X R6 σ H s'->Q (.bool o.isSome) s'):
  JZ (K2 X.prog X.w) A (Lo .In u (.ref a)) Q E s:=by
 rcases g with ⟨kvs,k,e,ey,l⟩|⟨kvs,k,b,e,ey,eb,l⟩
 ·subst ey
  obtain⟨z,hd,vs,TX,dd⟩:=sM I.hok e
  refine wpAny_in_of (vc ry) hd dd.mapOf ?_
  rw[<-(TX.val k).isSome_eq,<-l]
  exact h _ (I.tok _)
 ·subst ey
  cases (show u=Kk b from ry)
  obtain⟨z,hd,xs,TX,dd⟩:=ve I.hok e
  refine wpAny_in_heap (MU hu) (r0 I.hok eb) hd dd ?_
  have q:=(TX.val k).isSome_eq
  rw[NX]at q
  rw[<-q,<-l]
  exact h _ (I.tok _)
theorem D5 {Q:JM->JP->Prop} (hu:A.units+1<Ma) (I:aM X R6 σ H s) (g:nV H a y o) (ry:bU y u) (h:∀s',aM X R6 σ H s'->Q (.bool (!o.isSome)) s'):
  JZ (K2 X.prog X.w) A (Lo .NotIn u (.ref a)) Q E s:=by
 rcases g with ⟨kvs,k,e,ey,l⟩|⟨kvs,k,b,e,ey,eb,l⟩
 ·subst ey
  obtain⟨z,hd,vs,TX,dd⟩:=sM I.hok e
  refine wpAny_notIn_of (vc ry) hd dd.mapOf ?_
  rw[<-(TX.val k).isSome_eq,<-l]
  exact h _ (I.tok _)
 ·subst ey
  cases (show u=Kk b from ry)
  obtain⟨z,hd,xs,TX,dd⟩:=ve I.hok e
  refine wpAny_notIn_heap (MU hu) (r0 I.hok eb) hd dd ?_
  have q:=(TX.val k).isSome_eq
  rw[NX]at q
  rw[<-q,<-l]
  exact h _ (I.tok _)
theorem yf {h':Ka} {t':Nat} {ob:HO} (I:aM X R6 σ H s) (mu:Gy (H a)) (hs:O9 a s.heap h') (he:∃q,h'.get? a=some q) (new:ce X.prog X.w (bY H a ob) h' a ob):
  aM X R6 σ (bY H a ob) {s with heap:=h',toks:=t'}:=
 I.write (x:=a) (e:=a) mu (.inl rfl) (λb q hb z=>(hs.2 b hb).trans z) he new
theorem Fc {P:K3} {w:Kd} {H':Hp} {h':Ka} {kvs:List (cI×V)} {vs:List (cI×JM)} (z:kvs.length<=sizeLine) (hd:(a==sysModules)=false) (TX:KV kvs vs) (dd:h'.DictOf (dG P w) a vs):
  ce P w H' h' a (.dK kvs):=⟨z,hd,vs,TX,dd⟩
theorem zw {H':Hp} {Q:Unit->JP->Prop} (hu:A.units+1<Ma) (I:aM X R6 σ H s) (g:wY H a y v H') (ry:bU y u) (rv:bU v r) (h:∀s',aM X R6 σ H' s'->Q () s'):
  JZ (K2 X.prog X.w) A (QL (.ref a) u r) Q E s:=by
 rcases g with ⟨kvs,k,e,ey,l,eH⟩|⟨kvs,k,b,e,ey,eb,l,eH⟩
 ·subst ey eH
  obtain⟨z,hd,vs,TX,dd⟩:=Eb I.hok e
  have hz:vs.length<=sizeLine:=by rw[<-TX.length];exact z
  have hl:(mq kvs k v).length<=sizeLine:=by have:=pS kvs k v;omega
  refine wpAny_setItem_pairs (hsz:=hz) (vc ry) dd λh' Yg hs=>h _ ?_
  have he:∃q,h'.get? a=some q:=let ⟨q,_,_,hq,_⟩:=Yg;⟨q,hq⟩
  exact yf I (by rw[e];exact LO) hs he (Fc hl hd (TX.put k rv) Yg)
 ·subst ey eH
  cases (show u=Kk b from ry)
  obtain⟨z,hd,xs,TX,dd⟩:=H9 I.hok e
  have hz:xs.length<=sizeLine:=by rw[<-NI TX];exact z
  have hl:(mq kvs k v).length<=sizeLine:=by have:=pS kvs k v;omega
  refine wpAny_setItem_heap (hsz:=hz) (MU hu) (r0 I.hok eb) dd λh' Yg hs=>h _ ?_
  obtain⟨q,es,ep,hq,h2,h3,h4,_,h5⟩:=Yg
  refine yf I (by rw[e];exact LO) hs ⟨q,hq⟩ ⟨hl,hd,_,(TX.put k eb rv).keeps λc ys ec=> ?_,q,es,ep,hq,h2,h3,h4,h5⟩
  rw[ay (Gx ec e (λz=>nomatch z))]
  exact ec
end
section
variable {X:Cx} {R6:List (JO×Kq)} {σ:St} {H:Hp} {s:JP} {a:JO} {kvs:List (cI×V)} {k:cI} {u:JM} {A:Kl} {E:JM->JP->Prop}
theorem Ha {Q:JM->JP->Prop} (I:aM X R6 σ H s) (e:Rd H a (.dK kvs)) (h:∀t s',aM X R6 σ H s'->Q (.int kvs.length t) s'):JZ (K2 X.prog X.w) A (call (.builtin "len") [.ref a]) Q E s:=by
 obtain⟨z,hd,vs,TX,dd⟩:=sM I.hok e
 refine call_len_dict hd dd (by rw[<-TX.length];rw[Ld]at z;omega) ?_
 rw[<-TX.length]
 exact h _ _ (I.tok _)
end
def Hb (i:JW):Prop:=∀ov iv,OS i false ov iv=operate [ov,iv] (MX ov iv)
theorem D6 {prog:K3} {w:Kd} {A:Kl} {E:JM->JP->Prop} {s:JP} {env:Ly} {value SI:JW} {pos:KC} {T id:String} {Q:JM->JP->Prop}
  (hl:typeLookup (.type T) "__getitem__"=pure (some (.builtin id))) (hs:Hb SI)
  (h:JZ (K2 prog w) A (Kb value env) (λo s₁=>JZ (K2 prog w) A (Kb SI env) (λi s₂=>s₂.TypeIs o T/\JZ (K2 prog w) A (MX o i) Q E s₂) E s₁) E s):
  JZ (K2 prog w) A (Kb (.Subscript value SI pos) env) Q E s:=by
 refine Pe (LC h (λo s₁ h₁=>LC h₁ (λi s₂ h₂=> ?_) λ_ _ x=>x) λ_ _ x=>x)
 obtain⟨hT,h₂⟩:=h₂
 unfold NQ
 refine JQ ?_
 rw[getitemInPython_of_ne hT.not_modules]
 refine JQ (wpAny_specialOf hT hl ?_)
 have SH:JZ (K2 prog w) A (OS SI false o i) (λr s₃=>JZ (K2 prog w) A (letTemporaryGo value o r>>=λ_=>pure r) Q E s₃) E s₂:=by
  rw[hs o i]
  exact wpAny_operating (LC h₂ (λr s₃ h₃=>JQ (wpAny_letTemporaryGo (JY h₃))) λ_ _ x=>x)
 first
  |exact JY (JQ SH)
  |exact JQ (JY (JQ SH))
  |exact JQ SH
theorem vf {X:Cx} {R6:List (JO×Kq)} {σ:St} {H:Hp} {s:JP} {a:JO} {y:V} {o:Option V} (I:aM X R6 σ H s) (g:nV H a y o):s.TypeIs (.ref a) "dict":=by
 rcases g with ⟨kvs,k,e,_,_⟩|⟨kvs,k,b,e,_,_,_⟩
 ·obtain⟨_,_,vs,_,dd⟩:=sM I.hok e
  exact dd.typeIs
 ·obtain⟨_,_,xs,_,dd⟩:=ve I.hok e
  exact dd.typeIs
def Hc (td ty:TE):TE:=λσ H Q=>td σ H λx H1=>ty σ H1 λy H2=>∃a v,x= .ref a/\nV H2 a y (some v)/\Q v H2
def Fd (ty td:TE):TE:=λσ H Q=>ty σ H λy H1=>td σ H1 λx H2=>∃a o,x= .ref a/\nV H2 a y o/\Q (.bl o.isSome) H2
def t_ (ty td:TE):TE:=λσ H Q=>ty σ H λy H1=>td σ H1 λx H2=>∃a o,x= .ref a/\nV H2 a y o/\Q (.bl (!o.isSome)) H2
def Hd (td ty tv:TE):TS:=λD σ H=>tv σ H λv H1=>td σ H1 λx H2=>ty σ H2 λy H3=>∃a H4,x= .ref a/\wY H3 a y v H4/\D.nx σ H4
section
variable {X:Cx} {o i e value:JW} {pos Rx YE:KC} {td ty tv:TE}
theorem D7 (hu:X.A.units+1<Ma) (ho:PE X o td) (hi:PE X i ty) (hs:Hb i):PE X (.Subscript o i pos) (Hc td ty):=by
 intro R6 s σ H Q I h
 refine D6 PySem.F.slot_dict_getitem.lookup hs (d0 (ho R6 s σ H _ I h) λu s1 ⟨x,H1,I1,rx,q1⟩=>d0 (hi R6 s1 σ H1 _ I1 q1) λiv s2 z_=> ?_)
 obtain⟨y,H2,I2,ry,a,v,ex,g,q2⟩:=z_
 subst ex
 obtain rfl:u=Kk a:=rx
 exact⟨vf I2 g,zv hu I2 g ry λw' s3 I3 Vx=>⟨v,H2,I3,Vx,q2⟩⟩
theorem AY (hu:X.A.units+1<Ma) (hi:PE X i ty) (ho:PE X o td):PC X .In i o (Fd ty td):=by
 intro R6 s σ H Q I h
 refine d0 (hi R6 s σ H _ I h) λiv s1 ⟨y,H1,I1,ry,q1⟩=>d0 (ho R6 s1 σ H1 _ I1 q1) λu s2 z_=> ?_
 obtain⟨x,H2,I2,rx,a,ov,ex,g,q2⟩:=z_
 subst ex
 obtain rfl:u=Kk a:=rx
 exact IM hu I2 g ry λs3 I3=>⟨.bl ov.isSome,H2,I3,rfl,q2⟩
theorem sN (hu:X.A.units+1<Ma) (hi:PE X i ty) (ho:PE X o td):PC X .NotIn i o (t_ ty td):=by
 intro R6 s σ H Q I h
 refine d0 (hi R6 s σ H _ I h) λiv s1 ⟨y,H1,I1,ry,q1⟩=>d0 (ho R6 s1 σ H1 _ I1 q1) λu s2 z_=> ?_
 obtain⟨x,H2,I2,rx,a,ov,ex,g,q2⟩:=z_
 subst ex
 obtain rfl:u=Kk a:=rx
 exact D5 hu I2 g ry λs3 I3=>⟨.bl (!ov.isSome),H2,I3,rfl,q2⟩
theorem D8 (hu:X.A.units+1<Ma) (ho:PE X o td) (hi:PE X i ty) (hv:PE X value tv) (hs:KR value (some (.Subscript o i Rx)) pos.line X.env=pure false):
  PS X (.Assign [.Subscript o i Rx] value pos) (Hd td ty tv):=by
 intro R6 s σ H D I h
 refine wpAny_Assign_Subscript (d0 (hv R6 s σ H _ I h) λr s1 ⟨v,H1,I1,rv,q1⟩=>d0 (ho R6 s1 σ H1 _ I1 q1) λu s2 ⟨x,H2,I2,rx,q2⟩=>d0 (hi R6 s2 σ H2 _ I2 q2) λiv s3 z_=> ?_) hs
 obtain⟨y,H3,I3,ry,a,H4,ex,g,q3⟩:=z_
 subst ex
 obtain rfl:u=Kk a:=rx
 exact zw hu I3 g ry rv λs4 I4=>⟨σ,H4,I4,q3⟩
end
section
variable {X:Cx} {pos:KC}
end
section
variable {X:Cx} {R6:List (JO×Kq)} {σ:St} {H:Hp} {s:JP} {a:JO} {y d:V} {u r:JM} {o:Option V} {A:Kl} {E:JM->JP->Prop}
end
section
variable {X:Cx} {o e f:JW} {Rp Rm:KC} {td ty tx:TE}
end
section
variable {X:Cx} {R6:List (JO×Kq)} {σ:St} {H:Hp} {s:JP} {a:JO} {kvs:List (cI×V)} {A:Kl} {E:JM->JP->Prop}
end
section
variable {X:Cx} {R6:List (JO×Kq)} {σ:St} {H:Hp} {s:JP} {a:JO} {y:V} {u:JM} {A:Kl} {E:JM->JP->Prop}
end
end L2
namespace Att
open PySem PySem.W PySem.Calls PyProof.Rows
theorem qk {P:Params} {h:Ka}:∀(ns:List Int) (vs:List JM),WellAll P h vs (ns.map WData.int)->O4 vs ns:=by
 intro ns
 induction ns with
 |nil=>
  intro vs w
  rw[Lh]at w
  cases w
  exact .nil
 |cons n ns ih=>
  intro vs w
  rw[J_]at w
  cases w with
  |cons a b=>
   cases a
   exact .cons _ _ (ih _ b)
theorem zx {l:OpenLaw} {n:Nat} (hn:l.most=some n) {P:Params} {h:Ka} {args:List WData} {WH:List JM}
  (We:l.row.toRowW.claim.pre args=true) (YM:WellAll P h WH args):
  ∃a vs ns,WH=[Kk a]/\args=[WData.list (ns.map WData.int)]/\h.get? a=some {cls:= .type "list",data:= .seq vs.toArray}/\O4 vs ns/\ns.length<=n:=by
 have a0s:WShape.hasAll [] args [.list .int]=true:=(pre_splitW We).1
 have hc:l.pre.holds [] {args:=args}=true:=(pre_splitW We).2
 obtain⟨d,r,rfl,h1,h2⟩:=hasAllW_cons a0s
 obtain rfl:=hasAllW_nil h2
 obtain⟨xs,rfl,h3⟩:=hasW_list h1
 obtain⟨ns,rfl⟩:=items_int h3
 have Rt:ns.length<=n:=by
  unfold OpenLaw.pre at hc
  have h4:(WTm.not (.lt (.lit (.int (n:Int))) (.len (.arg 0)))).holds [] {args:=[.list (ns.map .int)]}=true:=by
   have h4:=(holds_andW hc).1
   rw[hn]at h4
   exact h4
  have h5:=condW_of h4 (w_not (w_lt w_lit (w_len_list (w_arg rfl))))
  rw[JR]at h5
  refine Oh λq=> ?_
  have q':(n:Int)<((ns.length:Nat):Int):=by omega
  first
   |(rw[decide_eq_true q']at h5;exact absurd h5 (by decide))
   |(simp at h5;omega)
 cases YM with
 |cons w1 w2=>
  cases w2
  cases w1 with
  |list ho YN=>exact⟨_,_,ns,rfl,rfl,ho,qk ns _ YN,Rt⟩
theorem zy (l:OpenLaw) (args:List WData):l.row.toRowW.claim.post args (.bool true) args=true:=
 postW_of (r:=l.row.toRowW) (X:=(true==true))
  (show WShape.has [] (.bool true) .bool=true by first|rfl|decide|simp[WShape.has,WShape.arms,WShape.armsAll])
  (show (WTm.eq .res (.lit (.bool true))).value [] {args:=args,res:=some (.bool true),after:=args}=some (.bool (true==true))from w_eq_bool (w_res rfl) w_lit) rfl
theorem attach_call {l:OpenLaw} {n:Nat} {q:K3} {UC:List JN} {XP:(JN->Option JM)->Ka->Prop} {YP:Kd->Ka->Prop} {d:DefRec}
  (hn:l.most=some n) (XE:d.params.defaults=[])
  (call:∀(w:Kd) (s₀ s₁:JP) (mg mb:JN->Option JM) (fa:JO) (o:Kq) (pm cd Sk:JM) (a:JO) (vs:List JM) (ns:List Int),
   Ground q UC [] XP w s₀ mg mb s₁.heap->YP w s₁.heap->
   s₁.heap.get? fa=some o->o.data= .func (docDef d.name d.params d.body d.scope pm cd Sk)->s₁.heap.CodeRec cd d.name->mg d.name=some (.ref fa)->
   s₁.heap.get? a=some {cls:= .type "list",data:= .seq vs.toArray}->O4 vs ns->ns.length<=n->s₁.gens= #[]->
   MW (K2 l.prog w) O6 (.call (.ref fa) ⟨[.ref a],[]⟩) (λr s'=>r= .ok (.ret (.bool true))/\OldK s₁.heap s'.heap/\s'.os=s₁.os/\MV s'.gens) s₁):
  WalkO q UC XP YP l.row.toRowW d [] (λf vs=>QB f vs):=by
 intro w s₀ s₁ mg mb G Y fa o pm cd Sk dV kV ho hd Sl hD YO hg args WH as We a0t a0u YM a2h
 obtain rfl:dV= .none:=Dflts.none hD XE
 obtain rfl:kV= .none:=Dflts.noKw hD
 obtain⟨a,vs,ns,rfl,rfl,WI,VZ,Rt⟩:=zx hn We YM
 refine enter_call (MQ (call w s₀ s₁ mg mb fa o pm cd Sk a vs ns G Y ho (fd_plain hd) Sl YO WI VZ Rt hg) λr s' hq=> ?_)
 obtain⟨rfl,h2,h3,h4⟩:=hq
 exact⟨.inl ⟨.bool true, .bool true,[],rfl,λ_=>rfl, .bool true,zy l _,λ_=>⟨NY,λ_ hm=>(nomatch hm)⟩⟩,h2,h3,h4⟩
section
variable {prog:K3} {w:Kd} {A:Kl} {E:JM->JP->Prop} {s:JP} {K:Frag}
end
end Att
namespace L2
open PySem PySem.Spec PyProof.Rows
theorem jB:∀{vs:List JM} {ns:List Int},O4 vs ns->bi (ns.map V.int) vs
 |_,_, .nil=> .nil
 |_,_, .cons n t h=> .cons ⟨t,rfl⟩ (jB h)
def Fe (H:Hp):Prop:=∀b,H b=none\/∃o xs,H b=some (.frz o (.lst xs))
theorem AZ {P:K3} {w:Kd} {K:JL} {mg mb:JN->Option JM} {CX:wM} {k:Nat} {fa a:JO} {fd:Lc} {x:JN} {sp:Sp} {s₁:JP} {vs:List JM} {ns:List Int}
  (KX:K.In s₁.heap) (Vk:s₁.heap.Ns JX mg) (hb:s₁.heap.Ns Qw mb) (a0v:∀x:JN,x≠"__name__"->mb x=KA x) (YQ:s₁.heap.NoLimit) (hg:s₁.gens= #[])
  (ha:s₁.heap.get? a=some {cls:= .type "list",data:= .seq vs.toArray}) (hi:O4 vs ns) (hl:ns.length<=sizeLine) (hr:d7 k O6)
  (F:∀base:Ka,K.In base->base.Ns JX mg->fH P w K mg base CX k fa fd [x] sp) (XF:∀(s:JP) (u:JM),P0 s fd ⟨[u],[]⟩ [(x,u)])
  (W8:∀H:Hp,Fe H->dS K H a (ns.map V.int)->sp [.ref a] H (λv _=>v= .bl true) λ_ _ _=>False)
  (YR:∀H e s',CX [] H s₁ (λ_ _ _=>False) e s'->False):
  MW (K2 P w) O6 (.call (.ref fa) ⟨[.ref a],[]⟩) (λr s'=>r= .ok (.ret (.bool true))/\OldK s₁.heap s'.heap/\s'.os=s₁.os/\MV s'.gens) s₁:=by
 have rv:=jB hi
 have YS:=hi.length
 have XG:∀H:Hp,Fe H->dS K H a (ns.map V.int)->la P w H s₁.heap->(∀b,H b≠none->b=a)->(H a≠none->K.lookup a=none)->
   MW (K2 P w) O6 (.call (.ref fa) ⟨[.ref a],[]⟩) (λr s'=>r= .ok (.ret (.bool true))/\OldK s₁.heap s'.heap/\s'.os=s₁.os/\MV s'.gens) s₁:=by
  intro H hO hS hok hA hK
  have Vz:∀{b:JO} {o:Kq},s₁.heap.get? b=some o->H b=none->(tP s₁.heap H).get? b=some o:=λe n=>Av e n
  have Xz:∀{b:JO} {o:Kq} {es:Array DictEntry} {ep:Nat},s₁.heap.get? b=some o->o.data= .dict es ep->H b=none:=λ{b o es ep} e d=>by
   cases q:H b with
   |none=>rfl
   |some u=>
    have e':b=a:=hA b (by rw[q];simp)
    subst e'
    rw[ha]at e;cases e
    have d':QZ vs.toArray _=Data.dict es ep:=d
    cases d'
  have Yh:∀{b:JO} {m:JN->Option JM},s₁.heap.Ns b m->(tP s₁.heap H).Ns b m:=λ{b m} ⟨o,es,ep,e,d,r⟩=>⟨o,es,ep,Vz e (Xz e d),d,r⟩
  have ZW:K.In (tP s₁.heap H):=λb o e=>Vz (KX b o e) (by
   cases q:H b with
   |none=>rfl
   |some u=>
    have e':b=a:=hA b (by rw[q];simp)
    subst e'
    rw[hK (by rw[q];simp)]at e;cases e)
  have hM:Mod K mg (tP s₁.heap H):=⟨ZW,Yh Vk,⟨mb,Yh hb,a0v⟩,let ⟨mc,h1,h2⟩:=YQ;⟨mc,Yh h1,h2⟩⟩
  have e0:wN P w K mg (tP s₁.heap H) O6 [] s₁ H:=⟨rfl,hM,λb o e=>CG e,Oa (zf _ _),trivial,λb hb=>absurd (show b∈([]:List JO)from hb) (by simp),hok, .of_eq hg⟩
  refine MQ ((F _ ZW (Yh Vk)).run O6 [] s₁ H ⟨[.ref a],[]⟩ [.ref a] [.ref a] _ _ hr e0 (XF s₁ (.ref a)) (.cons rfl .nil) (W8 H hO hS)) λr s' h=> ?_
  cases r with
  |error e=>exact(YR H e s' h).elim
  |ok fl=>
   cases fl with
   |next=>exact Ll h
   |brk=>exact Ll h
   |cont=>exact Ll h
   |ret u=>
    obtain⟨v,H',os,bare,un,YT,r',q⟩:=h
    have q':v= .bl true:=q
    subst q'
    obtain rfl:u=P9 true:=r'
    refine⟨rfl,OldK.of_keep λb o e=> ?_,os,bare⟩
    cases q:H b with
    |none=>exact un.keep b o e q (by intro z;exact absurd (show b∈([]:List JO)from z) (by simp)) (by simp)
    |some u=>
     rcases hO b with z|⟨ob,xs,z⟩
     ·rw[q]at z;cases z
     ·have z2:=un.frzs b ob _ z
      obtain⟨e1,_⟩:=hok b _ z
      obtain⟨e2,_⟩:=YT b _ z2
      rw[e]at e1;cases e1
      exact e2
 cases hk:K.lookup a with
 |some o=>
  have e:=KX a o hk
  rw[ha]at e
  cases e
  refine XG (λ_=>none) (λ_=> .inl rfl) (.inr ⟨_,vs.toArray,_,hk,rfl,rfl,rfl,by rw[JU,YS];exact hl,by simpa using rv⟩) (λb u z=>by have z':(none:Option HO)=some u:=z;cases z') (λb z=>absurd rfl z) λz=>absurd rfl z
 |none=>
  refine XG (λb=>if b=a then some (.frz {cls:= .type "list",data:= .seq vs.toArray} (.lst (ns.map V.int)))else none) (λb=> ?_) (.inl (.inr ⟨{cls:= .type "list",data:= .seq vs.toArray},if_pos rfl⟩)) (λb u z=> ?_) (λb z=> ?_) λ_=>hk
  ·by_cases hb:b=a
   ·exact .inr ⟨_,_,if_pos hb⟩
   ·exact .inl (if_neg hb)
  ·by_cases hb:b=a
   ·have z':=(if_pos hb).symm.trans z
    cases z'
    subst hb
    exact⟨ha,by rw[JR];exact hl,vs,_,rv,ha⟩
   ·have z':=(if_neg hb).symm.trans z
    cases z'
  ·by_cases hb:b=a
   ·exact hb
   ·exact absurd (if_neg hb) z
end L2
namespace L2
open PySem PySem.Spec PyProof.Rows
theorem D9 {l:OL} {n k:Nat} {q:K3} {UC:List JN} {XP:(JN->Option JM)->Ka->Prop} {YP:Kd->Ka->Prop} {d:DefRec} {K:Params->JL} {CX:Kd->wM} {sp:Kd->Sp} {x:JN}
  (hn:l.most=some n) (WD:n<=sizeLine) (XE:d.params.defaults=[]) (hr:d7 k O6)
  (hY:∀(w:Kd) (h:Ka),YP w h->(K w.params).In h)
  (F:∀(w:Kd) (mg:JN->Option JM) (fa:JO) (h:Ka),(K w.params).In h->h.Ns JX mg->mg d.name=some (.ref fa)->
   ∃fd:Lc,(∀(s:JP) (u:JM),P0 s fd ⟨[u],[]⟩ [(x,u)])/\
    ∀base:Ka,(K w.params).In base->base.Ns JX mg->fH l.prog w (K w.params) mg base (CX w) k fa fd [x] (sp w))
  (W8:∀(w:Kd) (H:Hp) (a:JO) (ns:List Int),ns.length<=n->Fe H->dS (K w.params) H a (ns.map V.int)->sp w [.ref a] H (λv _=>v= .bl true) λ_ _ _=>False)
  (YR:∀(w:Kd) (H:Hp) (s:JP) (e:JM) (s':JP),CX w [] H s (λ_ _ _=>False) e s'->False):
  QT q UC XP YP l.row.toRowW d [] (λf vs=>QB f vs):=by
 refine Att.attach_call hn XE λw s₀ s₁ mg mb fa o pm cd Sk a vs ns G Y ho hd Sl YO WI VZ Rt hg=> ?_
 have KX:=hY w _ Y
 obtain⟨fd,hb,hF⟩:=F w mg fa _ KX G.T.g YO
 exact AZ KX G.T.g G.T.b G.T.builtins G.T.nolimit hg WI VZ (Ky Rt WD) hr hF hb (λH hO hS=>W8 w H a ns Rt hO hS) λH e s'=>YR w H s₁ e s'
end L2
namespace L2
open PySem PySem.Spec PyProof.Rows
def cP (s:Ke) (j:Nat):Ke:=match s with
 | .ClassDef _ _ _ body _ _ _ _ _ _ _=>body.getD j (.Pass ⟨0,0,0,0⟩)
 |_=> .Pass ⟨0,0,0,0⟩
def dq (s:Ke):Arguments:=match s with
 | .FunctionDef _ a _ _ _ _ _ _ _ _=>a
 |_=>{posonlyargs:=[],args:=[],vararg:=none,kwonlyargs:=[],kw_defaults:=[],kwarg:=none,defaults:=[]}
def bO (s:Ke):List Ke:=match s with
 | .FunctionDef _ _ b _ _ _ _ _ _ _=>b
 |_=>[]
def ak (s:Ke):LL:=match s with
 | .FunctionDef _ _ _ _ _ _ sc _ _ _=>sc
 |_=>{kind:= .function,names:=[],isGenerator:=false,isCoroutine:=false}
abbrev Ja:wM:=λ_ _ _ _ _ _=>False
structure yg (K:JL) (x qual:JN) (st:Ke) (f:JO) (fd:Lc):Prop where
 ex:∃(oc:JM) (od:Option JO) (kV Sk pm:JM) (an:Option JO) (Rj ct:JM) (Ur:Array (Option JM)),
  fd=KP x qual (dq st) (bO st) (ak st) .none kV Sk pm an Rj ct/\K.lookup f=some ⟨oc,od, .func fd,Ur⟩/\L_ K Rj qual=true
 kp:KJ K (.ref f)=true
section
variable {P:K3} {w:Kd} {K:JL} {mg:JN->Option JM} {base:Ka}
theorem yg.ok {x qual:JN} {st:Ke} {f:JO} {fd:Lc} {N ps:List JN} {k:Nat} {sp:Sp} (F:yg K x qual st f fd) (S:aE N ps (ak st)) (len:∀vs H Q E,sp vs H Q E->vs.length=ps.length)
  (RE:∀(Rj:JM) (A:Kl) (outer:List Ly) (s:JP) (H:Hp) (vs:List V) (Q:VK) (E:XK),d7 k (A.deeper (LG qual (ak st) s.heap.objs.size f Rj))->sp vs H Q E->
   ∃t,sB (j3 Ja P w K mg base N qual (ak st) f Rj A outer s H E).nox (bO st) t/\t {nx:=λ_ H'=>Q .non H',rt:=Q} (dB N vs) H):fH P w K mg base Ja (k+1) f fd ps sp:=by
 obtain⟨oc,od,kV,Sk,pm,an,Rj,ct,Ur,rfl,lk,Sl⟩:=F.ex
 refine E7 lk Sl S len λA outer s H vs Q E hr W8=> ?_
 obtain⟨t,h,q⟩:=RE Rj A outer s H vs Q E hr W8
 exact⟨t,h.nox,q⟩
theorem yg.binds {x qual:JN} {st:Ke} {f:JO} {fd:Lc} {ps:List JN} (F:yg K x qual st f fd)
  (h:∀(kV Sk pm:JM) (an:Option JO) (Rj ct:JM) (us:List JM),us.length=ps.length->LN (KP x qual (dq st) (bO st) (ak st) .none kV Sk pm an Rj ct) ⟨us,[]⟩=pure (ps.zip us)):gk K fd ps []:=by
 obtain⟨oc,od,kV,Sk,pm,an,Rj,ct,Ur,rfl,lk,Sl⟩:=F.ex
 exact .all (h kV Sk pm an Rj ct)
theorem n0 {x qual:JN} {st:Ke} {f:JO} {oc:JM} {od an:Option JO} {Ur:Array (Option JM)} {kV Sk pm Rj ct:JM} (l:K.lookup f=some ⟨oc,od, .func (KP x qual (dq st) (bO st) (ak st) .none kV Sk pm an Rj ct),Ur⟩)
  (c:L_ K Rj qual=true) (k:KJ K (.ref f)=true):yg K x qual st f (KP x qual (dq st) (bO st) (ak st) .none kV Sk pm an Rj ct):=⟨⟨oc,od,kV,Sk,pm,an,Rj,ct,Ur,rfl,l,c⟩,k⟩
end
theorem bQ {A:Kl} {k:Nat} (hr:d7 k A):A.units+1<Ma:=NF (Nat.add_le_add_left (by decide:1<=64) _) hr.units
section
variable {X:Cx}
theorem pv (i:Nat) {x:JN} {pos:KC} (hN:X.N[i]? =some x:=by rfl) (hv:oO X.env.scope x:=by first|exact KG rfl|exact Kp (KG rfl)|exact Kp (Kp rfl)) (hd:(x==("__debug__":JN))=false:=by decide)
  (Sl:(x==("__classdict__":JN))=false:=by decide):PE X (.Name x pos) (Aw i):=EA hN hv hd Sl
end
def b8 (H H':Hp):Prop:=∀b o,H b=some o->H' b=some o
theorem b8.refl (H:Hp):b8 H H:=λ_ _ h=>h
theorem b8.trans {H H1 H2:Hp} (a:b8 H H1) (b:b8 H1 H2):b8 H H2:=λc o h=>b c o (a c o h)
theorem b8.free {H H':Hp} (e:b8 H H') {l:JO} (h:H' l=R5):H l=R5:=by
 cases q:H l with
 |none=>rfl
 |some o=>
  rw[e l o q]at h
  cases h
theorem b8.seq {K:JL} {H H':Hp} {a:JO} {xs:List V} (e:b8 H H') (h:dS K H a xs):dS K H' a xs:=by
 rcases h with (h|⟨o,h⟩)|h
 ·exact .inl (.inl (e _ _ h))
 ·exact .inl (.inr ⟨o,e _ _ h⟩)
 ·exact .inr h
section
variable {κ:Type} [DecidableEq κ]
end
end L2
namespace L2
open PySem PySem.Spec PyProof.Rows
def oV (env:Ly):List (JN×NameKind)->List (JN×JO)->List (JN×JO)
 |[],cs=>cs
 |(n,k)::r,cs=>oV env r (if k= .free then (match env.cells.lookup n with|some c=>(n,c)::cs|none=>cs)else cs)
theorem r8 (env:Ly):∀(names:List (JN×NameKind)) (cs:List (JN×JO)),(∀y∈names,y.2= .free->∃c,env.cells.lookup y.1=some c)->
  (forIn names cs λ(x:JN×NameKind) (r:List (JN×JO))=>(if (x.2==NameKind.free)=true then do
    let a<-cellOf env x.1
    pure (Nv ((x.1,a)::r))else pure (Nv r):N5 (ForInStep (List (JN×JO)))))=pure (oV env names cs)
 |[],cs,_=>rfl
 |(n,k)::r,cs,h=>by
  rw[List.forIn_cons]
  by_cases hk:k= .free
  ·subst hk
   obtain⟨c,hc⟩:=h (n, .free) K6 rfl
   have e:cellOf env n=pure c:=by unfold cellOf;rw[hc]
   simp only[beq_self_eq_true,if_true,e]
   unfold oV
   simp only[if_true,hc]
   exact r8 env r ((n,c)::cs) λy hy=>h y (K8 _ hy)
  ·have hb:(k==NameKind.free)=false:=by simpa using hk
   simp only[hb,KY,if_false]
   unfold oV
   rw[if_neg hk]
   exact r8 env r cs λy hy=>h y (K8 _ hy)
theorem yh {scope:LL} {env:Ly} (h:∀y∈scope.names,y.2= .free->∃c,env.cells.lookup y.1=some c):closureFor scope env=pure (oV env scope.names []):=by
 have:=r8 env scope.names [] h
 unfold closureFor
 simp only[bind_pure]
 exact this
theorem g_ {env:Ly} {x:JN} {c:JO}:∀{names:List (JN×NameKind)} {cs:List (JN×JO)},(∀c,cs.lookup x=some c->env.cells.lookup x=some c)->(oV env names cs).lookup x=some c->env.cells.lookup x=some c
 |[],cs,h,e=>h c e
 |(n,k)::r,cs,h,e=>by
  unfold oV at e
  refine g_ (names:=r) (λd hd=> ?_) e
  split at hd
  ·split at hd
   ·rename_i c' hc
    rw[L8]at hd
    cases hx:x==n with
    |true=>rw[hx]at hd;have:=eq_of_beq hx;subst this;rw[hc];exact hd
    |false=>rw[hx]at hd;exact h d hd
   ·exact h d hd
  ·exact h d hd
theorem sO {env:Ly} {x:JN}:∀{names:List (JN×NameKind)} {cs:List (JN×JO)},(∃c,cs.lookup x=some c)->∃c,(oV env names cs).lookup x=some c
 |[],cs,h=>h
 |(n,k)::r,cs,h=>by
  unfold oV
  refine sO (names:=r) ?_
  split
  ·split
   ·rename_i c' hc
    rw[L8]
    cases x==n with
    |true=>exact⟨_,rfl⟩
    |false=>exact h
   ·exact h
  ·exact h
theorem r9 {env:Ly} {x:JN}:∀{names:List (JN×NameKind)} {cs:List (JN×JO)},(x,NameKind.free)∈names->(∃c,env.cells.lookup x=some c)->∃c,(oV env names cs).lookup x=some c
 |(n,k)::r,cs,h,hc=>by
  unfold oV
  rcases K1.mp h with h|h
  ·cases h
   obtain⟨c,hc⟩:=hc
   refine sO (names:=r) ?_
   rw[if_pos rfl,hc]
   exact⟨c,by simp⟩
  ·exact r9 h hc
def rb (N:List JN) (names:List (JN×NameKind)) (σ:St):St:=
 names.map λx=>if x.2= .free then ((N.findIdx? (·==x.1)).bind λi=>(σ[i]?).join)else none
def dH (X:Cx) (scope:LL) (s:JP) (H:Hp) (ex:List JO):Cx:=
 {X with N:=scope.names.map (·.1),s₀:=s,H₀:=H,env:=compEnvC scope (oV X.env scope.names []) s.heap.objs.size X.env,outer:=X.stack,ex:=ex,fn:=λ_=>false,pn:=[],xe:=λ_ _=>False}
structure aQ (X:Cx) (scope:LL):Prop where
 kind:scope.kind= .function
 nocell:∀y∈scope.names,y.2≠ .cell
 loc:∀y∈scope.names,y.2= .local->scope.names.lookup y.1=some .local
 free:∀y∈scope.names,y.2= .free->X.env.kindOf y.1=some .cell\/X.env.kindOf y.1=some .free
 nd:(scope.names.map (·.1)).Nodup
theorem gm {env:Ly} {x:JN}:∀{names:List (JN×NameKind)} {k:NameKind},
  (names.map λ(n,k)=>if (k==NameKind.free&&env.scope.kind== .function&&env.kindOf n==some .cell)then (n,NameKind.cell)else (n,k)).lookup x=some k->
  names.lookup x=some k\/(names.lookup x=some .free/\k= .cell)
 |[],k,h=>by simp at h
 |(n,j)::r,k,h=>by
  have ih:= @gm env x r k
  rw[J_,L8]at h
  rw[L8]
  by_cases hc:(j==NameKind.free&&env.scope.kind== .function&&env.kindOf n==some .cell)=true
  ·rw[if_pos hc]at h
   have hj:j= .free:=by
    simp only[L7]at hc
    exact eq_of_beq hc.1.1
   cases hx:x==n with
   |true=>rw[hx]at h;simp at h;exact .inr ⟨by rw[hj],h.symm⟩
   |false=>rw[hx]at h;exact ih h
  ·rw[if_neg hc]at h
   cases hx:x==n with
   |true=>rw[hx]at h;exact .inl h
   |false=>rw[hx]at h;exact ih h
theorem hE {α β:Type} [BEq α] [LawfulBEq α] {x:α} {b:β}:∀{l:List (α×β)},l.lookup x=some b->(x,b)∈l
 |[],h=>by simp at h
 |(a,c)::r,h=>by
  rw[L8]at h
  cases hx:x==a with
  |true=>rw[hx]at h;have:=eq_of_beq hx;subst this;cases h;exact K6
  |false=>rw[hx]at h;exact K8 _ (hE h)
section
variable {X:Cx} {R6:List (JO×Kq)} {σ:St} {H:Hp} {s:JP} {scope:LL}
theorem aQ.cellOf (S:aQ X scope) (ok:X.Ok):∀y∈scope.names,y.2= .free->∃c,X.env.cells.lookup y.1=some c:=λy hy hf=>ok.has y.1 (S.free y hy hf)
theorem yi (S:aQ X scope) (I:aM X R6 σ H s) {fp:List JO} (UZ:∀b∈fp,nP X R6 H b/\b<s.heap.objs.size):(dH X scope s H fp).Ok where
 mod:=I.mod
 kind:=S.kind
 glob:=I.ok.glob
 blt:=I.ok.blt
 above:=Kc _
 inj:=λx y c hx hy=>I.ok.inj x y c (g_ (by intro c h;simp at h) hx) (g_ (by intro c h;simp at h) hy)
 has:=λx hx=>by
  have hm:(x,NameKind.free)∈scope.names:=by
   rcases hx with hx|hx
   ·rcases gm hx with h|⟨h,_⟩
    ·exact absurd rfl (S.nocell _ (hE h))
    ·exact hE h
   ·rcases gm hx with h|⟨h,_⟩<;>exact hE h
  exact r9 hm (S.cellOf I.ok _ hm rfl)
 cab:=λx c h=>by cases h
 hd:=I.ok.hd
 frames:=I.ok.frames
 stk:= .inl rfl
 exf:=λb hb=>⟨Ku (UZ b hb).2,λx c hx=>(UZ b hb).1.2.2.2.2.1 x c (g_ (by intro c h;simp at h) hx)⟩
 bs:=I.bs
 bsz:=Ky I.ok.bsz I.sz
 noex:=λb o e hb=>by
  rcases(UZ b hb).1.2.2.2.1 with h|h
  ·exact I.ok.noex b o e h
  ·have h1:b<X.base.objs.size:=K5 e
   exact Lb _ (Kt h1 (Ky I.ok.bsz h))
 exfs:=λb hb hc=>by
  have:=I.stkSub b hc
  rcases K1.mp this with h|h
  ·exact(UZ b hb).1.2.1 h
  ·exact(UZ b hb).1.2.2.1 h
 funs:=I.stack
 frf:=I.stkFree
theorem Ff (S:aQ X scope) (I:aM X R6 σ H s) {fp:List JO} (UZ:∀b∈fp,nP X R6 H b/\b<s.heap.objs.size) {h':Ka} {t':Nat}
  (hn:h'.Ns s.heap.objs.size λ_=>none) (k:∀b o,s.heap.get? b=some o->h'.get? b=some o):
  aM (dH X scope s H fp) [] (rb X.N scope.names σ) H {s with heap:=h',toks:=t'}where
 ok:=yi S I UZ
 os:=rfl
 bare:=I.bare
 base:=Un.kept k
 loc:=by
  refine⟨_,hn,λi x v hi hv _=> ?_⟩
  have VA:(scope.names.map (·.1))[i]? =some x:=hi
  rw[Km]at VA
  unfold rb at hv
  rw[Km]at hv
  cases e:scope.names[i]? with
  |none=>rw[e]at VA;cases VA
  |some y=>
   rw[e]at VA hv
   have hx:y.1=x:=by simpa using VA
   have hy:y∈scope.names:=Ls e
   simp only[Me,NZ]at hv
   by_cases hf:y.2= .free
   ·rw[if_pos hf]at hv
    cases ei:X.N.findIdx? (·==y.1)with
    |none=>rw[ei]at hv;cases hv
    |some j=>
     rw[ei]at hv
     have hj:σ[j]? =some (some v):=by
      cases e2:σ[j]? with
      |none=>simp[e2]at hv
      |some o=>simp only[Oi,e2,Option.join_some]at hv;rw[hv]
     obtain⟨hl,hp,_⟩:=List.findIdx?_eq_some_iff_getElem.mp ei
     have hN:X.N[j]? =some x:=by
      rw[Kx hl]
      have:=eq_of_beq hp
      rw[this,hx]
     have hk:=S.free y hy hf
     rw[hx]at hk
     obtain⟨m,_,hm⟩:=I.loc
     obtain⟨u,ru,lu⟩:=hm j x v hN hj (by
      rcases hk with q|q
      ·exact .inr (.inl q)
      ·exact .inr (.inr q))
     refine⟨u,ru,?_⟩
     rcases lu with ⟨q,_⟩|⟨_,c,hc,Vv⟩
     ·rcases hk with z|z<;>rw[z]at q<;>cases q
     ·have UJ:(x,NameKind.free)∈scope.names:=by
       have:y=(x,NameKind.free):=by cases y;simp at hx hf;rw[hx,hf]
       rw[<-this];exact hy
      obtain⟨d,hd⟩:=r9 (cs:=[]) UJ (S.cellOf I.ok _ UJ rfl)
      have a0w:d=c:=by
       have:=g_ (cs:=[]) (by intro c h;simp at h) hd
       rw[this]at hc
       exact KQ hc
      refine .inr ⟨?_,d,hd,?_⟩
      ·show (Qa scope X.env).names.lookup x=some .cell\/(Qa scope X.env).names.lookup x=some .free
       have a0x:∃k,(Qa scope X.env).names.lookup x=some k:=by
        unfold Qa
        cases el:(scope.names.map λ(n,k)=>if (k==NameKind.free&&X.env.scope.kind== .function&&X.env.kindOf n==some .cell)then (n,NameKind.cell)else (n,k)).lookup x with
        |some k=>exact⟨k,rfl⟩
        |none=>
         exfalso
         rw[List.lookup_eq_none_iff]at el
         have:=el (if (NameKind.free==NameKind.free&&X.env.scope.kind== .function&&X.env.kindOf x==some .cell)then (x,NameKind.cell)else (x,NameKind.free)) (Lp.mpr ⟨_,UJ,rfl⟩)
         split at this<;>simp at this
       obtain⟨k,WJ⟩:=a0x
       rcases gm WJ with h|⟨_,h⟩
       ·have YU:=hE h
        have:k= .free:=by
         have nd:=S.nd
         obtain⟨a,ha,e1⟩:=Pg.mp UJ
         obtain⟨b,hb,e2⟩:=Pg.mp YU
         have:a=b:=by
          refine(O8 (h₀:=by simpa using ha) (h₁:=by simpa using hb) nd).mp ?_
          rw[Qo,Qo,e1,e2]
         subst this
         rw[e1]at e2
         cases e2;rfl
        subst this
        exact .inr WJ
       ·subst h;exact .inl WJ
      ·rw[a0w];exact Vv.keeps k
   ·rw[if_neg hf]at hv;cases hv
 cell:=λx c hx=>by
  obtain⟨v,hv⟩:=I.cell x c (g_ (cs:=[]) (by intro c h;simp at h) hx)
  exact⟨v,hv.keeps k⟩
 free:=I.hok.fresh (Kc _)
 freeC:=λx c hx=>I.freeC x c (g_ (cs:=[]) (by intro c h;simp at h) hx)
 pin:=λp hp=>by cases hp
 hok:=I.hok.kept k
 len:=by simp[dH,rb]
theorem yj (I:aM X R6 σ H s) {fp:List JO} (UZ:∀b∈fp,nP X R6 H b/\b<s.heap.objs.size) {τ:St} {H':Hp} {s':JP} (I':aM (dH X scope s H fp) [] τ H' s') {h':Ka} {t':Nat}
  (hs:∀b o,b≠s.heap.objs.size->s'.heap.get? b=some o->h'.get? b=some o):aM X R6 σ H' {s' with heap:=h',toks:=t'}:=by
 have u:Un (qE X.stack) fp H H' s.heap s'.heap:=I'.base
 have hC:H' s.heap.objs.size=none:=I'.free
 have nC:∀b o,s.heap.get? b=some o->b≠s.heap.objs.size:=λb o e=>Ku (K5 e)
 refine I.call' (ch:=fp) I'.os ⟨?_,?_,u.free,?_,u.tups,u.frzs,u.tbls⟩ (λb o e=> ?_) I'.bare λb hb=> ?_
 ·exact λb o e n a c=>hs b o (nC b o e) (u.keep b o e n a c)
 ·intro b o e n a c
  obtain⟨sl,q⟩:=u.slot b o e n a c
  exact⟨sl,hs b _ (nC b o e) q⟩
 ·intro b o e a
  obtain⟨o',q⟩:=u.there b o e a
  exact⟨o',hs b _ (nC b o e) q⟩
 ·refine(I'.hok b o e).stay (λc v hc q=>hs c v ?_ q) (λ_ q=>q) λ_ _ q=>q
  intro z
  subst z
  rcases hc with z|z
  ·rw[z]at hC;rw[hC]at e;cases e
  ·rw[hC]at z;cases z
 ·obtain⟨h1,h2,h3,h4,h5,h6⟩:=(UZ b hb).1
  exact⟨h4,h2,h5,h6⟩
end
def Ec (X:Cx) (Tz:List JW) (t:TT):Prop:=
 ∀(R6:List (JO×Kq)) (s:JP) (σ:St) (H:Hp) (Q:Bool->Hp->Prop),aM X R6 σ H s->t σ H Q->
  JZ (K2 X.prog X.w) X.A (forIn Tz true λc r=>if r=true then do let ok<-OY c X.env (Kb c X.env);pure (Nv ok)else pure (Nv r)) (TP X R6 σ Q) X.xe s
theorem Dc {X:Cx}:Ec X [] (λ_ H Q=>Q true H):=λ_ _ _ H _ I h=>wpAny_tests_nil ⟨H,I,h⟩
theorem Dd {X:Cx} {c:JW} {t:TT} (h:PT X c t):Ec X [c] t:=λR6 s σ H Q I q=>wpAny_tests_one (h R6 s σ H Q I q)
def re (J:It) (g:TG) (tt:TT) (te:TE) (D:JO) (τ0:St) (Q:Hp->Prop) (H1:Hp):Prop:=
 ∃W:Nat->Nat->List V->St->Hp->Prop,(∃m,W 0 m [] τ0 H1)/\∀i m ys τ H,W i m ys τ H->H D=some (.lst ys)/\
  ((J.stop i H/\Q H)\/(J.go i H/\ys.length<sizeLine/\∀x H',J.yld i H x H'->g x τ H' λτ2 H2=>tt τ2 H2 λb H3=>
   if b=true then te τ2 H3 λy H4=>H4 D=some (.lst ys)/\∃m',m'<m/\W (i+1) m' (ys++[y]) τ2 (bY H4 D (.lst (ys++[y])))else ∃m',m'<m/\W (i+1) m' ys τ2 H3))
def He (N:List JN) (names:List (JN×NameKind)) (wi:TI) (g:TG) (tt:TT) (te:TE):TE:=λσ H Q=>
 wi σ H λJ H1=>∀D,H1 D=none->re J g tt te D (rb N names σ) (λH2=>Q (.ref D) H2) (bY H1 D (.lst []))
section
variable {X:Cx} {TY tg RB:JW} {Tz:List JW} {scope:LL} {pos:KC} {wi:TI} {g:TG} {tt:TT} {te:TE}
theorem De (S:aQ X scope) (hc:X.calm=true) (hg:∀s H ex,PG (dH X scope s H ex) tg g) (VG:∀s H ex,Ec (dH X scope s H ex) Tz tt) (VB:∀s H ex,PE (dH X scope s H ex) TY te)
  {R6:List (JO×Kq)} {σ:St} {H:Hp} {s:JP} (I:aM X R6 σ H s) {fp:List JO} {it D:JO} {tn:Nat->Ka->Prop} {J:It} (T:zi X.prog X.w X.K tg J fp it tn)
  (UZ:∀b∈fp,nP X R6 H b/\b<s.heap.objs.size) {Q:Hp->Prop} {R:PK->JP->Prop}
  (hR:∀τ H' s',aM (dH X scope s H fp) [] τ H' s'->Q H'->R (.ok .next) s')
  {s1:JP} {τ0:St} (I1:aM (dH X scope s H fp) [] τ0 H s1) (ht:tn 0 s1.heap) (q:re J g tt te D τ0 Q H):
  MW (K2 X.prog X.w) X.A (.compLoop (.ListComp TY [⟨tg,RB,Tz,0⟩] scope pos) 0 (.ref it) (.ref D) (dH X scope s H fp).env) R s1:=by
 obtain⟨W,⟨m0,w0⟩,WB⟩:=q
 have Vj:∀{H':Hp},(∀b∈fp,H' b=none)->∀b∈fp,nP (dH X scope s H fp) [] H' b:=λ{H'} hn b hb=>
  ⟨hn b hb,Ku (UZ b hb).2,(yi S I UZ).exfs b hb, .inl hb,λx c hx=>(UZ b hb).1.2.2.2.2.1 x c (g_ (cs:=[]) (by intro c h;simp at h) hx),λp hp=>by cases hp⟩
 refine codeAny_loop rfl (λn s'=>∃i ys τ H',aM (dH X scope s H fp) [] τ H' s'/\tn i s'.heap/\(∀b∈fp,H' b=none)/\W i n ys τ H') (λn s2 hI=> ?_) m0 ⟨0,[],τ0,H,I1,ht,λb hb=>(UZ b hb).1.1,w0⟩
 obtain⟨i,ys,τ,H2,I2,W7,ZX,w2⟩:=hI
 show JZ _ X.A ((compTurn (.ListComp TY [⟨tg,RB,Tz,0⟩] scope pos) 0 (.ref it) (.ref D) (dH X scope s H fp).env).onRaise (λx=>do Q0 x (dH X scope s H fp).env;theTreesLotGoes x)) _ _ s2
 refine wpAny_noted ?_
 rw[compTurn_list]
 have up:∀{α:Type} {t:N5 α} {Q:α->JP->Prop} {E:JM->JP->Prop} {s:JP},JZ (K2 X.prog X.w) X.A t Q (λ_ _=>False) s->JZ (K2 X.prog X.w) X.A t Q E s:=λh=>LC h (λ_ _ q=>q) λ_ _ f=>f.elim
 obtain⟨hD,a0y⟩:=WB i n ys τ H2 w2
 rcases a0y with ⟨stop,qn⟩|⟨go,hz,step⟩
 ·refine JQ (N9 (JQ (up (d0 (T.done (dH X scope s H fp) rfl rfl rfl hc i [] s2 τ H2 (λ_ _=>False) I2 (Vj ZX) W7 stop) λr s3 z_=> ?_))))
  obtain⟨hr,I3⟩:=z_
  subst hr
  exact JY (hR _ _ _ I3 qn)
 ·refine JQ (N9 (JQ (up (d0 (T.item (dH X scope s H fp) rfl rfl rfl hc i [] s2 τ H2 (λ_ _=>False) I2 (Vj ZX) W7 go) λr s3 z_=> ?_))))
  obtain⟨u,hr,h3⟩:=z_
  subst hr
  refine JQ (up (d0 h3 λ_ s4 z_=> ?_))
  obtain⟨x,H4,I4,r4,y4,YV,a0z⟩:=z_
  have a0A:=I4.pinned (Vj a0z) (T.obj _ _ YV)
  have back:∀{τ7:St} {H7:Hp} {s7:JP},aM (dH X scope s H fp) ([]++qU fp s4.heap) τ7 H7 s7->aM (dH X scope s H fp) [] τ7 H7 s7/\tn (i+1) s7.heap/\∀b∈fp,H7 b=none:=λI7=>
   ⟨I7.unpinned,T.keep _ _ _ YV λb hb o e=>(I7.pin (b,o) (Kr _ (Kr _ (jX hb e)))).1,λb hb=>by
    obtain⟨o,e,d⟩:=T.obj _ _ YV b hb
    exact(I7.pin (b,o) (Kr _ (Kr _ (jX hb e)))).2.1⟩
  refine JQ (up (d0 (hg s H fp _ s4 τ H4 x u _ a0A r4 (step x H4 y4)) λ_ s5 z_=> ?_))
  obtain⟨τ5,H5,I5,q5⟩:=z_
  refine JQ (up (d0 (VG s H fp _ s5 τ5 H5 _ I5 q5) λok s6 z_=> ?_))
  obtain⟨H6,I6,q6⟩:=z_
  cases ok with
  |false=>
   obtain⟨m',hm,w'⟩:=q6
   obtain⟨a,b,c⟩:=back I6
   exact JY ⟨rfl,m',hm,i+1,ys,τ5,H6,a,b,c,w'⟩
  |true=>
   rw[if_pos rfl]at q6
   refine JQ (JQ (up (d0 (VB s H fp _ s6 τ5 H6 _ I6 q6) λv s7 z_=> ?_)))
   obtain⟨y,H7,I7,r7,a0B,m',hm,w'⟩:=z_
   refine JQ (up (d0 (oU (X:=dH X scope s H fp) _ s7 τ5 H7 (.ref D) [y] (.ref D) [v] (λ_ H8=>H8=bY H7 D (.lst (ys++[y]))) I7 rfl (.cons r7 .nil) ⟨D,ys,y,rfl,rfl,a0B,hz,rfl⟩) λ_ s8 z_=> ?_))
   obtain⟨_,H8,I8,_,e8⟩:=z_
   subst e8
   obtain⟨a,b,c⟩:=back I8
   exact JY (JY ⟨rfl,m',hm,i+1,ys++[y],τ5,_,a,b,c,w'⟩)
theorem vg (S:aQ X scope) (hc:X.calm=true) (hg:∀s H ex,PG (dH X scope s H ex) tg g) (VG:∀s H ex,Ec (dH X scope s H ex) Tz tt) (VB:∀s H ex,PE (dH X scope s H ex) TY te)
  {R6:List (JO×Kq)} {σ:St} {H:Hp} {s:JP} {E:JM->JP->Prop} (I:aM X R6 σ H s) {fp:List JO} {it:JO} {tn:Nat->Ka->Prop} {J:It} (T:zi X.prog X.w X.K tg J fp it tn)
  (UZ:∀b∈fp,nP X R6 H b) (ht:tn 0 s.heap) {Q:JO->Hp->Prop} {RR:JM->JO->PK->JP->Prop}
  (hR:∀(D:JO) (H3:Hp) (s3:JP) (τ:St) (H':Hp) (s':JP),aM X R6 σ H3 s3->(∀b∈fp,nP X R6 H3 b/\b<s3.heap.objs.size)->aM (dH X scope s3 H3 fp) [] τ H' s'->Q D H'->RR (.ref D) s3.heap.objs.size (.ok .next) s')
  (q:∀D,H D=none->re J g tt te D (rb X.N scope.names σ) (Q D) (bY H D (.lst []))):
  JZ (K2 X.prog X.w) X.A (newList []) (λSn s₃=>JZ (K2 X.prog X.w) X.A (newFunctionEnv scope X.env.globals (oV X.env scope.names []) [] X.env.qual none .none (some X.env)) (λXH s₄=>
   MW (K2 X.prog X.w) X.A (.compStart (.ListComp TY [⟨tg,RB,Tz,0⟩] scope pos) 0 (.ref it) Sn {XH with scope:=Qa scope X.env}) (RR Sn XH.locals) s₄) E s₃) E s:=by
 have U1:∀b∈fp,b<s.heap.objs.size:=λb hb=>by
  obtain⟨o,e,_⟩:=T.obj _ _ ht b hb
  exact K5 e
 refine Na ?_
 have I3:=I.lnew (ys:=[]) (its:=[]) (t':=s.toks) .nil (Lx _)
 have hD:H s.heap.objs.size=none:=I.hok.fresh (Kc _)
 have YW:(s.heap.push {cls:= .type "list",data:= .seq ([]:List JM).toArray}).objs.size=s.heap.objs.size+1:=Mj ..
 have WK:∀b∈fp,nP X R6 (bY H s.heap.objs.size (.lst [])) b/\b<({s with heap:=s.heap.push {cls:= .type "list",data:= .seq ([]:List JM).toArray},toks:=s.toks}:JP).heap.objs.size:=λb hb=>by
  refine⟨⟨?_,(UZ b hb).2⟩,?_⟩
  ·rw[ay (Ku (U1 b hb))];exact(UZ b hb).1
  ·show b<(s.heap.push _).objs.size
   rw[YW]
   exact LV (U1 b hb)
 refine wpAny_newFunctionEnv S.nocell (by intro y hy;simp at hy) (λh₁ XI XJ=> ?_) S.kind
 dsimp only at XI XJ ⊢
 have k1:∀b o,(s.heap.push {cls:= .type "list",data:= .seq ([]:List JM).toArray}).get? b=some o->h₁.get? b=some o:=λb o e=>XJ.extBut b o (Ku (K5 e)) (JV _ e)
 have I4:=Ff (t':=s.toks) S I3 WK (h':=h₁) XI k1
 have ZY:tn 0 h₁:=T.keep _ _ _ ht λb hb o e=>k1 b o (JV _ e)
 have Vl:MW (K2 X.prog X.w) X.A (.compLoop (.ListComp TY [⟨tg,RB,Tz,0⟩] scope pos) 0 (.ref it) (.ref s.heap.objs.size) (dH X scope {s with heap:=s.heap.push {cls:= .type "list",data:= .seq ([]:List JM).toArray},toks:=s.toks} (bY H s.heap.objs.size (.lst [])) fp).env)
   (RR (.ref s.heap.objs.size) (s.heap.push {cls:= .type "list",data:= .seq ([]:List JM).toArray}).objs.size) {s with heap:=h₁,toks:=s.toks}:=
  De S hc hg VG VB I3 T WK (λτ H' s' I' q'=>hR _ _ _ τ H' s' I3 WK I' q') I4 ZY (q _ hD)
 exact codeAny_compStart_list Vl (T.self _ 0 _ _ _ ZY Vl)
theorem yk (S:aQ X scope) (hc:X.calm=true) (hi:PI X tg RB wi) (hg:∀s H ex,PG (dH X scope s H ex) tg g) (VG:∀s H ex,Ec (dH X scope s H ex) Tz tt) (VB:∀s H ex,PE (dH X scope s H ex) TY te)
  (hs:∀x,LJ RB X.env x=pure x:=by intro _;rfl):PE X (.ListComp TY [⟨tg,RB,Tz,0⟩] scope pos) (He X.N scope.names wi g tt te):=by
 intro R6 s σ H Q I h
 rw[eval_ListComp]
 refine Oj (use:=none) rfl hs (yh (S.cellOf I.ok)) S.kind S.loc (d0 (hi R6 s σ H _ I h) λv s1 h1=>d0 h1 λYe s2 h2=> ?_)
 obtain⟨it,fp,tn,J,H2,e,I2,T,W7,f2,q⟩:=h2
 subst e
 refine vg (Q:=λD H2=>Q (.ref D) H2) (RR:=λSn C=>compPost (K2 X.prog X.w) X.A X.xe none (EP X R6 σ Q) Sn C) S hc hg VG VB I2 T f2 W7 ?_ q
 intro D H3 s3 τ H' s' I3 f3 I' q'
 obtain⟨m,hm,_⟩:=I'.loc
 refine⟨m,hm,λh' Ru=> ?_⟩
 exact⟨.ref D,H',yj (t':=s'.toks) I3 f3 I' λb o hb e=>Ru.extBut b o hb e,rfl,q'⟩
def Hf (N:List JN) (names:List (JN×NameKind)) (wi:TI) (g:TG) (tt:TT) (te:TE) (gy:TG):TS:=λD σ H=>
 wi σ H λJ H1=>∀p,H1 p=none->re J g tt te p (rb N names σ) (λH2=>gy (.ref p) σ H2 D.nx) (bY H1 p (.lst []))
theorem Df {y:JN} {py U6:KC} {gy:TG} (S:aQ X scope) (hc:X.calm=true) (hi:PI X tg RB wi) (hg:∀s H ex,PG (dH X scope s H ex) tg g) (VG:∀s H ex,Ec (dH X scope s H ex) Tz tt)
  (VB:∀s H ex,PE (dH X scope s H ex) TY te) (hy:PG X (.Name y py) gy) (U_:KR (.ListComp TY [⟨tg,RB,Tz,0⟩] scope pos) (some (.Name y py)) U6.line X.env=pure true:=by rfl)
  (hs:∀x,LJ RB X.env x=pure x:=by intro _;rfl):PS X (.Assign [.Name y py] (.ListComp TY [⟨tg,RB,Tz,0⟩] scope pos) U6) (Hf X.N scope.names wi g tt te gy):=by
 intro R6 s σ H D I h
 rw[exec_Assign_Name_used _ _ _ _ U_]
 refine JQ (N9 (JQ ?_))
 show JZ _ X.A (do let _<-comprehension (.ListComp TY [⟨tg,RB,Tz,0⟩] scope pos) scope X.env _ (newList []) false (Kb RB X.env) (some (Mx (.Name y py) X.env))) _ _ s
 refine JQ (LC (Oj (use:=some (Mx (.Name y py) X.env)) (Q:=λ_ s'=>SP X R6 D .next s') rfl hs (yh (S.cellOf I.ok)) S.kind S.loc
  (d0 (hi R6 s σ H _ I h) λv s1 h1=>d0 h1 λYe s2 h2=> ?_)) (λ_ s' hq=>JY (JY hq)) λ_ _ e=>e)
 obtain⟨it,fp,tn,J,H2,e,I2,T,W7,f2,q⟩:=h2
 subst e
 refine vg (Q:=λp H2=>gy (.ref p) σ H2 D.nx) (RR:=λSn C=>compPost (K2 X.prog X.w) X.A X.xe (some (Mx (.Name y py) X.env)) (λ_ s'=>SP X R6 D .next s') Sn C) S hc hg VG VB I2 T f2 W7 ?_ q
 intro p H3 s3 τ H' s' I3 f3 I' q'
 obtain⟨m,hm,_⟩:=I'.loc
 obtain⟨oC,es,ep,a0C,ZZ,a0D,a0E⟩:=hm
 have J1:aM X R6 σ H' s':=yj (t':=s'.toks) (h':=s'.heap) I3 f3 I' λb o _ e=>e
 have a0F:H' s3.heap.objs.size=none:=I'.free
 have Z_:s3.heap.objs.size≠X.env.locals:=λz=>by have:=I3.lt;rw[<-z]at this;exact Lb _ this
 have J2:aM X (R6++[(s3.heap.objs.size,oC)]) σ H' s':=J1.pins_of λq hq=>by
  rcases KH.mp hq with hq|hq
  ·exact J1.pin q (Kr _ hq)
  ·have e:q=(s3.heap.objs.size,oC):=by simpa using hq
   subst e
   exact⟨a0C,a0F,Z_,I3.nofs (Kc _),λv z=>by rw[ZZ]at z;cases z⟩
 refine d0 (hy _ s' σ H' (.ref p) (.ref p) D.nx J2 rfl q') λ_ Xy z_=> ?_
 obtain⟨σ5,H5,I5,q5⟩:=z_
 have hp:=I5.pin (s3.heap.objs.size,oC) (Kr _ (Kr _ K6))
 refine⟨m,⟨oC,es,ep,hp.1,ZZ,a0D,a0E⟩,λh' Ru=> ?_⟩
 refine⟨σ5,H5,(I5.unpinned).turned (it:=s3.heap.objs.size) (t':=Xy.toks) (λb o hb e=>Ru.extBut b o hb e) hp.2.1 Z_ (.inr I3.sz) (λx c hx z=> ?_) (λq hq z=> ?_),q5⟩
 ·obtain⟨v,o,ho,_⟩:=I3.cell x c hx
  have:=K5 ho
  rw[z]at this
  exact Lb _ this
 ·have:=(I3.pin q hq).1
  have:=K5 this
  rw[z]at this
  exact Lb _ this
end
end L2
namespace L2
open PySem PySem.Spec PyProof.Rows
section
variable {X:Cx} {e a b st:JW} {te ta tb:TE} {WM:TO} {pos p2 p:KC}
def IN (K:JL) (te:TE) (WM:TO):TE:=λσ H Q=>te σ H λx H1=>WM σ H1 λo H2=>o=some (-1)/\∃a xs,x= .ref a/\dS K H2 a xs/\∀p,H2 p=none->Q (.ref p) (bY H2 p (.lst xs.reverse))
theorem Fg (he:PE X e te) (U5:PO X (some st) WM):PE X (.Subscript e (.Slice none none (some st) p2) pos) (IN X.K te WM):=by
 intro R6 s σ H Q I h
 refine Pe (d0 (he R6 s σ H _ I h) λv s1 z_=> ?_)
 obtain⟨x,H1,I1,r1,q1⟩:=z_
 refine wpAny_Slice ?_
 rw[NP]
 refine JY ?_
 try rw[NP]
 refine JY ?_
 refine d0 (U5 R6 s1 σ H1 _ I1 q1) λvk s2 z_=> ?_
 obtain⟨o,H2,I2,pk,ho,a,xs,ex,hx,q⟩:=z_
 subst ho
 subst ex
 cases r1
 have I3:aM X R6 σ H2 {s2 with heap:=s2.heap.push {cls:= .type "slice",data:= .fields #[.none, .none,vk]}}:=I2.kept (t':=s2.toks) λb ob q=>JV _ q
 obtain⟨its,r,ht,hz⟩:=I3.list hx
 have Rt:=r.length
 show JZ (K2 X.prog X.w) X.A (NQ e (.Slice none none (some st) p2) (.ref a) (.ref s2.heap.objs.size)) (EP X R6 σ Q) X.xe {s2 with heap:=s2.heap.push {cls:= .type "slice",data:= .fields #[.none, .none,vk]}}
 refine tail_any (ops:=[.ref a, .ref s2.heap.objs.size]) ht.isList.typeIs NW.lookup ?_ (by with_unfolding_all rfl)
 refine Of ht.isList (PZ ..) .none .none pk (by decide) ?_ (by rw[JU]<;>omega)
 rw[PySem.W.krv_pick]
 refine⟨.ref _,_,I3.laid (t':=s2.toks) (o:= .lst xs.reverse) (λb ob q=>JV _ q) (Kc _) ?_,rfl,q _ (I3.hok.fresh (Kc _))⟩
 exact⟨by rw[List.length_reverse];exact hz,its.reverse,0,r.reverse,Ko _ rfl⟩
def IP (K:JL):List V->Hp->VK->Prop:=λxs H Q=>∃x T t k,xs=[x, .ty T]/\nQ K H x t/\L0 K t (.type T)=some k/\Q (.bl k) H
theorem A_:dU X (.builtin "isinstance") (IP X.K):=by
 intro R6 s σ H xs us Q I rv h
 obtain⟨x,T,t,k,rfl,ty,e,q⟩:=h
 obtain⟨u,w',rfl,ru,Vx⟩:=xZ rv
 cases Vx
 exact zr I ru ty e λtk=>⟨.bl k,H,I.tok tk,rfl,q⟩
theorem rf:KA "isinstance"=some (.builtin "isinstance"):=by decide+kernel
def wZ (x:Int):List Int->List Int
 |[]=>[x]
 |y::r=>if x<=y then x::y::r else y::wZ x r
def cS:List Int->List Int
 |[]=>[]
 |x::r=>wZ x (cS r)
theorem oW (x:Int):∀l:List Int,(wZ x l).Perm (x::l)
 |[]=>Ml _
 |y::r=>by
  unfold wZ
  split
  ·exact Ml _
  ·exact(QN y (oW x r)).trans (List.Perm.swap x y r)
theorem iF:∀l:List Int,(cS l).Perm l
 |[]=>Ml _
 |x::r=>(oW x _).trans (QN x (iF r))
theorem pT (x:Int):∀{l:List Int},l.Pairwise (·<=·)->(wZ x l).Pairwise (·<=·)
 |[],_=>by simp[wZ]
 |y::r,h=>by
  obtain⟨h1,h2⟩:=L6.mp h
  unfold wZ
  split
  ·rename_i YX
   refine L6.mpr ⟨λz hz=> ?_,h⟩
   rcases K1.mp hz with rfl|hz
   ·exact YX
   ·exact LH YX (h1 z hz)
  ·rename_i YX
   refine L6.mpr ⟨λz hz=> ?_,pT x h2⟩
   rcases K1.mp ((oW x r).mem_iff.mp hz)with rfl|hz
   ·omega
   ·exact h1 z hz
theorem iw:∀l:List Int,(cS l).Pairwise (·<=·)
 |[]=>NY
 |x::r=>pT x (iw r)
theorem gW:∀{a b:List Int},a.Perm b->a.Pairwise (·<=·)->b.Pairwise (·<=·)->a=b
 |[],b,p,_,_=>(List.nil_perm.mp p).symm
 |x::a,[],p,_,_=>(List.perm_nil.mp p)
 |x::a,y::b,p,h1,h2=>by
  obtain⟨a1,a2⟩:=L6.mp h1
  obtain⟨b1,b2⟩:=L6.mp h2
  have e:x=y:=by
   have hx:x∈y::b:=p.mem_iff.mp K6
   have hy:y∈x::a:=p.mem_iff.mpr K6
   rcases K1.mp hx with h|h
   ·exact h
   ·rcases K1.mp hy with h'|h'
    ·exact h'.symm
    ·exact Int.le_antisymm (a1 y h') (b1 x h)
  subst e
  rw[gW ((List.perm_cons x).mp p) a2 b2]
theorem u0:dU X (.builtin "sorted") (λxs H Q=>∃p ns,xs=[.ref p]/\dS X.K H p (ns.map V.int)/\ns.length<64/\∀l,H l=none->Q (.ref l) (bY H l (.lst ((cS ns).map V.int)))):=by
 intro R6 s σ H xs us Q I rv h
 obtain⟨p,ns,rfl,hx,hl,q⟩:=h
 obtain⟨u,rfl,ru⟩:=jz rv
 cases ru
 obtain⟨its,r,ht,hz⟩:=I.list hx
 have hi:=jY r
 have Rt:=r.length
 rw[JR]at Rt
 refine sorted_ints ht.isList hi (by omega) λout YY a1 a2 a3=> ?_
 obtain⟨e,he⟩:=sortedAll_at s.heap its out
 have en:YY=cS ns:=gW (a2.trans (iF ns).symm) a3 (iw ns)
 subst en
 have k:∀b o,s.heap.get? b=some o->(sortedAll s.heap its out).get? b=some o:=λb o e=>sortedAll_old e
 refine⟨.ref (s.heap.objs.size+1),_,I.laid (t':=s.toks) (o:= .lst ((cS ns).map V.int)) k (Qi _) ?_,rfl,q _ (I.hok.fresh (Qi _))⟩
 refine⟨?_,out.toList,e,jB a1,by simpa[seqObj]using he⟩
 have h1:=a2.length_eq
 rw[JR]at hz ⊢
 omega
end
end L2
namespace L2
open PySem PySem.Spec PyProof.Rows
section
variable {P:K3} {w:Kd} {H:Hp} {h h':Ka} {a:JO} {o:HO}
theorem ce.got (x:ce P w H h a o):∃u,h.get? a=some u:=by
 cases o with
 |lst xs=>obtain⟨_,_,_,_,e⟩:=x;exact⟨_,e⟩
 |tup xs=>obtain⟨_,_,_,p⟩:=x;obtain⟨o,e,_⟩:=p;exact⟨_,e⟩
 |dK kvs=>obtain⟨_,_,_,_,o,_,_,e,_⟩:=x;exact⟨_,e⟩
 |dT kvs=>obtain⟨_,_,_,_,o,_,_,e,_⟩:=x;exact⟨_,e⟩
 |set S n=>obtain⟨o,_,_,_,e,_⟩:=x;exact⟨_,e⟩
 |ins C dx fs=>obtain⟨_,_,_,e,_⟩:=x;exact⟨_,e⟩
 |own y=>obtain⟨_,e⟩:=x;exact⟨_,e⟩
 |xd fs=>obtain⟨_,⟨_,_,_,e,_⟩,_⟩:=x;exact⟨_,e⟩
 |rng lo hi=>obtain⟨_,_,_,e⟩:=x;exact⟨_,e⟩
 |frz ob u=>obtain⟨e,_⟩:=x;exact⟨_,e⟩
 |tbl ps=>exact⟨_,x⟩
 |met f y=>exact⟨_,x⟩
 |ext φ=>obtain⟨_,e,_⟩:=x;exact e
theorem la.nowhere (x:la P w H h) (hn:h.get? a=none):H a=none:=by
 cases e:H a with
 |none=>rfl
 |some o=>obtain⟨u,q⟩:=(x a o e).got;rw[hn]at q;cases q
end
section
variable {X:Cx} {R6:List (JO×Kq)} {σ:List (Option V)} {H:Hp} {s:JP} {h':Ka}
theorem aM.laidAt {a:JO} {o:HO} {t':Nat} (I:aM X R6 σ H s) (k:∀b u,s.heap.get? b=some u->h'.get? b=some u) (hn:s.heap.get? a=none) (new:ce X.prog X.w (bY H a o) h' a o):
  aM X R6 σ (bY H a o) {s with heap:=h',toks:=t'}:=by
 have hH:=I.hok.nowhere hn
 have TC:∀b u,s.heap.get? b=some u->b≠a:=λb u q z=>by rw[z,hn]at q;cases q
 refine I.un ⟨λb u q _ _ _=>k b u q,λb u q _ _ _=>⟨u.slots,k b u q⟩,λb u q n _=>by rw[ay (TC b u q)];exact n,λb u q _=>⟨u,k b u q⟩,λb xs q=>by rw[ay (di q hH)];exact q,
  λb u xs q=>by rw[ay (di q hH)];exact q,λb ps q=>⟨#[],by rw[ay (di q hH),q];simp⟩⟩ λb u e=> ?_
 by_cases hb:b=a
 ·subst hb;rw[aH]at e;cases e;exact new
 ·rw[ay hb]at e
  exact(I.hok b u e).stay (λc v _ q=>k c v q) (λc q=>by rw[ay (di q hH)];exact q) λc xs q=>by rw[ay (di q hH)];exact q
end
section
variable {X:Cx}
theorem w_ {ns:List Int} {Sn:Array JM} (h:ItemsOf (λi v=>∃n t,ns[i]? =some n/\v= .int n t) Sn ns.length):bi (ns.map V.int) Sn.toList:=by
 have Ro:∀(vs:List JM) (ns:List Int),vs.length=ns.length->(∀(j:Nat) v,vs[j]? =some v->∃n t,ns[j]? =some n/\v= .int n t)->bi (ns.map V.int) vs:=by
  intro vs
  induction vs with
  |nil=>intro ns h1 _;cases ns with
   |nil=>exact .nil
   |cons _ _=>cases h1
  |cons v r ih=>
   intro ns h1 h2
   cases ns with
   |nil=>cases h1
   |cons n ns=>
    obtain⟨m,t,e1,e2⟩:=h2 0 v rfl
    simp at e1
    subst e1
    refine .cons ⟨t,e2⟩ (ih ns (by simpa using h1) λj v hv=> ?_)
    have:=h2 (j+1) v (by simpa using hv)
    simpa using this
 refine Ro Sn.toList ns (by rw[Lw];exact h.1) λj v hv=>h.2 j v (by rw[<-P1];exact hv)
theorem ua (hc:X.calm=true):dU X (.builtin "sorted") (λxs H Q=>∃p kvs ns,xs=[.ref p]/\H p=some (.dK kvs)/\kvs.map (·.1)=ns.map MB/\ns.length<64/\∀l,H l=none->Q (.ref l) (bY H l (.lst ((cS ns).map V.int)))):=by
 intro R6 s σ H xs us Q I rv h
 obtain⟨p,kvs,ns,rfl,hp,hk,hl,q⟩:=h
 obtain⟨u,rfl,ru⟩:=jz rv
 cases ru
 obtain⟨z,hd,vs,TX,dd⟩:=Eb I.hok hp
 obtain⟨ep,a0G⟩:=dd.dictAt
 have Rt:vs.length=ns.length:=by
  rw[<-TX.length]
  have:=congrArg N6 hk
  simpa using this
 refine ML Qk Q1 Q2 (Q3 _) ?_
 unfold NB.«sorted»
 refine JQ (m:=QC "sorted" 1 1 _) (JY ?_)
 refine JQ (PySem.W.kdu_collect (A:=X.A.in1) (PySem.W.kdl_dict (knd:=dG X.prog X.w) (kvs:=vs) (ep:=ep) hd) (I.ok.hd hc) a0G (by rw[<-TX.length];exact z) λh' tk Sn Vm WN=> ?_)
 have hI:O4 Sn.toList ns:=by
  refine jY (w_ ⟨by rw[WN.1];exact Rt,λj v hv=> ?_⟩)
  obtain⟨k,x,hx,WC⟩:=WN.2 j v hv
  have XM:(vs.map (·.1))[j]? =some k:=by rw[Km,hx];rfl
  rw[<-TX.keys,hk,Km]at XM
  cases e:ns[j]? with
  |none=>rw[e]at XM;cases XM
  |some n=>
   rw[e]at XM
   cases XM
   rcases cR (show qR (MB n) v=true from WC)with ⟨i,t,e1,e2⟩|⟨x',t,e1,e2⟩
   ·cases e1;exact⟨n,t,rfl,e2⟩
   ·cases e1
 have Vy:Sn.toList.length=ns.length:=by rw[Lw,WN.1];exact Rt
 refine JQ (Na ?_ (by rw[Vy];have:sizeLine=16777216:=Ld;omega))
 have VF:(h'.push (seqObj "list" Sn.toList.toArray 0)).get? h'.objs.size=some (seqObj "list" Sn.toList.toArray 0):=Ko _ rfl
 refine JQ (KO (Mu P2 ⟨_,VF,rfl⟩ OM (list_sort_tree VF hI (by omega) λout YY a1 a2 a3=>⟨_,rfl,?_⟩) (P4 _)))
 refine JY ⟨_,rfl,?_⟩
 have en:YY=cS ns:=gW (a2.trans (iF ns).symm) a3 (iw ns)
 subst en
 obtain⟨e,he⟩:=Po (out:=out) VF
 have T9:s.heap.get? h'.objs.size=none:=by
  cases e:s.heap.get? h'.objs.size with
  |none=>rfl
  |some o=>exact absurd (K5 (Vm _ _ e)) (Lb _)
 have kk:∀b o,s.heap.get? b=some o->(Ph (h'.push (seqObj "list" Sn.toList.toArray 0)) h'.objs.size Sn.toList out).get? b=some o:=λb o eb=>by
  have hb:=Vm b o eb
  have U1:b<h'.objs.size:=K5 hb
  rw[P5 (Ku U1) (by rw[QD];exact LV U1)]
  exact JV _ hb
 refine⟨.ref h'.objs.size,_,I.laidAt (o:= .lst ((cS ns).map V.int)) kk T9 ⟨?_,out.toList,e,jB a1,by simpa[seqObj]using he⟩,rfl,q _ (I.hok.nowhere T9)⟩
 have:=a2.length_eq
 rw[JR]
 have:sizeLine=16777216:=Ld
 omega
end
end L2
namespace L2
open PySem PySem.Spec PyProof.Rows
section
variable {prog:K3} {w:Kd} {A:Kl} {E:JM->JP->Prop} {s:JP} {I:JO} {fp wr:List JO} {G:Array O7->Array O7->Prop} {n:Nat} {P:Nat->JM->Prop} {St:Nat->JP->Prop}
end
section
variable {X:Cx} {e:JW} {te:TE} {pos p1 p2 TF:KC}
end
end L2
namespace L2
open PySem PySem.Spec PyProof.Rows
section
variable {prog:K3} {w:Kd} {A:Kl} {E:JM->JP->Prop} {s:JP} {a:JO}
end
section
variable {prog:K3} {w:Kd} {A:Kl} {R:PK->JP->Prop} {I:JO} {fp wr:List JO} {G:Array O7->Array O7->Prop} {n:Nat} {P:Nat->JM->Prop} {St:Nat->JP->Prop}
end
section
variable {prog:K3} {w:Kd} {A:Kl} {E:JM->JP->Prop} {s:JP} {p:JO}
end
section
variable {X:Cx}
end
end L2
namespace L2
open PySem PySem.Spec PyProof.Rows PySem.W
def mv {α:Type} (V:Nat->Nat->Prop) (lt:Nat->Nat->Bool):KasT α->(α->Prop)->Prop
 | .ret a,Q=>Q a
 | .ask i j k,Q=>V i j/\mv V lt (k (lt i j)) Q
theorem mv.imp {α:Type} {V:Nat->Nat->Prop} {lt:Nat->Nat->Bool} {Q Q':α->Prop} (w:∀a,Q a->Q' a):∀{t:KasT α},mv V lt t Q->mv V lt t Q'
 | .ret a,h=>w a h
 | .ask i j k,h=>⟨h.1,mv.imp w h.2⟩
theorem mv.bind {α β:Type} {V:Nat->Nat->Prop} {lt:Nat->Nat->Bool} {f:α->KasT β} {Q:β->Prop}:∀{t:KasT α},mv V lt t (λa=>mv V lt (f a) Q)->mv V lt (t.bind f) Q
 | .ret a,h=>h
 | .ask i j k,h=>⟨h.1,mv.bind h.2⟩
theorem mv.wp {α:Type} {V:Nat->Nat->Prop} {lt:Nat->Nat->Bool} {a00:Nat->Nat->(Bool->JP->Prop)->JP->Prop} {Good:JP->Prop} (hc:∀i j C s,V i j->Good s->(∀s',Good s'->C (lt i j) s')->a00 i j C s) {Q:α->JP->Prop}:
  ∀{t:KasT α} {s:JP},mv V lt t (λa=>∀s',Good s'->Q a s')->Good s->t.kasWp a00 Q s
 | .ret a,s,h,g=>h s g
 | .ask i j k,s,h,g=>hc i j _ s h.1 g λs' g'=>mv.wp hc h.2 g'
section
variable {n:Nat} {Ro:Nat->Int}
def kk (Ro:Nat->Int) (p:Array Nat) (i:Nat):Int:=Ro (p.getD i 0)
def x4 (Ro:Nat->Int) (i j:Nat):Bool:=decide (Ro i<Ro j)
def Pr (n i j:Nat):Prop:=i<n/\j<n/\i≠j
structure sd (n:Nat) (p:Array Nat):Prop where
 sz:p.size=n
 perm:p.toList.Perm (Kw n)
theorem sd.lt {p:Array Nat} (h:sd n p) {i:Nat} (hi:i<n):p.getD i 0<n:=by
 have VA:i<p.size:=by rw[h.sz];exact hi
 have:p.getD i 0=p[i]:=by simp[Pj,VA]
 rw[this]
 exact Lr.mp (h.perm.mem_iff.mp (by simp))
theorem sd.inj {p:Array Nat} (h:sd n p) {i j:Nat} (hi:i<n) (hj:j<n) (e:p.getD i 0=p.getD j 0):i=j:=by
 have VA:i<p.size:=by rw[h.sz];exact hi
 have Vn:j<p.size:=by rw[h.sz];exact hj
 have e1:p.getD i 0=p[i]:=by simp[Pj,VA]
 have e2:p.getD j 0=p[j]:=by simp[Pj,Vn]
 rw[e1,e2]at e
 have nd:p.toList.Nodup:=(h.perm.nodup_iff).mpr List.nodup_range
 have hp:=MM.mp nd
 have el:p.toList[i]'(by simpa using VA)=p.toList[j]'(by simpa using Vn):=by simpa using e
 rcases Qf i j with z|z|z
 ·exact absurd el (hp i j _ _ z)
 ·exact z
 ·exact absurd el.symm (hp j i _ _ z)
theorem sd.pr {p:Array Nat} (h:sd n p) {i j:Nat} (hi:i<n) (hj:j<n) (VC:i≠j):Pr n (p.getD i 0) (p.getD j 0):=⟨h.lt hi,h.lt hj,λz=>VC (h.inj hi hj z)⟩
def wz (Ro:Nat->Int) (p:Array Nat) (m:Nat):Prop:=∀i j,i<j->j<m->kk Ro p i<kk Ro p j
def Fh (Ro:Nat->Int) (p:Array Nat) (m:Nat):Prop:=∀i j,i<j->j<m->kk Ro p j<kk Ro p i
theorem wz.more {p:Array Nat} {m:Nat} (h:wz Ro p (m+1)) (hl:kk Ro p m<kk Ro p (m+1)):wz Ro p (m+2):=λi j VC hj=>by
 by_cases e:j=m+1
 ·subst e
  by_cases e2:i=m
  ·subst e2;exact hl
  ·exact Ol (h i m (by omega) (by omega)) hl
 ·exact h i j VC (by omega)
theorem Fh.more {p:Array Nat} {m:Nat} (h:Fh Ro p (m+1)) (hl:kk Ro p (m+1)<kk Ro p m):Fh Ro p (m+2):=λi j VC hj=>by
 by_cases e:j=m+1
 ·subst e
  by_cases e2:i=m
  ·subst e2;exact hl
  ·exact Ol hl (h i m (by omega) (by omega))
 ·exact h i j VC (by omega)
theorem x6 {p:Array Nat} (o:sd n p) (hk:∀i j,i<n->j<n->Ro i=Ro j->i=j):∀(f m:Nat),wz Ro p (m+1)->m+1+f=n->mv (Pr n) (x4 Ro) (kas_asc p f (m+1)) λr=>m+1<=r/\r<=n/\wz Ro p r/\(r<n->kk Ro p r<kk Ro p (r - 1))
 |0,m,h,e=>⟨Kc _,by omega,h,λz=>by omega⟩
 |f+1,m,h,e=>by
  refine⟨o.pr (by omega) (by omega) (by omega),?_⟩
  rw[NG]
  by_cases hl:kk Ro p (m+1)<kk Ro p m
  ·simp only[show x4 Ro (p.getD (m+1) 0) (p.getD m 0)=true from decide_eq_true hl,if_true]
   exact⟨Kc _,by omega,h,λ_=>by rw[NG];exact hl⟩
  ·simp only[show x4 Ro (p.getD (m+1) 0) (p.getD m 0)=false from decide_eq_false hl,KY,if_false]
   have TC:kk Ro p m≠kk Ro p (m+1):=λz=>by
    have:=o.inj (i:=m) (j:=m+1) (by omega) (by omega) (hk _ _ (o.lt (by omega)) (o.lt (by omega)) z)
    omega
   refine mv.imp (λr ⟨a,b,c,d⟩=>⟨by omega,b,c,d⟩) (x6 o hk f (m+1) (h.more (by omega)) (by omega))
theorem B0 {p:Array Nat} (o:sd n p) (hk:∀i j,i<n->j<n->Ro i=Ro j->i=j):∀(f m:Nat),Fh Ro p (m+1)->m+1+f=n->mv (Pr n) (x4 Ro) (kas_desc f p (m+1) 0) λr=>r.1=p/\r.2.2=0/\m+1<=r.2.1/\r.2.1<=n/\Fh Ro p r.2.1
 |0,m,h,e=>⟨rfl,rfl,Kc _,by show m+1<=n;omega,h⟩
 |f+1,m,h,e=>by
  refine⟨o.pr (by omega) (by omega) (by omega),?_⟩
  rw[NG]
  by_cases hl:kk Ro p (m+1)<kk Ro p m
  ·simp only[show x4 Ro (p.getD (m+1) 0) (p.getD m 0)=true from decide_eq_true hl,if_true,gt_iff_lt,Lb,if_false]
   exact mv.imp (λr ⟨a,b,c,d⟩=>⟨a,b,by omega,d⟩) (B0 o hk f (m+1) (h.more hl) (by omega))
  ·simp only[show x4 Ro (p.getD (m+1) 0) (p.getD m 0)=false from decide_eq_false hl,KY,if_false]
   have TC:kk Ro p m≠kk Ro p (m+1):=λz=>by
    have:=o.inj (i:=m) (j:=m+1) (by omega) (by omega) (hk _ _ (o.lt (by omega)) (o.lt (by omega)) z)
    omega
   have Vy:kk Ro p m<kk Ro p (m+1):=by omega
   refine⟨o.pr (by omega) (by omega) (by omega),?_⟩
   simp only[show x4 Ro (p.getD m 0) (p.getD (m+1) 0)=true from decide_eq_true Vy,if_true]
   exact⟨rfl,rfl,Kc _,by show m+1<=n;omega,h⟩
theorem qG {p q:Array Nat} {i j:Nat} (h:p[i]? =q[j]?):p.getD i 0=q.getD j 0:=by
 rw[NH,NH,h]
theorem Dg {p:Array Nat} (o:sd n p) (i j:Nat):sd n (kas_rev p i j):=
 ⟨by unfold kas_rev;rw[mirror_size];exact o.sz,(NS.mp (mirror_perm p i j _)).trans o.perm⟩
theorem Dh {p:Array Nat} (o:sd n p) {m:Nat} (hm:m<=n) (h:Fh Ro p m):wz Ro (kas_rev p 0 m) m:=λi j VC hj=>by
 have e:∀k,k<m->kk Ro (kas_rev p 0 m) k=kk Ro p (m - 1 - k):=λk hk=>by
  unfold kk
  congr 1
  refine qG ?_
  have:=getElem?_mirror_all (xs:=p) (i:=0) (j:=m) (by rw[o.sz];exact hm) k
  unfold kas_rev
  rw[this,if_pos ⟨Lx _,hk⟩,Om]
 rw[e i (by omega),e j hj]
 exact h _ _ (by omega) (by omega)
theorem B1 {p:Array Nat} (o:sd n p) (hn:2<=n) (hk:∀i j,i<n->j<n->Ro i=Ro j->i=j):mv (Pr n) (x4 Ro) (kas_count n p) λr=>1<=r.1/\r.1<=n/\sd n r.2/\wz Ro r.2 r.1:=by
 unfold kas_count
 refine mv.bind (mv.imp (λm ⟨h1,h2,h3,h4⟩=> ?_) (x6 o hk (n - 1) 0 (λi j VC hj=>by omega) (by omega)))
 by_cases e:m=n
 ·rw[if_pos (by simp[e])];exact⟨by show 1<=m;omega,h2,o,h3⟩
 ·rw[if_neg (by simp[e])]
  by_cases e1:m>1
  ·rw[if_pos e1]
   refine⟨o.pr (by omega) (by omega) (by omega),?_⟩
   simp only[show x4 Ro (p.getD 0 0) (p.getD (m - 1) 0)=true from decide_eq_true (h3 0 (m - 1) (by omega) (by omega)),if_true]
   exact⟨by show 1<=m;omega,h2,o,h3⟩
  ·have em:m=1:=by omega
   subst em
   rw[if_neg (by omega)]
   have hd:Fh Ro p 2:=λi j VC hj=>by
    have hi:i=0:=by omega
    have Vn:j=1:=by omega
    subst hi;subst Vn
    exact h4 (by omega)
   unfold kas_descPart
   refine mv.bind (mv.imp (λr ⟨a,b,c,d,g⟩=> ?_) (B0 o hk (n - (1+1)) 1 hd (by omega)))
   rw[if_neg (by omega)]
   unfold kas_tail3
   rw[a]
   have o2:=Dg o 0 r.2.1
   obtain⟨q,hq⟩:∃q,r.2.1=q+1:=⟨r.2.1 - 1,by omega⟩
   rw[hq]at d g o2 ⊢
   refine mv.bind (mv.imp (λm2 ⟨x1,x2,x3,_⟩=>⟨by show 1<=m2;omega,x2,o2,x3⟩) (x6 o2 hk (n - (q+1)) q (Dh o d g) (by omega)))
theorem rh {p:Array Nat} (o:sd n p) (hk:∀i j,i<n->j<n->Ro i=Ro j->i=j) {k:Nat} (Ws:k<n) (ha:wz Ro p k):∀(f l r:Nat),l<=r->r<=k->r - l<=f->(∀i,i<l->kk Ro p i<kk Ro p k)->(∀i,r<=i->i<k->kk Ro p k<kk Ro p i)->
  mv (Pr n) (x4 Ro) (kas_place p k f l r) λm=>m<=k/\(∀i,i<m->kk Ro p i<kk Ro p k)/\∀i,m<=i->i<k->kk Ro p k<kk Ro p i
 |0,l,r,h1,h2,h3,h4,h5=>⟨by omega,h4,λi hi=>h5 i (by omega)⟩
 |f+1,l,r,h1,h2,h3,h4,h5=>by
  unfold kas_place
  by_cases e:l>=r
  ·rw[if_pos e];exact⟨by omega,h4,λi hi=>h5 i (by omega)⟩
  ·rw[if_neg e]
   refine⟨o.pr Ws (by omega) (by omega),?_⟩
   have Wt:(l+r) / 2<r:=by omega
   have YU:l<=(l+r) / 2:=by omega
   by_cases hl:kk Ro p k<kk Ro p ((l+r) / 2)
   ·simp only[show x4 Ro (p.getD k 0) (p.getD ((l+r) / 2) 0)=true from decide_eq_true hl,if_true]
    refine rh o hk Ws ha f l ((l+r) / 2) YU (by omega) (by omega) h4 λi hi a0H=> ?_
    by_cases z:i=(l+r) / 2
    ·subst z;exact hl
    ·exact Ol hl (ha _ _ (by omega) a0H)
   ·simp only[show x4 Ro (p.getD k 0) (p.getD ((l+r) / 2) 0)=false from decide_eq_false hl,KY,if_false]
    have TC:kk Ro p ((l+r) / 2)≠kk Ro p k:=λz=>by
     have:=o.inj (i:=(l+r) / 2) (j:=k) (by omega) Ws (hk _ _ (o.lt (by omega)) (o.lt Ws) z)
     omega
    have Vy:kk Ro p ((l+r) / 2)<kk Ro p k:=by omega
    refine rh o hk Ws ha f ((l+r) / 2+1) r (by omega) h2 (by omega) (λi hi=> ?_) h5
    by_cases z:i=(l+r) / 2
    ·subst z;exact Vy
    ·exact Ol (ha _ _ (show i<(l+r) / 2 by omega) (by omega)) Vy
theorem Di {p:Array Nat} (o:sd n p) {k m:Nat} (Ws:k<n) (hm:m<=k) (ha:wz Ro p k) (h1:∀i,i<m->kk Ro p i<kk Ro p k) (h2:∀i,m<=i->i<k->kk Ro p k<kk Ro p i):sd n (bubble p k (k - m))/\wz Ro (bubble p k (k - m)) (k+1):=by
 refine⟨⟨by rw[bubble_size];exact o.sz,(NS.mp (bubble_perm p k _)).trans o.perm⟩,λi j VC hj=> ?_⟩
 have e:∀q,kk Ro (bubble p k (k - m)) q=if q=m then kk Ro p k else if m<q/\q<=k then kk Ro p (q - 1)else kk Ro p q:=λq=>by
  have:=getElem?_bubble (xs:=p) (src:=k) (by rw[o.sz];exact Ws) (k - m) (by omega) q
  rw[show k - (k - m)=m by omega]at this
  unfold kk
  split
  ·rename_i z;rw[if_pos z]at this;congr 1;exact qG this
  ·rename_i z
   rw[if_neg z]at this
   split
   ·rename_i z2;rw[if_pos z2]at this;congr 1;exact qG this
   ·rename_i z2;rw[if_neg z2]at this;congr 1;exact qG this
 rw[e i,e j]
 by_cases i1:i=m
 ·rw[if_pos i1,if_neg (by omega),if_pos (by omega)]
  exact h2 _ (by omega) (by omega)
 ·rw[if_neg i1]
  by_cases i2:m<i/\i<=k
  ·rw[if_pos i2,if_neg (by omega),if_pos (by omega)]
   exact ha _ _ (by omega) (by omega)
  ·rw[if_neg i2]
   by_cases j1:j=m
   ·rw[if_pos j1];exact h1 i (by omega)
   ·rw[if_neg j1]
    by_cases j2:m<j/\j<=k
    ·rw[if_pos j2]
     by_cases z:i=j - 1
     ·omega
     ·exact ha _ _ (by omega) (by omega)
    ·rw[if_neg j2];exact ha _ _ VC (by omega)
theorem B2 (hk:∀i j,i<n->j<n->Ro i=Ro j->i=j):∀(f:Nat) (p:Array Nat) (k:Nat),sd n p->wz Ro p k->k+f=n->mv (Pr n) (x4 Ro) (kas_bin f p k) λq=>sd n q/\wz Ro q n
 |0,p,k,o,h,e=>⟨o,by rw[<-e];exact h⟩
 |f+1,p,k,o,h,e=>by
  unfold kas_bin
  refine mv.bind (mv.imp (λm ⟨h1,h2,h3⟩=> ?_) (rh o hk (show k<n by omega) h k 0 k (Lx _) (Kc _) (by omega) (λi hi=>by omega) λi h1 h2=>by omega))
  obtain⟨o2,a2⟩:=Di o (show k<n by omega) h1 h h2 h3
  exact B2 hk f _ (k+1) o2 a2 (by omega)
theorem Dj (hn:2<=n) (hk:∀i j,i<n->j<n->Ro i=Ro j->i=j):mv (Pr n) (x4 Ro) (kas_sort n) λq=>sd n q/\wz Ro q n:=by
 have o:sd n (Mm (Kw n)):=⟨by simp,by simp⟩
 unfold kas_sort
 refine mv.bind (mv.imp (λr ⟨h1,h2,h3,h4⟩=> ?_) (B1 o hn hk))
 by_cases e:r.1<n
 ·rw[if_pos e,show max r.1 1=r.1 by omega]
  exact B2 hk _ _ _ h3 h4 (by omega)
 ·rw[if_neg e]
  have:r.1=n:=by omega
  rw[this]at h4
  exact⟨h3,h4⟩
end
end L2
namespace L2
open PySem PySem.Spec PyProof.Rows PySem.W
section
variable {prog:K3} {w:Kd} {A:Kl} {E:JM->JP->Prop} {s:JP}
def oX (h:Ka) (v:JM) (k:Int):Prop:=∃b o t rest m,v= .ref b/\h.get? b=some o/\o.cls= .type "tuple"/\o.data= .seq (Array.mk (M8 k t::rest)) m
theorem Fi {v u:JM} {k l:Int} {Q:Bool->JP->Prop} (hv:oX s.heap v k) (hu:oX s.heap u l) (TC:k≠l) (h:Q (decide (k<l)) s):JZ (K2 prog w) A (keyLt' (tuples' true) v u) Q E s:=by
 obtain⟨b,o,t,rest,m,rfl,h1,h2,h3⟩:=hv
 obtain⟨b',o',t',XN,m',rfl,g1,g2,g3⟩:=hu
 refine kat_lt h1 h3 g1 g3 ?_
 show KatLex prog w A true _ Q ((M8 k t,M8 l t')::rest.zip XN) 0 s
 refine kat_cons (wpAny_eqBool_int ?_)
 have e:(k==l)=false:=beq_eq_false_iff_ne.mpr TC
 rw[e]
 exact kat_no (oneLt_int h)
theorem sP:∀{vs:List JM} {ks:List Int},vs.length=ks.length->(∀(i:Nat) v,vs[i]? =some v->oX s.heap v (ks.getD i 0))->∃fs:List JM,KatTups s.heap vs fs/\fs.length=vs.length/\∀f∈fs,∃k t,f=M8 k t
 |[],ks,_,_=>⟨[], .nil,rfl,λf hf=>by cases hf⟩
 |v::vs,[],hl,_=>by cases hl
 |v::vs,k::ks,hl,h=>by
  obtain⟨fs,h1,h2,h3⟩:=sP (vs:=vs) (ks:=ks) (by simpa using hl) λi u hu=>by
   have:=h (i+1) u (by simpa using hu)
   simpa using this
  obtain⟨b,o,t,rest,m,rfl,g1,g2,g3⟩:=h 0 v rfl
  refine⟨_::fs,KatTups.cons g1 g2 g3 (f:=M8 ((k::ks).getD 0 0) t) rfl h1,by simp[h2],λf hf=> ?_⟩
  rcases K1.mp hf with rfl|hf
  ·exact⟨_,_,rfl⟩
  ·exact h3 f hf
def rj (ks:List Int) (p:List Nat):Prop:=p.Perm (Kw ks.length)/\(p.map λi=>ks.getD i 0).Pairwise (·<·)
theorem ub {Ro:Nat->Int} {p:Array Nat} {n:Nat} (hs:p.size=n) (h:wz Ro p n):(p.toList.map Ro).Pairwise (·<·):=by
 refine MM.mpr λi j hi hj VC=> ?_
 rw[JR,Lw]at hi hj
 have:=h i j VC (by omega)
 unfold kk at this
 simpa[Pj,hi,hj]using this
theorem zA {α β:Type} {vs:List α} {ks:List β} (hl:vs.length=ks.length) (h:vs.length<2):(vs=[]/\ks=[])\/∃v k,vs=[v]/\ks=[k]:=by
 cases vs with
 |nil=>exact .inl ⟨rfl,M_.mp hl.symm⟩
 |cons v vs=>
  cases vs with
  |nil=>
   obtain⟨k,hk⟩:=List.length_eq_one_iff.mp hl.symm
   exact .inr ⟨v,k,rfl,hk⟩
  |cons=>exact absurd h (by simp only[Kh];omega)
theorem rl {a:JO} {vs:List JM} {ks:List Int} {n:Nat} {P:PySem.Fin->JP->Prop} (ho:s.heap.get? a=some (seqObj "list" vs.toArray n)) (hl:vs.length=ks.length) (hv:∀(i:Nat) v,vs[i]? =some v->oX s.heap v (ks.getD i 0)) (YZ:ks.Nodup) (Y_:vs.length<64)
  (h:∀p:List Nat,rj ks p->P (.done (.ret .none)) {s with heap:=Ph s.heap a vs (Mm (p.map λi=>vs.getD i KU))}):
  JZ (K2 prog w) A (NB.«list.sort» ⟨[.ref a],[]⟩) P E s:=by
 rw[list_sort_plain]
 have ha:a<s.heap.objs.size:=K5 ho
 refine JQ (listItems_at ho rfl ?_)
 refine JQ (Pp ho rfl ?_ (hsz2:=Lx _) (hsz:=by rw[JU,Ld];omega))
 obtain⟨e1,a01⟩:∃e1,(s.heap.update a (Ln λ_=> #[])).get? a=some (seqObj "list" #[] e1):=⟨_,get?_update_seq ho (λ_=> #[])⟩
 refine JQ (Ql a01 rfl ?_)
 refine JQ (wpAny_newTuple ?_ (by show vs.length<=_;rw[Ld];omega))
 refine JQ (Na ?_ (Lx _))
 refine KO ?_
 have a0I:∀b o,b≠a->s.heap.get? b=some o->(((s.heap.update a (Ln λ_=> #[])).push (seqObj "tuple" vs.toArray 0)).push (seqObj "list" #[] 0)).get? b=some o:=λb o hb e=>by
  refine JV _ (JV _ ?_)
  rw[Heap.get?_update_ne _ _ _ _ hb];exact e
 have Yi:(((s.heap.update a (Ln λ_=> #[])).push (seqObj "tuple" vs.toArray 0)).push (seqObj "list" #[] 0)).get? a=some (seqObj "list" #[] e1):=JV _ (JV _ a01)
 have Xw:∀(i:Nat) v,vs[i]? =some v->oX (((s.heap.update a (Ln λ_=> #[])).push (seqObj "tuple" vs.toArray 0)).push (seqObj "list" #[] 0)) v (ks.getD i 0):=λi v e=>by
  obtain⟨b,o,t,rest,m,rfl,g1,g2,g3⟩:=hv i v e
  refine⟨b,o,t,rest,m,rfl,a0I b o (λz=> ?_) g1,g2,g3⟩
  subst z
  rw[ho]at g1
  cases g1
  exact absurd (show LY "list"=LY "tuple" from g2) (by decide)
 show JZ (K2 prog w) A _ P E {s with heap:=((s.heap.update a (Ln λ_=> #[])).push (seqObj "tuple" vs.toArray 0)).push (seqObj "list" #[] 0)}
 dsimp only
 have hsz:vs.toArray.size=vs.length:=by simp
 have VH:∀p:List Nat,p.length=vs.length->(Mm (p.map λi=>vs.getD i KU)).size<=sizeLine:=λp hp=>by
  rw[JU,JR,hp,Ld];omega
 by_cases h2:vs.toArray.size<2
 ·rw[if_pos h2,if_pos h2]
  refine JQ (JY ?_)
  rw[StateT.run_pure]
  refine JQ (JY ?_)
  dsimp only
  obtain⟨p,hp,Sm,a0J⟩:∃p:List Nat,rj ks p/\p.length=vs.length/\Q4 (λx=>x.2) (arrOf (SortSt.mk' general' (vs.toArray.zip vs.toArray) #[] 7 none))=Mm (p.map λi=>vs.getD i KU):=by
   rcases zA hl (by simpa using h2)with ⟨rfl,rfl⟩|⟨v,k,rfl,rfl⟩
   ·exact⟨[],⟨Ml _,NY⟩,rfl,by show Q4 (λx:Keyed=>x.2) ((#[]:Array JM).zip #[])=_;simp⟩
   ·exact⟨[0],⟨Ml _,List.pairwise_singleton _ _⟩,rfl,by show Q4 (λx:Keyed=>x.2) ((#[v]:Array JM).zip #[v])=_;simp⟩
  refine JQ (Ql Yi rfl ?_)
  have XO:Q4 (λx=>x.2) (arrOf (SortSt.mk' general' (vs.toArray.zip vs.toArray) #[] 7 none))=Mm (p.map λi=>vs.getD i KU):=a0J
  refine JQ (Pp Yi rfl ?_ (hsz2:=by have:=VH p Sm;rw[<-XO]at this;exact N_ this))
  simp only[bne_self_eq_false,KY,if_false]
  have hh:=h p hp
  rw[<-XO]at hh
  exact JY hh
 ·rw[if_neg h2,if_neg h2]
  have WD:2<=vs.length:=by rw[hsz]at h2;omega
  obtain⟨fs,t1,t2,t3⟩:=sP (s:={s with heap:=((s.heap.update a (Ln λ_=> #[])).push (seqObj "tuple" vs.toArray 0)).push (seqObj "list" #[] 0)}) hl Xw
  refine JQ (kat_kind (T:= .type "int") t1 (by omega) (λv hv=> ?_) (by decide) ?_)
  ·obtain⟨k,t,rfl⟩:=t3 v hv
   exact .now
  rw[show (LY "int" != LY "tuple")=true by decide]
  have Z0:(kas_sort vs.length).kasWp (kas_ask prog w A (tuples' true) vs) (λp s'=>s'={s with heap:=((s.heap.update a (Ln λ_=> #[])).push (seqObj "tuple" vs.toArray 0)).push (seqObj "list" #[] 0)}/\sd vs.length p/\wz (λi=>ks.getD i 0) p vs.length) {s with heap:=((s.heap.update a (Ln λ_=> #[])).push (seqObj "tuple" vs.toArray 0)).push (seqObj "list" #[] 0)}:=by
   have XQ:∀i j,i<vs.length->j<vs.length->ks.getD i 0=ks.getD j 0->i=j:=λi j hi hj e=>by
    have hp:=MM.mp YZ
    have e':ks[i]'(by omega)=ks[j]'(by omega):=by simpa[show i<ks.length by omega,show j<ks.length by omega]using e
    rcases Qf i j with z|z|z
    ·exact absurd e' (hp i j _ _ z)
    ·exact z
    ·exact absurd e'.symm (hp j i _ _ z)
   refine mv.wp (V:=Pr vs.length) (lt:=x4 λi=>ks.getD i 0) (Good:=λs'=>s'={s with heap:=((s.heap.update a (Ln λ_=> #[])).push (seqObj "tuple" vs.toArray 0)).push (seqObj "list" #[] 0)}) (λi j C s' XR hg hC=> ?_) (mv.imp (λp hp s' Ru=>⟨Ru,hp⟩) (Dj WD XQ)) rfl
   subst hg
   have hi:vs[i]? =some (vs.getD i KU):=by simp[XR.1]
   have hj:vs[j]? =some (vs.getD j KU):=by simp[XR.2.1]
   exact Fi (Xw i _ hi) (Xw j _ hj) (λz=>XR.2.2 (XQ i j XR.1 XR.2.1 z)) (hC _ rfl)
  refine JQ (LC (kat_run (vs:=vs) (ks:=vs) (Q:=λVi s'=>∃p:Array Nat,arrOf Vi=p.map (kas_item (vs.toArray.zip vs.toArray))/\failedOf Vi=none/\s'={s with heap:=((s.heap.update a (Ln λ_=> #[])).push (seqObj "tuple" vs.toArray 0)).push (seqObj "list" #[] 0)}/\sd vs.length p/\wz (λi=>ks.getD i 0) p vs.length)
   rfl WD Y_ (λp' Vi s' a1 a2 a3 a4=>⟨p',a2,a3,a4⟩) Z0) ?_ λ_ _ e=>e)
  rintro⟨⟨⟩,Vi⟩ s' ⟨p,a0K,hf,rfl,Z1,a0L⟩
  dsimp only
  have Z2:=kat_snds (vs:=vs) (ks:=vs) rfl a0K
  have Sm:p.toList.length=vs.length:=by rw[Lw];exact Z1.sz
  refine JQ (Ql Yi rfl ?_)
  rw[Z2]
  refine JQ (Pp Yi rfl ?_ (hsz2:=N_ (VH _ Sm)))
  rw[hf]
  simp only[bne_self_eq_false,KY,if_false]
  exact JY (h p.toList ⟨by rw[<-hl];exact Z1.perm,ub Z1.sz a0L⟩)
end
section
variable {X:Cx}
inductive j_ (H:Hp):List V->List Int->Prop
 |nil:j_ H [] []
 |cons {a:JO} {k:Int} {rest ys:List V} {ks:List Int}:H a=some (.tup (.int k::rest))->j_ H ys ks->j_ H (.ref a::ys) (k::ks)
theorem j_.length {H:Hp}:∀{ys:List V} {ks:List Int},j_ H ys ks->ys.length=ks.length
 |_,_, .nil=>rfl
 |_,_, .cons _ t=>by rw[Kh,Kh,t.length]
theorem vh {P:K3} {w:Kd} {H:Hp} {h h':Ka} (ok:la P w H h) (kp:∀b o,h.get? b=some o->h'.get? b=some o):∀{ys:List V} {ks:List Int} {us:List JM},j_ H ys ks->bi ys us->∀(i:Nat) v,us[i]? =some v->oX h' v (ks.getD i 0)
 |_,_,_, .nil, .nil,i,v,e=>by simp at e
 |_,_,_, .cons (a:=a) (k:=k) (rest:=rest) ha t, .cons ru rt,i,v,e=>by
  cases i with
  |zero=>
   simp at e
   subst e
   obtain⟨_,its,r,o,h1,h2,n,h3,_⟩:=(show ce P w H h a (.tup (.int k::rest))from ok a _ ha)
   cases r with
   |cons rk rr=>
    obtain⟨t,rfl⟩:=rk
    exact⟨a,o,t,_,n,ru,kp _ _ h1,h2,h3⟩
  |succ i=>exact vh ok kp t rt i v (by simpa using e)
theorem sQ {ys:List V} {us:List JM} (r:bi ys us):∀p:List Nat,(∀i∈p,i<ys.length)->bi (p.map λi=>ys.getD i .non) (p.map λi=>us.getD i KU)
 |[],_=> .nil
 |i::p,h=>by
  have hi:=h i K6
  have hy:ys[i]? =some (ys.getD i .non):=by simp[hi]
  obtain⟨u,hu,ru⟩:=r.get hy
  have e:us.getD i KU=u:=by simp[hu]
  refine .cons ?_ (sQ r p λj hj=>h j (K8 _ hj))
  show bU (ys.getD i .non) (us.getD i KU)
  rw[e];exact ru
theorem uc:dU X (.builtin "sorted") (λxs H Q=>∃p ys ks,xs=[.ref p]/\(H p=some (.lst ys)\/H p=some (.tup ys))/\j_ H ys ks/\ks.Nodup/\ks.length<64/\
  ∀l q,H l=none->rj ks q->Q (.ref l) (bY H l (.lst (q.map λi=>ys.getD i .non)))):=by
 intro R6 s σ H xs us Q I rv h
 obtain⟨p,ys,ks,rfl,hp,ra,nd,Y_,q⟩:=h
 obtain⟨u,rfl,ru⟩:=jz rv
 cases ru
 have hl:=ra.length
 obtain⟨its,r,T,o,n,hT,ho,hc,hd⟩:∃its:List JM,bi ys its/\∃(T:String) (o:Kq) (n:Nat),(T="list"\/T="tuple")/\s.heap.get? p=some o/\o.cls= .type T/\o.data= .seq its.toArray n:=by
  rcases hp with hp|hp
  ·obtain⟨its,r,⟨o,n,e,c,_,d⟩,_⟩:=I.list (dS.of hp)
   exact⟨its,r,"list",o,n, .inl rfl,e,c,d⟩
  ·obtain⟨hz,its,r,o,e,c,n,d,_⟩:=(show ce X.prog X.w H s.heap p (.tup ys)from I.hok p _ hp)
   exact⟨its,r,"tuple",o,n, .inr rfl,e,c,d⟩
 have Rt:=r.length
 refine ML Qk Q1 Q2 (Q3 _) ?_
 unfold NB.«sorted»
 refine JQ (m:=QC "sorted" 1 1 _) (JY ?_)
 refine JQ (Qg p hT ho hc hd (λh' Vm=> ?_) (by rw[JU,Ld];omega))
 have eT:its.toArray.toList=its:=by simp
 rw[eT]
 refine JQ (Na ?_ (by rw[Ld];omega))
 have VF:(h'.push (seqObj "list" its.toArray 0)).get? h'.objs.size=some (seqObj "list" its.toArray 0):=Ko _ rfl
 refine JQ (KO (Mu P2 ⟨_,VF,rfl⟩ OM (rl VF (by omega) (vh I.hok (λb o e=>JV _ (Vm b o e)) ra r) nd (by omega) λz hz=>⟨_,rfl,?_⟩) (P4 _)))
 refine JY ⟨_,rfl,?_⟩
 obtain⟨e,he⟩:=Po (out:=Mm (z.map λi=>its.getD i KU)) VF
 have T9:s.heap.get? h'.objs.size=none:=by
  cases e:s.heap.get? h'.objs.size with
  |none=>rfl
  |some o=>exact absurd (K5 (Vm _ _ e)) (Lb _)
 have kk:∀b o,s.heap.get? b=some o->(Ph (h'.push (seqObj "list" its.toArray 0)) h'.objs.size its (Mm (z.map λi=>its.getD i KU))).get? b=some o:=λb o eb=>by
  have hb:=Vm b o eb
  have U1:b<h'.objs.size:=K5 hb
  rw[P5 (Ku U1) (by rw[QD];exact LV U1)]
  exact JV _ hb
 have a0M:z.length=ys.length:=by have:=hz.1.length_eq;rw[N3]at this;omega
 refine⟨.ref h'.objs.size,_,I.laidAt (o:= .lst (z.map λi=>ys.getD i .non)) kk T9 ⟨?_,z.map λi=>its.getD i KU,e,sQ r z λi hi=> ?_,by simpa[seqObj]using he⟩,rfl,q _ z (I.hok.nowhere T9) hz⟩
 ·rw[JR,a0M,Ld];omega
 ·have:=Lr.mp (hz.1.mem_iff.mp hi)
  omega
end
end L2
namespace L2
open PySem PySem.Spec PyProof.Rows
section
variable {prog:K3} {w:Kd} {A:Kl} {E:JM->JP->Prop} {s:JP}
theorem sR {I:JO} {fp wr:List JO} {Ra:Array JM} {St:Nat->Ka->Prop} (W:Walks prog w A I fp wr Ra.size (λi v=>Ra[i]? =some v) St):∀(n i:Nat) (s:JP) (Q:List JM->JP->Prop),St i s.heap->i+n<=Ra.size->
  (∀(h':Ka) (tk:Nat),St (i+n) h'->(∀b o,b∉wr->s.heap.get? b=some o->h'.get? b=some o)->Q ((Ra.toList.drop i).take n) {s with heap:=h',toks:=tk})->JZ (K2 prog w) A (draw (.ref I) n) Q E s
 |0,i,s,Q,st,hn,k=>by
  refine JY ?_
  have:=k s.heap s.toks st λ_ _ _ e=>e
  rw[List.take_zero]at this
  exact this
 |n+1,i,s,Q,st,hn,k=>by
  unfold draw
  refine JQ (W.item i s _ E (by omega) st λv h' tk hv Vi kp=> ?_)
  refine JQ (KO (sR W n (i+1) _ _ Vi (by omega) λh2 Z3 W7 Z4=>JY ?_))
  have e:(Ra.toList.drop i).take (n+1)=v::(Ra.toList.drop (i+1)).take n:=by
   obtain⟨hl,he⟩:=Array.getElem?_eq_some_iff.mp hv
   rw[MN (by simpa using hl),List.take_succ_cons]
   simp[he]
  have:=k h2 Z3 (by rw[show i+(n+1)=i+1+n by omega];exact W7) λb o hb e=>Z4 b o hb (kp b o hb e)
  rw[e]at this
  exact this
theorem oY {l:JO} {Ra:Array JM} {Q:List JM->JP->Prop} (hA:A.handled=none) (hl:s.heap.IsList l Ra)
  (k:∀(h':Ka) (tk:Nat),(∀b o,b≠s.heap.objs.size->s.heap.get? b=some o->h'.get? b=some o)->Q Ra.toList {s with heap:=h',toks:=tk}):JZ (K2 prog w) A (unpackItems (.ref l) Ra.size none) Q E s:=by
 have U1:l<s.heap.objs.size:=by obtain⟨o,ho,_⟩:=id hl;exact K5 ho
 have ty:s.TypeIs (.ref l) "list":=by obtain⟨o,ho,hc,_⟩:=id hl;exact⟨o,ho,hc⟩
 unfold unpackItems notIterableAtAll
 refine JQ (JQ (wpAny_specialOf ty PySem.F.slot_list_iter.lookup ?_))
 refine JY ?_
 refine JQ (KO (NV hl ?_))
 have W:=Walks.list (prog:=prog) (w:=w) (A:=A) hA s.heap.objs.size l (Ku U1) Ra
 refine JQ (KO (sR W Ra.size 0 _ _ ⟨⟨_,Ko _ rfl,rfl,rfl⟩,hl.push _⟩ (by omega) λh' tk st kp=> ?_))
 have e:((Ra.toList.drop 0).take Ra.size)=Ra.toList:=by rw[List.drop_zero];exact List.take_of_length_le (by simp)
 rw[e]
 rw[if_neg (by simp)]
 rw[Om]at st
 refine JQ (KO (W.done _ _ E st λh2 Z3 Z4=> ?_))
 refine JY (k h2 Z3 λb o hb eb=> ?_)
 have nb:b∉[s.heap.objs.size]:=λz=>hb (K7.mp z)
 exact Z4 b o nb (kp b o nb (JV _ eb))
theorem nW {env:Ly} {Wg:List JW} {x1:Nat} {pos:KC} {l:JO} {Ra:Array JM} {Q:Unit->JP->Prop} (hA:A.handled=none) (hl:s.heap.IsList l Ra) (hn:(KW Wg env).length=Ra.size) (U5:(KW Wg env).findIdx? (·.1)=none)
  (k:∀(h':Ka) (tk:Nat),(∀b o,b≠s.heap.objs.size->s.heap.get? b=some o->h'.get? b=some o)->JZ (K2 prog w) A (assignInOrder ((KW Wg env).map (·.2)) Ra.toList) Q E {s with heap:=h',toks:=tk}):
  JZ (K2 prog w) A (Mx (.Tuple Wg x1 pos) env (.ref l)) Q E s:=by
 rw[assign_Tuple]
 refine JQ (N9 ?_)
 unfold unpack
 rw[U5,hn]
 exact JQ (KO (oY hA hl λh' tk kp=>k h' tk kp))
end
section
variable {X:Cx} {pos:KC}
def IQ (K:JL) (n:Nat) (t:AD):TG:=λv σ H Q=>∃a xs,v= .ref a/\dS K H a xs/\xs.length=n/\t xs σ H Q
theorem B3 {es:List JW} {k:Nat} {t:AD} {n:Nat} (hc:X.calm=true) (h:AE X es t) (hn:(KW es X.env).length=n:=by rfl) (U5:(KW es X.env).findIdx? (·.1)=none:=by rfl):PG X (.Tuple es k pos) (IQ X.K n t):=by
 intro R6 s σ H v u Q I r hw
 obtain⟨a,xs,e1,hq,hl,hw⟩:=hw
 subst e1
 cases r
 obtain⟨its,rv,ht,hz⟩:=I.list hq
 refine nW (I.ok.hd hc) ht.isList (by simp[hn,<-hl,rv.length]) U5 λh' tk hx=> ?_
 have I1:aM X R6 σ H {s with heap:=h',toks:=tk}:=I.kept (t':=tk) λb o e=>hx b o (Ku (K5 e)) e
 exact h R6 _ σ H xs _ Q I1 (by simpa using rv) hw
def IS (K:JL):V->Option Int->Option Int->Hp->VK->Prop:=λx lo hi H Q=>∃a xs,x= .ref a/\iE K H a xs/\(HT.fA xs.length 0 lo=0/\HT.fA xs.length xs.length hi=xs.length)/\Q (.ref a) H
theorem mw {prog:K3} {w:Kd} {A:Kl} {E:JM->JP->Prop} {s:JP} {t sl:JO} {Ra:Array JM} {vl vu:JM} {lo hi:Option Int} {Q:JM->JP->Prop} (ht:Pa s.heap t Ra) (hs:s.heap.IsSliceOf sl vl vu .none) (pl:Nt vl lo) (pu:Nt vu hi)
  (hw:HT.fA Ra.size 0 lo=0/\HT.fA Ra.size Ra.size hi=Ra.size) (h:Q (.ref t) s):JZ (K2 prog w) A (MX (.ref t) (.ref sl)) Q E s:=by
 obtain⟨os,WG,Yf,XD⟩:=id hs
 have YH:s.TypeIs (.ref sl) "slice":=⟨os,WG,Yf⟩
 unfold MX
 try with_reducible refine KO ?_
 first|refine JQ (JY ?_)|skip
 refine JQ (Qe ht.typeIs (by decide) ?_)
 refine JQ (OA (name:=MS "__getitem__") ht.typeIs KS
  (Mu KS ht.typeIs Pq ?_ (PY _ _)))
 show JZ _ _ (NN (.ref t)>>=_) _ _ s
 refine JQ (NO ht ?_)
 refine JQ (Oe YH ?_)
 rw[if_pos (by decide)]
 refine JQ (HT.jA hs pl pu ?_)
 show JZ _ _ (if (((HT.fA Ra.size 0 lo:Nat):Int)==0&&(1:Int)==1&&(HT.fA Ra.size Ra.size hi - HT.fA Ra.size 0 lo)==Ra.size)=true then _ else _) _ _ s
 rw[if_pos (by rw[hw.1,hw.2];simp)]
 unfold NT
 refine JQ (JQ (Oe ht.typeIs (JY ?_)))
 rw[if_pos (by decide)]
 refine JQ (QE ?_)
 exact MO ⟨_,rfl,JY h⟩
theorem Dk:E8 X (IS X.K):=by
 intro R6 s σ H x v vl vu lo hi sl Q I rx hs pl pu h
 obtain⟨a,xs,rfl,hx,hw,q⟩:=h
 cases rx
 obtain⟨its,r,ht,hz⟩:=I.tuple hx
 have Rt:its.toArray.size=xs.length:=by rw[JU];exact r.length.symm
 refine⟨"tuple",_,KS.lookup,ht.typeIs,?_⟩
 exact mw ht hs pl pu (by rw[Rt];exact hw) ⟨.ref a,H,I,rfl,q⟩
theorem vi (l b:JO) (Ra V_:Array JM) (n n2:Nat) (dd Xl:Option JO) (sl Xm:Array (Option JM)) (h0:Ra.isEmpty=true):
  Meets (NB.«tuple.__add__» {pos:=[Kk l,Kk b]}) λx R s=>
    s.heap.get? l=some {cls:=LY "tuple",dict:=dd,data:=QZ Ra n,slots:=sl}/\
     s.heap.get? b=some {cls:=LY "tuple",dict:=Xl,data:=QZ V_ n2,slots:=Xm}/\R (Except.ok (Flow.ret (Kk b))) s:=by
 intro prog w A R s ⟨g1,g2,q⟩
 have t1:Pa s.heap l Ra:=⟨_,g1,rfl,n,rfl⟩
 have t2:Pa s.heap b V_:=⟨_,g2,rfl,n2,rfl⟩
 unfold NB.«tuple.__add__»
 refine JQ (JY (a:=(Kk l,[Kk b])) ?_)
 dsimp only
 refine JQ (wpAny_isInstance t2.typeIs sub_tuple_tuple ?_)
 rw[if_neg (by decide)]
 refine JQ (NO t1 (JQ (NO t2 ?_)))
 rw[if_pos h0]
 unfold NT
 refine JQ (JQ (Oe t2.typeIs (JY ?_)))
 rw[if_pos (by decide)]
 exact JQ (QE (MO q))
def Ed (K:JL):R2:=λx y H Q=>∃a b ys,x= .ref a/\y= .ref b/\iE K H a []/\iE K H b ys/\Q (.ref b) H
theorem Dl:lX X (LD .Add) (Ed X.K):=by
 intro R6 s σ H x y v u Q I rx ry h
 obtain⟨a,b,ys,rfl,rfl,ha,hb,q⟩:=h
 cases rx
 cases ry
 obtain⟨its,r1,p1,_⟩:=I.tuple ha
 obtain⟨Us,r2,p2,_⟩:=I.tuple hb
 cases r1
 obtain⟨⟨cls,dd,data,sl⟩,ho,hc,n,hd⟩:=id p1
 obtain⟨⟨YG,Xl,data2,Xm⟩,WE,XB,n2,XC⟩:=id p2
 simp only at hc hd XB XC
 subst hc hd XB XC
 exact PV ⟨_,ho,rfl⟩ ⟨_,WE,rfl⟩ Oc Pn N7 MZ (MR _ _)
   (vi a b _ _ n n2 dd Xl sl Xm rfl) ⟨ho,WE,⟨.ref b,H,I,rfl,q⟩⟩
end
end L2
namespace L2
open PySem PySem.Spec PyProof.Rows
section
variable {X:Cx}
theorem nX:∀{bs:List Bool} {its:List JM},bi (bs.map V.bl) its->∀{i:Nat} {v:JM},its[i]? =some v->∃b,bs[i]? =some b/\v= .bool b:=by
 intro bs its r i v e
 have hl:=r.length
 rw[JR]at hl
 have hi:i<bs.length:=by rw[hl];exact(K9.mp e).1
 obtain⟨u,h1,h2⟩:=r.get (i:=i) (x:=V.bl bs[i]) (by simp[hi])
 rw[e]at h1
 cases h1
 exact⟨bs[i],by simp[hi],h2⟩
theorem ud:∀{ns:List Int} {its:List JM},bi (ns.map V.int) its->∀{i:Nat} {v:JM},its[i]? =some v->∃t,v= .int (ns.getD i 0) t:=by
 intro ns its r i v e
 have hl:=r.length
 rw[JR]at hl
 have hi:i<ns.length:=by rw[hl];exact(K9.mp e).1
 obtain⟨u,h1,h2⟩:=r.get (i:=i) (x:=V.int ns[i]) (by simp[hi])
 rw[e]at h1
 cases h1
 obtain⟨t,ht⟩:=h2
 exact⟨t,by rw[ht];simp[hi]⟩
theorem xa (bs:List Bool):((Kw bs.length).any λi=>bs.getD i false)=bs.any id:=by
 rw[MH,KZ,KZ]
 constructor
 ·rintro⟨i,h1,h2⟩
  have hi:=Lr.mp h1
  exact⟨bs[i],Nd hi,by simpa[hi]using h2⟩
 ·rintro⟨b,h1,h2⟩
  obtain⟨i,hi,e⟩:=M5 h1
  exact⟨i,Lr.mpr hi,by simp[hi,e];exact h2⟩
theorem zB {s:JP} {it:Kq} {h':Ka} (hk:∀b o,b∉[s.heap.objs.size]->(s.heap.push it).get? b=some o->h'.get? b=some o):∀b o,s.heap.get? b=some o->h'.get? b=some o:=λb o e=>
 hk b o (λz=>by rw[K7.mp z]at e;exact absurd (K5 e) (Lb _)) (JV _ e)
theorem iC (hc:X.calm=true):dU X (.builtin "any") (λxs H Q=>∃(p:JO) (bs:List Bool),xs=[.ref p]/\dS X.K H p (bs.map V.bl)/\Q (.bl (bs.any id)) H):=by
 intro R6 s σ H xs us Q I rv h
 obtain⟨p,bs,rfl,hx,q⟩:=h
 obtain⟨u,rfl,ru⟩:=jz rv
 cases ru
 obtain⟨its,r,ht,hz⟩:=I.list hx
 have hl:=ht.isList
 have U1:p<s.heap.objs.size:=by obtain⟨_,e,_⟩:=hl;exact K5 e
 refine call_any_walk (NV hl ?_)
 refine⟨s.heap.objs.size,[s.heap.objs.size,p],[s.heap.objs.size],its.toArray.size,_,_,λi=>bs.getD i false,rfl,Walks.list (A:=X.A.in1) (I.ok.hd hc) _ p (Ku U1) its.toArray,⟨⟨_,Ko _ rfl,rfl,rfl⟩,hl.push _⟩,λi v s' Q' E' hP hQ=> ?_,λh' tk hk=> ?_⟩
 ·obtain⟨b,e,rfl⟩:=nX r (i:=i) (v:=v) (by simpa using hP)
  have:bs.getD i false=b:=by simp[Lj,e]
  dsimp only at hQ
  rw[this]at hQ
  exact Lv hQ
 ·have e:((Kw its.toArray.size).any λi=>bs.getD i false)=bs.any id:=by
   have hl:=r.length
   rw[JR]at hl
   rw[JU,<-hl];exact xa bs
  rw[e]
  exact⟨.bl _,H,I.kept (zB hk),rfl,q⟩
def B4 (k:Bool):JM->Bool
 | .bool b=>b==k
 |_=>false
theorem yl {k:Bool}:∀{bs:List Bool} {its:List JM},bi (bs.map V.bl) its->its.countP (B4 k)=bs.count k
 |[],its,r=>by cases r;rfl
 |b::bs,its,r=>by
  cases r with
  |cons h t=>cases h;rw[Qp,QF,yl t];rfl
def Dm (K:JL):V->List V->Hp->VK->Prop:=λx vs H Q=>∃(l:JO) (k:Bool) (bs:List Bool),x= .ref l/\vs=[.bl k]/\dS K H l (bs.map V.bl)/\Q (.int (bs.count k)) H
theorem zC:F9 X "list.count" (Dm X.K):=by
 intro R6 s σ H x vs v us Q I rx rv h
 obtain⟨l,k,bs,rfl,rfl,hx,q⟩:=h
 cases rx
 obtain⟨u,rfl,ru⟩:=rv.one
 cases ru
 obtain⟨its,r,ht,hz⟩:=I.list hx
 obtain⟨⟨cls,dd,data,sl⟩,ho,hc,n,hd⟩:=ht.isList
 simp only at hc hd
 subst hc hd
 refine Mc M6 ⟨_,ho,rfl⟩ Oo (O2 _ _) (Oq l its.toArray n dd sl (.bool k) (B4 k)) ⟨ho,λy hy=> ?_,?_⟩
 ·obtain⟨i,hi,e⟩:=M5 (show y∈its by simpa using hy)
  obtain⟨b,_,rfl⟩:=nX r (i:=i) (v:=y) (by rw[Kx hi,e])
  exact MT b k
 ·rw[show its.toArray.toList=its from rfl,yl r]
  exact⟨.int _,H,I.tok _,⟨_,rfl⟩,q⟩
theorem Hg {k:Bool} {bs:List Bool} {its:List JM} (r:bi (bs.map V.bl) its) {i:Nat} (hi:i<its.length):∃h:i<bs.length,its[i]= .bool bs[i]:=by
 obtain⟨b,h1,h2⟩:=nX r (i:=i) (v:=its[i]) (Kx hi)
 obtain⟨l,e⟩:=K9.mp h1
 exact⟨l,by rw[h2,e]⟩
theorem B5 {k:Bool}:∀{bs:List Bool} {m:Nat} (hm:m<bs.length),m<bs.idxOf k->(bs[m]==k)=false
 |b::bs,0,hm,h=>by
  rw[QG]at h
  cases e:b==k with
  |true=>rw[e]at h;simp at h
  |false=>exact e
 |b::bs,m+1,hm,h=>by
  rw[QG]at h
  cases e:b==k with
  |true=>rw[e]at h;simp at h
  |false=>
   rw[e]at h
   exact B5 (bs:=bs) (m:=m) (by simpa using hm) (by simp at h;omega)
def Dn (K:JL):V->List V->Hp->VK->Prop:=λx vs H Q=>∃(l:JO) (k:Bool) (bs:List Bool),x= .ref l/\vs=[.bl k]/\dS K H l (bs.map V.bl)/\k∈bs/\bs.length<1000/\Q (.int (bs.idxOf k)) H
theorem zD:F9 X "list.index" (Dn X.K):=by
 intro R6 s σ H x vs v us Q I rx rv h
 obtain⟨l,k,bs,rfl,rfl,hx,hk,hl,q⟩:=h
 cases rx
 obtain⟨u,rfl,ru⟩:=rv.one
 cases ru
 obtain⟨its,r,ht,hz⟩:=I.list hx
 have Rt:=r.length
 rw[JR]at Rt
 obtain⟨⟨cls,dd,data,sl⟩,ho,hc,n,hd⟩:=ht.isList
 simp only at hc hd
 subst hc hd
 have hj:=List.idxOf_lt_length_of_mem hk
 refine Mc OB ⟨_,ho,rfl⟩ PySem.F.entry_list_index (PySem.F.args_list_index_2 _ _) (PySem.SeqAt.list_indexAt l its.toArray n dd sl (.bool k) (B4 k) (bs.idxOf k) (by rw[JU,<-Rt];exact hj) (by omega) ?_ ?_) ⟨ho,λy hy=> ?_,?_⟩
 ·obtain⟨h1,e⟩:=Hg (k:=k) r (i:=bs.idxOf k) (by rw[<-Rt];exact hj)
  show B4 k (its[bs.idxOf k]'_)=true
  rw[e]
  show (bs[bs.idxOf k]==k)=true
  simp
 ·intro m hm U1
  obtain⟨h1,e⟩:=Hg (k:=k) r (i:=m) (by simpa using hm)
  show B4 k (its[m]'_)=false
  rw[e]
  exact B5 h1 U1
 ·obtain⟨i,hi,e⟩:=M5 (show y∈its by simpa using hy)
  obtain⟨b,_,rfl⟩:=nX r (i:=i) (v:=y) (by rw[Kx hi,e])
  exact MT b k
 ·exact⟨.int _,H,I.tok _,⟨_,rfl⟩,q⟩
end
end L2
namespace L2
open PySem PySem.Spec PyProof.Rows
theorem sg:isSubtype (.type "tuple") (.type "set")=pure false:=by rw[isSubtype_type];kernel_rfl
theorem rm:isSubtype (.type "tuple") (.type "frozenset")=pure false:=by rw[isSubtype_type];kernel_rfl
abbrev setNew (VD:Bool):Kq:={cls:= .type "set",dict:=none,data:= .set #[] 0 (.fresh 0 0 VD)}
abbrev B6 (prog:K3) (w:Kd) (h':Ka) (a:JO) (ns:List Int) (n:Nat):Prop:=h'.SetOf (intKind prog w) a (λk=>(Qq (λi=>ns.getD i 0) n).any (·==k)) (Qq (λi=>ns.getD i 0) n).length
set_option maxHeartbeats 8000000 in
theorem zE {prog:K3} {w:Kd} {A:Kl} {E:JM->JP->Prop} {s:JP} {u:JO} {xs:Array JM} {ns:List Int} {Q:JM->JP->Prop} (hh:A.handled=none) (ht:s.heap.IsTuple u xs) (hi:∀(i:Nat) (v:JM),xs[i]? =some v->∃t,v= .int (ns.getD i 0) t) (hb:xs.size+1<Q5)
  (SH:∀(h':Ka) (tk:Nat),B6 prog w h' s.heap.objs.size ns xs.size->(∀b o,b<s.heap.objs.size->s.heap.get? b=some o->h'.get? b=some o)->Q (.ref s.heap.objs.size) {s with heap:=h',toks:=tk}):JZ (K2 prog w) A (call (.type "set") [.ref u]) Q E s:=by
 obtain⟨c,tl,a0N⟩:=F.called_set.mro
 have m1:=F.called_set.made
 have m2:=F.called_set.sub
 have m3:=F.called_set.notType
 have m4:=F.called_set.canCreate
 have m5:=F.typeCall_set_1 (.ref u)
 refine O1 (codeAny_of_tree ?_)
 show JZ _ _ (callAny (.type "set") _) _ _ _
 refine JY ⟨Q6 _ (by decide+kernel),codeAny_builtin F.entry_type_call ?_⟩
 rw[Around.under_plain (weight_type_call_type "set" [.ref u] []) rfl]
 repeat (any_goals (first|assumption|wp_step))
 refine MQ (code_set_new_1 (.ref u) (E:=E) (Q₁:=λo s₁=>∃VD:Bool,o= .ref s.heap.objs.size/\s₁={s with heap:=s.heap.push (setNew VD)}) λVD=>⟨VD,rfl,rfl⟩) λr s₁ hr=> ?_
 cases r with
 |error e=>exact hr
 |ok fl=>
  cases fl with
  |ret o=>
   obtain⟨VD,rfl,rfl⟩:=hr
   have gS:(s.heap.push (setNew VD)).get? s.heap.objs.size=some (setNew VD):=Ko _ rfl
   have tS:Shared.TypeIs {s with heap:=s.heap.push (setNew VD)} (.ref s.heap.objs.size) "set":=⟨_,gS,rfl⟩
   have n1:=F.called_set.init.lookup
   have n2:=F.called_set.init.bind (.ref s.heap.objs.size)
   repeat (any_goals (first|assumption|wp_step))
   refine MQ (Nw (R:=wants (λr s₂=>r= .none/\∃h' tk,s₂={s with heap:=h',toks:=tk}/\B6 prog w h' s.heap.objs.size ns xs.size/\∀b o,b<s.heap.objs.size->s.heap.get? b=some o->h'.get? b=some o) E) F.called_set.init.plain F.entry_set_init (check_set_init_1 tS ?_)) λr₂ s₂ Z5=> ?_
   ·have a2i:=ht
    obtain⟨ot,a02,a03,nt,a04⟩:=ht
    obtain⟨a0O,XS,a05,WO⟩:=ot
    simp only at a03 a04
    subst a03
    subst a04
    have Z6:(s.heap.push (setNew VD)).get? u=some {cls:= .type "tuple",dict:=XS,data:= .seq xs nt,slots:=WO}:=JV _ a02
    have k1:=sg
    have k2:=rm
    have k3:(LY "tuple"==LY "dict")=false:=by decide
    have t1:(s.heap.push (setNew VD)).IsTuple u xs:=⟨_,Z6,rfl,nt,rfl⟩
    unfold NB.«set.__init__» noKeywords QO
    generalize a0P:pyIter=PI
    wp_walk
    subst a0P
    refine PJ t1 (JQ (wpAny_runValue ?_))
    have hu:u<s.heap.objs.size:=K5 a02
    have h3:A.in1.in1.in1.handled=none:=by simp[hh]
    have z1:u≠(s.heap.push (setNew VD)).objs.size:=by rw[Mj];exact Ku (LV hu)
    have z2:s.heap.objs.size∉[(s.heap.push (setNew VD)).objs.size,u]:=by
     rw[Mj]
     intro z
     rcases K1.mp z with z|z
     ·exact Ku (Ob _) z
     ·exact Nat.ne_of_gt hu (K7.mp z)
    refine codeAny_set_update_loopS (Walks.tuple h3 _ u z1 xs).toS s.heap.objs.size z2 (λi=>ns.getD i 0) (λi v hv=>hi i v hv) hb (xs.size - 0) 0 _ (by omega) (Lx _) ⟨⟨_,Ko _ rfl,rfl,rfl⟩,t1.push _⟩ ?a0 ?a1
    case a0=>
     exact SetOf_congr ((setObjOf_fresh (knd:=intKind prog w) VD).setOf (JV _ gS) (by unfold Q5;omega)) (λ_=>rfl) rfl
    case a1=>
     intro s' hm Z7
     obtain⟨h',g',d',a0Q,YF⟩:=s'
     obtain rfl:g'=s.gens:=hm.gens
     obtain rfl:d'=s.drawn:=hm.drawn
     obtain rfl:YF=s.os:=hm.os
     show JZ _ _ _ _ _ _
     refine JY ?_
     show JZ _ _ (ret KU) _ _ _
     refine JY ⟨rfl,h',a0Q,rfl,Z7,λb o hb e=>hm.heap b o ?_ (JV _ (JV _ e))⟩
     rw[Mj]
     intro z
     rcases K1.mp z with z|z
     ·exact Ku hb z
     ·exact Ku (LV hb) (K7.mp z)
   ·cases r₂ with
    |error e=>exact Z5
    |ok a0R=>
     cases a0R with
     |ret r=>
      obtain⟨rfl,h',tk,rfl,Z7,Vm⟩:=Z5
      repeat (any_goals (first|assumption|wp_step))
      exact SH _ _ Z7 Vm
     |_=>exact Z5.elim
  |_=>exact hr.elim
def gp (ns:List Int):Nat:=(Qq (λi=>ns.getD i 0) ns.length).length
section
variable {X:Cx} {e:JW} {te:TE} {p1 p2 pos TF:KC}
def Dp (K:JL) (te:TE):TE:=λσ H Q=>te σ H λx H1=>∃(a:JO) (ns:List Int),[x]=[V.ref a]/\(dS K H1 a (ns.map V.int)\/iE K H1 a (ns.map V.int))/\ns.length<4000/\Q (.int (gp ns)) H1
theorem B7:KA "set"=some (.type "set"):=by decide+kernel
theorem zF:KA "len"=some (.builtin "len"):=by decide+kernel
theorem zG (hc:X.calm=true) (he:PE X e te) (Z8:X.mg "len"=none) (Z9:X.mg "set"=none) (Za:Gl X "len") (Zb:Gl X "set")
  (Yj:JS [e] X.env=(false,Kb e X.env)::JS [] X.env) (WQ:(Ks TF (JS [] X.env)).any (·.1)=false)
  (VV:JS [.Call (.Name "set" p2) [e] [] TF] X.env=(false,Kb (.Call (.Name "set" p2) [e] [] TF) X.env)::JS [] X.env) (WR:(Ks pos (JS [] X.env)).any (·.1)=false):
  PE X (.Call (.Name "len" p1) [.Call (.Name "set" p2) [e] [] TF] [] pos) (Dp X.K te):=by
 intro R6 s σ H Q I h
 refine LP (oP I Za Z8 zF ?_ (by decide) (by decide))
 refine Nr ?_ VV WR
 rw[VV]
 show JZ _ _ (QK ((false,Kb (.Call (.Name "set" p2) [e] [] TF) X.env)::Ks pos (JS [] X.env))) _ _ s
 refine PU ?_
 refine LP (oP I Zb Z9 B7 ?_ (by decide) (by decide))
 refine Mr ?_ Yj WQ
 refine d0 (df he gG Yj TF R6 s σ H (λvs H1=>∃(a:JO) (ns:List Int),vs=[V.ref a]/\(dS X.K H1 a (ns.map V.int)\/iE X.K H1 a (ns.map V.int))/\ns.length<4000/\Q (.int (gp ns)) H1) I h) λus s1 z_=> ?_
 obtain⟨vs,H1,I1,r1,a,ns,rfl,hx,hl,q⟩:=z_
 obtain⟨u,rfl,ru⟩:=jz r1
 cases ru
 have SH:∀(n:Nat),n=ns.length->∀(h':Ka) (tk:Nat),B6 X.prog X.w h' s1.heap.objs.size ns n->(∀b o,b<s1.heap.objs.size->s1.heap.get? b=some o->h'.get? b=some o)->
   JZ (K2 X.prog X.w) X.A (QK (Ks pos (JS [] X.env))) (λus s2=>JZ (K2 X.prog X.w) X.A (call (.builtin "len") (.ref s1.heap.objs.size::us)) (EP X R6 σ Q) X.xe s2) X.xe {s1 with heap:=h',toks:=tk}:=by
  rintro n rfl h' tk hS hk
  refine Qd ?_
  obtain⟨o,es,ep,t,ho,a0S,hd,VB,UJ,_,hf,XT⟩:=hS
  have a0T:=firstMet_length_le (λi=>ns.getD i 0) ns.length
  refine call_len_set ho a0S hd hf (by rw[XT];omega) ?_
  rw[XT]
  exact⟨.int _,H1,(I1.kept λb o e=>hk b o (K5 e) e).tok _,⟨_,rfl⟩,q⟩
 rcases hx with hx|hx
 ·obtain⟨its,r,ht,hz⟩:=I1.list hx
  have Rt:=r.length
  rw[JR]at Rt
  exact call_set_list (I1.ok.hd hc) ht.isList (jY r) (by rw[JU,<-Rt];unfold Q5;omega) λh' tk a b=>SH _ (by rw[JU,Rt]) h' tk a b
 ·obtain⟨its,r,ht,hz⟩:=I1.tuple hx
  have Rt:=r.length
  rw[JR]at Rt
  exact zE (I1.ok.hd hc) ht (λi v hv=>ud r (by simpa using hv)) (by rw[JU,<-Rt];unfold Q5;omega) λh' tk a b=>SH _ (by rw[JU,Rt]) h' tk a b
end
end L2
namespace L2
open PySem PySem.Spec PyProof.Rows
theorem ce.there {P:K3} {w:Kd} {H:Hp} {h:Ka} {a:JO} {o:HO} (x:ce P w H h a o):∃ob,h.get? a=some ob:=by
 cases o with
 |lst xs=>obtain⟨_,_,_,_,e⟩:=x;exact⟨_,e⟩
 |tup xs=>obtain⟨_,_,_,o,e,_⟩:=x;exact⟨_,e⟩
 |dK kvs=>obtain⟨_,_,_,_,o,_,_,e,_⟩:=x;exact⟨_,e⟩
 |dT kvs=>obtain⟨_,_,_,_,o,_,_,e,_⟩:=x;exact⟨_,e⟩
 |set S n=>obtain⟨o,_,_,_,e,_⟩:=x;exact⟨_,e⟩
 |ins C dx fs=>obtain⟨_,_,_,e,_⟩:=x;exact⟨_,e⟩
 |own y=>obtain⟨_,e⟩:=x;exact⟨_,e⟩
 |xd fs=>obtain⟨_,⟨_,_,_,e,_⟩,_⟩:=x;exact⟨_,e⟩
 |rng lo hi=>obtain⟨_,_,_,e⟩:=x;exact⟨_,e⟩
 |frz ob u=>obtain⟨e,_⟩:=x;exact⟨_,e⟩
 |tbl ps=>exact⟨_,(show h.get? a=some _ from x)⟩
 |met f y=>exact⟨_,(show h.get? a=some _ from x)⟩
 |ext φ=>obtain⟨_,⟨_,e⟩,_⟩:=x;exact⟨_,e⟩
theorem la.none_of {P:K3} {w:Kd} {H:Hp} {h:Ka} {a:JO} (x:la P w H h) (e:h.get? a=none):H a=none:=by
 cases q:H a with
 |none=>rfl
 |some o=>obtain⟨ob,z⟩:=(x a o q).there;rw[e]at z;cases z
structure xb (X:Cx) (R6:List (JO×Kq)) (H:Hp) (b:JO):Prop where
 s0:X.s₀.heap.get? b=none
 no:H b=none
 pin:∀p∈X.pn++R6,p.1≠b
structure Fj (X:Cx) (R6:List (JO×Kq)) (H:Hp) (h:Ka) (a T:JO) (fl:JM):Prop where
 new:xb X R6 H T
 ne:T≠a
 at_:∃oT ts,h.get? T=some oT/\oT.data= .fields ts/\ts[3]? =some fl
structure Fl (X:Cx) (R6:List (JO×Kq)) (H:Hp) (h:Ka) (a:JO) (cls:JM):Prop where
 new:xb X R6 H a
 at_:∃oe vs,h.get? a=some oe/\oe.cls=cls/\oe.data= .fields vs/\(vs[1]? =some .none\/∃T fl,vs[1]? =some (.ref T)/\Fj X R6 H h a T fl/\(fl= .none\/fl=rawInt X.env.locals))
structure Go (X:Cx) (R6:List (JO×Kq)) (H:Hp) (h:Ka) (a:JO) (cls fl:JM):Prop where
 new:xb X R6 H a
 at_:∃oe vs,h.get? a=some oe/\oe.cls=cls/\oe.data= .fields vs/\∃T,vs[1]? =some (.ref T)/\Fj X R6 H h a T fl
abbrev Hh (X:Cx) (R6:List (JO×Kq)) (H:Hp) (h:Ka) (a:JO) (cls:JM):Prop:=Go X R6 H h a cls .none
theorem Go.flo {X:Cx} {R6:List (JO×Kq)} {H:Hp} {h:Ka} {a:JO} {cls fl:JM} (f:Go X R6 H h a cls fl) (hf:fl= .none\/fl=rawInt X.env.locals):Fl X R6 H h a cls:=
 let ⟨oe,vs,h1,h2,h3,T,h4,h5⟩:=f.at_;⟨f.new,oe,vs,h1,h2,h3, .inr ⟨T,fl,h4,h5,hf⟩⟩
theorem Go.fl {X:Cx} {R6:List (JO×Kq)} {H:Hp} {h:Ka} {a:JO} {cls:JM} (f:Go X R6 H h a cls .none):Fl X R6 H h a cls:=f.flo (.inl rfl)
section
variable {X:Cx} {R6:List (JO×Kq)} {σ:St} {H H':Hp} {s s':JP} {a:JO} {cls:JM}
structure jC (X:Cx):Prop where
 st:X.stack=X.env::X.outer
 fr:X.env.frame=some X.env.locals
 ex:X.ex=[]
theorem xb.of (I:aM X R6 σ H s) (p:jC X) {b:JO} (h:s.heap.get? b=none) (hH:H' b=none):xb X R6 H' b:=by
 refine⟨?_,hH,λq hq z=> ?_⟩
 ·cases e:X.s₀.heap.get? b with
  |none=>rfl
  |some o=>
   obtain⟨o',e'⟩:=I.base.there b o e (by rw[p.ex];simp)
   rw[h]at e';cases e'
 ·have:=(I.pin q hq).1
  rw[z,h]at this;cases this
def ym (h B:Ka) (a:JO) (cls fl:JM):Prop:=∃oe vs T oT ts,h.get? a=some oe/\oe.cls=cls/\oe.data= .fields vs/\vs[1]? =some (.ref T)/\B.get? T=none/\T≠a/\h.get? T=some oT/\oT.data= .fields ts/\ts[3]? =some fl
theorem _root_.PySem.Heap.TracedAtW.tl {h B:Ka} {a:JO} {cls a0 fl:JM} (t:h.TracedAtW B a cls a0 fl):ym h B a cls fl:=
 let ⟨oe,vs,T,oT,ts,g1,g2,g3⟩:=t;⟨oe,vs,T,oT,ts,g1,g2.1,g3⟩
theorem sS (I:aM X R6 σ H s) (p:jC X) (fl:Fl X R6 H s.heap a cls):∃(B:Ka) (oe:Kq) (vs:Array JM),s.heap.get? a=some oe/\oe.cls=cls/\oe.data= .fields vs/\s.heap.FunFrames B (X.env::X.outer)/\B.StaysIn s.heap/\B.get? a=none/\
  (vs[1]? =some .none\/∃T oT ts fl,vs[1]? =some (.ref T)/\B.get? T=none/\T≠a/\s.heap.get? T=some oT/\oT.data= .fields ts/\ts[3]? =some fl/\(fl= .none\/fl=rawInt X.env.locals))/\
  ∀h' fl,B.StaysIn h'->ym h' B a cls fl->s.heap.UpToSlots h'->aM X R6 σ H {s with heap:=h'}/\Go X R6 H h' a cls fl:=by
 obtain⟨oe,vs,ge,gc,gd,gt⟩:=fl.at_
 obtain⟨rest,Wu,XU⟩:∃rest:List JO,(∀b∈rest,xb X R6 H b/\∃oT ts,s.heap.get? b=some oT/\oT.data= .fields ts)/\(vs[1]? =some .none\/∃T fl,vs[1]? =some (.ref T)/\Fj X R6 H s.heap a T fl/\(fl= .none\/fl=rawInt X.env.locals)/\T∈rest):=by
  rcases gt with g|⟨T,fl,g,t,Zc⟩
  ·exact⟨[],(λb hb=>by cases hb), .inl g⟩
  ·obtain⟨oT,ts,e1,e2,_⟩:=t.at_
   exact⟨[T],λb hb=>by rw[K7.mp hb];exact⟨t.new,oT,ts,e1,e2⟩, .inr ⟨T,fl,g,t,Zc,K7.mpr rfl⟩⟩
 have Zd:∀b,b∈X.fs->b∈qE X.stack:=λb hb=>by
  rw[p.st]
  unfold qE
  rw[M3,p.fr]
  exact K8 _ hb
 have Ze:X.env.locals∈qE X.stack:=by
  rw[p.st]
  unfold qE
  rw[M3,p.fr]
  exact K6
 have Zf:∀b∈a::rest,xb X R6 H b/\∃oT ts,s.heap.get? b=some oT/\oT.data= .fields ts:=λb hb=>by
  rcases K1.mp hb with rfl|hb
  ·exact⟨fl.new,oe,vs,ge,gd⟩
  ·exact Wu b hb
 have Yk:∀b∈qE X.stack,∃o,s.heap.get? b=some o/\∀vs:Array JM,o.data≠Data.fields vs:=λb hb=>(I.stack.mem hb).2
 have apart:∀b∈a::rest,b∉qE X.stack:=λb hb z=>by
  obtain⟨_,o,ts,e1,e2⟩:=Zf b hb
  obtain⟨o',e3,e4⟩:=Yk b z
  rw[e1]at e3;cases e3
  exact e4 ts e2
 let a06:List JO:=(a::rest)++qE X.stack
 let B:Ka:=Qv s.heap a06
 have ff:s.heap.FunFrames B X.stack:=PySem.W.funFrames_hide I.stack λenv he b hb=>Kr _ (NC.mpr ⟨env,he,hb⟩)
 have hB:B.StaysIn s.heap:=λb o e=>PF _ e
 have WS:B.get? a=none:=Nl _ (L4 _ K6)
 have a0U:s.heap.FunFrames B (X.env::X.outer):=by rw[<-p.st];exact ff
 refine⟨B,oe,vs,ge,gc,gd,a0U,hB,WS,?_,λh' a2j st ⟨a07,Yl,T',Zg,Ym,g1,g2,g3,g4,g5,g6,g7,g8,g9⟩ up=> ?_⟩
 ·rcases XU with g|⟨T,fl,g,t,Zc,hT⟩
  ·exact .inl g
  ·obtain⟨oT,ts,e1,e2,e3⟩:=t.at_
   exact .inr ⟨T,oT,ts,fl,g,Nl _ (L4 _ (K8 _ hT)),t.ne,e1,e2,e3,Zc⟩
 ·have Yn:∀b o,s.heap.get? b=some o->b∉a::rest->b∉qE X.stack->h'.get? b=some o:=λb o e n1 n2=>
   st b o (Ny _ e λz=>(KH.mp z).elim n1 n2)
  have newT:xb X R6 H T':=by
   by_cases hr:T'∈rest
   ·exact(Wu T' hr).1
   ·have hn:s.heap.get? T'=none:=by
     cases e:s.heap.get? T' with
     |none=>rfl
     |some o=>
      by_cases hf:T'∈qE X.stack
      ·obtain⟨o',e3,e4⟩:=Yk T' hf
       obtain⟨sl,e5⟩:=up T' o' e3 e4
       rw[g7]at e5;cases e5
       exact absurd g8 (e4 Ym)
      ·have:=Ny a06 (b:=T') e λz=>(KH.mp z).elim (λq=>(K1.mp q).elim g6 hr) hf
       rw[g5]at this;cases this
    exact xb.of I p hn (I.hok.none_of hn)
  refine⟨I.step (g':=s.gens) (d':=s.drawn) (t':=s.toks) (ch:=a::rest) (λb hb=> ?_) (λb o n1 n2 n3 e _=> ?_) (λb o _ hb n3 e _=> ?_) (λ_ _ _ _ n=>n) (λb o n e=> ?_) (λ_ _ e=>e) (λ_ _ _ e=>e) (λb ps e=>⟨#[],by rw[e];simp⟩) (λm hm=> ?_) (λb u e=> ?_) I.bare,
   ⟨fl.new,a07,Yl,g1,g2,g3,T',g4,newT,g6,Zg,Ym,g7,g8,g9⟩⟩
  ·obtain⟨n,o,ts,e1,e2⟩:=Zf b hb
   refine⟨.inr n.s0,λz=>apart b hb (by rw[z];exact Ze),λx c hc z=> ?_,n.pin⟩
   obtain⟨v,o',e3,e4⟩:=I.cell x c hc
   rw[z,e1]at e3;cases e3
   rw[e2]at e4;cases e4
  ·exact Yn b o e n3 λz=>(K1.mp (I.stkSub b z)).elim n1 n2
  ·obtain⟨o',e3,e4⟩:=Yk b (Zd b hb)
   rw[e]at e3;cases e3
   exact up b o e e4
  ·by_cases hf:b∈qE X.stack
   ·obtain⟨o',e3,e4⟩:=Yk b hf
    rw[e]at e3;cases e3
    obtain⟨sl,e5⟩:=up b o e e4
    exact⟨_,e5⟩
   ·exact⟨o,Yn b o e n hf⟩
  ·obtain⟨o,es,ep,ho,hd,r⟩:=hm
   obtain⟨sl,e5⟩:=up _ o ho λvs z=>by rw[hd]at z;cases z
   exact⟨_,es,ep,e5,hd,r⟩
  ·have nh:∀c v,H c=some v->c∉a::rest/\c∉qE X.stack:=λc v hc=>⟨λz=>(by have:=(Zf c z).1.no;rw[hc]at this;cases this),λz=>(by have:=I.stkFree c z;rw[hc]at this;cases this)⟩
   refine(I.hok b u e).stay (λc v hc q=> ?_) (λ_ q=>q) λ_ _ q=>q
   rcases hc with z|z
   ·rw[z]at q ⊢;exact Yn b v q (nh b u e).1 (nh b u e).2
   ·exact Yn c v q (nh c _ z).1 (nh c _ z).2
theorem B8 {vs:Array JM} {v:JM} (h:vs[1]? =some v):1<vs.size/\∃a0,vs[0]? =some a0:=by
 have V0:1<vs.size:=by
  by_cases z:1<vs.size
  ·exact z
  ·rw[Array.getElem?_eq_none (Oh z)]at h;cases h
 exact⟨V0,vs[0]'(by omega),by simp⟩
theorem vj {Q:Unit->JP->Prop} {E:JM->JP->Prop} (I:aM X R6 σ H s) (p:jC X) (fl:Fl X R6 H s.heap a cls)
  (k:∀h',aM X R6 σ H {s with heap:=h'}->Hh X R6 H h' a cls->Q () {s with heap:=h'}):
  JZ (K2 X.prog X.w) X.A (Q0 (.ref a) X.env) (λ_ s₂=>JZ (K2 X.prog X.w) X.A (setFlight (.ref a) none) Q E s₂) E s:=by
 obtain⟨B,oe,vs,ge,gc,gd,ff,hB,WS,hn,hk⟩:=sS I p fl
 have T9:X.A.frames=some (X.env::X.outer):=by rw[I.ok.frames,p.st]
 rcases hn with g|⟨T,oT,ts,f,g1,g2,g3,g4,g5,g6,g7⟩
 ·obtain⟨V0,a0,h0⟩:=B8 g
  unfold Q0
  rw[p.fr]
  refine JQ (OR (o:=oe) ge (by rw[gd]) g ?_)
  refine wpAny_newEntryW (head:= .none) (hadNext:=false) T9 ff p.fr ge hB WS gd V0 h0 λh' z_=> ?_
  obtain⟨st,_,tr,up⟩:=z_
  rw[gc]at tr
  obtain⟨I',f'⟩:=hk h' _ st tr.at.tl up
  exact k h' I' f'
 ·obtain⟨V0,a0,h0⟩:=B8 g1
  rcases g7 with rfl|rfl
  ·refine wpAny_looks_onW (cls:=cls) (a0:=a0) T9 p.fr ⟨hB,WS,ff,oe,vs,T,oT,ts,ge,⟨gc,h0⟩,gd,g1,g2,g3,g4,g5,g6⟩ λh1 Zh u1=> ?_
   refine wpAny_landsW Zh λh2 ⟨st,_,_,tr⟩ u2=> ?_
   obtain⟨I',f'⟩:=hk h2 _ st tr.at.tl (u1.trans u2)
   exact k h2 I' f'
  ·have tr0:s.heap.TracedAtW B a cls a0 (rawInt X.env.locals):=⟨oe,vs,T,oT,ts,ge,⟨gc,h0⟩,gd,g1,g2,g3,g4,g5,g6⟩
   refine wpAny_noteFrame_againW p.fr tr0 ?_
   refine wpAny_landsW (base:=B) (l:=X.env::X.outer) (L:=X.env.locals) ⟨hB,WS,ff,tr0⟩ λh2 ⟨st,_,_,tr⟩ u2=> ?_
   obtain⟨I',f'⟩:=hk h2 _ st tr.at.tl u2
   exact k h2 I' f'
theorem B9 {Q:Unit->JP->Prop} {E:JM->JP->Prop} (I:aM X R6 σ H s) (p:jC X) (fl:Fl X R6 H s.heap a cls)
  (k:∀h',aM X R6 σ H {s with heap:=h'}->Hh X R6 H h' a cls->Q () {s with heap:=h'}):JZ (K2 X.prog X.w) X.A (leaving X.env (.ref a)) Q E s:=
 JQ (vj I p fl k)
def Jv (g:Ka) (H:Hp) (h:Ka) (a:JO) (cls:JM):Prop:=g.get? a=none/\H a=none/\∃oe vs T oT ts,h.get? a=some oe/\oe.cls=cls/\oe.data= .fields vs/\vs[1]? =some (.ref T)/\g.get? T=none/\H T=none/\T≠a/\
 h.get? T=some oT/\oT.data= .fields ts/\ts[3]? =some .none
def lh (P:K3) (w:Kd):wM:=λouter H s E e s'=>∃a cls H',e= .ref a/\s'.os=s.os/\MV s'.gens/\Un (qE outer) [] H H' s.heap s'.heap/\la P w H' s'.heap/\Jv s.heap H' s'.heap a cls/\E cls (some a) H'
theorem Fk {E:XK} {e:JM} (I:aM X R6 σ H s) (p:jC X) (h:lh X.prog X.w X.stack H s E e s'):∃a cls H',e= .ref a/\aM X R6 σ H' s'/\Fl X R6 H' s'.heap a cls/\E cls (some a) H':=by
 obtain⟨a,cls,H',rfl,os,bare,un,hok,⟨n1,n2,oe,vs,T,oT,ts,g1,g2,g3,g4,g5,g6,g7,g8,g9,a08⟩,q⟩:=h
 refine⟨a,cls,H',rfl,I.call' os un hok bare (λb hb=>by cases hb),⟨xb.of I p n1 n2,oe,vs,g1,g2,g3, .inr ⟨T, .none,g4,⟨xb.of I p g5 g6,g7,oT,ts,g8,g9,a08⟩, .inl rfl⟩⟩,q⟩
theorem rn {CX:wM} {P:K3} {w:Kd} {K:JL} {mg:JN->Option JM} {base:Ka} {N:List JN} {qual:JN} {scope:LL} {f:JO} {cd:JM} {A:Kl} {outer:List Ly} {s:JP} {H:Hp} {E:XK}:
  jC (j3 CX P w K mg base N qual scope f cd A outer s H E):=⟨rfl,rfl,rfl⟩
theorem xc {P:K3} {w:Kd} {K:JL} {mg:JN->Option JM} {base:Ka} {N:List JN} {qual:JN} {scope:LL} {f:JO} {cd:JM} {A:Kl} {outer:List Ly} {s0:JP} {H0:Hp} {E:XK}
  (I:aM (j3 (lh P w) P w K mg base N qual scope f cd A outer s0 H0 E) R6 σ H s) (fl:Fl (j3 (lh P w) P w K mg base N qual scope f cd A outer s0 H0 E) R6 H s.heap a cls) (h:E cls (some a) H):
  (j3 (lh P w) P w K mg base N qual scope f cd A outer s0 H0 E).xe (.ref a) s:=by
 refine B9 I rn fl λh' I' f'=> ?_
 obtain⟨oe,vs,g1,g2,g3,T,g4,t⟩:=f'.at_
 obtain⟨oT,ts,g5,g6,g7⟩:=t.at_
 exact⟨a,cls,H,rfl,I'.os,I'.bare,I'.base,I'.hok,⟨f'.new.s0,f'.new.no,oe,vs,T,oT,ts,g1,g2,g3,g4,t.new.s0,t.new.no,t.ne,g5,g6,g7⟩,h⟩
end
end L2
namespace L2
open PySem PySem.Spec PyProof.Rows
theorem eD {α:Type} {M:Q9} {A:Kl} {t:N5 α} {r:α} {Q:α->JP->Prop} {E:JM->JP->Prop} {s:JP} (l:QU M s.heap t r) (q:Q r s):JZ M A t Q E s:=l A Q E s (λ_ _ e=>e) q
theorem n4 {M:Q9} {h:Ka} {x C:JO} {ox:Kq} (e:h.get? x=some ox) (hc:ox.cls= .ref C):QU M h (typeOf (.ref x)) (.ref C):=λA Q E s k q=>
 JQ (wpAny_loadPart (k _ _ e) (JY (by rw[hc];exact q)))
theorem xf {prog:K3} {w:Kd} {A:Kl} {s:JP} {K:JL} {x C:JO} {R:PK->JP->Prop} {ox:Kq} {tp:JM} (KX:K.In s.heap) (e:s.heap.get? x=some ox) (hc:ox.cls= .ref C) (hm:Kz K C (.type "object")=some true)
  (q:R (.ok (.ret (.ref C))) s):MW (K2 prog w) A (.call (.builtin "getset_descriptor.__get__") {pos:=[.builtin "object.__class__", .ref x,tp]}) R s:=by
 refine Nw Q7.plain PySem.W.KF.entry_gs ?_
 refine Q7.check _ _ _ _ _ _ _ _ PySem.W.KF.type_class (PySem.W.KF.args_gs _ _ _) ?_
 show JZ _ _ (N4 _) _ _ _
 unfold N4
 rw[PySem.W.dga_obj]
 refine JQ (JY ?_)
 dsimp only
 unfold Pw
 dsimp only
 unfold OW OX
 dsimp only
 rw[PySem.W.KF.owner_class]
 refine JQ (JQ (JY ?_))
 refine JQ (JQ (eD (n4 e hc) (eD (Pt KX hm) ?_)))
 refine JY ?_
 refine MO ⟨Q6 _ (by decide+kernel),codeAny_builtin PySem.W.KF.entry_class ?_⟩
 show JZ _ _ (do let t<-shownTypeOf (.ref x);ret t) _ _ _
 unfold shownTypeOf
 refine JQ (JQ (eD (n4 e hc) ?_))
 rw[if_neg (by intro z;exact absurd z (by simp))]
 exact JY (MO q)
theorem Dq {prog:K3} {w:Kd} {A:Kl} {E:JM->JP->Prop} {s:JP} {K:JL} {x C:JO} {ox:Kq} {Q:Option JM->JP->Prop} (KX:K.In s.heap) (e:s.heap.get? x=some ox) (hc:ox.cls= .ref C)
  (h1:K4 K (.ref C) "__getattribute__"=some (some (.builtin "BaseException.__getattribute__"))) (h2:K4 K (.ref C) "__getattr__"=some none) (h3:K4 K (.ref C) "__class__"=some (some (.builtin "object.__class__")))
  (h4:Mh K (.builtin "object.__class__") "__get__"=some (some (.builtin "getset_descriptor.__get__"))) (h5:MI K (.builtin "object.__class__")=some true) (h6:Kz K C (.type "object")=some true) (h7:Kz K C (.type "BaseException")=some true)
  (q:Q (some (.ref C)) {s with toks:=s.toks+1}):JZ (K2 prog w) A (getAttr? (.ref x) "__class__") Q E s:=by
 unfold getAttr?
 refine JQ (wpAny_mkText ?_)
 unfold getAttrBy?
 refine JQ (wpAny_attempt ?_)
 unfold getAttrBy
 refine KO (JQ (eD (n4 e hc) (JQ (eD (Mt KX h1) ?_))))
 dsimp only
 rw[if_neg (by rw[show (MA "BaseException.__getattribute__"==MA "object.__getattribute__")=false by decide+kernel,QM];simp)]
 unfold getAttrByItsOwn hookBefore
 refine JQ ?_
 rw[if_pos (by rfl)]
 refine eD (Mt KX h2) ?_
 refine JQ (wpAny_attempt (KO ?_))
 unfold callGetattribute
 rw[if_neg (by simp)]
 unfold boundAndCalled
 rw[F.attrBase_ValueError.ga.bind]
 refine JQ (JY ?_)
 dsimp only
 refine O1 (Nw F.attrBase_ValueError.ga.plain F.entry_bexc_ga ?_)
 show JZ _ _ (checkBuiltinCall "BaseException.__getattribute__" {pos:=Kk x::[Nh (MS "__class__") s.toks],kw:=[]}) _ _ _
 refine PySem.W.check_slot (i:="BaseException.__getattribute__") (owner:="BaseException") (n:="__getattribute__") Ot._proof_1_1 Ot._proof_1_2 (λA Q E s k q=>JQ (n4 e hc A _ E s k (Pt KX h7 A _ E s k q))) (F.args_bexc_ga _ _) ?_
 unfold NB.«object.__getattribute__»
 refine JQ (JY (a:=(Kk x,[Nh (MS "__class__") s.toks])) ?_)
 dsimp only
 refine JQ (JY (a:=MS "__class__") ?_)
 refine JQ (eD (n4 e hc) ?_)
 refine JQ ?_
 unfold R0
 refine JQ (eD (Mt KX h3) ?_)
 refine JQ ?_
 show JZ _ _ (specialOf _ _) _ _ _
 refine eD (PySem.W.looks_specialIn KX h4) ?_
 refine JQ ?_
 show JZ _ _ (do let b<-QH (MA "object.__class__");if b=true then pure (some (MA "getset_descriptor.__get__",MA "object.__class__"))else pure none) _ _ _
 refine JQ (eD (PySem.W.looks_takesIn KX h5) ?_)
 rw[if_pos rfl]
 refine JY ?_
 dsimp only
 refine JQ (QE (JY ?_))
 dsimp only
 unfold QX
 dsimp only
 refine JQ (KO (O1 (xf KX e hc h6 ?_)))
 refine MO ?_
 exact PySem.W.handed_on (by rfl) (JY q)
def vm:List JM:=[.type "ValueError", .type "Exception", .type "BaseException", .type "object"]
structure ue (K:JL) (C:JO):Prop where
 exc:∃TZ Bn a09 a0a,L3 K C vm TZ=true/\ExcBaseFacts Bn TZ a09 a0a/\vm.contains (.type Bn)=true
 ga:K4 K (.ref C) "__getattribute__"=some (some (.builtin "BaseException.__getattribute__"))
 gt:K4 K (.ref C) "__getattr__"=some none
 kc:K4 K (.ref C) "__class__"=some (some (.builtin "object.__class__"))
 sp:Mh K (.builtin "object.__class__") "__get__"=some (some (.builtin "getset_descriptor.__get__"))
 tk:MI K (.builtin "object.__class__")=some true
 mo:Kz K C (.type "object")=some true
 mb:Kz K C (.type "BaseException")=some true
 kk:Mn K (.ref C) (.ref C)=some true
theorem yn {K:JL} {h:Ka} {C:JO} {W9:List JM} {TZ:String} (KX:K.In h) (e:L3 K C W9 TZ=true):∃bm N nm q bs hdct sn sub ab col dd k0 k1 k2 k3 k5 mN,
  h.get? C=some (excClassObj nm q C N bs bm hdct sn sub ab col dd k0 k1 k2 k3 k5 TZ)/\h.Ns N mN/\mN (MS "__init__")=none/\OwnTail h W9 bm:=by
 unfold L3 at e
 split at e
 ·split at e
  ·rename_i dd cd sl lk _ _ C' bm k0 k1 k2 k3 n k5 e1 e2
   simp only[L7]at e
   obtain⟨⟨⟨⟨⟨a1,a2⟩,a3⟩,a4⟩,a5⟩,a6⟩:=e
   have b1:C'=C:=eq_of_beq a1
   have b2:n=TZ:=eq_of_beq a2
   subst b1 b2
   have g:=KX _ _ lk
   have a0V:sl= #[k0,k1,k2,k3,some (MA n),k5]:=by rw[<-Array.toList_inj];exact e2
   have XW:cd.hasDel=false:=by simpa using a3
   obtain⟨nm,bs,mro,N,q,hd,sn,sb,ab,col,a2k⟩:=cd
   dsimp only at e1 XW a4 a5 a6
   subst e1 a0V XW
   exact⟨bm,N,nm,q,bs,hd,sn,sb,ab,col,dd,k0,k1,k2,k3,k5,_,g,Heap.Ns.of_isNs (PySem.W.isNs_of_in KX a5),PySem.W.nsMap_none_of_in KX a5 (eq_of_beq a6),PySem.W.tail_of_in KX a4⟩
  ·cases e
 ·cases e
theorem Ba {K:JL} {x C:JO} (k:ue K C):PySem.W.KitX K (.ref x) (.ref C) λh=>∃ox,h.get? x=some ox/\ox.cls= .ref C where
 ty:=λM h _ ⟨ox,e,hc⟩=>n4 e hc
 it:=λM h KX _=>(PySem.W.kit_cls KX k.kk).2.1
 ne:=λh tp dd its n sl KX e=>by
  cases z:(Kk C==Kk tp)with
  |false=>rfl
  |true=>
   have ez:Kk C=Kk tp:=eq_of_beq z
   cases ez
   obtain⟨TZ,_,_,_,ei,_⟩:=k.exc
   obtain⟨bm,N,nm,q,bs,hd,sn,sb,ab,col,dd,k0,k1,k2,k3,k5,mN,g,_⟩:=yn KX ei
   rw[e]at g
   exact absurd (congrArg Obj.data (KQ g)) (λz=>by cases z)
 ca:=λ{prog w A E Q s} KX ⟨ox,e,hc⟩ q=>Dq KX e hc k.ga k.gt k.kc k.sp k.tk k.mo k.mb q
end L2
namespace L2
open PySem PySem.Spec PyProof.Rows
section
variable {X:Cx} {R6:List (JO×Kq)} {σ:St} {H:Hp} {s:JP} {a:JO} {cls:JM} {x:JN} {np Rm pos:KC} {e:JW} {es:List JW} {t:TA} {C:JO}
def Bb (X:Cx) (C:JO) (t:TA):TS:=λ_ σ H=>t σ H λvs H1=>vs.length<=sizeLine/\∀R6 s a,aM X R6 σ H1 s->Fl X R6 H1 s.heap a (.ref C)->X.xe (.ref a) s
theorem Dr {h':Ka} {vs:List JM} (I:aM X R6 σ H s) (p:jC X) (m:s.heap.MadeExcOf h' a cls vs):aM X R6 σ H {s with heap:=h'}/\Fl X R6 H h' a cls:=by
 obtain⟨tp,g1,g2,g3⟩:=m.there
 exact⟨I.kept (t':=s.toks) m.keeps,xb.of I p m.new (I.hok.none_of m.new),_,_,g1,rfl,rfl, .inl rfl⟩
theorem Bc (k:ue X.K C) (hm:X.mg x=some (.ref C)) (p:jC X) (hc:X.calm=true) (ha:PA X (e::es) t) (hg:Gl X x:=by rfl) (T8:(x==("__debug__":JN))=false:=by decide)
  (he:JS (e::es) X.env=(false,Kb e X.env)::JS es X.env:=by rfl) (Sm:(Ks Rm (JS es X.env)).any (·.1)=false:=by rfl):PS X (.Raise (some (.Call (.Name x np) (e::es) [] Rm)) none pos) (Bb X C t):=by
 intro R6 s σ H D I h
 obtain⟨TZ,Bn,a09,a0a,ei,fB,hB⟩:=k.exc
 obtain⟨bm,N,nm,q,bs,hd,sn,sb,ab,col,dd,k0,k1,k2,k3,k5,mN,g,ns,ni,tl⟩:=yn I.ok.mod.kin ei
 have W0:Ks Rm (JS (e::es) X.env)=(false,Kb e X.env)::Ks Rm (JS es X.env):=by rw[he];rfl
 refine wpAny_Raise_call_subU (nm:=nm) (q:=q) (C:=C) (N:=N) (bs:=bs) (hdct:=hd) (sn:=sn) (sub:=sb) (ab:=ab) (col:=col) (dd:=dd) (k0:=k0) (k1:=k1) (k2:=k2) (k3:=k3) (k5:=k5) fB hB F.excBase_ValueError (tl.hasType (by decide)) (I.ok.hd hc) (by rw[W0];exact Sm) ni (nN I hg hm ⟨rfl,?_⟩ T8)
 rw[W0]
 refine Mv ?_
 rw[<-W0]
 refine d0 (ha Rm R6 s σ H _ I h) λus s1 ⟨vs,H1,I1,r,z,q1⟩=>⟨rfl,by rw[<-r.length];exact z,I1.bk _ _ g,ns.keeps I1.bk,tl.keeps I1.bk,λh' a m=> ?_⟩
 obtain⟨I2,f2⟩:=Dr I1 p m
 exact q1 R6 _ a I2 f2
abbrev Cx.inH (X:Cx) (v:JM):Cx:={X with A:=X.A.mark (some v),calm:=false,xe:=λ_ _=>False}
theorem Cx.Ok.inH {v:JM} (ok:X.Ok):(X.inH v).Ok:=⟨ok.mod,ok.kind,ok.glob,ok.blt,ok.above,ok.inj,ok.has,ok.cab,(λz=>by cases z),ok.frames,ok.stk,ok.exf,ok.bs,ok.bsz,ok.noex,ok.exfs,ok.funs,ok.frf⟩
theorem aM.inH {v:JM} (I:aM X R6 σ H s):aM (X.inH v) R6 σ H s:=⟨I.ok.inH,I.os,I.bare,I.base,I.loc,I.cell,I.free,I.freeC,I.pin,I.hok,I.len⟩
theorem aM.outH {v:JM} (ok:X.Ok) (I:aM (X.inH v) R6 σ H s):aM X R6 σ H s:=⟨ok,I.os,I.bare,I.base,I.loc,I.cell,I.free,I.freeC,I.pin,I.hok,I.len⟩
theorem aM.track {o:HO} {oa:Kq} {vs:Array JM} (I:aM X R6 σ H s) (n:xb X R6 H a) (ga:s.heap.get? a=some oa) (gd:oa.data= .fields vs) (new:ce X.prog X.w (bY H a o) s.heap a o):aM X R6 σ (bY H a o) s:=by
 have ne:∀b u,H b=some u->b≠a:=λb u e z=>by rw[z,n.no]at e;cases e
 have Wn:X.env.locals≠a:=λz=>by
  obtain⟨m,⟨o,es,ep,ho,hd,_⟩,_⟩:=I.loc
  rw[z,ga]at ho;cases ho
  rw[gd]at hd;cases hd
 have neC:∀y c,X.env.cells.lookup y=some c->c≠a:=λy c e z=>by
  obtain⟨v,o,ho,hd⟩:=I.cell y c e
  rw[z,ga]at ho;cases ho
  rw[gd]at hd;cases hd
 refine⟨I.ok,I.os,I.bare,⟨I.base.keep,I.base.slot,λb o e n' hx=> ?_,I.base.there,λb xs e=> ?_,λb o u e=> ?_,λb ps e=> ?_⟩,I.loc,I.cell,by rw[ay Wn];exact I.free,λy c e=>by rw[ay (neC y c e)];exact I.freeC y c e,λp hp=> ?_,λb u e=> ?_,I.len⟩
 ·rw[ay (λz=>by rw[z,n.s0]at e;cases e)];exact I.base.free b o e n' hx
 ·have q:=I.base.tups b xs e
  rw[ay (ne b _ q)];exact q
 ·have q:=I.base.frzs b o u e
  rw[ay (ne b _ q)];exact q
 ·obtain⟨more,q⟩:=I.base.tbls b ps e
  exact⟨more,by rw[ay (ne b _ q)];exact q⟩
 ·obtain⟨e,n',r⟩:=I.pin p hp
  exact⟨e,by rw[ay (n.pin p hp)];exact n',r⟩
 ·by_cases z:b=a
  ·subst z;rw[aH]at e;cases e;exact new
  ·rw[ay z]at e
   refine(I.hok b u e).stay (λ_ _ _ q=>q) (λc q=> ?_) λc xs q=> ?_
   ·rw[ay (ne c _ q)];exact q
   ·rw[ay (ne c _ q)];exact q
theorem zH {M:Q9} {A:Kl} {E:JM->JP->Prop} {i:Nat} {n:JN} {Q:Unit->JP->Prop} (I:aM X R6 σ H s) (hN:X.N.Nodup) (hi:X.N[i]? =some n) (hk:X.env.kindOf n=some .local)
  (k:∀s',aM X R6 (σ.set i none) H s'->Q () s'):JZ M A (do bindName X.env n KU;Nx X.env n pos) Q E s:=by
 obtain⟨m,hn,hl⟩:=id I.loc
 refine wpAny_nameGoes_keeps hk hn (by rw[I.ok.kind];rfl) λh' v Yz hs=>k _ ?_
 have Wn:∀b o,X.s₀.heap.get? b=some o->b≠X.env.locals:=λb o e=>Ku (Kt (K5 e) I.ok.above)
 refine⟨I.ok,I.os,I.bare,⟨λb o e n hb hx=>(hs.2 b (Wn b o e)).trans (I.base.keep b o e n hb hx),λb o e n hb hx=> ?_,I.base.free,λb o e hx=> ?_,I.base.tups,I.base.frzs,I.base.tbls⟩,⟨_,Yz,λj y v' e1 e2 e3=> ?_⟩,λy c e=> ?_,I.free,I.freeC,λp hp=> ?_,λb u e=> ?_,by simpa using I.len⟩
 ·obtain⟨sl,e1⟩:=I.base.slot b o e n hb hx
  exact⟨sl,(hs.2 b (Wn b o e)).trans e1⟩
 ·obtain⟨o',e1⟩:=I.base.there b o e hx
  exact⟨o',(hs.2 b (Wn b o e)).trans e1⟩
 ·by_cases hj:j=i
  ·subst hj
   rw[LW]at e2
   split at e2
   ·split at e2<;>cases e2
   ·exact absurd rfl ‹_›
  ·rw[Nn (Lz hj)]at e2
   obtain⟨u',r',q⟩:=hl j y v' e1 e2 e3
   refine⟨u',r',?_⟩
   have ny:y≠n:=λe=>hj (qS hN e1 (e▸hi))
   rcases q with ⟨k,e⟩|⟨k,c,e,z⟩
   ·exact .inl ⟨k,by show (if y=n then v else m y)=_;rw[if_neg ny];exact e⟩
   ·exact .inr ⟨k,c,e,z.sameBut hs (I.cne y c e)⟩
 ·obtain⟨w',z⟩:=I.cell y c e
  exact⟨w',z.sameBut hs (I.cne y c e)⟩
 ·obtain⟨e,n,ne,nf,d⟩:=I.pin p hp
  exact⟨(hs.2 p.1 ne).trans e,n,ne,nf,d⟩
 ·refine(I.hok b u e).stay (λc v hc q=>(hs.2 c ?_).trans q) (λ_ q=>q) λ_ _ q=>q
  rintro rfl
  have:=I.free
  rcases hc with z|z
  ·rw[<-z,this]at e;cases e
  ·rw[this]at z;cases z
def jD (a:JO) (cls:JM):Ka->Prop:=λh=>∃o,h.get? a=some o/\o.cls=cls
theorem zI {P:K3} {w:Kd} {h:Ka} (e:jD a cls h):ce P w H h a (.ext (jD a cls)):=by
 obtain⟨o,h1,h2⟩:=e
 exact⟨⟨o,h1,h2⟩,⟨o,h1⟩,λg1 g2 ⟨o',e1,e2⟩ k=>⟨o',k _ e1,e2⟩⟩
theorem Fn (I:aM X R6 σ H s) (p:jC X) (fl:Hh X R6 H s.heap a cls) {Q:Unit->JP->Prop} {E:JM->JP->Prop} {A:Kl}
  (k:∀h',aM X R6 σ H {s with heap:=h'}->Hh X R6 H h' a cls->Q () {s with heap:=h'}):JZ (K2 X.prog X.w) A (setFlight (.ref a) none) Q E s:=by
 obtain⟨B,oe,vs,ge,gc,gd,ff,hB,WS,hn,hk⟩:=sS I p fl.fl
 obtain⟨a07,Yl,e1,e2,e3,T',e4,SJ⟩:=fl.at_
 rw[ge]at e1;cases e1
 rw[gd]at e3;cases e3
 obtain⟨Zg,Ym,q1,q2,q3⟩:=SJ.at_
 rcases hn with g|⟨T,oT,ts,f,g1,g2,g3,g4,g5,g6,g7⟩
 ·rw[g]at e4;cases e4
 ·rw[e4]at g1;cases g1
  obtain⟨V0,a0,h0⟩:=B8 e4
  refine lands_againW (base:=B) (l:=X.env::X.outer) (cls:=cls) (a0:=a0) ⟨hB,WS,ff,oe,vs,T',Zg,Ym,ge,⟨gc,h0⟩,gd,e4,g2,g3,q1,q2,q3⟩ λh2 ⟨st,_,_,tr⟩ up=> ?_
  obtain⟨I',f'⟩:=hk h2 _ st tr.at.tl up
  exact k h2 I' f'
theorem zJ {a0b:JO} {cx n:JN} {i:Nat} {VI:KC} {b₀:Ke} {UD:List Ke} {rest:List ExceptHandler} {Q:Flow->JP->Prop} {E:JM->JP->Prop} (I:aM X R6 σ H s) (p:jC X) (fl:Hh X R6 H s.heap a (.ref C)) (hN:X.N.Nodup) (hi:X.N[i]? =some n)
  (hk:X.env.scope.names.lookup n=some .local) (hg:Gl X cx) (hm:X.mg cx=some (.ref a0b)) (hx:Mp X.K (.ref C) (.ref a0b)=some true) (T8:(cx==("__debug__":JN))=false)
  (k:∀s',aM (X.inH (.ref a)) R6 (σ.set i (some (.ref a))) (bY H a (.ext (jD a (.ref C)))) s'->
   JZ (K2 X.prog X.w) (X.inH (.ref a)).A (execs (b₀::UD) X.env) (λf s3=>JZ (K2 X.prog X.w) X.A (do bindName X.env n KU;Nx X.env n VI) (λ_ s5=>Q f s5) E s3) (λ_ _=>False) s'):
  JZ (K2 X.prog X.w) X.A (handleBy (.ref a) X.env (.ExceptHandler (some (.Name cx np)) (some n) (b₀::UD) VI::rest)) Q E s:=by
 refine wpAny_handleBy_cons (codeAny_handlers_test ?_) (by intro z;cases z)
 refine nN (X:=X.inH (.ref a)) I.inH hg hm ?_ T8
 obtain⟨oe,vs,ge,gc,gd,_⟩:=fl.at_
 refine eD (PySem.W.exm_one I.kIn (n4 ge gc) hx) ?_
 rw[if_pos rfl]
 refine codeAny_handlers_suite_as ?_
 refine Fn I p fl λh2 I2 f2=> ?_
 obtain⟨oe,vs,ge,gc,gd,_⟩:=f2.at_
 have I3:aM X R6 σ (bY H a (.ext (jD a (.ref C)))) {s with heap:=h2}:=I2.track f2.new ge gd (zI ⟨oe,ge,gc⟩)
 refine qT (X:=X.inH (.ref a)) I3.inH hN hi (.inl hk) (v:= .ref a) rfl (λs' I'=> ?_) (.inr hk)
 exact LC (k s' I') (λf s3 q=>q) λ_ _ z=>z.elim
end
end L2
namespace L2
open PySem PySem.Spec PyProof.Rows
section
variable {X:Cx} {scope:LL} {s:JP} {H:Hp} {ex:List JO} {E:JM->JP->Prop} {Th:List (JO×Kq)} {τ:St} {H':Hp} {s':JP}
end
section
variable {X:Cx} {TY tg RB:JW} {Tz:List JW} {scope:LL} {pos:KC} {wi:TI} {g:TG} {tt:TT} {te:TE}
end
end L2
namespace L2.Pu
open PySem PySem.Spec PyProof.Rows
structure fj where
 x:Nat
 C:JO
 fl:List (JN×Nat)
variable {ly:List fj}
inductive D where
 |non|bl (b:Bool)|int (i:Int)|str (x:JN)|tup (ds:List D)|lst (ds:List D)|dic (Ta:List (cI×D))|ins (x:JN) (fs:List (JN×D))|scr (ns:List Int)|exc (x:JN)
mutual
inductive dR (K:JL) (F:Hp):V->D->Prop
 |non:dR K F .non .non
 |bl (b:Bool):dR K F (.bl b) (.bl b)
 |int (i:Int):dR K F (.int i) (.int i)
 |str (x:JN):dR K F (.str x) (.str x)
 |tup {a:JO} {vs:List V} {ds:List D}:F a=some (.tup vs)->Reps K F vs ds->dR K F (.ref a) (.tup ds)
 |lst {a:JO} {vs:List V} {ds:List D}:F a=some (.lst vs)->Reps K F vs ds->dR K F (.ref a) (.lst ds)
 |scr {a:JO} {ns:List Int}:dS K F a (ns.map V.int)->dR K F (.ref a) (.scr ns)
 |dic {a:JO} {kvs:List (cI×V)} {Ta:List (cI×D)}:F a=some (.dK kvs)->RepK K F kvs Ta->(kvs.map (·.1)).Nodup->dR K F (.ref a) (.dic Ta)
 |ins {a C dx:JO} {x:JN} {fs vs:List (JN×V)} {fds:List (JN×D)}:F a=some (.ins C dx fs)->F dx=some (.own a)->K0 K JX x=some (some (.ref C))->(∀p∈vs,fs.lookup p.1=some p.2)->(∀f v,fs.lookup f=some v->f∈vs.map (·.1))->RepF K F vs fds->dR K F (.ref a) (.ins x fds)
 |exc {a C:JO} {x:JN}:F a=some (.ext (jD a (.ref C)))->K0 K JX x=some (some (.ref C))->dR K F (.ref a) (.exc x)
inductive Reps (K:JL) (F:Hp):List V->List D->Prop
 |nil:Reps K F [] []
 |cons {v:V} {d:D} {vs:List V} {ds:List D}:dR K F v d->Reps K F vs ds->Reps K F (v::vs) (d::ds)
inductive RepK (K:JL) (F:Hp):List (cI×V)->List (cI×D)->Prop
 |nil:RepK K F [] []
 |cons {k:cI} {v:V} {d:D} {vs:List (cI×V)} {ds:List (cI×D)}:dR K F v d->RepK K F vs ds->RepK K F ((k,v)::vs) ((k,d)::ds)
inductive RepF (K:JL) (F:Hp):List (JN×V)->List (JN×D)->Prop
 |nil:RepF K F [] []
 |cons {k:JN} {v:V} {d:D} {vs:List (JN×V)} {ds:List (JN×D)}:dR K F v d->RepF K F vs ds->RepF K F ((k,v)::vs) ((k,d)::ds)
end
theorem nY {K:JL} {F F':Hp} {a:JO} {xs:List V} (e:b8 F F') (h:dS K F a xs):dS K F' a xs:=e.seq h
theorem dR.mono {K:JL} {F F':Hp} (e:b8 F F') {v:V} {d:D} (h:dR K F v d):dR K F' v d:=
 dR.rec (motive_1:=λv d _=>dR K F' v d) (motive_2:=λv d _=>Reps K F' v d) (motive_3:=λv d _=>RepK K F' v d) (motive_4:=λv d _=>RepF K F' v d) .non .bl .int .str (λh _ r=> .tup (e _ _ h) r) (λh _ r=> .lst (e _ _ h) r) (λh=> .scr (nY e h)) (λh _ n r=> .dic (e _ _ h) r n) (λh h2 n l1 l2 _ r=> .ins (e _ _ h) (e _ _ h2) n l1 l2 r) (λh n=> .exc (e _ _ h) n) .nil (λ_ _ a b=> .cons a b) .nil (λ_ _ a b=> .cons a b) .nil (λ_ _ a b=> .cons a b) h
theorem Reps.mono {K:JL} {F F':Hp} (e:b8 F F') {v:List V} {d:List D} (h:Reps K F v d):Reps K F' v d:=
 Reps.rec (motive_1:=λv d _=>dR K F' v d) (motive_2:=λv d _=>Reps K F' v d) (motive_3:=λv d _=>RepK K F' v d) (motive_4:=λv d _=>RepF K F' v d) .non .bl .int .str (λh _ r=> .tup (e _ _ h) r) (λh _ r=> .lst (e _ _ h) r) (λh=> .scr (nY e h)) (λh _ n r=> .dic (e _ _ h) r n) (λh h2 n l1 l2 _ r=> .ins (e _ _ h) (e _ _ h2) n l1 l2 r) (λh n=> .exc (e _ _ h) n) .nil (λ_ _ a b=> .cons a b) .nil (λ_ _ a b=> .cons a b) .nil (λ_ _ a b=> .cons a b) h
theorem RepK.mono {K:JL} {F F':Hp} (e:b8 F F') {v:List (cI×V)} {d:List (cI×D)} (h:RepK K F v d):RepK K F' v d:=
 RepK.rec (motive_1:=λv d _=>dR K F' v d) (motive_2:=λv d _=>Reps K F' v d) (motive_3:=λv d _=>RepK K F' v d) (motive_4:=λv d _=>RepF K F' v d) .non .bl .int .str (λh _ r=> .tup (e _ _ h) r) (λh _ r=> .lst (e _ _ h) r) (λh=> .scr (nY e h)) (λh _ n r=> .dic (e _ _ h) r n) (λh h2 n l1 l2 _ r=> .ins (e _ _ h) (e _ _ h2) n l1 l2 r) (λh n=> .exc (e _ _ h) n) .nil (λ_ _ a b=> .cons a b) .nil (λ_ _ a b=> .cons a b) .nil (λ_ _ a b=> .cons a b) h
theorem RepF.mono {K:JL} {F F':Hp} (e:b8 F F') {v:List (JN×V)} {d:List (JN×D)} (h:RepF K F v d):RepF K F' v d:=
 RepF.rec (motive_1:=λv d _=>dR K F' v d) (motive_2:=λv d _=>Reps K F' v d) (motive_3:=λv d _=>RepK K F' v d) (motive_4:=λv d _=>RepF K F' v d) .non .bl .int .str (λh _ r=> .tup (e _ _ h) r) (λh _ r=> .lst (e _ _ h) r) (λh=> .scr (nY e h)) (λh _ n r=> .dic (e _ _ h) r n) (λh h2 n l1 l2 _ r=> .ins (e _ _ h) (e _ _ h2) n l1 l2 r) (λh n=> .exc (e _ _ h) n) .nil (λ_ _ a b=> .cons a b) .nil (λ_ _ a b=> .cons a b) .nil (λ_ _ a b=> .cons a b) h
section
variable {K:JL} {F:Hp}
def Bd (K:JL) (F:Hp) (v:V):D->Prop
 | .non=>v= .non
 | .bl b=>v= .bl b
 | .int i=>v= .int i
 | .str x=>v= .str x
 | .tup ds=>∃a vs,v= .ref a/\F a=some (.tup vs)/\Reps K F vs ds
 | .lst ds=>∃a vs,v= .ref a/\F a=some (.lst vs)/\Reps K F vs ds
 | .scr ns=>∃a,v= .ref a/\dS K F a (ns.map V.int)
 | .dic Ta=>∃a kvs,v= .ref a/\F a=some (.dK kvs)/\RepK K F kvs Ta/\(kvs.map (·.1)).Nodup
 | .ins x fds=>∃a C dx fs vs,v= .ref a/\F a=some (.ins C dx fs)/\K0 K JX x=some (some (.ref C))/\(∀p∈vs,fs.lookup p.1=some p.2)/\(∀f v,fs.lookup f=some v->f∈vs.map (·.1))/\RepF K F vs fds
 | .exc x=>∃a C,v= .ref a/\F a=some (.ext (jD a (.ref C)))/\K0 K JX x=some (some (.ref C))
theorem dR.inv {v:V} {d:D} (h:dR K F v d):Bd K F v d:=by
 cases h with
 |non=>exact rfl
 |bl=>exact rfl
 |int=>exact rfl
 |str=>exact rfl
 |tup h r=>exact⟨_,_,rfl,h,r⟩
 |lst h r=>exact⟨_,_,rfl,h,r⟩
 |scr h=>exact⟨_,rfl,h⟩
 |dic h r n=>exact⟨_,_,rfl,h,r,n⟩
 |ins h1 _ h3 h4 h5 h6=>exact⟨_,_,_,_,_,rfl,h1,h3,h4,h5,h6⟩
 |exc h n=>exact⟨_,_,rfl,h,n⟩
theorem RepK.nilI {vs:List (cI×V)} (h:RepK K F vs []):vs=[]:=by cases h;rfl
theorem RepK.consI {vs:List (cI×V)} {k:cI} {d:D} {ds:List (cI×D)} (h:RepK K F vs ((k,d)::ds)):∃v us,vs=(k,v)::us/\dR K F v d/\RepK K F us ds:=by
 cases h with
 |cons r t=>exact⟨_,_,rfl,r,t⟩
theorem Reps.nilI {vs:List V} (h:Reps K F vs []):vs=[]:=by cases h;rfl
theorem Reps.consI {vs:List V} {d:D} {ds:List D} (h:Reps K F vs (d::ds)):∃v us,vs=v::us/\dR K F v d/\Reps K F us ds:=by
 cases h with
 |cons r t=>exact⟨_,_,rfl,r,t⟩
theorem dR.intI {v:V} {i:Int} (h:dR K F v (.int i)):v= .int i:=h.inv
theorem dR.tupI {v:V} {ds:List D} (h:dR K F v (.tup ds)):∃a vs,v= .ref a/\F a=some (.tup vs)/\Reps K F vs ds:=h.inv
theorem Reps.int1 {vs:List V} {i:Int} (h:Reps K F vs [.int i]):vs=[.int i]:=by
 obtain⟨v,us,rfl,r,t⟩:=h.consI
 rw[t.nilI,r.intI]
theorem Reps.length:∀{vs:List V} {ds:List D},Reps K F vs ds->vs.length=ds.length:=by
 intro vs ds
 induction ds generalizing vs with
 |nil=>intro h;rw[h.nilI];rfl
 |cons d ds ih=>
  intro h
  obtain⟨v,us,rfl,_,t⟩:=h.consI
  rw[Kh,Kh,ih t]
theorem RepK.length:∀{vs:List (cI×V)} {ds:List (cI×D)},RepK K F vs ds->vs.length=ds.length:=by
 intro vs ds
 induction ds generalizing vs with
 |nil=>intro h;rw[h.nilI];rfl
 |cons d ds ih=>
  intro h
  obtain⟨v,us,rfl,_,t⟩:=RepK.consI (k:=d.1) (d:=d.2) h
  rw[Kh,Kh,ih t]
theorem Reps.append:∀{vs us:List V} {ds es:List D},Reps K F vs ds->Reps K F us es->Reps K F (vs++us) (ds++es):=by
 intro vs us ds
 induction ds generalizing vs with
 |nil=>intro es h g;rw[h.nilI];exact g
 |cons d ds ih=>
  intro es h g
  obtain⟨v,us,rfl,r,t⟩:=h.consI
  exact .cons r (ih t g)
theorem Reps.get:∀{vs:List V} {ds:List D} {i:Nat} {d:D},Reps K F vs ds->ds[i]? =some d->∃v,vs[i]? =some v/\dR K F v d
 |_,_,_,_, .nil,h=>by simp at h
 |_,_,0,_, .cons r t,h=>by simp at h;subst h;exact⟨_,rfl,r⟩
 |_,_,i+1,_, .cons r t,h=>by
  obtain⟨v,h1,h2⟩:=t.get (i:=i) (by simpa using h)
  exact⟨v,by simpa using h1,h2⟩
theorem Reps.get':∀{vs:List V} {ds:List D} {i:Nat} {v:V},Reps K F vs ds->vs[i]? =some v->∃d,ds[i]? =some d/\dR K F v d
 |_,_,_,_, .nil,h=>by simp at h
 |_,_,0,_, .cons r t,h=>by simp at h;subst h;exact⟨_,rfl,r⟩
 |_,_,i+1,_, .cons r t,h=>by
  obtain⟨v,h1,h2⟩:=t.get' (i:=i) (by simpa using h)
  exact⟨v,by simpa using h1,h2⟩
theorem Reps.set:∀{vs:List V} {ds:List D} {v:V} {d:D} (i:Nat),Reps K F vs ds->dR K F v d->Reps K F (vs.set i v) (ds.set i d)
 |_,_,_,_,_, .nil,_=> .nil
 |_,_,_,_,0, .cons r t,h=> .cons h t
 |_,_,_,_,i+1, .cons r t,h=> .cons r (t.set i h)
theorem Reps.drop:∀{vs:List V} {ds:List D} (i:Nat),Reps K F vs ds->Reps K F (vs.drop i) (ds.drop i)
 |_,_,0,h=>h
 |_,_,_+1, .nil=> .nil
 |_,_,i+1, .cons r t=>t.drop i
theorem Reps.take:∀{vs:List V} {ds:List D} (i:Nat),Reps K F vs ds->Reps K F (vs.take i) (ds.take i)
 |_,_,0,h=> .nil
 |_,_,_+1, .nil=> .nil
 |_,_,i+1, .cons r t=> .cons r (t.take i)
theorem Reps.reverse {vs:List V} {ds:List D} (h:Reps K F vs ds):Reps K F vs.reverse ds.reverse:=by
 induction h using Reps.rec (motive_1:=λ_ _ _=>True) (motive_3:=λ_ _ _=>True) (motive_4:=λ_ _ _=>True)with
 |nil=>exact .nil
 |cons r t _ ih=>rw[N1,N1];exact ih.append (.cons r .nil)
 |_=>trivial
end
structure cc (H F H' F':Hp):Prop where
 sub:b8 F' H'
 keep:b8 H H'
 grow:b8 F F'
 new:∀a,F' a≠none->F a≠none\/H a=none
theorem cc.refl {H F:Hp} (h:b8 F H):cc H F H F:=⟨h,b8.refl _,b8.refl _,λ_ h=> .inl h⟩
theorem cc.trans {H F H1 F1 H2 F2:Hp} (a:cc H F H1 F1) (b:cc H1 F1 H2 F2):cc H F H2 F2:=
 ⟨b.sub,a.keep.trans b.keep,a.grow.trans b.grow,λx h=>(b.new x h).elim (λq=>a.new x q) λq=> .inr (a.keep.free q)⟩
theorem cW {H:Hp} {p:JO} {o:HO} (h:H p=none):b8 H (bY H p o):=λb u e=>by
 rw[ay (λz=>by rw[z,h]at e;cases e)];exact e
theorem cc.lay {H F:Hp} (s:b8 F H) {p:JO} {o:HO} (h:H p=none):cc H F (bY H p o) (bY F p o):=by
 refine⟨λb u e=> ?_,cW h,cW (s.free h),λb e=> ?_⟩
 ·by_cases z:b=p
  ·subst z;rw[aH]at e ⊢;exact e
  ·rw[ay z]at e ⊢;exact s b u e
 ·by_cases z:b=p
  ·subst z;exact .inr h
  ·rw[ay z]at e;exact .inl e
theorem cc.layOwn {H F:Hp} (s:b8 F H) {p:JO} {o:HO} (h:H p=none):cc H F (bY H p o) F:=
 ⟨s.trans (cW h),cW h,b8.refl _,λ_ e=> .inl e⟩
inductive Slot where
 |val (d:D)|own (d:D)|bor (d:D)|obj|cel (x:JN) (Ri:List (JN×D)) (f:JN) (hs:List D)
def Slot.data:Slot->D
 | .val d=>d
 | .own d=>d
 | .bor d=>d
 | .obj=> .non
 | .cel .. => .non
def Slot.single:Slot->Bool
 | .obj=>true
 | .cel .. =>true
 |_=>false
abbrev ah:=List (Option Slot)
inductive jj (K:JL) (F:Hp):HO->D->Prop
 |lst {vs:List V} {ds:List D}:Reps K F vs ds->jj K F (.lst vs) (.lst ds)
 |dic {kvs:List (cI×V)} {Ta:List (cI×D)}:RepK K F kvs Ta->(kvs.map (·.1)).Nodup->jj K F (.dK kvs) (.dic Ta)
theorem jj.mono {K:JL} {F F':Hp} (e:b8 F F') {o:HO} {d:D}:jj K F o d->jj K F' o d
 | .lst r=> .lst (r.mono e)
 | .dic r n=> .dic (r.mono e) n
structure dW (ly:List fj)where
 H0:Hp
 F0:Hp
 B:Hp
 Er:JN->ah->Prop
 oa:Nat->Option JO:=λ_=>none
 Fm:Hp:=λ_=>none
structure li (K:JL) (H0 H F:Hp) (a dx b:JO) (x:JN) (Ri:List (JN×D)) (f:JN) (hs:List D):Prop where
 ex:∃C fs vs us,H a=some (.ins C dx fs)/\K0 K JX x=some (some (.ref C))/\fs.lookup f=some (.ref b)/\H b=some (.lst us)/\Reps K F us hs/\RepF K F vs Ri/\(∀p∈vs,fs.lookup p.1=some p.2)/\
  (∀g v,fs.lookup g=some v->g=f\/g∈vs.map (·.1))/\(fs.map (·.1)).Nodup/\f∉vs.map (·.1)
 own:H dx=some (.own a)
 fa:F a=none
 fd:F dx=none
 fb:F b=none
 za:H0 a=none
 zd:H0 dx=none
 zb:H0 b=none
theorem cc.out {H F H' F':Hp} (e:cc H F H' F') {a:JO} {o:HO} (h:H a=some o) (hF:F a=none):F' a=none:=by
 cases q:F' a with
 |none=>rfl
 |some u=>
  rcases e.new a (by rw[q];simp)with z|z
  ·exact absurd hF z
  ·rw[h]at z;cases z
theorem li.step {K:JL} {H0 H F H' F':Hp} {a dx b:JO} {x:JN} {Ri:List (JN×D)} {f:JN} {hs:List D} (h:li K H0 H F a dx b x Ri f hs) (e:cc H F H' F'):li K H0 H' F' a dx b x Ri f hs:=by
 obtain⟨C,fs,vs,us,h1,h2,h3,h4,h5,h6,h7,h8⟩:=h.ex
 exact⟨⟨C,fs,vs,us,e.keep _ _ h1,h2,h3,e.keep _ _ h4,h5.mono e.grow,h6.mono e.grow,h7,h8⟩,e.keep _ _ h.own,e.out h1 h.fa,e.out h.own h.fd,e.out h4 h.fb,h.za,h.zd,h.zb⟩
structure nZ (K:JL) (H0:Hp) (ρ:ah) (σ:St) (H F:Hp):Prop where
 ex:∀(i:Nat) x Ri f hs,ρ[i]? =some (some (.cel x Ri f hs))->∃a dx b,σ[i]? =some (some (.ref a))/\li K H0 H F a dx b x Ri f hs/\∀(j:Nat) d,ρ[j]? =some (some (.own d))->σ[j]? ≠some (some (.ref b))
 one:∀(i j:Nat) x Ri f hs s,ρ[i]? =some (some (.cel x Ri f hs))->ρ[j]? =some (some s)->s.single=true->i=j
theorem nZ.no {K:JL} {H0:Hp} {ρ:ah} {σ:St} {H F:Hp} (h:∀(i:Nat) x Ri f hs,ρ[i]? ≠some (some (.cel x Ri f hs))):nZ K H0 ρ σ H F:=⟨λi x Ri f hs e=>absurd e (h i x Ri f hs),λi j x Ri f hs s e=>absurd e (h i x Ri f hs)⟩
theorem nZ.step {K:JL} {H0 H F H' F':Hp} {ρ:ah} {σ:St} (h:nZ K H0 ρ σ H F) (e:cc H F H' F'):nZ K H0 ρ σ H' F':=
 ⟨λi x Ri f hs q=>by obtain⟨a,dx,b,h1,h2,h3⟩:=h.ex i x Ri f hs q;exact⟨a,dx,b,h1,h2.step e,h3⟩,h.one⟩
structure RI (K:JL) (c:dW ly) (ρ:ah) (σ:St) (H F:Hp):Prop where
 ext:cc c.H0 c.F0 H F
 val:∀(i:Nat) d,ρ[i]? =some (some (.val d))->∃v,σ[i]? =some (some v)/\dR K F v d
 own:∀(i:Nat) d,ρ[i]? =some (some (.own d))->∃a o,σ[i]? =some (some (.ref a))/\H a=some o/\F a=none/\c.H0 a=none/\jj K F o d
 bor:∀(i:Nat) d,ρ[i]? =some (some (.bor d))->∃a o,σ[i]? =some (some (.ref a))/\c.B a=some o/\jj K c.F0 o d
 bh:b8 c.B c.H0
 dis:∀(i j:Nat) d d' a,ρ[i]? =some (some (.own d))->ρ[j]? =some (some (.own d'))->σ[i]? =some (some (.ref a))->σ[j]? =some (some (.ref a))->i=j
 len:ρ.length=σ.length
 obj:∀L∈ly,ρ[L.x]? =some (some .obj)->∃a dx fs,(∀b,c.oa L.x=some b->a=b)/\σ[L.x]? =some (some (.ref a))/\H a=some (.ins L.C dx fs)/\H dx=some (.own a)/\F a=none/\F dx=none/\c.H0 a=none/\c.H0 dx=none/\
  (∀p∈L.fl,fs.lookup p.1=(σ[p.2]?).join)/\(∀f v,fs.lookup f=some v->f∈L.fl.map (·.1))/\(fs.map (·.1)).Nodup
 odis:∀L∈ly,∀L'∈ly,ρ[L.x]? =some (some .obj)->ρ[L'.x]? =some (some .obj)->∀a,σ[L.x]? =some (some (.ref a))->σ[L'.x]? =some (some (.ref a))->L=L'
 fm:b8 c.Fm F
 cel:nZ K c.H0 ρ σ H F
 pin:∀L∈ly,∀a,c.oa L.x=some a->σ[L.x]? =some (some (.ref a))
def kZ (ly:List fj) (i:Nat):Prop:=∀L∈ly,L.x≠i/\∀p∈L.fl,p.2≠i
theorem fD {i:Nat}:kZ [] i:=λL h=>by cases h
theorem ef {L:fj} {ls:List fj} {i:Nat} (h:L.x≠i/\∀p∈L.fl,p.2≠i) (r:kZ ls i):kZ (L::ls) i:=λM hM=>by
 rcases K1.mp hM with rfl|hM
 ·exact h
 ·exact r M hM
section
variable {K:JL} {c:dW ly} {ρ:ah} {σ:St} {H F H' F':Hp}
theorem RI.step (r:RI K c ρ σ H F) (e:cc H F H' F'):RI K c ρ σ H' F' where
 cel:=r.cel.step e
 pin:=r.pin
 obj:=λL hL hρ=>by
  obtain⟨a,dx,fs,h0,h1,h2,h3,h4,h5,h6,h7,h8⟩:=r.obj L hL hρ
  exact⟨a,dx,fs,h0,h1,e.keep _ _ h2,e.keep _ _ h3,e.out h2 h4,e.out h3 h5,h6,h7,h8⟩
 odis:=r.odis
 fm:=r.fm.trans e.grow
 ext:=r.ext.trans e
 val:=λi d h=>by obtain⟨v,h1,h2⟩:=r.val i d h;exact⟨v,h1,h2.mono e.grow⟩
 own:=λi d h=>by
  obtain⟨a,o,h1,h2,h3,h4,h5⟩:=r.own i d h
  refine⟨a,o,h1,e.keep _ _ h2,?_,h4,h5.mono e.grow⟩
  cases q:F' a with
  |none=>rfl
  |some u=>
   rcases e.new a (by rw[q];simp)with z|z
   ·exact absurd h3 z
   ·rw[h2]at z;cases z
 bor:=r.bor
 bh:=r.bh
 dis:=r.dis
 len:=r.len
theorem RI.sub (r:RI K c ρ σ H F):b8 F H:=r.ext.sub
theorem aA {α:Type} {l:List α} {i j:Nat} {a b:α} (h:(l.set i a)[j]? =some b):(i=j/\a=b/\i<l.length)\/(i≠j/\l[j]? =some b):=by
 rw[LW]at h
 by_cases e:i=j
 ·rw[if_pos e]at h
  split at h
  ·cases h;exact .inl ⟨e,rfl,by assumption⟩
  ·cases h
 ·rw[if_neg e]at h;exact .inr ⟨e,h⟩
theorem gq {α:Type} {l:List α} {i:Nat} {a:α} (h:i<l.length):(l.set i a)[i]? =some a:=by
 rw[LW,if_pos rfl,if_pos h]
theorem ao {α:Type} {l:List α} {i j:Nat} {a:α} (h:i≠j):(l.set i a)[j]? =l[j]? :=by
 rw[LW,if_neg h]
theorem nZ.set {K:JL} {H0:Hp} {ρ:ah} {σ:St} {H F:Hp} (h:nZ K H0 ρ σ H F) (i:Nat) {s:Option Slot} {v:Option V} (hn:∀s',s=some s'->s'.single=false)
  (ho:∀d,s=some (.own d)->∀(j:Nat) x Ri f hs a C dx fs b,ρ[j]? =some (some (.cel x Ri f hs))->σ[j]? =some (some (.ref a))->H a=some (.ins C dx fs)->fs.lookup f=some (.ref b)->v≠some (.ref b)):nZ K H0 (ρ.set i s) (σ.set i v) H F:=by
 refine⟨λj x Ri f hs q=> ?_,λj k x Ri f hs s' q q2 Ru=> ?_⟩
 ·rcases aA q with ⟨_,z,_⟩|⟨z,q⟩
  ·have:=hn _ z;cases this
  ·obtain⟨a,dx,b,h1,h2,h3⟩:=h.ex j x Ri f hs q
   refine⟨a,dx,b,by rw[ao z];exact h1,h2,λk d w=> ?_⟩
   rcases aA w with ⟨rfl,z',l⟩|⟨z',w⟩
   ·obtain⟨C,fs,vs,us,g1,g2,g3,_⟩:=h2.ex
    intro e
    rw[LW]at e
    split at e
    ·split at e
     ·exact ho d z' j x Ri f hs a C dx fs b q h1 g1 g3 (by simpa using e)
     ·cases e
    ·rename_i ne;exact absurd rfl ne
   ·rw[ao z'];exact h3 k d w
 ·rcases aA q with ⟨_,z,_⟩|⟨z,q⟩
  ·have:=hn _ z;cases this
  ·rcases aA q2 with ⟨_,z',_⟩|⟨z',q2⟩
   ·have:=hn _ z';rw[Ru]at this;cases this
   ·exact h.one j k x Ri f hs s' q q2 Ru
theorem RI.setVal (r:RI K c ρ σ H F) (i:Nat) {v:V} {d:D} (hf:kZ ly i) (h:dR K F v d):RI K c (ρ.set i (some (.val d))) (σ.set i (some v)) H F where
 cel:=r.cel.set i (λs' e=>by cases e;rfl) (λd e=>by cases e)
 pin:=λL hL a h=>by rw[ao (hf L hL).1.symm];exact r.pin L hL a h
 obj:=λL hL hρ=>by
  rw[ao (hf L hL).1.symm]at hρ
  obtain⟨a,dx,fs,h0,h1,h2,h3,h4,h5,h6,h7,h8,h9⟩:=r.obj L hL hρ
  refine⟨a,dx,fs,h0,by rw[ao (hf L hL).1.symm];exact h1,h2,h3,h4,h5,h6,h7,λp hp=> ?_,h9⟩
  rw[ao ((hf L hL).2 p hp).symm];exact h8 p hp
 odis:=λL hL L' UE q1 q2 a k1 k2=>by
  rw[ao (hf L hL).1.symm]at k1 q1
  rw[ao (hf L' UE).1.symm]at k2 q2
  exact r.odis L hL L' UE q1 q2 a k1 k2
 fm:=r.fm
 ext:=r.ext
 val:=λj e q=>by
  rcases aA q with ⟨rfl,z,l⟩|⟨z,q⟩
  ·cases z;exact⟨v,gq (by rw[<-r.len];exact l),h⟩
  ·rw[ao z];exact r.val j e q
 own:=λj e q=>by
  rcases aA q with ⟨rfl,z,l⟩|⟨z,q⟩
  ·cases z
  ·rw[ao z];exact r.own j e q
 bor:=λj e q=>by
  rcases aA q with ⟨rfl,z,l⟩|⟨z,q⟩
  ·cases z
  ·rw[ao z];exact r.bor j e q
 bh:=r.bh
 dis:=λj k e e' a q1 q2 q3 q4=>by
  rcases aA q1 with ⟨rfl,z,l⟩|⟨z,q1⟩
  ·cases z
  ·rcases aA q2 with ⟨rfl,z',l⟩|⟨z',q2⟩
   ·cases z'
   ·rw[ao z]at q3;rw[ao z']at q4
    exact r.dis j k e e' a q1 q2 q3 q4
 len:=by simp[r.len]
theorem RI.setNone (r:RI K c ρ σ H F) (i:Nat) {v:Option V} (hf:kZ ly i):RI K c (ρ.set i none) (σ.set i v) H F where
 cel:=r.cel.set i (λs' e=>by cases e) (λd e=>by cases e)
 pin:=λL hL a h=>by rw[ao (hf L hL).1.symm];exact r.pin L hL a h
 obj:=λL hL hρ=>by
  rw[ao (hf L hL).1.symm]at hρ
  obtain⟨a,dx,fs,h0,h1,h2,h3,h4,h5,h6,h7,h8,h9⟩:=r.obj L hL hρ
  refine⟨a,dx,fs,h0,by rw[ao (hf L hL).1.symm];exact h1,h2,h3,h4,h5,h6,h7,λp hp=> ?_,h9⟩
  rw[ao ((hf L hL).2 p hp).symm];exact h8 p hp
 odis:=λL hL L' UE q1 q2 a k1 k2=>by
  rw[ao (hf L hL).1.symm]at k1 q1
  rw[ao (hf L' UE).1.symm]at k2 q2
  exact r.odis L hL L' UE q1 q2 a k1 k2
 fm:=r.fm
 ext:=r.ext
 val:=λj e q=>by
  rcases aA q with ⟨rfl,z,l⟩|⟨z,q⟩
  ·cases z
  ·rw[ao z];exact r.val j e q
 own:=λj e q=>by
  rcases aA q with ⟨rfl,z,l⟩|⟨z,q⟩
  ·cases z
  ·rw[ao z];exact r.own j e q
 bor:=λj e q=>by
  rcases aA q with ⟨rfl,z,l⟩|⟨z,q⟩
  ·cases z
  ·rw[ao z];exact r.bor j e q
 bh:=r.bh
 dis:=λj k e e' a q1 q2 q3 q4=>by
  rcases aA q1 with ⟨rfl,z,l⟩|⟨z,q1⟩
  ·cases z
  ·rcases aA q2 with ⟨rfl,z',l⟩|⟨z',q2⟩
   ·cases z'
   ·rw[ao z]at q3;rw[ao z']at q4
    exact r.dis j k e e' a q1 q2 q3 q4
 len:=by simp[r.len]
theorem RI.setOwn (r:RI K c ρ σ H F) (i:Nat) {a:JO} {o:HO} {d:D} (hf:kZ ly i) (h:H a=some o) (hF:F a=none) (h0:c.H0 a=none) (q:jj K F o d)
  (ne:∀(j:Nat) d',j≠i->ρ[j]? =some (some (.own d'))->σ[j]? ≠some (some (.ref a)))
  (nb:∀(j:Nat) x Ri f hs a' C dx fs,ρ[j]? =some (some (.cel x Ri f hs))->σ[j]? =some (some (.ref a'))->H a'=some (.ins C dx fs)->fs.lookup f≠some (.ref a)):RI K c (ρ.set i (some (.own d))) (σ.set i (some (.ref a))) H F where
 cel:=r.cel.set i (λs' e=>by cases e;rfl) (λd e j x Ri f hs a' C dx fs b q1 q2 q3 q4 z=>by cases z;exact nb j x Ri f hs a' C dx fs q1 q2 q3 q4)
 pin:=λL hL b h=>by rw[ao (hf L hL).1.symm];exact r.pin L hL b h
 obj:=λL hL hρ=>by
  rw[ao (hf L hL).1.symm]at hρ
  obtain⟨b,dx,fs,h0,h1,h2,h3,h4,h5,h6,h7,h8,h9⟩:=r.obj L hL hρ
  refine⟨b,dx,fs,h0,by rw[ao (hf L hL).1.symm];exact h1,h2,h3,h4,h5,h6,h7,λp hp=> ?_,h9⟩
  rw[ao ((hf L hL).2 p hp).symm];exact h8 p hp
 odis:=λL hL L' UE q1 q2 b k1 k2=>by
  rw[ao (hf L hL).1.symm]at k1 q1
  rw[ao (hf L' UE).1.symm]at k2 q2
  exact r.odis L hL L' UE q1 q2 b k1 k2
 fm:=r.fm
 ext:=r.ext
 val:=λj e q=>by
  rcases aA q with ⟨rfl,z,l⟩|⟨z,q⟩
  ·cases z
  ·rw[ao z];exact r.val j e q
 own:=λj e q'=>by
  rcases aA q' with ⟨rfl,z,l⟩|⟨z,q'⟩
  ·cases z;exact⟨a,o,gq (by rw[<-r.len];exact l),h,hF,h0,q⟩
  ·rw[ao z];exact r.own j e q'
 bor:=λj e q=>by
  rcases aA q with ⟨rfl,z,l⟩|⟨z,q⟩
  ·cases z
  ·rw[ao z];exact r.bor j e q
 bh:=r.bh
 dis:=λj k e e' b q1 q2 q3 q4=>by
  rcases aA q1 with ⟨rfl,z,l⟩|⟨z,q1⟩
  ·rw[gq (by rw[<-r.len];exact l)]at q3
   cases q3
   rcases aA q2 with ⟨rfl,z',l⟩|⟨z',q2⟩
   ·rfl
   ·rw[ao z']at q4
    exact absurd q4 (ne k e' (Lz z') q2)
  ·rw[ao z]at q3
   rcases aA q2 with ⟨rfl,z',l⟩|⟨z',q2⟩
   ·rw[gq (by rw[<-r.len];exact l)]at q4
    cases q4
    exact absurd q3 (ne j e (Lz z) q1)
   ·rw[ao z']at q4
    exact r.dis j k e e' b q1 q2 q3 q4
 len:=by simp[r.len]
theorem RI.celNe (r:RI K c ρ σ H F) {H2:Hp} (k:b8 H H2) {p:JO} (hp:H p=none):∀(j:Nat) x Ri f hs a' C dx fs,ρ[j]? =some (some (.cel x Ri f hs))->σ[j]? =some (some (.ref a'))->H2 a'=some (.ins C dx fs)->fs.lookup f≠some (.ref p):=λj x Ri f hs a' C dx fs q1 q2 q3 q4=>by
 obtain⟨a,a2l,b,h1,h2,_⟩:=r.cel.ex j x Ri f hs q1
 rw[q2]at h1
 cases h1
 obtain⟨C0,a2m,vs,us,g1,g2,g3,g4,_⟩:=h2.ex
 rw[k _ _ g1]at q3
 cases q3
 rw[g3]at q4
 cases q4
 rw[hp]at g4
 cases g4
theorem RI.setNew (r:RI K c ρ σ H F) (i:Nat) {a:JO} {o:HO} {d:D} (hf:kZ ly i) (h:H a=none) (q:jj K F o d):RI K c (ρ.set i (some (.own d))) (σ.set i (some (.ref a))) (bY H a o) F:=by
 have r':=r.step (cc.layOwn r.sub (o:=o) h)
 refine r'.setOwn i hf aH (r.sub.free h) (r.ext.keep.free h) q (λj d' _ hj e=> ?_) (r.celNe (cW h) h)
 obtain⟨b,o',h1,h2,_⟩:=r.own j d' hj
 rw[e]at h1
 cases h1
 rw[h]at h2
 cases h2
theorem RI.change (r:RI K c ρ σ H F) {i:Nat} {a:JO} {o o':HO} {d d':D} (hi:ρ[i]? =some (some (.own d))) (hs:σ[i]? =some (some (.ref a))) (q:jj K F o' d'):
  RI K c (ρ.set i (some (.own d'))) σ (bY H a o') F:=by
 obtain⟨b,u,h1,h2,h3,h4,h5⟩:=r.own i d hi
 rw[hs]at h1
 cases h1
 refine⟨⟨λx y e=> ?_,λx y e=> ?_,r.ext.grow,r.ext.new⟩,λj e w=> ?_,λj e w=> ?_,λj e w=> ?_,r.bh,λj k e e' x q1 q2 q3 q4=> ?_,by simp[r.len],λL hL hρ=> ?_,λL hL L' UE q1 q2=> ?_,r.fm,⟨λj x Ri f hs w=> ?_,λj k x Ri f hs s w w2 Ru=> ?_⟩,r.pin⟩
 ·rw[ay (λz=>by rw[z,h3]at e;cases e)];exact r.sub x y e
 ·rw[ay (λz=>by rw[z,h4]at e;cases e)];exact r.ext.keep x y e
 ·rcases aA w with ⟨rfl,z,l⟩|⟨z,w⟩
  ·cases z
  ·exact r.val j e w
 ·rcases aA w with ⟨rfl,z,l⟩|⟨z,w⟩
  ·cases z;exact⟨a,o',hs,aH,h3,h4,q⟩
  ·obtain⟨x,y,k1,k2,k3,k4,k5⟩:=r.own j e w
   refine⟨x,y,k1,?_,k3,k4,k5⟩
   rw[ay (λzz=>by subst zz;exact z (r.dis i j d e x hi w hs k1))]
   exact k2
 ·rcases aA w with ⟨rfl,z,l⟩|⟨z,w⟩
  ·cases z
  ·exact r.bor j e w
 ·have own_of:∀{l:Nat} {x:D},(ρ.set i (some (.own d')))[l]? =some (some (.own x))->∃y,ρ[l]? =some (some (.own y)):=λ{l x} w=>by
   rcases aA w with ⟨rfl,z,_⟩|⟨z,w⟩
   ·exact⟨d,hi⟩
   ·exact⟨x,w⟩
  obtain⟨y1,w1⟩:=own_of q1
  obtain⟨y2,w2⟩:=own_of q2
  exact r.dis j k y1 y2 x w1 w2 q3 q4
 ·have Zi:ρ[L.x]? =some (some .obj):=by
   rcases aA hρ with ⟨_,z,_⟩|⟨_,w⟩
   ·cases z
   ·exact w
  obtain⟨b,dx,fs,k0,k1,k2,k3,k4⟩:=r.obj L hL Zi
  have n1:b≠a:=λz=>by subst z;rw[k2]at h2;cases h2;cases h5
  have n2:dx≠a:=λz=>by subst z;rw[k3]at h2;cases h2;cases h5
  exact⟨b,dx,fs,k0,k1,by rw[ay n1];exact k2,by rw[ay n2];exact k3,k4⟩
 ·refine r.odis L hL L' UE ?_ ?_
  ·rcases aA q1 with ⟨_,z,_⟩|⟨_,w⟩
   ·cases z
   ·exact w
  ·rcases aA q2 with ⟨_,z,_⟩|⟨_,w⟩
   ·cases z
   ·exact w
 ·rcases aA w with ⟨rfl,z,l⟩|⟨z,w⟩
  ·cases z
  ·obtain⟨b,dx,bb,k1,k2,k3⟩:=r.cel.ex j x Ri f hs w
   obtain⟨C,fs,vs,us,g1,g2,g3,g4,g5⟩:=k2.ex
   have n1:b≠a:=λz=>by subst z;rw[g1]at h2;cases h2;cases h5
   have n2:dx≠a:=λz=>by subst z;rw[k2.own]at h2;cases h2;cases h5
   have n3:bb≠a:=λz=>by subst z;exact k3 i d hi hs
   refine⟨b,dx,bb,k1,⟨⟨C,fs,vs,us,by rw[ay n1];exact g1,g2,g3,by rw[ay n3];exact g4,g5⟩,by rw[ay n2];exact k2.own,k2.fa,k2.fd,k2.fb,k2.za,k2.zd,k2.zb⟩,λk e w2=> ?_⟩
   rcases aA w2 with ⟨rfl,z',l⟩|⟨z',w2⟩
   ·exact k3 i d hi
   ·exact k3 k e w2
 ·rcases aA w with ⟨rfl,z,l⟩|⟨z,w⟩
  ·cases z
  ·rcases aA w2 with ⟨rfl,z',l⟩|⟨z',w2⟩
   ·cases z';cases Ru
   ·exact r.cel.one j k x Ri f hs s w w2 Ru
end
def frz1 (i:Nat) (ρ:ah):ah:=match ρ[i]? with
 |some (some (.own d))=>ρ.set i (some (.val d))
 |_=>ρ
def frz (L:List Nat) (ρ:ah):ah:=L.foldl (λr i=>frz1 i r) ρ
theorem RI.frz1 {K:JL} {c:dW ly} {ρ:ah} {σ:St} {H F:Hp} (r:RI K c ρ σ H F) (i:Nat):∃F',b8 F F'/\RI K c (frz1 i ρ) σ H F':=by
 unfold L2.Pu.frz1
 split
 ·rename_i d hi
  obtain⟨a,o,h1,h2,h3,h4,h5⟩:=r.own i d hi
  have g:b8 F (bY F a o):=cW h3
  refine⟨bY F a o,g,⟨⟨λb u e=> ?_,r.ext.keep,r.ext.grow.trans g,λb e=> ?_⟩,λj e w=> ?_,λj e w=> ?_,λj e w=> ?_,r.bh,λj k e e' x q1 q2 q3 q4=> ?_,by simp[r.len],λL hL hρ=> ?_,λL hL L' UE q1 q2=> ?_,r.fm.trans g,⟨λj x Ri f hs w=> ?_,λj k x Ri f hs s w w2 Ru=> ?_⟩,r.pin⟩⟩
  ·by_cases z:b=a
   ·subst z;rw[aH]at e;rw[h2];exact e
   ·rw[ay z]at e;exact r.sub b u e
  ·by_cases z:b=a
   ·subst z;exact .inr h4
   ·rw[ay z]at e;exact r.ext.new b e
  ·rcases aA w with ⟨rfl,z,l⟩|⟨z,w⟩
   ·cases z
    refine⟨.ref a,h1,?_⟩
    cases h5 with
    |lst q=>exact .lst aH (q.mono g)
    |dic q n=>exact .dic aH (q.mono g) n
   ·obtain⟨v,k1,k2⟩:=r.val j e w;exact⟨v,k1,k2.mono g⟩
  ·rcases aA w with ⟨rfl,z,l⟩|⟨z,w⟩
   ·cases z
   ·obtain⟨x,y,k1,k2,k3,k4,k5⟩:=r.own j e w
    refine⟨x,y,k1,k2,?_,k4,k5.mono g⟩
    rw[ay (λzz=>by subst zz;exact z (r.dis i j d e x hi w h1 k1))]
    exact k3
  ·rcases aA w with ⟨rfl,z,l⟩|⟨z,w⟩
   ·cases z
   ·exact r.bor j e w
  ·rcases aA q1 with ⟨rfl,z,l⟩|⟨z,q1⟩
   ·cases z
   ·rcases aA q2 with ⟨rfl,z',l⟩|⟨z',q2⟩
    ·cases z'
    ·exact r.dis j k e e' x q1 q2 q3 q4
  ·have Zi:ρ[L.x]? =some (some .obj):=by
    rcases aA hρ with ⟨_,z,_⟩|⟨_,w⟩
    ·cases z
    ·exact w
   obtain⟨b,dx,fs,k0,k1,k2,k3,k4,k5,k6⟩:=r.obj L hL Zi
   have n1:b≠a:=λz=>by subst z;rw[k2]at h2;cases h2;cases h5
   have n2:dx≠a:=λz=>by subst z;rw[k3]at h2;cases h2;cases h5
   exact⟨b,dx,fs,k0,k1,k2,k3,by rw[ay n1];exact k4,by rw[ay n2];exact k5,k6⟩
  ·refine r.odis L hL L' UE ?_ ?_
   ·rcases aA q1 with ⟨_,z,_⟩|⟨_,w⟩
    ·cases z
    ·exact w
   ·rcases aA q2 with ⟨_,z,_⟩|⟨_,w⟩
    ·cases z
    ·exact w
  ·rcases aA w with ⟨rfl,z,l⟩|⟨z,w⟩
   ·cases z
   ·obtain⟨b,dx,bb,k1,k2,k3⟩:=r.cel.ex j x Ri f hs w
    obtain⟨C,fs,vs,us,g1,g2,g3,g4,g5,g6,g7⟩:=k2.ex
    have n1:b≠a:=λz=>by subst z;rw[g1]at h2;cases h2;cases h5
    have n2:dx≠a:=λz=>by subst z;rw[k2.own]at h2;cases h2;cases h5
    have n3:bb≠a:=λz=>by subst z;exact k3 i d hi h1
    refine⟨b,dx,bb,k1,⟨⟨C,fs,vs,us,g1,g2,g3,g4,g5.mono g,g6.mono g,g7⟩,k2.own,by rw[ay n1];exact k2.fa,by rw[ay n2];exact k2.fd,by rw[ay n3];exact k2.fb,k2.za,k2.zd,k2.zb⟩,λk e w2=> ?_⟩
    rcases aA w2 with ⟨rfl,z',l⟩|⟨z',w2⟩
    ·cases z'
    ·exact k3 k e w2
  ·rcases aA w with ⟨rfl,z,l⟩|⟨z,w⟩
   ·cases z
   ·rcases aA w2 with ⟨rfl,z',l⟩|⟨z',w2⟩
    ·cases z';cases Ru
    ·exact r.cel.one j k x Ri f hs s w w2 Ru
 ·exact⟨F,b8.refl _,r⟩
theorem RI.frz {K:JL} {c:dW ly} {σ:St} {H:Hp}:∀(L:List Nat) {ρ:ah} {F:Hp},RI K c ρ σ H F->∃F',b8 F F'/\RI K c (frz L ρ) σ H F'
 |[],ρ,F,r=>⟨F,b8.refl _,r⟩
 |i::L,ρ,F,r=>by
  obtain⟨F1,g1,r1⟩:=r.frz1 i
  obtain⟨F2,g2,r2⟩:=RI.frz L r1
  exact⟨F2,g1.trans g2,r2⟩
end L2.Pu
namespace L2.Pu
open PySem PySem.Spec PyProof.Rows
variable {ly:List fj}
inductive R (α:Type)where
 |ok (a:α)|err (c:JN) (ρ:ah)|bad
def R.bind {α β:Type}:R α->(α->R β)->R β
 | .ok a,f=>f a
 | .err c ρ,_=> .err c ρ
 | .bad,_=> .bad
instance:Monad R where
 pure:=R.ok
 bind:=R.bind
@[simp] theorem aq {α β:Type} (a:α) (f:α->R β):(R.ok a>>=f)=f a:=rfl
@[simp] theorem Hi {α β:Type} (c:JN) (ρ:ah) (f:α->R β):(R.err c ρ>>=f)=R.err c ρ:=rfl
@[simp] theorem Hj {α β:Type} (f:α->R β):(R.bad>>=f)=R.bad:=rfl
@[simp] theorem I0 {α:Type} (a:α):(pure a:R α)=R.ok a:=rfl
def R.of {α:Type}:Option α->R α
 |some a=> .ok a
 |none=> .bad
@[simp] theorem ix {α:Type} (a:α):R.of (some a)= .ok a:=rfl
@[simp] theorem I9 {α:Type}:R.of (none:Option α)= .bad:=rfl
def aN {α:Type} (c:dW ly) (r:R α) (P:α->Prop):Prop:=match r with
 | .ok a=>P a
 | .err e ρ=>c.Er e ρ
 | .bad=>False
theorem aN.imp {α:Type} {c:dW ly} {r:R α} {P P':α->Prop} (h:aN c r P) (w:∀a,r= .ok a->P a->P' a):aN c r P':=by
 cases r with
 |ok a=>exact w a rfl h
 |err e ρ=>exact h
 |bad=>exact h
theorem aN.bind {α β:Type} {c:dW ly} {r:R α} {f:α->R β} {P:β->Prop}:aN c (r>>=f) P<->aN c r λa=>aN c (f a) P:=by
 cases r<;>exact Iff.rfl
theorem aN.of {α:Type} {c:dW ly} {r:Option α} {P:α->Prop} (h:aN c (R.of r) P):∃a,r=some a/\P a:=by
 cases r with
 |none=>exact h.elim
 |some a=>exact⟨a,rfl,h⟩
def dg (K:JL) (H F:Hp) (v:V) (d:D):Prop:=dR K F v d\/∃a o,v= .ref a/\H a=some o/\jj K F o d
theorem dg.mono {K:JL} {H F H' F':Hp} {v:V} {d:D} (e:cc H F H' F'):dg K H F v d->dg K H' F' v d
 | .inl r=> .inl (r.mono e.grow)
 | .inr ⟨a,o,h1,h2,h3⟩=> .inr ⟨a,o,h1,e.keep _ _ h2,h3.mono e.grow⟩
theorem dg.lst {K:JL} {H F:Hp} {v:V} {ds:List D} (s:b8 F H) (h:dg K H F v (.lst ds)):∃a vs,v= .ref a/\H a=some (.lst vs)/\Reps K F vs ds:=by
 rcases h with h|⟨a,o,h1,h2,q⟩
 ·obtain⟨a,vs,e,h,r⟩:=h.inv
  exact⟨a,vs,e,s _ _ h,r⟩
 ·cases q with
  |lst r=>exact⟨_,_,h1,h2,r⟩
theorem dg.dic {K:JL} {H F:Hp} {v:V} {ds:List (cI×D)} (s:b8 F H) (h:dg K H F v (.dic ds)):∃a vs,v= .ref a/\H a=some (.dK vs)/\RepK K F vs ds/\(vs.map (·.1)).Nodup:=by
 rcases h with h|⟨a,o,h1,h2,q⟩
 ·obtain⟨a,vs,e,h,r⟩:=h.inv
  exact⟨a,vs,e,s _ _ h,r⟩
 ·cases q with
  |dic r n=>exact⟨_,_,h1,h2,r,n⟩
def Jw:D->Bool
 | .lst _=>true
 | .dic _=>true
 |_=>false
theorem dg.in {K:JL} {H F:Hp} {v:V} {d:D} (h:dg K H F v d) (n:Jw d=false):Bd K F v d:=by
 rcases h with h|⟨a,o,h1,h2,q⟩
 ·exact h.inv
 ·cases q<;>cases n
theorem dg.tup {K:JL} {H F:Hp} {v:V} {ds:List D} (s:b8 F H) (h:dg K H F v (.tup ds)):∃a vs,v= .ref a/\H a=some (.tup vs)/\Reps K F vs ds:=by
 obtain⟨a,vs,e,h,r⟩:=h.in rfl
 exact⟨a,vs,e,s _ _ h,r⟩
theorem dg.scr {K:JL} {H F:Hp} {v:V} {ns:List Int} (s:b8 F H) (h:dg K H F v (.scr ns)):∃a,v= .ref a/\dS K H a (ns.map V.int):=by
 obtain⟨a,e,h⟩:=h.in rfl
 exact⟨a,e,s.seq h⟩
theorem dg.int {K:JL} {H F:Hp} {v:V} {i:Int} (h:dg K H F v (.int i)):v= .int i:=h.in rfl
theorem dg.bl {K:JL} {H F:Hp} {v:V} {i:Bool} (h:dg K H F v (.bl i)):v= .bl i:=h.in rfl
theorem dg.str {K:JL} {H F:Hp} {v:V} {i:JN} (h:dg K H F v (.str i)):v= .str i:=h.in rfl
theorem dg.non {K:JL} {H F:Hp} {v:V} (h:dg K H F v .non):v= .non:=h.in rfl
inductive mL (K:JL) (H F:Hp):List V->List D->Prop
 |nil:mL K H F [] []
 |cons {v:V} {d:D} {vs:List V} {ds:List D}:dg K H F v d->mL K H F vs ds->mL K H F (v::vs) (d::ds)
def fI (K:JL) (x:JN) (cls:JM):Prop:=∃C,cls= .ref C/\K0 K JX x=some (some (.ref C))
def Fo (X:Cx) (c:dW ly) (σ:St):XK:=λcls _ H'=>∃x ρ F',fI X.K x cls/\RI X.K c ρ σ H' F'/\c.Er x ρ
def Fp (X:Cx) (c:dW ly):Prop:=(jC X/\∀R6 σ ρ H F s a cls x,aM X R6 σ H s->RI X.K c ρ σ H F->Fl X R6 H s.heap a cls->fI X.K x cls->c.Er x ρ->X.xe (.ref a) s)\/(∀x ρ,¬c.Er x ρ)\/(X.stack=X.outer/\lc (lh X.prog X.w) X (Fo X c))
abbrev j4 (ly:List fj) (X:Cx):Type:={c:dW ly // Fp X c}
theorem Fp.no {X:Cx} {c:dW ly} (h:∀x ρ,¬c.Er x ρ):Fp X c:= .inr (.inl h)
theorem pU {X:Cx} (c:j4 ly X):lc (lh X.prog X.w) X (Fo X c.1):=λR6 σ H s e s' I h=>by
 rcases c.2 with ⟨hp,WT⟩|no|⟨_,ps⟩
 ·obtain⟨a,cls,H',rfl,I',fl,x,ρ,F',ec,ri,er⟩:=Fk I hp h
  exact WT R6 σ ρ H' F' s' a cls x I' ri fl ec er
 ·obtain⟨a,cls,H',_,_,_,_,_,_,x,ρ,F',ec,ri,er⟩:=h
  exact absurd er (no x ρ)
 ·exact ps R6 σ H s e s' I h
theorem Fp.plain {X:Cx} {c:dW ly} (h:Fp X c) (U5:X.stack=X.env::X.outer):(jC X/\∀R6 σ ρ H F s a cls x,aM X R6 σ H s->RI X.K c ρ σ H F->Fl X R6 H s.heap a cls->fI X.K x cls->c.Er x ρ->X.xe (.ref a) s)\/∀x ρ,¬c.Er x ρ:=by
 rcases h with h|h|⟨h,_⟩
 ·exact .inl h
 ·exact .inr h
 ·rw[h]at U5
  have:=congrArg N6 U5
  simp at this
def tQ (K:JL) (c:dW ly) (f:ah->R D):TE:=λσ H Q=>∃F ρ,RI K c ρ σ H F/\aN c (f ρ) λd=>∀v H' F',cc H F H' F'->dR K F' v d->Q v H'
def tB' (K:JL) (c:dW ly) (f:ah->R D):TE:=λσ H Q=>∃F ρ,RI K c ρ σ H F/\aN c (f ρ) λd=>∀v H' F',cc H F H' F'->dg K H' F' v d->Q v H'
def tT (K:JL) (c:dW ly) (f:ah->R Bool):TT:=λσ H Q=>∃F ρ,RI K c ρ σ H F/\aN c (f ρ) λb=>∀H' F',cc H F H' F'->Q b H'
def Gp (K:JL) (c:dW ly) (f:ah->R (List D)):TA:=λσ H Q=>∃F ρ,RI K c ρ σ H F/\aN c (f ρ) λds=>∀vs H' F',cc H F H' F'->Reps K F' vs ds->Q vs H'
def Hk (K:JL) (c:dW ly) (f:ah->R (List D)):TA:=λσ H Q=>∃F ρ,RI K c ρ σ H F/\aN c (f ρ) λds=>∀vs H' F',cc H F H' F'->mL K H' F' vs ds->Q vs H'
def PQ (ly:List fj) (X:Cx) (e:JW) (f:ah->R D):Prop:=∀c:j4 ly X,PE X e (tQ X.K c.1 f)
def PB (ly:List fj) (X:Cx) (e:JW) (f:ah->R D):Prop:=∀c:j4 ly X,PE X e (tB' X.K c.1 f)
def uZ (ly:List fj) (X:Cx) (e:JW) (f:ah->R Bool):Prop:=∀c:j4 ly X,PT X e (tT X.K c.1 f)
def qH (ly:List fj) (X:Cx) (e:JW) (f:ah->R Bool):Prop:=∀c:j4 ly X,PW X e (tT X.K c.1 f)
def xg (ly:List fj) (X:Cx) (es:List JW) (f:ah->R (List D)):Prop:=∀c:j4 ly X,PA X es (Gp X.K c.1 f)
def Hl (ly:List fj) (X:Cx) (es:List JW) (f:ah->R (List D)):Prop:=∀c:j4 ly X,PA X es (Hk X.K c.1 f)
theorem PE.weak {X:Cx} {e:JW} {t t':TE} (h:PE X e t) (w:∀σ H Q,t' σ H Q->t σ H Q):PE X e t':=λR6 s σ H Q I q=>h R6 s σ H Q I (w σ H Q q)
theorem PT.weak {X:Cx} {e:JW} {t t':TT} (h:PT X e t) (w:∀σ H Q,t' σ H Q->t σ H Q):PT X e t':=λR6 s σ H Q I q=>h R6 s σ H Q I (w σ H Q q)
theorem PW.weak {X:Cx} {e:JW} {t t':TT} (h:PW X e t) (w:∀σ H Q,t' σ H Q->t σ H Q):PW X e t':=λwh R6 s σ H Q I q=>h wh R6 s σ H Q I (w σ H Q q)
theorem PA.weak {X:Cx} {e:List JW} {t t':TA} (h:PA X e t) (w:∀σ H Q,t' σ H Q->t σ H Q):PA X e t':=λpos R6 s σ H Q I q=>h pos R6 s σ H Q I (w σ H Q q)
theorem PS.weak {X:Cx} {e:Ke} {t t':TS} (h:PS X e t) (w:∀D σ H,t' D σ H->t D σ H):PS X e t':=λR6 s σ H D I q=>h R6 s σ H D I (w D σ H q)
theorem sB.weak {X:Cx} {e:List Ke} {t t':TS} (h:sB X e t) (w:∀D σ H,t' D σ H->t D σ H):sB X e t':=λR6 s σ H D I q=>h R6 s σ H D I (w D σ H q)
theorem PG.weak {X:Cx} {e:JW} {t t':TG} (h:PG X e t) (w:∀v σ H Q,t' v σ H Q->t v σ H Q):PG X e t':=λR6 s σ H v u Q I r q=>h R6 s σ H v u Q I r (w v σ H Q q)
theorem two {K:JL} {c:dW ly} {fa fb:ah->R D} {g:D->D->R D} {σ:St} {H:Hp} {Q:VK} (h:tQ K c (λρ=>fa ρ>>=λx=>fb ρ>>=λy=>g x y) σ H Q)
  {T:V->V->Hp->Prop} (k:∀F H2 F2 v u x y,cc H F H2 F2->dg K H2 F2 v x->dg K H2 F2 u y->aN c (g x y) (λd=>∀w H' F',cc H F H' F'->dR K F' w d->Q w H')->T v u H2):
  tB' K c fa σ H λv H1=>tB' K c fb σ H1 λu H2=>T v u H2:=by
 obtain⟨F,ρ,ri,w⟩:=h
 refine⟨F,ρ,ri,(aN.bind.mp w).imp λx hx w1 v H1 F1 e1 r1=>⟨F1,ρ,ri.step e1,(aN.bind.mp w1).imp λy hy w2 u H2 F2 e2 r2=> ?_⟩⟩
 exact k F H2 F2 v u x y (e1.trans e2) (r1.mono e2) r2 w2
def ka (K:JL) (r:R2) (g:D->D->Option D):Prop:=∀v u x y d H F Q,b8 F H->dg K H F v x->dg K H F u y->g x y=some d->(∀w H' F',cc H F H' F'->dR K F' w d->Q w H')->r v u H Q
def Hm (K:JL) (r:V->Hp->VK->Prop) (g:D->Option D):Prop:=∀v x d H F Q,b8 F H->dg K H F v x->g x=some d->(∀w H' F',cc H F H' F'->dR K F' w d->Q w H')->r v H Q
def my (K:JL) (r:List V->Hp->VK->Prop) (g:List D->Option D):Prop:=∀vs ds d H F Q,b8 F H->mL K H F vs ds->g ds=some d->(∀w H' F',cc H F H' F'->dR K F' w d->Q w H')->r vs H Q
section
variable {X:Cx} {a b e:JW} {es:List JW} {fa fb f:ah->R D} {fs:ah->R (List D)} {pos:KC}
theorem PQ.bo (h:PQ ly X e f):PB ly X e f:=λc=>PE.weak (h c) λσ H Q ⟨F,ρ,ri,w⟩=>⟨F,ρ,ri,w.imp λd _ k v H' F' e r=>k v H' F' e (.inl r)⟩
def au (i:Nat):ah->R D:=λρ=>match ρ[i]? with
 |some (some (.val d))=> .ok d
 |_=> .bad
def ac (i:Nat):ah->R D:=λρ=>match ρ[i]? with
 |some (some .obj)=> .bad
 |some (some (.cel ..))=> .bad
 |some (some s)=> .ok s.data
 |_=> .bad
theorem IT (h:PE X e (Aw i)):PQ ly X e (au i):=λc=>PE.weak h λσ H Q ⟨F,ρ,ri,w⟩=>by
 unfold au at w
 split at w
 ·rename_i d hd
  obtain⟨v,h1,h2⟩:=ri.val i d hd
  exact⟨v,h1,w v H F (cc.refl ri.sub) h2⟩
 ·exact w.elim
theorem IU (h:PE X e (Aw i)):PB ly X e (ac i):=λc=>PE.weak h λσ H Q ⟨F,ρ,ri,w⟩=>by
 unfold ac at w
 split at w
 ·exact w.elim
 ·exact w.elim
 ·rename_i s Zj Zk hs
  cases s with
  |obj=>exact absurd rfl Zj
  |cel x Ri f hs=>exact absurd rfl (Zk _ _ _ _)
  |val d=>obtain⟨v,h1,h2⟩:=ri.val i d hs;exact⟨v,h1,w v H F (cc.refl ri.sub) (.inl h2)⟩
  |own d=>obtain⟨a,o,h1,h2,h3,h4,h5⟩:=ri.own i d hs;exact⟨_,h1,w _ H F (cc.refl ri.sub) (.inr ⟨a,o,rfl,h2,h5⟩)⟩
  |bor d=>obtain⟨a,o,h1,h2,h3⟩:=ri.bor i d hs;exact⟨_,h1,w _ H F (cc.refl ri.sub) (.inr ⟨a,o,rfl,ri.ext.keep _ _ (ri.bh _ _ h2),h3.mono ri.ext.grow⟩)⟩
 ·exact w.elim
theorem ar (i:Nat) {x:JN} (hN:X.N[i]? =some x:=by rfl) (hv:oO X.env.scope x:=by first|exact KG rfl|exact Kp (KG rfl)|exact Kp (Kp rfl)) (hd:(x==("__debug__":JN))=false:=by decide)
  (Sl:(x==("__classdict__":JN))=false:=by decide):PQ ly X (.Name x pos) (au i):=IT (pv i hN hv hd Sl)
theorem aa (i:Nat) {x:JN} (hN:X.N[i]? =some x:=by rfl) (hv:oO X.env.scope x:=by first|exact KG rfl|exact Kp (KG rfl)|exact Kp (Kp rfl)) (hd:(x==("__debug__":JN))=false:=by decide)
  (Sl:(x==("__classdict__":JN))=false:=by decide):PB ly X (.Name x pos) (ac i):=IU (pv i hN hv hd Sl)
def fC (d:D):ah->R D:=λ_=> .ok d
theorem ai {i:Int} {j:Nat}:PQ ly X (.Constant (.int i) j pos) (fC (.int i)):=λc=>PE.weak Ax λσ H Q ⟨F,ρ,ri,w⟩=>w _ H F (cc.refl ri.sub) (.int i)
theorem kb {i:Bool} {j:Nat}:PQ ly X (.Constant (.bool i) j pos) (fC (.bl i)):=λc=>PE.weak Gz λσ H Q ⟨F,ρ,ri,w⟩=>w _ H F (cc.refl ri.sub) (.bl i)
theorem yo {j:Nat}:PQ ly X (.Constant .none j pos) (fC .non):=λc=>PE.weak EB λσ H Q ⟨F,ρ,ri,w⟩=>w _ H F (cc.refl ri.sub) .non
theorem aF {x:JN} {j:Nat}:PQ ly X (.Constant (.str x) j pos) (fC (.str x)):=λc=>PE.weak EC λσ H Q ⟨F,ρ,ri,w⟩=>w _ H F (cc.refl ri.sub) (.str x)
theorem kd {x:JN} {i:Int} {t:MP} (hg:Gl X x) (hm:X.mg x=some (.int i t)) (hd:(x==("__debug__":JN))=false:=by decide):PQ ly X (.Name x pos) (fC (.int i)):=
 λc=>PE.weak (xT hg hm (v:= .int i) ⟨t,rfl⟩ hd) λσ H Q ⟨F,ρ,ri,w⟩=>w _ H F (cc.refl ri.sub) (.int i)
def f2 (g:D->D->Option D) (fa fb:ah->R D):ah->R D:=λρ=>fa ρ>>=λx=>fb ρ>>=λy=>R.of (g x y)
theorem az {op:Operator} {r:R2} {g:D->D->Option D} (ho:lX X (LD op) r) (Vo:ka X.K r g) (ha:PB ly X a fa) (hb:PB ly X b fb):PQ ly X (.BinOp a op b pos) (f2 g fa fb):=λc=>
 PE.weak (E1 ho (ha c) (hb c)) λσ H Q h=>two h λF H2 F2 v u x y e rx ry w=>by
  obtain⟨d,hd,k⟩:=w.of
  exact Vo v u x y d H2 F2 Q e.sub rx ry hd λw H' F' e' r'=>k w H' F' (e.trans e') r'
def f1 (g:D->Option D) (fa:ah->R D):ah->R D:=λρ=>fa ρ>>=λx=>R.of (g x)
theorem ql {op:UnaryOp} {r:V->Hp->VK->Prop} {g:D->Option D} (ho:HY X (unaryOp op) r) (Vo:Hm X.K r g) (ha:PB ly X a fa):PQ ly X (.UnaryOp op a pos) (f1 g fa):=λc=>
 PE.weak (E2 ho (ha c)) λσ H Q ⟨F,ρ,ri,w⟩=>⟨F,ρ,ri,(aN.bind.mp w).imp λx hx w1 v H1 F1 e1 r1=>by
  obtain⟨d,hd,k⟩:=w1.of
  exact Vo v x d H1 F1 Q e1.sub r1 hd λw H' F' e' r'=>k w H' F' (e1.trans e') r'⟩
theorem j7 {op:Pb} {r:R2} {g:D->D->Option D} (ho:lX X (Lo op) r) (Vo:ka X.K r g) (ha:PB ly X a fa) (hb:PB ly X b fb) (hm:Lg op b=false:=by first|exact AL _|with_unfolding_all rfl):
  PQ ly X (.Compare a [op] [b] pos) (f2 g fa fb):=λc=>
 PE.weak (CN ho (ha c) (hb c) hm) λσ H Q h=>two h λF H2 F2 v u x y e rx ry w=>by
  obtain⟨d,hd,k⟩:=w.of
  exact Vo v u x y d H2 F2 Q e.sub rx ry hd λw H' F' e' r'=>k w H' F' (e.trans e') r'
def fT (f:ah->R D):ah->R Bool:=λρ=>f ρ>>=λd=>match d with
 | .bl b=> .ok b
 |_=> .bad
theorem Fq {t:TE} (h:PT X e (E3 t)) (w:∀σ H Q,tQ X.K c f σ H Q->t σ H Q):PT X e (tT X.K c (fT f)):=PT.weak h λσ H Q ⟨F,ρ,ri,k⟩=>by
 refine w σ H _ ⟨F,ρ,ri,(aN.bind.mp k).imp λd _ k1 v H' F' e r=> ?_⟩
 cases d with
 |bl b=>cases r;exact⟨b,rfl,k1 H' F' e⟩
 |_=>exact k1.elim
theorem aR {op:Pb} {r:R2} {g:D->D->Option D} (ho:lX X (Lo op) r) (Vo:ka X.K r g) (ha:PB ly X a fa) (hb:PB ly X b fb) (hm:Lg op b=false:=by first|exact AL _|with_unfolding_all rfl):
  uZ ly X (.Compare a [op] [b] pos) (fT (f2 g fa fb)):=λc=>Fq (CO ho (ha c) (hb c) hm) λσ H Q h=>two h λF H2 F2 v u x y e rx ry w=>by
  obtain⟨d,hd,k⟩:=w.of
  exact Vo v u x y d H2 F2 Q e.sub rx ry hd λw H' F' e' r'=>k w H' F' (e.trans e') r'
def ag:ah->R (List D):=λ_=> .ok []
def a8 (f:ah->R D) (fs:ah->R (List D)):ah->R (List D):=λρ=>f ρ>>=λx=>fs ρ>>=λxs=> .ok (x::xs)
theorem ae:xg ly X [] ag:=λc=>PA.weak gG λσ H Q ⟨F,ρ,ri,w⟩=>w [] H F (cc.refl ri.sub) .nil
theorem a7 (h:PQ ly X e f) (hr:xg ly X es fs) (hs:JS (e::es) X.env=(false,Kb e X.env)::JS es X.env:=by rfl):xg ly X (e::es) (a8 f fs):=λc=>
 PA.weak (df (h c) (hr c) hs) λσ H Q ⟨F,ρ,ri,w⟩=>⟨F,ρ,ri,(aN.bind.mp w).imp λx hx w1 v H1 F1 e1 r1=>⟨F1,ρ,ri.step e1,(aN.bind.mp w1).imp λy hy w2 u H2 F2 e2 r2=>
  w2 _ H2 F2 (e1.trans e2) (.cons (r1.mono e2.grow) r2)⟩⟩
theorem aG:Hl ly X [] ag:=λc=>PA.weak gG λσ H Q ⟨F,ρ,ri,w⟩=>w [] H F (cc.refl ri.sub) .nil
theorem ax (h:PB ly X e f) (hr:Hl ly X es fs) (hs:JS (e::es) X.env=(false,Kb e X.env)::JS es X.env:=by rfl):Hl ly X (e::es) (a8 f fs):=λc=>
 PA.weak (df (h c) (hr c) hs) λσ H Q ⟨F,ρ,ri,w⟩=>⟨F,ρ,ri,(aN.bind.mp w).imp λx hx w1 v H1 F1 e1 r1=>⟨F1,ρ,ri.step e1,(aN.bind.mp w1).imp λy hy w2 u H2 F2 e2 r2=>
  w2 _ H2 F2 (e1.trans e2) (.cons (r1.mono e2) r2)⟩⟩
def lim:Nat:=100000
theorem gH:lim<=sizeLine:=by decide
def bA (fs:ah->R (List D)):ah->R D:=λρ=>fs ρ>>=λds=>if ds.length<=lim then .ok (.tup ds)else .bad
def eB (fs:ah->R (List D)):ah->R D:=λρ=>fs ρ>>=λds=>if ds.length<=lim then .ok (.lst ds)else .bad
theorem bc {x1:Nat} (h:xg ly X es fs):PQ ly X (.Tuple es x1 pos) (bA fs):=λc=>PE.weak (EW (h c)) λσ H Q ⟨F,ρ,ri,w⟩=>⟨F,ρ,ri,(aN.bind.mp w).imp λds hd w1 vs H1 F1 e1 r1=>by
 split at w1
 ·rename_i hl
  refine⟨Ky (by rw[r1.length];exact hl) gH,λp hp=> ?_⟩
  have e2:=cc.lay (o:= .tup vs) e1.sub hp
  exact w1 _ _ _ (e1.trans e2) (.tup aH (r1.mono e2.grow))
 ·exact w1.elim⟩
theorem dC (h:xg ly X es fs):PQ ly X (.List es pos) (eB fs):=λc=>PE.weak (tU (h c)) λσ H Q ⟨F,ρ,ri,w⟩=>⟨F,ρ,ri,(aN.bind.mp w).imp λds hd w1 vs H1 F1 e1 r1=>by
 split at w1
 ·rename_i hl
  refine⟨Ky (by rw[r1.length];exact hl) gH,λp hp=> ?_⟩
  have e2:=cc.lay (o:= .lst vs) e1.sub hp
  exact w1 _ _ _ (e1.trans e2) (.lst aH (r1.mono e2.grow))
 ·exact w1.elim⟩
def ck (g:List D->Option D) (fs:ah->R (List D)):ah->R D:=λρ=>fs ρ>>=λds=>R.of (g ds)
variable {x:JN} {p:KC} {id T:String} {rc:List V->Hp->VK->Prop}
theorem yp {c:dW ly} {rc:List V->Hp->VK->Prop} {g:List D->Option D} (Vo:my X.K rc g) {σ:St} {H:Hp} {Q:VK} (h:tQ X.K c (ck g fs) σ H Q):IG rc (Hk X.K c fs) σ H Q:=by
 obtain⟨F,ρ,ri,w⟩:=h
 refine⟨F,ρ,ri,(aN.bind.mp w).imp λds hd w1 vs H1 F1 e1 r1=> ?_⟩
 obtain⟨d,hd,k⟩:=w1.of
 exact Vo vs ds d H1 F1 Q e1.sub r1 hd λw H' F' e' r'=>k w H' F' (e1.trans e') r'
theorem aW {g:List D->Option D} (hc:dU X (.builtin id) rc) (Vo:my X.K rc g) (hm:X.mg x=none) (hv:KA x=some (.builtin id)) (ha:Hl ly X (e::es) fs) (hg:Gl X x:=by rfl) (hn:x≠"__name__":=by decide) (T8:(x==("__debug__":JN))=false:=by decide)
  (he:JS (e::es) X.env=(false,Kb e X.env)::JS es X.env:=by rfl) (Sm:(Ks pos (JS es X.env)).any (·.1)=false:=by rfl):PQ ly X (.Call (.Name x p) (e::es) [] pos) (ck g fs):=λc=>
 PE.weak (nR hc hg hm hv (ha c) hn T8 he Sm) λσ H Q h=>yp Vo h
theorem a_ {g:List D->Option D} (hc:dU X (.type T) rc) (Vo:my X.K rc g) (hm:X.mg x=none) (hv:KA x=some (.type T)) (ha:Hl ly X (e::es) fs) (hg:Gl X x:=by rfl) (hn:x≠"__name__":=by decide) (T8:(x==("__debug__":JN))=false:=by decide)
  (he:JS (e::es) X.env=(false,Kb e X.env)::JS es X.env:=by rfl) (Sm:(Ks pos (JS es X.env)).any (·.1)=false:=by rfl):PQ ly X (.Call (.Name x p) (e::es) [] pos) (ck g fs):=λc=>
 PE.weak (zu hc hg hm hv (ha c) hn T8 he Sm) λσ H Q h=>yp Vo h
def zK (K:JL) (n:Nat) (m:List D->R D):Sp:=λvs H Q E=>vs.length=n/\∃F ds,b8 F H/\Reps K F vs ds/\match m ds with
 | .ok d=>∀v H' F',cc H F H' F'->dR K F' v d->Q v H'
 | .err x _=>∀cls a H' F',fI K x cls->cc H F H' F'->E cls a H'
 | .bad=>False
def aL (m:List D->R D) (n:Nat) (fs:ah->R (List D)):ah->R D:=λρ=>fs ρ>>=λds=>if ds.length=n then (match m ds with| .ok d=> .ok d| .err x _=> .err x ρ| .bad=> .bad)else .bad
theorem Fs {c:dW ly} {m:List D->R D} {n:Nat} {σ:St} {H:Hp} {Q:VK} (h:tQ X.K c (aL m n fs) σ H Q):E6 (zK X.K n m) [] (Fo X c) (Gp X.K c fs) σ H Q:=by
 obtain⟨F,ρ,ri,w⟩:=h
 refine⟨F,ρ,ri,(aN.bind.mp w).imp λds hd w1 vs H1 F1 e1 r1=> ?_⟩
 show zK X.K n m (vs++[]) H1 Q (Fo X c σ)
 rw[Lm]
 split at w1
 ·rename_i hl
  refine⟨by rw[r1.length];exact hl,F1,ds,e1.sub,r1,?_⟩
  split at w1
  ·exact λv H' F' e' r'=>w1 v H' F' (e1.trans e') r'
  ·exact λcls a H' F' ec e'=>⟨_,ρ,F',ec,ri.step (e1.trans e'),w1⟩
  ·exact w1.elim
 ·exact w1.elim
theorem Ft {n k:Nat} {m:List D->R D} {f:JO} {fd:Lc} {ps:List JN} (F:fH X.prog X.w X.K X.mg X.base (lh X.prog X.w) k f fd ps (zK X.K n m)) (hr:d7 k X.A) (hm:X.mg x=some (.ref f)) (hk:KJ X.K (.ref f)=true) (hb:gk X.K fd ps [])
  (ha:xg ly X (e::es) fs) (hg:Gl X x:=by rfl) (T8:(x==("__debug__":JN))=false:=by decide) (he:JS (e::es) X.env=(false,Kb e X.env)::JS es X.env:=by rfl) (Sm:(Ks pos (JS es X.env)).any (·.1)=false:=by rfl):
  PQ ly X (.Call (.Name x p) (e::es) [] pos) (aL m n fs):=λc=>PE.weak (x_ F hr hg hm hk hb .nil (pU c) (ha c) T8 he Sm) λσ H Q h=>Fs h
variable {ga gb:ah->R Bool} {rest:List JW}
def gr (ga gb:ah->R Bool):ah->R Bool:=λρ=>ga ρ>>=λb=>if b=true then gb ρ else .ok false
def oZ (ga gb:ah->R Bool):ah->R Bool:=λρ=>ga ρ>>=λb=>if b=true then .ok true else gb ρ
def jE (ga:ah->R Bool):ah->R Bool:=λρ=>ga ρ>>=λb=> .ok (!b)
theorem qH.t (h:qH ly X e ga):uZ ly X e ga:=λc=>(h c).pt
theorem o_ (h:uZ ly X a ga):qH ly X (.BoolOp .And [a] pos) ga:=λc=>CI (h c)
theorem mM (h:uZ ly X a ga):qH ly X (.BoolOp .Or [a] pos) ga:=λc=>EE (h c)
theorem sT (h:uZ ly X a ga) (hb:qH ly X (.BoolOp .And (b::rest) pos) gb):qH ly X (.BoolOp .And (a::b::rest) pos) (gr ga gb):=λc=>PW.weak (EF (h c) (hb c)) λσ H Q ⟨F,ρ,ri,w⟩=>
 ⟨F,ρ,ri,(aN.bind.mp w).imp λb hb w1 H1 F1 e1=>by
  cases b with
  |true=>exact⟨F1,ρ,ri.step e1,w1.imp λb' _ k H2 F2 e2=>k H2 F2 (e1.trans e2)⟩
  |false=>exact w1 H1 F1 e1⟩
theorem sh (h:uZ ly X a ga) (hb:qH ly X (.BoolOp .Or (b::rest) pos) gb):qH ly X (.BoolOp .Or (a::b::rest) pos) (oZ ga gb):=λc=>PW.weak (GA (h c) (hb c)) λσ H Q ⟨F,ρ,ri,w⟩=>
 ⟨F,ρ,ri,(aN.bind.mp w).imp λb hb w1 H1 F1 e1=>by
  cases b with
  |false=>exact⟨F1,ρ,ri.step e1,w1.imp λb' _ k H2 F2 e2=>k H2 F2 (e1.trans e2)⟩
  |true=>exact w1 H1 F1 e1⟩
theorem mO (h:uZ ly X a ga):uZ ly X (.UnaryOp .Not a pos) (jE ga):=λc=>PT.weak (AA (h c)) λσ H Q ⟨F,ρ,ri,w⟩=>⟨F,ρ,ri,(aN.bind.mp w).imp λb hb w1 H1 F1 e1=>w1 H1 F1 e1⟩
def pV (fa fb:ah->R D):ah->R D:=λρ=>fa ρ>>=λd=>match d with
 | .bl true=>fb ρ
 | .bl false=> .ok (.bl false)
 |_=> .bad
def Ds (fa fb:ah->R D):ah->R D:=λρ=>fa ρ>>=λd=>match d with
 | .bl true=> .ok (.bl true)
 | .bl false=>fb ρ
 |_=> .bad
def yq (fa:ah->R D):ah->R D:=λρ=>fa ρ>>=λd=>match d with
 | .bl b=> .ok (.bl (!b))
 |_=> .bad
theorem vn {op:PySem.BoolOp} (h:PQ ly X a fa):PQ ly X (.BoolOp op [a] pos) fa:=λc=>EG (h c)
theorem vo (ha:PQ ly X a fa) (hb:PQ ly X (.BoolOp .And (b::rest) pos) fb):PQ ly X (.BoolOp .And (a::b::rest) pos) (pV fa fb):=λc=>PE.weak (EH (ha c) (hb c)) λσ H Q ⟨F,ρ,ri,w⟩=>
 ⟨F,ρ,ri,(aN.bind.mp w).imp λd hd w1 v H1 F1 e1 r1=>by
  cases d with
  |bl b=>
   cases r1
   cases b with
   |true=>exact⟨true,rfl,F1,ρ,ri.step e1,w1.imp λb' _ k v H2 F2 e2 r2=>k v H2 F2 (e1.trans e2) r2⟩
   |false=>exact⟨false,rfl,w1 _ H1 F1 e1 (.bl false)⟩
  |_=>exact w1.elim⟩
theorem IV (ha:PQ ly X a fa) (hb:PQ ly X (.BoolOp .Or (b::rest) pos) fb):PQ ly X (.BoolOp .Or (a::b::rest) pos) (Ds fa fb):=λc=>PE.weak (GD (ha c) (hb c)) λσ H Q ⟨F,ρ,ri,w⟩=>
 ⟨F,ρ,ri,(aN.bind.mp w).imp λd hd w1 v H1 F1 e1 r1=>by
  cases d with
  |bl b=>
   cases r1
   cases b with
   |false=>exact⟨false,rfl,F1,ρ,ri.step e1,w1.imp λb' _ k v H2 F2 e2 r2=>k v H2 F2 (e1.trans e2) r2⟩
   |true=>exact⟨true,rfl,w1 _ H1 F1 e1 (.bl true)⟩
  |_=>exact w1.elim⟩
theorem Ee (ha:PQ ly X a fa):PQ ly X (.UnaryOp .Not a pos) (yq fa):=λc=>PE.weak (EI (ha c)) λσ H Q ⟨F,ρ,ri,w⟩=>⟨F,ρ,ri,(aN.bind.mp w).imp λd hd w1 v H1 F1 e1 r1=>by
  cases d with
  |bl b=>cases r1;exact⟨b,rfl,w1 _ H1 F1 e1 (.bl _)⟩
  |_=>exact w1.elim⟩
def Jx (gc:ah->R Bool) (fa fb:ah->R D):ah->R D:=λρ=>gc ρ>>=λb=>if b=true then fa ρ else fb ρ
def Be:D->Option Bool
 | .non=>some false
 | .bl b=>some b
 | .int i=>some (i != 0)
 | .lst ds=>some (!ds.isEmpty)
 | .tup ds=>some (!ds.isEmpty)
 | .dic ds=>some (!ds.isEmpty)
 |_=>none
def eS (f:ah->R D):ah->R Bool:=λρ=>f ρ>>=λd=>R.of (Be d)
theorem Reps.isEmpty {K:JL} {F:Hp}:∀{vs:List V} {ds:List D},Reps K F vs ds->vs.isEmpty=ds.isEmpty
 |_,_, .nil=>rfl
 |_,_, .cons _ _=>rfl
theorem RepK.isEmpty {K:JL} {F:Hp}:∀{vs:List (cI×V)} {ds:List (cI×D)},RepK K F vs ds->vs.isEmpty=ds.isEmpty
 |_,_, .nil=>rfl
 |_,_, .cons _ _=>rfl
theorem f8 (h:PB ly X e f) (he:∀SG,OY e X.env SG=(do let v<-SG;M7 e.pos;LI [v] (Qy v)):=by intro _;rfl):uZ ly X e (eS f):=λc=>PT.weak (AM (h c) he) λσ H Q ⟨F,ρ,ri,w⟩=>
 ⟨F,ρ,ri,(aN.bind.mp w).imp λd hd w1 v H1 F1 e1 r1=>by
  obtain⟨b,hb,k⟩:=w1.of
  refine⟨b,?_,k H1 F1 e1⟩
  cases d with
  |non=>cases r1.non;cases hb;rfl
  |bl=>cases r1.bl;cases hb;rfl
  |int=>cases r1.int;cases hb;rfl
  |lst ds=>obtain⟨a,vs,rfl,h1,h2⟩:=r1.lst e1.sub;cases hb;exact .inl ⟨vs,dS.of h1,by rw[h2.isEmpty]⟩
  |tup ds=>obtain⟨a,vs,rfl,h1,h2⟩:=r1.tup e1.sub;cases hb;exact .inr (.inl ⟨vs,iE.of h1,by rw[h2.isEmpty]⟩)
  |dic ds=>obtain⟨a,vs,rfl,h1,h2,h3⟩:=r1.dic e1.sub;cases hb;exact .inr (.inr ⟨vs,h1,by rw[h2.isEmpty]⟩)
  |_=>cases hb⟩
end
end L2.Pu
namespace L2.Pu
open PySem PySem.Spec PyProof.Rows
variable {ly:List fj}
inductive bn where
 |nx (ρ:ah)|ret (d:D)|brk (ρ:ah)|cnt (ρ:ah)|retc (d:D) (ρ:ah)
def hG (K:JL) (c:dW ly) (F:Hp) (D:nM):bn->Prop
 | .nx ρ=>∀σ' H' F',b8 F F'->RI K c ρ σ' H' F'->D.nx σ' H'
 | .brk ρ=>∀σ' H' F',b8 F F'->RI K c ρ σ' H' F'->D.bk σ' H'
 | .cnt ρ=>∀σ' H' F',b8 F F'->RI K c ρ σ' H' F'->D.ct σ' H'
 | .ret d=>∀v H' F',b8 F F'->cc c.H0 c.F0 H' F'->dR K F' v d->D.rt v H'
 | .retc d ρ=>∀v σ' H' F',b8 F F'->RI K c ρ σ' H' F'->dR K F' v d->D.rt v H'
theorem hG.mono {K:JL} {c:dW ly} {F F1:Hp} {D:nM} (g:b8 F F1):∀{o:bn},hG K c F D o->hG K c F1 D o
 | .nx ρ,h=>λσ' H' F' s r=>h σ' H' F' (g.trans s) r
 | .brk ρ,h=>λσ' H' F' s r=>h σ' H' F' (g.trans s) r
 | .cnt ρ,h=>λσ' H' F' s r=>h σ' H' F' (g.trans s) r
 | .ret d,h=>λv H' F' s e r=>h v H' F' (g.trans s) e r
 | .retc d ρ,h=>λv σ' H' F' s e r=>h v σ' H' F' (g.trans s) e r
def tS (K:JL) (c:dW ly) (g:ah->R bn):TS:=λD σ H=>∃F ρ,RI K c ρ σ H F/\aN c (g ρ) (hG K c F D)
def n5 (ly:List fj) (X:Cx) (st:Ke) (g:ah->R bn):Prop:=∀c:j4 ly X,PS X st (tS X.K c.1 g)
def jk (ly:List fj) (X:Cx) (st:List Ke) (g:ah->R bn):Prop:=∀c:j4 ly X,sB X st (tS X.K c.1 g)
section
variable {X:Cx} {st:Ke} {rest:List Ke} {a b e:JW} {es:List JW} {fa fb f:ah->R D} {fs:ah->R (List D)} {ga gb g g':ah->R bn} {gt:ah->R Bool} {pos:KC}
def aI:ah->R bn:=λρ=> .ok (.nx ρ)
def aw (g g':ah->R bn):ah->R bn:=λρ=>g ρ>>=λo=>match o with
 | .nx ρ'=>g' ρ'
 |o=> .ok o
theorem aK:jk ly X [] aI:=λc=>sB.weak CJ λD σ H ⟨F,ρ,ri,w⟩=>w σ H F (b8.refl _) ri
theorem af (h:n5 ly X st g) (hr:jk ly X rest g'):jk ly X (st::rest) (aw g g'):=λc=>sB.weak (AB (h c) (hr c)) λD σ H ⟨F,ρ,ri,w⟩=>by
 refine⟨F,ρ,ri,(aN.bind.mp w).imp λo ho w1=> ?_⟩
 cases o with
 |nx ρ'=>exact λσ' H' F' s r=>⟨F',ρ',r,w1.imp λo' _ k=>k.mono s⟩
 |ret d=>exact w1
 |brk ρ'=>exact w1
 |cnt ρ'=>exact w1
 |retc d ρ'=>exact w1
theorem al (h:n5 ly X st g):jk ly X [st] g:=λc=>sB.weak (CK (h c)) λD σ H w=>w
def n_ (L:List Nat) (g:ah->R bn):ah->R bn:=λρ=>g (frz L ρ)
theorem sU (L:List Nat) (h:n5 ly X st g):n5 ly X st (n_ L g):=λc=>PS.weak (h c) λD σ H ⟨F,ρ,ri,w⟩=>by
 obtain⟨F',s,Sq⟩:=ri.frz L
 exact⟨F',_,Sq,w.imp λo _ k=>k.mono s⟩
def bB (f:ah->R D):ah->R bn:=λρ=>f ρ>>=λd=> .ok (.ret d)
theorem ba (h:PQ ly X e f):n5 ly X (.Return (some e) pos) (bB f):=λc=>PS.weak (wB (h c)) λD σ H ⟨F,ρ,ri,w⟩=>
 ⟨F,ρ,ri,(aN.bind.mp w).imp λd _ w1 v H' F' e r=>w1 v H' F' e.grow (ri.ext.trans e) r⟩
def cK (gc:ah->R Bool) (g g':ah->R bn):ah->R bn:=λρ=>gc ρ>>=λb=>if b=true then g ρ else g' ρ
theorem bN {ta tb:List Ke} (hc:uZ ly X e gt) (ha:jk ly X ta g) (hb:jk ly X tb g'):n5 ly X (.If e ta tb pos) (cK gt g g'):=λc=>PS.weak (D_ (hc c) (ha c) (hb c)) λD σ H ⟨F,ρ,ri,w⟩=>
 ⟨F,ρ,ri,(aN.bind.mp w).imp λb hb w1 H1 F1 e1=>by
  cases b with
  |true=>exact⟨F1,ρ,ri.step e1,w1.imp λo _ k=>k.mono e1.grow⟩
  |false=>exact⟨F1,ρ,ri.step e1,w1.imp λo _ k=>k.mono e1.grow⟩⟩
def tG (K:JL) (c:dW ly) (gt:D->ah->R ah):TG:=λv σ H Q=>∃F ρ d,RI K c ρ σ H F/\dR K F v d/\aN c (gt d ρ) λρ'=>∀σ' H' F',b8 F F'->RI K c ρ' σ' H' F'->Q σ' H'
def Dt (ly:List fj) (X:Cx) (tg:JW) (gt:D->ah->R ah):Prop:=∀c:j4 ly X,PG X tg (tG X.K c.1 gt)
def gN (i:Nat):D->ah->R ah:=λd ρ=> .ok (ρ.set i (some (.val d)))
theorem aS (i:Nat) {x:JN} (hN:X.N.Nodup) (hi:X.N[i]? =some x:=by rfl) (hx:zg X.env.scope x:=by first|exact KG rfl|exact Kp rfl) (hf:X.fn x=true\/X.env.scope.names.lookup x=some .local:=by first|exact .inl rfl|exact .inr rfl|assumption) (T9:kZ ly i:=by(repeat (first|assumption|exact L2.Pu.fD|refine L2.Pu.ef ⟨by first|decide|simp,by first|decide|simp⟩ ?_))):Dt ly X (.Name x pos) (gN i):=
 λc=>PG.weak (xV hN hi hx hf) λv σ H Q ⟨F,ρ,d,ri,r,w⟩=>w _ H F (b8.refl _) (ri.setVal i T9 r)
def Jb (K:JL) (c:dW ly) (gt:List D->ah->R ah):AD:=λvs σ H Q=>∃F ρ ds,RI K c ρ σ H F/\Reps K F vs ds/\aN c (gt ds ρ) λρ'=>∀σ' H' F',b8 F F'->RI K c ρ' σ' H' F'->Q σ' H'
def Bf (ly:List fj) (X:Cx) (tg:List JW) (gt:List D->ah->R ah):Prop:=∀c:j4 ly X,AE X tg (Jb X.K c.1 gt)
theorem AE.weak {X:Cx} {e:List JW} {t t':AD} (h:AE X e t) (w:∀v σ H Q,t' v σ H Q->t v σ H Q):AE X e t':=λR6 s σ H v u Q I r q=>h R6 s σ H v u Q I r (w v σ H Q q)
def rq:List D->ah->R ah:=λds ρ=>match ds with
 |[]=> .ok ρ
 |_=> .bad
def eE (g:D->ah->R ah) (gs:List D->ah->R ah):List D->ah->R ah:=λds ρ=>match ds with
 |[]=> .bad
 |d::r=>g d ρ>>=λρ'=>gs r ρ'
theorem uf:Bf ly X [] rq:=λc=>AE.weak CL λvs σ H Q ⟨F,ρ,ds,ri,r,w⟩=>by
 cases r with
 |nil=>exact⟨rfl,w σ H F (b8.refl _) ri⟩
 |cons _ _=>exact w.elim
theorem eU {g:D->ah->R ah} {gs:List D->ah->R ah} (h:Dt ly X e g) (hr:Bf ly X es gs) (hs:(KW (e::es) X.env).map (·.2)=Mx e X.env::(KW es X.env).map (·.2):=by rfl):Bf ly X (e::es) (eE g gs):=
 λc=>AE.weak (AF (h c) (hr c) hs) λvs σ H Q ⟨F,ρ,ds,ri,r,w⟩=>by
 cases r with
 |nil=>exact w.elim
 | @cons v d vs ds r t=>
  refine⟨v,vs,rfl,F,ρ,d,ri,r,(aN.bind.mp w).imp λρ' _ w1 σ' H' F' s Sq=>⟨F',ρ',ds,Sq,t.mono s,w1.imp λρ2 _ k σ2 H2 F2 s2 r2=>k σ2 H2 F2 (s.trans s2) r2⟩⟩
def sV (n:Nat) (gs:List D->ah->R ah):D->ah->R ah:=λd ρ=>match d with
 | .tup ds=>if ds.length=n then gs ds ρ else .bad
 | .lst ds=>if ds.length=n then gs ds ρ else .bad
 |_=> .bad
theorem PG.or {X:Cx} {e:JW} {t t':TG} (h:PG X e t) (h':PG X e t'):PG X e (λv σ H Q=>t v σ H Q\/t' v σ H Q):=λR6 s σ H v u Q I r q=>q.elim (λq=>h R6 s σ H v u Q I r q) λq=>h' R6 s σ H v u Q I r q
theorem Bg {k n:Nat} {gs:List D->ah->R ah} (hc:X.calm=true) (h:Bf ly X es gs) (hn:(KW es X.env).length=n:=by rfl) (U5:(KW es X.env).findIdx? (·.1)=none:=by rfl):Dt ly X (.Tuple es k pos) (sV n gs):=
 λc=>PG.weak (PG.or (AG hc (h c) hn U5) (B3 hc (h c) hn U5)) λv σ H Q ⟨F,ρ,d,ri,r,w⟩=>by
 cases r with
 | @tup a vs ds h1 h2=>
  change aN c.1 (if ds.length=n then gs ds ρ else .bad) _ at w
  split at w
  ·rename_i hl
   exact .inl ⟨a,vs,rfl,iE.of (ri.sub _ _ h1),by rw[h2.length];exact hl,F,ρ,ds,ri,h2,w⟩
  ·exact w.elim
 | @lst a vs ds h1 h2=>
  change aN c.1 (if ds.length=n then gs ds ρ else .bad) _ at w
  split at w
  ·rename_i hl
   exact .inr ⟨a,vs,rfl,dS.of (ri.sub _ _ h1),by rw[h2.length];exact hl,F,ρ,ds,ri,h2,w⟩
  ·exact w.elim
 |_=>exact w.elim
def aX (f:ah->R D) (g:D->ah->R ah):ah->R bn:=λρ=>f ρ>>=λd=>g d ρ>>=λρ'=> .ok (.nx ρ')
theorem Fu {c:dW ly} {g:D->ah->R ah} {K:JL} {D':nM} {σ:St} {H:Hp} (h:tS K c (aX f g) D' σ H):EL (tQ K c f) (tG K c g) D' σ H:=by
 obtain⟨F,ρ,ri,w⟩:=h
 refine⟨F,ρ,ri,(aN.bind.mp w).imp λd _ w1 v H1 F1 e1 r1=>⟨F1,ρ,d,ri.step e1,r1,(aN.bind.mp w1).imp λρ' _ w2 σ' H' F' s r'=>w2 σ' H' F' (e1.grow.trans s) r'⟩⟩
theorem Bh {tg:JW} {g:D->ah->R ah} (he:PQ ly X e f) (hg:Dt ly X tg g) (hs:NK [tg] e pos.line X.env=pure false:=by rfl) (hw:NL [tg] e X.env=pure none:=by rfl)
  (h1:(KW [tg] X.env).map (·.2)=[Mx tg X.env]:=by rfl):n5 ly X (.Assign [tg] e pos) (aX f g):=λc=>PS.weak (wC (he c) (hg c) hs hw h1) λD σ H h=>Fu h
theorem aY (i:Nat) {x:JN} {Rx:KC} (hN:X.N.Nodup) (he:PQ ly X e f) (hi:X.N[i]? =some x:=by rfl) (hx:zg X.env.scope x:=by first|exact KG rfl|exact Kp rfl) (hs:KR e (some (.Name x Rx)) pos.line X.env=pure false:=by rfl)
  (hf:X.fn x=true\/X.env.scope.names.lookup x=some .local:=by first|exact .inl rfl|exact .inr rfl|assumption) (T9:kZ ly i:=by(repeat (first|assumption|exact L2.Pu.fD|refine L2.Pu.ef ⟨by first|decide|simp,by first|decide|simp⟩ ?_))):n5 ly X (.Assign [.Name x Rx] e pos) (aX f (gN i)):=λc=>
 PS.weak (mZ hN hi hx (he c) hs hf) λD σ H h=>by
  obtain⟨F,ρ,ri,w⟩:=h
  exact⟨F,ρ,ri,(aN.bind.mp w).imp λd _ w1 v H1 F1 e1 r1=>w1 _ H1 F1 e1.grow ((ri.step e1).setVal i T9 r1)⟩
def Jy (i j:Nat) (fs:ah->R (List D)):ah->R bn:=λρ=>fs ρ>>=λds=>match ds with
 |[x,y]=> .ok (.nx ((ρ.set i (some (.val x))).set j (some (.val y))))
 |_=> .bad
def lj (i:Nat) (fs:ah->R (List D)):ah->R bn:=λρ=>fs ρ>>=λds=>if ds.length<=lim then .ok (.nx (ρ.set i (some (.own (.lst ds)))))else .bad
theorem ll (i:Nat) {x:JN} {Rx pl:KC} (hN:X.N.Nodup) (h:xg ly X es fs) (hi:X.N[i]? =some x:=by rfl) (hx:zg X.env.scope x:=by first|exact KG rfl|exact Kp rfl) (hs:KR (.List es pl) (some (.Name x Rx)) pos.line X.env=pure false:=by rfl)
  (hf:X.fn x=true\/X.env.scope.names.lookup x=some .local:=by first|exact .inl rfl|exact .inr rfl|assumption) (T9:kZ ly i:=by(repeat (first|assumption|exact L2.Pu.fD|refine L2.Pu.ef ⟨by first|decide|simp,by first|decide|simp⟩ ?_))):n5 ly X (.Assign [.Name x Rx] (.List es pl) pos) (lj i fs):=λc=>
 PS.weak (mZ hN hi hx (tU (h c)) hs hf) λD σ H ⟨F,ρ,ri,w⟩=>⟨F,ρ,ri,(aN.bind.mp w).imp λds _ w1 vs H1 F1 e1 r1=>by
  split at w1
  ·rename_i hl
   refine⟨Ky (by rw[r1.length];exact hl) gH,λp hp=> ?_⟩
   exact w1 _ _ F1 e1.grow ((ri.step e1).setNew i T9 hp (.lst r1))
  ·exact w1.elim⟩
structure zL (K:JL) (F:Hp) (J:It) (ds:List D):Prop where
 go:∀i H,b8 F H->i<ds.length->J.go i H
 stop:∀H,b8 F H->J.stop ds.length H
 yld:∀i H F1 x H',b8 F F1->b8 F1 H->J.yld i H x H'->i<ds.length->∃F' d,ds[i]? =some d/\cc H F1 H' F'/\dR K F' x d
def tI (K:JL) (c:dW ly) (fi:ah->R (List D)):TI:=λσ H Rk=>∃F ρ,RI K c ρ σ H F/\aN c (fi ρ) λds=>∀J H' F',cc H F H' F'->zL K F' J ds->Rk J H'
def Gq (ly:List fj) (X:Cx) (tg RB:JW) (fi:ah->R (List D)):Prop:=∀c:j4 ly X,PI X tg RB (tI X.K c.1 fi)
theorem PI.weak {X:Cx} {tg e:JW} {t t':TI} (h:PI X tg e t) (w:∀σ H Rk,t' σ H Rk->t σ H Rk):PI X tg e t':=λR6 s σ H Rk I q=>h R6 s σ H Rk I (w σ H Rk q)
def eF (g:D->ah->R ah) (gb:ah->R bn):List D->ah->R bn
 |[],ρ=> .ok (.nx ρ)
 |d::r,ρ=>g d ρ>>=λρ1=>gb ρ1>>=λo=>match o with
  | .nx ρ2=>eF g gb r ρ2
  | .cnt ρ2=>eF g gb r ρ2
  | .brk ρ2=> .ok (.nx ρ2)
  | .ret d=> .ok (.ret d)
  | .retc d ρ2=> .ok (.retc d ρ2)
def k_ (fi:ah->R (List D)) (g:D->ah->R ah) (gb:ah->R bn):ah->R bn:=λρ=>fi ρ>>=λds=>eF g gb ds ρ
theorem xh {g:D->ah->R ah} {gb:ah->R bn} {ds:List D} {i:Nat} {d:D} {ρ:ah} (h:ds[i]? =some d):eF g gb (ds.drop i) ρ=(g d ρ>>=λρ1=>gb ρ1>>=λo=>match o with
  | .nx ρ2=>eF g gb (ds.drop (i+1)) ρ2
  | .cnt ρ2=>eF g gb (ds.drop (i+1)) ρ2
  | .brk ρ2=> .ok (.nx ρ2)
  | .ret d=> .ok (.ret d)
  | .retc d ρ2=> .ok (.retc d ρ2)):=by
 obtain⟨hl,e⟩:=K9.mp h
 rw[MN hl,e]
 rfl
theorem Fv {K:JL} {c:dW ly} {fi:ah->R (List D)} {g:D->ah->R ah} {D':nM} {σ:St} {H:Hp} (h:tS K c (k_ fi g gb) D' σ H):GL (tI K c fi) (tG K c g) (tS K c gb) D' σ H:=by
 obtain⟨F,ρ,ri,w⟩:=h
 refine⟨F,ρ,ri,(aN.bind.mp w).imp λds _ w1 J H1 F1 e1 jo=> ?_⟩
 refine⟨λi m σ H=>∃F2 ρ2,RI K c ρ2 σ H F2/\b8 F1 F2/\m=ds.length - i/\i<=ds.length/\aN c (eF g gb (ds.drop i) ρ2) (hG K c F2 D'),⟨_,F1,ρ,ri.step e1,b8.refl _,rfl,Lx _,w1.imp λo _ k=>k.mono e1.grow⟩,?_⟩
 rintro i m σ2 H2 ⟨F2,ρ2,Wa,s2,rfl,hi,w2⟩
 by_cases hl:i<ds.length
 ·refine .inr ⟨jo.go i H2 (s2.trans Wa.sub) hl,λσ' H'=>∃F3 ρ3,RI K c ρ3 σ' H' F3/\b8 F2 F3/\aN c (eF g gb (ds.drop (i+1)) ρ3) (hG K c F3 D'),?_,λx H3 y=> ?_⟩
  ·rintro σ' H' ⟨F3,ρ3,VJ,s3,w3⟩
   exact⟨ds.length - (i+1),by omega,F3,ρ3,VJ,s2.trans s3,rfl,hl,w3⟩
  ·obtain⟨F3,d,hd,e3,r3⟩:=jo.yld i H2 F2 x H3 s2 Wa.sub y hl
   rw[xh hd]at w2
   refine⟨F3,ρ2,d,Wa.step e3,r3,(aN.bind.mp w2).imp λρ3 _ w3 σ4 H4 F4 s4 r4=>⟨F4,ρ3,r4,(aN.bind.mp w3).imp λo _ w4=> ?_⟩⟩
   have WU:b8 F2 F4:=e3.grow.trans s4
   cases o with
   |nx ρ5=>exact λσ' H' F' s' r'=>⟨F',ρ5,r',WU.trans s',w4.imp λo _ k=>k.mono (WU.trans s')⟩
   |cnt ρ5=>exact λσ' H' F' s' r'=>⟨F',ρ5,r',WU.trans s',w4.imp λo _ k=>k.mono (WU.trans s')⟩
   |brk ρ5=>exact λσ' H' F' s' r'=>w4 σ' H' F' (WU.trans s') r'
   |ret d=>exact λv H' F' s' e' r'=>w4 v H' F' (WU.trans s') e' r'
   |retc d ρ5=>exact λv σ' H' F' s' e' r'=>w4 v σ' H' F' (WU.trans s') e' r'
 ·have e:i=ds.length:=by omega
  subst e
  rw[Qr]at w2
  exact .inl ⟨jo.stop H2 (s2.trans Wa.sub),w2 σ2 H2 F2 (b8.refl _) Wa⟩
theorem mP {tg RB:JW} {body:List Ke} {fi:ah->R (List D)} {g:D->ah->R ah} (hp:PassesOwn (K2 X.prog X.w) X.A X.env X.xe) (hc:X.calm=true) (hi:Gq ly X tg RB fi) (hg:Dt ly X tg g) (hb:jk ly X body gb)
  (hs:∀x,LJ RB X.env x=pure x:=by intro _;rfl):n5 ly X (.For tg RB body [] pos) (k_ fi g gb):=λc=>PS.weak (EN hp hc (hi c) (hg c) (hb c) hs) λD σ H h=>Fv h
theorem zM {K:JL} {F:Hp} {a:JO} {vs:List V} {ds:List D} (h:F a=some (.lst vs)) (r:Reps K F vs ds):zL K F (HW K a) ds where
 go:=λi H s hi=>⟨vs,vs[i]'(by rw[r.length];exact hi),dS.of (s _ _ h),by simp[r.length,hi]⟩
 stop:=λH s=>⟨vs,dS.of (s _ _ h),Oa r.length⟩
 yld:=λi H F1 x H' s1 s2 y hi=>by
  obtain⟨rfl,y⟩:=y
  have:=y vs (dS.of (s2 _ _ (s1 _ _ h)))
  obtain⟨d,hd,rd⟩:=r.get' this
  exact⟨F1,d,hd,cc.refl s2,rd.mono s1⟩
theorem Bi {K:JL} {F:Hp} {a:JO} {vs:List V} {ds:List D} (h:F a=some (.tup vs)) (r:Reps K F vs ds):zL K F (Iy K a) ds where
 go:=λi H s hi=>⟨vs,vs[i]'(by rw[r.length];exact hi),iE.of (s _ _ h),by simp[r.length,hi]⟩
 stop:=λH s=>⟨vs,iE.of (s _ _ h),Oa r.length⟩
 yld:=λi H F1 x H' s1 s2 y hi=>by
  obtain⟨rfl,y⟩:=y
  have:=y vs (iE.of (s2 _ _ (s1 _ _ h)))
  obtain⟨d,hd,rd⟩:=r.get' this
  exact⟨F1,d,hd,cc.refl s2,rd.mono s1⟩
def cG (f:ah->R D):ah->R (List D):=λρ=>f ρ>>=λd=>match d with
 | .lst ds=> .ok ds
 | .tup ds=> .ok ds
 | .scr ns=> .ok (ns.map .int)
 |_=> .bad
theorem Bj {K:JL} {F:Hp} {a:JO} {ns:List Int} (h:dS K F a (ns.map V.int)):zL K F (HW K a) (ns.map .int)where
 go:=λi H s hi=>⟨ns.map V.int,(ns.map V.int)[i]'(by simpa using hi),s.seq h,by simp at hi;simp[hi]⟩
 stop:=λH s=>⟨ns.map V.int,s.seq h,by simp⟩
 yld:=λi H F1 x H' s1 s2 y hi=>by
  obtain⟨rfl,y⟩:=y
  have:=y (ns.map V.int) ((s1.trans s2).seq h)
  rw[Km]at this
  cases e:ns[i]? with
  |none=>rw[e]at this;cases this
  |some n=>rw[e]at this;cases this;exact⟨F1, .int n,by rw[Km,e];rfl,cc.refl s2, .int n⟩
theorem d6 {tg:JW} (h:PQ ly X e f):Gq ly X tg e (cG f):=by
 intro c R6 s σ H Rk I q
 obtain⟨F,ρ,ri,w⟩:=q
 have w':=aN.bind.mp w
 cases hf:f ρ with
 |bad=>rw[hf]at w';exact w'.elim
 |err er ρe=>
  rw[hf]at w'
  exact tR (h c) R6 s σ H Rk I ⟨F,ρ,ri,by rw[hf];exact w'⟩
 |ok d=>
  rw[hf]at w'
  cases d with
  |lst ds=>exact tR (h c) R6 s σ H Rk I ⟨F,ρ,ri,by
    rw[hf]
    intro v H1 F1 e1 r1
    cases r1 with
    |lst h1 h2=>exact⟨_,rfl,⟨_,dS.of (e1.sub _ _ h1)⟩,w' _ H1 F1 e1 (zM h1 h2)⟩⟩
  |tup ds=>exact EM (h c) R6 s σ H Rk I ⟨F,ρ,ri,by
    rw[hf]
    intro v H1 F1 e1 r1
    cases r1 with
    |tup h1 h2=>exact⟨_,rfl,⟨_,iE.of (e1.sub _ _ h1)⟩,w' _ H1 F1 e1 (Bi h1 h2)⟩⟩
  |scr ns=>exact tR (h c) R6 s σ H Rk I ⟨F,ρ,ri,by
    rw[hf]
    intro v H1 F1 e1 r1
    cases r1 with
    |scr h1=>exact⟨_,rfl,⟨_,e1.sub.seq h1⟩,w' _ H1 F1 e1 (Bj h1)⟩⟩
  |_=>exact w'.elim
def jl (lo hi:Int):List D:=(Kw (hi - lo).toNat).map λk:Nat=>D.int (lo+(k:Int))
theorem xi {K:JL} {F:Hp} {lo hi:Int}:zL K F (HX lo (hi - lo).toNat) (jl lo hi)where
 go:=λi H s h=>by
  rw[jl,JR,N3]at h
  exact h
 stop:=λH s=>by show (hi - lo).toNat<=_;rw[jl,JR,N3];exact Kc _
 yld:=λi H F1 x H' s1 s2 y h=>by
  obtain⟨rfl,rfl⟩:=y
  have h':i<(hi - lo).toNat:=by rw[jl,JR,N3]at h;exact h
  exact⟨F1, .int (lo+i),by rw[jl,Km,List.getElem?_range h'];rfl,cc.refl s2, .int _⟩
def c8 (f:ah->R (List D)):ah->R (List D):=λρ=>f ρ>>=λds=>match ds with
 |[.int j]=>if j.natAbs<=lim then .ok (jl 0 j)else .bad
 |_=> .bad
theorem lY {j:Int} (h:j.natAbs<=lim): -(2 ^62)<=j/\j<2 ^62:=by
 unfold lim at h
 omega
theorem dv {tg:JW} {p:KC} (hm:X.mg "range"=none) (ha:xg ly X [a] fs) (hg:Gl X "range":=by rfl) (hs:JS [a] X.env=[(false,Kb a X.env)]:=by rfl):Gq ly X tg (.Call (.Name "range" p) [a] [] pos) (c8 fs):=λc=>
 PI.weak (zk hg hm (ha c) hs) λσ H Rk ⟨F,ρ,ri,w⟩=>⟨F,ρ,ri,(aN.bind.mp w).imp λds _ w1 vs H1 F1 e1 r1=>by
  split at w1
  ·split at w1
   ·rename_i j _ hj
    cases r1.int1
    exact⟨j,rfl,(lY hj).1,(lY hj).2,w1 _ H1 F1 e1 (by simpa using xi (K:=X.K) (F:=F1) (lo:=0) (hi:=j))⟩
   ·exact w1.elim
  ·exact w1.elim⟩
end
def dw (n:Nat) (ds:List D):ah:=ds.map (λd=>some (.val d))++Ki (n - ds.length) none
def bj (k n:Nat) (g:ah->R bn) (ds:List D):R D:=if ds.length=k then g (dw n ds)>>=λo=>match o with
 | .ret d=> .ok d
 | .nx _=> .ok .non
 |_=> .bad else .bad
theorem Bk {K:JL} {N:List JN} {H F:Hp} {vs:List V} {ds:List D} {Er:JN->ah->Prop} (s:b8 F H) (r:Reps K F vs ds):RI K (⟨H,F,λ_=>none,Er,λ_=>none,λ_=>none⟩:dW []) (dw N.length ds) (dB N vs) H F:=by
 have hv:∀(i:Nat) sl,(dw N.length ds)[i]? =some (some sl)->∃d,ds[i]? =some d/\sl= .val d:=λi sl h=>by
  unfold dw at h
  rw[Mw]at h
  split at h
  ·rw[Km]at h
   cases e:ds[i]? with
   |none=>rw[e]at h;cases h
   |some d=>rw[e]at h;simp at h;exact⟨d,rfl,h.symm⟩
  ·rw[Lu]at h
   split at h<;>simp at h
 refine⟨cc.refl s,λi d h=> ?_,λi d h=> ?_,λi d h=> ?_,(λb o e=>by cases e),λi j d d' a h=> ?_,?_,(λL h=>by cases h),(λL h=>by cases h),(λ_ _ e=>by cases e), .no λi x Ri f hs h=>(by obtain⟨d,_,z⟩:=hv i _ h;cases z),λL h=>by cases h⟩
 ·obtain⟨d',e,z⟩:=hv i _ h
  cases z
  obtain⟨v,h1,h2⟩:=r.get e
  refine⟨v,?_,h2⟩
  unfold dB
  have hl:i<vs.length:=(K9.mp h1).1
  rw[LA (by simpa using hl),Km,h1]
  rfl
 ·obtain⟨d',_,z⟩:=hv i _ h;cases z
 ·obtain⟨d',_,z⟩:=hv i _ h;cases z
 ·obtain⟨d',_,z⟩:=hv i _ h;cases z
 ·simp[dw,dB,r.length]
theorem Ia {P:K3} {w:Kd} {K:JL} {mg:JN->Option JM} {base:Ka} {x qual:JN} {st:Ke} {f:JO} {fd:Lc} {N ps:List JN} {k:Nat} {sp:Sp} (F:yg K x qual st f fd) (S:aE N ps (ak st)) (len:∀vs H Q E,sp vs H Q E->vs.length=ps.length)
  (RE:∀(Rj:JM) (A:Kl) (outer:List Ly) (s:JP) (H:Hp) (vs:List V) (Q:VK) (E:XK),d7 k (A.deeper (LG qual (ak st) s.heap.objs.size f Rj))->sp vs H Q E->
   ∃t,sB (j3 (lh P w) P w K mg base N qual (ak st) f Rj A outer s H E) (bO st) t/\t {nx:=λ_ H'=>Q .non H',rt:=Q} (dB N vs) H):fH P w K mg base (lh P w) (k+1) f fd ps sp:=by
 obtain⟨oc,od,kV,Sk,pm,an,Rj,ct,Ur,rfl,lk,Sl⟩:=F.ex
 exact E7 lk Sl S len λA outer s H vs Q E hr W8=>RE Rj A outer s H vs Q E hr W8
theorem ug {P:K3} {w:Kd} {K:JL} {mg:JN->Option JM} {base:Ka} {N:List JN} {qual:JN} {scope:LL} {f:JO} {cd:JM} {A:Kl} {outer:List Ly} {s0:JP} {H0:Hp} {E:XK} {c:dW ly}
  (h:∀x ρ,c.Er x ρ->∀cls a H' F' σ,fI K x cls->RI K c ρ σ H' F'->E cls a H'):Fp (j3 (lh P w) P w K mg base N qual scope f cd A outer s0 H0 E) c:=
 .inl ⟨rn,λR6 σ ρ H F s a cls x I ri fl ec er=>xc I fl (h x ρ er cls (some a) H F σ ec ri)⟩
theorem Fw {P:K3} {w:Kd} {K:JL} {mg:JN->Option JM} {base:Ka} {x qual:JN} {st:Ke} {f:JO} {fd:Lc} {N ps:List JN} {k n m:Nat} {g:ah->R bn} (F:yg K x qual st f fd) (S:aE N ps (ak st)) (hn:ps.length=n) (hm:N.length=m)
  (RE:∀(Rj:JM) (A:Kl) (outer:List Ly) (s:JP) (H:Hp) (E:XK),d7 k (A.deeper (LG qual (ak st) s.heap.objs.size f Rj))->
   jk [] (j3 (lh P w) P w K mg base N qual (ak st) f Rj A outer s H E) (bO st) g):fH P w K mg base (lh P w) (k+1) f fd ps (zK K n (bj n m g)):=by
 refine Ia F S (λvs H Q E h=>by rw[hn];exact h.1) (λRj A outer s H vs Q E hr h=> ?_)
 obtain⟨hl,Fz,ds,sub,r,w⟩:=h
 refine⟨_,RE Rj A outer s H E hr ⟨⟨H,Fz,λ_=>none,λx _=>∀cls a H' F',fI K x cls->cc H Fz H' F'->E cls a H',λ_=>none,λ_=>none⟩,ug λx ρ er cls a H' F' σ ec ri=>er cls a H' F' ec ri.ext⟩,?_⟩
 refine⟨Fz,dw m ds,by rw[<-hm];exact Bk sub r,?_⟩
 have hd:ds.length=n:=by rw[<-r.length];exact hl
 unfold bj at w
 rw[if_pos hd]at w
 cases e:g (dw m ds)with
 |bad=>rw[e]at w;exact w.elim
 |err c ρ=>rw[e]at w;exact w
 |ok o=>
  rw[e]at w
  cases o with
  |ret d=>exact λv H' F' _ e' r'=>w v H' F' e' r'
  |nx ρ=>exact λσ' H' F' _ r'=>w .non H' F' r'.ext .non
  |retc d ρ=>exact w.elim
  |brk ρ=>exact w.elim
  |cnt ρ=>exact w.elim
end L2.Pu
namespace L2.Pu
open PySem PySem.Spec PyProof.Rows
variable {ly:List fj}
def Slot.toBor:Slot->Slot
 | .val d=> .val d
 | .own d=> .bor d
 | .bor d=> .bor d
 | .obj=> .obj
 | .cel .. => .obj
def hJ (N:List JN) (names:List (JN×NameKind)) (ρ:ah):ah:=
 names.map λx=>if x.2= .free then ((N.findIdx? (·==x.1)).bind λi=>(ρ[i]?).join.map Slot.toBor)else none
theorem Hn {K:JL} {c:dW ly} {ρ:ah} {σ:St} {H F H1 F1:Hp} {N:List JN} {names:List (JN×NameKind)} {p:JO} {o:HO} (ri:RI K c ρ σ H F) (e:cc H F H1 F1) (hp:H1 p=none):
  RI K (⟨bY H1 p o,F1,H1,λ_ _=>False,λ_=>none,λ_=>none⟩:dW []) (hJ N names ρ) (rb N names σ) (bY H1 p o) F1:=by
 have r1:=ri.step e
 have Ro:∀(i:Nat) sl,(hJ N names ρ)[i]? =some (some sl)->∃(j:Nat) (Wm:Slot),ρ[j]? =some (some Wm)/\sl=Wm.toBor/\∀v,σ[j]? =some (some v)->(rb N names σ)[i]? =some (some v):=λi sl h=>by
  unfold hJ at h
  rw[Km]at h
  cases en:names[i]? with
  |none=>rw[en]at h;cases h
  |some y=>
   rw[en]at h
   simp only[Me,NZ]at h
   by_cases hf:y.2= .free
   ·rw[if_pos hf]at h
    cases ei:N.findIdx? (·==y.1)with
    |none=>rw[ei]at h;cases h
    |some j=>
     rw[ei]at h
     cases e2:ρ[j]? with
     |none=>simp[e2]at h
     |some u=>
      cases u with
      |none=>simp[e2]at h
      |some Wm=>
       simp[e2]at h
       refine⟨j,Wm,e2,h.symm,λv hv=> ?_⟩
       unfold rb
       rw[Km,en]
       simp only[Me,NZ]
       rw[if_pos hf,ei]
       show (σ[j]?).join=some v
       rw[hv];rfl
   ·rw[if_neg hf]at h;cases h
 refine⟨cc.refl (r1.sub.trans (cW hp)),λi d h=> ?_,λi d h=> ?_,λi d h=> ?_,cW hp,λi j d d' a h=> ?_,by simp[hJ,rb],(λL h=>by cases h),(λL h=>by cases h),(λ_ _ e=>by cases e), .no λi x Ri f hs h=>(by obtain⟨j,sl,h1,h2,h3⟩:=Ro i _ h;cases sl<;>cases h2),λL h=>by cases h⟩
 ·obtain⟨j,sl,h1,h2,h3⟩:=Ro i _ h
  cases sl with
  |val d'=>cases h2;obtain⟨v,k1,k2⟩:=r1.val j d h1;exact⟨v,h3 v k1,k2⟩
  |own d'=>cases h2
  |bor d'=>cases h2
  |obj=>cases h2
  |cel=>cases h2
 ·obtain⟨j,sl,h1,h2,h3⟩:=Ro i _ h;cases sl<;>cases h2
 ·obtain⟨j,sl,h1,h2,h3⟩:=Ro i _ h
  cases sl with
  |val d'=>cases h2
  |own d'=>cases h2;obtain⟨a,o,k1,k2,k3,k4,k5⟩:=r1.own j d h1;exact⟨a,o,h3 _ k1,k2,k5⟩
  |bor d'=>cases h2;obtain⟨a,o,k1,k2,k3⟩:=r1.bor j d h1;exact⟨a,o,h3 _ k1,r1.ext.keep _ _ (r1.bh _ _ k2),k3.mono r1.ext.grow⟩
  |obj=>cases h2
  |cel=>cases h2
 ·obtain⟨k,sl,h1,h2,h3⟩:=Ro i _ h;cases sl<;>cases h2
theorem RI.bump {K:JL} {ρ:ah} {σ:St} {H F H1 F1:Hp} {p:JO} {o o':HO} {Er:JN->ah->Prop} (r:RI K (⟨bY H1 p o,F1,H1,Er,λ_=>none,λ_=>none⟩:dW []) ρ σ H F) (hp:H1 p=none) (hF:F p=none):
  RI K (⟨bY H1 p o',F1,H1,Er,λ_=>none,λ_=>none⟩:dW []) ρ σ (bY H p o') F:=by
 refine⟨⟨λb u e=> ?_,λb u e=> ?_,r.ext.grow,λb e=> ?_⟩,r.val,λi d h=> ?_,r.bor,cW hp,r.dis,r.len,(λL h=>by cases h),(λL h=>by cases h),(λ_ _ e=>by cases e),⟨λi x Ri f hs h=> ?_,r.cel.one⟩,λL h=>by cases h⟩
 ·rw[ay (λz=>by rw[z,hF]at e;cases e)];exact r.sub b u e
 ·change bY H1 p o' b=some u at e
  by_cases z:b=p
  ·subst z;rw[aH]at e ⊢;exact e
  ·rw[ay z]at e ⊢;exact r.ext.keep b u (by show bY H1 p o b=some u;rw[ay z];exact e)
 ·by_cases z:b=p
  ·subst z;exact absurd hF e
  ·rcases r.ext.new b e with q|q
   ·exact .inl q
   ·refine .inr ?_
    change bY H1 p o b=none at q
    show bY H1 p o' b=none
    rw[ay z]at q ⊢;exact q
 ·obtain⟨a,u,h1,h2,h3,h4,h5⟩:=r.own i d h
  change bY H1 p o a=none at h4
  have z:a≠p:=λz=>by subst z;rw[aH]at h4;cases h4
  refine⟨a,u,h1,by rw[ay z];exact h2,h3,?_,h5⟩
  show bY H1 p o' a=none
  rw[ay z]at h4 ⊢;exact h4
 ·obtain⟨a,dx,b,h1,h2,h3⟩:=r.cel.ex i x Ri f hs h
  obtain⟨C,fs,vs,us,g1,g2,g3,g4,g5⟩:=h2.ex
  have Ro:∀{z:JO},bY H1 p o z=none->z≠p/\bY H1 p o' z=none:=λ{z} e=>by
   have n:z≠p:=λq=>by subst q;rw[aH]at e;cases e
   exact⟨n,by rw[ay n]at e ⊢;exact e⟩
  obtain⟨na,ea⟩:=Ro h2.za
  obtain⟨nd,ed⟩:=Ro h2.zd
  obtain⟨nb,eb⟩:=Ro h2.zb
  exact⟨a,dx,b,h1,⟨⟨C,fs,vs,us,by rw[ay na];exact g1,g2,g3,by rw[ay nb];exact g4,g5⟩,by rw[ay nd];exact h2.own,h2.fa,h2.fd,h2.fb,ea,ed,eb⟩,h3⟩
def lm (g:D->ah->R ah) (gt:ah->R Bool) (fe:ah->R D):List D->ah->R (List D)
 |[],_=> .ok []
 |d::r,τ=>g d τ>>=λτ1=>gt τ1>>=λb=>if b=true then (fe τ1>>=λy=>lm g gt fe r τ1>>=λys=> .ok (y::ys))else lm g gt fe r τ1
def Jc (K:JL) (g:D->ah->R ah):TG:=λv σ H Q=>∃c:dW [],(∀e ρ,¬c.Er e ρ)/\tG K c g v σ H Q
def Jd (K:JL) (g:ah->R Bool):TT:=λσ H Q=>∃c:dW [],(∀e ρ,¬c.Er e ρ)/\tT K c g σ H Q
def Je (K:JL) (g:ah->R D):TE:=λσ H Q=>∃c:dW [],(∀e ρ,¬c.Er e ρ)/\tQ K c g σ H Q
def zN (ly:List fj) (X:Cx) (Tz:List JW) (gt:ah->R Bool):Prop:=∀c:j4 ly X,Ec X Tz (tT X.K c.1 gt)
def fq:ah->R Bool:=λ_=> .ok true
theorem dk {X:Cx}:zN ly X [] fq:=λc R6 s σ H Q I q=>by
 obtain⟨F,ρ,ri,w⟩:=q
 exact Dc R6 s σ H Q I (w H F (cc.refl ri.sub))
theorem i4 {X:Cx} {c:JW} {gt:ah->R Bool} (h:uZ ly X c gt):zN ly X [c] gt:=λc=>Dd (h c)
theorem qI {α β:Type} {r:R α} {f:α->R β} {b:β} (h:(r>>=f)= .ok b):∃a,r= .ok a/\f a= .ok b:=by
 cases r with
 |ok a=>exact⟨a,rfl,h⟩
 |err c ρ=>cases h
 |bad=>cases h
theorem n6 {K:JL} {c:dW ly} {ρ:ah} {σ:St} {H F H1 F1:Hp} {N:List JN} {names:List (JN×NameKind)} {p:JO} {g:D->ah->R ah} {gt:ah->R Bool} {fe:ah->R D} {J:It} {ds es:List D} {Q:Hp->Prop}
  (ri:RI K c ρ σ H F) (e:cc H F H1 F1) (jo:zL K F1 J ds) (hp:H1 p=none) (hl:ds.length<=lim) (he:lm g gt fe ds (hJ N names ρ)= .ok es)
  (k:∀H2 F2 vs,cc H1 F1 H2 F2->H2 p=some (.lst vs)->F2 p=none->Reps K F2 vs es->Q H2):
  re J (Jc K g) (Jd K gt) (Je K fe) p (rb N names σ) Q (bY H1 p (.lst [])):=by
 have s1:b8 F1 H1:=e.sub
 have f1:F1 p=none:=s1.free hp
 refine⟨λi m ys τ H=>∃F ρ' pre rest,RI K (⟨bY H1 p (.lst ys),F1,H1,λ_ _=>False,λ_=>none,λ_=>none⟩:dW []) ρ' τ H F/\Reps K F ys pre/\pre.length<=i/\m=ds.length - i/\i<=ds.length/\lm g gt fe (ds.drop i) ρ'= .ok rest/\pre++rest=es,
  ⟨_,F1,_,[],es,Hn ri e hp, .nil,Kc _,rfl,Lx _,he,rfl⟩,?_⟩
 rintro i m ys τ H2 ⟨F2,ρ',pre,rest,r2,rp,a2n,rfl,hi,hc,Yo⟩
 have a0W:F2 p=none:=by
  cases q:F2 p with
  |none=>rfl
  |some u=>
   rcases r2.ext.new p (by rw[q];simp)with z|z
   ·exact absurd f1 z
   ·change bY H1 p (.lst ys) p=none at z;rw[aH]at z;cases z
 have hD:∀{ρ' τ H F},RI K (⟨bY H1 p (.lst ys),F1,H1,λ_ _=>False,λ_=>none,λ_=>none⟩:dW []) ρ' τ H F->H p=some (.lst ys):=λr=>r.ext.keep p _ aH
 refine⟨hD r2,?_⟩
 by_cases U1:i<ds.length
 ·refine .inr ⟨jo.go i H2 (r2.ext.grow.trans r2.sub) U1,?_,λx H3 y=> ?_⟩
  ·have:=rp.length
   have:=gH
   omega
  ·obtain⟨F3,d,hd,e3,r3⟩:=jo.yld i H2 F2 x H3 r2.ext.grow r2.sub y U1
   obtain⟨Vf,ed⟩:=K9.mp hd
   rw[MN Vf,ed]at hc
   obtain⟨τ1,h1,hc⟩:=qI (r:=g d ρ') hc
   obtain⟨b,h2,hc⟩:=qI (r:=gt τ1) hc
   refine⟨_,λe ρ h=>h,F3,ρ',d,r2.step e3,r3,?_⟩
   rw[h1]
   intro τ4 H4 F4 s4 r4
   refine⟨_,λe ρ h=>h,F4,τ1,r4,?_⟩
   rw[h2]
   intro H5 F5 e5
   cases b with
   |false=>
    exact⟨ds.length - (i+1),by omega,F5,τ1,pre,rest,r4.step e5,(rp.mono e3.grow).mono (s4.trans e5.grow),by omega,rfl,U1,hc,Yo⟩
   |true=>
    rw[if_pos rfl]at hc ⊢
    obtain⟨y',h3,hc⟩:=qI (r:=fe τ1) hc
    obtain⟨a0X,h4,hc⟩:=qI (r:=lm g gt fe (ds.drop (i+1)) τ1) hc
    cases hc
    refine⟨_,λe ρ h=>h,F5,τ1,r4.step e5,?_⟩
    rw[h3]
    intro v H6 F6 e6 r6
    have Zl:=(r4.step e5).step e6
    refine⟨hD Zl,ds.length - (i+1),by omega,F6,τ1,pre++[y'],a0X,Zl.bump hp ?_,(((rp.mono e3.grow).mono (s4.trans e5.grow)).mono e6.grow).append (.cons r6 .nil),by simp;omega,rfl,U1,h4,by rw[<-Yo];simp⟩
    cases q:F6 p with
    |none=>rfl
    |some u=>
     rcases Zl.ext.new p (by rw[q];simp)with z|z
     ·exact absurd f1 z
     ·change bY H1 p (.lst ys) p=none at z;rw[aH]at z;cases z
 ·have ei:i=ds.length:=by omega
  subst ei
  rw[Qr]at hc
  cases hc
  rw[Lm]at Yo
  subst Yo
  refine .inl ⟨jo.stop H2 (r2.ext.grow.trans r2.sub),k H2 F2 ys ⟨r2.sub,(cW hp).trans r2.ext.keep,r2.ext.grow,λa ha=> ?_⟩ (hD r2) a0W rp⟩
  rcases r2.ext.new a ha with z|z
  ·exact .inl z
  ·refine .inr ?_
   change bY H1 p (.lst ys) a=none at z
   rw[ay (λq=>by subst q;rw[aH]at z;cases z)]at z
   exact z
section
variable {X:Cx} {TY tg RB:JW} {Tz:List JW} {scope:LL} {pos:KC} {fi:ah->R (List D)} {g:D->ah->R ah} {gt:ah->R Bool} {fe:ah->R D}
def bH (N:List JN) (names:List (JN×NameKind)) (fi:ah->R (List D)) (g:D->ah->R ah) (gt:ah->R Bool) (fe:ah->R D):ah->R (List D):=λρ=>fi ρ>>=λds=>if ds.length<=lim then (match lm g gt fe ds (hJ N names ρ)with
 | .ok es=> .ok es
 |_=> .bad)else .bad
def fL (f:ah->R (List D)):ah->R D:=λρ=>f ρ>>=λds=> .ok (.lst ds)
theorem IW {X:Cx} (h:Dt [] X tg g):PG X tg (Jc X.K g):=λR6 s σ H v u Q I r ⟨c,hn,q⟩=>h ⟨c, .no hn⟩ R6 s σ H v u Q I r q
theorem IX {X:Cx} (h:zN [] X Tz gt):Ec X Tz (Jd X.K gt):=λR6 s σ H Q I ⟨c,hn,q⟩=>h ⟨c, .no hn⟩ R6 s σ H Q I q
theorem IY {X:Cx} (h:PQ [] X TY fe):PE X TY (Je X.K fe):=λR6 s σ H Q I ⟨c,hn,q⟩=>h ⟨c, .no hn⟩ R6 s σ H Q I q
theorem cu (S:aQ X scope) (hc:X.calm=true) (hi:Gq ly X tg RB fi) (hg:∀s H ex,Dt [] (dH X scope s H ex) tg g) (VG:∀s H ex,zN [] (dH X scope s H ex) Tz gt) (VB:∀s H ex,PQ [] (dH X scope s H ex) TY fe)
  (hs:∀x,LJ RB X.env x=pure x:=by intro _;rfl):PQ ly X (.ListComp TY [⟨tg,RB,Tz,0⟩] scope pos) (fL (bH X.N scope.names fi g gt fe)):=λc=>
 PE.weak (yk S hc (hi c) (λs H ex=>IW (hg s H ex)) (λs H ex=>IX (VG s H ex)) (λs H ex=>IY (VB s H ex)) hs) λσ H Q ⟨F,ρ,ri,w⟩=>by
  refine⟨F,ρ,ri,(aN.bind.mp (aN.bind.mp w)).imp λds _ w1 J H1 F1 e1 jo p hp=> ?_⟩
  split at w1
  ·rename_i hl
   split at w1
   ·rename_i es he
    refine n6 ri e1 jo hp hl he λH2 F2 vs e2 Wr XX rv=> ?_
    have g2:b8 F2 (bY F2 p (.lst vs)):=cW XX
    refine w1 (.ref p) H2 (bY F2 p (.lst vs)) ⟨λb u eb=> ?_,e1.keep.trans e2.keep,(e1.grow.trans e2.grow).trans g2,λa ha=> ?_⟩ (.lst aH (rv.mono g2))
    ·by_cases z:b=p
     ·subst z;rw[aH]at eb;rw[Wr];exact eb
     ·rw[ay z]at eb;exact e2.sub b u eb
    ·by_cases z:a=p
     ·subst z;exact .inr (e1.keep.free hp)
     ·rw[ay z]at ha
      exact(e1.trans e2).new a ha
   ·exact w1.elim
  ·exact w1.elim
def p0 (i:Nat) (f:ah->R (List D)):ah->R bn:=λρ=>f ρ>>=λds=> .ok (.nx (ρ.set i (some (.own (.lst ds)))))
theorem Bm (i:Nat) {y:JN} {py U6:KC} (S:aQ X scope) (hc:X.calm=true) (hN:X.N.Nodup) (hi:Gq ly X tg RB fi) (hg:∀s H ex,Dt [] (dH X scope s H ex) tg g) (VG:∀s H ex,zN [] (dH X scope s H ex) Tz gt) (VB:∀s H ex,PQ [] (dH X scope s H ex) TY fe)
  (VA:X.N[i]? =some y:=by rfl) (hx:zg X.env.scope y:=by first|exact KG rfl|exact Kp rfl) (hf:X.fn y=true\/X.env.scope.names.lookup y=some .local:=by first|exact .inl rfl|exact .inr rfl|assumption)
  (U_:KR (.ListComp TY [⟨tg,RB,Tz,0⟩] scope pos) (some (.Name y py)) U6.line X.env=pure true:=by rfl) (hs:∀x,LJ RB X.env x=pure x:=by intro _;rfl) (T9:kZ ly i:=by(repeat (first|assumption|exact L2.Pu.fD|refine L2.Pu.ef ⟨by first|decide|simp,by first|decide|simp⟩ ?_))):
  n5 ly X (.Assign [.Name y py] (.ListComp TY [⟨tg,RB,Tz,0⟩] scope pos) U6) (p0 i (bH X.N scope.names fi g gt fe)):=λc=>
 PS.weak (Df S hc (hi c) (λs H ex=>IW (hg s H ex)) (λs H ex=>IX (VG s H ex)) (λs H ex=>IY (VB s H ex)) (xV hN VA hx hf) U_ hs) λD σ H ⟨F,ρ,ri,w⟩=>by
  refine⟨F,ρ,ri,(aN.bind.mp (aN.bind.mp w)).imp λds _ w1 J H1 F1 e1 jo p hp=> ?_⟩
  split at w1
  ·rename_i hl
   split at w1
   ·rename_i es he
    refine n6 ri e1 jo hp hl he λH2 F2 vs e2 Wr XX rv=> ?_
    refine w1 _ H2 F2 (e1.grow.trans e2.grow) ((ri.step (e1.trans e2)).setOwn i T9 Wr XX (ri.ext.keep.free (e1.keep.free hp)) (.lst rv) (λj d' _ hj ej=> ?_) (ri.celNe (e1.trans e2).keep (e1.keep.free hp)))
    obtain⟨a,o,k1,k2,_⟩:=ri.own j d' hj
    rw[ej]at k1
    cases k1
    rw[e1.keep.free hp]at k2
    cases k2
   ·exact w1.elim
  ·exact w1.elim
end
def lp:D->Option cI
 | .int i=>some (.inl i)
 | .str x=>some (.inr x)
 |_=>none
def lq (Ta:List (cI×D)) (k:cI):Option D:=(Ta.find? λkv=>decide (kv.1=k)).map (·.2)
def Fx (Ta:List (cI×D)) (k:cI) (v:D):List (cI×D):=
 if (Ta.any λkv=>decide (kv.1=k))=true then Ta.map (λkv=>if kv.1=k then (kv.1,v)else kv)else Ta++[(k,v)]
theorem lZ {K:JL} {H F:Hp} {v:V} {d:D} {k:cI} (h:lp d=some k) (r:dg K H F v d):v=kV k:=by
 cases d with
 |int i=>cases h;exact r.int
 |str x=>cases h;exact r.str
 |_=>cases h
section
variable {K:JL} {F:Hp}
theorem RepK.any (k:cI):∀{vs:List (cI×V)} {ds:List (cI×D)},RepK K F vs ds->(vs.any λkv=>decide (kv.1=k))=ds.any λkv=>decide (kv.1=k):=by
 intro vs ds
 induction ds generalizing vs with
 |nil=>intro h;rw[h.nilI];rfl
 |cons d ds ih=>
  intro h
  obtain⟨v,us,rfl,_,t⟩:=RepK.consI (k:=d.1) (d:=d.2) h
  rw[Li,Li,ih t]
theorem RepK.get (k:cI):∀{vs:List (cI×V)} {ds:List (cI×D)},RepK K F vs ds->(jZ vs k=none/\lq ds k=none)\/∃v d,jZ vs k=some v/\lq ds k=some d/\dR K F v d:=by
 intro vs ds
 induction ds generalizing vs with
 |nil=>intro h;rw[h.nilI];exact .inl ⟨rfl,rfl⟩
 |cons d ds ih=>
  intro h
  obtain⟨a,d⟩:=d
  obtain⟨v,vs,rfl,r,t⟩:=h.consI
  by_cases e:a=k
  ·exact .inr ⟨v,d,by simp[jZ,e],by simp[lq,e],r⟩
  ·have h1:jZ ((a,v)::vs) k=jZ vs k:=by simp[jZ,e]
   have h2:lq ((a,d)::ds) k=lq ds k:=by simp[lq,e]
   rw[h1,h2]
   exact ih t
theorem RepK.repl (k:cI) {v:V} {d:D} (h:dR K F v d):∀{vs:List (cI×V)} {ds:List (cI×D)},RepK K F vs ds->RepK K F (vs.map λkv=>if kv.1=k then (kv.1,v)else kv) (ds.map λkv=>if kv.1=k then (kv.1,d)else kv):=by
 intro vs ds
 induction ds generalizing vs with
 |nil=>intro h;rw[h.nilI];exact .nil
 |cons x ds ih=>
  intro g
  obtain⟨a,x⟩:=x
  obtain⟨y,vs,rfl,r,t⟩:=g.consI
  rw[J_,J_]
  by_cases e:a=k
  ·simp only[e,if_true];exact .cons h (ih t)
  ·simp only[e,if_false];exact .cons r (ih t)
theorem RepK.append:∀{vs us:List (cI×V)} {ds es:List (cI×D)},RepK K F vs ds->RepK K F us es->RepK K F (vs++us) (ds++es):=by
 intro vs us ds
 induction ds generalizing vs with
 |nil=>intro es h g;rw[h.nilI];exact g
 |cons x ds ih=>
  intro es h g
  obtain⟨a,x⟩:=x
  obtain⟨y,vs,rfl,r,t⟩:=h.consI
  exact .cons r (ih t g)
theorem RepK.put (k:cI) {v:V} {d:D} (h:dR K F v d) {vs:List (cI×V)} {ds:List (cI×D)} (r:RepK K F vs ds):RepK K F (mq vs k v) (Fx ds k d):=by
 unfold mq Fx
 rw[r.any k]
 split
 ·exact r.repl k h
 ·exact r.append (.cons h .nil)
end
theorem Fy {kvs:List (cI×V)} {k:cI} (v:V) (hn:(kvs.map (·.1)).Nodup):((mq kvs k v).map (·.1)).Nodup:=by
 unfold mq
 split
 ·have e:(kvs.map λkv=>if kv.1=k then (kv.1,v)else kv).map (·.1)=kvs.map (·.1):=by
   rw[K_]
   refine MF λkv _=> ?_
   show (if kv.1=k then (kv.1,v)else kv).1=kv.1
   split<;>rfl
  rw[e];exact hn
 ·rename_i h
  rw[Kn]
  refine Mi.mpr ⟨hn,by simp,λa ha b hb=> ?_⟩
  have eb:b=k:=by simpa using hb
  subst eb
  intro z
  subst z
  obtain⟨kv,h1,h2⟩:=Lp.mp ha
  exact h (KZ.mpr ⟨kv,h1,by simp[h2]⟩)
section
variable {X:Cx} {a b e:JW} {es:List JW} {fa fb f fk fv:ah->R D} {fs:ah->R (List D)} {pos:KC}
def rz (i:Nat) (f:ah->R D):ah->R bn:=λρ=>match ρ[i]? with
 |some (some (.own (.lst ds)))=>f ρ>>=λd=>if ds.length<lim then .ok (.nx (ρ.set i (some (.own (.lst (ds++[d]))))))else .bad
 |_=> .bad
theorem RI.ownL {K:JL} {c:dW ly} {ρ:ah} {σ:St} {H F:Hp} (ri:RI K c ρ σ H F) {i:Nat} {ds:List D} (h:ρ[i]? =some (some (.own (.lst ds)))):∃a vs,σ[i]? =some (some (.ref a))/\H a=some (.lst vs)/\Reps K F vs ds:=by
 obtain⟨a,o,h1,h2,_,_,h5⟩:=ri.own i _ h
 cases h5 with
 |lst r=>exact⟨a,_,h1,h2,r⟩
theorem RI.ownD {K:JL} {c:dW ly} {ρ:ah} {σ:St} {H F:Hp} (ri:RI K c ρ σ H F) {i:Nat} {ds:List (cI×D)} (h:ρ[i]? =some (some (.own (.dic ds)))):∃a vs,σ[i]? =some (some (.ref a))/\H a=some (.dK vs)/\RepK K F vs ds/\(vs.map (·.1)).Nodup:=by
 obtain⟨a,o,h1,h2,_,_,h5⟩:=ri.own i _ h
 cases h5 with
 |dic r n=>exact⟨a,_,h1,h2,r,n⟩
theorem jF (i:Nat) {x:JN} {px Rp Rm:KC} (h:PQ ly X e f) (hN:X.N[i]? =some x:=by rfl) (hv:oO X.env.scope x:=by first|exact KG rfl|exact Kp (KG rfl)|exact Kp (Kp rfl)) (hd:(x==("__debug__":JN))=false:=by decide)
  (Sl:(x==("__classdict__":JN))=false:=by decide) (RT:KI (.Name x px) "append" X.env (Kb (.Name x px) X.env)=Kb (.Name x px) X.env:=by rfl)
  (TM:((Ks Rm (JS [e] X.env)).all (λx=> !x.1)&&(LF Rm (Le [] X.env)).all (λx=>x.1.isSome)
   &&decide (([e]:List JW).length+([]:List LR).length+(if ([]:List LR).isEmpty then 0 else 1)<30))=true:=by rfl)
  (RU:(Rp.endLine==Rm.line)=true:=by rfl) (hs:JS [e] X.env=(false,Kb e X.env)::JS [] X.env:=by rfl) (RV:(Ks Rm (JS [] X.env)).any (·.1)=false:=by rfl)
  (U_:KR (.Call (.Attribute (.Name x px) "append" Rp) [e] [] Rm) none pos.line X.env=pure false:=by rfl):n5 ly X (.Expr (.Call (.Attribute (.Name x px) "append" Rp) [e] [] Rm) pos) (rz i f):=λc=>
 PS.weak (nO (ye Lf Ou Ov oU (pv i hN hv hd Sl) (df (h c) gG hs) RT TM RU hs RV) U_) λD σ H ⟨F,ρ,ri,w⟩=>by
  unfold rz at w
  split at w
  ·rename_i ds hi
   obtain⟨a,vs,h1,h2,h3⟩:=ri.ownL hi
   refine⟨_,h1, .inl ⟨rfl,vs,dS.of h2⟩,F,ρ,ri,(aN.bind.mp w).imp λd _ w1 v H1 F1 e1 r1=> ?_⟩
   split at w1
   ·rename_i hl
    refine⟨a,vs,v,rfl,rfl,e1.keep _ _ h2,Kt (by rw[h3.length];exact hl) gH,?_⟩
    exact w1 σ _ F1 e1.grow ((ri.step e1).change (o:= .lst vs) hi h1 (.lst ((h3.mono e1.grow).append (.cons r1 .nil))))
   ·exact w1.elim
  ·exact w.elim
def Bo (i:Nat) (fk fv:ah->R D):ah->R bn:=λρ=>match ρ[i]? with
 |some (some (.own (.dic Ta)))=>fv ρ>>=λv=>fk ρ>>=λk=>match lp k with
  |some Ro=>if Ta.length<lim then .ok (.nx (ρ.set i (some (.own (.dic (Fx Ta Ro v))))))else .bad
  |none=> .bad
 |some (some (.own (.lst ds)))=>fv ρ>>=λv=>fk ρ>>=λk=>match k with
  | .int j=>(match wy ds.length j with
   |some n=> .ok (.nx (ρ.set i (some (.own (.lst (ds.set n v))))))
   |none=> .bad)
  |_=> .bad
 |_=> .bad
theorem Ef (i:Nat) {x:JN} {px Rx:KC} (hu:X.A.units+1<Ma) (hk:PQ ly X a fk) (h:PQ ly X e fv) (hN:X.N[i]? =some x:=by rfl) (hv:oO X.env.scope x:=by first|exact KG rfl|exact Kp (KG rfl)|exact Kp (Kp rfl)) (hd:(x==("__debug__":JN))=false:=by decide)
  (Sl:(x==("__classdict__":JN))=false:=by decide) (hs:KR e (some (.Subscript (.Name x px) a Rx)) pos.line X.env=pure false:=by rfl)
  (ha:∀v,Mx (.Subscript (.Name x px) a Rx) X.env v=(do
   let ov<-LI [v] (Kb (.Name x px) X.env)
   let iv<-LI [v,ov] (Kb a X.env)
   M7 Rx
   LI [v,ov,iv] (QL ov iv v)
   release [v,ov,iv] []):=by intro _;rfl)
  (VX:NK [.Subscript (.Name x px) a Rx] e pos.line X.env=pure false:=by rfl) (hw:NL [.Subscript (.Name x px) a Rx] e X.env=pure none:=by rfl)
  (h1:(KW [.Subscript (.Name x px) a Rx] X.env).map (·.2)=[Mx (.Subscript (.Name x px) a Rx) X.env]:=by rfl):n5 ly X (.Assign [.Subscript (.Name x px) a Rx] e pos) (Bo i fk fv):=by
 intro c R6 s σ H D I q
 obtain⟨F,ρ,ri,w⟩:=q
 unfold Bo at w
 split at w
 ·rename_i Ta hi
  obtain⟨p,vs,g1,g2,g3,g4⟩:=ri.ownD hi
  refine D8 hu (pv i hN hv hd Sl) (hk c) (h c) hs R6 s σ H D I ⟨F,ρ,ri,(aN.bind.mp w).imp λd _ w1 v H1 F1 e1 r1=> ?_⟩
  refine⟨_,g1,F1,ρ,ri.step e1,(aN.bind.mp w1).imp λk _ w2 u H2 F2 e2 r2=> ?_⟩
  cases Vm:lp k with
  |none=>rw[Vm]at w2;exact w2.elim
  |some Ro=>
   rw[Vm]at w2
   cases lZ (H:=H2) Vm (.inl r2)
   dsimp only at w2
   split at w2
   ·rename_i hl
    have Wh:=e1.trans e2
    refine⟨p,_,rfl,wY.k (k:=Ro) (Wh.keep _ _ g2) (Kt (by rw[g3.length];exact hl) gH),?_⟩
    exact w2 σ _ F2 Wh.grow ((ri.step Wh).change (o:= .dK vs) hi g1 (.dic ((g3.mono Wh.grow).put Ro (r1.mono e2.grow)) (Fy _ g4)))
   ·exact w2.elim
 ·rename_i ds hi
  obtain⟨p,vs,g1,g2,g3⟩:=ri.ownL hi
  refine wC (h c) (EK (pv i hN hv hd Sl) (hk c) AU ha) VX hw h1 R6 s σ H D I ⟨F,ρ,ri,(aN.bind.mp w).imp λd _ w1 v H1 F1 e1 r1=> ?_⟩
  refine⟨_,g1,F1,ρ,ri.step e1,(aN.bind.mp w1).imp λk _ w2 u H2 F2 e2 r2=> ?_⟩
  cases k with
  |int j=>
   cases r2
   dsimp only at w2
   split at w2
   ·rename_i n hn
    have Wh:=e1.trans e2
    refine⟨p,vs,j,n,rfl,rfl,Wh.keep _ _ g2,by rw[g3.length];exact hn,?_⟩
    exact w2 σ _ F2 Wh.grow ((ri.step Wh).change (o:= .lst vs) hi g1 (.lst ((g3.mono Wh.grow).set n (r1.mono e2.grow))))
   ·exact w2.elim
  |_=>exact w2.elim
 ·exact w.elim
end
end L2.Pu
namespace L2.Pu
open PySem PySem.Spec PyProof.Rows
variable {ly:List fj}
section
variable {K:JL}
def si (i j:Int):Prop:=i.natAbs<18446744073709551616\/j.natAbs<18446744073709551616
def xj (_ j:Int):Prop:=0<j/\j.natAbs<1073741824
def Bp (i j:Int):Prop:=0<=j/\j.natAbs<=1000000/\i.natAbs<18446744073709551616
instance (i j:Int):Decidable (si i j):=by unfold si;infer_instance
instance (i j:Int):Decidable (xj i j):=by unfold xj;infer_instance
instance (i j:Int):Decidable (Bp i j):=by unfold Bp;infer_instance
theorem si.c {i j:Int} (h:si i j):zn i j:=by
 unfold si at h
 unfold zn
 omega
theorem xj.c {i j:Int} (h:xj i j):CM i j:=by
 unfold xj at h
 unfold CM
 omega
theorem Bp.c {i j:Int} (h:Bp i j):GO i j:=by
 unfold Bp at h
 unfold GO
 omega
def br:D->D->Option D
 | .int i, .int j=>some (.int (i+j))
 | .lst a, .lst b=>if a.length+b.length<=lim then some (.lst (a++b))else none
 | .tup a, .tup b=>if a.length+b.length<=lim then some (.tup (a++b))else none
 |_,_=>none
def Eg (K:JL):R2:=λx y H Q=>(zm (λi j=> .int (i+j)) x y H Q\/GZ x y H Q)\/(E9 K x y H Q\/Ed K x y H Q)
theorem aB {X:Cx}:lX X (LD .Add) (Eg X.K):=(ER.or Fa).or (CW.or Dl)
theorem aC:ka K (Eg K) br:=by
 intro v u x y d H F Q s rx ry h k
 unfold br at h
 split at h
 ·cases rx.int;cases ry.int;cases h;exact .inl (.inl ⟨_,_,rfl,rfl,k _ H F (cc.refl s) (.int _)⟩)
 ·rename_i a b
  split at h
  ·rename_i hl
   cases h
   obtain⟨p,vs,rfl,h1,h2⟩:=rx.lst s
   obtain⟨q,us,rfl,h3,h4⟩:=ry.lst s
   refine .inl (.inr ⟨p,q,vs,us,rfl,rfl,h1,h3,Ky (by rw[h2.length,h4.length];exact hl) gH,λl Vf=> ?_⟩)
   have e:=cc.lay (o:= .lst (vs++us)) s Vf
   exact k _ _ _ e (.lst aH ((h2.append h4).mono e.grow))
  ·cases h
 ·rename_i a b
  split at h
  ·rename_i hl
   cases h
   obtain⟨p,vs,rfl,h1,h2⟩:=rx.tup s
   obtain⟨q,us,rfl,h3,h4⟩:=ry.tup s
   cases a with
   |nil=>
    cases h2
    refine .inr (.inr ⟨p,q,us,rfl,rfl,iE.of h1,iE.of h3,?_⟩)
    match ry with
    | .inl ry=>exact k _ H F (cc.refl s) ry
   |cons a0 a1=>
    refine .inr (.inl ⟨p,q,vs,us,rfl,rfl,iE.of h1,iE.of h3,(λz=>by subst z;cases h2),Ky (by rw[h2.length,h4.length];exact hl) gH,λz=> ?_,λ_ l Vf=> ?_⟩)
    ·subst z
     cases h4
     rw[Lm]at k
     match rx with
     | .inl rx=>exact k _ H F (cc.refl s) rx
    ·have e:=cc.lay (o:= .tup (vs++us)) s Vf
     exact k _ _ _ e (.tup aH ((h2.append h4).mono e.grow))
  ·cases h
 ·cases h
def Gr (g:Int->Int->D):D->D->Option D
 | .int i, .int j=>some (g i j)
 |_,_=>none
def FA (C:Int->Int->Prop) [∀i j,Decidable (C i j)] (g:Int->Int->D):D->D->Option D
 | .int i, .int j=>if C i j then some (g i j)else none
 |_,_=>none
theorem uh {gv:Int->Int->V} {g:Int->Int->D} (hg:∀F i j,dR K F (gv i j) (g i j)):ka K (zm gv) (Gr g):=by
 intro v u x y d H F Q s rx ry h k
 cases x with
 |int i=>
  cases y with
  |int j=>cases rx.int;cases ry.int;cases h;exact⟨i,j,rfl,rfl,k _ H F (cc.refl s) (hg F i j)⟩
  |_=>cases h
 |_=>cases h
theorem Bq {C C':Int->Int->Prop} [∀i j,Decidable (C i j)] {gv:Int->Int->V} {g:Int->Int->D} (hC:∀i j,C i j->C' i j) (hg:∀F i j,dR K F (gv i j) (g i j)):ka K (rI C' gv) (FA C g):=by
 intro v u x y d H F Q s rx ry h k
 cases x with
 |int i=>
  cases y with
  |int j=>
   cases rx.int;cases ry.int
   replace h:(if C i j then some (g i j)else none)=some d:=h
   split at h
   ·cases h;exact⟨i,j,rfl,rfl,hC i j (by assumption),k _ H F (cc.refl s) (hg F i j)⟩
   ·cases h
  |_=>cases h
 |_=>cases h
def jG:=Gr λi j=> .int (i - j)
def gC:=FA xj λi j=> .int (i / j)
def cw:=FA (λ_ j=>0<j) λi j=> .int (i%j)
def xk:=Gr λi j=> .bl (decide (i<j))
def Jz:=Gr λi j=> .bl (decide (i<=j))
def p7:=Gr λi j=> .bl (decide (j<i))
def Du:=Gr λi j=> .bl (decide (j<=i))
theorem gX:ka K (zm λi j=> .int (i - j)) jG:=uh λF i j=> .int _
theorem hU:ka K (rI CM λi j=> .int (i / j)) gC:=Bq (λ_ _ h=>h.c) λF i j=> .int _
theorem bt:ka K (rI (λ_ j=>0<j) λi j=> .int (i%j)) cw:=Bq (λ_ _ h=>h) λF i j=> .int _
theorem lr:ka K (zm λi j=> .bl (decide (i<j))) xk:=uh λF i j=> .bl _
theorem gI:ka K (zm λi j=> .bl (decide (j<i))) p7:=uh λF i j=> .bl _
theorem rA:ka K (zm λi j=> .bl (decide (j<=i))) Du:=uh λF i j=> .bl _
def qm:D->D->Option D
 | .int i, .int j=>if si i j then some (.int (i*j))else none
 | .lst a, .int k=>if k.natAbs<=lim/\a.length*k.toNat<=lim then some (.lst (Ki k.toNat a).flatten)else none
 |_,_=>none
def Br:R2:=λx y H Q=>rI zn (λi j=> .int (i*j)) x y H Q\/G_ x y H Q
theorem j8 {X:Cx}:lX X (LD .Mult) Br:=ES.or Fb
theorem Reps.rep {F:Hp} {vs:List V} {ds:List D} (h:Reps K F vs ds):∀k:Nat,Reps K F (Ki k vs).flatten (Ki k ds).flatten
 |0=> .nil
 |k+1=>by
  rw[L9,L9,LK,LK]
  exact h.append (h.rep k)
theorem ke:ka K Br qm:=by
 intro v u x y d H F Q s rx ry h k
 unfold qm at h
 split at h
 ·rename_i i j
  cases rx.int;cases ry.int
  replace h:(if si i j then some (D.int (i*j))else none)=some d:=h
  split at h
  ·rename_i hb;cases h;exact .inl ⟨i,j,rfl,rfl,si.c hb,k _ H F (cc.refl s) (.int _)⟩
  ·cases h
 ·rename_i a j
  split at h
  ·rename_i hl
   cases h
   cases ry.int
   obtain⟨p,vs,rfl,h1,h2⟩:=rx.lst s
   refine .inr ⟨p,j,vs,rfl,rfl,h1,by have:=lY hl.1;omega,by have:=lY hl.1;omega,Ky (by rw[h2.length];exact hl.2) gH,λl Vf=> ?_⟩
   have e:=cc.lay (o:= .lst (Ki j.toNat vs).flatten) s Vf
   exact k _ _ _ e (.lst aH ((h2.rep _).mono e.grow))
  ·cases h
 ·cases h
def jm:D->Option D
 | .int i=>some (.int (-i))
 |_=>none
theorem fF:Hm K (rU λi=> .int (-i)) jm:=by
 intro v x d H F Q s rx h k
 cases x with
 |int i=>cases rx.int;cases h;exact⟨i,rfl,k _ H F (cc.refl s) (.int _)⟩
 |_=>cases h
def xl:D->D->Option Bool
 | .non, .non=>some true
 | .non, .int _=>some false
 | .int _, .non=>some false
 | .non, .bl _=>some false
 | .bl _, .non=>some false
 | .non, .str _=>some false
 | .str _, .non=>some false
 | .int i, .int j=>some (decide (i=j))
 | .bl i, .bl j=>some (decide (i=j))
 | .str i, .str j=>some (decide (i=j))
 | .int _, .str _=>some false
 | .str _, .int _=>some false
 | .bl _, .str _=>some false
 | .str _, .bl _=>some false
 |_,_=>none
def eG (x y:D):Option D:=(xl x y).map .bl
def rB (x y:D):Option D:=(xl x y).map λb=> .bl (!b)
theorem sW {H F:Hp} {v u:V} {x y:D} {b:Bool} (rx:dg K H F v x) (ry:dg K H F u y) (h:xl x y=some b):ET v u=true/\decide (v=u)=b:=by
 cases x<;>cases y<;>first
  |(exfalso;revert h;simp[xl];done)
  |(first|cases rx.int|cases rx.bl|cases rx.str|cases rx.non)<;>(first|cases ry.int|cases ry.bl|cases ry.str|cases ry.non)<;>(refine⟨rfl,?_⟩;simp[xl]at h ⊢;try exact h)
theorem bC:ka K J6 eG:=by
 intro v u x y d H F Q s rx ry h k
 unfold eG at h
 cases e:xl x y with
 |none=>rw[e]at h;cases h
 |some b=>
  rw[e]at h
  cases h
  obtain⟨h1,h2⟩:=sW rx ry e
  exact⟨h1,by rw[h2];exact k _ H F (cc.refl s) (.bl b)⟩
theorem iG:ka K J7 rB:=by
 intro v u x y d H F Q s rx ry h k
 unfold rB at h
 cases e:xl x y with
 |none=>rw[e]at h;cases h
 |some b=>
  rw[e]at h
  cases h
  obtain⟨h1,h2⟩:=sW rx ry e
  exact⟨h1,by rw[h2];exact k _ H F (cc.refl s) (.bl _)⟩
def vp:D->D->Option D
 | .non, .non=>some (.bl true)
 | .scr _, .non=>none
 |_, .non=>some (.bl false)
 |_,_=>none
def Bs:D->Bool
 | .non=>true
 |_=>false
theorem zO {H F:Hp} {v:V} {x:D} (s:b8 F H) (rx:dg K H F v x):decide (v= .non)=Bs x:=by
 cases x with
 |non=>cases rx.non;rfl
 |bl b=>cases rx.bl;rfl
 |int i=>cases rx.int;rfl
 |str z=>cases rx.str;rfl
 |tup ds=>obtain⟨a,vs,rfl,_⟩:=rx.tup s;rfl
 |lst ds=>obtain⟨a,vs,rfl,_⟩:=rx.lst s;rfl
 |dic ds=>obtain⟨a,vs,rfl,_⟩:=rx.dic s;rfl
 |scr ns=>obtain⟨a,rfl,_⟩:=rx.scr s;rfl
 |ins C fs=>
  rcases rx with rx|⟨a,o,rfl,_,q⟩
  ·cases rx;rfl
  ·cases q
 |exc C=>
  rcases rx with rx|⟨a,o,rfl,_,q⟩
  ·cases rx;rfl
  ·cases q
theorem FC {x y d:D} (h:vp x y=some d):y= .non/\d= .bl (Bs x):=by
 unfold vp at h
 split at h
 ·cases h;exact⟨rfl,rfl⟩
 ·cases h
 ·rename_i n1 _
  cases h
  refine⟨rfl,?_⟩
  unfold Bs
  split
  ·exact absurd rfl n1
  ·rfl
 ·cases h
theorem yr:ka K (λx y H Q=>y= .non/\Q (.bl (decide (x= .non))) H) vp:=by
 intro v u x y d H F Q s rx ry h k
 obtain⟨rfl,rfl⟩:=FC h
 cases ry.non
 refine⟨rfl,?_⟩
 rw[zO s rx]
 exact k _ H F (cc.refl s) (.bl _)
def o0:D->Bool
 | .non=>true
 | .bl _=>true
 | .int _=>true
 | .str _=>true
 |_=>false
def Ho:D->D->Bool
 | .non, .non=>true
 | .bl a, .bl b=>a==b
 | .bl a, .int b=>(if a then 1 else 0)==b
 | .int a, .bl b=>a==(if b then 1 else 0)
 | .int a, .int b=>a==b
 | .str a, .str b=>a==b
 |_,_=>false
theorem vq {F:Hp} {v:V} {d:D} (r:dR K F v d) (h:o0 d=true):kP v=true:=by
 cases r<;>first|rfl|cases h
theorem FD {F:Hp} {v u:V} {x y:D} (r:dR K F v x) (q:dR K F u y) (hx:o0 x=true) (hy:o0 y=true):D0 v u=Ho x y:=by
 cases r<;>first|(cases hx;done)|(cases q<;>first|rfl|(cases hy;done))
theorem Reps.flat {F:Hp}:∀{vs:List V} {ds:List D},Reps K F vs ds->ds.all o0=true->vs.all kP=true:=by
 intro vs ds
 induction ds generalizing vs with
 |nil=>intro h _;rw[h.nilI];rfl
 |cons d ds ih=>
  intro g h
  obtain⟨v,us,rfl,r,t⟩:=g.consI
  rw[Lq,L7]at h
  rw[Lq,vq r h.1,ih t h.2];rfl
theorem Reps.inV {F:Hp} {v:V} {x:D} (rx:dR K F v x) (hx:o0 x=true) {vs:List V} {ds:List D} (g:Reps K F vs ds):ds.all o0=true->L2.inV v vs=ds.any λy=>Ho y x:=by
 induction ds generalizing vs with
 |nil=>intro _;rw[g.nilI];rfl
 |cons d ds ih=>
  intro h
  obtain⟨w,us,e0,r,t⟩:=g.consI
  rw[Lq,L7]at h
  have:=ih t h.2
  rw[e0]
  unfold L2.inV at this ⊢
  rw[Li,Li,FD r rx h.1 hx,this]
def Gs (U0:Bool) (x:D) (ds:List D):Option D:=if o0 x=true/\ds.all o0=true then some (.bl (if U0 then !(ds.any λy=>Ho y x)else ds.any λy=>Ho y x))else none
def xm (U0:Bool):D->D->Option D
 |x, .lst ds=>Gs U0 x ds
 |x, .tup ds=>Gs U0 x ds
 |_,_=>none
theorem vt {H F:Hp} {U0:Bool} {v:V} {x d:D} {ds:List D} (rx:dg K H F v x) (h:Gs U0 x ds=some d) {vs:List V} (rv:Reps K F vs ds):
  kP v=true/\vs.all kP=true/\d= .bl (if U0 then !L2.inV v vs else L2.inV v vs):=by
 unfold Gs at h
 split at h
 ·rename_i hf
  cases h
  have a0c:dR K F v x:=by
   rcases rx with rx|⟨a,o,rfl,_,q⟩
   ·exact rx
   ·cases q<;>cases hf.1
  exact⟨vq a0c hf.1,rv.flat hf.2,by rw[rv.inV a0c hf.1 hf.2]⟩
 ·cases h
theorem l_ {U0:Bool}:ka K (IJ K U0) (xm U0):=by
 intro v u x y d H F Q s rx ry h k
 cases y with
 |lst ds=>
  obtain⟨a,vs,rfl,h1,h2⟩:=ry.lst s
  obtain⟨g1,g2,rfl⟩:=vt rx h h2
  exact⟨a,vs,rfl, .inl (dS.of h1),g1,g2,k _ H F (cc.refl s) (.bl _)⟩
 |tup ds=>
  obtain⟨a,vs,rfl,h1,h2⟩:=ry.tup s
  obtain⟨g1,g2,rfl⟩:=vt rx h h2
  exact⟨a,vs,rfl, .inr (iE.of h1),g1,g2,k _ H F (cc.refl s) (.bl _)⟩
 |_=>cases h
def ui (U0:Bool):D->D->Option D
 |x, .dic Ta=>(lp x).map λk=> .bl (if U0 then !(lq Ta k).isSome else (lq Ta k).isSome)
 |_,_=>none
def gJ (U0:Bool) (x y:D):Option D:=match y with
 | .dic _=>ui U0 x y
 |_=>xm U0 x y
theorem RepK.look {F:Hp} {vs:List (cI×V)} {ds:List (cI×D)} (r:RepK K F vs ds) (k:cI):(jZ vs k).isSome=(lq ds k).isSome:=by
 rcases r.get k with ⟨h1,h2⟩|⟨v,d,h1,h2,_⟩<;>rw[h1,h2]<;>rfl
end
section
variable {X:Cx} {a b e:JW} {es:List JW} {fa fb f fk fv:ah->R D} {fs:ah->R (List D)} {pos:KC}
theorem Bt {g h:ah->R D} (hg:PQ ly X e g) (hh:PQ ly X e h) (XY:∀ρ,f ρ=g ρ\/f ρ=h ρ):PQ ly X e f:=λc R6 s σ H Q I ⟨F,ρ,ri,w⟩=>
 (XY ρ).elim (λz=>hg c R6 s σ H Q I ⟨F,ρ,ri,z▸w⟩) λz=>hh c R6 s σ H Q I ⟨F,ρ,ri,z▸w⟩
theorem Eh {g h f:ah->R Bool} (hg:uZ ly X e g) (hh:uZ ly X e h) (XY:∀ρ,f ρ=g ρ\/f ρ=h ρ):uZ ly X e f:=λc R6 s σ H Q I ⟨F,ρ,ri,w⟩=>
 (XY ρ).elim (λz=>hg c R6 s σ H Q I ⟨F,ρ,ri,z▸w⟩) λz=>hh c R6 s σ H Q I ⟨F,ρ,ri,z▸w⟩
theorem uj {U0:Bool} (ρ:ah):f2 (gJ U0) fa fb ρ=f2 (xm U0) fa fb ρ\/f2 (gJ U0) fa fb ρ=f2 (ui U0) fa fb ρ:=by
 unfold f2
 cases fa ρ with
 |ok x=>
  cases fb ρ with
  |ok y=>cases y<;>first|exact .inl rfl|exact .inr rfl
  |_=>exact .inl rfl
 |_=>exact .inl rfl
theorem vv {K:JL} {c:dW ly} {σ:St} {H:Hp} {Q:VK} (h:tQ K c (f2 (ui false) fa fb) σ H Q):Fd (tB' K c fa) (tB' K c fb) σ H Q:=two h λF H2 F2 v u x y e rx ry w=>by
 obtain⟨d,hd,k⟩:=w.of
 cases y with
 |dic Ta=>
  obtain⟨p,vs,rfl,h1,h2,h3⟩:=ry.dic e.sub
  replace hd:(lp x).map (λk=>D.bl (if false then !(lq Ta k).isSome else (lq Ta k).isSome))=some d:=hd
  cases hk:lp x with
  |none=>rw[hk]at hd;cases hd
  |some Ro=>
   rw[hk]at hd
   cases hd
   cases lZ hk rx
   exact⟨p,_,rfl,nV.k (k:=Ro) h1,k _ H2 F2 e (by rw[h2.look];exact .bl _)⟩
 |_=>cases hd
theorem pW {K:JL} {c:dW ly} {σ:St} {H:Hp} {Q:VK} (h:tQ K c (f2 (ui true) fa fb) σ H Q):t_ (tB' K c fa) (tB' K c fb) σ H Q:=two h λF H2 F2 v u x y e rx ry w=>by
 obtain⟨d,hd,k⟩:=w.of
 cases y with
 |dic Ta=>
  obtain⟨p,vs,rfl,h1,h2,h3⟩:=ry.dic e.sub
  replace hd:(lp x).map (λk=>D.bl (if true then !(lq Ta k).isSome else (lq Ta k).isSome))=some d:=hd
  cases hk:lp x with
  |none=>rw[hk]at hd;cases hd
  |some Ro=>
   rw[hk]at hd
   cases hd
   cases lZ hk rx
   exact⟨p,_,rfl,nV.k (k:=Ro) h1,k _ H2 F2 e (by rw[h2.look];exact .bl _)⟩
 |_=>cases hd
theorem Dv (hu:X.A.units+1<Ma) (ha:PB ly X a fa) (hb:PB ly X b fb) (hm:Lg .In b=false:=by with_unfolding_all rfl):PQ ly X (.Compare a [.In] [b] pos) (f2 (gJ false) fa fb):=
 Bt (j7 sJ l_ ha hb hm) (λc=>PE.weak (Ay (AY hu (ha c) (hb c)) hm) λσ H Q h=>vv h) uj
theorem uk (hu:X.A.units+1<Ma) (ha:PB ly X a fa) (hb:PB ly X b fb) (hm:Lg .NotIn b=false:=by with_unfolding_all rfl):PQ ly X (.Compare a [.NotIn] [b] pos) (f2 (gJ true) fa fb):=
 Bt (j7 nU l_ ha hb hm) (λc=>PE.weak (Ay (sN hu (ha c) (hb c)) hm) λσ H Q h=>pW h) uj
theorem Bu {g h:ah->R D} (XY:∀ρ,f ρ=g ρ\/f ρ=h ρ) (ρ:ah):fT f ρ=fT g ρ\/fT f ρ=fT h ρ:=by
 unfold fT
 rcases XY ρ with z|z
 ·exact .inl (by rw[z])
 ·exact .inr (by rw[z])
theorem Hq (hu:X.A.units+1<Ma) (ha:PB ly X a fa) (hb:PB ly X b fb) (hm:Lg .In b=false:=by with_unfolding_all rfl):uZ ly X (.Compare a [.In] [b] pos) (fT (f2 (gJ false) fa fb)):=
 Eh (aR sJ l_ ha hb hm) (λc=>Fq (c:=c.1) (t:=Fd (tB' X.K c.1 fa) (tB' X.K c.1 fb)) (Az (AY hu (ha c) (hb c)) hm) λσ H Q h=>vv h) (Bu uj)
theorem o1 (hu:X.A.units+1<Ma) (ha:PB ly X a fa) (hb:PB ly X b fb) (hm:Lg .NotIn b=false:=by with_unfolding_all rfl):uZ ly X (.Compare a [.NotIn] [b] pos) (fT (f2 (gJ true) fa fb)):=
 Eh (aR nU l_ ha hb hm) (λc=>Fq (c:=c.1) (t:=t_ (tB' X.K c.1 fa) (tB' X.K c.1 fb)) (Az (sN hu (ha c) (hb c)) hm) λσ H Q h=>pW h) (Bu uj)
def ul:D->D->Option D
 | .lst ds, .int i=>atI ds i
 | .tup ds, .int i=>atI ds i
 | .scr ns, .int i=>(atI ns i).map .int
 |_,_=>none
def Bv:D->D->Option D
 | .dic Ta,k=>(lp k).bind λRo=>lq Ta Ro
 |_,_=>none
def b6 (x y:D):Option D:=match x with
 | .dic _=>Bv x y
 |_=>ul x y
theorem Reps.atI {K:JL} {F:Hp} {vs:List V} {ds:List D} {i:Int} {d:D} (r:Reps K F vs ds) (h:atI ds i=some d):∃v,L2.atI vs i=some v/\dR K F v d:=by
 unfold L2.atI at h ⊢
 rw[r.length]
 cases e:wy ds.length i with
 |none=>rw[e]at h;cases h
 |some j=>rw[e]at h;exact r.get h
theorem zP {K:JL}:ka K (J9 K) ul:=by
 intro v u x y d H F Q s rx ry h k
 unfold ul at h
 split at h
 ·cases ry.int
  obtain⟨a,vs,rfl,h1,h2⟩:=rx.lst s
  obtain⟨w,h3,h4⟩:=h2.atI h
  exact .inl ⟨a,vs,_,w,rfl,rfl,dS.of h1,h3,k _ H F (cc.refl s) h4⟩
 ·cases ry.int
  obtain⟨a,vs,rfl,h1,h2⟩:=rx.tup s
  obtain⟨w,h3,h4⟩:=h2.atI h
  exact .inr (.inl ⟨a,vs,_,w,rfl,rfl,iE.of h1,h3,k _ H F (cc.refl s) h4⟩)
 ·rename_i ns i
  cases ry.int
  obtain⟨a,rfl,h1⟩:=rx.scr s
  cases e:atI ns i with
  |none=>rw[e]at h;cases h
  |some n=>
   rw[e]at h
   cases h
   refine .inl ⟨a,ns.map V.int,i, .int n,rfl,rfl,h1,?_,k _ H F (cc.refl s) (.int n)⟩
   unfold L2.atI at e ⊢
   rw[JR]
   cases e2:wy ns.length i with
   |none=>rw[e2]at e;cases e
   |some j=>
    rw[e2]at e
    show (ns.map V.int)[j]? =_
    rw[Km,show ns[j]? =some n from e]
    rfl
 ·cases h
theorem FE (ρ:ah):f2 b6 fa fb ρ=f2 ul fa fb ρ\/f2 b6 fa fb ρ=f2 Bv fa fb ρ:=by
 unfold f2
 cases fa ρ with
 |ok x=>
  cases fb ρ with
  |ok y=>cases x<;>first|exact .inl rfl|exact .inr rfl
  |_=>exact .inl rfl
 |_=>exact .inl rfl
theorem aO (hu:X.A.units+1<Ma) (ha:PB ly X a fa) (hb:PB ly X b fb) (hs:yd b:=by intro _ _;rfl):PQ ly X (.Subscript a b pos) (f2 b6 fa fb):=
 Bt (λc=>PE.weak (GU F7 (ha c) (hb c) hs) λσ H Q h=>two h λF H2 F2 v u x y e rx ry w=>by
   obtain⟨d,hd,k⟩:=w.of
   exact zP v u x y d H2 F2 Q e.sub rx ry hd λw H' F' e' r'=>k w H' F' (e.trans e') r')
  (λc=>PE.weak (D7 hu (ha c) (hb c) hs) λσ H Q h=>two h λF H2 F2 v u x y e rx ry w=>by
   obtain⟨d,hd,k⟩:=w.of
   cases x with
   |dic Ta=>
    obtain⟨p,vs,rfl,h1,h2,h3⟩:=rx.dic e.sub
    replace hd:((lp y).bind λRo=>lq Ta Ro)=some d:=hd
    cases hk:lp y with
    |none=>rw[hk]at hd;cases hd
    |some Ro=>
     rw[hk]at hd
     cases lZ hk ry
     rcases h2.get Ro with ⟨_,z⟩|⟨v',d',z1,z2,z3⟩
     ·rw[show lq Ta Ro=some d from hd]at z;cases z
     ·rw[show lq Ta Ro=some d from hd]at z2
      cases z2
      exact⟨p,v',rfl,z1▸nV.k (k:=Ro) h1,k _ H2 F2 e z3⟩
   |_=>cases hd) FE
end
end L2.Pu
namespace L2.Pu
open PySem PySem.Spec PyProof.Rows
variable {ly:List fj}
section
variable {K:JL}
theorem mL.one {H F:Hp} {vs:List V} {d:D}:mL K H F vs [d]->∃v,vs=[v]/\dg K H F v d:=λh=>by
 cases h with
 |cons r t=>cases t;exact⟨_,rfl,r⟩
theorem mL.two {H F:Hp} {vs:List V} {d e:D}:mL K H F vs [d,e]->∃v u,vs=[v,u]/\dg K H F v d/\dg K H F u e:=λh=>by
 cases h with
 |cons r t=>
  obtain⟨u,e,q⟩:=mL.one t
  exact⟨_,u,by rw[e],r,q⟩
def cp:List D->Option D
 |[.lst ds]=>some (.int ds.length)
 |[.tup ds]=>some (.int ds.length)
 |[.scr ns]=>some (.int ns.length)
 |[.dic ds]=>some (.int ds.length)
 |_=>none
def Ei (K:JL):List V->Hp->VK->Prop:=λxs H Q=>(∃p ys,xs=[.ref p]/\(dS K H p ys\/iE K H p ys)/\Q (.int ys.length) H)\/∃p kvs,xs=[.ref p]/\H p=some (.dK kvs)/\Q (.int kvs.length) H
theorem b7 {X:Cx}:dU X (.builtin "len") (Ei X.K):=by
 intro R6 s σ H xs us Q I rv h
 rcases h with h|⟨p,kvs,rfl,hk,q⟩
 ·exact tZ R6 s σ H xs us Q I rv h
 ·obtain⟨u,rfl,ru⟩:=jz rv
  cases ru
  exact Ha I (.inl hk) λt s' I'=>⟨.int kvs.length,H,I',⟨t,rfl⟩,q⟩
theorem bP:my K (Ei K) cp:=by
 intro vs ds d H F Q s rv h k
 match ds,h with
 |[.lst xs],h=>
  obtain⟨v,rfl,r⟩:=rv.one
  obtain⟨a,ws,rfl,h1,h2⟩:=r.lst s
  cases h
  exact .inl ⟨a,ws,rfl, .inl (dS.of h1),by rw[h2.length];exact k _ H F (cc.refl s) (.int _)⟩
 |[.tup xs],h=>
  obtain⟨v,rfl,r⟩:=rv.one
  obtain⟨a,ws,rfl,h1,h2⟩:=r.tup s
  cases h
  exact .inl ⟨a,ws,rfl, .inr (iE.of h1),by rw[h2.length];exact k _ H F (cc.refl s) (.int _)⟩
 |[.scr ns],h=>
  obtain⟨v,rfl,r⟩:=rv.one
  obtain⟨a,rfl,h1⟩:=r.scr s
  cases h
  exact .inl ⟨a,_,rfl, .inl h1,by rw[JR];exact k _ H F (cc.refl s) (.int _)⟩
 |[.dic xs],h=>
  obtain⟨v,rfl,r⟩:=rv.one
  obtain⟨a,ws,rfl,h1,h2,h3⟩:=r.dic s
  cases h
  exact .inr ⟨a,ws,rfl,h1,by rw[h2.length];exact k _ H F (cc.refl s) (.int _)⟩
def bV:List D->Option D
 |[.lst ds]=>some (.tup ds)
 |[.tup ds]=>some (.tup ds)
 |_=>none
theorem bp:my K (λxs H Q=>∃p ys,xs=[.ref p]/\((dS K H p ys/\∀l,H l=none->Q (.ref l) (bY H l (.tup ys)))\/(iE K H p ys/\Q (.ref p) H))) bV:=by
 intro vs ds d H F Q s rv h k
 match ds,h with
 |[.lst xs],h=>
  obtain⟨v,rfl,r⟩:=rv.one
  obtain⟨a,ws,rfl,h1,h2⟩:=r.lst s
  cases h
  refine⟨a,ws,rfl, .inl ⟨dS.of h1,λl hl=> ?_⟩⟩
  have e:=cc.lay (o:= .tup ws) s hl
  exact k _ _ _ e (.tup aH (h2.mono e.grow))
 |[.tup xs],h=>
  obtain⟨v,rfl,r⟩:=rv.one
  obtain⟨a,ws,rfl,h1,h2⟩:=r.tup s
  cases h
  refine⟨a,ws,rfl, .inr ⟨iE.of h1,?_⟩⟩
  match r with
  | .inl r=>exact k _ H F (cc.refl s) r
def o3:List D->Option D
 |[.lst ds]=>some (.lst ds)
 |[.tup ds]=>some (.lst ds)
 |[.scr ns]=>some (.lst (ns.map .int))
 |_=>none
theorem jH {F:Hp}:∀ns:List Int,Reps K F (ns.map V.int) (ns.map D.int)
 |[]=> .nil
 |n::r=> .cons (.int n) (jH r)
theorem lw:my K (λxs H Q=>∃p ys,xs=[.ref p]/\(dS K H p ys\/iE K H p ys)/\∀l,H l=none->Q (.ref l) (bY H l (.lst ys))) o3:=by
 intro vs ds d H F Q s rv h k
 match ds,h with
 |[.lst xs],h=>
  obtain⟨v,rfl,r⟩:=rv.one
  obtain⟨a,ws,rfl,h1,h2⟩:=r.lst s
  cases h
  refine⟨a,ws,rfl, .inl (dS.of h1),λl hl=> ?_⟩
  have e:=cc.lay (o:= .lst ws) s hl
  exact k _ _ _ e (.lst aH (h2.mono e.grow))
 |[.tup xs],h=>
  obtain⟨v,rfl,r⟩:=rv.one
  obtain⟨a,ws,rfl,h1,h2⟩:=r.tup s
  cases h
  refine⟨a,ws,rfl, .inr (iE.of h1),λl hl=> ?_⟩
  have e:=cc.lay (o:= .lst ws) s hl
  exact k _ _ _ e (.lst aH (h2.mono e.grow))
 |[.scr ns],h=>
  obtain⟨v,rfl,r⟩:=rv.one
  obtain⟨a,rfl,h1⟩:=r.scr s
  cases h
  refine⟨a,_,rfl, .inl h1,λl hl=> ?_⟩
  have e:=cc.lay (o:= .lst (ns.map V.int)) s hl
  exact k _ _ _ e (.lst aH (jH ns))
def cQ:List D->Option (List Int)
 |[]=>some []
 | .int i::r=>(cQ r).map (i::·)
 |_::_=>none
theorem gK {F:Hp}:∀{ds:List D} {ns:List Int} {vs:List V},cQ ds=some ns->Reps K F vs ds->vs=ns.map V.int:=by
 intro ds
 induction ds with
 |nil=>intro ns vs h r;cases r.nilI;cases h;rfl
 |cons d r ih=>
  intro ns vs h rv
  obtain⟨v,us,rfl,r1,t⟩:=rv.consI
  cases d with
  |int i=>
   cases r1.intI
   replace h:(cQ r).map (i::·)=some ns:=h
   cases e:cQ r with
   |none=>rw[e]at h;cases h
   |some ms=>
    rw[e]at h
    cases h
    rw[ih e t];rfl
  |_=>cases h
theorem kg (ns:List Int):cQ (ns.map .int)=some ns:=by
 induction ns with
 |nil=>rfl
 |cons n r ih=>show (cQ (r.map D.int)).map (n::·)=_;rw[ih];rfl
def JA:List D->Option D
 |[.lst ds]=>(cQ ds).map λns=> .int ns.sum
 |_=>none
def um:List D->Option D
 |[.lst ds]=>(cQ ds).bind λns=>if ns.length<64 then some (.lst ((cS ns).map .int))else none
 |_=>none
theorem xn:my K (λxs H Q=>∃p ns,xs=[.ref p]/\dS K H p (ns.map V.int)/\ns.length<64/\∀l,H l=none->Q (.ref l) (bY H l (.lst ((cS ns).map V.int)))) um:=by
 intro vs ds d H F Q s rv h k
 match ds,h with
 |[.lst xs],h=>
  obtain⟨v,rfl,r⟩:=rv.one
  obtain⟨a,ws,rfl,h1,h2⟩:=r.lst s
  replace h:((cQ xs).bind λns=>if ns.length<64 then some (D.lst ((cS ns).map .int))else none)=some d:=h
  cases e:cQ xs with
  |none=>rw[e]at h;cases h
  |some ns=>
   rw[e]at h
   replace h:(if ns.length<64 then some (D.lst ((cS ns).map .int))else none)=some d:=h
   split at h
   ·rename_i hl
    cases h
    rw[gK e h2]at h1
    refine⟨a,ns,rfl,dS.of h1,hl,λl Vf=> ?_⟩
    have e:=cc.lay (o:= .lst ((cS ns).map V.int)) s Vf
    exact k _ _ _ e (.lst aH (jH _))
   ·cases h
def zQ:List D->Option D
 |[.int i, .int j]=>some (.int (if j<i then j else i))
 |_=>none
def zR:List D->Option D
 |[.int i, .int j]=>some (.int (if j>i then j else i))
 |_=>none
theorem yt:my K (λxs H Q=>∃i j,xs=[.int i, .int j]/\Q (.int (if j<i then j else i)) H) zQ:=by
 intro vs ds d H F Q s rv h k
 match ds,h with
 |[.int i, .int j],h=>
  obtain⟨v,u,rfl,r,q⟩:=rv.two
  cases r.int;cases q.int;cases h
  exact⟨i,j,rfl,k _ H F (cc.refl s) (.int _)⟩
theorem yu:my K (λxs H Q=>∃i j,xs=[.int i, .int j]/\Q (.int (if j>i then j else i)) H) zR:=by
 intro vs ds d H F Q s rv h k
 match ds,h with
 |[.int i, .int j],h=>
  obtain⟨v,u,rfl,r,q⟩:=rv.two
  cases r.int;cases q.int;cases h
  exact⟨i,j,rfl,k _ H F (cc.refl s) (.int _)⟩
def xo:List D->Option D
 |[.int i]=>some (.int i)
 |[.bl k]=>some (.int (if k then 1 else 0))
 |_=>none
theorem uo:my K (λxs H Q=>(∃i,xs=[.int i]/\Q (.int i) H)\/∃k,xs=[.bl k]/\Q (.int (if k then 1 else 0)) H) xo:=by
 intro vs ds d H F Q s rv h k
 match ds,h with
 |[.int i],h=>obtain⟨v,rfl,r⟩:=rv.one;cases r.int;cases h;exact .inl ⟨i,rfl,k _ H F (cc.refl s) (.int _)⟩
 |[.bl i],h=>obtain⟨v,rfl,r⟩:=rv.one;cases r.bl;cases h;exact .inr ⟨i,rfl,k _ H F (cc.refl s) (.int _)⟩
end
section
variable {X:Cx} {a b e:JW} {es:List JW} {fa fb f fk fv:ah->R D} {fs:ah->R (List D)} {pos p p2:KC}
def Ib:D->Option String
 | .non=>some "NoneType"
 | .bl _=>some "bool"
 | .int _=>some "int"
 | .str _=>some "str"
 | .tup _=>some "tuple"
 | .lst _=>some "list"
 | .dic _=>some "dict"
 |_=>none
def sX (t T:String):Option Bool:=if t=T then some true else if t="bool"/\T="int" then some true
 else if ["NoneType","bool","int","str","tuple","list","dict"].contains t/\["bool","int","str","tuple","list","dict"].contains T then some false else none
theorem Bw (K:JL) {t T:String} {k:Bool} (ht:t="NoneType"\/t="bool"\/t="int"\/t="str"\/t="tuple"\/t="list"\/t="dict") (hT:T="bool"\/T="int"\/T="str"\/T="tuple"\/T="list"\/T="dict") (h:sX t T=some k):
  L0 K (.type t) (.type T)=some k:=by
 rcases ht with rfl|rfl|rfl|rfl|rfl|rfl|rfl<;>rcases hT with rfl|rfl|rfl|rfl|rfl|rfl<;>(revert h;unfold sX;simp+decide;rintro rfl;first|rfl|(unfold L0 Mn;decide+kernel))
def qo (T:String) (d:D):Option D:=(Ib d).bind λt=>(sX t T).map .bl
def p8 (T:String) (f:ah->R D):ah->R D:=λρ=>f ρ>>=λd=>R.of (qo T d)
theorem FF {K:JL} {H F:Hp} {v:V} {d:D} {t:String} (s:b8 F H) (r:dg K H F v d) (h:Ib d=some t):nQ K H v (.type t):=by
 cases d with
 |non=>cases r.non;cases h;exact .non
 |bl=>cases r.bl;cases h;exact .bl _
 |int=>cases r.int;cases h;exact .int _
 |str=>cases r.str;cases h;exact .str _
 |tup=>obtain⟨a,vs,rfl,h1,_⟩:=r.tup s;cases h;exact .tup h1
 |lst=>obtain⟨a,vs,rfl,h1,_⟩:=r.lst s;cases h;exact .lst h1
 |dic=>obtain⟨a,vs,rfl,h1,_⟩:=r.dic s;cases h;exact .dK h1
 |_=>cases h
theorem zS {d:D} {t:String} (h:Ib d=some t):t="NoneType"\/t="bool"\/t="int"\/t="str"\/t="tuple"\/t="list"\/t="dict":=by
 cases d<;>cases h<;>simp
theorem pX {x:JN} {T:String} (hT:T="bool"\/T="int"\/T="str"\/T="tuple"\/T="list"\/T="dict") (Wt:X.mg "isinstance"=none) (hm:X.mg x=none) (hv:KA x=some (.type T)) (ha:PB ly X a fa) (WV:Gl X "isinstance":=by rfl) (hg:Gl X x:=by rfl)
  (hn:x≠"__name__":=by decide) (T8:(x==("__debug__":JN))=false:=by decide)
  (he:JS [a, .Name x p2] X.env=(false,Kb a X.env)::JS [.Name x p2] X.env:=by rfl) (VV:JS [.Name x p2] X.env=(false,Kb (.Name x p2) X.env)::JS [] X.env:=by rfl) (Sm:(Ks pos (JS [.Name x p2] X.env)).any (·.1)=false:=by rfl):
  PQ ly X (.Call (.Name "isinstance" p) [a, .Name x p2] [] pos) (p8 T fa):=λc=>
 PE.weak (nR A_ WV Wt rf (df (ha c) (df (xU (v:= .ty T) hg hm hv rfl hn T8) gG VV) he) (by decide) (by decide) he Sm) λσ H Q ⟨F,ρ,ri,w⟩=>
  ⟨F,ρ,ri,(aN.bind.mp w).imp λd _ w1 v H1 F1 e1 r1=>by
   obtain⟨d',hd,k⟩:=w1.of
   unfold qo at hd
   cases ht:Ib d with
   |none=>rw[ht]at hd;cases hd
   |some t=>
    rw[ht]at hd
    cases hs:sX t T with
    |none=>
     replace hd:(sX t T).map D.bl=some d':=hd
     rw[hs]at hd;cases hd
    |some kk=>
     replace hd:(sX t T).map D.bl=some d':=hd
     rw[hs]at hd
     cases hd
     exact⟨v,T,_,kk,rfl,FF e1.sub r1 ht,Bw X.K (zS ht) hT hs,k _ H1 F1 e1 (.bl kk)⟩⟩
def Bx (f:ah->R D):ah->R D:=λρ=>f ρ>>=λd=>match d with
 | .lst ds=> .ok (.lst ds.reverse)
 |_=> .bad
theorem Hr {j:Nat} {pu pk:KC} (ha:PB ly X a fa):PQ ly X (.Subscript a (.Slice none none (some (.UnaryOp .USub (.Constant (.int 1) j pk) pu)) p2) pos) (Bx fa):=λc=>
 PE.weak (Fg (ha c) (yb (E2 gF Ax))) λσ H Q ⟨F,ρ,ri,w⟩=>⟨F,ρ,ri,(aN.bind.mp w).imp λd _ w1 v H1 F1 e1 r1=>by
  cases d with
  |lst ds=>
   obtain⟨p,vs,rfl,h1,h2⟩:=r1.lst e1.sub
   refine⟨1,rfl,-1,rfl,rfl,p,vs,rfl,dS.of h1,λl hl=> ?_⟩
   have e2:=cc.lay (o:= .lst vs.reverse) e1.sub hl
   exact w1 _ _ _ (e1.trans e2) (.lst aH (h2.reverse.mono e2.grow))
  |_=>exact w1.elim⟩
def vw (ds:List D) (lo hi:Option Int):List D:=(ds.drop (HT.fA ds.length 0 lo)).take (HT.fA ds.length ds.length hi - HT.fA ds.length 0 lo)
theorem Reps.cut {K:JL} {F:Hp} {vs:List V} {ds:List D} (r:Reps K F vs ds) (lo hi:Option Int):Reps K F (se vs lo hi) (vw ds lo hi):=by
 unfold se vw
 rw[r.length]
 exact(r.drop _).take _
def JB (K:JL) (c:dW ly) (f:ah->R (Option Int)):TO:=λσ H Q=>∃F ρ,RI K c ρ σ H F/\aN c (f ρ) λo=>∀H' F',cc H F H' F'->Q o H'
def Ic (ly:List fj) (X:Cx) (e:Option JW) (f:ah->R (Option Int)):Prop:=∀c:j4 ly X,PO X e (JB X.K c.1 f)
theorem PO.weak {X:Cx} {e:Option JW} {t t':TO} (h:PO X e t) (w:∀σ H Q,t' σ H Q->t σ H Q):PO X e t':=λR6 s σ H Q I q=>h R6 s σ H Q I (w σ H Q q)
def vx:ah->R (Option Int):=λ_=> .ok none
def vy (f:ah->R D):ah->R (Option Int):=λρ=>f ρ>>=λd=>match d with
 | .int i=> .ok (some i)
 |_=> .bad
theorem xp:Ic ly X none vx:=λc=>PO.weak CV λσ H Q ⟨F,ρ,ri,w⟩=>w H F (cc.refl ri.sub)
theorem xq (h:PQ ly X e f):Ic ly X (some e) (vy f):=λc=>PO.weak (yb (h c)) λσ H Q ⟨F,ρ,ri,w⟩=>⟨F,ρ,ri,(aN.bind.mp w).imp λd _ w1 v H1 F1 e1 r1=>by
 cases d with
 |int i=>cases r1;exact⟨i,rfl,w1 H1 F1 e1⟩
 |_=>exact w1.elim⟩
variable {lo hi:Option JW} {fl fh:ah->R (Option Int)}
def Gu (d:D) (lo hi:Option Int):Option D:=match d with
 | .lst ds=>some (.lst (vw ds lo hi))
 | .tup ds=>if HT.fA ds.length 0 lo=0/\HT.fA ds.length ds.length hi=ds.length then some (.tup ds)else some (.tup (vw ds lo hi))
 |_=>none
def FG (f:ah->R D) (fl fh:ah->R (Option Int)):ah->R D:=λρ=>f ρ>>=λd=>fl ρ>>=λl=>fh ρ>>=λh=>R.of (Gu d l h)
theorem uq (ha:PB ly X a fa) (hl:Ic ly X lo fl) (hh:Ic ly X hi fh):PQ ly X (.Subscript a (.Slice lo hi none p2) pos) (FG fa fl fh):=λc=>
 PE.weak (AT ((C_.or EY).or Dk) (ha c) (hl c) (hh c)) λσ H Q ⟨F,ρ,ri,w⟩=>⟨F,ρ,ri,(aN.bind.mp w).imp λd _ w1 v H1 F1 e1 r1=>⟨F1,ρ,ri.step e1,(aN.bind.mp w1).imp λl _ w2 H2 F2 e2=>
  ⟨F2,ρ,(ri.step e1).step e2,(aN.bind.mp w2).imp λh _ w3 H3 F3 e3=>by
   obtain⟨d',hd,k⟩:=w3.of
   have Wv:=(e1.trans e2).trans e3
   have r3:=(r1.mono e2).mono e3
   cases d with
   |lst ds=>
    cases hd
    obtain⟨p,vs,rfl,h1,h2⟩:=r3.lst Wv.sub
    refine .inl (.inl ⟨p,vs,rfl,dS.of h1,λq hq=> ?_⟩)
    have e4:=cc.lay (o:= .lst (se vs l h)) Wv.sub hq
    exact k _ _ _ (Wv.trans e4) (.lst aH ((h2.cut l h).mono e4.grow))
   |tup ds=>
    replace hd:(if HT.fA ds.length 0 l=0/\HT.fA ds.length ds.length h=ds.length then some (D.tup ds)else some (D.tup (vw ds l h)))=some d':=hd
    split at hd
    ·rename_i hw
     cases hd
     rcases r3 with r3|⟨_,_,_,_,q⟩
     ·cases r3 with
      | @tup p vs _ h1 h2=>exact .inr ⟨p,vs,rfl,iE.of (Wv.sub _ _ h1),by rw[h2.length];exact hw,k _ _ _ Wv (.tup h1 h2)⟩
     ·cases q
    ·rename_i hw
     cases hd
     obtain⟨p,vs,rfl,h1,h2⟩:=r3.tup Wv.sub
     refine .inl <| .inr ⟨p,vs,rfl,iE.of h1,by rw[h2.length];exact hw,λq hq=> ?_⟩
     have e4:=cc.lay (o:= .tup (se vs l h)) Wv.sub hq
     exact k _ _ _ (Wv.trans e4) (.tup aH ((h2.cut l h).mono e4.grow))
   |_=>cases hd⟩⟩⟩
inductive Hs (ly:List fj) (X:Cx) (pos:KC):List (Option JW)->List JW->List ((ah->R D)×(ah->R D))->Prop
 |nil:Hs ly X pos [] [] []
 |cons {k v:JW} {ks:List (Option JW)} {vs:List JW} {fk fv:ah->R D} {ps:List ((ah->R D)×(ah->R D))}:PQ ly X k fk->PQ ly X v fv->Hs ly X pos ks vs ps->Hs ly X pos (some k::ks) (v::vs) ((fk,fv)::ps)
theorem Hs.len {X:Cx} {pos:KC}:∀{ks:List (Option JW)} {vs:List JW} {ps:List ((ah->R D)×(ah->R D))},Hs ly X pos ks vs ps->ks.length=vs.length/\ks.length=ps.length/\ks.all (·.isSome)=true
 |_,_,_, .nil=>⟨rfl,rfl,rfl⟩
 |_,_,_, .cons _ _ r=>by
  obtain⟨a,b,c⟩:=r.len
  exact⟨by simp[a],by simp[b],by simp[Lq,c]⟩
end
end L2.Pu
namespace L2.Pu
open PySem PySem.Spec PyProof.Rows
variable {ly:List fj}
def vz (scope outer:LL):Bool:=
 scope.kind== .function&&scope.names.all (λy=>y.2 != .cell)&&scope.names.all (λy=>y.2 != .local||scope.names.lookup y.1==some .local)&&
 scope.names.all (λy=>y.2 != .free||outer.names.lookup y.1==some .cell||outer.names.lookup y.1==some .free)&&decide ((scope.names.map (·.1)).Nodup)
theorem aQ.of {X:Cx} {scope outer:LL} (h:X.env.scope=outer) (k:vz scope outer=true):aQ X scope:=by
 unfold vz at k
 simp only[L7,Nf,decide_eq_true_eq,ON,bne_iff_ne,beq_iff_eq]at k
 obtain⟨⟨⟨⟨k1,k2⟩,k3⟩,k4⟩,k5⟩:=k
 refine⟨k1,k2,λy hy hl=> ?_,λy hy hf=> ?_,k5⟩
 ·rcases k3 y hy with z|z
  ·exact absurd hl z
  ·exact z
 ·show X.env.scope.names.lookup y.1=_\/X.env.scope.names.lookup y.1=_
  rw[h]
  rcases k4 y hy with (z|z)|z
  ·exact absurd hf z
  ·exact .inl z
  ·exact .inr z
structure cT (K:JL) (mg:JN->Option JM) (x:JN) (st:Ke) (ps:List JN):Prop where
 ex:∃f fd,yg K x x st f fd/\mg x=some (.ref f)/\gk K fd ps []
structure bv (P:K3) (w:Kd) (K:JL) (mg:JN->Option JM) (base:Ka) (k:Nat) (x:JN) (n:Nat) (m:List D->R D):Prop where
 ex:∃f fd ps,fH P w K mg base (lh P w) k f fd ps (zK K n m)/\mg x=some (.ref f)/\KJ K (.ref f)=true/\gk K fd ps []
section
variable {P:K3} {w:Kd} {K:JL} {mg:JN->Option JM} {base:Ka}
theorem cf {x:JN} {st:Ke} {N ps:List JN} {k n m:Nat} {g:ah->R bn} (A:cT K mg x st ps) (S:aE N ps (ak st)) (hn:ps.length=n) (hm:N.length=m)
  (RE:∀(f:JO) (Rj:JM) (A:Kl) (outer:List Ly) (s:JP) (H:Hp) (E:XK),d7 k (A.deeper (LG x (ak st) s.heap.objs.size f Rj))->
   jk [] (j3 (lh P w) P w K mg base N x (ak st) f Rj A outer s H E) (bO st) g):bv P w K mg base (k+1) x n (bj n m g):=by
 obtain⟨f,fd,F,h1,h2⟩:=A.ex
 exact⟨f,fd,ps,Fw F S hn hm λRj A outer s H E hr=>RE f Rj A outer s H E hr,h1,F.kp,h2⟩
theorem bv.mono {x:JN} {j k n:Nat} {m:List D->R D} (F:bv P w K mg base j x n m) (h:j<=k):bv P w K mg base k x n m:=by
 obtain⟨f,fd,ps,h1,h2⟩:=F.ex
 exact⟨f,fd,ps,h1.mono h,h2⟩
theorem By {x:JN} {st:Ke} {ps:List JN} {n:Nat} (A:cT K mg x st ps) (hn:ps.length=n):bv P w K mg base 0 x n (λ_=> .bad):=by
 obtain⟨f,fd,F,h1,h2⟩:=A.ex
 refine⟨f,fd,ps,⟨λvs H Q E h=>by rw[hn];exact h.1,λA outer s H args us vs Q E hr e0 hb rv h=> ?_⟩,h1,F.kp,h2⟩
 obtain⟨_,F',ds,_,_,z⟩:=h
 exact z.elim
end
section
variable {X:Cx} {e:JW} {es:List JW} {fs:ah->R (List D)} {x:JN} {p pos:KC}
theorem cH {n k:Nat} {m:List D->R D} (F:bv X.prog X.w X.K X.mg X.base k x n m) (hr:d7 k X.A)
  (ha:xg ly X (e::es) fs) (hg:Gl X x:=by rfl) (T8:(x==("__debug__":JN))=false:=by decide) (he:JS (e::es) X.env=(false,Kb e X.env)::JS es X.env:=by rfl) (Sm:(Ks pos (JS es X.env)).any (·.1)=false:=by rfl):
  PQ ly X (.Call (.Name x p) (e::es) [] pos) (aL m n fs):=by
 obtain⟨f,fd,ps,h1,h2,h3,h4⟩:=F.ex
 exact Ft h1 hr h2 h3 h4 ha hg T8 he Sm
end
structure Bl (mg:JN->Option JM) (xs:List JN):Prop where
 no:∀x∈xs,mg x=none
theorem aT:KA "tuple"=some (.type "tuple"):=by decide+kernel
theorem jI:KA "list"=some (.type "list"):=by decide+kernel
theorem o4:KA "int"=some (.type "int"):=by decide+kernel
theorem p9:KA "bool"=some (.type "bool"):=by decide+kernel
theorem vA:KA "str"=some (.type "str"):=by decide+kernel
theorem j9:KA "sorted"=some (.builtin "sorted"):=by decide+kernel
theorem vB:KA "min"=some (.builtin "min"):=by decide+kernel
theorem vC:KA "max"=some (.builtin "max"):=by decide+kernel
theorem FH {K:JL} {m:List D->R D} {H:Hp} {a:JO} {ns:List Int} {E:XK} (h:m [.scr ns]= .ok (.bl true)) (hs:dS K H a (ns.map V.int)):zK K 1 m [.ref a] H (λv _=>v= .bl true) E:=by
 refine⟨rfl,H,[.scr ns],b8.refl _, .cons (.scr hs) .nil,?_⟩
 rw[h]
 intro v H' F' e r
 cases r
 rfl
end L2.Pu
namespace L2.Pu
open PySem PySem.Spec PyProof.Rows
variable {ly:List fj}
section
variable {i j:Int}
theorem bI (h:0<j):cw (.int i) (.int j)=some (.int (i%j)):=if_pos h
theorem gL (h:0<j/\j<1073741824):gC (.int i) (.int j)=some (.int (i / j)):=if_pos (show xj i j from ⟨h.1,by omega⟩)
theorem ur (h:j.natAbs<18446744073709551616):qm (.int i) (.int j)=some (.int (i*j)):=if_pos (show si i j from .inr h)
theorem xr (h:i.natAbs<18446744073709551616):qm (.int i) (.int j)=some (.int (i*j)):=if_pos (show si i j from .inl h)
theorem cB:br (.int i) (.int j)=some (.int (i+j)):=rfl
theorem pb:jG (.int i) (.int j)=some (.int (i - j)):=rfl
theorem o5:xk (.int i) (.int j)=some (.bl (decide (i<j))):=rfl
theorem Ht:Jz (.int i) (.int j)=some (.bl (decide (i<=j))):=rfl
theorem kQ:p7 (.int i) (.int j)=some (.bl (decide (j<i))):=rfl
theorem rC:Du (.int i) (.int j)=some (.bl (decide (j<=i))):=rfl
theorem jJ:eG (.int i) (.int j)=some (.bl (decide (i=j))):=rfl
theorem yv:rB (.int i) (.int j)=some (.bl (!decide (i=j))):=rfl
theorem Hu {a b:Bool}:eG (.bl a) (.bl b)=some (.bl (decide (a=b))):=rfl
theorem FI:jm (.int i)=some (.int (-i)):=rfl
end
theorem n8 {a b:List D} (h:a.length+b.length<=lim):br (.lst a) (.lst b)=some (.lst (a++b)):=if_pos h
theorem vD {ds:List D} {i:Int}:b6 (.lst ds) (.int i)=atI ds i:=rfl
theorem sY {ds:List D} {i:Int}:b6 (.tup ds) (.int i)=atI ds i:=rfl
theorem Hv {ns:List Int} {i:Int}:b6 (.scr ns) (.int i)=(atI ns i).map .int:=rfl
theorem jn {ds:List D}:cp [.lst ds]=some (.int ds.length):=rfl
theorem gM {ds:List D}:cp [.tup ds]=some (.int ds.length):=rfl
theorem FJ {ds:List Int}:cp [.scr ds]=some (.int ds.length):=rfl
theorem Bz {ds:List D}:bV [.lst ds]=some (.tup ds):=rfl
theorem BB {ds:List D}:bV [.tup ds]=some (.tup ds):=rfl
theorem Dw {ds:List D}:o3 [.lst ds]=some (.lst ds):=rfl
theorem Dx {ds:List D}:o3 [.tup ds]=some (.lst ds):=rfl
theorem i5 {α:Type} {xs:List α} {k:Nat} (h:k<xs.length):L2.atI xs (k:Int)=some xs[k]:=tW (by simp[h])
theorem Dy (x:Int) (xs:List Int):((xs.map D.int).any λy=>Ho y (.int x))=decide (x∈xs):=by
 induction xs with
 |nil=>rfl
 |cons y r ih=>
  rw[J_,Li,ih]
  show (y==x||decide (x∈r))=decide (x∈y::r)
  by_cases e:x=y
  ·subst e;simp
  ·have:(y==x)=false:=beq_eq_false_iff_ne.mpr (Lz e)
   simp[this,e]
theorem Dz (xs:List Int):(xs.map D.int).all o0=true:=by
 induction xs with
 |nil=>rfl
 |cons y r ih=>rw[J_,Lq,ih];rfl
theorem ut (U0:Bool) (x:Int) (xs:List Int):Gs U0 (.int x) (xs.map .int)=some (.bl (if U0 then !decide (x∈xs)else decide (x∈xs))):=by
 unfold Gs
 rw[if_pos ⟨rfl,Dz xs⟩,Dy]
theorem sZ {x:Int} {xs:List Int}:gJ false (.int x) (.tup (xs.map .int))=some (.bl (decide (x∈xs))):=ut false x xs
theorem lx {x:Int} {xs:List Int}:gJ true (.int x) (.lst (xs.map .int))=some (.bl (!decide (x∈xs))):=ut true x xs
theorem o6 {x:Int} {xs:List Int}:gJ true (.int x) (.tup (xs.map .int))=some (.bl (!decide (x∈xs))):=ut true x xs
theorem xt (n:Nat):jl 0 (n:Int)=(Kw n).map λk:Nat=>D.int (k:Int):=by
 unfold jl
 simp
theorem FK {ds:List D}:qo "tuple" (.tup ds)=some (.bl true):=rfl
theorem FL {i:Int}:qo "tuple" (.int i)=some (.bl false):=rfl
theorem FN {i:Int}:qo "int" (.int i)=some (.bl true):=rfl
theorem FO {i:Int}:qo "bool" (.int i)=some (.bl false):=rfl
theorem BC {m:List D->R D} {n:Nat} {fs:ah->R (List D)} {ρ:ah} {ds:List D} {d:D} (h:fs ρ= .ok ds) (hl:ds.length=n) (hm:m ds= .ok d):aL m n fs ρ= .ok d:=by
 unfold aL
 rw[h,aq,if_pos hl,hm]
end L2.Pu
namespace L2.Pu
theorem o7 {g:D->ah->R ah} {gb:ah->R bn} {d:D} {r:List D} {ρ ρ1 ρ2:ah} (h1:g d ρ= .ok ρ1) (h2:gb ρ1= .ok (.nx ρ2)):eF g gb (d::r) ρ=eF g gb r ρ2:=by
 rw[eF,h1,aq,h2,aq]
theorem BD {g:D->ah->R ah} {gb:ah->R bn} {d:D} {r:List D} {ρ ρ1 ρ2:ah} (h1:g d ρ= .ok ρ1) (h2:gb ρ1= .ok (.cnt ρ2)):eF g gb (d::r) ρ=eF g gb r ρ2:=by
 rw[eF,h1,aq,h2,aq]
end L2.Pu
namespace L2.Pu
theorem bE {k n:Nat} {g:ah->R bn} {ds:List D} {d:D} (h:ds.length=k) (e:g (dw n ds)= .ok (.ret d)):bj k n g ds= .ok d:=by
 unfold bj
 rw[if_pos h,e,aq]
theorem FP {k n:Nat} {g:ah->R bn} {ds:List D} {ρ:ah} (h:ds.length=k) (e:g (dw n ds)= .ok (.nx ρ)):bj k n g ds= .ok .non:=by
 unfold bj
 rw[if_pos h,e,aq]
theorem av {g g':ah->R bn} {ρ ρ':ah} (h:g ρ= .ok (.nx ρ')):aw g g' ρ=g' ρ':=by
 unfold aw
 rw[h,aq]
theorem m7 {g g':ah->R bn} {ρ:ah} {d:D} (h:g ρ= .ok (.ret d)):aw g g' ρ= .ok (.ret d):=by
 unfold aw
 rw[h,aq]
theorem pc {fi:ah->R (List D)} {g:D->ah->R ah} {gb:ah->R bn} {ρ:ah} {ds:List D} (h:fi ρ= .ok ds):k_ fi g gb ρ=eF g gb ds ρ:=by
 unfold k_
 rw[h,aq]
end L2.Pu
namespace L2.Pu
theorem fX {fs:ah->R (List D)} {ρ:ah} {n:Nat} (h:fs ρ= .ok [.int (n:Int)]) (hn:n<=lim):c8 fs ρ= .ok ((Kw n).map λk:Nat=>D.int (k:Int)):=by
 unfold c8
 rw[h,aq]
 have hc:(n:Int).natAbs<=lim:=by rw[Int.natAbs_natCast];exact hn
 exact(if_pos hc).trans (congrArg R.ok (xt n))
end L2.Pu
namespace L2.Pu
open PySem PySem.Spec PyProof.Rows
variable {ly:List fj}
section
variable {X:Cx} {TY tg RB:JW} {Tz:List JW} {scope:LL} {pos:KC} {fi:ah->R (List D)} {g:D->ah->R ah} {gt:ah->R Bool} {fe:ah->R D}
theorem qJ (i:Nat) {y:JN} {py U6:KC} (S:aQ X scope) (hc:X.calm=true) (hN:X.N.Nodup) (hi:Gq ly X tg RB fi) (hg:∀s H ex,Dt [] (dH X scope s H ex) tg g) (VG:∀s H ex,zN [] (dH X scope s H ex) Tz gt) (VB:∀s H ex,PQ [] (dH X scope s H ex) TY fe)
  (VA:X.N[i]? =some y:=by rfl) (hx:zg X.env.scope y:=by first|exact KG rfl|exact Kp rfl) (hf:X.fn y=true\/X.env.scope.names.lookup y=some .local:=by first|exact .inl rfl|exact .inr rfl|assumption)
  (U_:KR (.ListComp TY [⟨tg,RB,Tz,0⟩] scope pos) (some (.Name y py)) U6.line X.env=pure false:=by rfl) (hs:∀x,LJ RB X.env x=pure x:=by intro _;rfl) (T9:kZ ly i:=by(repeat (first|assumption|exact L2.Pu.fD|refine L2.Pu.ef ⟨by first|decide|simp,by first|decide|simp⟩ ?_))):
  n5 ly X (.Assign [.Name y py] (.ListComp TY [⟨tg,RB,Tz,0⟩] scope pos) U6) (p0 i (bH X.N scope.names fi g gt fe)):=λc=>
 PS.weak (mZ hN VA hx (yk S hc (hi c) (λs H ex=>IW (hg s H ex)) (λs H ex=>IX (VG s H ex)) (λs H ex=>IY (VB s H ex)) hs) U_ hf) λD σ H ⟨F,ρ,ri,w⟩=>by
  refine⟨F,ρ,ri,(aN.bind.mp (aN.bind.mp w)).imp λds _ w1 J H1 F1 e1 jo p hp=> ?_⟩
  split at w1
  ·rename_i hl
   split at w1
   ·rename_i es he
    refine n6 ri e1 jo hp hl he λH2 F2 vs e2 Wr XX rv=> ?_
    refine w1 _ H2 F2 (e1.grow.trans e2.grow) ((ri.step (e1.trans e2)).setOwn i T9 Wr XX (ri.ext.keep.free (e1.keep.free hp)) (.lst rv) (λj d' _ hj ej=> ?_) (ri.celNe (e1.trans e2).keep (e1.keep.free hp)))
    obtain⟨a,o,k1,k2,_⟩:=ri.own j d' hj
    rw[ej]at k1
    cases k1
    rw[e1.keep.free hp]at k2
    cases k2
   ·exact w1.elim
  ·exact w1.elim
end
end L2.Pu
namespace L2.Pu
open PySem PySem.Spec PyProof.Rows
variable {ly:List fj}
theorem dz {f:ah->R D} {ρ:ah} {d:D} (h:f ρ= .ok d):bB f ρ= .ok (.ret d):=by unfold bB;rw[h,aq]
theorem aU {g:List D->Option D} {fs:ah->R (List D)} {ρ:ah} {ds:List D} {d:D} (h:fs ρ= .ok ds) (h2:g ds=some d):ck g fs ρ= .ok d:=by unfold ck;rw[h,aq,h2,ix]
theorem a9 {f:ah->R D} {fs:ah->R (List D)} {ρ:ah} {ds:List D} {d:D} (h:f ρ= .ok d) (h2:fs ρ= .ok ds):a8 f fs ρ= .ok (d::ds):=by unfold a8;rw[h,aq,h2,aq]
theorem l5 {f:ah->R (List D)} {ρ:ah} {ds:List D} (h:f ρ= .ok ds):fL f ρ= .ok (.lst ds):=by unfold fL;rw[h,aq]
theorem gu {N:List JN} {names:List (JN×NameKind)} {fi:ah->R (List D)} {g:D->ah->R ah} {gt:ah->R Bool} {fe:ah->R D} {ρ τ:ah} {ds es:List D} (h:fi ρ= .ok ds) (hl:ds.length<=lim) (hr:hJ N names ρ=τ) (hc:lm g gt fe ds τ= .ok es):
  bH N names fi g gt fe ρ= .ok es:=by
 unfold bH
 rw[h,aq,if_pos hl,hr,hc]
theorem own_of {i:Nat} {f:ah->R (List D)} {ρ:ah} {ds:List D} (h:f ρ= .ok ds):p0 i f ρ= .ok (.nx (ρ.set i (some (.own (.lst ds))))):=by unfold p0;rw[h,aq]
theorem aZ {f:ah->R D} {g:D->ah->R ah} {ρ ρ':ah} {d:D} (h:f ρ= .ok d) (h2:g d ρ= .ok ρ'):aX f g ρ= .ok (.nx ρ'):=by unfold aX;rw[h,aq,h2,aq]
theorem bu {m:List D->R D} {n:Nat} {fs:ah->R (List D)} {ρ:ah} {ds:List D} {d:D} (h:fs ρ= .ok ds) (hl:ds.length=n) (hm:m ds= .ok d):aL m n fs ρ= .ok d:=BC h hl hm
theorem aj {g:D->D->Option D} {fa fb:ah->R D} {ρ:ah} {a b d:D} (h:fa ρ= .ok a) (h2:fb ρ= .ok b) (h3:g a b=some d):f2 g fa fb ρ= .ok d:=by unfold f2;rw[h,aq,h2,aq,h3,ix]
end L2.Pu
namespace L2.Pu
theorem BE (d:D):(Slot.val d).data=d:=rfl
theorem BF (d:D):(Slot.own d).data=d:=rfl
theorem BG (d:D):(Slot.bor d).data=d:=rfl
end L2.Pu
namespace L2.Pu
open PySem PySem.Spec PyProof.Rows
variable {ly:List fj}
def kh:List (cI×D)->Option (List Int)
 |[]=>some []
 |(.inl i,_)::r=>(kh r).map (i::·)
 |(.inr _,_)::_=>none
def iH:List D->Option D
 |[.lst ds]=>(cQ ds).bind λns=>if ns.length<64 then some (.lst ((cS ns).map .int))else none
 |[.dic Ta]=>(kh Ta).bind λns=>if ns.length<64 then some (.lst ((cS ns).map .int))else none
 |_=>none
theorem vE {K:JL} {F:Hp}:∀{ds:List (cI×D)} {ns:List Int} {vs:List (cI×V)},kh ds=some ns->RepK K F vs ds->vs.map (·.1)=ns.map MB:=by
 intro ds
 induction ds with
 |nil=>intro ns vs h r;rw[r.nilI];cases h;rfl
 |cons d r ih=>
  intro ns vs h rr
  obtain⟨k,d⟩:=d
  obtain⟨v,us,rfl,_,t⟩:=rr.consI
  cases k with
  |inr i=>cases h
  |inl i=>
   replace h:(kh r).map (i::·)=some ns:=h
   cases e:kh r with
   |none=>rw[e]at h;cases h
   |some ms=>
    rw[e]at h
    cases h
    rw[J_,J_,ih e t]
def o8 (K:JL):List V->Hp->VK->Prop:=λxs H Q=>
 (∃p ns,xs=[.ref p]/\dS K H p (ns.map V.int)/\ns.length<64/\∀l,H l=none->Q (.ref l) (bY H l (.lst ((cS ns).map V.int))))\/
 ∃p kvs ns,xs=[.ref p]/\H p=some (.dK kvs)/\kvs.map (·.1)=ns.map MB/\ns.length<64/\∀l,H l=none->Q (.ref l) (bY H l (.lst ((cS ns).map V.int)))
theorem uu {X:Cx} (hc:X.calm=true):dU X (.builtin "sorted") (o8 X.K):=u0.or (ua hc)
theorem vF {K:JL}:my K (o8 K) iH:=by
 intro vs ds d H F Q s rv h k
 match ds,h with
 |[.lst xs],h=>exact .inl (xn vs _ d H F Q s rv h k)
 |[.dic xs],h=>
  obtain⟨v,rfl,r⟩:=rv.one
  obtain⟨a,ws,rfl,h1,h2,_⟩:=r.dic s
  replace h:((kh xs).bind λns=>if ns.length<64 then some (D.lst ((cS ns).map .int))else none)=some d:=h
  cases e:kh xs with
  |none=>rw[e]at h;cases h
  |some ns=>
   rw[e]at h
   replace h:(if ns.length<64 then some (D.lst ((cS ns).map .int))else none)=some d:=h
   split at h
   ·rename_i hl
    cases h
    refine .inr ⟨a,ws,ns,rfl,h1,vE e h2,hl,λl Vf=> ?_⟩
    have e:=cc.lay (o:= .lst ((cS ns).map V.int)) s Vf
    exact k _ _ _ e (.lst aH (jH _))
   ·cases h
section
variable {X:Cx} {a b:JW} {fs:ah->R (List D)} {pos p1 p2 TF:KC}
end
end L2.Pu
namespace L2.Pu
open PySem PySem.Spec PyProof.Rows
variable {ly:List fj}
end L2.Pu
namespace L2.Pu
open PySem PySem.Spec PyProof.Rows
variable {ly:List fj}
section
variable {X:Cx} {a:JW} {fa:ah->R D} {pos p1 p2 TF:KC}
end
section
variable {K:JL}
end
end L2.Pu
namespace L2.Pu
open PySem PySem.Spec PyProof.Rows
variable {ly:List fj}
structure ja (K:JL) (x:JN) (C:JO):Prop where
 ns:K0 K JX x=some (some (.ref C))
 cl:v6 K C
theorem RepF.nilI {K:JL} {F:Hp} {vs:List (JN×V)} (h:RepF K F vs []):vs=[]:=by cases h;rfl
theorem RepF.consI {K:JL} {F:Hp} {vs:List (JN×V)} {k:JN} {d:D} {ds:List (JN×D)} (h:RepF K F vs ((k,d)::ds)):∃v us,vs=(k,v)::us/\dR K F v d/\RepF K F us ds:=by
 cases h with
 |cons r t=>exact⟨_,_,rfl,r,t⟩
theorem RepF.get {K:JL} {F:Hp} {f:JN} {d:D} {vs:List (JN×V)} {ds:List (JN×D)} (g:RepF K F vs ds):ds.lookup f=some d->∃v,(f,v)∈vs/\dR K F v d:=by
 induction ds generalizing vs with
 |nil=>intro h;cases h
 |cons p ds ih=>
  intro h
  obtain⟨v,us,e0,r,t⟩:=RepF.consI (k:=p.1) (d:=p.2) g
  subst e0
  rw[L8]at h
  cases e:f==p.1 with
  |true=>rw[e]at h;cases h;cases eq_of_beq e;exact⟨v,K6,r⟩
  |false=>
   rw[e]at h
   obtain⟨v',h1,h2⟩:=ih t h
   exact⟨v',K8 _ h1,h2⟩
theorem RepF.names {K:JL} {F:Hp} {vs:List (JN×V)} {ds:List (JN×D)} (g:RepF K F vs ds):vs.map (·.1)=ds.map (·.1):=by
 induction ds generalizing vs with
 |nil=>rw[g.nilI];rfl
 |cons p ds ih=>
  obtain⟨v,us,e0,_,t⟩:=RepF.consI (k:=p.1) (d:=p.2) g
  rw[e0,J_,J_,ih t]
theorem gw {α:Type} {f:JN}:∀{ds:List (JN×α)},ds.lookup f=none->f∉ds.map (·.1)
 |[],_=>by simp
 |(k,v)::ds,h=>by
  rw[L8]at h
  cases e:f==k with
  |true=>rw[e]at h;cases h
  |false=>
   rw[e]at h
   rw[J_]
   intro z
   rcases K1.mp z with z|z
   ·rw[z]at e;simp at e
   ·exact gw h z
theorem dg.ins {K:JL} {H F:Hp} {v:V} {x:JN} {fds:List (JN×D)} (s:b8 F H):dg K H F v (.ins x fds)->∃a C dx fs vs,v= .ref a/\H a=some (.ins C dx fs)/\K0 K JX x=some (some (.ref C))/\(∀p∈vs,fs.lookup p.1=some p.2)/\(∀f v,fs.lookup f=some v->f∈vs.map (·.1))/\RepF K F vs fds:=λh=>by
 obtain⟨a,C,dx,fs,vs,e,h,r⟩:=h.in rfl
 exact⟨a,C,dx,fs,vs,e,s _ _ h,r⟩
section
variable {X:Cx} {a o e:JW} {es:List JW} {fa fo:ah->R D} {fs:ah->R (List D)} {pos Rp p:KC} {cls f m x:JN} {C:JO}
def cA (cls f:JN) (fa:ah->R D):ah->R D:=λρ=>fa ρ>>=λd=>match d with
 | .ins y fds=>if y=cls then R.of (fds.lookup f)else .bad
 |_=> .bad
theorem Hw (T:ja X.K cls C) (n:eu X.K C f) (ha:PB ly X a fa) (hb:KI a f X.env (Kb a X.env)=Kb a X.env:=by rfl):PQ ly X (.Attribute a f pos) (cA cls f fa):=λc=>
 PE.weak (qX (ha c) hb) λσ H Q ⟨F,ρ,ri,w⟩=>⟨F,ρ,ri,(aN.bind.mp w).imp λd _ w1 v H1 F1 e1 r1=>by
  cases d with
  |ins y fds=>
   dsimp only at w1
   split at w1
   ·rename_i hy
    subst hy
    obtain⟨d',hd,k⟩:=w1.of
    obtain⟨a,C',dx,fs,vs,rfl,h1,h2,h3,h4,h5⟩:=r1.ins e1.sub
    have ec:C'=C:=by rw[T.ns]at h2;cases h2;rfl
    subst ec
    obtain⟨u,hu,ru⟩:=h5.get hd
    exact⟨a,C',dx,fs,u,rfl,h1,T.cl,n,h3 _ hu,k u H1 F1 e1 ru⟩
   ·exact w1.elim
  |_=>exact w1.elim⟩
structure bW (P:K3) (w:Kd) (K:JL) (mg:JN->Option JM) (base:Ka) (k:Nat) (cls m:JN) (n:Nat) (r:List D->R D):Prop where
 ex:∃C f fd ps,fH P w K mg base (lh P w) k f fd ps (zK K n r)/\ja K cls C/\wI K C m f/\gk K fd ps []
def f9 (cls m:JN) (n:Nat) (r:List D->R D) (fo:ah->R D) (fs:ah->R (List D)):ah->R D:=λρ=>fo ρ>>=λd=>match d with
 | .ins y fds=>if y=cls/\fds.lookup m=none then (fs ρ>>=λds=>if ds.length+1=n then (match r (d::ds)with| .ok z=> .ok z| .err x _=> .err x ρ| .bad=> .bad)else .bad)else .bad
 |_=> .bad
theorem yw {c:dW ly} {r:List D->R D} {n:Nat} {σ:St} {H:Hp} {Q:VK} (T:ja X.K cls C) (h:tQ X.K c (f9 cls m n r fo fs) σ H Q):AQ C m (zK X.K n r) [] (Fo X c) (tQ X.K c fo) (Gp X.K c fs) σ H Q:=by
 obtain⟨F,ρ,ri,w⟩:=h
 refine⟨F,ρ,ri,(aN.bind.mp w).imp λd hd w1 v H1 F1 e1 r1=> ?_⟩
 cases d with
 |ins y fds=>
  dsimp only at w1
  split at w1
  ·rename_i hy
   obtain⟨rfl,hm⟩:=hy
   obtain⟨a,C',dx,UB,vs,rfl,h1,h2,h3,h4,h5⟩:=dg.ins e1.sub (H:=H1) (.inl r1)
   have ec:C'=C:=by rw[T.ns]at h2;cases h2;rfl
   subst ec
   have UY:UB.lookup m=none:=by
    cases e:UB.lookup m with
    |none=>rfl
    |some v=>
     have:=h4 m v e
     rw[h5.names]at this
     exact absurd this (gw hm)
   refine⟨a,dx,UB,rfl,h1,UY,F1,ρ,ri.step e1,(aN.bind.mp w1).imp λds _ w2 us H2 F2 e2 r2=> ?_⟩
   show zK X.K n r (V.ref a::(us++[])) H2 Q (Fo X c σ)
   rw[Lm]
   split at w2
   ·rename_i hl
    refine⟨by rw[Kh,r2.length];exact hl,F2,_,e2.sub, .cons (r1.mono e2.grow) r2,?_⟩
    split at w2
    ·rename_i z hz
     try rw[hz]
     exact λv H' F' e' r'=>w2 v H' F' ((e1.trans e2).trans e') r'
    ·rename_i z _ hz
     try rw[hz]
     exact λcls a H' F' ec e'=>⟨_,ρ,F',ec,ri.step ((e1.trans e2).trans e'),w2⟩
    ·exact w2.elim
   ·exact w2.elim
  ·exact w1.elim
 |_=>exact w1.elim
theorem pd {k n:Nat} {r:List D->R D} {pl:N5 Bool} (G:bW X.prog X.w X.K X.mg X.base k cls m n r) (hr:d7 k X.A) (ho:PQ ly X o fo) (ha:xg ly X (e::es) fs)
  (U5:JS (e::es) X.env=(false,Kb e X.env)::JS es X.env:=by rfl) (Sm:(Ks pos (JS es X.env)).any (·.1)=false:=by rfl)
  (ht:Kb (.Call (.Attribute o m Rp) (e::es) [] pos) X.env=(do
   let ov<-Kb o X.env
   M7 Rp.atName
   let (f,first)<-LI [ov] (Ms ov m pl)
   Nb pos f first (Ks pos (JS (e::es) X.env)) (LF pos (Le [] X.env))):=by rfl):
  PQ ly X (.Call (.Attribute o m Rp) (e::es) [] pos) (f9 cls m n r fo fs):=by
 obtain⟨C,f,fd,ps,h1,h2,h3,h4⟩:=G.ex
 exact λc=>PE.weak (y0 (pl:=pl) (ho c) h2.cl h3 h1 hr h4 .nil (pU c) (ha c) U5 Sm ht) λσ H Q h=>yw h2 h
theorem o9 {k n:Nat} {r:List D->R D} {pl:N5 Bool} (G:bW X.prog X.w X.K X.mg X.base k cls m n r) (hr:d7 k X.A) (ho:PQ ly X o fo)
  (ht:Kb (.Call (.Attribute o m Rp) [] [] pos) X.env=(do
   let ov<-Kb o X.env
   M7 Rp.atName
   let (f,first)<-LI [ov] (Ms ov m pl)
   Nb pos f first (Ks pos (JS [] X.env)) (LF pos (Le [] X.env))):=by rfl):
  PQ ly X (.Call (.Attribute o m Rp) [] [] pos) (f9 cls m n r fo ag):=by
 obtain⟨C,f,fd,ps,h1,h2,h3,h4⟩:=G.ex
 refine λc=>PE.weak (v7 (pl:=pl) (ho c) h2.cl h3 h1 hr h4 .nil (pU c) ht) λσ H Q h=> ?_
 obtain⟨F,ρ,ri,w⟩:=yw h2 h
 refine⟨F,ρ,ri,w.imp λd _ k v H1 F1 e1 r1=> ?_⟩
 obtain⟨a,dx,UB,g1,g2,g3,F2,ρ2,Wa,w2⟩:=k v H1 F1 e1 r1
 exact⟨a,dx,UB,g1,g2,g3,w2 [] H1 F2 (cc.refl Wa.sub) .nil⟩
theorem aM.ghost {R6:List (JO×Kq)} {σ:St} {H:Hp} {s:JP} (I:aM X R6 σ H s) {i:Nat} {g:JN} {v:Option V} (hi:X.N[i]? =some g) (hv:¬oO X.env.scope g):aM X R6 (σ.set i v) H s:=by
 refine {I with loc:= ?_,len:=by rw[Nu];exact I.len}
 obtain⟨mm,h1,h2⟩:=I.loc
 refine⟨mm,h1,λj x u e1 e2 e3=> ?_⟩
 by_cases z:i=j
 ·subst z
  rw[hi]at e1
  cases e1
  exact absurd e3 hv
 ·rw[ao z]at e2
  exact h2 j x u e1 e2 e3
def Hx (K:JL) (i:Nat) (ta tv:TE) (f:JN):TS:=λD σ H=>tv σ H λy H1=>ta σ H1 λx H2=>∃a C dx fs,x= .ref a/\H2 a=some (.ins C dx fs)/\v6 K C/\eu K C f/\fs.length<1000/\
 D.nx (σ.set i (some y)) (bY H2 a (.ins C dx (i3 f y fs)))
theorem yx {value:JW} {Rx:KC} {ta tv:TE} {g:JN} (i:Nat) (hi:X.N[i]? =some g) (hvis:¬oO X.env.scope g) (ha:PE X o ta) (hv:PE X value tv) (hs:KR value (some (.Attribute o f Rx)) pos.line X.env=pure false):
  PS X (.Assign [.Attribute o f Rx] value pos) (Hx X.K i ta tv f):=by
 intro R6 s σ H D I h
 refine Nk (d0 (hv R6 s σ H _ I h) λu s1 z=> ?_) hs
 obtain⟨y,H1,I1,ry,q⟩:=z
 refine d0 (ha R6 s1 σ H1 _ I1 q) λov s2 z=> ?_
 obtain⟨x,H2,I2,rx,a,C,dx,fs,ex,ea,c,n,l,q2⟩:=z
 subst ex
 obtain rfl:ov=Kk a:=rx
 exact qW I2 ea c n l ry λs3 I3=>⟨_,_,L2.Pu.aM.ghost I3 hi hvis,q2⟩
theorem s_ (f:JN) (v:V):∀fs:List (JN×V),(i3 f v fs).map (·.1)=if f∈fs.map (·.1)then fs.map (·.1)else fs.map (·.1)++[f]
 |[]=>rfl
 |(g,x)::r=>by
  show (if g=f then (g,v)::r else (g,x)::i3 f v r).map (·.1)=_
  by_cases e:g=f
  ·subst e;simp
  ·rw[if_neg e,J_,s_ f v r]
   by_cases h:f∈r.map (·.1)
   ·rw[if_pos h,if_pos (by rw[J_];exact K8 _ h)];rfl
   ·rw[if_neg h,if_neg (by rw[J_];intro z;exact(K1.mp z).elim (λq=>e q.symm) h)];rfl
theorem uv (f:JN) (v:V) {fs:List (JN×V)} (h:(fs.map (·.1)).Nodup):((i3 f v fs).map (·.1)).Nodup:=by
 rw[s_]
 split
 ·exact h
 ·rename_i hf
  refine Mi.mpr ⟨h,by simp,λa ha b hb=> ?_⟩
  rw[K7.mp hb]
  intro z;subst z;exact hf ha
theorem gY {α:Type} [DecidableEq α]:∀{l m:List α},l.Nodup->(∀x∈l,x∈m)->l.length<=m.length
 |[],_,_,_=>Lx _
 |a::l,m,h,s=>by
  obtain⟨h1,h2⟩:=Mb.mp h
  have ha:=s a K6
  have:=gY (m:=m.erase a) h2 λx hx=>(List.mem_erase_of_ne (λz=>h1 (by rw[<-z];exact hx))).mpr (s x (K8 _ hx))
  rw[List.length_erase_of_mem ha]at this
  have hp:0<m.length:=List.length_pos_of_mem ha
  rw[Kh]
  omega
theorem ki {α:Type} {f:JN}:∀{fs:List (JN×α)},f∈fs.map (·.1)->∃v,fs.lookup f=some v
 |(g,x)::r,h=>by
  rw[L8]
  cases e:f==g with
  |true=>exact⟨x,rfl⟩
  |false=>
   rw[J_]at h
   rcases K1.mp h with z|z
   ·rw[z]at e;simp at e
   ·exact ki z
theorem RI.fld {K:JL} {c:dW ly} {ρ:ah} {σ:St} {H F:Hp} (r:RI K c ρ σ H F) {L:fj} (hL:L∈ly) (hρ:ρ[L.x]? =some (some .obj)) {a dx:JO} {fs:List (JN×V)} {i:Nat} (hx:σ[L.x]? =some (some (.ref a))) (ha:H a=some (.ins L.C dx fs)) (hf:(f,i)∈L.fl)
  (hn:∀p∈L.fl,p.1=f<->p.2=i) (WW:L.x≠i) (Vp:∀M∈ly,M≠L->M.x≠i/\∀p∈M.fl,p.2≠i) {v:V} {d:D} (hd:dR K F v d) (W2:i<σ.length):
  RI K c (ρ.set i (some (.val d))) (σ.set i (some v)) (bY H a (.ins L.C dx (i3 f v fs))) F:=by
 obtain⟨b,Ww,UB,k0,k1,k2,k3,k4,k5,k6,k7,k8,k9,Xn⟩:=r.obj L hL hρ
 rw[hx]at k1
 cases k1
 rw[ha]at k2
 cases k2
 have TC:∀{b:JO} {o:HO},H b=some o->jj K F o d->b≠a:=λ{b o} e q z=>by subst z;rw[ha]at e;cases e;cases q
 refine⟨⟨λx y e=> ?_,λx y e=> ?_,r.ext.grow,r.ext.new⟩,λj e q=> ?_,λj e q=> ?_,λj e q=> ?_,r.bh,λj k e e' x q1 q2 q3 q4=> ?_,by simp[r.len],λM hM hq=> ?_,λM hM M' WX XZ X_ x q1 q2=> ?_,r.fm, .no λj x Ri g hs w=> ?_,λM hM a h=> ?_⟩
 ·rw[ay (λz=>by rw[z,k4]at e;cases e)];exact r.sub x y e
 ·rw[ay (λz=>by rw[z,k6]at e;cases e)];exact r.ext.keep x y e
 ·rcases aA q with ⟨rfl,z,l⟩|⟨z,q⟩
  ·cases z;exact⟨v,gq W2,hd⟩
  ·rw[ao z];exact r.val j e q
 ·rcases aA q with ⟨rfl,z,l⟩|⟨z,q⟩
  ·cases z
  ·obtain⟨x,o,g1,g2,g3,g4,g5⟩:=r.own j e q
   have nx:x≠a:=λz=>by subst z;rw[ha]at g2;cases g2;cases g5
   exact⟨x,o,by rw[ao z];exact g1,by rw[ay nx];exact g2,g3,g4,g5⟩
 ·rcases aA q with ⟨rfl,z,l⟩|⟨z,q⟩
  ·cases z
  ·rw[ao z];exact r.bor j e q
 ·rcases aA q1 with ⟨rfl,z,l⟩|⟨z,q1⟩
  ·cases z
  ·rcases aA q2 with ⟨rfl,z',l⟩|⟨z',q2⟩
   ·cases z'
   ·rw[ao z]at q3;rw[ao z']at q4
    exact r.dis j k e e' x q1 q2 q3 q4
 ·by_cases UK:M=L
  ·subst UK
   refine⟨a,dx,i3 f v fs,k0,by rw[ao WW.symm];exact hx,aH,?_,k4,k5,k6,k7,λp hp=> ?_,λg u hu=> ?_,uv _ _ Xn⟩
   ·rw[ay (λz=>by rw[z,ha]at k3;cases k3)];exact k3
   ·rw[de]
    by_cases e:p.1=f
    ·rw[if_pos e,(hn p hp).mp e,gq W2];rfl
    ·rw[if_neg e,ao (λz=>e ((hn p hp).mpr z.symm))];exact k8 p hp
   ·rw[de]at hu
    by_cases e:g=f
    ·subst e;exact Lp.mpr ⟨_,hf,rfl⟩
    ·rw[if_neg e]at hu;exact k9 g u hu
  ·have ho:=Vp M hM UK
   rw[ao ho.1.symm]at hq
   obtain⟨b,dy,gs,g0,g1,g2,g3,g4,g5,g6,g7,g8,g9⟩:=r.obj M hM hq
   have nb:b≠a:=λz=>UK (r.odis M hM L hL hq hρ a (by rw[<-z];exact g1) hx)
   have nd:dy≠a:=λz=>by subst z;rw[ha]at g3;cases g3
   refine⟨b,dy,gs,g0,by rw[ao ho.1.symm];exact g1,by rw[ay nb];exact g2,by rw[ay nd];exact g3,g4,g5,g6,g7,λp hp=> ?_,g9⟩
   rw[ao (ho.2 p hp).symm];exact g8 p hp
 ·have Wi:∀M∈ly,M.x≠i:=λM hM=>by
   by_cases UK:M=L
   ·subst UK;exact WW
   ·exact(Vp M hM UK).1
  rw[ao (Wi M hM).symm]at q1 XZ
  rw[ao (Wi M' WX).symm]at q2 X_
  exact r.odis M hM M' WX XZ X_ x q1 q2
 ·rcases aA w with ⟨rfl,z,l⟩|⟨z,w⟩
  ·cases z
  ·have:=r.cel.one j L.x x Ri g hs .obj w hρ rfl
   subst this
   rw[hρ]at w
   cases w
 ·have Wi:M.x≠i:=by
   by_cases UK:M=L
   ·subst UK;exact WW
   ·exact(Vp M hM UK).1
  rw[ao Wi.symm];exact r.pin M hM a h
def og (x:Nat) (g:ah->R bn):ah->R bn:=λρ=>match ρ[x]? with
 |some (some .obj)=>g ρ
 |_=> .bad
theorem DA {c:dW ly} {x:Nat} {g:ah->R bn} {ρ:ah} {P:bn->Prop} (w:aN c (og x g ρ) P):ρ[x]? =some (some .obj)/\aN c (g ρ) P:=by
 unfold og at w
 split at w
 ·rename_i h;exact⟨h,w⟩
 ·exact w.elim
structure BH (ly:List fj) (L:fj) (f:JN) (i:Nat):Prop where
 mem:L∈ly
 fl:(f,i)∈L.fl
 un:∀p∈L.fl,p.1=f<->p.2=i
 x:L.x≠i
 oth:∀M∈ly,M≠L->M.x≠i/\∀p∈M.fl,p.2≠i
 few:L.fl.length<1000
theorem jp {value:JW} {Rx px:KC} {fv:ah->R D} {y g:JN} {L:fj} (i:Nat) (hC:v6 X.K L.C) (n:eu X.K L.C f) (A:BH ly L f i) (hv:PQ ly X value fv) (hN:X.N[L.x]? =some y:=by rfl) (Zm:oO X.env.scope y:=by first|exact KG rfl|exact Kp (KG rfl)|exact Kp (Kp rfl)) (hd:(y==("__debug__":JN))=false:=by decide)
  (Sl:(y==("__classdict__":JN))=false:=by decide) (hi:X.N[i]? =some g:=by rfl) (hvis:¬oO X.env.scope g:=by decide+kernel) (hs:KR value (some (.Attribute (.Name y px) f Rx)) pos.line X.env=pure false:=by rfl):
  n5 ly X (.Assign [.Attribute (.Name y px) f Rx] value pos) (og L.x (aX fv (gN i))):=λc R6 s σ H D I q=>by
 refine yx i hi hvis (pv L.x hN Zm hd Sl) (hv c) hs R6 s σ H D I ?_
 obtain⟨F,ρ,ri,w⟩:=q
 obtain⟨hρ,w⟩:=DA w
 refine⟨F,ρ,ri,(aN.bind.mp w).imp λd _ w1 v H1 F1 e1 r1=> ?_⟩
 have Vg:=ri.step e1
 obtain⟨a,dx,fs,h0,h1,h2,h3,h4,h5,h6,h7,h8,h9,Xo⟩:=Vg.obj L A.mem hρ
 have W2:i<σ.length:=by rw[I.len];exact(K9.mp hi).1
 have Rt:fs.length<1000:=by
  have:=gY (m:=L.fl.map (·.1)) Xo λx hx=>by
   obtain⟨v,e⟩:=ki hx
   exact h9 x v e
  rw[JR,JR]at this
  exact NF this A.few
 refine⟨.ref a,h1,a,L.C,dx,fs,rfl,h2,hC,n,Rt,?_⟩
 exact w1 _ _ F1 e1.grow (Vg.fld A.mem hρ h1 h2 A.fl A.un A.x A.oth r1 W2)
end
end L2.Pu
namespace L2.Pu
open PySem PySem.Spec PyProof.Rows
variable {ly:List fj}
section
variable {X:Cx} {pos px:KC} {f y:JN}
def Jf (x:Nat) (g:ah->R D):ah->R D:=λρ=>match ρ[x]? with
 |some (some .obj)=>g ρ
 |_=> .bad
end
def dX:List (JN×Nat)->ah->Option (List (JN×D))
 |[],_=>some []
 |p::r,ρ=>match ρ[p.2]? with
  |some (some (.val d))=>(dX r ρ).map λt=>(p.1,d)::t
  |_=>none
def jq (n:Nat) (ds:List D):ah:=some Slot.obj::dw n ds
def zT (fl:List (JN×Nat)) (ρ:ah):R (List (JN×D)):=match ρ[0]? with
 |some (some Slot.obj)=>R.of (dX fl ρ)
 |_=> .bad
def m8 (k n:Nat) (fl:List (JN×Nat)) (g:ah->R bn) (ds:List D):R (List (JN×D)):=if ds.length=k then g (jq n ds)>>=λo=>match o with
 | .nx ρ=>zT fl ρ
 |_=> .bad else .bad
def BI (K:JL) (C:JO) (cls:JN) (k:Nat) (mi:List D->R (List (JN×D))):Sp:=λvs H Q E=>∃F x dx us ds Hz,vs= .ref x::us/\us.length=k/\b8 F Hz/\Hz x=none/\Hz dx=none/\dx≠x/\H=bY (bY Hz dx (.own x)) x (.ins C dx [])/\Reps K F us ds/\match mi ds with
 | .ok fds=>∀H' F',cc Hz F H' F'->dR K F' (.ref x) (.ins cls fds)->Q .non H'
 | .err z _=>∀ec a H' F',fI K z ec->cc Hz F H' F'->E ec a H'
 | .bad=>False
theorem n9 {K:JL} {c:dW ly} {ρ:ah} {σ:St} {H F:Hp} (ri:RI K c ρ σ H F) {fs:List (JN×V)}:∀{fl:List (JN×Nat)} {fds:List (JN×D)},dX fl ρ=some fds->(∀p∈fl,fs.lookup p.1=(σ[p.2]?).join)->
  ∃vs:List (JN×V),RepF K F vs fds/\vs.map (·.1)=fl.map (·.1)/\∀p∈vs,fs.lookup p.1=some p.2
 |[],fds,h,_=>by cases h;exact⟨[], .nil,rfl,λp hp=>by cases hp⟩
 |p::fl,fds,h,hl=>by
  unfold dX at h
  split at h
  ·rename_i d hd
   cases e:dX fl ρ with
   |none=>rw[e]at h;cases h
   |some t=>
    rw[e]at h
    cases h
    obtain⟨vs,h1,h2,h3⟩:=n9 ri e λq hq=>hl q (K8 _ hq)
    obtain⟨v,g1,g2⟩:=ri.val _ d hd
    refine⟨(p.1,v)::vs, .cons g2 h1,by rw[J_,J_,h2],λq hq=> ?_⟩
    rcases K1.mp hq with rfl|hq
    ·have:=hl p K6
     rw[this,g1];rfl
    ·exact h3 q hq
  ·cases h
theorem t7 {K:JL} {N:List JN} {C x dx:JO} {fl:List (JN×Nat)} {Hz F:Hp} {us:List V} {ds:List D} {Er:JN->ah->Prop} {n:Nat} (hn:N.length=n+1) (s:b8 F Hz) (hx:Hz x=none) (Y0:Hz dx=none) (TC:dx≠x) (r:Reps K F us ds) (ZV:us.length<=n) (hg:∀p∈fl,us.length<p.2):
  RI K (⟨Hz,F,λ_=>none,Er,λ_=>some x,λ_=>none⟩:dW [⟨0,C,fl⟩]) (jq n ds) (dB N (.ref x::us)) (bY (bY Hz dx (.own x)) x (.ins C dx [])) F:=by
 have keep:b8 Hz (bY (bY Hz dx (.own x)) x (.ins C dx [])):=(cW Y0).trans (cW (by rw[ay (Lz TC)];exact hx))
 have hv:∀(i:Nat) sl,(jq n ds)[i]? =some (some sl)->(i=0/\sl= .obj)\/∃j d,i=j+1/\ds[j]? =some d/\sl= .val d:=λi sl h=>by
  cases i with
  |zero=>exact .inl ⟨rfl,by cases h;rfl⟩
  |succ j=>
   have h':(dw n ds)[j]? =some (some sl):=h
   refine .inr ?_
   unfold dw at h'
   rw[Mw]at h'
   split at h'
   ·rw[Km]at h'
    cases e:ds[j]? with
    |none=>rw[e]at h';cases h'
    |some d=>rw[e]at h';simp at h';exact⟨j,d,rfl,e,h'.symm⟩
   ·rw[Lu]at h'
    split at h'<;>simp at h'
 have VE:(dB N (V.ref x::us))[0]? =some (some (V.ref x)):=rfl
 refine⟨⟨s.trans keep,keep,b8.refl _,λ_ h=> .inl h⟩,λi d h=> ?_,λi d h=> ?_,λi d h=> ?_,(λb o e=>by cases e),λi j d d' a h=> ?_,?_,λL hL _=> ?_,λL hL L' UE _ _ a _ _=> ?_,(λ_ _ e=>by cases e), .no λi x Ri f hs h=>(by obtain⟨_,z⟩|⟨j,d',_,_,z⟩:=hv i _ h<;>cases z),λL hL a h=>by rw[K7.mp hL];cases h;exact VE⟩
 ·obtain⟨rfl,z⟩|⟨j,d',rfl,e,z⟩:=hv i _ h
  ·cases z
  cases z
  obtain⟨v,h1,h2⟩:=r.get e
  refine⟨v,?_,h2⟩
  unfold dB
  have hl:j<us.length:=(K9.mp h1).1
  rw[LA (by simpa using hl),Km]
  show (us[j]?).map some=_
  rw[h1]
  rfl
 ·obtain⟨_,z⟩|⟨j,d',_,_,z⟩:=hv i _ h<;>cases z
 ·obtain⟨_,z⟩|⟨j,d',_,_,z⟩:=hv i _ h<;>cases z
 ·obtain⟨_,z⟩|⟨j,d',_,_,z⟩:=hv i _ h<;>cases z
 ·simp only[jq,dw,dB,Kh,Kv,JR,Nj,hn]
  have:=r.length
  omega
 ·rw[K7.mp hL]
  refine⟨x,dx,[],(λb hb=>by cases hb;rfl),VE,aH,?_,s.free hx,s.free Y0,hx,Y0,λp hp=> ?_,(λf v h=>by cases h),QP⟩
  ·rw[ay TC];exact aH
  ·have Wr:=hg p hp
   show none=_
   unfold dB
   rw[Mz (by simp;omega),Lu]
   split<;>rfl
 ·rw[K7.mp hL,K7.mp UE]
theorem DB {K:JL} {C:JO} {cls:JN} {fl:List (JN×Nat)} {c:dW [⟨0,C,fl⟩]} {ρ:ah} {σ:St} {H F:Hp} {fds:List (JN×D)} {x:JO} (ri:RI K c ρ σ H F) (hρ:ρ[0]? =some (some .obj)) (Zn:c.oa 0=some x) (Vk:K0 K JX cls=some (some (.ref C))) (h:dX fl ρ=some fds):
  ∃F',cc c.H0 c.F0 H F'/\dR K F' (.ref x) (.ins cls fds):=by
 obtain⟨a,dx,fs,h0,h1,h2,h3,h4,h5,h6,h7,h8,h9,Xo⟩:=ri.obj _ (K7.mpr rfl) hρ
 cases h0 x Zn
 obtain⟨vs,g1,g2,g3⟩:=n9 ri h h8
 have TC:dx≠x:=λz=>by rw[z,h2]at h3;cases h3
 have s1:b8 F (bY F dx (.own x)):=cW h5
 have s2:b8 (bY F dx (.own x)) (bY (bY F dx (.own x)) x (.ins C dx fs)):=cW (by rw[ay (Lz TC)];exact h4)
 have sF:=s1.trans s2
 refine⟨bY (bY F dx (.own x)) x (.ins C dx fs),⟨λb u e=> ?_,ri.ext.keep,ri.ext.grow.trans sF,λb e=> ?_⟩, .ins aH (by rw[ay TC];exact aH) Vk g3 (λf v e=>by rw[g2];exact h9 f v e) (g1.mono sF)⟩
 ·by_cases z:b=x
  ·subst z;rw[aH]at e;rw[<-e];exact h2
  ·rw[ay z]at e
   by_cases z2:b=dx
   ·subst z2;rw[aH]at e;rw[<-e];exact h3
   ·rw[ay z2]at e;exact ri.sub b u e
 ·by_cases z:b=x
  ·subst z;exact .inr h6
  ·rw[ay z]at e
   by_cases z2:b=dx
   ·subst z2;exact .inr h7
   ·rw[ay z2]at e;exact ri.ext.new b e
theorem DC {P:K3} {w:Kd} {K:JL} {mg:JN->Option JM} {base:Ka} {x qual cls:JN} {st:Ke} {f C:JO} {fd:Lc} {N ps:List JN} {k n m:Nat} {fl:List (JN×Nat)} {g:ah->R bn} (F:yg K x qual st f fd) (S:aE N ps (ak st))
  (Vk:K0 K JX cls=some (some (.ref C))) (hn:ps.length=n+1) (hm:N.length=m+1) (hg:∀p∈fl,n<p.2) (Wb:n<=m)
  (RE:∀(Rj:JM) (A:Kl) (outer:List Ly) (s:JP) (H:Hp) (E:XK),d7 k (A.deeper (LG qual (ak st) s.heap.objs.size f Rj))->
   jk [⟨0,C,fl⟩] (j3 (lh P w) P w K mg base N qual (ak st) f Rj A outer s H E) (bO st) g):fH P w K mg base (lh P w) (k+1) f fd ps (BI K C cls n (m8 n m fl g)):=by
 refine Ia F S (λvs H Q E h=> ?_) (λRj A outer s H vs Q E hr h=> ?_)
 ·obtain⟨Fz,y,dy,us,ds,Hz,rfl,hl,_⟩:=h
  rw[Kh,hl,hn]
 ·obtain⟨Fz,y,dy,us,ds,Hz,rfl,hl,sub,hy,Y1,TC,rfl,r,w⟩:=h
  refine⟨_,RE Rj A outer s _ E hr ⟨⟨Hz,Fz,λ_=>none,λz _=>∀ec a H' F',fI K z ec->cc Hz Fz H' F'->E ec a H',λ_=>some y,λ_=>none⟩,ug λz ρ er ec a H' F' σ hc ri=>er ec a H' F' hc ri.ext⟩,?_⟩
  refine⟨Fz,jq m ds,t7 hm sub hy Y1 TC r (by omega) (λp hp=>by rw[hl];exact hg p hp),?_⟩
  have hd:ds.length=n:=by rw[<-r.length];exact hl
  unfold m8 at w
  rw[if_pos hd]at w
  cases e:g (jq m ds)with
  |bad=>rw[e]at w;exact w.elim
  |err c ρ=>rw[e]at w;exact w
  |ok o=>
   rw[e]at w
   cases o with
   |nx ρ=>
    intro σ' H' F' _ Sq
    rw[aq]at w
    split at w
    ·rename_i fds hf
     replace hf:zT fl ρ= .ok fds:=hf
     unfold zT at hf
     split at hf
     ·rename_i hρ
      cases e2:dX fl ρ with
      |none=>rw[e2]at hf;cases hf
      |some a0Y=>
       rw[e2]at hf
       cases hf
       obtain⟨F2,x1,x2⟩:=DB Sq hρ rfl Vk e2
       exact w H' F2 x1 x2
     ·cases hf
    ·rename_i z ρe hf
     replace hf:zT fl ρ= .err z ρe:=hf
     unfold zT at hf
     split at hf
     ·cases e2:dX fl ρ<;>rw[e2]at hf<;>cases hf
     ·cases hf
    ·exact w.elim
   |_=>exact w.elim
structure gO (P:K3) (w:Kd) (K:JL) (mg:JN->Option JM) (base:Ka) (k:Nat) (cls:JN) (n:Nat) (mi:List D->R (List (JN×D))):Prop where
 ex:∃C f fd ps,fH P w K mg base (lh P w) k f fd ps (BI K C cls n mi)/\mg cls=some (.ref C)/\Mk K C f/\gk K fd ps []
section
variable {X:Cx} {e:JW} {es:List JW} {fs:ah->R (List D)} {cls:JN} {p pos:KC}
def lz (cls:JN) (n:Nat) (mi:List D->R (List (JN×D))) (fs:ah->R (List D)):ah->R D:=λρ=>fs ρ>>=λds=>if ds.length=n then (match mi ds with| .ok fds=> .ok (.ins cls fds)| .err x _=> .err x ρ| .bad=> .bad)else .bad
theorem nc {k n:Nat} {mi:List D->R (List (JN×D))} (G:gO X.prog X.w X.K X.mg X.base k cls n mi) (hr:d7 (k+1) X.A) (ha:xg ly X (e::es) fs) (hg:Gl X cls:=by rfl) (T8:(cls==("__debug__":JN))=false:=by decide)
  (he:JS (e::es) X.env=(false,Kb e X.env)::JS es X.env:=by rfl) (Sm:(Ks pos (JS es X.env)).any (·.1)=false:=by rfl):PQ ly X (.Call (.Name cls p) (e::es) [] pos) (lz cls n mi fs):=by
 obtain⟨C,f,fd,ps,h1,h2,h3,h4⟩:=G.ex
 refine λc=>PE.weak (y6 h3 h1 hr hg h2 h4 .nil (pU c) (ha c) T8 he Sm) λσ H Q ⟨F,ρ,ri,w⟩=>⟨F,ρ,ri,(aN.bind.mp w).imp λds _ w1 vs H1 F1 e1 r1 x dx hx Y0 TC=> ?_⟩
 rw[Lm]
 split at w1
 ·rename_i hl
  refine⟨F1,x,dx,vs,ds,H1,rfl,by rw[r1.length];exact hl,e1.sub,hx,Y0,TC,rfl,r1,?_⟩
  split at w1
  ·rename_i fds hm
   exact λH' F' e' r'=>⟨rfl,w1 _ H' F' (e1.trans e') r'⟩
  ·exact λec a H' F' hc e'=>⟨_,ρ,F',hc,ri.step (e1.trans e'),w1⟩
  ·exact w1.elim
 ·exact w1.elim
end
end L2.Pu
namespace L2.Pu
open PySem PySem.Spec PyProof.Rows
variable {ly:List fj}
section
variable {X:Cx} {e:JW} {es:List JW} {fs:ah->R (List D)} {x:JN} {np Rm pos:KC}
structure cJ (K:JL) (mg:JN->Option JM) (x:JN):Prop where
 ex:∃C,K0 K JX x=some (some (.ref C))/\mg x=some (.ref C)/\ue K C
def cL (x:JN) (fs:ah->R (List D)):ah->R bn:=λρ=>fs ρ>>=λds=>if ds.length<=lim then .err x ρ else .bad
theorem BJ {c:j4 ly X} {C:JO} {σ:St} {H:Hp} {D:nM} {ρ:ah} {F:Hp} (Vk:K0 X.K JX x=some (some (.ref C)))
  (WT:∀R6 σ ρ H F s a cls x,aM X R6 σ H s->RI X.K c.1 ρ σ H F->Fl X R6 H s.heap a cls->fI X.K x cls->c.1.Er x ρ->X.xe (.ref a) s)
  (ri:RI X.K c.1 ρ σ H F) (w:aN c.1 (cL x fs ρ) (hG X.K c.1 F D)):Bb X C (Gp X.K c.1 fs) D σ H:=by
 refine⟨F,ρ,ri,(aN.bind.mp w).imp λds _ w1 vs H1 F1 e1 r1=> ?_⟩
 split at w1
 ·rename_i hl
  exact⟨Ky (by rw[r1.length];exact hl) gH,λR6 s a I fl=>WT R6 σ ρ H1 F1 s a _ x I (ri.step e1) fl ⟨C,rfl,Vk⟩ w1⟩
 ·exact w1.elim
theorem BK {c:dW ly} {ρ:ah} {F:Hp} {D:nM} (no:∀x ρ,¬c.Er x ρ) (w:aN c (cL x fs ρ) (hG X.K c F D)):False:=by
 unfold cL at w
 cases h:fs ρ with
 |bad=>rw[h]at w;exact w
 |err y ρ'=>rw[h]at w;exact no _ _ w
 |ok ds=>
  rw[h,aq]at w
  split at w
  ·exact no _ _ w
  ·exact w
theorem dr (k:cJ X.K X.mg x) (hc:X.calm=true) (ha:xg ly X (e::es) fs) (hg:Gl X x:=by rfl) (T8:(x==("__debug__":JN))=false:=by decide)
  (he:JS (e::es) X.env=(false,Kb e X.env)::JS es X.env:=by rfl) (Sm:(Ks Rm (JS es X.env)).any (·.1)=false:=by rfl) (U5:X.stack=X.env::X.outer:=by rfl):n5 ly X (.Raise (some (.Call (.Name x np) (e::es) [] Rm)) none pos) (cL x fs):=by
 obtain⟨C,h1,h2,h3⟩:=k.ex
 intro c R6 s σ H D I q
 obtain⟨F,ρ,ri,w⟩:=q
 rcases c.2.plain U5 with ⟨hp,WT⟩|no
 ·exact Bc h3 h2 hp hc (ha c) hg T8 he Sm R6 s σ H D I (BJ h1 WT ri w)
 ·exact(BK (X:=X) no w).elim
end
def Hy (i:Nat):bn->bn
 | .nx ρ=> .nx (ρ.set i none)
 | .brk ρ=> .brk (ρ.set i none)
 | .cnt ρ=> .cnt (ρ.set i none)
 | .ret d=> .ret d
 | .retc d ρ=> .retc d (ρ.set i none)
def vG (i:Nat) (sub:JN->Bool) (gh:ah->R bn) (x:JN) (ρ:ah):R bn:=if sub x=true then (match gh (ρ.set i (some (.val (.exc x))))with
 | .ok o=> .ok (Hy i o)
 |_=> .bad)else .bad
def zU (i:Nat) (sub:JN->Bool) (g gh:ah->R bn):ah->R bn:=λρ=>match g ρ with
 | .err x ρ'=>vG i sub gh x ρ'
 |r=>r
section
variable {X:Cx} {R6:List (JO×Kq)} {σ:St} {H:Hp} {s:JP}
abbrev _root_.L2.Cx.inT (X:Cx) (E:JM->JP->Prop) (pn:List (JO×Kq)):Cx:={X with xe:=E,pn:=pn}
theorem JC {E:JM->JP->Prop} {pn:List (JO×Kq)} (ok:X.Ok):(X.inT E pn).Ok:=
 ⟨ok.mod,ok.kind,ok.glob,ok.blt,ok.above,ok.inj,ok.has,ok.cab,ok.hd,ok.frames,ok.stk,ok.exf,ok.bs,ok.bsz,ok.noex,ok.exfs,ok.funs,ok.frf⟩
theorem inT {E:JM->JP->Prop} (I:aM X R6 σ H s):aM (X.inT E (X.pn++R6)) [] σ H s:=⟨JC I.ok,I.os,I.bare,I.base,I.loc,I.cell,I.free,I.freeC,λp hp=>I.pin p (by simpa using hp),I.hok,I.len⟩
theorem BL {E:JM->JP->Prop} {Th:List (JO×Kq)} (ok:X.Ok) (I:aM (X.inT E (X.pn++R6)) Th σ H s):aM X R6 σ H s:=⟨ok,I.os,I.bare,I.base,I.loc,I.cell,I.free,I.freeC,λp hp=>I.pin p (L4 _ hp),I.hok,I.len⟩
theorem newT {E:JM->JP->Prop} {Th:List (JO×Kq)} {b:JO} (n:xb (X.inT E (X.pn++R6)) Th H b):xb X R6 H b:=⟨n.s0,n.no,λp hp=>n.pin p (L4 _ hp)⟩
theorem JD {E:JM->JP->Prop} {Th:List (JO×Kq)} {h:Ka} {a:JO} {cls:JM} (f:Fl (X.inT E (X.pn++R6)) Th H h a cls):Fl X R6 H h a cls:=by
 obtain⟨oe,vs,h1,h2,h3,h4⟩:=f.at_
 refine⟨newT f.new,oe,vs,h1,h2,h3,h4.imp id λ⟨T,fl,e,t,hf⟩=>⟨T,fl,e,⟨newT t.new,t.ne,t.at_⟩,hf⟩⟩
theorem JE {E:JM->JP->Prop} {D:nM} {f:Flow} (ok:X.Ok) (h:SP (X.inT E (X.pn++R6)) [] D f s):SP X R6 D f s:=by
 cases f with
 |next=>obtain⟨σ',H',I,q⟩:=h;exact⟨σ',H',BL ok I,q⟩
 |brk=>obtain⟨σ',H',I,q⟩:=h;exact⟨σ',H',BL ok I,q⟩
 |cont=>obtain⟨σ',H',I,q⟩:=h;exact⟨σ',H',BL ok I,q⟩
 |ret u=>obtain⟨v,σ',H',I,r,q⟩:=h;exact⟨v,σ',H',BL ok I,r,q⟩
end
section
variable {K:JL} {c:dW ly} {ρ:ah} {σ:St} {H F:Hp}
def dW.er (c:dW ly) (F:Hp) (Er:JN->ah->Prop):dW ly:=⟨c.H0,c.F0,c.B,Er,c.oa,F⟩
theorem RI.er {Er:JN->ah->Prop} (r:RI K c ρ σ H F):RI K (c.er F Er) ρ σ H F:=⟨r.ext,r.val,r.own,r.bor,r.bh,r.dis,r.len,r.obj,r.odis,b8.refl _,r.cel,r.pin⟩
theorem RI.unEr {F1:Hp} {Er:JN->ah->Prop} (r:RI K (c.er F1 Er) ρ σ H F) (m:b8 c.Fm F1):RI K c ρ σ H F:=⟨r.ext,r.val,r.own,r.bor,r.bh,r.dis,r.len,r.obj,r.odis,m.trans r.fm,r.cel,r.pin⟩
theorem hG.er {D:nM} {o:bn} {F1:Hp} {Er:JN->ah->Prop} (m:b8 c.Fm F1) (h:hG K c F D o):hG K (c.er F1 Er) F D o:=by
 cases o with
 |nx ρ=>exact λσ' H' F' s r=>h σ' H' F' s (r.unEr m)
 |brk ρ=>exact λσ' H' F' s r=>h σ' H' F' s (r.unEr m)
 |cnt ρ=>exact λσ' H' F' s r=>h σ' H' F' s (r.unEr m)
 |ret d=>exact λv H' F' s e r=>h v H' F' s e r
 |retc d ρ=>exact λv σ' H' F' s e r=>h v σ' H' F' s (e.unEr m) r
end
section
variable {X:Cx} {body UD:List Ke} {b₀:Ke} {g gh:ah->R bn} {cx n:JN} {np VI pos:KC} {sub:JN->Bool}
structure vH (K:JL) (mg:JN->Option JM) (cx:JN) (sub:JN->Bool):Prop where
 ex:∃C,mg cx=some (.ref C)/\∀x cls,sub x=true->fI K x cls->Mp K cls (.ref C)=some true
theorem HA (i:Nat) (p:jC X) (hN:X.N.Nodup) (U:vH X.K X.mg cx sub) (hb:∀E pn,jk ly (X.inT E pn) body g) (hh:∀v,jk ly (X.inH v) (b₀::UD) gh) (hi:X.N[i]? =some n:=by rfl) (hk:X.env.scope.names.lookup n=some .local:=by rfl) (hg:Gl X cx:=by rfl)
  (T8:(cx==("__debug__":JN))=false:=by decide) (T9:kZ ly i:=by(repeat (first|assumption|exact L2.Pu.fD|refine L2.Pu.ef ⟨by first|decide|simp,by first|decide|simp⟩ ?_))):n5 ly X (.Try body [.ExceptHandler (some (.Name cx np)) (some n) (b₀::UD) VI] [] [] pos) (zU i sub g gh):=by
 obtain⟨Cc,hm,Zo⟩:=U.ex
 intro c R6 s σ H D I q
 obtain⟨F,ρ,ri,w⟩:=q
 refine wpAny_Try_except ?_
 have ok:=I.ok
 let a0d:JM->JP->Prop:=λe s₁=>JZ (K2 X.prog X.w) X.A (Q0 e X.env) (λ_ s₂=>JZ (K2 X.prog X.w) X.A (setFlight e none) (λ_ s₃=>JZ (K2 X.prog X.w) X.A (handleBy e X.env [.ExceptHandler (some (.Name cx np)) (some n) (b₀::UD) VI]) (SP X R6 D) X.xe s₃) X.xe s₂) X.xe s₁
 let c':dW ly:=c.1.er F λx ρ'=>aN c.1 (vG i sub gh x ρ') (hG X.K c.1 F D)
 have WT:Fp (X.inT a0d (X.pn++R6)) c':=by
  refine .inl ⟨⟨p.st,p.fr,p.ex⟩,λTh σ' ρ' H' F' s' a cls x I' Sq fl ec er=> ?_⟩
  obtain⟨C,rfl,Vk⟩:=ec
  have Wx:RI X.K c.1 ρ' σ' H' F':=Sq.unEr ri.fm
  have sF:b8 F F':=Sq.fm
  refine vj (BL ok I') p (JD fl) λh2 I2 f2=> ?_
  replace er:aN c.1 (vG i sub gh x ρ') (hG X.K c.1 F D):=er
  unfold vG at er
  split at er
  ·rename_i hs
   refine zJ I2 p f2 hN hi hk hg hm (Zo x _ hs ⟨C,rfl,Vk⟩) T8 λs3 I3=> ?_
   have e2:=cc.lay (o:= .ext (jD a (.ref C))) Wx.sub f2.new.no
   have VJ:=(Wx.step e2).setVal i T9 (dR.exc aH Vk)
   split at er
   ·rename_i o ho
    let D2:nM:={nx:=λσ1 H1=>D.nx (σ1.set i none) H1,rt:=D.rt,bk:=λσ1 H1=>D.bk (σ1.set i none) H1,ct:=λσ1 H1=>D.ct (σ1.set i none) H1}
    have Zp:hG X.K (c.1.er F λ_ _=>False) (bY F' a (.ext (jD a (.ref C)))) D2 o:=by
     have Y2:=sF.trans e2.grow
     cases o with
     |nx ρ1=>exact λσ1 H1 F1 s1 r1=>er _ H1 F1 (Y2.trans s1) ((r1.unEr ri.fm).setNone i T9)
     |brk ρ1=>exact λσ1 H1 F1 s1 r1=>er _ H1 F1 (Y2.trans s1) ((r1.unEr ri.fm).setNone i T9)
     |cnt ρ1=>exact λσ1 H1 F1 s1 r1=>er _ H1 F1 (Y2.trans s1) ((r1.unEr ri.fm).setNone i T9)
     |ret d=>exact λv H1 F1 s1 e1 r1=>er v H1 F1 (Y2.trans s1) e1 r1
     |retc d ρ1=>exact λv σ1 H1 F1 s1 e1 r1=>er v _ H1 F1 (Y2.trans s1) ((e1.unEr ri.fm).setNone i (v:=none) T9) r1
    have a0Z:RI X.K (c.1.er F λ_ _=>False) (ρ'.set i (some (.val (.exc x)))) (σ'.set i (some (.ref a))) (bY H' a (.ext (jD a (.ref C)))) (bY F' a (.ext (jD a (.ref C)))):=⟨VJ.ext,VJ.val,VJ.own,VJ.bor,VJ.bh,VJ.dis,VJ.len,VJ.obj,VJ.odis,sF.trans e2.grow,VJ.cel,VJ.pin⟩
    refine d0 (hh (.ref a) ⟨c.1.er F λ_ _=>False, .no λ_ _ z=>z⟩ R6 s3 _ _ D2 I3 ⟨_,_,a0Z,by rw[ho];exact Zp⟩) λf s4 q4=> ?_
    have Wj:∀{σ1 H1},aM (X.inH (.ref a)) R6 σ1 H1 s4->(∀s5,aM X R6 (σ1.set i none) H1 s5->SP X R6 D f s5)->JZ (K2 X.prog X.w) X.A (do bindName X.env n KU;Nx X.env n VI) (λ_ s5=>SP X R6 D f s5) X.xe s4:=λI4 kk=>zH (I4.outH ok) hN hi hk kk
    cases f with
    |next=>obtain⟨σ1,H1,I4,q5⟩:=q4;exact Wj I4 λs5 I5=>⟨_,H1,I5,q5⟩
    |brk=>obtain⟨σ1,H1,I4,q5⟩:=q4;exact Wj I4 λs5 I5=>⟨_,H1,I5,q5⟩
    |cont=>obtain⟨σ1,H1,I4,q5⟩:=q4;exact Wj I4 λs5 I5=>⟨_,H1,I5,q5⟩
    |ret u=>obtain⟨v,σ1,H1,I4,r,q5⟩:=q4;exact Wj I4 λs5 I5=>⟨v,_,H1,I5,r,q5⟩
   ·exact er.elim
  ·exact er.elim
 have wb:aN c' (g ρ) (hG X.K c' F D):=by
  unfold zU at w
  cases h:g ρ with
  |bad=>rw[h]at w;exact w
  |err x ρ'=>rw[h]at w;exact w
  |ok o=>rw[h]at w;exact hG.er ri.fm w
 refine d0 (hb a0d (X.pn++R6) ⟨c',WT⟩ [] s σ H D (inT I) ⟨F,ρ,ri.er,wb⟩) λf s1 q1=> ?_
 have q2:=JE ok q1
 cases f with
 |next=>exact Np q2
 |brk=>exact q2
 |cont=>exact q2
 |ret u=>exact q2
end
section
variable {X:Cx} {a:JW} {fa:ah->R D} {x:JN} {p p2 pos:KC} {tb:JN->Option Bool}
structure pY (K:JL) (v:JM) (tb:JN->Option Bool):Prop where
 ok:∀x b cls,tb x=some b->fI K x cls->L0 K cls v=some b/\∃C,cls= .ref C/\ue K C
def j5 (tb:JN->Option Bool) (f:ah->R D):ah->R D:=λρ=>f ρ>>=λd=>match d with
 | .exc x=>R.of ((tb x).map .bl)
 |_=> .bad
def HB (K:JL):List V->Hp->VK->Prop:=λxs H Q=>∃a C v c b,xs=[.ref a,v]/\H a=some (.ext (jD a (.ref C)))/\ue K C/\((∃T,v= .ty T/\c= .type T)\/∃C2,v= .ref C2/\c= .ref C2)/\L0 K (.ref C) c=some b/\Q (.bl b) H
theorem vI:dU X (.builtin "isinstance") (HB X.K):=by
 intro R6 s σ H xs us Q I rv h
 obtain⟨a,C,v,c,b,rfl,ea,k,hc,e,q⟩:=h
 obtain⟨u,w',rfl,ru,Vx⟩:=xZ rv
 cases (show u=Kk a from ru)
 obtain⟨⟨o,g1,g2⟩,_⟩:=(show ce X.prog X.w H s.heap a (.ext (jD a (.ref C)))from I.hok a _ ea)
 have ew:w'=c:=by
  rcases hc with ⟨T,rfl,rfl⟩|⟨C2,rfl,rfl⟩
  ·exact Vx
  ·exact Vx
 subst ew
 exact L5 (Ba k) I.kIn ⟨o,g1,g2⟩ e (λz=>nomatch z) λtk=>⟨.bl b,H,I.tok tk,rfl,q⟩
theorem dg.exc {K:JL} {H F:Hp} {v:V} {x:JN} (s:b8 F H):dg K H F v (.exc x)->∃a C,v= .ref a/\H a=some (.ext (jD a (.ref C)))/\K0 K JX x=some (some (.ref C)):=λh=>by
 obtain⟨a,C,e,h,n⟩:=h.in rfl
 exact⟨a,C,e,s _ _ h,n⟩
theorem BM {K:JL} {c:dW ly} {tv:V} {cv:JM} {σ:St} {H:Hp} {Q:VK} (T:pY K cv tb) (hv:(∃T,tv= .ty T/\cv= .type T)\/∃C2,tv= .ref C2/\cv= .ref C2) (h:tQ K c (j5 tb fa) σ H Q):
  tB' K c fa σ H λv H1=>HB K [v,tv] H1 Q:=by
 obtain⟨F,ρ,ri,w⟩:=h
 refine⟨F,ρ,ri,(aN.bind.mp w).imp λd _ w1 v H1 F1 e1 r1=> ?_⟩
 cases d with
 |exc x=>
  obtain⟨d',hd,k⟩:=w1.of
  cases ht:tb x with
  |none=>rw[ht]at hd;cases hd
  |some b=>
   rw[ht]at hd
   cases hd
   obtain⟨a,C,rfl,h1,h2⟩:=r1.exc e1.sub
   obtain⟨g1,C',g2,g3⟩:=T.ok x b (.ref C) ht ⟨C,rfl,h2⟩
   cases g2
   exact⟨a,C,tv,cv,b,rfl,h1,g3,hv,g1,k _ H1 F1 e1 (.bl b)⟩
 |_=>exact w1.elim
theorem HC {C2:JO} (T:pY X.K (.ref C2) tb) (hm:X.mg x=some (.ref C2)) (Wt:X.mg "isinstance"=none) (ha:PB ly X a fa) (WV:Gl X "isinstance":=by rfl) (hg:Gl X x:=by rfl) (T8:(x==("__debug__":JN))=false:=by decide)
  (he:JS [a, .Name x p2] X.env=(false,Kb a X.env)::JS [.Name x p2] X.env:=by rfl) (VV:JS [.Name x p2] X.env=(false,Kb (.Name x p2) X.env)::JS [] X.env:=by rfl) (Sm:(Ks pos (JS [.Name x p2] X.env)).any (·.1)=false:=by rfl):
  PQ ly X (.Call (.Name "isinstance" p) [a, .Name x p2] [] pos) (j5 tb fa):=λc=>
 PE.weak (nR vI WV Wt rf (df (ha c) (df (xT hg hm (v:= .ref C2) rfl T8) gG VV) he) (by decide) (by decide) he Sm) λσ H Q h=>BM T (.inr ⟨C2,rfl,rfl⟩) h
theorem FQ {Ty:String} (T:pY X.K (.type Ty) tb) (hv:KA x=some (.type Ty)) (hm:X.mg x=none) (Wt:X.mg "isinstance"=none) (ha:PB ly X a fa) (WV:Gl X "isinstance":=by rfl) (hg:Gl X x:=by rfl) (hn:x≠"__name__":=by decide) (T8:(x==("__debug__":JN))=false:=by decide)
  (he:JS [a, .Name x p2] X.env=(false,Kb a X.env)::JS [.Name x p2] X.env:=by rfl) (VV:JS [.Name x p2] X.env=(false,Kb (.Name x p2) X.env)::JS [] X.env:=by rfl) (Sm:(Ks pos (JS [.Name x p2] X.env)).any (·.1)=false:=by rfl):
  PQ ly X (.Call (.Name "isinstance" p) [a, .Name x p2] [] pos) (j5 tb fa):=λc=>
 PE.weak (nR vI WV Wt rf (df (ha c) (df (xU (v:= .ty Ty) hg hm hv rfl hn T8) gG VV) he) (by decide) (by decide) he Sm) λσ H Q h=>BM T (.inl ⟨Ty,rfl,rfl⟩) h
end
end L2.Pu
namespace L2.Pu
open PySem PySem.Spec PyProof.Rows
variable {ly:List fj}
def sj:D->Option Int
 | .tup (.int k::_)=>some k
 |_=>none
def gP (d:D):Int:=(sj d).getD 0
def eV:List D->Option (List Int)
 |[]=>some []
 |d::r=>(sj d).bind λk=>(eV r).map (k::·)
def xu (d:D):List D->List D
 |[]=>[d]
 |e::r=>if gP d<=gP e then d::e::r else e::xu d r
def mQ:List D->List D
 |[]=>[]
 |d::r=>xu d (mQ r)
theorem pe (d:D):∀l:List D,(xu d l).Perm (d::l)
 |[]=> .refl _
 |e::r=>by
  unfold xu
  split
  ·exact .refl _
  ·exact((pe d r).cons e).trans (.swap d e r)
theorem rD:∀l:List D,(mQ l).Perm l
 |[]=> .refl _
 |d::r=>(pe d _).trans ((rD r).cons d)
theorem pZ (d:D):∀{l:List D},l.Pairwise (λa b=>gP a<=gP b)->(xu d l).Pairwise (λa b=>gP a<=gP b)
 |[],_=>by simp[xu]
 |e::r,h=>by
  obtain⟨h1,h2⟩:=L6.mp h
  unfold xu
  split
  ·rename_i hd
   refine L6.mpr ⟨λx hx=> ?_,h⟩
   rcases K1.mp hx with rfl|hx
   ·exact hd
   ·exact LH hd (h1 x hx)
  ·rename_i hd
   refine L6.mpr ⟨λx hx=> ?_,pZ d h2⟩
   rcases K1.mp ((pe d r).mem_iff.mp hx)with rfl|hx
   ·omega
   ·exact h1 x hx
theorem oh:∀l:List D,(mQ l).Pairwise (λa b=>gP a<=gP b)
 |[]=> .nil
 |d::r=>pZ d (oh r)
theorem p_:∀{l m:List D},l.Perm m->l.Pairwise (λa b=>gP a<gP b)->m.Pairwise (λa b=>gP a<gP b)->l=m
 |[],m,p,_,_=>(Qs p)
 |a::l,[],p,_,_=>absurd p.length_eq (by simp)
 |a::l,b::m,p,h1,h2=>by
  obtain⟨g1,g2⟩:=L6.mp h1
  obtain⟨k1,k2⟩:=L6.mp h2
  have e:a=b:=by
   have ha:a∈b::m:=p.mem_iff.mp K6
   have hb:b∈a::l:=p.mem_iff.mpr K6
   rcases K1.mp ha with z|ha
   ·exact z
   ·rcases K1.mp hb with z|hb
    ·exact z.symm
    ·have:=g1 b hb
     have:=k1 a ha
     omega
  subst e
  rw[p_ (p.cons_inv) g2 k2]
theorem zV {l:List D} (h:l.Pairwise (λa b=>gP a<=gP b)) (nd:(l.map gP).Nodup):l.Pairwise (λa b=>gP a<gP b):=by
 have:=LX.mp nd
 exact(h.and this).imp λ{x y} ⟨a,b⟩=>by omega
theorem vJ {l m:List D} (p:l.Perm m) (h:m.Pairwise (λa b=>gP a<gP b)):mQ l=m:=by
 have q:=(rD l).trans p
 refine p_ q (zV (oh l) ?_) h
 refine(q.map gP).nodup_iff.mpr (LX.mpr (h.imp λz=>Int.ne_of_lt z))
theorem q0:∀{ds:List D} {ks:List Int},eV ds=some ks->ks=ds.map gP
 |[],ks,h=>by cases h;rfl
 |d::r,ks,h=>by
  replace h:((sj d).bind λk=>(eV r).map (k::·))=some ks:=h
  cases e:sj d with
  |none=>rw[e]at h;cases h
  |some k=>
   rw[e]at h
   cases e2:eV r with
   |none=>rw[e2]at h;cases h
   |some q=>
    rw[e2]at h
    cases h
    rw[J_,<-q0 e2]
    simp[gP,e]
theorem DD {K:JL} {H F:Hp} (s:b8 F H):∀{ds:List D} {ks:List Int} {vs:List V},eV ds=some ks->Reps K F vs ds->j_ H vs ks:=by
 intro ds
 induction ds with
 |nil=>intro ks vs h r;cases r.nilI;cases h;exact .nil
 |cons d r ih=>
  intro ks vs h rr
  replace h:((sj d).bind λk=>(eV r).map (k::·))=some ks:=h
  obtain⟨v0,us,rfl,rv,t⟩:=rr.consI
  obtain⟨k,ds,rfl⟩:∃k ds,d= .tup (.int k::ds):=by
   cases d with
   |tup xs=>
    cases xs with
    |nil=>cases h
    |cons x xs=>
     cases x with
     |int k=>exact⟨k,xs,rfl⟩
     |_=>cases h
   |_=>cases h
  obtain⟨a0,xs,rfl,h1,r2⟩:=rv.tupI
  obtain⟨k1,a2o,rfl,rk,t1⟩:=r2.consI
  cases rk.intI
  ·cases e2:eV r with
   |none=>rw[e2]at h;cases h
   |some q=>
    rw[e2]at h
    cases h
    exact .cons (s _ _ h1) (ih e2 t)
theorem t8 {K:JL} {F:Hp} {vs:List V} {ds:List D} (h:Reps K F vs ds):∀q:List Nat,(∀i∈q,i<ds.length)->Reps K F (q.map λi=>vs.getD i .non) (q.map λi=>ds.getD i .non)
 |[],_=> .nil
 |i::q,hq=>by
  have hi:=hq i K6
  obtain⟨v,h1,h2⟩:=h.get (i:=i) (d:=ds[i]) (Kx hi)
  refine .cons ?_ (t8 h q λj hj=>hq j (K8 _ hj))
  show dR K F (vs.getD i .non) (ds.getD i .non)
  rw[Lj,Lj,h1,Kx hi]
  exact h2
theorem vK {ds:List D} {q:List Nat} (p:rj (ds.map gP) q):(q.map λi=>ds.getD i .non)=mQ ds:=by
 obtain⟨p1,p2⟩:=p
 rw[JR]at p1
 have hm:∀i∈q,i<ds.length:=λi hi=>Lr.mp (p1.mem_iff.mp hi)
 have perm:(q.map λi=>ds.getD i .non).Perm ds:=by
  refine(p1.map λi=>ds.getD i .non).trans ?_
  have e:(Kw ds.length).map (λi=>ds.getD i .non)=ds:=by
   refine Qt (by simp) λi h1 h2=> ?_
   simp[h2]
  rw[e]
 symm
 refine vJ perm.symm ?_
 rw[LX]at p2 ⊢
 refine p2.imp_of_mem λ{a b} ha hb z=> ?_
 have ea:(ds.map gP).getD a 0=gP (ds.getD a .non):=by simp[hm a ha]
 have eb:(ds.map gP).getD b 0=gP (ds.getD b .non):=by simp[hm b hb]
 rw[ea,eb]at z
 exact z
def oi:List D->Option D
 |[.lst ds]=>(eV ds).bind λks=>if ks.Nodup/\ks.length<64 then some (.lst (mQ ds))else none
 |[.tup ds]=>(eV ds).bind λks=>if ks.Nodup/\ks.length<64 then some (.lst (mQ ds))else none
 |_=>none
def oj:List V->Hp->VK->Prop:=λxs H Q=>∃p ys ks,xs=[.ref p]/\(H p=some (.lst ys)\/H p=some (.tup ys))/\j_ H ys ks/\ks.Nodup/\ks.length<64/\∀l q,H l=none->rj ks q->Q (.ref l) (bY H l (.lst (q.map λi=>ys.getD i .non)))
theorem rE {K:JL} {H F:Hp} {p:JO} {ys:List V} {ds:List D} {d:D} {Q:VK} (s:b8 F H) (hp:H p=some (.lst ys)\/H p=some (.tup ys)) (r:Reps K F ys ds) (h:((eV ds).bind λks=>if ks.Nodup/\ks.length<64 then some (D.lst (mQ ds))else none)=some d)
  (k:∀w H' F',cc H F H' F'->dR K F' w d->Q w H'):oj [.ref p] H Q:=by
 cases e:eV ds with
 |none=>rw[e]at h;cases h
 |some ks=>
  rw[e]at h
  replace h:(if ks.Nodup/\ks.length<64 then some (D.lst (mQ ds))else none)=some d:=h
  split at h
  ·rename_i hk
   cases h
   refine⟨p,ys,ks,rfl,hp,DD s e r,hk.1,hk.2,λl q hl pl=> ?_⟩
   have ek:=q0 e
   subst ek
   have e2:=cc.lay (o:= .lst (q.map λi=>ys.getD i .non)) s hl
   refine k _ _ _ e2 (.lst aH ?_)
   rw[<-vK pl]
   refine(t8 r q λi hi=> ?_).mono e2.grow
   have:=Lr.mp (pl.1.mem_iff.mp hi)
   simpa using this
  ·cases h
theorem vL {K:JL}:my K oj oi:=by
 intro vs ds d H F Q s rv h k
 match ds,h with
 |[.lst xs],h=>
  obtain⟨v,rfl,r⟩:=rv.one
  obtain⟨a,ws,rfl,h1,h2⟩:=r.lst s
  exact rE s (.inl h1) h2 h k
 |[.tup xs],h=>
  obtain⟨v,rfl,r⟩:=rv.one
  obtain⟨a,ws,rfl,h1,h2⟩:=r.tup s
  exact rE s (.inr h1) h2 h k
def hV (ds:List D):Option D:=match iH ds with
 |some d=>some d
 |none=>oi ds
theorem kj {X:Cx} (hc:X.calm=true):dU X (.builtin "sorted") (λxs H Q=>o8 X.K xs H Q\/oj xs H Q):=(uu hc).or uc
theorem lA {K:JL}:my K (λxs H Q=>o8 K xs H Q\/oj xs H Q) hV:=by
 intro vs ds d H F Q s rv h k
 unfold hV at h
 cases e:iH ds with
 |some d'=>rw[e]at h;cases h;exact .inl (vF vs ds d H F Q s rv e k)
 |none=>rw[e]at h;exact .inr (vL vs ds d H F Q s rv h k)
def tN (K:JL) (c:dW ly) (f:ah->R D):TE:=λσ H Q=>∃F ρ,RI K c ρ σ H F/\aN c (f ρ) λd=>∀a o H' F',cc H F H' F'->H a=none->H' a=some o->F' a=none->jj K F' o d->Q (.ref a) H'
def PN (ly:List fj) (X:Cx) (e:JW) (f:ah->R D):Prop:=∀c:j4 ly X,PE X e (tN X.K c.1 f)
def Ej (K:JL) (r:R2) (g:D->D->Option D):Prop:=∀v u x y d H F Q,b8 F H->dg K H F v x->dg K H F u y->g x y=some d->(∀a o,H a=none->jj K F o d->Q (.ref a) (bY H a o))->r v u H Q
section
variable {X:Cx} {a b e:JW} {es:List JW} {fa fb f:ah->R D} {fs:ah->R (List D)} {pos p:KC} {x:JN} {id T:String} {rc:List V->Hp->VK->Prop}
theorem DE {K:JL} {H F H1 F1:Hp} {d:D} {Q:VK} (e1:cc H F H1 F1) (k:∀a o H' F',cc H F H' F'->H a=none->H' a=some o->F' a=none->jj K F' o d->Q (.ref a) H'):∀a o,H1 a=none->jj K F1 o d->Q (.ref a) (bY H1 a o):=
 λa o ha r=>k a o (bY H1 a o) F1 (e1.trans (cc.layOwn e1.sub ha)) (e1.keep.free ha) aH (e1.sub.free ha) r
theorem HD {op:Operator} {r:R2} {g:D->D->Option D} (ho:lX X (LD op) r) (Vo:Ej X.K r g) (ha:PB ly X a fa) (hb:PB ly X b fb):PN ly X (.BinOp a op b pos) (f2 g fa fb):=λc=>
 PE.weak (E1 ho (ha c) (hb c)) λσ H Q ⟨F,ρ,ri,w⟩=>⟨F,ρ,ri,(aN.bind.mp w).imp λx hx w1 v H1 F1 e1 r1=>⟨F1,ρ,ri.step e1,(aN.bind.mp w1).imp λy hy w2 u H2 F2 e2 r2=>by
  obtain⟨d,hd,k⟩:=w2.of
  exact Vo v u x y d H2 F2 Q (e1.trans e2).sub (r1.mono e2) r2 hd (DE (e1.trans e2) k)⟩⟩
def BO (i:Nat) (f:ah->R D):ah->R bn:=λρ=>f ρ>>=λd=> .ok (.nx (ρ.set i (some (.own d))))
theorem FR (i:Nat) {x:JN} {Rx:KC} (hN:X.N.Nodup) (h:PN ly X e f) (hi:X.N[i]? =some x:=by rfl) (hx:zg X.env.scope x:=by first|exact KG rfl|exact Kp rfl) (hs:KR e (some (.Name x Rx)) pos.line X.env=pure false:=by rfl)
  (hf:X.fn x=true\/X.env.scope.names.lookup x=some .local:=by first|exact .inl rfl|exact .inr rfl|assumption) (T9:kZ ly i:=by(repeat (first|assumption|exact L2.Pu.fD|refine L2.Pu.ef ⟨by first|decide|simp,by first|decide|simp⟩ ?_))):n5 ly X (.Assign [.Name x Rx] e pos) (BO i f):=λc=>
 PS.weak (mZ hN hi hx (h c) hs hf) λD σ H ⟨F,ρ,ri,w⟩=>⟨F,ρ,ri,(aN.bind.mp w).imp λd _ w1 a o H1 F1 e1 n1 h1 f1 r1=>by
  refine w1 _ H1 F1 e1.grow ((ri.step e1).setOwn i T9 h1 f1 (ri.ext.keep.free n1) r1 (λj d' _ hj ej=> ?_) (ri.celNe e1.keep n1))
  obtain⟨b,o',k1,k2,_⟩:=ri.own j d' hj
  rw[ej]at k1
  cases k1
  rw[n1]at k2
  cases k2⟩
end
section
variable {K:JL}
def vM:D->D->Option D
 | .lst a, .int k=>if k.natAbs<=lim/\a.length*k.toNat<=lim then some (.lst (Ki k.toNat a).flatten)else none
 |_,_=>none
theorem BP:Ej K Br vM:=by
 intro v u x y d H F Q s rx ry h k
 unfold vM at h
 split at h
 ·rename_i a j
  split at h
  ·rename_i hl
   cases h
   cases ry.int
   obtain⟨p,vs,rfl,h1,h2⟩:=rx.lst s
   refine .inr ⟨p,j,vs,rfl,rfl,h1,by have:=lY hl.1;omega,by have:=lY hl.1;omega,Ky (by rw[h2.length];exact hl.2) gH,λl Vf=> ?_⟩
   exact k _ _ Vf (.lst (h2.rep _))
  ·cases h
 ·cases h
end
end L2.Pu
namespace L2.Pu
open PySem PySem.Spec PyProof.Rows
variable {ly:List fj}
structure dI (K:JL) (cls m qual:JN) (st:Ke) (ps:List JN):Prop where
 ex:∃C f fd,yg K m qual st f fd/\ja K cls C/\wI K C m f/\gk K fd ps []
structure pf (K:JL) (mg:JN->Option JM) (cls qual:JN) (st:Ke) (ps:List JN) (fs:List JN):Prop where
 ex:∃C f fd,yg K "__init__" qual st f fd/\ja K cls C/\mg cls=some (.ref C)/\Mk K C f/\gk K fd ps []/\∀x∈fs,eu K C x
structure cC (K:JL) (cls:JN) (fs:List JN):Prop where
 ex:∃C,ja K cls C/\∀x∈fs,eu K C x
section
variable {P:K3} {w:Kd} {K:JL} {mg:JN->Option JM} {base:Ka}
theorem eW {cls mm qual:JN} {st:Ke} {N ps:List JN} {k n m:Nat} {g:ah->R bn} (A:dI K cls mm qual st ps) (S:aE N ps (ak st)) (hn:ps.length=n) (hm:N.length=m)
  (RE:∀(f:JO) (Rj:JM) (A:Kl) (outer:List Ly) (s:JP) (H:Hp) (E:XK),d7 k (A.deeper (LG qual (ak st) s.heap.objs.size f Rj))->
   jk [] (j3 (lh P w) P w K mg base N qual (ak st) f Rj A outer s H E) (bO st) g):bW P w K mg base (k+1) cls mm n (bj n m g):=by
 obtain⟨C,f,fd,F,h1,h2,h3⟩:=A.ex
 exact⟨C,f,fd,ps,Fw F S hn hm λRj A outer s H E hr=>RE f Rj A outer s H E hr,h1,h2,h3⟩
theorem t9 {cls qual:JN} {st:Ke} {N ps fs:List JN} {k n m:Nat} {fl:List (JN×Nat)} {g:ah->R bn} (A:pf K mg cls qual st ps fs) (S:aE N ps (ak st)) (hn:ps.length=n+1) (hm:N.length=m+1) (hg:∀p∈fl,n<p.2) (Wb:n<=m)
  (RE:∀(C f:JO) (Rj:JM) (A:Kl) (outer:List Ly) (s:JP) (H:Hp) (E:XK),v6 K C->(∀x∈fs,eu K C x)->d7 k (A.deeper (LG qual (ak st) s.heap.objs.size f Rj))->
   jk [⟨0,C,fl⟩] (j3 (lh P w) P w K mg base N qual (ak st) f Rj A outer s H E) (bO st) g):gO P w K mg base (k+1) cls n (m8 n m fl g):=by
 obtain⟨C,f,fd,F,h1,h2,h3,h4,h5⟩:=A.ex
 exact⟨C,f,fd,ps,DC F S h1.ns hn hm hg Wb λRj A outer s H E hr=>RE C f Rj A outer s H E h1.cl h5 hr,h2,h3,h4⟩
theorem iI {C:JO} {fl:List (JN×Nat)} {f:JN} {i:Nat} (h1:(f,i)∈fl) (h2:∀p∈fl,p.1=f<->p.2=i) (h3:0≠i) (h4:fl.length<1000):BH [⟨0,C,fl⟩] ⟨0,C,fl⟩ f i:=
 ⟨K6,h1,h2,h3,λM hM TC=>absurd (K7.mp hM) TC,h4⟩
theorem DF {C:JO} (e1:L3 K C vm "ValueError.__new__"=true) (e2:K4 K (.ref C) "__getattribute__"=some (some (.builtin "BaseException.__getattribute__"))) (e3:K4 K (.ref C) "__getattr__"=some none)
  (e4:K4 K (.ref C) "__class__"=some (some (.builtin "object.__class__"))) (e5:Kz K C (.type "object")=some true) (e6:Kz K C (.type "BaseException")=some true) (e7:Mn K (.ref C) (.ref C)=some true)
  (e8:Mh K (.builtin "object.__class__") "__get__"=some (some (.builtin "getset_descriptor.__get__"))) (e9:MI K (.builtin "object.__class__")=some true):ue K C:=
 ⟨⟨_,_,_,_,e1,F.excBase_ValueError,by decide⟩,e2,e3,e4,e8,e9,e5,e6,e7⟩
theorem xv {D:JO} {W9:List JM} {WY:String} (e:L3 K D W9 WY=true):((QV K D).isSome&&O_ K (.ref D)==some (.type "type"))=true:=by
 unfold L3 at e
 split at e
 ·rename_i lk
  unfold QV O_
  simp only[lk]
  rfl
 ·cases e
theorem ph {C D:JO} {b:Bool} {W9:List JM} {WY:String} (e:L3 K D W9 WY=true) (m:Kz K C (.ref D)=some b):Mn K (.ref C) (.ref D)=some b:=by
 unfold Mn
 dsimp only
 rw[if_pos (xv e)]
 exact m
theorem zW {C D:JO} {b:Bool} {W9:List JM} {WY:String} (e:L3 K D W9 WY=true) (m:Kz K C (.ref D)=some b) (s:Kz K C (.ref C)=some true):L0 K (.ref C) (.ref D)=some b:=by
 unfold L0
 split
 ·rename_i h
  have ez:Kk C=Kk D:=eq_of_beq h
  cases ez
  exact s.symm.trans m
 ·exact ph e m
theorem qp:QI "ValueError"=true:=by unfold QI;decide+kernel
theorem zX {C:JO} {b:Bool} (m:Kz K C (.type "ValueError")=some b):L0 K (.ref C) (.type "ValueError")=some b:=by
 unfold L0
 rw[if_neg (by intro h;exact absurd (eq_of_beq h) (λz=>by cases z))]
 unfold Mn
 dsimp only
 rw[if_pos qp]
 exact m
theorem zY {C D:JO} {b:Bool} {W9:List JM} {WY:String} (e:L3 K D W9 WY=true) (m:Kz K C (.ref D)=some b) (mb:Kz K D (.type "BaseException")=some true):Mp K (.ref C) (.ref D)=some b:=by
 unfold Mp
 rw[if_pos (by show (Kz K D (.type "BaseException")==some true)=true;rw[mb];rfl)]
 exact ph e m
def zZ (xs:List JN) (x:JN):Bool:=xs.contains x
theorem BQ {cx:JN} {C:JO} {xs:List JN} (hm:mg cx=some (.ref C)) (h:∀x∈xs,∃Ce,K0 K JX x=some (some (.ref Ce))/\Mp K (.ref Ce) (.ref C)=some true):vH K mg cx (zZ xs):=by
 refine⟨C,hm,λx cls hx ⟨C',e,hc⟩=> ?_⟩
 obtain⟨Ce,h1,h2⟩:=h x (by simpa[zZ]using hx)
 rw[hc]at h1
 cases h1
 rw[e]
 exact h2
def A1 (l:List (JN×Bool)) (x:JN):Option Bool:=l.lookup x
theorem tf {α:Type} {x:JN} {b:α}:∀{l:List (JN×α)},l.lookup x=some b->(x,b)∈l
 |(k,v)::r,h=>by
  rw[L8]at h
  cases e:x==k with
  |true=>rw[e]at h;cases h;cases eq_of_beq e;exact K6
  |false=>rw[e]at h;exact K8 _ (tf h)
theorem vN {v:JM} {l:List (JN×Bool)} (h:∀p∈l,∃Ce,K0 K JX p.1=some (some (.ref Ce))/\L0 K (.ref Ce) v=some p.2/\ue K Ce):pY K v (A1 l):=by
 refine⟨λx b cls hb ⟨C',e,hc⟩=> ?_⟩
 obtain⟨Ce,h1,h2,h3⟩:=h _ (tf hb)
 rw[hc]at h1
 cases h1
 subst e
 exact⟨h2,C',rfl,h3⟩
structure eC (K:JL) (mg:JN->Option JM) (x:JN) (tb:JN->Option Bool):Prop where
 ex:∃C,mg x=some (.ref C)/\pY K (.ref C) tb
end
section
variable {X:Cx} {a e o:JW} {es:List JW} {fa f fo:ah->R D} {fs:ah->R (List D)} {cls fld x m:JN} {p p2 pos Rp:KC} {xs:List JN} {tb:JN->Option Bool}
theorem bq (T:cC X.K cls xs) (hf:fld∈xs) (ha:PB ly X a fa) (hb:KI a fld X.env (Kb a X.env)=Kb a X.env:=by rfl):PQ ly X (.Attribute a fld pos) (cA cls fld fa):=by
 obtain⟨C,h1,h2⟩:=T.ex
 exact Hw h1 (h2 fld hf) ha hb
theorem eI (T:eC X.K X.mg x tb) (Wt:X.mg "isinstance"=none) (ha:PB ly X a fa) (WV:Gl X "isinstance":=by rfl) (hg:Gl X x:=by rfl) (T8:(x==("__debug__":JN))=false:=by decide)
  (he:JS [a, .Name x p2] X.env=(false,Kb a X.env)::JS [.Name x p2] X.env:=by rfl) (VV:JS [.Name x p2] X.env=(false,Kb (.Name x p2) X.env)::JS [] X.env:=by rfl) (Sm:(Ks pos (JS [.Name x p2] X.env)).any (·.1)=false:=by rfl):
  PQ ly X (.Call (.Name "isinstance" p) [a, .Name x p2] [] pos) (j5 tb fa):=by
 obtain⟨C,h1,h2⟩:=T.ex
 exact HC h2 h1 Wt ha WV hg T8 he VV Sm
def hW (f:ah->R D):ah->R bn:=λρ=>f ρ>>=λ_=> .ok (.nx ρ)
theorem kl (h:PQ ly X e f) (U_:KR e none pos.line X.env=pure false:=by rfl):n5 ly X (.Expr e pos) (hW f):=λc=>
 PS.weak (nO (h c) U_) λD σ H ⟨F,ρ,ri,w⟩=>⟨F,ρ,ri,(aN.bind.mp w).imp λd _ w1 v H1 F1 e1 r1=>w1 σ H1 F1 e1.grow (ri.step e1)⟩
end
theorem FT {P:K3} {w:Kd} {outer:List Ly} {H:Hp} {s s':JP} {e:JM} (h:lh P w outer H s (λ_ _ _=>False) e s'):False:=by
 obtain⟨_,_,_,_,_,_,_,_,_,z⟩:=h
 exact z
theorem qq:KA "ValueError"=some (.type "ValueError"):=by decide+kernel
end L2.Pu
namespace L2.Pu
open PySem PySem.Spec PyProof.Rows
variable {ly:List fj}
theorem RI.up {K:JL} {c:dW ly} {ρ:ah} {σ:St} {H F H':Hp} (r:RI K c ρ σ H F) (e:b8 H H'):RI K c ρ σ H' F:=r.step ⟨r.sub.trans e,e,b8.refl _,λ_ h=> .inl h⟩
def ng:D->Bool
 | .non=>true
 | .bl _=>true
 | .int _=>true
 | .str _=>true
 |_=>false
theorem vO {K:JL} {F F':Hp} {v:V} {d:D} (h:ng d=true) (r:dR K F v d):dR K F' v d:=by
 cases r with
 |non=>exact .non
 |bl b=>exact .bl b
 |int i=>exact .int i
 |str x=>exact .str x
 |_=>cases h
theorem A2 {K:JL} {F F':Hp} {vs:List V} {ds:List D} (h:ds.all ng=true) (g:Reps K F vs ds):Reps K F' vs ds:=by
 induction ds generalizing vs with
 |nil=>rw[g.nilI];exact .nil
 |cons d ds ih=>
  obtain⟨w,us,e0,r,t⟩:=g.consI
  rw[Lq,L7]at h
  rw[e0]
  exact .cons (vO h.1 r) (ih h.2 t)
section
variable {X:Cx} {e:JW} {es:List JW} {f:ah->R D} {g:ah->R Bool} {pos:KC}
def yy (L:List Nat) (f:ah->R D):ah->R D:=λρ=>f (frz L ρ)>>=λd=>if ng d=true then .ok d else .bad
theorem vP {H F H':Hp} (s:b8 F H) (e:b8 H H'):cc H F H' F:=⟨s.trans e,e,b8.refl _,λ_ h=> .inl h⟩
theorem FU (L:List Nat) (h:PQ ly X e f):PQ ly X e (yy L f):=λc=>PE.weak (h c) λσ H Q ⟨F,ρ,ri,w⟩=>by
 obtain⟨F',s,Sq⟩:=ri.frz L
 refine⟨F',_,Sq,(aN.bind.mp w).imp λd _ w1 v H1 F1 e1 r1=> ?_⟩
 split at w1
 ·rename_i hd
  exact w1 v H1 F (vP ri.sub e1.keep) (vO hd r1)
 ·exact w1.elim
def BR (L:List Nat) (f:ah->R D) (n:Nat) (gs:List D->ah->R ah):ah->R bn:=λρ=>f (frz L ρ)>>=λd=>match d with
 | .lst ds=>if ds.length=n/\ds.all ng=true then (gs ds ρ>>=λρ'=> .ok (.nx ρ'))else .bad
 | .tup ds=>if ds.length=n/\ds.all ng=true then (gs ds ρ>>=λρ'=> .ok (.nx ρ'))else .bad
 |_=> .bad
theorem FV (L:List Nat) {k n:Nat} {pt:KC} {gs:List D->ah->R ah} (hc:X.calm=true) (he:PQ ly X e f) (h:Bf ly X es gs) (hn:(KW es X.env).length=n:=by rfl) (U5:(KW es X.env).findIdx? (·.1)=none:=by rfl)
  (hs:NK [.Tuple es k pt] e pos.line X.env=pure false:=by rfl) (hw:NL [.Tuple es k pt] e X.env=pure none:=by rfl)
  (h1:(KW [.Tuple es k pt] X.env).map (·.2)=[Mx (.Tuple es k pt) X.env]:=by rfl):n5 ly X (.Assign [.Tuple es k pt] e pos) (BR L f n gs):=λc=>
 PS.weak (wC (he c) (PG.or (AG hc (h c) hn U5) (B3 hc (h c) hn U5)) hs hw h1) λD σ H ⟨F,ρ,ri,w⟩=>by
  obtain⟨F',s,Sq⟩:=ri.frz L
  refine⟨F',_,Sq,(aN.bind.mp w).imp λd _ w1 v H1 F1 e1 r1=> ?_⟩
  have Ro:∀{ds:List L2.Pu.D} {vs:List V},Reps X.K F1 vs ds->aN c.1 (if ds.length=n/\ds.all ng=true then (gs ds ρ>>=λρ'=>R.ok (bn.nx ρ'))else .bad) (hG X.K c.1 F D)->
    vs.length=n/\Jb X.K c.1 gs vs σ H1 (λσ' H'=>D.nx σ' H'):=by
   intro ds vs r2 w2
   split at w2
   ·rename_i hl
    refine⟨by rw[r2.length];exact hl.1,F,ρ,ds,ri.up e1.keep,A2 hl.2 r2,(aN.bind.mp w2).imp λρ' _ w3 σ' H' F2 s2 r'=>w3 σ' H' F2 s2 r'⟩
   ·exact w2.elim
  cases r1 with
  | @tup a vs ds g1 g2=>
   obtain⟨k1,k2⟩:=Ro g2 w1
   exact .inl ⟨a,vs,rfl,iE.of (e1.sub _ _ g1),k1,k2⟩
  | @lst a vs ds g1 g2=>
   obtain⟨k1,k2⟩:=Ro g2 w1
   exact .inr ⟨a,vs,rfl,dS.of (e1.sub _ _ g1),k1,k2⟩
  |_=>exact w1.elim
end
section
variable {X:Cx} {e:JW} {f:ah->R D} {pos:KC}
end
end L2.Pu
namespace L2
open PySem PySem.Spec PyProof.Rows
section
variable {X:Cx} {tg:JW}
end
end L2
namespace L2.Pu
open PySem PySem.Spec PyProof.Rows
variable {ly:List fj}
section
variable {X:Cx} {a b d:JW} {fs:ah->R (List D)} {pos:KC}
end
end L2.Pu
namespace L2
open PySem PySem.Spec PyProof.Rows
end L2
namespace L2.Pu
open PySem PySem.Spec PyProof.Rows
variable {ly:List fj}
end L2.Pu
namespace L2.Pu
section
variable {α:Type} {P:List α->Prop}
theorem Jg (h:P []):∀us:List α,us.length=0->P us:=λus e=>by
 rw[M_.mp e];exact h
theorem HE {n:Nat} (h:∀a us,us.length=n->P (a::us)):∀us:List α,us.length=n+1->P us:=λus e=>by
 cases us with
 |nil=>cases e
 |cons a us=>exact h a us (Nat.succ.inj e)
theorem Jh (h:∀a,P [a]):∀us:List α,us.length=1->P us:=HE λa=>Jg (P:=λus=>P (a::us)) (h a)
theorem Ji (h:∀a b,P [a,b]):∀us:List α,us.length=2->P us:=HE λa=>Jh (P:=λus=>P (a::us)) (h a)
theorem Jj (h:∀a b c,P [a,b,c]):∀us:List α,us.length=3->P us:=HE λa=>Ji (P:=λus=>P (a::us)) (h a)
theorem Jk (h:∀a b c d,P [a,b,c,d]):∀us:List α,us.length=4->P us:=HE λa=>Jj (P:=λus=>P (a::us)) (h a)
theorem JF (h:∀a b c d e,P [a,b,c,d,e]):∀us:List α,us.length=5->P us:=HE λa=>Jk (P:=λus=>P (a::us)) (h a)
end
end L2.Pu
namespace L2
open PySem PySem.Spec PyProof.Rows
end L2
namespace L2.Pu
open PySem PySem.Spec PyProof.Rows
variable {ly:List fj}
end L2.Pu
namespace L2.Pu
open PySem PySem.Spec PyProof.Rows
variable {ly:List fj}
def Slot.kind:Slot->Nat
 | .own _=>1
 | .cel .. =>2
 |_=>0
def eX (ρ:ah):List Nat->Option (List Slot)
 |[]=>some []
 |i::r=>match ρ[i]? with
  |some (some s)=>(eX ρ r).map λt=>s::t
  |_=>none
def uw (ρ:ah):List Nat->List Slot->ah
 |i::is,s::ss=>uw (ρ.set i (some s)) is ss
 |_,_=>ρ
theorem vQ:∀(is:List Nat) (ss:List Slot) (ρ:ah),(uw ρ is ss).length=ρ.length
 |[],ss,ρ=>by cases ss<;>rfl
 |i::is,[],ρ=>rfl
 |i::is,s::ss,ρ=>by
  show (uw (ρ.set i (some s)) is ss).length=_
  rw[vQ is ss];simp
theorem vR:∀{is:List Nat} {ss:List Slot} {ρ:ah} {j:Nat} {s:Slot},is.Nodup->ss.length=is.length->(uw ρ is ss)[j]? =some (some s)->(∃k:Nat,is[k]? =some j/\ss[k]? =some s)\/(j∉is/\ρ[j]? =some (some s))
 |[],ss,ρ,j,s,_,_,h=>by
  refine .inr ⟨by simp,?_⟩
  cases ss<;>exact h
 |i::is,[],ρ,j,s,_,hl,h=>by simp at hl
 |i::is,t::ss,ρ,j,s,nd,hl,h=>by
  obtain⟨n1,n2⟩:=Mb.mp nd
  rcases vR (ρ:=ρ.set i (some t)) n2 (by simpa using hl) h with ⟨k,h1,h2⟩|⟨h1,h2⟩
  ·exact .inl ⟨k+1,h1,h2⟩
  ·rcases aA h2 with ⟨rfl,z,_⟩|⟨z,h2⟩
   ·cases z;exact .inl ⟨0,rfl,rfl⟩
   ·exact .inr ⟨λm=>(K1.mp m).elim (λq=>z q.symm) h1,h2⟩
inductive At (ρ:ah) (σ:St):List Nat->List Slot->List JO->Prop
 |nil:At ρ σ [] [] []
 |cons {i:Nat} {s:Slot} {a:JO} {is:List Nat} {ss:List Slot} {as:List JO}:ρ[i]? =some (some s)->s.kind≠0->σ[i]? =some (some (.ref a))->At ρ σ is ss as->At ρ σ (i::is) (s::ss) (a::as)
theorem At.idx {ρ:ah} {σ:St} {is:List Nat} {ss:List Slot} {as:List JO} (h:At ρ σ is ss as):∀{k i:Nat},is[k]? =some i->∃s a,ss[k]? =some s/\as[k]? =some a/\ρ[i]? =some (some s)/\s.kind≠0/\σ[i]? =some (some (.ref a)):=by
 induction h with
 |nil=>intro k i e;simp at e
 |cons h1 h2 h3 _ ih=>
  intro k i e
  cases k with
  |zero=>cases e;exact⟨_,_,rfl,rfl,h1,h2,h3⟩
  |succ k=>exact ih e
theorem At.lens {ρ:ah} {σ:St} {is:List Nat} {ss:List Slot} {as:List JO} (h:At ρ σ is ss as):ss.length=is.length/\as.length=is.length:=by
 induction h with
 |nil=>exact⟨rfl,rfl⟩
 |cons _ _ _ _ ih=>exact⟨by simp[ih.1],by simp[ih.2]⟩
theorem At.get {ρ:ah} {σ:St} {is:List Nat} {ss:List Slot} {as:List JO} (h:At ρ σ is ss as) {k:Nat} {s:Slot} (e:ss[k]? =some s):∃i a,is[k]? =some i/\as[k]? =some a/\ρ[i]? =some (some s)/\s.kind≠0/\σ[i]? =some (some (.ref a)):=by
 have hk:k<is.length:=by rw[<-h.lens.1];exact(K9.mp e).1
 obtain⟨s',a,h1,h2,h3⟩:=h.idx (k:=k) (i:=is[k]) (by simp[hk])
 rw[e]at h1
 cases h1
 exact⟨is[k],a,by simp[hk],h2,h3⟩
def gj (H:Hp) (ρ:ah) (σ:St) (i:Nat) (z:JO):Prop:=
 (∃d,ρ[i]? =some (some (.own d))/\σ[i]? =some (some (.ref z)))\/∃x Ri f hs a C dx fs,ρ[i]? =some (some (.cel x Ri f hs))/\σ[i]? =some (some (.ref a))/\H a=some (.ins C dx fs)/\(z=a\/z=dx\/fs.lookup f=some (.ref z))
open Classical in
noncomputable def km (H:Hp) (ρ:ah) (σ:St) (is:List Nat):Hp:=λz=>if ∃i∈is,gj H ρ σ i z then none else H z
theorem lB {H:Hp} {ρ:ah} {σ:St} {is:List Nat} {z:JO} {i:Nat} (hi:i∈is) (h:gj H ρ σ i z):km H ρ σ is z=none:=if_pos ⟨i,hi,h⟩
theorem DG {H:Hp} {ρ:ah} {σ:St} {is:List Nat} {z:JO} (h:∀i∈is,¬gj H ρ σ i z):km H ρ σ is z=H z:=if_neg λ⟨i,hi,o⟩=>h i hi o
theorem tj {H:Hp} {ρ:ah} {σ:St} {is:List Nat} {z:JO} {u:HO} (h:km H ρ σ is z=some u):H z=some u:=by
 unfold km at h
 split at h
 ·cases h
 ·exact h
section
variable {K:JL} {c:dW ly} {ρ:ah} {σ:St} {H F:Hp} {i j:Nat} {z:JO}
theorem RI.celIn (r:RI K c ρ σ H F) {x:JN} {Ri:List (JN×D)} {f:JN} {hs:List D} {a:JO} {C dx:JO} {fs:List (JN×V)} (h1:ρ[i]? =some (some (.cel x Ri f hs))) (h2:σ[i]? =some (some (.ref a))) (h3:H a=some (.ins C dx fs)):
  ∃b,li K c.H0 H F a dx b x Ri f hs/\fs.lookup f=some (.ref b)/\∀(j:Nat) d,ρ[j]? =some (some (.own d))->σ[j]? ≠some (some (.ref b)):=by
 obtain⟨a',Ww,b,k1,k2,k3⟩:=r.cel.ex i x Ri f hs h1
 rw[h2]at k1
 cases k1
 obtain⟨C',UB,vs,us,g1,g2,g3,g4⟩:=k2.ex
 rw[h3]at g1
 cases g1
 exact⟨b,k2,g3,k3⟩
theorem RI.owns (r:RI K c ρ σ H F) (o:gj H ρ σ i z):c.H0 z=none/\F z=none/\∃u,H z=some u:=by
 rcases o with ⟨d,h1,h2⟩|⟨x,Ri,f,hs,a,C,dx,fs,h1,h2,h3,h4⟩
 ·obtain⟨p,u,k1,k2,k3,k4,_⟩:=r.own i d h1
  rw[h2]at k1
  cases k1
  exact⟨k4,k3,u,k2⟩
 ·obtain⟨b,k1,k2,_⟩:=r.celIn h1 h2 h3
  rcases h4 with rfl|rfl|h4
  ·exact⟨k1.za,k1.fa,_,h3⟩
  ·exact⟨k1.zd,k1.fd,_,k1.own⟩
  ·rw[k2]at h4
   cases h4
   obtain⟨C',UB,vs,us,g1,g2,g3,g4,_⟩:=k1.ex
   exact⟨k1.zb,k1.fb,_,g4⟩
theorem RI.owns_inj (r:RI K c ρ σ H F) (o:gj H ρ σ i z) (o':gj H ρ σ j z):i=j:=by
 have oc:∀{i j:Nat},(∃d,ρ[i]? =some (some (.own d))/\σ[i]? =some (some (.ref z)))->(∃x Ri f hs a C dx fs,ρ[j]? =some (some (.cel x Ri f hs))/\σ[j]? =some (some (.ref a))/\H a=some (.ins C dx fs)/\(z=a\/z=dx\/fs.lookup f=some (.ref z)))->False:=by
  rintro i j ⟨d,h1,h2⟩ ⟨x,Ri,f,hs,a,C,dx,fs,k1,k2,k3,k4⟩
  obtain⟨p,u,g1,g2,g3,g4,g5⟩:=r.own i d h1
  rw[h2]at g1
  cases g1
  obtain⟨b,m1,m2,m3⟩:=r.celIn k1 k2 k3
  rcases k4 with rfl|rfl|k4
  ·rw[k3]at g2;cases g2;cases g5
  ·rw[m1.own]at g2;cases g2;cases g5
  ·rw[m2]at k4;cases k4;exact m3 i d h1 h2
 rcases o with h|h
 ·rcases o' with k|k
  ·obtain⟨d,h1,h2⟩:=h
   obtain⟨d',k1,k2⟩:=k
   exact r.dis i j d d' z h1 k1 h2 k2
  ·exact(oc h k).elim
 ·rcases o' with k|k
  ·exact(oc k h).elim
  ·obtain⟨x,Ri,f,hs,a,C,dx,fs,h1,_⟩:=h
   obtain⟨x',VL,f',Ru,a',C',Ww,UB,k1,_⟩:=k
   exact r.cel.one i j x Ri f hs _ h1 k1 rfl
end
abbrev MC (Hz F:Hp):dW []:=⟨Hz,F,λ_=>none,λ_ _=>False,λ_=>none,λ_=>none⟩
def DH (K:JL) (Hz F:Hp) (ss:List Slot) (as:List JO) (H' F':Hp):Prop:=RI K (MC Hz F) (ss.map some) (as.map λa=>some (.ref a)) H' F'
theorem map_some {α β:Type} {l:List α} {g:α->β} {k:Nat} {b:β} (h:(l.map g)[k]? =some b):∃a,l[k]? =some a/\g a=b:=by
 rw[Km]at h
 cases e:l[k]? with
 |none=>rw[e]at h;cases h
 |some a=>rw[e]at h;exact⟨a,rfl,by simpa using h⟩
theorem m9 {α β:Type} {l:List α} {g:α->β} {k:Nat} {a:α} (h:l[k]? =some a):(l.map g)[k]? =some (g a):=by rw[Km,h];rfl
theorem BS {is:List Nat} (nd:is.Nodup) {k k' i:Nat} (h:is[k]? =some i) (h':is[k']? =some i):k=k':=by
 obtain⟨l,e⟩:=K9.mp h
 obtain⟨l',e'⟩:=K9.mp h'
 exact(O8 nd).mp (e.trans e'.symm)
section
variable {K:JL} {c:dW ly} {ρ:ah} {σ:St} {H F H' F':Hp} {is:List Nat} {ss ss':List Slot} {as:List JO}
theorem RI.split (r:RI K c ρ σ H F) (A:At ρ σ is ss as) (nd:is.Nodup):DH K (km H ρ σ is) F ss as H F:=by
 have got:∀{k:Nat} {s:Slot},(ss.map some)[k]? =some (some s)->∃i a,is[k]? =some i/\as[k]? =some a/\ρ[i]? =some (some s)/\s.kind≠0/\σ[i]? =some (some (.ref a)):=λ{k s} h=>by
  obtain⟨s',h1,h2⟩:=map_some h
  cases h2
  exact A.get h1
 have UL:∀{k:Nat} {a:JO},as[k]? =some a->(as.map λa=>some (V.ref a))[k]? =some (some (.ref a)):=λh=>m9 h
 have Zq:∀{k:Nat} {a a':JO},as[k]? =some a->(as.map λa=>some (V.ref a))[k]? =some (some (.ref a'))->a=a':=λ{k a a'} h h'=>by
  rw[UL h]at h';cases h';rfl
 refine⟨⟨r.sub,λz u e=>tj e,b8.refl _,λ_ h=> .inl h⟩,λk d h=> ?_,λk d h=> ?_,λk d h=> ?_,(λ_ _ e=>by cases e),λk k' d d' a h h' e e'=> ?_,?_,(λL h=>by cases h),(λL h=>by cases h),(λ_ _ e=>by cases e),⟨λk x Ri f hs h=> ?_,λk k' x Ri f hs s h h' Ru=> ?_⟩,(λL h=>by cases h)⟩
 ·obtain⟨i,a,_,_,_,z,_⟩:=got h;exact absurd rfl z
 ·obtain⟨i,a,h1,h2,h3,h4,h5⟩:=got h
  obtain⟨p,u,k1,k2,k3,k4,k5⟩:=r.own i d h3
  rw[h5]at k1
  cases k1
  exact⟨a,u,UL h2,k2,k3,lB (Ls h1) (.inl ⟨d,h3,h5⟩),k5⟩
 ·obtain⟨i,a,_,_,_,z,_⟩:=got h;exact absurd rfl z
 ·obtain⟨i1,a1,h1,h2,h3,h4,h5⟩:=got h
  obtain⟨i2,a2,g1,g2,g3,g4,g5⟩:=got h'
  cases Zq h2 e
  cases Zq g2 e'
  cases r.dis i1 i2 d d' _ h3 g3 h5 g5
  exact BS nd h1 g1
 ·simp only[JR];rw[A.lens.1,A.lens.2]
 ·obtain⟨i,a,h1,h2,h3,h4,h5⟩:=got h
  obtain⟨a',dx,b,k1,k2,k3⟩:=r.cel.ex i x Ri f hs h3
  rw[h5]at k1
  cases k1
  have Y3:=k2
  obtain⟨C,fs,vs,us,g1,g2,g3,g4⟩:=k2.ex
  have o:∀z,(z=a\/z=dx\/fs.lookup f=some (.ref z))->km H ρ σ is z=none:=λz hz=>lB (Ls h1) (.inr ⟨x,Ri,f,hs,a,C,dx,fs,h3,h5,g1,hz⟩)
  refine⟨a,dx,b,UL h2,⟨k2.ex,k2.own,k2.fa,k2.fd,k2.fb,o a (.inl rfl),o dx (.inr (.inl rfl)),o b (.inr (.inr g3))⟩,λk' d h' e=> ?_⟩
  obtain⟨i2,a2,m1,m2,m3,m4,m5⟩:=got h'
  cases Zq m2 e
  exact k3 i2 d m3 m5
 ·obtain⟨i1,a1,h1,h2,h3,h4,h5⟩:=got h
  obtain⟨i2,a2,g1,g2,g3,g4,g5⟩:=got h'
  cases r.cel.one i1 i2 x Ri f hs s h3 g3 Ru
  exact BS nd h1 g1
theorem BU {s:Slot} (h:s.kind=2):∃x Ri f hs,s= .cel x Ri f hs:=by cases s<;>first|exact⟨_,_,_,_,rfl⟩|cases h
theorem RI.join (r:RI K c ρ σ H F) (A:At ρ σ is ss as) (nd:is.Nodup) (m:DH K (km H ρ σ is) F ss' as H' F') (hk:ss'.map Slot.kind=ss.map Slot.kind):RI K c (uw ρ is ss') σ H' F':=by
 have hl:ss'.length=is.length:=by rw[<-A.lens.1,<-JR (f:=Slot.kind),hk,JR]
 have T7:∀{k:Nat} {s:Slot},ss'[k]? =some s->∃s0 i a,is[k]? =some i/\as[k]? =some a/\ρ[i]? =some (some s0)/\s0.kind=s.kind/\s.kind≠0/\σ[i]? =some (some (.ref a)):=λ{k s} h=>by
  have h1:(ss.map Slot.kind)[k]? =some s.kind:=by rw[<-hk];exact m9 h
  obtain⟨s0,g1,g2⟩:=map_some h1
  obtain⟨i,a,k1,k2,k3,k4,k5⟩:=A.get g1
  exact⟨s0,i,a,k1,k2,k3,g2,by rw[<-g2];exact k4,k5⟩
 have ms:∀{k:Nat} {s:Slot},ss'[k]? =some s->(ss'.map some)[k]? =some (some s):=λh=>m9 h
 have UL:∀{k:Nat} {a:JO},as[k]? =some a->(as.map λa=>some (V.ref a))[k]? =some (some (.ref a)):=λh=>m9 h
 have hz:∀{z:JO},km H ρ σ is z=none->c.H0 z=none:=λ{z} e=>by
  unfold km at e
  split at e
  ·rename_i h
   obtain⟨i,hi,o⟩:=h
   exact(r.owns o).1
  ·exact r.ext.keep.free e
 have kz:∀{z:JO} {u:HO},H z=some u->(∀i∈is,¬gj H ρ σ i z)->km H ρ σ is z=some u:=λh n=>by rw[DG n];exact h
 have me:=m.ext
 have U7:∀{z:JO} {u:HO},H z=some u->(∀i∈is,¬gj H ρ σ i z)->H' z=some u:=λh n=>me.keep _ _ (kz h n)
 have VM:∀{z:JO} {u:HO},H z=some u->(∀i∈is,¬gj H ρ σ i z)->F z=none->F' z=none:=λh n f=>me.out (kz h n) f
 have W3:∀{j:Nat} {z:JO},j∉is->gj H ρ σ j z->∀i∈is,¬gj H ρ σ i z:=λ{j z} hj o i hi o'=>hj (by rw[r.owns_inj o o'];exact hi)
 have Ti:∀{j:Nat} {s:Slot},(uw ρ is ss')[j]? =some (some s)->(∃k:Nat,is[k]? =some j/\ss'[k]? =some s)\/(j∉is/\ρ[j]? =some (some s)):=λh=>vR nd hl h
 have VN:∀{k j:Nat} {d:D},is[k]? =some j->ss'[k]? =some (.own d)->∃a o,σ[j]? =some (some (.ref a))/\as[k]? =some a/\H' a=some o/\F' a=none/\km H ρ σ is a=none/\jj K F' o d:=λ{k j d} h1 h2=>by
  obtain⟨s0,i,a,k1,k2,k3,k4,k5,k6⟩:=T7 h2
  rw[h1]at k1
  cases k1
  obtain⟨p,u,g1,g2,g3,g4,g5⟩:=m.own k d (ms h2)
  rw[UL k2]at g1
  cases g1
  exact⟨a,u,k6,k2,g2,g3,g4,g5⟩
 have WZ:∀{j:Nat} {d:D} {p:JO} {u:HO},j∉is->ρ[j]? =some (some (.own d))->σ[j]? =some (some (.ref p))->H p=some u->km H ρ σ is p=some u:=λhj h1 h2 h3=>kz h3 (W3 hj (.inl ⟨_,h1,h2⟩))
 refine⟨⟨me.sub,λz u e=>U7 (r.ext.keep z u e) λi hi o=>(by rw[(r.owns o).1]at e;cases e),r.ext.grow.trans me.grow,λz e=>(me.new z e).elim (λq=>r.ext.new z q) λq=> .inr (hz q)⟩,λj d h=> ?_,λj d h=> ?_,λj d h=> ?_,r.bh,λj j' d d' p h h' e e'=> ?_,?_,λL hL h=> ?_,λL hL L' UE h h'=> ?_,r.fm.trans me.grow,⟨λj x Ri f hs h=> ?_,λj j' x Ri f hs s h h' Ru=> ?_⟩,r.pin⟩
 ·rcases Ti h with ⟨k,h1,h2⟩|⟨_,h2⟩
  ·obtain⟨_,_,_,_,_,_,_,z,_⟩:=T7 h2;exact absurd rfl z
  ·obtain⟨v,k1,k2⟩:=r.val j d h2;exact⟨v,k1,k2.mono me.grow⟩
 ·rcases Ti h with ⟨k,h1,h2⟩|⟨hj,h2⟩
  ·obtain⟨a,o,k1,k2,k3,k4,k5,k6⟩:=VN h1 h2
   exact⟨a,o,k1,k3,k4,hz k5,k6⟩
  ·obtain⟨p,u,k1,k2,k3,k4,k5⟩:=r.own j d h2
   have n:=W3 hj (.inl ⟨d,h2,k1⟩)
   exact⟨p,u,k1,U7 k2 n,VM k2 n k3,k4,k5.mono me.grow⟩
 ·rcases Ti h with ⟨k,h1,h2⟩|⟨_,h2⟩
  ·obtain⟨_,_,_,_,_,_,_,z,_⟩:=T7 h2;exact absurd rfl z
  ·exact r.bor j d h2
 ·rcases Ti h with ⟨k,h1,h2⟩|⟨hj,h2⟩
  ·obtain⟨a,o,k1,k2,k3,k4,k5,k6⟩:=VN h1 h2
   rw[k1]at e
   cases e
   rcases Ti h' with ⟨k',Vh,TH⟩|⟨Vn,TH⟩
   ·obtain⟨a',o',Zr,Y3,a0_,a10,Zs,a11⟩:=VN Vh TH
    rw[Zr]at e'
    cases e'
    have:=m.dis k k' d d' p (ms h2) (ms TH) (UL k2) (UL Y3)
    subst this
    rw[h1]at Vh
    exact KQ Vh
   ·obtain⟨p',u,g1,g2,g3,g4,g5⟩:=r.own j' d' TH
    rw[e']at g1
    cases g1
    rw[WZ Vn TH e' g2]at k5
    cases k5
  ·rcases Ti h' with ⟨k',Vh,TH⟩|⟨Vn,TH⟩
   ·obtain⟨a',o',Zr,Y3,a0_,a10,Zs,a11⟩:=VN Vh TH
    rw[Zr]at e'
    cases e'
    obtain⟨p',u,g1,g2,g3,g4,g5⟩:=r.own j d h2
    rw[e]at g1
    cases g1
    rw[WZ hj h2 e g2]at Zs
    cases Zs
   ·exact r.dis j j' d d' p h2 TH e e'
 ·rw[vQ];exact r.len
 ·rcases Ti h with ⟨k,h1,h2⟩|⟨hj,h2⟩
  ·obtain⟨_,_,_,_,_,_,_,z,_⟩:=T7 h2;exact absurd rfl z
  ·obtain⟨a,dx,fs,k0,k1,k2,k3,k4,k5,k6⟩:=r.obj L hL h2
   have no:∀{z:JO} {u:HO},H z=some u->(∀d,¬jj K F u d)->∀i∈is,¬gj H ρ σ i z:=λ{z u} hz nr i hi o=>by
    rcases o with ⟨d,g1,g2⟩|⟨x,Ri,f,hs,a,C,dx,fs,g1,_⟩
    ·obtain⟨p,u',q1,q2,_,_,q5⟩:=r.own i d g1
     rw[g2]at q1
     cases q1
     rw[hz]at q2
     cases q2
     exact nr d q5
    ·exact hj (by rw[<-r.cel.one i L.x x Ri f hs _ g1 h2 rfl];exact hi)
   have na:=no k2 (λd q=>by cases q)
   have nd:=no k3 (λd q=>by cases q)
   exact⟨a,dx,fs,k0,k1,U7 k2 na,U7 k3 nd,VM k2 na k4,VM k3 nd k5,k6⟩
 ·refine r.odis L hL L' UE ?_ ?_
  ·rcases Ti h with ⟨k,h1,h2⟩|⟨_,h2⟩
   ·obtain⟨_,_,_,_,_,_,_,z,_⟩:=T7 h2;exact absurd rfl z
   ·exact h2
  ·rcases Ti h' with ⟨k,h1,h2⟩|⟨_,h2⟩
   ·obtain⟨_,_,_,_,_,_,_,z,_⟩:=T7 h2;exact absurd rfl z
   ·exact h2
 ·rcases Ti h with ⟨k,h1,h2⟩|⟨hj,h2⟩
  ·obtain⟨s0,i,a,k1,k2,k3,k4,k5,k6⟩:=T7 h2
   rw[h1]at k1
   cases k1
   obtain⟨a',dx,b,g1,g2,g3⟩:=m.cel.ex k x Ri f hs (ms h2)
   rw[UL k2]at g1
   cases g1
   refine⟨a,dx,b,k6,⟨g2.ex,g2.own,g2.fa,g2.fd,g2.fb,hz g2.za,hz g2.zd,hz g2.zb⟩,λj' d h' e=> ?_⟩
   rcases Ti h' with ⟨k',Vh,TH⟩|⟨Vn,TH⟩
   ·obtain⟨a',o',q1,q2,_⟩:=VN Vh TH
    rw[q1]at e
    cases e
    exact g3 k' d (ms TH) (UL q2)
   ·obtain⟨p',u,q1,q2,_⟩:=r.own j' d TH
    rw[e]at q1
    cases q1
    have:km H ρ σ is b=none:=g2.zb
    rw[WZ Vn TH e q2]at this
    cases this
  ·obtain⟨a,dx,b,g1,g2,g3⟩:=r.cel.ex j x Ri f hs h2
   have a2p:=g2
   obtain⟨C,fs,vs,us,q1,q2,q3,q4,q5,q6,q7⟩:=g2.ex
   have ow:∀z,(z=a\/z=dx\/fs.lookup f=some (.ref z))->∀i∈is,¬gj H ρ σ i z:=λz hz=>W3 hj (.inr ⟨x,Ri,f,hs,a,C,dx,fs,h2,g1,q1,hz⟩)
   have na:=ow a (.inl rfl)
   have nd:=ow dx (.inr (.inl rfl))
   have nb:=ow b (.inr (.inr q3))
   refine⟨a,dx,b,g1,⟨⟨C,fs,vs,us,U7 q1 na,q2,q3,U7 q4 nb,q5.mono me.grow,q6.mono me.grow,q7⟩,U7 g2.own nd,VM q1 na g2.fa,VM g2.own nd g2.fd,VM q4 nb g2.fb,g2.za,g2.zd,g2.zb⟩,λj' d h' e=> ?_⟩
   rcases Ti h' with ⟨k',Vh,TH⟩|⟨Vn,TH⟩
   ·obtain⟨a',o',w1,w2,w3,w4,w5,w6⟩:=VN Vh TH
    rw[w1]at e
    cases e
    rw[kz q4 nb]at w5
    cases w5
   ·exact g3 j' d TH e
 ·have Y4:∀{k:Nat} {s:Slot},ss'[k]? =some s->s.single=true->∃x Ri f hs i,is[k]? =some i/\ρ[i]? =some (some (.cel x Ri f hs)):=λ{k s} h hs=>by
   obtain⟨s0,i,a,k1,k2,k3,k4,k5,k6⟩:=T7 h
   have:s.kind=2:=by cases s<;>first|rfl|exact absurd rfl k5|cases hs
   rw[this]at k4
   obtain⟨x,Ri,f,hs,rfl⟩:=BU k4
   exact⟨x,Ri,f,hs,i,k1,k3⟩
  rcases Ti h with ⟨k,h1,h2⟩|⟨hj,h2⟩
  ·rcases Ti h' with ⟨k',Vh,TH⟩|⟨Vn,TH⟩
   ·have:=m.cel.one k k' x Ri f hs s (ms h2) (ms TH) Ru
    subst this
    rw[h1]at Vh
    exact KQ Vh
   ·obtain⟨x0,Y5,f0,VE,i,g1,g2⟩:=Y4 h2 rfl
    have:=r.cel.one i j' x0 Y5 f0 VE s g2 TH Ru
    subst this
    exact absurd (Ls g1) Vn
  ·rcases Ti h' with ⟨k',Vh,TH⟩|⟨Vn,TH⟩
   ·obtain⟨x0,Y5,f0,VE,i,g1,g2⟩:=Y4 TH Ru
    have:=r.cel.one j i x Ri f hs _ h2 g2 rfl
    subst this
    exact absurd (Ls g1) hj
   ·exact r.cel.one j j' x Ri f hs s h2 TH Ru
end
end L2.Pu
namespace L2.Pu
open PySem PySem.Spec PyProof.Rows
variable {ly:List fj}
def dD:Nat->ah->Option (List Slot)
 |0,_=>some []
 |n+1,some s::ρ=>(dD n ρ).map λt=>s::t
 |_+1,_=>none
theorem tq:∀{n:Nat} {ρ:ah} {ss:List Slot},dD n ρ=some ss->ss.length=n/\∀(k:Nat) s,ss[k]? =some s->ρ[k]? =some (some s)
 |0,ρ,ss,h=>by cases h;exact⟨rfl,λk s e=>by simp at e⟩
 |n+1,some s::ρ,ss,h=>by
  unfold dD at h
  cases e:dD n ρ with
  |none=>rw[e]at h;cases h
  |some t=>
   rw[e]at h
   cases h
   obtain⟨h1,h2⟩:=tq e
   refine⟨by simp[h1],λk s' e'=> ?_⟩
   cases k with
   |zero=>cases e';rfl
   |succ k=>exact h2 k s' e'
 |n+1,none::ρ,ss,h=>by cases h
 |n+1,[],ss,h=>by cases h
def fJ (n:Nat) (ss:List Slot) (ds:List D):ah:=ss.map some++dw n ds
def iy (nm k n:Nat) (g:ah->R bn) (ss:List Slot) (ds:List D):R (D×List Slot):=if ss.length=nm/\ds.length=k then (match g (fJ n ss ds)with
 | .ok (.retc d ρ)=>(match dD nm ρ with|some ss'=> .ok (d,ss')|none=> .bad)
 | .ok (.nx ρ)=>(match dD nm ρ with|some ss'=> .ok (.non,ss')|none=> .bad)
 | .err z ρ=> .err z ρ
 |_=> .bad)else .bad
def Ie (K:JL) (nm n:Nat) (m:List Slot->List D->R (D×List Slot)):Sp:=λvs H Q E=>∃F as ws ss ds Hz,vs=as.map V.ref++ws/\as.length=nm/\ws.length=n/\DH K Hz F ss as H F/\(∀s∈ss,s.kind≠0)/\Reps K F ws ds/\match m ss ds with
 | .ok r=>∀v H' F',DH K Hz F r.2 as H' F'->dR K F' v r.1->Q v H'
 | .err z ρe=>∃ss',dD nm ρe=some ss'/\∀ec q H' F',fI K z ec->DH K Hz F ss' as H' F'->E ec q H'
 | .bad=>False
theorem RI.restrict {K:JL} {c:dW ly} {ρ:ah} {σ:St} {H F:Hp} {nm:Nat} {ss:List Slot} {as:List JO} (r:RI K c ρ σ H F) (hB:c.B=λ_=>none) (ht:dD nm ρ=some ss) (hl:as.length=nm) (hσ:∀(j:Nat) a,as[j]? =some a->σ[j]? =some (some (.ref a))):DH K c.H0 c.F0 ss as H F:=by
 obtain⟨t1,t2⟩:=tq ht
 have up:∀{k:Nat} {s:Slot},(ss.map some)[k]? =some (some s)->ρ[k]? =some (some s)/\k<as.length:=λ{k s} h=>by
  obtain⟨s',h1,h2⟩:=map_some h
  cases h2
  exact⟨t2 k s h1,by rw[hl,<-t1];exact(K9.mp h1).1⟩
 have at_:∀{k:Nat},k<as.length->(as.map λa=>some (V.ref a))[k]? =σ[k]? :=λ{k} h=>by
  have:as[k]? =some as[k]:=Kx h
  rw[hσ k _ this,m9 this]
 refine⟨r.ext,λk d h=> ?_,λk d h=> ?_,λk d h=> ?_,(λ_ _ e=>by cases e),λk k' d d' a h h' e e'=> ?_,?_,(λL h=>by cases h),(λL h=>by cases h),(λ_ _ e=>by cases e),⟨λk x Ri f hs h=> ?_,λk k' x Ri f hs s h h' Ru=> ?_⟩,(λL h=>by cases h)⟩
 ·obtain⟨h1,h2⟩:=up h
  rw[at_ h2];exact r.val k d h1
 ·obtain⟨h1,h2⟩:=up h
  rw[at_ h2];exact r.own k d h1
 ·obtain⟨h1,h2⟩:=up h
  obtain⟨a,o,_,z,_⟩:=r.bor k d h1
  rw[hB]at z
  cases z
 ·obtain⟨h1,h2⟩:=up h
  obtain⟨g1,g2⟩:=up h'
  rw[at_ h2]at e
  rw[at_ g2]at e'
  exact r.dis k k' d d' a h1 g1 e e'
 ·simp only[JR];rw[t1,hl]
 ·obtain⟨h1,h2⟩:=up h
  obtain⟨a,dx,b,k1,k2,k3⟩:=r.cel.ex k x Ri f hs h1
  refine⟨a,dx,b,by rw[at_ h2];exact k1,k2,λj d hj e=> ?_⟩
  obtain⟨g1,g2⟩:=up hj
  rw[at_ g2]at e
  exact k3 j d g1 e
 ·exact r.cel.one k k' x Ri f hs s (up h).1 (up h').1 Ru
theorem A3 {K:JL} {N:List JN} {Hz F H:Hp} {ss:List Slot} {as:List JO} {ws:List V} {ds:List D} {Er:JN->ah->Prop} {nm m:Nat} (mr:DH K Hz F ss as H F) (hk:∀s∈ss,s.kind≠0) (r:Reps K F ws ds) (hl:as.length=nm) (hN:N.length=nm+m) (hw:ws.length<=m)
  (Y6:∀L∈ly,L.x<nm):RI K (⟨Hz,F,λ_=>none,Er,λj=>as[j]?,λ_=>none⟩:dW ly) (fJ m ss ds) (dB N (as.map V.ref++ws)) H F:=by
 have W_:ss.length=as.length:=by have:=mr.len;simpa using this
 have pre:∀{i:Nat},i<as.length->(dB N (as.map V.ref++ws))[i]? =(as.map λa=>some (V.ref a))[i]? :=λ{i} h=>by
  unfold dB
  rw[Kn,N2,LA (by simpa using h),K_];rfl
 have hv:∀{i:Nat} {sl:Slot},(fJ m ss ds)[i]? =some (some sl)->((ss.map some)[i]? =some (some sl)/\i<as.length/\sl.kind≠0)\/∃(j:Nat) (d:D),i=as.length+j/\ds[j]? =some d/\sl= .val d:=λ{i sl} h=>by
  unfold fJ at h
  rw[Mw]at h
  split at h
  ·rename_i hi
   obtain⟨s',h1,h2⟩:=map_some h
   cases h2
   exact .inl ⟨h,by rw[<-W_];simpa using hi,hk _ (Ls h1)⟩
  ·rename_i hi
   refine .inr ⟨i - as.length,?_⟩
   have e:(ss.map (some:Slot->Option Slot)).length=as.length:=by simp[W_]
   rw[e]at h
   unfold dw at h
   rw[Mw]at h
   split at h
   ·rw[Km]at h
    cases e2:ds[i - as.length]? with
    |none=>rw[e2]at h;cases h
    |some d=>rw[e2]at h;simp at h;exact⟨d,by simp at hi;omega,rfl,h.symm⟩
   ·rw[Lu]at h
    split at h<;>simp at h
 have V1:∀{i:Nat} {sl:Slot},(fJ m ss ds)[i]? =some (some sl)->(∀d,sl≠ .val d)->(ss.map some)[i]? =some (some sl)/\i<as.length:=λh n=>by
  rcases hv h with ⟨a,b,_⟩|⟨j,d,_,_,z⟩
  ·exact⟨a,b⟩
  ·exact absurd z (n d)
 refine⟨mr.ext,λi d h=> ?_,λi d h=> ?_,λi d h=> ?_,(λ_ _ e=>by cases e),λi j d d' a h h' e e'=> ?_,?_,λL hL h=> ?_,λL hL L' UE h _=> ?_,(λ_ _ e=>by cases e),⟨λi x Ri f hs h=> ?_,λi j x Ri f hs s h h' Ru=> ?_⟩,λL hL a h=> ?_⟩
 ·rcases hv h with ⟨a,b,z⟩|⟨j,d',rfl,e,z⟩
  ·exact absurd rfl z
  ·cases z
   obtain⟨v,h1,h2⟩:=r.get e
   refine⟨v,?_,h2⟩
   unfold dB
   have hj:j<ws.length:=(K9.mp h1).1
   rw[Kn,N2,Mz (by simp),LA (by simp;omega)]
   simp[h1]
 ·obtain⟨h1,h2⟩:=V1 h (λd' z=>by cases z)
  rw[pre h2];exact mr.own i d h1
 ·obtain⟨h1,h2⟩:=V1 h (λd' z=>by cases z)
  obtain⟨a,o,_,z,_⟩:=mr.bor i d h1
  cases z
 ·obtain⟨h1,h2⟩:=V1 h (λd' z=>by cases z)
  obtain⟨g1,g2⟩:=V1 h' (λd' z=>by cases z)
  rw[pre h2]at e
  rw[pre g2]at e'
  exact mr.dis i j d d' a h1 g1 e e'
 ·have:=r.length
  simp only[fJ,dw,dB,Kv,JR,Nj,W_]
  omega
 ·rcases hv h with ⟨a,b,z⟩|⟨j,d',_,_,z⟩
  ·exact absurd rfl z
  ·cases z
 ·rcases hv h with ⟨a,b,z⟩|⟨j,d',_,_,z⟩
  ·exact absurd rfl z
  ·cases z
 ·obtain⟨h1,h2⟩:=V1 h (λd' z=>by cases z)
  obtain⟨a,dx,b,k1,k2,k3⟩:=mr.cel.ex i x Ri f hs h1
  refine⟨a,dx,b,by rw[pre h2];exact k1,k2,λj d hj e=> ?_⟩
  obtain⟨g1,g2⟩:=V1 hj (λd' z=>by cases z)
  rw[pre g2]at e
  exact k3 j d g1 e
 ·exact mr.cel.one i j x Ri f hs s (V1 h (λd' z=>by cases z)).1 (V1 h' (λd' z=>by subst z;cases Ru)).1 Ru
 ·have:=Y6 L hL
  rw[pre (by omega)]
  exact m9 (show as[L.x]? =some a from h)
theorem HF {P:K3} {w:Kd} {K:JL} {mg:JN->Option JM} {base:Ka} {x qual:JN} {st:Ke} {f:JO} {fd:Lc} {N ps:List JN} {k nm n m:Nat} {g:ah->R bn} (F:yg K x qual st f fd) (S:aE N ps (ak st))
  (hn:ps.length=nm+n) (hm:N.length=nm+m) (Wb:n<=m) (Y6:∀j,j<nm->∃L∈ly,L.x=j) (Xa:∀L∈ly,L.x<nm)
  (RE:∀(Rj:JM) (A:Kl) (outer:List Ly) (s:JP) (H:Hp) (E:XK),d7 k (A.deeper (LG qual (ak st) s.heap.objs.size f Rj))->
   jk ly (j3 (lh P w) P w K mg base N qual (ak st) f Rj A outer s H E) (bO st) g):fH P w K mg base (lh P w) (k+1) f fd ps (Ie K nm n (iy nm n m g)):=by
 refine Ia F S (λvs H Q E h=> ?_) (λRj A outer s H vs Q E hr h=> ?_)
 ·obtain⟨Fz,as,ws,ss,ds,Hz,rfl,h1,h2,_⟩:=h
  rw[Kv,JR,h1,h2,hn]
 ·obtain⟨Fz,as,ws,ss,ds,Hz,rfl,h1,h2,mr,hk,r,w⟩:=h
  let c:dW ly:=⟨Hz,Fz,λ_=>none,λz ρe=>∃ss',dD nm ρe=some ss'/\∀ec q H' F',fI K z ec->DH K Hz Fz ss' as H' F'->E ec q H',λj=>as[j]?,λ_=>none⟩
  have back:∀{ρ σ H' F' ss'},RI K c ρ σ H' F'->dD nm ρ=some ss'->DH K Hz Fz ss' as H' F':=λ{ρ σ H' F' ss'} ri t=>ri.restrict rfl t h1 λj a e=>by
   have hj:j<nm:=by rw[<-h1];exact(K9.mp e).1
   obtain⟨L,hL,rfl⟩:=Y6 j hj
   exact ri.pin L hL a e
  refine⟨_,RE Rj A outer s H E hr ⟨c,ug λz ρ er ec a H' F' σ hc ri=> ?_⟩,?_⟩
  ·obtain⟨ss',t,q⟩:=er
   exact q ec a H' F' hc (back ri t)
  refine⟨Fz,fJ m ss ds,A3 mr hk r h1 hm (by omega) Xa,?_⟩
  have hd:ss.length=nm/\ds.length=n:=⟨by have:=mr.len;simp only[JR]at this;omega,by rw[<-r.length];exact h2⟩
  unfold iy at w
  rw[if_pos hd]at w
  cases e:g (fJ m ss ds)with
  |bad=>rw[e]at w;exact w.elim
  |err z ρ=>rw[e]at w;exact w
  |ok o=>
   rw[e]at w
   cases o with
   |retc d ρ=>
    intro v σ' H' F' _ Sq rv
    dsimp only at w
    cases t:dD nm ρ with
    |none=>rw[t]at w;exact w.elim
    |some ss'=>rw[t]at w;exact w v H' F' (back Sq t) rv
   |nx ρ=>
    intro σ' H' F' _ Sq
    dsimp only at w
    cases t:dD nm ρ with
    |none=>rw[t]at w;exact w.elim
    |some ss'=>rw[t]at w;exact w .non H' F' (back Sq t) .non
   |_=>exact w.elim
structure xw (P:K3) (w:Kd) (K:JL) (mg:JN->Option JM) (base:Ka) (k:Nat) (x:JN) (nm n:Nat) (m:List Slot->List D->R (D×List Slot)):Prop where
 ex:∃f fd ps,fH P w K mg base (lh P w) k f fd ps (Ie K nm n m)/\mg x=some (.ref f)/\KJ K (.ref f)=true/\gk K fd ps []
structure dn (P:K3) (w:Kd) (K:JL) (mg:JN->Option JM) (base:Ka) (k:Nat) (cls mm:JN) (n:Nat) (m:List Slot->List D->R (D×List Slot)):Prop where
 ex:∃C f fd ps,fH P w K mg base (lh P w) k f fd ps (Ie K 1 n m)/\ja K cls C/\wI K C mm f/\gk K fd ps []
section
variable {P:K3} {w:Kd} {K:JL} {mg:JN->Option JM} {base:Ka}
theorem ux {x:JN} {st:Ke} {N ps:List JN} {k nm n m:Nat} {g:ah->R bn} (ly:List fj) (A:cT K mg x st ps) (S:aE N ps (ak st)) (hn:ps.length=nm+n) (hm:N.length=nm+m) (Wb:n<=m) (Y6:∀j,j<nm->∃L∈ly,L.x=j) (Xa:∀L∈ly,L.x<nm)
  (RE:∀(f:JO) (Rj:JM) (A:Kl) (outer:List Ly) (s:JP) (H:Hp) (E:XK),d7 k (A.deeper (LG x (ak st) s.heap.objs.size f Rj))->
   jk ly (j3 (lh P w) P w K mg base N x (ak st) f Rj A outer s H E) (bO st) g):xw P w K mg base (k+1) x nm n (iy nm n m g):=by
 obtain⟨f,fd,F,h1,h2⟩:=A.ex
 exact⟨f,fd,ps,HF F S hn hm Wb Y6 Xa λRj A outer s H E hr=>RE f Rj A outer s H E hr,h1,F.kp,h2⟩
theorem iJ {cls mm qual:JN} {st:Ke} {N ps:List JN} {k n m:Nat} {g:ah->R bn} (A:dI K cls mm qual st ps) (S:aE N ps (ak st)) (hn:ps.length=1+n) (hm:N.length=1+m) (Wb:n<=m)
  (RE:∀(f:JO) (Rj:JM) (A:Kl) (outer:List Ly) (s:JP) (H:Hp) (E:XK),d7 k (A.deeper (LG qual (ak st) s.heap.objs.size f Rj))->
   jk [⟨0,0,[]⟩] (j3 (lh P w) P w K mg base N qual (ak st) f Rj A outer s H E) (bO st) g):dn P w K mg base (k+1) cls mm n (iy 1 n m g):=by
 obtain⟨C,f,fd,F,h1,h2,h3⟩:=A.ex
 exact⟨C,f,fd,ps,HF F S hn hm Wb (λj hj=>⟨_,K7.mpr rfl,by show (0:Nat)=j;omega⟩) (λL hL=>by rw[K7.mp hL];exact Nat.zero_lt_one) λRj A outer s H E hr=>RE f Rj A outer s H E hr,h1,h2,h3⟩
end
def dJ (is:List Nat) (m:List Slot->List D->R (D×List Slot)) (n:Nat) (fs:ah->R (List D)):ah->R (D×ah):=λρ=>match eX ρ is with
 |some ss=>if (ss.all λs=>s.kind != 0)=true/\is.Nodup then (fs ρ>>=λds=>if ds.length=n then (match m ss ds with
  | .ok r=>if r.2.map Slot.kind=ss.map Slot.kind then .ok (r.1,uw ρ is r.2)else .bad
  | .err z ρe=>(match dD is.length ρe with
   |some ss'=>if ss'.map Slot.kind=ss.map Slot.kind then .err z (uw ρ is ss')else .bad
   |none=> .bad)
  | .bad=> .bad)else .bad)else .bad
 |none=> .bad
def tX (K:JL) (c:dW ly) (fx:ah->R (D×ah)):TE:=λσ H Q=>∃F ρ,RI K c ρ σ H F/\aN c (fx ρ) λr=>∀v H' F',b8 F F'->RI K c r.2 σ H' F'->dR K F' v r.1->Q v H'
def PX (ly:List fj) (X:Cx) (e:JW) (fx:ah->R (D×ah)):Prop:=∀c:j4 ly X,PE X e (tX X.K c.1 fx)
theorem At.of {K:JL} {c:dW ly} {ρ:ah} {σ:St} {H F:Hp} (r:RI K c ρ σ H F):∀{is:List Nat} {ss:List Slot},eX ρ is=some ss->(ss.all λs=>s.kind != 0)=true->∃as,At ρ σ is ss as
 |[],ss,h,_=>by cases h;exact⟨[], .nil⟩
 |i::is,ss,h,k=>by
  unfold eX at h
  split at h
  ·rename_i s hs
   cases e:eX ρ is with
   |none=>rw[e]at h;cases h
   |some t=>
    rw[e]at h
    cases h
    rw[Lq,L7]at k
    obtain⟨as,A⟩:=At.of r e k.2
    have hk:s.kind≠0:=by simpa using k.1
    have:∃a,σ[i]? =some (some (.ref a)):=by
     cases s with
     |own d=>obtain⟨a,o,h1,_⟩:=r.own i d hs;exact⟨a,h1⟩
     |cel x Ri f Ru=>obtain⟨a,dx,b,h1,_⟩:=r.cel.ex i x Ri f Ru hs;exact⟨a,h1⟩
     |_=>exact absurd rfl hk
    obtain⟨a,ha⟩:=this
    exact⟨a::as, .cons hs hk ha A⟩
  ·cases h
section
variable {X:Cx} {e:JW} {es:List JW} {fs:ah->R (List D)} {is:List Nat} {p pos Rp:KC} {x m:JN}
theorem xx {c:j4 ly X} {mf:List Slot->List D->R (D×List Slot)} {n:Nat} {ρ:ah} {σ:St} {H F:Hp} {Q:VK} (ri:RI X.K c.1 ρ σ H F) (w:aN c.1 (dJ is mf n fs ρ) λr=>∀v H' F',b8 F F'->RI X.K c.1 r.2 σ H' F'->dR X.K F' v r.1->Q v H'):
  ∃ss as,At ρ σ is ss as/\Gp X.K c.1 fs σ H λvs H1=>Ie X.K is.length n mf (as.map V.ref++vs) H1 Q (Fo X c.1 σ):=by
 unfold dJ at w
 split at w
 ·rename_i ss hs
  split at w
  ·rename_i hk
   obtain⟨hk,nd⟩:=hk
   obtain⟨as,A⟩:=At.of ri hs hk
   refine⟨ss,as,A,F,ρ,ri,(aN.bind.mp w).imp λds _ w1 vs H1 F1 e1 r1=> ?_⟩
   split at w1
   ·rename_i hl
    have r':=ri.step e1
    refine⟨F1,as,vs,ss,ds,km H1 ρ σ is,rfl,A.lens.2,by rw[r1.length];exact hl,r'.split A nd,λs Ru=>by have:=Nf.mp hk s Ru;simpa using this,r1,?_⟩
    split at w1
    ·rename_i r hr
     split at w1
     ·rename_i WJ
      intro v H' F' mr rv
      exact w1 v H' F' (e1.grow.trans mr.ext.grow) (r'.join A nd mr WJ) rv
     ·exact w1.elim
    ·rename_i z ρe hr
     split at w1
     ·rename_i ss' ht
      split at w1
      ·rename_i WJ
       exact⟨ss',ht,λec q H' F' hc mr=>⟨z,_,F',hc,r'.join A nd mr WJ,w1⟩⟩
      ·exact w1.elim
     ·exact w1.elim
    ·exact w1.elim
   ·exact w1.elim
  ·exact w.elim
 ·exact w.elim
def xy:List Nat->TA->TA
 |[],t=>t
 |i::is,t=>E5 (Aw i) (xy is t)
theorem tu {t:TA} {ρ:ah} {σ:St} {H:Hp}:∀{is:List Nat} {ss:List Slot} {as:List JO} {Q:List V->Hp->Prop},At ρ σ is ss as->t σ H (λvs H1=>Q (as.map V.ref++vs) H1)->xy is t σ H Q
 |[],_,_,Q, .nil,h=>h
 |i::is,_,_,Q, .cons h1 h2 h3 A,h=>⟨_,h3,tu A h⟩
def Ig (ly:List fj) (X:Cx) (es:List JW) (is:List Nat) (fs:ah->R (List D)):Prop:=∀c:j4 ly X,PA X es (xy is (Gp X.K c.1 fs))
theorem kn (h:xg ly X es fs):Ig ly X es [] fs:=λc=>h c
theorem du (i:Nat) (h:Ig ly X es is fs) (hN:X.N[i]? =some x:=by rfl) (hv:oO X.env.scope x:=by first|exact KG rfl|exact Kp (KG rfl)|exact Kp (Kp rfl)) (hd:(x==("__debug__":JN))=false:=by decide)
  (Sl:(x==("__classdict__":JN))=false:=by decide) (hs:JS (.Name x p::es) X.env=(false,Kb (.Name x p) X.env)::JS es X.env:=by rfl):Ig ly X (.Name x p::es) (i::is) fs:=λc=>df (pv i hN hv hd Sl) (h c) hs
theorem uy {k n:Nat} {mf:List Slot->List D->R (D×List Slot)} (G:xw X.prog X.w X.K X.mg X.base k x is.length n mf) (hr:d7 k X.A) (ha:Ig ly X (e::es) is fs) (hg:Gl X x:=by rfl) (T8:(x==("__debug__":JN))=false:=by decide)
  (he:JS (e::es) X.env=(false,Kb e X.env)::JS es X.env:=by rfl) (Sm:(Ks pos (JS es X.env)).any (·.1)=false:=by rfl):PX ly X (.Call (.Name x p) (e::es) [] pos) (dJ is mf n fs):=λc=>by
 obtain⟨f,fd,ps,h1,h2,h3,h4⟩:=G.ex
 refine PE.weak (x_ h1 hr hg h2 h3 h4 .nil (pU c) (ha c) T8 he Sm) λσ H Q q=> ?_
 obtain⟨F,ρ,ri,w⟩:=q
 obtain⟨ss,as,A,t⟩:=xx ri w
 refine tu A ?_
 obtain⟨F0,ρ0,Wx,w0⟩:=t
 exact⟨F0,ρ0,Wx,w0.imp λds _ k vs H1 F1 e1 r1=>by dsimp only;rw[Lm];exact k vs H1 F1 e1 r1⟩
def ko (i:Nat) (cls m:JN) (fx:ah->R (D×ah)):ah->R (D×ah):=λρ=>match ρ[i]? with
 |some (some (.cel y Ri f hs))=>if y=cls/\m≠f/\Ri.lookup m=none then fx ρ else .bad
 |_=> .bad
theorem yz {c:j4 ly X} {i:Nat} {cls:JN} {fx:ah->R (D×ah)} {ρ:ah} {σ:St} {H F:Hp} {C:JO} {P:D×ah->Prop} (T:ja X.K cls C) (ri:RI X.K c.1 ρ σ H F) (w:aN c.1 (ko i cls m fx ρ) P):
  ∃a dx fs,σ[i]? =some (some (.ref a))/\H a=some (.ins C dx fs)/\fs.lookup m=none/\aN c.1 (fx ρ) P:=by
 unfold ko at w
 split at w
 ·rename_i y Ri f hs hi
  split at w
  ·rename_i hc
   obtain⟨rfl,h1,h2⟩:=hc
   obtain⟨a,dx,b,k1,k2,k3⟩:=ri.cel.ex i y Ri f hs hi
   obtain⟨C',fs,vs,us,g1,g2,g3,g4,g5,g6,g7,g8,_⟩:=k2.ex
   have:C'=C:=by have:=T.ns;rw[g2]at this;cases this;rfl
   subst this
   refine⟨a,dx,fs,k1,g1,?_,w⟩
   cases q:fs.lookup m with
   |none=>rfl
   |some v=>
    rcases g8 m v q with z|z
    ·exact absurd z h1
    ·rw[g6.names]at z
     exact absurd z (gw h2)
  ·exact w.elim
 ·exact w.elim
theorem jr (i:Nat) {cls y:JN} {py:KC} {k n:Nat} {mf:List Slot->List D->R (D×List Slot)} {pl:N5 Bool} (G:dn X.prog X.w X.K X.mg X.base k cls m n mf) (hr:d7 k X.A) (ha:xg ly X (e::es) fs)
  (hN:X.N[i]? =some y:=by rfl) (hv:oO X.env.scope y:=by first|exact KG rfl|exact Kp (KG rfl)|exact Kp (Kp rfl)) (hd:(y==("__debug__":JN))=false:=by decide) (Sl:(y==("__classdict__":JN))=false:=by decide)
  (U5:JS (e::es) X.env=(false,Kb e X.env)::JS es X.env:=by rfl) (Sm:(Ks pos (JS es X.env)).any (·.1)=false:=by rfl)
  (ht:Kb (.Call (.Attribute (.Name y py) m Rp) (e::es) [] pos) X.env=(do
   let ov<-Kb (.Name y py) X.env
   M7 Rp.atName
   let (f,first)<-LI [ov] (Ms ov m pl)
   Nb pos f first (Ks pos (JS (e::es) X.env)) (LF pos (Le [] X.env))):=by rfl):
  PX ly X (.Call (.Attribute (.Name y py) m Rp) (e::es) [] pos) (ko i cls m (dJ [i] mf n fs)):=λc=>by
 obtain⟨C,f,fd,ps,h1,h2,h3,h4⟩:=G.ex
 refine PE.weak (y0 (pv i hN hv hd Sl) h2.cl h3 h1 hr h4 .nil (pU c) (ha c) U5 Sm ht) λσ H Q q=> ?_
 obtain⟨F,ρ,ri,w⟩:=q
 obtain⟨a,dx,UB,k1,k2,k3,w⟩:=yz h2 ri w
 obtain⟨ss,as,A,t⟩:=xx ri w
 cases A with
 |cons q1 q2 q3 A0=>
  cases A0
  rw[k1]at q3
  cases q3
  refine⟨.ref a,k1,a,dx,UB,rfl,k2,k3,?_⟩
  obtain⟨F0,ρ0,Wx,w0⟩:=t
  exact⟨F0,ρ0,Wx,w0.imp λds _ k vs H1 F1 e1 r1=>by dsimp only;rw[Lm];exact k vs H1 F1 e1 r1⟩
theorem DI (i:Nat) {cls y:JN} {py:KC} {k n:Nat} {mf:List Slot->List D->R (D×List Slot)} {pl:N5 Bool} (G:dn X.prog X.w X.K X.mg X.base k cls m n mf) (hr:d7 k X.A)
  (hN:X.N[i]? =some y:=by rfl) (hv:oO X.env.scope y:=by first|exact KG rfl|exact Kp (KG rfl)|exact Kp (Kp rfl)) (hd:(y==("__debug__":JN))=false:=by decide) (Sl:(y==("__classdict__":JN))=false:=by decide)
  (ht:Kb (.Call (.Attribute (.Name y py) m Rp) [] [] pos) X.env=(do
   let ov<-Kb (.Name y py) X.env
   M7 Rp.atName
   let (f,first)<-LI [ov] (Ms ov m pl)
   Nb pos f first (Ks pos (JS [] X.env)) (LF pos (Le [] X.env))):=by rfl):
  PX ly X (.Call (.Attribute (.Name y py) m Rp) [] [] pos) (ko i cls m (dJ [i] mf n ag)):=λc=>by
 obtain⟨C,f,fd,ps,h1,h2,h3,h4⟩:=G.ex
 refine PE.weak (v7 (pv i hN hv hd Sl) h2.cl h3 h1 hr h4 .nil (pU c) ht) λσ H Q q=> ?_
 obtain⟨F,ρ,ri,w⟩:=q
 obtain⟨a,dx,UB,k1,k2,k3,w⟩:=yz h2 ri w
 obtain⟨ss,as,A,t⟩:=xx ri w
 cases A with
 |cons q1 q2 q3 A0=>
  cases A0
  rw[k1]at q3
  cases q3
  refine⟨.ref a,k1,a,dx,UB,rfl,k2,k3,?_⟩
  obtain⟨F0,ρ0,Wx,w0⟩:=t
  exact w0 [] H F0 (cc.refl Wx.sub) .nil
end
end L2.Pu
namespace L2.Pu
open PySem PySem.Spec PyProof.Rows
variable {ly:List fj}
def A4 (g:JN) (d:D) (Ri:List (JN×D)):List (JN×D):=Ri.map λp=>if p.1=g then (p.1,d)else p
section
variable {K:JL} {c:dW ly} {ρ:ah} {σ:St} {H F:Hp} {i:Nat} {z:JO}
theorem RepF.put {vs:List (JN×V)} {Ri:List (JN×D)} {g:JN} {v:V} {d:D} (h:RepF K F vs Ri) (r:dR K F v d):RepF K F (vs.map λp=>if p.1=g then (p.1,v)else p) (A4 g d Ri):=by
 induction Ri generalizing vs with
 |nil=>rw[h.nilI];exact .nil
 |cons p Ri ih=>
  obtain⟨k,x⟩:=p
  obtain⟨u,us,rfl,h1,h2⟩:=h.consI
  have:=ih h2
  unfold A4 at this ⊢
  rw[J_,J_]
  dsimp only
  by_cases e:k=g
  ·rw[if_pos e,if_pos e];exact .cons r this
  ·rw[if_neg e,if_neg e];exact .cons h1 this
theorem RI.celUpd (r:RI K c ρ σ H F) {x x':JN} {Ri VL:List (JN×D)} {f f':JN} {hs Ru:List D} {a dx b:JO} {o':HO} (hi:ρ[i]? =some (some (.cel x Ri f hs))) (h1:σ[i]? =some (some (.ref a))) (hz:gj H ρ σ i z)
  (A':li K (km H ρ σ [i]) (bY H z o') F a dx b x' VL f' Ru):RI K c (ρ.set i (some (.cel x' VL f' Ru))) σ (bY H z o') F:=by
 refine r.join (is:=[i]) (ss:=[.cel x Ri f hs]) (ss':=[.cel x' VL f' Ru]) (as:=[a]) (.cons hi (by intro e;cases e) h1 .nil) (by simp) ?_ rfl
 have a12:km H ρ σ [i] z=none:=lB (K7.mpr rfl) hz
 have only:∀{k:Nat} {s:Slot},(([Slot.cel x' VL f' Ru]:List Slot).map some)[k]? =some (some s)->k=0/\s= .cel x' VL f' Ru:=λ{k s} h=>by
  cases k with
  |zero=>cases h;exact⟨rfl,rfl⟩
  |succ k=>simp at h
 refine⟨⟨λy u e=> ?_,λy u e=> ?_,b8.refl _,λ_ h=> .inl h⟩,λk d h=> ?_,λk d h=> ?_,λk d h=> ?_,(λ_ _ e=>by cases e),λk k' d d' a h=> ?_,rfl,(λL h=>by cases h),(λL h=>by cases h),(λ_ _ e=>by cases e),⟨λk y vd g hh h=> ?_,λk k' y vd g hh s h h' _=> ?_⟩,(λL h=>by cases h)⟩
 ·rw[ay (λq=>by rw[q,(r.owns hz).2.1]at e;cases e)];exact r.sub y u e
 ·have e':km H ρ σ [i] y=some u:=e
  rw[ay (λq=>by rw[q,a12]at e';cases e')];exact tj e'
 ·obtain⟨_,q⟩:=only h;cases q
 ·obtain⟨_,q⟩:=only h;cases q
 ·obtain⟨_,q⟩:=only h;cases q
 ·obtain⟨_,q⟩:=only h;cases q
 ·obtain⟨rfl,q⟩:=only h
  cases q
  exact⟨a,dx,b,rfl,A',λj d hj=>by obtain⟨_,q⟩:=only hj;cases q⟩
 ·rw[(only h).1,(only h').1]
end
section
variable {X:Cx} {a b e value:JW} {es:List JW} {fa fb f fv:ah->R D} {fs:ah->R (List D)} {pos px Rp Ut Rm Rx:KC} {y g cls:JN} {xs:List JN}
def cX (i:Nat) (cls g:JN):ah->R D:=λρ=>match ρ[i]? with
 |some (some (.cel x Ri _ _))=>if x=cls then R.of (Ri.lookup g)else .bad
 |_=> .bad
theorem ol {K:JL} {c:dW ly} {ρ:ah} {σ:St} {H F:Hp} {i:Nat} {C:JO} {x:JN} {Ri:List (JN×D)} {f:JN} {hs:List D} (ri:RI K c ρ σ H F) (T:ja K x C) (hi:ρ[i]? =some (some (.cel x Ri f hs))):
  ∃a dx b fs vs us,σ[i]? =some (some (.ref a))/\H a=some (.ins C dx fs)/\li K c.H0 H F a dx b x Ri f hs/\fs.lookup f=some (.ref b)/\H b=some (.lst us)/\Reps K F us hs/\RepF K F vs Ri/\(∀p∈vs,fs.lookup p.1=some p.2)/\
   (∀g v,fs.lookup g=some v->g=f\/g∈vs.map (·.1))/\(fs.map (·.1)).Nodup/\f∉vs.map (·.1):=by
 obtain⟨a,dx,b,k1,k2,k3⟩:=ri.cel.ex i x Ri f hs hi
 obtain⟨C',fs,vs,us,g1,g2,g3⟩:=k2.ex
 have:C'=C:=by have:=T.ns;rw[g2]at this;cases this;rfl
 subst this
 exact⟨a,dx,b,fs,vs,us,k1,g1,k2,g3⟩
theorem dm (i:Nat) (T:cC X.K cls xs) (hx:g∈xs) (hN:X.N[i]? =some y:=by rfl) (hv:oO X.env.scope y:=by first|exact KG rfl|exact Kp (KG rfl)|exact Kp (Kp rfl)) (hd:(y==("__debug__":JN))=false:=by decide)
  (Sl:(y==("__classdict__":JN))=false:=by decide) (hb:KI (.Name y px) g X.env (Kb (.Name y px) X.env)=Kb (.Name y px) X.env:=by rfl):PQ ly X (.Attribute (.Name y px) g pos) (cX i cls g):=by
 obtain⟨C,h1,h2⟩:=T.ex
 exact λc=>PE.weak (qX (pv i hN hv hd Sl) hb) λσ H Q ⟨F,ρ,ri,w⟩=>by
  unfold cX at w
  split at w
  ·rename_i x Ri f hs hi
   split at w
   ·rename_i hc
    subst hc
    obtain⟨d,hd,k⟩:=w.of
    obtain⟨a,dx,b,fs,vs,us,k1,k2,k3,k4,k5,k6,k7,k8,_⟩:=ol ri h1 hi
    obtain⟨v,m1,m2⟩:=k7.get hd
    exact⟨.ref a,k1,a,C,dx,fs,v,rfl,k2,h1.cl,h2 g hx,k8 _ m1,k v H F (cc.refl ri.sub) m2⟩
   ·exact w.elim
  ·exact w.elim
def q8 (i:Nat) (cls g:JN):ah->R D:=λρ=>match ρ[i]? with
 |some (some (.cel x _ f hs))=>if x=cls/\f=g then .ok (.lst hs)else .bad
 |_=> .bad
theorem BV (i:Nat) (T:cC X.K cls xs) (hx:g∈xs) (hN:X.N[i]? =some y:=by rfl) (hv:oO X.env.scope y:=by first|exact KG rfl|exact Kp (KG rfl)|exact Kp (Kp rfl)) (hd:(y==("__debug__":JN))=false:=by decide)
  (Sl:(y==("__classdict__":JN))=false:=by decide) (hb:KI (.Name y px) g X.env (Kb (.Name y px) X.env)=Kb (.Name y px) X.env:=by rfl):PB ly X (.Attribute (.Name y px) g pos) (q8 i cls g):=by
 obtain⟨C,h1,h2⟩:=T.ex
 exact λc=>PE.weak (qX (pv i hN hv hd Sl) hb) λσ H Q ⟨F,ρ,ri,w⟩=>by
  unfold q8 at w
  split at w
  ·rename_i x Ri f hs hi
   split at w
   ·rename_i hc
    obtain⟨rfl,rfl⟩:=hc
    obtain⟨a,dx,b,fs,vs,us,k1,k2,k3,k4,k5,k6,_⟩:=ol ri h1 hi
    exact⟨.ref a,k1,a,C,dx,fs, .ref b,rfl,k2,h1.cl,h2 _ hx,k4,w (.ref b) H F (cc.refl ri.sub) (.inr ⟨b, .lst us,rfl,k5, .lst k6⟩)⟩
   ·exact w.elim
  ·exact w.elim
def qK (i:Nat) (cls g:JN) (fv:ah->R D):ah->R bn:=λρ=>match ρ[i]? with
 |some (some (.cel x Ri f hs))=>fv ρ>>=λd=>if x=cls/\(Ri.lookup g).isSome=true/\Ri.length<900 then .ok (.nx (ρ.set i (some (.cel x (A4 g d Ri) f hs))))else .bad
 |_=> .bad
theorem vS {α:Type} {g:JN}:∀{l:List (JN×α)},(l.lookup g).isSome=true->g∈l.map (·.1)
 |(k,v)::r,h=>by
  rw[L8]at h
  cases e:g==k with
  |true=>rw[eq_of_beq e];exact K6
  |false=>rw[e]at h;exact K8 _ (vS h)
theorem vT (i:Nat) (T:cC X.K cls xs) (hx:g∈xs) (hv:PQ ly X value fv) (hN:X.N[i]? =some y:=by rfl) (a13:oO X.env.scope y:=by first|exact KG rfl|exact Kp (KG rfl)|exact Kp (Kp rfl)) (hd:(y==("__debug__":JN))=false:=by decide)
  (Sl:(y==("__classdict__":JN))=false:=by decide) (hs:KR value (some (.Attribute (.Name y px) g Rx)) pos.line X.env=pure false:=by rfl):n5 ly X (.Assign [.Attribute (.Name y px) g Rx] value pos) (qK i cls g fv):=by
 obtain⟨C,h1,h2⟩:=T.ex
 exact λc=>PS.weak (EV (pv i hN a13 hd Sl) (hv c) hs) λD σ H ⟨F,ρ,ri,w⟩=>by
  unfold qK at w
  split at w
  ·rename_i x Ri f hs hi
   refine⟨F,ρ,ri,(aN.bind.mp w).imp λd _ w1 v H1 F1 e1 r1=> ?_⟩
   split at w1
   ·rename_i hc
    obtain⟨rfl,hl,Rt⟩:=hc
    have Vg:=ri.step e1
    obtain⟨a,dx,b,fs,vs,us,k1,k2,k3,k4,k5,k6,k7,k8,k9,Xn,a0e⟩:=ol Vg h1 hi
    have Zt:g∈vs.map (·.1):=by rw[k7.names];exact vS hl
    have a14:g≠f:=λz=>by rw[z]at Zt;exact a0e Zt
    have Y7:fs.length<1000:=by
     have:(fs.map (·.1)).length<=(f::vs.map (·.1)).length:=gY Xn λq hq=>by
      obtain⟨u,hu⟩:=ki hq
      rcases k9 q u hu with z|z
      ·rw[z];exact K6
      ·exact K8 _ z
     rw[JR,Kh,k7.names,JR]at this
     omega
    refine⟨_,k1,a,C,dx,fs,rfl,k2,h1.cl,h2 g hx,Y7,?_⟩
    have oa:gj H1 ρ σ i a:= .inr ⟨x,Ri,f,hs,a,C,dx,fs,hi,k1,k2, .inl rfl⟩
    have cz:∀z,(z=a\/z=dx\/fs.lookup f=some (.ref z))->km H1 ρ σ [i] z=none:=λz hz=>lB (K7.mpr rfl) (.inr ⟨x,Ri,f,hs,a,C,dx,fs,hi,k1,k2,hz⟩)
    have a15:dx≠a:=λz=>by have:=k3.own;rw[z,k2]at this;cases this
    have a16:b≠a:=λz=>by rw[z,k2]at k5;cases k5
    refine w1 σ _ F1 e1.grow (Vg.celUpd (dx:=dx) (b:=b) hi k1 oa ⟨⟨C,i3 g v fs,vs.map (λp=>if p.1=g then (p.1,v)else p),us,aH,h1.ns,?_,?_,k6,k7.put r1,λp hp=> ?_,λq u hq=> ?_,uv _ _ Xn,?_⟩,?_,k3.fa,k3.fd,k3.fb,cz a (.inl rfl),cz dx (.inr (.inl rfl)),cz b (.inr (.inr k4))⟩)
    ·rw[de,if_neg (Lz a14)];exact k4
    ·rw[ay a16];exact k5
    ·obtain⟨q,hq,rfl⟩:=Lp.mp hp
     rw[de]
     by_cases z:q.1=g
     ·rw[if_pos z,if_pos z]
     ·rw[if_neg z,if_neg z];exact k8 q hq
    ·have VH:(vs.map (λp=>if p.1=g then (p.1,v)else p)).map (·.1)=vs.map (·.1):=by
      rw[K_];refine MF λp _=> ?_
      show (if p.1=g then (p.1,v)else p).1=p.1
      split<;>rfl
     rw[VH]
     rw[de]at hq
     by_cases z:q=g
     ·rw[z];exact .inr Zt
     ·rw[if_neg z]at hq;exact k9 q u hq
    ·have VH:(vs.map (λp=>if p.1=g then (p.1,v)else p)).map (·.1)=vs.map (·.1):=by
      rw[K_];refine MF λp _=> ?_
      show (if p.1=g then (p.1,v)else p).1=p.1
      split<;>rfl
     rw[VH];exact a0e
    ·rw[ay a15];exact k3.own
   ·exact w1.elim
  ·exact w.elim
theorem yA {K:JL} {c:dW ly} {ρ:ah} {σ:St} {H F:Hp} {i:Nat} {C:JO} {x:JN} {Ri:List (JN×D)} {f:JN} {hs Ru:List D} {a dx b:JO} {fs:List (JN×V)} {us Zu:List V} (ri:RI K c ρ σ H F) (hi:ρ[i]? =some (some (.cel x Ri f hs))) (k1:σ[i]? =some (some (.ref a))) (k2:H a=some (.ins C dx fs))
  (k3:li K c.H0 H F a dx b x Ri f hs) (k4:fs.lookup f=some (.ref b)) (k5:H b=some (.lst us)) (q:Reps K F Zu Ru):RI K c (ρ.set i (some (.cel x Ri f Ru))) σ (bY H b (.lst Zu)) F:=by
 have cz:∀z,(z=a\/z=dx\/fs.lookup f=some (.ref z))->gj H ρ σ i z:=λz hz=> .inr ⟨x,Ri,f,hs,a,C,dx,fs,hi,k1,k2,hz⟩
 have cy:∀z,gj H ρ σ i z->km H ρ σ [i] z=none:=λz o=>lB (K7.mpr rfl) o
 have a17:a≠b:=λz=>by rw[<-z,k2]at k5;cases k5
 have a18:dx≠b:=λz=>by have:=k3.own;rw[z,k5]at this;cases this
 obtain⟨C',UB,vs,a2q,g1,g2,g3,g4,g5,g6,g7⟩:=k3.ex
 rw[k2]at g1
 cases g1
 exact ri.celUpd (dx:=dx) (b:=b) hi k1 (cz b (.inr (.inr k4))) ⟨⟨C,fs,vs,Zu,by rw[ay a17];exact k2,g2,k4,aH,q,g6,g7⟩,by rw[ay a18];exact k3.own,k3.fa,k3.fd,k3.fb,cy _ (cz a (.inl rfl)),cy _ (cz dx (.inr (.inl rfl))),cy _ (cz b (.inr (.inr k4)))⟩
def qL (i:Nat) (cls g:JN) (f:ah->R D):ah->R bn:=λρ=>match ρ[i]? with
 |some (some (.cel x Ri h hs))=>if x=cls/\h=g then (f ρ>>=λd=>if hs.length<lim then .ok (.nx (ρ.set i (some (.cel x Ri h (hs++[d])))))else .bad)else .bad
 |_=> .bad
theorem BW (i:Nat) (T:cC X.K cls xs) (hx:g∈xs) (h:PQ ly X e f) (hN:X.N[i]? =some y:=by rfl) (hv:oO X.env.scope y:=by first|exact KG rfl|exact Kp (KG rfl)|exact Kp (Kp rfl)) (hd:(y==("__debug__":JN))=false:=by decide)
  (Sl:(y==("__classdict__":JN))=false:=by decide) (hb:KI (.Name y px) g X.env (Kb (.Name y px) X.env)=Kb (.Name y px) X.env:=by rfl)
  (RT:KI (.Attribute (.Name y px) g Ut) "append" X.env (Kb (.Attribute (.Name y px) g Ut) X.env)=Kb (.Attribute (.Name y px) g Ut) X.env:=by rfl)
  (TM:((Ks Rm (JS [e] X.env)).all (λx=> !x.1)&&(LF Rm (Le [] X.env)).all (λx=>x.1.isSome)
   &&decide (([e]:List JW).length+([]:List LR).length+(if ([]:List LR).isEmpty then 0 else 1)<30))=true:=by rfl)
  (RU:(Rp.endLine==Rm.line)=true:=by rfl) (hs:JS [e] X.env=(false,Kb e X.env)::JS [] X.env:=by rfl) (RV:(Ks Rm (JS [] X.env)).any (·.1)=false:=by rfl)
  (U_:KR (.Call (.Attribute (.Attribute (.Name y px) g Ut) "append" Rp) [e] [] Rm) none pos.line X.env=pure false:=by rfl):n5 ly X (.Expr (.Call (.Attribute (.Attribute (.Name y px) g Ut) "append" Rp) [e] [] Rm) pos) (qL i cls g f):=by
 obtain⟨C,h1,h2⟩:=T.ex
 exact λc=>PS.weak (nO (ye Lf Ou Ov oU (qX (pv i hN hv hd Sl) hb) (df (h c) gG hs) RT TM RU hs RV) U_) λD σ H ⟨F,ρ,ri,w⟩=>by
  unfold qL at w
  split at w
  ·rename_i x Ri f' hs hi
   split at w
   ·rename_i hc
    obtain⟨rfl,rfl⟩:=hc
    obtain⟨a,dx,b,fs,vs,us,k1,k2,k3,k4,k5,k6,_⟩:=ol ri h1 hi
    refine⟨.ref a,k1,a,C,dx,fs, .ref b,rfl,k2,h1.cl,h2 _ hx,k4, .inl ⟨rfl,us,dS.of k5⟩,F,ρ,ri,(aN.bind.mp w).imp λd _ w1 v H1 F1 e1 r1=> ?_⟩
    split at w1
    ·rename_i hl
     refine⟨b,us,v,rfl,rfl,e1.keep _ _ k5,Kt (by rw[k6.length];exact hl) gH,?_⟩
     exact w1 σ _ F1 e1.grow (yA (ri.step e1) hi k1 (e1.keep _ _ k2) (k3.step e1) k4 (e1.keep _ _ k5) ((k6.mono e1.grow).append (.cons r1 .nil)))
    ·exact w1.elim
   ·exact w.elim
  ·exact w.elim
def uz (j i:Nat) (cls g:JN):ah->R bn:=λρ=>match ρ[i]? with
 |some (some (.cel x Ri h hs))=>if x=cls/\h=g then (match hs[hs.length - 1]? with
  |some d=> .ok (.nx ((ρ.set i (some (.cel x Ri h hs.dropLast))).set j (some (.val d))))
  |none=> .bad)else .bad
 |_=> .bad
theorem Reps.dropLast {K:JL} {F:Hp} {vs:List V} {ds:List D} (h:Reps K F vs ds):Reps K F vs.dropLast ds.dropLast:=by
 rw[P6,P6,h.length];exact h.take _
theorem BX (j i:Nat) {z:JN} (Zv:X.N.Nodup) (T:cC X.K cls xs) (hx:g∈xs) (hN:X.N[i]? =some y:=by rfl) (hv:oO X.env.scope y:=by first|exact KG rfl|exact Kp (KG rfl)|exact Kp (Kp rfl)) (hd:(y==("__debug__":JN))=false:=by decide)
  (Sl:(y==("__classdict__":JN))=false:=by decide) (hb:KI (.Name y px) g X.env (Kb (.Name y px) X.env)=Kb (.Name y px) X.env:=by rfl)
  (RT:KI (.Attribute (.Name y px) g Ut) "pop" X.env (Kb (.Attribute (.Name y px) g Ut) X.env)=Kb (.Attribute (.Name y px) g Ut) X.env:=by rfl) (RU:(Rp.endLine==Rm.line)=true:=by rfl)
  (a19:X.N[j]? =some z:=by rfl) (a1a:zg X.env.scope z:=by first|exact KG rfl|exact Kp rfl) (U_:KR (.Call (.Attribute (.Attribute (.Name y px) g Ut) "pop" Rp) [] [] Rm) (some (.Name z Rx)) pos.line X.env=pure false:=by rfl)
  (hf:X.fn z=true\/X.env.scope.names.lookup z=some .local:=by first|exact .inl rfl|exact .inr rfl|assumption) (T9:kZ ly j:=by(repeat (first|assumption|exact L2.Pu.fD|refine L2.Pu.ef ⟨by first|decide|simp,by first|decide|simp⟩ ?_))):
  n5 ly X (.Assign [.Name z Rx] (.Call (.Attribute (.Attribute (.Name y px) g Ut) "pop" Rp) [] [] Rm) pos) (uz j i cls g):=by
 obtain⟨C,h1,h2⟩:=T.ex
 exact λc=>PS.weak (mZ Zv a19 a1a (AW Lf P7 P8 AX (qX (pv i hN hv hd Sl) hb) RT RU) U_ hf) λD σ H ⟨F,ρ,ri,w⟩=>by
  unfold uz at w
  split at w
  ·rename_i x Ri f' hs hi
   split at w
   ·rename_i hc
    obtain⟨rfl,rfl⟩:=hc
    obtain⟨a,dx,b,fs,vs,us,k1,k2,k3,k4,k5,k6,_⟩:=ol ri h1 hi
    split at w
    ·rename_i d hd
     obtain⟨v,m1,m2⟩:=k6.get hd
     refine⟨.ref a,k1,a,C,dx,fs, .ref b,rfl,k2,h1.cl,h2 _ hx,k4, .inl ⟨rfl,us,dS.of k5⟩,b,us,v,rfl,rfl,k5,by rw[k6.length];exact m1,?_⟩
     exact w _ _ F (b8.refl _) ((yA ri hi k1 k2 k3 k4 k5 k6.dropLast).setVal j T9 m2)
    ·exact w.elim
   ·exact w.elim
  ·exact w.elim
variable {fx:ah->R (D×ah)}
def ij (f:ah->R D):ah->R bn:=λρ=>f ρ>>=λd=> .ok (.retc d ρ)
theorem kq (h:PQ ly X e f):n5 ly X (.Return (some e) pos) (ij f):=λc=>PS.weak (wB (h c)) λD σ H ⟨F,ρ,ri,w⟩=>
 ⟨F,ρ,ri,(aN.bind.mp w).imp λd _ w1 v H' F' e r=>w1 v σ H' F' e.grow (ri.step e) r⟩
def iK (fx:ah->R (D×ah)):ah->R bn:=λρ=>fx ρ>>=λr=> .ok (.retc r.1 r.2)
theorem nj (h:PX ly X e fx):n5 ly X (.Return (some e) pos) (iK fx):=λc=>PS.weak (wB (h c)) λD σ H ⟨F,ρ,ri,w⟩=>
 ⟨F,ρ,ri,(aN.bind.mp w).imp λr _ w1 v H' F' e Sq rv=>w1 v σ H' F' e Sq rv⟩
def iL (fx:ah->R (D×ah)):ah->R bn:=λρ=>fx ρ>>=λr=> .ok (.nx r.2)
theorem om (h:PX ly X e fx) (U_:KR e none pos.line X.env=pure false:=by rfl):n5 ly X (.Expr e pos) (iL fx):=λc=>PS.weak (nO (h c) U_) λD σ H ⟨F,ρ,ri,w⟩=>
 ⟨F,ρ,ri,(aN.bind.mp w).imp λr _ w1 v H' F' e Sq rv=>w1 σ H' F' e Sq⟩
def yB (i:Nat) (fx:ah->R (D×ah)):ah->R bn:=λρ=>fx ρ>>=λr=> .ok (.nx (r.2.set i (some (.val r.1))))
theorem FW (i:Nat) {x:JN} (hN:X.N.Nodup) (he:PX ly X e fx) (hi:X.N[i]? =some x:=by rfl) (hx:zg X.env.scope x:=by first|exact KG rfl|exact Kp rfl) (hs:KR e (some (.Name x Rx)) pos.line X.env=pure false:=by rfl)
  (hf:X.fn x=true\/X.env.scope.names.lookup x=some .local:=by first|exact .inl rfl|exact .inr rfl|assumption) (T9:kZ ly i:=by(repeat (first|assumption|exact L2.Pu.fD|refine L2.Pu.ef ⟨by first|decide|simp,by first|decide|simp⟩ ?_))):n5 ly X (.Assign [.Name x Rx] e pos) (yB i fx):=λc=>
 PS.weak (mZ hN hi hx (he c) hs hf) λD σ H ⟨F,ρ,ri,w⟩=>⟨F,ρ,ri,(aN.bind.mp w).imp λr _ w1 v H' F' e Sq rv=>w1 _ H' F' e (Sq.setVal i T9 rv)⟩
def lC (f:ah->R D) (fx:ah->R (D×ah)):ah->R (D×ah):=λρ=>f ρ>>=λd=>fx ρ>>=λr=> .ok (.lst [d,r.1],r.2)
theorem FX (h:PQ ly X a f) (hx:PX ly X b fx) (hs:JS [a,b] X.env=(false,Kb a X.env)::JS [b] X.env:=by rfl) (VX:JS [b] X.env=(false,Kb b X.env)::JS [] X.env:=by rfl):PX ly X (.List [a,b] pos) (lC f fx):=λc=>
 PE.weak (tU (df (h c) (df (hx c) gG VX) hs)) λσ H Q ⟨F,ρ,ri,w⟩=>⟨F,ρ,ri,(aN.bind.mp w).imp λd _ w1 v H1 F1 e1 r1=>⟨F1,ρ,ri.step e1,(aN.bind.mp w1).imp λr _ w2 u H2 F2 e2 Wa r2=>by
  refine⟨by show 2<=sizeLine;exact Ky (by decide) gH,λp hp=> ?_⟩
  have e3:=cc.lay (o:= .lst [v,u]) Wa.sub hp
  exact w2 _ _ _ ((e1.grow.trans e2).trans e3.grow) (Wa.step e3) (.lst aH (.cons ((r1.mono e2).mono e3.grow) (.cons (r2.mono e3.grow) .nil)))⟩⟩
def Jl (K:JL) (c:dW ly) (gx:ah->R (Bool×ah)):TT:=λσ H Q=>∃F ρ,RI K c ρ σ H F/\aN c (gx ρ) λr=>∀H' F',b8 F F'->RI K c r.2 σ H' F'->Q r.1 H'
def HG (ly:List fj) (X:Cx) (e:JW) (gx:ah->R (Bool×ah)):Prop:=∀c:j4 ly X,PT X e (Jl X.K c.1 gx)
def qr (fx:ah->R (D×ah)):ah->R (Bool×ah):=λρ=>fx ρ>>=λr=>match r.1 with
 | .bl b=> .ok (b,r.2)
 |_=> .bad
theorem nk (h:PX ly X e fx) (he:∀SG,OY e X.env SG=(do let v<-SG;M7 e.pos;LI [v] (Qy v)):=by intro _;rfl):HG ly X e (qr fx):=λc=>PT.weak (ED (h c) he) λσ H Q ⟨F,ρ,ri,w⟩=>
 ⟨F,ρ,ri,(aN.bind.mp w).imp λr _ w1 v H' F' e Sq rv=>by
  cases q:r.1 with
  |bl b=>rw[q]at w1 rv;cases rv;exact⟨b,rfl,w1 H' F' e Sq⟩
  |_=>rw[q]at w1;exact w1.elim⟩
def kR (gx:ah->R (Bool×ah)):ah->R (Bool×ah):=λρ=>gx ρ>>=λr=> .ok (!r.1,r.2)
theorem nl {gx:ah->R (Bool×ah)} (h:HG ly X e gx):HG ly X (.UnaryOp .Not e pos) (kR gx):=λc=>PT.weak (AA (h c)) λσ H Q ⟨F,ρ,ri,w⟩=>⟨F,ρ,ri,(aN.bind.mp w).imp λr _ w1 H' F' e Sq=>w1 H' F' e Sq⟩
def qt (gx:ah->R (Bool×ah)) (g g':ah->R bn):ah->R bn:=λρ=>gx ρ>>=λr=>if r.1=true then g r.2 else g' r.2
theorem rF {gx:ah->R (Bool×ah)} {g g':ah->R bn} {ta tb:List Ke} (hc:HG ly X e gx) (ha:jk ly X ta g) (hb:jk ly X tb g'):n5 ly X (.If e ta tb pos) (qt gx g g'):=λc=>PS.weak (D_ (hc c) (ha c) (hb c)) λD σ H ⟨F,ρ,ri,w⟩=>
 ⟨F,ρ,ri,(aN.bind.mp w).imp λr _ w1 H1 F1 e1 Vg=>by
  cases q:r.1 with
  |true=>rw[q]at w1;rw[if_pos rfl]at w1 ⊢;exact⟨F1,r.2,Vg,w1.imp λo _ k=>k.mono e1⟩
  |false=>rw[q]at w1;rw[if_neg Kf]at w1 ⊢;exact⟨F1,r.2,Vg,w1.imp λo _ k=>k.mono e1⟩⟩
end
end L2.Pu
namespace L2.Pu
open PySem PySem.Spec PyProof.Rows
variable {ly:List fj}
mutual
inductive jK (f:JN):D->Prop
 |non:jK f .non
 |bl (b:Bool):jK f (.bl b)
 |int (i:Int):jK f (.int i)
 |str (x:JN):jK f (.str x)
 |tup {ds:List D}:Cleans f ds->jK f (.tup ds)
 |ins {x:JN} {fds:List (JN×D)}:fds.lookup f=none->CleanF f fds->jK f (.ins x fds)
inductive Cleans (f:JN):List D->Prop
 |nil:Cleans f []
 |cons {d:D} {ds:List D}:jK f d->Cleans f ds->Cleans f (d::ds)
inductive CleanF (f:JN):List (JN×D)->Prop
 |nil:CleanF f []
 |cons {k:JN} {d:D} {ds:List (JN×D)}:jK f d->CleanF f ds->CleanF f ((k,d)::ds)
end
open Classical in
noncomputable def kr (F:Hp) (Ow:JO->Prop):Hp:=λz=>if Ow z then none else F z
theorem oo {F:Hp} {Ow:JO->Prop} {z:JO} (h:¬Ow z):kr F Ow z=F z:=if_neg h
theorem rG {F:Hp} {Ow:JO->Prop} {z:JO} {u:HO} (h:kr F Ow z=some u):¬Ow z/\F z=some u:=by
 unfold kr at h
 split at h
 ·cases h
 ·rename_i n;exact⟨n,h⟩
theorem dR.cut {K:JL} {F:Hp} {Ow:JO->Prop} {f:JN} (hn:∀z,Ow z->∀vs,F z≠some (.tup vs)) (hi:∀z,Ow z->∀C dx fs,F z=some (.ins C dx fs)->fs.lookup f≠none) (ho:∀z a,Ow z->F z=some (.own a)->Ow a) {v:V} {d:D} (h:dR K F v d):jK f d->dR K (kr F Ow) v d:=by
 refine dR.rec (motive_1:=λv d _=>jK f d->dR K (kr F Ow) v d) (motive_2:=λv d _=>Cleans f d->Reps K (kr F Ow) v d) (motive_3:=λv d _=>True) (motive_4:=λv d _=>CleanF f d->RepF K (kr F Ow) v d)
  (λ_=> .non) (λb _=> .bl b) (λi _=> .int i) (λx _=> .str x) (λ{a vs ds} h _ ih c=> ?_) (λh _ ih c=>by cases c) (λh c=>by cases c) (λh _ n ih c=>by cases c) (λ{a C dx x fs vs fds} h1 h2 h3 h4 h5 h6 ih c=> ?_) (λh n c=>by cases c) (λ_=> .nil) (λ_ _ ih Zw c=> ?_) trivial (λ_ _ _ _=>trivial) (λ_=> .nil) (λ_ _ ih Zw c=> ?_) h
 ·cases c with
  |tup c=>exact .tup (by rw[oo (λo=>hn a o vs h)];exact h) (ih c)
 ·cases c with
  |ins cl c=>
   have na:¬Ow a:=λo=>by
    refine hi a o C dx fs h1 ?_
    cases q:fs.lookup f with
    |none=>rfl
    |some u=>
     have:=h5 f u q
     rw[h6.names]at this
     exact absurd this (gw cl)
   have nd:¬Ow dx:=λo=>na (ho dx a o h2)
   exact .ins (by rw[oo na];exact h1) (by rw[oo nd];exact h2) h3 h4 h5 (ih c)
 ·cases c with
  |cons c1 c2=>exact .cons (ih c1) (Zw c2)
 ·cases c with
  |cons c1 c2=>exact .cons (ih c1) (Zw c2)
def Slot.frozen:Slot->Slot
 | .own d=> .val d
 | .cel x Ri f hs=> .val (.ins x (Ri++[(f, .lst hs)]))
 |s=>s
theorem uA (s:Slot):s.frozen.frozen=s.frozen:=by cases s<;>rfl
def rH (i:Nat) (ρ:ah):ah:=match ρ[i]? with
 |some (some s)=>ρ.set i (some s.frozen)
 |_=>ρ
def oq (L:List Nat) (ρ:ah):ah:=L.foldl (λr i=>rH i r) ρ
theorem A5 (i:Nat) (ρ:ah):(rH i ρ).length=ρ.length:=by
 unfold rH
 split
 ·simp
 ·rfl
theorem tw:∀(L:List Nat) (ρ:ah),(oq L ρ).length=ρ.length
 |[],ρ=>rfl
 |i::L,ρ=>(tw L (rH i ρ)).trans (A5 i ρ)
theorem tz {i j:Nat} {ρ:ah} {s:Slot} (h:(rH i ρ)[j]? =some (some s)):(i=j/\∃s0,ρ[j]? =some (some s0)/\s=s0.frozen)\/(i≠j/\ρ[j]? =some (some s)):=by
 unfold rH at h
 split at h
 ·rename_i s0 hs
  rcases aA h with ⟨rfl,z,_⟩|⟨z,h⟩
  ·cases z;exact .inl ⟨rfl,s0,hs,rfl⟩
  ·exact .inr ⟨z,h⟩
 ·rename_i n
  refine .inr ⟨λe=> ?_,h⟩
  subst e
  exact n s h
theorem eg:∀{L:List Nat} {j:Nat} {ρ:ah} {s:Slot},(oq L ρ)[j]? =some (some s)->(j∈L/\∃s0,ρ[j]? =some (some s0)/\s=s0.frozen)\/(j∉L/\ρ[j]? =some (some s))
 |[],j,ρ,s,h=> .inr ⟨by simp,h⟩
 |i::L,j,ρ,s,h=>by
  rcases eg (L:=L) (ρ:=rH i ρ) h with ⟨h1,s0,h2,h3⟩|⟨h1,h2⟩
  ·refine .inl ⟨K8 _ h1,?_⟩
   rcases tz h2 with ⟨rfl,s1,g1,g2⟩|⟨_,g1⟩
   ·exact⟨s1,g1,by rw[h3,g2,uA]⟩
   ·exact⟨s0,g1,h3⟩
  ·rcases tz h2 with ⟨rfl,s1,g1,g2⟩|⟨n,g1⟩
   ·exact .inl ⟨K6,s1,g1,g2⟩
   ·exact .inr ⟨λm=>(K1.mp m).elim (λq=>n q.symm) h1,g1⟩
open Classical in
noncomputable def lD (H F:Hp) (ρ:ah) (σ:St) (L:List Nat):Hp:=λz=>if ∃i∈L,gj H ρ σ i z then H z else F z
section
variable {K:JL} {c:dW ly} {ρ:ah} {σ:St} {H F H' F':Hp} {L:List Nat}
theorem ma {i:Nat} {z:JO} (hi:i∈L) (h:gj H ρ σ i z):lD H F ρ σ L z=H z:=if_pos ⟨i,hi,h⟩
theorem iM {z:JO} (h:¬∃i∈L,gj H ρ σ i z):lD H F ρ σ L z=F z:=if_neg h
theorem RepF.snoc {vs:List (JN×V)} {Ri:List (JN×D)} {f:JN} {v:V} {d:D} (h:RepF K F vs Ri) (r:dR K F v d):RepF K F (vs++[(f,v)]) (Ri++[(f,d)]):=by
 induction Ri generalizing vs with
 |nil=>rw[h.nilI];exact .cons r .nil
 |cons p Ri ih=>
  obtain⟨k,x⟩:=p
  obtain⟨u,us,rfl,h1,h2⟩:=h.consI
  exact .cons h1 (ih h2)
theorem RI.lend (r:RI K c ρ σ H F) (L:List Nat):b8 F (lD H F ρ σ L)/\RI K c (oq L ρ) σ H (lD H F ρ σ L):=by
 have grow:b8 F (lD H F ρ σ L):=λz u e=>by
  by_cases o:∃i∈L,gj H ρ σ i z
  ·obtain⟨i,hi,o⟩:=o
   rw[(r.owns o).2.1]at e
   cases e
  ·rw[iM o];exact e
 have out:∀{j:Nat} {z:JO},j∉L->gj H ρ σ j z->lD H F ρ σ L z=none:=λ{j z} hj o=>by
  rw[iM (λ⟨i,hi,o'⟩=>hj (by rw[r.owns_inj o o'];exact hi))]
  exact(r.owns o).2.1
 refine⟨grow,⟨⟨λz u e=> ?_,r.ext.keep,r.ext.grow.trans grow,λz e=> ?_⟩,λj d h=> ?_,λj d h=> ?_,λj d h=> ?_,r.bh,λj j' d d' a h h'=> ?_,?_,λM hM h=> ?_,λM hM M' WX h h'=> ?_,r.fm.trans grow,⟨λj x Ri f hs h=> ?_,λj j' x Ri f hs s h h' Ru=> ?_⟩,r.pin⟩⟩
 ·by_cases o:∃i∈L,gj H ρ σ i z
  ·obtain⟨i,hi,o⟩:=o
   rw[ma hi o]at e;exact e
  ·rw[iM o]at e;exact r.sub z u e
 ·by_cases o:∃i∈L,gj H ρ σ i z
  ·obtain⟨i,hi,o⟩:=o
   exact .inr (r.owns o).1
  ·rw[iM o]at e;exact r.ext.new z e
 ·rcases eg h with ⟨hj,s0,h1,h2⟩|⟨_,h1⟩
  ·cases s0 with
   |val d'=>cases h2;obtain⟨v,k1,k2⟩:=r.val j d h1;exact⟨v,k1,k2.mono grow⟩
   |own d'=>
    cases h2
    obtain⟨a,o,k1,k2,k3,k4,k5⟩:=r.own j d h1
    have fa:lD H F ρ σ L a=some o:=by rw[ma hj (.inl ⟨d,h1,k1⟩)];exact k2
    refine⟨.ref a,k1,?_⟩
    cases k5 with
    |lst q=>exact .lst fa (q.mono grow)
    |dic q n=>exact .dic fa (q.mono grow) n
   |cel x Ri f hs=>
    cases h2
    obtain⟨a,dx,b,k1,k2,k3⟩:=r.cel.ex j x Ri f hs h1
    have Y3:=k2
    obtain⟨C,fs,vs,us,g1,g2,g3,g4,g5,g6,g7,g8,g9,a08⟩:=k2.ex
    have ow:∀z,(z=a\/z=dx\/fs.lookup f=some (.ref z))->lD H F ρ σ L z=H z:=λz hz=>ma hj (.inr ⟨x,Ri,f,hs,a,C,dx,fs,h1,k1,g1,hz⟩)
    refine⟨.ref a,k1, .ins (by rw[ow a (.inl rfl)];exact g1) (by rw[ow dx (.inr (.inl rfl))];exact k2.own) g2 (vs:=vs++[(f, .ref b)]) (λp hp=> ?_) (λg v hg=> ?_) ((g6.mono grow).snoc (.lst (by rw[ow b (.inr (.inr g3))];exact g4) (g5.mono grow)))⟩
    ·rcases KH.mp hp with q|q
     ·exact g7 p q
     ·rw[K7.mp q];exact g3
    ·rw[Kn]
     rcases g8 g v hg with q|q
     ·rw[q];exact Kr _ K6
     ·exact L4 _ q
   |bor d'=>cases h2
   |obj=>cases h2
  ·obtain⟨v,k1,k2⟩:=r.val j d h1;exact⟨v,k1,k2.mono grow⟩
 ·rcases eg h with ⟨hj,s0,h1,h2⟩|⟨hj,h1⟩
  ·cases s0<;>cases h2
  ·obtain⟨a,o,k1,k2,k3,k4,k5⟩:=r.own j d h1
   exact⟨a,o,k1,k2,out hj (.inl ⟨d,h1,k1⟩),k4,k5.mono grow⟩
 ·rcases eg h with ⟨hj,s0,h1,h2⟩|⟨hj,h1⟩
  ·cases s0 with
   |bor d'=>cases h2;exact r.bor j d h1
   |_=>cases h2
  ·exact r.bor j d h1
 ·have un:∀{j:Nat} {d:D},(oq L ρ)[j]? =some (some (.own d))->ρ[j]? =some (some (.own d)):=λh=>by
   rcases eg h with ⟨hj,s0,h1,h2⟩|⟨hj,h1⟩
   ·cases s0<;>cases h2
   ·exact h1
  exact r.dis j j' d d' a (un h) (un h')
 ·rw[tw];exact r.len
 ·have h1:ρ[M.x]? =some (some .obj):=by
   rcases eg h with ⟨hj,s0,h1,h2⟩|⟨hj,h1⟩
   ·cases s0 with
    |obj=>exact h1
    |_=>cases h2
   ·exact h1
  obtain⟨a,dx,fs,k0,k1,k2,k3,k4,k5,k6⟩:=r.obj M hM h1
  have no:∀{z:JO} {u:HO},H z=some u->(∀d,¬jj K F u d)->F z=none->lD H F ρ σ L z=none:=λ{z u} hz nr hf=>by
   rw[iM]
   ·exact hf
   ·rintro⟨i,hi,o⟩
    rcases o with ⟨d,g1,g2⟩|⟨x,Ri,f,hs,a,C,dx,fs,g1,_⟩
    ·obtain⟨p,u',q1,q2,_,_,q5⟩:=r.own i d g1
     rw[g2]at q1
     cases q1
     rw[hz]at q2
     cases q2
     exact nr d q5
    ·have:=r.cel.one i M.x x Ri f hs _ g1 h1 rfl
     subst this
     rw[h1]at g1
     cases g1
  exact⟨a,dx,fs,k0,k1,k2,k3,no k2 (λd q=>by cases q) k4,no k3 (λd q=>by cases q) k5,k6⟩
 ·have un:∀{j:Nat},(oq L ρ)[j]? =some (some .obj)->ρ[j]? =some (some .obj):=λh=>by
   rcases eg h with ⟨hj,s0,h1,h2⟩|⟨hj,h1⟩
   ·cases s0 with
    |obj=>exact h1
    |_=>cases h2
   ·exact h1
  exact r.odis M hM M' WX (un h) (un h')
 ·rcases eg h with ⟨hj,s0,h1,h2⟩|⟨hj,h1⟩
  ·cases s0<;>cases h2
  ·obtain⟨a,dx,b,k1,k2,k3⟩:=r.cel.ex j x Ri f hs h1
   have Y3:=k2
   obtain⟨C,fs,vs,us,g1,g2,g3,g4,g5,g6,g7⟩:=k2.ex
   have ow:∀z,(z=a\/z=dx\/fs.lookup f=some (.ref z))->lD H F ρ σ L z=none:=λz hz=>out hj (.inr ⟨x,Ri,f,hs,a,C,dx,fs,h1,k1,g1,hz⟩)
   refine⟨a,dx,b,k1,⟨⟨C,fs,vs,us,g1,g2,g3,g4,g5.mono grow,g6.mono grow,g7⟩,k2.own,ow a (.inl rfl),ow dx (.inr (.inl rfl)),ow b (.inr (.inr g3)),k2.za,k2.zd,k2.zb⟩,λj' d h'=> ?_⟩
   rcases eg h' with ⟨Vn,s0,Vh,TH⟩|⟨Vn,Vh⟩
   ·cases s0<;>cases TH
   ·exact k3 j' d Vh
 ·have un:∀{j:Nat} {s:Slot},(oq L ρ)[j]? =some (some s)->s.single=true->ρ[j]? =some (some s):=λh hs=>by
   rcases eg h with ⟨hj,s0,h1,h2⟩|⟨hj,h1⟩
   ·cases s0 with
    |obj=>rw[h2];exact h1
    |_=>rw[h2]at hs;cases hs
   ·exact h1
  exact r.cel.one j j' x Ri f hs s (un h rfl) (un h' Ru) Ru
def yC (f:JN) (ρ:ah) (i:Nat):Bool:=match ρ[i]? with
 |some (some (.cel _ _ g _))=>g==f
 |_=>true
theorem RI.unlend (r:RI K c ρ σ H F) {f:JN} (hc:L.all (yC f ρ)=true) (e:cc H (lD H F ρ σ L) H' F') {v:V} {d:D} (q:dR K F' v d) (cl:jK f d):∃F2,cc H F H' F2/\dR K F2 v d:=by
 have up:∀{i:Nat} {z:JO} {u:HO},i∈L->gj H ρ σ i z->H z=some u->F' z=some u:=λhi o h=>e.grow _ _ (by rw[ma hi o];exact h)
 have T7:∀{i:Nat} {z:JO},i∈L->gj H ρ σ i z->(∃d,jj K F (Option.getD (H z) (.own 0)) d/\∃u,H z=some u)\/(∃C dx fs,H z=some (.ins C dx fs)/\fs.lookup f≠none)\/(∃a,H z=some (.own a)/\gj H ρ σ i a)\/∃us,H z=some (.lst us):=λ{i z} hi o=>by
  rcases o with ⟨d,g1,g2⟩|⟨x,Ri,g,hs,a,C,dx,fs,g1,g2,g3,g4⟩
  ·obtain⟨p,u,q1,q2,_,_,q5⟩:=r.own i d g1
   rw[g2]at q1
   cases q1
   exact .inl ⟨d,by rw[q2];exact q5,u,q2⟩
  ·obtain⟨b,m1,m2,m3⟩:=r.celIn g1 g2 g3
   have hg:g=f:=by
    have:=Nf.mp hc i hi
    unfold yC at this
    rw[g1]at this
    simpa using this
   rcases g4 with rfl|rfl|g4
   ·exact .inr (.inl ⟨C,dx,fs,g3,by rw[<-hg,m2];simp⟩)
   ·exact .inr (.inr (.inl ⟨a,m1.own, .inr ⟨x,Ri,g,hs,a,C,_,fs,g1,g2,g3, .inl rfl⟩⟩))
   ·rw[m2]at g4
    cases g4
    obtain⟨C',UB,vs,us,q1,q2,q3,q4,_⟩:=m1.ex
    exact .inr (.inr (.inr ⟨us,q4⟩))
 refine⟨kr F' (λz=>∃i∈L,gj H ρ σ i z),⟨λz u h=>e.sub z u (rG h).2,e.keep,λz u h=> ?_,λz h=> ?_⟩,q.cut (f:=f) ?_ ?_ ?_ cl⟩
 ·have no:¬∃i∈L,gj H ρ σ i z:=λ⟨i,hi,o⟩=>by rw[(r.owns o).2.1]at h;cases h
  rw[oo no]
  exact e.grow z u (by rw[iM no];exact h)
 ·cases w:kr F' (λz=>∃i∈L,gj H ρ σ i z) z with
  |none=>exact absurd w h
  |some u=>
   obtain⟨no,w2⟩:=rG w
   rcases e.new z (by rw[w2];simp)with k|k
   ·rw[iM no]at k;exact .inl k
   ·exact .inr k
 ·rintro z ⟨i,hi,o⟩ vs h
  obtain⟨_,_,u,hu⟩:=r.owns o
  rw[up hi o hu]at h
  cases h
  rcases T7 hi o with ⟨d,k,_⟩|⟨C,dx,fs,k,_⟩|⟨a,k,_⟩|⟨us,k⟩
  ·rw[hu]at k;cases k
  ·rw[hu]at k;cases k
  ·rw[hu]at k;cases k
  ·rw[hu]at k;cases k
 ·rintro z ⟨i,hi,o⟩ C dx fs h
  obtain⟨_,_,u,hu⟩:=r.owns o
  rw[up hi o hu]at h
  cases h
  rcases T7 hi o with ⟨d,k,_⟩|⟨C',Ww,UB,k,k2⟩|⟨a,k,_⟩|⟨us,k⟩
  ·rw[hu]at k;cases k
  ·rw[hu]at k;cases k;exact k2
  ·rw[hu]at k;cases k
  ·rw[hu]at k;cases k
 ·rintro z a ⟨i,hi,o⟩ h
  obtain⟨_,_,u,hu⟩:=r.owns o
  rw[up hi o hu]at h
  cases h
  rcases T7 hi o with ⟨d,k,_⟩|⟨C',Ww,UB,k,k2⟩|⟨a',k,k2⟩|⟨us,k⟩
  ·rw[hu]at k;cases k
  ·rw[hu]at k;cases k
  ·rw[hu]at k;cases k;exact⟨i,hi,k2⟩
  ·rw[hu]at k;cases k
end
section
variable {X:Cx} {e:JW} {es:List JW} {f:ah->R D} {g:ah->R Bool} {pos:KC}
open Classical in
noncomputable def pi (x:JN) (L:List Nat) (f:ah->R D):ah->R D:=λρ=>if L.all (yC x ρ)=true then (f (oq L ρ)>>=λd=>if jK x d then .ok d else .bad)else .bad
theorem yD (x:JN) (L:List Nat) (h:PQ ly X e f):PQ ly X e (pi x L f):=λc=>PE.weak (h c) λσ H Q ⟨F,ρ,ri,w⟩=>by
 unfold pi at w
 split at w
 ·rename_i hc
  obtain⟨s,Sq⟩:=ri.lend L
  refine⟨_,_,Sq,(aN.bind.mp w).imp λd _ w1 v H1 F1 e1 r1=> ?_⟩
  split at w1
  ·rename_i cl
   obtain⟨F2,e2,r2⟩:=ri.unlend hc e1 r1 cl
   exact w1 v H1 F2 e2 r2
  ·exact w1.elim
 ·exact w.elim
def BY (L:List Nat) (g:ah->R Bool):ah->R Bool:=λρ=>g (oq L ρ)
theorem DJ (L:List Nat) (h:uZ ly X e g):uZ ly X e (BY L g):=λc=>PT.weak (h c) λσ H Q ⟨F,ρ,ri,w⟩=>by
 obtain⟨s,Sq⟩:=ri.lend L
 exact⟨_,_,Sq,aN.imp w λb _ w1 H1 F1 e1=>w1 H1 F (vP ri.sub e1.keep)⟩
end
end L2.Pu
namespace L2.Pu
open PySem PySem.Spec PyProof.Rows
variable {ly:List fj}
theorem RI.fldO {K:JL} {c:dW ly} {ρ:ah} {σ:St} {H F:Hp} (r:RI K c ρ σ H F) {f:JN} {L:fj} (hL:L∈ly) (hρ:ρ[L.x]? =some (some .obj)) {a dx p:JO} {fs:List (JN×V)} {i:Nat} {o:HO} {d:D} (hx:σ[L.x]? =some (some (.ref a))) (ha:H a=some (.ins L.C dx fs)) (hf:(f,i)∈L.fl)
  (hn:∀p∈L.fl,p.1=f<->p.2=i) (WW:L.x≠i) (Vp:∀M∈ly,M≠L->M.x≠i/\∀p∈M.fl,p.2≠i) (W2:i<σ.length) (hp:H p=some o) (fp:F p=none) (zp:c.H0 p=none) (ro:jj K F o d) (ne:∀(j:Nat) d',ρ[j]? =some (some (.own d'))->σ[j]? ≠some (some (.ref p))):
  RI K c (ρ.set i (some (.own d))) (σ.set i (some (.ref p))) (bY H a (.ins L.C dx (i3 f (.ref p) fs))) F:=by
 obtain⟨b,Ww,UB,k0,k1,k2,k3,k4,k5,k6,k7,k8,k9,Xn⟩:=r.obj L hL hρ
 rw[hx]at k1
 cases k1
 rw[ha]at k2
 cases k2
 have a1b:p≠a:=λz=>by subst z;rw[ha]at hp;cases hp;cases ro
 refine⟨⟨λx y e=> ?_,λx y e=> ?_,r.ext.grow,r.ext.new⟩,λj e q=> ?_,λj e q=> ?_,λj e q=> ?_,r.bh,λj k e e' x q1 q2 q3 q4=> ?_,by simp[r.len],λM hM hq=> ?_,λM hM M' WX XZ X_ x q1 q2=> ?_,r.fm, .no λj x Ri g hs w=> ?_,λM hM a h=> ?_⟩
 ·rw[ay (λz=>by rw[z,k4]at e;cases e)];exact r.sub x y e
 ·rw[ay (λz=>by rw[z,k6]at e;cases e)];exact r.ext.keep x y e
 ·rcases aA q with ⟨rfl,z,l⟩|⟨z,q⟩
  ·cases z
  ·rw[ao z];exact r.val j e q
 ·rcases aA q with ⟨rfl,z,l⟩|⟨z,q⟩
  ·cases z;exact⟨p,o,gq W2,by rw[ay a1b];exact hp,fp,zp,ro⟩
  ·obtain⟨x,o,g1,g2,g3,g4,g5⟩:=r.own j e q
   have nx:x≠a:=λz=>by subst z;rw[ha]at g2;cases g2;cases g5
   exact⟨x,o,by rw[ao z];exact g1,by rw[ay nx];exact g2,g3,g4,g5⟩
 ·rcases aA q with ⟨rfl,z,l⟩|⟨z,q⟩
  ·cases z
  ·rw[ao z];exact r.bor j e q
 ·rcases aA q1 with ⟨rfl,z,l⟩|⟨z,q1⟩
  ·rw[gq W2]at q3
   cases q3
   rcases aA q2 with ⟨rfl,z',l⟩|⟨z',q2⟩
   ·rfl
   ·rw[ao z']at q4;exact absurd q4 (ne k e' q2)
  ·rw[ao z]at q3
   rcases aA q2 with ⟨rfl,z',l⟩|⟨z',q2⟩
   ·rw[gq W2]at q4
    cases q4
    exact absurd q3 (ne j e q1)
   ·rw[ao z']at q4
    exact r.dis j k e e' x q1 q2 q3 q4
 ·by_cases UK:M=L
  ·subst UK
   refine⟨a,dx,i3 f (.ref p) fs,k0,by rw[ao WW.symm];exact hx,aH,?_,k4,k5,k6,k7,λp hp=> ?_,λg u hu=> ?_,uv _ _ Xn⟩
   ·rw[ay (λz=>by rw[z,ha]at k3;cases k3)];exact k3
   ·rw[de]
    by_cases e:p.1=f
    ·rw[if_pos e,(hn p hp).mp e,gq W2];rfl
    ·rw[if_neg e,ao (λz=>e ((hn p hp).mpr z.symm))];exact k8 p hp
   ·rw[de]at hu
    by_cases e:g=f
    ·subst e;exact Lp.mpr ⟨_,hf,rfl⟩
    ·rw[if_neg e]at hu;exact k9 g u hu
  ·have ho:=Vp M hM UK
   rw[ao ho.1.symm]at hq
   obtain⟨b,dy,gs,g0,g1,g2,g3,g4,g5,g6,g7,g8,g9⟩:=r.obj M hM hq
   have nb:b≠a:=λz=>UK (r.odis M hM L hL hq hρ a (by rw[<-z];exact g1) hx)
   have nd:dy≠a:=λz=>by subst z;rw[ha]at g3;cases g3
   refine⟨b,dy,gs,g0,by rw[ao ho.1.symm];exact g1,by rw[ay nb];exact g2,by rw[ay nd];exact g3,g4,g5,g6,g7,λp hp=> ?_,g9⟩
   rw[ao (ho.2 p hp).symm];exact g8 p hp
 ·have Wi:∀M∈ly,M.x≠i:=λM hM=>by
   by_cases UK:M=L
   ·subst UK;exact WW
   ·exact(Vp M hM UK).1
  rw[ao (Wi M hM).symm]at q1 XZ
  rw[ao (Wi M' WX).symm]at q2 X_
  exact r.odis M hM M' WX XZ X_ x q1 q2
 ·rcases aA w with ⟨rfl,z,l⟩|⟨z,w⟩
  ·cases z
  ·have:=r.cel.one j L.x x Ri g hs .obj w hρ rfl
   subst this
   rw[hρ]at w
   cases w
 ·have Wi:M.x≠i:=by
   by_cases UK:M=L
   ·subst UK;exact WW
   ·exact(Vp M hM UK).1
  rw[ao Wi.symm];exact r.pin M hM a h
section
variable {X:Cx} {pos Rx px pl:KC} {f y g:JN}
def BZ (x i:Nat):ah->R bn:=λρ=>match ρ[x]? with
 |some (some .obj)=> .ok (.nx (ρ.set i (some (.own (.lst [])))))
 |_=> .bad
theorem FY {L:fj} (i:Nat) (hC:v6 X.K L.C) (n:eu X.K L.C f) (A:BH ly L f i) (hN:X.N[L.x]? =some y:=by rfl) (Zm:oO X.env.scope y:=by first|exact KG rfl|exact Kp (KG rfl)|exact Kp (Kp rfl)) (hd:(y==("__debug__":JN))=false:=by decide)
  (Sl:(y==("__classdict__":JN))=false:=by decide) (hi:X.N[i]? =some g:=by rfl) (hvis:¬oO X.env.scope g:=by decide+kernel) (hs:KR (.List [] pl) (some (.Attribute (.Name y px) f Rx)) pos.line X.env=pure false:=by rfl):
  n5 ly X (.Assign [.Attribute (.Name y px) f Rx] (.List [] pl) pos) (BZ L.x i):=by
 intro c R6 s σ H D I q
 obtain⟨F,ρ,ri,w⟩:=q
 have W2:i<σ.length:=by rw[I.len];exact(K9.mp hi).1
 unfold BZ at w
 split at w
 ·rename_i hρ
  refine yx i hi hvis (pv L.x hN Zm hd Sl) (tU gG) hs R6 s σ H D I ⟨Lx _,λp hp=> ?_⟩
  have Vg:=ri.step (cc.layOwn ri.sub (o:= .lst []) hp)
  obtain⟨a,dx,fs,h0,h1,h2,h3,h4,h5,h6,h7,h8,h9,Xo⟩:=Vg.obj L A.mem hρ
  have Rt:fs.length<1000:=by
   have:(fs.map (·.1)).length<=(L.fl.map (·.1)).length:=gY Xo λq hq=>by
    obtain⟨u,hu⟩:=ki hq
    exact h9 q u hu
   rw[JR,JR]at this
   exact NF this A.few
  refine⟨_,h1,a,L.C,dx,fs,rfl,h2,hC,n,Rt,?_⟩
  refine w _ _ F (b8.refl _) (Vg.fldO A.mem hρ h1 h2 A.fl A.un A.x A.oth W2 aH (ri.sub.free hp) (ri.ext.keep.free hp) (.lst .nil) λj d' hj e=> ?_)
  obtain⟨b,o',q1,q2,_⟩:=ri.own j d' hj
  rw[e]at q1
  cases q1
  rw[hp]at q2
  cases q2
 ·exact w.elim
end
def sk (fl:List (JN×Nat)) (fo:JN) (io:Nat) (ρ:ah):R (List (JN×D)×JN×List D):=match ρ[0]? with
 |some (some Slot.obj)=>(match ρ[io]? with
  |some (some (.own (.lst hs)))=>(match dX fl ρ with
   |some fds=> .ok (fds,fo,hs)
   |none=> .bad)
  |_=> .bad)
 |_=> .bad
def lE (k n:Nat) (fl:List (JN×Nat)) (fo:JN) (io:Nat) (g:ah->R bn) (ds:List D):R (List (JN×D)×JN×List D):=if ds.length=k then g (jq n ds)>>=λo=>match o with
 | .nx ρ=>sk fl fo io ρ
 |_=> .bad else .bad
def yE (K:JL) (C:JO) (cls:JN) (k:Nat) (mi:List D->R (List (JN×D)×JN×List D)):Sp:=λvs H Q E=>∃F x dx us ds Hz,vs= .ref x::us/\us.length=k/\b8 F Hz/\Hz x=none/\Hz dx=none/\dx≠x/\H=bY (bY Hz dx (.own x)) x (.ins C dx [])/\Reps K F us ds/\match mi ds with
 | .ok r=>∀H' F' Ww b,cc Hz F H' F'->li K Hz H' F' x Ww b cls r.1 r.2.1 r.2.2->Q .non H'
 | .err z _=>∀ec a H' F',fI K z ec->cc Hz F H' F'->E ec a H'
 | .bad=>False
theorem DK {K:JL} {C:JO} {cls fo:JN} {io:Nat} {fl:List (JN×Nat)} {c:dW [⟨0,C,fl++[(fo,io)]⟩]} {ρ:ah} {σ:St} {H F:Hp} {fds:List (JN×D)} {hs:List D} {x:JO} (ri:RI K c ρ σ H F) (hρ:ρ[0]? =some (some .obj)) (Zn:c.oa 0=some x) (Vk:K0 K JX cls=some (some (.ref C)))
  (ho:ρ[io]? =some (some (.own (.lst hs)))) (h:dX fl ρ=some fds) (Y8:fo∉fl.map (·.1)):∃dx b,li K c.H0 H F x dx b cls fds fo hs:=by
 obtain⟨a,dx,fs,h0,h1,h2,h3,h4,h5,h6,h7,h8,h9,Xo⟩:=ri.obj _ (K7.mpr rfl) hρ
 cases h0 x Zn
 obtain⟨vs,g1,g2,g3⟩:=n9 ri h λp hp=>h8 p (L4 _ hp)
 obtain⟨b,o,k1,k2,k3,k4,k5⟩:=ri.own io _ ho
 cases k5 with
 |lst q=>
  have lf:fs.lookup fo=some (.ref b):=by
   have:=h8 (fo,io) (Kr _ K6)
   rw[this]
   show (σ[io]?).join=_
   rw[k1];rfl
  refine⟨dx,b,⟨⟨C,fs,vs,_,h2,Vk,lf,k2,q,g1,g3,λg v hg=> ?_,Xo,by rw[g2];exact Y8⟩,h3,h4,h5,k3,h6,h7,k4⟩⟩
  have:=h9 g v hg
  rw[Kn]at this
  rcases KH.mp this with z|z
  ·exact .inr (by rw[g2];exact z)
  ·exact .inl (K7.mp z)
theorem B_ {P:K3} {w:Kd} {K:JL} {mg:JN->Option JM} {base:Ka} {x qual cls fo:JN} {st:Ke} {f C:JO} {fd:Lc} {N ps:List JN} {k n m io:Nat} {fl:List (JN×Nat)} {g:ah->R bn} (F:yg K x qual st f fd) (S:aE N ps (ak st))
  (Vk:K0 K JX cls=some (some (.ref C))) (hn:ps.length=n+1) (hm:N.length=m+1) (hg:∀p∈fl++[(fo,io)],n<p.2) (Wb:n<=m) (Y8:fo∉fl.map (·.1))
  (RE:∀(Rj:JM) (A:Kl) (outer:List Ly) (s:JP) (H:Hp) (E:XK),d7 k (A.deeper (LG qual (ak st) s.heap.objs.size f Rj))->
   jk [⟨0,C,fl++[(fo,io)]⟩] (j3 (lh P w) P w K mg base N qual (ak st) f Rj A outer s H E) (bO st) g):fH P w K mg base (lh P w) (k+1) f fd ps (yE K C cls n (lE n m fl fo io g)):=by
 refine Ia F S (λvs H Q E h=> ?_) (λRj A outer s H vs Q E hr h=> ?_)
 ·obtain⟨Fz,y,dy,us,ds,Hz,rfl,hl,_⟩:=h
  rw[Kh,hl,hn]
 ·obtain⟨Fz,y,dy,us,ds,Hz,rfl,hl,sub,hy,Y1,TC,rfl,r,w⟩:=h
  refine⟨_,RE Rj A outer s _ E hr ⟨⟨Hz,Fz,λ_=>none,λz _=>∀ec a H' F',fI K z ec->cc Hz Fz H' F'->E ec a H',λ_=>some y,λ_=>none⟩,ug λz ρ er ec a H' F' σ hc ri=>er ec a H' F' hc ri.ext⟩,?_⟩
  refine⟨Fz,jq m ds,t7 hm sub hy Y1 TC r (by omega) (λp hp=>by rw[hl];exact hg p hp),?_⟩
  have hd:ds.length=n:=by rw[<-r.length];exact hl
  unfold lE at w
  rw[if_pos hd]at w
  cases e:g (jq m ds)with
  |bad=>rw[e]at w;exact w.elim
  |err c ρ=>rw[e]at w;exact w
  |ok o=>
   rw[e]at w
   cases o with
   |nx ρ=>
    intro σ' H' F' _ Sq
    rw[aq]at w
    cases hρ:ρ[0]? with
    |none=>simp only[sk,hρ]at w
    |some s0=>
     cases s0 with
     |none=>simp only[sk,hρ]at w
     |some s0=>
      cases s0 with
      |obj=>
       cases ho:ρ[io]? with
       |none=>simp only[sk,hρ,ho]at w
       |some s1=>
        cases s1 with
        |none=>simp only[sk,hρ,ho]at w
        |some s1=>
         cases s1 with
         |own d=>
          cases d with
          |lst hs=>
           cases e2:dX fl ρ with
           |none=>simp only[sk,hρ,ho,e2]at w
           |some a0Y=>
            simp only[sk,hρ,ho,e2]at w
            obtain⟨dx,b,A⟩:=DK Sq hρ rfl Vk ho e2 Y8
            exact w H' F' dx b Sq.ext A
          |_=>simp only[sk,hρ,ho]at w
         |_=>simp only[sk,hρ,ho]at w
      |_=>simp only[sk,hρ]at w
   |_=>exact w.elim
structure vU (P:K3) (w:Kd) (K:JL) (mg:JN->Option JM) (base:Ka) (k:Nat) (cls:JN) (n:Nat) (mi:List D->R (List (JN×D)×JN×List D)):Prop where
 ex:∃C f fd ps,fH P w K mg base (lh P w) k f fd ps (yE K C cls n mi)/\mg cls=some (.ref C)/\Mk K C f/\gk K fd ps []
theorem C1 {P:K3} {w:Kd} {K:JL} {mg:JN->Option JM} {base:Ka} {cls qual fo:JN} {st:Ke} {N ps fs:List JN} {k n m io:Nat} {fl:List (JN×Nat)} {g:ah->R bn} (A:pf K mg cls qual st ps fs) (S:aE N ps (ak st)) (hn:ps.length=n+1) (hm:N.length=m+1) (hg:∀p∈fl++[(fo,io)],n<p.2) (Wb:n<=m) (Y8:fo∉fl.map (·.1))
  (RE:∀(C f:JO) (Rj:JM) (A:Kl) (outer:List Ly) (s:JP) (H:Hp) (E:XK),v6 K C->(∀x∈fs,eu K C x)->d7 k (A.deeper (LG qual (ak st) s.heap.objs.size f Rj))->
   jk [⟨0,C,fl++[(fo,io)]⟩] (j3 (lh P w) P w K mg base N qual (ak st) f Rj A outer s H E) (bO st) g):vU P w K mg base (k+1) cls n (lE n m fl fo io g):=by
 obtain⟨C,f,fd,F,h1,h2,h3,h4,h5⟩:=A.ex
 exact⟨C,f,fd,ps,B_ F S h1.ns hn hm hg Wb Y8 λRj A outer s H E hr=>RE C f Rj A outer s H E h1.cl h5 hr,h2,h3,h4⟩
def Ih (i:Nat) (ρ:ah):Bool:=(Kw ρ.length).all λj=>j==i||(match ρ[j]? with
 |some (some s)=> !s.single
 |_=>true)
theorem uB {i j:Nat} {ρ:ah} {s:Slot} (h:Ih i ρ=true) (hs:ρ[j]? =some (some s)) (hj:j≠i):s.single=false:=by
 have:=Nf.mp h j (Lr.mpr (K9.mp hs).1)
 rw[hs]at this
 simpa[hj]using this
theorem RI.setCel {K:JL} {c:dW ly} {ρ:ah} {σ:St} {H F:Hp} (r:RI K c ρ σ H F) (i:Nat) {a dx b:JO} {x:JN} {Ri:List (JN×D)} {f:JN} {hs:List D} (hf:kZ ly i) (hn:Ih i ρ=true) (A:li K c.H0 H F a dx b x Ri f hs) (ne:∀(j:Nat) d',ρ[j]? =some (some (.own d'))->σ[j]? ≠some (some (.ref b))):
  RI K c (ρ.set i (some (.cel x Ri f hs))) (σ.set i (some (.ref a))) H F where
 obj:=λL hL hρ=>by
  rw[ao (hf L hL).1.symm]at hρ
  have:=uB hn hρ (hf L hL).1
  cases this
 odis:=λL hL L' UE q1 q2 b k1 k2=>by
  rw[ao (hf L hL).1.symm]at k1 q1
  rw[ao (hf L' UE).1.symm]at k2 q2
  exact r.odis L hL L' UE q1 q2 b k1 k2
 fm:=r.fm
 ext:=r.ext
 val:=λj e q=>by
  rcases aA q with ⟨rfl,z,l⟩|⟨z,q⟩
  ·cases z
  ·rw[ao z];exact r.val j e q
 own:=λj e q=>by
  rcases aA q with ⟨rfl,z,l⟩|⟨z,q⟩
  ·cases z
  ·rw[ao z];exact r.own j e q
 bor:=λj e q=>by
  rcases aA q with ⟨rfl,z,l⟩|⟨z,q⟩
  ·cases z
  ·rw[ao z];exact r.bor j e q
 bh:=r.bh
 dis:=λj k e e' a q1 q2 q3 q4=>by
  rcases aA q1 with ⟨rfl,z,l⟩|⟨z,q1⟩
  ·cases z
  ·rcases aA q2 with ⟨rfl,z',l⟩|⟨z',q2⟩
   ·cases z'
   ·rw[ao z]at q3;rw[ao z']at q4
    exact r.dis j k e e' a q1 q2 q3 q4
 len:=by simp[r.len]
 pin:=λL hL b h=>by rw[ao (hf L hL).1.symm];exact r.pin L hL b h
 cel:=by
  refine⟨λj y vd g hh q=> ?_,λj k y vd g hh s q1 q2 Ru=> ?_⟩
  ·rcases aA q with ⟨rfl,z,l⟩|⟨z,q⟩
   ·cases z
    refine⟨a,dx,b,gq (by rw[<-r.len];exact l),A,λk d hk=> ?_⟩
    rcases aA hk with ⟨rfl,z',l'⟩|⟨z',hk⟩
    ·cases z'
    ·rw[ao z'];exact ne k d hk
   ·have:=uB hn q (Lz z)
    cases this
  ·rcases aA q1 with ⟨rfl,z,l⟩|⟨z,q1⟩
   ·rcases aA q2 with ⟨rfl,z',l'⟩|⟨z',q2⟩
    ·rfl
    ·have:=uB hn q2 (Lz z')
     rw[Ru]at this
     cases this
   ·have:=uB hn q1 (Lz z)
    cases this
section
variable {X:Cx} {e:JW} {es:List JW} {fs:ah->R (List D)} {cls:JN} {p pos U6 Rx:KC}
def uC (i:Nat) (cls:JN) (n:Nat) (mi:List D->R (List (JN×D)×JN×List D)) (fs:ah->R (List D)):ah->R bn:=λρ=>if Ih i ρ=true then (fs ρ>>=λds=>if ds.length=n then (match mi ds with
 | .ok r=> .ok (.nx (ρ.set i (some (.cel cls r.1 r.2.1 r.2.2))))
 | .err x _=> .err x ρ
 | .bad=> .bad)else .bad)else .bad
theorem DL (i:Nat) {x:JN} {k n:Nat} {mi:List D->R (List (JN×D)×JN×List D)} (Zv:X.N.Nodup) (G:vU X.prog X.w X.K X.mg X.base k cls n mi) (hr:d7 (k+1) X.A) (ha:xg ly X (e::es) fs) (hi:X.N[i]? =some x:=by rfl) (hx:zg X.env.scope x:=by first|exact KG rfl|exact Kp rfl)
  (hs:KR (.Call (.Name cls p) (e::es) [] pos) (some (.Name x Rx)) U6.line X.env=pure false:=by rfl) (hf:X.fn x=true\/X.env.scope.names.lookup x=some .local:=by first|exact .inl rfl|exact .inr rfl|assumption)
  (hg:Gl X cls:=by rfl) (T8:(cls==("__debug__":JN))=false:=by decide) (he:JS (e::es) X.env=(false,Kb e X.env)::JS es X.env:=by rfl) (Sm:(Ks pos (JS es X.env)).any (·.1)=false:=by rfl)
  (T9:kZ ly i:=by(repeat (first|assumption|exact L2.Pu.fD|refine L2.Pu.ef ⟨by first|decide|simp,by first|decide|simp⟩ ?_))):n5 ly X (.Assign [.Name x Rx] (.Call (.Name cls p) (e::es) [] pos) U6) (uC i cls n mi fs):=by
 obtain⟨C,f,fd,ps,h1,h2,h3,h4⟩:=G.ex
 refine λc=>PS.weak (mZ Zv hi hx (y6 h3 h1 hr hg h2 h4 .nil (pU c) (ha c) T8 he Sm) hs hf) λD σ H q=> ?_
 obtain⟨F,ρ,ri,w⟩:=q
 unfold uC at w
 split at w
 ·rename_i hn
  refine⟨F,ρ,ri,(aN.bind.mp w).imp λds _ w1 vs H1 F1 e1 r1 y dy hy Y1 TC=> ?_⟩
  rw[Lm]
  split at w1
  ·rename_i hl
   have Vg:=ri.step e1
   refine⟨F1,y,dy,vs,ds,H1,rfl,by rw[r1.length];exact hl,e1.sub,hy,Y1,TC,rfl,r1,?_⟩
   split at w1
   ·rename_i r hm
    intro H' F' Ww b e' A
    refine⟨rfl,?_⟩
    have kf:∀{z:JO},H1 z=none->c.1.H0 z=none:=λh=>Vg.ext.keep.free h
    refine w1 _ H' F' (e1.grow.trans e'.grow) ((Vg.step e').setCel i T9 hn ⟨A.ex,A.own,A.fa,A.fd,A.fb,kf A.za,kf A.zd,kf A.zb⟩ λj d' hj ej=> ?_)
    obtain⟨q,o,q1,q2,_⟩:=Vg.own j d' hj
    rw[ej]at q1
    cases q1
    have:=A.zb
    rw[q2]at this
    cases this
   ·exact λec a H' F' hc e'=>⟨_,ρ,F',hc,Vg.step e',w1⟩
   ·exact w1.elim
  ·exact w1.elim
 ·exact w.elim
end
end L2.Pu
namespace L2.Pu
open PySem PySem.Spec PyProof.Rows
variable {ly:List fj}
section
variable {K:JL} {F:Hp}
def iN:List D->Option (List Bool)
 |[]=>some []
 | .bl b::r=>(iN r).map (b::·)
 |_=>none
theorem pj:∀{ds:List D} {bs:List Bool} {vs:List V},iN ds=some bs->Reps K F vs ds->vs=bs.map V.bl:=by
 intro ds
 induction ds with
 |nil=>intro bs vs h r;cases h;rw[r.nilI];rfl
 |cons d r ih=>
  intro bs vs h g
  obtain⟨v,us,rfl,r1,t⟩:=g.consI
  cases d with
  |bl b=>
   cases r1
   replace h:(iN r).map (b::·)=some bs:=h
   cases e:iN r with
   |none=>rw[e]at h;cases h
   |some ms=>rw[e]at h;cases h;rw[ih e t];rfl
  |_=>cases h
theorem A6 (bs:List Bool):iN (bs.map .bl)=some bs:=by
 induction bs with
 |nil=>rfl
 |cons n r ih=>show (iN (r.map D.bl)).map (n::·)=_;rw[ih];rfl
def uD:List D->Option D
 |[.lst ds]=>(iN ds).map λbs=> .bl (bs.any id)
 |_=>none
theorem mh:my K (λxs H Q=>∃(p:JO) (bs:List Bool),xs=[.ref p]/\dS K H p (bs.map V.bl)/\Q (.bl (bs.any id)) H) uD:=by
 intro vs ds d H F Q s rv h k
 match ds,h with
 |[.lst xs],h=>
  obtain⟨v,rfl,r⟩:=rv.one
  obtain⟨a,ws,rfl,h1,h2⟩:=r.lst s
  replace h:(iN xs).map (λbs=>D.bl (bs.any id))=some d:=h
  cases e:iN xs with
  |none=>rw[e]at h;cases h
  |some bs=>
   rw[e]at h
   cases h
   rw[pj e h2]at h1
   exact⟨a,bs,rfl,dS.of h1,k _ H F (cc.refl s) (.bl _)⟩
theorem jL:KA "any"=some (.builtin "any"):=by decide+kernel
end
section
variable {X:Cx} {a o e:JW} {fa fo fk:ah->R D} {Rp Rm pos TF p1 p2:KC}
def qM (f:ah->R D):ah->R D:=λρ=>f ρ>>=λd=>match d with
 | .lst ds=>(match cQ ds with|some ns=>if ns.length<4000 then .ok (.int (gp ns))else .bad|none=> .bad)
 | .tup ds=>(match cQ ds with|some ns=>if ns.length<4000 then .ok (.int (gp ns))else .bad|none=> .bad)
 |_=> .bad
theorem C3 (hc:X.calm=true) (Z8:X.mg "len"=none) (Z9:X.mg "set"=none) (ha:PB ly X a fa) (Za:Gl X "len":=by rfl) (Zb:Gl X "set":=by rfl)
  (Yj:JS [a] X.env=(false,Kb a X.env)::JS [] X.env:=by rfl) (WQ:(Ks TF (JS [] X.env)).any (·.1)=false:=by rfl)
  (VV:JS [.Call (.Name "set" p2) [a] [] TF] X.env=(false,Kb (.Call (.Name "set" p2) [a] [] TF) X.env)::JS [] X.env:=by rfl) (WR:(Ks pos (JS [] X.env)).any (·.1)=false:=by rfl):
  PQ ly X (.Call (.Name "len" p1) [.Call (.Name "set" p2) [a] [] TF] [] pos) (qM fa):=λc=>
 PE.weak (zG hc (ha c) Z8 Z9 Za Zb Yj WQ VV WR) λσ H Q ⟨F,ρ,ri,w⟩=>⟨F,ρ,ri,(aN.bind.mp w).imp λd _ w1 v H1 F1 e1 r1=>by
  cases d with
  |lst ds=>
   obtain⟨p,vs,rfl,h1,h2⟩:=r1.lst e1.sub
   cases q:cQ ds with
   |none=>simp only[q]at w1;exact w1.elim
   |some ns=>
    simp only[q]at w1
    split at w1
    ·rename_i hl
     rw[gK q h2]at h1
     exact⟨p,ns,rfl, .inl (dS.of h1),hl,w1 _ H1 F1 e1 (.int _)⟩
    ·exact w1.elim
  |tup ds=>
   obtain⟨p,vs,rfl,h1,h2⟩:=r1.tup e1.sub
   cases q:cQ ds with
   |none=>simp only[q]at w1;exact w1.elim
   |some ns=>
    simp only[q]at w1
    split at w1
    ·rename_i hl
     rw[gK q h2]at h1
     exact⟨p,ns,rfl, .inr (iE.of h1),hl,w1 _ H1 F1 e1 (.int _)⟩
    ·exact w1.elim
  |_=>exact w1.elim⟩
def Ek (fo fk:ah->R D):ah->R D:=λρ=>fo ρ>>=λd=>match d with
 | .lst ds=>fk ρ>>=λk=>(match iN ds,k with
  |some bs, .bl b=> .ok (.int (bs.count b))
  |_,_=> .bad)
 |_=> .bad
def El (fo fk:ah->R D):ah->R D:=λρ=>fo ρ>>=λd=>match d with
 | .lst ds=>fk ρ>>=λk=>(match iN ds,k with
  |some bs, .bl b=>if b∈bs/\bs.length<1000 then .ok (.int (bs.idxOf b))else .bad
  |_,_=> .bad)
 |_=> .bad
theorem FZ (ho:PB ly X o fo) (hk:PQ ly X a fk) (RT:KI o "count" X.env (Kb o X.env)=Kb o X.env:=by rfl)
  (TM:((Ks Rm (JS [a] X.env)).all (λx=> !x.1)&&(LF Rm (Le [] X.env)).all (λx=>x.1.isSome)
   &&decide (([a]:List JW).length+([]:List LR).length+(if ([]:List LR).isEmpty then 0 else 1)<30))=true:=by rfl)
  (RU:(Rp.endLine==Rm.line)=true:=by rfl) (hs:JS [a] X.env=(false,Kb a X.env)::JS [] X.env:=by rfl) (RV:(Ks Rm (JS [] X.env)).any (·.1)=false:=by rfl):
  PQ ly X (.Call (.Attribute o "count" Rp) [a] [] Rm) (Ek fo fk):=λc=>
 PE.weak (ye Lf M6 OC zC (ho c) (df (hk c) gG hs) RT TM RU hs RV) λσ H Q ⟨F,ρ,ri,w⟩=>⟨F,ρ,ri,(aN.bind.mp w).imp λd _ w1 v H1 F1 e1 r1=>by
  cases d with
  |lst ds=>
   obtain⟨p,vs,rfl,h1,h2⟩:=r1.lst e1.sub
   refine⟨.inl ⟨rfl,vs,dS.of h1⟩,F1,ρ,ri.step e1,(aN.bind.mp w1).imp λk _ w2 u H2 F2 e2 r2=> ?_⟩
   cases q:iN ds with
   |none=>simp only[q]at w2;exact w2.elim
   |some bs=>
    cases k with
    |bl b=>
     cases r2
     simp only[q]at w2
     rw[pj q h2]at h1
     exact⟨p,b,bs,rfl,rfl,dS.of (e2.keep _ _ h1),w2 _ H2 F2 (e1.trans e2) (.int _)⟩
    |_=>simp only[q]at w2;exact w2.elim
  |_=>exact w1.elim⟩
theorem F_ (ho:PB ly X o fo) (hk:PQ ly X a fk) (RT:KI o "index" X.env (Kb o X.env)=Kb o X.env:=by rfl)
  (TM:((Ks Rm (JS [a] X.env)).all (λx=> !x.1)&&(LF Rm (Le [] X.env)).all (λx=>x.1.isSome)
   &&decide (([a]:List JW).length+([]:List LR).length+(if ([]:List LR).isEmpty then 0 else 1)<30))=true:=by rfl)
  (RU:(Rp.endLine==Rm.line)=true:=by rfl) (hs:JS [a] X.env=(false,Kb a X.env)::JS [] X.env:=by rfl) (RV:(Ks Rm (JS [] X.env)).any (·.1)=false:=by rfl):
  PQ ly X (.Call (.Attribute o "index" Rp) [a] [] Rm) (El fo fk):=λc=>
 PE.weak (ye Lf OB PySem.F.type_list_index zD (ho c) (df (hk c) gG hs) RT TM RU hs RV) λσ H Q ⟨F,ρ,ri,w⟩=>⟨F,ρ,ri,(aN.bind.mp w).imp λd _ w1 v H1 F1 e1 r1=>by
  cases d with
  |lst ds=>
   obtain⟨p,vs,rfl,h1,h2⟩:=r1.lst e1.sub
   refine⟨.inl ⟨rfl,vs,dS.of h1⟩,F1,ρ,ri.step e1,(aN.bind.mp w1).imp λk _ w2 u H2 F2 e2 r2=> ?_⟩
   cases q:iN ds with
   |none=>simp only[q]at w2;exact w2.elim
   |some bs=>
    cases k with
    |bl b=>
     cases r2
     simp only[q]at w2
     split at w2
     ·rename_i hb
      rw[pj q h2]at h1
      exact⟨p,b,bs,rfl,rfl,dS.of (e2.keep _ _ h1),hb.1,hb.2,w2 _ H2 F2 (e1.trans e2) (.int _)⟩
     ·exact w2.elim
    |_=>simp only[q]at w2;exact w2.elim
  |_=>exact w1.elim⟩
end
end L2.Pu
namespace L2
open PySem PySem.Spec PyProof.Rows
section
variable {X:Cx}
def G0 (k:Int):JM->Bool
 | .int b _=>b==k
 |_=>false
theorem uE {k:Int}:∀{ns:List Int} {its:List JM},bi (ns.map V.int) its->its.countP (G0 k)=ns.count k
 |[],its,r=>by cases r;rfl
 |b::bs,its,r=>by
  cases r with
  |cons h t=>obtain⟨u,rfl⟩:=h;rw[Qp,QF,uE t];rfl
def yF (K:JL):V->List V->Hp->VK->Prop:=λx vs H Q=>∃(l:JO) (k:Int) (ns:List Int),x= .ref l/\vs=[.int k]/\dS K H l (ns.map V.int)/\Q (.int (ns.count k)) H
theorem A7:F9 X "list.count" (yF X.K):=by
 intro R6 s σ H x vs v us Q I rx rv h
 obtain⟨l,k,bs,rfl,rfl,hx,q⟩:=h
 cases rx
 obtain⟨u,rfl,ru⟩:=rv.one
 obtain⟨tk,rfl⟩:=ru
 obtain⟨its,r,ht,hz⟩:=I.list hx
 obtain⟨⟨cls,dd,data,sl⟩,ho,hc,n,hd⟩:=ht.isList
 simp only at hc hd
 subst hc hd
 refine Mc M6 ⟨_,ho,rfl⟩ Oo (O2 _ _) (Oq l its.toArray n dd sl (.int k tk) (G0 k)) ⟨ho,λy hy=> ?_,?_⟩
 ·obtain⟨i,hi,e⟩:=M5 (show y∈its by simpa using hy)
  obtain⟨t,rfl⟩:=ud r (i:=i) (v:=y) (by rw[Kx hi,e])
  exact N8 _ t k tk
 ·rw[show its.toArray.toList=its from rfl,uE r]
  exact⟨.int _,H,I.tok _,⟨_,rfl⟩,q⟩
def HH (K:JL):R2:=λx y H Q=>∃p q xs,x= .ref p/\y= .ref q/\dS K H p xs/\dS K H q []/\Q (.bl (!xs.isEmpty)) H
theorem pq (hu:X.A.units+1<Ma):lX X (Lo .NotEq) (HH X.K):=by
 intro R6 s σ H x y v u Q I rx ry h
 obtain⟨p,q,xs,rfl,rfl,h1,h2,k⟩:=h
 cases rx
 cases ry
 obtain⟨its,r,pl,hz⟩:=I.list h1
 obtain⟨Us,r2,a0f,a2r⟩:=I.list h2
 cases r2
 have l:=r.length
 cases xs with
 |nil=>
  cases its with
  |nil=>exact SeqAt.RcNeAt.lists (e:=λ_=>true) pl.isList a0f.isList rfl (by omega) (λj a b=>by simp at b) X.prog X.w X.xe (EP X R6 σ Q) ⟨.bl _,H,I,rfl,by simpa using k⟩
  |cons a b=>cases l
 |cons a b=>
  cases its with
  |nil=>cases l
  |cons c d=>exact SeqAt.RcNeAt.lists_lengths pl.isList a0f.isList (by simp) (by omega) X.prog X.w X.xe (EP X R6 σ Q) ⟨.bl _,H,I,rfl,by simpa using k⟩
end
end L2
namespace L2.Pu
open PySem PySem.Spec PyProof.Rows
variable {ly:List fj}
section
variable {K:JL} {F:Hp}
def JG:List D->Option D
 |[.lst ds]=>(iN ds).map λbs=> .bl (bs.all id)
 |_=>none
def qu:D->D->Option D
 | .lst ds, .lst []=>some (.bl (!ds.isEmpty))
 |_,_=>none
theorem mj:ka K (HH K) qu:=by
 intro v u x y d H F Q s rx ry h k
 unfold qu at h
 split at h
 ·rename_i ds
  cases h
  obtain⟨p,vs,rfl,h1,h2⟩:=rx.lst s
  obtain⟨q,us,rfl,h3,h4⟩:=ry.lst s
  rw[h4.nilI]at h3
  refine⟨p,q,vs,rfl,rfl,dS.of h1,dS.of h3,?_⟩
  have l:=h2.length
  have e:vs.isEmpty=ds.isEmpty:=by
   cases vs<;>cases ds<;>first|rfl|cases l
  rw[e]
  exact k _ H F (cc.refl s) (.bl _)
 ·cases h
end
section
variable {X:Cx} {a b o e:JW} {fa fb fo fk:ah->R D} {Rp Rm pos:KC}
end
end L2.Pu
namespace L2.Pu
open PySem PySem.Spec PyProof.Rows
variable {ly:List fj}
section
variable {X:Cx} {TY tg RB:JW} {Tz:List JW} {scope:LL} {pos:KC} {fi:ah->R (List D)} {g:D->ah->R ah} {gt:ah->R Bool} {fe:ah->R D}
end
end L2.Pu
namespace L2
open PySem PySem.Spec PyProof.Rows
section
variable {X:Cx} {R6:List (JO×Kq)} {σ:St} {H:Hp} {s:JP}
theorem A8:dU X (.builtin "abs") (λxs H Q=>∃i,xs=[.int i]/\Q (.int (if i<0 then -i else i)) H):=by
 intro R6 s σ H xs us Q I r h
 obtain⟨i,rfl,q⟩:=h
 obtain⟨u,rfl,t,rfl⟩:=jz r
 exact call_abs_int λu tk=>⟨.int _,H,I.tok _,⟨_,rfl⟩,q⟩
end
end L2
namespace L2.Pu
open PySem PySem.Spec PyProof.Rows
variable {ly:List fj}
def HI:List D->Option D
 |[.int i]=>some (.int (if i<0 then -i else i))
 |_=>none
theorem DM {K:JL}:my K (λxs H Q=>∃i,xs=[.int i]/\Q (.int (if i<0 then -i else i)) H) HI:=by
 intro vs ds d H F Q s rv h k
 match ds,h with
 |[.int i],h=>
  obtain⟨v,rfl,r⟩:=rv.one
  cases r.int
  cases h
  exact⟨i,rfl,k _ H F (cc.refl s) (.int _)⟩
theorem A9:KA "abs"=some (.builtin "abs"):=by decide+kernel
section
variable {X:Cx} {a b e:JW} {f fk fv:ah->R D} {pos:KC}
end
end L2.Pu
namespace L2
open PySem PySem.Spec PyProof.Rows
section
variable {X:Cx} {R6:List (JO×Kq)} {σ:St} {H:Hp} {s:JP} {h':Ka}
variable {o:JW} {to:TE} {p1 Rp Rm pos:KC}
end
end L2
namespace L2.Pu
open PySem PySem.Spec PyProof.Rows
variable {ly:List fj}
section
variable {K:JL} {F:Hp}
end
section
variable {X:Cx} {o:JW} {fo:ah->R D} {p1 Rp Rm pos:KC}
end
end L2.Pu
namespace L2.Pu
open PySem PySem.Spec PyProof.Rows
variable {ly:List fj}
section
variable {X:Cx} {e:JW} {f:ah->R D} {pos:KC}
def Jm (i:Nat) (fk:ah->R D):ah->R bn:=λρ=>match ρ[i]? with
 |some (some (.own (.lst ds)))=>fk ρ>>=λk=>match k with
  | .int n=>if n.natAbs<=lim then (match seqIndex? n ds.length with
   |some m=>(match ds[m]? with
    |some _=> .ok (.nx (ρ.set i (some (.own (.lst (ds.eraseIdx m))))))
    |none=> .bad)
   |none=> .bad)else .bad
  |_=> .bad
 |_=> .bad
def yG (i:Nat):ah->R bn:=λρ=>match ρ[i]? with
 |some (some (.own (.lst ds)))=>(match ds[ds.length - 1]? with
  |some _=> .ok (.nx (ρ.set i (some (.own (.lst ds.dropLast)))))
  |none=> .bad)
 |_=> .bad
theorem G1 (i:Nat) {x:JN} {px Rp Rm:KC} (hN:X.N[i]? =some x:=by rfl) (hv:oO X.env.scope x:=by first|exact KG rfl|exact Kp (KG rfl)|exact Kp (Kp rfl)) (hd:(x==("__debug__":JN))=false:=by decide)
  (Sl:(x==("__classdict__":JN))=false:=by decide) (RT:KI (.Name x px) "pop" X.env (Kb (.Name x px) X.env)=Kb (.Name x px) X.env:=by rfl)
  (RU:(Rp.endLine==Rm.line)=true:=by rfl)
  (U_:KR (.Call (.Attribute (.Name x px) "pop" Rp) [] [] Rm) none pos.line X.env=pure false:=by rfl):n5 ly X (.Expr (.Call (.Attribute (.Name x px) "pop" Rp) [] [] Rm) pos) (yG i):=λc=>
 PS.weak (nO (AW Lf P7 P8 AX (pv i hN hv hd Sl) RT RU) U_) λD σ H ⟨F,ρ,ri,w⟩=>by
  unfold yG at w
  split at w
  ·rename_i ds hi
   obtain⟨a,vs,h1,h2,h3⟩:=ri.ownL hi
   split at w
   ·rename_i d hd
    obtain⟨v,m1,m2⟩:=h3.get hd
    refine⟨_,h1, .inl ⟨rfl,vs,dS.of h2⟩,a,vs,v,rfl,rfl,h2,by rw[h3.length];exact m1,?_⟩
    exact w _ _ F (b8.refl _) (ri.change (o:= .lst vs) hi h1 (.lst h3.dropLast))
   ·exact w.elim
  ·exact w.elim
end
end L2.Pu
namespace L2.Pu
open PySem PySem.Spec PyProof.Rows
variable {ly:List fj}
section
variable {X:Cx} {a b e:JW} {rest:List JW} {f:ah->R D} {fx fy:ah->R (D×ah)} {gx gy:ah->R (Bool×ah)} {g:ah->R Bool} {pos:KC}
def Jn (ly:List fj) (X:Cx) (e:JW) (gx:ah->R (Bool×ah)):Prop:=∀c:j4 ly X,PW X e (Jl X.K c.1 gx)
theorem Jn.t (h:Jn ly X e gx):HG ly X e gx:=λc=>(h c).pt
end
end L2.Pu
namespace L2.Pu
open PySem PySem.Spec PyProof.Rows
section
variable {K:JL} {mg:JN->Option JM} {h:Ka}
def UF (K:JL) (x:JN) (st:Ke):Prop:=∃(f:JO) (oc:JM) (od:Option JO) (kV Sk pm:JM) (an:Option JO) (Rj ct:JM) (Ur:Array (Option JM)),K0 K JX x=some (some (.ref f))/\K.lookup f=some ⟨oc,od, .func (KP x x (dq st) (bO st) (ak st) .none kV Sk pm an Rj ct),Ur⟩/\L_ K Rj x=true/\KJ K (.ref f)=true
def q9 (K:JL) (C:JO) (m qual:JN) (st:Ke):Prop:=∃(f:JO) (oc:JM) (od:Option JO) (kV Sk pm:JM) (an:Option JO) (Rj ct:JM) (Ur:Array (Option JM)),K4 K (.ref C) m=some (some (.ref f))/\K.lookup f=some ⟨oc,od, .func (KP m qual (dq st) (bO st) (ak st) .none kV Sk pm an Rj ct),Ur⟩/\L_ K Rj qual=true/\KJ K (.ref f)=true/\Nq K (.ref f)=true
def BA (x qual:JN) (st:Ke) (ps:List JN):Prop:=∀(kV Sk pm:JM) (an:Option JO) (Rj ct:JM) (us:List JM),us.length=ps.length->LN (KP x qual (dq st) (bO st) (ak st) .none kV Sk pm an Rj ct) ⟨us,[]⟩=pure (ps.zip us)
theorem UF.at {x:JN} {st:Ke} {ps:List JN} (u:UF K x st) (X:K.In h) (G:h.Ns JX mg) (hb:BA x x st ps):cT K mg x st ps:=by
 obtain⟨f,oc,od,kV,Sk,pm,an,Rj,ct,Ur,h1,h2,h3,h4⟩:=u
 exact⟨_,_,n0 (st:=st) h2 h3 h4,Kg X G h1,(n0 (st:=st) h2 h3 h4).binds hb⟩
theorem q9.at {C:JO} {cls m qual:JN} {st:Ke} {ps:List JN} (u:q9 K C m qual st) (c:ja K cls C) (hb:BA m qual st ps):dI K cls m qual st ps:=by
 obtain⟨f,oc,od,kV,Sk,pm,an,Rj,ct,Ur,h1,h2,h3,h4,h5⟩:=u
 exact⟨_,_,_,n0 (st:=st) h2 h3 h4,c,⟨h1,h5,h4⟩,(n0 (st:=st) h2 h3 h4).binds hb⟩
theorem q9.mk {C:JO} {cls qual:JN} {st:Ke} {ps fs:List JN} (u:q9 K C "__init__" qual st) (c:ja K cls C) (hm:mg cls=some (.ref C)) (p5:M9 K C=true) (p6:KJ K (.ref C)=true) (no:∀x∈fs,eu K C x) (hb:BA "__init__" qual st ps):pf K mg cls qual st ps fs:=by
 obtain⟨f,oc,od,kV,Sk,pm,an,Rj,ct,Ur,h1,h2,h3,h4,h5⟩:=u
 exact⟨_,_,_,n0 (st:=st) h2 h3 h4,c,hm,⟨p5,h1,h5,p6⟩,(n0 (st:=st) h2 h3 h4).binds hb,no⟩
def DN (K:JL) (C:JO):Prop:=L3 K C vm "ValueError.__new__"=true/\K4 K (.ref C) "__getattribute__"=some (some (.builtin "BaseException.__getattribute__"))/\K4 K (.ref C) "__getattr__"=some none/\K4 K (.ref C) "__class__"=some (some (.builtin "object.__class__"))/\
 Kz K C (.type "object")=some true/\Kz K C (.type "BaseException")=some true/\Kz K C (.ref C)=some true
def xz (K:JL):List JO->Prop
 |[]=>True
 |C::r=>DN K C/\xz K r
def uF (K:JL):List JN->List JO->Prop
 |[],[]=>True
 |x::xs,C::Cs=>K0 K JX x=some (some (.ref C))/\uF K xs Cs
 |_,_=>False
def i6 (K:JL) (v:JM) (f:Nat->Bool):Nat->List JO->Prop
 |_,[]=>True
 |i,C::r=>Kz K C v=some (f i)/\i6 K v f (i+1) r
def xA {α:Type} (f:Nat->Bool):Nat->List α->List (α×Bool)
 |_,[]=>[]
 |i,x::r=>(x,f i)::xA f (i+1) r
def Gv (K:JL):Prop:=Mh K (.builtin "object.__class__") "__get__"=some (some (.builtin "getset_descriptor.__get__"))/\MI K (.builtin "object.__class__")=some true
theorem DN.ok {C:JO} (e:DN K C) (s:Gv K):ue K C:=by
 obtain⟨e1,e2,e3,e4,e5,e6,e7⟩:=e
 exact DF e1 e2 e3 e4 e5 e6 (ph e1 e7) s.1 s.2
theorem pw {v:JM} {f:Nat->Bool} (s:Gv K) (hk:∀C b,Kz K C v=some b->Kz K C (.ref C)=some true->L0 K (.ref C) v=some b):∀{xs:List JN} {Cs:List JO} {i:Nat},uF K xs Cs->xz K Cs->i6 K v f i Cs->
  ∀p∈xA f i xs,∃Ce,K0 K JX p.1=some (some (.ref Ce))/\L0 K (.ref Ce) v=some p.2/\ue K Ce
 |[],[],i,n,e,r,p,hp=>by cases hp
 |[],_::_,i,n,e,r,p,hp=>n.elim
 |_::_,[],i,n,e,r,p,hp=>n.elim
 |x::xs,C::Cs,i,n,e,r,p,hp=>by
  rcases K1.mp hp with rfl|hp
  ·exact⟨C,n.1,hk C _ r.1 e.1.2.2.2.2.2.2,e.1.ok s⟩
  ·exact pw s hk n.2 e.2 r.2 p hp
theorem cD {x:JN} {C:JO} {f:Nat->Bool} {xs:List JN} {Cs:List JO} (s:Gv K) (N:uF K xs Cs) (E:xz K Cs) (hm:mg x=some (.ref C)) (e1:L3 K C vm "ValueError.__new__"=true) (R:i6 K (.ref C) f 0 Cs):eC K mg x (A1 (xA f 0 xs)):=
 ⟨_,hm,vN (pw s (λ_ _ m q=>zW e1 m q) N E R)⟩
theorem DO {f:Nat->Bool} {xs:List JN} {Cs:List JO} (s:Gv K) (N:uF K xs Cs) (E:xz K Cs) (R:i6 K (.type "ValueError") f 0 Cs):pY K (.type "ValueError") (A1 (xA f 0 xs)):=
 vN (pw s (λ_ _ m _=>zX m) N E R)
theorem dh (s:Gv K) (X:K.In h) (G:h.Ns JX mg):∀{xs:List JN} {Cs:List JO},uF K xs Cs->xz K Cs->∀x∈xs,cJ K mg x
 |[],[],n,e,x,hx=>by cases hx
 |[],_::_,n,e,x,hx=>n.elim
 |_::_,[],n,e,x,hx=>n.elim
 |y::xs,C::Cs,n,e,x,hx=>by
  rcases K1.mp hx with rfl|hx
  ·exact⟨C,n.1,Kg X G n.1,e.1.ok s⟩
  ·exact dh s X G n.2 e.2 x hx
theorem bw:∀{xs:List JN} {Cs:List JO},uF K xs Cs->xz K Cs->∀(x:JN) (C:JO),(xs.zip Cs).lookup x=some C->K0 K JX x=some (some (.ref C))/\DN K C
 |[],Cs,n,e,x,C,hx=>by cases hx
 |_::_,[],n,e,x,C,hx=>n.elim
 |y::xs,C'::Cs,n,e,x,C,hx=>by
  rw[List.zip_cons_cons,L8]at hx
  cases q:x==y with
  |true=>rw[q]at hx;cases hx;rw[eq_of_beq q];exact⟨n.1,e.1⟩
  |false=>rw[q]at hx;exact bw n.2 e.2 x C hx
theorem Aa {cx:JN} {D:JO} (hm:mg cx=some (.ref D)) (e1:L3 K D vm "ValueError.__new__"=true) (e6:Kz K D (.type "BaseException")=some true) {xs:List JN} {Cs:List JO} (N:uF K xs Cs) (R:i6 K (.ref D) (λ_=>true) 0 Cs):vH K mg cx (zZ xs):=by
 refine BQ hm ?_
 have:∀{xs:List JN} {Cs:List JO} {i:Nat},uF K xs Cs->i6 K (.ref D) (λ_=>true) i Cs->∀x∈xs,∃Ce,K0 K JX x=some (some (.ref Ce))/\Mp K (.ref Ce) (.ref D)=some true:=by
  intro xs
  induction xs with
  |nil=>intro Cs i n r x hx;cases hx
  |cons y xs ih=>
   intro Cs i n r x hx
   cases Cs with
   |nil=>exact n.elim
   |cons C Cs=>
    rcases K1.mp hx with rfl|hx
    ·exact⟨C,n.1,zY e1 r.1 e6⟩
    ·exact ih n.2 r.2 x hx
 exact this N R
end
section
variable {x qual:JN} {st:Ke}
theorem b0 (h:∀kV Sk pm an Rj ct,LN (KP x qual (dq st) (bO st) (ak st) .none kV Sk pm an Rj ct) ⟨[],[]⟩=pure []:=by intros;rfl):BA x qual st []:=λ_ _ _ _ _ _=>Jg (h _ _ _ _ _ _)
theorem b1 {p:JN} (h:∀kV Sk pm an Rj ct a,LN (KP x qual (dq st) (bO st) (ak st) .none kV Sk pm an Rj ct) ⟨[a],[]⟩=pure [(p,a)]:=by intros;rfl):BA x qual st [p]:=λ_ _ _ _ _ _=>Jh (P:=λus=>LN _ ⟨us,[]⟩=pure (Pk _ us)) (h _ _ _ _ _ _)
theorem b2 {p q:JN} (h:∀kV Sk pm an Rj ct a b,LN (KP x qual (dq st) (bO st) (ak st) .none kV Sk pm an Rj ct) ⟨[a,b],[]⟩=pure [(p,a),(q,b)]:=by intros;rfl):BA x qual st [p,q]:=λ_ _ _ _ _ _=>Ji (P:=λus=>LN _ ⟨us,[]⟩=pure (Pk _ us)) (h _ _ _ _ _ _)
theorem b3 {p q r:JN} (h:∀kV Sk pm an Rj ct a b c,LN (KP x qual (dq st) (bO st) (ak st) .none kV Sk pm an Rj ct) ⟨[a,b,c],[]⟩=pure [(p,a),(q,b),(r,c)]:=by intros;rfl):BA x qual st [p,q,r]:=λ_ _ _ _ _ _=>Jj (P:=λus=>LN _ ⟨us,[]⟩=pure (Pk _ us)) (h _ _ _ _ _ _)
theorem b4 {p q r t:JN} (h:∀kV Sk pm an Rj ct a b c d,LN (KP x qual (dq st) (bO st) (ak st) .none kV Sk pm an Rj ct) ⟨[a,b,c,d],[]⟩=pure [(p,a),(q,b),(r,c),(t,d)]:=by intros;rfl):BA x qual st [p,q,r,t]:=λ_ _ _ _ _ _=>Jk (P:=λus=>LN _ ⟨us,[]⟩=pure (Pk _ us)) (h _ _ _ _ _ _)
theorem b5 {p q r t u:JN} (h:∀kV Sk pm an Rj ct a b c d e,LN (KP x qual (dq st) (bO st) (ak st) .none kV Sk pm an Rj ct) ⟨[a,b,c,d,e],[]⟩=pure [(p,a),(q,b),(r,c),(t,d),(u,e)]:=by intros;rfl):BA x qual st [p,q,r,t,u]:=λ_ _ _ _ _ _=>JF (P:=λus=>LN _ ⟨us,[]⟩=pure (Pk _ us)) (h _ _ _ _ _ _)
end
end L2.Pu
namespace L2.Pu
open PySem PySem.Spec PyProof.Rows
variable {ly:List fj}
section
variable {X:Cx} {a b e:JW} {es:List JW} {st:Ke} {rest:List Ke} {f:ah->R D} {fs:ah->R (List D)} {g:ah->R bn} {gn:ah->R D} {pos p:KC} {x:JN}
end
section
variable {P:K3} {w:Kd} {K:JL} {mg:JN->Option JM} {base:Ka}
end
end L2.Pu
namespace L2
open PySem PySem.Spec PyProof.Rows
section
variable {X:Cx}
theorem so:dU X (.builtin "sorted") (λxs H Q=>∃p ns,xs=[.ref p]/\H p=some (.tup (ns.map V.int))/\ns.length<64/\∀l,H l=none->Q (.ref l) (bY H l (.lst ((cS ns).map V.int)))):=by
 intro R6 s σ H xs us Q I rv h
 obtain⟨p,ns,rfl,hp,Y_,q⟩:=h
 obtain⟨u,rfl,ru⟩:=jz rv
 cases ru
 obtain⟨hz,its,r,o,ho,hc,n,hd,_⟩:=(show ce X.prog X.w H s.heap p (.tup (ns.map V.int))from I.hok p _ hp)
 have hI:=jY r
 have Rt:=r.length
 rw[JR]at Rt
 refine ML Qk Q1 Q2 (Q3 _) ?_
 unfold NB.«sorted»
 refine JQ (m:=QC "sorted" 1 1 _) (JY ?_)
 refine JQ (Qg p (.inr rfl) ho hc hd (λh' Vm=> ?_) (by rw[JU,Ld];omega))
 have eT:its.toArray.toList=its:=by simp
 rw[eT]
 refine JQ (Na ?_ (by rw[Ld];omega))
 have VF:(h'.push (seqObj "list" its.toArray 0)).get? h'.objs.size=some (seqObj "list" its.toArray 0):=Ko _ rfl
 refine JQ (KO (Mu P2 ⟨_,VF,rfl⟩ OM (list_sort_tree VF hI (by omega) λz zs a1 a2 a3=>⟨_,rfl,?_⟩) (P4 _)))
 refine JY ⟨_,rfl,?_⟩
 obtain⟨e,he⟩:=Po (out:=z) VF
 have en:zs=cS ns:=gW (a2.trans (iF ns).symm) a3 (iw ns)
 subst en
 have T9:s.heap.get? h'.objs.size=none:=by
  cases e:s.heap.get? h'.objs.size with
  |none=>rfl
  |some o=>exact absurd (K5 (Vm _ _ e)) (Lb _)
 have kk:∀b o,s.heap.get? b=some o->(Ph (h'.push (seqObj "list" its.toArray 0)) h'.objs.size its z).get? b=some o:=λb o eb=>by
  have hb:=Vm b o eb
  have U1:b<h'.objs.size:=K5 hb
  rw[P5 (Ku U1) (by rw[QD];exact LV U1)]
  exact JV _ hb
 refine⟨.ref h'.objs.size,_,I.laidAt (o:= .lst ((cS ns).map V.int)) kk T9 ⟨?_,z.toList,e,jB a1,by simpa[seqObj]using he⟩,rfl,q _ (I.hok.nowhere T9)⟩
 have h1:=a2.length_eq
 rw[JR,h1,Ld];omega
end
end L2
namespace L2.Pu
open PySem PySem.Spec PyProof.Rows
def tD:List D->Option D
 |[.tup ds]=>(cQ ds).bind λns=>if ns.length<64 then some (.lst ((cS ns).map .int))else none
 |_=>none
theorem uG {K:JL}:my K (λxs H Q=>∃p ns,xs=[.ref p]/\H p=some (.tup (ns.map V.int))/\ns.length<64/\∀l,H l=none->Q (.ref l) (bY H l (.lst ((cS ns).map V.int)))) tD:=by
 intro vs ds d H F Q s rv h k
 match ds,h with
 |[.tup xs],h=>
  obtain⟨v,rfl,r⟩:=rv.one
  obtain⟨a,ws,rfl,h1,h2⟩:=r.tup s
  replace h:((cQ xs).bind λns=>if ns.length<64 then some (D.lst ((cS ns).map .int))else none)=some d:=h
  cases e:cQ xs with
  |none=>rw[e]at h;cases h
  |some ns=>
   rw[e]at h
   dsimp only[Option.bind]at h
   split at h
   ·rename_i hl
    cases h
    rw[gK e h2]at h1
    exact⟨a,ns,rfl,h1,hl,λl hn=>by
     have e2:=cc.lay (o:= .lst ((cS ns).map V.int)) s hn
     exact k _ _ _ e2 (.lst aH (jH _))⟩
   ·cases h
end L2.Pu
namespace L2
open PySem PySem.Spec PyProof.Rows L2.Pu
section
variable {X:Cx} {o e:JW} {es:List JW} {to:TE} {t:TA} {Rp Rm:KC}
def yH:V->List V->Hp->VK->Prop:=λx vs H Q=>∃(l:JO) (k:Int) (ns:List Int),x= .ref l/\vs=[.int k]/\H l=some (.tup (ns.map V.int))/\Q (.int (ns.count k)) H
theorem Ab:F9 X "tuple.count" yH:=by
 intro R6 s σ H x vs v us Q I rx rv h
 obtain⟨l,k,bs,rfl,rfl,hx,q⟩:=h
 cases rx
 obtain⟨u,rfl,ru⟩:=rv.one
 obtain⟨tk,rfl⟩:=ru
 obtain⟨hz,its,r,⟨cls,dd,data,sl⟩,ho,hc,n,hd,_⟩:=(show ce X.prog X.w H s.heap l (.tup (bs.map V.int))from I.hok l _ hx)
 simp only at hc hd
 subst hc hd
 refine Mc Ox ⟨_,ho,rfl⟩ PySem.F.entry_tuple_count (PySem.F.args_tuple_count_2 _ _) (PySem.SeqAt.tuple_countAt l its.toArray n dd sl (.int k tk) (G0 k)) ⟨ho,λy hy=> ?_,?_⟩
 ·obtain⟨i,hi,e⟩:=M5 (show y∈its by simpa using hy)
  obtain⟨t,rfl⟩:=ud r (i:=i) (v:=y) (by rw[Kx hi,e])
  exact N8 _ t k tk
 ·rw[show its.toArray.toList=its from rfl,uE r]
  exact⟨.int _,H,I.tok _,⟨_,rfl⟩,q⟩
theorem G2 (ho:PE X o to) (ha:PA X (e::es) t) (RT:KI o "count" X.env (Kb o X.env)=Kb o X.env)
  (TM:((Ks Rm (JS (e::es) X.env)).all (λx=> !x.1)&&(LF Rm (Le [] X.env)).all (λx=>x.1.isSome)
   &&decide ((e::es).length+([]:List LR).length+(if ([]:List LR).isEmpty then 0 else 1)<30))=true)
  (RU:(Rp.endLine==Rm.line)=true) (hs:JS (e::es) X.env=(false,Kb e X.env)::JS es X.env) (RV:(Ks Rm (JS es X.env)).any (·.1)=false):
  PE X (.Call (.Attribute o "count" Rp) (e::es) [] Rm) (λσ H Q=>to σ H λx H1=>(H_ X.K "list" x H1/\t σ H1 λxs H2=>yF X.K x xs H2 Q)\/∃p vs,x= .ref p/\H1 p=some (.tup vs)/\t σ H1 λxs H2=>yH x xs H2 Q):=by
 intro R6 s σ H Q I h
 refine OV RT TM RU rfl (d0 (ho R6 s σ H _ I h) λv s1 z_=> ?_)
 obtain⟨x,H1,I1,r1,z⟩:=z_
 rcases z with ⟨ty,q1⟩|⟨p,vs,rfl,hp,q1⟩
 ·obtain⟨h1,h2⟩:=wW I1 r1 ty
  refine⟨"list","list.count",Lf,M6,OC,h1,h2,?_⟩
  have hA:=ha Rm R6 s1 σ H1 _ I1 q1
  rw[hs]at hA ⊢
  refine Mf (by show (false||(Ks Rm (JS es X.env)).any (·.1))=false;rw[RV]<;>rfl) (Mv ?_)
  exact d0 hA λus s2 ⟨vs,H2,I2,r2,q2⟩=>A7 R6 s2 σ H2 x vs v us Q I2 r1 r2 q2
 ·cases r1
  obtain⟨hz,its,r,ob,W6,hc,n,hd,Zx⟩:=(show ce X.prog X.w H1 s1.heap p (.tup vs)from I1.hok p _ hp)
  refine⟨"tuple","tuple.count",PySem.F.plainAttrs_tuple,Ox,PySem.F.type_tuple_count,⟨ob,W6,hc⟩,λa e=>by cases e;exact⟨ob,W6,Zx⟩,?_⟩
  have hA:=ha Rm R6 s1 σ H1 _ I1 q1
  rw[hs]at hA ⊢
  refine Mf (by show (false||(Ks Rm (JS es X.env)).any (·.1))=false;rw[RV]<;>rfl) (Mv ?_)
  exact d0 hA λus s2 ⟨Yl,H2,I2,r2,q2⟩=>Ab R6 s2 σ H2 (.ref p) Yl (.ref p) us Q I2 rfl r2 q2
end
end L2
namespace L2.Pu
open PySem PySem.Spec PyProof.Rows
variable {ly:List fj} {X:Cx} {a o:JW} {fo fk:ah->R D} {Rp Rm:KC}
def yI (fo fk:ah->R D):ah->R D:=λρ=>fo ρ>>=λd=>match d with
 | .lst ds=>fk ρ>>=λk=>(match cQ ds,k with
  |some bs, .int b=> .ok (.int (bs.count b))
  |_,_=> .bad)
 | .tup ds=>fk ρ>>=λk=>(match cQ ds,k with
  |some bs, .int b=> .ok (.int (bs.count b))
  |_,_=> .bad)
 |_=> .bad
theorem G3 (ho:PB ly X o fo) (hk:PQ ly X a fk) (RT:KI o "count" X.env (Kb o X.env)=Kb o X.env:=by rfl)
  (TM:((Ks Rm (JS [a] X.env)).all (λx=> !x.1)&&(LF Rm (Le [] X.env)).all (λx=>x.1.isSome)
   &&decide (([a]:List JW).length+([]:List LR).length+(if ([]:List LR).isEmpty then 0 else 1)<30))=true:=by rfl)
  (RU:(Rp.endLine==Rm.line)=true:=by rfl) (hs:JS [a] X.env=(false,Kb a X.env)::JS [] X.env:=by rfl) (RV:(Ks Rm (JS [] X.env)).any (·.1)=false:=by rfl):
  PQ ly X (.Call (.Attribute o "count" Rp) [a] [] Rm) (yI fo fk):=λc=>
 PE.weak (G2 (ho c) (df (hk c) gG hs) RT TM RU hs RV) λσ H Q ⟨F,ρ,ri,w⟩=>⟨F,ρ,ri,(aN.bind.mp w).imp λd _ w1 v H1 F1 e1 r1=>by
  cases d with
  |lst ds=>
   obtain⟨p,vs,rfl,h1,h2⟩:=r1.lst e1.sub
   refine .inl ⟨.inl ⟨rfl,vs,dS.of h1⟩,F1,ρ,ri.step e1,(aN.bind.mp w1).imp λk _ w2 u H2 F2 e2 r2=> ?_⟩
   cases q:cQ ds with
   |none=>simp only[q]at w2;exact w2.elim
   |some bs=>
    cases k with
    |int b=>
     cases r2
     simp only[q]at w2
     rw[gK q h2]at h1
     exact⟨p,b,bs,rfl,rfl,dS.of (e2.keep _ _ h1),w2 _ H2 F2 (e1.trans e2) (.int _)⟩
    |_=>simp only[q]at w2;exact w2.elim
  |tup ds=>
   obtain⟨p,vs,rfl,h1,h2⟩:=r1.tup e1.sub
   refine .inr ⟨p,vs,rfl,h1,F1,ρ,ri.step e1,(aN.bind.mp w1).imp λk _ w2 u H2 F2 e2 r2=> ?_⟩
   cases q:cQ ds with
   |none=>simp only[q]at w2;exact w2.elim
   |some bs=>
    cases k with
    |int b=>
     cases r2
     simp only[q]at w2
     rw[gK q h2]at h1
     exact⟨p,b,bs,rfl,rfl,e2.keep _ _ h1,w2 _ H2 F2 (e1.trans e2) (.int _)⟩
    |_=>simp only[q]at w2;exact w2.elim
  |_=>exact w1.elim⟩
end L2.Pu
namespace L2.Pu
open PySem PySem.Spec PyProof.Rows
section
variable {K:JL} {f:JO} {oc:JM} {od:Option JO} {kV Sk pm:JM} {an:Option JO} {Rj ct:JM} {Ur:Array (Option JM)} {x qual:JN} {st:Ke} {C:JO}
theorem UF.of (h1:K0 K JX x=some (some (.ref f))) (h2:K.lookup f=some ⟨oc,od, .func (KP x x (dq st) (bO st) (ak st) .none kV Sk pm an Rj ct),Ur⟩) (h3:L_ K Rj x=true) (h4:KJ K (.ref f)=true):UF K x st:=
 ⟨f,oc,od,kV,Sk,pm,an,Rj,ct,Ur,h1,h2,h3,h4⟩
theorem q9.of (h1:K4 K (.ref C) x=some (some (.ref f))) (h2:K.lookup f=some ⟨oc,od, .func (KP x qual (dq st) (bO st) (ak st) .none kV Sk pm an Rj ct),Ur⟩) (h3:L_ K Rj qual=true) (h4:KJ K (.ref f)=true) (h5:Nq K (.ref f)=true):q9 K C x qual st:=
 ⟨f,oc,od,kV,Sk,pm,an,Rj,ct,Ur,h1,h2,h3,h4,h5⟩
end
end L2.Pu
namespace My
open PySem PySem.Spec PyProof.Rows L2 L2.Pu
def iO (i:Nat):Ke:=PySem.Challenge.pw_tankbalance_k23_bounds.main.body.getD i (.Pass ⟨0,0,0,0⟩)
abbrev RL:List JN:=["BadTanks","UnknownDay","UnknownPlace","SamePlace","WrongRises","UnknownStream","Twice","AlreadyMetered","NotMetered","ReadingMissing","OutOfRange","TooManyStreams","TooManyMeters","TooManyDays","TooManyDeeds","NothingDone"]
abbrev tb (k:Nat):JN->Option Bool:=A1 (xA (·==k) 0 RL)
abbrev IZ:JN->Option Bool:=A1 (xA (λ_=>true) 0 RL)
abbrev I_:JN->Option Bool:=A1 (xA (λ_=>false) 0 RL)
abbrev rJ:List JN:=["tanks","streams","rises","readings"]
abbrev bD:List JN:=["came","streams","meters","passed"]
abbrev cn:List JN:=["tanks","now","history"]
abbrev kt:Ke:=cP (iO 21) 0
def rK:ah->R bn:=
 aw (og 0 (aX (au 1) (gN 5)))
  (aw (og 0 (aX (ck bV (a8 (ck hV (a8 (ac 2) (ag))) (ag))) (gN 6)))
  (aw (og 0 (aX (ck bV (a8 (ac 3) (ag))) (gN 7)))
  (og 0 (aX (ck bV (a8 (ck hV (a8 (ac 4) (ag))) (ag))) (gN 8)))))
def qa:List (JN×Nat):=[("tanks",5),("streams",6),("rises",7),("readings",8)]
def gQ:List D->R (List (JN×D)):=m8 4 8 qa rK
abbrev fG:Ke:=cP (iO 30) 0
def qv:ah->R bn:=
 aw (og 0 (aX (au 1) (gN 5)))
  (aw (og 0 (aX (au 2) (gN 6)))
  (aw (og 0 (aX (au 3) (gN 7)))
  (og 0 (aX (au 4) (gN 8)))))
def pz:List (JN×Nat):=[("came",5),("streams",6),("meters",7),("passed",8)]
def aV:List D->R (List (JN×D)):=m8 4 8 pz qv
abbrev dL:Ke:=cP (iO 30) 1
def dM:ah->R bn:=
 aw (aX (f2 br (cA "Standing" "came" (ac 0)) (fC (.int 1))) (gN 3))
  (bB (lz "Standing" 4 aV (a8 (au 3) (a8 (f2 br (cA "Standing" "streams" (ac 0)) (bA (a8 (bA (a8 (au 3) (a8 (au 1) (a8 (au 2) (ag))))) (ag)))) (a8 (cA "Standing" "meters" (ac 0)) (a8 (cA "Standing" "passed" (ac 0)) (ag)))))))
def cg:List D->R D:=bj 3 4 dM
abbrev d8:Ke:=cP (iO 30) 2
def d9:ah->R bn:=
 aw (aX (ck bV (a8 (fL (bH ["self","number","streams","meters"] [(".0", .local),("stream", .local),("number", .free)] (cG (cA "Standing" "streams" (ac 0))) (gN 1) (fT (f2 rB (f2 b6 (ac 1) (fC (.int 0))) (ac 2))) (au 1))) (ag))) (gN 2))
  (aw (aX (ck bV (a8 (fL (bH ["self","number","streams","meters"] [(".0", .local),("meter", .local),("number", .free)] (cG (cA "Standing" "meters" (ac 0))) (gN 1) (fT (f2 rB (ac 1) (ac 2))) (au 1))) (ag))) (gN 3))
  (bB (lz "Standing" 4 aV (a8 (cA "Standing" "came" (ac 0)) (a8 (au 2) (a8 (au 3) (a8 (cA "Standing" "passed" (ac 0)) (ag))))))))
def bS:List D->R D:=bj 2 4 d9
abbrev dN:Ke:=cP (iO 30) 3
def ku:ah->R bn:=
 bB (lz "Standing" 4 aV (a8 (cA "Standing" "came" (ac 0)) (a8 (cA "Standing" "streams" (ac 0)) (a8 (f2 br (cA "Standing" "meters" (ac 0)) (ck bV (a8 (ac 1) (ag)))) (a8 (cA "Standing" "passed" (ac 0)) (ag))))))
def ci:List D->R D:=bj 2 2 ku
abbrev da:Ke:=cP (iO 30) 4
def db:ah->R bn:=
 aw (aX (ck bV (a8 (fL (bH ["self","numbers","meters"] [(".0", .local),("meter", .local),("numbers", .free)] (cG (cA "Standing" "meters" (ac 0))) (gN 1) (fT (f2 (gJ true) (ac 1) (ac 2))) (au 1))) (ag))) (gN 2))
  (bB (lz "Standing" 4 aV (a8 (cA "Standing" "came" (ac 0)) (a8 (cA "Standing" "streams" (ac 0)) (a8 (au 2) (a8 (cA "Standing" "passed" (ac 0)) (ag)))))))
def bT:List D->R D:=bj 2 3 db
abbrev ft:Ke:=cP (iO 30) 5
def mz:ah->R bn:=
 bB (lz "Standing" 4 aV (a8 (cA "Standing" "came" (ac 0)) (a8 (cA "Standing" "streams" (ac 0)) (a8 (cA "Standing" "meters" (ac 0)) (a8 (f2 br (cA "Standing" "passed" (ac 0)) (bA (a8 (au 1) (ag)))) (ag))))))
def cN:List D->R D:=bj 2 2 mz
abbrev i7:Ke:=iO 32
def qw:ah->R bn:=
 aw (cK (eS (ck uD (a8 (fL (bH ["tanks","places"] [(".0", .local),("place", .local),("OUTSIDE", .globalImplicit),("tanks", .free)] (cG (au 1)) (gN 1) (fq) (Ds (f2 xk (ac 1) (fC (.int 0))) (f2 p7 (ac 1) (ac 3))))) (ag))))
  (cL "UnknownPlace" (a8 (fC (.str "a place is neither the outside nor one of the tanks")) (ag)))
  (aI))
  (cK (fT (f2 eG (f2 b6 (ac 1) (fC (.int 0))) (f2 b6 (ac 1) (fC (.int 1)))))
  (cL "SamePlace" (a8 (fC (.str "a stream leads from one place to another one")) (ag)))
  (aI))
def dY:List D->R D:=bj 2 2 qw
abbrev gR:Ke:=iO 33
def pA:ah->R bn:=
 aw (p0 2 (bH ["standing","numbers","there"] [(".0", .local),("stream", .local)] (cG (cA "Standing" "streams" (ac 0))) (gN 1) (fq) (f2 b6 (ac 1) (fC (.int 0)))))
  (aw (cK (eS (ck uD (a8 (fL (bH ["standing","numbers","there"] [(".0", .local),("number", .local),("there", .free)] (cG (au 1)) (gN 1) (fq) (f2 (gJ true) (ac 1) (ac 2)))) (ag))))
  (cL "UnknownStream" (a8 (fC (.str "a stream that is named is not there")) (ag)))
  (aI))
  (cK (fT (f2 xk (qM (ac 1)) (ck cp (a8 (ac 1) (ag)))))
  (cL "Twice" (a8 (fC (.str "a stream is named twice")) (ag)))
  (aI)))
def bx:List D->R D:=bj 2 3 pA
abbrev fK:Ke:=iO 34
def nq:ah->R bn:=
 cK (eS (ck uD (a8 (fL (bH ["standing","numbers"] [(".0", .local),("number", .local),("standing", .free)] (cG (au 1)) (gN 1) (fq) (f2 (gJ true) (ac 1) (cA "Standing" "meters" (ac 2))))) (ag))))
  (cL "NotMetered" (a8 (fC (.str "a stream that is named has no meter")) (ag)))
  (aI)
def b_:List D->R D:=bj 2 2 nq
abbrev gT:Ke:=iO 35
def pB:ah->R bn:=
 cK (eS (ck uD (a8 (fL (bH ["amounts"] [(".0", .local),("amount", .local),("abs", .globalImplicit),("MOST_AMOUNT", .globalImplicit)] (cG (au 0)) (gN 1) (fq) (f2 p7 (ck HI (a8 (ac 1) (ag))) (fC (.int 1000))))) (ag))))
  (cL "OutOfRange" (a8 (fC (.str "a rise or a reading lies out of range")) (ag)))
  (aI)
def cV:List D->R D:=bj 1 1 pB
abbrev gZ:Ke:=cP (iO 36) 0
def js:ah->R bn:=
 aw (cK (oZ (fT (f2 xk (ac 1) (fC (.int 0)))) (fT (f2 p7 (ac 1) (fC (.int 7)))))
  (cL "BadTanks" (a8 (fC (.str "a cellar can't have that many tanks")) (ag)))
  (aI))
  (aw (og 0 (aX (au 1) (gN 2)))
  (aw (og 0 (aX (lz "Standing" 4 aV (a8 (fC (.int 0)) (a8 (bA (ag)) (a8 (bA (ag)) (a8 (bA (ag)) (ag)))))) (gN 3)))
  (BZ 0 4)))
def rL:List (JN×Nat):=[("tanks",2),("now",3)]
def eh:List D->R (List (JN×D)×JN×List D):=lE 1 4 rL "history" 4 js
abbrev fM:Ke:=cP (iO 36) 1
def fN:ah->R bn:=
 aw (cK (fT (f2 Du (ck cp (a8 (q8 0 "Cellar" "history") (ag))) (fC (.int 60))))
  (cL "TooManyDeeds" (a8 (fC (.str "no more deeds can be kept")) (ag)))
  (aI))
  (aw (qL 0 "Cellar" "history" (bA (a8 (au 1) (a8 (cX 0 "Cellar" "now") (ag)))))
  (qK 0 "Cellar" "now" (au 2)))
def aP:List Slot->List D->R (D×List Slot):=iy 1 2 2 fN
abbrev eA:Ke:=cP (iO 36) 2
def l7:ah->R bn:=
 aw (hW (aL dY 2 (a8 (cX 0 "Cellar" "tanks") (a8 (bA (a8 (au 1) (a8 (au 2) (ag)))) (ag)))))
  (aw (cK (fT (f2 Du (ck cp (a8 (cA "Standing" "streams" (cX 0 "Cellar" "now")) (ag))) (fC (.int 12))))
  (cL "TooManyStreams" (a8 (fC (.str "no more streams can be there")) (ag)))
  (aI))
  (aw (iL (ko 0 "Cellar" "keep_deed" (dJ [0] aP 2 (a8 (bA (a8 (fC (.str "stream comes")) (a8 (au 1) (a8 (au 2) (ag))))) (a8 (f9 "Standing" "with_stream" 3 cg (cX 0 "Cellar" "now") (a8 (au 1) (a8 (au 2) (ag)))) (ag))))))
  (ij (cA "Standing" "came" (cX 0 "Cellar" "now")))))
def cr:List Slot->List D->R (D×List Slot):=iy 1 2 2 l7
abbrev eJ:Ke:=cP (iO 36) 3
def lF:ah->R bn:=
 aw (hW (aL bx 2 (a8 (cX 0 "Cellar" "now") (a8 (bA (a8 (au 1) (ag))) (ag)))))
  (iL (ko 0 "Cellar" "keep_deed" (dJ [0] aP 2 (a8 (bA (a8 (fC (.str "stream goes")) (a8 (au 1) (ag)))) (a8 (f9 "Standing" "without_stream" 2 bS (cX 0 "Cellar" "now") (a8 (au 1) (ag))) (ag))))))
def cE:List Slot->List D->R (D×List Slot):=iy 1 1 1 lF
abbrev eK:Ke:=cP (iO 36) 4
def lG:ah->R bn:=
 aw (hW (aL bx 2 (a8 (cX 0 "Cellar" "now") (a8 (au 1) (ag)))))
  (aw (cK (BY [0] (eS (ck uD (a8 (fL (bH ["self","numbers"] [(".0", .local),("number", .local),("self", .free)] (cG (au 1)) (gN 1) (fq) (f2 (gJ false) (ac 1) (cA "Standing" "meters" (cA "Cellar" "now" (ac 2)))))) (ag)))))
  (cL "AlreadyMetered" (a8 (fC (.str "a stream that is named has a meter already")) (ag)))
  (aI))
  (aw (cK (fT (f2 p7 (f2 br (ck cp (a8 (cA "Standing" "meters" (cX 0 "Cellar" "now")) (ag))) (ck cp (a8 (ac 1) (ag)))) (fC (.int 10))))
  (cL "TooManyMeters" (a8 (fC (.str "no more meters can be there")) (ag)))
  (aI))
  (iL (ko 0 "Cellar" "keep_deed" (dJ [0] aP 2 (a8 (bA (a8 (fC (.str "meters come")) (a8 (ck bV (a8 (ac 1) (ag))) (ag)))) (a8 (f9 "Standing" "with_meters" 2 ci (cX 0 "Cellar" "now") (a8 (au 1) (ag))) (ag))))))))
def cF:List Slot->List D->R (D×List Slot):=iy 1 1 1 lG
abbrev fO:Ke:=cP (iO 36) 5
def nv:ah->R bn:=
 aw (hW (aL bx 2 (a8 (cX 0 "Cellar" "now") (a8 (au 1) (ag)))))
  (aw (hW (aL b_ 2 (a8 (cX 0 "Cellar" "now") (a8 (au 1) (ag)))))
  (iL (ko 0 "Cellar" "keep_deed" (dJ [0] aP 2 (a8 (bA (a8 (fC (.str "meters go")) (a8 (ck bV (a8 (ac 1) (ag))) (ag)))) (a8 (f9 "Standing" "without_meters" 2 bT (cX 0 "Cellar" "now") (a8 (au 1) (ag))) (ag)))))))
def cY:List Slot->List D->R (D×List Slot):=iy 1 1 1 nv
abbrev fP:Ke:=cP (iO 36) 10
def nz:ah->R bn:=
 bB (ck cp (a8 (cA "Standing" "passed" (cA "Cellar" "now" (ac 0))) (ag)))
def bf:List D->R D:=bj 1 1 nz
abbrev fu:Ke:=cP (iO 36) 6
def mB:ah->R bn:=
 aw (cK (fT (f2 rB (ck cp (a8 (ac 1) (ag))) (cX 0 "Cellar" "tanks")))
  (cL "WrongRises" (a8 (fC (.str "each tank has one rise")) (ag)))
  (aI))
  (aw (p0 3 (bH ["self","rises","readings","numbers","day"] [(".0", .local),("pair", .local)] (cG (au 2)) (gN 1) (fq) (f2 b6 (ac 1) (fC (.int 0)))))
  (aw (n_ [3] (hW (aL bx 2 (a8 (cX 0 "Cellar" "now") (a8 (au 3) (ag))))))
  (aw (n_ [3] (hW (aL b_ 2 (a8 (cX 0 "Cellar" "now") (a8 (au 3) (ag))))))
  (aw (cK (eS (ck uD (a8 (fL (bH ["self","rises","readings","numbers","day"] [(".0", .local),("meter", .local),("numbers", .free)] (cG (cA "Standing" "meters" (cX 0 "Cellar" "now"))) (gN 1) (fq) (f2 (gJ true) (ac 1) (ac 2)))) (ag))))
  (cL "ReadingMissing" (a8 (fC (.str "a stream that has a meter has no reading")) (ag)))
  (aI))
  (aw (hW (aL cV 1 (a8 (au 1) (ag))))
  (aw (hW (aL cV 1 (a8 (fL (bH ["self","rises","readings","numbers","day"] [(".0", .local),("pair", .local)] (cG (au 2)) (gN 1) (fq) (f2 b6 (ac 1) (fC (.int 1))))) (ag))))
  (aw (cK (fT (f2 Du (ck cp (a8 (cA "Standing" "passed" (cX 0 "Cellar" "now")) (ag))) (fC (.int 12))))
  (cL "TooManyDays" (a8 (fC (.str "no more days can be kept")) (ag)))
  (aI))
  (aw (aX (lz "Day" 4 gQ (a8 (cX 0 "Cellar" "tanks") (a8 (cA "Standing" "streams" (cX 0 "Cellar" "now")) (a8 (au 1) (a8 (au 2) (ag)))))) (gN 4))
  (aw (iL (ko 0 "Cellar" "keep_deed" (dJ [0] aP 2 (a8 (bA (a8 (fC (.str "day passes")) (a8 (ck bV (a8 (ac 1) (ag))) (a8 (ck bV (a8 (ac 2) (ag))) (ag))))) (a8 (f9 "Standing" "with_day" 2 cN (cX 0 "Cellar" "now") (a8 (au 4) (ag))) (ag))))))
  (ij (pi "history" [0] (f9 "Cellar" "days_gone" 1 bf (au 0) ag))))))))))))
def cO:List Slot->List D->R (D×List Slot):=iy 1 2 4 mB
abbrev fQ:Ke:=cP (iO 36) 7
def fR:ah->R bn:=
 aw (cK (fT (f2 eG (ck cp (a8 (q8 0 "Cellar" "history") (ag))) (fC (.int 0))))
  (cL "NothingDone" (a8 (fC (.str "no deed stands")) (ag)))
  (aI))
  (aw (uz 1 0 "Cellar" "history")
  (aw (qK 0 "Cellar" "now" (f2 b6 (ac 1) (fC (.int 1))))
  (ij (f2 b6 (ac 1) (fC (.int 0))))))
def c7:List Slot->List D->R (D×List Slot):=iy 1 0 1 fR
abbrev i8:Ke:=cP (iO 36) 8
def i9:ah->R bn:=
 aw (aX (cA "Standing" "meters" (cA "Cellar" "now" (ac 0))) (gN 1))
  (bB (ck bV (a8 (fL (bH ["self","meters"] [(".0", .local),("stream", .local),("meters", .free)] (cG (cA "Standing" "streams" (cA "Cellar" "now" (ac 0)))) (gN 1) (fq) (f2 br (ac 1) (bA (a8 (f2 (gJ false) (f2 b6 (ac 1) (fC (.int 0))) (ac 2)) (ag)))))) (ag))))
def dc:List D->R D:=bj 1 2 i9
abbrev iP:Ke:=cP (iO 36) 9
def rM:ah->R bn:=
 bB (ck bV (a8 (fL (bH ["self"] [(".0", .local),("kept", .local)] (cG (cA "Cellar" "history" (ac 0))) (gN 1) (fq) (f2 b6 (ac 1) (fC (.int 0))))) (ag)))
def dA:List D->R D:=bj 1 1 rM
abbrev kx:Ke:=cP (iO 36) 11
def ky:ah->R bn:=
 aw (cK (oZ (fT (f2 xk (ac 1) (fC (.int 1)))) (fT (f2 p7 (ac 1) (f9 "Cellar" "days_gone" 1 bf (au 0) ag))))
  (cL "UnknownDay" (a8 (fC (.str "no day has that number")) (ag)))
  (aI))
  (bB (f2 b6 (cA "Standing" "passed" (cA "Cellar" "now" (ac 0))) (f2 jG (ac 1) (fC (.int 1)))))
def eY:List D->R D:=bj 2 2 ky
abbrev rN:Ke:=iO 38
def vV:ah->R bn:=
 aw (cK (fT (f2 xk (ac 1) (ck cp (a8 (ac 0) (ag)))))
  (bB (f2 b6 (ac 0) (ac 1)))
  (aI))
  (bB (fC (.int 0)))
def bz:List D->R D:=bj 2 2 vV
abbrev jt:Ke:=iO 39
def gz:ah->R bn:=
 cK (eS (ac 1))
  (aw (aX (f2 cw (f2 qm (f2 br (f2 br (ac 0) (f2 qm (fC (.int 7919)) (ac 6))) (fC (.int 1))) (fC (.int 48271))) (fC (.int 2147483647))) (gN 7))
  (rz 4 (f2 cw (f2 cw (f2 qm (f2 br (ac 7) (ac 6)) (fC (.int 69621))) (fC (.int 2147483647))) (ac 3))))
  (aw (rz 4 (f2 cw (ac 5) (ac 3)))
  (aX (f2 gC (ac 5) (ac 3)) (gN 5)))
def ju:ah->R bn:=
 aw (lj 4 (ag))
  (aw (aX (au 0) (gN 5))
  (aw (k_ (c8 (a8 (au 2) (ag))) (gN 6) (gz))
  (n_ [4] (bB (au 4)))))
def fE:List D->R D:=bj 4 8 ju
abbrev kA:Ke:=iO 40
def jb (UM:List D->R D):ah->R bn:=
 cK (jE (eS (aL UM 2 (a8 (f2 b6 (ac 0) (ac 2)) (a8 (f2 b6 (ac 1) (ac 2)) (ag))))))
  (bB (fC (.bl false)))
  (aI)
def dO (UM:List D->R D):ah->R bn:=
 aw (cK (eS (p8 "tuple" (ac 1)))
  (aw (cK (oZ (jE (eS (p8 "tuple" (ac 0)))) (fT (f2 rB (ck cp (a8 (ac 0) (ag))) (ck cp (a8 (ac 1) (ag))))))
  (bB (fC (.bl false)))
  (aI))
  (aw (k_ (c8 (a8 (ck cp (a8 (ac 1) (ag))) (ag))) (gN 2) (jb UM))
  (bB (fC (.bl true)))))
  (aI))
  (aw (cK (fT (f2 vp (ac 1) (fC .non)))
  (bB (f2 vp (ac 0) (fC .non)))
  (aI))
  (aw (cK (eS (p8 "bool" (ac 1)))
  (bB (pV (p8 "bool" (ac 0)) (f2 eG (ac 0) (ac 1))))
  (aI))
  (aw (cK (eS (p8 "str" (ac 1)))
  (bB (pV (p8 "str" (ac 0)) (f2 eG (ac 0) (ac 1))))
  (aI))
  (bB (pV (p8 "int" (ac 0)) (pV (yq (p8 "bool" (ac 0))) (f2 eG (ac 0) (ac 1))))))))
def dE:Nat->List D->R D
 |0=>λ_=> .bad
 |n+1=>bj 2 3 (dO (dE n))
def bg:List D->R D:=dE 8
abbrev nA:Ke:=iO 41
def nB:ah->R bn:=
 aw (aX (f1 jm (ac 3)) (gN 4))
  (aw (aX (au 3) (gN 5))
  (aw (cK (fT (f2 p7 (ac 1) (fC (.int 0))))
  (aw (aX (ck zR (a8 (ac 4) (a8 (f2 jG (f2 b6 (ac 0) (ac 1)) (fC (.int 1000))) (ag)))) (gN 4))
  (aX (ck zQ (a8 (ac 5) (a8 (f2 br (f2 b6 (ac 0) (ac 1)) (fC (.int 1000))) (ag)))) (gN 5)))
  (aI))
  (aw (cK (fT (f2 p7 (ac 2) (fC (.int 0))))
  (aw (aX (ck zR (a8 (ac 4) (a8 (f2 jG (f1 jm (fC (.int 1000))) (f2 b6 (ac 0) (ac 2))) (ag)))) (gN 4))
  (aX (ck zQ (a8 (ac 5) (a8 (f2 jG (fC (.int 1000)) (f2 b6 (ac 0) (ac 2))) (ag)))) (gN 5)))
  (aI))
  (bB (eB (a8 (au 4) (a8 (au 5) (ag))))))))
def iQ:List D->R D:=bj 4 6 nB
abbrev lH:Ke:=iO 42
def iz:ah->R bn:=
 aw (aX (f2 b6 (ac 2) (ac 7)) (sV 3 (eE (gN 8) (eE (gN 9) (eE (gN 10) (rq))))))
  (aw (BR [5] (aL iQ 4 (a8 (au 5) (a8 (au 9) (a8 (au 10) (a8 (f2 b6 (ac 4) (ck xo (a8 (f2 (gJ false) (ac 8) (ac 3)) (ag)))) (ag)))))) 2 (eE (gN 11) (eE (gN 12) (rq))))
  (aw (aX (f2 br (ac 11) (f2 cw (f2 b6 (ac 0) (ac 7)) (f2 br (f2 jG (ac 12) (ac 11)) (fC (.int 1))))) (gN 13))
  (aw (Bo 5 (au 9) (f2 jG (f2 b6 (ac 5) (ac 9)) (ac 13)))
  (aw (Bo 5 (au 10) (f2 br (f2 b6 (ac 5) (ac 10)) (ac 13)))
  (rz 6 (bA (a8 (au 8) (a8 (au 13) (ag)))))))))
def lI:ah->R bn:=
 aw (BO 5 (f2 vM (eB (a8 (fC (.int 0)) (ag))) (f2 br (ac 1) (fC (.int 1)))))
  (aw (lj 6 (ag))
  (aw (k_ (c8 (a8 (ck cp (a8 (ac 2) (ag))) (ag))) (gN 7) (iz))
  (bB (eB (a8 (ck bV (a8 (ac 6) (ag))) (a8 (ck bV (a8 (FG (ac 5) (vy (fC (.int 1))) (vx)) (ag))) (ag)))))))
def hX:List D->R D:=bj 5 14 lI
abbrev nD:Ke:=iO 43
def nE:ah->R bn:=
 aw (cK (oZ (jE (eS (aL bg 2 (a8 (cA "Day" "tanks" (ac 0)) (a8 (f2 b6 (ac 1) (fC (.int 0))) (ag)))))) (jE (eS (aL bg 2 (a8 (cA "Day" "streams" (ac 0)) (a8 (f2 b6 (ac 1) (fC (.int 1))) (ag)))))))
  (bB (fC (.bl false)))
  (aI))
  (bB (pV (aL bg 2 (a8 (cA "Day" "rises" (ac 0)) (a8 (f2 b6 (ac 1) (fC (.int 2))) (ag)))) (aL bg 2 (a8 (cA "Day" "readings" (ac 0)) (a8 (f2 b6 (ac 1) (fC (.int 3))) (ag))))))
def gU:List D->R D:=bj 2 2 nE
abbrev rO:Ke:=iO 44
def lJ:ah->R bn:=
 aw (cK (fT (f2 eG (f2 b6 (ac 1) (fC (.int 0))) (fC (.str "stream comes"))))
  (iK (ko 0 "Cellar" "stream_comes" (dJ [0] cr 2 (a8 (f2 b6 (ac 1) (fC (.int 1))) (a8 (f2 b6 (ac 1) (fC (.int 2))) (ag))))))
  (aI))
  (aw (cK (fT (f2 eG (f2 b6 (ac 1) (fC (.int 0))) (fC (.str "stream goes"))))
  (iK (ko 0 "Cellar" "stream_goes" (dJ [0] cE 1 (a8 (f2 b6 (ac 1) (fC (.int 1))) (ag)))))
  (aI))
  (aw (cK (fT (f2 eG (f2 b6 (ac 1) (fC (.int 0))) (fC (.str "meters come"))))
  (iK (ko 0 "Cellar" "meters_come" (dJ [0] cF 1 (a8 (ck o3 (a8 (f2 b6 (ac 1) (fC (.int 1))) (ag))) (ag)))))
  (aI))
  (aw (cK (fT (f2 eG (f2 b6 (ac 1) (fC (.int 0))) (fC (.str "meters go"))))
  (iK (ko 0 "Cellar" "meters_go" (dJ [0] cY 1 (a8 (ck o3 (a8 (f2 b6 (ac 1) (fC (.int 1))) (ag))) (ag)))))
  (aI))
  (aw (cK (fT (f2 eG (f2 b6 (ac 1) (fC (.int 0))) (fC (.str "day passes"))))
  (iK (ko 0 "Cellar" "day_passes" (dJ [0] cO 2 (a8 (ck o3 (a8 (f2 b6 (ac 1) (fC (.int 1))) (ag))) (a8 (ck o3 (a8 (f2 b6 (ac 1) (fC (.int 2))) (ag))) (ag))))))
  (aI))
  (iK (ko 0 "Cellar" "take_back" (dJ [0] c7 0 ag)))))))
def eL:List Slot->List D->R (D×List Slot):=iy 1 1 1 lJ
abbrev nF:Ke:=iO 45
def iR:ah->R bn:=
 aw (lj 2 (ag))
  (aw (zU 3 (zZ RL)
  (iK (lC (fC (.str "")) (dJ [0] eL 1 (a8 (au 1) (ag)))))
  (aw (lj 2 (a8 (j5 (tb 2) (ac 3)) (a8 (j5 (tb 3) (ac 3)) (a8 (j5 (tb 4) (ac 3)) (ag)))))
  (aw (aX (f2 br (ac 2) (eB (a8 (j5 (tb 5) (ac 3)) (a8 (j5 (tb 6) (ac 3)) (a8 (j5 (tb 7) (ac 3)) (ag)))))) (gN 2))
  (aw (aX (f2 br (ac 2) (eB (a8 (j5 (tb 8) (ac 3)) (a8 (j5 (tb 9) (ac 3)) (a8 (j5 (tb 10) (ac 3)) (ag)))))) (gN 2))
  (aw (aX (f2 br (ac 2) (eB (a8 (j5 (tb 11) (ac 3)) (a8 (j5 (tb 12) (ac 3)) (a8 (j5 (tb 13) (ac 3)) (ag)))))) (gN 2))
  (aw (aX (f2 br (ac 2) (eB (a8 (j5 (tb 14) (ac 3)) (a8 (j5 (tb 15) (ac 3)) (a8 (j5 (tb 0) (ac 3)) (ag)))))) (gN 2))
  (aX (f2 br (ac 2) (eB (a8 (j5 (tb 1) (ac 3)) (a8 (j5 I_ (ac 3)) (a8 (yq (j5 IZ (ac 3))) (ag)))))) (gN 2))))))))
  (aw (lj 4 (a8 (fC (.str "UnknownPlace")) (a8 (fC (.str "SamePlace")) (a8 (fC (.str "WrongRises")) (a8 (fC (.str "UnknownStream")) (a8 (fC (.str "Twice")) (a8 (fC (.str "AlreadyMetered")) (a8 (fC (.str "NotMetered")) (ag)))))))))
  (aw (aX (f2 br (ac 4) (eB (a8 (fC (.str "ReadingMissing")) (a8 (fC (.str "OutOfRange")) (a8 (fC (.str "TooManyStreams")) (a8 (fC (.str "TooManyMeters")) (a8 (fC (.str "TooManyDays")) (ag)))))))) (gN 4))
  (aw (aX (f2 br (ac 4) (eB (a8 (fC (.str "TooManyDeeds")) (a8 (fC (.str "NothingDone")) (a8 (fC (.str "BadTanks")) (a8 (fC (.str "UnknownDay")) (a8 (fC (.str "Clashing")) (a8 (fC (.str "another")) (ag))))))))) (gN 4))
  (aw (aX (fC (.str "another")) (gN 5))
  (aw (cK (fT (f2 eG (Ek (ac 2) (fC (.bl true))) (fC (.int 1))))
  (aX (f2 b6 (ac 4) (El (ac 2) (fC (.bl true)))) (gN 5))
  (aI))
  (ij (eB (a8 (au 5) (a8 (fC .non) (ag)))))))))))
def eM:List Slot->List D->R (D×List Slot):=iy 1 1 5 iR
abbrev ia:Ke:=iO 46
def bK:ah->R bn:=
 cK (oZ (fT (f2 xk (ac 3) (fC (.int 0)))) (fT (f2 p7 (ac 3) (f2 b6 (ac 0) (fC (.int 0))))))
  (bB (fC (.str "UnknownPlace")))
  (aI)
def ib:ah->R bn:=
 aw (k_ (cG (bA (a8 (au 1) (a8 (au 2) (ag))))) (gN 3) (bK))
  (aw (cK (fT (f2 eG (ac 1) (ac 2)))
  (bB (fC (.str "SamePlace")))
  (aI))
  (aw (cK (fT (f2 Du (ck cp (a8 (f2 b6 (ac 0) (fC (.int 2))) (ag))) (fC (.int 12))))
  (bB (fC (.str "TooManyStreams")))
  (aI))
  (bB (fC (.str "")))))
def dZ:List D->R D:=bj 3 4 ib
abbrev iS:Ke:=iO 47
def rP:ah->R bn:=
 aw (p0 2 (bH ["_law_model","_law_named","_law_there"] [(".0", .local),("_law_stream", .local)] (cG (f2 b6 (ac 0) (fC (.int 2)))) (gN 1) (fq) (f2 b6 (ac 1) (fC (.int 0)))))
  (aw (cK (fT (f2 qu (fL (bH ["_law_model","_law_named","_law_there"] [(".0", .local),("_law_number", .local),("_law_there", .free)] (cG (au 1)) (gN 1) (fT (f2 (gJ true) (ac 1) (ac 2))) (au 1))) (eB (ag))))
  (bB (fC (.str "UnknownStream")))
  (aI))
  (aw (cK (fT (f2 qu (fL (bH ["_law_model","_law_named","_law_there"] [(".0", .local),("_law_number", .local),("_law_named", .free)] (cG (au 1)) (gN 1) (fT (f2 p7 (yI (ac 2) (au 1)) (fC (.int 1)))) (au 1))) (eB (ag))))
  (bB (fC (.str "Twice")))
  (aI))
  (bB (fC (.str "")))))
def cj:List D->R D:=bj 2 3 rP
abbrev kB:Ke:=iO 48
def uH:ah->R bn:=
 aw (cK (fT (f2 rB (ck cp (a8 (ac 1) (ag))) (f2 b6 (ac 0) (fC (.int 0)))))
  (bB (fC (.str "WrongRises")))
  (aI))
  (aw (p0 3 (bH ["_law_model","_law_rises","_law_readings","_law_named","_law_word","_law_amounts"] [(".0", .local),("_law_row", .local)] (cG (au 2)) (gN 1) (fq) (f2 b6 (ac 1) (fC (.int 0)))))
  (aw (n_ [3] (aX (aL cj 2 (a8 (au 0) (a8 (au 3) (ag)))) (gN 4)))
  (aw (cK (fT (f2 rB (ac 4) (fC (.str ""))))
  (bB (au 4))
  (aI))
  (aw (n_ [3] (cK (fT (f2 qu (fL (bH ["_law_model","_law_rises","_law_readings","_law_named","_law_word","_law_amounts"] [(".0", .local),("_law_number", .local),("_law_model", .free)] (cG (au 3)) (gN 1) (fT (f2 (gJ true) (ac 1) (f2 b6 (ac 2) (fC (.int 3))))) (au 1))) (eB (ag))))
  (bB (fC (.str "NotMetered")))
  (aI)))
  (aw (cK (fT (f2 qu (fL (bH ["_law_model","_law_rises","_law_readings","_law_named","_law_word","_law_amounts"] [(".0", .local),("_law_number", .local),("_law_named", .free)] (cG (f2 b6 (ac 0) (fC (.int 3)))) (gN 1) (fT (f2 (gJ true) (ac 1) (ac 2))) (au 1))) (eB (ag))))
  (bB (fC (.str "ReadingMissing")))
  (aI))
  (aw (aX (f2 br (ck o3 (a8 (ac 1) (ag))) (fL (bH ["_law_model","_law_rises","_law_readings","_law_named","_law_word","_law_amounts"] [(".0", .local),("_law_row", .local)] (cG (au 2)) (gN 1) (fq) (f2 b6 (ac 1) (fC (.int 1)))))) (gN 5))
  (aw (cK (fT (f2 qu (fL (bH ["_law_model","_law_rises","_law_readings","_law_named","_law_word","_law_amounts"] [(".0", .local),("_law_amount", .local)] (cG (au 5)) (gN 1) (oZ (fT (f2 xk (ac 1) (f1 jm (fC (.int 1000))))) (fT (f2 p7 (ac 1) (fC (.int 1000))))) (au 1))) (eB (ag))))
  (bB (fC (.str "OutOfRange")))
  (aI))
  (aw (cK (fT (f2 Du (ck cp (a8 (f2 b6 (ac 0) (fC (.int 4))) (ag))) (fC (.int 12))))
  (bB (fC (.str "TooManyDays")))
  (aI))
  (bB (fC (.str "")))))))))))
def gA:List D->R D:=bj 3 6 uH
abbrev ic:Ke:=iO 49
def qx:ah->R bn:=
 aw (aX (aL cj 2 (a8 (au 0) (a8 (au 2) (ag)))) (gN 3))
  (aw (cK (fT (f2 rB (ac 3) (fC (.str ""))))
  (bB (au 3))
  (aI))
  (aw (p0 4 (bH ["_law_model","_law_come","_law_named","_law_word","_law_have"] [(".0", .local),("_law_number", .local),("_law_model", .free)] (cG (au 2)) (gN 1) (fT (f2 (gJ false) (ac 1) (f2 b6 (ac 2) (fC (.int 3))))) (au 1)))
  (aw (cK (gr (eS (ac 1)) (fT (f2 qu (ac 4) (eB (ag)))))
  (bB (fC (.str "AlreadyMetered")))
  (aI))
  (aw (cK (gr (eS (ac 1)) (fT (f2 p7 (f2 br (ck cp (a8 (f2 b6 (ac 0) (fC (.int 3))) (ag))) (ck cp (a8 (ac 2) (ag)))) (fC (.int 10)))))
  (bB (fC (.str "TooManyMeters")))
  (aI))
  (aw (cK (gr (jE (eS (ac 1))) (fT (f2 xk (ck cp (a8 (ac 4) (ag))) (ck cp (a8 (ac 2) (ag))))))
  (bB (fC (.str "NotMetered")))
  (aI))
  (bB (fC (.str ""))))))))
def d_:List D->R D:=bj 3 5 qx
abbrev jv:Ke:=iO 50
def jw:ah->R bn:=
 aw (aX (f2 b6 (ac 0) (f1 jm (fC (.int 1)))) (gN 2))
  (aw (cK (fT (f2 eG (f2 b6 (ac 1) (fC (.int 0))) (fC (.str "take back"))))
  (bB (f2 b6 (eB (a8 (fC (.str "")) (a8 (fC (.str "NothingDone")) (ag)))) (ck xo (a8 (f2 eG (ck cp (a8 (ac 0) (ag))) (fC (.int 1))) (ag)))))
  (aI))
  (aw (cK (fT (f2 eG (f2 b6 (ac 1) (fC (.int 0))) (fC (.str "stream comes"))))
  (aX (aL dZ 3 (a8 (au 2) (a8 (f2 b6 (ac 1) (fC (.int 1))) (a8 (f2 b6 (ac 1) (fC (.int 2))) (ag))))) (gN 3))
  (cK (fT (f2 eG (f2 b6 (ac 1) (fC (.int 0))) (fC (.str "stream goes"))))
  (aX (aL cj 2 (a8 (au 2) (a8 (eB (a8 (f2 b6 (ac 1) (fC (.int 1))) (ag))) (ag)))) (gN 3))
  (cK (fT (f2 eG (f2 b6 (ac 1) (fC (.int 0))) (fC (.str "day passes"))))
  (aX (aL gA 3 (a8 (au 2) (a8 (f2 b6 (ac 1) (fC (.int 1))) (a8 (f2 b6 (ac 1) (fC (.int 2))) (ag))))) (gN 3))
  (aX (aL d_ 3 (a8 (au 2) (a8 (f2 eG (f2 b6 (ac 1) (fC (.int 0))) (fC (.str "meters come"))) (a8 (f2 b6 (ac 1) (fC (.int 1))) (ag))))) (gN 3)))))
  (aw (cK (gr (fT (f2 eG (ac 3) (fC (.str "")))) (fT (f2 p7 (ck cp (a8 (ac 0) (ag))) (fC (.int 60)))))
  (aX (fC (.str "TooManyDeeds")) (gN 3))
  (aI))
  (bB (au 3)))))
def eo:List D->R D:=bj 2 4 jw
abbrev kC:Ke:=iO 51
def kD:ah->R bn:=
 aw (aX (au 0) (sV 6 (eE (gN 2) (eE (gN 3) (eE (gN 4) (eE (gN 5) (eE (gN 6) (eE (gN 7) (rq)))))))))
  (aw (aX (f2 br (ac 7) (bA (a8 (au 1) (ag)))) (gN 7))
  (aw (cK (fT (f2 eG (f2 b6 (ac 1) (fC (.int 0))) (fC (.str "stream comes"))))
  (aw (aX (f2 br (ac 4) (bA (a8 (bA (a8 (au 3) (a8 (f2 b6 (ac 1) (fC (.int 1))) (a8 (f2 b6 (ac 1) (fC (.int 2))) (ag))))) (ag)))) (gN 4))
  (aX (f2 br (ac 3) (fC (.int 1))) (gN 3)))
  (cK (fT (f2 eG (f2 b6 (ac 1) (fC (.int 0))) (fC (.str "stream goes"))))
  (aw (aX (ck bV (a8 (fL (bH ["_law_model","_law_deed","_law_n","_law_following","_law_streams","_law_meters","_law_days","_law_deeds"] [(".0", .local),("_law_stream", .local),("_law_deed", .free)] (cG (au 4)) (gN 1) (fT (f2 rB (f2 b6 (ac 1) (fC (.int 0))) (f2 b6 (ac 2) (fC (.int 1))))) (au 1))) (ag))) (gN 4))
  (aX (ck bV (a8 (fL (bH ["_law_model","_law_deed","_law_n","_law_following","_law_streams","_law_meters","_law_days","_law_deeds"] [(".0", .local),("_law_number", .local),("_law_deed", .free)] (cG (au 5)) (gN 1) (fT (f2 rB (ac 1) (f2 b6 (ac 2) (fC (.int 1))))) (au 1))) (ag))) (gN 5)))
  (cK (fT (f2 eG (f2 b6 (ac 1) (fC (.int 0))) (fC (.str "meters come"))))
  (aX (ck bV (a8 (ck tD (a8 (f2 br (ac 5) (f2 b6 (ac 1) (fC (.int 1)))) (ag))) (ag))) (gN 5))
  (cK (fT (f2 eG (f2 b6 (ac 1) (fC (.int 0))) (fC (.str "meters go"))))
  (aX (ck bV (a8 (fL (bH ["_law_model","_law_deed","_law_n","_law_following","_law_streams","_law_meters","_law_days","_law_deeds"] [(".0", .local),("_law_number", .local),("_law_deed", .free)] (cG (au 5)) (gN 1) (fT (f2 (gJ true) (ac 1) (f2 b6 (ac 2) (fC (.int 1))))) (au 1))) (ag))) (gN 5))
  (aX (f2 br (ac 6) (bA (a8 (bA (a8 (au 2) (a8 (au 4) (a8 (f2 b6 (ac 1) (fC (.int 1))) (a8 (ck bV (a8 (ck hV (a8 (f2 b6 (ac 1) (fC (.int 2))) (ag))) (ag))) (ag)))))) (ag)))) (gN 6))))))
  (bB (bA (a8 (au 2) (a8 (au 3) (a8 (au 4) (a8 (au 5) (a8 (au 6) (a8 (au 7) (ag)))))))))))
def dP:List D->R D:=bj 2 8 kD
abbrev kE:Ke:=iO 52
def kF:ah->R bn:=
 aw (cK (fT (f2 eG (f2 b6 (ac 1) (fC (.int 0))) (fC (.str "stream comes"))))
  (bB (f2 b6 (ac 0) (fC (.int 1))))
  (aI))
  (aw (cK (fT (f2 eG (f2 b6 (ac 1) (fC (.int 0))) (fC (.str "day passes"))))
  (bB (f2 br (ck cp (a8 (f2 b6 (ac 0) (fC (.int 4))) (ag))) (fC (.int 1))))
  (aI))
  (bB (fC .non)))
def eZ:List D->R D:=bj 2 2 kF
abbrev nG:Ke:=iO 53
def fS:ah->R bn:=
 aw (aX (f2 b6 (ac 1) (f1 jm (fC (.int 1)))) (gN 3))
  (aw (aX (yy [1] (aL eo 2 (a8 (au 1) (a8 (au 2) (ag))))) (gN 4))
  (aw (yB 5 (dJ [0] eM 1 (a8 (au 2) (ag))))
  (aw (cK (oZ (fT (f2 rB (ac 4) (fC (.str "")))) (fT (f2 rB (f2 b6 (ac 5) (fC (.int 0))) (fC (.str "")))))
  (ij (f2 eG (ac 4) (f2 b6 (ac 5) (fC (.int 0)))))
  (aI))
  (aw (cK (fT (f2 eG (f2 b6 (ac 2) (fC (.int 0))) (fC (.str "take back"))))
  (aw (yG 1)
  (ij (aL bg 2 (a8 (f2 b6 (ac 5) (fC (.int 1))) (a8 (f2 b6 (f2 b6 (ac 3) (fC (.int 5))) (f1 jm (fC (.int 1)))) (ag))))))
  (aI))
  (aw (rz 1 (aL dP 2 (a8 (au 3) (a8 (au 2) (ag)))))
  (ij (aL bg 2 (a8 (f2 b6 (ac 5) (fC (.int 1))) (a8 (aL eZ 2 (a8 (au 3) (a8 (au 2) (ag)))) (ag))))))))))
def cM:List Slot->List D->R (D×List Slot):=iy 2 1 4 fS
abbrev kG:Ke:=iO 54
def uI:ah->R bn:=
 bB (ck bV (a8 (fL (bH ["_law_model"] [(".0", .local),("_law_stream", .local),("_law_model", .free)] (cG (f2 b6 (ac 0) (fC (.int 2)))) (gN 1) (fq) (f2 br (ac 1) (bA (a8 (f2 (gJ false) (f2 b6 (ac 1) (fC (.int 0))) (f2 b6 (ac 2) (fC (.int 3)))) (ag)))))) (ag)))
def e_:List D->R D:=bj 1 1 uI
abbrev lK:Ke:=iO 55
def kH:ah->R bn:=
 cK (jE (eS (aL gU 2 (a8 (f9 "Cellar" "day" 2 eY (au 0) (a8 (f2 br (ac 2) (fC (.int 1))) (ag))) (a8 (f2 b6 (f2 b6 (ac 1) (fC (.int 4))) (ac 2)) (ag))))))
  (bB (fC (.bl false)))
  (aI)
def lL:ah->R bn:=
 aw (cK (oZ (jE (eS (aL bg 2 (a8 (cA "Cellar" "tanks" (ac 0)) (a8 (f2 b6 (ac 1) (fC (.int 0))) (ag)))))) (jE (eS (aL bg 2 (a8 (f9 "Cellar" "layout" 1 dc (au 0) ag) (a8 (aL e_ 1 (a8 (au 1) (ag))) (ag)))))))
  (bB (fC (.bl false)))
  (aI))
  (aw (cK (oZ (jE (eS (aL bg 2 (a8 (f9 "Cellar" "deeds" 1 dA (au 0) ag) (a8 (f2 b6 (ac 1) (fC (.int 5))) (ag)))))) (jE (eS (aL bg 2 (a8 (f9 "Cellar" "days_gone" 1 bf (au 0) ag) (a8 (ck cp (a8 (f2 b6 (ac 1) (fC (.int 4))) (ag))) (ag)))))))
  (bB (fC (.bl false)))
  (aI))
  (aw (k_ (c8 (a8 (ck cp (a8 (f2 b6 (ac 1) (fC (.int 4))) (ag))) (ag))) (gN 2) (kH))
  (bB (fC (.bl true)))))
def fY:List D->R D:=bj 2 3 lL
abbrev iT:Ke:=iO 56
def ee:ah->R bn:=
 aw (aX (f2 b6 (f2 b6 (ac 6) (fC (.int 0))) (ac 8)) (sV 2 (eE (gN 9) (eE (gN 10) (rq)))))
  (aw (aX (f2 b6 (ac 5) (f2 br (ac 4) (ac 8))) (gN 11))
  (aw (cK (oZ (fT (f2 eG (ac 3) (fC (.int 2)))) (gr (fT (f2 eG (ac 3) (fC (.int 1)))) (fT (f2 eG (f2 cw (ac 11) (fC (.int 3))) (fC (.int 0))))))
  (aX (f2 jG (f2 cw (f2 gC (ac 11) (fC (.int 3))) (fC (.int 2001))) (fC (.int 1000))) (gN 10))
  (aI))
  (aw (cK (gr (fT (f2 eG (ac 3) (fC (.int 4)))) (fT (f2 eG (f2 cw (ac 11) (fC (.int 2))) (fC (.int 0)))))
  (aX (f2 jG (f2 cw (f2 gC (ac 11) (fC (.int 2))) (fC (.int 3))) (fC (.int 1))) (gN 10))
  (aI))
  (cK (fT (f2 (gJ false) (ac 9) (f2 b6 (ac 0) (fC (.int 3)))))
  (rz 7 (bA (a8 (au 9) (a8 (au 10) (ag)))))
  (aI)))))
def iU:ah->R bn:=
 aw (aX (f2 cw (ac 1) (fC (.int 5))) (gN 3))
  (aw (aX (ck cp (a8 (f2 b6 (ac 0) (fC (.int 2))) (ag))) (gN 4))
  (aw (aX (aL fE 4 (a8 (f2 gC (ac 1) (fC (.int 10))) (a8 (au 2) (a8 (f2 br (f2 qm (fC (.int 2)) (ac 4)) (f2 b6 (ac 0) (fC (.int 0)))) (a8 (fC (.int 10010)) (ag)))))) (gN 5))
  (aw (aX (aL hX 5 (a8 (au 5) (a8 (f2 b6 (ac 0) (fC (.int 0))) (a8 (f2 b6 (ac 0) (fC (.int 2))) (a8 (f2 b6 (ac 0) (fC (.int 3))) (a8 (f2 b6 (eB (a8 (eB (a8 (fC (.int 5000)) (a8 (fC (.int 1000)) (ag)))) (a8 (eB (a8 (fC (.int 1)) (a8 (fC (.int 1)) (ag)))) (ag)))) (ck xo (a8 (f2 p7 (ac 3) (fC (.int 2))) (ag)))) (ag))))))) (gN 6))
  (aw (lj 7 (ag))
  (aw (k_ (c8 (a8 (au 4) (ag))) (gN 8) (ee))
  (aw (aX (f2 b6 (ac 6) (fC (.int 1))) (gN 12))
  (aw (cK (fT (f2 eG (ac 3) (fC (.int 2))))
  (aX (ck bV (a8 (fL (bH ["_law_model","_law_cell","_law_mixed","_law_mode","_law_many","_law_figures_here","_law_flows_here","_law_readings","_law_k","_law_number","_law_amount","_law_other","_law_rises"] [(".0", .local),("_law_k", .local),("_law_figures_here", .free),("_law_many", .free)] (c8 (a8 (f2 b6 (ac 0) (fC (.int 0))) (ag))) (gN 1) (fq) (f2 jG (f2 cw (f2 b6 (ac 2) (f2 br (f2 qm (fC (.int 2)) (ac 3)) (ac 1))) (fC (.int 2001))) (fC (.int 1000))))) (ag))) (gN 12))
  (aI))
  (aw (cK (fT (f2 eG (f2 cw (f2 gC (ac 1) (fC (.int 5))) (fC (.int 2))) (fC (.int 1))))
  (aX (Bx (ac 7)) (gN 7))
  (aI))
  (bB (bA (a8 (fC (.str "day passes")) (a8 (au 12) (a8 (ck bV (a8 (ac 7) (ag))) (ag))))))))))))))
def cZ:List D->R D:=bj 3 13 iU
abbrev nH:Ke:=iO 57
def nI:ah->R bn:=
 aw (aX (f2 b6 (ac 0) (fC (.int 1))) (gN 2))
  (aw (aX (f2 b6 (ac 0) (fC (.int 2))) (gN 3))
  (aw (cK (fT (f2 eG (f2 cw (ac 1) (fC (.int 5))) (fC (.int 0))))
  (aX (f2 br (ac 2) (bA (a8 (fC (.int 0)) (ag)))) (gN 2))
  (cK (fT (f2 eG (f2 cw (ac 1) (fC (.int 5))) (fC (.int 1))))
  (aX (f2 br (ac 3) (bA (a8 (bA (a8 (f2 cw (f2 gC (ac 1) (fC (.int 5))) (fC (.int 40))) (a8 (fC (.int 1)) (ag)))) (ag)))) (gN 3))
  (cK (fT (f2 eG (f2 cw (ac 1) (fC (.int 5))) (fC (.int 2))))
  (aX (f2 br (bA (a8 (bA (a8 (f2 cw (f2 gC (ac 1) (fC (.int 5))) (fC (.int 14))) (a8 (f1 jm (fC (.int 1))) (ag)))) (ag))) (FG (ac 3) (vy (fC (.int 1))) (vx))) (gN 3))
  (cK (fT (f2 eG (f2 cw (ac 1) (fC (.int 5))) (fC (.int 3))))
  (aX (FG (ac 3) (vx) (vy (f1 jm (fC (.int 1))))) (gN 3))
  (aX (ck bV (a8 (fL (bH ["_law_day","_law_figure","_law_rises","_law_readings"] [(".0", .local),("_law_rise", .local)] (cG (au 2)) (gN 1) (fq) (f2 br (f2 qm (ac 1) (fC (.int 25))) (fC (.int 1))))) (ag))) (gN 2))))))
  (bB (bA (a8 (fC (.str "day passes")) (a8 (au 2) (a8 (au 3) (ag))))))))
def fU:List D->R D:=bj 2 4 nI
abbrev ie:Ke:=iO 58
def ig:ah->R bn:=
 aw (aX (f2 b6 (ac 0) (fC (.int 0))) (gN 2))
  (aw (lj 3 (a8 (bA (a8 (fC (.str "stream comes")) (a8 (f2 cw (ac 1) (f2 br (ac 2) (fC (.int 1)))) (a8 (f2 cw (f2 br (ac 1) (fC (.int 1))) (f2 br (ac 2) (fC (.int 1)))) (ag))))) (a8 (bA (a8 (fC (.str "stream goes")) (a8 (f2 br (fC (.int 1)) (f2 cw (ac 1) (fC (.int 13)))) (ag)))) (ag))))
  (aw (aX (f2 br (ac 3) (eB (a8 (bA (a8 (fC (.str "meters come")) (a8 (bA (ag)) (ag)))) (a8 (bA (a8 (fC (.str "meters come")) (a8 (bA (a8 (f2 br (fC (.int 11)) (f2 cw (ac 1) (fC (.int 3)))) (ag))) (ag)))) (a8 (bA (a8 (fC (.str "meters go")) (a8 (bA (a8 (f2 br (fC (.int 1)) (f2 cw (ac 1) (fC (.int 12)))) (ag))) (ag)))) (ag)))))) (gN 3))
  (aw (aX (f2 br (ac 3) (eB (a8 (bA (a8 (fC (.str "stream comes")) (a8 (fC (.int 0)) (a8 (fC (.int 0)) (ag))))) (a8 (bA (a8 (fC (.str "stream goes")) (a8 (fC (.int 70)) (ag)))) (a8 (bA (a8 (fC (.str "meters come")) (a8 (bA (a8 (fC (.int 70)) (a8 (fC (.int 1)) (ag)))) (ag)))) (a8 (bA (a8 (fC (.str "meters go")) (a8 (bA (a8 (fC (.int 1)) (a8 (fC (.int 1)) (ag)))) (ag)))) (ag))))))) (gN 3))
  (aw (aX (f2 br (ac 3) (eB (a8 (bA (a8 (fC (.str "stream comes")) (a8 (fC (.int 9)) (a8 (fC (.int 9)) (ag))))) (a8 (bA (a8 (fC (.str "meters come")) (a8 (bA (a8 (fC (.int 1)) (a8 (fC (.int 12)) (ag)))) (ag)))) (a8 (bA (a8 (fC (.str "meters go")) (a8 (bA (a8 (fC (.int 11)) (a8 (fC (.int 12)) (ag)))) (ag)))) (ag)))))) (gN 3))
  (aw (aX (aL cZ 3 (a8 (au 0) (a8 (au 1) (a8 (fC (.bl true)) (ag))))) (gN 4))
  (bB (f2 br (f2 br (ac 3) (eB (a8 (au 4) (ag)))) (fL (bH ["_law_model","_law_cell","_law_n","_law_deeds","_law_day"] [(".0", .local),("_law_k", .local),("_law_bent", .globalImplicit),("_law_cell", .free),("_law_day", .free)] (c8 (a8 (fC (.int 5)) (ag))) (gN 1) (fq) (aL fU 2 (a8 (au 4) (a8 (f2 br (f2 cw (f2 qm (ac 3) (fC (.int 5))) (fC (.int 630))) (ac 1)) (ag)))))))))))))
def cq:List D->R D:=bj 2 5 ig
abbrev kI:Ke:=iO 59
def kJ:ah->R bn:=
 aw (aX (f2 b6 (ac 1) (fC (.int 0))) (gN 2))
  (aw (aX (f2 br (fC (.int 9)) (f2 cw (aL bz 2 (a8 (au 0) (a8 (fC (.int 2)) (ag)))) (fC (.int 4)))) (gN 3))
  (aw (p0 4 (bH ["_law_script","_law_model","_law_n","_law_many","_law_deeds"] [(".0", .local),("_law_k", .local),("_law_n", .free)] (c8 (a8 (f2 br (fC (.int 11)) (f2 cw (aL bz 2 (a8 (au 0) (a8 (fC (.int 1)) (ag)))) (fC (.int 4)))) (ag))) (gN 1) (fq) (bA (a8 (fC (.str "stream comes")) (a8 (f2 cw (ac 1) (f2 br (ac 2) (fC (.int 1)))) (a8 (f2 cw (f2 br (ac 1) (fC (.int 1))) (f2 br (ac 2) (fC (.int 1)))) (ag)))))))
  (aw (cK (fT (f2 eG (f2 cw (f2 gC (aL bz 2 (a8 (au 0) (a8 (fC (.int 2)) (ag)))) (fC (.int 4))) (fC (.int 2))) (fC (.int 0))))
  (rz 4 (bA (a8 (fC (.str "meters come")) (a8 (ck bV (a8 (fL (bH ["_law_script","_law_model","_law_n","_law_many","_law_deeds"] [(".0", .local),("_law_k", .local)] (c8 (a8 (au 3) (ag))) (gN 1) (fq) (f2 br (ac 1) (fC (.int 1))))) (ag))) (ag)))))
  (aX (f2 br (ac 4) (fL (bH ["_law_script","_law_model","_law_n","_law_many","_law_deeds"] [(".0", .local),("_law_k", .local)] (c8 (a8 (au 3) (ag))) (gN 1) (fq) (bA (a8 (fC (.str "meters come")) (a8 (bA (a8 (f2 br (ac 1) (fC (.int 1))) (ag))) (ag))))))) (gN 4)))
  (n_ [4] (bB (au 4))))))
def f6:List D->R D:=bj 2 5 kJ
abbrev pC:Ke:=iO 60
def nJ:ah->R bn:=
 qt (kR (qr (dJ [0,1] cM 1 (a8 (au 3) (ag)))))
  (ij (fC (.bl false)))
  (aI)
def pD:ah->R bn:=
 aw (k_ (cG (au 2)) (gN 3) (nJ))
  (ij (fC (.bl true)))
def fZ:List Slot->List D->R (D×List Slot):=iy 2 1 2 pD
abbrev rQ:Ke:=iO 61
def xB:ah->R bn:=
 aw (aX (aL cZ 3 (a8 (f2 b6 (ac 2) (f1 jm (fC (.int 1)))) (a8 (f2 br (aL bz 2 (a8 (au 0) (a8 (f2 br (fC (.int 8)) (ac 4)) (ag)))) (ac 4)) (a8 (f2 eG (f2 cw (aL bz 2 (a8 (au 0) (a8 (fC (.int 5)) (ag)))) (fC (.int 2))) (fC (.int 1))) (ag))))) (gN 5))
  (qt (kR (qr (dJ [3,2] cM 1 (a8 (au 5) (ag)))))
  (bB (fC (.bl false)))
  (aI))
def C4:ah->R bn:=
 qt (kR (qr (dJ [3,2] cM 1 (a8 (bA (a8 (fC (.str "meters come")) (a8 (bA (ag)) (ag)))) (ag)))))
  (bB (fC (.bl false)))
  (aI)
def C5:ah->R bn:=
 qt (kR (qr (dJ [3,2] cM 1 (a8 (bA (a8 (fC (.str "take back")) (ag))) (ag)))))
  (bB (fC (.bl false)))
  (aI)
def C6:ah->R bn:=
 aw (aX (f2 br (fC (.int 1)) (f2 cw (aL bz 2 (a8 (au 0) (a8 (fC (.int 0)) (ag)))) (fC (.int 7)))) (gN 1))
  (aw (lj 2 (a8 (bA (a8 (au 1) (a8 (fC (.int 1)) (a8 (bA (ag)) (a8 (bA (ag)) (a8 (bA (ag)) (a8 (bA (ag)) (ag)))))))) (ag)))
  (aw (uC 3 "Cellar" 1 eh (a8 (au 1) (ag)))
  (aw (qt (kR (qr (dJ [3,2] fZ 1 (a8 (aL f6 2 (a8 (au 0) (a8 (f2 b6 (ac 2) (fC (.int 0))) (ag)))) (ag)))))
  (bB (fC (.bl false)))
  (aI))
  (aw (k_ (c8 (a8 (f2 br (fC (.int 11)) (f2 cw (aL bz 2 (a8 (au 0) (a8 (fC (.int 3)) (ag)))) (fC (.int 4)))) (ag))) (gN 4) (xB))
  (aw (k_ (c8 (a8 (f2 br (f2 jG (f2 br (fC (.int 58)) (f2 cw (aL bz 2 (a8 (au 0) (a8 (fC (.int 4)) (ag)))) (fC (.int 5)))) (ck cp (a8 (ac 2) (ag)))) (fC (.int 1))) (ag))) (gN 4) (C4))
  (aw (qt (kR (qr (dJ [3,2] fZ 1 (a8 (aL cq 2 (a8 (f2 b6 (ac 2) (f1 jm (fC (.int 1)))) (a8 (aL bz 2 (a8 (au 0) (a8 (fC (.int 5)) (ag)))) (ag)))) (ag)))))
  (bB (fC (.bl false)))
  (aI))
  (aw (k_ (c8 (a8 (f2 br (fC (.int 1)) (f2 cw (aL bz 2 (a8 (au 0) (a8 (fC (.int 6)) (ag)))) (fC (.int 4)))) (ag))) (gN 4) (C5))
  (aw (qt (kR (qr (dJ [3,2] fZ 1 (a8 (aL cq 2 (a8 (f2 b6 (ac 2) (f1 jm (fC (.int 1)))) (a8 (aL bz 2 (a8 (au 0) (a8 (fC (.int 7)) (ag)))) (ag)))) (ag)))))
  (bB (fC (.bl false)))
  (aI))
  (bB (pi "history" [3] (aL fY 2 (a8 (au 3) (a8 (f2 b6 (ac 2) (f1 jm (fC (.int 1)))) (ag))))))))))))))
def tE:List D->R D:=bj 1 6 C6
end My
namespace My
open PySem PySem.Spec PyProof.Rows L2 L2.Pu
section
variable {P:K3} {w:Kd} {K:JL} {mg:JN->Option JM} {base:Ka}
abbrev BN:List JN:=["ValueError","abs","any","bool","int","isinstance","len","list","max","min","range","set","sorted","str","tuple"]
theorem qb:aE ["self","tanks","streams","rises","readings","self.tanks","self.streams","self.rises","self.readings"] ["self","tanks","streams","rises","readings"] (ak kt):=⟨rfl,rfl,rfl,by decide+kernel,rfl,by decide+kernel,by decide+kernel⟩
theorem jc:∀g∈(["self.tanks","self.streams","self.rises","self.readings"]:List JN),¬oO (ak kt) g:=by unfold oO;decide+kernel
theorem vW (A:pf K mg "Day" "Day.__init__" kt ["self","tanks","streams","rises","readings"] rJ) (B:Bl mg BN):gO P w K mg base 1 "Day" 4 gQ:=by
 refine t9 A qb rfl rfl (by decide) (by decide) λC f Rj A outer s H E hC UY hr=> ?_
 have hu:=bQ hr
 have S:=qb
 exact af (jp 5 hC (UY "tanks" (by decide)) (iI (by decide) (by decide) (by decide) (by decide)) (ar 1) (hvis:=jc "self.tanks" (by decide))) (af (jp 6 hC (UY "streams" (by decide)) (iI (by decide) (by decide) (by decide) (by decide)) (a_ aJ bp (B.no "tuple" (by decide)) L2.Pu.aT (ax (PQ.bo (aW (kj rfl) lA (B.no "sorted" (by decide)) L2.Pu.j9 (ax (aa 2) (aG)))) (aG))) (hvis:=jc "self.streams" (by decide))) (af (jp 7 hC (UY "rises" (by decide)) (iI (by decide) (by decide) (by decide) (by decide)) (a_ aJ bp (B.no "tuple" (by decide)) L2.Pu.aT (ax (aa 3) (aG))) (hvis:=jc "self.rises" (by decide))) (al (jp 8 hC (UY "readings" (by decide)) (iI (by decide) (by decide) (by decide) (by decide)) (a_ aJ bp (B.no "tuple" (by decide)) L2.Pu.aT (ax (PQ.bo (aW (kj rfl) lA (B.no "sorted" (by decide)) L2.Pu.j9 (ax (aa 4) (aG)))) (aG))) (hvis:=jc "self.readings" (by decide))))))
theorem jM:aE ["self","came","streams","meters","passed","self.came","self.streams","self.meters","self.passed"] ["self","came","streams","meters","passed"] (ak fG):=⟨rfl,rfl,rfl,by decide+kernel,rfl,by decide+kernel,by decide+kernel⟩
theorem f7:∀g∈(["self.came","self.streams","self.meters","self.passed"]:List JN),¬oO (ak fG) g:=by unfold oO;decide+kernel
theorem pE (A:pf K mg "Standing" "Standing.__init__" fG ["self","came","streams","meters","passed"] bD) (B:Bl mg BN):gO P w K mg base 1 "Standing" 4 aV:=by
 refine t9 A jM rfl rfl (by decide) (by decide) λC f Rj A outer s H E hC UY hr=> ?_
 have hu:=bQ hr
 have S:=jM
 exact af (jp 5 hC (UY "came" (by decide)) (iI (by decide) (by decide) (by decide) (by decide)) (ar 1) (hvis:=f7 "self.came" (by decide))) (af (jp 6 hC (UY "streams" (by decide)) (iI (by decide) (by decide) (by decide) (by decide)) (ar 2) (hvis:=f7 "self.streams" (by decide))) (af (jp 7 hC (UY "meters" (by decide)) (iI (by decide) (by decide) (by decide) (by decide)) (ar 3) (hvis:=f7 "self.meters" (by decide))) (al (jp 8 hC (UY "passed" (by decide)) (iI (by decide) (by decide) (by decide) (by decide)) (ar 4) (hvis:=f7 "self.passed" (by decide))))))
theorem f_:aE ["self","source","target","number"] ["self","source","target"] (ak dL):=⟨rfl,rfl,rfl,by decide+kernel,rfl,by decide+kernel,by decide+kernel⟩
theorem jN (A:dI K "Standing" "with_stream" "Standing.with_stream" dL ["self","source","target"]) (B:Bl mg BN) (Rb:gO P w K mg base 1 "Standing" 4 aV) (R7:cC K "Standing" bD):bW P w K mg base 3 "Standing" "with_stream" 3 cg:=by
 refine eW A f_ rfl rfl λf Rj A outer s H E hr=> ?_
 have hu:=bQ hr
 have S:=f_
 exact af (aY 3 S.nd (az aB aC (PQ.bo (bq R7 (by decide) (aa 0))) (PQ.bo (ai)))) (al (ba (nc Rb (hr.mono (by decide)) (a7 (ar 3) (a7 (az aB aC (PQ.bo (bq R7 (by decide) (aa 0))) (PQ.bo (bc (a7 (bc (a7 (ar 3) (a7 (ar 1) (a7 (ar 2) (ae))))) (ae))))) (a7 (bq R7 (by decide) (aa 0)) (a7 (bq R7 (by decide) (aa 0)) (ae))))))))
theorem eN:aE ["self","number","streams","meters"] ["self","number"] (ak d8):=⟨rfl,rfl,rfl,by decide+kernel,rfl,by decide+kernel,by decide+kernel⟩
theorem iV (A:dI K "Standing" "without_stream" "Standing.without_stream" d8 ["self","number"]) (B:Bl mg BN) (Rb:gO P w K mg base 1 "Standing" 4 aV) (R7:cC K "Standing" bD):bW P w K mg base 3 "Standing" "without_stream" 2 bS:=by
 refine eW A eN rfl rfl λf Rj A outer s H E hr=> ?_
 have hu:=bQ hr
 have S:=eN
 exact af (aY 2 S.nd (a_ aJ bp (B.no "tuple" (by decide)) L2.Pu.aT (ax (PQ.bo (cu (aQ.of rfl (by first|decide+kernel|rfl)) rfl (d6 (bq R7 (by decide) (aa 0))) (λ_ _ _=>aS 1 (show ([".0","stream","number"]:List JN).Nodup by decide+kernel)) (λ_ _ _=>i4 (aR lb iG (PQ.bo (aO hu (aa 1) (PQ.bo (ai)))) (aa 2))) (λ_ _ _=>ar 1))) (aG)))) (af (aY 3 S.nd (a_ aJ bp (B.no "tuple" (by decide)) L2.Pu.aT (ax (PQ.bo (cu (aQ.of rfl (by first|decide+kernel|rfl)) rfl (d6 (bq R7 (by decide) (aa 0))) (λ_ _ _=>aS 1 (show ([".0","meter","number"]:List JN).Nodup by decide+kernel)) (λ_ _ _=>i4 (aR lb iG (aa 1) (aa 2))) (λ_ _ _=>ar 1))) (aG)))) (al (ba (nc Rb (hr.mono (by decide)) (a7 (bq R7 (by decide) (aa 0)) (a7 (ar 2) (a7 (ar 3) (a7 (bq R7 (by decide) (aa 0)) (ae)))))))))
theorem gf:aE ["self","numbers"] ["self","numbers"] (ak dN):=⟨rfl,rfl,rfl,by decide+kernel,rfl,by decide+kernel,by decide+kernel⟩
theorem jO (A:dI K "Standing" "with_meters" "Standing.with_meters" dN ["self","numbers"]) (B:Bl mg BN) (Rb:gO P w K mg base 1 "Standing" 4 aV) (R7:cC K "Standing" bD):bW P w K mg base 3 "Standing" "with_meters" 2 ci:=by
 refine eW A gf rfl rfl λf Rj A outer s H E hr=> ?_
 have hu:=bQ hr
 have S:=gf
 exact al (ba (nc Rb (hr.mono (by decide)) (a7 (bq R7 (by decide) (aa 0)) (a7 (bq R7 (by decide) (aa 0)) (a7 (az aB aC (PQ.bo (bq R7 (by decide) (aa 0))) (PQ.bo (a_ aJ bp (B.no "tuple" (by decide)) L2.Pu.aT (ax (aa 1) (aG))))) (a7 (bq R7 (by decide) (aa 0)) (ae)))))))
theorem eO:aE ["self","numbers","meters"] ["self","numbers"] (ak da):=⟨rfl,rfl,rfl,by decide+kernel,rfl,by decide+kernel,by decide+kernel⟩
theorem iW (A:dI K "Standing" "without_meters" "Standing.without_meters" da ["self","numbers"]) (B:Bl mg BN) (Rb:gO P w K mg base 1 "Standing" 4 aV) (R7:cC K "Standing" bD):bW P w K mg base 3 "Standing" "without_meters" 2 bT:=by
 refine eW A eO rfl rfl λf Rj A outer s H E hr=> ?_
 have hu:=bQ hr
 have S:=eO
 exact af (aY 2 S.nd (a_ aJ bp (B.no "tuple" (by decide)) L2.Pu.aT (ax (PQ.bo (cu (aQ.of rfl (by first|decide+kernel|rfl)) rfl (d6 (bq R7 (by decide) (aa 0))) (λ_ _ _=>aS 1 (show ([".0","meter","numbers"]:List JN).Nodup by decide+kernel)) (λ_ _ _=>i4 (o1 hu (aa 1) (aa 2))) (λ_ _ _=>ar 1))) (aG)))) (al (ba (nc Rb (hr.mono (by decide)) (a7 (bq R7 (by decide) (aa 0)) (a7 (bq R7 (by decide) (aa 0)) (a7 (ar 2) (a7 (bq R7 (by decide) (aa 0)) (ae))))))))
theorem hZ:aE ["self","day"] ["self","day"] (ak ft):=⟨rfl,rfl,rfl,by decide+kernel,rfl,by decide+kernel,by decide+kernel⟩
theorem lM (A:dI K "Standing" "with_day" "Standing.with_day" ft ["self","day"]) (B:Bl mg BN) (Rb:gO P w K mg base 1 "Standing" 4 aV) (R7:cC K "Standing" bD):bW P w K mg base 3 "Standing" "with_day" 2 cN:=by
 refine eW A hZ rfl rfl λf Rj A outer s H E hr=> ?_
 have hu:=bQ hr
 have S:=hZ
 exact al (ba (nc Rb (hr.mono (by decide)) (a7 (bq R7 (by decide) (aa 0)) (a7 (bq R7 (by decide) (aa 0)) (a7 (bq R7 (by decide) (aa 0)) (a7 (az aB aC (PQ.bo (bq R7 (by decide) (aa 0))) (PQ.bo (bc (a7 (ar 1) (ae))))) (ae)))))))
theorem jP:aE ["tanks","places"] ["tanks","places"] (ak i7):=⟨rfl,rfl,rfl,by decide+kernel,rfl,by decide+kernel,by decide+kernel⟩
theorem pF (A:cT K mg "refuse_places" i7 ["tanks","places"]) (B:Bl mg BN) {TN:MP} (Tj:mg "OUTSIDE"=some (.int 0 TN)) (Tb:cJ K mg "SamePlace") (Sb:cJ K mg "UnknownPlace"):bv P w K mg base 1 "refuse_places" 2 dY:=by
 refine cf A jP rfl rfl λf Rj A outer s H E hr=> ?_
 have hu:=bQ hr
 have S:=jP
 exact af (bN (f8 (PQ.bo (aW (iC rfl) mh (B.no "any" (by decide)) L2.Pu.jL (ax (PQ.bo (cu (aQ.of rfl (by first|decide+kernel|rfl)) rfl (d6 (ar 1)) (λ_ _ _=>aS 1 (show ([".0","place","OUTSIDE","tanks"]:List JN).Nodup by decide+kernel)) (λ_ _ _=>dk) (λ_ _ _=>IV (j7 pP lr (aa 1) (PQ.bo (kd rfl Tj))) (vn (j7 jy gI (aa 1) (aa 3)))))) (aG))))) (al (dr Sb rfl (a7 (aF) (ae)))) (aK)) (al (bN (aR cb bC (PQ.bo (aO hu (aa 1) (PQ.bo (ai)))) (PQ.bo (aO hu (aa 1) (PQ.bo (ai))))) (al (dr Tb rfl (a7 (aF) (ae)))) (aK)))
theorem jd:aE ["standing","numbers","there"] ["standing","numbers"] (ak gR):=⟨rfl,rfl,rfl,by decide+kernel,rfl,by decide+kernel,by decide+kernel⟩
theorem ou (A:cT K mg "refuse_numbers" gR ["standing","numbers"]) (B:Bl mg BN) (UN:cJ K mg "Twice") (S2:cJ K mg "UnknownStream") (R7:cC K "Standing" bD):bv P w K mg base 1 "refuse_numbers" 2 bx:=by
 refine cf A jd rfl rfl λf Rj A outer s H E hr=> ?_
 have hu:=bQ hr
 have S:=jd
 exact af (qJ 2 (aQ.of rfl (by first|decide+kernel|rfl)) rfl S.nd (d6 (bq R7 (by decide) (aa 0))) (λ_ _ _=>aS 1 (show ([".0","stream"]:List JN).Nodup by decide+kernel)) (λ_ _ _=>dk) (λ_ _ _=>aO hu (aa 1) (PQ.bo (ai)))) (af (bN (f8 (PQ.bo (aW (iC rfl) mh (B.no "any" (by decide)) L2.Pu.jL (ax (PQ.bo (cu (aQ.of rfl (by first|decide+kernel|rfl)) rfl (d6 (ar 1)) (λ_ _ _=>aS 1 (show ([".0","number","there"]:List JN).Nodup by decide+kernel)) (λ_ _ _=>dk) (λ_ _ _=>uk hu (aa 1) (aa 2)))) (aG))))) (al (dr S2 rfl (a7 (aF) (ae)))) (aK)) (al (bN (aR pP lr (PQ.bo (C3 rfl (B.no "len" (by decide)) (B.no "set" (by decide)) (aa 1))) (PQ.bo (aW b7 bP (B.no "len" (by decide)) Kj (ax (aa 1) (aG))))) (al (dr UN rfl (a7 (aF) (ae)))) (aK))))
theorem ik:aE ["standing","numbers"] ["standing","numbers"] (ak fK):=⟨rfl,rfl,rfl,by decide+kernel,rfl,by decide+kernel,by decide+kernel⟩
theorem mC (A:cT K mg "refuse_unmetered" fK ["standing","numbers"]) (B:Bl mg BN) (SM:cJ K mg "NotMetered") (R7:cC K "Standing" bD):bv P w K mg base 1 "refuse_unmetered" 2 b_:=by
 refine cf A ik rfl rfl λf Rj A outer s H E hr=> ?_
 have hu:=bQ hr
 have S:=ik
 exact al (bN (f8 (PQ.bo (aW (iC rfl) mh (B.no "any" (by decide)) L2.Pu.jL (ax (PQ.bo (cu (aQ.of rfl (by first|decide+kernel|rfl)) rfl (d6 (ar 1)) (λ_ _ _=>aS 1 (show ([".0","number","standing"]:List JN).Nodup by decide+kernel)) (λ_ _ _=>dk) (λ_ _ _=>uk hu (aa 1) (PQ.bo (bq R7 (by decide) (aa 2)))))) (aG))))) (al (dr SM rfl (a7 (aF) (ae)))) (aK))
theorem je:aE ["amounts"] ["amounts"] (ak gT):=⟨rfl,rfl,rfl,by decide+kernel,rfl,by decide+kernel,by decide+kernel⟩
theorem oy (A:cT K mg "refuse_amounts" gT ["amounts"]) (B:Bl mg BN) {Sr:MP} (Sd:mg "MOST_AMOUNT"=some (.int 1000 Sr)) (SN:cJ K mg "OutOfRange"):bv P w K mg base 1 "refuse_amounts" 1 cV:=by
 refine cf A je rfl rfl λf Rj A outer s H E hr=> ?_
 have hu:=bQ hr
 have S:=je
 exact al (bN (f8 (PQ.bo (aW (iC rfl) mh (B.no "any" (by decide)) L2.Pu.jL (ax (PQ.bo (cu (aQ.of rfl (by first|decide+kernel|rfl)) rfl (d6 (ar 0)) (λ_ _ _=>aS 1 (show ([".0","amount","abs","MOST_AMOUNT"]:List JN).Nodup by decide+kernel)) (λ_ _ _=>dk) (λ_ _ _=>j7 jy gI (PQ.bo (aW A8 DM (B.no "abs" (by decide)) L2.Pu.A9 (ax (aa 1) (aG)))) (PQ.bo (kd rfl Sd))))) (aG))))) (al (dr SN rfl (a7 (aF) (ae)))) (aK))
theorem lN:aE ["self","tanks","self.tanks","self.now","self.history"] ["self","tanks"] (ak gZ):=⟨rfl,rfl,rfl,by decide+kernel,rfl,by decide+kernel,by decide+kernel⟩
theorem iX:∀g∈(["self.tanks","self.now","self.history"]:List JN),¬oO (ak gZ) g:=by unfold oO;decide+kernel
theorem rR (A:pf K mg "Cellar" "Cellar.__init__" gZ ["self","tanks"] cn) (B:Bl mg BN) (Rb:gO P w K mg base 1 "Standing" 4 aV) {SO:MP} (Ss:mg "MOST_TANKS"=some (.int 7 SO)) (Tn:cJ K mg "BadTanks"):vU P w K mg base 3 "Cellar" 1 eh:=by
 refine C1 A lN rfl rfl (by decide) (by decide) (by decide) λC f Rj A outer s H E hC UY hr=> ?_
 have hu:=bQ hr
 have S:=lN
 exact af (bN (qH.t (sh (aR pP lr (aa 1) (PQ.bo (ai))) (mM (aR jy gI (aa 1) (PQ.bo (kd rfl Ss)))))) (al (dr Tn rfl (a7 (aF) (ae)))) (aK)) (af (jp 2 hC (UY "tanks" (by decide)) (iI (by decide) (by decide) (by decide) (by decide)) (ar 1) (hvis:=iX "self.tanks" (by decide))) (af (jp 3 hC (UY "now" (by decide)) (iI (by decide) (by decide) (by decide) (by decide)) (nc Rb (hr.mono (by decide)) (a7 (ai) (a7 (bc (ae)) (a7 (bc (ae)) (a7 (bc (ae)) (ae)))))) (hvis:=iX "self.now" (by decide))) (al (FY 4 hC (UY "history" (by decide)) (iI (by decide) (by decide) (by decide) (by decide)) (hvis:=iX "self.history" (by decide))))))
theorem il:aE ["self","deed","after"] ["self","deed","after"] (ak fM):=⟨rfl,rfl,rfl,by decide+kernel,rfl,by decide+kernel,by decide+kernel⟩
theorem mD (A:dI K "Cellar" "keep_deed" "Cellar.keep_deed" fM ["self","deed","after"]) (B:Bl mg BN) {SQ:MP} (Su:mg "MOST_DEEDS"=some (.int 60 SQ)) (Se:cJ K mg "TooManyDeeds") (R8:cC K "Cellar" cn):dn P w K mg base 1 "Cellar" "keep_deed" 2 aP:=by
 refine iJ A il rfl rfl (by decide) λf Rj A outer s H E hr=> ?_
 have hu:=bQ hr
 have S:=il
 exact af (bN (aR v5 rA (PQ.bo (aW b7 bP (B.no "len" (by decide)) Kj (ax (BV 0 R8 (by decide)) (aG)))) (PQ.bo (kd rfl Su))) (al (dr Se rfl (a7 (aF) (ae)))) (aK)) (af (BW 0 R8 (by decide) (bc (a7 (ar 1) (a7 (dm 0 R8 (by decide)) (ae))))) (al (vT 0 R8 (by decide) (ar 2))))
theorem gB:aE ["self","source","target"] ["self","source","target"] (ak eA):=⟨rfl,rfl,rfl,by decide+kernel,rfl,by decide+kernel,by decide+kernel⟩
theorem kK (A:dI K "Cellar" "stream_comes" "Cellar.stream_comes" eA ["self","source","target"]) (B:Bl mg BN) (S3:bv P w K mg base 1 "refuse_places" 2 dY) (R9:dn P w K mg base 1 "Cellar" "keep_deed" 2 aP) (RC:bW P w K mg base 3 "Standing" "with_stream" 3 cg) {Sf:MP} (S4:mg "MOST_STREAMS"=some (.int 12 Sf)) (RW:cJ K mg "TooManyStreams") (R8:cC K "Cellar" cn) (R7:cC K "Standing" bD):dn P w K mg base 4 "Cellar" "stream_comes" 2 cr:=by
 refine iJ A gB rfl rfl (by decide) λf Rj A outer s H E hr=> ?_
 have hu:=bQ hr
 have S:=gB
 exact af (kl (cH S3 (hr.mono (by decide)) (a7 (dm 0 R8 (by decide)) (a7 (bc (a7 (ar 1) (a7 (ar 2) (ae)))) (ae))))) (af (bN (aR v5 rA (PQ.bo (aW b7 bP (B.no "len" (by decide)) Kj (ax (PQ.bo (bq R7 (by decide) (PQ.bo (dm 0 R8 (by decide))))) (aG)))) (PQ.bo (kd rfl S4))) (al (dr RW rfl (a7 (aF) (ae)))) (aK)) (af (om (jr 0 R9 (hr.mono (by decide)) (a7 (bc (a7 (aF) (a7 (ar 1) (a7 (ar 2) (ae))))) (a7 (pd RC (hr.mono (by decide)) (dm 0 R8 (by decide)) (a7 (ar 1) (a7 (ar 2) (ae)))) (ae))))) (al (kq (bq R7 (by decide) (PQ.bo (dm 0 R8 (by decide))))))))
theorem gD:aE ["self","number"] ["self","number"] (ak eJ):=⟨rfl,rfl,rfl,by decide+kernel,rfl,by decide+kernel,by decide+kernel⟩
theorem l8 (A:dI K "Cellar" "stream_goes" "Cellar.stream_goes" eJ ["self","number"]) (B:Bl mg BN) (Rc:bv P w K mg base 1 "refuse_numbers" 2 bx) (R9:dn P w K mg base 1 "Cellar" "keep_deed" 2 aP) (Ry:bW P w K mg base 3 "Standing" "without_stream" 2 bS) (R8:cC K "Cellar" cn):dn P w K mg base 4 "Cellar" "stream_goes" 1 cE:=by
 refine iJ A gD rfl rfl (by decide) λf Rj A outer s H E hr=> ?_
 have hu:=bQ hr
 have S:=gD
 exact af (kl (cH Rc (hr.mono (by decide)) (a7 (dm 0 R8 (by decide)) (a7 (bc (a7 (ar 1) (ae))) (ae))))) (al (om (jr 0 R9 (hr.mono (by decide)) (a7 (bc (a7 (aF) (a7 (ar 1) (ae)))) (a7 (pd Ry (hr.mono (by decide)) (dm 0 R8 (by decide)) (a7 (ar 1) (ae))) (ae))))))
theorem gE:aE ["self","numbers"] ["self","numbers"] (ak eK):=⟨rfl,rfl,rfl,by decide+kernel,rfl,by decide+kernel,by decide+kernel⟩
theorem l9 (A:dI K "Cellar" "meters_come" "Cellar.meters_come" eK ["self","numbers"]) (B:Bl mg BN) (Rc:bv P w K mg base 1 "refuse_numbers" 2 bx) (R9:dn P w K mg base 1 "Cellar" "keep_deed" 2 aP) (RD:bW P w K mg base 3 "Standing" "with_meters" 2 ci) {Sv:MP} (Sg:mg "MOST_METERS"=some (.int 10 Sv)) (RX:cJ K mg "AlreadyMetered") (S5:cJ K mg "TooManyMeters") (R8:cC K "Cellar" cn) (R7:cC K "Standing" bD):dn P w K mg base 4 "Cellar" "meters_come" 1 cF:=by
 refine iJ A gE rfl rfl (by decide) λf Rj A outer s H E hr=> ?_
 have hu:=bQ hr
 have S:=gE
 exact af (kl (cH Rc (hr.mono (by decide)) (a7 (dm 0 R8 (by decide)) (a7 (ar 1) (ae))))) (af (bN (DJ [0] (f8 (PQ.bo (aW (iC rfl) mh (B.no "any" (by decide)) L2.Pu.jL (ax (PQ.bo (cu (aQ.of rfl (by first|decide+kernel|rfl)) rfl (d6 (ar 1)) (λ_ _ _=>aS 1 (show ([".0","number","self"]:List JN).Nodup by decide+kernel)) (λ_ _ _=>dk) (λ_ _ _=>Dv hu (aa 1) (PQ.bo (bq R7 (by decide) (PQ.bo (bq R8 (by decide) (aa 2)))))))) (aG)))))) (al (dr RX rfl (a7 (aF) (ae)))) (aK)) (af (bN (aR jy gI (PQ.bo (az aB aC (PQ.bo (aW b7 bP (B.no "len" (by decide)) Kj (ax (PQ.bo (bq R7 (by decide) (PQ.bo (dm 0 R8 (by decide))))) (aG)))) (PQ.bo (aW b7 bP (B.no "len" (by decide)) Kj (ax (aa 1) (aG)))))) (PQ.bo (kd rfl Sg))) (al (dr S5 rfl (a7 (aF) (ae)))) (aK)) (al (om (jr 0 R9 (hr.mono (by decide)) (a7 (bc (a7 (aF) (a7 (a_ aJ bp (B.no "tuple" (by decide)) L2.Pu.aT (ax (aa 1) (aG))) (ae)))) (a7 (pd RD (hr.mono (by decide)) (dm 0 R8 (by decide)) (a7 (ar 1) (ae))) (ae))))))))
theorem im:aE ["self","numbers"] ["self","numbers"] (ak fO):=⟨rfl,rfl,rfl,by decide+kernel,rfl,by decide+kernel,by decide+kernel⟩
theorem mE (A:dI K "Cellar" "meters_go" "Cellar.meters_go" fO ["self","numbers"]) (B:Bl mg BN) (Rc:bv P w K mg base 1 "refuse_numbers" 2 bx) (Rr:bv P w K mg base 1 "refuse_unmetered" 2 b_) (R9:dn P w K mg base 1 "Cellar" "keep_deed" 2 aP) (Rz:bW P w K mg base 3 "Standing" "without_meters" 2 bT) (R8:cC K "Cellar" cn):dn P w K mg base 4 "Cellar" "meters_go" 1 cY:=by
 refine iJ A im rfl rfl (by decide) λf Rj A outer s H E hr=> ?_
 have hu:=bQ hr
 have S:=im
 exact af (kl (cH Rc (hr.mono (by decide)) (a7 (dm 0 R8 (by decide)) (a7 (ar 1) (ae))))) (af (kl (cH Rr (hr.mono (by decide)) (a7 (dm 0 R8 (by decide)) (a7 (ar 1) (ae))))) (al (om (jr 0 R9 (hr.mono (by decide)) (a7 (bc (a7 (aF) (a7 (a_ aJ bp (B.no "tuple" (by decide)) L2.Pu.aT (ax (aa 1) (aG))) (ae)))) (a7 (pd Rz (hr.mono (by decide)) (dm 0 R8 (by decide)) (a7 (ar 1) (ae))) (ae)))))))
theorem ip:aE ["self"] ["self"] (ak fP):=⟨rfl,rfl,rfl,by decide+kernel,rfl,by decide+kernel,by decide+kernel⟩
theorem mF (A:dI K "Cellar" "days_gone" "Cellar.days_gone" fP ["self"]) (B:Bl mg BN) (R8:cC K "Cellar" cn) (R7:cC K "Standing" bD):bW P w K mg base 1 "Cellar" "days_gone" 1 bf:=by
 refine eW A ip rfl rfl λf Rj A outer s H E hr=> ?_
 have hu:=bQ hr
 have S:=ip
 exact al (ba (aW b7 bP (B.no "len" (by decide)) Kj (ax (PQ.bo (bq R7 (by decide) (PQ.bo (bq R8 (by decide) (aa 0))))) (aG))))
theorem h_:aE ["self","rises","readings","numbers","day"] ["self","rises","readings"] (ak fu):=⟨rfl,rfl,rfl,by decide+kernel,rfl,by decide+kernel,by decide+kernel⟩
theorem lO (A:dI K "Cellar" "day_passes" "Cellar.day_passes" fu ["self","rises","readings"]) (B:Bl mg BN) (Rc:bv P w K mg base 1 "refuse_numbers" 2 bx) (Rr:bv P w K mg base 1 "refuse_unmetered" 2 b_) (RM:bv P w K mg base 1 "refuse_amounts" 1 cV) (To:gO P w K mg base 1 "Day" 4 gQ) (R9:dn P w K mg base 1 "Cellar" "keep_deed" 2 aP) (RN:bW P w K mg base 3 "Standing" "with_day" 2 cN) (Rf:bW P w K mg base 1 "Cellar" "days_gone" 1 bf) {Tc:MP} (SR:mg "MOST_DAYS"=some (.int 12 Tc)) (RY:cJ K mg "ReadingMissing") (Sw:cJ K mg "TooManyDays") (SS:cJ K mg "WrongRises") (R8:cC K "Cellar" cn) (R7:cC K "Standing" bD):dn P w K mg base 4 "Cellar" "day_passes" 2 cO:=by
 refine iJ A h_ rfl rfl (by decide) λf Rj A outer s H E hr=> ?_
 have hu:=bQ hr
 have S:=h_
 exact af (bN (aR lb iG (PQ.bo (aW b7 bP (B.no "len" (by decide)) Kj (ax (aa 1) (aG)))) (PQ.bo (dm 0 R8 (by decide)))) (al (dr SS rfl (a7 (aF) (ae)))) (aK)) (af (qJ 3 (aQ.of rfl (by first|decide+kernel|rfl)) rfl S.nd (d6 (ar 2)) (λ_ _ _=>aS 1 (show ([".0","pair"]:List JN).Nodup by decide+kernel)) (λ_ _ _=>dk) (λ_ _ _=>aO hu (aa 1) (PQ.bo (ai)))) (af (sU [3] (kl (cH Rc (hr.mono (by decide)) (a7 (dm 0 R8 (by decide)) (a7 (ar 3) (ae)))))) (af (sU [3] (kl (cH Rr (hr.mono (by decide)) (a7 (dm 0 R8 (by decide)) (a7 (ar 3) (ae)))))) (af (bN (f8 (PQ.bo (aW (iC rfl) mh (B.no "any" (by decide)) L2.Pu.jL (ax (PQ.bo (cu (aQ.of rfl (by first|decide+kernel|rfl)) rfl (d6 (bq R7 (by decide) (PQ.bo (dm 0 R8 (by decide))))) (λ_ _ _=>aS 1 (show ([".0","meter","numbers"]:List JN).Nodup by decide+kernel)) (λ_ _ _=>dk) (λ_ _ _=>uk hu (aa 1) (aa 2)))) (aG))))) (al (dr RY rfl (a7 (aF) (ae)))) (aK)) (af (kl (cH RM (hr.mono (by decide)) (a7 (ar 1) (ae)))) (af (kl (cH RM (hr.mono (by decide)) (a7 (cu (aQ.of rfl (by first|decide+kernel|rfl)) rfl (d6 (ar 2)) (λ_ _ _=>aS 1 (show ([".0","pair"]:List JN).Nodup by decide+kernel)) (λ_ _ _=>dk) (λ_ _ _=>aO hu (aa 1) (PQ.bo (ai)))) (ae)))) (af (bN (aR v5 rA (PQ.bo (aW b7 bP (B.no "len" (by decide)) Kj (ax (PQ.bo (bq R7 (by decide) (PQ.bo (dm 0 R8 (by decide))))) (aG)))) (PQ.bo (kd rfl SR))) (al (dr Sw rfl (a7 (aF) (ae)))) (aK)) (af (aY 4 S.nd (nc To (hr.mono (by decide)) (a7 (dm 0 R8 (by decide)) (a7 (bq R7 (by decide) (PQ.bo (dm 0 R8 (by decide)))) (a7 (ar 1) (a7 (ar 2) (ae))))))) (af (om (jr 0 R9 (hr.mono (by decide)) (a7 (bc (a7 (aF) (a7 (a_ aJ bp (B.no "tuple" (by decide)) L2.Pu.aT (ax (aa 1) (aG))) (a7 (a_ aJ bp (B.no "tuple" (by decide)) L2.Pu.aT (ax (aa 2) (aG))) (ae))))) (a7 (pd RN (hr.mono (by decide)) (dm 0 R8 (by decide)) (a7 (ar 4) (ae))) (ae))))) (al (kq (yD "history" [0] (o9 Rf (hr.mono (by decide)) (ar 0))))))))))))))
theorem iq:aE ["self","last"] ["self"] (ak fQ):=⟨rfl,rfl,rfl,by decide+kernel,rfl,by decide+kernel,by decide+kernel⟩
theorem mG (A:dI K "Cellar" "take_back" "Cellar.take_back" fQ ["self"]) (B:Bl mg BN) (Sx:cJ K mg "NothingDone") (R8:cC K "Cellar" cn):dn P w K mg base 1 "Cellar" "take_back" 0 c7:=by
 refine iJ A iq rfl rfl (by decide) λf Rj A outer s H E hr=> ?_
 have hu:=bQ hr
 have S:=iq
 exact af (bN (aR cb bC (PQ.bo (aW b7 bP (B.no "len" (by decide)) Kj (ax (BV 0 R8 (by decide)) (aG)))) (PQ.bo (ai))) (al (dr Sx rfl (a7 (aF) (ae)))) (aK)) (af (BX 1 0 S.nd R8 (by decide)) (af (vT 0 R8 (by decide) (aO hu (aa 1) (PQ.bo (ai)))) (al (kq (aO hu (aa 1) (PQ.bo (ai)))))))
theorem jQ:aE ["self","meters"] ["self"] (ak i8):=⟨rfl,rfl,rfl,by decide+kernel,rfl,by decide+kernel,by decide+kernel⟩
theorem pG (A:dI K "Cellar" "layout" "Cellar.layout" i8 ["self"]) (B:Bl mg BN) (R8:cC K "Cellar" cn) (R7:cC K "Standing" bD):bW P w K mg base 1 "Cellar" "layout" 1 dc:=by
 refine eW A jQ rfl rfl λf Rj A outer s H E hr=> ?_
 have hu:=bQ hr
 have S:=jQ
 exact af (aY 1 S.nd (bq R7 (by decide) (PQ.bo (bq R8 (by decide) (aa 0))))) (al (ba (a_ aJ bp (B.no "tuple" (by decide)) L2.Pu.aT (ax (PQ.bo (cu (aQ.of rfl (by first|decide+kernel|rfl)) rfl (d6 (bq R7 (by decide) (PQ.bo (bq R8 (by decide) (aa 0))))) (λ_ _ _=>aS 1 (show ([".0","stream","meters"]:List JN).Nodup by decide+kernel)) (λ_ _ _=>dk) (λ_ _ _=>az aB aC (aa 1) (PQ.bo (bc (a7 (Dv hu (PQ.bo (aO hu (aa 1) (PQ.bo (ai)))) (aa 2)) (ae))))))) (aG)))))
theorem kS:aE ["self"] ["self"] (ak iP):=⟨rfl,rfl,rfl,by decide+kernel,rfl,by decide+kernel,by decide+kernel⟩
theorem qy (A:dI K "Cellar" "deeds" "Cellar.deeds" iP ["self"]) (B:Bl mg BN) (R8:cC K "Cellar" cn):bW P w K mg base 1 "Cellar" "deeds" 1 dA:=by
 refine eW A kS rfl rfl λf Rj A outer s H E hr=> ?_
 have hu:=bQ hr
 have S:=kS
 exact al (ba (a_ aJ bp (B.no "tuple" (by decide)) L2.Pu.aT (ax (PQ.bo (cu (aQ.of rfl (by first|decide+kernel|rfl)) rfl (d6 (bq R8 (by decide) (aa 0))) (λ_ _ _=>aS 1 (show ([".0","kept"]:List JN).Nodup by decide+kernel)) (λ_ _ _=>dk) (λ_ _ _=>aO hu (aa 1) (PQ.bo (ai))))) (aG))))
theorem mR:aE ["self","number"] ["self","number"] (ak kx):=⟨rfl,rfl,rfl,by decide+kernel,rfl,by decide+kernel,by decide+kernel⟩
theorem sq (A:dI K "Cellar" "day" "Cellar.day" kx ["self","number"]) (B:Bl mg BN) (Rf:bW P w K mg base 1 "Cellar" "days_gone" 1 bf) (SU:cJ K mg "UnknownDay") (R8:cC K "Cellar" cn) (R7:cC K "Standing" bD):bW P w K mg base 2 "Cellar" "day" 2 eY:=by
 refine eW A mR rfl rfl λf Rj A outer s H E hr=> ?_
 have hu:=bQ hr
 have S:=mR
 exact af (bN (qH.t (sh (aR pP lr (aa 1) (PQ.bo (ai))) (mM (aR jy gI (aa 1) (PQ.bo (o9 Rf (hr.mono (by decide)) (ar 0))))))) (al (dr SU rfl (a7 (aF) (ae)))) (aK)) (al (ba (aO hu (PQ.bo (bq R7 (by decide) (PQ.bo (bq R8 (by decide) (aa 0))))) (PQ.bo (az ji gX (aa 1) (PQ.bo (ai)))))))
theorem tF:aE ["_law_script","_law_k"] ["_law_script","_law_k"] (ak rN):=⟨rfl,rfl,rfl,by decide+kernel,rfl,by decide+kernel,by decide+kernel⟩
theorem Ac (A:cT K mg "_law_at" rN ["_law_script","_law_k"]) (B:Bl mg BN):bv P w K mg base 1 "_law_at" 2 bz:=by
 refine cf A tF rfl rfl λf Rj A outer s H E hr=> ?_
 have hu:=bQ hr
 have S:=tF
 exact af (bN (aR pP lr (aa 1) (PQ.bo (aW b7 bP (B.no "len" (by decide)) Kj (ax (aa 0) (aG))))) (al (ba (aO hu (aa 0) (aa 1)))) (aK)) (al (ba (ai)))
theorem lP:aE ["_law_cell","_law_mixed","_law_many","_law_size","_law_found","_law_rest","_law_k","_law_one"] ["_law_cell","_law_mixed","_law_many","_law_size"] (ak jt):=⟨rfl,rfl,rfl,by decide+kernel,rfl,by decide+kernel,by decide+kernel⟩
theorem rS (A:cT K mg "_law_figures" jt ["_law_cell","_law_mixed","_law_many","_law_size"]) (B:Bl mg BN):bv P w K mg base 1 "_law_figures" 4 fE:=by
 refine cf A lP rfl rfl λf Rj A outer s H E hr=> ?_
 have hu:=bQ hr
 have S:=lP
 exact af (ll 4 S.nd (ae)) (af (aY 5 S.nd (ar 0)) (af (mP La rfl (dv (B.no "range" (by decide)) (a7 (ar 2) (ae))) (aS 6 S.nd) (al (bN (f8 (aa 1)) (af (aY 7 S.nd (az bR bt (PQ.bo (az j8 ke (PQ.bo (az aB aC (PQ.bo (az aB aC (aa 0) (PQ.bo (az j8 ke (PQ.bo (ai)) (aa 6))))) (PQ.bo (ai)))) (PQ.bo (ai)))) (PQ.bo (ai)))) (al (jF 4 (az bR bt (PQ.bo (az bR bt (PQ.bo (az j8 ke (PQ.bo (az aB aC (aa 7) (aa 6))) (PQ.bo (ai)))) (PQ.bo (ai)))) (aa 3))))) (af (jF 4 (az bR bt (aa 5) (aa 3))) (al (aY 5 S.nd (az j6 hU (aa 5) (aa 3)))))))) (al (sU [4] (ba (ar 4))))))
theorem qc:aE ["_law_found","_law_due","_law_k"] ["_law_found","_law_due"] (ak kA):=⟨rfl,rfl,rfl,by decide+kernel,rfl,by decide+kernel,by decide+kernel⟩
theorem oz (A:cT K mg "_law_same" kA ["_law_found","_law_due"]) (B:Bl mg BN):∀n:Nat,bv P w K mg base n "_law_same" 2 (dE n)
 |0=>By A rfl
 |n+1=>by
  have Zy:=oz A B n
  refine cf A qc rfl rfl λf Rj A outer s H E hr=> ?_
  have hu:=bQ hr
  have S:=qc
  exact af (bN (f8 (PQ.bo (pX (.inr (.inr (.inr (.inl rfl)))) (B.no "isinstance" (by decide)) (B.no "tuple" (by decide)) L2.Pu.aT (aa 1)))) (af (bN (qH.t (sh (mO (f8 (PQ.bo (pX (.inr (.inr (.inr (.inl rfl)))) (B.no "isinstance" (by decide)) (B.no "tuple" (by decide)) L2.Pu.aT (aa 0))))) (mM (aR lb iG (PQ.bo (aW b7 bP (B.no "len" (by decide)) Kj (ax (aa 0) (aG)))) (PQ.bo (aW b7 bP (B.no "len" (by decide)) Kj (ax (aa 1) (aG)))))))) (al (ba (kb))) (aK)) (af (mP La rfl (dv (B.no "range" (by decide)) (a7 (aW b7 bP (B.no "len" (by decide)) Kj (ax (aa 1) (aG))) (ae))) (aS 2 S.nd) (al (bN (mO (f8 (PQ.bo (cH Zy (hr.mono (by omega)) (a7 (aO hu (aa 0) (aa 2)) (a7 (aO hu (aa 1) (aa 2)) (ae))))))) (al (ba (kb))) (aK)))) (al (ba (kb))))) (aK)) (af (bN (aR AK yr (aa 1) (PQ.bo (yo))) (al (ba (j7 AK yr (aa 0) (PQ.bo (yo))))) (aK)) (af (bN (f8 (PQ.bo (pX (.inl rfl) (B.no "isinstance" (by decide)) (B.no "bool" (by decide)) L2.Pu.p9 (aa 1)))) (al (ba (vo (pX (.inl rfl) (B.no "isinstance" (by decide)) (B.no "bool" (by decide)) L2.Pu.p9 (aa 0)) (vn (j7 cb bC (aa 0) (aa 1)))))) (aK)) (af (bN (f8 (PQ.bo (pX (.inr (.inr (.inl rfl))) (B.no "isinstance" (by decide)) (B.no "str" (by decide)) L2.Pu.vA (aa 1)))) (al (ba (vo (pX (.inr (.inr (.inl rfl))) (B.no "isinstance" (by decide)) (B.no "str" (by decide)) L2.Pu.vA (aa 0)) (vn (j7 cb bC (aa 0) (aa 1)))))) (aK)) (al (ba (vo (pX (.inr (.inl rfl)) (B.no "isinstance" (by decide)) (B.no "int" (by decide)) L2.Pu.o4 (aa 0)) (vo (Ee (pX (.inl rfl) (B.no "isinstance" (by decide)) (B.no "bool" (by decide)) L2.Pu.p9 (aa 0))) (vn (j7 cb bC (aa 0) (aa 1))))))))))
theorem vX (A:cT K mg "_law_same" kA ["_law_found","_law_due"]) (B:Bl mg BN):bv P w K mg base 8 "_law_same" 2 bg:=(oz A B 8).mono (by decide)
theorem qd:aE ["_law_levels","_law_source","_law_target","_law_most","_law_low","_law_high"] ["_law_levels","_law_source","_law_target","_law_most"] (ak nA):=⟨rfl,rfl,rfl,by decide+kernel,rfl,by decide+kernel,by decide+kernel⟩
theorem vY (A:cT K mg "_law_span" nA ["_law_levels","_law_source","_law_target","_law_most"]) (B:Bl mg BN):bv P w K mg base 1 "_law_span" 4 iQ:=by
 refine cf A qd rfl rfl λf Rj A outer s H E hr=> ?_
 have hu:=bQ hr
 have S:=qd
 exact af (aY 4 S.nd (ql gF fF (aa 3))) (af (aY 5 S.nd (ar 3)) (af (bN (aR jy gI (aa 1) (PQ.bo (ai))) (af (aY 4 S.nd (aW (sC rfl) yu (B.no "max" (by decide)) L2.Pu.vC (ax (aa 4) (ax (PQ.bo (az ji gX (PQ.bo (aO hu (aa 0) (aa 1))) (PQ.bo (ai)))) (aG))))) (al (aY 5 S.nd (aW (sD rfl) yt (B.no "min" (by decide)) L2.Pu.vB (ax (aa 5) (ax (PQ.bo (az aB aC (PQ.bo (aO hu (aa 0) (aa 1))) (PQ.bo (ai)))) (aG))))))) (aK)) (af (bN (aR jy gI (aa 2) (PQ.bo (ai))) (af (aY 4 S.nd (aW (sC rfl) yu (B.no "max" (by decide)) L2.Pu.vC (ax (aa 4) (ax (PQ.bo (az ji gX (PQ.bo (ql gF fF (PQ.bo (ai)))) (PQ.bo (aO hu (aa 0) (aa 2))))) (aG))))) (al (aY 5 S.nd (aW (sD rfl) yt (B.no "min" (by decide)) L2.Pu.vB (ax (aa 5) (ax (PQ.bo (az ji gX (PQ.bo (ai)) (PQ.bo (aO hu (aa 0) (aa 2))))) (aG))))))) (aK)) (al (ba (dC (a7 (ar 4) (a7 (ar 5) (ae)))))))))
theorem oA:aE ["_law_figures_here","_law_n","_law_streams","_law_meters","_law_bounds","_law_levels","_law_rows","_law_k","_law_number","_law_source","_law_target","_law_low","_law_high","_law_amount"] ["_law_figures_here","_law_n","_law_streams","_law_meters","_law_bounds"] (ak lH):=⟨rfl,rfl,rfl,by decide+kernel,rfl,by decide+kernel,by decide+kernel⟩
theorem uJ (A:cT K mg "_law_flows" lH ["_law_figures_here","_law_n","_law_streams","_law_meters","_law_bounds"]) (B:Bl mg BN) (Tp:bv P w K mg base 1 "_law_span" 4 iQ):bv P w K mg base 2 "_law_flows" 5 hX:=by
 refine cf A oA rfl rfl λf Rj A outer s H E hr=> ?_
 have hu:=bQ hr
 have S:=oA
 exact af (FR 5 S.nd (HD j8 BP (PQ.bo (dC (a7 (ai) (ae)))) (PQ.bo (az aB aC (aa 1) (PQ.bo (ai)))))) (af (ll 6 S.nd (ae)) (af (mP La rfl (dv (B.no "range" (by decide)) (a7 (aW b7 bP (B.no "len" (by decide)) Kj (ax (aa 2) (aG))) (ae))) (aS 7 S.nd) (af (Bh (aO hu (aa 2) (aa 7)) (Bg rfl (eU (aS 8 S.nd) (eU (aS 9 S.nd) (eU (aS 10 S.nd) (uf)))))) (af (FV [5] rfl (cH Tp (hr.mono (by decide)) (a7 (ar 5) (a7 (ar 9) (a7 (ar 10) (a7 (aO hu (aa 4) (PQ.bo (a_ oR uo (B.no "int" (by decide)) L2.Pu.o4 (ax (PQ.bo (Dv hu (aa 8) (aa 3))) (aG))))) (ae)))))) (eU (aS 11 S.nd) (eU (aS 12 S.nd) (uf)))) (af (aY 13 S.nd (az aB aC (aa 11) (PQ.bo (az bR bt (PQ.bo (aO hu (aa 0) (aa 7))) (PQ.bo (az aB aC (PQ.bo (az ji gX (aa 12) (aa 11))) (PQ.bo (ai)))))))) (af (Ef 5 hu (ar 9) (az ji gX (PQ.bo (aO hu (aa 5) (aa 9))) (aa 13))) (af (Ef 5 hu (ar 10) (az aB aC (PQ.bo (aO hu (aa 5) (aa 10))) (aa 13))) (al (jF 6 (bc (a7 (ar 8) (a7 (ar 13) (ae)))))))))))) (al (ba (dC (a7 (a_ aJ bp (B.no "tuple" (by decide)) L2.Pu.aT (ax (aa 6) (aG))) (a7 (a_ aJ bp (B.no "tuple" (by decide)) L2.Pu.aT (ax (PQ.bo (uq (aa 5) (xq (ai)) (xp))) (aG))) (ae))))))))
theorem qe:aE ["_law_day","_law_case"] ["_law_day","_law_case"] (ak nD):=⟨rfl,rfl,rfl,by decide+kernel,rfl,by decide+kernel,by decide+kernel⟩
theorem vZ (A:cT K mg "_law_kept" nD ["_law_day","_law_case"]) (B:Bl mg BN) (Rn:bv P w K mg base 8 "_law_same" 2 bg) (UG:cC K "Day" rJ):bv P w K mg base 9 "_law_kept" 2 gU:=by
 refine cf A qe rfl rfl λf Rj A outer s H E hr=> ?_
 have hu:=bQ hr
 have S:=qe
 exact af (bN (qH.t (sh (mO (f8 (PQ.bo (cH Rn (hr.mono (by decide)) (a7 (bq UG (by decide) (aa 0)) (a7 (aO hu (aa 1) (PQ.bo (ai))) (ae))))))) (mM (mO (f8 (PQ.bo (cH Rn (hr.mono (by decide)) (a7 (bq UG (by decide) (aa 0)) (a7 (aO hu (aa 1) (PQ.bo (ai))) (ae)))))))))) (al (ba (kb))) (aK)) (al (ba (vo (cH Rn (hr.mono (by decide)) (a7 (bq UG (by decide) (aa 0)) (a7 (aO hu (aa 1) (PQ.bo (ai))) (ae)))) (vn (cH Rn (hr.mono (by decide)) (a7 (bq UG (by decide) (aa 0)) (a7 (aO hu (aa 1) (PQ.bo (ai))) (ae))))))))
theorem tH:aE ["_law_cellar","_law_deed"] ["_law_cellar","_law_deed"] (ak rO):=⟨rfl,rfl,rfl,by decide+kernel,rfl,by decide+kernel,by decide+kernel⟩
theorem Ad (A:cT K mg "_law_do" rO ["_law_cellar","_law_deed"]) (B:Bl mg BN) (RF:dn P w K mg base 4 "Cellar" "stream_comes" 2 cr) (RG:dn P w K mg base 4 "Cellar" "stream_goes" 1 cE) (RH:dn P w K mg base 4 "Cellar" "meters_come" 1 cF) (RQ:dn P w K mg base 4 "Cellar" "meters_go" 1 cY) (RO:dn P w K mg base 4 "Cellar" "day_passes" 2 cO) (RS:dn P w K mg base 1 "Cellar" "take_back" 0 c7):xw P w K mg base 5 "_law_do" 1 1 eL:=by
 refine ux [⟨0,0,[]⟩] A tH rfl rfl (by decide) (by decide) (by decide) λf Rj A outer s H E hr=> ?_
 have hu:=bQ hr
 have S:=tH
 exact af (bN (aR cb bC (PQ.bo (aO hu (aa 1) (PQ.bo (ai)))) (PQ.bo (aF))) (al (nj (jr 0 RF (hr.mono (by decide)) (a7 (aO hu (aa 1) (PQ.bo (ai))) (a7 (aO hu (aa 1) (PQ.bo (ai))) (ae)))))) (aK)) (af (bN (aR cb bC (PQ.bo (aO hu (aa 1) (PQ.bo (ai)))) (PQ.bo (aF))) (al (nj (jr 0 RG (hr.mono (by decide)) (a7 (aO hu (aa 1) (PQ.bo (ai))) (ae))))) (aK)) (af (bN (aR cb bC (PQ.bo (aO hu (aa 1) (PQ.bo (ai)))) (PQ.bo (aF))) (al (nj (jr 0 RH (hr.mono (by decide)) (a7 (a_ gl lw (B.no "list" (by decide)) L2.Pu.jI (ax (PQ.bo (aO hu (aa 1) (PQ.bo (ai)))) (aG))) (ae))))) (aK)) (af (bN (aR cb bC (PQ.bo (aO hu (aa 1) (PQ.bo (ai)))) (PQ.bo (aF))) (al (nj (jr 0 RQ (hr.mono (by decide)) (a7 (a_ gl lw (B.no "list" (by decide)) L2.Pu.jI (ax (PQ.bo (aO hu (aa 1) (PQ.bo (ai)))) (aG))) (ae))))) (aK)) (af (bN (aR cb bC (PQ.bo (aO hu (aa 1) (PQ.bo (ai)))) (PQ.bo (aF))) (al (nj (jr 0 RO (hr.mono (by decide)) (a7 (a_ gl lw (B.no "list" (by decide)) L2.Pu.jI (ax (PQ.bo (aO hu (aa 1) (PQ.bo (ai)))) (aG))) (a7 (a_ gl lw (B.no "list" (by decide)) L2.Pu.jI (ax (PQ.bo (aO hu (aa 1) (PQ.bo (ai)))) (aG))) (ae)))))) (aK)) (al (nj (DI 0 RS (hr.mono (by decide)))))))))
theorem qf:aE ["_law_cellar","_law_deed","_law_kinds","e","_law_words","_law_word"] ["_law_cellar","_law_deed"] (ak nF):=⟨rfl,rfl,rfl,by decide+kernel,rfl,by decide+kernel,by decide+kernel⟩
theorem v_ (A:cT K mg "_law_done" nF ["_law_cellar","_law_deed"]) (B:Bl mg BN) (U8:xw P w K mg base 5 "_law_do" 1 1 eL) (RZ:eC K mg "AlreadyMetered" (tb 7)) (Tq:eC K mg "BadTanks" (tb 0)) (Ts:eC K mg "Clashing" I_) (SV:eC K mg "NotMetered" (tb 8)) (Sy:eC K mg "NothingDone" (tb 15)) (SW:eC K mg "OutOfRange" (tb 10)) (R_:eC K mg "ReadingMissing" (tb 9)) (Td:eC K mg "SamePlace" (tb 3)) (Sz:eC K mg "TooManyDays" (tb 13)) (Sh:eC K mg "TooManyDeeds" (tb 14)) (S6:eC K mg "TooManyMeters" (tb 12)) (S0:eC K mg "TooManyStreams" (tb 11)) (UO:eC K mg "Twice" (tb 6)) (SX:eC K mg "UnknownDay" (tb 1)) (Si:eC K mg "UnknownPlace" (tb 2)) (S7:eC K mg "UnknownStream" (tb 5)) (SY:pY K (.type "ValueError") IZ) (S_:eC K mg "WrongRises" (tb 4)) (SA:vH K mg "CellarError" (zZ RL)):xw P w K mg base 6 "_law_done" 1 1 eM:=by
 refine ux [⟨0,0,[]⟩] A qf rfl rfl (by decide) (by decide) (by decide) λf Rj A outer s H E hr=> ?_
 have hu:=bQ hr
 have S:=qf
 exact af (ll 2 S.nd (ae)) (af (HA 3 rn S.nd SA (λ_ _=>al (nj (FX (aF) (uy U8 (hr.mono (by decide)) (du 0 (kn (a7 (ar 1) (ae)))))))) (λ_=>af (ll 2 S.nd (a7 (eI Si (B.no "isinstance" (by decide)) (aa 3)) (a7 (eI Td (B.no "isinstance" (by decide)) (aa 3)) (a7 (eI S_ (B.no "isinstance" (by decide)) (aa 3)) (ae))))) (af (aY 2 S.nd (az aB aC (aa 2) (PQ.bo (dC (a7 (eI S7 (B.no "isinstance" (by decide)) (aa 3)) (a7 (eI UO (B.no "isinstance" (by decide)) (aa 3)) (a7 (eI RZ (B.no "isinstance" (by decide)) (aa 3)) (ae)))))))) (af (aY 2 S.nd (az aB aC (aa 2) (PQ.bo (dC (a7 (eI SV (B.no "isinstance" (by decide)) (aa 3)) (a7 (eI R_ (B.no "isinstance" (by decide)) (aa 3)) (a7 (eI SW (B.no "isinstance" (by decide)) (aa 3)) (ae)))))))) (af (aY 2 S.nd (az aB aC (aa 2) (PQ.bo (dC (a7 (eI S0 (B.no "isinstance" (by decide)) (aa 3)) (a7 (eI S6 (B.no "isinstance" (by decide)) (aa 3)) (a7 (eI Sz (B.no "isinstance" (by decide)) (aa 3)) (ae)))))))) (af (aY 2 S.nd (az aB aC (aa 2) (PQ.bo (dC (a7 (eI Sh (B.no "isinstance" (by decide)) (aa 3)) (a7 (eI Sy (B.no "isinstance" (by decide)) (aa 3)) (a7 (eI Tq (B.no "isinstance" (by decide)) (aa 3)) (ae)))))))) (al (aY 2 S.nd (az aB aC (aa 2) (PQ.bo (dC (a7 (eI SX (B.no "isinstance" (by decide)) (aa 3)) (a7 (eI Ts (B.no "isinstance" (by decide)) (aa 3)) (a7 (Ee (FQ SY L2.Pu.qq (B.no "ValueError" (by decide)) (B.no "isinstance" (by decide)) (aa 3))) (ae))))))))))))))) (af (ll 4 S.nd (a7 (aF) (a7 (aF) (a7 (aF) (a7 (aF) (a7 (aF) (a7 (aF) (a7 (aF) (ae))))))))) (af (aY 4 S.nd (az aB aC (aa 4) (PQ.bo (dC (a7 (aF) (a7 (aF) (a7 (aF) (a7 (aF) (a7 (aF) (ae)))))))))) (af (aY 4 S.nd (az aB aC (aa 4) (PQ.bo (dC (a7 (aF) (a7 (aF) (a7 (aF) (a7 (aF) (a7 (aF) (a7 (aF) (ae))))))))))) (af (aY 5 S.nd (aF)) (af (bN (aR cb bC (PQ.bo (FZ (aa 2) (kb))) (PQ.bo (ai))) (al (aY 5 S.nd (aO hu (aa 4) (PQ.bo (F_ (aa 2) (kb)))))) (aK)) (al (kq (dC (a7 (ar 5) (a7 (yo) (ae))))))))))))
theorem jR:aE ["_law_model","_law_source","_law_target","_law_place"] ["_law_model","_law_source","_law_target"] (ak ia):=⟨rfl,rfl,rfl,by decide+kernel,rfl,by decide+kernel,by decide+kernel⟩
theorem pH (A:cT K mg "_law_no_stream" ia ["_law_model","_law_source","_law_target"]) (B:Bl mg BN):bv P w K mg base 1 "_law_no_stream" 3 dZ:=by
 refine cf A jR rfl rfl λf Rj A outer s H E hr=> ?_
 have hu:=bQ hr
 have S:=jR
 exact af (mP La rfl (d6 (bc (a7 (ar 1) (a7 (ar 2) (ae))))) (aS 3 S.nd) (al (bN (qH.t (sh (aR pP lr (aa 3) (PQ.bo (ai))) (mM (aR jy gI (aa 3) (PQ.bo (aO hu (aa 0) (PQ.bo (ai)))))))) (al (ba (aF))) (aK)))) (af (bN (aR cb bC (aa 1) (aa 2)) (al (ba (aF))) (aK)) (af (bN (aR v5 rA (PQ.bo (aW b7 bP (B.no "len" (by decide)) Kj (ax (PQ.bo (aO hu (aa 0) (PQ.bo (ai)))) (aG)))) (PQ.bo (ai))) (al (ba (aF))) (aK)) (al (ba (aF)))))
theorem kT:aE ["_law_model","_law_named","_law_there"] ["_law_model","_law_named"] (ak iS):=⟨rfl,rfl,rfl,by decide+kernel,rfl,by decide+kernel,by decide+kernel⟩
theorem qz (A:cT K mg "_law_no_names" iS ["_law_model","_law_named"]) (B:Bl mg BN):bv P w K mg base 1 "_law_no_names" 2 cj:=by
 refine cf A kT rfl rfl λf Rj A outer s H E hr=> ?_
 have hu:=bQ hr
 have S:=kT
 exact af (qJ 2 (aQ.of rfl (by first|decide+kernel|rfl)) rfl S.nd (d6 (aO hu (aa 0) (PQ.bo (ai)))) (λ_ _ _=>aS 1 (show ([".0","_law_stream"]:List JN).Nodup by decide+kernel)) (λ_ _ _=>dk) (λ_ _ _=>aO hu (aa 1) (PQ.bo (ai)))) (af (bN (aR (pq hu) mj (PQ.bo (cu (aQ.of rfl (by first|decide+kernel|rfl)) rfl (d6 (ar 1)) (λ_ _ _=>aS 1 (show ([".0","_law_number","_law_there"]:List JN).Nodup by decide+kernel)) (λ_ _ _=>i4 (o1 hu (aa 1) (aa 2))) (λ_ _ _=>ar 1))) (PQ.bo (dC (ae)))) (al (ba (aF))) (aK)) (af (bN (aR (pq hu) mj (PQ.bo (cu (aQ.of rfl (by first|decide+kernel|rfl)) rfl (d6 (ar 1)) (λ_ _ _=>aS 1 (show ([".0","_law_number","_law_named"]:List JN).Nodup by decide+kernel)) (λ_ _ _=>i4 (aR jy gI (PQ.bo (G3 (aa 2) (ar 1))) (PQ.bo (ai)))) (λ_ _ _=>ar 1))) (PQ.bo (dC (ae)))) (al (ba (aF))) (aK)) (al (ba (aF)))))
theorem mS:aE ["_law_model","_law_rises","_law_readings","_law_named","_law_word","_law_amounts"] ["_law_model","_law_rises","_law_readings"] (ak kB):=⟨rfl,rfl,rfl,by decide+kernel,rfl,by decide+kernel,by decide+kernel⟩
theorem sr (A:cT K mg "_law_no_day" kB ["_law_model","_law_rises","_law_readings"]) (B:Bl mg BN) (Rq:bv P w K mg base 1 "_law_no_names" 2 cj):bv P w K mg base 2 "_law_no_day" 3 gA:=by
 refine cf A mS rfl rfl λf Rj A outer s H E hr=> ?_
 have hu:=bQ hr
 have S:=mS
 exact af (bN (aR lb iG (PQ.bo (aW b7 bP (B.no "len" (by decide)) Kj (ax (aa 1) (aG)))) (PQ.bo (aO hu (aa 0) (PQ.bo (ai))))) (al (ba (aF))) (aK)) (af (qJ 3 (aQ.of rfl (by first|decide+kernel|rfl)) rfl S.nd (d6 (ar 2)) (λ_ _ _=>aS 1 (show ([".0","_law_row"]:List JN).Nodup by decide+kernel)) (λ_ _ _=>dk) (λ_ _ _=>aO hu (aa 1) (PQ.bo (ai)))) (af (sU [3] (aY 4 S.nd (cH Rq (hr.mono (by decide)) (a7 (ar 0) (a7 (ar 3) (ae)))))) (af (bN (aR lb iG (aa 4) (PQ.bo (aF))) (al (ba (ar 4))) (aK)) (af (sU [3] (bN (aR (pq hu) mj (PQ.bo (cu (aQ.of rfl (by first|decide+kernel|rfl)) rfl (d6 (ar 3)) (λ_ _ _=>aS 1 (show ([".0","_law_number","_law_model"]:List JN).Nodup by decide+kernel)) (λ_ _ _=>i4 (o1 hu (aa 1) (PQ.bo (aO hu (aa 2) (PQ.bo (ai)))))) (λ_ _ _=>ar 1))) (PQ.bo (dC (ae)))) (al (ba (aF))) (aK))) (af (bN (aR (pq hu) mj (PQ.bo (cu (aQ.of rfl (by first|decide+kernel|rfl)) rfl (d6 (aO hu (aa 0) (PQ.bo (ai)))) (λ_ _ _=>aS 1 (show ([".0","_law_number","_law_named"]:List JN).Nodup by decide+kernel)) (λ_ _ _=>i4 (o1 hu (aa 1) (aa 2))) (λ_ _ _=>ar 1))) (PQ.bo (dC (ae)))) (al (ba (aF))) (aK)) (af (aY 5 S.nd (az aB aC (PQ.bo (a_ gl lw (B.no "list" (by decide)) L2.Pu.jI (ax (aa 1) (aG)))) (PQ.bo (cu (aQ.of rfl (by first|decide+kernel|rfl)) rfl (d6 (ar 2)) (λ_ _ _=>aS 1 (show ([".0","_law_row"]:List JN).Nodup by decide+kernel)) (λ_ _ _=>dk) (λ_ _ _=>aO hu (aa 1) (PQ.bo (ai))))))) (af (bN (aR (pq hu) mj (PQ.bo (cu (aQ.of rfl (by first|decide+kernel|rfl)) rfl (d6 (ar 5)) (λ_ _ _=>aS 1 (show ([".0","_law_amount"]:List JN).Nodup by decide+kernel)) (λ_ _ _=>i4 (qH.t (sh (aR pP lr (aa 1) (PQ.bo (ql gF fF (PQ.bo (ai))))) (mM (aR jy gI (aa 1) (PQ.bo (ai))))))) (λ_ _ _=>ar 1))) (PQ.bo (dC (ae)))) (al (ba (aF))) (aK)) (af (bN (aR v5 rA (PQ.bo (aW b7 bP (B.no "len" (by decide)) Kj (ax (PQ.bo (aO hu (aa 0) (PQ.bo (ai)))) (aG)))) (PQ.bo (ai))) (al (ba (aF))) (aK)) (al (ba (aF)))))))))))
theorem jS:aE ["_law_model","_law_come","_law_named","_law_word","_law_have"] ["_law_model","_law_come","_law_named"] (ak ic):=⟨rfl,rfl,rfl,by decide+kernel,rfl,by decide+kernel,by decide+kernel⟩
theorem pI (A:cT K mg "_law_no_meters" ic ["_law_model","_law_come","_law_named"]) (B:Bl mg BN) (Rq:bv P w K mg base 1 "_law_no_names" 2 cj):bv P w K mg base 2 "_law_no_meters" 3 d_:=by
 refine cf A jS rfl rfl λf Rj A outer s H E hr=> ?_
 have hu:=bQ hr
 have S:=jS
 exact af (aY 3 S.nd (cH Rq (hr.mono (by decide)) (a7 (ar 0) (a7 (ar 2) (ae))))) (af (bN (aR lb iG (aa 3) (PQ.bo (aF))) (al (ba (ar 3))) (aK)) (af (Bm 4 (aQ.of rfl (by first|decide+kernel|rfl)) rfl S.nd (d6 (ar 2)) (λ_ _ _=>aS 1 (show ([".0","_law_number","_law_model"]:List JN).Nodup by decide+kernel)) (λ_ _ _=>i4 (Hq hu (aa 1) (PQ.bo (aO hu (aa 2) (PQ.bo (ai)))))) (λ_ _ _=>ar 1)) (af (bN (qH.t (sT (f8 (aa 1)) (o_ (aR (pq hu) mj (aa 4) (PQ.bo (dC (ae))))))) (al (ba (aF))) (aK)) (af (bN (qH.t (sT (f8 (aa 1)) (o_ (aR jy gI (PQ.bo (az aB aC (PQ.bo (aW b7 bP (B.no "len" (by decide)) Kj (ax (PQ.bo (aO hu (aa 0) (PQ.bo (ai)))) (aG)))) (PQ.bo (aW b7 bP (B.no "len" (by decide)) Kj (ax (aa 2) (aG)))))) (PQ.bo (ai)))))) (al (ba (aF))) (aK)) (af (bN (qH.t (sT (mO (f8 (aa 1))) (o_ (aR pP lr (PQ.bo (aW b7 bP (B.no "len" (by decide)) Kj (ax (aa 4) (aG)))) (PQ.bo (aW b7 bP (B.no "len" (by decide)) Kj (ax (aa 2) (aG)))))))) (al (ba (aF))) (aK)) (al (ba (aF))))))))
theorem lQ:aE ["_law_past","_law_deed","_law_model","_law_word"] ["_law_past","_law_deed"] (ak jv):=⟨rfl,rfl,rfl,by decide+kernel,rfl,by decide+kernel,by decide+kernel⟩
theorem rT (A:cT K mg "_law_refusal" jv ["_law_past","_law_deed"]) (B:Bl mg BN) (S8:bv P w K mg base 1 "_law_no_stream" 3 dZ) (Rq:bv P w K mg base 1 "_law_no_names" 2 cj) (T1:bv P w K mg base 2 "_law_no_day" 3 gA) (S9:bv P w K mg base 2 "_law_no_meters" 3 d_):bv P w K mg base 3 "_law_refusal" 2 eo:=by
 refine cf A lQ rfl rfl λf Rj A outer s H E hr=> ?_
 have hu:=bQ hr
 have S:=lQ
 exact af (aY 2 S.nd (aO hu (aa 0) (PQ.bo (ql gF fF (PQ.bo (ai)))))) (af (bN (aR cb bC (PQ.bo (aO hu (aa 1) (PQ.bo (ai)))) (PQ.bo (aF))) (al (ba (aO hu (PQ.bo (dC (a7 (aF) (a7 (aF) (ae))))) (PQ.bo (a_ oR uo (B.no "int" (by decide)) L2.Pu.o4 (ax (PQ.bo (j7 cb bC (PQ.bo (aW b7 bP (B.no "len" (by decide)) Kj (ax (aa 0) (aG)))) (PQ.bo (ai)))) (aG))))))) (aK)) (af (bN (aR cb bC (PQ.bo (aO hu (aa 1) (PQ.bo (ai)))) (PQ.bo (aF))) (al (aY 3 S.nd (cH S8 (hr.mono (by decide)) (a7 (ar 2) (a7 (aO hu (aa 1) (PQ.bo (ai))) (a7 (aO hu (aa 1) (PQ.bo (ai))) (ae))))))) (al (bN (aR cb bC (PQ.bo (aO hu (aa 1) (PQ.bo (ai)))) (PQ.bo (aF))) (al (aY 3 S.nd (cH Rq (hr.mono (by decide)) (a7 (ar 2) (a7 (dC (a7 (aO hu (aa 1) (PQ.bo (ai))) (ae))) (ae)))))) (al (bN (aR cb bC (PQ.bo (aO hu (aa 1) (PQ.bo (ai)))) (PQ.bo (aF))) (al (aY 3 S.nd (cH T1 (hr.mono (by decide)) (a7 (ar 2) (a7 (aO hu (aa 1) (PQ.bo (ai))) (a7 (aO hu (aa 1) (PQ.bo (ai))) (ae))))))) (al (aY 3 S.nd (cH S9 (hr.mono (by decide)) (a7 (ar 2) (a7 (j7 cb bC (PQ.bo (aO hu (aa 1) (PQ.bo (ai)))) (PQ.bo (aF))) (a7 (aO hu (aa 1) (PQ.bo (ai))) (ae)))))))))))) (af (bN (qH.t (sT (aR cb bC (aa 3) (PQ.bo (aF))) (o_ (aR jy gI (PQ.bo (aW b7 bP (B.no "len" (by decide)) Kj (ax (aa 0) (aG)))) (PQ.bo (ai)))))) (al (aY 3 S.nd (aF))) (aK)) (al (ba (ar 3))))))
theorem mT:aE ["_law_model","_law_deed","_law_n","_law_following","_law_streams","_law_meters","_law_days","_law_deeds"] ["_law_model","_law_deed"] (ak kC):=⟨rfl,rfl,rfl,by decide+kernel,rfl,by decide+kernel,by decide+kernel⟩
theorem su (A:cT K mg "_law_behind" kC ["_law_model","_law_deed"]) (B:Bl mg BN):bv P w K mg base 1 "_law_behind" 2 dP:=by
 refine cf A mT rfl rfl λf Rj A outer s H E hr=> ?_
 have hu:=bQ hr
 have S:=mT
 exact af (Bh (ar 0) (Bg rfl (eU (aS 2 S.nd) (eU (aS 3 S.nd) (eU (aS 4 S.nd) (eU (aS 5 S.nd) (eU (aS 6 S.nd) (eU (aS 7 S.nd) (uf))))))))) (af (aY 7 S.nd (az aB aC (aa 7) (PQ.bo (bc (a7 (ar 1) (ae)))))) (af (bN (aR cb bC (PQ.bo (aO hu (aa 1) (PQ.bo (ai)))) (PQ.bo (aF))) (af (aY 4 S.nd (az aB aC (aa 4) (PQ.bo (bc (a7 (bc (a7 (ar 3) (a7 (aO hu (aa 1) (PQ.bo (ai))) (a7 (aO hu (aa 1) (PQ.bo (ai))) (ae))))) (ae)))))) (al (aY 3 S.nd (az aB aC (aa 3) (PQ.bo (ai)))))) (al (bN (aR cb bC (PQ.bo (aO hu (aa 1) (PQ.bo (ai)))) (PQ.bo (aF))) (af (aY 4 S.nd (a_ aJ bp (B.no "tuple" (by decide)) L2.Pu.aT (ax (PQ.bo (cu (aQ.of rfl (by first|decide+kernel|rfl)) rfl (d6 (ar 4)) (λ_ _ _=>aS 1 (show ([".0","_law_stream","_law_deed"]:List JN).Nodup by decide+kernel)) (λ_ _ _=>i4 (aR lb iG (PQ.bo (aO hu (aa 1) (PQ.bo (ai)))) (PQ.bo (aO hu (aa 2) (PQ.bo (ai)))))) (λ_ _ _=>ar 1))) (aG)))) (al (aY 5 S.nd (a_ aJ bp (B.no "tuple" (by decide)) L2.Pu.aT (ax (PQ.bo (cu (aQ.of rfl (by first|decide+kernel|rfl)) rfl (d6 (ar 5)) (λ_ _ _=>aS 1 (show ([".0","_law_number","_law_deed"]:List JN).Nodup by decide+kernel)) (λ_ _ _=>i4 (aR lb iG (aa 1) (PQ.bo (aO hu (aa 2) (PQ.bo (ai)))))) (λ_ _ _=>ar 1))) (aG)))))) (al (bN (aR cb bC (PQ.bo (aO hu (aa 1) (PQ.bo (ai)))) (PQ.bo (aF))) (al (aY 5 S.nd (a_ aJ bp (B.no "tuple" (by decide)) L2.Pu.aT (ax (PQ.bo (aW so uG (B.no "sorted" (by decide)) L2.Pu.j9 (ax (PQ.bo (az aB aC (aa 5) (PQ.bo (aO hu (aa 1) (PQ.bo (ai)))))) (aG)))) (aG))))) (al (bN (aR cb bC (PQ.bo (aO hu (aa 1) (PQ.bo (ai)))) (PQ.bo (aF))) (al (aY 5 S.nd (a_ aJ bp (B.no "tuple" (by decide)) L2.Pu.aT (ax (PQ.bo (cu (aQ.of rfl (by first|decide+kernel|rfl)) rfl (d6 (ar 5)) (λ_ _ _=>aS 1 (show ([".0","_law_number","_law_deed"]:List JN).Nodup by decide+kernel)) (λ_ _ _=>i4 (o1 hu (aa 1) (PQ.bo (aO hu (aa 2) (PQ.bo (ai)))))) (λ_ _ _=>ar 1))) (aG))))) (al (aY 6 S.nd (az aB aC (aa 6) (PQ.bo (bc (a7 (bc (a7 (ar 2) (a7 (ar 4) (a7 (aO hu (aa 1) (PQ.bo (ai))) (a7 (a_ aJ bp (B.no "tuple" (by decide)) L2.Pu.aT (ax (PQ.bo (aW (kj rfl) lA (B.no "sorted" (by decide)) L2.Pu.j9 (ax (PQ.bo (aO hu (aa 1) (PQ.bo (ai)))) (aG)))) (aG))) (ae)))))) (ae)))))))))))))) (al (ba (bc (a7 (ar 2) (a7 (ar 3) (a7 (ar 4) (a7 (ar 5) (a7 (ar 6) (a7 (ar 7) (ae))))))))))))
theorem mU:aE ["_law_model","_law_deed"] ["_law_model","_law_deed"] (ak kE):=⟨rfl,rfl,rfl,by decide+kernel,rfl,by decide+kernel,by decide+kernel⟩
theorem sv (A:cT K mg "_law_answer" kE ["_law_model","_law_deed"]) (B:Bl mg BN):bv P w K mg base 1 "_law_answer" 2 eZ:=by
 refine cf A mU rfl rfl λf Rj A outer s H E hr=> ?_
 have hu:=bQ hr
 have S:=mU
 exact af (bN (aR cb bC (PQ.bo (aO hu (aa 1) (PQ.bo (ai)))) (PQ.bo (aF))) (al (ba (aO hu (aa 0) (PQ.bo (ai))))) (aK)) (af (bN (aR cb bC (PQ.bo (aO hu (aa 1) (PQ.bo (ai)))) (PQ.bo (aF))) (al (ba (az aB aC (PQ.bo (aW b7 bP (B.no "len" (by decide)) Kj (ax (PQ.bo (aO hu (aa 0) (PQ.bo (ai)))) (aG)))) (PQ.bo (ai))))) (aK)) (al (ba (yo))))
theorem qg:aE ["_law_cellar","_law_past","_law_deed","_law_model","_law_word","_law_found"] ["_law_cellar","_law_past","_law_deed"] (ak nG):=⟨rfl,rfl,rfl,by decide+kernel,rfl,by decide+kernel,by decide+kernel⟩
theorem w8 (A:cT K mg "_law_step" nG ["_law_cellar","_law_past","_law_deed"]) (B:Bl mg BN) (SD:bv P w K mg base 3 "_law_refusal" 2 eo) (Tt:xw P w K mg base 6 "_law_done" 1 1 eM) (Rn:bv P w K mg base 8 "_law_same" 2 bg) (T2:bv P w K mg base 1 "_law_behind" 2 dP) (T3:bv P w K mg base 1 "_law_answer" 2 eZ):xw P w K mg base 9 "_law_step" 2 1 cM:=by
 refine ux [⟨0,0,[]⟩,⟨1,0,[]⟩] A qg rfl rfl (by decide) (by decide) (by decide) λf Rj A outer s H E hr=> ?_
 have hu:=bQ hr
 have S:=qg
 exact af (aY 3 S.nd (aO hu (aa 1) (PQ.bo (ql gF fF (PQ.bo (ai)))))) (af (aY 4 S.nd (FU [1] (cH SD (hr.mono (by decide)) (a7 (ar 1) (a7 (ar 2) (ae)))))) (af (FW 5 S.nd (uy Tt (hr.mono (by decide)) (du 0 (kn (a7 (ar 2) (ae)))))) (af (bN (qH.t (sh (aR lb iG (aa 4) (PQ.bo (aF))) (mM (aR lb iG (PQ.bo (aO hu (aa 5) (PQ.bo (ai)))) (PQ.bo (aF)))))) (al (kq (j7 cb bC (aa 4) (PQ.bo (aO hu (aa 5) (PQ.bo (ai))))))) (aK)) (af (bN (aR cb bC (PQ.bo (aO hu (aa 2) (PQ.bo (ai)))) (PQ.bo (aF))) (af (G1 1) (al (kq (cH Rn (hr.mono (by decide)) (a7 (aO hu (aa 5) (PQ.bo (ai))) (a7 (aO hu (PQ.bo (aO hu (aa 3) (PQ.bo (ai)))) (PQ.bo (ql gF fF (PQ.bo (ai))))) (ae))))))) (aK)) (af (jF 1 (cH T2 (hr.mono (by decide)) (a7 (ar 3) (a7 (ar 2) (ae))))) (al (kq (cH Rn (hr.mono (by decide)) (a7 (aO hu (aa 5) (PQ.bo (ai))) (a7 (cH T3 (hr.mono (by decide)) (a7 (ar 3) (a7 (ar 2) (ae)))) (ae)))))))))))
theorem mV:aE ["_law_model"] ["_law_model"] (ak kG):=⟨rfl,rfl,rfl,by decide+kernel,rfl,by decide+kernel,by decide+kernel⟩
theorem sx (A:cT K mg "_law_layout" kG ["_law_model"]) (B:Bl mg BN):bv P w K mg base 1 "_law_layout" 1 e_:=by
 refine cf A mV rfl rfl λf Rj A outer s H E hr=> ?_
 have hu:=bQ hr
 have S:=mV
 exact al (ba (a_ aJ bp (B.no "tuple" (by decide)) L2.Pu.aT (ax (PQ.bo (cu (aQ.of rfl (by first|decide+kernel|rfl)) rfl (d6 (aO hu (aa 0) (PQ.bo (ai)))) (λ_ _ _=>aS 1 (show ([".0","_law_stream","_law_model"]:List JN).Nodup by decide+kernel)) (λ_ _ _=>dk) (λ_ _ _=>az aB aC (aa 1) (PQ.bo (bc (a7 (Dv hu (PQ.bo (aO hu (aa 1) (PQ.bo (ai)))) (PQ.bo (aO hu (aa 2) (PQ.bo (ai))))) (ae))))))) (aG))))
theorem oB:aE ["_law_cellar","_law_model","_law_k"] ["_law_cellar","_law_model"] (ak lK):=⟨rfl,rfl,rfl,by decide+kernel,rfl,by decide+kernel,by decide+kernel⟩
theorem uK (A:cT K mg "_law_looks" lK ["_law_cellar","_law_model"]) (B:Bl mg BN) (Rn:bv P w K mg base 8 "_law_same" 2 bg) (Sa:bW P w K mg base 1 "Cellar" "layout" 1 dc) (T4:bv P w K mg base 1 "_law_layout" 1 e_) (Sj:bW P w K mg base 1 "Cellar" "deeds" 1 dA) (Rf:bW P w K mg base 1 "Cellar" "days_gone" 1 bf) (Tu:bv P w K mg base 9 "_law_kept" 2 gU) (T5:bW P w K mg base 2 "Cellar" "day" 2 eY) (R8:cC K "Cellar" cn):bv P w K mg base 10 "_law_looks" 2 fY:=by
 refine cf A oB rfl rfl λf Rj A outer s H E hr=> ?_
 have hu:=bQ hr
 have S:=oB
 exact af (bN (qH.t (sh (mO (f8 (PQ.bo (cH Rn (hr.mono (by decide)) (a7 (bq R8 (by decide) (aa 0)) (a7 (aO hu (aa 1) (PQ.bo (ai))) (ae))))))) (mM (mO (f8 (PQ.bo (cH Rn (hr.mono (by decide)) (a7 (o9 Sa (hr.mono (by decide)) (ar 0)) (a7 (cH T4 (hr.mono (by decide)) (a7 (ar 1) (ae))) (ae)))))))))) (al (ba (kb))) (aK)) (af (bN (qH.t (sh (mO (f8 (PQ.bo (cH Rn (hr.mono (by decide)) (a7 (o9 Sj (hr.mono (by decide)) (ar 0)) (a7 (aO hu (aa 1) (PQ.bo (ai))) (ae))))))) (mM (mO (f8 (PQ.bo (cH Rn (hr.mono (by decide)) (a7 (o9 Rf (hr.mono (by decide)) (ar 0)) (a7 (aW b7 bP (B.no "len" (by decide)) Kj (ax (PQ.bo (aO hu (aa 1) (PQ.bo (ai)))) (aG))) (ae)))))))))) (al (ba (kb))) (aK)) (af (mP La rfl (dv (B.no "range" (by decide)) (a7 (aW b7 bP (B.no "len" (by decide)) Kj (ax (PQ.bo (aO hu (aa 1) (PQ.bo (ai)))) (aG))) (ae))) (aS 2 S.nd) (al (bN (mO (f8 (PQ.bo (cH Tu (hr.mono (by decide)) (a7 (pd T5 (hr.mono (by decide)) (ar 0) (a7 (az aB aC (aa 2) (PQ.bo (ai))) (ae))) (a7 (aO hu (PQ.bo (aO hu (aa 1) (PQ.bo (ai)))) (aa 2)) (ae))))))) (al (ba (kb))) (aK)))) (al (ba (kb)))))
theorem kU:aE ["_law_model","_law_cell","_law_mixed","_law_mode","_law_many","_law_figures_here","_law_flows_here","_law_readings","_law_k","_law_number","_law_amount","_law_other","_law_rises"] ["_law_model","_law_cell","_law_mixed"] (ak iT):=⟨rfl,rfl,rfl,by decide+kernel,rfl,by decide+kernel,by decide+kernel⟩
theorem qA (A:cT K mg "_law_day_deed" iT ["_law_model","_law_cell","_law_mixed"]) (B:Bl mg BN) (SE:bv P w K mg base 1 "_law_figures" 4 fE) (Te:bv P w K mg base 2 "_law_flows" 5 hX):bv P w K mg base 3 "_law_day_deed" 3 cZ:=by
 refine cf A kU rfl rfl λf Rj A outer s H E hr=> ?_
 have hu:=bQ hr
 have S:=kU
 exact af (aY 3 S.nd (az bR bt (aa 1) (PQ.bo (ai)))) (af (aY 4 S.nd (aW b7 bP (B.no "len" (by decide)) Kj (ax (PQ.bo (aO hu (aa 0) (PQ.bo (ai)))) (aG)))) (af (aY 5 S.nd (cH SE (hr.mono (by decide)) (a7 (az j6 hU (aa 1) (PQ.bo (ai))) (a7 (ar 2) (a7 (az aB aC (PQ.bo (az j8 ke (PQ.bo (ai)) (aa 4))) (PQ.bo (aO hu (aa 0) (PQ.bo (ai))))) (a7 (ai) (ae))))))) (af (aY 6 S.nd (cH Te (hr.mono (by decide)) (a7 (ar 5) (a7 (aO hu (aa 0) (PQ.bo (ai))) (a7 (aO hu (aa 0) (PQ.bo (ai))) (a7 (aO hu (aa 0) (PQ.bo (ai))) (a7 (aO hu (PQ.bo (dC (a7 (dC (a7 (ai) (a7 (ai) (ae)))) (a7 (dC (a7 (ai) (a7 (ai) (ae)))) (ae))))) (PQ.bo (a_ oR uo (B.no "int" (by decide)) L2.Pu.o4 (ax (PQ.bo (j7 jy gI (aa 3) (PQ.bo (ai)))) (aG))))) (ae)))))))) (af (ll 7 S.nd (ae)) (af (mP La rfl (dv (B.no "range" (by decide)) (a7 (ar 4) (ae))) (aS 8 S.nd) (af (Bh (aO hu (PQ.bo (aO hu (aa 6) (PQ.bo (ai)))) (aa 8)) (Bg rfl (eU (aS 9 S.nd) (eU (aS 10 S.nd) (uf))))) (af (aY 11 S.nd (aO hu (aa 5) (PQ.bo (az aB aC (aa 4) (aa 8))))) (af (bN (qH.t (sh (aR cb bC (aa 3) (PQ.bo (ai))) (mM (qH.t (sT (aR cb bC (aa 3) (PQ.bo (ai))) (o_ (aR cb bC (PQ.bo (az bR bt (aa 11) (PQ.bo (ai)))) (PQ.bo (ai))))))))) (al (aY 10 S.nd (az ji gX (PQ.bo (az bR bt (PQ.bo (az j6 hU (aa 11) (PQ.bo (ai)))) (PQ.bo (ai)))) (PQ.bo (ai))))) (aK)) (af (bN (qH.t (sT (aR cb bC (aa 3) (PQ.bo (ai))) (o_ (aR cb bC (PQ.bo (az bR bt (aa 11) (PQ.bo (ai)))) (PQ.bo (ai)))))) (al (aY 10 S.nd (az ji gX (PQ.bo (az bR bt (PQ.bo (az j6 hU (aa 11) (PQ.bo (ai)))) (PQ.bo (ai)))) (PQ.bo (ai))))) (aK)) (al (bN (Hq hu (aa 9) (PQ.bo (aO hu (aa 0) (PQ.bo (ai))))) (al (jF 7 (bc (a7 (ar 9) (a7 (ar 10) (ae)))))) (aK)))))))) (af (aY 12 S.nd (aO hu (aa 6) (PQ.bo (ai)))) (af (bN (aR cb bC (aa 3) (PQ.bo (ai))) (al (aY 12 S.nd (a_ aJ bp (B.no "tuple" (by decide)) L2.Pu.aT (ax (PQ.bo (cu (aQ.of rfl (by first|decide+kernel|rfl)) rfl (dv (B.no "range" (by decide)) (a7 (aO hu (aa 0) (PQ.bo (ai))) (ae))) (λ_ _ _=>aS 1 (show ([".0","_law_k","_law_figures_here","_law_many"]:List JN).Nodup by decide+kernel)) (λ_ _ _=>dk) (λ_ _ _=>az ji gX (PQ.bo (az bR bt (PQ.bo (aO hu (aa 2) (PQ.bo (az aB aC (PQ.bo (az j8 ke (PQ.bo (ai)) (aa 3))) (aa 1))))) (PQ.bo (ai)))) (PQ.bo (ai))))) (aG))))) (aK)) (af (bN (aR cb bC (PQ.bo (az bR bt (PQ.bo (az j6 hU (aa 1) (PQ.bo (ai)))) (PQ.bo (ai)))) (PQ.bo (ai))) (al (aY 7 S.nd (Hr (aa 7)))) (aK)) (al (ba (bc (a7 (aF) (a7 (ar 12) (a7 (a_ aJ bp (B.no "tuple" (by decide)) L2.Pu.aT (ax (aa 7) (aG))) (ae)))))))))))))))
theorem qh:aE ["_law_day","_law_figure","_law_rises","_law_readings"] ["_law_day","_law_figure"] (ak nH):=⟨rfl,rfl,rfl,by decide+kernel,rfl,by decide+kernel,by decide+kernel⟩
theorem w9 (A:cT K mg "_law_bent" nH ["_law_day","_law_figure"]) (B:Bl mg BN):bv P w K mg base 1 "_law_bent" 2 fU:=by
 refine cf A qh rfl rfl λf Rj A outer s H E hr=> ?_
 have hu:=bQ hr
 have S:=qh
 exact af (aY 2 S.nd (aO hu (aa 0) (PQ.bo (ai)))) (af (aY 3 S.nd (aO hu (aa 0) (PQ.bo (ai)))) (af (bN (aR cb bC (PQ.bo (az bR bt (aa 1) (PQ.bo (ai)))) (PQ.bo (ai))) (al (aY 2 S.nd (az aB aC (aa 2) (PQ.bo (bc (a7 (ai) (ae))))))) (al (bN (aR cb bC (PQ.bo (az bR bt (aa 1) (PQ.bo (ai)))) (PQ.bo (ai))) (al (aY 3 S.nd (az aB aC (aa 3) (PQ.bo (bc (a7 (bc (a7 (az bR bt (PQ.bo (az j6 hU (aa 1) (PQ.bo (ai)))) (PQ.bo (ai))) (a7 (ai) (ae)))) (ae))))))) (al (bN (aR cb bC (PQ.bo (az bR bt (aa 1) (PQ.bo (ai)))) (PQ.bo (ai))) (al (aY 3 S.nd (az aB aC (PQ.bo (bc (a7 (bc (a7 (az bR bt (PQ.bo (az j6 hU (aa 1) (PQ.bo (ai)))) (PQ.bo (ai))) (a7 (ql gF fF (PQ.bo (ai))) (ae)))) (ae)))) (PQ.bo (uq (aa 3) (xq (ai)) (xp)))))) (al (bN (aR cb bC (PQ.bo (az bR bt (aa 1) (PQ.bo (ai)))) (PQ.bo (ai))) (al (aY 3 S.nd (uq (aa 3) (xp) (xq (ql gF fF (PQ.bo (ai))))))) (al (aY 2 S.nd (a_ aJ bp (B.no "tuple" (by decide)) L2.Pu.aT (ax (PQ.bo (cu (aQ.of rfl (by first|decide+kernel|rfl)) rfl (d6 (ar 2)) (λ_ _ _=>aS 1 (show ([".0","_law_rise"]:List JN).Nodup by decide+kernel)) (λ_ _ _=>dk) (λ_ _ _=>az aB aC (PQ.bo (az j8 ke (aa 1) (PQ.bo (ai)))) (PQ.bo (ai))))) (aG)))))))))))) (al (ba (bc (a7 (aF) (a7 (ar 2) (a7 (ar 3) (ae)))))))))
theorem jT:aE ["_law_model","_law_cell","_law_n","_law_deeds","_law_day"] ["_law_model","_law_cell"] (ak ie):=⟨rfl,rfl,rfl,by decide+kernel,rfl,by decide+kernel,by decide+kernel⟩
theorem pJ (A:cT K mg "_law_each_kind" ie ["_law_model","_law_cell"]) (B:Bl mg BN) (RA:bv P w K mg base 3 "_law_day_deed" 3 cZ) (Tv:bv P w K mg base 1 "_law_bent" 2 fU):bv P w K mg base 4 "_law_each_kind" 2 cq:=by
 refine cf A jT rfl rfl λf Rj A outer s H E hr=> ?_
 have hu:=bQ hr
 have S:=jT
 exact af (aY 2 S.nd (aO hu (aa 0) (PQ.bo (ai)))) (af (ll 3 S.nd (a7 (bc (a7 (aF) (a7 (az bR bt (aa 1) (PQ.bo (az aB aC (aa 2) (PQ.bo (ai))))) (a7 (az bR bt (PQ.bo (az aB aC (aa 1) (PQ.bo (ai)))) (PQ.bo (az aB aC (aa 2) (PQ.bo (ai))))) (ae))))) (a7 (bc (a7 (aF) (a7 (az aB aC (PQ.bo (ai)) (PQ.bo (az bR bt (aa 1) (PQ.bo (ai))))) (ae)))) (ae)))) (af (aY 3 S.nd (az aB aC (aa 3) (PQ.bo (dC (a7 (bc (a7 (aF) (a7 (bc (ae)) (ae)))) (a7 (bc (a7 (aF) (a7 (bc (a7 (az aB aC (PQ.bo (ai)) (PQ.bo (az bR bt (aa 1) (PQ.bo (ai))))) (ae))) (ae)))) (a7 (bc (a7 (aF) (a7 (bc (a7 (az aB aC (PQ.bo (ai)) (PQ.bo (az bR bt (aa 1) (PQ.bo (ai))))) (ae))) (ae)))) (ae)))))))) (af (aY 3 S.nd (az aB aC (aa 3) (PQ.bo (dC (a7 (bc (a7 (aF) (a7 (ai) (a7 (ai) (ae))))) (a7 (bc (a7 (aF) (a7 (ai) (ae)))) (a7 (bc (a7 (aF) (a7 (bc (a7 (ai) (a7 (ai) (ae)))) (ae)))) (a7 (bc (a7 (aF) (a7 (bc (a7 (ai) (a7 (ai) (ae)))) (ae)))) (ae))))))))) (af (aY 3 S.nd (az aB aC (aa 3) (PQ.bo (dC (a7 (bc (a7 (aF) (a7 (ai) (a7 (ai) (ae))))) (a7 (bc (a7 (aF) (a7 (bc (a7 (ai) (a7 (ai) (ae)))) (ae)))) (a7 (bc (a7 (aF) (a7 (bc (a7 (ai) (a7 (ai) (ae)))) (ae)))) (ae)))))))) (af (aY 4 S.nd (cH RA (hr.mono (by decide)) (a7 (ar 0) (a7 (ar 1) (a7 (kb) (ae)))))) (al (ba (az aB aC (PQ.bo (az aB aC (aa 3) (PQ.bo (dC (a7 (ar 4) (ae)))))) (PQ.bo (cu (aQ.of rfl (by first|decide+kernel|rfl)) rfl (dv (B.no "range" (by decide)) (a7 (ai) (ae))) (λ_ _ _=>aS 1 (show ([".0","_law_k","_law_bent","_law_cell","_law_day"]:List JN).Nodup by decide+kernel)) (λ_ _ _=>dk) (λ_ _ _=>cH Tv (hr.mono (by decide)) (a7 (ar 4) (a7 (az aB aC (PQ.bo (az bR bt (PQ.bo (az j8 ke (aa 3) (PQ.bo (ai)))) (PQ.bo (ai)))) (aa 1)) (ae))))))))))))))
theorem mW:aE ["_law_script","_law_model","_law_n","_law_many","_law_deeds"] ["_law_script","_law_model"] (ak kI):=⟨rfl,rfl,rfl,by decide+kernel,rfl,by decide+kernel,by decide+kernel⟩
theorem sy (A:cT K mg "_law_filled" kI ["_law_script","_law_model"]) (B:Bl mg BN) (Rw:bv P w K mg base 1 "_law_at" 2 bz):bv P w K mg base 2 "_law_filled" 2 f6:=by
 refine cf A mW rfl rfl λf Rj A outer s H E hr=> ?_
 have hu:=bQ hr
 have S:=mW
 exact af (aY 2 S.nd (aO hu (aa 1) (PQ.bo (ai)))) (af (aY 3 S.nd (az aB aC (PQ.bo (ai)) (PQ.bo (az bR bt (PQ.bo (cH Rw (hr.mono (by decide)) (a7 (ar 0) (a7 (ai) (ae))))) (PQ.bo (ai)))))) (af (Bm 4 (aQ.of rfl (by first|decide+kernel|rfl)) rfl S.nd (dv (B.no "range" (by decide)) (a7 (az aB aC (PQ.bo (ai)) (PQ.bo (az bR bt (PQ.bo (cH Rw (hr.mono (by decide)) (a7 (ar 0) (a7 (ai) (ae))))) (PQ.bo (ai))))) (ae))) (λ_ _ _=>aS 1 (show ([".0","_law_k","_law_n"]:List JN).Nodup by decide+kernel)) (λ_ _ _=>dk) (λ_ _ _=>bc (a7 (aF) (a7 (az bR bt (aa 1) (PQ.bo (az aB aC (aa 2) (PQ.bo (ai))))) (a7 (az bR bt (PQ.bo (az aB aC (aa 1) (PQ.bo (ai)))) (PQ.bo (az aB aC (aa 2) (PQ.bo (ai))))) (ae)))))) (af (bN (aR cb bC (PQ.bo (az bR bt (PQ.bo (az j6 hU (PQ.bo (cH Rw (hr.mono (by decide)) (a7 (ar 0) (a7 (ai) (ae))))) (PQ.bo (ai)))) (PQ.bo (ai)))) (PQ.bo (ai))) (al (jF 4 (bc (a7 (aF) (a7 (a_ aJ bp (B.no "tuple" (by decide)) L2.Pu.aT (ax (PQ.bo (cu (aQ.of rfl (by first|decide+kernel|rfl)) rfl (dv (B.no "range" (by decide)) (a7 (ar 3) (ae))) (λ_ _ _=>aS 1 (show ([".0","_law_k"]:List JN).Nodup by decide+kernel)) (λ_ _ _=>dk) (λ_ _ _=>az aB aC (aa 1) (PQ.bo (ai))))) (aG))) (ae)))))) (al (aY 4 S.nd (az aB aC (aa 4) (PQ.bo (cu (aQ.of rfl (by first|decide+kernel|rfl)) rfl (dv (B.no "range" (by decide)) (a7 (ar 3) (ae))) (λ_ _ _=>aS 1 (show ([".0","_law_k"]:List JN).Nodup by decide+kernel)) (λ_ _ _=>dk) (λ_ _ _=>bc (a7 (aF) (a7 (bc (a7 (az aB aC (aa 1) (PQ.bo (ai))) (ae))) (ae)))))))))) (al (sU [4] (ba (ar 4)))))))
theorem rV:aE ["_law_cellar","_law_past","_law_deeds","_law_deed"] ["_law_cellar","_law_past","_law_deeds"] (ak pC):=⟨rfl,rfl,rfl,by decide+kernel,rfl,by decide+kernel,by decide+kernel⟩
theorem xC (A:cT K mg "_law_all" pC ["_law_cellar","_law_past","_law_deeds"]) (B:Bl mg BN) (RJ:xw P w K mg base 9 "_law_step" 2 1 cM):xw P w K mg base 10 "_law_all" 2 1 fZ:=by
 refine ux [⟨0,0,[]⟩,⟨1,0,[]⟩] A rV rfl rfl (by decide) (by decide) (by decide) λf Rj A outer s H E hr=> ?_
 have hu:=bQ hr
 have S:=rV
 exact af (mP La rfl (d6 (ar 2)) (aS 3 S.nd) (al (rF (nl (nk (uy RJ (hr.mono (by decide)) (du 0 (du 1 (kn (a7 (ar 3) (ae)))))))) (al (kq (kb))) (aK)))) (al (kq (kb)))
theorem C7:aE ["_law_script","_law_n","_law_past","_law_cellar","_law_k","_law_day"] ["_law_script"] (ak rQ):=⟨rfl,rfl,rfl,by decide+kernel,rfl,by decide+kernel,by decide+kernel⟩
theorem G4 {f:JO} {fd:Lc} (F:yg K "law" "law" rQ f fd) (B:Bl mg BN) (Rw:bv P w K mg base 1 "_law_at" 2 bz) (SF:vU P w K mg base 3 "Cellar" 1 eh) (SK:xw P w K mg base 10 "_law_all" 2 1 fZ) (T6:bv P w K mg base 2 "_law_filled" 2 f6) (RA:bv P w K mg base 3 "_law_day_deed" 3 cZ) (RJ:xw P w K mg base 9 "_law_step" 2 1 cM) (RP:bv P w K mg base 4 "_law_each_kind" 2 cq) (Tf:bv P w K mg base 10 "_law_looks" 2 fY):fH P w K mg base (lh P w) 11 f fd ["_law_script"] (zK K 1 tE):=by
 refine Fw F C7 rfl rfl λRj A outer s H E hr=> ?_
 have hu:=bQ hr
 have S:=C7
 exact af (aY 1 S.nd (az aB aC (PQ.bo (ai)) (PQ.bo (az bR bt (PQ.bo (cH Rw (hr.mono (by decide)) (a7 (ar 0) (a7 (ai) (ae))))) (PQ.bo (ai)))))) (af (ll 2 S.nd (a7 (bc (a7 (ar 1) (a7 (ai) (a7 (bc (ae)) (a7 (bc (ae)) (a7 (bc (ae)) (a7 (bc (ae)) (ae)))))))) (ae))) (af (DL 3 S.nd SF (hr.mono (by decide)) (a7 (ar 1) (ae))) (af (rF (nl (nk (uy SK (hr.mono (by decide)) (du 3 (du 2 (kn (a7 (cH T6 (hr.mono (by decide)) (a7 (ar 0) (a7 (aO hu (aa 2) (PQ.bo (ai))) (ae)))) (ae)))))))) (al (ba (kb))) (aK)) (af (mP La rfl (dv (B.no "range" (by decide)) (a7 (az aB aC (PQ.bo (ai)) (PQ.bo (az bR bt (PQ.bo (cH Rw (hr.mono (by decide)) (a7 (ar 0) (a7 (ai) (ae))))) (PQ.bo (ai))))) (ae))) (aS 4 S.nd) (af (aY 5 S.nd (cH RA (hr.mono (by decide)) (a7 (aO hu (aa 2) (PQ.bo (ql gF fF (PQ.bo (ai))))) (a7 (az aB aC (PQ.bo (cH Rw (hr.mono (by decide)) (a7 (ar 0) (a7 (az aB aC (PQ.bo (ai)) (aa 4)) (ae))))) (aa 4)) (a7 (j7 cb bC (PQ.bo (az bR bt (PQ.bo (cH Rw (hr.mono (by decide)) (a7 (ar 0) (a7 (ai) (ae))))) (PQ.bo (ai)))) (PQ.bo (ai))) (ae)))))) (al (rF (nl (nk (uy RJ (hr.mono (by decide)) (du 3 (du 2 (kn (a7 (ar 5) (ae)))))))) (al (ba (kb))) (aK))))) (af (mP La rfl (dv (B.no "range" (by decide)) (a7 (az aB aC (PQ.bo (az ji gX (PQ.bo (az aB aC (PQ.bo (ai)) (PQ.bo (az bR bt (PQ.bo (cH Rw (hr.mono (by decide)) (a7 (ar 0) (a7 (ai) (ae))))) (PQ.bo (ai)))))) (PQ.bo (aW b7 bP (B.no "len" (by decide)) Kj (ax (aa 2) (aG)))))) (PQ.bo (ai))) (ae))) (aS 4 S.nd) (al (rF (nl (nk (uy RJ (hr.mono (by decide)) (du 3 (du 2 (kn (a7 (bc (a7 (aF) (a7 (bc (ae)) (ae)))) (ae)))))))) (al (ba (kb))) (aK)))) (af (rF (nl (nk (uy SK (hr.mono (by decide)) (du 3 (du 2 (kn (a7 (cH RP (hr.mono (by decide)) (a7 (aO hu (aa 2) (PQ.bo (ql gF fF (PQ.bo (ai))))) (a7 (cH Rw (hr.mono (by decide)) (a7 (ar 0) (a7 (ai) (ae)))) (ae)))) (ae)))))))) (al (ba (kb))) (aK)) (af (mP La rfl (dv (B.no "range" (by decide)) (a7 (az aB aC (PQ.bo (ai)) (PQ.bo (az bR bt (PQ.bo (cH Rw (hr.mono (by decide)) (a7 (ar 0) (a7 (ai) (ae))))) (PQ.bo (ai))))) (ae))) (aS 4 S.nd) (al (rF (nl (nk (uy RJ (hr.mono (by decide)) (du 3 (du 2 (kn (a7 (bc (a7 (aF) (ae))) (ae)))))))) (al (ba (kb))) (aK)))) (af (rF (nl (nk (uy SK (hr.mono (by decide)) (du 3 (du 2 (kn (a7 (cH RP (hr.mono (by decide)) (a7 (aO hu (aa 2) (PQ.bo (ql gF fF (PQ.bo (ai))))) (a7 (cH Rw (hr.mono (by decide)) (a7 (ar 0) (a7 (ai) (ae)))) (ae)))) (ae)))))))) (al (ba (kb))) (aK)) (al (ba (yD "history" [3] (cH Tf (hr.mono (by decide)) (a7 (ar 3) (a7 (aO hu (aa 2) (PQ.bo (ql gF fF (PQ.bo (ai))))) (ae)))))))))))))))
theorem G5 {l:OL} {h:Ka} {fa So Rh Rl S1 Tw X0 X1 X2 X3 X4 X5 X6 X7 X8 X9 Uj Uk Ul Um Uo Up:JO} (X:K.In h) (G:h.Ns JX mg) (a1c:mg "law"=some (.ref fa))
  (Wy:K0 K JX "Day"=some (some (.ref So)))
  (U9:K0 K JX "Standing"=some (some (.ref Rh)))
  (V2:K0 K JX "Cellar"=some (some (.ref Rl)))
  (Uu:K0 K JX "CellarError"=some (some (.ref S1)))
  (Vq:K0 K JX "Clashing"=some (some (.ref Tw)))
  (N:uF K RL [X0,X1,X2,X3,X4,X5,X6,X7,X8,X9,Uj,Uk,Ul,Um,Uo,Up])
  (Xb:LM K So PL=true)
  (Xc:LU K So=true)
  (Xd:Mg K So=true)
  (Xe:K4 K (.ref So) "__setattr__"=some (some (.builtin "object.__setattr__")))
  (V3:K4 K (.ref So) "tanks"=some none)
  (Uv:K4 K (.ref So) "streams"=some none)
  (V4:K4 K (.ref So) "rises"=some none)
  (Ua:K4 K (.ref So) "readings"=some none)
  (Xf:M9 K So=true)
  (Xg:KJ K (.ref So)=true)
  (V5:LM K Rh PL=true)
  (V6:LU K Rh=true)
  (V7:Mg K Rh=true)
  (V8:K4 K (.ref Rh) "__setattr__"=some (some (.builtin "object.__setattr__")))
  (U2:K4 K (.ref Rh) "came"=some none)
  (Tx:K4 K (.ref Rh) "streams"=some none)
  (TJ:K4 K (.ref Rh) "meters"=some none)
  (TK:K4 K (.ref Rh) "passed"=some none)
  (V9:M9 K Rh=true)
  (Va:KJ K (.ref Rh)=true)
  (VO:LM K Rl PL=true)
  (VP:LU K Rl=true)
  (VQ:Mg K Rl=true)
  (VR:K4 K (.ref Rl) "__setattr__"=some (some (.builtin "object.__setattr__")))
  (Ub:K4 K (.ref Rl) "tanks"=some none)
  (UP:K4 K (.ref Rl) "now"=some none)
  (TQ:K4 K (.ref Rl) "history"=some none)
  (VS:M9 K Rl=true)
  (VT:KJ K (.ref Rl)=true)
  (u1:q9 K So "__init__" "Day.__init__" kt)
  (u2:q9 K Rh "__init__" "Standing.__init__" fG)
  (u3:q9 K Rh "with_stream" "Standing.with_stream" dL)
  (u4:q9 K Rh "without_stream" "Standing.without_stream" d8)
  (u5:q9 K Rh "with_meters" "Standing.with_meters" dN)
  (u6:q9 K Rh "without_meters" "Standing.without_meters" da)
  (u7:q9 K Rh "with_day" "Standing.with_day" ft)
  (u8:UF K "refuse_places" i7)
  (u9:UF K "refuse_numbers" gR)
  (a1d:UF K "refuse_unmetered" fK)
  (a1e:UF K "refuse_amounts" gT)
  (a1f:q9 K Rl "__init__" "Cellar.__init__" gZ)
  (a1g:q9 K Rl "keep_deed" "Cellar.keep_deed" fM)
  (a1h:q9 K Rl "stream_comes" "Cellar.stream_comes" eA)
  (a1i:q9 K Rl "stream_goes" "Cellar.stream_goes" eJ)
  (a1j:q9 K Rl "meters_come" "Cellar.meters_come" eK)
  (a1k:q9 K Rl "meters_go" "Cellar.meters_go" fO)
  (a1l:q9 K Rl "days_gone" "Cellar.days_gone" fP)
  (a1m:q9 K Rl "day_passes" "Cellar.day_passes" fu)
  (a1n:q9 K Rl "take_back" "Cellar.take_back" fQ)
  (a1o:q9 K Rl "layout" "Cellar.layout" i8)
  (a1p:q9 K Rl "deeds" "Cellar.deeds" iP)
  (a1q:q9 K Rl "day" "Cellar.day" kx)
  (a1r:UF K "_law_at" rN)
  (a1s:UF K "_law_figures" jt)
  (a1t:UF K "_law_same" kA)
  (a1u:UF K "_law_span" nA)
  (a1v:UF K "_law_flows" lH)
  (a1w:UF K "_law_kept" nD)
  (a1x:UF K "_law_do" rO)
  (a1y:UF K "_law_done" nF)
  (a1z:UF K "_law_no_stream" ia)
  (a1A:UF K "_law_no_names" iS)
  (a1B:UF K "_law_no_day" kB)
  (a1C:UF K "_law_no_meters" ic)
  (a1D:UF K "_law_refusal" jv)
  (a1E:UF K "_law_behind" kC)
  (a1F:UF K "_law_answer" kE)
  (a1G:UF K "_law_step" nG)
  (a1H:UF K "_law_layout" kG)
  (a1I:UF K "_law_looks" lK)
  (a1J:UF K "_law_day_deed" iT)
  (a1K:UF K "_law_bent" nH)
  (a1L:UF K "_law_each_kind" ie)
  (a1M:UF K "_law_filled" kI)
  (a1N:UF K "_law_all" pC)
  (a1O:UF K "law" rQ)
  (Z:Gv K)
  (E:xz K [X0,X1,X2,X3,X4,X5,X6,X7,X8,X9,Uj,Uk,Ul,Um,Uo,Up])
  (Uc:L3 K S1 vm "ValueError.__new__"=true)
  (Ud:Kz K S1 (.type "BaseException")=some true)
  (Vb:L3 K Tw vm "ValueError.__new__"=true)
  (TR:i6 K (.ref X7) (·==7) 0 [X0,X1,X2,X3,X4,X5,X6,X7,X8,X9,Uj,Uk,Ul,Um,Uo,Up])
  (Vr:i6 K (.ref X0) (·==0) 0 [X0,X1,X2,X3,X4,X5,X6,X7,X8,X9,Uj,Uk,Ul,Um,Uo,Up])
  (Vs:i6 K (.ref Tw) (λ_=>false) 0 [X0,X1,X2,X3,X4,X5,X6,X7,X8,X9,Uj,Uk,Ul,Um,Uo,Up])
  (UQ:i6 K (.ref X8) (·==8) 0 [X0,X1,X2,X3,X4,X5,X6,X7,X8,X9,Uj,Uk,Ul,Um,Uo,Up])
  (Uw:i6 K (.ref Up) (·==15) 0 [X0,X1,X2,X3,X4,X5,X6,X7,X8,X9,Uj,Uk,Ul,Um,Uo,Up])
  (UR:i6 K (.ref Uj) (·==10) 0 [X0,X1,X2,X3,X4,X5,X6,X7,X8,X9,Uj,Uk,Ul,Um,Uo,Up])
  (TU:i6 K (.ref X9) (·==9) 0 [X0,X1,X2,X3,X4,X5,X6,X7,X8,X9,Uj,Uk,Ul,Um,Uo,Up])
  (Vc:i6 K (.ref X3) (·==3) 0 [X0,X1,X2,X3,X4,X5,X6,X7,X8,X9,Uj,Uk,Ul,Um,Uo,Up])
  (Ux:i6 K (.ref Um) (·==13) 0 [X0,X1,X2,X3,X4,X5,X6,X7,X8,X9,Uj,Uk,Ul,Um,Uo,Up])
  (Ue:i6 K (.ref Uo) (·==14) 0 [X0,X1,X2,X3,X4,X5,X6,X7,X8,X9,Uj,Uk,Ul,Um,Uo,Up])
  (U3:i6 K (.ref Ul) (·==12) 0 [X0,X1,X2,X3,X4,X5,X6,X7,X8,X9,Uj,Uk,Ul,Um,Uo,Up])
  (TV:i6 K (.ref Uk) (·==11) 0 [X0,X1,X2,X3,X4,X5,X6,X7,X8,X9,Uj,Uk,Ul,Um,Uo,Up])
  (Wk:i6 K (.ref X6) (·==6) 0 [X0,X1,X2,X3,X4,X5,X6,X7,X8,X9,Uj,Uk,Ul,Um,Uo,Up])
  (US:i6 K (.ref X1) (·==1) 0 [X0,X1,X2,X3,X4,X5,X6,X7,X8,X9,Uj,Uk,Ul,Um,Uo,Up])
  (Ug:i6 K (.ref X2) (·==2) 0 [X0,X1,X2,X3,X4,X5,X6,X7,X8,X9,Uj,Uk,Ul,Um,Uo,Up])
  (U4:i6 K (.ref X5) (·==5) 0 [X0,X1,X2,X3,X4,X5,X6,X7,X8,X9,Uj,Uk,Ul,Um,Uo,Up])
  (UT:i6 K (.type "ValueError") (λ_=>true) 0 [X0,X1,X2,X3,X4,X5,X6,X7,X8,X9,Uj,Uk,Ul,Um,Uo,Up])
  (UU:i6 K (.ref X4) (·==4) 0 [X0,X1,X2,X3,X4,X5,X6,X7,X8,X9,Uj,Uk,Ul,Um,Uo,Up])
  (Uy:i6 K (.ref S1) (λ_=>true) 0 [X0,X1,X2,X3,X4,X5,X6,X7,X8,X9,Uj,Uk,Ul,Um,Uo,Up])
  {Sr:MP}
  (Uz:K0 K JX "MOST_AMOUNT"=some (some (.int 1000 Sr)))
  {Tc:MP}
  (Vd:K0 K JX "MOST_DAYS"=some (some (.int 12 Tc)))
  {SQ:MP}
  (UW:K0 K JX "MOST_DEEDS"=some (some (.int 60 SQ)))
  {Sv:MP}
  (UA:K0 K JX "MOST_METERS"=some (some (.int 10 Sv)))
  {Sf:MP}
  (Uh:K0 K JX "MOST_STREAMS"=some (some (.int 12 Sf)))
  {SO:MP}
  (UX:K0 K JX "MOST_TANKS"=some (some (.int 7 SO)))
  {TN:MP}
  (VU:K0 K JX "OUTSIDE"=some (some (.int 0 TN)))
  (z0:K0 K JX "ValueError"=some none)
  (z1:K0 K JX "abs"=some none)
  (z2:K0 K JX "any"=some none)
  (z3:K0 K JX "bool"=some none)
  (z4:K0 K JX "int"=some none)
  (z5:K0 K JX "isinstance"=some none)
  (z6:K0 K JX "len"=some none)
  (z7:K0 K JX "list"=some none)
  (z8:K0 K JX "max"=some none)
  (z9:K0 K JX "min"=some none)
  (Yp:K0 K JX "range"=some none)
  (Yq:K0 K JX "set"=some none)
  (a0g:K0 K JX "sorted"=some none)
  (a0h:K0 K JX "str"=some none)
  (a1P:K0 K JX "tuple"=some none)
  :∃fd:Lc,(∀(s:JP) (v:JM),P0 s fd ⟨[v],[]⟩ [("_law_script",v)])/\∀base:Ka,K.In base->base.Ns JX mg->fH l.prog w K mg base (lh l.prog w) 11 fa fd ["_law_script"] (zK K 1 tE):=by
 obtain⟨f0,a2s,a2t,a1Q,a1R,a1S,a1T,a1U,a1V,a2u,a0,l0,c0,k0⟩:=a1O
 have e:=a1c.symm.trans (Kg X G a0)
 cases e
 have B:Bl mg BN:=⟨λx hx=>by
  simp only[BN,K1,KN,or_false]at hx
  rcases hx with rfl|rfl|rfl|rfl|rfl|rfl|rfl|rfl|rfl|rfl|rfl|rfl|rfl|rfl|rfl
  ·exact KD X G z0
  ·exact KD X G z1
  ·exact KD X G z2
  ·exact KD X G z3
  ·exact KD X G z4
  ·exact KD X G z5
  ·exact KD X G z6
  ·exact KD X G z7
  ·exact KD X G z8
  ·exact KD X G z9
  ·exact KD X G Yp
  ·exact KD X G Yq
  ·exact KD X G a0g
  ·exact KD X G a0h
  ·exact KD X G a1P⟩
 have W4:ja K "Day" So:=⟨Wy,Xb,Xc,Xd,Xe⟩
 have W5:∀x∈rJ,eu K So x:=λx hx=>by
  simp only[rJ,K1,KN,or_false]at hx
  rcases hx with rfl|rfl|rfl|rfl
  ·exact V3
  ·exact Uv
  ·exact V4
  ·exact Ua
 have UG:cC K "Day" rJ:=⟨_,W4,W5⟩
 have RK:ja K "Standing" Rh:=⟨U9,V5,V6,V7,V8⟩
 have T_:∀x∈bD,eu K Rh x:=λx hx=>by
  simp only[bD,K1,KN,or_false]at hx
  rcases hx with rfl|rfl|rfl|rfl
  ·exact U2
  ·exact Tx
  ·exact TJ
  ·exact TK
 have R7:cC K "Standing" bD:=⟨_,RK,T_⟩
 have Rv:ja K "Cellar" Rl:=⟨V2,VO,VP,VQ,VR⟩
 have UH:∀x∈cn,eu K Rl x:=λx hx=>by
  simp only[cn,K1,KN,or_false]at hx
  rcases hx with rfl|rfl|rfl
  ·exact Ub
  ·exact UP
  ·exact TQ
 have R8:cC K "Cellar" cn:=⟨_,Rv,UH⟩
 have Sd:=Kg X G Uz
 have SR:=Kg X G Vd
 have Su:=Kg X G UW
 have Sg:=Kg X G UA
 have S4:=Kg X G Uh
 have Ss:=Kg X G UX
 have Tj:=Kg X G VU
 have RX:cJ K mg "AlreadyMetered":=dh Z X G N E _ (by decide+kernel)
 have Tn:cJ K mg "BadTanks":=dh Z X G N E _ (by decide+kernel)
 have SM:cJ K mg "NotMetered":=dh Z X G N E _ (by decide+kernel)
 have Sx:cJ K mg "NothingDone":=dh Z X G N E _ (by decide+kernel)
 have SN:cJ K mg "OutOfRange":=dh Z X G N E _ (by decide+kernel)
 have RY:cJ K mg "ReadingMissing":=dh Z X G N E _ (by decide+kernel)
 have Tb:cJ K mg "SamePlace":=dh Z X G N E _ (by decide+kernel)
 have Sw:cJ K mg "TooManyDays":=dh Z X G N E _ (by decide+kernel)
 have Se:cJ K mg "TooManyDeeds":=dh Z X G N E _ (by decide+kernel)
 have S5:cJ K mg "TooManyMeters":=dh Z X G N E _ (by decide+kernel)
 have RW:cJ K mg "TooManyStreams":=dh Z X G N E _ (by decide+kernel)
 have UN:cJ K mg "Twice":=dh Z X G N E _ (by decide+kernel)
 have SU:cJ K mg "UnknownDay":=dh Z X G N E _ (by decide+kernel)
 have Sb:cJ K mg "UnknownPlace":=dh Z X G N E _ (by decide+kernel)
 have S2:cJ K mg "UnknownStream":=dh Z X G N E _ (by decide+kernel)
 have SS:cJ K mg "WrongRises":=dh Z X G N E _ (by decide+kernel)
 have RZ:eC K mg "AlreadyMetered" (tb 7):=cD Z N E (Kg X G (bw N E "AlreadyMetered" _ rfl).1) (bw N E "AlreadyMetered" _ rfl).2.1 TR
 have Tq:eC K mg "BadTanks" (tb 0):=cD Z N E (Kg X G (bw N E "BadTanks" _ rfl).1) (bw N E "BadTanks" _ rfl).2.1 Vr
 have Ts:eC K mg "Clashing" I_:=cD Z N E (Kg X G Vq) Vb Vs
 have SV:eC K mg "NotMetered" (tb 8):=cD Z N E (Kg X G (bw N E "NotMetered" _ rfl).1) (bw N E "NotMetered" _ rfl).2.1 UQ
 have Sy:eC K mg "NothingDone" (tb 15):=cD Z N E (Kg X G (bw N E "NothingDone" _ rfl).1) (bw N E "NothingDone" _ rfl).2.1 Uw
 have SW:eC K mg "OutOfRange" (tb 10):=cD Z N E (Kg X G (bw N E "OutOfRange" _ rfl).1) (bw N E "OutOfRange" _ rfl).2.1 UR
 have R_:eC K mg "ReadingMissing" (tb 9):=cD Z N E (Kg X G (bw N E "ReadingMissing" _ rfl).1) (bw N E "ReadingMissing" _ rfl).2.1 TU
 have Td:eC K mg "SamePlace" (tb 3):=cD Z N E (Kg X G (bw N E "SamePlace" _ rfl).1) (bw N E "SamePlace" _ rfl).2.1 Vc
 have Sz:eC K mg "TooManyDays" (tb 13):=cD Z N E (Kg X G (bw N E "TooManyDays" _ rfl).1) (bw N E "TooManyDays" _ rfl).2.1 Ux
 have Sh:eC K mg "TooManyDeeds" (tb 14):=cD Z N E (Kg X G (bw N E "TooManyDeeds" _ rfl).1) (bw N E "TooManyDeeds" _ rfl).2.1 Ue
 have S6:eC K mg "TooManyMeters" (tb 12):=cD Z N E (Kg X G (bw N E "TooManyMeters" _ rfl).1) (bw N E "TooManyMeters" _ rfl).2.1 U3
 have S0:eC K mg "TooManyStreams" (tb 11):=cD Z N E (Kg X G (bw N E "TooManyStreams" _ rfl).1) (bw N E "TooManyStreams" _ rfl).2.1 TV
 have UO:eC K mg "Twice" (tb 6):=cD Z N E (Kg X G (bw N E "Twice" _ rfl).1) (bw N E "Twice" _ rfl).2.1 Wk
 have SX:eC K mg "UnknownDay" (tb 1):=cD Z N E (Kg X G (bw N E "UnknownDay" _ rfl).1) (bw N E "UnknownDay" _ rfl).2.1 US
 have Si:eC K mg "UnknownPlace" (tb 2):=cD Z N E (Kg X G (bw N E "UnknownPlace" _ rfl).1) (bw N E "UnknownPlace" _ rfl).2.1 Ug
 have S7:eC K mg "UnknownStream" (tb 5):=cD Z N E (Kg X G (bw N E "UnknownStream" _ rfl).1) (bw N E "UnknownStream" _ rfl).2.1 U4
 have SY:pY K (.type "ValueError") IZ:=DO Z N E UT
 have S_:eC K mg "WrongRises" (tb 4):=cD Z N E (Kg X G (bw N E "WrongRises" _ rfl).1) (bw N E "WrongRises" _ rfl).2.1 UU
 have SA:vH K mg "CellarError" (zZ RL):=Aa (Kg X G Uu) Uc Ud N Uy
 refine⟨KP "law" "law" (dq rQ) (bO rQ) (ak rQ) .none a1Q a1R a1S a1T a1U a1V,λs v=> .of_eq rfl,λbase _ _=> ?_⟩
 have To:gO l.prog w K mg base 1 "Day" 4 gQ:=vW (u1.mk W4 (Kg X G Wy) Xf Xg W5 b5) B
 have Rb:gO l.prog w K mg base 1 "Standing" 4 aV:=pE (u2.mk RK (Kg X G U9) V9 Va T_ b5) B
 have RC:bW l.prog w K mg base 3 "Standing" "with_stream" 3 cg:=jN (u3.at RK b3) B Rb R7
 have Ry:bW l.prog w K mg base 3 "Standing" "without_stream" 2 bS:=iV (u4.at RK b2) B Rb R7
 have RD:bW l.prog w K mg base 3 "Standing" "with_meters" 2 ci:=jO (u5.at RK b2) B Rb R7
 have Rz:bW l.prog w K mg base 3 "Standing" "without_meters" 2 bT:=iW (u6.at RK b2) B Rb R7
 have RN:bW l.prog w K mg base 3 "Standing" "with_day" 2 cN:=lM (u7.at RK b2) B Rb R7
 have S3:bv l.prog w K mg base 1 "refuse_places" 2 dY:=pF (u8.at X G b2) B Tj Tb Sb
 have Rc:bv l.prog w K mg base 1 "refuse_numbers" 2 bx:=ou (u9.at X G b2) B UN S2 R7
 have Rr:bv l.prog w K mg base 1 "refuse_unmetered" 2 b_:=mC (a1d.at X G b2) B SM R7
 have RM:bv l.prog w K mg base 1 "refuse_amounts" 1 cV:=oy (a1e.at X G b1) B Sd SN
 have SF:vU l.prog w K mg base 3 "Cellar" 1 eh:=rR (a1f.mk Rv (Kg X G V2) VS VT UH b2) B Rb Ss Tn
 have R9:dn l.prog w K mg base 1 "Cellar" "keep_deed" 2 aP:=mD (a1g.at Rv b3) B Su Se R8
 have RF:dn l.prog w K mg base 4 "Cellar" "stream_comes" 2 cr:=kK (a1h.at Rv b3) B S3 R9 RC S4 RW R8 R7
 have RG:dn l.prog w K mg base 4 "Cellar" "stream_goes" 1 cE:=l8 (a1i.at Rv b2) B Rc R9 Ry R8
 have RH:dn l.prog w K mg base 4 "Cellar" "meters_come" 1 cF:=l9 (a1j.at Rv b2) B Rc R9 RD Sg RX S5 R8 R7
 have RQ:dn l.prog w K mg base 4 "Cellar" "meters_go" 1 cY:=mE (a1k.at Rv b2) B Rc Rr R9 Rz R8
 have Rf:bW l.prog w K mg base 1 "Cellar" "days_gone" 1 bf:=mF (a1l.at Rv b1) B R8 R7
 have RO:dn l.prog w K mg base 4 "Cellar" "day_passes" 2 cO:=lO (a1m.at Rv b3) B Rc Rr RM To R9 RN Rf SR RY Sw SS R8 R7
 have RS:dn l.prog w K mg base 1 "Cellar" "take_back" 0 c7:=mG (a1n.at Rv b1) B Sx R8
 have Sa:bW l.prog w K mg base 1 "Cellar" "layout" 1 dc:=pG (a1o.at Rv b1) B R8 R7
 have Sj:bW l.prog w K mg base 1 "Cellar" "deeds" 1 dA:=qy (a1p.at Rv b1) B R8
 have T5:bW l.prog w K mg base 2 "Cellar" "day" 2 eY:=sq (a1q.at Rv b2) B Rf SU R8 R7
 have Rw:bv l.prog w K mg base 1 "_law_at" 2 bz:=Ac (a1r.at X G b2) B
 have SE:bv l.prog w K mg base 1 "_law_figures" 4 fE:=rS (a1s.at X G b4) B
 have Rn:bv l.prog w K mg base 8 "_law_same" 2 bg:=vX (a1t.at X G b2) B
 have Tp:bv l.prog w K mg base 1 "_law_span" 4 iQ:=vY (a1u.at X G b4) B
 have Te:bv l.prog w K mg base 2 "_law_flows" 5 hX:=uJ (a1v.at X G b5) B Tp
 have Tu:bv l.prog w K mg base 9 "_law_kept" 2 gU:=vZ (a1w.at X G b2) B Rn UG
 have U8:xw l.prog w K mg base 5 "_law_do" 1 1 eL:=Ad (a1x.at X G b2) B RF RG RH RQ RO RS
 have Tt:xw l.prog w K mg base 6 "_law_done" 1 1 eM:=v_ (a1y.at X G b2) B U8 RZ Tq Ts SV Sy SW R_ Td Sz Sh S6 S0 UO SX Si S7 SY S_ SA
 have S8:bv l.prog w K mg base 1 "_law_no_stream" 3 dZ:=pH (a1z.at X G b3) B
 have Rq:bv l.prog w K mg base 1 "_law_no_names" 2 cj:=qz (a1A.at X G b2) B
 have T1:bv l.prog w K mg base 2 "_law_no_day" 3 gA:=sr (a1B.at X G b3) B Rq
 have S9:bv l.prog w K mg base 2 "_law_no_meters" 3 d_:=pI (a1C.at X G b3) B Rq
 have SD:bv l.prog w K mg base 3 "_law_refusal" 2 eo:=rT (a1D.at X G b2) B S8 Rq T1 S9
 have T2:bv l.prog w K mg base 1 "_law_behind" 2 dP:=su (a1E.at X G b2) B
 have T3:bv l.prog w K mg base 1 "_law_answer" 2 eZ:=sv (a1F.at X G b2) B
 have RJ:xw l.prog w K mg base 9 "_law_step" 2 1 cM:=w8 (a1G.at X G b3) B SD Tt Rn T2 T3
 have T4:bv l.prog w K mg base 1 "_law_layout" 1 e_:=sx (a1H.at X G b1) B
 have Tf:bv l.prog w K mg base 10 "_law_looks" 2 fY:=uK (a1I.at X G b2) B Rn Sa T4 Sj Rf Tu T5 R8
 have RA:bv l.prog w K mg base 3 "_law_day_deed" 3 cZ:=qA (a1J.at X G b3) B SE Te
 have Tv:bv l.prog w K mg base 1 "_law_bent" 2 fU:=w9 (a1K.at X G b2) B
 have RP:bv l.prog w K mg base 4 "_law_each_kind" 2 cq:=pJ (a1L.at X G b2) B RA Tv
 have T6:bv l.prog w K mg base 2 "_law_filled" 2 f6:=sy (a1M.at X G b2) B Rw
 have SK:xw l.prog w K mg base 10 "_law_all" 2 1 fZ:=xC (a1N.at X G b3) B RJ
 exact G4 (n0 (st:=rQ) l0 c0 k0) B Rw SF SK T6 RA RJ RP Tf
end
theorem walk {l:OL} {q:K3} {UC:List JN} {XP:(JN->Option JM)->Ka->Prop} {YP:Kd->Ka->Prop} {d:DefRec} {K:Params->JL} (hn:l.most=some 63) (XE:d.params.defaults=[])
  (hY:∀(w:Kd) (h:Ka),YP w h->(K w.params).In h) (main:∀ns:List Int,ns.length<=63->tE [.scr ns]= .ok (.bl true))
  (F:∀(w:Kd) (mg:JN->Option JM) (fa:JO) (h:Ka),(K w.params).In h->h.Ns JX mg->mg d.name=some (.ref fa)->
   ∃fd:Lc,(∀(s:JP) (u:JM),P0 s fd ⟨[u],[]⟩ [("_law_script",u)])/\∀base:Ka,(K w.params).In base->base.Ns JX mg->fH l.prog w (K w.params) mg base (lh l.prog w) 11 fa fd ["_law_script"] (zK (K w.params) 1 tE)):
  QT q UC XP YP l.row.toRowW d [] (λf vs=>QB f vs):=
 L2.D9 (n:=63) (k:=11) (x:="_law_script") (CX:=λw=>lh l.prog w) (sp:=λw=>zK (K w.params) 1 tE) hn (by decide) XE ⟨rfl,by decide,by decide⟩ hY F (λ_ _ a ns hl _ hS=>FH (main ns hl) hS) λ_ _ _ _ _ z=>L2.Pu.FT z
end My
namespace My
open PySem PySem.Spec PyProof.Rows L2 L2.Pu
local macro_rules|`(tactic|simp! [$xs,*])=>`(tactic|simp only[aw,aX,gN,cK,bB,aI,n_,k_,lj,p0,rz,frz,frz1,Pf,cG,f2,f1,ck,eB,bA,fL,aL,pV,Ds,yq,Jx,fT,eS,gr,oZ,jE,a8,ag,au,ac,fC,Bx,aq,ix,OD,OE,List.set_cons_zero,List.set_cons_succ,BE,BF,BG,Kh,MK,Om,Nat.reduceAdd,if_true,if_false,KY,QW,QQ,Be,decide_true,decide_false,cB,pb,jJ,yv,o5,Ht,kQ,rC,FI,Hu,jn,gM,Dw,Dx,Bz,BB,vD,sY,OJ,Me,Lx,$xs,*])
def cel (ns:List Int) (k:Nat):Int:=ns.getD k 0
theorem qN (ns:List Int) (k:Nat):bz [.scr ns, .int (k:Int)]= .ok (.int (cel ns k)):=by
 unfold bz bj
 simp only[dw,vV,aw,cK,bB,aI,f2,ck,ac,fC,fT,a8,ag,FJ,o5,Hv,Kh,MK,if_true,J_,Lh,Ki,Nat.sub_self,Lm,OD,OE,Slot.data,aq,ix]
 by_cases h:k<ns.length
 ·have h':(k:Int)<(ns.length:Int):=by omega
  simp only[h',decide_true,if_true,i5 h,Me,ix,aq]
  simp[cel,h]
 ·have h':¬(k:Int)<(ns.length:Int):=by omega
  simp only[h',decide_false,if_false,KY,aq]
  simp[cel,Oh h]
theorem JH (ns:List Int):bz [.scr ns, .int 1]= .ok (.int (cel ns 1)):=qN ns 1
theorem Jo (ns:List Int):bz [.scr ns, .int 2]= .ok (.int (cel ns 2)):=qN ns 2
theorem wa {g:D->ah->R ah} {gb:ah->R bn} {n:Nat} {P:Nat->ah->Prop} (h:∀k,k<n->∀ρ,P k ρ->∃ρ1 ρ2,g (.int (k:Int)) ρ= .ok ρ1/\(gb ρ1= .ok (.nx ρ2)\/gb ρ1= .ok (.cnt ρ2))/\P (k+1) ρ2):∀(j k:Nat) (ρ:ah),k+j=n->P k ρ->∃ρ',eF g gb ((List.range' k j).map λk:Nat=>D.int (k:Int)) ρ= .ok (.nx ρ')/\P n ρ'
 |0,k,ρ,e,hp=>⟨ρ,rfl,by rw[Nat.add_zero]at e;exact e▸hp⟩
 |j+1,k,ρ,e,hp=>by
  obtain⟨ρ1,ρ2,e1,e2,h2⟩:=h k (by omega) ρ hp
  obtain⟨ρ',e3,h3⟩:=wa h j (k+1) ρ2 (by omega) h2
  refine⟨ρ',?_,h3⟩
  rw[List.range'_succ,J_]
  rcases e2 with e2|e2
  ·rw[o7 e1 e2,e3]
  ·rw[BD e1 e2,e3]
theorem qO {g:D->ah->R ah} {gb:ah->R bn} {n:Nat} {P:Nat->ah->Prop} {fs:ah->R (List D)} {ρ:ah} (hf:fs ρ= .ok [.int (n:Int)]) (hn:n<=1000) (h0:P 0 ρ) (h:∀k,k<n->∀ρ,P k ρ->∃ρ1 ρ2,g (.int (k:Int)) ρ= .ok ρ1/\(gb ρ1= .ok (.nx ρ2)\/gb ρ1= .ok (.cnt ρ2))/\P (k+1) ρ2):∃ρ',k_ (c8 fs) g gb ρ= .ok (.nx ρ')/\P n ρ':=by
 obtain⟨ρ',e,hp⟩:=wa h n 0 ρ (by omega) h0
 rw[<-List.range_eq_range']at e
 exact⟨ρ',(pc (fX hf (by unfold lim;omega))).trans e,hp⟩
theorem C8 {α β:Type} (f:α->β) {l:List α} {k:Nat} (h:k<l.length):(l.take (k+1)).map f=(l.take k).map f++[f l[k]]:=by
 rw[<-List.take_append_getElem h,Kn];rfl
inductive Wf:Nat->D->Prop
 |int (n:Nat) (i:Int):Wf n (.int i)
 |bl (n:Nat) (b:Bool):Wf n (.bl b)
 |str (n:Nat) (x:JN):Wf n (.str x)
 |non (n:Nat):Wf n .non
 |tup {n:Nat} {ds:List D}:ds.length<=1000->(∀d∈ds,Wf n d)->Wf (n+1) (.tup ds)
theorem Wf.up {n:Nat} {d:D} (h:Wf n d):∀k,Wf (n+k) d:=by
 induction h with
 |int n i=>exact λk=> .int _ i
 |bl n b=>exact λk=> .bl _ b
 |str n x=>exact λk=> .str _ x
 |non n=>exact λk=> .non _
 | @tup n ds h1 h2 ih=>exact λk=>by rw[Nat.add_right_comm];exact .tup h1 λd hd=>ih d hd k
theorem Ae {UM:List D->R D} {ds:List D} (h:∀d∈ds,UM [d,d]= .ok (.bl true)) {k:Nat} (hk:k<ds.length):
  jb UM [some (.val (.tup ds)),some (.val (.tup ds)),some (.val (.int (k:Int)))]= .ok (.nx [some (.val (.tup ds)),some (.val (.tup ds)),some (.val (.int (k:Int)))]):=by
 have hr:=h ds[k] (Nd hk)
 simp! [jb,i5 hk,hr]
theorem tJ {UM:List D->R D} {ds:List D} (h:∀d∈ds,UM [d,d]= .ok (.bl true)):∀(ks:List Nat) (x:Option Slot),(∀k∈ks,k<ds.length)->
  ∃y,eF (gN 2) (jb UM) (ks.map λk:Nat=>D.int (k:Int)) [some (.val (.tup ds)),some (.val (.tup ds)),x]= .ok (.nx [some (.val (.tup ds)),some (.val (.tup ds)),y])
 |[],x,_=>⟨x,rfl⟩
 |k::ks,x,hk=>by
  obtain⟨y,e⟩:=tJ h ks (some (.val (.int (k:Int)))) λj hj=>hk j (K8 _ hj)
  exact⟨y,by rw[J_,o7 rfl (Ae h (hk k K6)),e]⟩
theorem rW {x y:JN}:eG (.str x) (.str y)=some (.bl (decide (x=y))):=rfl
theorem Af {n:Nat} {d:D} (h:Wf n d):dE (n+1) [d,d]= .ok (.bl true):=by
 induction h with
 |int n i=>
  refine bE rfl ?_
  show dO (dE n) [some (.val (.int i)),some (.val (.int i)),none]=_
  have a:vp (.int i) .non=some (.bl false):=rfl
  have b:qo "str" (.int i)=some (.bl false):=rfl
  simp! [dO,p8,FL,FN,FO,a,b]
 |bl n i=>
  refine bE rfl ?_
  show dO (dE n) [some (.val (.bl i)),some (.val (.bl i)),none]=_
  have a:vp (.bl i) .non=some (.bl false):=rfl
  have b:qo "bool" (.bl i)=some (.bl true):=rfl
  have c:qo "tuple" (.bl i)=some (.bl false):=rfl
  simp! [dO,p8,a,b,c]
 |str n i=>
  refine bE rfl ?_
  show dO (dE n) [some (.val (.str i)),some (.val (.str i)),none]=_
  have a:vp (.str i) .non=some (.bl false):=rfl
  have b:qo "bool" (.str i)=some (.bl false):=rfl
  have c:qo "tuple" (.str i)=some (.bl false):=rfl
  have d:qo "str" (.str i)=some (.bl true):=rfl
  simp! [dO,p8,a,b,c,d,rW]
 |non n=>rfl
 | @tup n ds h1 h2 ih=>
  obtain⟨y,e⟩:=tJ ih (Kw ds.length) none λk hk=>Lr.mp hk
  refine bE rfl ?_
  show dO (dE (n+1)) [some (.val (.tup ds)),some (.val (.tup ds)),none]=_
  have hr:c8 (a8 (ck cp (a8 (ac 1) (ag))) (ag)) [some (.val (.tup ds)),some (.val (.tup ds)),none]= .ok ((Kw ds.length).map λk:Nat=>D.int (k:Int)):=fX (n:=ds.length) (by simp! []) (by unfold lim;omega)
  simp! [dO,p8,FK,hr,e]
theorem iY {n:Nat} (hn:n<=7) {d:D} (h:Wf n d):bg [d,d]= .ok (.bl true):=by
 have:=Af (h.up (7 - n))
 rw[show n+(7 - n)+1=8 by omega]at this
 exact this
theorem yJ (ns:List Int) (h:ns.length<=1000):Wf 1 (.tup (ns.map .int)):= .tup (by simpa using h) λd hd=>by obtain⟨i,_,rfl⟩:=Lp.mp hd;exact .int 0 i
theorem uL {α:Type} {n:Nat} {f:α->D} {l:List α} (hl:l.length<=1000) (h:∀a∈l,Wf n (f a)):Wf (n+1) (.tup (l.map f)):= .tup (by simpa using hl) λd hd=>by obtain⟨a,ha,rfl⟩:=Lp.mp hd;exact h a ha
abbrev yK:=Int×Int×Int
def c_ (r:yK):D:= .tup [.int r.1, .int r.2.1, .int r.2.2]
def kL (n:Int) (now:D):List (JN×D):=[("tanks", .int n),("now",now)]
def aD (n:Int) (now:D) (hs:List D):Slot:= .cel "Cellar" (kL n now) "history" hs
theorem C9 (n:Int) (now:D):(kL n now).lookup ("tanks":JN)=some (D.int n):=rfl
theorem rX (n:Int) (now:D):(kL n now).lookup ("now":JN)=some now:=rfl
theorem yL (n:Int) (now d:D):A4 "now" d (kL n now)=kL n d:=rfl
theorem fw {cls g:JN} {f:ah->R D} {ρ:ah} {fds:List (JN×D)} {d:D} (h:f ρ= .ok (.ins cls fds)) (h2:fds.lookup g=some d):cA cls g f ρ= .ok d:=by
 unfold cA
 rw[h,aq]
 dsimp only
 rw[if_pos rfl,h2,ix]
theorem qP {i:Nat} {g:JN} {ρ:ah} {n:Int} {now d:D} {hs:List D} (h:ρ[i]? =some (some (aD n now hs))) (h2:(kL n now).lookup g=some d):cX i "Cellar" g ρ= .ok d:=by
 unfold cX
 rw[h]
 show (if ("Cellar":JN)="Cellar" then R.of ((kL n now).lookup g)else .bad)=_
 rw[if_pos rfl,h2,ix]
theorem qQ {i:Nat} {ρ:ah} {n:Int} {now:D} {hs:List D} (h:ρ[i]? =some (some (aD n now hs))):q8 i "Cellar" "history" ρ= .ok (.lst hs):=by
 unfold q8
 rw[h]
 exact if_pos ⟨rfl,rfl⟩
theorem kM {g g':ah->R bn} {ρ ρ':ah} {x:JN} (h:g ρ= .err x ρ'):aw g g' ρ= .err x ρ':=by
 unfold aw
 rw[h];rfl
theorem oE {g g':ah->R bn} {ρ ρ':ah} {d:D} (h:g ρ= .ok (.retc d ρ')):aw g g' ρ= .ok (.retc d ρ'):=by
 unfold aw
 rw[h,aq]
theorem fV {gc:ah->R Bool} {g g':ah->R bn} {ρ:ah} (h:gc ρ= .ok true):cK gc g g' ρ=g ρ:=by unfold cK;rw[h,aq];rfl
theorem c9 {gc:ah->R Bool} {g g':ah->R bn} {ρ:ah} (h:gc ρ= .ok false):cK gc g g' ρ=g' ρ:=by unfold cK;rw[h,aq];rfl
theorem bG {f:ah->R D} {ρ:ah} {b:Bool} (h:f ρ= .ok (.bl b)):fT f ρ= .ok b:=by unfold fT;rw[h,aq]
theorem kN {f:ah->R D} {ρ:ah} {b:Bool} (h:f ρ= .ok (.bl b)):eS f ρ= .ok b:=by unfold eS;rw[h,aq];rfl
theorem oF {x:JN} {s:JN} {ρ:ah}:cL x (a8 (fC (.str s)) ag) ρ= .err x ρ:=by
 unfold cL a8 fC ag
 simp only[aq]
 exact if_pos (show 1<=lim by decide)
theorem bM {fs:ah->R (List D)} {ρ:ah} {ds:List D} (h:fs ρ= .ok ds) (hl:ds.length<=lim):bA fs ρ= .ok (.tup ds):=by unfold bA;rw[h,aq,if_pos hl]
theorem DP {f:ah->R D} {ρ:ah} {d:D} (h:f ρ= .ok d):hW f ρ= .ok (.nx ρ):=by unfold hW;rw[h,aq]
theorem wc {f:ah->R D} {ρ ρ':ah} {x:JN} (h:f ρ= .err x ρ'):hW f ρ= .err x ρ':=by unfold hW;rw[h];rfl
theorem wd {m:List D->R D} {n:Nat} {fs:ah->R (List D)} {ρ ρ':ah} {ds:List D} {x:JN} (h:fs ρ= .ok ds) (hl:ds.length=n) (hm:m ds= .err x ρ'):aL m n fs ρ= .err x ρ:=by
 unfold aL
 rw[h,aq,if_pos hl,hm]
theorem iA {cls m:JN} {n:Nat} {r:List D->R D} {fo:ah->R D} {fs:ah->R (List D)} {ρ:ah} {fds:List (JN×D)} {ds:List D} {z:D} (h1:fo ρ= .ok (.ins cls fds)) (h2:fs ρ= .ok ds) (hl:ds.length+1=n) (e:r (.ins cls fds::ds)= .ok z) (hm:fds.lookup m=none):f9 cls m n r fo fs ρ= .ok z:=by
 unfold f9
 rw[h1,aq]
 dsimp only
 rw[if_pos ⟨rfl,hm⟩,h2,aq,if_pos hl,e]
theorem xD {i:Nat} {mf:List Slot->List D->R (D×List Slot)} {k:Nat} {fs:ah->R (List D)} {ρ:ah} {ds:List D} {n n':Int} {now Tg d:D} {hs Ru:List D} (h:ρ[i]? =some (some (aD n now hs))) (h2:fs ρ= .ok ds) (hl:ds.length=k) (e:mf [aD n now hs] ds= .ok (d,[aD n' Tg Ru])):
  dJ [i] mf k fs ρ= .ok (d,ρ.set i (some (aD n' Tg Ru))):=by
 unfold dJ
 have Xp:eX ρ [i]=some [aD n now hs]:=by unfold eX eX;rw[h];rfl
 rw[Xp]
 dsimp only
 rw[if_pos ⟨rfl,by simp⟩,h2,aq,if_pos hl,e]
 dsimp only
 rw[if_pos (show Oy Slot.kind [aD n' Tg Ru]=Oy Slot.kind [aD n now hs]from rfl)]
 rfl
theorem uM {i:Nat} {mf:List Slot->List D->R (D×List Slot)} {k:Nat} {fs:ah->R (List D)} {ρ ρe:ah} {ds:List D} {n:Int} {now:D} {hs:List D} {x:JN} (h:ρ[i]? =some (some (aD n now hs))) (h2:fs ρ= .ok ds) (hl:ds.length=k) (e:mf [aD n now hs] ds= .err x ρe) (ht:dD 1 ρe=some [aD n now hs]) (hi:ρ.set i (some (aD n now hs))=ρ):
  dJ [i] mf k fs ρ= .err x ρ:=by
 unfold dJ
 have Ru:eX ρ [i]=some [aD n now hs]:=by unfold eX eX;rw[h];rfl
 rw[Ru]
 dsimp only
 rw[if_pos ⟨rfl,by simp⟩,h2,aq,if_pos hl,e]
 dsimp only
 rw[show dD [i].length ρe=some [aD n now hs]from ht]
 dsimp only
 rw[if_pos rfl]
 show R.err x (ρ.set i (some (aD n now hs)))=_
 rw[hi]
theorem uN {i:Nat} {m:JN} {fx:ah->R (D×ah)} {ρ:ah} {n:Int} {now:D} {hs:List D} (h:ρ[i]? =some (some (aD n now hs))) (h1:m≠"history":=by decide) (h2:(kL n now).lookup m=none:=by rfl):ko i "Cellar" m fx ρ=fx ρ:=by
 unfold ko
 rw[h]
 exact if_pos ⟨rfl,h1,h2⟩
theorem Ca {fx:ah->R (D×ah)} {ρ ρ':ah} {d:D} (h:fx ρ= .ok (d,ρ')):iL fx ρ= .ok (.nx ρ'):=by unfold iL;rw[h,aq]
theorem Ag {fx:ah->R (D×ah)} {ρ ρ':ah} {x:JN} (h:fx ρ= .err x ρ'):iL fx ρ= .err x ρ':=by unfold iL;rw[h];rfl
theorem gg {nm k n:Nat} {g:ah->R bn} {ss ss':List Slot} {ds:List D} {d:D} {ρ:ah} (h:ss.length=nm/\ds.length=k) (e:g (fJ n ss ds)= .ok (.retc d ρ)) (ht:dD nm ρ=some ss'):iy nm k n g ss ds= .ok (d,ss'):=by
 unfold iy
 rw[if_pos h,e]
 dsimp only
 rw[ht]
theorem yM {nm k n:Nat} {g:ah->R bn} {ss ss':List Slot} {ds:List D} {ρ:ah} (h:ss.length=nm/\ds.length=k) (e:g (fJ n ss ds)= .ok (.nx ρ)) (ht:dD nm ρ=some ss'):iy nm k n g ss ds= .ok (.non,ss'):=by
 unfold iy
 rw[if_pos h,e]
 dsimp only
 rw[ht]
theorem oG {nm k n:Nat} {g:ah->R bn} {ss:List Slot} {ds:List D} {x:JN} {ρ:ah} (h:ss.length=nm/\ds.length=k) (e:g (fJ n ss ds)= .err x ρ):iy nm k n g ss ds= .err x ρ:=by
 unfold iy
 rw[if_pos h,e]
theorem Cb {k n:Nat} {g:ah->R bn} {ds:List D} {x:JN} {ρ:ah} (h:ds.length=k) (e:g (dw n ds)= .err x ρ):bj k n g ds= .err x ρ:=by
 unfold bj
 rw[if_pos h,e];rfl
theorem oH {f:ah->R D} {ρ:ah} {d:D} (h:f ρ= .ok d):ij f ρ= .ok (.retc d ρ):=by unfold ij;rw[h,aq]
theorem kW {α:Type} {gt:ah->R Bool} {fe:ah->R D} {enc out:α->D} {p:α->Bool} {a0:Option Slot} {rest:ah}:∀(xs:List α) (v:Option Slot),(∀x∈xs,gt (a0::some (.val (enc x))::rest)= .ok (p x))->(∀x∈xs,p x=true->fe (a0::some (.val (enc x))::rest)= .ok (out x))->
  lm (gN 1) gt fe (xs.map enc) (a0::v::rest)= .ok ((xs.filter p).map out)
 |[],v,h1,h2=>rfl
 |x::xs,v,h1,h2=>by
  have e1:=h1 x K6
  have ih:=kW (gt:=gt) (fe:=fe) (enc:=enc) (out:=out) (p:=p) (a0:=a0) (rest:=rest) xs (some (.val (enc x))) (λy hy=>h1 y (K8 _ hy)) (λy hy=>h2 y (K8 _ hy))
  rw[J_,lm]
  show (gt (a0::some (.val (enc x))::rest)>>=λb=>if b=true then (fe (a0::some (.val (enc x))::rest)>>=λy=>lm (gN 1) gt fe (xs.map enc) (a0::some (.val (enc x))::rest)>>=λys=> .ok (y::ys))else lm (gN 1) gt fe (xs.map enc) (a0::some (.val (enc x))::rest))=_
  rw[e1,aq,ih]
  cases q:p x with
  |true=>rw[if_pos rfl,h2 x K6 q,aq,aq,Oz,if_pos q];rfl
  |false=>rw[if_neg (by simp),Oz,if_neg (by rw[q];simp)]
theorem nK {α:Type} (xs:List α):xs.filter (λ_=>true)=xs:=by simp
theorem DQ {x:D} {r:List D}:b6 (.tup (x::r)) (.int 0)=some x:=by
 rw[sY]
 have:=i5 (xs:=x::r) (k:=0) (by simp)
 simpa using this
theorem J0 {x y:D} {r:List D}:b6 (.tup (x::y::r)) (.int 1)=some y:=by
 rw[sY]
 have:=i5 (xs:=x::y::r) (k:=1) (by simp)
 simpa using this
theorem HJ {x:D} {r:List D}:b6 (.lst (x::r)) (.int 0)=some x:=by
 rw[vD]
 have:=i5 (xs:=x::r) (k:=0) (by simp)
 simpa using this
theorem HK {x y:D} {r:List D}:b6 (.lst (x::y::r)) (.int 1)=some y:=by
 rw[vD]
 have:=i5 (xs:=x::y::r) (k:=1) (by simp)
 simpa using this
theorem oI {r:yK}:b6 (c_ r) (.int 0)=some (.int r.1):=DQ
abbrev Rd:=Int×Int
def j0 (r:Rd):D:= .tup [.int r.1, .int r.2]
structure Cd where
 ss:List yK
 ri:List Int
 rd:List Rd
structure Mo where
 c:Int
 ss:List yK
 ms:List Int
 mm:List Int
 ds:List Cd
 dd:List D
def Cf (n:Int) (d:Cd):List (JN×D):=[("tanks", .int n),("streams", .tup (d.ss.map c_)),("rises", .tup (d.ri.map .int)),("readings", .tup (d.rd.map j0))]
def rY (n:Int) (d:Cd):D:= .ins "Day" (Cf n d)
def tK (n:Int) (m:Mo):List (JN×D):=[("came", .int m.c),("streams", .tup (m.ss.map c_)),("meters", .tup (m.ms.map .int)),("passed", .tup (m.ds.map (rY n)))]
def bJ (n:Int) (m:Mo):D:= .ins "Standing" (tK n m)
abbrev Mo.nu (m:Mo):List Int:=m.ss.map (·.1)
theorem ml (n:Int) (m:Mo):(tK n m).lookup ("came":JN)=some (D.int m.c):=rfl
theorem dQ (n:Int) (m:Mo):(tK n m).lookup ("streams":JN)=some (D.tup (m.ss.map c_)):=rfl
theorem et (n:Int) (m:Mo):(tK n m).lookup ("meters":JN)=some (D.tup (m.ms.map .int)):=rfl
theorem gi (n:Int) (m:Mo):(tK n m).lookup ("passed":JN)=some (D.tup (m.ds.map (rY n))):=rfl
def Mo.comes (m:Mo) (a b:Int):Mo:={m with c:=m.c+1,ss:=m.ss++[(m.c+1,a,b)],dd:=m.dd++[.tup [.str "stream comes", .int a, .int b]]}
def Mo.goes (m:Mo) (a:Int):Mo:={m with ss:=m.ss.filter λr=>decide (r.1≠a),ms:=m.ms.filter λx=>decide (x≠a),mm:=m.mm.filter λx=>decide (x≠a),dd:=m.dd++[.tup [.str "stream goes", .int a]]}
def Mo.mcome (m:Mo) (ns:List Int):Mo:={m with ms:=m.ms++ns,mm:=cS (m.mm++ns),dd:=m.dd++[.tup [.str "meters come", .tup (ns.map .int)]]}
def Mo.mgo (m:Mo) (ns:List Int):Mo:={m with ms:=m.ms.filter λx=> !decide (x∈ns),mm:=m.mm.filter λx=> !decide (x∈ns),dd:=m.dd++[.tup [.str "meters go", .tup (ns.map .int)]]}
def wA (rd:List Rd):List Rd:=rd.mergeSort λa b=>decide (a.1<=b.1)
def Mo.passes (m:Mo) (ri:List Int) (rd:List Rd):Mo:={m with ds:=m.ds++[⟨m.ss,ri,wA rd⟩],dd:=m.dd++[.tup [.str "day passes", .tup (ri.map .int), .tup (rd.map j0)]]}
structure Mo.Ok (m:Mo):Prop where
 inc:m.ss.Pairwise λa b=>a.1<b.1
 le:∀r∈m.ss,r.1<=m.c
 len:m.ss.length<=12
 per:m.mm.Perm m.ms
 nd:m.ms.Nodup
 sub:∀x∈m.ms,x∈m.nu
 ten:m.ms.length<=10
 dl:m.ds.length<=12
theorem jU (rd:List Rd):rd.Perm (wA rd):=(List.mergeSort_perm rd _).symm
theorem yN {rd:List Rd} (h:(rd.map (·.1)).Nodup):(wA rd).Pairwise λa b=>a.1<b.1:=by
 have h1:(wA rd).Pairwise λa b=>decide (a.1<=b.1)=true:=List.pairwise_mergeSort (λa b c h1 h2=>by simp only[decide_eq_true_eq]at*;omega) (λa b=>by simp only[ON,decide_eq_true_eq];omega) rd
 have h2:((wA rd).map (·.1)).Nodup:=((jU rd).map (·.1)).nodup_iff.mp h
 rw[List.Nodup,LX]at h2
 refine(h1.and h2).imp λ{a b} h=> ?_
 have:=of_decide_eq_true h.1
 have:=h.2
 omega
theorem oJ {fs:ah->R (List D)} {ρ:ah} {a b c d:D} (h:fs ρ= .ok [a,b,c,d]):lz "Standing" 4 aV fs ρ= .ok (.ins "Standing" [("came",a),("streams",b),("meters",c),("passed",d)]):=by
 unfold lz
 rw[h,aq,if_pos (show [a,b,c,d].length=4 from rfl),show aV [a,b,c,d]= .ok [("came",a),("streams",b),("meters",c),("passed",d)]from rfl]
theorem ii {a b:List D} (h:a.length+b.length<=1000):br (.tup a) (.tup b)=some (.tup (a++b)):=if_pos (by unfold lim;omega)
theorem uO {a b:Int}:rB (.int a) (.int b)=some (.bl (decide (a≠b))):=by rw[yv];first|rfl|simp
section
variable {n:Int} {m:Mo} {hs:List D}
theorem u_ {x:List (Option Slot)} {g:JN} {d:D} (h:(tK n m).lookup g=some d):cA "Standing" g (ac 0) (some (.val (bJ n m))::x)= .ok d:=fw rfl h
theorem pK (g:m.Ok) (a b:Int):cg [bJ n m, .int a, .int b]= .ok (bJ n (m.comes a b)):=by
 refine bE rfl ?_
 show dM [some (.val (bJ n m)),some (.val (.int a)),some (.val (.int b)),none]=_
 unfold dM
 rw[av (ρ':=[some (.val (bJ n m)),some (.val (.int a)),some (.val (.int b)),some (.val (.int (m.c+1)))]) (aZ (aj (u_ (ml n m)) rfl rfl) rfl)]
 refine dz ((oJ (a9 rfl (a9 (aj (u_ (dQ n m)) (bM (ds:=[c_ (m.c+1,a,b)]) (a9 (bM (ds:=[.int (m.c+1), .int a, .int b]) rfl (show 3<=lim by decide)) rfl) (show 1<=lim by decide)) (ii (by have:=g.len;simp;omega))) (a9 (u_ (et n m)) (a9 (u_ (gi n m)) rfl))))).trans ?_)
 simp only[bJ,tK,Mo.comes,Kn,J_,Lh,c_]
theorem uP {x:List (Option Slot)} {g:JN} {l:List D} (h:(tK n m).lookup g=some (.tup l)):cG (cA "Standing" g (ac 0)) (some (.val (bJ n m))::x)= .ok l:=by
 unfold cG
 rw[u_ h,aq]
theorem mH (g:m.Ok) (a:Int):bS [bJ n m, .int a]= .ok (bJ n (m.goes a)):=by
 refine bE rfl ?_
 show d9 [some (.val (bJ n m)),some (.val (.int a)),none,none]=_
 unfold d9
 rw[av (ρ':=[some (.val (bJ n m)),some (.val (.int a)),some (.val (.tup ((m.ss.filter λr=>decide (r.1≠a)).map c_))),none]) (aZ (aU (a9 (l5 (gu (uP (dQ n m)) (by have:=g.len;simp;unfold lim;omega) (τ:=[none,none,some (.val (.int a))]) rfl (kW (p:=λr:yK=>decide (r.1≠a)) (out:=c_) m.ss none (λr _=>bG (aj (aj rfl rfl oI) rfl uO)) (λr _ _=>rfl)))) rfl) rfl) rfl)]
 rw[av (ρ':=[some (.val (bJ n m)),some (.val (.int a)),some (.val (.tup ((m.ss.filter λr=>decide (r.1≠a)).map c_))),some (.val (.tup ((m.ms.filter λr=>decide (r≠a)).map .int)))]) (aZ (aU (a9 (l5 (gu (uP (et n m)) (by have:=g.ten;simp;unfold lim;omega) (τ:=[none,none,some (.val (.int a))]) rfl (kW (p:=λr:Int=>decide (r≠a)) (out:= .int) m.ms none (λr _=>bG (aj (a:= .int r) rfl rfl uO)) (λr _ _=>rfl)))) rfl) rfl) rfl)]
 exact dz (oJ (a9 (u_ (ml n m)) (a9 rfl (a9 rfl (a9 (u_ (gi n m)) rfl)))))
def eP (d:D) (row:List Int):Prop:=d= .lst (row.map .int)\/d= .tup (row.map .int)
theorem eP.seq {d:D} {row:List Int} (h:eP d row) {ρ:ah} {f:ah->R D} (e:f ρ= .ok d):cG f ρ= .ok (row.map .int):=by
 unfold cG
 rw[e]
 rcases h with rfl|rfl<;>rfl
theorem eP.len {d:D} {row:List Int} (h:eP d row):cp [d]=some (.int (row.length:Int)):=by
 rcases h with rfl|rfl
 ·rw[jn,JR]
 ·rw[gM,JR]
theorem eP.set {d:D} {row:List Int} (h:eP d row) (hl:row.length<4000) {ρ:ah} {f:ah->R D} (e:f ρ= .ok d):qM f ρ= .ok (.int (L2.gp row)):=by
 unfold qM
 rw[e]
 rcases h with rfl|rfl<;>simp only[aq,kg,hl,if_true]
theorem eP.out {d:D} {row:List Int} (h:eP d row) (k:Int):gJ true (.int k) d=some (.bl (!decide (k∈row))):=by
 rcases h with rfl|rfl
 ·exact lx
 ·exact o6
theorem eP.tup {d:D} {row:List Int} (h:eP d row):bV [d]=some (.tup (row.map .int)):=by rcases h with rfl|rfl<;>rfl
theorem pL (g:m.Ok) {d:D} {ns:List Int} (h:eP d ns) (hl:ns.length<=100):ci [bJ n m,d]= .ok (bJ n (m.mcome ns)):=by
 refine bE rfl (dz ((oJ (a9 (u_ (x:=[some (.val d)]) (ml n m)) (a9 (u_ (dQ n m)) (a9 (aj (u_ (et n m)) (aU (a9 rfl rfl) h.tup) (ii (by have:=g.ten;simp;omega))) (a9 (u_ (gi n m)) rfl))))).trans ?_))
 simp only[bJ,tK,Mo.mcome,Kn]
theorem mI (g:m.Ok) {d:D} {ns:List Int} (h:eP d ns):bT [bJ n m,d]= .ok (bJ n (m.mgo ns)):=by
 refine bE rfl ?_
 show db [some (.val (bJ n m)),some (.val d),none]=_
 unfold db
 rw[av (ρ':=[some (.val (bJ n m)),some (.val d),some (.val (.tup ((m.ms.filter λr=> !decide (r∈ns)).map .int)))]) (aZ (aU (a9 (l5 (gu (uP (et n m)) (by have:=g.ten;simp;unfold lim;omega) (τ:=[none,none,some (.val d)]) rfl (kW (p:=λr:Int=> !decide (r∈ns)) (out:= .int) m.ms none (λr _=>bG (aj (a:= .int r) rfl rfl (h.out r))) (λr _ _=>rfl)))) rfl) rfl) rfl)]
 exact dz (oJ (a9 (u_ (ml n m)) (a9 (u_ (dQ n m)) (a9 rfl (a9 (u_ (gi n m)) rfl)))))
theorem sA (g:m.Ok) (ri:List Int) (rd:List Rd):cN [bJ n m,rY n ⟨m.ss,ri,wA rd⟩]= .ok (bJ n (m.passes ri rd)):=by
 refine bE rfl (dz ((oJ (a9 (u_ (x:=[some (.val (rY n ⟨m.ss,ri,wA rd⟩))]) (ml n m)) (a9 (u_ (dQ n m)) (a9 (u_ (et n m)) (a9 (aj (u_ (gi n m)) (bM (ds:=[rY n ⟨m.ss,ri,wA rd⟩]) (a9 rfl rfl) (show 1<=lim by decide)) (ii (by have:=g.dl;simp;omega))) rfl))))).trans ?_))
 simp only[bJ,tK,Mo.passes,Kn,J_,Lh]
end
theorem uQ:∀(ns Sn:List Int),Sn.Nodup->(ns.foldl MY Sn).length<=Sn.length+ns.length/\((ns.foldl MY Sn).length=Sn.length+ns.length<->(Sn++ns).Nodup)
 |[],Sn,h=>⟨by simp,by simpa using h⟩
 |k::ns,Sn,h=>by
  rw[QA]
  unfold MY
  by_cases hk:k∈Sn
  ·have e:Sn.any (·==k)=true:=KZ.mpr ⟨k,hk,by simp⟩
   rw[if_pos e]
   obtain⟨h1,_⟩:=uQ ns Sn h
   refine⟨by rw[Kh];exact N_ h1,λz=> ?_,λz=> ?_⟩
   ·rw[Kh]at z
    have:=h1
    unfold MY at this
    omega
   ·exact absurd rfl ((Mi.mp z).2.2 k hk k K6)
  ·have e:¬Sn.any (·==k)=true:=λz=>by
    obtain⟨x,hx,a1W⟩:=KZ.mp z
    have:x=k:=by simpa using a1W
    exact hk (this▸hx)
   rw[if_neg e]
   have hn:(Sn++[k]).Nodup:=Mi.mpr ⟨h,by simp,λa ha b hb=>by
    have:b=k:=by simpa using hb
    subst this
    intro z
    exact hk (z▸ha)⟩
   obtain⟨h1,h2⟩:=uQ ns (Sn++[k]) hn
   rw[Kv,LS]at h1 h2
   rw[N2]at h2
   rw[Kh]
   unfold MY at h1 h2
   refine⟨by omega,?_⟩
   rw[show Sn.length+(ns.length+1)=Sn.length+1+ns.length by omega]
   exact h2
theorem xE (ns:List Int):(Kw ns.length).map (λi=>ns.getD i 0)=ns:=by
 apply Qt
 ·simp
 ·intro i h1 h2
  simp[h2]
theorem we (ns:List Int):decide ((L2.gp ns:Int)<(ns.length:Int))= !decide ns.Nodup:=by
 have e:L2.gp ns=(ns.foldl MY []).length:=by
  unfold L2.gp Qq
  rw[xE]
 obtain⟨h1,h2⟩:=uQ ns [] QP
 rw[MK,Om]at h1 h2
 rw[OJ]at h2
 rw[e]
 by_cases h:ns.Nodup
 ·have:=h2.mpr h
  simp[h,this]
 ·have:(ns.foldl MY []).length≠ns.length:=λz=>h (h2.mp z)
  simp[h]
  omega
def fc (a b:JN):JN:=if a="" then b else a
def ir (b:Bool) (w:JN):JN:=if b=true then w else ""
def G6 (r:R D) (w:JN):Prop:=(w≠""->∃ρ,r= .err w ρ)/\(w=""->r= .ok .non)
def oK (g:ah->R bn) (ρ:ah) (w:JN) (r:R bn):Prop:=(w≠""->∃ρe,g ρ= .err w ρe/\dD 1 ρe=dD 1 ρ)/\(w=""->g ρ=r)
def mJ (r:R (D×List Slot)) (s:Slot) (w:JN) (a:D) (s':Slot):Prop:=(w≠""->∃ρ,r= .err w ρ/\dD 1 ρ=some [s])/\(w=""->r= .ok (a,[s']))
theorem iB {m:List D->R D} {k:Nat} {fs:ah->R (List D)} {ρ:ah} {ds:List D} {g':ah->R bn} {w w':JN} {r:R bn} (h:fs ρ= .ok ds) (hl:ds.length=k) (hr:G6 (m ds) w) (h2:oK g' ρ w' r):oK (aw (hW (aL m k fs)) g') ρ (fc w w') r:=by
 by_cases e:w=""
 ·have:aw (hW (aL m k fs)) g' ρ=g' ρ:=av (DP (bu h hl (hr.2 e)))
  unfold fc oK
  rw[if_pos e,this];exact h2
 ·unfold fc
  rw[if_neg e]
  obtain⟨ρe,e1⟩:=hr.1 e
  exact⟨λ_=>⟨ρ,kM (wc (wd h hl e1)),rfl⟩,λz=>absurd z e⟩
theorem lS {t:ah->R Bool} {ρ:ah} {b:Bool} {x s w':JN} {g':ah->R bn} {r:R bn} (h:t ρ= .ok b) (h2:oK g' ρ w' r) (hx:x≠"":=by decide):oK (aw (cK t (cL x (a8 (fC (.str s)) ag)) aI) g') ρ (fc (ir b x) w') r:=by
 cases b with
 |true=>
  have:fc (ir true x) w'=x:=by unfold fc ir;rw[if_pos rfl,if_neg hx]
  rw[this]
  exact⟨λ_=>⟨ρ,kM (by rw[fV h];exact oF),rfl⟩,λz=>absurd z hx⟩
 |false=>
  have:fc (ir false x) w'=w':=rfl
  have e:aw (cK t (cL x (a8 (fC (.str s)) ag)) aI) g' ρ=g' ρ:=av (by rw[c9 h];rfl)
  unfold oK
  rw[this,e];exact h2
theorem xF {g g':ah->R bn} {ρ ρ':ah} {w:JN} {r:R bn} (h:g ρ= .ok (.nx ρ')) (ht:dD 1 ρ'=dD 1 ρ) (h2:oK g' ρ' w r):oK (aw g g') ρ w r:=by
 unfold oK
 rw[av h,<-ht];exact h2
theorem yO {g:ah->R bn} {ρ ρ':ah} {w:JN} {f:ah->R D} {d:D} (h:oK g ρ w (.ok (.nx ρ'))) (hf:f ρ'= .ok d):oK (aw g (ij f)) ρ w (.ok (.retc d ρ')):=
 ⟨λz=>by obtain⟨ρe,e,t⟩:=h.1 z;exact⟨ρe,kM e,t⟩,λz=>by rw[av (h.2 z)];exact oH hf⟩
theorem yP {g g':ah->R bn} {ρ ρ':ah} {w:JN} {r:R bn} {L:List Nat} (hf:frz L ρ=ρ') (ht:dD 1 ρ'=dD 1 ρ) (h:oK (aw g g') ρ' w r):oK (aw (n_ L g) g') ρ w r:=by
 have:aw (n_ L g) g' ρ=aw g g' ρ':=by unfold aw n_;rw[hf]
 unfold oK
 rw[this,<-ht];exact h
theorem uR {g:ah->R bn} {k n:Nat} {s s':Slot} {ds:List D} {w:JN} {ρ':ah} (hl:ds.length=k) (h:oK g (fJ n [s] ds) w (.ok (.nx ρ'))) (ht:dD 1 ρ'=some [s']):mJ (iy 1 k n g [s] ds) s w .non s':=
 ⟨λz=>by obtain⟨ρe,e,t⟩:=h.1 z;exact⟨ρe,oG ⟨rfl,hl⟩ e,t⟩,λz=>yM ⟨rfl,hl⟩ (h.2 z) ht⟩
theorem mn {g:ah->R bn} {k n:Nat} {s s':Slot} {ds:List D} {w:JN} {ρ':ah} {d:D} (hl:ds.length=k) (h:oK g (fJ n [s] ds) w (.ok (.retc d ρ'))) (ht:dD 1 ρ'=some [s']):mJ (iy 1 k n g [s] ds) s w d s':=
 ⟨λz=>by obtain⟨ρe,e,t⟩:=h.1 z;exact⟨ρe,oG ⟨rfl,hl⟩ e,t⟩,λz=>gg ⟨rfl,hl⟩ (h.2 z) ht⟩
theorem oM {t:ah->R Bool} {ρ:ah} {b:Bool} {x s:JN} (h:t ρ= .ok b) (hx:x≠"":=by decide):oK (cK t (cL x (a8 (fC (.str s)) ag)) aI) ρ (ir b x) (.ok (.nx ρ)):=by
 cases b with
 |true=>exact⟨λ_=>⟨ρ,by rw[fV h];exact oF,rfl⟩,λz=>absurd z hx⟩
 |false=>exact⟨λz=>absurd rfl z,λ_=>by rw[c9 h];rfl⟩
theorem uS {g:ah->R bn} {k n:Nat} {ds:List D} {w:JN} {ρ':ah} (hl:ds.length=k) (h:oK g (dw n ds) w (.ok (.nx ρ'))):G6 (bj k n g ds) w:=
 ⟨λz=>by obtain⟨ρe,e,_⟩:=h.1 z;exact⟨ρe,Cb hl e⟩,λz=>FP hl (h.2 z)⟩
theorem G7 {α:Type} (l:List α) (p:α->Bool):uD [.lst ((l.filter λ_=>true).map λx=>D.bl (p x))]=some (.bl (l.any p)):=by
 rw[nK]
 show (iN (l.map λx=>D.bl (p x))).map (λbs=>D.bl (bs.any id))=_
 rw[show l.map (λx=>D.bl (p x))=(l.map p).map .bl by rw[K_];rfl,A6]
 show some (D.bl ((l.map p).any id))=_
 rw[List.any_map];rfl
theorem Ah {α:Type} {N:List JN} {names:List (JN×NameKind)} {fi:ah->R (List D)} {fe:ah->R D} {ρ rest:ah} {enc:α->D} {l:List α} {p:α->Bool} (h:fi ρ= .ok (l.map enc)) (hl:l.length<=1000) (hr:hJ N names ρ=none::none::rest) (he:∀x∈l,fe (none::some (.val (enc x))::rest)= .ok (.bl (p x))):
  eS (ck uD (a8 (fL (bH N names fi (gN 1) fq fe)) ag)) ρ= .ok (l.any p):=
 kN (aU (a9 (l5 (gu h (by rw[JR];unfold lim;omega) hr (kW (p:=λ_=>true) (out:=λx=> .bl (p x)) l none (λr _=>rfl) (λr Wl _=>he r Wl)))) rfl) (G7 l p))
def xG (n a:Int):Bool:=decide (a<0)||decide (a>n)
def G8 (n a b:Int):JN:=fc (ir ([a,b].any (xG n)) "UnknownPlace") (ir (decide (a=b)) "SamePlace")
theorem xH (n a b:Int):G6 (dY [.int n, .tup [.int a, .int b]]) (G8 n a b):=by
 refine uS rfl (lS (ρ:=[some (.val (.int n)),some (.val (.tup [.int a, .int b]))]) (Ah (enc:= .int) (l:=[a,b]) rfl (by simp) (rest:=[none,some (.val (.int n))]) rfl λr _=> ?_) (oM (bG (aj (aj rfl rfl DQ) (aj rfl rfl J0) jJ))))
 unfold Ds
 rw[aj (a:= .int r) (b:= .int 0) rfl rfl o5,aq]
 by_cases h:r<0
 ·simp only[h,decide_true,xG,Og]
 ·simp only[h,decide_false,xG,NR]
  exact aj (a:= .int r) (b:= .int n) rfl rfl kQ
def uT (nu ns:List Int):JN:=fc (ir (ns.any λx=> !decide (x∈nu)) "UnknownStream") (ir (!decide ns.Nodup) "Twice")
section
variable {n:Int} {m:Mo} {hs:List D}
theorem Em {N:List JN} {names:List (JN×NameKind)} {fi:ah->R (List D)} {ρ rest:ah} (g:m.Ok) (h:fi ρ= .ok (m.ss.map c_)) (hr:hJ N names ρ=none::none::rest):bH N names fi (gN 1) fq (f2 b6 (ac 1) (fC (.int 0))) ρ= .ok (m.nu.map .int):=by
 rw[gu h (by have:=g.len;rw[JR];unfold lim;omega) hr (kW (p:=λ_=>true) (out:=λr=> .int r.1) m.ss none (λr _=>rfl) (λr _ _=>aj rfl rfl oI)),nK,K_];rfl
theorem own_of {i:Nat} {f:ah->R (List D)} {ρ:ah} {ds:List D} (h:f ρ= .ok ds):p0 i f ρ= .ok (.nx (ρ.set i (some (.own (.lst ds))))):=by unfold p0;rw[h,aq]
theorem jf (g:m.Ok) {d:D} {ns:List Int} (h:eP d ns) (hl:ns.length<=100):G6 (bx [bJ n m,d]) (uT m.nu ns):=by
 refine uS rfl (xF (ρ:=[some (.val (bJ n m)),some (.val d),none]) (ρ':=[some (.val (bJ n m)),some (.val d),some (.own (.lst (m.nu.map .int)))]) (own_of (Em g (uP (dQ n m)) rfl)) rfl (lS (Ah (enc:= .int) (l:=ns) (h.seq rfl) (by omega) (rest:=[some (.bor (.lst (m.nu.map .int)))]) rfl λr _=>aj (a:= .int r) (b:= .lst (m.nu.map .int)) rfl rfl lx) (oM (bG (aj (a:= .int (L2.gp ns)) (h.set (by omega) rfl) (aU (a9 rfl rfl) h.len) ?_)))))
 rw[o5,we]
def Gw (ms ns:List Int):JN:=ir (ns.any λx=> !decide (x∈ms)) "NotMetered"
theorem mX {d:D} {ns:List Int} (h:eP d ns) (hl:ns.length<=100):G6 (b_ [bJ n m,d]) (Gw m.ms ns):=
 uS rfl (oM (ρ:=[some (.val (bJ n m)),some (.val d)]) (Ah (enc:= .int) (l:=ns) (h.seq rfl) (by omega) (rest:=[some (.val (bJ n m))]) rfl λr _=>aj (a:= .int r) (b:= .tup (m.ms.map .int)) rfl (fw (fds:=tK n m) rfl (et n m)) o6))
def G9 (i:Int):Bool:=decide (i< -1000)||decide (i>1000)
def DR (ns:List Int):JN:=ir (ns.any G9) "OutOfRange"
theorem qi {d:D} {ns:List Int} (h:eP d ns) (hl:ns.length<=100):G6 (cV [d]) (DR ns):=
 uS rfl (oM (ρ:=[some (.val d)]) (Ah (enc:= .int) (l:=ns) (h.seq rfl) (by omega) (rest:=[none,none]) rfl λr _=>(aj (a:= .int (if r<0 then -r else r)) (b:= .int 1000) rfl rfl kQ).trans (by
  unfold G9
  congr 2
  rw[<-Bool.decide_or]
  refine decide_eq_decide.mpr ?_
  split<;>omega)))
def mK (hs:List D):JN:=ir (decide ((60:Int)<=(hs.length:Int))) "TooManyDeeds"
theorem Ai {now deed after:D}:mJ (aP [aD n now hs] [deed,after]) (aD n now hs) (mK hs) .non (aD n after (hs++[.tup [deed,now]])):=by
 by_cases Yr:(60:Int)<=(hs.length:Int)
 ·have e1:fT (f2 Du (ck cp (a8 (q8 0 "Cellar" "history") (ag))) (fC (.int 60))) [some (aD n now hs),some (.val deed),some (.val after)]= .ok true:=bG (aj (aU (a9 (qQ rfl) rfl) jn) rfl (by rw[rC,decide_eq_true Yr]))
  have w:mK hs="TooManyDeeds":=by unfold mK ir;rw[decide_eq_true Yr,if_pos rfl]
  rw[w]
  exact⟨λ_=>⟨_,oG ⟨rfl,rfl⟩ (ρ:=[some (aD n now hs),some (.val deed),some (.val after)]) (kM (by rw[show fJ 2 [aD n now hs] [deed,after]=[some (aD n now hs),some (.val deed),some (.val after)]from rfl,fV e1];exact oF)),rfl⟩,λz=>absurd z (by decide)⟩
 ·have e1:fT (f2 Du (ck cp (a8 (q8 0 "Cellar" "history") (ag))) (fC (.int 60))) [some (aD n now hs),some (.val deed),some (.val after)]= .ok false:=bG (aj (aU (a9 (qQ rfl) rfl) jn) rfl (by rw[rC,decide_eq_false Yr]))
  have w:mK hs="":=by unfold mK ir;rw[decide_eq_false Yr];rfl
  rw[w]
  refine⟨λz=>absurd rfl z,λ_=>yM ⟨rfl,rfl⟩ (ρ:=[some (aD n after (hs++[.tup [deed,now]])),some (.val deed),some (.val after)]) ?_ rfl⟩
  show fN [some (aD n now hs),some (.val deed),some (.val after)]=_
  unfold fN
  rw[av (by rw[c9 e1];rfl)]
  have e2:qL 0 "Cellar" "history" (bA (a8 (au 1) (a8 (cX 0 "Cellar" "now") (ag)))) [some (aD n now hs),some (.val deed),some (.val after)]= .ok (.nx [some (aD n now (hs++[.tup [deed,now]])),some (.val deed),some (.val after)]):=by
   have hf:bA (a8 (au 1) (a8 (cX 0 "Cellar" "now") (ag))) [some (aD n now hs),some (.val deed),some (.val after)]= .ok (.tup [deed,now]):=bM (a9 rfl (a9 (qP (n:=n) (now:=now) (hs:=hs) rfl (rX n now)) rfl)) (show 2<=lim by decide)
   show (if ("Cellar":JN)="Cellar"/\("history":JN)="history" then (bA (a8 (au 1) (a8 (cX 0 "Cellar" "now") (ag))) [some (aD n now hs),some (.val deed),some (.val after)]>>=λd=>if hs.length<lim then R.ok (bn.nx ([some (aD n now hs),some (.val deed),some (.val after)].set 0 (some (.cel "Cellar" (kL n now) "history" (hs++[d])))))else .bad)else .bad)=_
   rw[if_pos ⟨rfl,rfl⟩,hf,aq,if_pos (by unfold lim;omega)]
   rfl
  rw[av e2]
  show ((au 2:ah->R D) [some (aD n now (hs++[.tup [deed,now]])),some (.val deed),some (.val after)]>>=λd=>if ("Cellar":JN)="Cellar"/\((kL n now).lookup ("now":JN)).isSome=true/\(kL n now).length<900 then R.ok (bn.nx ([some (aD n now (hs++[.tup [deed,now]])),some (.val deed),some (.val after)].set 0 (some (.cel "Cellar" (A4 "now" d (kL n now)) "history" (hs++[.tup [deed,now]])))))else .bad)=_
  rw[show (au 2:ah->R D) [some (aD n now (hs++[.tup [deed,now]])),some (.val deed),some (.val after)]= .ok after from rfl,aq,if_pos ⟨rfl,by rw[rX];rfl,show 2<900 by decide⟩,yL]
  rfl
theorem lT {now deed after:D} {fs:ah->R (List D)} {rest:ah} (h:fs (some (aD n now hs)::rest)= .ok [deed,after]):oK (iL (ko 0 "Cellar" "keep_deed" (dJ [0] aP 2 fs))) (some (aD n now hs)::rest) (mK hs) (.ok (.nx (some (aD n after (hs++[.tup [deed,now]]))::rest))):=by
 have k:=Ai (n:=n) (hs:=hs) (now:=now) (deed:=deed) (after:=after)
 refine⟨λz=> ?_,λz=>Ca (by rw[uN (n:=n) (now:=now) (hs:=hs) rfl];exact xD (k:=2) (n:=n) (now:=now) (hs:=hs) rfl h rfl (k.2 z))⟩
 obtain⟨ρe,e,t⟩:=k.1 z
 exact⟨_,Ag (by rw[uN (n:=n) (now:=now) (hs:=hs) rfl];exact uM (k:=2) (n:=n) (now:=now) (hs:=hs) rfl h rfl e t rfl),rfl⟩
theorem qB {rest:ah}:cX 0 "Cellar" "now" (some (aD n (bJ n m) hs)::rest)= .ok (bJ n m):=qP (n:=n) (now:=bJ n m) (hs:=hs) rfl (rX n _)
theorem Cg {now:D} {rest:ah}:cX 0 "Cellar" "tanks" (some (aD n now hs)::rest)= .ok (.int n):=qP (n:=n) (now:=now) (hs:=hs) rfl (C9 n _)
theorem HL {rest:ah} {g:JN} {d:D} (h:(tK n m).lookup g=some d):cA "Standing" g (cX 0 "Cellar" "now") (some (aD n (bJ n m) hs)::rest)= .ok d:=fw qB h
def kO (a b:Int):D:= .tup [.str "stream comes", .int a, .int b]
def Ch (n:Int) (m:Mo) (hs:List D) (a b:Int):JN:=fc (G8 n a b) (fc (ir (decide ((12:Int)<=(m.ss.length:Int))) "TooManyStreams") (mK hs))
theorem xI (g:m.Ok) (a b:Int):mJ (cr [aD n (bJ n m) hs] [.int a, .int b]) (aD n (bJ n m) hs) (Ch n m hs a b) (.int (m.c+1)) (aD n (bJ n (m.comes a b)) (hs++[.tup [kO a b,bJ n m]])):=
 mn rfl (iB (ρ:=[some (aD n (bJ n m) hs),some (.val (.int a)),some (.val (.int b))]) (ds:=[.int n, .tup [.int a, .int b]]) (a9 Cg (a9 (bM (ds:=[.int a, .int b]) rfl (show 2<=lim by decide)) rfl)) rfl (xH n a b)
  (lS (bG (aj (aU (a9 (HL (dQ n m)) rfl) gM) rfl (by rw[rC,JR])))
  (yO (lT (a9 (bM (ds:=[.str "stream comes", .int a, .int b]) rfl (show 3<=lim by decide)) (a9 (iA (n:=3) (fds:=tK n m) (ds:=[.int a, .int b]) qB rfl rfl (pK g a b) rfl) rfl)))
   (fw (qP (n:=n) (now:=bJ n (m.comes a b)) (hs:=hs++[.tup [kO a b,bJ n m]]) rfl (rX n _)) (ml n (m.comes a b)))))) rfl
def qj (a:Int):D:= .tup [.str "stream goes", .int a]
def En (m:Mo) (hs:List D) (a:Int):JN:=fc (uT m.nu [a]) (mK hs)
theorem Aj (g:m.Ok) (a:Int):mJ (cE [aD n (bJ n m) hs] [.int a]) (aD n (bJ n m) hs) (En m hs a) .non (aD n (bJ n (m.goes a)) (hs++[.tup [qj a,bJ n m]])):=
 uR rfl (iB (ρ:=[some (aD n (bJ n m) hs),some (.val (.int a))]) (ds:=[bJ n m, .tup [.int a]]) (a9 qB (a9 (bM (ds:=[.int a]) rfl (show 1<=lim by decide)) rfl)) rfl (jf g (ns:=[a]) (.inr rfl) (by simp))
  (lT (a9 (bM (ds:=[.str "stream goes", .int a]) rfl (show 2<=lim by decide)) (a9 (iA (n:=2) (fds:=tK n m) (ds:=[.int a]) qB rfl rfl (mH g a) rfl) rfl)))) rfl
def pM (ns:List Int):D:= .tup [.str "meters come", .tup (ns.map .int)]
def Ci (m:Mo) (hs:List D) (ns:List Int):JN:=fc (uT m.nu ns) (fc (ir (ns.any λx=>decide (x∈m.ms)) "AlreadyMetered") (fc (ir (decide ((m.ms.length:Int)+(ns.length:Int)>10)) "TooManyMeters") (mK hs)))
def i0 (n:Int) (now:D) (hs:List D):List (JN×D):=kL n now++[(("history":JN),D.lst hs)]
theorem xJ (g:m.Ok) {d:D} {ns:List Int} (h:eP d ns) (hl:ns.length<=100):mJ (cF [aD n (bJ n m) hs] [d]) (aD n (bJ n m) hs) (Ci m hs ns) .non (aD n (bJ n (m.mcome ns)) (hs++[.tup [pM ns,bJ n m]])):=
 uR rfl (iB (ρ:=[some (aD n (bJ n m) hs),some (.val d)]) (ds:=[bJ n m,d]) (a9 qB rfl) rfl (jf g h hl)
  (lS (b:=ns.any λx=>decide (x∈m.ms)) (Ah (ρ:=[some (.val (.ins "Cellar" (i0 n (bJ n m) hs))),some (.val d)]) (enc:= .int) (l:=ns) (h.seq rfl) (by omega) (rest:=[some (.val (.ins "Cellar" (i0 n (bJ n m) hs)))]) rfl λr _=>aj (a:= .int r) (b:= .tup (m.ms.map .int)) rfl (fw (fds:=tK n m) (fw (fds:=i0 n (bJ n m) hs) rfl rfl) (et n m)) sZ)
  (lS (bG (aj (aj (aU (a9 (HL (et n m)) rfl) gM) (aU (a9 rfl rfl) h.len) cB) rfl (by rw[kQ,JR])))
  (lT (a9 (bM (ds:=[.str "meters come", .tup (ns.map .int)]) (a9 rfl (a9 (aU (a9 rfl rfl) h.tup) rfl)) (show 2<=lim by decide)) (a9 (iA (n:=2) (fds:=tK n m) (ds:=[d]) qB rfl rfl (pL g h hl) rfl) rfl)))))) rfl
def wg (ns:List Int):D:= .tup [.str "meters go", .tup (ns.map .int)]
def HM (m:Mo) (hs:List D) (ns:List Int):JN:=fc (uT m.nu ns) (fc (Gw m.ms ns) (mK hs))
theorem Cj (g:m.Ok) {d:D} {ns:List Int} (h:eP d ns) (hl:ns.length<=100):mJ (cY [aD n (bJ n m) hs] [d]) (aD n (bJ n m) hs) (HM m hs ns) .non (aD n (bJ n (m.mgo ns)) (hs++[.tup [wg ns,bJ n m]])):=
 uR rfl (iB (ρ:=[some (aD n (bJ n m) hs),some (.val d)]) (ds:=[bJ n m,d]) (a9 qB rfl) rfl (jf g h hl)
  (iB (ds:=[bJ n m,d]) (a9 qB rfl) rfl (mX h hl)
  (lT (a9 (bM (ds:=[.str "meters go", .tup (ns.map .int)]) (a9 rfl (a9 (aU (a9 rfl rfl) h.tup) rfl)) (show 2<=lim by decide)) (a9 (iA (n:=2) (fds:=tK n m) (ds:=[d]) qB rfl rfl (mI g h) rfl) rfl))))) rfl
end
theorem rZ {α:Type} {f:α->D} {k:α->Int} (hk:∀a,sj (f a)=some (k a)):∀l:List α,eV (l.map f)=some (l.map k)
 |[]=>rfl
 |a::l=>by
  rw[J_,eV,hk,rZ hk l];rfl
theorem Ak {α:Type} {f:α->D} {k:α->Int} (hk:∀a,sj (f a)=some (k a)) {l:List α} (h:l≠[]):cQ (l.map f)=none:=by
 cases l with
 |nil=>exact absurd rfl h
 |cons a l=>
  have:=hk a
  rw[J_]
  cases e:f a<;>rw[e]at this<;>first|rfl|cases this
theorem uU {α:Type} {f:α->D} {k:α->Int} (hk:∀a,sj (f a)=some (k a)) {l m:List α} (p:l.Perm m) (inc:m.Pairwise λa b=>k a<k b) (hl:m.length<64) {d:D} (hd:d= .lst (l.map f)\/d= .tup (l.map f)):hV [d]=some (.lst (m.map f)):=by
 by_cases h0:l=[]
 ·subst h0
  have:m=[]:=(Qs p).symm
  subst this
  rcases hd with rfl|rfl<;>rfl
 ·have hn:(l.map k).Nodup:=(p.map k).nodup_iff.mpr (LX.mpr (inc.imp λh=>Int.ne_of_lt h))
  have hs:mQ (l.map f)=m.map f:=vJ (p.map f) (by
   rw[LX]
   refine inc.imp λ{a b} h=> ?_
   show (sj (f a)).getD 0<(sj (f b)).getD 0
   rw[hk,hk];exact h)
  have Vf:(l.map k).length<64:=by rw[JR,p.length_eq];exact hl
  have hr:=rZ hk l
  have ha:=Ak hk h0
  rcases hd with rfl|rfl
  ·have:iH [.lst (l.map f)]=none:=by simp[iH,um,ha]
   simp only[hV,this,oi,hr,Oi,hn,Vf,and_self,if_true,hs]
  ·have:iH [.tup (l.map f)]=none:=by simp[iH,um,ha]
   simp only[hV,this,oi,hr,Oi,hn,Vf,and_self,if_true,hs]
theorem Ck {m:List D->R D} {k:Nat} {fs:ah->R (List D)} {ρ:ah} {ds:List D} {g':ah->R bn} {w w':JN} {r:R bn} (h:fs ρ= .ok ds) (hl:ds.length=k) (hr:G6 (m ds) w) (h2:w=""->oK g' ρ w' r):oK (aw (hW (aL m k fs)) g') ρ (fc w w') r:=by
 by_cases e:w=""
 ·exact iB h hl hr (h2 e)
 ·unfold fc
  rw[if_neg e]
  obtain⟨ρe,e1⟩:=hr.1 e
  exact⟨λ_=>⟨ρ,kM (wc (wd h hl e1)),rfl⟩,λz=>absurd z e⟩
theorem wj {f:ah->R D} {ρ:ah} {d:D} {L:List Nat} {x:JN} (hc:L.all (yC x ρ)=true) (h:f (oq L ρ)= .ok d) (cl:jK x d):pi x L f ρ= .ok d:=by
 unfold pi
 rw[if_pos hc,h,aq,if_pos cl]
def xK (d:D) (rd:List Rd):Prop:=d= .lst (rd.map j0)\/d= .tup (rd.map j0)
theorem xK.seq {d:D} {rd:List Rd} (h:xK d rd) {ρ:ah} {f:ah->R D} (e:f ρ= .ok d):cG f ρ= .ok (rd.map j0):=by
 unfold cG
 rw[e]
 rcases h with rfl|rfl<;>rfl
theorem xK.tup {d:D} {rd:List Rd} (h:xK d rd):bV [d]=some (.tup (rd.map j0)):=by rcases h with rfl|rfl<;>rfl
theorem Cm {r:Rd}:b6 (j0 r) (.int 0)=some (.int r.1):=DQ
theorem Cn {r:Rd}:b6 (j0 r) (.int 1)=some (.int r.2):=J0
theorem jV {α:Type} {N:List JN} {names:List (JN×NameKind)} {fi:ah->R (List D)} {fe:ah->R D} {ρ rest:ah} {enc out:α->D} {l:List α} (h:fi ρ= .ok (l.map enc)) (hl:l.length<=1000) (hr:hJ N names ρ=none::none::rest) (he:∀x∈l,fe (none::some (.val (enc x))::rest)= .ok (out x)):
  bH N names fi (gN 1) fq fe ρ= .ok (l.map out):=by
 rw[gu h (by rw[JR];unfold lim;omega) hr (kW (p:=λ_=>true) (out:=out) l none (λr _=>rfl) (λr Wl _=>he r Wl)),nK]
theorem xL {nu ns:List Int} (h:uT nu ns=""):ns.Nodup/\∀x∈ns,x∈nu:=by
 unfold uT fc ir at h
 by_cases a:(ns.any λx=> !decide (x∈nu))=true
 ·rw[if_pos a,if_neg (by decide)]at h;exact absurd h (by decide)
 ·rw[if_neg a,if_pos rfl]at h
  by_cases b:ns.Nodup
  ·refine⟨b,λx hx=> ?_⟩
   by_cases c:x∈nu
   ·exact c
   ·exact absurd (KZ.mpr ⟨x,hx,by simp[c]⟩) a
  ·rw[decide_eq_false b]at h;exact absurd h (by decide)
section
variable {n:Int} {m:Mo} {hs:List D}
theorem iZ:bf [.ins "Cellar" (i0 n (bJ n m) hs)]= .ok (.int (m.ds.length:Int)):=
 bE rfl (dz (aU (a9 (fw (fds:=tK n m) (fw (fds:=i0 n (bJ n m) hs) rfl rfl) (gi n m)) rfl) (by rw[gM,JR])))
theorem uV (g:m.Ok) {d1 d2:D} {ri:List Int} {rd:List Rd} (h1:eP d1 ri) (h2:xK d2 rd) (nd:(rd.map (·.1)).Nodup) (hl:rd.length<=60):gQ [.int n, .tup (m.ss.map c_),d1,d2]= .ok (Cf n ⟨m.ss,ri,wA rd⟩):=by
 have e1:=uU (f:=c_) (k:=(·.1)) (λa=>rfl) (Ml m.ss) g.inc (by have:=g.len;omega) (.inr rfl)
 have e3:=uU (f:=j0) (k:=(·.1)) (λa=>rfl) (jU rd) (yN nd) (by have:=(jU rd).length_eq;omega) h2
 have e2:=h1.tup
 simp! [gQ,m8,jq,dw,rK,og,e1,e2,e3,J_,Lh,Ki,List.cons_append,Nat.reduceSub,zT,qa,L2.Pu.dX,Me,Cf]
def dF (ri:List Int) (rd:List Rd):D:= .tup [.str "day passes", .tup (ri.map .int), .tup (rd.map j0)]
def Eo (n:Int) (m:Mo) (hs:List D) (ri:List Int) (rd:List Rd):JN:=fc (ir (!decide ((ri.length:Int)=n)) "WrongRises") (fc (uT m.nu (rd.map (·.1))) (fc (Gw m.ms (rd.map (·.1))) (fc (ir (m.ms.any λx=> !decide (x∈rd.map (·.1))) "ReadingMissing") (fc (DR ri) (fc (DR (rd.map (·.2))) (fc (ir (decide ((12:Int)<=(m.ds.length:Int))) "TooManyDays") (mK hs)))))))
theorem Al (g:m.Ok) {d1 d2:D} {ri:List Int} {rd:List Rd} (h1:eP d1 ri) (h2:xK d2 rd) (l1:ri.length<=100) (l2:rd.length<=60):mJ (cO [aD n (bJ n m) hs] [d1,d2]) (aD n (bJ n m) hs) (Eo n m hs ri rd) (.int ((m.ds.length:Int)+1)) (aD n (bJ n (m.passes ri rd)) (hs++[.tup [dF ri rd,bJ n m]])):=by
 let ks:=rd.map (·.1)
 have hk:∀{x:Option Slot} {N:List JN} {names:List (JN×NameKind)} {ρ:ah},ρ[2]? =some (some (.val d2))->hJ N names ρ=[none,none]->bH N names (cG (au 2)) (gN 1) fq (f2 b6 (ac 1) (fC (.int 0))) ρ= .ok (ks.map .int):=λ{x N names ρ} e hr=>by
  rw[jV (rest:=[]) (h2.seq (by unfold au;rw[e])) (by omega) hr (out:=λr=> .int r.1) λr _=>aj rfl rfl Cm,K_];rfl
 have hv:∀{N:List JN} {names:List (JN×NameKind)} {ρ:ah},ρ[2]? =some (some (.val d2))->hJ N names ρ=[none,none]->bH N names (cG (au 2)) (gN 1) fq (f2 b6 (ac 1) (fC (.int 1))) ρ= .ok ((rd.map (·.2)).map .int):=λ{N names ρ} e hr=>by
  rw[jV (rest:=[]) (h2.seq (by unfold au;rw[e])) (by omega) hr (out:=λr=> .int r.2) λr _=>aj rfl rfl Cn,K_];rfl
 have lk:ks.length<=100:=by simp only[ks,JR];omega
 let R (x y:Option Slot):ah:=[some (aD n (bJ n m) hs),some (.val d1),some (.val d2),x,y]
 refine mn rfl (lS (ρ:=R none none) (bG (aj (aU (a9 rfl rfl) h1.len) Cg yv)) (xF (ρ':=R (some (.own (.lst (ks.map .int)))) none) (own_of (hk (x:=none) rfl rfl)) rfl (yP (ρ':=R (some (.val (.lst (ks.map .int)))) none) rfl rfl
  (Ck (ds:=[bJ n m, .lst (ks.map .int)]) (a9 qB rfl) rfl (jf g (.inl rfl) lk) λhw=>yP (ρ':=R (some (.val (.lst (ks.map .int)))) none) rfl rfl
  (iB (ds:=[bJ n m, .lst (ks.map .int)]) (a9 qB rfl) rfl (mX (.inl rfl) lk)
  (lS (Ah (enc:= .int) (l:=m.ms) (by unfold cG;rw[HL (et n m)];rfl) (by have:=g.ten;omega) (rest:=[some (.val (.lst (ks.map .int)))]) rfl λr _=>aj (a:= .int r) (b:= .lst (ks.map .int)) rfl rfl lx)
  (iB (ds:=[d1]) rfl rfl (qi h1 l1)
  (iB (ds:=[.lst ((rd.map (·.2)).map .int)]) (a9 (l5 (hv rfl rfl)) rfl) rfl (qi (.inl rfl) (by rw[JR];omega))
  (lS (bG (aj (aU (a9 (HL (gi n m)) rfl) gM) rfl (by rw[rC,JR])))
  (xF (ρ':=R (some (.val (.lst (ks.map .int)))) (some (.val (rY n ⟨m.ss,ri,wA rd⟩)))) (aZ (d:=rY n ⟨m.ss,ri,wA rd⟩) ?_ rfl) rfl
  (yO (lT (a9 (bM (ds:=[.str "day passes", .tup (ri.map .int), .tup (rd.map j0)]) (a9 rfl (a9 (aU (a9 rfl rfl) h1.tup) (a9 (aU (a9 rfl rfl) h2.tup) rfl))) (show 3<=lim by decide)) (a9 (iA (n:=2) (fds:=tK n m) (ds:=[rY n ⟨m.ss,ri,wA rd⟩]) qB rfl rfl (sA g ri rd) rfl) rfl)))
   (wj rfl ((iA (n:=1) (fds:=i0 n (bJ n (m.passes ri rd)) (hs++[.tup [dF ri rd,bJ n m]])) (ds:=[]) rfl rfl rfl iZ rfl).trans ?_) (.int _))))))))))))) rfl
 ·unfold lz
  rw[a9 (ds:=[.tup (m.ss.map c_),d1,d2]) Cg (a9 (HL (dQ n m)) rfl),aq,if_pos (show [D.int n, .tup (m.ss.map c_),d1,d2].length=4 from rfl),uV g h1 h2 (xL hw).1 l2]
  rfl
 ·simp only[Mo.passes,Kv,Kh,MK]
  rfl
theorem Am:mJ (c7 [aD n (bJ n m) []] []) (aD n (bJ n m) []) "NothingDone" .non (aD n (bJ n m) []):=
 ⟨λ_=>⟨_,oG ⟨rfl,rfl⟩ (ρ:=[some (aD n (bJ n m) []),none]) (kM (by rw[show fJ 1 [aD n (bJ n m) []] []=[some (aD n (bJ n m) []),none]from rfl,fV (bG (aj (aU (a9 (qQ rfl) rfl) jn) rfl jJ))];exact oF)),rfl⟩,λz=>absurd z (by decide)⟩
theorem An {now d st:D}:c7 [aD n now (hs++[.tup [d,st]])] []= .ok (d,[aD n st hs]):=by
 have Rt:((hs++[D.tup [d,st]]).length:Int)≠0:=by simp;omega
 refine gg ⟨rfl,rfl⟩ (ρ:=[some (aD n st hs),some (.val (.tup [d,st]))]) ?_ rfl
 show fR [some (aD n now (hs++[.tup [d,st]])),none]=_
 unfold fR
 rw[av (ρ':=[some (aD n now (hs++[.tup [d,st]])),none]) (by rw[c9 (bG (aj (aU (a9 (qQ rfl) rfl) jn) rfl (by rw[jJ,decide_eq_false Rt])))];rfl)]
 rw[av (ρ':=[some (aD n now hs),some (.val (.tup [d,st]))]) (by
  show (if ("Cellar":JN)="Cellar"/\("history":JN)="history" then (match (hs++[D.tup [d,st]])[(hs++[D.tup [d,st]]).length - 1]? with
   |some d'=>R.ok (bn.nx ((([some (aD n now (hs++[D.tup [d,st]])),none]:ah).set 0 (some (.cel "Cellar" (kL n now) "history" (hs++[D.tup [d,st]]).dropLast))).set 1 (some (.val d'))))
   |none=> .bad)else .bad)=_
  rw[if_pos ⟨rfl,rfl⟩,Pl,show (hs++[D.tup [d,st]])[(hs++[D.tup [d,st]]).length - 1]? =some (D.tup [d,st]) by simp]
  rfl)]
 rw[av (ρ':=[some (aD n st hs),some (.val (.tup [d,st]))]) (by
  show (f2 b6 (ac 1) (fC (.int 1)) [some (aD n now hs),some (.val (.tup [d,st]))]>>=λd'=>if ("Cellar":JN)="Cellar"/\((kL n now).lookup ("now":JN)).isSome=true/\(kL n now).length<900 then R.ok (bn.nx ([some (aD n now hs),some (.val (.tup [d,st]))].set 0 (some (.cel "Cellar" (A4 "now" d' (kL n now)) "history" hs))))else .bad)=_
  rw[aj rfl rfl J0,aq,if_pos ⟨rfl,by rw[rX];rfl,show 2<900 by decide⟩,yL]
  rfl)]
 exact oH (aj rfl rfl DQ)
def xM (ms:List Int) (r:yK):D:= .tup [.int r.1, .int r.2.1, .int r.2.2, .bl (decide (r.1∈ms))]
theorem wk (g:m.Ok):dc [.ins "Cellar" (i0 n (bJ n m) hs)]= .ok (.tup (m.ss.map (xM m.ms))):=by
 refine bE rfl ?_
 show i9 [some (.val (.ins "Cellar" (i0 n (bJ n m) hs))),none]=_
 unfold i9
 have nw:∀{x:Option Slot},cA "Cellar" "now" (ac 0) [some (.val (.ins "Cellar" (i0 n (bJ n m) hs))),x]= .ok (bJ n m):=λ{x}=>fw (fds:=i0 n (bJ n m) hs) rfl rfl
 rw[av (ρ':=[some (.val (.ins "Cellar" (i0 n (bJ n m) hs))),some (.val (.tup (m.ms.map .int)))]) (aZ (fw nw (et n m)) rfl)]
 refine dz (aU (a9 (l5 (jV (enc:=c_) (l:=m.ss) (by unfold cG;rw[fw nw (dQ n m)];rfl) (by have:=g.len;omega) (rest:=[some (.val (.tup (m.ms.map .int)))]) rfl λr _=>aj (a:=c_ r) (b:= .tup [.bl (decide (r.1∈m.ms))]) rfl (bM (ds:=[.bl (decide (r.1∈m.ms))]) (a9 (aj (aj rfl rfl oI) rfl sZ) rfl) (show 1<=lim by decide)) (ii (by simp[c_])))) rfl) rfl)
theorem Co {k:Nat} (h:k<m.ds.length):eY [.ins "Cellar" (i0 n (bJ n m) hs), .int ((k:Int)+1)]= .ok (rY n m.ds[k]):=by
 refine bE rfl ?_
 show ky [some (.val (.ins "Cellar" (i0 n (bJ n m) hs))),some (.val (.int ((k:Int)+1)))]=_
 unfold ky
 have t1:fT (f2 xk (ac 1) (fC (.int 1))) [some (.val (.ins "Cellar" (i0 n (bJ n m) hs))),some (.val (.int ((k:Int)+1)))]= .ok false:=bG (aj (a:= .int ((k:Int)+1)) (b:= .int 1) rfl rfl (by rw[o5,decide_eq_false (by omega)]))
 have t2:fT (f2 p7 (ac 1) (f9 "Cellar" "days_gone" 1 bf (au 0) ag)) [some (.val (.ins "Cellar" (i0 n (bJ n m) hs))),some (.val (.int ((k:Int)+1)))]= .ok false:=bG (aj (a:= .int ((k:Int)+1)) rfl (iA (n:=1) (fds:=i0 n (bJ n m) hs) (ds:=[]) rfl rfl rfl iZ rfl) (by rw[kQ,decide_eq_false (by omega)]))
 rw[av (by rw[c9 (by unfold oZ;rw[t1,aq,if_neg (by simp),t2])];rfl)]
 refine dz (aj (fw (fds:=tK n m) (fw (fds:=i0 n (bJ n m) hs) rfl rfl) (gi n m)) (aj (a:= .int ((k:Int)+1)) (b:= .int 1) rfl rfl pb) ?_)
 rw[sY,show (k:Int)+1 - 1=(k:Int) by omega,i5 (by simpa using h)]
 simp
end
def qC (n:Int) (d:Cd):D:= .tup [.int n, .tup (d.ss.map c_), .tup (d.ri.map .int), .tup (d.rd.map j0)]
def bL (n:Int) (m:Mo):D:= .tup [.int n, .int (m.c+1), .tup (m.ss.map c_), .tup (m.mm.map .int), .tup (m.ds.map (qC n)), .tup m.dd]
theorem eQ {l:List D} {d:D} (k:Nat) (h:l[k]? =some d):b6 (.tup l) (.int (k:Int))=some d:=by rw[sY];exact tW h
theorem Ga {l:List D} {d:D} (k:Nat) (h:l[k]? =some d):b6 (.lst l) (.int (k:Int))=some d:=by rw[vD];exact tW h
section
variable {n:Int} {m:Mo} {hs:List D}
theorem Ep:b6 (bL n m) (.int 0)=some (.int n):=eQ 0 rfl
theorem JI:b6 (bL n m) (.int 1)=some (.int (m.c+1)):=eQ 1 rfl
theorem HN:b6 (bL n m) (.int 2)=some (.tup (m.ss.map c_)):=eQ 2 rfl
theorem Gb:b6 (bL n m) (.int 3)=some (.tup (m.mm.map .int)):=eQ 3 rfl
theorem HP:b6 (bL n m) (.int 4)=some (.tup (m.ds.map (qC n))):=eQ 4 rfl
theorem Jp:b6 (bL n m) (.int 5)=some (.tup m.dd):=eQ 5 rfl
theorem Mo.Ok.mem (g:m.Ok) (x:Int):decide (x∈m.mm)=decide (x∈m.ms):=decide_eq_decide.mpr g.per.mem_iff
def Cp (g:ah->R bn) (ρ:ah) (w:JN):Prop:=g ρ= .ok (.ret (.str w))
theorem fW {t:ah->R Bool} {ρ:ah} {b:Bool} {x w':JN} {g':ah->R bn} (h:t ρ= .ok b) (h2:Cp g' ρ w') (hx:x≠"":=by decide):Cp (aw (cK t (bB (fC (.str x))) aI) g') ρ (fc (ir b x) w'):=by
 cases b with
 |true=>
  have:fc (ir true x) w'=x:=by unfold fc ir;rw[if_pos rfl,if_neg hx]
  unfold Cp
  rw[this];exact m7 (by rw[fV h];rfl)
 |false=>exact(av (by rw[c9 h];rfl)).trans h2
theorem oN {ρ:ah}:Cp (bB (fC (.str ""))) ρ "":=rfl
theorem nL {g g':ah->R bn} {ρ ρ':ah} {w:JN} (h:g ρ= .ok (.nx ρ')) (h2:Cp g' ρ' w):Cp (aw g g') ρ w:=(av h).trans h2
theorem wl (w:JN):fc w ""=w:=by unfold fc;split<;>simp_all
theorem tL (a b c:JN):fc (fc a b) c=fc a (fc b c):=by
 unfold fc
 by_cases h:a=""
 ·simp[h]
 ·simp[h]
theorem Gc {a b:Bool} {w:JN} (hw:w≠""):fc (ir a w) (ir b w)=ir (a||b) w:=by
 cases a<;>cases b<;>simp[fc,ir,hw]
theorem r_ {α:Type} (p:α->Bool):∀l:List α,(!(l.filter p).isEmpty)=l.any p
 |[]=>rfl
 |a::l=>by
  rw[Li,Oz]
  cases q:p a with
  |true=>rfl
  |false=>exact r_ p l
theorem neC {α:Type} {N:List JN} {names:List (JN×NameKind)} {fi:ah->R (List D)} {gt:ah->R Bool} {ρ rest:ah} {enc:α->D} {l:List α} {p:α->Bool} (h:fi ρ= .ok (l.map enc)) (hl:l.length<=1000) (hr:hJ N names ρ=none::none::rest) (ht:∀x∈l,gt (none::some (.val (enc x))::rest)= .ok (p x)):
  fT (f2 qu (fL (bH N names fi (gN 1) gt (au 1))) (eB ag)) ρ= .ok (l.any p):=by
 refine bG (aj (l5 (gu h (by rw[JR];unfold lim;omega) hr (kW (p:=p) (out:=enc) l none (λr Wl=>ht r Wl) (λr _ _=>rfl)))) rfl ?_)
 show some (D.bl (!((l.filter p).map enc).isEmpty))=_
 congr 2
 rw[Qu]
 rw[r_]
theorem s9 (a b:Int):dZ [bL n m, .int a, .int b]= .ok (.str (fc (G8 n a b) (ir (decide ((12:Int)<=(m.ss.length:Int))) "TooManyStreams"))):=by
 have WM:∀{x:Int},oZ (fT (f2 xk (ac 3) (fC (.int 0)))) (fT (f2 p7 (ac 3) (f2 b6 (ac 0) (fC (.int 0))))) [some (.val (bL n m)),some (.val (.int a)),some (.val (.int b)),some (.val (.int x))]= .ok (xG n x):=λ{x}=>by
  have t2:fT (f2 p7 (ac 3) (f2 b6 (ac 0) (fC (.int 0)))) [some (.val (bL n m)),some (.val (.int a)),some (.val (.int b)),some (.val (.int x))]= .ok (decide (x>n)):=bG (aj (a:= .int x) rfl (aj (a:=bL n m) rfl rfl Ep) kQ)
  unfold oZ
  rw[bG (aj (a:= .int x) (b:= .int 0) rfl rfl o5),aq]
  unfold xG
  by_cases h:x<0
  ·simp only[h,decide_true,if_true,Og]
  ·simp only[h,decide_false,KY,if_false,t2,NR]
 have Vl:∀(x:Int) (r:List D) (y:Option Slot),eF (gN 3) bK (.int x::r) [some (.val (bL n m)),some (.val (.int a)),some (.val (.int b)),y]=if xG n x=true then .ok (.ret (.str "UnknownPlace"))else eF (gN 3) bK r [some (.val (bL n m)),some (.val (.int a)),some (.val (.int b)),some (.val (.int x))]:=λx r y=>by
  cases q:xG n x with
  |true=>
   rw[if_pos rfl,eF]
   show (bK [some (.val (bL n m)),some (.val (.int a)),some (.val (.int b)),some (.val (.int x))]>>=_)=_
   rw[show bK [some (.val (bL n m)),some (.val (.int a)),some (.val (.int b)),some (.val (.int x))]= .ok (.ret (.str "UnknownPlace")) by unfold bK;rw[fV (by rw[WM,q])];rfl]
   rfl
  |false=>
   rw[if_neg (by simp)]
   exact o7 (ρ1:=[some (.val (bL n m)),some (.val (.int a)),some (.val (.int b)),some (.val (.int x))]) rfl (by unfold bK;rw[c9 (by rw[WM,q])];rfl)
 refine bE rfl ?_
 show ib [some (.val (bL n m)),some (.val (.int a)),some (.val (.int b)),none]=_
 unfold ib
 have hf:k_ (cG (bA (a8 (au 1) (a8 (au 2) (ag))))) (gN 3) bK [some (.val (bL n m)),some (.val (.int a)),some (.val (.int b)),none]=eF (gN 3) bK [.int a, .int b] [some (.val (bL n m)),some (.val (.int a)),some (.val (.int b)),none]:=pc (by unfold cG;rw[bM (ds:=[.int a, .int b]) rfl (show 2<=lim by decide)];rfl)
 rw[Vl,Vl]at hf
 by_cases h:[a,b].any (xG n)=true
 ·have e:k_ (cG (bA (a8 (au 1) (a8 (au 2) (ag))))) (gN 3) bK [some (.val (bL n m)),some (.val (.int a)),some (.val (.int b)),none]= .ok (.ret (.str "UnknownPlace")):=by
   rw[hf]
   simp only[Li,List.any_nil,QS,ON]at h
   by_cases ha:xG n a=true
   ·rw[if_pos ha]
   ·rw[if_neg ha,if_pos (h.resolve_left ha)]
  rw[m7 e]
  simp only[G8,h,ir,if_true,fc]
  rfl
 ·have ha:¬xG n a=true:=λz=>h (by simp[z])
  have hb:¬xG n b=true:=λz=>h (by simp[z])
  rw[if_neg ha,if_neg hb]at hf
  rw[av hf]
  have:G8 n a b=ir (decide (a=b)) "SamePlace":=by unfold G8;rw[show [a,b].any (xG n)=false from O0.mpr h];rfl
  rw[this]
  exact fW (bG (aj (a:= .int a) (b:= .int b) rfl rfl jJ)) ((fW (bG (aj (aU (a9 (aj (a:=bL n m) rfl rfl HN) rfl) gM) rfl (by rw[rC,JR]))) oN).trans (by rw[wl]))
theorem yQ {x y:JN}:rB (.str x) (.str y)=some (.bl (!decide (x=y))):=rfl
theorem yR {i:Nat} {ρ:ah} {w w':JN} {g':ah->R bn} (h:ρ[i]? =some (some (.val (.str w)))) (h2:w=""->Cp g' ρ w'):Cp (aw (cK (fT (f2 rB (ac i) (fC (.str "")))) (bB (au i)) aI) g') ρ (fc w w'):=by
 have hb:ac i ρ= .ok (.str w):=by unfold ac;rw[h];rfl
 have hv:au i ρ= .ok (.str w):=by unfold au;rw[h]
 by_cases e:w=""
 ·have e1:fT (f2 rB (ac i) (fC (.str ""))) ρ= .ok false:=bG (aj hb rfl (by rw[yQ,decide_eq_true e];rfl))
  unfold fc
  rw[if_pos e]
  exact nL (by rw[c9 e1];rfl) (h2 e)
 ·have e1:fT (f2 rB (ac i) (fC (.str ""))) ρ= .ok true:=bG (aj hb rfl (by rw[yQ,decide_eq_false e];rfl))
  unfold fc
  rw[if_neg e]
  exact m7 (by rw[fV e1];exact dz hv)
theorem DS {fo fk:ah->R D} {ρ:ah} {d:D} {ns:List Int} {k:Int} (h:eP d ns) (ho:fo ρ= .ok d) (hk:fk ρ= .ok (.int k)):yI fo fk ρ= .ok (.int (ns.count k)):=by
 unfold yI
 rw[ho,aq]
 rcases h with rfl|rfl
 ·dsimp only
  rw[hk,aq,kg]
 ·dsimp only
  rw[hk,aq,kg]
theorem DT (ns:List Int):(ns.any λx=>decide ((ns.count x:Int)>1))= !decide ns.Nodup:=by
 by_cases h:ns.Nodup
 ·rw[decide_eq_true h,QW,O0]
  intro z
  obtain⟨x,_,hx⟩:=KZ.mp z
  have:=Pm.mp h x
  have:=of_decide_eq_true hx
  omega
 ·rw[decide_eq_false h,QQ]
  refine KZ.mpr ?_
  by_cases z:∃x∈ns,decide ((ns.count x:Int)>1)=true
  ·exact z
  ·refine absurd (Pm.mpr λa=> ?_) h
   by_cases ha:a∈ns
   ·have:¬((ns.count a:Int)>1):=λq=>z ⟨a,ha,decide_eq_true q⟩
    omega
   ·rw[List.count_eq_zero_of_not_mem ha];omega
theorem Gd {x:List (Option Slot)} {k:Int} {l:List D} (h:b6 (bL n m) (.int k)=some (.tup l)):cG (f2 b6 (ac 0) (fC (.int k))) (some (.val (bL n m))::x)= .ok l:=by
 unfold cG
 rw[aj (a:=bL n m) rfl rfl h,aq]
theorem jx (g:m.Ok) {d:D} {ns:List Int} (h:eP d ns) (hl:ns.length<=100):cj [bL n m,d]= .ok (.str (uT m.nu ns)):=by
 refine bE rfl (nL (ρ:=[some (.val (bL n m)),some (.val d),none]) (ρ':=[some (.val (bL n m)),some (.val d),some (.own (.lst (m.nu.map .int)))]) (own_of (Em g (Gd HN) rfl)) ?_)
 refine(fW (neC (enc:= .int) (l:=ns) (h.seq rfl) (by omega) (rest:=[some (.bor (.lst (m.nu.map .int)))]) rfl λr _=>bG (aj (a:= .int r) (b:= .lst (m.nu.map .int)) rfl rfl lx)) (fW (neC (enc:= .int) (l:=ns) (h.seq rfl) (by omega) (rest:=[some (.val d)]) rfl λr _=>bG (aj (DS h rfl rfl) rfl kQ)) oN)).trans ?_
 rw[wl,DT]
 rfl
theorem lU (g:m.Ok) (c:Bool) {ns:List Int} (hl:ns.length<=100):d_ [bL n m, .bl c, .tup (ns.map .int)]= .ok (.str (fc (uT m.nu ns) (if c=true then fc (ir (ns.any λx=>decide (x∈m.ms)) "AlreadyMetered") (ir (decide ((m.ms.length:Int)+(ns.length:Int)>10)) "TooManyMeters")else Gw m.ms ns))):=by
 have hr:eP (.tup (ns.map .int)) ns:= .inr rfl
 let R (x y:Option Slot):ah:=[some (.val (bL n m)),some (.val (.bl c)),some (.val (.tup (ns.map .int))),x,y]
 refine bE rfl (nL (ρ:=R none none) (ρ':=R (some (.val (.str (uT m.nu ns)))) none) (aZ (bu (n:=2) (a9 rfl (a9 rfl rfl)) rfl (jx g hr hl)) rfl) (yR rfl λ_=> ?_))
 have hf:bH ["_law_model","_law_come","_law_named","_law_word","_law_have"] [(".0", .local),("_law_number", .local),("_law_model", .free)] (cG (au 2)) (gN 1) (fT (f2 (gJ false) (ac 1) (f2 b6 (ac 2) (fC (.int 3))))) (au 1) (R (some (.val (.str (uT m.nu ns)))) none)= .ok ((ns.filter λx=>decide (x∈m.ms)).map .int):=
  gu (hr.seq rfl) (by rw[JR];unfold lim;omega) (τ:=[none,none,some (.val (bL n m))]) rfl (kW (p:=λx=>decide (x∈m.ms)) (out:= .int) ns none (λr _=>by
   rw[bG (aj (a:= .int r) (b:= .tup (m.mm.map .int)) rfl (aj (a:=bL n m) rfl rfl Gb) sZ),g.mem]) (λr _ _=>rfl))
 refine nL (ρ':=R (some (.val (.str (uT m.nu ns)))) (some (.own (.lst ((ns.filter λx=>decide (x∈m.ms)).map .int))))) (own_of hf) ?_
 let ρ:=R (some (.val (.str (uT m.nu ns)))) (some (.own (.lst ((ns.filter λx=>decide (x∈m.ms)).map .int))))
 have tc:eS (ac 1) ρ= .ok c:=kN rfl
 have t1:fT (f2 qu (ac 4) (eB (ag))) ρ= .ok (ns.any λx=>decide (x∈m.ms)):=bG (aj (a:= .lst ((ns.filter λx=>decide (x∈m.ms)).map .int)) (b:= .lst []) rfl rfl (by
  show some (D.bl (!((ns.filter λx=>decide (x∈m.ms)).map D.int).isEmpty))=_
  rw[Qu,r_]))
 have t2:fT (f2 p7 (f2 br (ck cp (a8 (f2 b6 (ac 0) (fC (.int 3))) (ag))) (ck cp (a8 (ac 2) (ag)))) (fC (.int 10))) ρ= .ok (decide ((m.ms.length:Int)+(ns.length:Int)>10)):=bG (aj (aj (aU (a9 (aj (a:=bL n m) rfl rfl Gb) rfl) gM) (aU (a9 rfl rfl) hr.len) cB) rfl (by rw[kQ,JR,g.per.length_eq]))
 have t3:fT (f2 xk (ck cp (a8 (ac 4) (ag))) (ck cp (a8 (ac 2) (ag)))) ρ= .ok (ns.any λx=> !decide (x∈m.ms)):=bG (aj (aU (a9 (d:= .lst ((ns.filter λx=>decide (x∈m.ms)).map .int)) rfl rfl) jn) (aU (a9 rfl rfl) hr.len) (by
  rw[o5,JR]
  congr 2
  have a0T:=Mq (λx=>decide (x∈m.ms)) ns
  by_cases z:(ns.any λx=> !decide (x∈m.ms))=true
  ·rw[z,decide_eq_true_eq]
   obtain⟨x,hx,hp⟩:=KZ.mp z
   have:(ns.filter λx=>decide (x∈m.ms)).length≠ns.length:=λe=>by
    have:=Ng.mp e x hx
    rw[this]at hp;cases hp
   omega
  ·rw[O0.mpr z,decide_eq_false_iff_not]
   have:(ns.filter λx=>decide (x∈m.ms)).length=ns.length:=Ng.mpr λx hx=>by
    cases q:decide (x∈m.ms)with
    |true=>rfl
    |false=>exact absurd (KZ.mpr ⟨x,hx,by rw[q];rfl⟩) z
   omega))
 cases c with
 |true=>
  rw[if_pos rfl]
  have a1:gr (eS (ac 1)) (fT (f2 qu (ac 4) (eB (ag)))) ρ= .ok (ns.any λx=>decide (x∈m.ms)):=by unfold gr;rw[tc,aq,if_pos rfl,t1]
  have a2:gr (eS (ac 1)) (fT (f2 p7 (f2 br (ck cp (a8 (f2 b6 (ac 0) (fC (.int 3))) (ag))) (ck cp (a8 (ac 2) (ag)))) (fC (.int 10)))) ρ= .ok (decide ((m.ms.length:Int)+(ns.length:Int)>10)):=by unfold gr;rw[tc,aq,if_pos rfl,t2]
  have a3:gr (jE (eS (ac 1))) (fT (f2 xk (ck cp (a8 (ac 4) (ag))) (ck cp (a8 (ac 2) (ag))))) ρ= .ok false:=by unfold gr jE;rw[tc];rfl
  exact(fW a1 (fW a2 (fW a3 oN))).trans (by rw[show fc (ir false "NotMetered") ""="" from rfl,wl])
 |false=>
  rw[if_neg (by simp)]
  have a1:gr (eS (ac 1)) (fT (f2 qu (ac 4) (eB (ag)))) ρ= .ok false:=by unfold gr;rw[tc];rfl
  have a2:gr (eS (ac 1)) (fT (f2 p7 (f2 br (ck cp (a8 (f2 b6 (ac 0) (fC (.int 3))) (ag))) (ck cp (a8 (ac 2) (ag)))) (fC (.int 10)))) ρ= .ok false:=by unfold gr;rw[tc];rfl
  have a3:gr (jE (eS (ac 1))) (fT (f2 xk (ck cp (a8 (ac 4) (ag))) (ck cp (a8 (ac 2) (ag))))) ρ= .ok (ns.any λx=> !decide (x∈m.ms)):=by unfold gr jE;rw[tc,aq,aq,if_pos (show (!false)=true from rfl),t3]
  exact(fW a1 (fW a2 (fW a3 oN))).trans (by rw[wl];rfl)
end
section
variable {n:Int} {m:Mo} {hs:List D}
theorem yS {g g':ah->R bn} {ρ ρ':ah} {w:JN} {L:List Nat} (hf:frz L ρ=ρ') (h:Cp (aw g g') ρ' w):Cp (aw (n_ L g) g') ρ w:=by
 have:aw (n_ L g) g' ρ=aw g g' ρ':=by unfold aw n_;rw[hf]
 unfold Cp
 rw[this];exact h
theorem wm (g:m.Ok) {ri:List Int} {rd:List Rd} (l1:ri.length<=100) (l2:rd.length<=60):gA [bL n m, .tup (ri.map .int), .tup (rd.map j0)]= .ok (.str (fc (ir (!decide ((ri.length:Int)=n)) "WrongRises") (fc (uT m.nu (rd.map (·.1))) (fc (Gw m.ms (rd.map (·.1))) (fc (ir (m.ms.any λx=> !decide (x∈rd.map (·.1))) "ReadingMissing") (fc (DR ri) (fc (DR (rd.map (·.2))) (ir (decide ((12:Int)<=(m.ds.length:Int))) "TooManyDays")))))))):=by
 let ks:=rd.map (·.1)
 have lk:ks.length<=100:=by simp only[ks,JR];omega
 have h1:eP (.tup (ri.map .int)) ri:= .inr rfl
 have h2:xK (.tup (rd.map j0)) rd:= .inr rfl
 let R (x y z:Option Slot):ah:=[some (.val (bL n m)),some (.val (.tup (ri.map .int))),some (.val (.tup (rd.map j0))),x,y,z]
 have hk:∀{N:List JN} {names:List (JN×NameKind)} {ρ:ah},ρ[2]? =some (some (.val (.tup (rd.map j0))))->hJ N names ρ=[none,none]->bH N names (cG (au 2)) (gN 1) fq (f2 b6 (ac 1) (fC (.int 0))) ρ= .ok (ks.map .int):=λ{N names ρ} e hr=>by
  rw[jV (rest:=[]) (h2.seq (by unfold au;rw[e])) (by omega) hr (out:=λr=> .int r.1) λr _=>aj rfl rfl Cm,K_];rfl
 have hv:∀{N:List JN} {names:List (JN×NameKind)} {ρ:ah},ρ[2]? =some (some (.val (.tup (rd.map j0))))->hJ N names ρ=[none,none]->bH N names (cG (au 2)) (gN 1) fq (f2 b6 (ac 1) (fC (.int 1))) ρ= .ok ((rd.map (·.2)).map .int):=λ{N names ρ} e hr=>by
  rw[jV (rest:=[]) (h2.seq (by unfold au;rw[e])) (by omega) hr (out:=λr=> .int r.2) λr _=>aj rfl rfl Cn,K_];rfl
 have a1X:m.mm.length<=10:=by rw[g.per.length_eq];exact g.ten
 let w:=uT m.nu ks
 let K:Option Slot:=some (.val (.lst (ks.map .int)))
 let W:Option Slot:=some (.val (.str w))
 let am:=ri++rd.map (·.2)
 have a2v:am.length<=160:=by simp only[am,Kv,JR];omega
 have a5:f2 br (ck o3 (a8 (ac 1) (ag))) (fL (bH ["_law_model","_law_rises","_law_readings","_law_named","_law_word","_law_amounts"] [(".0", .local),("_law_row", .local)] (cG (au 2)) (gN 1) (fq) (f2 b6 (ac 1) (fC (.int 1))))) (R K W none)= .ok (.lst (am.map .int)):=
  aj (a:= .lst (ri.map .int)) (b:= .lst ((rd.map (·.2)).map .int)) (aU (a9 rfl rfl) rfl) (l5 (hv rfl rfl)) (by rw[n8 (by simp only[JR];unfold lim;omega),<-Kn])
 refine bE rfl ((fW (ρ:=R none none none) (bG (aj (aU (a9 rfl rfl) h1.len) (aj (a:=bL n m) rfl rfl Ep) yv)) (nL (ρ':=R (some (.own (.lst (ks.map .int)))) none none) (own_of (hk rfl rfl)) (yS (ρ':=R K none none) rfl (nL (ρ':=R K W none) (aZ (bu (n:=2) (a9 rfl (a9 rfl rfl)) rfl (jx g (.inl rfl) lk)) rfl)
  (yR (w:=w) rfl λ_=>yS (ρ':=R K W none) rfl (fW (neC (enc:= .int) (l:=ks) (p:=λx=> !decide (x∈m.ms)) rfl (by omega) (rest:=[some (.val (bL n m))]) rfl λr _=>by
    rw[bG (aj (a:= .int r) (b:= .tup (m.mm.map .int)) rfl (aj (a:=bL n m) rfl rfl Gb) o6),g.mem])
   (fW (neC (enc:= .int) (l:=m.mm) (Gd Gb) (by omega) (rest:=[K]) rfl λr _=>bG (aj (a:= .int r) (b:= .lst (ks.map .int)) rfl rfl lx))
   (nL (ρ':=R K W (some (.val (.lst (am.map .int))))) (aZ a5 rfl)
   (fW (neC (enc:= .int) (l:=am) (p:=G9) rfl (by omega) (rest:=[]) rfl λr _=>by
    unfold oZ
    rw[bG (aj (a:= .int r) (b:= .int (-1000)) rfl rfl o5),aq]
    unfold G9
    by_cases z:r< -1000
    ·simp only[z,decide_true,if_true,Og]
    ·simp only[z,decide_false,KY,if_false,NR]
     exact bG (aj (a:= .int r) (b:= .int 1000) rfl rfl kQ))
   (fW (bG (aj (aU (a9 (aj (a:=bL n m) rfl rfl HP) rfl) gM) rfl (by rw[rC,JR]))) oN)))))))))).trans ?_)
 have e1:(m.mm.any λx=> !decide (x∈ks))=m.ms.any λx=> !decide (x∈ks):=g.per.any_eq
 have e2:fc (ir (am.any G9) "OutOfRange")=λx=>fc (DR ri) (fc (DR (rd.map (·.2))) x):=by
  funext x
  rw[<-tL,show fc (DR ri) (DR (rd.map (·.2)))=ir (ri.any G9||(rd.map (·.2)).any G9) "OutOfRange" from Gc (by decide),List.any_append]
 rw[wl,e1,e2]
 rfl
inductive b9 where
 |comes (a b:Int)|goes (a:Int)|mcome (ns:List Int)|mgo (ns:List Int)|pass (ri:List Int) (rd:List Rd)|back
def b9.dt:b9->L2.Pu.D
 | .comes a b=>kO a b
 | .goes a=>qj a
 | .mcome ns=>pM ns
 | .mgo ns=>wg ns
 | .pass ri rd=>dF ri rd
 | .back=> .tup [.str "take back"]
def b9.Fit:b9->Prop
 | .mcome ns=>ns.length<=40
 | .mgo ns=>ns.length<=40
 | .pass ri rd=>ri.length<=100/\rd.length<=60
 |_=>True
def b9.W (n:Int) (m:Mo) (hs:List L2.Pu.D):b9->JN
 | .comes a b=>Ch n m hs a b
 | .goes a=>En m hs a
 | .mcome ns=>Ci m hs ns
 | .mgo ns=>HM m hs ns
 | .pass ri rd=>Eo n m hs ri rd
 | .back=>ir (decide (hs.length=0)) "NothingDone"
def b9.next (m:Mo):b9->Mo
 | .comes a b=>m.comes a b
 | .goes a=>m.goes a
 | .mcome ns=>m.mcome ns
 | .mgo ns=>m.mgo ns
 | .pass ri rd=>m.passes ri rd
 | .back=>m
end
section
variable {n:Int} {m:Mo} {hs:List D}
theorem iu {i:Nat} {s x:JN} {l:List D} {ρ:ah} (h:ρ[i]? =some (some (.val (.tup (.str s::l))))) (e:s=x):fT (f2 eG (f2 b6 (ac i) (fC (.int 0))) (fC (.str x))) ρ= .ok true:=bG (aj (aj (a:= .tup (.str s::l)) (by unfold ac;rw[h];rfl) rfl DQ) rfl (by rw[rW,decide_eq_true e]))
theorem bX {i:Nat} {s x:JN} {l:List D} {ρ:ah} (h:ρ[i]? =some (some (.val (.tup (.str s::l))))) (e:s≠x):fT (f2 eG (f2 b6 (ac i) (fC (.int 0))) (fC (.str x))) ρ= .ok false:=bG (aj (aj (a:= .tup (.str s::l)) (by unfold ac;rw[h];rfl) rfl DQ) rfl (by rw[rW,decide_eq_false e]))
theorem xN {b:Bool}:xo [.bl b]=some (.int (if b=true then 1 else 0)):=rfl
def cU (n:Int) (tr:List Mo) (m:Mo):List D:=(tr++[m]).map (bL n)
theorem iD {tr:List Mo}:b6 (.lst (cU n tr m)) (.int (-1))=some (bL n m):=by
 rw[vD]
 unfold cU
 rw[Kn]
 exact v9 _ _
theorem lV {tr:List Mo}:(cU n tr m).length=tr.length+1:=by unfold cU;simp
theorem uW (g:m.Ok) {tr:List Mo} (hl:hs.length=tr.length) (d:b9) (hf:d.Fit):eo [.lst (cU n tr m),d.dt]= .ok (.str (d.W n m hs)):=by
 let R (y:Option Slot):ah:=[some (.val (.lst (cU n tr m))),some (.val d.dt),some (.val (bL n m)),y]
 have hw:mK hs=ir (decide (((cU n tr m).length:Int)>60)) "TooManyDeeds":=by
  unfold mK
  rw[lV,<-hl]
  congr 1
  refine decide_eq_decide.mpr ?_
  omega
 have e0:aX (f2 b6 (ac 0) (f1 jm (fC (.int 1)))) (gN 2) [some (.val (.lst (cU n tr m))),some (.val d.dt),none,none]= .ok (.nx (R none)):=aZ (aj (a:= .lst (cU n tr m)) (b:= .int (-1)) rfl rfl iD) rfl
 have SH:∀{w:JN},aw (cK (gr (fT (f2 eG (ac 3) (fC (.str "")))) (fT (f2 p7 (ck cp (a8 (ac 0) (ag))) (fC (.int 60))))) (aX (fC (.str "TooManyDeeds")) (gN 3)) (aI)) (bB (au 3)) (R (some (.val (.str w))))= .ok (.ret (.str (fc w (mK hs)))):=λ{w}=>by
  have t1:fT (f2 eG (ac 3) (fC (.str ""))) (R (some (.val (.str w))))= .ok (decide (w="")):=bG (aj (a:= .str w) (b:= .str "") rfl rfl rW)
  have t2:fT (f2 p7 (ck cp (a8 (ac 0) (ag))) (fC (.int 60))) (R (some (.val (.str w))))= .ok (decide (((cU n tr m).length:Int)>60)):=bG (aj (aU (a9 rfl rfl) jn) rfl kQ)
  rw[hw]
  by_cases e:w=""
  ·have a:gr (fT (f2 eG (ac 3) (fC (.str "")))) (fT (f2 p7 (ck cp (a8 (ac 0) (ag))) (fC (.int 60)))) (R (some (.val (.str w))))= .ok (decide (((cU n tr m).length:Int)>60)):=by unfold gr;rw[t1,decide_eq_true e,aq,if_pos rfl,t2]
   unfold fc
   rw[if_pos e]
   by_cases z:((cU n tr m).length:Int)>60
   ·rw[decide_eq_true z]at a ⊢
    rw[av (ρ':=R (some (.val (.str "TooManyDeeds")))) (by rw[fV a];rfl)]
    rfl
   ·rw[decide_eq_false z]at a ⊢
    rw[av (ρ':=R (some (.val (.str w)))) (by rw[c9 a];rfl),e]
    rfl
  ·have a:gr (fT (f2 eG (ac 3) (fC (.str "")))) (fT (f2 p7 (ck cp (a8 (ac 0) (ag))) (fC (.int 60)))) (R (some (.val (.str w))))= .ok false:=by unfold gr;rw[t1,decide_eq_false e];rfl
   unfold fc
   rw[if_neg e,av (ρ':=R (some (.val (.str w)))) (by rw[c9 a];rfl)]
   rfl
 refine bE rfl ?_
 show jw [some (.val (.lst (cU n tr m))),some (.val d.dt),none,none]=_
 unfold jw
 rw[av e0]
 cases d with
 |back=>
  refine m7 ?_
  rw[fV (iu rfl rfl)]
  have hc:ck xo (a8 (f2 eG (ck cp (a8 (ac 0) (ag))) (fC (.int 1))) (ag)) (R none)= .ok (.int (if decide (((cU n tr m).length:Int)=1)=true then 1 else 0)):=aU (a9 (aj (aU (a9 rfl rfl) jn) rfl jJ) rfl) xN
  show bB (f2 b6 (eB (a8 (fC (.str "")) (a8 (fC (.str "NothingDone")) (ag)))) (ck xo (a8 (f2 eG (ck cp (a8 (ac 0) (ag))) (fC (.int 1))) (ag)))) (R none)= .ok (.ret (.str (ir (decide (hs.length=0)) "NothingDone")))
  refine dz (aj (a:= .lst [.str "", .str "NothingDone"]) rfl hc ?_)
  by_cases z:hs.length=0
  ·rw[decide_eq_true z,decide_eq_true (by rw[lV];omega)]
   exact HK
  ·rw[decide_eq_false z,decide_eq_false (by rw[lV];omega)]
   exact HJ
 |comes a b=>
  rw[av (by rw[c9 (bX rfl (by decide))];rfl),av (ρ':=R (some (.val (.str (fc (G8 n a b) (ir (decide ((12:Int)<=(m.ss.length:Int))) "TooManyStreams")))))) (by rw[fV (iu rfl rfl)];exact aZ (bu (n:=3) (a9 rfl (a9 (aj (a:=kO a b) rfl rfl (eQ 1 rfl)) (a9 (aj (a:=kO a b) rfl rfl (eQ 2 rfl)) rfl))) rfl (s9 a b)) rfl),SH,tL]
  rfl
 |goes a=>
  rw[av (by rw[c9 (bX rfl (by decide))];rfl),av (ρ':=R (some (.val (.str (uT m.nu [a]))))) (by rw[c9 (bX rfl (by decide)),fV (iu rfl rfl)];exact aZ (bu (n:=2) (a9 rfl (a9 (d:= .lst [.int a]) (by unfold eB;rw[a9 (aj (a:=qj a) rfl rfl (eQ 1 rfl)) rfl,aq];exact if_pos (show 1<=lim by decide)) rfl)) rfl (jx g (ns:=[a]) (.inl rfl) (by simp))) rfl),SH]
  rfl
 |mcome ns=>
  rw[av (by rw[c9 (bX rfl (by decide))];rfl),av (ρ':=R (some (.val (.str (fc (uT m.nu ns) (fc (ir (ns.any λx=>decide (x∈m.ms)) "AlreadyMetered") (ir (decide ((m.ms.length:Int)+(ns.length:Int)>10)) "TooManyMeters"))))))) (by rw[c9 (bX rfl (by decide)),c9 (bX rfl (by decide)),c9 (bX rfl (by decide))];exact aZ (bu (n:=3) (ds:=[bL n m, .bl true, .tup (ns.map .int)]) (a9 rfl (a9 (aj (aj (a:=pM ns) rfl rfl DQ) rfl (by rw[rW,decide_eq_true rfl])) (a9 (aj (a:=pM ns) rfl rfl (eQ 1 rfl)) rfl))) rfl (lU g true (by have:ns.length<=40:=hf;omega))) rfl),SH,tL,tL]
  rfl
 |mgo ns=>
  rw[av (by rw[c9 (bX rfl (by decide))];rfl),av (ρ':=R (some (.val (.str (fc (uT m.nu ns) (Gw m.ms ns)))))) (by rw[c9 (bX rfl (by decide)),c9 (bX rfl (by decide)),c9 (bX rfl (by decide))];exact aZ (bu (n:=3) (ds:=[bL n m, .bl false, .tup (ns.map .int)]) (a9 rfl (a9 (aj (aj (a:=wg ns) rfl rfl DQ) rfl (by rw[rW,decide_eq_false (by decide)])) (a9 (aj (a:=wg ns) rfl rfl (eQ 1 rfl)) rfl))) rfl (lU g false (by have:ns.length<=40:=hf;omega))) rfl),SH,tL]
  rfl
 |pass ri rd=>
  rw[av (by rw[c9 (bX rfl (by decide))];rfl),av (by rw[c9 (bX rfl (by decide)),c9 (bX rfl (by decide)),fV (iu rfl rfl)];exact aZ (bu (n:=3) (a9 rfl (a9 (aj (a:=dF ri rd) rfl rfl (eQ 1 rfl)) (a9 (aj (a:=dF ri rd) rfl rfl (eQ 2 rfl)) rfl))) rfl (wm g hf.1 hf.2)) rfl)]
  refine SH.trans ?_
  simp only[tL]
  rfl
theorem wo (g:m.Ok) (d:b9) (hf:d.Fit) (hd:m.dd.length<=100) (hp:∀ri rd,d= .pass ri rd->(rd.map (·.1)).Nodup) (hb:d≠ .back):dP [bL n m,d.dt]= .ok (bL n (d.next m)):=by
 let R (a b c e f:D):ah:=[some (.val (bL n m)),some (.val d.dt),some (.val (.int n)),some (.val a),some (.val b),some (.val c),some (.val e),some (.val f)]
 let S:=D.tup (m.ss.map c_);let Q:=D.tup (m.mm.map .int);let Y:=D.tup (m.ds.map (qC n));let Z:=D.tup (m.dd++[d.dt])
 have a1X:m.mm.length<=10:=by rw[g.per.length_eq];exact g.ten
 refine bE rfl ?_
 show kD [some (.val (bL n m)),some (.val d.dt),none,none,none,none,none,none]=_
 unfold kD
 rw[av (ρ':=R (.int (m.c+1)) S Q Y (.tup m.dd)) rfl,av (ρ':=R (.int (m.c+1)) S Q Y Z) (aZ (aj (a:= .tup m.dd) (b:= .tup [d.dt]) rfl rfl (ii (by simp;omega))) rfl)]
 have SH:∀{a b c e f:D},bB (bA (a8 (au 2) (a8 (au 3) (a8 (au 4) (a8 (au 5) (a8 (au 6) (a8 (au 7) (ag)))))))) (R a b c e f)= .ok (.ret (.tup [.int n,a,b,c,e,f])):=λ{a b c e f}=>dz (bM (ds:=[.int n,a,b,c,e,f]) rfl (show 6<=lim by decide))
 cases d with
 |back=>exact absurd rfl hb
 |comes a b=>
  rw[av (ρ':=R (.int (m.c+1+1)) (.tup (m.ss.map c_++[c_ (m.c+1,a,b)])) Q Y Z) (by
   rw[fV (iu rfl rfl),av (ρ':=R (.int (m.c+1)) (.tup (m.ss.map c_++[c_ (m.c+1,a,b)])) Q Y Z) (aZ (aj (a:=S) (b:= .tup [c_ (m.c+1,a,b)]) rfl (bM (ds:=[c_ (m.c+1,a,b)]) (a9 (bM (ds:=[.int (m.c+1), .int a, .int b]) (a9 rfl (a9 (aj (a:=kO a b) rfl rfl (eQ 1 rfl)) (a9 (aj (a:=kO a b) rfl rfl (eQ 2 rfl)) rfl))) (show 3<=lim by decide)) rfl) (show 1<=lim by decide)) (ii (by have:=g.len;simp;omega))) rfl)]
   rfl),SH]
  simp only[bL,b9.next,Mo.comes,Kn,J_,Lh]
  rfl
 |goes a=>
  have h1:∀{b c:D},f2 b6 (ac 2) (fC (.int 1)) [none,some (.val b),some (.val (qj a))]= .ok (.int a):=λ{b c}=>aj (a:=qj a) rfl rfl (eQ 1 rfl)
  rw[av (ρ':=R (.int (m.c+1)) (.tup ((m.ss.filter λr=>decide (r.1≠a)).map c_)) (.tup ((m.mm.filter λx=>decide (x≠a)).map .int)) Y Z) (by
   rw[c9 (bX rfl (by decide)),fV (iu rfl rfl),av (ρ':=R (.int (m.c+1)) (.tup ((m.ss.filter λr=>decide (r.1≠a)).map c_)) Q Y Z) (aZ (aU (a9 (l5 (gu (ds:=m.ss.map c_) rfl (by have:=g.len;rw[JR];unfold lim;omega) (τ:=[none,none,some (.val (qj a))]) rfl (kW (p:=λr:yK=>decide (r.1≠a)) (out:=c_) m.ss none (λr _=>bG (aj (aj rfl rfl oI) (h1 (c:= .non)) uO)) (λr _ _=>rfl)))) rfl) rfl) rfl)]
   exact aZ (aU (a9 (l5 (gu (ds:=m.mm.map .int) rfl (by rw[JR];unfold lim;omega) (τ:=[none,none,some (.val (qj a))]) rfl (kW (p:=λr:Int=>decide (r≠a)) (out:= .int) m.mm none (λr _=>bG (aj (a:= .int r) rfl (h1 (c:= .non)) uO)) (λr _ _=>rfl)))) rfl) rfl) rfl),SH]
  rfl
 |mcome ns=>
  have hn:ns.length<=40:=hf
  rw[av (ρ':=R (.int (m.c+1)) S (.tup ((cS (m.mm++ns)).map .int)) Y Z) (by
   rw[c9 (bX rfl (by decide)),c9 (bX rfl (by decide)),fV (iu rfl rfl)]
   refine aZ (aU (a9 (aU (a9 (aj (a:=Q) (b:= .tup (ns.map .int)) rfl (aj (a:=pM ns) rfl rfl (eQ 1 rfl)) (ii (by simp;omega))) rfl) (d:= .lst ((cS (m.mm++ns)).map .int)) ?_) rfl) rfl) rfl
   rw[<-Kn]
   show ((cQ ((m.mm++ns).map D.int)).bind λns=>if ns.length<64 then some (D.lst ((cS ns).map .int))else none)=_
   rw[kg]
   exact if_pos (by rw[Kv];omega)),SH]
  rfl
 |mgo ns=>
  have h1:∀{b:D},f2 b6 (ac 2) (fC (.int 1)) [none,some (.val b),some (.val (wg ns))]= .ok (.tup (ns.map .int)):=λ{b}=>aj (a:=wg ns) rfl rfl (eQ 1 rfl)
  rw[av (ρ':=R (.int (m.c+1)) S (.tup ((m.mm.filter λx=> !decide (x∈ns)).map .int)) Y Z) (by
   rw[c9 (bX rfl (by decide)),c9 (bX rfl (by decide)),c9 (bX rfl (by decide)),fV (iu rfl rfl)]
   exact aZ (aU (a9 (l5 (gu (ds:=m.mm.map .int) rfl (by rw[JR];unfold lim;omega) (τ:=[none,none,some (.val (wg ns))]) rfl (kW (p:=λr:Int=> !decide (r∈ns)) (out:= .int) m.mm none (λr _=>bG (aj (a:= .int r) rfl h1 o6)) (λr _ _=>rfl)))) rfl) rfl) rfl),SH]
  rfl
 |pass ri rd=>
  have nd:=hp ri rd rfl
  have e3:=uU (f:=j0) (k:=(·.1)) (λa=>rfl) (jU rd) (yN nd) (by have:=(jU rd).length_eq;have:=hf.2;omega) (.inr rfl)
  rw[av (ρ':=R (.int (m.c+1)) S Q (.tup (m.ds.map (qC n)++[qC n ⟨m.ss,ri,wA rd⟩])) Z) (by
   rw[c9 (bX rfl (by decide)),c9 (bX rfl (by decide)),c9 (bX rfl (by decide)),c9 (bX rfl (by decide))]
   exact aZ (aj (a:=Y) (b:= .tup [qC n ⟨m.ss,ri,wA rd⟩]) rfl (bM (ds:=[qC n ⟨m.ss,ri,wA rd⟩]) (a9 (bM (ds:=[.int n,S, .tup (ri.map .int), .tup ((wA rd).map j0)]) (a9 rfl (a9 rfl (a9 (aj (a:=dF ri rd) rfl rfl (eQ 1 rfl)) (a9 (aU (a9 (aU (a9 (aj (a:=dF ri rd) rfl rfl (eQ 2 rfl)) rfl) e3) rfl) rfl) rfl)))) (show 4<=lim by decide)) rfl) (show 1<=lim by decide)) (ii (by have:=g.dl;simp;omega))) rfl),SH]
  simp only[bL,b9.next,Mo.passes,Kn,J_,Lh]
  rfl
def b9.ans (m:Mo):b9->L2.Pu.D
 | .comes _ _=> .int (m.c+1)
 | .pass _ _=> .int ((m.ds.length:Int)+1)
 |_=> .non
theorem wq (d:b9):eZ [bL n m,d.dt]= .ok (d.ans m):=by
 refine bE rfl ?_
 show kF [some (.val (bL n m)),some (.val d.dt)]=_
 unfold kF
 have no:∀{s:JN} {l:List D},d.dt= .tup (.str s::l)->s≠"stream comes"->s≠"day passes"->d.ans m= .non->aw (cK (fT (f2 eG (f2 b6 (ac 1) (fC (.int 0))) (fC (.str "stream comes")))) (bB (f2 b6 (ac 0) (fC (.int 1)))) (aI)) (aw (cK (fT (f2 eG (f2 b6 (ac 1) (fC (.int 0))) (fC (.str "day passes")))) (bB (f2 br (ck cp (a8 (f2 b6 (ac 0) (fC (.int 4))) (ag))) (fC (.int 1)))) (aI)) (bB (fC .non))) [some (.val (bL n m)),some (.val d.dt)]= .ok (.ret (d.ans m)):=λ{s l} h1 h2 h3 h4=>by
  rw[h1,h4,av (by rw[c9 (bX rfl h2)];rfl),av (by rw[c9 (bX rfl h3)];rfl)];rfl
 cases d with
 |comes a b=>exact m7 (by rw[fV (iu rfl rfl)];exact dz (aj (a:=bL n m) rfl rfl JI))
 |pass ri rd=>
  rw[av (by rw[c9 (bX rfl (by decide))];rfl)]
  exact m7 (by rw[fV (iu rfl rfl)];exact dz (aj (aU (a9 (aj (a:=bL n m) rfl rfl HP) rfl) gM) rfl (by rw[cB,JR];rfl)))
 |goes a=>exact no rfl (by decide) (by decide) rfl
 |mcome ns=>exact no rfl (by decide) (by decide) rfl
 |mgo ns=>exact no rfl (by decide) (by decide) rfl
 |back=>exact no rfl (by decide) (by decide) rfl
end
def WL:List JN:=["UnknownPlace","SamePlace","WrongRises","UnknownStream","Twice","AlreadyMetered","NotMetered","ReadingMissing","OutOfRange","TooManyStreams","TooManyMeters","TooManyDays","TooManyDeeds","NothingDone"]
def KL:List JN:=WL++(["BadTanks","UnknownDay","Clashing"]:List JN)
def Ge (w:JN):Prop:=w=""\/w∈WL
theorem eR {a b:JN} (h:Ge a) (h2:Ge b):Ge (fc a b):=by unfold fc;split<;>assumption
theorem fz {b:Bool} {x:JN} (h:x∈WL:=by decide+kernel):Ge (ir b x):=by cases b;exact .inl rfl;exact .inr h
theorem bF {a b:JN} (h:fc a b=""):a=""/\b="":=by
 unfold fc at h
 split at h
 ·exact⟨by assumption,h⟩
 ·exact absurd h (by assumption)
theorem jg {b:Bool} {x:JN} (h:ir b x="") (hx:x≠"":=by decide):b=false:=by
 cases b
 ·rfl
 ·exact absurd h hx
section
variable {n:Int} {m:Mo} {hs:List D}
theorem b9.inW (d:b9):Ge (d.W n m hs):=by
 have nm:∀{a b:List Int},Ge (uT a b):=eR fz fz
 have lt:Ge (mK hs):=fz
 cases d with
 |comes a b=>exact eR (eR fz fz) (eR fz lt)
 |goes a=>exact eR nm lt
 |mcome ns=>exact eR nm (eR fz (eR fz lt))
 |mgo ns=>exact eR nm (eR fz lt)
 |pass ri rd=>exact eR fz (eR nm (eR fz (eR fz (eR fz (eR fz (eR fz lt))))))
 |back=>exact fz
theorem lW (h:mK hs=""):hs.length<60:=by
 have:=of_decide_eq_false (jg h)
 omega
theorem b9.lt60 (d:b9) (hb:d≠ .back) (h:d.W n m hs=""):hs.length<60:=by
 cases d with
 |comes a b=>exact lW (bF (bF h).2).2
 |goes a=>exact lW (bF h).2
 |mcome ns=>exact lW (bF (bF (bF h).2).2).2
 |mgo ns=>exact lW (bF (bF h).2).2
 |pass ri rd=>exact lW (bF (bF (bF (bF (bF (bF (bF h).2).2).2).2).2).2).2
 |back=>exact absurd rfl hb
theorem b9.nodup (ri:List Int) (rd:List Rd) (h:(b9.pass ri rd).W n m hs=""):(rd.map (·.1)).Nodup:=(xL (bF (bF h).2).1).1
theorem b9.ok (d:b9) (g:m.Ok) (h:d.W n m hs=""):(d.next m).Ok:=by
 cases d with
 |back=>exact g
 |comes a b=>
  have a2w:m.ss.length<12:=by
   have:=of_decide_eq_false (jg (bF (bF h).2).1)
   omega
  exact⟨List.pairwise_append.mpr ⟨g.inc,by simp,λr hr r' Wl=>by rw[K7.mp Wl];have:=g.le r hr;show r.1<m.c+1;omega⟩,λr hr=>by
    show r.1<=m.c+1
    rcases KH.mp hr with hr|hr
    ·have:=g.le r hr;omega
    ·rw[K7.mp hr];exact Int.le_refl _,by show (m.ss++_).length<=12;rw[Kv,LS];omega,g.per,g.nd,λx hx=>by
    show x∈(m.ss++_).map (·.1)
    rw[Kn];exact L4 _ (g.sub x hx),g.ten,g.dl⟩
 |goes a=>
  exact⟨g.inc.filter _,λr hr=>g.le r (LQ.mp hr).1,Ky (Mq _ _) g.len,g.per.filter _,g.nd.filter _,λx hx=>by
    obtain⟨h1,h2⟩:=LQ.mp hx
    obtain⟨r,hr,rfl⟩:=Lp.mp (g.sub x h1)
    exact Lp.mpr ⟨r,LQ.mpr ⟨hr,h2⟩,rfl⟩,Ky (Mq _ _) g.ten,g.dl⟩
 |mcome ns=>
  obtain⟨w1,w2⟩:=bF h
  obtain⟨w3,w4⟩:=bF w2
  obtain⟨nd,sb⟩:=xL w1
  have dj:=jg w3
  have tn:=of_decide_eq_false (jg (bF w4).1)
  exact⟨g.inc,g.le,g.len,(iF _).trans (g.per.append_right ns),Mi.mpr ⟨g.nd,nd,λx hx y hy e=>by
    subst e
    exact absurd (KZ.mpr ⟨x,hy,decide_eq_true hx⟩) (by rw[dj];simp)⟩,λx hx=>by
    rcases KH.mp hx with hx|hx
    ·exact g.sub x hx
    ·exact sb x hx,by show (m.ms++ns).length<=10;rw[Kv];omega,g.dl⟩
 |mgo ns=>exact⟨g.inc,g.le,g.len,g.per.filter _,g.nd.filter _,λx hx=>g.sub x (LQ.mp hx).1,Ky (Mq _ _) g.ten,g.dl⟩
 |pass ri rd=>
  have hd:=of_decide_eq_false (jg (bF (bF (bF (bF (bF (bF (bF h).2).2).2).2).2).2).1)
  exact⟨g.inc,g.le,g.len,g.per,g.nd,g.sub,g.ten,by show (m.ds++_).length<=12;rw[Kv,LS];omega⟩
theorem b9.dd (d:b9) (hb:d≠ .back):(d.next m).dd=m.dd++[d.dt]:=by
 cases d with
 |back=>exact absurd rfl hb
 |_=>rfl
theorem yT {fx:ah->R (D×ah)} {ρ ρ':ah} {d:D} (h:fx ρ= .ok (d,ρ')):iK fx ρ= .ok (.retc d ρ'):=by unfold iK;rw[h,aq]
theorem wt {fx:ah->R (D×ah)} {ρ ρ':ah} {x:JN} (h:fx ρ= .err x ρ'):iK fx ρ= .err x ρ':=by unfold iK;rw[h];rfl
theorem jW {mt:JN} {mf:List Slot->List D->R (D×List Slot)} {k:Nat} {fs:ah->R (List D)} {rest:ah} {ds:List D} {now Tg a:D} {Ru:List D} {w:JN} (h:fs (some (aD n now hs)::rest)= .ok ds) (hl:ds.length=k) (d:mJ (mf [aD n now hs] ds) (aD n now hs) w a (aD n Tg Ru)) (hm:mt≠"history":=by decide) (h2:(kL n now).lookup mt=none:=by rfl):
  oK (iK (ko 0 "Cellar" mt (dJ [0] mf k fs))) (some (aD n now hs)::rest) w (.ok (.retc a (some (aD n Tg Ru)::rest))):=by
 refine⟨λz=> ?_,λz=>yT (by rw[uN (n:=n) (now:=now) (hs:=hs) rfl hm h2];exact xD (n:=n) (now:=now) (hs:=hs) rfl h hl (d.2 z))⟩
 obtain⟨ρe,e,t⟩:=d.1 z
 exact⟨_,wt (by rw[uN (n:=n) (now:=now) (hs:=hs) rfl hm h2];exact uM (n:=n) (now:=now) (hs:=hs) rfl h hl e t rfl),rfl⟩
theorem wu {t:ah->R Bool} {g g':ah->R bn} {ρ ρ':ah} {w:JN} {a:D} (h:t ρ= .ok true) (h2:oK g ρ w (.ok (.retc a ρ'))):oK (aw (cK t g aI) g') ρ w (.ok (.retc a ρ')):=
 ⟨λz=>by obtain⟨ρe,e,k⟩:=h2.1 z;exact⟨ρe,kM (by rw[fV h];exact e),k⟩,λz=>oE (by rw[fV h];exact h2.2 z)⟩
theorem i_ {t:ah->R Bool} {g g':ah->R bn} {ρ:ah} {w:JN} {r:R bn} (h:t ρ= .ok false) (h2:oK g' ρ w r):oK (aw (cK t g aI) g') ρ w r:=by
 have:aw (cK t g aI) g' ρ=g' ρ:=av (by rw[c9 h];rfl)
 unfold oK
 rw[this];exact h2
theorem yU (g:m.Ok) (d:b9) (hb:d≠ .back) (hf:d.Fit):mJ (eL [aD n (bJ n m) hs] [d.dt]) (aD n (bJ n m) hs) (d.W n m hs) (d.ans m) (aD n (bJ n (d.next m)) (hs++[.tup [d.dt,bJ n m]])):=by
 refine mn rfl (ρ':=[some (aD n (bJ n (d.next m)) (hs++[.tup [d.dt,bJ n m]])),some (.val d.dt)]) ?_ rfl
 show oK lJ [some (aD n (bJ n m) hs),some (.val d.dt)] _ _
 unfold lJ
 cases d with
 |back=>exact absurd rfl hb
 |comes a b=>exact wu (iu rfl rfl) (jW (a9 (aj (a:=kO a b) rfl rfl (eQ 1 rfl)) (a9 (aj (a:=kO a b) rfl rfl (eQ 2 rfl)) rfl)) rfl (xI g a b))
 |goes a=>exact i_ (bX rfl (by decide)) (wu (iu rfl rfl) (jW (a9 (aj (a:=qj a) rfl rfl (eQ 1 rfl)) rfl) rfl (Aj g a)))
 |mcome ns=>exact i_ (bX rfl (by decide)) (i_ (bX rfl (by decide)) (wu (iu rfl rfl) (jW (a9 (aU (a9 (aj (a:=pM ns) rfl rfl (eQ 1 rfl)) rfl) rfl) rfl) rfl (xJ g (.inl rfl) (by have:ns.length<=40:=hf;omega)))))
 |mgo ns=>exact i_ (bX rfl (by decide)) (i_ (bX rfl (by decide)) (i_ (bX rfl (by decide)) (wu (iu rfl rfl) (jW (a9 (aU (a9 (aj (a:=wg ns) rfl rfl (eQ 1 rfl)) rfl) rfl) rfl) rfl (Cj g (.inl rfl) (by have:ns.length<=40:=hf;omega))))))
 |pass ri rd=>exact i_ (bX rfl (by decide)) (i_ (bX rfl (by decide)) (i_ (bX rfl (by decide)) (i_ (bX rfl (by decide)) (wu (iu rfl rfl) (jW (a9 (aU (a9 (aj (a:=dF ri rd) rfl rfl (eQ 1 rfl)) rfl) rfl) (a9 (aU (a9 (aj (a:=dF ri rd) rfl rfl (eQ 2 rfl)) rfl) rfl) rfl)) rfl (Al g (.inl rfl) (.inl rfl) hf.1 hf.2))))))
theorem yV {now a Tg:D} {Ru:List D} {w:JN} (h:mJ (c7 [aD n now hs] []) (aD n now hs) w a (aD n Tg Ru)):mJ (eL [aD n now hs] [b9.back.dt]) (aD n now hs) w a (aD n Tg Ru):=by
 refine mn rfl (ρ':=[some (aD n Tg Ru),some (.val b9.back.dt)]) ?_ rfl
 show oK lJ [some (aD n now hs),some (.val b9.back.dt)] _ _
 unfold lJ
 exact i_ (bX rfl (by decide)) (i_ (bX rfl (by decide)) (i_ (bX rfl (by decide)) (i_ (bX rfl (by decide)) (i_ (bX rfl (by decide)) (jW rfl rfl h)))))
theorem DU {f:ah->R D} {fx:ah->R (D×ah)} {ρ ρ':ah} {d e:D} (h:f ρ= .ok d) (h2:fx ρ= .ok (e,ρ')):lC f fx ρ= .ok (.lst [d,e],ρ'):=by unfold lC;rw[h,aq,h2,aq]
theorem Cq {f:ah->R D} {fx:ah->R (D×ah)} {ρ ρ':ah} {d:D} {x:JN} (h:f ρ= .ok d) (h2:fx ρ= .err x ρ'):lC f fx ρ= .err x ρ':=by unfold lC;rw[h,aq,h2];rfl
theorem yW {now a d Tg:D} {Ru:List D} {w:JN} (h:mJ (eL [aD n now hs] [d]) (aD n now hs) w a (aD n Tg Ru)) (hw:w=""):eM [aD n now hs] [d]= .ok (.lst [.str "",a],[aD n Tg Ru]):=by
 refine gg ⟨rfl,rfl⟩ (ρ:=[some (aD n Tg Ru),some (.val d),some (.own (.lst [])),none,none,none]) ?_ rfl
 show iR [some (aD n now hs),some (.val d),none,none,none,none]=_
 unfold iR
 rw[av (ρ':=[some (aD n now hs),some (.val d),some (.own (.lst [])),none,none,none]) rfl]
 refine oE ?_
 unfold zU
 rw[yT (ρ':=[some (aD n Tg Ru),some (.val d),some (.own (.lst [])),none,none,none]) (DU (d:= .str "") (e:=a) rfl (xD (k:=1) (n:=n) (now:=now) (hs:=hs) rfl (a9 rfl rfl) rfl (h.2 hw)))]
theorem wv {now a d Tg:D} {Ru:List D} {w:JN} (h:mJ (eL [aD n now hs] [d]) (aD n now hs) w a (aD n Tg Ru)) (hw:w∈WL):eM [aD n now hs] [d]= .ok (.lst [.str w, .non],[aD n now hs]):=by
 have nw:w≠"":=λz=>by rw[z]at hw;exact absurd hw (by decide+kernel)
 obtain⟨ρe,e,t⟩:=h.1 nw
 let ρ1:ah:=[some (aD n now hs),some (.val d),some (.own (.lst [])),none,none,none]
 have h1:iK (lC (fC (.str "")) (dJ [0] eL 1 (a8 (au 1) (ag)))) ρ1= .err w ρ1:=wt (Cq rfl (uM (n:=n) (now:=now) (hs:=hs) rfl (a9 rfl rfl) rfl e t rfl))
 have hT:∀{i:Nat} {sub:JN->Bool} {hd rest:ah->R bn},aw (zU i sub (iK (lC (fC (.str "")) (dJ [0] eL 1 (a8 (au 1) (ag))))) hd) rest ρ1=aw (λ_=>vG i sub hd w ρ1) rest ρ1:=by
  intro i sub hd rest
  unfold aw zU
  rw[h1]
 have go:iR [some (aD n now hs),some (.val d),none,none,none,none]= .ok (.retc (.lst [.str w, .non]) [some (aD n now hs),some (.val d),some (.val (.lst ((KL.map λx=> .bl (decide (w=x)))++[.bl false]))),none,some (.val (.lst ((KL++(["another"]:List JN)).map .str))),some (.val (.str w))]):=by
  unfold iR
  rw[av (ρ':=ρ1) rfl,hT]
  unfold WL at hw
  simp only[K1,KN,or_false]at hw
  rcases hw with rfl|rfl|rfl|rfl|rfl|rfl|rfl|rfl|rfl|rfl|rfl|rfl|rfl|rfl<;>kernel_rfl
 exact gg ⟨rfl,rfl⟩ go rfl
end
structure Mo.Rg (n:Int) (m:Mo):Prop where
 row:∀r∈m.ss,(0<=r.2.1/\r.2.1<=n)/\(0<=r.2.2/\r.2.2<=n)/\r.2.1≠r.2.2
 day:∀d∈m.ds,d.ss.length<=12/\d.ri.length<=100/\d.rd.length<=60
theorem b9.rg {n:Int} {m:Mo} {hs:List D} (d:b9) (hf:d.Fit) (k:m.Ok) (g:m.Rg n) (h:d.W n m hs=""):(d.next m).Rg n:=by
 cases d with
 |back=>exact g
 |comes a b=>
  obtain⟨w1,w2⟩:=bF (bF h).1
  have ho:=jg w1
  have TC:=of_decide_eq_false (jg w2)
  have Y9:∀x∈[a,b],0<=x/\x<=n:=λx hx=>by
   have:xG n x=false:=by
    cases q:xG n x with
    |false=>rfl
    |true=>rw[KZ.mpr ⟨x,hx,q⟩]at ho;cases ho
   unfold xG at this
   simp only[Bool.or_eq_false_iff,decide_eq_false_iff_not]at this
   omega
  refine⟨λr hr=> ?_,g.day⟩
  rcases KH.mp hr with hr|hr
  ·exact g.row r hr
  ·rw[K7.mp hr];exact⟨Y9 a (by simp),Y9 b (by simp),TC⟩
 |goes a=>exact⟨λr hr=>g.row r (LQ.mp hr).1,g.day⟩
 |mcome ns=>exact⟨g.row,g.day⟩
 |mgo ns=>exact⟨g.row,g.day⟩
 |pass ri rd=>
  refine⟨g.row,λd hd=> ?_⟩
  rcases KH.mp hd with hd|hd
  ·exact g.day d hd
  ·rw[K7.mp hd];exact⟨k.len,hf.1,by rw[<-(jU rd).length_eq];exact hf.2⟩
inductive Tr (n:Int):List Mo->Mo->List D->Prop
 |nil {m:Mo}:m.Ok->m.Rg n->m.dd=[]->Tr n [] m []
 |snoc {tr:List Mo} {m:Mo} {hs:List D} {m':Mo} {d:D}:Tr n tr m hs->m'.Ok->m'.Rg n->m'.dd=m.dd++[d]->hs.length<60->Wf 3 d->Tr n (tr++[m]) m' (hs++[.tup [d,bJ n m]])
section
variable {n:Int} {tr:List Mo} {m:Mo} {hs:List D}
theorem Tr.ok (t:Tr n tr m hs):m.Ok:=by cases t<;>assumption
theorem Tr.rg (t:Tr n tr m hs):m.Rg n:=by cases t<;>assumption
theorem Tr.len (t:Tr n tr m hs):hs.length=tr.length:=by
 induction t with
 |nil _ _ _=>rfl
 |snoc _ _ _ _ _ _ ih=>simp[ih]
theorem Tr.le (t:Tr n tr m hs):hs.length<=60:=by
 cases t with
 |nil _ _ _=>simp
 |snoc _ _ _ _ h _=>rw[Kv,LS];omega
theorem Tr.prs (t:Tr n tr m hs):∃l:List (D×D),hs=l.map (λp=> .tup [p.1,p.2])/\l.map (·.1)=m.dd/\∀d∈m.dd,Wf 3 d:=by
 induction t with
 |nil _ _ h=>exact⟨[],rfl,h.symm,λd hd=>by rw[h]at hd;cases hd⟩
 | @snoc tr m hs m' d _ _ _ h _ hw ih=>
  obtain⟨l,h1,h2,h3⟩:=ih
  refine⟨l++[(d,bJ n m)],by rw[h1];simp,by rw[h,<-h2];simp,λe he=> ?_⟩
  rw[h]at he
  rcases KH.mp he with he|he
  ·exact h3 e he
  ·rw[K7.mp he];exact hw
theorem Tr.dl (t:Tr n tr m hs):m.dd.length<=60:=by
 obtain⟨l,h1,h2,_⟩:=t.prs
 have:=t.le
 rw[<-h2,JR]
 rw[h1,JR]at this
 exact this
theorem xO (t:Tr n tr m hs):dA [.ins "Cellar" (i0 n (bJ n m) hs)]= .ok (.tup m.dd):=by
 obtain⟨l,h1,h2,_⟩:=t.prs
 have hl:=t.le
 rw[h1,JR]at hl
 refine bE rfl (dz (aU (a9 (d:= .lst m.dd) (l5 ?_) rfl) rfl))
 rw[<-h2]
 exact jV (enc:=λp:D×D=> .tup [p.1,p.2]) (l:=l) (out:=(·.1)) (by unfold cG;rw[fw (fds:=i0 n (bJ n m) hs) (d:= .lst hs) rfl rfl,h1];rfl) (by omega) (rest:=[]) rfl λp _=>aj (a:= .tup [p.1,p.2]) rfl rfl DQ
theorem Gf (r:yK):Wf 1 (c_ r):= .tup (by simp) λd hd=>by
 simp only[K1,KN,or_false]at hd
 rcases hd with rfl|rfl|rfl<;>exact .int 0 _
theorem Es (r:Rd):Wf 1 (j0 r):= .tup (by simp) λd hd=>by
 simp only[K1,KN,or_false]at hd
 rcases hd with rfl|rfl<;>exact .int 0 _
theorem b9.wf (d:b9) (hf:d.Fit):Wf 3 d.dt:=by
 have i1:∀{ns:List Int},ns.length<=100->Wf 2 (.tup (ns.map .int)):=λ{ns} h=>(yJ ns (by omega)).up 1
 cases d with
 |back=>exact .tup (by simp) λd hd=>by rw[K7.mp hd];exact .str _ _
 |comes a b=>
  refine .tup (by simp) λd hd=> ?_
  simp only[K1,KN,or_false]at hd
  rcases hd with rfl|rfl|rfl
  ·exact .str _ _
  ·exact .int _ _
  ·exact .int _ _
 |goes a=>
  refine .tup (by simp) λd hd=> ?_
  simp only[K1,KN,or_false]at hd
  rcases hd with rfl|rfl
  ·exact .str _ _
  ·exact .int _ _
 |mcome ns=>
  refine .tup (by simp) λd hd=> ?_
  simp only[K1,KN,or_false]at hd
  rcases hd with rfl|rfl
  ·exact .str _ _
  ·exact i1 (Ky (show ns.length<=40 from hf) (by decide))
 |mgo ns=>
  refine .tup (by simp) λd hd=> ?_
  simp only[K1,KN,or_false]at hd
  rcases hd with rfl|rfl
  ·exact .str _ _
  ·exact i1 (Ky (show ns.length<=40 from hf) (by decide))
 |pass ri rd=>
  refine .tup (by simp) λd hd=> ?_
  simp only[K1,KN,or_false]at hd
  rcases hd with rfl|rfl|rfl
  ·exact .str _ _
  ·exact i1 hf.1
  ·exact uL (by have:=hf.2;omega) λa _=>Es a
theorem b9.wfa (d:b9):Wf 0 (d.ans m):=by cases d<;>first|exact .int _ _|exact .non _
abbrev pO (n:Int) (tr:List Mo) (m:Mo):Slot:= .own (.lst (cU n tr m))
theorem DV {i:Nat} {fx:ah->R (D×ah)} {ρ ρ':ah} {d:D} (h:fx ρ= .ok (d,ρ')):yB i fx ρ= .ok (.nx (ρ'.set i (some (.val d)))):=by unfold yB;rw[h,aq]
theorem J3 {mf:List Slot->List D->R (D×List Slot)} {k:Nat} {fs:ah->R (List D)} {rest:ah} {ds:List D} {now d:D} {s':Slot} (h2:fs (some (aD n now hs)::rest)= .ok ds) (hl:ds.length=k) (e:mf [aD n now hs] ds= .ok (d,[s'])) (hk:s'.kind=(aD n now hs).kind):dJ [0] mf k fs (some (aD n now hs)::rest)= .ok (d,some s'::rest):=by
 unfold dJ
 rw[show eX (some (aD n now hs)::rest) [0]=some [aD n now hs]from rfl]
 dsimp only
 rw[if_pos ⟨rfl,by simp⟩,h2,aq,if_pos hl,e]
 dsimp only
 rw[if_pos (show Oy Slot.kind [s']=Oy Slot.kind [aD n now hs] by simp only[J_,Lh,hk])]
 rfl
theorem Ao (t:Tr n tr m hs) (d:b9) (hf:d.Fit):∃SJ m' Ru,Tr n SJ m' Ru/\cM [aD n (bJ n m) hs,pO n tr m] [d.dt]= .ok (.bl true,[aD n (bJ n m') Ru,pO n SJ m'])/\(d= .back->SJ.length=tr.length - 1):=by
 have g:=t.ok
 let w:=d.W n m hs
 have Zz:=uW g t.len d hf (n:=n)
 let Z (s p:Slot) (x y z:Option Slot):ah:=[some s,some p,some (.val d.dt),x,y,z]
 let s:=aD n (bJ n m) hs
 let p:=pO n tr m
 let M:Option Slot:=some (.val (bL n m))
 let W:Option Slot:=some (.val (.str w))
 have e1:aX (f2 b6 (ac 1) (f1 jm (fC (.int 1)))) (gN 3) (Z s p none none none)= .ok (.nx (Z s p M none none)):=aZ (aj (a:= .lst (cU n tr m)) (b:= .int (-1)) rfl rfl iD) rfl
 have e2:aX (yy [1] (aL eo 2 (a8 (au 1) (a8 (au 2) (ag))))) (gN 4) (Z s p M none none)= .ok (.nx (Z s p M W none)):=by
  refine aZ (d:= .str w) ?_ rfl
  unfold yy
  rw[show frz [1] (Z s p M none none)=Z s (.val (.lst (cU n tr m))) M none none from rfl,bu (n:=2) (a9 rfl (a9 rfl rfl)) rfl Zz,aq]
  rfl
 have dB:∀{r:R (D×List Slot)},iy 2 1 4 fS [s,p] [d.dt]=r->cM [s,p] [d.dt]=r:=λh=>h
 have Xq:∀{v s':_} (hm:eM [s] [d.dt]= .ok (v,[s'])) (hk:s'.kind=s.kind),fS (Z s p none none none)=aw (cK (oZ (fT (f2 rB (ac 4) (fC (.str "")))) (fT (f2 rB (f2 b6 (ac 5) (fC (.int 0))) (fC (.str ""))))) (ij (f2 eG (ac 4) (f2 b6 (ac 5) (fC (.int 0))))) (aI)) (aw (cK (fT (f2 eG (f2 b6 (ac 2) (fC (.int 0))) (fC (.str "take back")))) (aw (yG 1) (ij (aL bg 2 (a8 (f2 b6 (ac 5) (fC (.int 1))) (a8 (f2 b6 (f2 b6 (ac 3) (fC (.int 5))) (f1 jm (fC (.int 1)))) (ag)))))) (aI)) (aw (rz 1 (aL dP 2 (a8 (au 3) (a8 (au 2) (ag))))) (ij (aL bg 2 (a8 (f2 b6 (ac 5) (fC (.int 1))) (a8 (aL eZ 2 (a8 (au 3) (a8 (au 2) (ag)))) (ag))))))) (Z s' p M W (some (.val v))):=λ{v s'} hm hk=>by
  unfold fS
  rw[av e1,av e2,av (DV (J3 (n:=n) (hs:=hs) (now:=bJ n m) (k:=1) (a9 rfl rfl) rfl hm hk))]
  rfl
 have t4:∀{s':Slot} {v:D},fT (f2 rB (ac 4) (fC (.str ""))) (Z s' p M W (some (.val v)))= .ok (!decide (w="")):=λ{s' v}=>bG (aj (a:= .str w) (b:= .str "") rfl rfl yQ)
 have t5:∀{s':Slot} {a:D},fT (f2 rB (f2 b6 (ac 5) (fC (.int 0))) (fC (.str ""))) (Z s' p M W (some (.val (.lst [.str "",a]))))= .ok false:=λ{s' a}=>bG (aj (aj (a:= .lst [.str "",a]) rfl rfl HJ) rfl yQ)
 by_cases hw:w=""
 ·by_cases hb:d= .back
  ·subst hb
   have Ys:hs.length≠0:=of_decide_eq_false (jg hw)
   cases t with
   |nil _ _ _=>exact absurd rfl Ys
   | @snoc tr0 m0 VE _ e t0 _ _ Zx _ a1Y=>
    have ZA:mJ (eL [aD n (bJ n m) (VE++[.tup [e,bJ n m0]])] [b9.back.dt]) (aD n (bJ n m) (VE++[.tup [e,bJ n m0]])) "" e (aD n (bJ n m0) VE):=yV ⟨λz=>absurd rfl z,λ_=>An⟩
    have Ve:=yW ZA rfl
    refine⟨tr0,m0,VE,t0,dB (gg ⟨rfl,rfl⟩ (ρ:=Z (aD n (bJ n m0) VE) (pO n tr0 m0) M W (some (.val (.lst [.str "",e])))) ?_ rfl),λ_=>by simp⟩
    show fS (Z s p none none none)=_
    rw[Xq Ve rfl,av (by rw[c9 (by unfold oZ;rw[t4,decide_eq_true hw];exact t5 (s':=aD n (bJ n m0) VE) (a:=e))];rfl)]
    refine oE ?_
    rw[fV (iu rfl rfl),av (ρ':=Z (aD n (bJ n m0) VE) (pO n tr0 m0) M W (some (.val (.lst [.str "",e])))) (by
     show (match (cU n (tr0++[m0]) m)[(cU n (tr0++[m0]) m).length - 1]? with|some _=>R.ok (bn.nx ((Z (aD n (bJ n m0) VE) (pO n (tr0++[m0]) m) M W (some (.val (.lst [.str "",e])))).set 1 (some (.own (.lst (cU n (tr0++[m0]) m).dropLast)))))|none=> .bad)=_
     unfold cU
     rw[Kn,J_,Lh,Pl,show (Oy (bL n) (tr0++[m0])++[bL n m])[(Oy (bL n) (tr0++[m0])++[bL n m]).length - 1]? =some (bL n m) by simp]
     rfl)]
    refine oH (bu (n:=2) (a9 (aj (a:= .lst [.str "",e]) rfl rfl HK) (a9 (aj (b:= .int (-1)) (aj (a:=bL n m) rfl rfl Jp) rfl (by rw[sY,Zx];exact v9 _ _)) rfl)) rfl (iY (by decide) a1Y))
  ·
   have ZA:=yU g d hb hf (n:=n) (hs:=hs)
   have Ve:=yW ZA hw
   have YZ:∀ri rd,d= .pass ri rd->(rd.map (·.1)).Nodup:=λri rd e=>by subst e;exact b9.nodup (n:=n) (hs:=hs) ri rd hw
   have Wd:=wo g d hf (by have:=t.dl;omega) YZ hb (n:=n)
   have a1Z:∀{ρ:ah},ρ[2]? =some (some (.val d.dt))->fT (f2 eG (f2 b6 (ac 2) (fC (.int 0))) (fC (.str "take back"))) ρ= .ok false:=λ{ρ} h=>by
    cases d with
    |back=>exact absurd rfl hb
    |_=>exact bX h (by decide)
   refine⟨tr++[m],d.next m,_, .snoc t (d.ok g hw) (d.rg hf g t.rg hw) (d.dd hb) (d.lt60 hb hw) (d.wf hf),dB (gg ⟨rfl,rfl⟩ (ρ:=Z (aD n (bJ n (d.next m)) (hs++[.tup [d.dt,bJ n m]])) (pO n (tr++[m]) (d.next m)) M W (some (.val (.lst [.str "",d.ans m])))) ?_ rfl),λz=>absurd z hb⟩
   show fS (Z s p none none none)=_
   rw[Xq Ve rfl,av (by rw[c9 (by unfold oZ;rw[t4,decide_eq_true hw];exact t5 (s':=aD n (bJ n (d.next m)) (hs++[.tup [d.dt,bJ n m]])) (a:=d.ans m))];rfl),av (by rw[c9 (a1Z rfl)];rfl),av (ρ':=Z (aD n (bJ n (d.next m)) (hs++[.tup [d.dt,bJ n m]])) (pO n (tr++[m]) (d.next m)) M W (some (.val (.lst [.str "",d.ans m])))) (by
    show (aL dP 2 (a8 (au 3) (a8 (au 2) (ag))) (Z (aD n (bJ n (d.next m)) (hs++[.tup [d.dt,bJ n m]])) p M W (some (.val (.lst [.str "",d.ans m]))))>>=λx=>if (cU n tr m).length<lim then R.ok (bn.nx ((Z (aD n (bJ n (d.next m)) (hs++[.tup [d.dt,bJ n m]])) p M W (some (.val (.lst [.str "",d.ans m])))).set 1 (some (.own (.lst (cU n tr m++[x]))))))else .bad)=_
    rw[bu (n:=2) (a9 rfl (a9 rfl rfl)) rfl Wd,aq,if_pos (by rw[lV,<-t.len];have:=t.le;unfold lim;omega)]
    unfold pO cU
    rw[Kn (l₁:=tr++[m]),J_,Lh]
    rfl)]
   exact oH (bu (n:=2) (a9 (aj (a:= .lst [.str "",d.ans m]) rfl rfl HK) (a9 (bu (n:=2) (a9 rfl (a9 rfl rfl)) rfl (wq d)) rfl)) rfl (iY (by decide) d.wfa))
 ·
  have ZC:w∈WL:=(d.inW (n:=n) (m:=m) (hs:=hs)).resolve_left hw
  have Ve:eM [s] [d.dt]= .ok (.lst [.str w, .non],[s]):=by
   by_cases hb:d= .back
   ·subst hb
    have Ys:hs.length=0:=by
     by_cases z:hs.length=0
     ·exact z
     ·exact absurd (show ir (decide (hs.length=0)) "NothingDone"="" by rw[decide_eq_false z];rfl) hw
    have h0:hs=[]:=M_.mp Ys
    have a1_:w="NothingDone":=by show ir (decide (hs.length=0)) "NothingDone"=_;rw[decide_eq_true Ys];rfl
    subst h0
    rw[a1_]
    exact wv (yV Am) (by decide+kernel)
   ·exact wv (yU g d hb hf (n:=n) (hs:=hs)) ZC
  refine⟨tr,m,hs,t,dB (gg ⟨rfl,rfl⟩ (ρ:=Z s p M W (some (.val (.lst [.str w, .non])))) ?_ rfl),λz=>by
   subst z
   have h0:hs.length=0:=by
    by_cases z:hs.length=0
    ·exact z
    ·exact absurd (show ir (decide (hs.length=0)) "NothingDone"="" by rw[decide_eq_false z];rfl) hw
   have:=t.len
   omega⟩
  show fS (Z s p none none none)=_
  rw[Xq Ve rfl]
  refine oE ?_
  rw[fV (by unfold oZ;rw[t4,decide_eq_false hw];rfl)]
  exact oH (aj (a:= .str w) rfl (aj (a:= .lst [.str w, .non]) rfl rfl HJ) (by rw[rW,decide_eq_true rfl]))
theorem tM (t:Tr n tr m hs) (d:b9) (hf:d.Fit):∃SJ m' Ru,Tr n SJ m' Ru/\cM [aD n (bJ n m) hs,pO n tr m] [d.dt]= .ok (.bl true,[aD n (bJ n m') Ru,pO n SJ m']):=by
 obtain⟨SJ,m',Ru,t',e,_⟩:=Ao t d hf
 exact⟨SJ,m',Ru,t',e⟩
end
theorem Gg {ss:List yK} {k:Nat} (h:k<ss.length):L2.atI (ss.map c_) (k:Int)=some (c_ ss[k]):=by
 rw[i5 (by simpa using h)]
 simp
theorem HQ {α:Type} {x:α} {xs:List α}:L2.atI (x::xs) 0=some x:=by
 have:=i5 (xs:=x::xs) (k:=0) (by simp)
 simpa using this
theorem HR {α:Type} {x y:α} {xs:List α}:L2.atI (x::y::xs) 1=some y:=by
 have:=i5 (xs:=x::y::xs) (k:=1) (by simp)
 simpa using this
structure Good (n:Nat) (ss:List yK):Prop where
 src:∀r∈ss,0<=r.2.1/\r.2.1<=n
 tgt:∀r∈ss,0<=r.2.2/\r.2.2<=n
 ne:∀r∈ss,r.2.1≠r.2.2
def lv (L:List Int) (i:Int):Int:=L.getD i.toNat 0
theorem yX {L:List Int} {i:Int} (h0:0<=i) (h1:i<L.length):L2.atI (L.map D.int) i=some (.int (lv L i)):=by
 obtain⟨k,rfl⟩:=Int.eq_ofNat_of_zero_le h0
 have hk:k<L.length:=by omega
 rw[i5 (by simpa using hk)]
 simp[lv,hk]
theorem Cr {i j:Int}:zR [.int i, .int j]=some (.int (if j>i then j else i)):=rfl
theorem Ct {i j:Int}:zQ [.int i, .int j]=some (.int (if j<i then j else i)):=rfl
theorem Et {a b c:Int} (h1:a<=c) (h2:b<=c):(if b>a then b else a)<=c:=by split<;>assumption
theorem Cu {a b c:Int} (h:c<=a):c<=(if b>a then b else a):=by
 split
 ·exact LH h (Int.le_of_lt (by assumption))
 ·exact h
theorem Cv {a b c:Int} (h:c<=b):c<=(if b>a then b else a):=by
 split
 ·exact h
 ·exact LH h (Int.not_lt.mp (by assumption))
theorem Eu {a b c:Int} (h1:c<=a) (h2:c<=b):c<=(if b<a then b else a):=by split<;>assumption
theorem Cw {a b c:Int} (h:a<=c):(if b<a then b else a)<=c:=by
 split
 ·exact LH (Int.le_of_lt (by assumption)) h
 ·exact h
theorem Cy {a b c:Int} (h:b<=c):(if b<a then b else a)<=c:=by
 split
 ·exact h
 ·exact LH (Int.not_lt.mp (by assumption)) h
theorem Ap {L:List Int} {n:Nat} {s t most:Int} (hL:L.length=n+1) (hs:0<=s/\s<=n) (ht:0<=t/\t<=n) (hm:0<=most) (hb:∀i:Int,1<=i->i<=n-> -1000<=lv L i/\lv L i<=1000):
  ∃lo hi:Int,iQ [.lst (L.map .int), .int s, .int t, .int most]= .ok (.lst [.int lo, .int hi])/\lo<=0/\0<=hi/\ -most<=lo/\hi<=most/\(0<s->lv L s - 1000<=lo/\hi<=lv L s+1000)/\(0<t-> -1000 - lv L t<=lo/\hi<=1000 - lv L t):=by
 have W_:L2.atI (L.map D.int) s=some (.int (lv L s)):=yX hs.1 (by omega)
 have ZD:L2.atI (L.map D.int) t=some (.int (lv L t)):=yX ht.1 (by omega)
 have Vy:(2:Nat)<=lim:=by decide
 have a0i: -most<=0:=Int.neg_nonpos_of_nonneg hm
 have r:= @Int.le_refl
 have Ro:∀i:Int,0<i->i<=n->(lv L i - 1000<=0/\0<=lv L i+1000)/\ -1000 - lv L i<=0/\0<=1000 - lv L i:=λi h1 h2=>by
  have:=hb i h1 h2
  omega
 obtain⟨lo1,Wc,e1,p1,p2,p3,p4,p5⟩:∃lo1 Wc:Int,cK (fT (f2 p7 (ac 1) (fC (.int 0)))) (aw (aX (ck zR (a8 (ac 4) (a8 (f2 jG (f2 b6 (ac 0) (ac 1)) (fC (.int 1000))) (ag)))) (gN 4)) (aX (ck zQ (a8 (ac 5) (a8 (f2 br (f2 b6 (ac 0) (ac 1)) (fC (.int 1000))) (ag)))) (gN 5))) (aI) [some (.val (.lst (L.map .int))),some (.val (.int s)),some (.val (.int t)),some (.val (.int most)),some (.val (.int (-most))),some (.val (.int most))]
   = .ok (.nx [some (.val (.lst (L.map .int))),some (.val (.int s)),some (.val (.int t)),some (.val (.int most)),some (.val (.int lo1)),some (.val (.int Wc))])/\lo1<=0/\0<=Wc/\ -most<=lo1/\Wc<=most/\(0<s->lv L s - 1000<=lo1/\Wc<=lv L s+1000):=by
  by_cases h1:0<s
  ·have k:=(Ro s h1 hs.2).1
   exact⟨_,_,by simp! [h1,W_,Cr,Ct],Et a0i k.1,Eu hm k.2,Cu (r _),Cw (r _),λ_=>⟨Cv (r _),Cy (r _)⟩⟩
  ·exact⟨-most,most,by simp! [h1],a0i,hm,r _,r _,λz=>absurd z h1⟩
 obtain⟨Xr,Xs,e2,q1,q2,q3,q4,q5⟩:∃Xr Xs:Int,cK (fT (f2 p7 (ac 2) (fC (.int 0)))) (aw (aX (ck zR (a8 (ac 4) (a8 (f2 jG (f1 jm (fC (.int 1000))) (f2 b6 (ac 0) (ac 2))) (ag)))) (gN 4)) (aX (ck zQ (a8 (ac 5) (a8 (f2 jG (fC (.int 1000)) (f2 b6 (ac 0) (ac 2))) (ag)))) (gN 5))) (aI) [some (.val (.lst (L.map .int))),some (.val (.int s)),some (.val (.int t)),some (.val (.int most)),some (.val (.int lo1)),some (.val (.int Wc))]
   = .ok (.nx [some (.val (.lst (L.map .int))),some (.val (.int s)),some (.val (.int t)),some (.val (.int most)),some (.val (.int Xr)),some (.val (.int Xs))])/\Xr<=0/\0<=Xs/\lo1<=Xr/\Xs<=Wc/\(0<t-> -1000 - lv L t<=Xr/\Xs<=1000 - lv L t):=by
  by_cases h1:0<t
  ·have k:=(Ro t h1 ht.2).2
   exact⟨_,_,by simp! [h1,ZD,Cr,Ct],Et p1 k.1,Eu p2 k.2,Cu (r _),Cw (r _),λ_=>⟨Cv (r _),Cy (r _)⟩⟩
  ·exact⟨lo1,Wc,by simp! [h1],p1,p2,r _,r _,λz=>absurd z h1⟩
 refine⟨Xr,Xs,bE rfl ?_,q1,q2,LH p3 q3,LH q4 p4,λz=>⟨LH (p5 z).1 q3,LH q4 (p5 z).2⟩,q5⟩
 show nB [some (.val (.lst (L.map .int))),some (.val (.int s)),some (.val (.int t)),some (.val (.int most)),none,none]=_
 unfold nB
 rw[av (ρ':=[some (.val (.lst (L.map .int))),some (.val (.int s)),some (.val (.int t)),some (.val (.int most)),some (.val (.int (-most))),none]) rfl,
  av (ρ':=[some (.val (.lst (L.map .int))),some (.val (.int s)),some (.val (.int t)),some (.val (.int most)),some (.val (.int (-most))),some (.val (.int most))]) rfl,av e1,av e2]
 simp! [Vy]
def kX (p:Int×Int):D:= .tup [.int p.1, .int p.2]
theorem xP {L:List Int} {i j v:Int} (hi:0<=i) (hl:i<L.length) (hj:0<=j):lv (L.set i.toNat v) j=if j=i then v else lv L j:=by
 unfold lv
 rw[Lj,LW]
 by_cases h:j=i
 ·subst h
  rw[if_pos rfl,if_pos (by omega),if_pos rfl];rfl
 ·rw[if_neg (by omega),if_neg h,Lj]
theorem Cz {n:Nat} {i:Int} (h0:0<=i) (h1:i<n):L2.wy n i=some i.toNat:=by unfold L2.wy;rw[if_pos h0,if_pos h1]
theorem ww (L:List Int) (i:Nat) (v:Int):(L.map D.int).set i (.int v)=(L.set i v).map D.int:=by rw[List.map_set]
theorem JJ {i:Nat} {gs:List D->ah->R ah} {d:D} {ds:List D} {ρ:ah}:eE (gN i) gs (d::ds) ρ=gs ds (ρ.set i (some (.val d))):=rfl
theorem JK {ρ:ah}:rq [] ρ= .ok ρ:=rfl
theorem Aq {n:Nat} {figs:List Int} {ss:List yK} {mm:List Int} {b0 b1:Int} {L:List Int} {rows:List (Int×Int)} {k:Nat} {x8 x9 x10 x11 x12 x13:Option Slot} (hk:k<ss.length) (hf:k<figs.length) (g:Good n ss) (hn:n<=7) (hL:L.length=n+1) (h0:0<=b0) (h1:0<=b1)
  (hb:∀i:Int,1<=i->i<=n-> -1000<=lv L i/\lv L i<=1000) (hr:rows.length<=1000):
  ∃(a:Int) (L':List Int) (y8 y9 TL TB Wz Xt:Option Slot),iz [some (.val (.lst (figs.map .int))),some (.val (.int (n:Int))),some (.val (.tup (ss.map c_))),some (.val (.tup (mm.map .int))),some (.val (.lst [.int b0, .int b1])),some (.own (.lst (L.map .int))),some (.own (.lst (rows.map kX))),some (.val (.int (k:Int))),x8,x9,x10,x11,x12,x13]
   = .ok (.nx [some (.val (.lst (figs.map .int))),some (.val (.int (n:Int))),some (.val (.tup (ss.map c_))),some (.val (.tup (mm.map .int))),some (.val (.lst [.int b0, .int b1])),some (.own (.lst (L'.map .int))),some (.own (.lst ((rows++[(ss[k].1,a)]).map kX))),some (.val (.int (k:Int))),y8,y9,TL,TB,Wz,Xt])/\
   L'.length=n+1/\(∀i:Int,1<=i->i<=n-> -1000<=lv L' i/\lv L' i<=1000):=by
 have UJ:=Nd hk
 have ZE:=Gg hk
 have hs:=g.src _ UJ
 have ht:=g.tgt _ UJ
 have TC:=g.ne _ UJ
 generalize ss[k]=row at*
 obtain⟨Xh,s,t⟩:=row
 replace hs:0<=s/\s<=n:=hs
 replace ht:0<=t/\t<=n:=ht
 replace TC:s≠t:=TC
 have hm:0<=(if Xh∈mm then b1 else b0):=by split<;>omega
 obtain⟨lo,hi,e,c1,c2,c3,c4,c5,c6⟩:=Ap hL hs ht hm hb
 have Ya:L2.atI (figs.map D.int) (k:Int)=some (.int figs[k]):=by
  rw[i5 (by simpa using hf)];simp
 have hd:(0:Int)<hi - lo+1:=by omega
 generalize figs[k]=fg at Ya
 have a1:=OO fg (show hi - lo+1≠0 by omega)
 have a2:=Q8 fg hd
 have W_:L2.atI (L.map D.int) s=some (.int (lv L s)):=yX hs.1 (by omega)
 have a20:L2.atI [D.int b0,D.int b1] (if decide (Xh∈mm)=true then 1 else 0)=some (.int (if Xh∈mm then b1 else b0)):=by
  by_cases h:Xh∈mm
  ·simp only[h,decide_true,if_true,HR]
  ·simp only[h,decide_false,KY,if_false,HQ]
 have ZF:L2.wy (L.map D.int).length s=some s.toNat:=Cz hs.1 (by rw[JR];omega)
 have Yb:(L.set s.toNat (lv L s - (lo+fg%(hi - lo+1)))).length=n+1:=by rw[Nu];exact hL
 have ZD:L2.atI ((L.set s.toNat (lv L s - (lo+fg%(hi - lo+1)))).map D.int) t=some (.int (lv L t)):=by
  rw[yX ht.1 (by omega),xP hs.1 (by omega) ht.1,if_neg (Lz TC)]
 have ZG:L2.wy ((L.set s.toNat (lv L s - (lo+fg%(hi - lo+1)))).map D.int).length t=some t.toNat:=Cz ht.1 (by rw[JR];omega)
 have ZH:(rows.map kX).length<lim:=by rw[JR];unfold lim;omega
 have Vy:(2:Nat)<=lim:=by decide
 have ap:rows.map kX++[D.tup [.int Xh, .int (lo+fg%(hi - lo+1))]]=(rows++[(Xh,lo+fg%(hi - lo+1))]).map kX:=by simp[kX]
 generalize ha:lo+fg%(hi - lo+1)=a at*
 refine⟨a,(L.set s.toNat (lv L s - a)).set t.toNat (lv L t+a),some (.val (.int Xh)),some (.val (.int s)),some (.val (.int t)),some (.val (.int lo)),some (.val (.int hi)),some (.val (.int a)),?_,by rw[Nu];exact Yb,?_⟩
 ·simp! [iz,BR,sV,JJ,JK,Bo,ZE,c_,e,sZ,xN,a20,ng,Lq,Q_,Bool.and_true,and_self,Ya,bI hd,ha,W_,ZF,ww,ZD,ZG,ZH,Vy,ap]
 ·intro i Wc ZC
  rw[xP ht.1 (by omega) (by omega),xP hs.1 (by omega) (by omega)]
  by_cases h1:i=t
  ·subst h1
   rw[if_pos rfl]
   have:=c6 (by omega);omega
  ·rw[if_neg h1]
   by_cases h2:i=s
   ·subst h2
    rw[if_pos rfl]
    have:=c5 (by omega);omega
   ·rw[if_neg h2];exact hb i Wc ZC
theorem DW {k:Int} (h0:0<=k) (h:k<=1000):vM (.lst [.int 0]) (.int k)=some (.lst ((Ki k.toNat (0:Int)).map .int)):=by
 show (if k.natAbs<=lim/\[D.int 0].length*k.toNat<=lim then some (D.lst (Ki k.toNat [D.int 0]).flatten)else none)=_
 rw[if_pos ⟨by unfold lim;omega,by unfold lim;simp;omega⟩]
 congr 2
 induction k.toNat with
 |zero=>rfl
 |succ m ih=>rw[L9,L9,LK,ih];rfl
theorem J4 {x:D} {ds:List D}:Gu (.lst (x::ds)) (some 1) none=some (.lst ds):=by
 show some (D.lst (L2.Pu.vw (x::ds) (some 1) none))=_
 unfold L2.Pu.vw HT.fA
 simp
theorem DX {m:Nat} (i:Int):lv (Ki m 0) i=0:=by
 unfold lv
 rw[Lj,Lu]
 split<;>rfl
theorem xQ {n:Nat} {figs:List Int} {ss:List yK} {mm:List Int} {b0 b1:Int} (hf:ss.length<=figs.length) (g:Good n ss) (hn:n<=7) (h0:0<=b0) (h1:0<=b1) (hs:ss.length<=1000):
  ∃(ps:List (Int×Int)) (Vt:List Int),hX [.lst (figs.map .int), .int (n:Int), .tup (ss.map c_), .tup (mm.map .int), .lst [.int b0, .int b1]]= .ok (.lst [.tup (ps.map kX), .tup (Vt.map .int)])/\ps.map (·.1)=ss.map (·.1)/\Vt.length=n:=by
 have hd:vM (.lst [.int 0]) (.int ((n:Int)+1))=some (.lst ((Ki (n+1) (0:Int)).map .int)):=by
  have:=DW (k:=(n:Int)+1) (by omega) (by omega)
  rwa [show ((n:Int)+1).toNat=n+1 by omega]at this
 have a21:(1:Nat)<=lim:=by decide
 have Vy:(2:Nat)<=lim:=by decide
 obtain⟨ρ',e,L',rows,y7,y8,y9,TL,TB,Wz,Xt,rfl,e2,_,e4⟩:=qO (g:=gN 7) (gb:=iz) (n:=ss.length) (fs:=a8 (ck cp (a8 (ac 2) (ag))) (ag)) (ρ:=[some (.val (.lst (figs.map .int))),some (.val (.int (n:Int))),some (.val (.tup (ss.map c_))),some (.val (.tup (mm.map .int))),some (.val (.lst [.int b0, .int b1])),some (.own (.lst ((Ki (n+1) (0:Int)).map .int))),some (.own (.lst (([]:List (Int×Int)).map kX))),none,none,none,none,none,none,none])
  (P:=λk ρ=>∃(L:List Int) (rows:List (Int×Int)) (y7 y8 y9 TL TB Wz Xt:Option Slot),ρ=[some (.val (.lst (figs.map .int))),some (.val (.int (n:Int))),some (.val (.tup (ss.map c_))),some (.val (.tup (mm.map .int))),some (.val (.lst [.int b0, .int b1])),some (.own (.lst (L.map .int))),some (.own (.lst (rows.map kX))),y7,y8,y9,TL,TB,Wz,Xt]/\L.length=n+1/\(∀i:Int,1<=i->i<=n-> -1000<=lv L i/\lv L i<=1000)/\rows.map (·.1)=(ss.take k).map (·.1))
  (by simp! [JR]) hs ⟨_,_,_,_,_,_,_,_,_,rfl,by simp,λi _ _=>by rw[DX];omega,rfl⟩ (λk hk ρ hρ=>by
   obtain⟨L,rows,y7,y8,y9,TL,TB,Wz,Xt,rfl,hL,hb,hr⟩:=hρ
   have ZH:rows.length<=1000:=by
    have:=congrArg N6 hr
    simp at this
    omega
   obtain⟨a,L1,z8,z9,Yp,Yq,a0g,a0h,e1,l1,a22⟩:=Aq (figs:=figs) (mm:=mm) (b0:=b0) (b1:=b1) (L:=L) (rows:=rows) (k:=k) (x8:=y8) (x9:=y9) (x10:=TL) (x11:=TB) (x12:=Wz) (x13:=Xt) hk (by omega) g hn hL h0 h1 hb ZH
   exact⟨_,_,rfl, .inl e1,L1,_,_,_,_,_,_,_,_,rfl,l1,a22,by rw[Kn,hr,C8 _ hk];rfl⟩)
 rw[List.take_length]at e4
 obtain⟨z,Vt,rfl⟩:∃z Vt,L'=z::Vt:=by
  cases L' with
  |nil=>simp at e2
  |cons z Vt=>exact⟨z,Vt,rfl⟩
 refine⟨rows,Vt,bE rfl ?_,e4,by simpa using e2⟩
 show lI [some (.val (.lst (figs.map .int))),some (.val (.int (n:Int))),some (.val (.tup (ss.map c_))),some (.val (.tup (mm.map .int))),some (.val (.lst [.int b0, .int b1])),none,none,none,none,none,none,none,none,none]=_
 unfold lI
 rw[av (ρ':=[some (.val (.lst (figs.map .int))),some (.val (.int (n:Int))),some (.val (.tup (ss.map c_))),some (.val (.tup (mm.map .int))),some (.val (.lst [.int b0, .int b1])),some (.own (.lst ((Ki (n+1) (0:Int)).map .int))),none,none,none,none,none,none,none,none]) (by simp! [BO,hd,a21]),
  av (ρ':=[some (.val (.lst (figs.map .int))),some (.val (.int (n:Int))),some (.val (.tup (ss.map c_))),some (.val (.tup (mm.map .int))),some (.val (.lst [.int b0, .int b1])),some (.own (.lst ((Ki (n+1) (0:Int)).map .int))),some (.own (.lst (([]:List (Int×Int)).map kX))),none,none,none,none,none,none,none]) rfl,av e]
 simp! [FG,vy,vx,J_,J4,Vy]
section
variable {n:Int} {tr:List Mo} {m:Mo} {hs:List D}
theorem DY (g:m.Ok) (r:yK):xM m.mm r=xM m.ms r:=by unfold xM;rw[g.mem]
theorem qD (g:m.Ok):e_ [bL n m]= .ok (.tup (m.ss.map (xM m.ms))):=by
 refine bE rfl (dz (aU (a9 (l5 (jV (enc:=c_) (l:=m.ss) (out:=xM m.ms) (Gd HN) (by have:=g.len;omega) (rest:=[some (.val (bL n m))]) rfl λr _=> ?_)) rfl) rfl))
 rw[<-DY g]
 exact aj (a:=c_ r) (b:= .tup [.bl (decide (r.1∈m.mm))]) rfl (bM (ds:=[.bl (decide (r.1∈m.mm))]) (a9 (aj (aj rfl rfl oI) (aj (a:=bL n m) rfl rfl Gb) sZ) rfl) (show 1<=lim by decide)) (ii (by simp[c_]))
theorem Gh (ms:List Int) (r:yK):Wf 1 (xM ms r):= .tup (by simp) λd hd=>by
 simp only[K1,KN,or_false]at hd
 rcases hd with rfl|rfl|rfl|rfl
 ·exact .int _ _
 ·exact .int _ _
 ·exact .int _ _
 ·exact .bl _ _
theorem Ar (d:Cd) (h1:d.ss.length<=12) (h2:d.ri.length<=100) (h3:d.rd.length<=60):gU [rY n d,qC n d]= .ok (.bl true):=by
 let ρ:ah:=[some (.val (rY n d)),some (.val (qC n d))]
 have sm:∀{f:JN} {k:Int} {x:D} {j:Nat},(Cf n d).lookup f=some x->b6 (qC n d) (.int k)=some x->j<=7->Wf j x->aL bg 2 (a8 (cA "Day" f (ac 0)) (a8 (f2 b6 (ac 1) (fC (.int k))) (ag))) ρ= .ok (.bl true):=λ{f k x j} e1 e2 hj hw=>
  bu (n:=2) (a9 (fw (fds:=Cf n d) rfl e1) (a9 (aj (a:=qC n d) rfl rfl e2) rfl)) rfl (iY hj hw)
 have a0:=sm (f:="tanks") (k:=0) rfl (eQ 0 rfl) (by decide) (.int 0 n)
 have a1:=sm (f:="streams") (k:=1) rfl (eQ 1 rfl) (by decide) (uL (f:=c_) (l:=d.ss) (by omega) λr _=>Gf r)
 have a2:=sm (f:="rises") (k:=2) rfl (eQ 2 rfl) (by decide) (yJ d.ri (by omega))
 have a3:=sm (f:="readings") (k:=3) rfl (eQ 3 rfl) (by decide) (uL (f:=j0) (l:=d.rd) (by omega) λr _=>Es r)
 refine bE rfl ?_
 show nE ρ=_
 unfold nE
 rw[av (ρ':=ρ) (by rw[c9 (by unfold oZ jE;rw[kN a0,kN a1];rfl)];rfl)]
 exact dz (by unfold pV;rw[a2,aq];exact a3)
theorem xR (t:Tr n tr m hs):fY [.ins "Cellar" (i0 n (bJ n m) hs),bL n m]= .ok (.bl true):=by
 have g:=t.ok
 let C:D:= .ins "Cellar" (i0 n (bJ n m) hs)
 let P (x:Option Slot):ah:=[some (.val C),some (.val (bL n m)),x]
 have mt:∀{x:Option Slot} {f:JN} {r:List D->R D} {z:D},r [C]= .ok z->(i0 n (bJ n m) hs).lookup f=none->f9 "Cellar" f 1 r (au 0) ag (P x)= .ok z:=λ{x f r z} h1 h2=>iA (n:=1) (fds:=i0 n (bJ n m) hs) (ds:=[]) rfl rfl rfl h1 h2
 have b0:aL bg 2 (a8 (cA "Cellar" "tanks" (ac 0)) (a8 (f2 b6 (ac 1) (fC (.int 0))) (ag))) (P none)= .ok (.bl true):=bu (n:=2) (a9 (fw (fds:=i0 n (bJ n m) hs) rfl rfl) (a9 (aj (a:=bL n m) rfl rfl Ep) rfl)) rfl (iY (by decide) (.int 0 n))
 have b1:aL bg 2 (a8 (f9 "Cellar" "layout" 1 dc (au 0) ag) (a8 (aL e_ 1 (a8 (au 1) (ag))) (ag))) (P none)= .ok (.bl true):=bu (n:=2) (a9 (mt (wk g) rfl) (a9 (bu (n:=1) (a9 rfl rfl) rfl (qD g)) rfl)) rfl (iY (by decide) (uL (by have:=g.len;omega) λr _=>Gh _ r))
 have b2:aL bg 2 (a8 (f9 "Cellar" "deeds" 1 dA (au 0) ag) (a8 (f2 b6 (ac 1) (fC (.int 5))) (ag))) (P none)= .ok (.bl true):=bu (n:=2) (a9 (mt (xO t) rfl) (a9 (aj (a:=bL n m) rfl rfl Jp) rfl)) rfl (iY (n:=4) (by decide) (.tup (by have:=t.dl;omega) (by obtain⟨_,_,_,h⟩:=t.prs;exact h)))
 have b3:aL bg 2 (a8 (f9 "Cellar" "days_gone" 1 bf (au 0) ag) (a8 (ck cp (a8 (f2 b6 (ac 1) (fC (.int 4))) (ag))) (ag))) (P none)= .ok (.bl true):=bu (n:=2) (a9 (mt iZ rfl) (a9 (aU (a9 (aj (a:=bL n m) rfl rfl HP) rfl) (by rw[gM,JR])) rfl)) rfl (iY (by decide) (.int 0 _))
 refine bE rfl ?_
 show lL (P none)=_
 unfold lL
 rw[av (ρ':=P none) (by rw[c9 (by unfold oZ jE;rw[kN b0,kN b1];rfl)];rfl),av (ρ':=P none) (by rw[c9 (by unfold oZ jE;rw[kN b2,kN b3];rfl)];rfl)]
 obtain⟨ρ',e,y,rfl⟩:=qO (g:=gN 2) (gb:=kH) (n:=m.ds.length) (fs:=a8 (ck cp (a8 (f2 b6 (ac 1) (fC (.int 4))) (ag))) (ag)) (ρ:=P none) (P:=λ_ ρ=>∃y,ρ=P y) (a9 (aU (a9 (aj (a:=bL n m) rfl rfl HP) rfl) (by rw[gM,JR])) rfl) (by have:=g.dl;omega) ⟨none,rfl⟩ λk hk ρ ⟨y,hy⟩=>by
  subst hy
  have hd:=t.rg.day _ (Nd hk)
  refine⟨P (some (.val (.int (k:Int)))),P (some (.val (.int (k:Int)))),rfl, .inl ?_,_,rfl⟩
  have ZI:aL gU 2 (a8 (f9 "Cellar" "day" 2 eY (au 0) (a8 (f2 br (ac 2) (fC (.int 1))) (ag))) (a8 (f2 b6 (f2 b6 (ac 1) (fC (.int 4))) (ac 2)) (ag))) (P (some (.val (.int (k:Int)))))= .ok (.bl true):=
   bu (n:=2) (a9 (iA (n:=2) (fds:=i0 n (bJ n m) hs) (ds:=[.int ((k:Int)+1)]) rfl (a9 (aj (a:= .int (k:Int)) (b:= .int 1) rfl rfl cB) rfl) rfl (Co hk) rfl) (a9 (d:=qC n m.ds[k]) (aj (b:= .int (k:Int)) (aj (a:=bL n m) rfl rfl HP) rfl (eQ k (by rw[Km,Kx hk];rfl))) rfl)) rfl (Ar _ hd.1 hd.2.1 hd.2.2)
  unfold kH
  rw[c9 (by unfold jE;rw[kN ZI];rfl)]
  rfl
 rw[av e]
 rfl
end
theorem Gi {ga gb:ah->R Bool} {ρ:ah} (h:∃b,ga ρ= .ok b) (h2:∃b,gb ρ= .ok b):∃b,oZ ga gb ρ= .ok b:=by
 obtain⟨a,ha⟩:=h;obtain⟨b,hb⟩:=h2
 unfold oZ;rw[ha,aq]
 cases a
 ·exact⟨b,hb⟩
 ·exact⟨true,rfl⟩
theorem yY {ga gb:ah->R Bool} {ρ:ah} (h:∃b,ga ρ= .ok b) (h2:∃b,gb ρ= .ok b):∃b,gr ga gb ρ= .ok b:=by
 obtain⟨a,ha⟩:=h;obtain⟨b,hb⟩:=h2
 unfold gr;rw[ha,aq]
 cases a
 ·exact⟨false,rfl⟩
 ·exact⟨b,hb⟩
theorem uX (c:Int) (mx:Bool) (k:Nat) (sz:Int) (hs:0<sz/\sz<1073741824) (hk:k<=100):∃xs:List Int,fE [.int c, .bl mx, .int (k:Int), .int sz]= .ok (.lst (xs.map .int))/\xs.length=k/\∀x∈xs,0<=x:=by
 let P (xs:List Int) (r:Int) (y z:Option Slot):ah:=[some (.val (.int c)),some (.val (.bl mx)),some (.val (.int (k:Int))),some (.val (.int sz)),some (.own (.lst (xs.map .int))),some (.val (.int r)),y,z]
 obtain⟨ρ',e,xs,r,y,z,rfl,h1,h2⟩:=qO (g:=gN 6) (gb:=gz) (n:=k) (fs:=a8 (au 2) (ag)) (ρ:=P [] c none none) (P:=λj ρ=>∃xs r y z,ρ=P xs r y z/\xs.length=j/\∀x∈xs,0<=x) (a9 rfl rfl) (by omega) ⟨[],c,none,none,rfl,rfl,λx hx=>by cases hx⟩ λj hj ρ hρ=>by
  obtain⟨xs,r,y,z,rfl,h1,h2⟩:=hρ
  have hl:(xs.map D.int).length<lim:=by rw[JR];unfold lim;omega
  refine⟨P xs r (some (.val (.int (j:Int)))) z,?_⟩
  have nn:∀{v:Int},∀x∈xs++[v%sz],0<=x:=λ{v} x hx=>by
   rcases KH.mp hx with hx|hx
   ·exact h2 x hx
   ·rw[K7.mp hx];exact OO _ (by omega)
  have ap:∀v:Int,xs.map D.int++[.int v]=(xs++[v]).map .int:=λv=>by simp
  cases mx with
  |true=>exact⟨P (xs++[((c+7919*(j:Int)+1)*48271%2147483647+(j:Int))*69621%2147483647%sz]) r (some (.val (.int (j:Int)))) (some (.val (.int ((c+7919*(j:Int)+1)*48271%2147483647)))),rfl, .inl (by simp! [P,gz,ur (show QJ 48271<18446744073709551616 by decide),ur (show QJ 69621<18446744073709551616 by decide),xr (show QJ 7919<18446744073709551616 by decide),bI (show (0:Int)<2147483647 by decide),bI hs.1,hl,ap]),_,_,_,_,rfl,by simp[h1],nn⟩
  |false=>exact⟨P (xs++[r%sz]) (r / sz) (some (.val (.int (j:Int)))) z,rfl, .inl (by simp! [P,gz,bI hs.1,gL hs,hl,ap]),_,_,_,_,rfl,by simp[h1],nn⟩
 refine⟨xs,bE rfl ?_,h1,h2⟩
 show ju [some (.val (.int c)),some (.val (.bl mx)),some (.val (.int (k:Int))),some (.val (.int sz)),none,none,none,none]=_
 unfold ju
 rw[av (ρ':=[some (.val (.int c)),some (.val (.bl mx)),some (.val (.int (k:Int))),some (.val (.int sz)),some (.own (.lst [])),none,none,none]) rfl,av (ρ':=P [] c none none) rfl,av e]
 rfl
theorem CA {α:Type} {f:α->D} {l:List α} {lo hi:Option Int}:∃l':List α,Gu (.tup (l.map f)) lo hi=some (.tup (l'.map f))/\l'.length<=l.length:=by
 unfold Gu
 dsimp only
 split
 ·exact⟨l,rfl,Kc _⟩
 ·unfold L2.Pu.vw
  rw[<-List.map_drop,<-List.map_take]
  exact⟨_,rfl,by rw[Nc,Od];omega⟩
section
variable {n:Int} {m:Mo} {hs:List D}
theorem As (ri:List Int) (rd:List Rd) (x:Int) (l1:ri.length<=50) (l2:rd.length<=50):∃Sq UI,fU [dF ri rd, .int x]= .ok (dF Sq UI)/\Sq.length<=ri.length+1/\UI.length<=rd.length+1:=by
 let P (a b:D):ah:=[some (.val (dF ri rd)),some (.val (.int x)),some (.val a),some (.val b)]
 let A:=D.tup (ri.map .int);let B:=D.tup (rd.map j0)
 have tk:∀{k:Int},fT (f2 eG (f2 cw (ac 1) (fC (.int 5))) (fC (.int k))) (P A B)= .ok (decide (x%5=k)):=λ{k}=>bG (aj (aj (a:= .int x) (b:= .int 5) rfl rfl (bI (by decide))) rfl jJ)
 have d5:f2 gC (ac 1) (fC (.int 5)) (P A B)= .ok (.int (x / 5)):=aj (a:= .int x) (b:= .int 5) rfl rfl (gL (by decide))
 have SH:∀{a:List Int} {b:List Rd},bB (bA (a8 (fC (.str "day passes")) (a8 (au 2) (a8 (au 3) (ag))))) (P (.tup (a.map .int)) (.tup (b.map j0)))= .ok (.ret (dF a b)):=λ{a b}=>dz (bM (ds:=[.str "day passes", .tup (a.map .int), .tup (b.map j0)]) rfl (show 3<=lim by decide))
 have go:∃Sq UI,nI [some (.val (dF ri rd)),some (.val (.int x)),none,none]= .ok (.ret (dF Sq UI))/\Sq.length<=ri.length+1/\UI.length<=rd.length+1:=by
  unfold nI
  rw[av (ρ':=[some (.val (dF ri rd)),some (.val (.int x)),some (.val A),none]) (aZ (aj (a:=dF ri rd) rfl rfl (eQ 1 rfl)) rfl),av (ρ':=P A B) (aZ (aj (a:=dF ri rd) rfl rfl (eQ 2 rfl)) rfl)]
  by_cases h0:x%5=0
  ·refine⟨ri++[0],rd,?_,by simp,by omega⟩
   rw[av (ρ':=P (.tup ((ri++[0]).map .int)) B) (by rw[fV (by rw[tk,decide_eq_true h0])];exact aZ (aj (a:=A) (b:= .tup [.int 0]) rfl rfl (by rw[ii (by simp;omega)];simp)) rfl),SH]
  by_cases h1:x%5=1
  ·refine⟨ri,rd++[(x / 5%40,1)],?_,by omega,by simp⟩
   rw[av (ρ':=P A (.tup ((rd++[(x / 5%40,1)]).map j0))) (by rw[c9 (by rw[tk,decide_eq_false h0]),fV (by rw[tk,decide_eq_true h1])];exact aZ (aj (a:=B) (b:= .tup [j0 (x / 5%40,1)]) rfl (bM (ds:=[j0 (x / 5%40,1)]) (a9 (bM (ds:=[.int (x / 5%40), .int 1]) (a9 (aj d5 rfl (bI (by decide))) rfl) (show 2<=lim by decide)) rfl) (show 1<=lim by decide)) (by rw[ii (by simp;omega)];simp)) rfl),SH]
  by_cases h2:x%5=2
  ·obtain⟨l',e,hl⟩:=CA (f:=j0) (l:=rd) (lo:=some 1) (hi:=none)
   refine⟨ri,(x / 5%14,-1)::l',?_,by omega,by simp;omega⟩
   rw[av (ρ':=P A (.tup (((x / 5%14,-1)::l').map j0))) (by rw[c9 (by rw[tk,decide_eq_false h0]),c9 (by rw[tk,decide_eq_false h1]),fV (by rw[tk,decide_eq_true h2])];exact aZ (aj (a:= .tup [j0 (x / 5%14,-1)]) (b:= .tup (l'.map j0)) (bM (ds:=[j0 (x / 5%14,-1)]) (a9 (bM (ds:=[.int (x / 5%14), .int (-1)]) (a9 (aj d5 rfl (bI (by decide))) (a9 (d:= .int (-1)) rfl rfl)) (show 2<=lim by decide)) rfl) (show 1<=lim by decide)) (by unfold FG;rw[show (ac 3:ah->R D) (P A B)= .ok B from rfl,aq];show R.of (Gu B (some 1) none)=_;rw[e,ix]) (by rw[ii (by simp;omega)];rfl)) rfl),SH]
  by_cases h3:x%5=3
  ·obtain⟨l',e,hl⟩:=CA (f:=j0) (l:=rd) (lo:=none) (hi:=some (-1))
   refine⟨ri,l',?_,by omega,by omega⟩
   rw[av (ρ':=P A (.tup (l'.map j0))) (by rw[c9 (by rw[tk,decide_eq_false h0]),c9 (by rw[tk,decide_eq_false h1]),c9 (by rw[tk,decide_eq_false h2]),fV (by rw[tk,decide_eq_true h3])];exact aZ (d:= .tup (l'.map j0)) (by unfold FG;rw[show (ac 3:ah->R D) (P A B)= .ok B from rfl,aq];show R.of (Gu B none (some (-1)))=_;rw[e,ix]) rfl),SH]
  ·refine⟨ri.map λr=>r*25+1,rd,?_,by simp,by omega⟩
   rw[av (ρ':=P (.tup ((ri.map λr=>r*25+1).map .int)) B) (by rw[c9 (by rw[tk,decide_eq_false h0]),c9 (by rw[tk,decide_eq_false h1]),c9 (by rw[tk,decide_eq_false h2]),c9 (by rw[tk,decide_eq_false h3])];exact aZ (aU (a9 (l5 (jV (enc:= .int) (l:=ri) (out:=λr=> .int (r*25+1)) (by rfl) (by omega) (rest:=[]) rfl λr _=>aj (aj (a:= .int r) (b:= .int 25) rfl rfl (ur (by decide))) rfl cB)) rfl) (by rw[K_];rfl)) rfl),SH]
 obtain⟨Sq,UI,e,h1,h2⟩:=go
 exact⟨Sq,UI,bE rfl e,h1,h2⟩
end
section
variable {n:Nat} {m:Mo} {hs:List D}
theorem DZ (g:m.Rg (n:Int)):Good n m.ss:=⟨λr hr=>(g.row r hr).1,λr hr=>(g.row r hr).2.1,λr hr=>(g.row r hr).2.2⟩
theorem yZ {t:ah->R Bool} {f:ah->R D} {i:Nat} {ρ:ah} {v:Int} (ht:∃b,t ρ= .ok b) (hf:f ρ= .ok (.int v)):cK t (aX f (gN i)) aI ρ= .ok (.nx (ρ.set i (some (.val (.int v)))))\/cK t (aX f (gN i)) aI ρ= .ok (.nx ρ):=by
 obtain⟨b,hb⟩:=ht
 cases b with
 |true=>exact .inl (by rw[fV hb];exact aZ hf rfl)
 |false=>exact .inr (by rw[c9 hb];rfl)
theorem mY (g:m.Ok) (q:m.Rg (n:Int)) (h7:n<=7) (c:Int) (mx:Bool):∃ri rd,cZ [bL (n:Int) m, .int c, .bl mx]= .ok (dF ri rd)/\ri.length<=7/\rd.length<=12:=by
 have hm:=g.len
 obtain⟨fg,e1,l1,_⟩:=uX (c / 10) mx (2*m.ss.length+n) 10010 (by decide) (by omega)
 let Ui:=c%5
 have hb:∃b0 b1:Int,0<=b0/\0<=b1/\b6 (.lst [.lst [.int 5000, .int 1000], .lst [.int 1, .int 1]]) (.int (if decide (Ui>2)=true then 1 else 0))=some (.lst [.int b0, .int b1]):=by
  by_cases z:Ui>2
  ·exact⟨1,1,by decide,by decide,by rw[decide_eq_true z];exact HK⟩
  ·exact⟨5000,1000,by decide,by decide,by rw[decide_eq_false z];exact HJ⟩
 obtain⟨b0,b1,a23,a24,a25⟩:=hb
 obtain⟨ps,Vt,e2,l2,l3⟩:=xQ (figs:=fg) (mm:=m.mm) (b0:=b0) (b1:=b1) (by omega) (DZ q) h7 a23 a24 (by omega)
 have a2x:ps.length=m.ss.length:=by have:=congrArg N6 l2;simpa using this
 let M:=bL (n:Int) m
 let F:=D.lst (fg.map .int)
 let W:=D.lst [.tup (ps.map kX), .tup (Vt.map .int)]
 let P (s7 y8 y9 TL TB Wz:Option Slot):ah:=[some (.val M),some (.val (.int c)),some (.val (.bl mx)),some (.val (.int Ui)),some (.val (.int (m.ss.length:Int))),some (.val F),some (.val W),s7,y8,y9,TL,TB,Wz]
 let O (rd:List Rd):Option Slot:=some (.own (.lst (rd.map j0)))
 have body:∀k,k<m.ss.length->∀rd y9 TL TB,rd.length<=k->∃UI a26 ZJ ZK,ee (P (O rd) (some (.val (.int (k:Int)))) y9 TL TB none)= .ok (.nx (P (O UI) (some (.val (.int (k:Int)))) a26 ZJ ZK none))/\UI.length<=k+1:=λk hk rd y9 TL TB hr=>by
  let K:Option Slot:=some (.val (.int (k:Int)))
  have ZI:k<ps.length:=by omega
  have a27:m.ss.length+k<fg.length:=by omega
  let N:=ps[k].1
  let a0:=ps[k].2
  let ot:=fg[m.ss.length+k]
  have s1:aX (f2 b6 (f2 b6 (ac 6) (fC (.int 0))) (ac 8)) (sV 2 (eE (gN 9) (eE (gN 10) (rq)))) (P (O rd) K y9 TL TB none)= .ok (.nx (P (O rd) K (some (.val (.int N))) (some (.val (.int a0))) TB none)):=
   aZ (d:=kX ps[k]) (aj (b:= .int (k:Int)) (aj (a:=W) rfl rfl HJ) rfl (eQ k (by rw[Km,Kx ZI];rfl))) rfl
  have s2:aX (f2 b6 (ac 5) (f2 br (ac 4) (ac 8))) (gN 11) (P (O rd) K (some (.val (.int N))) (some (.val (.int a0))) TB none)= .ok (.nx (P (O rd) K (some (.val (.int N))) (some (.val (.int a0))) (some (.val (.int ot))) none)):=
   aZ (d:= .int ot) (aj (a:=F) (b:= .int ((m.ss.length+k:Nat):Int)) rfl (aj (a:= .int (m.ss.length:Int)) (b:= .int (k:Int)) rfl rfl (by rw[cB];congr 2)) (Ga (m.ss.length+k) (by rw[Km,Kx a27];rfl))) rfl
  have md:∀{j:Int} {am:Int},∃b,fT (f2 eG (ac 3) (fC (.int j))) (P (O rd) K (some (.val (.int N))) (some (.val (.int am))) (some (.val (.int ot))) none)= .ok b:=λ{j am}=>⟨_,bG (aj (a:= .int Ui) (b:= .int j) rfl rfl jJ)⟩
  have mo:∀{j:Int} {am:Int},0<j->∃b,fT (f2 eG (f2 cw (ac 11) (fC (.int j))) (fC (.int 0))) (P (O rd) K (some (.val (.int N))) (some (.val (.int am))) (some (.val (.int ot))) none)= .ok b:=λ{j am} hj=>⟨_,bG (aj (aj (a:= .int ot) (b:= .int j) rfl rfl (bI hj)) rfl jJ)⟩
  have v1:∀{am:Int},f2 jG (f2 cw (f2 gC (ac 11) (fC (.int 3))) (fC (.int 2001))) (fC (.int 1000)) (P (O rd) K (some (.val (.int N))) (some (.val (.int am))) (some (.val (.int ot))) none)= .ok (.int (ot / 3%2001 - 1000)):=λ{am}=>aj (aj (aj (a:= .int ot) (b:= .int 3) rfl rfl (gL (by decide))) rfl (bI (by decide))) rfl pb
  have v2:∀{am:Int},f2 jG (f2 cw (f2 gC (ac 11) (fC (.int 2))) (fC (.int 3))) (fC (.int 1)) (P (O rd) K (some (.val (.int N))) (some (.val (.int am))) (some (.val (.int ot))) none)= .ok (.int (ot / 2%3 - 1)):=λ{am}=>aj (aj (aj (a:= .int ot) (b:= .int 2) rfl rfl (gL (by decide))) rfl (bI (by decide))) rfl pb
  obtain⟨a1,h1⟩:∃a1:Int,cK (oZ (fT (f2 eG (ac 3) (fC (.int 2)))) (gr (fT (f2 eG (ac 3) (fC (.int 1)))) (fT (f2 eG (f2 cw (ac 11) (fC (.int 3))) (fC (.int 0)))))) (aX (f2 jG (f2 cw (f2 gC (ac 11) (fC (.int 3))) (fC (.int 2001))) (fC (.int 1000))) (gN 10)) (aI) (P (O rd) K (some (.val (.int N))) (some (.val (.int a0))) (some (.val (.int ot))) none)= .ok (.nx (P (O rd) K (some (.val (.int N))) (some (.val (.int a1))) (some (.val (.int ot))) none)):=by
   rcases yZ (i:=10) (Gi (md (j:=2)) (yY (md (j:=1)) (mo (j:=3) (by decide)))) v1 with h|h
   ·exact⟨_,h⟩
   ·exact⟨a0,h⟩
  obtain⟨a2,h2⟩:∃a2:Int,cK (gr (fT (f2 eG (ac 3) (fC (.int 4)))) (fT (f2 eG (f2 cw (ac 11) (fC (.int 2))) (fC (.int 0))))) (aX (f2 jG (f2 cw (f2 gC (ac 11) (fC (.int 2))) (fC (.int 3))) (fC (.int 1))) (gN 10)) (aI) (P (O rd) K (some (.val (.int N))) (some (.val (.int a1))) (some (.val (.int ot))) none)= .ok (.nx (P (O rd) K (some (.val (.int N))) (some (.val (.int a2))) (some (.val (.int ot))) none)):=by
   rcases yZ (i:=10) (yY (md (j:=4) (am:=a1)) (mo (j:=2) (am:=a1) (by decide))) (v2 (am:=a1))with h|h
   ·exact⟨_,h⟩
   ·exact⟨a1,h⟩
  let ρ2:=P (O rd) K (some (.val (.int N))) (some (.val (.int a2))) (some (.val (.int ot))) none
  have t3:fT (f2 (gJ false) (ac 9) (f2 b6 (ac 0) (fC (.int 3)))) ρ2= .ok (decide (N∈m.mm)):=bG (aj (a:= .int N) rfl (aj (a:=M) rfl rfl Gb) sZ)
  have Xq:∀{r:R bn},cK (fT (f2 (gJ false) (ac 9) (f2 b6 (ac 0) (fC (.int 3))))) (rz 7 (bA (a8 (au 9) (a8 (au 10) (ag))))) (aI) ρ2=r->ee (P (O rd) K y9 TL TB none)=r:=λ{r} h=>by
   unfold ee
   rw[av s1,av s2,av h1,av h2];exact h
  by_cases z:N∈m.mm
  ·refine⟨rd++[(N,a2)],some (.val (.int N)),some (.val (.int a2)),some (.val (.int ot)),Xq ?_,by simp;omega⟩
   rw[fV (by rw[t3,decide_eq_true z])]
   show (bA (a8 (au 9) (a8 (au 10) (ag))) ρ2>>=λd=>if (rd.map j0).length<lim then R.ok (bn.nx (ρ2.set 7 (some (.own (.lst (rd.map j0++[d]))))))else .bad)=_
   rw[bM (ds:=[.int N, .int a2]) rfl (show 2<=lim by decide),aq,if_pos (by rw[JR];unfold lim;omega),show rd.map j0++[D.tup [.int N, .int a2]]=(rd++[(N,a2)]).map j0 by simp[j0]]
   rfl
  ·exact⟨rd,some (.val (.int N)),some (.val (.int a2)),some (.val (.int ot)),Xq (by rw[c9 (by rw[t3,decide_eq_false z])];rfl),by omega⟩
 obtain⟨ρ',e3,rd,y8,y9,TL,TB,rfl,a0u⟩:=qO (g:=gN 8) (gb:=ee) (n:=m.ss.length) (fs:=a8 (au 4) (ag)) (ρ:=P (O []) none none none none none) (P:=λk ρ=>∃rd y8 y9 TL TB,ρ=P (O rd) y8 y9 TL TB none/\rd.length<=k) (a9 rfl rfl) (by omega) ⟨[],none,none,none,none,rfl,Kc _⟩ λk hk ρ hρ=>by
  obtain⟨rd,y8,y9,TL,TB,rfl,hr⟩:=hρ
  obtain⟨UI,z9,Yp,Yq,e,Wl⟩:=body k hk rd y9 TL TB hr
  exact⟨_,_,rfl, .inl e,UI,_,z9,Yp,Yq,rfl,Wl⟩
 obtain⟨ri,a2y,h4⟩:∃ri:List Int,ri.length=n/\∀(N:List JN) (names:List (JN×NameKind)),hJ N names (P (O rd) y8 y9 TL TB (some (.val (.tup (Vt.map .int)))))=[none,none,some (.val F),some (.val (.int (m.ss.length:Int)))]->cK (fT (f2 eG (ac 3) (fC (.int 2)))) (aX (ck bV (a8 (fL (bH N names (c8 (a8 (f2 b6 (ac 0) (fC (.int 0))) (ag))) (gN 1) (fq) (f2 jG (f2 cw (f2 b6 (ac 2) (f2 br (f2 qm (fC (.int 2)) (ac 3)) (ac 1))) (fC (.int 2001))) (fC (.int 1000))))) (ag))) (gN 12)) (aI) (P (O rd) y8 y9 TL TB (some (.val (.tup (Vt.map .int)))))= .ok (.nx (P (O rd) y8 y9 TL TB (some (.val (.tup (ri.map .int)))))):=by
  have tm:fT (f2 eG (ac 3) (fC (.int 2))) (P (O rd) y8 y9 TL TB (some (.val (.tup (Vt.map .int)))))= .ok (decide (Ui=2)):=bG (aj (a:= .int Ui) (b:= .int 2) rfl rfl jJ)
  by_cases z:Ui=2
  ·refine⟨(Kw n).map λk=>fg.getD (2*m.ss.length+k) 0%2001 - 1000,by simp,λN names hR=> ?_⟩
   rw[fV (by rw[tm,decide_eq_true z])]
   refine aZ (aU (a9 (l5 (jV (enc:=λk:Nat=>D.int (k:Int)) (l:=Kw n) (out:=λk=> .int (fg.getD (2*m.ss.length+k) 0%2001 - 1000)) (fX (a9 (aj (a:=M) rfl rfl Ep) rfl) (by unfold lim;omega)) (by simp;omega) (rest:=[some (.val F),some (.val (.int (m.ss.length:Int)))]) hR λk hk=> ?_)) rfl) (by rw[K_];rfl)) rfl
   have Ws:k<n:=Lr.mp hk
   have U1:2*m.ss.length+k<fg.length:=by omega
   exact aj (aj (aj (a:=F) (b:= .int ((2*m.ss.length+k:Nat):Int)) (d:= .int (fg.getD (2*m.ss.length+k) 0)) rfl (aj (a:= .int (2*(m.ss.length:Int))) (b:= .int (k:Int)) (aj (a:= .int 2) (b:= .int (m.ss.length:Int)) rfl rfl (xr (by decide))) rfl (by rw[cB];congr 2)) (Ga (2*m.ss.length+k) (by rw[Km,Kx U1];simp[U1]))) rfl (bI (by decide))) rfl pb
  ·exact⟨Vt,l3,λN names _=>by rw[c9 (by rw[tm,decide_eq_false z])];rfl⟩
 obtain⟨UI,s7,a28,a29,h5⟩:∃(UI:List Rd) (s7:Option Slot),UI.length=rd.length/\(ac 7:ah->R D) (P s7 y8 y9 TL TB (some (.val (.tup (ri.map .int)))))= .ok (.lst (UI.map j0))/\cK (fT (f2 eG (f2 cw (f2 gC (ac 1) (fC (.int 5))) (fC (.int 2))) (fC (.int 1)))) (aX (Bx (ac 7)) (gN 7)) (aI) (P (O rd) y8 y9 TL TB (some (.val (.tup (ri.map .int)))))= .ok (.nx (P s7 y8 y9 TL TB (some (.val (.tup (ri.map .int)))))):=by
  have tt:fT (f2 eG (f2 cw (f2 gC (ac 1) (fC (.int 5))) (fC (.int 2))) (fC (.int 1))) (P (O rd) y8 y9 TL TB (some (.val (.tup (ri.map .int)))))= .ok (decide (c / 5%2=1)):=bG (aj (aj (aj (a:= .int c) (b:= .int 5) rfl rfl (gL (by decide))) rfl (bI (by decide))) rfl jJ)
  by_cases z:c / 5%2=1
  ·exact⟨rd.reverse,some (.val (.lst (rd.reverse.map j0))),by simp,rfl,by rw[fV (by rw[tt,decide_eq_true z])];exact aZ (d:= .lst (rd.reverse.map j0)) (by unfold Bx;rw[show (ac 7:ah->R D) (P (O rd) y8 y9 TL TB (some (.val (.tup (ri.map .int)))))= .ok (.lst (rd.map j0))from rfl,aq,List.map_reverse]) rfl⟩
  ·exact⟨rd,O rd,rfl,rfl,by rw[c9 (by rw[tt,decide_eq_false z])];rfl⟩
 refine⟨ri,UI,bE rfl ?_,by omega,by omega⟩
 show iU [some (.val M),some (.val (.int c)),some (.val (.bl mx)),none,none,none,none,none,none,none,none,none,none]=_
 unfold iU
 rw[av (ρ':=[some (.val M),some (.val (.int c)),some (.val (.bl mx)),some (.val (.int Ui)),none,none,none,none,none,none,none,none,none]) (aZ (aj (a:= .int c) (b:= .int 5) rfl rfl (bI (by decide))) rfl)]
 rw[av (ρ':=[some (.val M),some (.val (.int c)),some (.val (.bl mx)),some (.val (.int Ui)),some (.val (.int (m.ss.length:Int))),none,none,none,none,none,none,none,none]) (aZ (aU (a9 (aj (a:=M) rfl rfl HN) rfl) (by rw[gM,JR])) rfl)]
 rw[av (ρ':=[some (.val M),some (.val (.int c)),some (.val (.bl mx)),some (.val (.int Ui)),some (.val (.int (m.ss.length:Int))),some (.val F),none,none,none,none,none,none,none]) (aZ (bu (n:=4) (ds:=[.int (c / 10), .bl mx, .int ((2*m.ss.length+n:Nat):Int), .int 10010]) (a9 (aj (a:= .int c) (b:= .int 10) rfl rfl (gL (by decide))) (a9 rfl (a9 (aj (a:= .int (2*(m.ss.length:Int))) (b:= .int (n:Int)) (aj (a:= .int 2) (b:= .int (m.ss.length:Int)) rfl rfl (xr (by decide))) (aj (a:=M) rfl rfl Ep) (by rw[cB];congr 2)) rfl))) rfl e1) rfl)]
 rw[av (ρ':=P none none none none none none) (aZ (bu (n:=5) (a9 rfl (a9 (aj (a:=M) rfl rfl Ep) (a9 (aj (a:=M) rfl rfl HN) (a9 (aj (a:=M) rfl rfl Gb) (a9 (aj (a:= .lst [.lst [.int 5000, .int 1000], .lst [.int 1, .int 1]]) rfl (aU (a9 (aj (a:= .int Ui) (b:= .int 2) rfl rfl kQ) rfl) xN) a25) rfl))))) rfl e2) rfl)]
 rw[av (ρ':=P (O []) none none none none none) rfl,av e3,av (ρ':=P (O rd) y8 y9 TL TB (some (.val (.tup (Vt.map .int))))) (aZ (aj (a:=W) rfl rfl HK) rfl),av (h4 _ _ rfl),av h5]
 exact dz (bM (ds:=[.str "day passes", .tup (ri.map .int), .tup (UI.map j0)]) (a9 rfl (a9 rfl (a9 (aU (a9 a29 rfl) rfl) rfl))) (show 3<=lim by decide))
end
theorem Gj {i j:Nat} {mf:List Slot->List D->R (D×List Slot)} {k:Nat} {fs:ah->R (List D)} {ρ:ah} {ds:List D} {d:D} {s p s' p':Slot} (h:eX ρ [i,j]=some [s,p]) (VC:i≠j) (k1:s.kind=2) (k2:p.kind=1) (h2:fs ρ= .ok ds) (hl:ds.length=k) (e:mf [s,p] ds= .ok (d,[s',p'])) (k3:s'.kind=2) (k4:p'.kind=1):dJ [i,j] mf k fs ρ= .ok (d,uw ρ [i,j] [s',p']):=by
 unfold dJ
 rw[h]
 dsimp only
 rw[if_pos ⟨by simp only[Lq,Q_,k1,k2];rfl,by simp[VC]⟩,h2,aq,if_pos hl,e]
 dsimp only
 rw[if_pos (by simp only[J_,Lh,k1,k2,k3,k4])]
theorem uY {fx:ah->R (D×ah)} {ρ ρ':ah} {b:Bool} (h:fx ρ= .ok (.bl b,ρ')):kR (qr fx) ρ= .ok (!b,ρ'):=by unfold kR qr;rw[h];rfl
theorem CB {gx:ah->R (Bool×ah)} {g g':ah->R bn} {ρ ρ':ah} (h:gx ρ= .ok (false,ρ')):qt gx g g' ρ=g' ρ':=by unfold qt;rw[h];rfl
def m0:Mo:=⟨0,[],[],[],[],[]⟩
theorem HS:m0.Ok:=⟨.nil,λr h=>(by cases h),by decide, .refl _, .nil,λx h=>(by cases h),by decide,by decide⟩
theorem HU (n:Int):m0.Rg n:=⟨λr h=>(by cases h),λr h=>(by cases h)⟩
theorem tr0 (n:Int):Tr n [] m0 []:= .nil HS (HU n) rfl
theorem Au {n:Int} (h0:0<=n) (h7:n<=7):eh [.int n]= .ok (kL n (bJ n m0),"history",[]):=by
 unfold eh lE
 rw[if_pos (show [D.int n].length=1 from rfl)]
 show (js [some .obj,some (.val (.int n)),none,none,none]>>=_)=_
 unfold js
 rw[av (ρ':=[some .obj,some (.val (.int n)),none,none,none]) (by
  rw[c9]
  ·rfl
  ·unfold oZ
   rw[bG (aj (a:= .int n) (b:= .int 0) rfl rfl o5),aq,decide_eq_false (by omega),if_neg (by simp)]
   rw[bG (aj (a:= .int n) (b:= .int 7) rfl rfl kQ),decide_eq_false (by omega)])]
 rfl
section
variable {n:Nat}
theorem Gk (ns:List Int) (k:Nat) {x:Int} (h:x=(k:Int)):bz [.scr ns, .int x]= .ok (.int (cel ns k)):=by rw[h];exact qN ns k
theorem CC {ds:List b9} (hf:∀d∈ds,d.Fit) {tr:List Mo} {m:Mo} {hs:List D} (t:Tr (n:Int) tr m hs):∃SJ m' Ru,Tr (n:Int) SJ m' Ru/\fZ [aD (n:Int) (bJ (n:Int) m) hs,pO (n:Int) tr m] [.lst (ds.map b9.dt)]= .ok (.bl true,[aD (n:Int) (bJ (n:Int) m') Ru,pO (n:Int) SJ m']):=by
 let F (s p:Slot) (y:Option Slot):ah:=[some s,some p,some (.val (.lst (ds.map b9.dt))),y]
 have Vl:∀(l:List b9),(∀d∈l,d.Fit)->∀tr m hs y,Tr (n:Int) tr m hs->∃SJ m' Ru y',Tr (n:Int) SJ m' Ru/\eF (gN 3) nJ (l.map b9.dt) (F (aD (n:Int) (bJ (n:Int) m) hs) (pO (n:Int) tr m) y)= .ok (.nx (F (aD (n:Int) (bJ (n:Int) m') Ru) (pO (n:Int) SJ m') y')):=by
  intro l
  induction l with
  |nil=>exact λ_ tr m hs y t=>⟨tr,m,hs,y,t,rfl⟩
  |cons d l ih=>
   intro hf tr m hs y t
   obtain⟨Yt,m1,Xp,t1,e1⟩:=tM t d (hf d K6)
   obtain⟨Xi,m2,VX,y2,t2,e2⟩:=ih (λx hx=>hf x (K8 _ hx)) Yt m1 Xp (some (.val d.dt)) t1
   refine⟨Xi,m2,VX,y2,t2,?_⟩
   rw[J_,o7 (ρ1:=F (aD (n:Int) (bJ (n:Int) m) hs) (pO (n:Int) tr m) (some (.val d.dt))) rfl (show nJ _= .ok (.nx (F (aD (n:Int) (bJ (n:Int) m1) Xp) (pO (n:Int) Yt m1) (some (.val d.dt))))from (CB (uY (Gj (i:=0) (j:=1) (k:=1) rfl (by decide) rfl rfl (a9 rfl rfl) rfl e1 rfl rfl)))),e2]
 obtain⟨SJ,m',Ru,y,t',e⟩:=Vl ds hf tr m hs none t
 refine⟨SJ,m',Ru,t',gg ⟨rfl,rfl⟩ (ρ:=F (aD (n:Int) (bJ (n:Int) m') Ru) (pO (n:Int) SJ m') y) ?_ rfl⟩
 show pD (F (aD (n:Int) (bJ (n:Int) m) hs) (pO (n:Int) tr m) none)=_
 unfold pD
 rw[av ((pc (ds:=ds.map b9.dt) rfl).trans e)]
 rfl
theorem CD {fs:ah->R (List D)} {ρ:ah} {ds:List D} (h:fs ρ= .ok ds) (hl:ds.length<=1000):eB fs ρ= .ok (.lst ds):=by unfold eB;rw[h,aq,if_pos (by unfold lim;omega)]
theorem pN (x:Int) (k:Nat) (h:0<k):∃j:Nat,x%(k:Int)=(j:Int)/\j<k:=by
 have a:=OO x (show (k:Int)≠0 by omega)
 have b:=Q8 x (show (0:Int)<k by omega)
 exact⟨(x%(k:Int)).toNat,by omega,by omega⟩
theorem wx (ns:List Int) {m:Mo} (h7:n<=7):∃ds:List b9,f6 [.scr ns,bL (n:Int) m]= .ok (.lst (ds.map b9.dt))/\∀d∈ds,d.Fit:=by
 obtain⟨a,ha,a2z⟩:=pN (cel ns 2) 4 (by decide)
 obtain⟨b,hb,a2A⟩:=pN (cel ns 1) 4 (by decide)
 let M:=bL (n:Int) m
 let P (x y:Option Slot):ah:=[some (.val (.scr ns)),some (.val M),some (.val (.int (n:Int))),x,y]
 let K:Option Slot:=some (.val (.int ((9+a:Nat):Int)))
 let cs:List b9:=(Kw (11+b)).map λk:Nat=> .comes ((k:Int)%((n:Int)+1)) (((k:Int)+1)%((n:Int)+1))
 have Yc:∀d∈cs,d.Fit:=λd hd=>by obtain⟨k,_,rfl⟩:=Lp.mp hd;exact trivial
 have a2B:cs.length<=14:=by simp[cs];omega
 have e1:aX (f2 b6 (ac 1) (fC (.int 0))) (gN 2) [some (.val (.scr ns)),some (.val M),none,none,none]= .ok (.nx [some (.val (.scr ns)),some (.val M),some (.val (.int (n:Int))),none,none]):=aZ (aj (a:=M) rfl rfl Ep) rfl
 have e2:aX (f2 br (fC (.int 9)) (f2 cw (aL bz 2 (a8 (au 0) (a8 (fC (.int 2)) (ag)))) (fC (.int 4)))) (gN 3) [some (.val (.scr ns)),some (.val M),some (.val (.int (n:Int))),none,none]= .ok (.nx (P K none)):=aZ (aj (a:= .int 9) (b:= .int (a:Int)) rfl (aj (bu (n:=2) (a9 rfl (a9 rfl rfl)) rfl (Jo ns)) rfl ((bI (by decide)).trans (by rw[show (4:Int)=((4:Nat):Int)from rfl,ha]))) (by rw[cB];congr 2)) rfl
 have ec:∀{N:List JN} {names:List (JN×NameKind)},hJ N names (P K none)=[none,none,some (.val (.int (n:Int)))]->bH N names (c8 (a8 (f2 br (fC (.int 11)) (f2 cw (aL bz 2 (a8 (au 0) (a8 (fC (.int 1)) (ag)))) (fC (.int 4)))) (ag))) (gN 1) (fq) (bA (a8 (fC (.str "stream comes")) (a8 (f2 cw (ac 1) (f2 br (ac 2) (fC (.int 1)))) (a8 (f2 cw (f2 br (ac 1) (fC (.int 1))) (f2 br (ac 2) (fC (.int 1)))) (ag))))) (P K none)= .ok (cs.map b9.dt):=λ{N names} hr=>by
  rw[jV (enc:=λk:Nat=>D.int (k:Int)) (l:=Kw (11+b)) (out:=λk=>(b9.comes ((k:Int)%((n:Int)+1)) (((k:Int)+1)%((n:Int)+1))).dt) (fX (n:=11+b) (a9 (aj (a:= .int 11) (b:= .int (b:Int)) rfl (aj (bu (n:=2) (a9 rfl (a9 rfl rfl)) rfl (JH ns)) rfl ((bI (by decide)).trans (by rw[show (4:Int)=((4:Nat):Int)from rfl,hb]))) (by rw[cB];congr 2)) rfl) (by unfold lim;omega)) (by simp;omega) hr λk _=> ?_,K_]
  ·rfl
  ·have n1:f2 br (ac 2) (fC (.int 1)) [none,some (.val (.int (k:Int))),some (.val (.int (n:Int)))]= .ok (.int ((n:Int)+1)):=aj (a:= .int (n:Int)) (b:= .int 1) rfl rfl cB
   exact bM (ds:=[.str "stream comes", .int ((k:Int)%((n:Int)+1)), .int (((k:Int)+1)%((n:Int)+1))]) (a9 rfl (a9 (aj (a:= .int (k:Int)) rfl n1 (bI (by omega))) (a9 (aj (aj (a:= .int (k:Int)) (b:= .int 1) rfl rfl cB) n1 (bI (by omega))) rfl))) (show 3<=lim by decide)
 let O (ds:List b9):Option Slot:=some (.own (.lst (ds.map b9.dt)))
 have tt:fT (f2 eG (f2 cw (f2 gC (aL bz 2 (a8 (au 0) (a8 (fC (.int 2)) (ag)))) (fC (.int 4))) (fC (.int 2))) (fC (.int 0))) (P K (O cs))= .ok (decide (cel ns 2 / 4%2=0)):=bG (aj (aj (aj (bu (n:=2) (a9 rfl (a9 rfl rfl)) rfl (Jo ns)) rfl (gL (by decide))) rfl (bI (by decide))) rfl jJ)
 have rk:c8 (a8 (au 3) (ag)) (P K (O cs))= .ok ((Kw (9+a)).map λk:Nat=>D.int (k:Int)):=fX (a9 rfl rfl) (by unfold lim;omega)
 have go:∃ds:List b9,kJ [some (.val (.scr ns)),some (.val M),none,none,none]= .ok (.ret (.lst (ds.map b9.dt)))/\∀d∈ds,d.Fit:=by
  unfold kJ
  rw[av e1,av e2,av (ρ':=P K (O cs)) (own_of (ec rfl))]
  by_cases z:cel ns 2 / 4%2=0
  ·let xs:List Int:=(Kw (9+a)).map λk:Nat=>(k:Int)+1
   refine⟨cs++[.mcome xs],?_,λd hd=> ?_⟩
   ·rw[av (ρ':=P K (O (cs++[.mcome xs]))) (by
     rw[fV (by rw[tt,decide_eq_true z])]
     have hT:bA (a8 (fC (.str "meters come")) (a8 (ck bV (a8 (fL (bH ["_law_script","_law_model","_law_n","_law_many","_law_deeds"] [(".0", .local),("_law_k", .local)] (c8 (a8 (au 3) (ag))) (gN 1) (fq) (f2 br (ac 1) (fC (.int 1))))) (ag))) (ag))) (P K (O cs))= .ok (b9.mcome xs).dt:=bM (ds:=[.str "meters come", .tup (xs.map .int)]) (a9 rfl (a9 (aU (a9 (d:= .lst (xs.map .int)) (l5 (by
       rw[jV (enc:=λk:Nat=>D.int (k:Int)) (l:=Kw (9+a)) (out:=λk=> .int ((k:Int)+1)) rk (by simp;omega) (rest:=[]) rfl λk _=>aj (a:= .int (k:Int)) (b:= .int 1) rfl rfl cB,K_];rfl)) rfl) rfl) rfl)) (show 2<=lim by decide)
     show (bA _ (P K (O cs))>>=λd=>if (cs.map b9.dt).length<lim then R.ok (bn.nx ((P K (O cs)).set 4 (some (.own (.lst (cs.map b9.dt++[d]))))))else .bad)=_
     rw[hT,aq,if_pos (by rw[JR];unfold lim;omega),show cs.map b9.dt++[(b9.mcome xs).dt]=(cs++[b9.mcome xs]).map b9.dt by simp]
     rfl)]
    rfl
   ·rcases KH.mp hd with hd|hd
    ·exact Yc d hd
    ·rw[K7.mp hd];show xs.length<=40;simp[xs];omega
  ·let ms:List b9:=(Kw (9+a)).map λk:Nat=> .mcome [(k:Int)+1]
   refine⟨cs++ms,?_,λd hd=> ?_⟩
   ·rw[av (ρ':=P K (some (.val (.lst ((cs++ms).map b9.dt))))) (by
     rw[c9 (by rw[tt,decide_eq_false z])]
     refine aZ (aj (a:= .lst (cs.map b9.dt)) (b:= .lst (ms.map b9.dt)) rfl (l5 (by
      rw[jV (enc:=λk:Nat=>D.int (k:Int)) (l:=Kw (9+a)) (out:=λk=>(b9.mcome [(k:Int)+1]).dt) rk (by simp;omega) (rest:=[]) rfl λk _=>bM (ds:=[.str "meters come", .tup [.int ((k:Int)+1)]]) (a9 rfl (a9 (bM (ds:=[.int ((k:Int)+1)]) (a9 (aj (a:= .int (k:Int)) (b:= .int 1) rfl rfl cB) rfl) (show 1<=lim by decide)) rfl)) (show 2<=lim by decide),K_];rfl)) (by rw[n8 (by simp[ms];unfold lim;omega),Kn])) rfl)]
    rfl
   ·rcases KH.mp hd with hd|hd
    ·exact Yc d hd
    ·obtain⟨k,_,rfl⟩:=Lp.mp hd;show [_].length<=40;simp
 obtain⟨ds,e,hf⟩:=go
 exact⟨ds,bE rfl e,hf⟩
theorem tO {m:Mo} (g:m.Ok) (q:m.Rg (n:Int)) (h7:n<=7) (c:Int):∃ds:List b9,cq [bL (n:Int) m, .int c]= .ok (.lst (ds.map b9.dt))/\∀d∈ds,d.Fit:=by
 obtain⟨ri,rd,e1,h1,h2⟩:=mY g q h7 c true
 let M:=bL (n:Int) m
 let P (y z:Option Slot):ah:=[some (.val M),some (.val (.int c)),some (.val (.int (n:Int))),y,z]
 have Yd:∀k:Nat,∃d:b9,fU [dF ri rd, .int (c*5%630+(k:Int))]= .ok d.dt/\d.Fit:=λk=>by
  obtain⟨Sq,UI,e,a,b⟩:=As ri rd (c*5%630+(k:Int)) (by omega) (by omega)
  exact⟨.pass Sq UI,e,⟨by omega,by omega⟩⟩
 let bd (k:Nat):b9:=Classical.choose (Yd k)
 have a0j:∀k:Nat,fU [dF ri rd, .int (c*5%630+(k:Int))]= .ok (bd k).dt/\(bd k).Fit:=λk=>Classical.choose_spec (Yd k)
 let d1:List b9:=[.comes (c%((n:Int)+1)) ((c+1)%((n:Int)+1)), .goes (1+c%13)]
 let d2:List b9:=[.mcome [], .mcome [11+c%3], .mgo [1+c%12]]
 let d3:List b9:=[.comes 0 0, .goes 70, .mcome [70,1], .mgo [1,1]]
 let d4:List b9:=[.comes 9 9, .mcome [1,12], .mgo [11,12]]
 let ds:List b9:=d1++d2++d3++d4++[.pass ri rd]++(Kw 5).map bd
 have n1:∀{y z:Option Slot},f2 br (ac 2) (fC (.int 1)) (P y z)= .ok (.int ((n:Int)+1)):=λ{y z}=>aj (a:= .int (n:Int)) (b:= .int 1) rfl rfl cB
 have cm:∀{y z:Option Slot} {k:Int},0<k->f2 cw (ac 1) (fC (.int k)) (P y z)= .ok (.int (c%k)):=λ{y z k} hk=>aj (a:= .int c) (b:= .int k) rfl rfl (bI hk)
 have l1:(1:Nat)<=lim:=by decide
 have l2:(2:Nat)<=lim:=by decide
 have l3:(3:Nat)<=lim:=by decide
 refine⟨ds,bE rfl ?_,λd hd=> ?_⟩
 ·show ig [some (.val M),some (.val (.int c)),none,none,none]=_
  unfold ig
  rw[av (ρ':=P none none) (aZ (aj (a:=M) rfl rfl Ep) rfl)]
  rw[av (ρ':=P (some (.own (.lst (d1.map b9.dt)))) none) (by
   unfold lj
   rw[a9 (d:=(b9.comes (c%((n:Int)+1)) ((c+1)%((n:Int)+1))).dt) (ds:=[(b9.goes (1+c%13)).dt]) (bM (ds:=[.str "stream comes", .int (c%((n:Int)+1)), .int ((c+1)%((n:Int)+1))]) (a9 rfl (a9 (aj (a:= .int c) rfl n1 (bI (by omega))) (a9 (aj (aj (a:= .int c) (b:= .int 1) rfl rfl cB) n1 (bI (by omega))) rfl))) l3) (a9 (bM (ds:=[.str "stream goes", .int (1+c%13)]) (a9 rfl (a9 (aj (a:= .int 1) rfl (cm (by decide)) cB) rfl)) l2) rfl)]
   rfl)]
  rw[av (ρ':=P (some (.val (.lst ((d1++d2).map b9.dt)))) none) (aZ (aj (a:= .lst (d1.map b9.dt)) (b:= .lst (d2.map b9.dt)) rfl (CD (a9 (d:=(b9.mcome []).dt) (bM (ds:=[.str "meters come", .tup []]) rfl l2) (a9 (d:=(b9.mcome [11+c%3]).dt) (bM (ds:=[.str "meters come", .tup [.int (11+c%3)]]) (a9 rfl (a9 (bM (ds:=[.int (11+c%3)]) (a9 (aj (a:= .int 11) rfl (cm (by decide)) cB) rfl) l1) rfl)) l2) (a9 (d:=(b9.mgo [1+c%12]).dt) (bM (ds:=[.str "meters go", .tup [.int (1+c%12)]]) (a9 rfl (a9 (bM (ds:=[.int (1+c%12)]) (a9 (aj (a:= .int 1) rfl (cm (by decide)) cB) rfl) l1) rfl)) l2) rfl))) (by simp[d2])) (by rw[n8 (by simp[d1,d2];unfold lim;omega),<-Kn])) rfl)]
  rw[av (ρ':=P (some (.val (.lst ((d1++d2++d3).map b9.dt)))) none) (aZ (aj (a:= .lst ((d1++d2).map b9.dt)) (b:= .lst (d3.map b9.dt)) rfl rfl (by rw[n8 (by simp[d1,d2,d3];unfold lim;omega),<-Kn])) rfl)]
  rw[av (ρ':=P (some (.val (.lst ((d1++d2++d3++d4).map b9.dt)))) none) (aZ (aj (a:= .lst ((d1++d2++d3).map b9.dt)) (b:= .lst (d4.map b9.dt)) rfl rfl (by rw[n8 (by simp[d1,d2,d3,d4];unfold lim;omega),<-Kn])) rfl)]
  rw[av (ρ':=P (some (.val (.lst ((d1++d2++d3++d4).map b9.dt)))) (some (.val (dF ri rd)))) (aZ (bu (n:=3) (a9 rfl (a9 rfl (a9 rfl rfl))) rfl e1) rfl)]
  refine dz (aj (a:= .lst ((d1++d2++d3++d4++[b9.pass ri rd]).map b9.dt)) (b:= .lst (((Kw 5).map bd).map b9.dt)) (aj (a:= .lst ((d1++d2++d3++d4).map b9.dt)) (b:= .lst [(b9.pass ri rd).dt]) rfl (CD (a9 rfl rfl) (by simp)) (by rw[n8 (by simp[d1,d2,d3,d4];unfold lim;omega),Kn (l₁:=d1++d2++d3++d4)];rfl)) (l5 ?_) (by rw[n8 (by simp[d1,d2,d3,d4];unfold lim;omega),<-Kn]))
  rw[jV (enc:=λk:Nat=>D.int (k:Int)) (l:=Kw 5) (out:=λk=>(bd k).dt) (fX (n:=5) (a9 rfl rfl) (by decide)) (by decide) (rest:=[none,some (.val (.int c)),some (.val (dF ri rd))]) rfl λk _=>bu (n:=2) (a9 rfl (a9 (aj (b:= .int (k:Int)) (aj (aj (a:= .int c) (b:= .int 5) rfl rfl (ur (by decide))) rfl (bI (by decide))) rfl cB) rfl)) rfl (a0j k).1,K_]
  rfl
 ·simp only[ds,d1,d2,d3,d4,KH,K1,KN,or_false,Lp]at hd
  rcases hd with ((((((rfl|rfl)|(rfl|rfl|rfl))|(rfl|rfl|rfl|rfl))|(rfl|rfl|rfl)))|rfl)|⟨k,_,rfl⟩
  all_goals first|exact(a0j _).2|trivial|(show N6 _<=40;simp)|exact⟨by omega,by omega⟩
end
theorem xS {fs:ah->R (List D)} {ρ:ah} {j:Int} (h:fs ρ= .ok [.int j]) (hj:j.natAbs<=1000):c8 fs ρ= .ok ((Kw j.toNat).map λk:Nat=>D.int (k:Int)):=by
 unfold c8
 rw[h,aq]
 show (if j.natAbs<=lim then R.ok (jl 0 j)else .bad)=_
 rw[if_pos (by unfold lim;omega)]
 unfold jl
 rw[Int.sub_zero]
 congr 1
 refine MF λk _=> ?_
 rw[Int.zero_add]
abbrev lR (ns:List Int) (n:Nat) (s p:Slot) (k d:Option Slot):ah:=[some (.val (.scr ns)),some (.val (.int (n:Int))),some p,some s,k,d]
section
variable {ns:List Int} {n:Nat}
theorem y_ {gb:ah->R bn} (hb:∀(k:Nat) (tr:List Mo) (m:Mo) (hs:List D) (y:Option Slot),Tr (n:Int) tr m hs->∃SJ m' Ru y',Tr (n:Int) SJ m' Ru/\gb (lR ns n (aD (n:Int) (bJ (n:Int) m) hs) (pO (n:Int) tr m) (some (.val (.int (k:Int)))) y)= .ok (.nx (lR ns n (aD (n:Int) (bJ (n:Int) m') Ru) (pO (n:Int) SJ m') (some (.val (.int (k:Int)))) y'))):
  ∀(ks:List Nat) {tr:List Mo} {m:Mo} {hs:List D} (x y:Option Slot),Tr (n:Int) tr m hs->∃SJ m' Ru x' y',Tr (n:Int) SJ m' Ru/\eF (gN 4) gb (ks.map λk:Nat=>D.int (k:Int)) (lR ns n (aD (n:Int) (bJ (n:Int) m) hs) (pO (n:Int) tr m) x y)= .ok (.nx (lR ns n (aD (n:Int) (bJ (n:Int) m') Ru) (pO (n:Int) SJ m') x' y'))
 |[],tr,m,hs,x,y,t=>⟨tr,m,hs,x,y,t,rfl⟩
 |k::ks,tr,m,hs,x,y,t=>by
  obtain⟨Yt,m1,Xp,y1,t1,e1⟩:=hb k tr m hs y t
  obtain⟨Xi,m2,VX,x2,y2,t2,e2⟩:=y_ hb ks (some (.val (.int (k:Int)))) y1 t1
  exact⟨Xi,m2,VX,x2,y2,t2,by rw[J_,o7 rfl e1,e2]⟩
theorem CF {tr:List Mo} {m:Mo} {hs:List D} (t:Tr (n:Int) tr m hs) (d:b9) (hf:d.Fit) {x y:Option Slot} {fs:ah->R (List D)} (h:fs (lR ns n (aD (n:Int) (bJ (n:Int) m) hs) (pO (n:Int) tr m) x y)= .ok [d.dt]):∃SJ m' Ru,Tr (n:Int) SJ m' Ru/\qt (kR (qr (dJ [3,2] cM 1 fs))) (bB (fC (.bl false))) aI (lR ns n (aD (n:Int) (bJ (n:Int) m) hs) (pO (n:Int) tr m) x y)= .ok (.nx (lR ns n (aD (n:Int) (bJ (n:Int) m') Ru) (pO (n:Int) SJ m') x y)):=by
 obtain⟨SJ,m',Ru,t',e⟩:=tM t d hf
 exact⟨SJ,m',Ru,t',CB (uY (Gj (i:=3) (j:=2) (k:=1) rfl (by decide) rfl rfl h rfl e rfl rfl))⟩
theorem Gm {tr:List Mo} {m:Mo} {hs:List D} (t:Tr (n:Int) tr m hs) {ds:List b9} (hf:∀d∈ds,d.Fit) {x y:Option Slot} {fs:ah->R (List D)} (h:fs (lR ns n (aD (n:Int) (bJ (n:Int) m) hs) (pO (n:Int) tr m) x y)= .ok [.lst (ds.map b9.dt)]):∃SJ m' Ru,Tr (n:Int) SJ m' Ru/\qt (kR (qr (dJ [3,2] fZ 1 fs))) (bB (fC (.bl false))) aI (lR ns n (aD (n:Int) (bJ (n:Int) m) hs) (pO (n:Int) tr m) x y)= .ok (.nx (lR ns n (aD (n:Int) (bJ (n:Int) m') Ru) (pO (n:Int) SJ m') x y)):=by
 obtain⟨SJ,m',Ru,t',e⟩:=CC hf t
 exact⟨SJ,m',Ru,t',CB (uY (Gj (i:=3) (j:=2) (k:=1) rfl (by decide) rfl rfl h rfl e rfl rfl))⟩
end
theorem main (ns:List Int) (hl:ns.length<=63):tE [.scr ns]= .ok (.bl true):=by
 obtain⟨a0,h0,l0⟩:=pN (cel ns 0) 7 (by decide)
 obtain⟨a3,h3,l3⟩:=pN (cel ns 3) 4 (by decide)
 obtain⟨a4,h4,l4⟩:=pN (cel ns 4) 5 (by decide)
 obtain⟨a6,h6,l6⟩:=pN (cel ns 6) 4 (by decide)
 obtain⟨n,hn⟩:∃n:Nat,n=1+a0:=⟨_,rfl⟩
 have h7:n<=7:=by omega
 let L (m:Mo) (hs:List D) (tr:List Mo) (x y:Option Slot):ah:=lR ns n (aD (n:Int) (bJ (n:Int) m) hs) (pO (n:Int) tr m) x y
 have at_:∀{ρ:ah} {k:Nat} {x:Int},(au 0:ah->R D) ρ= .ok (.scr ns)->x=(k:Int)->aL bz 2 (a8 (au 0) (a8 (fC (.int x)) (ag))) ρ= .ok (.int (cel ns k)):=λ{ρ k x} h e=>bu (n:=2) (a9 h (a9 rfl rfl)) rfl (Gk ns k e)
 have Xj:∀{ρ:ah} {k j b:Nat} {u:Nat} {x c y:Int},(au 0:ah->R D) ρ= .ok (.scr ns)->x=(k:Int)->y=(u:Int)->c=(j:Int)->cel ns k%(u:Int)=(b:Int)->0<u->f2 br (fC (.int c)) (f2 cw (aL bz 2 (a8 (au 0) (a8 (fC (.int x)) (ag)))) (fC (.int y))) ρ= .ok (.int ((j+b:Nat):Int)):=λ{ρ k j b u x c y} h e e2 e3 hm hu=>aj (a:= .int c) (b:= .int (b:Int)) rfl (aj (at_ h e) rfl ((bI (by omega)).trans (by rw[e2,hm]))) (by rw[cB,e3];congr 2)
 obtain⟨a2C,q1,g1⟩:=wx (m:=m0) ns h7
 obtain⟨Yt,m1,Xp,t1,e1⟩:=Gm (ns:=ns) (tr0 (n:Int)) g1 (x:=none) (y:=none) (fs:=a8 (aL f6 2 (a8 (au 0) (a8 (f2 b6 (ac 2) (fC (.int 0))) (ag)))) (ag)) (a9 (bu (n:=2) (a9 rfl (a9 (aj (a:= .lst (cU (n:Int) [] m0)) rfl rfl (Ga 0 rfl)) rfl)) rfl q1) rfl)
 obtain⟨Xi,m2,VX,x2,y2,t2,e2⟩:=y_ (ns:=ns) (gb:=xB) (λk tr m hs y t=>by
  obtain⟨ri,rd,e,b1,b2⟩:=mY t.ok t.rg h7 (cel ns (8+k)+(k:Int)) (decide (cel ns 5%2=1))
  obtain⟨SJ,m',Ru,t',e'⟩:=CF (ns:=ns) t (.pass ri rd) ⟨by omega,by omega⟩ (x:=some (.val (.int (k:Int)))) (y:=some (.val (dF ri rd))) (fs:=a8 (au 5) ag) rfl
  refine⟨SJ,m',Ru,some (.val (dF ri rd)),t',?_⟩
  unfold xB
  rw[av (ρ':=lR ns n (aD (n:Int) (bJ (n:Int) m) hs) (pO (n:Int) tr m) (some (.val (.int (k:Int)))) (some (.val (dF ri rd)))) (aZ (bu (n:=3) (a9 (aj (a:= .lst (cU (n:Int) tr m)) (b:= .int (-1)) rfl rfl iD) (a9 (aj (b:= .int (k:Int)) (bu (n:=2) (a9 rfl (a9 (d:= .int ((8+k:Nat):Int)) (aj (a:= .int 8) (b:= .int (k:Int)) rfl rfl (by rw[cB];congr 2)) rfl)) rfl (qN ns (8+k))) rfl cB) (a9 (aj (aj (at_ (k:=5) (x:=5) rfl rfl) rfl (bI (by decide))) rfl jJ) rfl))) rfl e) rfl)]
  exact e') (Kw (11+a3)) none none t1
 obtain⟨a2a,m3,a2D,x3,y3,t3,e3⟩:=y_ (ns:=ns) (gb:=C4) (λk tr m hs y t=>by
  obtain⟨SJ,m',Ru,t',e'⟩:=CF (ns:=ns) t (.mcome []) (show (0:Nat)<=40 by decide) (x:=some (.val (.int (k:Int)))) (y:=y) (fs:=a8 (bA (a8 (fC (.str "meters come")) (a8 (bA (ag)) (ag)))) (ag)) rfl
  exact⟨SJ,m',Ru,y,t',e'⟩) (Kw (((58:Int)+(a4:Int)) - ((cU (n:Int) Xi m2).length:Int)+1).toNat) x2 y2 t2
 obtain⟨a2E,q4,g4⟩:=tO t3.ok t3.rg h7 (cel ns 5)
 obtain⟨a2F,m4,a2G,t4,e4⟩:=Gm (ns:=ns) t3 g4 (x:=x3) (y:=y3) (fs:=a8 (aL cq 2 (a8 (f2 b6 (ac 2) (f1 jm (fC (.int 1)))) (a8 (aL bz 2 (a8 (au 0) (a8 (fC (.int 5)) (ag)))) (ag)))) (ag)) (a9 (bu (n:=2) (a9 (aj (a:= .lst (cU (n:Int) a2a m3)) (b:= .int (-1)) rfl rfl iD) (a9 (at_ (k:=5) (x:=5) rfl rfl) rfl)) rfl q4) rfl)
 obtain⟨a2b,m5,a2H,x5,y5,t5,e5⟩:=y_ (ns:=ns) (gb:=C5) (λk tr m hs y t=>by
  obtain⟨SJ,m',Ru,t',e'⟩:=CF (ns:=ns) t .back trivial (x:=some (.val (.int (k:Int)))) (y:=y) (fs:=a8 (bA (a8 (fC (.str "take back")) (ag))) (ag)) rfl
  exact⟨SJ,m',Ru,y,t',e'⟩) (Kw (1+a6)) x3 y3 t4
 obtain⟨a2I,q6,g6⟩:=tO t5.ok t5.rg h7 (cel ns 7)
 obtain⟨a0k,m6,a2c,t6,e6⟩:=Gm (ns:=ns) t5 g6 (x:=x5) (y:=y5) (fs:=a8 (aL cq 2 (a8 (f2 b6 (ac 2) (f1 jm (fC (.int 1)))) (a8 (aL bz 2 (a8 (au 0) (a8 (fC (.int 7)) (ag)))) (ag)))) (ag)) (a9 (bu (n:=2) (a9 (aj (a:= .lst (cU (n:Int) a2b m5)) (b:= .int (-1)) rfl rfl iD) (a9 (at_ (k:=7) (x:=7) rfl rfl) rfl)) rfl q6) rfl)
 refine bE rfl ?_
 show C6 [some (.val (.scr ns)),none,none,none,none,none]=_
 unfold C6
 rw[av (ρ':=[some (.val (.scr ns)),some (.val (.int (n:Int))),none,none,none,none]) (aZ (d:= .int (n:Int)) (by rw[hn];exact Xj (k:=0) (u:=7) (j:=1) (x:=0) (y:=7) (c:=1) rfl rfl rfl rfl h0 (by decide)) rfl)]
 rw[av (ρ':=[some (.val (.scr ns)),some (.val (.int (n:Int))),some (pO (n:Int) [] m0),none,none,none]) rfl]
 rw[av (ρ':=lR ns n (aD (n:Int) (bJ (n:Int) m0) []) (pO (n:Int) [] m0) none none) (by
  unfold uC
  rw[if_pos (show Ih 3 [some (.val (.scr ns)),some (.val (.int (n:Int))),some (pO (n:Int) [] m0),none,none,none]=true from rfl),a9 (d:= .int (n:Int)) (ds:=[]) rfl rfl,aq,if_pos (show [D.int (n:Int)].length=1 from rfl),Au (by omega) (by omega)]
  rfl)]
 rw[av e1,av ((pc (fX (n:=11+a3) (a9 (Xj (k:=3) (u:=4) (j:=11) (x:=3) (y:=4) (c:=11) rfl rfl rfl rfl h3 (by decide)) rfl) (by unfold lim;omega))).trans e2)]
 rw[av ((pc (xS (j:=((58:Int)+(a4:Int)) - ((cU (n:Int) Xi m2).length:Int)+1) (a9 (aj (aj (aj (a:= .int 58) (b:= .int (a4:Int)) rfl (aj (at_ (k:=4) (x:=4) rfl rfl) rfl ((bI (by decide)).trans (by rw[show (5:Int)=((5:Nat):Int)from rfl,h4]))) cB) (aU (a9 (d:= .lst (cU (n:Int) Xi m2)) rfl rfl) jn) pb) rfl cB) rfl) (by rw[lV,<-t2.len];have:=t2.le;omega))).trans e3)]
 rw[av e4,av ((pc (fX (n:=1+a6) (a9 (Xj (k:=6) (u:=4) (j:=1) (x:=6) (y:=4) (c:=1) rfl rfl rfl rfl h6 (by decide)) rfl) (by unfold lim;omega))).trans e5),av e6]
 exact dz (wj (L:=[3]) rfl (show aL fY 2 (a8 (au 3) (a8 (f2 b6 (ac 2) (f1 jm (fC (.int 1)))) (ag))) (lR ns n (.val (.ins "Cellar" (i0 (n:Int) (bJ (n:Int) m6) a2c))) (pO (n:Int) a0k m6) x5 y5)= .ok (.bl true)from bu (n:=2) (a9 rfl (a9 (aj (a:= .lst (cU (n:Int) a0k m6)) (b:= .int (-1)) rfl rfl iD) rfl)) rfl (xR t6)) (.bl true))
end My
end
inductive PySem.W.Fast
|tw10036747038349989074|tw10103810004795325553|tw10220537146603241774|tw10582319696370158348|tw10611317812251802362|tw10612230904352389053|tw10618464642460105044|tw10656607343181561437|tw10828316231548396617|tw10910938696516681959|tw11045080946545156560|tw11172331486384264027|tw11300825055065272241|tw11340751797384171003|tw1210943564297373954|tw12109531799242347511|tw12269128394424413906|tw12362038609607538949|tw12366699723816514717|tw12455094224169622167|tw12552006982587426868|tw12620862578130029377|tw12839978760321800447|tw12902072073011197696|tw12906113837341997185|tw13038941838510114053|tw1311342176594798575|tw13200226749803295707|tw1320466603215734337|tw13209649094281893582|tw13222347201019294707|tw13558263396363392390|tw13703590715019187630|tw13759113822238432835|tw13771532510366251614|tw1378951330825927613|tw13806471441746252577|tw13979577135709346579|tw1397996897675760784|tw14038829193796250541|tw14070807108175980540|tw14336520805358076636|tw14357998646549778082|tw14695472148861054447|tw14699993906831474832|tw14734812376867807947|tw14899514262402493256|tw14924784520174163649|tw1496496168167545438|tw15026352570666640942|tw15037877308147261667|tw15132170422395366073|tw15177193720283602335|tw15190185521201138372|tw15235250695820393980|tw15269406669298786830|tw1530591647502365028|tw15360851181179195651|tw15478801967442292631|tw15538570014651686174|tw15737321238639272179|tw15844590897406719403|tw15851501698726785122|tw15852741534081425019|tw15926064949218682623|tw15987159664721257827|tw16164502976703709228|tw16265089966800111481|tw164403290705954164|tw16574165397074203291|tw16691995216147613668|tw16907336994918104869|tw16972949659879033245|tw17045787266248326710|tw17264820278021151722|tw17513437032324048243|tw175755357190035989|tw17676975403344824731|tw1770059451981204184|tw17866158603024705568|tw17925782903714667578|tw1803063662436430384|tw18125760132237310926|tw18370769025502915895|tw1861100746252235153|tw2024083774654560895|tw2195030357178611746|tw2219411472902719497|tw2473719563572520765|tw2557203674583013373|tw2595635328339628132|tw2608466965735144052|tw2623440227506513288|tw2741903399288385709|tw2786531936664301881|tw2840380015242705613|tw3047385115559628755|tw315536658946444887|tw3390200557678472435|tw3437552889910747062|tw3474015011346605152|tw3571835255869550719|tw3577539661789077187|tw3599572093256049161|tw3653971178874476157|tw3841755202356952029|tw4092491830299575894|tw4173142848687266564|tw4251072307131391721|tw4291745070998983777|tw4443223877502673978|tw4445692305492990065|tw4526556538488614561|tw453857328192974081|tw4605909745291321888|tw4688488705104685206|tw4693166873959742356|tw4723447730599877960|tw4913254245556299208|tw4918212710360675639|tw5211871423860361171|tw5303453277896591499|tw5333820829893980815|tw5334064443740347090|tw534566303355081848|tw5430911639227520245|tw5626498788030526477|tw5779609524214022269|tw5814319961118997489|tw6022548190627530770|tw6048689179635631608|tw652590947827691020|tw6676090047942923279|tw6745747965228976366|tw6885366050821940802|tw7617914716660527709|tw7641741525057063586|tw813453457333992968|tw8143044005197366817|tw8158672662629697340|tw8249750485314103026|tw8474843634311456421|tw8494795905177304521|tw8577063163588073449|tw8605384281466420185|tw8629658371506253973|tw8752971764780913469|tw8766499133407599206|tw8796315832714243160|tw893891803770662604|tw9137688737740198860|tw9146486302466466102|tw9162085915991977981|tw92386127425513785|tw9339688855257393480|tw9376241581638378602|tw9591310755984416696|tw9747277053076314989|tw9797475403923209038|tw9824211851095828035|tw9867443548292897260|tw9902378874164006190|tw9973495226011303143|tw9977316253346489103
open PySem PySem.W PyProof.Rows
set_option maxRecDepth 100000 in
set_option maxHeartbeats 0 in
theorem PySem.Challenge.cw_tankbalance_k23_bounds_holds : PySem.Challenge.rw_tankbalance_k23_bounds.Holds := by
  w_on; o_law; k_head; (case hw => w_witness2)
  k_fill
  refine My.walk (l := PySem.Challenge.rw_tankbalance_k23_bounds) rfl rfl (fun w h Y => PySem.W.kIn_of Y) My.main ?F
  case F =>
    intro w mg fa h KX G hmg
    refine' My.G5 KX G hmg ?_ ?_ ?_ ?_ ?_ ?_ ?_ ?_ ?_ ?_ ?_ ?_ ?_ ?_ ?_ ?_ ?_ ?_ ?_ ?_ ?_ ?_ ?_ ?_ ?_ ?_ ?_ ?_ ?_ ?_ ?_ ?_ ?_ ?_ ?_ ?_ ?_ ?_ ?_ ?_ ?_ ?_ ?_ ?_ ?_ ?_ ?_ ?_ ?_ ?_ ?_ ?_ ?_ ?_ ?_ ?_ ?_ ?_ ?_ ?_ ?_ ?_ ?_ ?_ ?_ ?_ ?_ ?_ ?_ ?_ ?_ ?_ ?_ ?_ ?_ ?_ ?_ ?_ ?_ ?_ ?_ ?_ ?_ ?_ ?_ ?_ ?_ ?_ ?_ ?_ ?_ ?_ ?_ ?_ ?_ ?_ ?_ ?_ ?_ ?_ ?_ ?_ ?_ ?_ ?_ ?_ ?_ ?_ ?_ ?_ ?_ ?_ ?_ ?_ ?_ ?_ ?_ ?_ ?_ ?_ ?_ ?_ ?_ ?_ ?_ ?_ ?_ ?_
    all_goals try first | k_is | k_exc | (refine' L2.Pu.UF.of ?_ ?_ ?_ ?_ <;> try k_is) | (refine' L2.Pu.q9.of ?_ ?_ ?_ ?_ ?_ <;> try k_is)
    all_goals try (repeat' (first | exact True.intro | refine And.intro ?_ ?_ | (refine @Eq.trans _ _ (some true) _ ?_ rfl; k_is) | (refine @Eq.trans _ _ (some false) _ ?_ rfl; k_is) | k_is | k_exc))
