import PyProof.Rows.All
import Wide.All
import OpenK.AllK
import Wide.FinOn
import Lean
import PyProof.EqAt
import PyProof.EqKinds
import PyProof.TupleCall
import PyProof.NeKinds
import PySem.Challenge.RW_tankbalance_k24_take_back
set_option Elab.async false
set_option linter.all false
set_option maxRecDepth 100000
set_option maxHeartbeats 4000000
open PySem.W renaming Frag->K_,nsIn->Lh,findIn->Lm,mg_of->LC,mroIn->LQ,mg_none_of->LV,keepIn->LX,fnOf->M3,kitOne->Mf,excIn->Mh,kia_one->Mj,emptyDict->MF,instObj->MQ,plainGet->N0,hasDictIn->N9,codeIn->Nh,makesIn->Nt,plainOver->NB,specialIn->NC,kitCls->NI,exmOne->NJ,looks_findIn->NM,takesIn->N_,nd_pure->O5,methodCall_KW->OD,hideAll_none->OG,isFn->OJ,hideAll_get->OR,plainGet_of->OS,lookIn->OT,callWith_K->OX,methodObj->Pd,takerIn->Qc,OpenLaw->Qg,cellsFrom_some->Qk,typeIn->Qu,looks_mroIn->QX,of_hideAll->R3,kitx_list->Rv,kitx_dict->Rw,handedIn->RG,hideAll->RS,kitMeta->S4,WalkO->Sf,Looks->Sg,clsIn->Sh
open PySem renaming Value->L0,Str->L3,Addr->L4,Shared->L5,wpAny_bind->L6,starEach->L8,Spec->L9,Expr->Lc,mainGlobals->Ld,wpAny_pure->Le,wpAny->Lg,model->Lj,Program->Ll,Heap->Lr,eval->Ls,Stmt->Lw,World->Ly,boot_len->Lz,Around->LF,Obj->LJ,backTo->LK,Pos->LR,bootBuiltins->LS,attributeBase->LY,NameKind->M0,wpAny_holding->M1,swapsWith->M6,assignEach->M9,FuncData->Mq,sizeLine_eq->Ms,keywordEach->Mt,compareOp->Mv,behindInMarks->Mz,wpAny_truthy_bool->MJ,Env->MM,wpAny_mono->MR,binaryOp->MS,backToKw->MT,holding->MW,foldedSetIterable->MX,Scope->MZ,bindArgs->N1,wpAny_Call_Name_kw->N4,wpAny_passesOwn->N6,Keyword->N7,cLine->Nf,mem_of_lookup->Nm,standAt->Nq,call_meets->Nv,getMethod->NL,wpAny_call_entry->NO,assign->NR,sliceBounds->NW,wpAny_execs_nil->NY,Tok->O6,codeAny_mono->O7,tupleKind_room_in1->Ob,codeAny->Od,getItem->Oe,wpAny_newObj_type->Oi,Sem->Oq,wpAny_standAt->Ov,wpAny_newList->Ox,callWith->Oz,plainObj_wpAny_Assign_Attribute->OF,IsPart->OL,codeAny_call_builtin->OO,unbindBehindTheSuite->OP,Builtin->OU,swapsWithSole->P2,swappedStores->P4,evalPart_none->P8,wpAny_pyIter_list->Pe,slot_list_getitem->Pf,wpAny_call->Pm,valueAt->Pq,callerA->Pt,GenState->Pw,noFill_tuple_add->PD,wpAny_typeOf->PH,wpAny_getItem_list_slice->PJ,wpAny_comprehension_free->PR,wpAny_check_ga_own->P_,wpAny_callSpecial?_slot->Q5,tupleKind->Qa,letOwnedTupleGo->Qb,atKey->Qf,wpAny_field->Ql,subscripted->Qm,wpAny_Call_method_late->Qp,isTrue->Qs,wpAny_isTrue_Compare1->Qt,BindsTo->Qv,CmpOp->QG,bindL->QH,bindC->QI,seq_tuple_add->QR,Within->R0,PassesOwn->R5,wpAny_pyIter_tuple->R6,Result->R7,concat_meets->Rc,seqIndex_neg->Ri,noteFrame->Rj,scanBound->Rp,Model->Rt,relabel->Ru,wpAny_sequenceKey->Ry,wpAny_collect_seq->RA,seqIndex_of->RD,builtinsNs->RT,wpAny_Name->RU,truthy->RV,typeIs_int->RW,call->RY,checkCount->RZ,wpAny_rule->S0,spliced->S5,setItem->S6,BoolOp->Sm
open List renaming length_map->L7,size_toArray->La,map_cons->Lf,mem_cons->Li,mem_singleton->Lk,mem_cons_self->Lo,mem_cons_of_mem->Lp,getElem?_eq_some_iff->Lq,length_cons->Lu,getElem?_map->Lx,getElem?_eq_getElem->LB,replicate->LD,mem_append_right->LL,length_append->LO,map_append->LU,range->LZ,mem_append->L_,not_mem_nil->M5,any_eq_true->Mc,getD_eq_getElem?_getD->Mg,mem_append_left->Mi,pairwise_cons->Ml,lookup_cons->Mm,replicate_succ->Mn,all_cons->Mp,map_map->Mr,append_nil->Mu,mem_of_getElem?->Mx,map_nil->MA,any_cons->MB,mem_range->ME,getElem?_replicate->MI,getElem?_append_left->MP,mem_map->MU,flatten_cons->MY,length_eq_zero_iff->M_,mem_filter->N5,length_singleton->N8,getElem?_set->Nb,pairwise_map->Nc,all_eq_true->Nk,filterMap_cons->Nl,getElem_of_mem->Nn,nodup_cons->Nu,find?_cons->Nw,nodup_append->ND,toArray->NH,length_filter_le->NK,length_take->NN,getElem?_append->NQ,getElem?_append_right->NS,lookup->NV,map_congr_left->NX,length_nil->O1,pairwise_iff_getElem->O3,drop_eq_getElem_cons->O4,reverse_cons->Oj,append_assoc->Ol,length_range->Om,getElem_mem->OA,length_filter_eq_length_iff->OB,length_replicate->OE,getElem?_set_ne->OI,length_set->OM,length->OV,mem_filterMap->OW,getElem_inj->Px,length_drop->PF,map->Q3,filter_cons->Q4,getElem?_cons_zero->Q8,getElem?_cons_succ->Q9,of_mem_zip->Qd,nil_append->Qe,getElem?_set_self->Qj,dropLast_eq_take->QB,foldl->QK,mem_iff_getElem->QL,zip->QO,dropLast_concat->QP,nodup_iff_count->QQ,map_take->QV,getElem_map->RJ,countP_cons->RK,drop_length->RN,ext_getElem->RP,isEmpty_map->RQ,foldl_cons->RX,count_cons->S1,idxOf_cons->S2,drop_zero->S8,nodup_nil->Sa,all_nil->Sn
open PySem.Heap renaming get?_push_of_some->Lb,lt_size->Ln,get?_push_size->LH,size_push->NF,get?_none_of_le->OH,SameBut->Py,get?_update_other->Qo
open Nat renaming le_refl->Lv,lt_of_lt_of_le->LM,ne_of_lt->LN,le_trans->LP,lt_irrefl->Me,zero_le->ML,lt_succ_of_lt->Na,lt_succ_self->Oy,lt_of_le_of_lt->OY,add_sub_cancel->OZ,le_succ_of_le->Pk,le_of_eq->Pz,le_of_not_lt->PL,zero_add->PV,le_of_lt->R4,lt_trichotomy->Rz,le_succ->RC
open Bool renaming false_ne_true->LA,false_eq_true->Ma,and_eq_true->Mb,eq_iff_iff->NZ,false_or->Pa,eq_false_iff->Pl,true_or->PK,or_eq_true->Qi,and_false->Qw,not_false->Sb,or_false->Se,not_true->Si
open PySem.Value renaming ref->LG,none->M8,type->Nd,int->Nr,builtin->NT,str->OC,bool->QE,float->RB,isStrOf->Sd,isInt->Sq,bytes->Sr
open Or renaming inr->LI,inl->LW
open Option.some renaming inj->M4,injEq->Pj
open PyProof.Rows renaming slot_tuple_getitem->M7,envOfC->MO,callWith_type1->N3,AllBare->Oc,step_dedup->Of,callWith_builtin1->OK,tupleItemsOf_->P7,subscriptTail->P9,IntsAre->Pp,entry_list_sort->Qh,subscriptTail_builtinR->Qn,slot_list_sort->Qy,args_list_sort->Qz,sortedHeap_old->QA,IsTup->QF,Subscript_->QJ,sortedHeap->QM,sortedHeap_at->QT,listUpdate_at->QU,entry_tuple_getitem->QW,args_tuple_getitem->Rf,plain_sorted->Rl,entry_sorted->Rm,args_sorted1->Rn,kind_sorted->RE,seqEpoch_at->RF,firstMet->RM,size_push'->R_
open PySem.PassesOwn renaming leaving->Md
open PySem.F renaming plainAttrs_list->Mw,slot_list_count->Np,args_tuple_add_2->O8,entry_tuple_add->Og,slot_tuple_add->Ot,args_list_count_2->Pn,entry_list_count->PY,slot_list_append->Q0,type_list_append->Q1,slot_tuple_count->Q2,slot_list_index->Q6,type_list_count->Q7,slot_list_pop->QC,type_list_pop->QD
open PySem.NameKind renaming free->MD,cell->QS
open False renaming elim->MG
open PySem.Obj renaming mapSeq->MH
open Array renaming length_toList->MK,getD_eq_getD_getElem?->O_,perm_iff_toList_perm->Pb,getElem?_toList->Qx,getD->QN,append_assoc->R1,map->Ro,toList->Sk
open Ne renaming symm->MN
open Int renaming le_trans->MV,emod_nonneg->Ny,emod_lt_of_pos->Nz,eq_ofNat_of_zero_le->Oh,natAbs->OQ,lt_trans->PU
open True renaming intro->N2
open PySem.Builtin.Slice renaming slicePlaces->Ng,sliceAdjust->O0,sliceApplied->P5
open PySem.Builtin.Tuple renaming tupleExact->Ni,tupleItemsOf->P6,tupleIsExact->Pc
open PySem.Builtin.List renaming listTooLong->Nj
open Option renaming map_some->Nx,isSome_map->Pg,bind_some->PM,getD_none->RH,none->Su
open PySem.Calls renaming callWith_builtin->NA,evalArgs_plain->NP,call_function_entry->O2,Name_function_global->P1,spliced_cons->Rb,spliced_nil->Rx
open List.Perm renaming refl->NG,nil_eq->RO,cons->S7
open Sum renaming inl->NU,inr->Po
open PySem.Str renaming ofString->O9,empty->R8
open PySem.SeqAt.EqAt renaming bool_bool->Oa,int_int->Ou,int_str->QZ,str_int->Q_
open PySem.Builtin.Getset_descriptor renaming descrGet->Oo,descrCheckInstance->Qq,descrNameAndClass->Qr,descrGetter->QY
open ForInStep renaming yield->ON
open PySem.Paired renaming length->P0,snoc->Ss
open List.Pairwise renaming nil->Ph
open PySem.SeqAt renaming list_countAt->PZ
open PySem.Around renaming under->R9
open PySem.Code renaming isFrame->Ra,quiet_builtin->Rq
open PySem.Heap.IsSliceOf renaming new->Rh
open PySem.W.KF renaming slot_gs->Rr
open PySem.Builtin.ObjectAttr renaming takesStores->S3,bindTo->Sj,find->So
open PySem.Builtin.Frozenset renaming updateFrom->S9
open PySem.Data renaming seq->Sl
local macro_rules | `(tactic| omega) => `(tactic| lia)
noncomputable section
namespace L2
open PySem PySem.Spec PyProof.Rows
abbrev cJ:=Sum Int L3
def rP:cJ->L0->Bool
 | .inl k,v=>Sq k v
 | .inr x,v=>Sd x v
def Jv (w:Ly):cJ->Int
 | .inl k=>hashInt k
 | .inr x=>hashStr w x
theorem cV:∀{k:cJ} {v:L0},rP k v=true->(∃i t,k=NU i/\v=Nr i t)\/(∃x t,k=Po x/\v=OC x t)
 | .inl i,v,h=>by
  obtain⟨t,e⟩:=Value.isInt_shape (k:=i) (v:=v) h
  exact .inl ⟨i,t,rfl,e⟩
 | .inr x,v,h=>by
  obtain⟨t,e⟩:=Value.isStrOf_shape (x:=x) (v:=v) h
  exact .inr ⟨x,t,rfl,e⟩
theorem A4 (i:Int) (t:O6):rP (.inl i) (.int i t)=true:=by simp[rP,Sq]
theorem A5 (x:L3) (t:O6):rP (.inr x) (.str x t)=true:=by simp[rP,Sd]
theorem FP (a b:Int):decide ((NU a:cJ)=NU b)=(a==b):=by
 by_cases e:a=b
 ·subst e;simp
 ·have h:¬(NU a:cJ)=NU b:=λq=>e (Sum.inl.inj q)
  rw[decide_eq_false h]
  exact(beq_eq_false_iff_ne.mpr e).symm
theorem FQ (a b:L3):decide ((Po a:cJ)=Po b)=decide (a=b):=by
 by_cases e:a=b
 ·subst e;simp
 ·have h:¬(Po a:cJ)=Po b:=λq=>e (Sum.inr.inj q)
  rw[decide_eq_false h,decide_eq_false e]
theorem FR (a:Int) (b:L3):decide ((NU a:cJ)=Po b)=false:=decide_eq_false (λq=>nomatch q)
theorem FT (a:L3) (b:Int):decide ((Po a:cJ)=NU b)=false:=decide_eq_false (λq=>nomatch q)
def dJ (prog:Ll) (w:Ly):PySem.KeyKind prog w cJ where
 is:=rP
 hash:=Jv w
 inj:=λv a b ha hb=>by
  rcases cV ha with ⟨i,t,rfl,rfl⟩|⟨x,t,rfl,rfl⟩
  ·rcases cV hb with ⟨j,u,rfl,e⟩|⟨y,u,rfl,e⟩
   ·injection e with e1 _;rw[e1]
   ·exact nomatch e
  ·rcases cV hb with ⟨j,u,rfl,e⟩|⟨y,u,rfl,e⟩
   ·exact nomatch e
   ·injection e with e1 _;rw[e1]
 byValue:=λk v h=>by
  rcases cV h with ⟨i,t,rfl,rfl⟩|⟨x,t,rfl,rfl⟩<;>rfl
 pyHash:=λhv h=>by
  rcases cV hv with ⟨i,t,rfl,rfl⟩|⟨x,t,rfl,rfl⟩
  ·exact wpAny_pyHash_int h
  ·exact wpAny_pyHash_str h
 eqBool:=λhu hv h=>by
  rcases cV hu with ⟨i,t,rfl,rfl⟩|⟨x,t,rfl,rfl⟩
  ·rcases cV hv with ⟨j,u,rfl,rfl⟩|⟨y,u,rfl,rfl⟩
   ·rw[FP]at h;exact wpAny_eqBool_int h
   ·rw[FR]at h;exact QZ i t y u _ _ _ _ h
  ·rcases cV hv with ⟨j,u,rfl,rfl⟩|⟨y,u,rfl,rfl⟩
   ·rw[FT]at h;exact Q_ x t j u _ _ _ _ h
   ·rw[FQ]at h;exact wpAny_eqBool_str h
 «strs»:=λk x t v h=>by
  rcases cV h with ⟨i,u,rfl,e⟩|⟨y,u,rfl,e⟩
  ·exact nomatch e
  ·injection e with e1 _
   subst e1
   cases v<;>rfl
theorem vX (prog:Ll) (w:Ly) (i:Int) (t:O6):(dJ prog w).is (.inl i) (.int i t)=true:=A4 i t
theorem vY (prog:Ll) (w:Ly) (x:L3) (t:O6):(dJ prog w).is (.inr x) (.str x t)=true:=A5 x t
end L2
namespace L2
open PySem PySem.Spec PyProof.Rows
inductive V where
 |non|bl (b:Bool)|int (i:Int)|str (x:L3)|byt (b:Array UInt8)|flt (b:UInt64)|ref (a:L4)|ty (n:String)
 deriving DecidableEq
def bW:V->L0->Prop
 | .non,u=>u=M8
 | .bl b,u=>u=QE b
 | .int i,u=>∃t,u=Nr i t
 | .str x,u=>∃t,u=OC x t
 | .byt b,u=>∃t,u=Sr b t
 | .flt b,u=>∃t,u=RB b t
 | .ref a,u=>u=LG a
 | .ty n,u=>u=Nd n
abbrev bp:List V->List L0->Prop:=Paired bW
theorem bp.length {xs:List V} {us:List L0} (r:bp xs us):xs.length=us.length:=P0 r
theorem bp.get:∀{xs:List V} {us:List L0} {i:Nat} {x:V},bp xs us->xs[i]? =some x->∃u,us[i]? =some u/\bW x u
 |_,_,_,_, .nil,e=>by simp at e
 |_,_,0,_, .cons r _,e=>by simp at e;subst e;exact⟨_,rfl,r⟩
 |_,_,i+1,x, .cons _ t,e=>by
  obtain⟨u,h1,h2⟩:=bp.get (i:=i) (x:=x) t (by simpa using e)
  exact⟨u,by simpa using h1,h2⟩
theorem bp.set {x:V} {u:L0} (r:bW x u):∀{xs:List V} {us:List L0} (i:Nat),bp xs us->bp (xs.set i x) (us.set i u)
 |_,_,_, .nil=> .nil
 |_,_,0, .cons _ t=> .cons r t
 |_,_,i+1, .cons q t=> .cons q (bp.set r i t)
theorem bp.append:∀{xs ys:List V} {us ws:List L0},bp xs us->bp ys ws->bp (xs++ys) (us++ws)
 |_,_,_,_, .nil,s=>s
 |_,_,_,_, .cons r t,s=> .cons r (bp.append t s)
theorem bp.take:∀{xs:List V} {us:List L0} (n:Nat),bp xs us->bp (xs.take n) (us.take n)
 |_,_,0,_=> .nil
 |_,_,_+1, .nil=> .nil
 |_,_,n+1, .cons r t=> .cons r (bp.take n t)
theorem bp.drop:∀{xs:List V} {us:List L0} (n:Nat),bp xs us->bp (xs.drop n) (us.drop n)
 |_,_,0,r=>r
 |_,_,_+1, .nil=> .nil
 |_,_,n+1, .cons _ t=>bp.drop n t
def lx:Option V->Option L0->Prop
 |some v,some u=>bW v u
 |none,none=>True
 |_,_=>False
def KV {κ:Type}:List (κ×V)->List (κ×L0)->Prop:=Paired λ(p:κ×V) (q:κ×L0)=>p.1=q.1/\bW p.2 q.2
def kV:cJ->V
 | .inl i=> .int i
 | .inr x=> .str x
inductive HO where
 |lst (xs:List V)
 |tup (xs:List V)
 |dK (kvs:List (cJ×V))|dT (kvs:List (List cJ×V))
 |set (S:Int->Bool) (n:Nat)
 |ins (C dx:L4) (fs:List (L3×V))
 |own (x:L4)
 |xd (fs:List (L3×V))
 |met (f x:L4)
 |rng (lo hi:Int)
 |frz (o:LJ) (u:HO)
 |tbl (ps:Array L0)
 |ext (φ:Lr->Prop)
abbrev Hp:=L4->Option HO
def ce (H:Hp) (a:L4) (o:HO):Hp:=λb=>if b=a then some o else H b
theorem aH {H:Hp} {a:L4} {o:HO}:ce H a o a=some o:=by unfold ce;rw[if_pos rfl]
theorem az {H:Hp} {a b:L4} {o:HO} (h:b≠a):ce H a o b=H b:=by unfold ce;rw[if_neg h]
theorem HM {H:Hp} {a b:L4} {o u:HO} (h:H a=some o) (h':H b=some u) (d:o≠u):a≠b:=by
 intro e;subst e;rw[h]at h';exact d (M4 h')
theorem dr {H:Hp} {a b:L4} {o:HO} (h:H a=some o) (h':H b=none):a≠b:=by
 intro e;subst e;rw[h]at h';cases h'
def jL (h:Lr) (a:L4) (Sz:Array L0):Prop:=∃o,h.get? a=some o/\o.cls= .type "tuple"/\∃n,o.data= .seq Sz n/\o.dict=none
theorem jL.tup {h:Lr} {a:L4} {Sz:Array L0} (x:jL h a Sz):QF h a Sz:=let ⟨o,ho,hc,n,hd,_⟩:=x;⟨o,ho,hc,n,hd⟩
theorem jL.lt {h:Lr} {a:L4} {Sz:Array L0} (x:jL h a Sz):a<h.objs.size:=x.tup.lt
theorem jL.new (h:Lr) (Sz:Array L0):jL (h.push {cls:= .type "tuple",data:= .seq Sz}) h.objs.size Sz:=⟨_,LH _ rfl,rfl,_,rfl,rfl⟩
section
variable (P:Ll) (w:Ly)
def cp (H:Hp) (h:Lr) (a:L4):HO->Prop
 | .lst xs=>xs.length<=sizeLine/\∃(its:List L0) (n:Nat),bp xs its/\h.get? a=some {cls:= .type "list",data:= .seq its.toArray n}
 | .tup xs=>xs.length<=sizeLine/\∃its:List L0,bp xs its/\jL h a its.toArray
 | .dK kvs=>kvs.length<=sizeLine/\(a==sysModules)=false/\∃vs,KV kvs vs/\h.DictOf (dJ P w) a vs
 | .dT kvs=>kvs.length<=sizeLine/\(a==sysModules)=false/\∃xs:List (List cJ×L4×L0),
   Paired (λ(p:List cJ×V) (q:List cJ×L4×L0)=>p.1=q.1/\H q.2.1=some (.tup (p.1.map kV))/\bW p.2 q.2.2) kvs xs/\
   ∃o es ep,h.get? a=some o/\o.ExactDict/\o.data= .dict es ep/\es.toList=xs.map (entryOfKey (Qa (dJ P w)))/\(xs.map (·.1)).Nodup
 | .set S n=>h.SetOf (intKind P w) a S n
 | .ins C dx fs=>H dx=some (.own a)/\fs.length<=1000/\dx≠a/\h.get? a=some (MQ C dx)/\
   ∃mA,h.Ns1 dx mA/\(∀f,lx (fs.lookup f) (mA f))/\R0 mA (fs.map (·.1))
 | .own _=>∃o,h.get? a=some o
 | .xd fs=>∃mA,h.Ns1 a mA/\∀f,lx (fs.lookup f) (mA f)
 | .rng lo hi=>∃t u v,h.get? a=some {cls:= .type "range",data:= .fields #[.int lo t, .int hi u, .int 1 v]}
 | .frz o u=>h.get? a=some o/\cp H h a u
 | .tbl ps=>h.get? a=some {cls:= .none,data:= .fields ps}
 | .met f x=>h.get? a=some (Pd (.ref f) (.ref x))
 | .ext φ=>φ h/\(∃o,h.get? a=some o)/\∀h1 h2:Lr,φ h1->(∀o,h1.get? a=some o->h2.get? a=some o)->φ h2
def lF (H:Hp) (h:Lr):Prop:=∀a o,H a=some o->cp P w H h a o
end
section
variable {P:Ll} {w:Ly} {H H':Hp} {h h':Lr} {a:L4} {o:HO}
theorem cp.lt (x:cp P w H h a o):a<h.objs.size:=by
 cases o with
 |lst xs=>obtain⟨_,_,_,_,e⟩:=x;exact Ln e
 |tup xs=>obtain⟨_,_,_,p⟩:=x;exact p.lt
 |dK kvs=>obtain⟨_,_,_,_,o,_,_,e,_⟩:=x;exact Ln e
 |dT kvs=>obtain⟨_,_,_,_,o,_,_,e,_⟩:=x;exact Ln e
 |set S n=>obtain⟨o,_,_,_,e,_⟩:=x;exact Ln e
 |ins C dx fs=>obtain⟨_,_,_,e,_⟩:=x;exact Ln e
 |own y=>obtain⟨_,e⟩:=x;exact Ln e
 |xd fs=>obtain⟨_,⟨_,_,_,e,_⟩,_⟩:=x;exact Ln e
 |rng lo hi=>obtain⟨_,_,_,e⟩:=x;exact Ln e
 |frz ob u=>obtain⟨e,_⟩:=x;exact Ln e
 |tbl ps=>exact Ln (show h.get? a=some _ from x)
 |met f y=>exact Ln (show h.get? a=some _ from x)
 |ext φ=>obtain⟨_,⟨_,e⟩,_⟩:=x;exact Ln e
theorem Paired.mapP {α β:Type} {F G:α->β->Prop}:∀{l₁:List α} {l₂:List β},Paired F l₁ l₂->(∀a b,F a b->G a b)->Paired G l₁ l₂
 |_,_, .nil,_=> .nil
 |_,_, .cons r t,f=> .cons (f _ _ r) (Paired.mapP t f)
theorem cp.stay (x:cp P w H h a o) (k:∀b u,(b=a\/H b=some (.own a))->h.get? b=some u->h'.get? b=some u)
  (ho:∀b,H b=some (.own a)->H' b=some (.own a)) (ht:∀b xs,H b=some (.tup xs)->H' b=some (.tup xs)):cp P w H' h' a o:=by
 induction o with
 |lst xs=>obtain⟨z,its,n,r,e⟩:=x;exact⟨z,its,n,r,k _ _ (.inl rfl) e⟩
 |tup xs=>obtain⟨z,its,r,ob,e,c⟩:=x;exact⟨z,its,r,ob,k _ _ (.inl rfl) e,c⟩
 |dK kvs=>obtain⟨z,y,vs,r,ob,es,ep,e,c⟩:=x;exact⟨z,y,vs,r,ob,es,ep,k _ _ (.inl rfl) e,c⟩
 |dT kvs=>
  obtain⟨z,y,xs,r,ob,es,ep,e,c⟩:=x
  exact⟨z,y,xs,Paired.mapP r λp q z=>⟨z.1,ht _ _ z.2.1,z.2.2⟩,ob,es,ep,k _ _ (.inl rfl) e,c⟩
 |set S n=>obtain⟨ob,es,ep,t,e,c⟩:=x;exact⟨ob,es,ep,t,k _ _ (.inl rfl) e,c⟩
 |ins C dx fs=>
  obtain⟨d,z,ne,e,mA,⟨od,es,ep,e2,c⟩,r⟩:=x
  exact⟨ho _ d,z,ne,k _ _ (.inl rfl) e,mA,⟨od,es,ep,k _ _ (.inr d) e2,c⟩,r⟩
 |own y=>obtain⟨ob,e⟩:=x;exact⟨ob,k _ _ (.inl rfl) e⟩
 |xd fs=>obtain⟨mA,⟨od,es,ep,e,c⟩,r⟩:=x;exact⟨mA,⟨od,es,ep,k _ _ (.inl rfl) e,c⟩,r⟩
 |rng lo hi=>obtain⟨t,u,v,e⟩:=x;exact⟨t,u,v,k _ _ (.inl rfl) e⟩
 |frz ob u ih=>obtain⟨e,q⟩:=x;exact⟨k _ _ (.inl rfl) e,ih q⟩
 |tbl ps=>
  have e:h.get? a=some {cls:= .none,data:= .fields ps}:=x
  show h'.get? a=some {cls:= .none,data:= .fields ps}
  exact k a _ (.inl rfl) e
 |met f y=>
  have e:h.get? a=some (Pd (.ref f) (.ref y)):=x
  show h'.get? a=some (Pd (.ref f) (.ref y))
  exact k a _ (.inl rfl) e
 |ext φ=>obtain⟨p,⟨o,e⟩,st⟩:=x;exact⟨st _ _ p λo q=>k _ _ (.inl rfl) q,⟨o,k _ _ (.inl rfl) e⟩,st⟩
theorem lF.lt (x:lF P w H h) (e:H a=some o):a<h.objs.size:=(x a o e).lt
theorem lF.fresh (x:lF P w H h) (e:h.objs.size<=a):H a=none:=by
 cases q:H a with
 |none=>rfl
 |some u=>exact absurd (LM (x.lt q) e) (Me _)
theorem lF.kept (x:lF P w H h) (k:∀b u,h.get? b=some u->h'.get? b=some u):lF P w H h':=λa o e=>
 (x a o e).stay (λb u _ q=>k b u q) (λ_ q=>q) λ_ _ q=>q
theorem lF.laid (x:lF P w H h) (k:∀b u,h.get? b=some u->h'.get? b=some u) (hp:h.objs.size<=a) (new:cp P w (ce H a o) h' a o):lF P w (ce H a o) h':=λb u e=>by
 have hn:=x.fresh hp
 by_cases hb:b=a
 ·subst hb;rw[aH]at e;cases e;exact new
 ·rw[az hb]at e
  exact(x b u e).stay (λc v _ q=>k c v q) (λc q=>by rw[az (dr q hn)];exact q) λc xs q=>by rw[az (dr q hn)];exact q
end
def Rd (H:Hp) (a:L4) (u:HO):Prop:=H a=some u\/∃o,H a=some (.frz o u)
theorem Rd.of {H:Hp} {a:L4} {u:HO} (h:H a=some u):Rd H a u:= .inl h
theorem Rd.ok {P:Ll} {w:Ly} {H:Hp} {h:Lr} {a:L4} {u:HO} (r:Rd H a u) (x:lF P w H h):cp P w H h a u:=by
 rcases r with r|⟨o,r⟩
 ·exact x a u r
 ·obtain⟨_,q⟩:=x a _ r
  exact q
def HN:Option HO->Prop
 |some (.lst _)=>True
 |some (.dK _)=>True
 |some (.dT _)=>True
 |some (.set _ _)=>True
 |some (.ins _ _ _)=>True
 |some (.ext _)=>True
 |_=>False
section
variable {P:Ll} {w:Ly} {H:Hp} {h h':Lr} {x e:L4} {o':HO}
theorem lF.write (ok:lF P w H h) (mu:HN (H x)) (he:e=x\/H e=some (.own x)) (k:∀b u,b≠e->h.get? b=some u->h'.get? b=some u) (YI:∃u,h'.get? e=some u)
  (new:cp P w (ce H x o') h' x o'):lF P w (ce H x o') h':=λb u q=>by
 have YU:∀c y,H c=some (.own y)->c≠x:=λc y r z=>by subst z;rw[r]at mu;exact mu
 have ZU:∀c xs,H c=some (.tup xs)->c≠x:=λc xs r z=>by subst z;rw[r]at mu;exact mu
 by_cases hb:b=x
 ·subst hb;rw[aH]at q;cases q;exact new
 ·rw[az hb]at q
  by_cases XS:b=e
  ·have q':H b=some (.own x):=by
    rcases he with z|z
    ·exact absurd (XS.trans z) hb
    ·rw[XS];exact z
   rw[q]at q';cases q'
   obtain⟨v,hv⟩:=YI
   exact⟨v,by rw[XS];exact hv⟩
  ·refine(ok b u q).stay (λc v hc r=>k c v ?_ r) (λc r=>by rw[az (YU c b r)];exact r) λc xs r=>by rw[az (ZU c xs r)];exact r
   rcases hc with rfl|hc
   ·exact XS
   ·rintro rfl
    rcases he with z|z
    ·exact YU c b hc z
    ·rw[hc]at z;cases z;exact hb rfl
end
structure Un (fs ex:List L4) (H H':Hp) (h h':Lr):Prop where
 keep:∀b o,h.get? b=some o->H b=none->b∉fs->b∉ex->h'.get? b=some o
 slot:∀b o,h.get? b=some o->H b=none->b∈fs->b∉ex->∃sl,h'.get? b=some {o with slots:=sl}
 free:∀b o,h.get? b=some o->H b=none->b∉ex->H' b=none
 there:∀b o,h.get? b=some o->b∉ex->∃o',h'.get? b=some o'
 tups:∀b xs,H b=some (.tup xs)->H' b=some (.tup xs)
 frzs:∀b o u,H b=some (.frz o u)->H' b=some (.frz o u)
 tbls:∀b ps,H b=some (.tbl ps)->∃more,H' b=some (.tbl (ps++more))
section
variable {fs VW ex a3S:List L4} {H H1 H2:Hp} {h h1 h2 h':Lr} {a x e:L4} {o:HO}
theorem Un.any (u:Un fs ex H H1 h h1) {b:L4} {ob:LJ} (q:h.get? b=some ob) (n:H b=none) (hx:b∉ex):∃sl,h1.get? b=some {ob with slots:=sl}:=by
 by_cases hb:b∈fs
 ·exact u.slot b ob q n hb hx
 ·exact⟨ob.slots,u.keep b ob q n hb hx⟩
theorem Un.trans (a:Un fs ex H H1 h h1) (b:Un fs ex H1 H2 h1 h2):Un fs ex H H2 h h2 where
 keep:=λc ob q n hc hx=>b.keep c ob (a.keep c ob q n hc hx) (a.free c ob q n hx) hc hx
 slot:=λc ob q n hc hx=>by
  obtain⟨sl,e1⟩:=a.slot c ob q n hc hx
  obtain⟨Y1,e2⟩:=b.slot c _ e1 (a.free c ob q n hx) hc hx
  exact⟨Y1,e2⟩
 free:=λc ob q n hx=>by
  obtain⟨o',e1⟩:=a.there c ob q hx
  exact b.free c o' e1 (a.free c ob q n hx) hx
 there:=λc ob q hx=>by
  obtain⟨o',e1⟩:=a.there c ob q hx
  exact b.there c o' e1 hx
 tups:=λc xs q=>b.tups c xs (a.tups c xs q)
 frzs:=λc ob xs q=>b.frzs c ob xs (a.frzs c ob xs q)
 tbls:=λc ps q=>by
  obtain⟨m1,e1⟩:=a.tbls c ps q
  obtain⟨m2,e2⟩:=b.tbls c _ e1
  exact⟨m1++m2,by rw[e2,R1]⟩
theorem Un.kept (k:∀b u,h.get? b=some u->h'.get? b=some u):Un fs ex H H h h':=
 ⟨λb ob q _ _ _=>k b ob q,λb ob q _ _ _=>⟨ob.slots,k b ob q⟩,λ_ _ _ n _=>n,λb ob q _=>⟨ob,k b ob q⟩,λ_ _ q=>q,λ_ _ _ q=>q,λ_ ps q=>⟨#[],by rw[q];simp⟩⟩
theorem Un.refl:Un fs ex H H h h:=Un.kept λ_ _ q=>q
theorem Un.laid (k:∀b u,h.get? b=some u->h'.get? b=some u) (hp:h.objs.size<=a) (hn:H a=none):Un fs ex H (ce H a o) h h' where
 keep:=λb u q _ _ _=>k b u q
 slot:=λb u q _ _ _=>⟨u.slots,k b u q⟩
 free:=λb u q n _=>by rw[az (LN (LM (Ln q) hp))];exact n
 there:=λb u q _=>⟨u,k b u q⟩
 tups:=λb xs q=>by rw[az (dr q hn)];exact q
 frzs:=λb u xs q=>by rw[az (dr q hn)];exact q
 tbls:=λb ps q=>⟨#[],by rw[az (dr q hn),q];simp⟩
theorem Un.write (mu:HN (H x)) (he:e=x\/H e=some (.own x)) (k:∀b u,b≠e->h.get? b=some u->h'.get? b=some u) (YI:∃u,h'.get? e=some u):Un fs ex H (ce H x o) h h':=by
 have hx:∀b,H b=none->b≠x:=λb n z=>by subst z;rw[n]at mu;exact mu
 have hb:∀b,H b=none->b≠e:=λb n z=>by
  subst z
  rcases he with r|r
  ·exact hx b n r
  ·rw[n]at r;cases r
 have hm:∀b u,H b=some u->¬HN (some u)->b≠x:=λb u q nm z=>by subst z;rw[q]at mu;exact nm mu
 refine⟨λb u q n _ _=>k b u (hb b n) q,λb u q n _ _=>⟨u.slots,k b u (hb b n) q⟩,λb u q n _=>by rw[az (hx b n)];exact n,λb u q _=> ?_,
  λb xs q=>by rw[az (hm b _ q λz=>z)];exact q,λb u xs q=>by rw[az (hm b _ q λz=>z)];exact q,λb ps q=>⟨#[],by rw[az (hm b _ q λz=>z),q];simp⟩⟩
 by_cases XS:b=e
 ·subst XS;exact YI
 ·exact⟨u,k b u XS q⟩
end
def Ji (h:Lr) (H:Hp):List L4:=(LZ h.objs.size).filter λa=>(H a).isSome
def uQ (h:Lr) (H:Hp):Lr:=RS h (Ji h H)
theorem A6 (h:Lr) (H:Hp):(uQ h H).objs.size=h.objs.size:=PySem.W.hideAll_size _ _
theorem Bm {h:Lr} {H:Hp} {b:L4} {o:LJ} (e:h.get? b=some o) (n:H b=none):(uQ h H).get? b=some o:=
 OR _ e λhm=>by
  have q:(H b).isSome=true:=(N5.mp hm).2
  rw[n]at q;simp at q
theorem DK {h:Lr} {H:Hp} {b:L4} {o:LJ} (e:(uQ h H).get? b=some o):h.get? b=some o/\H b=none:=by
 have e':h.get? b=some o:=R3 (Ji h H) e
 refine⟨e',?_⟩
 cases q:H b with
 |none=>rfl
 |some x=>
  have hm:b∈Ji h H:=N5.mpr ⟨ME.mpr (Ln e'),by simp[q]⟩
  have z:(uQ h H).get? b=none:=OG (Ji h H) hm
  rw[z]at e;cases e
def DL (g h:Lr) (L:L4):List (L4×LJ):=(LZ h.objs.size).filterMap λa=>if a=L\/(g.get? a).isSome=true then none else (h.get? a).map λo=>(a,o)
def rest (g h:Lr) (L d:L4):List (L4×LJ):=(DL g h L).filter λp=>decide (p.1≠d)
end L2
namespace L2
open PySem PySem.Spec PyProof.Rows
structure Mod (K:K_) (mg:L3->Option L0) (base:Lr):Prop where
 kin:K.In base
 glob:base.Ns Ld mg
 blt:∃mb,base.Ns RT mb/\∀x:L3,x≠"__name__"->mb x=LS x
 nolimit:base.NoLimit
structure Cx where
 prog:Ll
 w:Ly
 K:K_
 mg:L3->Option L0
 base:Lr
 A:LF
 N:List L3
 s₀:L5
 H₀:Hp
 env:MM
 outer:List MM
 stack:List MM
 ex:List L4
 fn:L3->Bool
 calm:Bool
 pn:List (L4×LJ)
 xe:L0->L5->Prop
def rB (l:List MM):List L4:=l.filterMap (·.frame)
abbrev Cx.fs (X:Cx):List L4:=rB X.outer
def pT (sc:MZ) (x:L3):Prop:=sc.names.lookup x=some .local\/sc.names.lookup x=some .cell\/sc.names.lookup x=some .free
def A7 (sc:MZ) (x:L3):Prop:=sc.names.lookup x=some .local\/sc.names.lookup x=some .cell
def Jw (env:MM) (h:Lr) (m:L3->Option L0) (x:L3) (u:L0):Prop:=
 (env.kindOf x=some .local/\m x=some u)\/((env.kindOf x=some .cell\/env.kindOf x=some .free)/\∃c,env.cells.lookup x=some c/\h.IsCell c (some u))
structure Cx.Ok (X:Cx):Prop where
 mod:Mod X.K X.mg X.base
 kind:X.env.scope.kind= .function
 glob:X.env.globals=Ld
 blt:X.env.builtins=RT
 above:X.s₀.heap.objs.size<=X.env.locals
 inj:∀x y c,X.env.cells.lookup x=some c->X.env.cells.lookup y=some c->x=y
 has:∀x,(X.env.kindOf x=some .cell\/X.env.kindOf x=some .free)->∃c,X.env.cells.lookup x=some c
 cab:∀x c,X.fn x=true->X.env.cells.lookup x=some c->X.s₀.heap.objs.size<=c
 hd:X.calm=true->X.A.handled=none
 frames:X.A.frames=some X.stack
 stk:X.stack=X.outer\/(X.stack=X.env::X.outer/\X.env.frame=some X.env.locals)
 exf:∀b∈X.ex,b≠X.env.locals/\∀x c,X.env.cells.lookup x=some c->c≠b
 bs:∀b o,X.base.get? b=some o->X.s₀.heap.get? b=some o/\X.H₀ b=none
 bsz:X.base.objs.size<=X.s₀.heap.objs.size
 noex:∀b o,X.base.get? b=some o->b∉X.ex
 exfs:∀b∈X.ex,b∉X.fs
 funs:X.s₀.heap.FunFrames X.base X.outer
 frf:∀b∈X.fs,X.H₀ b=none
structure aP (X:Cx) (Sv:List (L4×LJ)) (σ:List (Option V)) (H:Hp) (s:L5):Prop where
 ok:X.Ok
 os:s.os=X.s₀.os
 bare:Oc s.gens
 base:Un X.fs X.ex X.H₀ H X.s₀.heap s.heap
 loc:∃m,s.heap.Ns X.env.locals m/\∀(i:Nat) (x:L3) (v:V),X.N[i]? =some x->σ[i]? =some (some v)->pT X.env.scope x->∃u,bW v u/\Jw X.env s.heap m x u
 cell:∀x c,X.env.cells.lookup x=some c->∃v,s.heap.IsCell c v
 free:H X.env.locals=none
 freeC:∀x c,X.env.cells.lookup x=some c->H c=none
 pin:∀p∈X.pn++Sv,s.heap.get? p.1=some p.2/\H p.1=none/\p.1≠X.env.locals/\p.1∉X.fs/\∀v,p.2.data≠ .cell v
 hok:lF X.prog X.w H s.heap
 len:σ.length=X.N.length
section
variable {X:Cx} {Sv:List (L4×LJ)} {σ:List (Option V)} {H H':Hp} {s:L5} {h':Lr}
theorem Cx.Ok.nofr (ok:X.Ok) {b:L4} {o:LJ} (e:X.base.get? b=some o):b∉X.fs:=λhb=>by
 have:=(ok.funs.mem hb).1
 rw[e]at this;cases this
theorem aP.bs (I:aP X Sv σ H s):∀b o,X.base.get? b=some o->s.heap.get? b=some o/\H b=none:=λb o e=>
 ⟨I.base.keep b o (I.ok.bs b o e).1 (I.ok.bs b o e).2 (I.ok.nofr e) (I.ok.noex b o e),I.base.free b o (I.ok.bs b o e).1 (I.ok.bs b o e).2 (I.ok.noex b o e)⟩
theorem aP.bk (I:aP X Sv σ H s):∀b o,X.base.get? b=some o->s.heap.get? b=some o:=λb o e=>(I.bs b o e).1
theorem aP.mod (I:aP X Sv σ H s):Mod X.K X.mg X.base:=I.ok.mod
theorem aP.kIn (I:aP X Sv σ H s):X.K.In s.heap:=I.ok.mod.kin.keeps I.bk
theorem aP.lt (I:aP X Sv σ H s):X.env.locals<s.heap.objs.size:=let ⟨_,hn,_⟩:=I.loc;hn.lt
theorem aP.sz (I:aP X Sv σ H s):X.s₀.heap.objs.size<=s.heap.objs.size:=LP I.ok.above (R4 I.lt)
theorem aP.nofs (I:aP X Sv σ H s) {a:L4} (h:s.heap.objs.size<=a):a∉X.fs:=λhb=>by
 obtain⟨_,o,ho,_⟩:=I.ok.funs.mem hb
 exact absurd (LM (Ln ho) (LP I.sz h)) (Me _)
theorem aP.cne (I:aP X Sv σ H s):∀x c,X.env.cells.lookup x=some c->c≠X.env.locals:=λx c e z=>by
 obtain⟨v,o,ho,hd⟩:=I.cell x c e
 obtain⟨m,⟨o',es,ep,XI,ZV,_⟩,_⟩:=I.loc
 rw[z,XI]at ho;cases ho;rw[ZV]at hd;cases hd
theorem aP.funs (I:aP X Sv σ H s):s.heap.FunFrames X.base X.outer:=by
 have all:∀(l:List MM),(∀b∈rB l,b∈X.fs)->X.s₀.heap.FunFrames X.base l->s.heap.FunFrames X.base l:=by
  intro l
  induction l with
  |nil=>intro _ _;trivial
  |cons env r ih=>
   intro hs hl
   obtain⟨hk,⟨L,o,hf,hn,ho,hd⟩,hr⟩:=hl
   have hL:L∈X.fs:=hs L (by unfold rB;rw[Nl,hf];exact Lo)
   obtain⟨sl,e⟩:=I.base.slot L o ho (I.ok.frf L hL) hL λz=>I.ok.exfs L z hL
   exact⟨hk,⟨L,_,hf,hn,e,hd⟩,ih (λb hb=>hs b (by unfold rB;rw[Nl,hf];exact Lp _ hb)) hr⟩
 exact all X.outer (λ_ hb=>hb) I.ok.funs
theorem aP.stack (I:aP X Sv σ H s):s.heap.FunFrames X.base X.stack:=by
 rcases I.ok.stk with e|⟨e,hf⟩
 ·rw[e];exact I.funs
 ·rw[e]
  obtain⟨m,hn,_⟩:=I.loc
  refine .cons (by rw[I.ok.kind];decide) hf hn ?_ I.funs
  exact OH (LP I.ok.bsz I.ok.above)
theorem aP.stkSub (I:aP X Sv σ H s):∀b∈rB X.stack,b∈X.env.locals::X.fs:=λb hb=>by
 rcases I.ok.stk with e|⟨e,hf⟩
 ·rw[e]at hb;exact Lp _ hb
 ·rw[e]at hb
  unfold rB at hb
  rw[Nl,hf]at hb
  exact hb
theorem aP.stkFree (I:aP X Sv σ H s):∀b∈rB X.stack,H b=none:=λb hb=>by
 rcases Li.mp (I.stkSub b hb)with e|hb
 ·rw[e];exact I.free
 ·obtain⟨_,o,ho,_⟩:=I.ok.funs.mem hb
  exact I.base.free b o ho (I.ok.frf b hb) λz=>I.ok.exfs b z hb
theorem aP.step {g':Array Pw} {t':Nat} {d':Drawn} {ch:List L4} (I:aP X Sv σ H s)
  (Xw:∀b∈ch,(b∈X.ex\/X.s₀.heap.get? b=none)/\b≠X.env.locals/\(∀x c,X.env.cells.lookup x=some c->c≠b)/\∀p∈X.pn++Sv,p.1≠b)
  (keep:∀b o,b≠X.env.locals->b∉X.fs->b∉ch->s.heap.get? b=some o->H b=none->h'.get? b=some o)
  (slot:∀b o,b≠X.env.locals->b∈X.fs->b∉ch->s.heap.get? b=some o->H b=none->∃sl,h'.get? b=some {o with slots:=sl}) (free:∀b o,b∉ch->s.heap.get? b=some o->H b=none->H' b=none)
  (there:∀b o,b∉ch->s.heap.get? b=some o->∃o',h'.get? b=some o')
  (tups:∀b xs,H b=some (.tup xs)->H' b=some (.tup xs)) (frzs:∀b o u,H b=some (.frz o u)->H' b=some (.frz o u)) (tbls:∀b ps,H b=some (.tbl ps)->∃more,H' b=some (.tbl (ps++more)))
  (ns:∀m,s.heap.Ns X.env.locals m->h'.Ns X.env.locals m) (hok:lF X.prog X.w H' h') (hg:Oc g'):
  aP X Sv σ H' {s with heap:=h',gens:=g',drawn:=d',toks:=t'}:=by
 have Y2:∀b o,X.s₀.heap.get? b=some o->b≠X.env.locals:=λb o e=>LN (LM (Ln e) I.ok.above)
 have neC:∀b o,X.s₀.heap.get? b=some o->b∉X.ex->b∉ch:=λb o e hx hb=>by
  rcases(Xw b hb).1 with z|z
  ·exact hx z
  ·rw[e]at z;cases z
 have Y3:∀x c,X.env.cells.lookup x=some c->∀v,s.heap.IsCell c v->h'.IsCell c v:=λx c e v ⟨o,ho,hd⟩=>by
  have YV:c∉ch:=λz=>(Xw c z).2.2.1 x c e rfl
  by_cases hc:c∈X.fs
  ·obtain⟨sl,q⟩:=slot c o (I.cne x c e) hc YV ho (I.freeC x c e)
   exact⟨_,q,hd⟩
  ·exact⟨o,keep c o (I.cne x c e) hc YV ho (I.freeC x c e),hd⟩
 refine⟨I.ok,I.os,hg,⟨λb o e n hb hx=> ?_,λb o e n hb hx=> ?_,λb o e n hx=> ?_,λb o e hx=> ?_,λb xs e=>tups b xs (I.base.tups b xs e),λb o xs e=>frzs b o xs (I.base.frzs b o xs e),λb ps e=> ?_⟩,?_,λx c e=> ?_,?_,λx c e=> ?_,λp hp=> ?_,hok,I.len⟩
 ·exact keep b o (Y2 b o e) hb (neC b o e hx) (I.base.keep b o e n hb hx) (I.base.free b o e n hx)
 ·obtain⟨sl,e1⟩:=I.base.slot b o e n hb hx
  obtain⟨Y1,e2⟩:=slot b _ (Y2 b o e) hb (neC b o e hx) e1 (I.base.free b o e n hx)
  exact⟨Y1,e2⟩
 ·obtain⟨o',e1⟩:=I.base.there b o e hx
  exact free b o' (neC b o e hx) e1 (I.base.free b o e n hx)
 ·obtain⟨o',e1⟩:=I.base.there b o e hx
  exact there b o' (neC b o e hx) e1
 ·obtain⟨m1,e1⟩:=I.base.tbls b ps e
  obtain⟨m2,e2⟩:=tbls b _ e1
  exact⟨m1++m2,by rw[e2,R1]⟩
 ·obtain⟨m,hn,hl⟩:=I.loc
  refine⟨m,ns m hn,λi x v e1 e2 e3=> ?_⟩
  obtain⟨u,r,l⟩:=hl i x v e1 e2 e3
  refine⟨u,r,?_⟩
  rcases l with l|⟨k,c,e,z⟩
  ·exact .inl l
  ·exact .inr ⟨k,c,e,Y3 x c e _ z⟩
 ·obtain⟨v,z⟩:=I.cell x c e
  exact⟨v,Y3 x c e v z⟩
 ·obtain⟨m,⟨o,_,_,ho,_⟩,_⟩:=I.loc
  exact free _ o (λz=>(Xw _ z).2.1 rfl) ho I.free
 ·obtain⟨v,o,ho,hd⟩:=I.cell x c e
  exact free c o (λz=>(Xw c z).2.2.1 x c e rfl) ho (I.freeC x c e)
 ·obtain⟨e,n,ne,nf,d⟩:=I.pin p hp
  have YV:p.1∉ch:=λz=>(Xw p.1 z).2.2.2 p hp rfl
  exact⟨keep p.1 p.2 ne nf YV e n,free p.1 p.2 YV e n,ne,nf,d⟩
theorem aP.un {t':Nat} (I:aP X Sv σ H s) (u:Un X.fs [] H H' s.heap h') (hok:lF X.prog X.w H' h'):aP X Sv σ H' {s with heap:=h',toks:=t'}:=by
 obtain⟨m,⟨o,es,ep,ho,r⟩,_⟩:=id I.loc
 obtain⟨sl,hL⟩:=u.any ho I.free (by simp)
 exact I.step (g':=s.gens) (d':=s.drawn) (ch:=[]) (λ_ z=>nomatch z) (λb o _ hb _ e n=>u.keep b o e n hb (by simp)) (λb o _ hb _ e n=>u.slot b o e n hb (by simp)) (λb o _ e n=>u.free b o e n (by simp)) (λb o _ e=>u.there b o e (by simp)) u.tups u.frzs u.tbls (λm' hm=>by
  obtain⟨o',ZW,ZX,XI,r'⟩:=hm
  rw[ho]at XI;cases XI
  exact⟨_,ZW,ZX,hL,r'⟩) hok I.bare
theorem aP.call {g':Array Pw} {t':Nat} {d':Drawn} {ch:List L4} (I:aP X Sv σ H s) (u:Un (rB X.stack) ch H H' s.heap h') (hok:lF X.prog X.w H' h') (hg:Oc g')
  (Xw:∀b∈ch,(b∈X.ex\/X.s₀.heap.objs.size<=b)/\b≠X.env.locals/\(∀x c,X.env.cells.lookup x=some c->c≠b)/\∀p∈X.pn++Sv,p.1≠b):
  aP X Sv σ H' {s with heap:=h',gens:=g',drawn:=d',toks:=t'}:=by
 obtain⟨m,⟨o,es,ep,ho,r⟩,_⟩:=id I.loc
 obtain⟨sl,hL⟩:=u.any ho I.free λz=>(Xw _ z).2.1 rfl
 exact I.step (ch:=ch) (λb hb=>⟨(Xw b hb).1.imp id OH,(Xw b hb).2⟩) (λb o hL hb hc e n=>u.keep b o e n (λz=>(Li.mp (I.stkSub b z)).elim hL hb) hc) (λb o _ _ hc e n=>u.any e n hc) (λb o hc e n=>u.free b o e n hc) (λb o hc e=>u.there b o e hc) u.tups u.frzs u.tbls (λm' hm=>by
  obtain⟨o',ZW,ZX,XI,r'⟩:=hm
  rw[ho]at XI;cases XI
  exact⟨_,ZW,ZX,hL,r'⟩) hok hg
theorem aP.turned {t':Nat} {it:L4} (I:aP X Sv σ H s) (k:∀b o,b≠it->s.heap.get? b=some o->h'.get? b=some o) (hn:H it=none) (hL:it≠X.env.locals)
  (h1:it∈X.ex\/X.s₀.heap.objs.size<=it) (h2:∀x c,X.env.cells.lookup x=some c->c≠it) (h3:∀p∈X.pn++Sv,p.1≠it):aP X Sv σ H {s with heap:=h',toks:=t'}:=by
 have a19:∀b u,H b=some u->b≠it:=λb u e z=>by rw[z,hn]at e;cases e
 refine I.step (g':=s.gens) (d':=s.drawn) (ch:=[it]) (λb hb=> ?_) (λb o _ _ hc e _=>k b o (λz=>hc (by simp[z])) e) (λb o _ _ hc e _=>⟨o.slots,k b o (λz=>hc (by simp[z])) e⟩) (λ_ _ _ _ n=>n)
  (λb o hc e=>⟨o,k b o (λz=>hc (by simp[z])) e⟩) (λ_ _ e=>e) (λ_ _ _ e=>e) (λb ps e=>⟨#[],by rw[e];simp⟩) (λm hm=> ?_) (λb u e=> ?_) I.bare
 ·have e:b=it:=by simpa using hb
  subst e
  exact⟨h1.imp id OH,hL,h2,h3⟩
 ·obtain⟨o,es,ep,ho,r⟩:=hm
  exact⟨o,es,ep,k _ o (MN hL) ho,r⟩
 ·refine(I.hok b u e).stay (λc v hc q=>k c v ?_ q) (λ_ q=>q) λ_ _ q=>q
  rcases hc with z|z
  ·rw[z];exact a19 b u e
  ·exact a19 c _ z
theorem aP.tok (I:aP X Sv σ H s) (t:Nat):aP X Sv σ H {s with toks:=t}:=I.un (h':=s.heap) (t':=t) Un.refl I.hok
theorem aP.kept {t':Nat} (I:aP X Sv σ H s) (k:∀b u,s.heap.get? b=some u->h'.get? b=some u):aP X Sv σ H {s with heap:=h',toks:=t'}:=I.un (Un.kept k) (I.hok.kept k)
theorem aP.laid {a:L4} {o:HO} {t':Nat} (I:aP X Sv σ H s) (k:∀b u,s.heap.get? b=some u->h'.get? b=some u) (hp:s.heap.objs.size<=a) (new:cp X.prog X.w (ce H a o) h' a o):
  aP X Sv σ (ce H a o) {s with heap:=h',toks:=t'}:=I.un (Un.laid k hp (I.hok.fresh hp)) (I.hok.laid k hp new)
theorem aP.write {x e:L4} {o:HO} {t':Nat} (I:aP X Sv σ H s) (mu:HN (H x)) (he:e=x\/H e=some (.own x)) (k:∀b u,b≠e->s.heap.get? b=some u->h'.get? b=some u) (YI:∃u,h'.get? e=some u)
  (new:cp X.prog X.w (ce H x o) h' x o):aP X Sv σ (ce H x o) {s with heap:=h',toks:=t'}:=I.un (Un.write mu he k YI) (I.hok.write mu he k YI new)
theorem aP.pins_of {UQ:List (L4×LJ)} (I:aP X Sv σ H s) (h:∀p∈UQ,s.heap.get? p.1=some p.2/\H p.1=none/\p.1≠X.env.locals/\p.1∉X.fs/\∀v,p.2.data≠ .cell v):aP X UQ σ H s:=
 ⟨I.ok,I.os,I.bare,I.base,I.loc,I.cell,I.free,I.freeC,λp hp=>(L_.mp hp).elim (λz=>I.pin p (Mi _ z)) (h p),I.hok,I.len⟩
theorem rQ {N:List L3} (hN:N.Nodup) {i j:Nat} {x:L3} (a:N[i]? =some x) (b:N[j]? =some x):i=j:=by
 obtain⟨h1,e1⟩:=Lq.mp a
 obtain⟨h2,e2⟩:=Lq.mp b
 exact(Px hN).mp (e1.trans e2.symm)
theorem A8 {M:Rt} {A:LF} {E:L0->L5->Prop} {i:Nat} {x:L3} {v:V} {u:L0} {Q:Unit->L5->Prop} (I:aP X Sv σ H s) (hN:X.N.Nodup) (hi:X.N[i]? =some x) (hx:A7 X.env.scope x) (r:bW v u)
  (h:∀s',aP X Sv (σ.set i (some v)) H s'->(∃a,Py a s.heap s'.heap/\(a=X.env.locals\/X.env.cells.lookup x=some a))->Q () s') (hf:X.fn x=true\/X.env.scope.names.lookup x=some .local:=by first|exact .inl rfl|exact .inr rfl|assumption):Lg M A (storeName X.env x u) Q E s:=by
 obtain⟨m,hn,hl⟩:=id I.loc
 have ZY:(X.env.scope.kind== .class||(X.env.scope.kind== .module&&X.env.locals != X.env.globals))=false:=by rw[I.ok.kind];rfl
 have a1a:i<σ.length:=by rw[I.len];exact(Lq.mp hi).1
 have cne:=I.cne
 have WU:∀{a:L4} {h':Lr},(∃o,s.heap.get? a=some o/\H a=none)->Py a s.heap h'->lF X.prog X.w H h':=λ{a h'} ha hs b ob e=>by
  obtain⟨_,_,Y4⟩:=ha
  refine(I.hok b ob e).stay (λc w' hc q=>(hs.2 c ?_).trans q) (λ_ q=>q) λ_ _ q=>q
  rintro rfl
  rcases hc with rfl|hc
  ·rw[Y4]at e;cases e
  ·rw[Y4]at hc;cases hc
 rcases hx with hk|hk
 ·refine wpAny_storeName_local hk hn (λh' ZZ hs=> ?_) ZY
  obtain⟨oL,_,_,Xf,_⟩:=id hn
  refine h _ ⟨I.ok,I.os,I.bare,⟨λb o e n hb hx=> ?_,λb o e n hb hx=> ?_,I.base.free,λb o e hx=> ?_,I.base.tups,I.base.frzs,I.base.tbls⟩,⟨_,ZZ,λj y v' e1 e2 e3=> ?_⟩,λy c e=> ?_,I.free,I.freeC,λp hp=> ?_,WU ⟨oL,Xf,I.free⟩ hs,by simpa using I.len⟩ ⟨_,hs, .inl rfl⟩
  ·exact(hs.2 b (LN (LM (Ln e) I.ok.above))).trans (I.base.keep b o e n hb hx)
  ·obtain⟨sl,e1⟩:=I.base.slot b o e n hb hx
   exact⟨sl,(hs.2 b (LN (LM (Ln e) I.ok.above))).trans e1⟩
  ·obtain⟨o',e1⟩:=I.base.there b o e hx
   exact⟨o',(hs.2 b (LN (LM (Ln e) I.ok.above))).trans e1⟩
  ·by_cases hj:j=i
   ·subst hj
    rw[hi]at e1;cases e1
    rw[Qj a1a]at e2
    cases e2
    exact⟨u,r, .inl ⟨hk,by simp⟩⟩
   ·rw[OI (MN hj)]at e2
    obtain⟨u',r',q⟩:=hl j y v' e1 e2 e3
    refine⟨u',r',?_⟩
    rcases q with ⟨k,e⟩|⟨k,c,e,z⟩
    ·refine .inl ⟨k,?_⟩
     have:y≠x:=λe=>hj (rQ hN e1 (e▸hi))
     simp[this,e]
    ·exact .inr ⟨k,c,e,z.sameBut hs (cne y c e)⟩
  ·obtain⟨w',z⟩:=I.cell y c e
   exact⟨w',z.sameBut hs (cne y c e)⟩
  ·obtain⟨e,n,ne,nf,d⟩:=I.pin p hp
   exact⟨(hs.2 p.1 ne).trans e,n,ne,nf,d⟩
 ·have Z_:X.fn x=true:=by
   rcases hf with z|z
   ·exact z
   ·rw[z]at hk;cases hk
  obtain⟨c,hc⟩:=I.ok.has x (.inl hk)
  obtain⟨w',z⟩:=I.cell x c hc
  refine wpAny_storeName_cell I.ok.kind hk hc z (λh' a1b hs=> ?_)
  obtain⟨oc,a1c,a00⟩:=id z
  refine h {s with heap:=h'} ⟨I.ok,I.os,I.bare,⟨λb o e n hb hx=> ?_,λb o e n hb hx=> ?_,I.base.free,λb o e hx=> ?_,I.base.tups,I.base.frzs,I.base.tbls⟩,⟨m,hn.sameBut hs (MN (cne x c hc)),λj y v' e1 e2 e3=> ?_⟩,λy c' e=> ?_,I.free,I.freeC,λp hp=> ?_,WU ⟨oc,a1c,I.freeC x c hc⟩ hs,by simpa using I.len⟩ ⟨c,hs, .inr hc⟩
  ·exact(hs.2 b (LN (LM (Ln e) (I.ok.cab x c Z_ hc)))).trans (I.base.keep b o e n hb hx)
  ·obtain⟨sl,e1⟩:=I.base.slot b o e n hb hx
   exact⟨sl,(hs.2 b (LN (LM (Ln e) (I.ok.cab x c Z_ hc)))).trans e1⟩
  ·obtain⟨o',e1⟩:=I.base.there b o e hx
   exact⟨o',(hs.2 b (LN (LM (Ln e) (I.ok.cab x c Z_ hc)))).trans e1⟩
  ·by_cases hj:j=i
   ·subst hj
    rw[hi]at e1;cases e1
    rw[Qj a1a]at e2
    cases e2
    exact⟨u,r, .inr ⟨.inl hk,c,hc,a1b⟩⟩
   ·rw[OI (MN hj)]at e2
    obtain⟨u',r',q⟩:=hl j y v' e1 e2 e3
    refine⟨u',r',?_⟩
    rcases q with q|⟨k,c',e,z'⟩
    ·exact .inl q
    ·refine .inr ⟨k,c',e,z'.sameBut hs ?_⟩
     rintro rfl
     exact hj (rQ hN e1 (I.ok.inj _ _ _ e hc▸hi))
  ·by_cases a1d:c'=c
   ·subst a1d;exact⟨_,a1b⟩
   ·obtain⟨w2,z2⟩:=I.cell y c' e
    exact⟨w2,z2.sameBut hs a1d⟩
  ·obtain⟨e,n,ne,nf,d⟩:=I.pin p hp
   refine⟨(hs.2 p.1 ?_).trans e,n,ne,nf,d⟩
   intro q
   rw[q,a1c]at e
   have q':oc=p.2:=M4 e
   exact d w' (by rw[<-q'];exact a00)
theorem rR {M:Rt} {A:LF} {E:L0->L5->Prop} {i:Nat} {x:L3} {v:V} {u:L0} {Q:Unit->L5->Prop} (I:aP X Sv σ H s) (hN:X.N.Nodup) (hi:X.N[i]? =some x) (hx:A7 X.env.scope x) (r:bW v u)
  (h:∀s',aP X Sv (σ.set i (some v)) H s'->Q () s') (hf:X.fn x=true\/X.env.scope.names.lookup x=some .local:=by first|exact .inl rfl|exact .inr rfl|assumption):Lg M A (storeName X.env x u) Q E s:=
 A8 I hN hi hx r (λs' I' _=>h s' I') hf
theorem aP.call' {s':L5} {ch:List L4} (I:aP X Sv σ H s) (ho:s'.os=s.os) (u:Un (rB X.stack) ch H H' s.heap s'.heap) (hok:lF X.prog X.w H' s'.heap) (hg:Oc s'.gens)
  (Xw:∀b∈ch,(b∈X.ex\/X.s₀.heap.objs.size<=b)/\b≠X.env.locals/\(∀x c,X.env.cells.lookup x=some c->c≠b)/\∀p∈X.pn++Sv,p.1≠b):aP X Sv σ H' s':=by
 obtain⟨h',g',d',t',o'⟩:=s'
 have e:o'=s.os:=ho
 subst e
 exact I.call (g':=g') (t':=t') (d':=d') u hok hg Xw
end
abbrev XK:=L0->Option L4->Hp->Prop
abbrev St:=List (Option V)
abbrev VK:=V->Hp->Prop
abbrev TE:=St->Hp->VK->Prop
abbrev TT:=St->Hp->(Bool->Hp->Prop)->Prop
abbrev TA:=St->Hp->(List V->Hp->Prop)->Prop
structure nO where
 nx:St->Hp->Prop
 rt:VK
 bk:St->Hp->Prop:=λ_ _=>False
 ct:St->Hp->Prop:=λ_ _=>False
abbrev TS:=nO->St->Hp->Prop
def EP (X:Cx) (Sv:List (L4×LJ)) (σ:St) (Q:VK) (u:L0) (s':L5):Prop:=∃v H',aP X Sv σ H' s'/\bW v u/\Q v H'
def TP (X:Cx) (Sv:List (L4×LJ)) (σ:St) (Q:Bool->Hp->Prop) (b:Bool) (s':L5):Prop:=∃H',aP X Sv σ H' s'/\Q b H'
def AP (X:Cx) (Sv:List (L4×LJ)) (σ:St) (Q:List V->Hp->Prop) (us:List L0) (s':L5):Prop:=∃vs H',aP X Sv σ H' s'/\bp vs us/\Q vs H'
def SP (X:Cx) (Sv:List (L4×LJ)) (D:nO) (f:Flow) (s':L5):Prop:=
 match f with
 | .next=>∃σ' H',aP X Sv σ' H' s'/\D.nx σ' H'
 | .brk=>∃σ' H',aP X Sv σ' H' s'/\D.bk σ' H'
 | .cont=>∃σ' H',aP X Sv σ' H' s'/\D.ct σ' H'
 | .ret u=>∃v σ' H',aP X Sv σ' H' s'/\bW v u/\D.rt v H'
def PE (X:Cx) (e:Lc) (t:TE):Prop:=
 ∀(Sv:List (L4×LJ)) (s:L5) (σ:St) (H:Hp) (Q:VK),aP X Sv σ H s->t σ H Q->Lg (Lj X.prog X.w) X.A (Ls e X.env) (EP X Sv σ Q) X.xe s
def PT (X:Cx) (e:Lc) (t:TT):Prop:=
 ∀(Sv:List (L4×LJ)) (s:L5) (σ:St) (H:Hp) (Q:Bool->Hp->Prop),aP X Sv σ H s->t σ H Q->Lg (Lj X.prog X.w) X.A (Qs e X.env (Ls e X.env)) (TP X Sv σ Q) X.xe s
def PW (X:Cx) (e:Lc) (t:TT):Prop:=
 ∀(Uj:Oq L0) (Sv:List (L4×LJ)) (s:L5) (σ:St) (H:Hp) (Q:Bool->Hp->Prop),aP X Sv σ H s->t σ H Q->Lg (Lj X.prog X.w) X.A (Qs e X.env Uj) (TP X Sv σ Q) X.xe s
theorem PW.pt {X:Cx} {e:Lc} {t:TT} (h:PW X e t):PT X e t:=h _
def PA (X:Cx) (es:List Lc) (t:TA):Prop:=
 ∀(pos:LR) (Sv:List (L4×LJ)) (s:L5) (σ:St) (H:Hp) (Q:List V->Hp->Prop),aP X Sv σ H s->t σ H Q->Lg (Lj X.prog X.w) X.A (S5 (LK pos (L8 es X.env))) (AP X Sv σ Q) X.xe s
def PS (X:Cx) (st:Lw) (t:TS):Prop:=
 ∀(Sv:List (L4×LJ)) (s:L5) (σ:St) (H:Hp) (D:nO),aP X Sv σ H s->t D σ H->Lg (Lj X.prog X.w) X.A (exec st X.env) (SP X Sv D) X.xe s
def rC (X:Cx) (st:List Lw) (t:TS):Prop:=
 ∀(Sv:List (L4×LJ)) (s:L5) (σ:St) (H:Hp) (D:nO),aP X Sv σ H s->t D σ H->Lg (Lj X.prog X.w) X.A (execs st X.env) (SP X Sv D) X.xe s
theorem cY {α:Type} {t:Oq α} {Q Q':α->L5->Prop} {M:Rt} {A:LF} {E:L0->L5->Prop} {s:L5} (h:Lg M A t Q E s) (hQ:∀a s,Q a s->Q' a s):Lg M A t Q' E s:=MR h hQ λ_ _ x=>x
end L2
namespace L2
open PySem PySem.Spec PyProof.Rows
section
variable {X:Cx}
def Bo (i:Nat):TE:=λσ H Q=>∃v,σ[i]? =some (some v)/\Q v H
def tC (v:V):TE:=λ_ H Q=>Q v H
theorem FU {i:Nat} {x:L3} {pos:LR} (hN:X.N[i]? =some x) (hv:pT X.env.scope x) (hd:(x==("__debug__":L3))=false:=by decide) (U3:(x==("__classdict__":L3))=false:=by decide):PE X (.Name x pos) (Bo i):=by
 intro Sv s σ H Q I h
 obtain⟨v,e,h⟩:=h
 obtain⟨m,hn,hl⟩:=I.loc
 obtain⟨u,r,l⟩:=hl i x v hN e hv
 have Uk:EP X Sv σ Q u s:=⟨v,H,I,r,h⟩
 rcases l with ⟨hk,hm⟩|⟨hk,c,hc,WV⟩
 ·exact RU (wpAny_loadName_local I.ok.kind hk hn hm Uk) hd
 ·rcases hk with hk|hk
  ·exact RU (wpAny_loadName_cell I.ok.kind hk hc WV Uk) hd
  ·exact RU (wpAny_loadName_free I.ok.kind hk hc WV Uk U3) hd
theorem Bp {i j pos}:PE X (.Constant (.int i) j pos) (tC (.int i)):=λ_ _ _ H _ I h=>wpAny_Constant_int ⟨.int i,H,I.tok _,⟨_,rfl⟩,h⟩
theorem HP {b j pos}:PE X (.Constant (.bool b) j pos) (tC (.bl b)):=λ_ _ _ H _ I h=>Constant_bool ⟨.bl b,H,I,rfl,h⟩
theorem FV {j pos}:PE X (.Constant .none j pos) (tC .non):=λ_ _ _ H _ I h=>Constant_none ⟨.non,H,I,rfl,h⟩
theorem FW {x j pos}:PE X (.Constant (.str x) j pos) (tC (.str x)):=λ_ _ _ H _ I h=>Calls.Constant_str ⟨.str x,H,I.tok _,⟨_,rfl⟩,h⟩
def Gl (X:Cx) (x:L3):Prop:=X.env.kindOf x=some .globalImplicit
theorem oH {E:L0->L5->Prop} {Sv:List (L4×LJ)} {s:L5} {σ:St} {H:Hp} {x:L3} {u:L0} {pos:LR} {Q:L0->L5->Prop} (I:aP X Sv σ H s) (hg:Gl X x) (hm:X.mg x=some u) (h:Q u s)
  (hd:(x==("__debug__":L3))=false:=by decide):Lg (Lj X.prog X.w) X.A (Ls (.Name x pos) X.env) Q E s:=
 P1 I.ok.kind hg (Calls.loadGlobal_global (by rw[I.ok.glob];exact I.mod.glob.keeps I.bk) hm h) hd
theorem nP {E:L0->L5->Prop} {Sv:List (L4×LJ)} {s:L5} {σ:St} {H:Hp} {x:L3} {u:L0} {pos:LR} {Q:L0->L5->Prop} (I:aP X Sv σ H s) (hg:Gl X x) (hm:X.mg x=none) (hv:LS x=some u) (h:Q u s)
  (hn:x≠"__name__":=by decide) (hd:(x==("__debug__":L3))=false:=by decide):Lg (Lj X.prog X.w) X.A (Ls (.Name x pos) X.env) Q E s:=by
 obtain⟨mb,h1,h2⟩:=I.mod.blt
 exact P1 I.ok.kind hg (Calls.loadGlobal_builtin (by rw[I.ok.glob];exact I.mod.glob.keeps I.bk) hm (by rw[I.ok.blt];exact h1.keeps I.bk) ((h2 x hn).trans hv) h) hd
theorem yN {x:L3} {v:V} {u:L0} {pos:LR} (hg:Gl X x) (hm:X.mg x=some u) (r:bW v u) (hd:(x==("__debug__":L3))=false:=by decide):PE X (.Name x pos) (tC v):=
 λ_ _ _ H _ I h=>oH I hg hm ⟨v,H,I,r,h⟩ hd
theorem yO {x:L3} {v:V} {u:L0} {pos:LR} (hg:Gl X x) (hm:X.mg x=none) (hv:LS x=some u) (r:bW v u) (hn:x≠"__name__":=by decide) (hd:(x==("__debug__":L3))=false:=by decide):PE X (.Name x pos) (tC v):=
 λ_ _ _ H _ I h=>nP I hg hm hv ⟨v,H,I,r,h⟩ hn hd
variable {a b:Lc} {ta tb:TE} {pos:LR}
def PC (X:Cx) (op:QG) (a b:Lc) (t:TE):Prop:=
 ∀(Sv:List (L4×LJ)) (s:L5) (σ:St) (H:Hp) (Q:VK),aP X Sv σ H s->t σ H Q->
  Lg (Lj X.prog X.w) X.A (Ls a X.env) (λv s₁=>Lg (Lj X.prog X.w) X.A (Ls b X.env) (λu s₂=>Lg (Lj X.prog X.w) X.A (Mv op v u) (EP X Sv σ Q) X.xe s₂) X.xe s₁) X.xe s
def tB (t:TE):TT:=λσ H Q=>t σ H λx H1=>∃c,x= .bl c/\Q c H1
theorem Bq {op:QG} {t:TE} (h:PC X op a b t) (h1:Mz op b=false:=by first|exact nobehind _ (by decide) (by decide)|rfl):PE X (.Compare a [op] [b] pos) t:=λSv s σ H Q I hw=>wpAny_Compare1 (h Sv s σ H Q I hw) h1
theorem Br {op:QG} {t:TE} (h:PC X op a b t) (h1:Mz op b=false:=by first|exact nobehind _ (by decide) (by decide)|rfl):PT X (.Compare a [op] [b] pos) (tB t):=by
 intro Sv s σ H Q I hw
 refine Qt (cY (h Sv s σ H _ I hw) λv s1 h1=>cY h1 λu s2 h2=>cY h2 λc s3 z_=> ?_) h1
 obtain⟨x,H1,I1,r1,q1⟩:=z_
 obtain⟨d,rfl,q⟩:=q1
 cases r1
 exact MJ ⟨H1,I1,q⟩
theorem FX {e:Lc} {t:TE} (h:PE X e t) (he:∀Uj,Qs e X.env Uj=(do let v<-Uj;Nq e.pos;MW [v] (RV v)):=by intro _;rfl):PT X e (tB t):=by
 intro Sv s σ H Q I hw
 refine isTrue_plain (cY (h Sv s σ H _ I hw) λv s1 z_=> ?_) (he _)
 obtain⟨x,H1,I1,r1,q1⟩:=z_
 obtain⟨d,rfl,q⟩:=q1
 cases r1
 exact MJ ⟨H1,I1,q⟩
variable {tA tB':TT} {rest:List Lc}
def Jx (t u:TT):TT:=λσ H Q=>t σ H λc H1=>if c=true then u σ H1 Q else Q false H1
def Kw (t u:TT):TT:=λσ H Q=>t σ H λc H1=>if c=true then Q true H1 else u σ H1 Q
def Jy (t:TT):TT:=λσ H Q=>t σ H λc H1=>Q (!c) H1
theorem DM (ha:PT X a tA):PW X (.BoolOp .And [a] pos) tA:=by
 intro wh Sv s σ H Q I h
 refine isTrue_and (cY (ha Sv s σ H Q I h) λc s1 e=> ?_)
 cases c with
 |true=>exact isTrue_and_nil e
 |false=>exact e
theorem Bs (ha:PT X a tA):PW X (.BoolOp .Or [a] pos) tA:=by
 intro wh Sv s σ H Q I h
 refine isTrue_or (cY (ha Sv s σ H Q I h) λc s1 e=> ?_)
 cases c with
 |false=>exact isTrue_or_nil e
 |true=>exact e
theorem FY (ha:PT X a tA) (hb:PW X (.BoolOp .And (b::rest) pos) tB'):PW X (.BoolOp .And (a::b::rest) pos) (Jx tA tB'):=by
 intro wh Sv s σ H Q I h
 refine isTrue_and (cY (ha Sv s σ H _ I h) λc s1 z_=> ?_)
 obtain⟨H1,I1,q1⟩:=z_
 cases c with
 |true=>exact hb wh Sv s1 σ H1 Q I1 q1
 |false=>exact⟨H1,I1,q1⟩
theorem Fa (ha:PT X a tA) (hb:PW X (.BoolOp .Or (b::rest) pos) tB'):PW X (.BoolOp .Or (a::b::rest) pos) (Kw tA tB'):=by
 intro wh Sv s σ H Q I h
 refine isTrue_or (cY (ha Sv s σ H _ I h) λc s1 z_=> ?_)
 obtain⟨H1,I1,q1⟩:=z_
 cases c with
 |true=>exact⟨H1,I1,q1⟩
 |false=>exact hb wh Sv s1 σ H1 Q I1 q1
theorem Bt (ha:PT X a tA):PT X (.UnaryOp .Not a pos) (Jy tA):=by
 intro Sv s σ H Q I h
 exact isTrue_not (ha Sv s σ H (λc H1=>Q (!c) H1) I h)
def HQ (ta tb:TE):TE:=λσ H Q=>ta σ H λx H1=>∃c,x= .bl c/\if c=true then tb σ H1 Q else Q (.bl false) H1
def Jz (ta tb:TE):TE:=λσ H Q=>ta σ H λx H1=>∃c,x= .bl c/\if c=true then Q (.bl true) H1 else tb σ H1 Q
def HR (ta:TE):TE:=λσ H Q=>ta σ H λx H1=>∃c,x= .bl c/\Q (.bl (!c)) H1
theorem Bu {op} {t:TE} (h:PE X a t):PE X (.BoolOp op [a] pos) t:=λSv s σ H Q I hw=>BoolOp_one (h Sv s σ H Q I hw)
theorem Bv (ha:PE X a ta) (hb:PE X (.BoolOp .And (b::rest) pos) tb):PE X (.BoolOp .And (a::b::rest) pos) (HQ ta tb):=by
 intro Sv s σ H Q I h
 refine BoolOp_and (cY (ha Sv s σ H _ I h) λv s1 z_=> ?_)
 obtain⟨x,H1,I1,r1,q1⟩:=z_
 obtain⟨c,rfl,q1⟩:=q1
 cases r1
 refine MJ ?_
 cases c with
 |true=>exact hb Sv s1 σ H1 Q I1 q1
 |false=>exact⟨.bl false,H1,I1,rfl,q1⟩
theorem HS (ha:PE X a ta) (hb:PE X (.BoolOp .Or (b::rest) pos) tb):PE X (.BoolOp .Or (a::b::rest) pos) (Jz ta tb):=by
 intro Sv s σ H Q I h
 refine BoolOp_or (cY (ha Sv s σ H _ I h) λv s1 z_=> ?_)
 obtain⟨x,H1,I1,r1,q1⟩:=z_
 obtain⟨c,rfl,q1⟩:=q1
 cases r1
 refine MJ ?_
 cases c with
 |false=>exact hb Sv s1 σ H1 Q I1 q1
 |true=>exact⟨.bl true,H1,I1,rfl,q1⟩
theorem FZ (ha:PE X a ta):PE X (.UnaryOp .Not a pos) (HR ta):=by
 intro Sv s σ H Q I h
 refine UnaryOp_ (cY (ha Sv s σ H _ I h) λv s1 z_=> ?_)
 obtain⟨x,H1,I1,r1,q1⟩:=z_
 obtain⟨c,rfl,q1⟩:=q1
 cases r1
 exact not_of (MJ ⟨.bl (!c),H1,I1,rfl,q1⟩)
end
end L2
namespace L2
open PySem PySem.Spec PyProof.Rows
def dC (K:K_) (H:Hp) (a:L4) (xs:List V):Prop:=
 Rd H a (.lst xs)\/
  ∃(o:LJ) (its:Array L0) (n:Nat),K.lookup a=some o/\o.cls= .type "list"/\o.dict=none/\o.data= .seq its n/\its.size<=sizeLine/\bp xs its.toList
def iY (K:K_) (H:Hp) (a:L4) (xs:List V):Prop:=
 Rd H a (.tup xs)\/
  ∃(o:LJ) (its:Array L0) (n:Nat),K.lookup a=some o/\o.cls= .type "tuple"/\o.data= .seq its n/\its.size<=sizeLine/\bp xs its.toList
def JA:L0->Option V
 | .none=>some .non
 | .bool b=>some (.bl b)
 | .int i _=>some (.int i)
 | .str x _=>some (.str x)
 | .bytes b _=>some (.byt b)
 | .float b _=>some (.flt b)
 | .ref a=>some (.ref a)
 | .type n=>some (.ty n)
 |_=>none
theorem bW.abs {x:V} {u:L0} (r:bW x u):JA u=some x:=by
 cases x with
 |non=>cases r;rfl
 |bl _=>cases r;rfl
 |int _=>obtain⟨t,rfl⟩:=r;rfl
 |str _=>obtain⟨t,rfl⟩:=r;rfl
 |byt _=>obtain⟨t,rfl⟩:=r;rfl
 |flt _=>obtain⟨t,rfl⟩:=r;rfl
 |ref _=>cases r;rfl
 |ty _=>cases r;rfl
theorem bW.inj {x y:V} {u:L0} (r:bW x u) (q:bW y u):x=y:=M4 (r.abs.symm.trans q.abs)
theorem bp.inj:∀{xs ys:List V} {us:List L0},bp xs us->bp ys us->xs=ys
 |_,_,_, .nil, .nil=>rfl
 |_,_,_, .cons r t, .cons r' t'=>by rw[r.inj r',bp.inj t t']
section
variable {X:Cx} {Sv:List (L4×LJ)} {σ:St} {H:Hp} {s:L5} {a:L4} {xs ys:List V}
theorem dC.of {K:K_} (h:H a=some (.lst xs)):dC K H a xs:= .inl (.inl h)
theorem iY.of {K:K_} (h:H a=some (.tup xs)):iY K H a xs:= .inl (.inl h)
theorem aP.list (I:aP X Sv σ H s) (h:dC X.K H a xs):∃its:List L0,bp xs its/\PlainL s.heap a its.toArray/\xs.length<=sizeLine:=by
 rcases h with h|⟨o,its,n,hk,hc,hd,hs,hz,r⟩
 ·obtain⟨z,its,n,r,e⟩:=h.ok I.hok
  exact⟨its,r,⟨_,n,e,rfl,rfl,rfl⟩,z⟩
 ·refine⟨its.toList,r,⟨o,n,I.kIn a o hk,hc,hd,by simpa using hs⟩,?_⟩
  have e:=r.length
  simp only[MK]at e
  omega
theorem aP.tuple (I:aP X Sv σ H s) (h:iY X.K H a xs):∃its:List L0,bp xs its/\QF s.heap a its.toArray/\xs.length<=sizeLine:=by
 rcases h with h|⟨o,its,n,hk,hc,hs,hz,r⟩
 ·obtain⟨z,its,r,p⟩:=h.ok I.hok
  exact⟨its,r,p.tup,z⟩
 ·refine⟨its.toList,r,⟨o,I.kIn a o hk,hc,n,by simpa using hs⟩,?_⟩
  have e:=r.length
  simp only[MK]at e
  omega
theorem aP.list_inj (I:aP X Sv σ H s) (h:dC X.K H a xs) (h':dC X.K H a ys):xs=ys:=by
 obtain⟨its,r,⟨o,n,e,_,_,d⟩,_⟩:=I.list h
 obtain⟨its',r',⟨o',n',e',_,_,d'⟩,_⟩:=I.list h'
 rw[e]at e';cases e'
 rw[d]at d'
 injection d' with d1 _
 have:its=its':=by simpa using congrArg Sk d1
 subst this
 exact r.inj r'
theorem aP.tuple_inj (I:aP X Sv σ H s) (h:iY X.K H a xs) (h':iY X.K H a ys):xs=ys:=by
 obtain⟨its,r,⟨o,e,_,n,d⟩,_⟩:=I.tuple h
 obtain⟨its',r',⟨o',e',_,n',d'⟩,_⟩:=I.tuple h'
 rw[e]at e';cases e'
 rw[d]at d'
 injection d' with d1 _
 have:its=its':=by simpa using congrArg Sk d1
 subst this
 exact r.inj r'
end
abbrev Cx.wish (X:Cx) (E:L0->L5->Prop):Cx:={X with xe:=E}
abbrev Cx.nox (X:Cx):Cx:=X.wish λ_ _=>False
theorem Cx.Ok.wish {X:Cx} (ok:X.Ok) (E:L0->L5->Prop):(X.wish E).Ok:=
 ⟨ok.mod,ok.kind,ok.glob,ok.blt,ok.above,ok.inj,ok.has,ok.cab,ok.hd,ok.frames,ok.stk,ok.exf,ok.bs,ok.bsz,ok.noex,ok.exfs,ok.funs,ok.frf⟩
theorem Cx.Ok.unwish {X:Cx} {E:L0->L5->Prop} (ok:(X.wish E).Ok):X.Ok:=
 ⟨ok.mod,ok.kind,ok.glob,ok.blt,ok.above,ok.inj,ok.has,ok.cab,ok.hd,ok.frames,ok.stk,ok.exf,ok.bs,ok.bsz,ok.noex,ok.exfs,ok.funs,ok.frf⟩
section
variable {X:Cx} {Sv:List (L4×LJ)} {σ:St} {H:Hp} {s:L5} {E:L0->L5->Prop}
theorem aP.wish (I:aP X Sv σ H s) (E:L0->L5->Prop):aP (X.wish E) Sv σ H s:=⟨I.ok.wish E,I.os,I.bare,I.base,I.loc,I.cell,I.free,I.freeC,I.pin,I.hok,I.len⟩
theorem aP.unwish (I:aP (X.wish E) Sv σ H s):aP X Sv σ H s:=⟨I.ok.unwish,I.os,I.bare,I.base,I.loc,I.cell,I.free,I.freeC,I.pin,I.hok,I.len⟩
theorem SP.unwish {D:nO} {f:Flow} {s':L5} (h:SP (X.wish E) Sv D f s'):SP X Sv D f s':=by
 cases f with
 |next=>obtain⟨σ',H',I,q⟩:=h;exact⟨σ',H',I.unwish,q⟩
 |brk=>obtain⟨σ',H',I,q⟩:=h;exact⟨σ',H',I.unwish,q⟩
 |cont=>obtain⟨σ',H',I,q⟩:=h;exact⟨σ',H',I.unwish,q⟩
 |ret u=>obtain⟨v,σ',H',I,r,q⟩:=h;exact⟨v,σ',H',I.unwish,r,q⟩
theorem PE.nox {e:Lc} {t:TE} (h:PE X.nox e t):PE X e t:=λSv s σ H Q I hw=>
 MR (h Sv s σ H Q (I.wish _) hw) (λ_ _ ⟨v,H',I',r,q⟩=>⟨v,H',I'.unwish,r,q⟩) λ_ _ z=>MG z
theorem PT.nox {e:Lc} {t:TT} (h:PT X.nox e t):PT X e t:=λSv s σ H Q I hw=>
 MR (h Sv s σ H Q (I.wish _) hw) (λ_ _ ⟨H',I',q⟩=>⟨H',I'.unwish,q⟩) λ_ _ z=>MG z
theorem rC.nox {st:List Lw} {t:TS} (h:rC X.nox st t):rC X st t:=λSv s σ H D I hw=>
 MR (h Sv s σ H D (I.wish _) hw) (λ_ _ q=>q.unwish) λ_ _ z=>MG z
end
section
variable {X:Cx} {st:Lw} {rest:List Lw} {t u:TS} {e:Lc} {te:TE} {pos:LR}
def HU:TS:=λD σ H=>D.nx σ H
def JB (t u:TS):TS:=λD σ H=>t {D with nx:=u D} σ H
theorem DN:rC X [] HU:=λ_ _ σ H _ I h=>NY ⟨σ,H,I,h⟩
theorem vZ (h1:PS X st t) (h2:rC X rest u):rC X (st::rest) (JB t u):=by
 intro Sv s σ H D I h
 refine wpAny_execs_cons (cY (h1 Sv s σ H {D with nx:=u D} I h) λf s1 q=> ?_)
 cases f with
 |next=>
  obtain⟨σ',H',I',q⟩:=q
  exact h2 Sv s1 σ' H' D I' q
 |ret v=>exact q
 |brk=>exact q
 |cont=>exact q
theorem yP (h1:PS X st t):rC X [st] t:=by
 intro Sv s σ H D I h
 refine wpAny_execs_cons (cY (h1 Sv s σ H D I h) λf s1 q=> ?_)
 cases f with
 |next=>exact NY q
 |ret v=>exact q
 |brk=>exact q
 |cont=>exact q
theorem aP.quiet {Sv:List (L4×LJ)} {σ:St} {H:Hp} {s:L5} (I:aP X Sv σ H s):interactive X.env=false:=by simp[interactive,I.ok.kind]
def HV (te:TE):TS:=λD σ H=>te σ H λ_ H1=>D.nx σ H1
theorem oI (he:PE X e te) (hs:M6 e none pos.line X.env=pure false:=by rfl):PS X (.Expr e pos) (HV te):=by
 intro Sv s σ H D I h
 exact wpAny_Expr_any (cY (he Sv s σ H _ I h) λv s1 ⟨x,H1,I1,r1,q1⟩=>⟨σ,H1,I1,q1⟩) I.quiet hs
def JC (te:TE):TS:=λD σ H=>te σ H D.rt
theorem rS (he:PE X e te):PS X (.Return (some e) pos) (JC te):=by
 intro Sv s σ H D I h
 exact wpAny_Return_some (cY (he Sv s σ H _ I h) λv s1 ⟨x,H1,I1,r1,q1⟩=>⟨x,σ,H1,I1,r1,q1⟩)
def JD (c:TT) (t u:TS):TS:=λD σ H=>c σ H λb H1=>if b=true then t D σ H1 else u D σ H1
theorem Fb {c:Lc} {a b:List Lw} {tc:TT} (hc:PT X c tc) (ha:rC X a t) (hb:rC X b u):PS X (.If c a b pos) (JD tc t u):=by
 intro Sv s σ H D I h
 refine wpAny_If (cY (hc Sv s σ H _ I h) λd s1 z_=> ?_)
 obtain⟨H1,I1,q1⟩:=z_
 cases d with
 |true=>exact ha Sv s1 σ H1 D I1 q1
 |false=>exact hb Sv s1 σ H1 D I1 q1
end
abbrev TG:=V->St->Hp->(St->Hp->Prop)->Prop
abbrev Bw:=List V->St->Hp->(St->Hp->Prop)->Prop
def PG (X:Cx) (Yc:Lc) (t:TG):Prop:=
 ∀(Sv:List (L4×LJ)) (s:L5) (σ:St) (H:Hp) (v:V) (u:L0) (Q:St->Hp->Prop),aP X Sv σ H s->bW v u->t v σ H Q->
  Lg (Lj X.prog X.w) X.A (NR Yc X.env u) (λ_ s'=>∃σ' H',aP X Sv σ' H' s'/\Q σ' H') X.xe s
def Bx (X:Cx) (ts:List Lc) (t:Bw):Prop:=
 ∀(Sv:List (L4×LJ)) (s:L5) (σ:St) (H:Hp) (vs:List V) (us:List L0) (Q:St->Hp->Prop),aP X Sv σ H s->bp vs us->t vs σ H Q->
  Lg (Lj X.prog X.w) X.A (assignInOrder ((M9 ts X.env).map (·.2)) us) (λ_ s'=>∃σ' H',aP X Sv σ' H' s'/\Q σ' H') X.xe s
abbrev F_:=V->V->V->Hp->(Hp->Prop)->Prop
def HW (X:Cx) (t:F_):Prop:=
 ∀(Sv:List (L4×LJ)) (s:L5) (σ:St) (H:Hp) (o i v:V) (ov iv u:L0) (Q:Hp->Prop),aP X Sv σ H s->bW o ov->bW i iv->bW v u->t o i v H Q->
  Lg (Lj X.prog X.w) X.A (S6 ov iv u) (λ_ s'=>∃H',aP X Sv σ H' s'/\Q H') X.xe s
section
variable {X:Cx} {pos:LR}
def Fc (i:Nat):TG:=λv σ H Q=>Q (σ.set i (some v)) H
theorem yQ {i:Nat} {x:L3} (hN:X.N.Nodup) (hi:X.N[i]? =some x) (hx:A7 X.env.scope x) (hf:X.fn x=true\/X.env.scope.names.lookup x=some .local:=by first|exact .inl rfl|exact .inr rfl|assumption):PG X (.Name x pos) (Fc i):=by
 intro Sv s σ H v u Q I r h
 exact wpAny_assign_Name (rR I hN hi hx r (λs' I'=>⟨_,H,I',h⟩) hf)
def JE:Bw:=λvs σ H Q=>vs=[]/\Q σ H
def HX (t:TG) (u:Bw):Bw:=λvs σ H Q=>∃v r,vs=v::r/\t v σ H λσ' H'=>u r σ' H' Q
theorem DO:Bx X [] JE:=by
 intro Sv s σ H vs us Q I r h
 obtain⟨e,h⟩:=h
 subst e
 cases r
 exact assignInOrder_nil ⟨σ,H,I,h⟩
theorem By {e:Lc} {es:List Lc} {t:TG} {u:Bw} (h1:PG X e t) (h2:Bx X es u)
  (hs:(M9 (e::es) X.env).map (·.2)=NR e X.env::(M9 es X.env).map (·.2):=by rfl):Bx X (e::es) (HX t u):=by
 intro Sv s σ H vs us Q I r h
 obtain⟨v,vr,e1,h⟩:=h
 subst e1
 cases r with
 |cons r rr=>
  rw[hs]
  refine assignInOrder_cons (cY (h1 Sv s σ H _ _ _ I r h) λ_ s1 z_=> ?_)
  obtain⟨σ1,H1,I1,q1⟩:=z_
  exact h2 Sv s1 σ1 H1 _ _ Q I1 rr q1
def JF (K:K_) (n:Nat) (t:Bw):TG:=λv σ H Q=>∃a xs,v= .ref a/\iY K H a xs/\xs.length=n/\t xs σ H Q
theorem Bz {es:List Lc} {k:Nat} {t:Bw} {n:Nat} (hc:X.calm=true) (h:Bx X es t)
  (hn:(M9 es X.env).length=n:=by rfl) (Vr:(M9 es X.env).findIdx? (·.1)=none:=by rfl):PG X (.Tuple es k pos) (JF X.K n t):=by
 intro Sv s σ H v u Q I r hw
 obtain⟨a,xs,e1,hq,hl,hw⟩:=hw
 subst e1
 cases r
 obtain⟨its,rv,ht,hz⟩:=I.tuple hq
 refine assign_Tuple_tuple (I.ok.hd hc) ht (by simp[hn,<-hl,rv.length]) Vr λh' hx=> ?_
 have I1:aP X Sv σ H {s with heap:=h'}:=I.kept (t':=s.toks) λb o e=>hx b o (LN (Ln e)) e
 exact h Sv _ σ H xs _ Q I1 (by simpa using rv) hw
def JG (to ti:TE) (t:F_):TG:=λv σ H Q=>to σ H λo H1=>ti σ H1 λi H2=>t o i v H2 λH3=>Q σ H3
theorem G0 {o i:Lc} {to ti:TE} {t:F_} (ho:PE X o to) (hi:PE X i ti) (hs:HW X t)
  (ha:∀v,NR (.Subscript o i pos) X.env v=(do
   let ov<-MW [v] (Ls o X.env)
   let iv<-MW [v,ov] (Ls i X.env)
   Nq pos
   MW [v,ov,iv] (S6 ov iv v)
   release [v,ov,iv] []):=by intro _;rfl):PG X (.Subscript o i pos) (JG to ti t):=by
 intro Sv s σ H v u Q I r h
 rw[ha]
 refine L6 (M1 (cY (ho Sv s σ H _ I h) λov s1 z_=> ?_))
 obtain⟨x,H1,I1,r1,q1⟩:=z_
 refine L6 (M1 (cY (hi Sv s1 σ H1 _ I1 q1) λiv s2 z_=> ?_))
 obtain⟨y,H2,I2,r2,q2⟩:=z_
 refine L6 (Ov (L6 (M1 (cY (hs Sv s2 σ H2 x y v ov iv u _ I2 r1 r2 r q2) λ_ s3 z_=> ?_))))
 obtain⟨H3,I3,q3⟩:=z_
 exact wpAny_release ⟨σ,H3,I3,q3⟩
def G1 (te:TE) (g:TG):TS:=λD σ H=>te σ H λx H1=>g x σ H1 D.nx
theorem xJ {tg e:Lc} {te:TE} {g:TG} (he:PE X e te) (hg:PG X tg g) (hs:P2 [tg] e pos.line X.env=pure false:=by rfl) (hw:P4 [tg] e X.env=pure none:=by rfl)
  (h1:(M9 [tg] X.env).map (·.2)=[NR tg X.env]:=by rfl):PS X (.Assign [tg] e pos) (G1 te g):=by
 intro Sv s σ H D I h
 refine wpAny_Assign_stores (cY (he Sv s σ H _ I h) λv s1 z_=> ?_) hs hw
 obtain⟨x,H1,I1,r1,q1⟩:=z_
 rw[h1]
 exact cY (hg Sv s1 σ H1 x v _ I1 r1 q1) λ_ s2 q=>q
theorem nQ {i:Nat} {x:L3} {e:Lc} {te:TE} {SY:LR} (hN:X.N.Nodup) (hi:X.N[i]? =some x) (hx:A7 X.env.scope x) (he:PE X e te) (hs:M6 e (some (.Name x SY)) pos.line X.env=pure false:=by rfl) (hf:X.fn x=true\/X.env.scope.names.lookup x=some .local:=by first|exact .inl rfl|exact .inr rfl|assumption):
  PS X (.Assign [.Name x SY] e pos) (G1 te (Fc i)):=by
 intro Sv s σ H D I h
 refine wpAny_Assign_Name (cY (he Sv s σ H _ I h) λv s1 z_=> ?_) hs
 obtain⟨y,H1,I1,r1,q1⟩:=z_
 exact rR I1 hN hi hx r1 (λs2 I2=>⟨_,H1,I2,q1⟩) hf
end
section
variable {X:Cx} {pos:LR}
def BB (c:TT) (tb:TS):TS:=λD σ H=>∃W:Nat->St->Hp->Prop,(∃m,W m σ H)/\∀m σ H,W m σ H->
 c σ H λb H1=>if b=true then ∃N:St->Hp->Prop,(∀σ' H',N σ' H'->∃m',m'<m/\W m' σ' H')/\tb {D with nx:=N,ct:=N,bk:=D.nx} σ H1 else D.nx σ H1
theorem BC {c:Lc} {body:List Lw} {tc:TT} {tb:TS} (hp:R5 (Lj X.prog X.w) X.A X.env X.xe) (hc:PT X c tc) (hb:rC X body tb):PS X (.While c body [] pos) (BB tc tb):=by
 intro Sv s σ H D I h
 obtain⟨W,⟨m0,w0⟩,Xx⟩:=h
 refine wpAny_While (codeAny_whileLoop (λn s'=>∃σ' H',aP X Sv σ' H' s'/\W n σ' H') ?_ m0 ⟨σ,H,I,w0⟩)
 rintro n s1 ⟨σ1,H1,I1,w1⟩
 refine N6 hp (cY (hc Sv s1 σ1 H1 _ I1 (Xx n σ1 H1 w1)) λb s2 z_=> ?_)
 obtain⟨H2,I2,q2⟩:=z_
 cases b with
 |true=>
  obtain⟨N,hN,q2⟩:=q2
  rw[if_pos rfl]
  refine N6 hp (cY (hb Sv s2 σ1 H2 _ I2 q2) λf s3 q3=> ?_)
  cases f with
  |next=>
   obtain⟨σ3,H3,I3,n3⟩:=q3
   obtain⟨m',hm,w3⟩:=hN σ3 H3 n3
   exact⟨m',hm,σ3,H3,I3,w3⟩
  |cont=>
   obtain⟨σ3,H3,I3,n3⟩:=q3
   obtain⟨m',hm,w3⟩:=hN σ3 H3 n3
   exact⟨m',hm,σ3,H3,I3,w3⟩
  |brk=>exact q3
  |ret v=>exact q3
 |false=>
  rw[if_neg LA]
  exact NY ⟨σ1,H2,I2,q2⟩
end
structure It where
 go:Nat->Hp->Prop
 yld:Nat->Hp->V->Hp->Prop
 stop:Nat->Hp->Prop
def oJ (X:Cx) (Sv:List (L4×LJ)) (H:Hp) (b:L4):Prop:=
 H b=none/\b≠X.env.locals/\b∉X.fs/\(b∈X.ex\/X.s₀.heap.objs.size<=b)/\(∀x c,X.env.cells.lookup x=some c->c≠b)/\∀p∈X.pn++Sv,p.1≠b
theorem aP.fpOk {X:Cx} {Sv:List (L4×LJ)} {σ:St} {H H':Hp} {s:L5} {b:L4} (I:aP X Sv σ H s) (hb:s.heap.objs.size<=b) (hn:H' b=none):oJ X Sv H' b:=by
 refine⟨hn,Nat.ne_of_gt (LM I.lt hb),I.nofs hb, .inr (LP I.sz hb),λx c e z=> ?_,λp hp z=> ?_⟩
 ·obtain⟨v,q⟩:=I.cell x c e
  exact absurd (LM q.lt (by rw[z];exact hb)) (Me _)
 ·exact absurd (LM (Ln (I.pin p hp).1) (by rw[z];exact hb)) (Me _)
structure A9 (P:Ll) (w:Ly) (K:K_) (tg:Lc) (J:It) (fp:List L4) (it:L4) (tn:Nat->Lr->Prop):Prop where
 mem:it∈fp
 obj:∀i h,tn i h->∀b∈fp,∃o,h.get? b=some o/\∀v,o.data≠ .cell v
 keep:∀i h h',tn i h->(∀b∈fp,∀o,h.get? b=some o->h'.get? b=some o)->tn i h'
 item:∀(X:Cx),X.prog=P->X.w=w->X.K=K->X.calm=true->∀(i:Nat) (Sv:List (L4×LJ)) (s:L5) (σ:St) (H:Hp) (E:L0->L5->Prop),aP X Sv σ H s->(∀b∈fp,oJ X Sv H b)->tn i s.heap->J.go i H->
  Lg (Lj P w) X.A (pyNext (.ref it)) (λr s1=>∃u,r=some u/\
   Lg (Lj P w) X.A (Qb tg (.ref it) u) (λ_ s2=>∃x H',aP X Sv σ H' s2/\bW x u/\J.yld i H x H'/\tn (i+1) s2.heap/\∀b∈fp,H' b=none) E s1) E s
 done:∀(X:Cx),X.prog=P->X.w=w->X.K=K->X.calm=true->∀(i:Nat) (Sv:List (L4×LJ)) (s:L5) (σ:St) (H:Hp) (E:L0->L5->Prop),aP X Sv σ H s->(∀b∈fp,oJ X Sv H b)->tn i s.heap->J.stop i H->
  Lg (Lj P w) X.A (pyNext (.ref it)) (λr s1=>r=none/\aP X Sv σ H s1) E s
 self:∀(A:LF) (i:Nat) (s:L5) (Q:L0->L5->Prop) (E:L0->L5->Prop),tn i s.heap->Q (.ref it) s->Lg (Lj P w) A (pyIter (.ref it)) Q E s
abbrev TI:=St->Hp->(It->Hp->Prop)->Prop
def Kd (X:Cx) (Sv:List (L4×LJ)) (σ:St) (tg:Lc) (R:It->Hp->Prop) (ZA:L0) (s2:L5):Prop:=
 ∃(it:L4) (fp:List L4) (tn:Nat->Lr->Prop) (J:It) (H':Hp),ZA= .ref it/\aP X Sv σ H' s2/\A9 X.prog X.w X.K tg J fp it tn/\tn 0 s2.heap/\(∀b∈fp,oJ X Sv H' b)/\R J H'
def PI (X:Cx) (tg T4:Lc) (wi:TI):Prop:=
 ∀(Sv:List (L4×LJ)) (s:L5) (σ:St) (H:Hp) (R:It->Hp->Prop),aP X Sv σ H s->wi σ H R->
  Lg (Lj X.prog X.w) X.A (Ls T4 X.env) (λv s1=>Lg (Lj X.prog X.w) X.A (pyIter v) (Kd X Sv σ tg R) X.xe s1) X.xe s
theorem BD {M:Rt} {A:LF} {E:L0->L5->Prop} {s:L5} {tg:Lc} {it:L4} {u:L0} {o:LJ} {n:String} {vs:Array L0} {Q:Unit->L5->Prop} (ho:s.heap.get? it=some o) (hc:o.cls= .type n) (hd:o.data= .fields vs)
  (hn:["enumerate","zip","dict_itemiterator","dict_reverseitemiterator","odict_iterator","itertools.zip_longest","itertools.pairwise"].contains n=false) (hQ:Q () s):Lg M A (Qb tg (.ref it) u) Q E s:=by
 unfold Qb
 cases tg<;>first
  |exact Le hQ
  |(cases u<;>first
    |exact Le hQ
    |(refine L6 (wpAny_load ho ?_)
      rw[hc,hd]
      show Lg M A (if (["enumerate","zip","dict_itemiterator","dict_reverseitemiterator","odict_iterator","itertools.zip_longest","itertools.pairwise"].contains n&&vs[0]? ==some (rawInt _))=true then _ else _) Q E s
      rw[if_neg (by intro h;rw[hn,Bool.false_and]at h;cases h)]
      exact Le hQ))
def Jj (K:K_) (a:L4):It:=
 ⟨λi H=>∃xs x,dC K H a xs/\xs[i]? =some x,λi H x H'=>H'=H/\∀xs,dC K H a xs->xs[i]? =some x,λi H=>∃xs,dC K H a xs/\xs.length<=i⟩
def JH (K:K_) (a:L4):It:=
 ⟨λi H=>∃xs x,iY K H a xs/\xs[i]? =some x,λi H x H'=>H'=H/\∀xs,iY K H a xs->xs[i]? =some x,λi H=>∃xs,iY K H a xs/\xs.length<=i⟩
def HY (lo:Int) (n:Nat):It:=⟨λi _=>i<n,λi H x H'=>H'=H/\x= .int (lo+i),λi _=>n<=i⟩
theorem Aa {P:Ll} {w:Ly} {K:K_} {tg:Lc} (a it:L4):A9 P w K tg (Jj K a) [it] it (λi h=>h.IsListIter it a i)where
 mem:=by simp
 obj:=λi h st b hb=>by
  have e:b=it:=by simpa using hb
  subst e
  obtain⟨o,e,c,d⟩:=st
  exact⟨o,e,λv z=>by rw[d]at z;cases z⟩
 keep:=λi h h' st k=>st.at λo e=>k it (by simp) o e
 item:=by
  intro X hP hw hK hc i Sv s σ H E I hf st hg
  subst hP hw hK
  obtain⟨xs,x,hq,hx⟩:=hg
  obtain⟨its,rv,p,hz⟩:=I.list hq
  obtain⟨u,hu,ru⟩:=rv.get hx
  obtain⟨f0,f1,f2,f3,f4,f5⟩:=hf it (by simp)
  refine wpAny_pyNext_list_item st p.isList (x:=u) (by simpa using hu) λh' WI sb=> ?_
  have I1:aP X Sv σ H {s with heap:=h'}:=I.turned (t':=s.toks) (λb o hb e=>(sb.2 b hb).trans e) f0 f1 f3 f4 f5
  obtain⟨o,e,c,d⟩:=id WI
  exact⟨u,rfl,BD (s:={s with heap:=h'}) e c d (by decide) ⟨x,H,I1,ru,⟨rfl,λys hy=>by rw[I.list_inj hy hq];exact hx⟩,WI,λb hb=>(hf b hb).1⟩⟩
 done:=by
  intro X hP hw hK hc i Sv s σ H E I hf st hg
  subst hP hw hK
  obtain⟨xs,hq,hx⟩:=hg
  obtain⟨its,rv,p,hz⟩:=I.list hq
  obtain⟨f0,f1,f2,f3,f4,f5⟩:=hf it (by simp)
  have hl:=rv.length
  exact wpAny_pyNext_list_end (I.ok.hd hc) st p.isList (by simp;omega) λh' eb=>⟨rfl,I.turned (t':=s.toks) (λb o hb e=>eb b o hb e) f0 f1 f3 f4 f5⟩
 self:=λ_ _ _ _ _ st h=>wpAny_pyIter_listiter st h
theorem xK {P:Ll} {w:Ly} {K:K_} {tg:Lc} (a it:L4):A9 P w K tg (JH K a) [it] it (λi h=>h.IsTupleIter it a i)where
 mem:=by simp
 obj:=λi h st b hb=>by
  have e:b=it:=by simpa using hb
  subst e
  obtain⟨o,e,c,d⟩:=st
  exact⟨o,e,λv z=>by rw[d]at z;cases z⟩
 keep:=λi h h' st k=>st.at λo e=>k it (by simp) o e
 item:=by
  intro X hP hw hK hc i Sv s σ H E I hf st hg
  subst hP hw hK
  obtain⟨xs,x,hq,hx⟩:=hg
  obtain⟨its,rv,p,hz⟩:=I.tuple hq
  obtain⟨u,hu,ru⟩:=rv.get hx
  obtain⟨f0,f1,f2,f3,f4,f5⟩:=hf it (by simp)
  refine wpAny_pyNext_tuple_item st (show s.heap.IsTuple a its.toArray from p) (x:=u) (by simpa using hu) λh' WI sb=> ?_
  have I1:aP X Sv σ H {s with heap:=h'}:=I.turned (t':=s.toks) (λb o hb e=>(sb.2 b hb).trans e) f0 f1 f3 f4 f5
  obtain⟨o,e,c,d⟩:=id WI
  exact⟨u,rfl,BD (s:={s with heap:=h'}) e c d (by decide) ⟨x,H,I1,ru,⟨rfl,λys hy=>by rw[I.tuple_inj hy hq];exact hx⟩,WI,λb hb=>(hf b hb).1⟩⟩
 done:=by
  intro X hP hw hK hc i Sv s σ H E I hf st hg
  subst hP hw hK
  obtain⟨xs,hq,hx⟩:=hg
  obtain⟨its,rv,p,hz⟩:=I.tuple hq
  obtain⟨f0,f1,f2,f3,f4,f5⟩:=hf it (by simp)
  have hl:=rv.length
  exact wpAny_pyNext_tuple_end (I.ok.hd hc) st (show s.heap.IsTuple a its.toArray from p) (by simp;omega) λh' eb=>⟨rfl,I.turned (t':=s.toks) (λb o hb e=>eb b o hb e) f0 f1 f3 f4 f5⟩
 self:=λ_ _ _ _ _ st h=>wpAny_pyIter_tupleiter st h
theorem xL {P:Ll} {w:Ly} {K:K_} {tg:Lc} (it:L4) (lo:Int) (n:Nat):A9 P w K tg (HY lo n) [it] it (λi h=>IsRangeIter h it (lo+(i:Nat)*1) ((n:Int) - (i:Nat)) 1)where
 mem:=by simp
 obj:=λi h st b hb=>by
  have e:b=it:=by simpa using hb
  subst e
  exact⟨_,st,λv z=>by
   have z':Data.fields _=Data.cell v:=z
   cases z'⟩
 keep:=λi h h' st k=>k it (by simp) _ st
 item:=by
  intro X hP hw hK hc i Sv s σ H E I hf st hg
  subst hP hw hK
  obtain⟨f0,f1,f2,f3,f4,f5⟩:=hf it (by simp)
  have W:=Walks.range (prog:=X.prog) (w:=X.w) (I.ok.hd hc) it lo 1 n
  refine W.item i s _ _ hg st λv h' tk hv WI kk=> ?_
  obtain⟨t,rfl⟩:=hv
  have I1:aP X Sv σ H {s with heap:=h',toks:=tk}:=I.turned (λb o hb e=>kk b o (by simpa using hb) e) f0 f1 f3 f4 f5
  refine⟨_,rfl,BD (s:={s with heap:=h',toks:=tk}) (n:="range_iterator") WI rfl rfl (by decide) ⟨.int (lo+i),H,I1,⟨t,?_⟩,⟨rfl,rfl⟩,WI,λb hb=>(hf b hb).1⟩⟩
  rw[Int.mul_one]
 done:=by
  intro X hP hw hK hc i Sv s σ H E I hf st hg
  subst hP hw hK
  obtain⟨f0,f1,f2,f3,f4,f5⟩:=hf it (by simp)
  exact wpAny_pyNext_range_end (I.ok.hd hc) st (by have:n<=i:=hg;omega) λh' eb=>⟨rfl,I.turned (t':=s.toks) (λb o hb e=>eb b o hb e) f0 f1 f3 f4 f5⟩
 self:=λ_ _ _ _ _ st h=>wpAny_pyIter_rangeiter st h
end L2
namespace L2
open PySem PySem.Spec PyProof.Rows
section
variable {X:Cx} {tg:Lc}
def HZ (K:K_) (tl:TE):TI:=λσ H R=>tl σ H λx H1=>∃a,x= .ref a/\(∃xs,dC K H1 a xs)/\R (Jj K a) H1
def JI (K:K_) (tl:TE):TI:=λσ H R=>tl σ H λx H1=>∃a,x= .ref a/\(∃xs,iY K H1 a xs)/\R (JH K a) H1
theorem uR {l:Lc} {tl:TE} (hl:PE X l tl):PI X tg l (HZ X.K tl):=by
 intro Sv s σ H R I h
 refine cY (hl Sv s σ H _ I h) λv s1 z_=> ?_
 obtain⟨x,H1,I1,r1,q1⟩:=z_
 obtain⟨a,e,⟨xs,hq⟩,q⟩:=q1
 subst e
 cases r1
 obtain⟨its,rv,p,hz⟩:=I1.list hq
 refine Pe p.isList ?_
 refine⟨s1.heap.objs.size,[s1.heap.objs.size],_,_,H1,rfl,I1.kept (t':=s1.toks) λb o e=>Lb _ e,Aa a _,⟨_,LH _ rfl,rfl,rfl⟩,λb hb=> ?_,q⟩
 have e:b=s1.heap.objs.size:=by simpa using hb
 subst e
 exact I1.fpOk (Lv _) (I1.hok.fresh (Lv _))
theorem G2 {l:Lc} {tl:TE} (hl:PE X l tl):PI X tg l (JI X.K tl):=by
 intro Sv s σ H R I h
 refine cY (hl Sv s σ H _ I h) λv s1 z_=> ?_
 obtain⟨x,H1,I1,r1,q1⟩:=z_
 obtain⟨a,e,⟨xs,hq⟩,q⟩:=q1
 subst e
 cases r1
 obtain⟨its,rv,p,hz⟩:=I1.tuple hq
 refine R6 (show s1.heap.IsTuple a its.toArray from p) ?_
 refine⟨s1.heap.objs.size,[s1.heap.objs.size],_,_,H1,rfl,I1.kept (t':=s1.toks) λb o e=>Lb _ e,xK a _,⟨_,LH _ rfl,rfl,rfl⟩,λb hb=> ?_,q⟩
 have e:b=s1.heap.objs.size:=by simpa using hb
 subst e
 exact I1.fpOk (Lv _) (I1.hok.fresh (Lv _))
theorem v_ {Sv:List (L4×LJ)} {σ:St} {H:Hp} {s:L5} {R:It->Hp->Prop} {E:L0->L5->Prop} {lo hi:Int} {t u v:O6} {tk:Nat} (I:aP X Sv σ H s) (h1: -(2 ^62)<=lo) (h2:lo<2 ^62) (h3: -(2 ^62)<=hi) (h4:hi<2 ^62)
  (q:R (HY lo (hi - lo).toNat) H):Lg (Lj X.prog X.w) X.A (pyIter (.ref s.heap.objs.size)) (Kd X Sv σ tg R) E {s with heap:=s.heap.push {cls:= .type "range",data:= .fields #[.int lo t, .int hi u, .int 1 v]},toks:=tk}:=by
 refine wpAny_pyIter_range (IsRange.new ..) (small_one h1 h2 h3 h4) ?_
 have I1:aP X Sv σ H {s with heap:=s.heap.push {cls:= .type "range",data:= .fields #[.int lo t, .int hi u, .int 1 v]},toks:=tk}:=I.kept λb o e=>Lb _ e
 refine⟨(s.heap.push {cls:= .type "range",data:= .fields #[.int lo t, .int hi u, .int 1 v]}).objs.size,[(s.heap.push {cls:= .type "range",data:= .fields #[.int lo t, .int hi u, .int 1 v]}).objs.size],_,_,H,rfl,
  I1.kept (t':=tk) λb o e=>Lb _ e,xL _ lo (hi - lo).toNat,?_,λb hb=> ?_,q⟩
 ·have e1:lo+((0:Nat):Int)*1=lo:=by simp
  have e2:(((hi - lo).toNat:Nat):Int) - ((0:Nat):Int)=Builtin.Range.rangeSize lo hi 1:=by rw[rangeSize_one];split<;>omega
  show IsRangeIter _ _ (lo+((0:Nat):Int)*1) ((((hi - lo).toNat:Nat):Int) - ((0:Nat):Int)) 1
  rw[e1,e2]
  exact LH _ rfl
 ·have e:b=(s.heap.push {cls:= .type "range",data:= .fields #[.int lo t, .int hi u, .int 1 v]}).objs.size:=by simpa using hb
  subst e
  exact I1.fpOk (Lv _) (I1.hok.fresh (Lv _))
def H_ (ta:TA):TI:=λσ H R=>ta σ H λvs H1=>∃j:Int,vs=[.int j]/\ -(2 ^62)<=j/\j<2 ^62/\R (HY 0 j.toNat) H1
def I0 (ta:TA):TI:=λσ H R=>ta σ H λvs H1=>∃i j:Int,vs=[.int i, .int j]/\(-(2 ^62)<=i/\i<2 ^62/\ -(2 ^62)<=j/\j<2 ^62)/\R (HY i (j - i).toNat) H1
theorem Ab {a:Lc} {ta:TA} {p pos:LR} (hg:Gl X "range") (hm:X.mg "range"=none) (ha:PA X [a] ta) (hs:L8 [a] X.env=[(false,Ls a X.env)]:=by rfl):PI X tg (.Call (.Name "range" p) [a] [] pos) (H_ ta):=by
 intro Sv s σ H R I h
 refine Call_ (nP I hg hm boot_range (N3 (cY (ha pos Sv s σ H _ I h) λus s1 z_=> ?_) hs rfl))
 obtain⟨vs,H1,I1,r1,q1⟩:=z_
 obtain⟨j,e,q1,q2,q⟩:=q1
 subst e
 cases r1 with
 |cons r rr=>
  cases rr
  obtain⟨t,rfl⟩:=r
  exact call_range_1 (v_ I1 (by omega) (by omega) q1 q2 (by simpa using q))
theorem Ac {a b:Lc} {ta:TA} {p pos:LR} (hg:Gl X "range") (hm:X.mg "range"=none) (ha:PA X [a,b] ta) (hs:L8 [a,b] X.env=[(false,Ls a X.env),(false,Ls b X.env)]:=by rfl) (VX:L8 [b] X.env=[(false,Ls b X.env)]:=by rfl):
  PI X tg (.Call (.Name "range" p) [a,b] [] pos) (I0 ta):=by
 intro Sv s σ H R I h
 refine Call_ (nP I hg hm boot_range (N3 (cY (ha pos Sv s σ H _ I h) λus s1 z_=> ?_) (by rw[hs,VX]) (by rw[VX];rfl)))
 obtain⟨vs,H1,I1,r1,q1⟩:=z_
 obtain⟨i,j,e,⟨q1,q2,q3,q4⟩,q⟩:=q1
 subst e
 cases r1 with
 |cons r rr=>
  cases rr with
  |cons r' rr=>
   cases rr
   obtain⟨t,rfl⟩:=r
   obtain⟨t',rfl⟩:=r'
   exact call_range_2 (v_ I1 q1 q2 q3 q4 q)
def I9 (wi:TI) (g:TG) (tb:TS):TS:=λD σ H=>wi σ H λJ H1=>∃W:Nat->Nat->St->Hp->Prop,(∃m,W 0 m σ H1)/\∀i m σ H,W i m σ H->
 (J.stop i H/\D.nx σ H)\/(J.go i H/\∃N:St->Hp->Prop,(∀σ' H',N σ' H'->∃m',m'<m/\W (i+1) m' σ' H')/\∀x H',J.yld i H x H'->g x σ H' λσ2 H2=>tb {D with nx:=N,ct:=N,bk:=D.nx} σ2 H2)
def rT (fp:List L4) (h:Lr):List (L4×LJ):=fp.filterMap λb=>(h.get? b).map λo=>(b,o)
theorem kF {fp:List L4} {h:Lr} {b:L4} {o:LJ} (hb:b∈fp) (e:h.get? b=some o):(b,o)∈rT fp h:=OW.mpr ⟨b,hb,by rw[e];rfl⟩
theorem Ad {fp:List L4} {h:Lr} {p:L4×LJ} (hp:p∈rT fp h):p.1∈fp/\h.get? p.1=some p.2:=by
 obtain⟨b,hb,e⟩:=OW.mp hp
 cases q:h.get? b with
 |none=>rw[q]at e;cases e
 |some o=>
  rw[q]at e
  have e':(b,o)=p:=M4 e
  subst e'
  exact⟨hb,q⟩
theorem aP.pinned {Sv:List (L4×LJ)} {σ:St} {H:Hp} {s:L5} {fp:List L4} (I:aP X Sv σ H s) (hf:∀b∈fp,oJ X Sv H b) (ho:∀b∈fp,∃o,s.heap.get? b=some o/\∀v,o.data≠ .cell v):aP X (Sv++rT fp s.heap) σ H s:=
 I.pins_of λp hp=>(L_.mp hp).elim (λz=>I.pin p (LL _ z)) λz=>by
  obtain⟨hb,e⟩:=Ad z
  obtain⟨f0,f1,f2,_⟩:=hf p.1 hb
  obtain⟨o,e',d⟩:=ho p.1 hb
  rw[e]at e';cases e'
  exact⟨e,f0,f1,f2,d⟩
theorem aP.unpinned {Sv pl:List (L4×LJ)} {σ:St} {H:Hp} {s:L5} (I:aP X (Sv++pl) σ H s):aP X Sv σ H s:=I.pins_of λp hp=>I.pin p (LL _ (Mi _ hp))
theorem G3 {T4:Lc} {body:List Lw} {wi:TI} {g:TG} {tb:TS} {pos:LR} (hp:R5 (Lj X.prog X.w) X.A X.env X.xe) (hc:X.calm=true) (hi:PI X tg T4 wi) (hg:PG X tg g) (hb:rC X body tb)
  (hs:∀x,MX T4 X.env x=pure x:=by intro _;rfl):PS X (.For tg T4 body [] pos) (I9 wi g tb):=by
 intro Sv s σ H D I h
 refine wpAny_For (cY (hi Sv s σ H _ I h) λv s1 h1=>cY h1 λZA s2 h2=> ?_) hs
 obtain⟨it,fp,tn,J,H2,e,I2,T,XJ,f2,W,⟨m0,w0⟩,Xx⟩:=h2
 subst e
 have WJ:∀{H':Hp},(∀b∈fp,H' b=none)->∀b∈fp,oJ X Sv H' b:=λhn b hb=>⟨hn b hb,(f2 b hb).2⟩
 refine codeAny_forLoop_any (λn s'=>∃i σ' H',aP X Sv σ' H' s'/\tn i s'.heap/\(∀b∈fp,H' b=none)/\W i n σ' H') ?_ m0 ⟨0,σ,H2,I2,XJ,λb hb=>(f2 b hb).1,w0⟩
 rintro n s3 ⟨i,σ3,H3,I3,a1e,a1f,w3⟩
 rcases Xx i n σ3 H3 w3 with ⟨stop,qn⟩|⟨go,N,hN,step⟩
 ·refine N6 hp (cY (T.done X rfl rfl rfl hc i Sv s3 σ3 H3 X.xe I3 (WJ a1f) a1e stop) λr s4 z_=> ?_)
  obtain⟨hr,I4⟩:=z_
  subst hr
  exact NY ⟨σ3,H3,I4,qn⟩
 ·refine N6 hp (cY (T.item X rfl rfl rfl hc i Sv s3 σ3 H3 X.xe I3 (WJ a1f) a1e go) λr s4 z_=> ?_)
  obtain⟨u,hr,h4⟩:=z_
  subst hr
  refine N6 hp (cY h4 λ_ s5 z_=> ?_)
  obtain⟨x,H5,I5,r5,y5,a01,a1L⟩:=z_
  have a1M:=I5.pinned (WJ a1L) (T.obj _ _ a01)
  refine N6 hp (cY (hg _ s5 σ3 H5 x u _ a1M r5 (step x H5 y5)) λ_ s6 z_=> ?_)
  obtain⟨σ6,H6,I6,q6⟩:=z_
  refine N6 hp (cY (hb _ s6 σ6 H6 _ I6 q6) λf s7 q7=> ?_)
  have again:∀{σ7:St} {H7:Hp},aP X (Sv++rT fp s5.heap) σ7 H7 s7->N σ7 H7->∃m,m<n/\∃i σ' H',aP X Sv σ' H' s7/\tn i s7.heap/\(∀b∈fp,H' b=none)/\W i m σ' H':=λ{σ7 H7} I7 n7=>by
   obtain⟨m',hm,w7⟩:=hN σ7 H7 n7
   refine⟨m',hm,i+1,σ7,H7,I7.unpinned,T.keep _ _ _ a01 λb hb o e=>(I7.pin (b,o) (LL _ (LL _ (kF hb e)))).1,λb hb=> ?_,w7⟩
   obtain⟨o,e,d⟩:=T.obj _ _ a01 b hb
   exact(I7.pin (b,o) (LL _ (LL _ (kF hb e)))).2.1
  cases f with
  |next=>obtain⟨σ7,H7,I7,n7⟩:=q7;exact again I7 n7
  |cont=>obtain⟨σ7,H7,I7,n7⟩:=q7;exact again I7 n7
  |brk=>obtain⟨σ7,H7,I7,q7⟩:=q7;exact⟨σ7,H7,I7.unpinned,q7⟩
  |ret v=>obtain⟨x7,σ7,H7,I7,r7,q7⟩:=q7;exact⟨x7,σ7,H7,I7.unpinned,r7,q7⟩
end
end L2
namespace L2
open PySem PySem.Spec PyProof.Rows
abbrev R2:=V->V->Hp->VK->Prop
def lG (X:Cx) (f:L0->L0->Oq L0) (r:R2):Prop:=
 ∀(Sv:List (L4×LJ)) (s:L5) (σ:St) (H:Hp) (x y:V) (v u:L0) (Q:VK),aP X Sv σ H s->bW x v->bW y u->r x y H Q->
  Lg (Lj X.prog X.w) X.A (f v u) (EP X Sv σ Q) X.xe s
def Jk (X:Cx) (f:L0->Oq L0) (r:V->Hp->VK->Prop):Prop:=
 ∀(Sv:List (L4×LJ)) (s:L5) (σ:St) (H:Hp) (x:V) (v:L0) (Q:VK),aP X Sv σ H s->bW x v->r x H Q->
  Lg (Lj X.prog X.w) X.A (f v) (EP X Sv σ Q) X.xe s
def d_ (X:Cx) (f:L0) (r:List V->Hp->VK->Prop):Prop:=
 ∀(Sv:List (L4×LJ)) (s:L5) (σ:St) (H:Hp) (xs:List V) (us:List L0) (Q:VK),aP X Sv σ H s->bp xs us->r xs H Q->
  Lg (Lj X.prog X.w) X.A (call f us) (EP X Sv σ Q) X.xe s
def JJ (X:Cx) (r:V->Hp->(Bool->Hp->Prop)->Prop):Prop:=
 ∀(Sv:List (L4×LJ)) (s:L5) (σ:St) (H:Hp) (x:V) (v:L0) (Q:Bool->Hp->Prop),aP X Sv σ H s->bW x v->r x H Q->
  Lg (Lj X.prog X.w) X.A (RV v) (TP X Sv σ Q) X.xe s
def Jl (r:R2) (ta tb:TE):TE:=λσ H Q=>ta σ H λx H1=>tb σ H1 λy H2=>r x y H2 Q
def Kx (r:V->Hp->VK->Prop) (ta:TE):TE:=λσ H Q=>ta σ H λx H1=>r x H1 Q
def rI (C:Int->Int->Prop) (g:Int->Int->V):R2:=λx y H Q=>∃i j,x= .int i/\y= .int j/\C i j/\Q (g i j) H
def Ae (g:Int->Int->V):R2:=λx y H Q=>∃i j,x= .int i/\y= .int j/\Q (g i j) H
def rU (g:Int->V):V->Hp->VK->Prop:=λx H Q=>∃i,x= .int i/\Q (g i) H
section
variable {X:Cx} {a b c:Lc} {ta tb tc:TE} {pos:LR}
theorem G4 (ha:PE X a ta) (hb:PE X b tb) {Sv:List (L4×LJ)} {s:L5} {σ:St} {H:Hp} {R:V->V->Hp->Prop} (I:aP X Sv σ H s)
  (h:ta σ H λx H1=>tb σ H1 λy H2=>R x y H2) {Q:L0->L5->Prop} {f:L0->L0->Oq L0}
  (hf:∀v u s2 x y H2,aP X Sv σ H2 s2->bW x v->bW y u->R x y H2->Lg (Lj X.prog X.w) X.A (f v u) Q X.xe s2):
  Lg (Lj X.prog X.w) X.A (Ls a X.env) (λv s₁=>Lg (Lj X.prog X.w) X.A (Ls b X.env) (λu s₂=>Lg (Lj X.prog X.w) X.A (f v u) Q X.xe s₂) X.xe s₁) X.xe s:=by
 refine cY (ha Sv s σ H _ I h) λv s1 z_=> ?_
 obtain⟨x,H1,I1,r1,q1⟩:=z_
 refine cY (hb Sv s1 σ H1 _ I1 q1) λu s2 z_=> ?_
 obtain⟨y,H2,I2,r2,q2⟩:=z_
 exact hf v u s2 x y H2 I2 r1 r2 q2
theorem Fd {op:Operator} {r:R2} (ho:lG X (MS op) r) (ha:PE X a ta) (hb:PE X b tb):PE X (.BinOp a op b pos) (Jl r ta tb):=by
 intro Sv s σ H Q I h
 exact wpAny_BinOp (G4 ha hb I h λv u s2 x y H2 I2 rx ry q=>ho Sv s2 σ H2 x y v u Q I2 rx ry q)
theorem Fe {op:UnaryOp} {r:V->Hp->VK->Prop} (ho:Jk X (unaryOp op) r) (ha:PE X a ta):PE X (.UnaryOp op a pos) (Kx r ta):=by
 intro Sv s σ H Q I h
 exact UnaryOp_ (cY (ha Sv s σ H _ I h) λv s1 ⟨x,H1,I1,r1,q1⟩=>ho Sv s1 σ H1 x v Q I1 r1 q1)
theorem JK {f:L0->L0->Oq L0} {C:Int->Int->Prop} {g:Int->Int->Int}
  (rule:∀(i j:Int) (t u:O6) (s:L5) (Q:L0->L5->Prop) (E:L0->L5->Prop),C i j->Q (.int (g i j) s.toks) {s with toks:=s.toks+1}->Lg (Lj X.prog X.w) X.A (f (.int i t) (.int j u)) Q E s):
  lG X f (rI C λi j=> .int (g i j)):=by
 intro Sv s σ H x y v u Q I rx ry h
 obtain⟨i,j,rfl,rfl,hc,q⟩:=h
 obtain⟨t,rfl⟩:=rx
 obtain⟨t',rfl⟩:=ry
 exact rule i j t t' s _ _ hc ⟨.int (g i j),H,I.tok _,⟨_,rfl⟩,q⟩
theorem Ia {f:L0->L0->Oq L0} {g:Int->Int->Int}
  (rule:∀(i j:Int) (t u:O6) (s:L5) (Q:L0->L5->Prop) (E:L0->L5->Prop),Q (.int (g i j) s.toks) {s with toks:=s.toks+1}->Lg (Lj X.prog X.w) X.A (f (.int i t) (.int j u)) Q E s):
  lG X f (Ae λi j=> .int (g i j)):=by
 intro Sv s σ H x y v u Q I rx ry h
 obtain⟨i,j,rfl,rfl,q⟩:=h
 obtain⟨t,rfl⟩:=rx
 obtain⟨t',rfl⟩:=ry
 exact rule i j t t' s _ _ ⟨.int (g i j),H,I.tok _,⟨_,rfl⟩,q⟩
theorem G5 {f:L0->L0->Oq L0} {g:Int->Int->Bool}
  (rule:∀(i j:Int) (t u:O6) (s:L5) (Q:L0->L5->Prop) (E:L0->L5->Prop),Q (.bool (g i j)) s->Lg (Lj X.prog X.w) X.A (f (.int i t) (.int j u)) Q E s):
  lG X f (Ae λi j=> .bl (g i j)):=by
 intro Sv s σ H x y v u Q I rx ry h
 obtain⟨i,j,rfl,rfl,q⟩:=h
 obtain⟨t,rfl⟩:=rx
 obtain⟨t',rfl⟩:=ry
 exact rule i j t t' s _ _ ⟨.bl (g i j),H,I,rfl,q⟩
def DP (i j:Int):Prop:=0<j/\j<1073741824
def Ib (i j:Int):Prop:=0<=j/\j<=1000000/\i.natAbs<2 ^64
def Af (i j:Int):Prop:=(-(2 ^64)<i/\i<2 ^64)\/(-(2 ^64)<j/\j<2 ^64)
theorem Af.ok {i j:Int} (h:Af i j):IntMulOk i j:=by
 rcases h with ⟨h1,h2⟩|⟨h1,h2⟩
 ·exact .of_left (intBits_le_64 h1 h2)
 ·exact .of_right (intBits_le_64 h1 h2)
theorem G6:lG X (MS .Add) (Ae λi j=> .int (i+j)):=Ia λ_ _ _ _ _ _ _ q=>add_int q
theorem im:lG X (MS .Sub) (Ae λi j=> .int (i - j)):=Ia λ_ _ _ _ _ _ _ q=>sub_int q
theorem G7:lG X (MS .Mult) (rI Af λi j=> .int (i*j)):=JK λ_ _ _ _ _ _ _ hc q=>mul_int q hc.ok
theorem eL:lG X (MS .FloorDiv) (rI DP λi j=> .int (i / j)):=JK λi j _ _ _ _ _ hc q=>by
 have h1:(0:Int)<j:=hc.1
 have h2:j<1073741824:=hc.2
 exact floordiv_int (by omega) (by rw[Int.fdiv_eq_ediv_of_nonneg i (by omega)];exact q) (.inl (PyProof.noPylong_small (by omega)))
theorem bA:lG X (MS .Mod) (rI (λ_ j=>0<j) λi j=> .int (i%j)):=JK λi j _ _ _ _ _ hc q=>by
 have h1:(0:Int)<j:=hc
 exact mod_int' (by omega) (by rw[Int.fmod_eq_emod_of_nonneg i (by omega)];exact q)
theorem Ky {f:L0->Oq L0} {g:Int->Int}
  (rule:∀(i:Int) (t:O6) (s:L5) (Q:L0->L5->Prop) (E:L0->L5->Prop),Q (.int (g i) s.toks) {s with toks:=s.toks+1}->Lg (Lj X.prog X.w) X.A (f (.int i t)) Q E s):
  Jk X f (rU λi=> .int (g i)):=by
 intro Sv s σ H x v Q I rx h
 obtain⟨i,rfl,q⟩:=h
 obtain⟨t,rfl⟩:=rx
 exact rule i t s _ _ ⟨.int (g i),H,I.tok _,⟨_,rfl⟩,q⟩
theorem fU:Jk X (unaryOp .USub) (rU λi=> .int (-i)):=Ky λ_ _ _ _ _ q=>neg_int q
end
def G8:V->V->Bool
 | .non, .non=>true| .non, .int _=>true| .int _, .non=>true| .non, .bl _=>true| .bl _, .non=>true| .non, .str _=>true| .str _, .non=>true
 | .int _, .int _=>true| .bl _, .bl _=>true| .str _, .str _=>true| .byt _, .byt _=>true
 | .int _, .str _=>true| .str _, .int _=>true| .bl _, .str _=>true| .str _, .bl _=>true
 |_,_=>false
def Jm:R2:=λx y H Q=>G8 x y=true/\Q (.bl (decide (x=y))) H
def Ke:R2:=λx y H Q=>G8 x y=true/\Q (.bl (!decide (x=y))) H
theorem yR {i j:Int}:decide (V.int i=V.int j)=(i==j):=by
 rw[NZ]
 simp
theorem BE {i j:Bool}:decide (V.bl i=V.bl j)=(i==j):=by
 rw[NZ]
 simp
theorem yS {i j:L3}:decide (V.str i=V.str j)=(i==j):=by
 rw[NZ]
 simp
theorem yT {i j:Array UInt8}:decide (V.byt i=V.byt j)=(i.toList==j.toList):=by
 rw[NZ]
 cases i
 cases j
 simp
section
variable {X:Cx} {a b c:Lc} {ta tb tc:TE} {pos:LR}
theorem cf {Sv:List (L4×LJ)} {σ:St} {H:Hp} {s:L5} {Q:VK} {k k':Bool} (I:aP X Sv σ H s) (q:Q (.bl k) H) (e:k=k'):EP X Sv σ Q (.bool k') s:=by
 subst e
 exact⟨.bl k,H,I,rfl,q⟩
theorem bN:lG X (Mv .Eq) Jm:=by
 intro Sv s σ H x y v u Q I rx ry h
 obtain⟨hs,q⟩:=h
 cases x with
 |non=>
  cases rx
  cases y with
  |non=>cases ry;exact PySem.EqNone.eq_none_none (cf I q (by simp))
  |bl j=>cases ry;exact PySem.EqNone.eq_none_bool (cf I q (by simp))
  |int j=>obtain⟨t',rfl⟩:=ry;exact PySem.EqNone.eq_none_int (cf I q (by simp))
  |str j=>obtain⟨t',rfl⟩:=ry;exact PySem.EqNone.eq_none_str (cf I q (by simp))
  |_=>exact absurd (show false=true from hs) LA
 |bl i=>
  cases rx
  cases y with
  |non=>cases ry;exact PySem.EqNone.eq_bool_none (cf I q (by simp))
  |bl j=>cases ry;exact eq_bool (cf I q BE)
  |str j=>obtain⟨t',rfl⟩:=ry;exact PySem.EqMixed.eq_bool_str (cf I q (by simp))
  |_=>exact absurd (show false=true from hs) LA
 |int i=>
  obtain⟨t,rfl⟩:=rx
  cases y with
  |non=>cases ry;exact PySem.EqNone.eq_int_none (cf I q (by simp))
  |int j=>obtain⟨t',rfl⟩:=ry;exact eq_int (cf I q yR)
  |str j=>obtain⟨t',rfl⟩:=ry;exact PySem.EqMixed.eq_int_str (cf I q (by simp))
  |_=>exact absurd (show false=true from hs) LA
 |str i=>
  obtain⟨t,rfl⟩:=rx
  cases y with
  |non=>cases ry;exact PySem.EqNone.eq_str_none (cf I q (by simp))
  |bl j=>cases ry;exact PySem.EqMixed.eq_str_bool (cf I q (by simp))
  |int j=>obtain⟨t',rfl⟩:=ry;exact PySem.EqMixed.eq_str_int (cf I q (by simp))
  |str j=>obtain⟨t',rfl⟩:=ry;exact eq_str (cf I q yS)
  |_=>exact absurd (show false=true from hs) LA
 |byt i=>
  obtain⟨t,rfl⟩:=rx
  cases y with
  |byt j=>obtain⟨t',rfl⟩:=ry;exact PySem.W.eq_bytes (cf I q yT)
  |_=>exact absurd (show false=true from hs) LA
 |_=>cases y<;>exact absurd (show false=true from hs) LA
theorem lH:lG X (Mv .NotEq) Ke:=by
 intro Sv s σ H x y v u Q I rx ry h
 obtain⟨hs,q⟩:=h
 cases x with
 |non=>
  cases rx
  cases y with
  |non=>cases ry;exact PySem.EqNone.ne_none_none (cf I q (by simp))
  |bl j=>cases ry;exact PySem.EqNone.ne_none_bool (cf I q (by simp))
  |int j=>obtain⟨t',rfl⟩:=ry;exact PySem.EqNone.ne_none_int (cf I q (by simp))
  |str j=>obtain⟨t',rfl⟩:=ry;exact PySem.EqNone.ne_none_str (cf I q (by simp))
  |_=>exact absurd (show false=true from hs) LA
 |bl i=>
  cases rx
  cases y with
  |non=>cases ry;exact PySem.EqNone.ne_bool_none (cf I q (by simp))
  |bl j=>cases ry;exact ne_bool (cf I q (congrArg not BE))
  |str j=>obtain⟨t',rfl⟩:=ry;exact PySem.EqMixed.ne_bool_str (cf I q (by simp))
  |_=>exact absurd (show false=true from hs) LA
 |int i=>
  obtain⟨t,rfl⟩:=rx
  cases y with
  |non=>cases ry;exact PySem.EqNone.ne_int_none (cf I q (by simp))
  |int j=>obtain⟨t',rfl⟩:=ry;exact ne_int (cf I q (congrArg not yR))
  |str j=>obtain⟨t',rfl⟩:=ry;exact PySem.EqMixed.ne_int_str (cf I q (by simp))
  |_=>exact absurd (show false=true from hs) LA
 |str i=>
  obtain⟨t,rfl⟩:=rx
  cases y with
  |non=>cases ry;exact PySem.EqNone.ne_str_none (cf I q (by simp))
  |bl j=>cases ry;exact PySem.EqMixed.ne_str_bool (cf I q (by simp))
  |int j=>obtain⟨t',rfl⟩:=ry;exact PySem.EqMixed.ne_str_int (cf I q (by simp))
  |str j=>obtain⟨t',rfl⟩:=ry;exact ne_str (cf I q (congrArg not yS))
  |_=>exact absurd (show false=true from hs) LA
 |byt i=>
  obtain⟨t,rfl⟩:=rx
  cases y with
  |byt j=>obtain⟨t',rfl⟩:=ry;exact PySem.W.ne_bytes (cf I q (congrArg not yT))
  |_=>exact absurd (show false=true from hs) LA
 |_=>cases y<;>exact absurd (show false=true from hs) LA
theorem ll:lG X (Mv .Lt) (Ae λi j=> .bl (decide (i<j))):=G5 λ_ _ _ _ _ _ _ q=>lt_int q
theorem jA:lG X (Mv .Gt) (Ae λi j=> .bl (decide (j<i))):=G5 λ_ _ _ _ _ _ _ q=>gt_int q
theorem w8:lG X (Mv .GtE) (Ae λi j=> .bl (decide (j<=i))):=G5 λ_ _ _ _ _ _ _ q=>ge_int q
theorem BF:lG X (Mv .Is) (λx y H Q=>y= .non/\Q (.bl (decide (x= .non))) H):=by
 intro Sv s σ H x y v u Q I rx ry h
 obtain⟨rfl,q⟩:=h
 cases ry
 refine is_none_gen (cf I q ?_)
 cases x<;>first
  |(cases rx;rfl)
  |(obtain⟨t,rfl⟩:=rx;rfl)
theorem lG.or {f:L0->L0->Oq L0} {r r':R2} (h:lG X f r) (h':lG X f r'):lG X f (λx y H Q=>r x y H Q\/r' x y H Q):=by
 intro Sv s σ H x y v u Q I rx ry q
 rcases q with q|q
 ·exact h Sv s σ H x y v u Q I rx ry q
 ·exact h' Sv s σ H x y v u Q I rx ry q
theorem BG (b:Lc) {op:QG} (h:op≠ .In:=by decide) (h2:op≠ .NotIn:=by decide):Mz op b=false:=by
 have e1:(op==CmpOp.In)=false:=by cases op<;>first|rfl|exact absurd rfl h
 have e2:(op==CmpOp.NotIn)=false:=by cases op<;>first|rfl|exact absurd rfl h2
 cases b<;>simp[Mz,e1,e2]
theorem DQ {op:QG} {r:R2} (ho:lG X (Mv op) r) (ha:PE X a ta) (hb:PE X b tb) (hm:Mz op b=false):PE X (.Compare a [op] [b] pos) (Jl r ta tb):=by
 intro Sv s σ H Q I h
 exact wpAny_Compare1 (G4 ha hb I h λv u s2 x y H2 I2 rx ry q=>ho Sv s2 σ H2 x y v u Q I2 rx ry q) hm
def Ff (t:TE):TT:=λσ H Q=>t σ H λx H'=>∃k,x= .bl k/\Q k H'
theorem DR {op:QG} {r:R2} (ho:lG X (Mv op) r) (ha:PE X a ta) (hb:PE X b tb) (hm:Mz op b=false):PT X (.Compare a [op] [b] pos) (Ff (Jl r ta tb)):=by
 intro Sv s σ H Q I h
 refine Qt (cY (ha Sv s σ H _ I h) λv s1 ⟨x,H1,I1,r1,q1⟩=>cY (hb Sv s1 σ H1 _ I1 q1) λu s2 ⟨y,H2,I2,r2,q2⟩=>
  cY (ho Sv s2 σ H2 x y v u _ I2 r1 r2 q2) λc s3 ⟨z,H3,I3,r3,k,e,q3⟩=> ?_) hm
 subst e
 cases r3
 exact MJ ⟨H3,I3,q3⟩
def Ic (K:K_) (x:V) (H:Hp) (k:Bool):Prop:=
 match x with
 | .non=>k=false
 | .bl b=>k=b
 | .int i=>k=(i != 0)
 | .str y=>y.length<=sizeLine/\k=((y.length:Int) != 0)
 | .byt y=>y.size<=sizeLine/\k=((y.size:Int) != 0)
 | .ref p=>(∃xs,dC K H p xs/\k= !xs.isEmpty)\/(∃xs,iY K H p xs/\k= !xs.isEmpty)\/∃kvs,H p=some (.dK kvs)/\k= !kvs.isEmpty
 |_=>False
theorem xM {κ:Type} {kvs:List (κ×V)} {vs:List (κ×L0)} (r:KV kvs vs):(!vs.isEmpty)= !kvs.isEmpty:=by
 cases r<;>rfl
theorem rV {xs:List V} {its:List L0} (r:bp xs its):(!its.toArray.isEmpty)= !xs.isEmpty:=by
 cases r<;>simp
theorem pU:(sizeLine:Nat)<2 ^63:=by rw[Ms];decide
theorem G9:JJ X (λx H Q=>∃k,Ic X.K x H k/\Q k H):=by
 intro Sv s σ H x v Q I rx h
 obtain⟨k,e,q⟩:=h
 have hl:=pU
 have hs:sizeLine=16777216:=Ms
 cases x with
 |non=>
  cases rx
  have e':k=false:=e
  subst e'
  exact truthy_none ⟨H,I,q⟩
 |bl b=>
  cases rx
  have e':k=b:=e
  subst e'
  exact MJ ⟨H,I,q⟩
 |int i=>
  obtain⟨t,rfl⟩:=rx
  have e':k=(i != 0):=e
  subst e'
  exact PySem.P.truthy_int ⟨H,I,q⟩
 |str y=>
  obtain⟨t,rfl⟩:=rx
  obtain⟨hy,e'⟩:y.length<=sizeLine/\k=((y.length:Int) != 0):=e
  subst e'
  exact PySem.P.truthy_str (by omega) ⟨H,I.tok _,q⟩
 |byt y=>
  obtain⟨t,rfl⟩:=rx
  obtain⟨hy,e'⟩:y.size<=sizeLine/\k=((y.size:Int) != 0):=e
  subst e'
  exact PySem.W.truthy_bytes (by omega) ⟨H,I.tok _,q⟩
 |ref p=>
  cases rx
  have e':(∃xs,dC X.K H p xs/\k= !xs.isEmpty)\/(∃xs,iY X.K H p xs/\k= !xs.isEmpty)\/∃kvs,H p=some (.dK kvs)/\k= !kvs.isEmpty:=e
  rcases e' with ⟨xs,hx,e'⟩|⟨xs,hx,e'⟩|⟨kvs,hx,e'⟩
  ·subst e'
   obtain⟨its,r,pl,hz⟩:=I.list hx
   have SW:=r.length
   exact wpAny_truthy_list pl.isList (by simp only[La];omega) ⟨H,I.tok _,by rw[rV r];exact q⟩
  ·subst e'
   obtain⟨its,r,pl,hz⟩:=I.tuple hx
   have SW:=r.length
   exact truthy_tuple pl (by simp only[La];omega) ⟨H,I.tok _,by rw[rV r];exact q⟩
  ·subst e'
   obtain⟨hz,hS,vs,r,m⟩:kvs.length<=sizeLine/\(p==sysModules)=false/\∃vs,KV kvs vs/\s.heap.DictOf (dJ X.prog X.w) p vs:=I.hok p _ hx
   have SW:kvs.length=vs.length:=P0 r
   exact wpAny_truthy_dict hS m (by omega) ⟨H,I.tok _,by rw[xM r];exact q⟩
 |_=>exact(show False from e).elim
theorem BH (ha:PE X a ta) (he:∀Uj,Qs a X.env Uj=(do let v<-Uj;Nq a.pos;MW [v] (RV v))):
  PT X a (λσ H Q=>ta σ H λx H'=>∃k,Ic X.K x H' k/\Q k H'):=by
 intro Sv s σ H Q I h
 exact isTrue_plain (cY (ha Sv s σ H _ I h) λv s1 ⟨x,H1,I1,r1,q1⟩=>G9 Sv s1 σ H1 x v Q I1 r1 q1) (he _)
theorem j_ {x:V} {us:List L0} (r:bp [x] us):∃u,us=[u]/\bW x u:=by
 cases r with
 |cons r1 r2=>cases r2;exact⟨_,rfl,r1⟩
theorem yU {x y:V} {us:List L0} (r:bp [x,y] us):∃u w',us=[u,w']/\bW x u/\bW y w':=by
 cases r with
 |cons r1 r2=>
  cases r2 with
  |cons r3 r4=>cases r4;exact⟨_,_,rfl,r1,r3⟩
theorem ua (hc:X.calm=true):d_ X (.builtin "max") (λxs H Q=>∃i j,xs=[.int i, .int j]/\Q (.int (if j>i then j else i)) H):=by
 intro Sv s σ H xs us Q I r h
 obtain⟨i,j,rfl,q⟩:=h
 obtain⟨u,w',rfl,⟨t,rfl⟩,⟨t',rfl⟩⟩:=yU r
 refine max_two_ints (I.ok.hd hc) λh' tk k=>⟨_,H,I.kept k,?_,q⟩
 by_cases hj:j>i
 ·rw[if_pos hj,if_pos hj];exact⟨_,rfl⟩
 ·rw[if_neg hj,if_neg hj];exact⟨_,rfl⟩
theorem mO (hc:X.calm=true):d_ X (.builtin "min") (λxs H Q=>∃i j,xs=[.int i, .int j]/\Q (.int (if j<i then j else i)) H):=by
 intro Sv s σ H xs us Q I r h
 obtain⟨i,j,rfl,q⟩:=h
 obtain⟨u,w',rfl,⟨t,rfl⟩,⟨t',rfl⟩⟩:=yU r
 refine min_two_ints (I.ok.hd hc) λh' tk k=>⟨_,H,I.kept k,?_,q⟩
 by_cases hj:j<i
 ·rw[if_pos hj,if_pos hj];exact⟨_,rfl⟩
 ·rw[if_neg hj,if_neg hj];exact⟨_,rfl⟩
theorem pV:d_ X (.type "int") (λxs H Q=>(∃i,xs=[.int i]/\Q (.int i) H)\/∃k,xs=[.bl k]/\Q (.int (if k then 1 else 0)) H):=by
 intro Sv s σ H xs us Q I r h
 rcases h with ⟨i,rfl,q⟩|⟨k,rfl,q⟩
 ·obtain⟨u,rfl,t,rfl⟩:=j_ r
  exact call_int_int ⟨.int i,H,I,⟨_,rfl⟩,q⟩
 ·obtain⟨u,rfl,r1⟩:=j_ r
  cases r1
  exact call_int_bool ⟨.int (if k then 1 else 0),H,I.tok _,⟨_,rfl⟩,q⟩
end
end L2
namespace L2
open PySem PySem.Spec PyProof.Rows
structure xN (h:Lr) (x dx C:L4) (mA:L3->Option L0):Prop where
 obj:h.get? x=some (MQ C dx)
 ns:h.Ns1 dx mA
 ne:dx≠x
theorem Ag {h:Lr} {dx:L4} {mA:L3->Option L0} (n:h.Ns1 dx mA):∃od,h.get? dx=some od/\∀name,OT name od=some (mA name):=by
 obtain⟨o,es,ep,ho,hd,hk,_,hm⟩:=n
 refine⟨o,ho,λname=> ?_⟩
 have e:=hm name
 unfold nsFind findBy at e
 rw[<-Array.find?_toList]at e
 unfold OT
 rw[hd]
 dsimp only
 split
 ·rename_i y q
  rw[q]at e
  exact congrArg some e
 ·rename_i q
  rw[q]at e
  have a:es.toList.any (·.refKey)=false:=by
   rw[List.any_eq_false]
   intro y hy
   obtain⟨z,t,Yd⟩:=hk y (Array.mem_toList_iff.mp hy)
   simp[DictEntry.refKey,Yd]
  have a':¬es.toList.any (·.refKey)=true:=by rw[a];exact LA
  rw[if_neg a']
  exact congrArg some e
theorem xN.look {h:Lr} {x dx C:L4} {mA:L3->Option L0} (I:xN h x dx C mA):∃od,PySem.W.InstAt h x (MQ C dx) C (some od)/\∀name,OT name od=some (mA name):=
 let ⟨od,ho,hl⟩:=Ag I.ns
 ⟨od,⟨I.obj,rfl,rfl,ho⟩,hl⟩
section
variable {prog:Ll} {w:Ly} {A:LF} {E:L0->L5->Prop} {s:L5} {K:K_} {x dx C f:L4} {mA:L3->Option L0} {name:L3} {v:L0}
theorem DS {a02:Bool} {Q:L0->L5->Prop} (X:K.In s.heap) (I:xN s.heap x dx C mA) (hg:N0 K C name=true) (hh:N9 K C=true)
  (ha:Lm K (.ref C) name=some none) (hv:mA name=some v) (YW:RG v=true) (h:Q v {s with toks:=s.toks+1}):
  Lg (Lj prog w) A (getAttr (.ref x) name a02) Q E s:=by
 obtain⟨od,J,hl⟩:=I.look
 exact PySem.W.get_value X J (OS hg).1 (PySem.W.findObj_own hh ha rfl (by rw[hl,hv])) YW h
theorem BI {pl:Oq Bool} {Q:L0×List L0->L5->Prop} (X:K.In s.heap) (I:xN s.heap x dx C mA) (hg:N0 K C name=true)
  (hf:Lm K (.ref C) name=some (some (.ref f))) (ht:OJ K (.ref f)=true) (hv:mA name=none) (h:Q (.ref f,[.ref x]) s):
  Lg (Lj prog w) A (NL (.ref x) name pl) Q E s:=by
 obtain⟨od,J,hl⟩:=I.look
 exact PySem.W.method_fn X J (OS hg).1 (OS hg).2 hf (beq_iff_eq.mp ht) (by show (OT name od).map (·.isSome)=some false;rw[hl,hv];rfl) h
theorem DT {ns:List L3} {Q:Unit->L5->Prop} (X:K.In s.heap) (I:xN s.heap x dx C mA)
  (hs:Lm K (.ref C) "__setattr__"=some (some (.builtin "object.__setattr__"))) (hp:NB K C=true) (ht:Qc K C name=some none) (hh:N9 K C=true)
  (hw:R0 mA ns) (hsz:ns.length<=sizeLine)
  (h:∀h',xN h' x dx C (λy=>if y=name then some v else mA y)->Py dx s.heap h'->Q () {s with heap:=h',toks:=s.toks+2}):
  Lg (Lj prog w) A (setAttr (.ref x) name v) Q E s:=by
 obtain⟨od,J,hl⟩:=I.look
 refine PySem.W.set_plain X J hs (PySem.W.osa_open (s:={s with toks:=s.toks+1}) (r:=none) X J hp ht λb=> ?_)
 obtain⟨cd,hc,ZV⟩:=PySem.W.any_some hh
 have hx:s.heap.get? x=some ⟨.ref C,some dx, .plain,#[]⟩:=I.obj
 refine L6 (Le (L6 (L6 (wpAny_loadPart hx (L6 (PySem.W.Looks.here (s:={s with toks:=s.toks+1}) (PySem.W.looks_clsIn X hc) ?_))))))
 rw[ZV]
 refine Le (a:=some dx) (L6 (Le (L6 ?_)))
 refine wpAny_nsSet1 (s:={s with toks:=s.toks+1}) I.ns λh' Ye VX=> ?_
 obtain⟨oD,a3T,a3U,a1N,a1O,a1P⟩:=Ye.count (PySem.Within.cons name v hw)
 refine L6 (wpAny_lookBehind a1N (by rw[a1O];exact pastItsLine_dict (LP a1P (by rw[Lu];omega))) ?_)
 exact Le (h _ ⟨(VX.2 _ (MN I.ne)).trans I.obj,Ye,I.ne⟩ VX)
theorem BJ {R:R7->L5->Prop} {vs:List L0} {kw:List (L3×L0)} (X:K.In s.heap) (hm:Nt K C=true)
  (hi:Lm K (.ref C) "__init__"=some (some (.ref f))) (hf:Qu K (.ref f)=some (.type "function"))
  (h:Od (Lj prog w) (A.under (.builtin "type.__call__" ⟨.ref C::vs,kw⟩)) (.call (.ref f) ⟨.ref (s.heap.objs.size+1)::vs,kw⟩) (PySem.W.InitBack (s.heap.objs.size+1) R)
   {s with heap:=(s.heap.push MF).push (MQ C s.heap.objs.size)}):
  Od (Lj prog w) A (.call (.ref C) ⟨vs,kw⟩) R s:=by
 obtain⟨hh,g,d,t,os⟩:=s
 exact PySem.W.make_core (PySem.W.makes_of X hm) (NM X hi) (λself=>PySem.W.bind_fn X self hf) (.inl rfl) h
end
def ip (f:L3) (v:V):List (L3×V)->List (L3×V)
 |[]=>[(f,v)]
 |(g,x)::r=>if g=f then (g,v)::r else (g,x)::ip f v r
theorem dg (f g:L3) (v:V):∀fs:List (L3×V),(ip f v fs).lookup g=if g=f then some v else fs.lookup g
 |[]=>by
  show NV g [(f,v)]=_
  by_cases h:g=f
  ·have hb:(g==f)=true:=beq_iff_eq.mpr h
   simp only[NV,hb,if_pos h]
  ·have hb:(g==f)=false:=beq_eq_false_iff_ne.mpr h
   simp only[NV,hb,if_neg h]
 |(k,x)::r=>by
  have ih:=dg f g v r
  rw[show ip f v ((k,x)::r)=(if k=f then (k,v)::r else (k,x)::ip f v r)from rfl]
  by_cases hk:k=f
  ·rw[if_pos hk]
   by_cases h:g=k
   ·have hb:(g==k)=true:=beq_iff_eq.mpr h
    simp only[NV,hb,if_pos (h.trans hk)]
   ·have hb:(g==k)=false:=beq_eq_false_iff_ne.mpr h
    simp only[NV,hb,if_neg (λe:g=f=>h (e.trans hk.symm))]
  ·rw[if_neg hk]
   by_cases h:g=k
   ·have hb:(g==k)=true:=beq_iff_eq.mpr h
    simp only[NV,hb,if_neg (λe:g=f=>hk (h.symm.trans e))]
   ·have hb:(g==k)=false:=beq_eq_false_iff_ne.mpr h
    simp only[NV,hb]
    exact ih
theorem pW (f:L3) (v:V):∀fs:List (L3×V),f∈(ip f v fs).map (·.1)/\∀g,g∈fs.map (·.1)->g∈(ip f v fs).map (·.1)
 |[]=>⟨by simp[ip],λg h=>by simp at h⟩
 |(k,x)::r=>by
  obtain⟨i1,i2⟩:=pW f v r
  rw[show ip f v ((k,x)::r)=(if k=f then (k,v)::r else (k,x)::ip f v r)from rfl]
  by_cases hk:k=f
  ·rw[if_pos hk]
   subst hk
   exact⟨by simp,λg h=>by simpa using h⟩
  ·rw[if_neg hk]
   refine⟨?_,λg h=> ?_⟩
   ·rw[Lf]
    exact Lp _ i1
   ·rw[Lf]at h ⊢
    rcases Li.mp h with e|e
    ·exact Li.mpr (.inl e)
    ·exact Lp _ (i2 g e)
theorem qz (f:L3) (v:V):∀fs:List (L3×V),(ip f v fs).length<=fs.length+1
 |[]=>by simp[ip]
 |(k,x)::r=>by
  have ih:=qz f v r
  rw[show ip f v ((k,x)::r)=(if k=f then (k,v)::r else (k,x)::ip f v r)from rfl]
  by_cases hk:k=f
  ·rw[if_pos hk,Lu,Lu];omega
  ·rw[if_neg hk,Lu,Lu];omega
theorem lx.some_of {v:V} {o:Option L0} (r:lx (some v) o):∃u,o=some u/\bW v u:=by
 cases o with
 |none=>exact(show False from r).elim
 |some u=>exact⟨u,rfl,r⟩
theorem lx.none_of {o:Option L0} (r:lx none o):o=none:=by
 cases o with
 |none=>rfl
 |some u=>exact(show False from r).elim
theorem Ah {v:V} {u:L0} (r:bW v u):RG u=true:=by
 cases v with
 |non=>cases (show u=M8 from r);rfl
 |bl b=>cases (show u=QE b from r);rfl
 |int i=>obtain⟨t,e⟩:=(show ∃t,u=Nr i t from r);cases e;rfl
 |str x=>obtain⟨t,e⟩:=(show ∃t,u=OC x t from r);cases e;rfl
 |byt b=>obtain⟨t,e⟩:=(show ∃t,u=Sr b t from r);cases e;rfl
 |flt b=>obtain⟨t,e⟩:=(show ∃t,u=RB b t from r);cases e;rfl
 |ref a=>cases (show u=LG a from r);rfl
 |ty n=>cases (show u=Nd n from r);rfl
section
variable {P:Ll} {w:Ly} {H H':Hp} {h h':Lr} {a C dx:L4} {fs VW:List (L3×V)}
theorem rD (hok:lF P w H h) (e:H a=some (.ins C dx fs)):∃mA,xN h a dx C mA/\(∀f,lx (fs.lookup f) (mA f))/\R0 mA (fs.map (·.1))/\fs.length<=1000/\H dx=some (.own a):=by
 obtain⟨d,z,ne,ob,mA,n,r,q⟩:=(show cp P w H h a (.ins C dx fs)from hok a _ e)
 exact⟨mA,⟨ob,n,ne⟩,r,q,z,d⟩
end
structure w9 (K:K_) (C:L4):Prop where
 pg:N0 K C R8=true
 hd:N9 K C=true
 po:NB K C=true
 sa:Lm K (.ref C) "__setattr__"=some (some (.builtin "object.__setattr__"))
theorem w9.get {K:K_} {C:L4} (c:w9 K C) (f:L3):N0 K C f=true:=c.pg
def eF (K:K_) (C:L4) (f:L3):Prop:=Lm K (.ref C) f=some none
theorem eF.taker {K:K_} {C:L4} {f:L3} (n:eF K C f):Qc K C f=some none:=by
 unfold Qc
 rw[show Lm K (.ref C) f=some none from n]
 rfl
structure xO (K:K_) (C:L4) (m:L3) (f:L4):Prop where
 at_:Lm K (.ref C) m=some (some (.ref f))
 fn:OJ K (.ref f)=true
 kp:LX K (.ref f)=true
section
variable {X:Cx} {Sv:List (L4×LJ)} {σ:St} {H:Hp} {s:L5} {a C dx:L4} {fs:List (L3×V)} {f:L3} {v:V} {A:LF} {E:L0->L5->Prop}
theorem xP {b:Bool} {Q:L0->L5->Prop} (I:aP X Sv σ H s) (e:H a=some (.ins C dx fs)) (c:w9 X.K C) (n:eF X.K C f) (l:fs.lookup f=some v)
  (h:∀u s',aP X Sv σ H s'->bW v u->Q u s'):Lg (Lj X.prog X.w) A (getAttr (.ref a) f b) Q E s:=by
 obtain⟨mA,O,r,_,_,_⟩:=rD I.hok e
 obtain⟨u,hu,ru⟩:=lx.some_of (v:=v) (o:=mA f) (by rw[<-l];exact r f)
 exact DS I.kIn O (c.get f) c.hd n hu (Ah ru) (h u _ (I.tok _) ru)
theorem nR {m:L3} {g:L4} {pl:Oq Bool} {Q:L0×List L0->L5->Prop} (I:aP X Sv σ H s) (e:H a=some (.ins C dx fs)) (c:w9 X.K C) (k:xO X.K C m g) (l:fs.lookup m=none)
  (h:Q (.ref g,[.ref a]) s):Lg (Lj X.prog X.w) A (NL (.ref a) m pl) Q E s:=by
 obtain⟨mA,O,r,_,_,_⟩:=rD I.hok e
 have hn:mA m=none:=lx.none_of (by rw[<-l];exact r m)
 exact BI I.kIn O (c.get m) k.at_ k.fn hn h
theorem rW {y:V} {u:L0} {Q:Unit->L5->Prop} (I:aP X Sv σ H s) (e:H a=some (.ins C dx fs)) (c:w9 X.K C) (n:eF X.K C f) (hl:fs.length<1000) (ry:bW y u)
  (h:∀s',aP X Sv σ (ce H a (.ins C dx (ip f y fs))) s'->Q () s'):Lg (Lj X.prog X.w) A (setAttr (.ref a) f u) Q E s:=by
 obtain⟨mA,O,r,wi,_,ho⟩:=rD I.hok e
 have hz:(fs.map (·.1)).length<=sizeLine:=by rw[L7,Ms];omega
 refine DT I.kIn O c.sa c.po n.taker c.hd wi hz λh' O' sb=>h _ ?_
 have hd:∃o,h'.get? dx=some o:=let ⟨o,_,_,e',_⟩:=O'.ns;⟨o,e'⟩
 refine I.write (x:=a) (e:=dx) (by rw[e];exact N2) (.inr ho) (λb q hb z=>(sb.2 b hb).trans z) hd ?_
 refine⟨by rw[az O.ne];exact ho,?_,O.ne,O'.obj,_,O'.ns,λg=> ?_,λg hg=> ?_⟩
 ·have:=qz f y fs;omega
 ·show lx ((ip f y fs).lookup g) (if g=f then some u else mA g)
  rw[dg]
  by_cases q:g=f
  ·rw[if_pos q,if_pos q];exact ry
  ·rw[if_neg q,if_neg q];exact r g
 ·by_cases q:g=f
  ·rw[q];exact(pW f y fs).1
  ·refine(pW f y fs).2 g (wi g λz=>hg ?_)
   show (if g=f then some u else mA g)=none
   rw[if_neg q];exact z
theorem aP.made (I:aP X Sv σ H s):aP X Sv σ (ce (ce H s.heap.objs.size (.own (s.heap.objs.size+1))) (s.heap.objs.size+1) (.ins C s.heap.objs.size []))
  {s with heap:=(s.heap.push MF).push (MQ C s.heap.objs.size)}:=by
 have e1:(s.heap.push MF).get? s.heap.objs.size=some MF:=LH s.heap rfl
 have e2:((s.heap.push MF).push (MQ C s.heap.objs.size)).get? (s.heap.objs.size+1)=some (MQ C s.heap.objs.size):=by
  have:=LH (s.heap.push MF) (o:=MQ C s.heap.objs.size) rfl
  rwa [NF]at this
 have e3:(s.heap.push MF).Ns s.heap.objs.size (λ_=>none):=⟨MF,#[],_,e1,rfl,(λe he=>absurd he (by simp)),λ_=>rfl⟩
 have I1:=I.laid (a:=s.heap.objs.size) (o:= .own (s.heap.objs.size+1)) (h':=s.heap.push MF) (t':=s.toks) (λb u q=>Lb _ q) (Lv _) ⟨_,e1⟩
 refine I1.laid (a:=s.heap.objs.size+1) (o:= .ins C s.heap.objs.size []) (t':=s.toks) (λb u q=>Lb _ q) (Pz (NF _ _)) ?_
 have ne:s.heap.objs.size≠s.heap.objs.size+1:=LN (Oy _)
 refine⟨by rw[az ne,aH],ML _,ne,e2,λ_=>none,(Heap.Ns1.of_empty e3).at λo q=>Lb _ q,λ_=>N2,λy hy=>absurd rfl hy⟩
theorem DU {prog:Ll} {w:Ly} {env:MM} {e:Lc} {f:L3} {pos:LR} {s:L5} {Q:L0->L5->Prop} (hb:LY e f env (Ls e env)=Ls e env)
  (h:Lg (Lj prog w) A (Ls e env) (λo s₁=>Lg (Lj prog w) A (getAttr o f true) Q E s₁) E s):Lg (Lj prog w) A (Ls (.Attribute e f pos) env) Q E s:=
 Attribute_any_ h (by rw[arm_eval_Attribute,hb])
end
def JL (K:K_) (ta:TE) (f:L3):TE:=λσ H Q=>ta σ H λx H1=>∃a C dx fs v,x= .ref a/\H1 a=some (.ins C dx fs)/\w9 K C/\eF K C f/\fs.lookup f=some v/\Q v H1
def JM (K:K_) (ta tv:TE) (f:L3):TS:=λD σ H=>tv σ H λy H1=>ta σ H1 λx H2=>∃a C dx fs,x= .ref a/\H2 a=some (.ins C dx fs)/\w9 K C/\eF K C f/\fs.length<1000/\
 D.nx σ (ce H2 a (.ins C dx (ip f y fs)))
section
variable {X:Cx} {o e value:Lc} {f:L3} {pos SY a03:LR} {ta tv:TE}
theorem rX (he:PE X e ta) (hb:LY e f X.env (Ls e X.env)=Ls e X.env):PE X (.Attribute e f pos) (JL X.K ta f):=by
 intro Sv s σ H Q I h
 refine DU hb (cY (he Sv s σ H _ I h) λu s1 z_=> ?_)
 obtain⟨x,H1,I1,rx,a,C,dx,fs,v,ex,ea,c,n,l,q⟩:=z_
 subst ex
 obtain rfl:u=LG a:=rx
 exact xP I1 ea c n l λu' s2 I2 ru=>⟨v,H1,I2,ru,q⟩
theorem Ga (ha:PE X o ta) (hv:PE X value tv) (hs:M6 value (some (.Attribute o f SY)) pos.line X.env=pure false):PS X (.Assign [.Attribute o f SY] value pos) (JM X.K ta tv f):=by
 intro Sv s σ H D I h
 refine OF (cY (hv Sv s σ H _ I h) λu s1 ⟨y,H1,I1,ry,q⟩=>cY (ha Sv s1 σ H1 _ I1 q) λov s2 z_=> ?_) hs
 obtain⟨x,H2,I2,rx,a,C,dx,fs,ex,ea,c,n,l,q2⟩:=z_
 subst ex
 obtain rfl:ov=LG a:=rx
 exact rW I2 ea c n l ry λs3 I3=>⟨σ,_,I3,q2⟩
theorem Fg {pl:Oq Bool} {m:L3} {SQ:LR} {args:List Lc} {Sv:List (L4×LJ)} {s:L5} {σ:St} {H:Hp} {Q:L0->L5->Prop} {te:TE} (he:PE X e te) (I:aP X Sv σ H s)
  (h:te σ H λx H1=>∃a C dx fs g,x= .ref a/\H1 a=some (.ins C dx fs)/\w9 X.K C/\xO X.K C m g/\fs.lookup m=none/\
   ∀s1,aP X Sv σ H1 s1->Lg (Lj X.prog X.w) X.A (Oz pos (.ref g) [.ref a] (LK pos (L8 args X.env)) (MT pos (Mt [] X.env))) Q X.xe s1)
  (ht:Ls (.Call (.Attribute e m SQ) args [] pos) X.env=(do
   let ov<-Ls e X.env
   Nq SQ.atName
   let (f,first)<-MW [ov] (NL ov m pl)
   Oz pos f first (LK pos (L8 args X.env)) (MT pos (Mt [] X.env)))):
  Lg (Lj X.prog X.w) X.A (Ls (.Call (.Attribute e m SQ) args [] pos) X.env) Q X.xe s:=by
 refine OD (pl:=pl) (cY (he Sv s σ H _ I h) λu s1 z_=> ?_) ht
 obtain⟨x,H1,I1,rx,a,C,dx,fs,g,ex,ea,c,k,l,q⟩:=z_
 subst ex
 obtain rfl:u=LG a:=rx
 exact nR I1 ea c k l (q s1 I1)
end
section
variable {X:Cx} {Sv:List (L4×LJ)} {σ:St} {H:Hp} {s:L5} {A:LF} {E:L0->L5->Prop} {Q:L0->L5->Prop} {c:L0} {b:Bool}
inductive oK (K:K_) (H:Hp):V->L0->Prop where
 |non:oK K H .non (.type "NoneType")
 |bl (x:Bool):oK K H (.bl x) (.type "bool")
 |int (i:Int):oK K H (.int i) (.type "int")
 |str (x:L3):oK K H (.str x) (.type "str")
 |flt (x:UInt64):oK K H (.flt x) (.type "float")
 |lst {a:L4} {xs:List V} (e:H a=some (.lst xs)):oK K H (.ref a) (.type "list")
 |frz {a:L4} {o:LJ} {xs:List V} (e:H a=some (.frz o (.lst xs))):oK K H (.ref a) (.type "list")
 |tup {a:L4} {xs:List V} (e:H a=some (.tup xs)):oK K H (.ref a) (.type "tuple")
 |dK {a:L4} {kvs:List (cJ×V)} (e:H a=some (.dK kvs)):oK K H (.ref a) (.type "dict")
 |dT {a:L4} {kvs:List (List cJ×V)} (e:H a=some (.dT kvs)):oK K H (.ref a) (.type "dict")
 |ins {a C dx:L4} {fs:List (L3×V)} (e:H a=some (.ins C dx fs)) (cl:w9 K C) (ha:Lm K (.ref C) "__class__"=some (some (.builtin "object.__class__")))
   (hn:NC K (.builtin "object.__class__") "__get__"=some (some (.builtin "getset_descriptor.__get__"))) (a1g:N_ K (.builtin "object.__class__")=some true)
   (hm:LQ K C (.type "object")=some true):oK K H (.ref a) (.ref C)
theorem Ai {x:V} {u t:L0} (I:aP X Sv σ H s) (rx:bW x u) (ty:oK X.K H x t) (e:Mf X.K t c=some b) (h:∀tk,Q (.bool b) {s with toks:=tk}):
  Lg (Lj X.prog X.w) A (call (.builtin "isinstance") [u,c]) Q E s:=by
 cases ty with
 |non=>cases (show u=M8 from rx);exact Mj PySem.W.kitx_none I.kIn N2 e (λz=>nomatch z) h
 |bl y=>cases (show u=QE y from rx);exact Mj PySem.W.kitx_bool I.kIn N2 e (λz=>nomatch z) h
 |int i=>obtain⟨t,q⟩:=(show ∃t,u=Nr i t from rx);cases q;exact Mj PySem.W.kitx_int I.kIn N2 e (λz=>nomatch z) h
 |str y=>obtain⟨t,q⟩:=(show ∃t,u=OC y t from rx);cases q;exact Mj PySem.W.kitx_str I.kIn N2 e (λz=>nomatch z) h
 |flt y=>obtain⟨t,q⟩:=(show ∃t,u=RB y t from rx);cases q;exact Mj PySem.W.kitx_float I.kIn N2 e (λz=>nomatch z) h
 | @lst a xs ea=>
  cases (show u=LG a from rx)
  obtain⟨_,_,n,_,h1⟩:=(show cp X.prog X.w H s.heap a (.lst xs)from I.hok a _ ea)
  exact Mj Rv I.kIn ⟨_,h1,rfl⟩ e (λz=>nomatch z) h
 | @frz a ob xs ea=>
  cases (show u=LG a from rx)
  obtain⟨_,_,_,n,_,h1⟩:=(show cp X.prog X.w H s.heap a (.frz ob (.lst xs))from I.hok a _ ea)
  exact Mj Rv I.kIn ⟨_,h1,rfl⟩ e (λz=>nomatch z) h
 | @tup a xs ea=>
  cases (show u=LG a from rx)
  obtain⟨_,_,_,p⟩:=(show cp X.prog X.w H s.heap a (.tup xs)from I.hok a _ ea)
  obtain⟨o,h1,h2,_⟩:=p
  exact Mj PySem.W.kitx_tuple I.kIn ⟨o,h1,h2⟩ e (λz=>nomatch z) h
 | @dK a kvs ea=>
  cases (show u=LG a from rx)
  obtain⟨_,_,vs,_,p⟩:=(show cp X.prog X.w H s.heap a (.dK kvs)from I.hok a _ ea)
  obtain⟨o,es,ep,h1,h2,_⟩:=p
  exact Mj Rw I.kIn ⟨o,h1,h2.1⟩ e (λz=>nomatch z) h
 | @dT a kvs ea=>
  cases (show u=LG a from rx)
  obtain⟨_,_,xs,_,o,es,ep,h1,h2,_⟩:=(show cp X.prog X.w H s.heap a (.dT kvs)from I.hok a _ ea)
  exact Mj Rw I.kIn ⟨o,h1,h2.1⟩ e (λz=>nomatch z) h
 | @ins a C dx fs ea cl ha hn a1g hm=>
  cases (show u=LG a from rx)
  obtain⟨mA,O,_⟩:=rD I.hok ea
  obtain⟨od,J,_⟩:=O.look
  exact Mj (PySem.W.kitx_own (cl.get _) cl.hd ha hn a1g hm) I.kIn J e (λz=>nomatch z) h
end
end L2
namespace L2
open PySem PySem.Spec PyProof.Rows
structure c_ (k:Nat) (A:LF):Prop where
 hd:A.handled=none
 dp:A.depth+3*k+5<recursionLimit
 un:A.units+16*k+200<Nf
theorem c_.mono {j k:Nat} {A:LF} (r:c_ k A) (h:j<=k):c_ j A:=⟨r.hd,by have:=r.dp;omega,by have:=r.un;omega⟩
theorem c_.deeper {k:Nat} {A:LF} (r:c_ (k+1) A) (env:MM):c_ k (A.deeper env):=
 ⟨r.hd,by have:=r.dp;show A.depth+1+3*k+5<_;omega,by have:=r.un;show A.units+3+16*k+200<_;omega⟩
theorem xQ {A:LF} {C:L4} {us:List L0} {kw:List (L3×L0)}:(A.under (.builtin "type.__call__" ⟨.ref C::us,kw⟩)).depth=A.depth+1:=by
 first|rfl|simp[R9,Code.weight,Code.isCreation,Code.isGuard,Code.isCaller,Code.frames,Ra,guardIds]
theorem xR {A:LF} {C:L4} {us:List L0} {kw:List (L3×L0)}:(A.under (.builtin "type.__call__" ⟨.ref C::us,kw⟩)).units=A.units+1:=by
 first|rfl|simp[R9,Code.cUnits,Code.frames,Ra]
theorem c_.make {k:Nat} {A:LF} (r:c_ (k+1) A) (C:L4) (us:List L0) (kw:List (L3×L0)):c_ k (A.under (.builtin "type.__call__" ⟨.ref C::us,kw⟩)):=
 ⟨r.hd,by have:=r.dp;rw[xQ];omega,by have:=r.un;rw[xR];omega⟩
theorem c_.depth {k:Nat} {A:LF} (r:c_ k A):A.depth<recursionLimit:=by have:=r.dp;omega
theorem c_.units {k:Nat} {A:LF} (r:c_ k A):A.units+64<Nf:=by have:=r.un;omega
def Ie:TA:=λ_ H Q=>Q [] H
def Fh (ta:TE) (tr:TA):TA:=λσ H Q=>ta σ H λx H1=>tr σ H1 λxs H2=>Q (x::xs) H2
section
variable {X:Cx} {e:Lc} {es:List Lc} {te:TE} {t:TA} {pos:LR}
theorem gX:PA X [] Ie:=λ_ _ _ _ H Q I h=>Rx ⟨[],H,I, .nil,h⟩
theorem dh (ha:PE X e te) (hr:PA X es t) (hs:L8 (e::es) X.env=(false,Ls e X.env)::L8 es X.env:=by rfl):PA X (e::es) (Fh te t):=by
 intro pos Sv s σ H Q I h
 rw[hs]
 show Lg _ _ (S5 ((false,Ls e X.env)::LK pos (L8 es X.env))) _ _ s
 refine Rb (cY (ha Sv s σ H _ I h) λu s1 z_=> ?_)
 obtain⟨x,H1,I1,r1,q1⟩:=z_
 exact cY (hr pos Sv s1 σ H1 _ I1 q1) λus s2 ⟨xs,H2,I2,r2,q2⟩=>⟨x::xs,H2,I2, .cons r1 r2,q2⟩
def JN (t:TA):TE:=λσ H Q=>t σ H λxs H1=>xs.length<=sizeLine/\∀p,H1 p=none->Q (.ref p) (ce H1 p (.tup xs))
def JO (t:TA):TE:=λσ H Q=>t σ H λxs H1=>xs.length<=sizeLine/\∀p,H1 p=none->Q (.ref p) (ce H1 p (.lst xs))
theorem Gb {x1} (h:PA X es t):PE X (.Tuple es x1 pos) (JN t):=by
 intro Sv s σ H Q I hq
 refine wpAny_Tuple_spliced (cY (h pos Sv s σ H _ I hq) λus s1 ⟨xs,H1,I1,r,z,q⟩=>⟨by rw[<-r.length];exact z,?_⟩)
 have hf:H1 s1.heap.objs.size=none:=I1.hok.fresh (Lv _)
 refine⟨.ref s1.heap.objs.size,ce H1 s1.heap.objs.size (.tup xs),I1.laid (t':=s1.toks) (λb u e=>Lb _ e) (Lv _) ?_,rfl,q _ hf⟩
 exact⟨z,us,r,⟨_,LH _ rfl,rfl,_,rfl,rfl⟩⟩
theorem rY (h:PA X es t):PE X (.List es pos) (JO t):=by
 intro Sv s σ H Q I hq
 refine wpAny_List_spliced (cY (h pos Sv s σ H _ I hq) λus s1 ⟨xs,H1,I1,r,z,q⟩=>⟨by rw[<-r.length];exact z,?_⟩)
 have hf:H1 s1.heap.objs.size=none:=I1.hok.fresh (Lv _)
 refine⟨.ref s1.heap.objs.size,ce H1 s1.heap.objs.size (.lst xs),I1.laid (t':=s1.toks) (λb u e=>Lb _ e) (Lv _) ?_,rfl,q _ hf⟩
 exact⟨z,us,0,r,LH _ rfl⟩
end
abbrev Sp:=List V->Hp->VK->XK->Prop
abbrev xS:=List MM->Hp->L5->XK->L0->L5->Prop
structure xT (P:Ll) (w:Ly) (K:K_) (mg:L3->Option L0) (base:Lr) (A:LF) (outer:List MM) (s:L5) (H:Hp):Prop where
 frames:A.frames=some outer
 mod:Mod K mg base
 bs:∀b o,base.get? b=some o->s.heap.get? b=some o/\H b=none
 bsz:base.objs.size<=s.heap.objs.size
 funs:s.heap.FunFrames base outer
 frf:∀b∈rB outer,H b=none
 hok:lF P w H s.heap
 bare:Oc s.gens
def CE (outer:List MM) (P:Ll) (w:Ly) (H:Hp) (s:L5) (Q:VK) (u:L0) (s':L5):Prop:=
 ∃v H',s'.os=s.os/\Oc s'.gens/\Un (rB outer) [] H H' s.heap s'.heap/\lF P w H' s'.heap/\bW v u/\Q v H'
def CR (CX:xS) (outer:List MM) (P:Ll) (w:Ly) (H:Hp) (s:L5) (Q:VK) (E:XK) (r:R7) (s':L5):Prop:=
 match r with
 | .ok (.ret u)=>CE outer P w H s Q u s'
 | .ok _=>False
 | .error e=>CX outer H s E e s'
structure fN (P:Ll) (w:Ly) (K:K_) (mg:L3->Option L0) (base:Lr) (CX:xS) (k:Nat) (f:L4) (fd:Mq) (ps:List L3) (sp:Sp):Prop where
 len:∀vs H Q E,sp vs H Q E->vs.length=ps.length
 run:∀(A:LF) (outer:List MM) (s:L5) (H:Hp) (args:Args) (us:List L0) (vs:List V) (Q:VK) (E:XK),c_ k A->xT P w K mg base A outer s H->Qv s fd args (ps.zip us)->bp vs us->sp vs H Q E->
  Od (Lj P w) A (.call (.ref f) args) (CR CX outer P w H s Q E) s
theorem fN.mono {P:Ll} {w:Ly} {K:K_} {mg:L3->Option L0} {base:Lr} {CX:xS} {j k:Nat} {f:L4} {fd:Mq} {ps:List L3} {sp:Sp} (F:fN P w K mg base CX j f fd ps sp) (h:j<=k):
  fN P w K mg base CX k f fd ps sp:=⟨F.len,λA outer s H args us vs Q E hr=>F.run A outer s H args us vs Q E (hr.mono h)⟩
theorem fN.imp {P:Ll} {w:Ly} {K:K_} {mg:L3->Option L0} {base:Lr} {CX:xS} {k:Nat} {f:L4} {fd:Mq} {ps:List L3} {sp a1h:Sp} (F:fN P w K mg base CX k f fd ps sp)
  (h:∀vs H Q E,a1h vs H Q E->sp vs H Q E):fN P w K mg base CX k f fd ps a1h:=
 ⟨λvs H Q E q=>F.len vs H Q E (h _ _ _ _ q),λA outer s H args us vs Q E hr he hb hv hs=>F.run A outer s H args us vs Q E hr he hb hv (h _ _ _ _ hs)⟩
theorem xT.make {P:Ll} {w:Ly} {K:K_} {mg:L3->Option L0} {base:Lr} {A:LF} {outer:List MM} {s:L5} {H:Hp} (e:xT P w K mg base A outer s H) (C:L4) (us:List L0) (kw:List (L3×L0)):
  xT P w K mg base (A.under (.builtin "type.__call__" ⟨.ref C::us,kw⟩)) outer s H:=⟨by first|exact e.frames|(simpa[R9,Code.envs,Ra,pushEnvs]using e.frames),e.mod,e.bs,e.bsz,e.funs,e.frf,e.hok,e.bare⟩
section
variable {X:Cx} {Sv:List (L4×LJ)} {σ:St} {H:Hp} {s s':L5}
theorem aP.env0 (I:aP X Sv σ H s):xT X.prog X.w X.K X.mg X.base X.A X.stack s H:=
 ⟨I.ok.frames,I.ok.mod,I.bs,LP I.ok.bsz I.sz,I.stack,I.stkFree,I.hok,I.bare⟩
theorem aP.after {Q:VK} {u:L0} (I:aP X Sv σ H s) (h:CE X.stack X.prog X.w H s Q u s'):EP X Sv σ Q u s':=by
 obtain⟨v,H',os,bare,un,hok,r,q⟩:=h
 obtain⟨hh,g,d,t,a04⟩:=s'
 obtain rfl:a04=s.os:=os
 exact⟨v,H',I.call (h':=hh) (g':=g) (d':=d) (t':=t) (ch:=[]) un hok bare (λb z=>absurd z (by simp)),r,q⟩
end
def Fi (sp:Sp) (VM:List V) (E:St->XK) (t:TA):TE:=λσ H Q=>t σ H λvs H1=>sp (vs++VM) H1 Q (E σ)
def BK (C:L4) (m:L3) (sp:Sp) (VM:List V) (E:St->XK) (ta:TE) (t:TA):TE:=λσ H Q=>ta σ H λx H1=>∃a dx fs,x= .ref a/\H1 a=some (.ins C dx fs)/\fs.lookup m=none/\
 t σ H1 λvs H2=>sp (x::(vs++VM)) H2 Q (E σ)
def Ig (C:L4) (sp:Sp) (VM:List V) (E:St->XK) (t:TA):TE:=λσ H Q=>t σ H λvs H1=>∀x dx,H1 x=none->H1 dx=none->dx≠x->
 sp (.ref x::(vs++VM)) (ce (ce H1 dx (.own x)) x (.ins C dx [])) (λv H2=>v= .non/\Q (.ref x) H2) (E σ)
def gk (K:K_) (fd:Mq) (ps:List L3) (ds:List L0):Prop:=
 ∀(s:L5) (us:List L0),K.In s.heap->(us++ds).length=ps.length->Qv s fd ⟨us,[]⟩ (ps.zip (us++ds))
theorem gk.all {K:K_} {fd:Mq} {ps:List L3} (h:∀us:List L0,us.length=ps.length->N1 fd ⟨us,[]⟩=pure (ps.zip us)):gk K fd ps []:=λs us _ hl=>by
 rw[Mu]at hl ⊢
 exact .of_eq (h us hl)
def lI (CX:xS) (X:Cx) (E:St->XK):Prop:=∀(Sv:List (L4×LJ)) (σ:St) (H:Hp) (s:L5) (e:L0) (s':L5),aP X Sv σ H s->CX X.stack H s (E σ) e s'->X.xe e s'
section
variable {X:Cx} {CX:xS} {k:Nat} {f C:L4} {fd:Mq} {ps:List L3} {sp:Sp} {VM:List V} {ds:List L0} {E:St->XK} {x m:L3} {p pos SQ:LR} {e o:Lc} {es:List Lc} {ta:TE} {t:TA}
theorem xU {Sv:List (L4×LJ)} {σ:St} {H:Hp} {s:L5} {Q:VK} {us:List L0} {vs:List V} (F:fN X.prog X.w X.K X.mg X.base CX k f fd ps sp) (hr:c_ k X.A) (hb:gk X.K fd ps ds) (hd:bp VM ds) (hx:lI CX X E)
  (I:aP X Sv σ H s) (r:bp vs us) (h:sp (vs++VM) H Q (E σ)):Lg (Lj X.prog X.w) X.A (call (.ref f) us) (EP X Sv σ Q) X.xe s:=by
 have r2:bp (vs++VM) (us++ds):=r.append hd
 have hl:(us++ds).length=ps.length:=by rw[<-r2.length];exact F.len _ _ _ _ h
 refine Pm (O7 (F.run X.A X.stack s H ⟨us,[]⟩ (us++ds) (vs++VM) Q (E σ) hr I.env0 (hb s us I.kIn hl) r2 h) λr s' hq=> ?_)
 cases r with
 |error e=>exact hx Sv σ H s e s' I hq
 |ok fl=>
  cases fl with
  |ret u=>exact I.after hq
  |next=>exact MG hq
  |brk=>exact MG hq
  |cont=>exact MG hq
theorem uS (F:fN X.prog X.w X.K X.mg X.base CX k f fd ps sp) (hr:c_ k X.A) (hg:Gl X x) (hm:X.mg x=some (.ref f)) (hk:LX X.K (.ref f)=true) (hb:gk X.K fd ps ds) (hd:bp VM ds) (hx:lI CX X E)
  (ha:PA X (e::es) t) (Um:(x==("__debug__":L3))=false:=by decide) (he:L8 (e::es) X.env=(false,Ls e X.env)::L8 es X.env:=by rfl) (U0:(LK pos (L8 es X.env)).any (·.1)=false:=by rfl):
  PE X (.Call (.Name x p) (e::es) [] pos) (Fi sp VM E t):=by
 intro Sv s σ H Q I h
 refine N4 (oH I hg hm ?_ Um)
 refine OX (h₀:=X.base) I.ok.mod.kin hk (cY (ha pos Sv s σ H _ I h) λus s1 ⟨vs,H1,I1,r,q⟩=>⟨I1.kIn,?_⟩) he U0
 exact xU F hr hb hd hx I1 r q
theorem yV {pl:Oq Bool} (he:PE X o ta) (c:w9 X.K C) (hm:xO X.K C m f) (F:fN X.prog X.w X.K X.mg X.base CX k f fd ps sp) (hr:c_ k X.A) (hb:gk X.K fd ps ds) (hd:bp VM ds) (hx:lI CX X E) (ha:PA X (e::es) t)
  (Vr:L8 (e::es) X.env=(false,Ls e X.env)::L8 es X.env:=by rfl) (U0:(LK pos (L8 es X.env)).any (·.1)=false:=by rfl)
  (ht:Ls (.Call (.Attribute o m SQ) (e::es) [] pos) X.env=(do
   let ov<-Ls o X.env
   Nq SQ.atName
   let (f,first)<-MW [ov] (NL ov m pl)
   Oz pos f first (LK pos (L8 (e::es) X.env)) (MT pos (Mt [] X.env))):=by rfl):
  PE X (.Call (.Attribute o m SQ) (e::es) [] pos) (BK C m sp VM E ta t):=by
 intro Sv s σ H Q I h
 refine OD (pl:=pl) (cY (he Sv s σ H _ I h) λu s1 z_=> ?_) ht
 obtain⟨x,H1,I1,rx,a,dx,fs,ex,ea,l,q⟩:=z_
 subst ex
 obtain rfl:u=LG a:=rx
 refine nR I1 ea c hm l ?_
 refine OX (first:=[.ref a]) (h₀:=X.base) I.ok.mod.kin hm.kp (cY (ha pos Sv s1 σ H1 _ I1 q) λus s2 ⟨vs,H2,I2,r,q2⟩=>⟨I2.kIn,?_⟩) Vr U0
 exact xU (us:= .ref a::us) (vs:= .ref a::vs) F hr hb hd hx I2 (.cons rfl r) q2
theorem wa {pl:Oq Bool} (he:PE X o ta) (c:w9 X.K C) (hm:xO X.K C m f) (F:fN X.prog X.w X.K X.mg X.base CX k f fd ps sp) (hr:c_ k X.A) (hb:gk X.K fd ps ds) (hd:bp VM ds) (hx:lI CX X E)
  (ht:Ls (.Call (.Attribute o m SQ) [] [] pos) X.env=(do
   let ov<-Ls o X.env
   Nq SQ.atName
   let (f,first)<-MW [ov] (NL ov m pl)
   Oz pos f first (LK pos (L8 [] X.env)) (MT pos (Mt [] X.env))):=by rfl):
  PE X (.Call (.Attribute o m SQ) [] [] pos) (BK C m sp VM E ta Ie):=by
 intro Sv s σ H Q I h
 refine OD (pl:=pl) (cY (he Sv s σ H _ I h) λu s1 z_=> ?_) ht
 obtain⟨x,H1,I1,rx,a,dx,fs,ex,ea,l,q⟩:=z_
 subst ex
 obtain rfl:u=LG a:=rx
 refine nR I1 ea c hm l ?_
 exact PySem.W.callWith_K0 (first:=[.ref a]) I1.kIn hm.kp (xU (us:=[.ref a]) (vs:=[.ref a]) F hr hb hd hx I1 (.cons rfl .nil) q)
structure Mk (K:K_) (C f:L4):Prop where
 makes:Nt K C=true
 init:Lm K (.ref C) "__init__"=some (some (.ref f))
 fn:OJ K (.ref f)=true
 kp:LX K (.ref C)=true
theorem BL {Sv:List (L4×LJ)} {σ:St} {H:Hp} {s:L5} {Q:VK} {us:List L0} {vs:List V} (M:Mk X.K C f) (F:fN X.prog X.w X.K X.mg X.base CX k f fd ps sp) (hr:c_ (k+1) X.A) (hb:gk X.K fd ps ds) (hd:bp VM ds)
  (hx:lI CX X E) (I:aP X Sv σ H s) (r:bp vs us)
  (h:∀x dx,H x=none->H dx=none->dx≠x->sp (.ref x::(vs++VM)) (ce (ce H dx (.own x)) x (.ins C dx [])) (λv H2=>v= .non/\Q (.ref x) H2) (E σ)):
  Lg (Lj X.prog X.w) X.A (call (.ref C) us) (EP X Sv σ Q) X.xe s:=by
 have hq:=h (s.heap.objs.size+1) s.heap.objs.size (I.hok.fresh (RC _)) (I.hok.fresh (Lv _)) (LN (Oy _))
 have I2:=aP.made (C:=C) I
 have r2:bp (V.ref (s.heap.objs.size+1)::(vs++VM)) (LG (s.heap.objs.size+1)::(us++ds)):= .cons rfl (r.append hd)
 have hl:(LG (s.heap.objs.size+1)::us++ds).length=ps.length:=by
  have e:=r2.length
  rw[F.len _ _ _ _ hq]at e
  exact e.symm
 refine Pm (BJ (f:=f) I.kIn M.makes M.init (beq_iff_eq.mp M.fn) (O7 (F.run _ X.stack _ _ ⟨LG (s.heap.objs.size+1)::us,[]⟩ (LG (s.heap.objs.size+1)::(us++ds)) _ _ (E σ) (hr.make C us [])
  (I2.env0.make C us []) (hb _ (LG (s.heap.objs.size+1)::us) I2.kIn hl) r2 hq) λr s' YX=> ?_))
 cases r with
 |error e=>exact hx Sv σ _ _ e s' I2 YX
 |ok fl=>
  cases fl with
  |ret u=>
   obtain⟨v,H',I3,rv,ev,q3⟩:=I2.after YX
   subst ev
   exact⟨rv,⟨V.ref (s.heap.objs.size+1),H',I3,rfl,q3⟩⟩
  |next=>exact MG YX
  |brk=>exact MG YX
  |cont=>exact MG YX
theorem yW (M:Mk X.K C f) (F:fN X.prog X.w X.K X.mg X.base CX k f fd ps sp) (hr:c_ (k+1) X.A) (hg:Gl X x) (hm:X.mg x=some (.ref C)) (hb:gk X.K fd ps ds) (hd:bp VM ds) (hx:lI CX X E)
  (ha:PA X (e::es) t) (Um:(x==("__debug__":L3))=false:=by decide) (he:L8 (e::es) X.env=(false,Ls e X.env)::L8 es X.env:=by rfl) (U0:(LK pos (L8 es X.env)).any (·.1)=false:=by rfl):
  PE X (.Call (.Name x p) (e::es) [] pos) (Ig C sp VM E t):=by
 intro Sv s σ H Q I h
 refine N4 (oH I hg hm ?_ Um)
 refine OX (h₀:=X.base) I.ok.mod.kin M.kp (cY (ha pos Sv s σ H _ I h) λus s1 ⟨vs,H1,I1,r,q⟩=>⟨I1.kIn,?_⟩) he U0
 exact BL M F hr hb hd hx I1 r q
end
section
variable {X:Cx} {CX:xS} {k:Nat} {f C:L4} {fd:Mq} {ps ks:List L3} {sp:Sp} {E:St->XK} {x m:L3} {p pos SQ a1Q:LR} {e o:Lc} {es:List Lc} {a3V:List N7} {te ta:TE} {t tk:TA} {nm:Option L3}
variable {g:List L0->List L0->List L0} {gV:List V->List V->List V}
end
structure aC (N P:List L3) (sc:MZ):Prop where
 kind:sc.kind= .function
 co:sc.isCoroutine=false
 gen:sc.isGenerator=false
 nd:N.Nodup
 pre:N.take P.length=P
 par:∀x∈P,sc.names.lookup x=some .local\/sc.names.lookup x=some .cell
 nofree:∀y∈sc.names,y.2≠ .free
theorem ub {kindOf:L3->Option M0} {x:L3}:∀{binds:List (L3×L0)} {m:L3->Option L0},(∀v,(x,v)∉binds)->QH kindOf binds m x=m x
 |[],_,_=>rfl
 |(n,v)::r,m,h=>by
  unfold QH
  rw[ub λw hw=>h w (Lp _ hw)]
  split
  ·have:x≠n:=by rintro rfl;exact h v Lo
   simp[this]
  ·rfl
theorem uc {kindOf:L3->Option M0} {x:L3}:∀{binds:List (L3×L0)} {m:L3->Option L0},(∀v,(x,v)∉binds)->QI kindOf binds m x=m x
 |[],_,_=>rfl
 |(n,v)::r,m,h=>by
  unfold QI
  rw[uc λw hw=>h w (Lp _ hw)]
  split
  ·rfl
  ·have:x≠n:=by rintro rfl;exact h v Lo
   simp[this]
theorem ud {kindOf:L3->Option M0} {x:L3} {v:L0}:∀{P:List L3} {vs:List L0} {i:Nat} {m:L3->Option L0},P.Nodup->P[i]? =some x->vs[i]? =some v->kindOf x=some .local->
  QH kindOf (P.zip vs) m x=some v
 |[],_,_,_,_,h,_,_=>by simp at h
 |_::_,[],_,_,_,_,h,_=>by simp at h
 |p::P,w::vs,0,m,nd,h1,h2,hk=>by
  simp at h1 h2;subst h1;subst h2
  show QH kindOf ((p,w)::P.zip vs) m p=_
  unfold QH
  rw[ub λv hv=>(Nu.mp nd).1 (Qd hv).1,if_pos hk]
  simp
 |p::P,w::vs,i+1,m,nd,h1,h2,hk=>by
  show QH kindOf ((p,w)::P.zip vs) m x=_
  unfold QH
  exact ud (i:=i) (Nu.mp nd).2 (by simpa using h1) (by simpa using h2) hk
theorem ue {kindOf:L3->Option M0} {x:L3} {v:L0}:∀{P:List L3} {vs:List L0} {i:Nat} {m:L3->Option L0},P.Nodup->P[i]? =some x->vs[i]? =some v->kindOf x≠some .local->
  QI kindOf (P.zip vs) m x=some v
 |[],_,_,_,_,h,_,_=>by simp at h
 |_::_,[],_,_,_,_,h,_=>by simp at h
 |p::P,w::vs,0,m,nd,h1,h2,hk=>by
  simp at h1 h2;subst h1;subst h2
  show QI kindOf ((p,w)::P.zip vs) m p=_
  unfold QI
  rw[uc λv hv=>(Nu.mp nd).1 (Qd hv).1,if_neg hk]
  simp
 |p::P,w::vs,i+1,m,nd,h1,h2,hk=>by
  show QI kindOf ((p,w)::P.zip vs) m x=_
  unfold QI
  exact ue (i:=i) (Nu.mp nd).2 (by simpa using h1) (by simpa using h2) hk
def dF (N:List L3) (vs:List V):St:=vs.map some++LD (N.length - vs.length) none
def iZ (CX:xS) (P:Ll) (w:Ly) (K:K_) (mg:L3->Option L0) (base:Lr) (N:List L3) (qual:L3) (scope:MZ) (f:L4) (cd:L0) (A:LF) (outer:List MM) (s:L5) (H:Hp) (E:XK):Cx where
 prog:=P
 w:=w
 K:=K
 mg:=mg
 base:=base
 A:=A.deeper (MO qual scope s.heap.objs.size f cd)
 N:=N
 s₀:=s
 H₀:=H
 env:=MO qual scope s.heap.objs.size f cd
 outer:=outer
 stack:=MO qual scope s.heap.objs.size f cd::outer
 ex:=[]
 calm:=true
 fn:=λ_=>true
 pn:=[]
 xe:=λe s'=>Lg (Lj P w) (A.deeper (MO qual scope s.heap.objs.size f cd)) (leaving (MO qual scope s.heap.objs.size f cd) e) (λ_ YY=>CX outer H s E e YY) (λe' YY=>CX outer H s E e' YY) s'
theorem wc {sc:MZ} {n:Nat} {x:L3} (h:sc.names.lookup x=some .cell):∃c,(cellsFrom n sc.names []).lookup x=some c:=by
 have q:=Qk sc.names n [] (.inl h)
 exact Option.isSome_iff_exists.mp q
theorem Aj {CX:xS} {P:Ll} {w:Ly} {K:K_} {mg:L3->Option L0} {base:Lr} {N ps:List L3} {qual:L3} {scope:MZ} {f:L4} {cd:L0} {A:LF} {outer:List MM} {s s1:L5} {H:Hp} {E:XK} {us:List L0} {vs:List V}
  (S:aC N ps scope) (hd:A.handled=none) (e0:xT P w K mg base A outer s H) (hl:vs.length=ps.length) (r:bp vs us)
  (x:InCallC s s.heap.objs.size (QH (MO qual scope s.heap.objs.size f cd).kindOf (ps.zip us) λ_=>none) (cellsFrom (s.heap.objs.size+1) scope.names []) (QI (MO qual scope s.heap.objs.size f cd).kindOf (ps.zip us) λ_=>none) s1):
  aP (iZ CX P w K mg base N qual scope f cd A outer s H E) [] (dF N vs) H s1:=by
 have U0:ps.length<=N.length:=by have:=congrArg OV S.pre;rw[NN]at this;omega
 obtain⟨h1,tk,rfl,hk⟩:=x.done
 have YZ:∀b:L4,b∉(iZ CX P w K mg base N qual scope f cd A outer s H E).ex:=λb z=>absurd (show b∈([]:List L4)from z) (by simp)
 refine⟨⟨e0.mod,S.kind,rfl,rfl,Lv _,λy z c h1 h2=> ?_,λy hy=> ?_,λy c _ h=> ?_,λ_=>hd,Around.frames_deeper e0.frames, .inr ⟨rfl,rfl⟩,λb z=>absurd z (YZ b),e0.bs,e0.bsz,λb _ _=>YZ b,λb z=>absurd z (YZ b),e0.funs,e0.frf⟩,
  rfl,e0.bare,Un.kept hk,⟨_,x.toInCall.ns,λi y v h1 h2 h3=> ?_⟩,λy c h=>⟨_,x.cell y c h⟩,e0.hok.fresh (Lv _),λy c h=> ?_,λp hp=>absurd (show p∈([]:List (L4×LJ))from hp) (by simp),e0.hok.kept hk,?_⟩
 ·exact name_of_addr x.apart (Nm h1) (Nm h2)
 ·have hy:scope.names.lookup y=some .cell\/scope.names.lookup y=some .free:=hy
  rcases hy with hy|hy
  ·exact wc hy
  ·exact absurd rfl (S.nofree _ (Nm hy))
 ·exact R4 (x.above y c (Nm h))
 ·have hi:i<vs.length:=by
   unfold dF at h2
   by_cases hi:i<vs.length
   ·exact hi
   ·rw[NS (by simpa using hi)]at h2
    rw[MI]at h2
    split at h2<;>cases h2
  have ha:vs[i]? =some v:=by
   unfold dF at h2
   rw[MP (by simpa using hi),Lx]at h2
   cases e:vs[i]? with
   |none=>rw[e]at h2;cases h2
   |some a=>rw[e]at h2;cases h2;rfl
  obtain⟨u,hu,rv⟩:=r.get ha
  have hp:ps[i]? =some y:=by
   rw[<-S.pre,List.getElem?_take_of_lt (by omega)];exact h1
  have a1i:ps.Nodup:=by rw[<-S.pre];exact S.nd.sublist (List.take_sublist _ _)
  refine⟨u,rv,?_⟩
  rcases S.par y (Mx hp)with k|k
  ·exact .inl ⟨k,ud a1i hp hu k⟩
  ·obtain⟨c,e⟩:=wc (n:=s.heap.objs.size+1) k
   refine .inr ⟨.inl k,c,e,?_⟩
   have q:=x.cell y c e
   rw[ue a1i hp hu (by show scope.names.lookup y≠_;rw[k];decide)]at q
   exact q
 ·exact e0.hok.fresh (R4 (x.above y c (Nm h)))
 ·unfold dF
  show _=N.length
  rw[LO,L7,OE]
  omega
theorem Fj {CX:xS} {P:Ll} {w:Ly} {K:K_} {mg:L3->Option L0} {base:Lr} {k:Nat} {f:L4} {name qual:L3} {params:Arguments} {body:List Lw} {scope:MZ} {dV kV U1 pm SE ct oc:L0} {an od:Option L4}
  {VN:Array (Option L0)} {N ps:List L3} {sp:Sp} (lk:K.lookup f=some ⟨oc,od, .func (M3 name qual params body scope dV kV U1 pm an SE ct),VN⟩) (U3:Nh K SE qual=true) (S:aC N ps scope)
  (len:∀vs H Q E,sp vs H Q E->vs.length=ps.length)
  (T2:∀(A:LF) (outer:List MM) (s:L5) (H:Hp) (vs:List V) (Q:VK) (E:XK),c_ k (A.deeper (MO qual scope s.heap.objs.size f SE))->sp vs H Q E->
   ∃t,rC (iZ CX P w K mg base N qual scope f SE A outer s H E) body t/\t {nx:=λ_ H'=>Q .non H',rt:=Q} (dF N vs) H):
  fN P w K mg base CX (k+1) f (M3 name qual params body scope dV kV U1 pm an SE ct) ps sp:=by
 refine⟨len,λA outer s H args us vs Q E hr e0 hb r XM=> ?_⟩
 have hl:=len _ _ _ _ XM
 have KX:K.In s.heap:=e0.mod.kin.keeps λb o e=>(e0.bs b o e).1
 have lim:s.heap.NoLimit:=e0.mod.nolimit.keeps λb o e=>(e0.bs b o e).1
 have Y_:∀y∈ps.zip us,scope.names.lookup y.1=some .local\/(scope.names.lookup y.1=some .cell/\((cellsFrom (s.heap.objs.size+1) scope.names []).lookup y.1).isSome=true):=λ⟨n,v⟩ hy=>by
  rcases S.par n (Qd hy).1 with q|q
  ·exact .inl q
  ·exact .inr ⟨q,Qk _ _ _ (.inl q)⟩
 refine codeAny_call_function hr.depth (KX _ _ lk) rfl S.co S.gen rfl (PySem.W.codeRec_of KX U3) (hb _ _ _ _ ?_)
 refine wpAny_newFunctionEnv_cells S.kind Y_ λenv he s1 x=> ?_
 subst he
 refine⟨lim.keeps x.toInCall.keep,codeAny_func ?_⟩
 obtain⟨t,ht,hq⟩:=T2 A outer s H vs Q E (hr.deeper _) XM
 have I:aP (iZ CX P w K mg base N qual scope f SE A outer s H E) [] (dF N vs) H s1:=Aj S hr.hd e0 hl r x
 refine MR (ht [] s1 (dF N vs) H _ I hq) (λfl s' hs=> ?_) λe s' hs=>hs
 have Uk:∀{σ':St} {H':Hp} {v:V} {u:L0},aP (iZ CX P w K mg base N qual scope f SE A outer s H E) [] σ' H' s'->bW v u->Q v H'->CE outer P w H s Q u s':=
  λ{σ' H' v u} J rv q=>⟨v,H',J.os,J.bare,J.base,J.hok,rv,q⟩
 cases fl with
 |ret u=>
  obtain⟨v,σ',H',J,rv,q⟩:=hs
  exact Uk J rv q
 |next=>
  obtain⟨σ',H',J,q⟩:=hs
  exact Uk (v:=V.non) (u:=M8) J rfl q
 |brk=>
  obtain⟨_,_,_,q⟩:=hs
  exact MG q
 |cont=>
  obtain⟨_,_,_,q⟩:=hs
  exact MG q
end L2
namespace L2
open PySem PySem.Spec PyProof.Rows
section
variable {X:Cx} {x:L3} {p pos:LR} {e:Lc} {es:List Lc} {t:TA} {id T:String} {r:List V->Hp->VK->Prop}
def JP (r:List V->Hp->VK->Prop) (t:TA):TE:=λσ H Q=>t σ H λvs H1=>r vs H1 Q
theorem oM (hc:d_ X (.builtin id) r) (hg:Gl X x) (hm:X.mg x=none) (hv:LS x=some (.builtin id)) (ha:PA X (e::es) t) (hn:x≠"__name__":=by decide) (Um:(x==("__debug__":L3))=false:=by decide)
  (he:L8 (e::es) X.env=(false,Ls e X.env)::L8 es X.env:=by rfl) (U0:(LK pos (L8 es X.env)).any (·.1)=false:=by rfl):PE X (.Call (.Name x p) (e::es) [] pos) (JP r t):=by
 intro Sv s σ H Q I h
 refine N4 (nP I hg hm hv ?_ hn Um)
 exact OK (cY (ha pos Sv s σ H _ I h) λus s1 ⟨vs,H1,I1,r1,q1⟩=>hc Sv s1 σ H1 vs us Q I1 r1 q1) he U0
theorem Ak (hc:d_ X (.type T) r) (hg:Gl X x) (hm:X.mg x=none) (hv:LS x=some (.type T)) (ha:PA X (e::es) t) (hn:x≠"__name__":=by decide) (Um:(x==("__debug__":L3))=false:=by decide)
  (he:L8 (e::es) X.env=(false,Ls e X.env)::L8 es X.env:=by rfl) (U0:(LK pos (L8 es X.env)).any (·.1)=false:=by rfl):PE X (.Call (.Name x p) (e::es) [] pos) (JP r t):=by
 intro Sv s σ H Q I h
 refine N4 (nP I hg hm hv ?_ hn Um)
 exact N3 (cY (ha pos Sv s σ H _ I h) λus s1 ⟨vs,H1,I1,r1,q1⟩=>hc Sv s1 σ H1 vs us Q I1 r1 q1) he U0
end
end L2
namespace HT
open PySem PyProof.Rows
section
open PySem.SeqAt
open PySem.AutoSeq1 (wpAny_loadPart')
open PySem.MeetsSeq PySem.MeetsSeq2 PySem.MeetsSeq3
end
section
variable {prog:Ll} {w:Ly} {A:LF} {E:L0->L5->Prop} {s:L5}
theorem DV {t b:L4} {vs ws:List L0} {Q:L0->L5->Prop} (ht:QF s.heap t vs.toArray) (hb:QF s.heap b ws.toArray) (hv:vs≠[])
  (h1:ws=[]->Q (.ref t) s) (h2:ws≠[]->Q (.ref s.heap.objs.size) {s with heap:=s.heap.push {cls:= .type "tuple",data:= .seq (vs++ws).toArray}})
  (hsz:vs.length+ws.length<=sizeLine):Lg (Lj prog w) A (MS .Add (.ref t) (.ref b)) Q E s:=by
 obtain⟨⟨cls,dd,data,sl⟩,ho,hc,n,hd⟩:=id ht
 obtain⟨⟨a05,YJ,data2,YK⟩,Yf,Z0,n2,Z1⟩:=id hb
 simp only at hc hd Z0 Z1
 subst hc hd Z0 Z1
 have e:vs.toArray++ws.toArray=(vs++ws).toArray:=by simp
 by_cases hw:ws=[]
 ·exact Rc ⟨_,ho,rfl⟩ ⟨_,Yf,rfl⟩ PD QR Ot Og (O8 _ _)
   (tuple_addW1 t b vs.toArray ws.toArray n n2 dd YJ sl YK (by simpa using hv) (by simp[hw])) ⟨ho,Yf,h1 hw⟩
 ·refine Rc ⟨_,ho,rfl⟩ ⟨_,Yf,rfl⟩ PD QR Ot Og (O8 _ _)
   (tuple_addW2 t b vs.toArray ws.toArray n n2 dd YJ sl YK (by simpa using hv) (by simpa using hw) (by rw[La,La];exact hsz)) ⟨ho,Yf,?_⟩
  rw[e]
  exact h2 hw
def fH (n d:Nat):Option Int->Nat
 |none=>d
 |some v=>if v<0 then (v+(n:Int)).toNat else min v.toNat n
theorem Gc (n d:Nat) (hd:d<=n) (o:Option Int):fH n d o<=n:=by
 cases o with
 |none=>exact hd
 |some v=>
  show (if v<0 then (v+(n:Int)).toNat else min v.toNat n)<=n
  by_cases hv:v<0
  ·rw[if_pos hv];omega
  ·rw[if_neg hv];exact Nat.min_le_right _ _
theorem yX (v:Int) (n d:Nat):(if v<0 then max (v+(n:Int)) 0 else min v (n:Int))=((fH n d (some v):Nat):Int):=by
 show (if v<0 then max (v+(n:Int)) 0 else min v (n:Int))=(((if v<0 then (v+(n:Int)).toNat else min v.toNat n):Nat):Int)
 by_cases hv:v<0
 ·simp only[if_pos hv];omega
 ·simp only[if_neg hv];omega
theorem xV (lo hi:Option Int) (n:Nat):O0 lo hi 1 (n:Int)=(((fH n 0 lo:Nat):Int),((fH n n hi:Nat):Int)):=by
 have h1:¬((1:Int)<0):=by omega
 unfold O0
 simp only[h1,if_false]
 refine Prod.ext ?_ ?_
 ·cases lo with
  |none=>rfl
  |some v=>exact yX v n 0
 ·cases hi with
  |none=>rfl
  |some v=>exact yX v n n
theorem xW (i j:Nat):Ng (i:Int) (j:Int) 1=j - i:=by
 unfold Ng
 have h1:(1:Int)>0:=by omega
 simp only[h1,if_true,Int.ediv_one]
 split<;>omega
theorem rZ {v:L0} {o:Option Int} {Q:Option Int->L5->Prop} (p:OL v o) (h:Q o s):Lg (Lj prog w) A (Builtin.Slice.slicePartIndex v) Q E s:=by
 cases p with
 |none=>exact slicePart_none h
 |int i t=>exact slicePart_int h
theorem ka {sl:L4} {vl vu:L0} {lo hi:Option Int} {n:Nat} {Q:Int×Int×Nat->L5->Prop} (hs:s.heap.IsSliceOf sl vl vu .none) (pl:OL vl lo) (pu:OL vu hi)
  (h:Q (((fH n 0 lo:Nat):Int),1,fH n n hi - fH n 0 lo) s):Lg (Lj prog w) A (P5 (.ref sl) (pure (n:Int))) Q E s:=by
 obtain⟨os,Yg,ZC,Z2⟩:=id hs
 unfold P5 Builtin.Slice.sliceFields
 refine L6 (L6 (Ql Yg Z2 (x:=vl) rfl (L6 (Ql Yg Z2 (x:=vu) rfl (L6 (Ql Yg Z2 (x:= .none) rfl (Le ?_)))))))
 refine L6 (slicePart_none ?_)
 show Lg _ _ (if ((1:Int)==0)=true then _ else _) _ _ s
 rw[if_neg (by decide)]
 refine L6 (rZ pl (L6 (rZ pu (L6 (Le ?_)))))
 show Lg _ _ (match O0 lo hi 1 (n:Int)with|(lo,hi)=>pure (lo,(1:Int),Ng lo hi 1)) _ _ s
 rw[xV lo hi n]
 show Lg _ _ (pure (((fH n 0 lo:Nat):Int),(1:Int),Ng ((fH n 0 lo:Nat):Int) ((fH n n hi:Nat):Int) 1)) _ _ s
 rw[xW]
 exact Le h
theorem BM (xs:Array L0) (i k:Nat):((LZ k).filterMap λ(m:Nat)=>xs[((i:Int)+(m:Int)*1).toNat]?).toArray=((xs.toList.drop i).take k).toArray:=by
 have e:(λ(m:Nat)=>xs[((i:Int)+(m:Int)*1).toNat]?)=λm=>xs[i+m]? :=by
  funext m
  have:((i:Int)+(m:Int)*1).toNat=i+m:=by omega
  rw[this]
 rw[e]
 have:=pick_run xs i k
 rw[List.filterMap_map]at this
 have e2:((λx=>xs[x]?)∘λx=>i+x)=λm=>xs[i+m]? :=rfl
 rw[e2]at this
 rw[this]
theorem oN {t sl:L4} {Sz:Array L0} {vl vu:L0} {lo hi:Option Int} {Q:L0->L5->Prop} (ht:QF s.heap t Sz) (hs:s.heap.IsSliceOf sl vl vu .none) (pl:OL vl lo) (pu:OL vu hi)
  (hw:¬(fH Sz.size 0 lo=0/\fH Sz.size Sz.size hi=Sz.size))
  (h:Q (.ref s.heap.objs.size) {s with heap:=s.heap.push {cls:= .type "tuple",data:= .seq ((Sz.toList.drop (fH Sz.size 0 lo)).take (fH Sz.size Sz.size hi - fH Sz.size 0 lo)).toArray}})
  (hsz:Sz.size<=sizeLine):Lg (Lj prog w) A (Oe (.ref t) (.ref sl)) Q E s:=by
 have WW:sizeOk (.seq ((Sz.toList.drop (fH Sz.size 0 lo)).take (fH Sz.size Sz.size hi - fH Sz.size 0 lo)).toArray):=by
  show ((Sz.toList.drop (fH Sz.size 0 lo)).take (fH Sz.size Sz.size hi - fH Sz.size 0 lo)).toArray.size<=sizeLine
  rw[La,NN,PF,MK]
  omega
 have hj:fH Sz.size Sz.size hi<=Sz.size:=Gc _ _ (Lv _) hi
 obtain⟨os,Yg,ZC,Z2⟩:=id hs
 have a06:s.TypeIs (.ref sl) "slice":=⟨os,Yg,ZC⟩
 unfold Oe
 try with_reducible refine M1 ?_
 first|refine L6 (Le ?_)|skip
 refine L6 (Ry ht.typeIs (by decide) ?_)
 refine L6 (Q5 (name:=O9 "__getitem__") ht.typeIs M7
  (NO M7 ht.typeIs QW ?_ (Rf _ _)))
 show Lg _ _ (P6 (.ref t)>>=_) _ _ s
 refine L6 (P7 ht ?_)
 refine L6 (PH a06 ?_)
 rw[if_pos (by decide)]
 refine L6 (ka hs pl pu ?_)
 have Wl:¬((((fH Sz.size 0 lo:Nat):Int)==0&&(1:Int)==1&&(fH Sz.size Sz.size hi - fH Sz.size 0 lo)==Sz.size)=true):=by
  intro q
  rw[Mb,Mb]at q
  have q1:((fH Sz.size 0 lo:Nat):Int)=0:=eq_of_beq q.1.1
  have q2:fH Sz.size Sz.size hi - fH Sz.size 0 lo=Sz.size:=eq_of_beq q.2
  exact hw ⟨by omega,by omega⟩
 show Lg _ _ (if (((fH Sz.size 0 lo:Nat):Int)==0&&(1:Int)==1&&(fH Sz.size Sz.size hi - fH Sz.size 0 lo)==Sz.size)=true then _ else _) _ _ s
 rw[if_neg Wl,BM]
 first
  |exact L6 (m:=Ni _) (Oi (Le ⟨_,rfl,Le h⟩) WW)
  |exact L6 (m:=Ni _) (Oi (L6 (Le (Le ⟨_,rfl,Le h⟩))) WW)
  |exact L6 (L6 (m:=Ni _) (Oi (Le (Le ⟨_,rfl,Le h⟩)) WW))
  |exact L6 (L6 (m:=Ni _) (Oi (Le ⟨_,rfl,Le h⟩) WW))
end
end HT
namespace L2
open PySem PySem.Spec PyProof.Rows
abbrev TO:=St->Hp->(Option Int->Hp->Prop)->Prop
def PO (X:Cx) (e:Option Lc) (t:TO):Prop:=
 ∀(Sv:List (L4×LJ)) (s:L5) (σ:St) (H:Hp) (Q:Option Int->Hp->Prop),aP X Sv σ H s->t σ H Q->
  Lg (Lj X.prog X.w) X.A (evalPart e X.env) (λu s'=>∃o H',aP X Sv σ H' s'/\OL u o/\Q o H') X.xe s
def DW:TO:=λ_ H Q=>Q none H
def Ih (t:TE):TO:=λσ H Q=>t σ H λx H1=>∃i,x= .int i/\Q (some i) H1
theorem kG {ns:List Int}:∀{us:List L0},bp (ns.map V.int) us->Pp us ns:=by
 induction ns with
 |nil=>intro us r;rw[MA]at r;cases r;exact .nil
 |cons n ns ih=>
  intro us r
  rw[Lf]at r
  cases r with
  |cons r1 r2=>
   obtain⟨t,e⟩:=r1
   subst e
   exact .cons n t (ih r2)
section
variable {X:Cx} {e:Lc} {te:TE} {lo hi:Option Lc} {tl th:TO} {pos p2:LR}
theorem DX:PO X none DW:=by
 intro Sv s σ H Q I h
 rw[P8]
 exact Le ⟨none,H,I, .none,h⟩
theorem yY (h:PE X e te):PO X (some e) (Ih te):=by
 intro Sv s σ H Q I hw
 rw[evalPart_some]
 refine cY (h Sv s σ H _ I hw) λu s1 z_=> ?_
 obtain⟨x,H1,I1,r1,q1⟩:=z_
 obtain⟨i,rfl,q⟩:=q1
 obtain⟨t,rfl⟩:=r1
 exact⟨some i,H1,I1, .int i t,q⟩
def Fk (X:Cx) (r:V->Option Int->Option Int->Hp->VK->Prop):Prop:=
 ∀(Sv:List (L4×LJ)) (s:L5) (σ:St) (H:Hp) (x:V) (v vl vu:L0) (lo hi:Option Int) (sl:L4) (Q:VK),aP X Sv σ H s->bW x v->s.heap.IsSliceOf sl vl vu .none->OL vl lo->OL vu hi->r x lo hi H Q->
  ∃T id,typeLookup (.type T) "__getitem__"=pure (some (.builtin id))/\s.TypeIs v T/\Lg (Lj X.prog X.w) X.A (Oe v (.ref sl)) (EP X Sv σ Q) X.xe s
theorem Fk.or {r r':V->Option Int->Option Int->Hp->VK->Prop} (h:Fk X r) (h':Fk X r'):Fk X (λx lo hi H Q=>r x lo hi H Q\/r' x lo hi H Q):=by
 intro Sv s σ H x v vl vu lo hi sl Q I rx hs pl pu q
 rcases q with q|q
 ·exact h Sv s σ H x v vl vu lo hi sl Q I rx hs pl pu q
 ·exact h' Sv s σ H x v vl vu lo hi sl Q I rx hs pl pu q
def Kz (r:V->Option Int->Option Int->Hp->VK->Prop) (te:TE) (tl th:TO):TE:=λσ H Q=>te σ H λx H1=>tl σ H1 λl H2=>th σ H2 λu H3=>r x l u H3 Q
theorem BO {r:V->Option Int->Option Int->Hp->VK->Prop} (hr:Fk X r) (he:PE X e te) (hl:PO X lo tl) (hu:PO X hi th):PE X (.Subscript e (.Slice lo hi none p2) pos) (Kz r te tl th):=by
 intro Sv s σ H Q I h
 refine QJ (cY (he Sv s σ H _ I h) λv s1 z_=> ?_)
 obtain⟨x,H1,I1,r1,q1⟩:=z_
 refine wpAny_Slice (cY (hl Sv s1 σ H1 _ I1 q1) λvl s2 ⟨l,H2,I2,pl,q2⟩=>cY (hu Sv s2 σ H2 _ I2 q2) λvu s3 z_=> ?_)
 obtain⟨u,H3,I3,pu,q3⟩:=z_
 rw[P8]
 refine Le ?_
 have I4:aP X Sv σ H3 {s3 with heap:=s3.heap.push {cls:= .type "slice",data:= .fields #[vl,vu, .none]}}:=I3.kept (t':=s3.toks) λb ob q=>Lb _ q
 obtain⟨T,id,hT,ht,hg⟩:=hr Sv {s3 with heap:=s3.heap.push {cls:= .type "slice",data:= .fields #[vl,vu, .none]}} σ H3 x v vl vu l u s3.heap.objs.size Q I4 r1 (Rh ..) pl pu q3
 show Lg (Lj X.prog X.w) X.A (P9 e (.Slice lo hi none p2) v (.ref s3.heap.objs.size)) (EP X Sv σ Q) X.xe {s3 with heap:=s3.heap.push {cls:= .type "slice",data:= .fields #[vl,vu, .none]}}
 exact tail_any (ops:=[.ref s3.heap.objs.size,v]) ht hT hg (by with_unfolding_all rfl)
def tF (xs:List V) (lo hi:Option Int):List V:=(xs.drop (HT.fH xs.length 0 lo)).take (HT.fH xs.length xs.length hi - HT.fH xs.length 0 lo)
theorem qA (xs:List V) (lo hi:Option Int):(tF xs lo hi).length<=xs.length:=by
 unfold tF
 rw[NN,PF]
 omega
def JQ (K:K_):V->Option Int->Option Int->Hp->VK->Prop:=λx lo hi H Q=>∃a xs,x= .ref a/\iY K H a xs/\
 ¬(HT.fH xs.length 0 lo=0/\HT.fH xs.length xs.length hi=xs.length)/\∀p,H p=none->Q (.ref p) (ce H p (.tup (tF xs lo hi)))
theorem Gd:Fk X (JQ X.K):=by
 intro Sv s σ H x v vl vu lo hi sl Q I rx hs pl pu h
 obtain⟨a,xs,rfl,hx,hw,q⟩:=h
 cases rx
 obtain⟨its,r,ht,hz⟩:=I.tuple hx
 have SW:its.toArray.size=xs.length:=by rw[La];exact r.length.symm
 refine⟨"tuple",_,M7.lookup,ht.typeIs,?_⟩
 refine HT.oN ht hs pl pu (by rw[SW];exact hw) ?_ (by rw[SW];exact hz)
 rw[SW]
 refine⟨.ref s.heap.objs.size,_,I.laid (t':=s.toks) (o:= .tup (tF xs lo hi)) (λb ob q=>Lb _ q) (Lv _) ?_,rfl,q _ (I.hok.fresh (Lv _))⟩
 exact⟨LP (qA xs lo hi) hz,_,(r.drop (HT.fH xs.length 0 lo)).take (HT.fH xs.length xs.length hi - HT.fH xs.length 0 lo),jL.new _ _⟩
def Fn (K:K_):R2:=λx y H Q=>∃a b xs ys,x= .ref a/\y= .ref b/\iY K H a xs/\iY K H b ys/\xs≠[]/\xs.length+ys.length<=sizeLine/\
 (ys=[]->Q (.ref a) H)/\(ys≠[]->∀p,H p=none->Q (.ref p) (ce H p (.tup (xs++ys))))
theorem bp.nil_iff {xs:List V} {us:List L0} (r:bp xs us):us=[]<->xs=[]:=by
 cases r with
 |nil=>simp
 |cons _ _=>simp
theorem DY:lG X (MS .Add) (Fn X.K):=by
 intro Sv s σ H x y v u Q I rx ry h
 obtain⟨a,b,xs,ys,rfl,rfl,ha,hb,hx,hz,q1,q2⟩:=h
 cases rx
 cases ry
 obtain⟨its,r1,p1,_⟩:=I.tuple ha
 obtain⟨Vb,r2,p2,_⟩:=I.tuple hb
 refine HT.DV p1 p2 (λz=>hx (r1.nil_iff.mp z)) (λz=>⟨.ref a,H,I,rfl,q1 (r2.nil_iff.mp z)⟩) (λz=> ?_) (by rw[<-r1.length,<-r2.length];exact hz)
 refine⟨.ref s.heap.objs.size,_,I.laid (t':=s.toks) (o:= .tup (xs++ys)) (λb ob q=>Lb _ q) (Lv _) ?_,rfl,q2 (λw=>z (r2.nil_iff.mpr w)) _ (I.hok.fresh (Lv _))⟩
 exact⟨by rw[LO];exact hz,_,r1.append r2,jL.new _ _⟩
end
end L2
namespace L2
open PySem PySem.Spec PyProof.Rows
def xG (n:Nat) (i:Int):Option Nat:=if 0<=i then (if i<n then some i.toNat else none)else if -(n:Int)<=i then some (i+n).toNat else none
def atI {α:Type} (xs:List α) (i:Int):Option α:=(xG xs.length i).bind λj=>xs[j]?
theorem yZ {n:Nat} {i:Int} {j:Nat} (h:xG n i=some j):seqIndex? i n=some j/\j<n/\ -(n:Int)<=i/\i<n:=by
 unfold xG at h
 by_cases h0:0<=i
 ·rw[if_pos h0]at h
  by_cases h1:i<n
  ·rw[if_pos h1]at h
   have e:i.toNat=j:=M4 h
   exact⟨by rw[RD h0 h1,e],by omega,by omega,h1⟩
  ·rw[if_neg h1]at h;cases h
 ·rw[if_neg h0]at h
  by_cases h1: -(n:Int)<=i
  ·rw[if_pos h1]at h
   have e:(i+n).toNat=j:=M4 h
   exact⟨by rw[Ri (by omega) h1,e],by omega,h1,by omega⟩
  ·rw[if_neg h1]at h;cases h
theorem uT {α:Type} {xs:List α} {i:Int} {v:α} (h:atI xs i=some v):∃j,seqIndex? i xs.length=some j/\xs[j]? =some v/\j<xs.length/\ -(xs.length:Int)<=i/\i<xs.length:=by
 unfold atI at h
 cases e:xG xs.length i with
 |none=>rw[e]at h;cases h
 |some j=>
  rw[e]at h
  obtain⟨h1,h2,h3,h4⟩:=yZ e
  exact⟨j,h1,h,h2,h3,h4⟩
theorem uU {α:Type} {xs:List α} {j:Nat} {v:α} (h:xs[j]? =some v):atI xs (j:Int)=some v:=by
 have hj:j<xs.length:=(Lq.mp h).1
 have e:xG xs.length (j:Int)=some j:=by
  unfold xG
  rw[if_pos (by omega),if_pos (by omega)];simp
 unfold atI;rw[e];exact h
theorem wd {α:Type} (xs:List α) (v:α):atI (xs++[v]) (-1)=some v:=by
 have hl:(xs++[v]).length=xs.length+1:=by simp
 have e:xG (xs++[v]).length (-1)=some xs.length:=by
  unfold xG
  rw[hl,if_neg (by decide),if_pos (by omega)]
  congr 1
  omega
 unfold atI
 rw[e]
 show (xs++[v])[xs.length]? =some v
 simp
def y_ (b:Lc):Prop:=∀o i,Qm b false o i=operate [o,i] (Oe o i)
def DZ (X:Cx) (r:R2):Prop:=
 ∀(value Ul:Lc) (Sv:List (L4×LJ)) (s:L5) (σ:St) (H:Hp) (x y:V) (v u:L0) (Q:VK),aP X Sv σ H s->bW x v->bW y u->r x y H Q->
  Qm Ul false v u=operate [v,u] (Oe v u)->Lg (Lj X.prog X.w) X.A (P9 value Ul v u) (EP X Sv σ Q) X.xe s
def Kf (X:Cx) (id:String) (r:V->List V->Hp->VK->Prop):Prop:=
 ∀(Sv:List (L4×LJ)) (s:L5) (σ:St) (H:Hp) (x:V) (xs:List V) (v:L0) (us:List L0) (Q:VK),aP X Sv σ H s->bW x v->bp xs us->r x xs H Q->
  Lg (Lj X.prog X.w) X.A (call (.builtin id) (v::us)) (EP X Sv σ Q) X.xe s
section
variable {X:Cx} {a b:Lc} {ta tb:TE} {pos:LR}
theorem DZ.or {r r':R2} (h:DZ X r) (h':DZ X r'):DZ X (λx y H Q=>r x y H Q\/r' x y H Q):=by
 intro value Ul Sv s σ H x y v u Q I rx ry q hs
 rcases q with q|q
 ·exact h value Ul Sv s σ H x y v u Q I rx ry q hs
 ·exact h' value Ul Sv s σ H x y v u Q I rx ry q hs
theorem Ii {r:R2} (hr:DZ X r) (ha:PE X a ta) (hb:PE X b tb) (hs:y_ b):PE X (.Subscript a b pos) (Jl r ta tb):=by
 intro Sv s σ H Q I h
 exact QJ (G4 ha hb I h λv u s2 x y H2 I2 rx ry q=>hr a b Sv s2 σ H2 x y v u Q I2 rx ry q (hs _ _))
def Ij (K:K_):R2:=λx y H Q=>∃p xs i v,x= .ref p/\y= .int i/\dC K H p xs/\atI xs i=some v/\Q v H
def Ik (K:K_):R2:=λx y H Q=>∃p xs i v,x= .ref p/\y= .int i/\iY K H p xs/\atI xs i=some v/\Q v H
def Il:R2:=λx y H Q=>∃z i c,x= .str z/\y= .int i/\z.length<=sizeLine/\atI z.cps.toList i=some c/\Q (.str ⟨#[c]⟩) H
theorem D_:DZ X (Ij X.K):=by
 intro value Ul Sv s σ H x y v u Q I rx ry h hs
 obtain⟨p,xs,i,z,rfl,rfl,hq,he,q⟩:=h
 cases rx
 obtain⟨t,rfl⟩:=ry
 obtain⟨its,r,pl,hz⟩:=I.list hq
 obtain⟨j,h1,h2,h3,h4,h5⟩:=uT he
 obtain⟨w,ew,WX⟩:=r.get h2
 have hl:=r.length
 have hn:=pU
 have Uk:EP X Sv σ Q w s:=⟨z,H,I,WX,q⟩
 by_cases h0:0<=i
 ·have hj:i.toNat=j:=by
   rw[RD h0 h5]at h1
   exact M4 h1
  exact item_listR pl.isList h0 (by omega) (by rw[hj];simpa using ew) Uk hs
 ·have hj:(i+(its.toArray.size:Int)).toNat=j:=by
   rw[Ri (by omega) h4]at h1
   rw[La,<-hl]
   exact M4 h1
  exact Qn (x:=w) pl.isList.typeIs Pf.lookup
   (wpAny_getItem_list_neg (Q:=λr s'=>r=w/\EP X Sv σ Q r s') pl.isList (by omega) (by rw[La]<;>omega) (by omega) (by rw[hj];simpa using ew) ⟨rfl,Uk⟩) hs
theorem Ge:DZ X (Ik X.K):=by
 intro value Ul Sv s σ H x y v u Q I rx ry h hs
 obtain⟨p,xs,i,z,rfl,rfl,hq,he,q⟩:=h
 cases rx
 obtain⟨t,rfl⟩:=ry
 obtain⟨its,r,pl,hz⟩:=I.tuple hq
 obtain⟨j,h1,h2,h3,h4,h5⟩:=uT he
 obtain⟨w,ew,WX⟩:=r.get h2
 have hl:=r.length
 have hn:=pU
 have Uk:EP X Sv σ Q w s:=⟨z,H,I,WX,q⟩
 exact Qn (x:=w) pl.typeIs M7.lookup
  (getItem_tuple (j:=j) (Q:=λr s'=>r=w/\EP X Sv σ Q r s') pl (by omega) (by omega) (by rw[La,<-hl];exact h1) (by simpa using ew) ⟨rfl,Uk⟩) hs
theorem Gf:DZ X Il:=by
 intro value Ul Sv s σ H x y v u Q I rx ry h hs
 obtain⟨z,i,c,rfl,rfl,hz,he,q⟩:=h
 obtain⟨t,rfl⟩:=rx
 obtain⟨t',rfl⟩:=ry
 obtain⟨j,h1,h2,h3,h4,h5⟩:=uT he
 have hl:z.cps.toList.length=z.length:=by simp[Str.length]
 rw[hl]at h1 h4 h5
 have hn:=pU
 exact tail_any (typeIs_str s z t) slot_str_getitem.lookup (getItem_str (c:=c) (by
  have e1:decide (i< -(2 ^63:Int))=false:=decide_eq_false (by omega)
  have e2:decide (i>=2 ^63)=false:=decide_eq_false (by omega)
  rw[e1,e2,Se]) (by rw[h1];simpa using h2) ⟨.str ⟨#[c]⟩,H,I.tok _,⟨_,rfl⟩,q⟩) hs
def Kg (K:K_):R2:=λx y H Q=>Ij K x y H Q\/Ik K x y H Q\/Il x y H Q
theorem Gg:DZ X (Kg X.K):=D_.or (Ge.or Gf)
theorem xX (its:List L0) (n j:Nat) (u:L0):MH (·.setIfInBounds j u) {cls:= .type "list",data:= .seq its.toArray n}={cls:= .type "list",data:= .seq (its.set j u).toArray n}:=by
 simp[MH]
theorem aP.lst {Sv:List (L4×LJ)} {σ:St} {H:Hp} {s:L5} {p:L4} {xs:List V} (I:aP X Sv σ H s) (h:H p=some (.lst xs)):
  ∃(its:List L0) (n:Nat),bp xs its/\s.heap.get? p=some {cls:= .type "list",data:= .seq its.toArray n}/\xs.length<=sizeLine:=by
 obtain⟨z,its,n,r,e⟩:=I.hok p _ h
 exact⟨its,n,r,e,z⟩
theorem aP.lstUpd {Sv:List (L4×LJ)} {σ:St} {H:Hp} {s:L5} {p:L4} {xs ys:List V} {its its':List L0} {n n':Nat} {f:LJ->LJ} (I:aP X Sv σ H s) (h:H p=some (.lst xs))
  (ho:s.heap.get? p=some {cls:= .type "list",data:= .seq its.toArray n}) (hf:f {cls:= .type "list",data:= .seq its.toArray n}={cls:= .type "list",data:= .seq its'.toArray n'}) (r:bp ys its') (hz:ys.length<=sizeLine) (t:Nat):
  aP X Sv σ (ce H p (.lst ys)) {s with heap:=s.heap.update p f,toks:=t}:=by
 have e:(s.heap.update p f).get? p=some {cls:= .type "list",data:= .seq its'.toArray n'}:=by
  rw[Heap.get?_update_self f ho (by rw[hf]<;>rfl),hf]
 refine I.write (x:=p) (e:=p) (by rw[h];trivial) (.inl rfl) (λb u hb q=>(Qo _ _ (MN hb)).trans q) ⟨_,e⟩ ?_
 exact⟨hz,its',n',r,e⟩
def Im:V->V->V->Hp->(Hp->Prop)->Prop:=λo i v H Q=>∃p xs k j,o= .ref p/\i= .int k/\H p=some (.lst xs)/\xG xs.length k=some j/\Q (ce H p (.lst (xs.set j v)))
theorem BP:HW X Im:=by
 intro Sv s σ H o i v ov iv u Q I ro ri rv h
 obtain⟨p,xs,k,j,rfl,rfl,hp,hj,q⟩:=h
 cases ro
 obtain⟨t,rfl⟩:=ri
 obtain⟨its,n,r,ho,hz⟩:=I.lst hp
 obtain⟨h1,h2,h3,h4⟩:=yZ hj
 have hl:=r.length
 have hn:=pU
 have I':aP X Sv σ (ce H p (.lst (xs.set j v))) {s with heap:=s.heap.update p (MH (·.setIfInBounds j u))}:=
  I.lstUpd hp ho (xX its n j u) (r.set rv j) (by rw[OM];exact hz) s.toks
 by_cases h0:0<=k
 ·have hk:k.toNat=j:=by
   rw[RD h0 h4]at h1
   exact M4 h1
  exact PySem.W.ki_setAt ho h0 (by omega) (by rw[La,<-hl];exact h4) (by rw[hk];exact⟨_,I',q⟩)
 ·have hk:(k+(its.toArray.size:Int)).toNat=j:=by
   rw[Ri (by omega) h3]at h1
   rw[La,<-hl]
   exact M4 h1
  exact PySem.W.ki_setBack ho (by omega) (by rw[La,<-hl];exact h3) (by omega) (by rw[hk];exact⟨_,I',q⟩)
theorem uV (lo hi:Option Int) (n:Nat):(NW lo hi none n).1=((HT.fH n 0 lo:Nat):Int)/\(NW lo hi none n).2.1=((HT.fH n n hi:Nat):Int)/\(NW lo hi none n).2.2=1:=by
 refine⟨?_,?_,rfl⟩
 ·cases lo with
  |none=>simp[NW,HT.fH]
  |some i=>
   simp only[NW,HT.fH,RH,show (1:Int)>0 by decide,if_true]
   by_cases h:i<0
   ·simp only[h,if_true]<;>omega
   ·simp only[h,if_false]<;>omega
 ·cases hi with
  |none=>simp[NW,HT.fH]
  |some i=>
   simp only[NW,HT.fH,RH,show (1:Int)>0 by decide,if_true]
   by_cases h:i<0
   ·simp only[h,if_true]<;>omega
   ·simp only[h,if_false]<;>omega
theorem tH (its:List L0) (lo hi:Option Int):slicePick its.toArray lo hi none=((its.drop (HT.fH its.length 0 lo)).take (HT.fH its.length its.length hi - HT.fH its.length 0 lo)).toArray:=by
 obtain⟨h1,h2,h3⟩:=uV lo hi its.toArray.size
 unfold slicePick
 rw[h1,h2,h3]
 simp only[sliceRange_one,pick_run,La]<;>rfl
def JR (K:K_):V->Option Int->Option Int->Hp->VK->Prop:=λx lo hi H Q=>∃a xs,x= .ref a/\dC K H a xs/\∀p,H p=none->Q (.ref p) (ce H p (.lst (tF xs lo hi)))
theorem E0:Fk X (JR X.K):=by
 intro Sv s σ H x v vl vu lo hi sl Q I rx hs pl pu h
 obtain⟨a,xs,rfl,hx,q⟩:=h
 cases rx
 obtain⟨its,r,ht,hz⟩:=I.list hx
 have SW:=r.length
 refine⟨"list",_,Pf.lookup,ht.isList.typeIs,?_⟩
 refine PJ ht.isList hs pl pu .none (by simp) ?_ (by rw[La]<;>omega)
 rw[tH,<-SW]
 refine⟨.ref s.heap.objs.size,_,I.laid (t':=s.toks) (o:= .lst (tF xs lo hi)) (λb ob q=>Lb _ q) (Lv _) ?_,rfl,q _ (I.hok.fresh (Lv _))⟩
 exact⟨LP (qA xs lo hi) hz,_,0,(r.drop (HT.fH xs.length 0 lo)).take (HT.fH xs.length xs.length hi - HT.fH xs.length 0 lo),LH _ rfl⟩
def iI:V->Bool
 | .non=>true
 | .bl _=>true
 | .int _=>true
 | .str _=>true
 |_=>false
def Bk:V->V->Bool
 | .non, .non=>true
 | .bl a, .bl b=>a==b
 | .bl a, .int b=>(if a then 1 else 0)==b
 | .int a, .bl b=>a==(if b then 1 else 0)
 | .int a, .int b=>a==b
 | .str a, .str b=>a==b
 |_,_=>false
theorem BQ {A:LF} {s:L5} {y x:V} {u v:L0} (ry:bW y u) (rx:bW x v) (fy:iI y=true) (fx:iI x=true):SeqAt.EqAt A s u v (Bk y x):=by
 cases y with
 |non=>
  cases ry
  cases x with
  |non=>cases rx;exact SeqAt.EqAt.same _
  |bl b=>cases rx;exact SeqAt.EqAt.none_bool b
  |int b=>obtain⟨t,rfl⟩:=rx;exact SeqAt.EqAt.none_int b t
  |str b=>obtain⟨t,rfl⟩:=rx;exact SeqAt.EqAt.none_str b t
  |_=>exact absurd (show false=true from fx) LA
 |bl a=>
  cases ry
  cases x with
  |non=>cases rx;exact SeqAt.EqAt.bool_none a
  |bl b=>cases rx;exact Oa a b
  |int b=>obtain⟨t,rfl⟩:=rx;exact SeqAt.EqAt.bool_int a b t
  |str b=>obtain⟨t,rfl⟩:=rx;exact SeqAt.EqAt.bool_str a b t
  |_=>exact absurd (show false=true from fx) LA
 |int a=>
  obtain⟨t',rfl⟩:=ry
  cases x with
  |non=>cases rx;exact SeqAt.EqAt.int_none a t'
  |bl b=>cases rx;exact SeqAt.EqAt.int_bool a t' b
  |int b=>obtain⟨t,rfl⟩:=rx;exact Ou a t' b t
  |str b=>obtain⟨t,rfl⟩:=rx;exact QZ a t' b t
  |_=>exact absurd (show false=true from fx) LA
 |str a=>
  obtain⟨t',rfl⟩:=ry
  cases x with
  |non=>cases rx;exact SeqAt.EqAt.str_none a t'
  |bl b=>cases rx;exact SeqAt.EqAt.str_bool a t' b
  |int b=>obtain⟨t,rfl⟩:=rx;exact Q_ a t' b t
  |str b=>obtain⟨t,rfl⟩:=rx;exact SeqAt.EqAt.str_str a t' b t
  |_=>exact absurd (show false=true from fx) LA
 |_=>exact absurd (show false=true from fy) LA
def xY (x:V) (u:L0):Bool:=match u with
 | .none=>Bk .non x
 | .bool b=>Bk (.bl b) x
 | .int i _=>Bk (.int i) x
 | .str z _=>Bk (.str z) x
 |_=>false
theorem BR {x y:V} {u:L0} (r:bW y u) (f:iI y=true):xY x u=Bk y x:=by
 cases y with
 |non=>cases r;rfl
 |bl b=>cases r;rfl
 |int i=>obtain⟨t,rfl⟩:=r;rfl
 |str z=>obtain⟨t,rfl⟩:=r;rfl
 |_=>exact absurd (show false=true from f) LA
theorem oO {x:V}:∀{xs:List V} {us:List L0},bp xs us->xs.all iI=true->us.any (xY x)=xs.any λy=>Bk y x
 |_,_, .nil,_=>rfl
 |y::xs,u::us, .cons r t,f=>by
  rw[Mp,Mb]at f
  rw[MB,MB,BR r f.1,oO t f.2]
theorem lJ {A:LF} {s:L5} {x:V} {v:L0} (rx:bW x v) (fx:iI x=true):∀{xs:List V} {us:List L0},bp xs us->xs.all iI=true->∀u∈us,SeqAt.EqAt A s u v (xY x u)
 |_,_, .nil,_=>λu hu=>by cases hu
 |y::xs,u::us, .cons r t,f=>λu' hu=>by
  rw[Mp,Mb]at f
  rcases Li.mp hu with rfl|hu
  ·rw[BR r f.1];exact BQ r rx f.1 fx
  ·exact lJ rx fx t f.2 u' hu
def inV (x:V) (xs:List V):Bool:=xs.any λy=>Bk y x
def JS (K:K_) (Vm:Bool):R2:=λx y H Q=>∃p xs,y= .ref p/\(dC K H p xs\/iY K H p xs)/\iI x=true/\xs.all iI=true/\Q (.bl (if Vm then !inV x xs else inV x xs)) H
theorem uf:lG X (Mv .In) (JS X.K false):=by
 intro Sv s σ H x y v u Q I rx ry h
 obtain⟨p,xs,rfl,hq,fx,fs,q⟩:=h
 cases ry
 rcases hq with hq|hq
 ·obtain⟨its,r,pl,hz⟩:=I.list hq
  refine SeqAt.in_listAt (xY x) pl.isList (λw hw=>lJ rx fx r fs w (by simpa using hw)) ⟨.bl _,H,I,rfl,?_⟩
  rw[show its.toArray.any (xY x)=its.any (xY x) by simp,oO r fs]
  exact q
 ·obtain⟨its,r,pl,hz⟩:=I.tuple hq
  refine SeqAt.in_tupleAt (xY x) pl (λw hw=>lJ rx fx r fs w (by simpa using hw)) ⟨.bl _,H,I,rfl,?_⟩
  rw[show its.toArray.any (xY x)=its.any (xY x) by simp,oO r fs]
  exact q
theorem oP:lG X (Mv .NotIn) (JS X.K true):=by
 intro Sv s σ H x y v u Q I rx ry h
 obtain⟨p,xs,rfl,hq,fx,fs,q⟩:=h
 cases ry
 rcases hq with hq|hq
 ·obtain⟨its,r,pl,hz⟩:=I.list hq
  refine SeqAt.notIn_listAt (xY x) pl.isList (λw hw=>lJ rx fx r fs w (by simpa using hw)) ⟨.bl _,H,I,rfl,?_⟩
  rw[show its.toArray.any (xY x)=its.any (xY x) by simp,oO r fs]
  exact q
 ·obtain⟨its,r,pl,hz⟩:=I.tuple hq
  refine SeqAt.notIn_tupleAt (xY x) pl (λw hw=>lJ rx fx r fs w (by simpa using hw)) ⟨.bl _,H,I,rfl,?_⟩
  rw[show its.toArray.any (xY x)=its.any (xY x) by simp,oO r fs]
  exact q
theorem uW:d_ X (.builtin "len") (λxs H Q=>∃p ys,xs=[.ref p]/\(dC X.K H p ys\/iY X.K H p ys)/\Q (.int ys.length) H):=by
 intro Sv s σ H xs us Q I r h
 obtain⟨p,ys,rfl,hq,q⟩:=h
 obtain⟨u,rfl,rx⟩:=j_ r
 cases rx
 have hn:=pU
 rcases hq with hq|hq
 ·obtain⟨its,r',pl,hz⟩:=I.list hq
  have SW:=r'.length
  exact Calls.call_len_list pl.isList (by simp only[La]<;>omega) ⟨.int ys.length,H,I.tok _,⟨s.toks+1,by rw[La,SW]⟩,q⟩
 ·obtain⟨its,r',pl,hz⟩:=I.tuple hq
  have SW:=r'.length
  exact len_tuple pl (by simp only[La]<;>omega) ⟨.int ys.length,H,I.tok _,⟨s.toks+1,by rw[La,SW]⟩,q⟩
theorem d_.or {f:L0} {r r':List V->Hp->VK->Prop} (h:d_ X f r) (h':d_ X f r'):d_ X f (λxs H Q=>r xs H Q\/r' xs H Q):=by
 intro Sv s σ H xs us Q I rs q
 rcases q with q|q
 ·exact h Sv s σ H xs us Q I rs q
 ·exact h' Sv s σ H xs us Q I rs q
theorem gu:d_ X (.type "list") (λxs H Q=>∃p ys,xs=[.ref p]/\(dC X.K H p ys\/iY X.K H p ys)/\∀l,H l=none->Q (.ref l) (ce H l (.lst ys))):=by
 intro Sv s σ H xs us Q I r h
 obtain⟨p,ys,rfl,hq,q⟩:=h
 obtain⟨u,rfl,rx⟩:=j_ r
 cases rx
 have Uk:∀(its:List L0),bp ys its->ys.length<=sizeLine->∀(h':Lr) (c':Nat),(∀b o',s.heap.get? b=some o'->h'.get? b=some o')->
   h'.get? s.heap.objs.size=some {cls:= .type "list",dict:=none,data:= .seq its.toArray c',slots:= #[]}->EP X Sv σ Q (.ref s.heap.objs.size) {s with heap:=h'}:=λits r' hz h' c' kp e=>
  ⟨.ref s.heap.objs.size,_,I.laid (t':=s.toks) kp (Lv _) (show cp X.prog X.w _ h' _ (.lst ys)from ⟨hz,its,c',r',e⟩),rfl,q _ (I.hok.fresh (Lv _))⟩
 rcases hq with hq|hq
 ·obtain⟨its,r',pl,hz⟩:=I.list hq
  have SW:=r'.length
  obtain⟨o,ho,hc,n,hd⟩:=pl.isList
  exact call_list_seq p (.inl rfl) ho hc hd (λh' c' kp e=>Uk its r' hz h' c' kp e) (by simp only[La]<;>omega)
 ·obtain⟨its,r',pl,hz⟩:=I.tuple hq
  have SW:=r'.length
  obtain⟨o,ho,hc,n,hd⟩:=pl
  exact call_list_seq p (.inr rfl) ho hc hd (λh' c' kp e=>Uk its r' hz h' c' kp e) (by simp only[La]<;>omega)
theorem aI:d_ X (.type "tuple") (λxs H Q=>∃p ys,xs=[.ref p]/\((dC X.K H p ys/\∀l,H l=none->Q (.ref l) (ce H l (.tup ys)))\/(iY X.K H p ys/\Q (.ref p) H))):=by
 intro Sv s σ H xs us Q I r h
 obtain⟨p,ys,rfl,h⟩:=h
 obtain⟨u,rfl,rx⟩:=j_ r
 cases rx
 rcases h with ⟨hq,q⟩|⟨hq,q⟩
 ·obtain⟨its,r',pl,hz⟩:=I.list hq
  have SW:=r'.length
  refine call_tuple_list pl.isList (λh' kp=> ?_) (by simp only[La]<;>omega)
  have I1:aP X Sv σ H {s with heap:=h'}:=I.kept (t':=s.toks) kp
  have I2:aP X Sv σ (ce H h'.objs.size (.tup ys)) {s with heap:=h'.push {cls:= .type "tuple",data:= .seq its.toArray}}:=
   I1.laid (t':=s.toks) (λb o e=>Lb _ e) (Lv _) (show cp X.prog X.w _ _ _ (.tup ys)from ⟨hz,its,r',jL.new _ _⟩)
  exact⟨.ref h'.objs.size,_,I2,rfl,q _ (I1.hok.fresh (Lv _))⟩
 ·obtain⟨its,r',pl,hz⟩:=I.tuple hq
  exact call_tuple_same pl ⟨.ref p,H,I,rfl,q⟩
def Jn (K:K_) (T:String) (x:V) (H:Hp):Prop:=match x with
 | .str _=>T="str"
 | .int _=>T="int"
 | .ref p=>(T="list"/\∃xs,dC K H p xs)\/(T="tuple"/\∃o,K.lookup p=some o/\o.cls= .type "tuple"/\o.dict=none)\/
   (T="dict"/\((∃kvs,H p=some (.dK kvs))\/∃kvs,H p=some (.dT kvs)))\/(T="set"/\∃S n,H p=some (.set S n))
 |_=>False
theorem xZ {Sv:List (L4×LJ)} {σ:St} {H:Hp} {s:L5} {T:String} {x:V} {v:L0} (I:aP X Sv σ H s) (r:bW x v) (ty:Jn X.K T x H):
  s.TypeIs v T/\∀a,v= .ref a->∃ob,s.heap.get? a=some ob/\ob.dict=none:=by
 cases x with
 |str z=>
  obtain⟨t,rfl⟩:=r
  cases (show T="str" from ty)
  exact⟨typeIs_str s z t,λ_ e=>nomatch e⟩
 |int i=>
  obtain⟨t,rfl⟩:=r
  cases (show T="int" from ty)
  exact⟨RW s i t,λ_ e=>nomatch e⟩
 |ref p=>
  cases r
  rcases ty with ⟨rfl,xs,hq⟩|⟨rfl,o,hk,hc,hd⟩|⟨rfl,hk⟩|⟨rfl,S,n,hk⟩
  ·obtain⟨its,_,pl,_⟩:=I.list hq
   refine⟨pl.isList.typeIs,λa e=> ?_⟩
   cases e
   obtain⟨o,n,e,c,hd,_⟩:=pl
   exact⟨o,e,hd⟩
  ·refine⟨⟨o,I.kIn p o hk,hc⟩,λa e=> ?_⟩
   cases e
   exact⟨o,I.kIn _ o hk,hd⟩
  ·have z:∃o,s.heap.get? p=some o/\o.ExactDict:=by
    rcases hk with ⟨kvs,hk⟩|⟨kvs,hk⟩
    ·obtain⟨_,_,_,_,o,_,_,e,ex,_⟩:=I.hok p _ hk
     exact⟨o,e,ex⟩
    ·obtain⟨_,_,_,_,o,_,_,e,ex,_⟩:=I.hok p _ hk
     exact⟨o,e,ex⟩
   obtain⟨o,e,ex⟩:=z
   refine⟨⟨o,e,ex.1⟩,λa e2=> ?_⟩
   cases e2
   exact⟨o,e,ex.2.1⟩
  ·obtain⟨o,_,_,_,e,ex,_⟩:=I.hok p _ hk
   refine⟨⟨o,e,ex.1⟩,λa e2=> ?_⟩
   cases e2
   exact⟨o,e,ex.2.1⟩
 |_=>exact MG ty
def JT (K:K_) (T:String) (r:V->List V->Hp->VK->Prop) (to:TE):TE:=λσ H Q=>to σ H λx H1=>Jn K T x H1/\r x [] H1 Q
def KA (K:K_) (T:String) (r:V->List V->Hp->VK->Prop) (to:TE) (t:TA):TE:=λσ H Q=>to σ H λx H1=>Jn K T x H1/\t σ H1 λxs H2=>r x xs H2 Q
variable {o e:Lc} {es:List Lc} {to:TE} {t:TA} {name:L3} {SQ SK:LR} {T id:String} {r:V->List V->Hp->VK->Prop}
theorem BS (pa:PlainAttrs T) (slot:Slot T name id) (a07:typeOf (.builtin id)=pure (.type "method_descriptor")) (hm:Kf X id r) (ho:PE X o to)
  (Th:LY o name X.env (Ls o X.env)=Ls o X.env:=by rfl) (Ti:(SQ.endLine==SK.line)=true:=by rfl):PE X (.Call (.Attribute o name SQ) [] [] SK) (JT X.K T r to):=by
 intro Sv s σ H Q I h
 refine wpAny_Call_method0_late Th Ti (cY (ho Sv s σ H _ I h) λv s1 z_=> ?_)
 obtain⟨x,H1,I1,r1,ty,q1⟩:=z_
 obtain⟨h1,h2⟩:=xZ I1 r1 ty
 exact⟨T,id,pa,slot,a07,h1,h2,NA rfl (PySem.evalArgs_none (hm Sv s1 σ H1 x [] v [] Q I1 r1 .nil q1))⟩
theorem zc (pa:PlainAttrs T) (slot:Slot T name id) (a07:typeOf (.builtin id)=pure (.type "method_descriptor")) (hm:Kf X id r) (ho:PE X o to) (ha:PA X (e::es) t)
  (Th:LY o name X.env (Ls o X.env)=Ls o X.env:=by rfl)
  (Vc:((LK SK (L8 (e::es) X.env)).all (λx=> !x.1)&&(MT SK (Mt [] X.env)).all (λx=>x.1.isSome)
   &&decide ((e::es).length+([]:List N7).length+(if ([]:List N7).isEmpty then 0 else 1)<30))=true:=by rfl)
  (Ti:(SQ.endLine==SK.line)=true:=by rfl) (hs:L8 (e::es) X.env=(false,Ls e X.env)::L8 es X.env:=by rfl) (Tj:(LK SK (L8 es X.env)).any (·.1)=false:=by rfl):
  PE X (.Call (.Attribute o name SQ) (e::es) [] SK) (KA X.K T r to t):=by
 intro Sv s σ H Q I h
 refine Qp Th Vc Ti rfl (cY (ho Sv s σ H _ I h) λv s1 z_=> ?_)
 obtain⟨x,H1,I1,r1,ty,q1⟩:=z_
 obtain⟨h1,h2⟩:=xZ I1 r1 ty
 refine⟨T,id,pa,slot,a07,h1,h2,?_⟩
 have hA:=ha SK Sv s1 σ H1 _ I1 q1
 rw[hs]at hA ⊢
 refine NA (by show (false||(LK SK (L8 es X.env)).any (·.1))=false;rw[Tj]<;>rfl) (NP ?_)
 exact cY hA λus s2 ⟨vs,H2,I2,r2,q2⟩=>hm Sv s2 σ H2 x vs v us Q I2 r1 r2 q2
end
end L2
namespace L2
open PySem PySem.Spec PyProof.Rows
def Gh (X:Cx) (id:String) (r:V->List V->Hp->VK->Prop):Prop:=
 ∀(Sv:List (L4×LJ)) (s:L5) (σ:St) (H:Hp) (x:V) (xs:List V) (v:L0) (us:List L0) (Q:VK),aP X Sv σ H s->bW x v->bp xs us->r x xs H Q->
  Lg (Lj X.prog X.w) X.A (call (.builtin id) (v::us)) (EP X Sv σ Q) X.xe s
theorem bp.one:∀{x:V} {us:List L0},bp [x] us->∃u,us=[u]/\bW x u:=λh=>by
 cases h with
 |cons r t=>cases t;exact⟨_,rfl,r⟩
theorem bp.zero:∀{us:List L0},bp [] us->us=[]
 |_, .nil=>rfl
theorem bp.dropLast {xs:List V} {us:List L0} (h:bp xs us):bp xs.dropLast us.dropLast:=by
 induction h with
 |nil=>exact .nil
 |cons r t ih=>
  cases t with
  |nil=>exact .nil
  |cons q t'=>exact .cons r ih
theorem bp.reverse {xs:List V} {us:List L0} (h:bp xs us):bp xs.reverse us.reverse:=by
 induction h with
 |nil=>exact .nil
 |cons r t ih=>rw[Oj,Oj];exact bp.append ih (.cons r .nil)
theorem bp.rep {xs:List V} {us:List L0} (h:bp xs us):∀k:Nat,bp (LD k xs).flatten (LD k us).flatten
 |0=> .nil
 |k+1=>by
  rw[Mn,Mn,MY,MY]
  exact bp.append h (bp.rep h k)
theorem x_ {α:Type} (l:List α):l.eraseIdx (l.length - 1)=l.dropLast:=by
 induction l with
 |nil=>rfl
 |cons a r ih=>
  cases r with
  |nil=>rfl
  |cons b r=>
   have e:(a::b::r).length - 1=((b::r).length - 1)+1:=by
    have h1:(a::b::r).length=r.length+2:=rfl
    have h2:(b::r).length=r.length+1:=rfl
    omega
   rw[e,List.eraseIdx_cons_succ,ih]
   all_goals rfl
theorem ug (its:List L0):∀(k:Nat) (U4:List L0),
  QK (λx1 x2=>x1++x2) U4.toArray (LD k its.toArray)=(U4++(LD k its).flatten).toArray
 |0,U4=>by simp
 |k+1,U4=>by
  have e:U4.toArray++its.toArray=(U4++its).toArray:=by simp
  have e2:(U4++its)++(LD k its).flatten=U4++(LD (k+1) its).flatten:=by
   rw[Mn,MY,Ol]
  rw[<-e2,<-ug its k (U4++its),<-e,Mn,RX]
section
variable {X:Cx} {Sv:List (L4×LJ)} {σ:St} {H:Hp} {s:L5} {l b:L4} {xs ys zs:List V}
theorem aP.lset {its its':List L0} {n:Nat} {f:Array L0->Array L0} {t':Nat} (I:aP X Sv σ H s) (hH:H l=some (.lst xs))
  (e:s.heap.get? l=some {cls:= .type "list",data:= .seq its.toArray n}) (hf:f its.toArray=its'.toArray) (hv:bp ys its') (hz:ys.length<=sizeLine):
  aP X Sv σ (ce H l (.lst ys)) {s with heap:=s.heap.update l (MH f),toks:=t'}:=by
 have q:=PySem.IsL.update e f
 rw[hf]at q
 refine I.write (x:=l) (e:=l) (by rw[hH];exact trivial) (.inl rfl) (λb' u hb hu=>(Qo s.heap (MH f) (MN hb)).trans hu) ⟨_,q⟩ ?_
 exact⟨hz,its',_,hv,q⟩
theorem aP.lnew {its:List L0} {t':Nat} (I:aP X Sv σ H s) (hv:bp ys its) (hz:ys.length<=sizeLine):
  aP X Sv σ (ce H s.heap.objs.size (.lst ys)) {s with heap:=s.heap.push {cls:= .type "list",data:= .seq its.toArray},toks:=t'}:=
 I.laid (λ_ _ q=>Lb _ q) (Lv _) ⟨hz,its,0,hv,LH _ rfl⟩
theorem aP.fresh (I:aP X Sv σ H s):H s.heap.objs.size=none:=I.hok.fresh (Lv _)
theorem aP.lstM (I:aP X Sv σ H s) (hH:H l=some (.lst xs)):xs.length<=sizeLine/\∃(its:List L0) (n:Nat),bp xs its/\xs.length=its.length/\s.heap.get? l=some {cls:= .type "list",data:= .seq its.toArray n}:=by
 obtain⟨z,its,n,r,e⟩:=I.hok l _ hH
 exact⟨z,its,n,r,r.length,e⟩
theorem we {n:Nat} (h:n<=sizeLine):Nj n=false:=by
 unfold Nj
 exact decide_eq_false (by omega)
end
section
variable {X:Cx}
def E1:V->List V->Hp->VK->Prop:=λx vs H Q=>∃l xs y,x= .ref l/\vs=[y]/\H l=some (.lst xs)/\xs.length<sizeLine/\Q .non (ce H l (.lst (xs++[y])))
theorem pX:Gh X "list.append" E1:=by
 intro Sv s σ H x vs v us Q I rx rv h
 obtain⟨l,xs,y,rfl,rfl,hH,hz,q⟩:=h
 cases rx
 obtain⟨u,rfl,ru⟩:=rv.one
 obtain⟨z,its,n,r,hl,e⟩:=I.lstM hH
 refine Nv F.slot_list_append ⟨_,e,rfl⟩ F.entry_list_append (F.args_list_append_2 _ _) (PySem.list_append l its.toArray n u (by rw[La];omega)) ⟨e,?_⟩
 refine⟨.non,_,I.lset (its':=its++[u]) hH e (by simp) (r.append (.cons ru .nil)) ?_,rfl,q⟩
 rw[LO,N8]
 omega
def E2:V->List V->Hp->VK->Prop:=λx vs H Q=>∃l b xs zs,x= .ref l/\vs=[.ref b]/\H l=some (.lst xs)/\H b=some (.lst zs)/\xs.length+zs.length<=sizeLine/\Q .non (ce H l (.lst (xs++zs)))
theorem HC:Gh X "list.extend" E2:=by
 intro Sv s σ H x vs v us Q I rx rv h
 obtain⟨l,b,xs,zs,rfl,rfl,hH,hB,hz,q⟩:=h
 cases rx
 obtain⟨u,rfl,ru⟩:=rv.one
 cases ru
 obtain⟨z,its,n,r,hl,e⟩:=I.lstM hH
 obtain⟨z2,Vb,n2,r2,WY,e2⟩:=I.lstM hB
 have hsz:its.toArray.size+Vb.toArray.size<=sizeLine:=by rw[La,La];omega
 have Xy:¬(!its.toArray.isEmpty&&Nj (its.toArray.size+Vb.toArray.size))=true:=by
  rw[we hsz,Qw]
  exact LA
 refine Nv F.slot_list_extend ⟨_,e,rfl⟩ F.entry_list_extend (F.args_list_extend_2 _ _)
  (AutoSeq1.list_extend_list_list_0 l its.toArray n b Vb.toArray n2 Xy (by rw[La];omega) (by omega)) ⟨e,e2,?_⟩
 refine⟨.non,_,I.lset (its':=its++Vb) hH e (by simp) (r.append r2) ?_,rfl,q⟩
 rw[LO]
 omega
def JU:V->List V->Hp->VK->Prop:=λx vs H Q=>∃l xs y,x= .ref l/\vs=[]/\H l=some (.lst xs)/\xs[xs.length - 1]? =some y/\Q y (ce H l (.lst xs.dropLast))
theorem BU:Gh X "list.pop" JU:=by
 intro Sv s σ H x vs v us Q I rx rv h
 obtain⟨l,xs,y,rfl,rfl,hH,hy,q⟩:=h
 cases rx
 have a1j:=rv.zero
 subst a1j
 obtain⟨z,its,n,r,hl,e⟩:=I.lstM hH
 obtain⟨u,hu,ru⟩:=r.get hy
 have a1R:its.toArray[its.toArray.size - 1]? =some u:=by
  show its.toArray[its.length - 1]? =some u
  rw[<-Qx,<-hl]
  exact hu
 refine Nv F.slot_list_pop ⟨_,e,rfl⟩ F.entry_list_pop (F.args_list_pop_1 _) (MeetsSeq.list_pop_last l its.toArray n u a1R (by rw[La];omega)) ⟨e,?_⟩
 refine⟨y,_,I.lset (its':=its.dropLast) hH e ?_ r.dropLast ?_,ru,q⟩
 ·show its.toArray.eraseIdxIfInBounds (its.toArray.size - 1)=its.dropLast.toArray
  rw[La,List.eraseIdxIfInBounds_toArray,x_]
 ·rw[List.length_dropLast]
  omega
def Io:R2:=λx y H Q=>∃l b xs zs,x= .ref l/\y= .ref b/\H l=some (.lst xs)/\H b=some (.lst zs)/\xs.length+zs.length<=sizeLine/\∀p,H p=none->Q (.ref p) (ce H p (.lst (xs++zs)))
theorem Gi:lG X (MS .Add) Io:=by
 intro Sv s σ H x y v u Q I rx ry h
 obtain⟨l,b,xs,zs,rfl,rfl,hH,hB,hz,q⟩:=h
 cases rx
 cases ry
 obtain⟨z,its,n,r,hl,e⟩:=I.lstM hH
 obtain⟨z2,Vb,n2,r2,WY,e2⟩:=I.lstM hB
 refine PySem.P.add_list e e2 ?_ (by rw[La,La];omega)
 have ea:its.toArray++Vb.toArray=(its++Vb).toArray:=by simp
 rw[ea]
 exact⟨.ref _,_,I.lnew (t':=s.toks) (r.append r2) (by rw[LO];omega),rfl,q _ I.fresh⟩
def Ip:R2:=λx y H Q=>∃l k xs,x= .ref l/\y= .int k/\H l=some (.lst xs)/\ -(2 ^63)<=k/\k<2 ^63/\xs.length*k.toNat<=sizeLine/\
 ∀p,H p=none->Q (.ref p) (ce H p (.lst (LD k.toNat xs).flatten))
theorem E3 {α:Type} (xs:List α) (k:Nat):(LD k xs).flatten.length=k*xs.length:=by
 induction k with
 |zero=>simp
 |succ k ih=>rw[Mn,MY,LO,ih,Nat.succ_mul,Nat.add_comm]
theorem Gj:lG X (MS .Mult) Ip:=by
 intro Sv s σ H x y v u Q I rx ry h
 obtain⟨l,k,xs,rfl,rfl,hH,h1,h2,hz,q⟩:=h
 cases rx
 obtain⟨t,rfl⟩:=ry
 obtain⟨z,its,n,r,hl,e⟩:=I.lstM hH
 have SW:its.toArray.size*k.toNat<=sizeLine:=by rw[La,<-hl];exact hz
 have a08:¬its.toArray.size*k.toNat>(2 ^63 - 1) / 8:=by
  have:(sizeLine:Nat)<=(2 ^63 - 1) / 8:=by decide
  omega
 have a09:¬(!Builtin.List.listFitsIndex k)=true:=by
  rw[fitsIndex_both h1 h2]
  exact LA
 have Xy:¬Nj (its.toArray.size*k.toNat)=true:=by
  rw[we SW]
  exact LA
 have a0a:QK (λx1 x2=>x1++x2) #[] (LD (if its.toArray.isEmpty=true then 0 else k.toNat) its.toArray)=(LD k.toNat its).flatten.toArray:=by
  have f0:∀m:Nat,QK (λx1 x2=>x1++x2) #[] (LD m its.toArray)=(LD m its).flatten.toArray:=λm=>by
   have:=ug its m []
   rw[Qe]at this
   exact this
  rw[f0]
  cases its with
  |nil=>simp
  |cons a r'=>rw[if_neg (by simp)]
 refine wpAny_binaryOp_repeat_ref (T:="list") (U:="int") (by decide) ⟨_,e,rfl⟩ (λs'=>RW s' k t) noFill_list_mul F.fills_int_mul F.slot_int_rmul repeat_list F.slot_int_index.lookup
  (Nv F.slot_int_rmul (RW s k t) F.entry_int_rmul (F.args_int_rmul_2 _ _) (int___rmul___int_list k t l its.toArray n)
   ⟨e,rfl,⟨_,e,rfl⟩,Nv F.slot_list_mul ⟨_,e,rfl⟩ F.entry_list_mul (F.args_list_mul_2 _ _) (AutoListH.list___mul___list_int_3 l its.toArray n k t a09 a08 Xy) ⟨e,?_⟩⟩)
 rw[a0a]
 exact⟨.ref _,_,I.lnew (t':=s.toks) (r.rep k.toNat) (by rw[E3,Nat.mul_comm];exact hz),rfl,q _ I.fresh⟩
end
section
variable {prog:Ll} {w:Ly} {A:LF} {E:L0->L5->Prop} {s:L5}
end
section
variable {X:Cx}
end
end L2
namespace L2
open PySem PySem.Spec PyProof.Rows
section
variable {κ:Type} [DecidableEq κ]
def kH (kvs:List (κ×V)) (k:κ):Option V:=(kvs.find? λkv=>decide (kv.1=k)).map (·.2)
def n5 (kvs:List (κ×V)) (k:κ) (v:V):List (κ×V):=
 if (kvs.any λkv=>decide (kv.1=k))=true then kvs.map (λkv=>if kv.1=k then (kv.1,v)else kv)else kvs++[(k,v)]
theorem r_ {p:κ×V} {r:List (κ×V)} {k:κ} (e:p.1=k):kH (p::r) k=some p.2:=by simp[kH,Nw,e]
theorem s9 {p:κ×V} {r:List (κ×V)} {k:κ} (e:¬p.1=k):kH (p::r) k=kH r k:=by simp[kH,Nw,e]
theorem wg (k:κ):∀kvs:List (κ×V),(kvs.any λkv=>decide (kv.1=k))=(kH kvs k).isSome
 |[]=>rfl
 |p::r=>by
  rw[MB]
  by_cases e:p.1=k
  ·simp only[r_ e,decide_eq_true e,PK,Option.isSome_some]
  ·rw[s9 e,decide_eq_false e,Pa];exact wg k r
theorem qB (kvs:List (κ×V)) (k:κ) (v:V):(n5 kvs k v).length<=kvs.length+1:=by
 unfold n5
 split
 ·rw[L7];omega
 ·rw[LO,Lu,O1];omega
theorem lx.isSome_eq {o:Option V} {u:Option L0} (r:lx o u):o.isSome=u.isSome:=by
 cases o with
 |none=>cases u with
  |none=>rfl
  |some _=>exact(show False from r).elim
 |some _=>cases u with
  |none=>exact(show False from r).elim
  |some _=>rfl
theorem lx.getD {o:Option V} {u:Option L0} {d:V} {d':L0} (r:lx o u) (rd:bW d d'):bW (o.getD d) (u.getD d'):=by
 cases o with
 |none=>cases u with
  |none=>exact rd
  |some _=>exact(show False from r).elim
 |some _=>cases u with
  |none=>exact(show False from r).elim
  |some _=>exact r
theorem KV.val {kvs:List (κ×V)} {vs:List (κ×L0)} (r:KV kvs vs) (k:κ):lx (kH kvs k) (Pq vs k):=by
 unfold KV at r
 induction r with
 |nil=>exact N2
 | @cons p q ps qs h t ih=>
  obtain⟨h1,h2⟩:=h
  by_cases e:p.1=k
  ·have e':q.1=k:=h1.symm.trans e
   have b:Pq (q::qs) k=some q.2:=by simp[Pq,Nw,e']
   rw[r_ e,b];exact h2
  ·have e':¬q.1=k:=λz=>e (h1.trans z)
   have b:Pq (q::qs) k=Pq qs k:=by simp[Pq,Nw,e']
   rw[s9 e,b];exact ih
theorem KV.any {kvs:List (κ×V)} {vs:List (κ×L0)} (r:KV kvs vs) (k:κ):(kvs.any λkv=>decide (kv.1=k))=vs.any λkv=>decide (kv.1=k):=by
 unfold KV at r
 induction r with
 |nil=>rfl
 |cons h t ih=>rw[MB,MB,ih,h.1]
theorem KV.repl {kvs:List (κ×V)} {vs:List (κ×L0)} (r:KV kvs vs) (k:κ) {y:V} {u:L0} (ry:bW y u):
  KV (kvs.map λkv=>if kv.1=k then (kv.1,y)else kv) (vs.map λkv=>if kv.1=k then (kv.1,u)else kv):=by
 unfold KV at r ⊢
 induction r with
 |nil=>exact .nil
 | @cons p q ps qs h t ih=>
  rw[Lf,Lf]
  refine .cons ?_ ih
  obtain⟨h1,h2⟩:=h
  by_cases e:p.1=k
  ·rw[if_pos e,if_pos (h1.symm.trans e)];exact⟨h1,ry⟩
  ·rw[if_neg e,if_neg (λz=>e (h1.trans z))];exact⟨h1,h2⟩
theorem KV.put {kvs:List (κ×V)} {vs:List (κ×L0)} (r:KV kvs vs) (k:κ) {y:V} {u:L0} (ry:bW y u):KV (n5 kvs k y) (stored vs k u):=by
 unfold n5 stored
 rw[r.any k]
 by_cases e:(vs.any λkv=>decide (kv.1=k))=true
 ·rw[if_pos e,if_pos e];exact r.repl k ry
 ·rw[if_neg e,if_neg e];exact Ss r ⟨rfl,ry⟩
theorem KV.keys {kvs:List (κ×V)} {vs:List (κ×L0)} (r:KV kvs vs):kvs.map (·.1)=vs.map (·.1):=by
 unfold KV at r
 induction r with
 |nil=>rfl
 |cons h t ih=>rw[Lf,Lf,ih,h.1]
theorem KV.length {kvs:List (κ×V)} {vs:List (κ×L0)} (r:KV kvs vs):kvs.length=vs.length:=P0 r
end
theorem wj {P:Ll} {w:Ly} {k:cJ} {u:L0} (r:bW (kV k) u):(dJ P w).is k u=true:=by
 cases k with
 |inl i=>obtain⟨t,e⟩:=(show ∃t,u=Nr i t from r);subst e;exact vX P w i t
 |inr x=>obtain⟨t,e⟩:=(show ∃t,u=OC x t from r);subst e;exact vY P w x t
theorem uh {P:Ll} {w:Ly}:∀{ks:List cJ} {us:List L0},bp (ks.map kV) us->ItemsAre (dJ P w) ks us
 |[],_,r=>by rw[MA]at r;cases r;exact .nil
 |k::ks,_,r=>by
  rw[Lf]at r
  cases r with
  |cons h t=>exact .cons (wj h) (uh t)
abbrev KT (H:Hp):List (List cJ×V)->List (List cJ×L4×L0)->Prop:=Paired λp q=>p.1=q.1/\H q.2.1=some (.tup (p.1.map kV))/\bW p.2 q.2.2
theorem KT.val {H:Hp} {kvs:List (List cJ×V)} {xs:List (List cJ×L4×L0)} (r:KT H kvs xs) (k:List cJ):lx (kH kvs k) ((Qf xs k).map (·.2)):=by
 induction r with
 |nil=>exact N2
 | @cons p q ps qs h t ih=>
  obtain⟨h1,_,h2⟩:=h
  by_cases e:p.1=k
  ·have e':q.1=k:=h1.symm.trans e
   have b:Qf (q::qs) k=some q.2:=by simp[Qf,Nw,e']
   rw[r_ e,b];exact h2
  ·have e':¬q.1=k:=λz=>e (h1.trans z)
   have b:Qf (q::qs) k=Qf qs k:=by simp[Qf,Nw,e']
   rw[s9 e,b];exact ih
theorem KT.repl {H:Hp} {kvs:List (List cJ×V)} {xs:List (List cJ×L4×L0)} (r:KT H kvs xs) (k:List cJ) {y:V} {u:L0} (ry:bW y u):
  KT H (kvs.map λkv=>if kv.1=k then (kv.1,y)else kv) (xs.map (putAt k u)):=by
 induction r with
 |nil=>exact .nil
 | @cons p q ps qs h t ih=>
  rw[Lf,Lf]
  refine .cons ?_ ih
  obtain⟨h1,h2,h3⟩:=h
  unfold putAt
  by_cases e:p.1=k
  ·rw[if_pos e,if_pos (h1.symm.trans e)];exact⟨h1,h2,ry⟩
  ·rw[if_neg e,if_neg (λz=>e (h1.trans z))];exact⟨h1,h2,h3⟩
theorem KT.put {H:Hp} {kvs:List (List cJ×V)} {xs:List (List cJ×L4×L0)} (r:KT H kvs xs) (k:List cJ) {b:L4} {y:V} {u:L0} (hb:H b=some (.tup (k.map kV))) (ry:bW y u):
  KT H (n5 kvs k y) (storedH xs k b u):=by
 have e:(kvs.any λkv=>decide (kv.1=k))=(Qf xs k).isSome:=by
  rw[wg,(r.val k).isSome_eq,Pg]
 unfold n5 storedH
 rw[e]
 by_cases q:(Qf xs k).isSome=true
 ·rw[if_pos q,if_pos q];exact r.repl k ry
 ·rw[if_neg q,if_neg q];exact Ss r ⟨rfl,hb,ry⟩
theorem KT.keeps {H H':Hp} {kvs:List (List cJ×V)} {xs:List (List cJ×L4×L0)} (r:KT H kvs xs) (ht:∀b ys,H b=some (.tup ys)->H' b=some (.tup ys)):KT H' kvs xs:=
 Paired.mapP r λ_ _ z=>⟨z.1,ht _ _ z.2.1,z.2.2⟩
section
variable {P:Ll} {w:Ly} {H:Hp} {h:Lr} {a:L4}
theorem Fo {u:HO} (ok:lF P w H h) (e:Rd H a u):cp P w H h a u:=e.ok ok
theorem ui {kvs:List (cJ×V)} (ok:lF P w H h) (e:Rd H a (.dK kvs)):kvs.length<=sizeLine/\(a==sysModules)=false/\∃vs,KV kvs vs/\h.DictOf (dJ P w) a vs:=
 show cp P w H h a (.dK kvs)from Fo ok e
theorem Fp {kvs:List (cJ×V)} (ok:lF P w H h) (e:H a=some (.dK kvs)):kvs.length<=sizeLine/\(a==sysModules)=false/\∃vs,KV kvs vs/\h.DictOf (dJ P w) a vs:=ui ok (.inl e)
theorem sd {ks:List cJ} (ok:lF P w H h) (e:H a=some (.tup (ks.map kV))):(Qa (dJ P w)).is h ks a:=by
 obtain⟨_,its,r,o,h1,h2,n,h3,_⟩:=(show cp P w H h a (.tup (ks.map kV))from ok a _ e)
 exact⟨o,its.toArray,n,h1,h2,h3,by simpa using uh r⟩
theorem wk {kvs:List (List cJ×V)} (ok:lF P w H h) (e:Rd H a (.dT kvs)):kvs.length<=sizeLine/\(a==sysModules)=false/\
  ∃xs,KT H kvs xs/\h.DictOfH (Qa (dJ P w)) a xs:=by
 obtain⟨z,y,xs,r,o,es,ep,h1,h2,h3,h4,h5⟩:=(show cp P w H h a (.dT kvs)from Fo ok e)
 refine⟨z,y,xs,r,o,es,ep,h1,h2,h3,h4,λx hx=> ?_,h5⟩
 have all:∀{l:List (List cJ×V)} {m:List (List cJ×L4×L0)},KT H l m->∀x∈m,(Qa (dJ P w)).is h x.1 x.2.1:=by
  intro l m q
  induction q with
  |nil=>intro x hx;exact nomatch hx
  | @cons p q ps qs hq t ih=>
   intro x hx
   rcases Li.mp hx with e|hx
   ·subst e
    exact sd ok (by rw[<-hq.1];exact hq.2.1)
   ·exact ih x hx
 exact all r x hx
theorem Iq {kvs:List (List cJ×V)} (ok:lF P w H h) (e:H a=some (.dT kvs)):kvs.length<=sizeLine/\(a==sysModules)=false/\
  ∃xs,KT H kvs xs/\h.DictOfH (Qa (dJ P w)) a xs:=wk ok (.inl e)
end
def oQ (H:Hp) (a:L4) (y:V) (r:Option V):Prop:=
 (∃kvs k,Rd H a (.dK kvs)/\y=kV k/\r=kH kvs k)\/∃kvs k b,Rd H a (.dT kvs)/\y= .ref b/\H b=some (.tup (k.map kV))/\r=kH kvs k
def y0 (H:Hp) (a:L4) (y v:V) (H':Hp):Prop:=
 (∃kvs k,H a=some (.dK kvs)/\y=kV k/\kvs.length<sizeLine/\H'=ce H a (.dK (n5 kvs k v)))\/
 ∃kvs k b,H a=some (.dT kvs)/\y= .ref b/\H b=some (.tup (k.map kV))/\kvs.length<sizeLine/\H'=ce H a (.dT (n5 kvs k v))
theorem oQ.k {H:Hp} {a:L4} {kvs:List (cJ×V)} {k:cJ} (e:H a=some (.dK kvs)):oQ H a (kV k) (kH kvs k):= .inl ⟨kvs,k, .inl e,rfl,rfl⟩
theorem oQ.t {H:Hp} {a b:L4} {kvs:List (List cJ×V)} {k:List cJ} (e:H a=some (.dT kvs)) (eb:H b=some (.tup (k.map kV))):oQ H a (.ref b) (kH kvs k):= .inr ⟨kvs,k,b, .inl e,rfl,eb,rfl⟩
theorem y0.k {H:Hp} {a:L4} {kvs:List (cJ×V)} {k:cJ} {v:V} (e:H a=some (.dK kvs)) (hl:kvs.length<sizeLine):y0 H a (kV k) v (ce H a (.dK (n5 kvs k v))):= .inl ⟨kvs,k,e,rfl,hl,rfl⟩
theorem y0.t {H:Hp} {a b:L4} {kvs:List (List cJ×V)} {k:List cJ} {v:V} (e:H a=some (.dT kvs)) (eb:H b=some (.tup (k.map kV))) (hl:kvs.length<sizeLine):
  y0 H a (.ref b) v (ce H a (.dT (n5 kvs k v))):= .inr ⟨kvs,k,b,e,rfl,eb,hl,rfl⟩
section
variable {X:Cx} {Sv:List (L4×LJ)} {σ:St} {H:Hp} {s:L5} {a:L4} {y v:V} {u r:L0} {o:Option V} {A:LF} {E:L0->L5->Prop}
theorem Al {Q:L0->L5->Prop} (hu:A.units+1<Nf) (I:aP X Sv σ H s) (g:oQ H a y (some v)) (ry:bW y u) (h:∀w' s',aP X Sv σ H s'->bW v w'->Q w' s'):
  Lg (Lj X.prog X.w) A (Oe (.ref a) u) Q E s:=by
 rcases g with ⟨kvs,k,e,ey,l⟩|⟨kvs,k,b,e,ey,eb,l⟩
 ·subst ey
  obtain⟨z,hd,vs,Vi,dd⟩:=ui I.hok e
  obtain⟨w',hw,WX⟩:=lx.some_of (v:=v) (o:=Pq vs k) (by rw[l];exact Vi.val k)
  exact wpAny_getItem_of (wj ry) dd.mapOf hw (h w' _ (I.tok _) WX)
 ·subst ey
  cases (show u=LG b from ry)
  obtain⟨z,hd,xs,Vi,dd⟩:=wk I.hok e
  obtain⟨w',hw,WX⟩:=lx.some_of (v:=v) (o:=(Qf xs k).map (·.2)) (by rw[l];exact Vi.val k)
  obtain⟨p,hp,Y5⟩:=Option.map_eq_some_iff.mp hw
  refine wpAny_getItem_heap (Ob hu) (sd I.hok eb) dd hp ?_
  rw[Y5]
  exact h w' _ (I.tok _) WX
theorem JV {Q:L0->L5->Prop} (hu:A.units+1<Nf) (I:aP X Sv σ H s) (g:oQ H a y o) (ry:bW y u) (h:∀s',aP X Sv σ H s'->Q (.bool o.isSome) s'):
  Lg (Lj X.prog X.w) A (Mv .In u (.ref a)) Q E s:=by
 rcases g with ⟨kvs,k,e,ey,l⟩|⟨kvs,k,b,e,ey,eb,l⟩
 ·subst ey
  obtain⟨z,hd,vs,Vi,dd⟩:=ui I.hok e
  refine wpAny_in_of (wj ry) hd dd.mapOf ?_
  rw[<-(Vi.val k).isSome_eq,<-l]
  exact h _ (I.tok _)
 ·subst ey
  cases (show u=LG b from ry)
  obtain⟨z,hd,xs,Vi,dd⟩:=wk I.hok e
  refine wpAny_in_heap (Ob hu) (sd I.hok eb) hd dd ?_
  have q:=(Vi.val k).isSome_eq
  rw[Pg]at q
  rw[<-q,<-l]
  exact h _ (I.tok _)
theorem E4 {Q:L0->L5->Prop} (hu:A.units+1<Nf) (I:aP X Sv σ H s) (g:oQ H a y o) (ry:bW y u) (h:∀s',aP X Sv σ H s'->Q (.bool (!o.isSome)) s'):
  Lg (Lj X.prog X.w) A (Mv .NotIn u (.ref a)) Q E s:=by
 rcases g with ⟨kvs,k,e,ey,l⟩|⟨kvs,k,b,e,ey,eb,l⟩
 ·subst ey
  obtain⟨z,hd,vs,Vi,dd⟩:=ui I.hok e
  refine wpAny_notIn_of (wj ry) hd dd.mapOf ?_
  rw[<-(Vi.val k).isSome_eq,<-l]
  exact h _ (I.tok _)
 ·subst ey
  cases (show u=LG b from ry)
  obtain⟨z,hd,xs,Vi,dd⟩:=wk I.hok e
  refine wpAny_notIn_heap (Ob hu) (sd I.hok eb) hd dd ?_
  have q:=(Vi.val k).isSome_eq
  rw[Pg]at q
  rw[<-q,<-l]
  exact h _ (I.tok _)
theorem ze {h':Lr} {t':Nat} {ob:HO} (I:aP X Sv σ H s) (mu:HN (H a)) (hs:Py a s.heap h') (he:∃q,h'.get? a=some q) (new:cp X.prog X.w (ce H a ob) h' a ob):
  aP X Sv σ (ce H a ob) {s with heap:=h',toks:=t'}:=
 I.write (x:=a) (e:=a) mu (.inl rfl) (λb q hb z=>(hs.2 b hb).trans z) he new
theorem Gk {P:Ll} {w:Ly} {H':Hp} {h':Lr} {kvs:List (cJ×V)} {vs:List (cJ×L0)} (z:kvs.length<=sizeLine) (hd:(a==sysModules)=false) (Vi:KV kvs vs) (dd:h'.DictOf (dJ P w) a vs):
  cp P w H' h' a (.dK kvs):=⟨z,hd,vs,Vi,dd⟩
theorem Am {H':Hp} {Q:Unit->L5->Prop} (hu:A.units+1<Nf) (I:aP X Sv σ H s) (g:y0 H a y v H') (ry:bW y u) (rv:bW v r) (h:∀s',aP X Sv σ H' s'->Q () s'):
  Lg (Lj X.prog X.w) A (S6 (.ref a) u r) Q E s:=by
 rcases g with ⟨kvs,k,e,ey,l,eH⟩|⟨kvs,k,b,e,ey,eb,l,eH⟩
 ·subst ey eH
  obtain⟨z,hd,vs,Vi,dd⟩:=Fp I.hok e
  have hz:vs.length<=sizeLine:=by rw[<-Vi.length];exact z
  have hl:(n5 kvs k v).length<=sizeLine:=by have:=qB kvs k v;omega
  refine wpAny_setItem_pairs (hsz:=hz) (wj ry) dd λh' ZD hs=>h _ ?_
  have he:∃q,h'.get? a=some q:=let ⟨q,_,_,hq,_⟩:=ZD;⟨q,hq⟩
  exact ze I (by rw[e];exact N2) hs he (Gk hl hd (Vi.put k rv) ZD)
 ·subst ey eH
  cases (show u=LG b from ry)
  obtain⟨z,hd,xs,Vi,dd⟩:=Iq I.hok e
  have hz:xs.length<=sizeLine:=by rw[<-P0 Vi];exact z
  have hl:(n5 kvs k v).length<=sizeLine:=by have:=qB kvs k v;omega
  refine wpAny_setItem_heap (hsz:=hz) (Ob hu) (sd I.hok eb) dd λh' ZD hs=>h _ ?_
  obtain⟨q,es,ep,hq,h2,h3,h4,_,h5⟩:=ZD
  refine ze I (by rw[e];exact N2) hs ⟨q,hq⟩ ⟨hl,hd,_,(Vi.put k eb rv).keeps λc ys ec=> ?_,q,es,ep,hq,h2,h3,h4,h5⟩
  rw[az (HM ec e (λz=>nomatch z))]
  exact ec
end
section
variable {X:Cx} {Sv:List (L4×LJ)} {σ:St} {H:Hp} {s:L5} {a:L4} {kvs:List (cJ×V)} {k:cJ} {u:L0} {A:LF} {E:L0->L5->Prop}
theorem Ir {Q:L0->L5->Prop} (I:aP X Sv σ H s) (e:Rd H a (.dK kvs)) (h:∀t s',aP X Sv σ H s'->Q (.int kvs.length t) s'):Lg (Lj X.prog X.w) A (call (.builtin "len") [.ref a]) Q E s:=by
 obtain⟨z,hd,vs,Vi,dd⟩:=ui I.hok e
 refine call_len_dict hd dd (by rw[<-Vi.length];rw[Ms]at z;omega) ?_
 rw[<-Vi.length]
 exact h _ _ (I.tok _)
end
def Iu (i:Lc):Prop:=∀ov iv,Qm i false ov iv=operate [ov,iv] (Oe ov iv)
theorem E5 {prog:Ll} {w:Ly} {A:LF} {E:L0->L5->Prop} {s:L5} {env:MM} {value Ul:Lc} {pos:LR} {T id:String} {Q:L0->L5->Prop}
  (hl:typeLookup (.type T) "__getitem__"=pure (some (.builtin id))) (hs:Iu Ul)
  (h:Lg (Lj prog w) A (Ls value env) (λo s₁=>Lg (Lj prog w) A (Ls Ul env) (λi s₂=>s₂.TypeIs o T/\Lg (Lj prog w) A (Oe o i) Q E s₂) E s₁) E s):
  Lg (Lj prog w) A (Ls (.Subscript value Ul pos) env) Q E s:=by
 refine QJ (MR h (λo s₁ h₁=>MR h₁ (λi s₂ h₂=> ?_) λ_ _ x=>x) λ_ _ x=>x)
 obtain⟨hT,h₂⟩:=h₂
 unfold P9
 refine L6 ?_
 rw[getitemInPython_of_ne hT.not_modules]
 refine L6 (wpAny_specialOf hT hl ?_)
 have Uk:Lg (Lj prog w) A (Qm Ul false o i) (λr s₃=>Lg (Lj prog w) A (letTemporaryGo value o r>>=λ_=>pure r) Q E s₃) E s₂:=by
  rw[hs o i]
  exact wpAny_operating (MR h₂ (λr s₃ h₃=>L6 (wpAny_letTemporaryGo (Le h₃))) λ_ _ x=>x)
 first
  |exact Le (L6 Uk)
  |exact L6 (Le (L6 Uk))
  |exact L6 Uk
theorem wl {X:Cx} {Sv:List (L4×LJ)} {σ:St} {H:Hp} {s:L5} {a:L4} {y:V} {o:Option V} (I:aP X Sv σ H s) (g:oQ H a y o):s.TypeIs (.ref a) "dict":=by
 rcases g with ⟨kvs,k,e,_,_⟩|⟨kvs,k,b,e,_,_,_⟩
 ·obtain⟨_,_,vs,_,dd⟩:=ui I.hok e
  exact dd.typeIs
 ·obtain⟨_,_,xs,_,dd⟩:=wk I.hok e
  exact dd.typeIs
def Iv (td ty:TE):TE:=λσ H Q=>td σ H λx H1=>ty σ H1 λy H2=>∃a v,x= .ref a/\oQ H2 a y (some v)/\Q v H2
def Gm (ty td:TE):TE:=λσ H Q=>ty σ H λy H1=>td σ H1 λx H2=>∃a o,x= .ref a/\oQ H2 a y o/\Q (.bl o.isSome) H2
def uX (ty td:TE):TE:=λσ H Q=>ty σ H λy H1=>td σ H1 λx H2=>∃a o,x= .ref a/\oQ H2 a y o/\Q (.bl (!o.isSome)) H2
def Iw (td ty tv:TE):TS:=λD σ H=>tv σ H λv H1=>td σ H1 λx H2=>ty σ H2 λy H3=>∃a H4,x= .ref a/\y0 H3 a y v H4/\D.nx σ H4
section
variable {X:Cx} {o i e value:Lc} {pos SY a03:LR} {td ty tv:TE}
theorem E6 (hu:X.A.units+1<Nf) (ho:PE X o td) (hi:PE X i ty) (hs:Iu i):PE X (.Subscript o i pos) (Iv td ty):=by
 intro Sv s σ H Q I h
 refine E5 PySem.F.slot_dict_getitem.lookup hs (cY (ho Sv s σ H _ I h) λu s1 ⟨x,H1,I1,rx,q1⟩=>cY (hi Sv s1 σ H1 _ I1 q1) λiv s2 z_=> ?_)
 obtain⟨y,H2,I2,ry,a,v,ex,g,q2⟩:=z_
 subst ex
 obtain rfl:u=LG a:=rx
 exact⟨wl I2 g,Al hu I2 g ry λw' s3 I3 WX=>⟨v,H2,I3,WX,q2⟩⟩
theorem BV (hu:X.A.units+1<Nf) (hi:PE X i ty) (ho:PE X o td):PC X .In i o (Gm ty td):=by
 intro Sv s σ H Q I h
 refine cY (hi Sv s σ H _ I h) λiv s1 ⟨y,H1,I1,ry,q1⟩=>cY (ho Sv s1 σ H1 _ I1 q1) λu s2 z_=> ?_
 obtain⟨x,H2,I2,rx,a,ov,ex,g,q2⟩:=z_
 subst ex
 obtain rfl:u=LG a:=rx
 exact JV hu I2 g ry λs3 I3=>⟨.bl ov.isSome,H2,I3,rfl,q2⟩
theorem uj (hu:X.A.units+1<Nf) (hi:PE X i ty) (ho:PE X o td):PC X .NotIn i o (uX ty td):=by
 intro Sv s σ H Q I h
 refine cY (hi Sv s σ H _ I h) λiv s1 ⟨y,H1,I1,ry,q1⟩=>cY (ho Sv s1 σ H1 _ I1 q1) λu s2 z_=> ?_
 obtain⟨x,H2,I2,rx,a,ov,ex,g,q2⟩:=z_
 subst ex
 obtain rfl:u=LG a:=rx
 exact E4 hu I2 g ry λs3 I3=>⟨.bl (!ov.isSome),H2,I3,rfl,q2⟩
theorem E7 (hu:X.A.units+1<Nf) (ho:PE X o td) (hi:PE X i ty) (hv:PE X value tv) (hs:M6 value (some (.Subscript o i SY)) pos.line X.env=pure false):
  PS X (.Assign [.Subscript o i SY] value pos) (Iw td ty tv):=by
 intro Sv s σ H D I h
 refine wpAny_Assign_Subscript (cY (hv Sv s σ H _ I h) λr s1 ⟨v,H1,I1,rv,q1⟩=>cY (ho Sv s1 σ H1 _ I1 q1) λu s2 ⟨x,H2,I2,rx,q2⟩=>cY (hi Sv s2 σ H2 _ I2 q2) λiv s3 z_=> ?_) hs
 obtain⟨y,H3,I3,ry,a,H4,ex,g,q3⟩:=z_
 subst ex
 obtain rfl:u=LG a:=rx
 exact Am hu I3 g ry rv λs4 I4=>⟨σ,H4,I4,q3⟩
end
section
variable {X:Cx} {pos:LR}
end
section
variable {X:Cx} {Sv:List (L4×LJ)} {σ:St} {H:Hp} {s:L5} {a:L4} {y d:V} {u r:L0} {o:Option V} {A:LF} {E:L0->L5->Prop}
end
section
variable {X:Cx} {o e f:Lc} {SQ SK:LR} {td ty tx:TE}
end
section
variable {X:Cx} {Sv:List (L4×LJ)} {σ:St} {H:Hp} {s:L5} {a:L4} {kvs:List (cJ×V)} {A:LF} {E:L0->L5->Prop}
end
section
variable {X:Cx} {Sv:List (L4×LJ)} {σ:St} {H:Hp} {s:L5} {a:L4} {y:V} {u:L0} {A:LF} {E:L0->L5->Prop}
end
end L2
namespace Att
open PySem PySem.W PySem.Calls PyProof.Rows
theorem qY {P:Params} {h:Lr}:∀(ns:List Int) (vs:List L0),WellAll P h vs (ns.map WData.int)->Pp vs ns:=by
 intro ns
 induction ns with
 |nil=>
  intro vs w
  rw[MA]at w
  cases w
  exact .nil
 |cons n ns ih=>
  intro vs w
  rw[Lf]at w
  cases w with
  |cons a b=>
   cases a
   exact .cons _ _ (ih _ b)
theorem An {l:OpenLaw} {n:Nat} (hn:l.most=some n) {P:Params} {h:Lr} {args:List WData} {Yh:List L0}
  (XT:l.row.toRowW.claim.pre args=true) (a0b:WellAll P h Yh args):
  ∃a vs ns,Yh=[LG a]/\args=[WData.list (ns.map WData.int)]/\h.get? a=some {cls:= .type "list",data:= .seq vs.toArray}/\Pp vs ns/\ns.length<=n:=by
 have a1S:WShape.hasAll [] args [.list .int]=true:=(pre_splitW XT).1
 have hc:l.pre.holds [] {args:=args}=true:=(pre_splitW XT).2
 obtain⟨d,r,rfl,h1,h2⟩:=hasAllW_cons a1S
 obtain rfl:=hasAllW_nil h2
 obtain⟨xs,rfl,h3⟩:=hasW_list h1
 obtain⟨ns,rfl⟩:=items_int h3
 have SW:ns.length<=n:=by
  unfold OpenLaw.pre at hc
  have h4:(WTm.not (.lt (.lit (.int (n:Int))) (.len (.arg 0)))).holds [] {args:=[.list (ns.map .int)]}=true:=by
   have h4:=(holds_andW hc).1
   rw[hn]at h4
   exact h4
  have h5:=condW_of h4 (w_not (w_lt w_lit (w_len_list (w_arg rfl))))
  rw[L7]at h5
  refine PL λq=> ?_
  have q':(n:Int)<((ns.length:Nat):Int):=by omega
  first
   |(rw[decide_eq_true q']at h5;exact absurd h5 (by decide))
   |(simp at h5;omega)
 cases a0b with
 |cons w1 w2=>
  cases w2
  cases w1 with
  |list ho a0c=>exact⟨_,_,ns,rfl,rfl,ho,qY ns _ a0c,SW⟩
theorem Ao (l:OpenLaw) (args:List WData):l.row.toRowW.claim.post args (.bool true) args=true:=
 postW_of (r:=l.row.toRowW) (X:=(true==true))
  (show WShape.has [] (.bool true) .bool=true by first|rfl|decide|simp[WShape.has,WShape.arms,WShape.armsAll])
  (show (WTm.eq .res (.lit (.bool true))).value [] {args:=args,res:=some (.bool true),after:=args}=some (.bool (true==true))from w_eq_bool (w_res rfl) w_lit) rfl
theorem attach_call {l:OpenLaw} {n:Nat} {q:Ll} {VY:List L3} {XP:(L3->Option L0)->Lr->Prop} {YP:Ly->Lr->Prop} {d:DefRec}
  (hn:l.most=some n) (Z3:d.params.defaults=[])
  (call:∀(w:Ly) (s₀ s₁:L5) (mg mb:L3->Option L0) (fa:L4) (o:LJ) (pm cd U1:L0) (a:L4) (vs:List L0) (ns:List Int),
   Ground q VY [] XP w s₀ mg mb s₁.heap->YP w s₁.heap->
   s₁.heap.get? fa=some o->o.data= .func (docDef d.name d.params d.body d.scope pm cd U1)->s₁.heap.CodeRec cd d.name->mg d.name=some (.ref fa)->
   s₁.heap.get? a=some {cls:= .type "list",data:= .seq vs.toArray}->Pp vs ns->ns.length<=n->s₁.gens= #[]->
   Od (Lj l.prog w) Pt (.call (.ref fa) ⟨[.ref a],[]⟩) (λr s'=>r= .ok (.ret (.bool true))/\OldK s₁.heap s'.heap/\s'.os=s₁.os/\Oc s'.gens) s₁):
  WalkO q VY XP YP l.row.toRowW d [] (λf vs=>RY f vs):=by
 intro w s₀ s₁ mg mb G Y fa o pm cd U1 dV kV ho hd U3 hD a0d hg args Yh as XT a1T a1U a0b a3W
 obtain rfl:dV= .none:=Dflts.none hD Z3
 obtain rfl:kV= .none:=Dflts.noKw hD
 obtain⟨a,vs,ns,rfl,rfl,Yi,Xz,SW⟩:=An hn XT a0b
 refine enter_call (O7 (call w s₀ s₁ mg mb fa o pm cd U1 a vs ns G Y ho (fd_plain hd) U3 a0d Yi Xz SW hg) λr s' hq=> ?_)
 obtain⟨rfl,h2,h3,h4⟩:=hq
 exact⟨.inl ⟨.bool true, .bool true,[],rfl,λ_=>rfl, .bool true,Ao l _,λ_=>⟨Ph,λ_ hm=>(nomatch hm)⟩⟩,h2,h3,h4⟩
section
variable {prog:Ll} {w:Ly} {A:LF} {E:L0->L5->Prop} {s:L5} {K:Frag}
end
end Att
namespace L2
open PySem PySem.Spec PyProof.Rows
theorem kb:∀{vs:List L0} {ns:List Int},Pp vs ns->bp (ns.map V.int) vs
 |_,_, .nil=> .nil
 |_,_, .cons n t h=> .cons ⟨t,rfl⟩ (kb h)
def Gn (H:Hp):Prop:=∀b,H b=none\/∃o xs,H b=some (.frz o (.lst xs))
theorem BW {P:Ll} {w:Ly} {K:K_} {mg mb:L3->Option L0} {CX:xS} {k:Nat} {fa a:L4} {fd:Mq} {x:L3} {sp:Sp} {s₁:L5} {vs:List L0} {ns:List Int}
  (KX:K.In s₁.heap) (WK:s₁.heap.Ns Ld mg) (hb:s₁.heap.Ns RT mb) (a1V:∀x:L3,x≠"__name__"->mb x=LS x) (a0e:s₁.heap.NoLimit) (hg:s₁.gens= #[])
  (ha:s₁.heap.get? a=some {cls:= .type "list",data:= .seq vs.toArray}) (hi:Pp vs ns) (hl:ns.length<=sizeLine) (hr:c_ k Pt)
  (F:∀base:Lr,K.In base->base.Ns Ld mg->fN P w K mg base CX k fa fd [x] sp) (Z4:∀(s:L5) (u:L0),Qv s fd ⟨[u],[]⟩ [(x,u)])
  (XM:∀H:Hp,Gn H->dC K H a (ns.map V.int)->sp [.ref a] H (λv _=>v= .bl true) λ_ _ _=>False)
  (a0f:∀H e s',CX [] H s₁ (λ_ _ _=>False) e s'->False):
  Od (Lj P w) Pt (.call (.ref fa) ⟨[.ref a],[]⟩) (λr s'=>r= .ok (.ret (.bool true))/\OldK s₁.heap s'.heap/\s'.os=s₁.os/\Oc s'.gens) s₁:=by
 have rv:=kb hi
 have a0g:=hi.length
 have Z5:∀H:Hp,Gn H->dC K H a (ns.map V.int)->lF P w H s₁.heap->(∀b,H b≠none->b=a)->(H a≠none->K.lookup a=none)->
   Od (Lj P w) Pt (.call (.ref fa) ⟨[.ref a],[]⟩) (λr s'=>r= .ok (.ret (.bool true))/\OldK s₁.heap s'.heap/\s'.os=s₁.os/\Oc s'.gens) s₁:=by
  intro H hO hS hok hA hK
  have WZ:∀{b:L4} {o:LJ},s₁.heap.get? b=some o->H b=none->(uQ s₁.heap H).get? b=some o:=λe n=>Bm e n
  have YZ:∀{b:L4} {o:LJ} {es:Array DictEntry} {ep:Nat},s₁.heap.get? b=some o->o.data= .dict es ep->H b=none:=λ{b o es ep} e d=>by
   cases q:H b with
   |none=>rfl
   |some u=>
    have e':b=a:=hA b (by rw[q];simp)
    subst e'
    rw[ha]at e;cases e
    have d':Sl vs.toArray _=Data.dict es ep:=d
    cases d'
  have ZE:∀{b:L4} {m:L3->Option L0},s₁.heap.Ns b m->(uQ s₁.heap H).Ns b m:=λ{b m} ⟨o,es,ep,e,d,r⟩=>⟨o,es,ep,WZ e (YZ e d),d,r⟩
  have a1k:K.In (uQ s₁.heap H):=λb o e=>WZ (KX b o e) (by
   cases q:H b with
   |none=>rfl
   |some u=>
    have e':b=a:=hA b (by rw[q];simp)
    subst e'
    rw[hK (by rw[q];simp)]at e;cases e)
  have hM:Mod K mg (uQ s₁.heap H):=⟨a1k,ZE WK,⟨mb,ZE hb,a1V⟩,let ⟨mc,h1,h2⟩:=a0e;⟨mc,ZE h1,h2⟩⟩
  have e0:xT P w K mg (uQ s₁.heap H) Pt [] s₁ H:=⟨rfl,hM,λb o e=>DK e,Pz (A6 _ _),trivial,λb hb=>absurd (show b∈([]:List L4)from hb) (by simp),hok, .of_eq hg⟩
  refine O7 ((F _ a1k (ZE WK)).run Pt [] s₁ H ⟨[.ref a],[]⟩ [.ref a] [.ref a] _ _ hr e0 (Z4 s₁ (.ref a)) (.cons rfl .nil) (XM H hO hS)) λr s' h=> ?_
  cases r with
  |error e=>exact(a0f H e s' h).elim
  |ok fl=>
   cases fl with
   |next=>exact MG h
   |brk=>exact MG h
   |cont=>exact MG h
   |ret u=>
    obtain⟨v,H',os,bare,un,a0h,r',q⟩:=h
    have q':v= .bl true:=q
    subst q'
    obtain rfl:u=QE true:=r'
    refine⟨rfl,OldK.of_keep λb o e=> ?_,os,bare⟩
    cases q:H b with
    |none=>exact un.keep b o e q (by intro z;exact absurd (show b∈([]:List L4)from z) (by simp)) (by simp)
    |some u=>
     rcases hO b with z|⟨ob,xs,z⟩
     ·rw[q]at z;cases z
     ·have z2:=un.frzs b ob _ z
      obtain⟨e1,_⟩:=hok b _ z
      obtain⟨e2,_⟩:=a0h b _ z2
      rw[e]at e1;cases e1
      exact e2
 cases hk:K.lookup a with
 |some o=>
  have e:=KX a o hk
  rw[ha]at e
  cases e
  refine Z5 (λ_=>none) (λ_=> .inl rfl) (.inr ⟨_,vs.toArray,_,hk,rfl,rfl,rfl,by rw[La,a0g];exact hl,by simpa using rv⟩) (λb u z=>by have z':(none:Option HO)=some u:=z;cases z') (λb z=>absurd rfl z) λz=>absurd rfl z
 |none=>
  refine Z5 (λb=>if b=a then some (.frz {cls:= .type "list",data:= .seq vs.toArray} (.lst (ns.map V.int)))else none) (λb=> ?_) (.inl (.inr ⟨{cls:= .type "list",data:= .seq vs.toArray},if_pos rfl⟩)) (λb u z=> ?_) (λb z=> ?_) λ_=>hk
  ·by_cases hb:b=a
   ·exact .inr ⟨_,_,if_pos hb⟩
   ·exact .inl (if_neg hb)
  ·by_cases hb:b=a
   ·have z':=(if_pos hb).symm.trans z
    cases z'
    subst hb
    exact⟨ha,by rw[L7];exact hl,vs,_,rv,ha⟩
   ·have z':=(if_neg hb).symm.trans z
    cases z'
  ·by_cases hb:b=a
   ·exact hb
   ·exact absurd (if_neg hb) z
end L2
namespace L2
open PySem PySem.Spec PyProof.Rows
theorem E8 {l:Qg} {n k:Nat} {q:Ll} {VY:List L3} {XP:(L3->Option L0)->Lr->Prop} {YP:Ly->Lr->Prop} {d:DefRec} {K:Params->K_} {CX:Ly->xS} {sp:Ly->Sp} {x:L3}
  (hn:l.most=some n) (Ye:n<=sizeLine) (Z3:d.params.defaults=[]) (hr:c_ k Pt)
  (hY:∀(w:Ly) (h:Lr),YP w h->(K w.params).In h)
  (F:∀(w:Ly) (mg:L3->Option L0) (fa:L4) (h:Lr),(K w.params).In h->h.Ns Ld mg->mg d.name=some (.ref fa)->
   ∃fd:Mq,(∀(s:L5) (u:L0),Qv s fd ⟨[u],[]⟩ [(x,u)])/\
    ∀base:Lr,(K w.params).In base->base.Ns Ld mg->fN l.prog w (K w.params) mg base (CX w) k fa fd [x] (sp w))
  (XM:∀(w:Ly) (H:Hp) (a:L4) (ns:List Int),ns.length<=n->Gn H->dC (K w.params) H a (ns.map V.int)->sp w [.ref a] H (λv _=>v= .bl true) λ_ _ _=>False)
  (a0f:∀(w:Ly) (H:Hp) (s:L5) (e:L0) (s':L5),CX w [] H s (λ_ _ _=>False) e s'->False):
  Sf q VY XP YP l.row.toRowW d [] (λf vs=>RY f vs):=by
 refine Att.attach_call hn Z3 λw s₀ s₁ mg mb fa o pm cd U1 a vs ns G Y ho hd U3 a0d Yi Xz SW hg=> ?_
 have KX:=hY w _ Y
 obtain⟨fd,hb,hF⟩:=F w mg fa _ KX G.T.g a0d
 exact BW KX G.T.g G.T.b G.T.builtins G.T.nolimit hg Yi Xz (LP SW Ye) hr hF hb (λH hO hS=>XM w H a ns SW hO hS) λH e s'=>a0f w H s₁ e s'
end L2
namespace L2
open PySem PySem.Spec PyProof.Rows
def cS (s:Lw) (j:Nat):Lw:=match s with
 | .ClassDef _ _ _ body _ _ _ _ _ _ _=>body.getD j (.Pass ⟨0,0,0,0⟩)
 |_=> .Pass ⟨0,0,0,0⟩
def dw (s:Lw):Arguments:=match s with
 | .FunctionDef _ a _ _ _ _ _ _ _ _=>a
 |_=>{posonlyargs:=[],args:=[],vararg:=none,kwonlyargs:=[],kw_defaults:=[],kwarg:=none,defaults:=[]}
def bK (s:Lw):List Lw:=match s with
 | .FunctionDef _ _ b _ _ _ _ _ _ _=>b
 |_=>[]
def al (s:Lw):MZ:=match s with
 | .FunctionDef _ _ _ _ _ _ sc _ _ _=>sc
 |_=>{kind:= .function,names:=[],isGenerator:=false,isCoroutine:=false}
abbrev Kh:xS:=λ_ _ _ _ _ _=>False
structure zf (K:K_) (x qual:L3) (st:Lw) (f:L4) (fd:Mq):Prop where
 ex:∃(oc:L0) (od:Option L4) (kV U1 pm:L0) (an:Option L4) (SE ct:L0) (VN:Array (Option L0)),
  fd=M3 x qual (dw st) (bK st) (al st) .none kV U1 pm an SE ct/\K.lookup f=some ⟨oc,od, .func fd,VN⟩/\Nh K SE qual=true
 kp:LX K (.ref f)=true
section
variable {P:Ll} {w:Ly} {K:K_} {mg:L3->Option L0} {base:Lr}
theorem zf.ok {x qual:L3} {st:Lw} {f:L4} {fd:Mq} {N ps:List L3} {k:Nat} {sp:Sp} (F:zf K x qual st f fd) (S:aC N ps (al st)) (len:∀vs H Q E,sp vs H Q E->vs.length=ps.length)
  (T2:∀(SE:L0) (A:LF) (outer:List MM) (s:L5) (H:Hp) (vs:List V) (Q:VK) (E:XK),c_ k (A.deeper (MO qual (al st) s.heap.objs.size f SE))->sp vs H Q E->
   ∃t,rC (iZ Kh P w K mg base N qual (al st) f SE A outer s H E).nox (bK st) t/\t {nx:=λ_ H'=>Q .non H',rt:=Q} (dF N vs) H):fN P w K mg base Kh (k+1) f fd ps sp:=by
 obtain⟨oc,od,kV,U1,pm,an,SE,ct,VN,rfl,lk,U3⟩:=F.ex
 refine Fj lk U3 S len λA outer s H vs Q E hr XM=> ?_
 obtain⟨t,h,q⟩:=T2 SE A outer s H vs Q E hr XM
 exact⟨t,h.nox,q⟩
theorem zf.binds {x qual:L3} {st:Lw} {f:L4} {fd:Mq} {ps:List L3} (F:zf K x qual st f fd)
  (h:∀(kV U1 pm:L0) (an:Option L4) (SE ct:L0) (us:List L0),us.length=ps.length->N1 (M3 x qual (dw st) (bK st) (al st) .none kV U1 pm an SE ct) ⟨us,[]⟩=pure (ps.zip us)):gk K fd ps []:=by
 obtain⟨oc,od,kV,U1,pm,an,SE,ct,VN,rfl,lk,U3⟩:=F.ex
 exact .all (h kV U1 pm an SE ct)
theorem nS {x qual:L3} {st:Lw} {f:L4} {oc:L0} {od an:Option L4} {VN:Array (Option L0)} {kV U1 pm SE ct:L0} (l:K.lookup f=some ⟨oc,od, .func (M3 x qual (dw st) (bK st) (al st) .none kV U1 pm an SE ct),VN⟩)
  (c:Nh K SE qual=true) (k:LX K (.ref f)=true):zf K x qual st f (M3 x qual (dw st) (bK st) (al st) .none kV U1 pm an SE ct):=⟨⟨oc,od,kV,U1,pm,an,SE,ct,VN,rfl,l,c⟩,k⟩
end
theorem bI {A:LF} {k:Nat} (hr:c_ k A):A.units+1<Nf:=OY (Nat.add_le_add_left (by decide:1<=64) _) hr.units
section
variable {X:Cx}
theorem pv (i:Nat) {x:L3} {pos:LR} (hN:X.N[i]? =some x:=by rfl) (hv:pT X.env.scope x:=by first|exact LW rfl|exact LI (LW rfl)|exact LI (LI rfl)) (hd:(x==("__debug__":L3))=false:=by decide)
  (U3:(x==("__classdict__":L3))=false:=by decide):PE X (.Name x pos) (Bo i):=FU hN hv hd U3
end
def bd (H H':Hp):Prop:=∀b o,H b=some o->H' b=some o
theorem bd.refl (H:Hp):bd H H:=λ_ _ h=>h
theorem bd.trans {H H1 H2:Hp} (a:bd H H1) (b:bd H1 H2):bd H H2:=λc o h=>b c o (a c o h)
theorem bd.free {H H':Hp} (e:bd H H') {l:L4} (h:H' l=Su):H l=Su:=by
 cases q:H l with
 |none=>rfl
 |some o=>
  rw[e l o q]at h
  cases h
theorem bd.seq {K:K_} {H H':Hp} {a:L4} {xs:List V} (e:bd H H') (h:dC K H a xs):dC K H' a xs:=by
 rcases h with (h|⟨o,h⟩)|h
 ·exact .inl (.inl (e _ _ h))
 ·exact .inl (.inr ⟨o,e _ _ h⟩)
 ·exact .inr h
section
variable {κ:Type} [DecidableEq κ]
end
end L2
namespace L2
open PySem PySem.Spec PyProof.Rows
def pY (env:MM):List (L3×M0)->List (L3×L4)->List (L3×L4)
 |[],cs=>cs
 |(n,k)::r,cs=>pY env r (if k= .free then (match env.cells.lookup n with|some c=>(n,c)::cs|none=>cs)else cs)
theorem se (env:MM):∀(names:List (L3×M0)) (cs:List (L3×L4)),(∀y∈names,y.2= .free->∃c,env.cells.lookup y.1=some c)->
  (forIn names cs λ(x:L3×M0) (r:List (L3×L4))=>(if (x.2==MD)=true then do
    let a<-cellOf env x.1
    pure (ON ((x.1,a)::r))else pure (ON r):Oq (ForInStep (List (L3×L4)))))=pure (pY env names cs)
 |[],cs,_=>rfl
 |(n,k)::r,cs,h=>by
  rw[List.forIn_cons]
  by_cases hk:k= .free
  ·subst hk
   obtain⟨c,hc⟩:=h (n, .free) Lo rfl
   have e:cellOf env n=pure c:=by unfold cellOf;rw[hc]
   simp only[beq_self_eq_true,if_true,e]
   unfold pY
   simp only[if_true,hc]
   exact se env r ((n,c)::cs) λy hy=>h y (Lp _ hy)
  ·have hb:(k==MD)=false:=by simpa using hk
   simp only[hb,Ma,if_false]
   unfold pY
   rw[if_neg hk]
   exact se env r cs λy hy=>h y (Lp _ hy)
theorem zg {scope:MZ} {env:MM} (h:∀y∈scope.names,y.2= .free->∃c,env.cells.lookup y.1=some c):closureFor scope env=pure (pY env scope.names []):=by
 have:=se env scope.names [] h
 unfold closureFor
 simp only[bind_pure]
 exact this
theorem ia {env:MM} {x:L3} {c:L4}:∀{names:List (L3×M0)} {cs:List (L3×L4)},(∀c,cs.lookup x=some c->env.cells.lookup x=some c)->(pY env names cs).lookup x=some c->env.cells.lookup x=some c
 |[],cs,h,e=>h c e
 |(n,k)::r,cs,h,e=>by
  unfold pY at e
  refine ia (names:=r) (λd hd=> ?_) e
  split at hd
  ·split at hd
   ·rename_i c' hc
    rw[Mm]at hd
    cases hx:x==n with
    |true=>rw[hx]at hd;have:=eq_of_beq hx;subst this;rw[hc];exact hd
    |false=>rw[hx]at hd;exact h d hd
   ·exact h d hd
  ·exact h d hd
theorem uk {env:MM} {x:L3}:∀{names:List (L3×M0)} {cs:List (L3×L4)},(∃c,cs.lookup x=some c)->∃c,(pY env names cs).lookup x=some c
 |[],cs,h=>h
 |(n,k)::r,cs,h=>by
  unfold pY
  refine uk (names:=r) ?_
  split
  ·split
   ·rename_i c' hc
    rw[Mm]
    cases x==n with
    |true=>exact⟨_,rfl⟩
    |false=>exact h
   ·exact h
  ·exact h
theorem sf {env:MM} {x:L3}:∀{names:List (L3×M0)} {cs:List (L3×L4)},(x,MD)∈names->(∃c,env.cells.lookup x=some c)->∃c,(pY env names cs).lookup x=some c
 |(n,k)::r,cs,h,hc=>by
  unfold pY
  rcases Li.mp h with h|h
  ·cases h
   obtain⟨c,hc⟩:=hc
   refine uk (names:=r) ?_
   rw[if_pos rfl,hc]
   exact⟨c,by simp⟩
  ·exact sf h hc
def sg (N:List L3) (names:List (L3×M0)) (σ:St):St:=
 names.map λx=>if x.2= .free then ((N.findIdx? (·==x.1)).bind λi=>(σ[i]?).join)else none
def dL (X:Cx) (scope:MZ) (s:L5) (H:Hp) (ex:List L4):Cx:=
 {X with N:=scope.names.map (·.1),s₀:=s,H₀:=H,env:=compEnvC scope (pY X.env scope.names []) s.heap.objs.size X.env,outer:=X.stack,ex:=ex,fn:=λ_=>false,pn:=[],xe:=λ_ _=>False}
structure aZ (X:Cx) (scope:MZ):Prop where
 kind:scope.kind= .function
 nocell:∀y∈scope.names,y.2≠ .cell
 loc:∀y∈scope.names,y.2= .local->scope.names.lookup y.1=some .local
 free:∀y∈scope.names,y.2= .free->X.env.kindOf y.1=some .cell\/X.env.kindOf y.1=some .free
 nd:(scope.names.map (·.1)).Nodup
theorem gw {env:MM} {x:L3}:∀{names:List (L3×M0)} {k:M0},
  (names.map λ(n,k)=>if (k==MD&&env.scope.kind== .function&&env.kindOf n==some .cell)then (n,QS)else (n,k)).lookup x=some k->
  names.lookup x=some k\/(names.lookup x=some .free/\k= .cell)
 |[],k,h=>by simp at h
 |(n,j)::r,k,h=>by
  have ih:= @gw env x r k
  rw[Lf,Mm]at h
  rw[Mm]
  by_cases hc:(j==MD&&env.scope.kind== .function&&env.kindOf n==some .cell)=true
  ·rw[if_pos hc]at h
   have hj:j= .free:=by
    simp only[Mb]at hc
    exact eq_of_beq hc.1.1
   cases hx:x==n with
   |true=>rw[hx]at h;simp at h;exact .inr ⟨by rw[hj],h.symm⟩
   |false=>rw[hx]at h;exact ih h
  ·rw[if_neg hc]at h
   cases hx:x==n with
   |true=>rw[hx]at h;exact .inl h
   |false=>rw[hx]at h;exact ih h
theorem ib {α β:Type} [BEq α] [LawfulBEq α] {x:α} {b:β}:∀{l:List (α×β)},l.lookup x=some b->(x,b)∈l
 |[],h=>by simp at h
 |(a,c)::r,h=>by
  rw[Mm]at h
  cases hx:x==a with
  |true=>rw[hx]at h;have:=eq_of_beq hx;subst this;cases h;exact Lo
  |false=>rw[hx]at h;exact Lp _ (ib h)
section
variable {X:Cx} {Sv:List (L4×LJ)} {σ:St} {H:Hp} {s:L5} {scope:MZ}
theorem aZ.cellOf (S:aZ X scope) (ok:X.Ok):∀y∈scope.names,y.2= .free->∃c,X.env.cells.lookup y.1=some c:=λy hy hf=>ok.has y.1 (S.free y hy hf)
theorem zh (S:aZ X scope) (I:aP X Sv σ H s) {fp:List L4} (Wm:∀b∈fp,oJ X Sv H b/\b<s.heap.objs.size):(dL X scope s H fp).Ok where
 mod:=I.mod
 kind:=S.kind
 glob:=I.ok.glob
 blt:=I.ok.blt
 above:=Lv _
 inj:=λx y c hx hy=>I.ok.inj x y c (ia (by intro c h;simp at h) hx) (ia (by intro c h;simp at h) hy)
 has:=λx hx=>by
  have hm:(x,MD)∈scope.names:=by
   rcases hx with hx|hx
   ·rcases gw hx with h|⟨h,_⟩
    ·exact absurd rfl (S.nocell _ (ib h))
    ·exact ib h
   ·rcases gw hx with h|⟨h,_⟩<;>exact ib h
  exact sf hm (S.cellOf I.ok _ hm rfl)
 cab:=λx c h=>by cases h
 hd:=I.ok.hd
 frames:=I.ok.frames
 stk:= .inl rfl
 exf:=λb hb=>⟨LN (Wm b hb).2,λx c hx=>(Wm b hb).1.2.2.2.2.1 x c (ia (by intro c h;simp at h) hx)⟩
 bs:=I.bs
 bsz:=LP I.ok.bsz I.sz
 noex:=λb o e hb=>by
  rcases(Wm b hb).1.2.2.2.1 with h|h
  ·exact I.ok.noex b o e h
  ·have h1:b<X.base.objs.size:=Ln e
   exact Me _ (LM h1 (LP I.ok.bsz h))
 exfs:=λb hb hc=>by
  have:=I.stkSub b hc
  rcases Li.mp this with h|h
  ·exact(Wm b hb).1.2.1 h
  ·exact(Wm b hb).1.2.2.1 h
 funs:=I.stack
 frf:=I.stkFree
theorem Go (S:aZ X scope) (I:aP X Sv σ H s) {fp:List L4} (Wm:∀b∈fp,oJ X Sv H b/\b<s.heap.objs.size) {h':Lr} {t':Nat}
  (hn:h'.Ns s.heap.objs.size λ_=>none) (k:∀b o,s.heap.get? b=some o->h'.get? b=some o):
  aP (dL X scope s H fp) [] (sg X.N scope.names σ) H {s with heap:=h',toks:=t'}where
 ok:=zh S I Wm
 os:=rfl
 bare:=I.bare
 base:=Un.kept k
 loc:=by
  refine⟨_,hn,λi x v hi hv _=> ?_⟩
  have W_:(scope.names.map (·.1))[i]? =some x:=hi
  rw[Lx]at W_
  unfold sg at hv
  rw[Lx]at hv
  cases e:scope.names[i]? with
  |none=>rw[e]at W_;cases W_
  |some y=>
   rw[e]at W_ hv
   have hx:y.1=x:=by simpa using W_
   have hy:y∈scope.names:=Mx e
   simp only[Nx,Pj]at hv
   by_cases hf:y.2= .free
   ·rw[if_pos hf]at hv
    cases ei:X.N.findIdx? (·==y.1)with
    |none=>rw[ei]at hv;cases hv
    |some j=>
     rw[ei]at hv
     have hj:σ[j]? =some (some v):=by
      cases e2:σ[j]? with
      |none=>simp[e2]at hv
      |some o=>simp only[PM,e2,Option.join_some]at hv;rw[hv]
     obtain⟨hl,hp,_⟩:=List.findIdx?_eq_some_iff_getElem.mp ei
     have hN:X.N[j]? =some x:=by
      rw[LB hl]
      have:=eq_of_beq hp
      rw[this,hx]
     have hk:=S.free y hy hf
     rw[hx]at hk
     obtain⟨m,_,hm⟩:=I.loc
     obtain⟨u,ru,lu⟩:=hm j x v hN hj (by
      rcases hk with q|q
      ·exact .inr (.inl q)
      ·exact .inr (.inr q))
     refine⟨u,ru,?_⟩
     rcases lu with ⟨q,_⟩|⟨_,c,hc,WV⟩
     ·rcases hk with z|z<;>rw[z]at q<;>cases q
     ·have W4:(x,MD)∈scope.names:=by
       have:y=(x,MD):=by cases y;simp at hx hf;rw[hx,hf]
       rw[<-this];exact hy
      obtain⟨d,hd⟩:=sf (cs:=[]) W4 (S.cellOf I.ok _ W4 rfl)
      have a1W:d=c:=by
       have:=ia (cs:=[]) (by intro c h;simp at h) hd
       rw[this]at hc
       exact M4 hc
      refine .inr ⟨?_,d,hd,?_⟩
      ·show (Ru scope X.env).names.lookup x=some .cell\/(Ru scope X.env).names.lookup x=some .free
       have a1X:∃k,(Ru scope X.env).names.lookup x=some k:=by
        unfold Ru
        cases el:(scope.names.map λ(n,k)=>if (k==MD&&X.env.scope.kind== .function&&X.env.kindOf n==some .cell)then (n,QS)else (n,k)).lookup x with
        |some k=>exact⟨k,rfl⟩
        |none=>
         exfalso
         rw[List.lookup_eq_none_iff]at el
         have:=el (if (MD==MD&&X.env.scope.kind== .function&&X.env.kindOf x==some .cell)then (x,QS)else (x,MD)) (MU.mpr ⟨_,W4,rfl⟩)
         split at this<;>simp at this
       obtain⟨k,Yj⟩:=a1X
       rcases gw Yj with h|⟨_,h⟩
       ·have a0i:=ib h
        have:k= .free:=by
         have nd:=S.nd
         obtain⟨a,ha,e1⟩:=QL.mp W4
         obtain⟨b,hb,e2⟩:=QL.mp a0i
         have:a=b:=by
          refine(Px (h₀:=by simpa using ha) (h₁:=by simpa using hb) nd).mp ?_
          rw[RJ,RJ,e1,e2]
         subst this
         rw[e1]at e2
         cases e2;rfl
        subst this
        exact .inr Yj
       ·subst h;exact .inl Yj
      ·rw[a1W];exact WV.keeps k
   ·rw[if_neg hf]at hv;cases hv
 cell:=λx c hx=>by
  obtain⟨v,hv⟩:=I.cell x c (ia (cs:=[]) (by intro c h;simp at h) hx)
  exact⟨v,hv.keeps k⟩
 free:=I.hok.fresh (Lv _)
 freeC:=λx c hx=>I.freeC x c (ia (cs:=[]) (by intro c h;simp at h) hx)
 pin:=λp hp=>by cases hp
 hok:=I.hok.kept k
 len:=by simp[dL,sg]
theorem zi (I:aP X Sv σ H s) {fp:List L4} (Wm:∀b∈fp,oJ X Sv H b/\b<s.heap.objs.size) {τ:St} {H':Hp} {s':L5} (I':aP (dL X scope s H fp) [] τ H' s') {h':Lr} {t':Nat}
  (hs:∀b o,b≠s.heap.objs.size->s'.heap.get? b=some o->h'.get? b=some o):aP X Sv σ H' {s' with heap:=h',toks:=t'}:=by
 have u:Un (rB X.stack) fp H H' s.heap s'.heap:=I'.base
 have hC:H' s.heap.objs.size=none:=I'.free
 have nC:∀b o,s.heap.get? b=some o->b≠s.heap.objs.size:=λb o e=>LN (Ln e)
 refine I.call' (ch:=fp) I'.os ⟨?_,?_,u.free,?_,u.tups,u.frzs,u.tbls⟩ (λb o e=> ?_) I'.bare λb hb=> ?_
 ·exact λb o e n a c=>hs b o (nC b o e) (u.keep b o e n a c)
 ·intro b o e n a c
  obtain⟨sl,q⟩:=u.slot b o e n a c
  exact⟨sl,hs b _ (nC b o e) q⟩
 ·intro b o e a
  obtain⟨o',q⟩:=u.there b o e a
  exact⟨o',hs b _ (nC b o e) q⟩
 ·refine(I'.hok b o e).stay (λc v hc q=>hs c v ?_ q) (λ_ q=>q) λ_ _ q=>q
  intro z
  subst z
  rcases hc with z|z
  ·rw[z]at hC;rw[hC]at e;cases e
  ·rw[hC]at z;cases z
 ·obtain⟨h1,h2,h3,h4,h5,h6⟩:=(Wm b hb).1
  exact⟨h4,h2,h5,h6⟩
end
def Fq (X:Cx) (V6:List Lc) (t:TT):Prop:=
 ∀(Sv:List (L4×LJ)) (s:L5) (σ:St) (H:Hp) (Q:Bool->Hp->Prop),aP X Sv σ H s->t σ H Q->
  Lg (Lj X.prog X.w) X.A (forIn V6 true λc r=>if r=true then do let ok<-Qs c X.env (Ls c X.env);pure (ON ok)else pure (ON r)) (TP X Sv σ Q) X.xe s
theorem E9 {X:Cx}:Fq X [] (λ_ H Q=>Q true H):=λ_ _ _ H _ I h=>wpAny_tests_nil ⟨H,I,h⟩
theorem Ea {X:Cx} {c:Lc} {t:TT} (h:PT X c t):Fq X [c] t:=λSv s σ H Q I q=>wpAny_tests_one (h Sv s σ H Q I q)
def si (J:It) (g:TG) (tt:TT) (te:TE) (D:L4) (τ0:St) (Q:Hp->Prop) (H1:Hp):Prop:=
 ∃W:Nat->Nat->List V->St->Hp->Prop,(∃m,W 0 m [] τ0 H1)/\∀i m ys τ H,W i m ys τ H->H D=some (.lst ys)/\
  ((J.stop i H/\Q H)\/(J.go i H/\ys.length<sizeLine/\∀x H',J.yld i H x H'->g x τ H' λτ2 H2=>tt τ2 H2 λb H3=>
   if b=true then te τ2 H3 λy H4=>H4 D=some (.lst ys)/\∃m',m'<m/\W (i+1) m' (ys++[y]) τ2 (ce H4 D (.lst (ys++[y])))else ∃m',m'<m/\W (i+1) m' ys τ2 H3))
def Iy (N:List L3) (names:List (L3×M0)) (wi:TI) (g:TG) (tt:TT) (te:TE):TE:=λσ H Q=>
 wi σ H λJ H1=>∀D,H1 D=none->si J g tt te D (sg N names σ) (λH2=>Q (.ref D) H2) (ce H1 D (.lst []))
section
variable {X:Cx} {Vj tg T4:Lc} {V6:List Lc} {scope:MZ} {pos:LR} {wi:TI} {g:TG} {tt:TT} {te:TE}
theorem Eb (S:aZ X scope) (hc:X.calm=true) (hg:∀s H ex,PG (dL X scope s H ex) tg g) (Xg:∀s H ex,Fq (dL X scope s H ex) V6 tt) (Xa:∀s H ex,PE (dL X scope s H ex) Vj te)
  {Sv:List (L4×LJ)} {σ:St} {H:Hp} {s:L5} (I:aP X Sv σ H s) {fp:List L4} {it D:L4} {tn:Nat->Lr->Prop} {J:It} (T:A9 X.prog X.w X.K tg J fp it tn)
  (Wm:∀b∈fp,oJ X Sv H b/\b<s.heap.objs.size) {Q:Hp->Prop} {R:R7->L5->Prop}
  (hR:∀τ H' s',aP (dL X scope s H fp) [] τ H' s'->Q H'->R (.ok .next) s')
  {s1:L5} {τ0:St} (I1:aP (dL X scope s H fp) [] τ0 H s1) (ht:tn 0 s1.heap) (q:si J g tt te D τ0 Q H):
  Od (Lj X.prog X.w) X.A (.compLoop (.ListComp Vj [⟨tg,T4,V6,0⟩] scope pos) 0 (.ref it) (.ref D) (dL X scope s H fp).env) R s1:=by
 obtain⟨W,⟨m0,w0⟩,Xx⟩:=q
 have WJ:∀{H':Hp},(∀b∈fp,H' b=none)->∀b∈fp,oJ (dL X scope s H fp) [] H' b:=λ{H'} hn b hb=>
  ⟨hn b hb,LN (Wm b hb).2,(zh S I Wm).exfs b hb, .inl hb,λx c hx=>(Wm b hb).1.2.2.2.2.1 x c (ia (cs:=[]) (by intro c h;simp at h) hx),λp hp=>by cases hp⟩
 refine codeAny_loop rfl (λn s'=>∃i ys τ H',aP (dL X scope s H fp) [] τ H' s'/\tn i s'.heap/\(∀b∈fp,H' b=none)/\W i n ys τ H') (λn s2 hI=> ?_) m0 ⟨0,[],τ0,H,I1,ht,λb hb=>(Wm b hb).1.1,w0⟩
 obtain⟨i,ys,τ,H2,I2,XJ,a1l,w2⟩:=hI
 show Lg _ X.A ((compTurn (.ListComp Vj [⟨tg,T4,V6,0⟩] scope pos) 0 (.ref it) (.ref D) (dL X scope s H fp).env).onRaise (λx=>do Rj x (dL X scope s H fp).env;theTreesLotGoes x)) _ _ s2
 refine wpAny_noted ?_
 rw[compTurn_list]
 have up:∀{α:Type} {t:Oq α} {Q:α->L5->Prop} {E:L0->L5->Prop} {s:L5},Lg (Lj X.prog X.w) X.A t Q (λ_ _=>False) s->Lg (Lj X.prog X.w) X.A t Q E s:=λh=>MR h (λ_ _ q=>q) λ_ _ f=>f.elim
 obtain⟨hD,a1Y⟩:=Xx i n ys τ H2 w2
 rcases a1Y with ⟨stop,qn⟩|⟨go,hz,step⟩
 ·refine L6 (Ov (L6 (up (cY (T.done (dL X scope s H fp) rfl rfl rfl hc i [] s2 τ H2 (λ_ _=>False) I2 (WJ a1l) XJ stop) λr s3 z_=> ?_))))
  obtain⟨hr,I3⟩:=z_
  subst hr
  exact Le (hR _ _ _ I3 qn)
 ·refine L6 (Ov (L6 (up (cY (T.item (dL X scope s H fp) rfl rfl rfl hc i [] s2 τ H2 (λ_ _=>False) I2 (WJ a1l) XJ go) λr s3 z_=> ?_))))
  obtain⟨u,hr,h3⟩:=z_
  subst hr
  refine L6 (up (cY h3 λ_ s4 z_=> ?_))
  obtain⟨x,H4,I4,r4,y4,a0j,a1Z⟩:=z_
  have a1_:=I4.pinned (WJ a1Z) (T.obj _ _ a0j)
  have back:∀{τ7:St} {H7:Hp} {s7:L5},aP (dL X scope s H fp) ([]++rT fp s4.heap) τ7 H7 s7->aP (dL X scope s H fp) [] τ7 H7 s7/\tn (i+1) s7.heap/\∀b∈fp,H7 b=none:=λI7=>
   ⟨I7.unpinned,T.keep _ _ _ a0j λb hb o e=>(I7.pin (b,o) (LL _ (LL _ (kF hb e)))).1,λb hb=>by
    obtain⟨o,e,d⟩:=T.obj _ _ a0j b hb
    exact(I7.pin (b,o) (LL _ (LL _ (kF hb e)))).2.1⟩
  refine L6 (up (cY (hg s H fp _ s4 τ H4 x u _ a1_ r4 (step x H4 y4)) λ_ s5 z_=> ?_))
  obtain⟨τ5,H5,I5,q5⟩:=z_
  refine L6 (up (cY (Xg s H fp _ s5 τ5 H5 _ I5 q5) λok s6 z_=> ?_))
  obtain⟨H6,I6,q6⟩:=z_
  cases ok with
  |false=>
   obtain⟨m',hm,w'⟩:=q6
   obtain⟨a,b,c⟩:=back I6
   exact Le ⟨rfl,m',hm,i+1,ys,τ5,H6,a,b,c,w'⟩
  |true=>
   rw[if_pos rfl]at q6
   refine L6 (L6 (up (cY (Xa s H fp _ s6 τ5 H6 _ I6 q6) λv s7 z_=> ?_)))
   obtain⟨y,H7,I7,r7,a20,m',hm,w'⟩:=z_
   refine L6 (up (cY (pX (X:=dL X scope s H fp) _ s7 τ5 H7 (.ref D) [y] (.ref D) [v] (λ_ H8=>H8=ce H7 D (.lst (ys++[y]))) I7 rfl (.cons r7 .nil) ⟨D,ys,y,rfl,rfl,a20,hz,rfl⟩) λ_ s8 z_=> ?_))
   obtain⟨_,H8,I8,_,e8⟩:=z_
   subst e8
   obtain⟨a,b,c⟩:=back I8
   exact Le (Le ⟨rfl,m',hm,i+1,ys++[y],τ5,_,a,b,c,w'⟩)
theorem wm (S:aZ X scope) (hc:X.calm=true) (hg:∀s H ex,PG (dL X scope s H ex) tg g) (Xg:∀s H ex,Fq (dL X scope s H ex) V6 tt) (Xa:∀s H ex,PE (dL X scope s H ex) Vj te)
  {Sv:List (L4×LJ)} {σ:St} {H:Hp} {s:L5} {E:L0->L5->Prop} (I:aP X Sv σ H s) {fp:List L4} {it:L4} {tn:Nat->Lr->Prop} {J:It} (T:A9 X.prog X.w X.K tg J fp it tn)
  (Wm:∀b∈fp,oJ X Sv H b) (ht:tn 0 s.heap) {Q:L4->Hp->Prop} {RR:L0->L4->R7->L5->Prop}
  (hR:∀(D:L4) (H3:Hp) (s3:L5) (τ:St) (H':Hp) (s':L5),aP X Sv σ H3 s3->(∀b∈fp,oJ X Sv H3 b/\b<s3.heap.objs.size)->aP (dL X scope s3 H3 fp) [] τ H' s'->Q D H'->RR (.ref D) s3.heap.objs.size (.ok .next) s')
  (q:∀D,H D=none->si J g tt te D (sg X.N scope.names σ) (Q D) (ce H D (.lst []))):
  Lg (Lj X.prog X.w) X.A (newList []) (λU4 s₃=>Lg (Lj X.prog X.w) X.A (newFunctionEnv scope X.env.globals (pY X.env scope.names []) [] X.env.qual none .none (some X.env)) (λZ6 s₄=>
   Od (Lj X.prog X.w) X.A (.compStart (.ListComp Vj [⟨tg,T4,V6,0⟩] scope pos) 0 (.ref it) U4 {Z6 with scope:=Ru scope X.env}) (RR U4 Z6.locals) s₄) E s₃) E s:=by
 have Vn:∀b∈fp,b<s.heap.objs.size:=λb hb=>by
  obtain⟨o,e,_⟩:=T.obj _ _ ht b hb
  exact Ln e
 refine Ox ?_
 have I3:=I.lnew (ys:=[]) (its:=[]) (t':=s.toks) .nil (ML _)
 have hD:H s.heap.objs.size=none:=I.hok.fresh (Lv _)
 have a0k:(s.heap.push {cls:= .type "list",data:= .seq ([]:List L0).toArray}).objs.size=s.heap.objs.size+1:=NF ..
 have Yk:∀b∈fp,oJ X Sv (ce H s.heap.objs.size (.lst [])) b/\b<({s with heap:=s.heap.push {cls:= .type "list",data:= .seq ([]:List L0).toArray},toks:=s.toks}:L5).heap.objs.size:=λb hb=>by
  refine⟨⟨?_,(Wm b hb).2⟩,?_⟩
  ·rw[az (LN (Vn b hb))];exact(Wm b hb).1
  ·show b<(s.heap.push _).objs.size
   rw[a0k]
   exact Na (Vn b hb)
 refine wpAny_newFunctionEnv S.nocell (by intro y hy;simp at hy) (λh₁ Z7 Z8=> ?_) S.kind
 dsimp only at Z7 Z8 ⊢
 have k1:∀b o,(s.heap.push {cls:= .type "list",data:= .seq ([]:List L0).toArray}).get? b=some o->h₁.get? b=some o:=λb o e=>Z8.extBut b o (LN (Ln e)) (Lb _ e)
 have I4:=Go (t':=s.toks) S I3 Yk (h':=h₁) Z7 k1
 have a1m:tn 0 h₁:=T.keep _ _ _ ht λb hb o e=>k1 b o (Lb _ e)
 have W5:Od (Lj X.prog X.w) X.A (.compLoop (.ListComp Vj [⟨tg,T4,V6,0⟩] scope pos) 0 (.ref it) (.ref s.heap.objs.size) (dL X scope {s with heap:=s.heap.push {cls:= .type "list",data:= .seq ([]:List L0).toArray},toks:=s.toks} (ce H s.heap.objs.size (.lst [])) fp).env)
   (RR (.ref s.heap.objs.size) (s.heap.push {cls:= .type "list",data:= .seq ([]:List L0).toArray}).objs.size) {s with heap:=h₁,toks:=s.toks}:=
  Eb S hc hg Xg Xa I3 T Yk (λτ H' s' I' q'=>hR _ _ _ τ H' s' I3 Yk I' q') I4 a1m (q _ hD)
 exact codeAny_compStart_list W5 (T.self _ 0 _ _ _ a1m W5)
theorem zj (S:aZ X scope) (hc:X.calm=true) (hi:PI X tg T4 wi) (hg:∀s H ex,PG (dL X scope s H ex) tg g) (Xg:∀s H ex,Fq (dL X scope s H ex) V6 tt) (Xa:∀s H ex,PE (dL X scope s H ex) Vj te)
  (hs:∀x,MX T4 X.env x=pure x:=by intro _;rfl):PE X (.ListComp Vj [⟨tg,T4,V6,0⟩] scope pos) (Iy X.N scope.names wi g tt te):=by
 intro Sv s σ H Q I h
 rw[eval_ListComp]
 refine PR (use:=none) rfl hs (zg (S.cellOf I.ok)) S.kind S.loc (cY (hi Sv s σ H _ I h) λv s1 h1=>cY h1 λZA s2 h2=> ?_)
 obtain⟨it,fp,tn,J,H2,e,I2,T,XJ,f2,q⟩:=h2
 subst e
 refine wm (Q:=λD H2=>Q (.ref D) H2) (RR:=λU4 C=>compPost (Lj X.prog X.w) X.A X.xe none (EP X Sv σ Q) U4 C) S hc hg Xg Xa I2 T f2 XJ ?_ q
 intro D H3 s3 τ H' s' I3 f3 I' q'
 obtain⟨m,hm,_⟩:=I'.loc
 refine⟨m,hm,λh' T3=> ?_⟩
 exact⟨.ref D,H',zi (t':=s'.toks) I3 f3 I' λb o hb e=>T3.extBut b o hb e,rfl,q'⟩
def Iz (N:List L3) (names:List (L3×M0)) (wi:TI) (g:TG) (tt:TT) (te:TE) (gy:TG):TS:=λD σ H=>
 wi σ H λJ H1=>∀p,H1 p=none->si J g tt te p (sg N names σ) (λH2=>gy (.ref p) σ H2 D.nx) (ce H1 p (.lst []))
theorem Ec {y:L3} {py Vs:LR} {gy:TG} (S:aZ X scope) (hc:X.calm=true) (hi:PI X tg T4 wi) (hg:∀s H ex,PG (dL X scope s H ex) tg g) (Xg:∀s H ex,Fq (dL X scope s H ex) V6 tt)
  (Xa:∀s H ex,PE (dL X scope s H ex) Vj te) (hy:PG X (.Name y py) gy) (Wn:M6 (.ListComp Vj [⟨tg,T4,V6,0⟩] scope pos) (some (.Name y py)) Vs.line X.env=pure true:=by rfl)
  (hs:∀x,MX T4 X.env x=pure x:=by intro _;rfl):PS X (.Assign [.Name y py] (.ListComp Vj [⟨tg,T4,V6,0⟩] scope pos) Vs) (Iz X.N scope.names wi g tt te gy):=by
 intro Sv s σ H D I h
 rw[exec_Assign_Name_used _ _ _ _ Wn]
 refine L6 (Ov (L6 ?_))
 show Lg _ X.A (do let _<-comprehension (.ListComp Vj [⟨tg,T4,V6,0⟩] scope pos) scope X.env _ (newList []) false (Ls T4 X.env) (some (NR (.Name y py) X.env))) _ _ s
 refine L6 (MR (PR (use:=some (NR (.Name y py) X.env)) (Q:=λ_ s'=>SP X Sv D .next s') rfl hs (zg (S.cellOf I.ok)) S.kind S.loc
  (cY (hi Sv s σ H _ I h) λv s1 h1=>cY h1 λZA s2 h2=> ?_)) (λ_ s' hq=>Le (Le hq)) λ_ _ e=>e)
 obtain⟨it,fp,tn,J,H2,e,I2,T,XJ,f2,q⟩:=h2
 subst e
 refine wm (Q:=λp H2=>gy (.ref p) σ H2 D.nx) (RR:=λU4 C=>compPost (Lj X.prog X.w) X.A X.xe (some (NR (.Name y py) X.env)) (λ_ s'=>SP X Sv D .next s') U4 C) S hc hg Xg Xa I2 T f2 XJ ?_ q
 intro p H3 s3 τ H' s' I3 f3 I' q'
 obtain⟨m,hm,_⟩:=I'.loc
 obtain⟨oC,es,ep,a21,a1n,a22,a23⟩:=hm
 have J1:aP X Sv σ H' s':=zi (t':=s'.toks) (h':=s'.heap) I3 f3 I' λb o _ e=>e
 have a24:H' s3.heap.objs.size=none:=I'.free
 have a1o:s3.heap.objs.size≠X.env.locals:=λz=>by have:=I3.lt;rw[<-z]at this;exact Me _ this
 have J2:aP X (Sv++[(s3.heap.objs.size,oC)]) σ H' s':=J1.pins_of λq hq=>by
  rcases L_.mp hq with hq|hq
  ·exact J1.pin q (LL _ hq)
  ·have e:q=(s3.heap.objs.size,oC):=by simpa using hq
   subst e
   exact⟨a21,a24,a1o,I3.nofs (Lv _),λv z=>by rw[a1n]at z;cases z⟩
 refine cY (hy _ s' σ H' (.ref p) (.ref p) D.nx J2 rfl q') λ_ YY z_=> ?_
 obtain⟨σ5,H5,I5,q5⟩:=z_
 have hp:=I5.pin (s3.heap.objs.size,oC) (LL _ (LL _ Lo))
 refine⟨m,⟨oC,es,ep,hp.1,a1n,a22,a23⟩,λh' T3=> ?_⟩
 refine⟨σ5,H5,(I5.unpinned).turned (it:=s3.heap.objs.size) (t':=YY.toks) (λb o hb e=>T3.extBut b o hb e) hp.2.1 a1o (.inr I3.sz) (λx c hx z=> ?_) (λq hq z=> ?_),q5⟩
 ·obtain⟨v,o,ho,_⟩:=I3.cell x c hx
  have:=Ln ho
  rw[z]at this
  exact Me _ this
 ·have:=(I3.pin q hq).1
  have:=Ln this
  rw[z]at this
  exact Me _ this
end
end L2
namespace L2
open PySem PySem.Spec PyProof.Rows
section
variable {X:Cx} {e a b st:Lc} {te ta tb:TE} {Yl:TO} {pos p2 p:LR}
def JW (K:K_) (te:TE) (Yl:TO):TE:=λσ H Q=>te σ H λx H1=>Yl σ H1 λo H2=>o=some (-1)/\∃a xs,x= .ref a/\dC K H2 a xs/\∀p,H2 p=none->Q (.ref p) (ce H2 p (.lst xs.reverse))
theorem Gp (he:PE X e te) (Vr:PO X (some st) Yl):PE X (.Subscript e (.Slice none none (some st) p2) pos) (JW X.K te Yl):=by
 intro Sv s σ H Q I h
 refine QJ (cY (he Sv s σ H _ I h) λv s1 z_=> ?_)
 obtain⟨x,H1,I1,r1,q1⟩:=z_
 refine wpAny_Slice ?_
 rw[P8]
 refine Le ?_
 try rw[P8]
 refine Le ?_
 refine cY (Vr Sv s1 σ H1 _ I1 q1) λvk s2 z_=> ?_
 obtain⟨o,H2,I2,pk,ho,a,xs,ex,hx,q⟩:=z_
 subst ho
 subst ex
 cases r1
 have I3:aP X Sv σ H2 {s2 with heap:=s2.heap.push {cls:= .type "slice",data:= .fields #[.none, .none,vk]}}:=I2.kept (t':=s2.toks) λb ob q=>Lb _ q
 obtain⟨its,r,ht,hz⟩:=I3.list hx
 have SW:=r.length
 show Lg (Lj X.prog X.w) X.A (P9 e (.Slice none none (some st) p2) (.ref a) (.ref s2.heap.objs.size)) (EP X Sv σ Q) X.xe {s2 with heap:=s2.heap.push {cls:= .type "slice",data:= .fields #[.none, .none,vk]}}
 refine tail_any (ops:=[.ref a, .ref s2.heap.objs.size]) ht.isList.typeIs Pf.lookup ?_ (by with_unfolding_all rfl)
 refine PJ ht.isList (Rh ..) .none .none pk (by decide) ?_ (by rw[La]<;>omega)
 rw[PySem.W.krv_pick]
 refine⟨.ref _,_,I3.laid (t':=s2.toks) (o:= .lst xs.reverse) (λb ob q=>Lb _ q) (Lv _) ?_,rfl,q _ (I3.hok.fresh (Lv _))⟩
 exact⟨by rw[List.length_reverse];exact hz,its.reverse,0,r.reverse,LH _ rfl⟩
def JX (K:K_):List V->Hp->VK->Prop:=λxs H Q=>∃x T t k,xs=[x, .ty T]/\oK K H x t/\Mf K t (.type T)=some k/\Q (.bl k) H
theorem BX:d_ X (.builtin "isinstance") (JX X.K):=by
 intro Sv s σ H xs us Q I rv h
 obtain⟨x,T,t,k,rfl,ty,e,q⟩:=h
 obtain⟨u,w',rfl,ru,WX⟩:=yU rv
 cases WX
 exact Ai I ru ty e λtk=>⟨.bl k,H,I.tok tk,rfl,q⟩
theorem sj:LS "isinstance"=some (.builtin "isinstance"):=by decide+kernel
def y3 (x:Int):List Int->List Int
 |[]=>[x]
 |y::r=>if x<=y then x::y::r else y::y3 x r
def cW:List Int->List Int
 |[]=>[]
 |x::r=>y3 x (cW r)
theorem pZ (x:Int):∀l:List Int,(y3 x l).Perm (x::l)
 |[]=>NG _
 |y::r=>by
  unfold y3
  split
  ·exact NG _
  ·exact(S7 y (pZ x r)).trans (List.Perm.swap x y r)
theorem i_:∀l:List Int,(cW l).Perm l
 |[]=>NG _
 |x::r=>(pZ x _).trans (S7 x (i_ r))
theorem qC (x:Int):∀{l:List Int},l.Pairwise (·<=·)->(y3 x l).Pairwise (·<=·)
 |[],_=>by simp[y3]
 |y::r,h=>by
  obtain⟨h1,h2⟩:=Ml.mp h
  unfold y3
  split
  ·rename_i a0l
   refine Ml.mpr ⟨λz hz=> ?_,h⟩
   rcases Li.mp hz with rfl|hz
   ·exact a0l
   ·exact MV a0l (h1 z hz)
  ·rename_i a0l
   refine Ml.mpr ⟨λz hz=> ?_,qC x h2⟩
   rcases Li.mp ((pZ x r).mem_iff.mp hz)with rfl|hz
   ·omega
   ·exact h1 z hz
theorem iR:∀l:List Int,(cW l).Pairwise (·<=·)
 |[]=>Ph
 |x::r=>qC x (iR r)
theorem i5:∀{a b:List Int},a.Perm b->a.Pairwise (·<=·)->b.Pairwise (·<=·)->a=b
 |[],b,p,_,_=>(List.nil_perm.mp p).symm
 |x::a,[],p,_,_=>(List.perm_nil.mp p)
 |x::a,y::b,p,h1,h2=>by
  obtain⟨a1,a2⟩:=Ml.mp h1
  obtain⟨b1,b2⟩:=Ml.mp h2
  have e:x=y:=by
   have hx:x∈y::b:=p.mem_iff.mp Lo
   have hy:y∈x::a:=p.mem_iff.mpr Lo
   rcases Li.mp hx with h|h
   ·exact h
   ·rcases Li.mp hy with h'|h'
    ·exact h'.symm
    ·exact Int.le_antisymm (a1 y h') (b1 x h)
  subst e
  rw[i5 ((List.perm_cons x).mp p) a2 b2]
theorem uY:d_ X (.builtin "sorted") (λxs H Q=>∃p ns,xs=[.ref p]/\dC X.K H p (ns.map V.int)/\ns.length<64/\∀l,H l=none->Q (.ref l) (ce H l (.lst ((cW ns).map V.int)))):=by
 intro Sv s σ H xs us Q I rv h
 obtain⟨p,ns,rfl,hx,hl,q⟩:=h
 obtain⟨u,rfl,ru⟩:=j_ rv
 cases ru
 obtain⟨its,r,ht,hz⟩:=I.list hx
 have hi:=kG r
 have SW:=r.length
 rw[L7]at SW
 refine sorted_ints ht.isList hi (by omega) λout a0m a1 a2 a3=> ?_
 obtain⟨e,he⟩:=sortedAll_at s.heap its out
 have en:a0m=cW ns:=i5 (a2.trans (i_ ns).symm) a3 (iR ns)
 subst en
 have k:∀b o,s.heap.get? b=some o->(sortedAll s.heap its out).get? b=some o:=λb o e=>sortedAll_old e
 refine⟨.ref (s.heap.objs.size+1),_,I.laid (t':=s.toks) (o:= .lst ((cW ns).map V.int)) k (RC _) ?_,rfl,q _ (I.hok.fresh (RC _))⟩
 refine⟨?_,out.toList,e,kb a1,by simpa[seqObj]using he⟩
 have h1:=a2.length_eq
 rw[L7]at hz ⊢
 omega
end
end L2
namespace L2
open PySem PySem.Spec PyProof.Rows
section
variable {P:Ll} {w:Ly} {H:Hp} {h h':Lr} {a:L4} {o:HO}
theorem cp.got (x:cp P w H h a o):∃u,h.get? a=some u:=by
 cases o with
 |lst xs=>obtain⟨_,_,_,_,e⟩:=x;exact⟨_,e⟩
 |tup xs=>obtain⟨_,_,_,p⟩:=x;obtain⟨o,e,_⟩:=p;exact⟨_,e⟩
 |dK kvs=>obtain⟨_,_,_,_,o,_,_,e,_⟩:=x;exact⟨_,e⟩
 |dT kvs=>obtain⟨_,_,_,_,o,_,_,e,_⟩:=x;exact⟨_,e⟩
 |set S n=>obtain⟨o,_,_,_,e,_⟩:=x;exact⟨_,e⟩
 |ins C dx fs=>obtain⟨_,_,_,e,_⟩:=x;exact⟨_,e⟩
 |own y=>obtain⟨_,e⟩:=x;exact⟨_,e⟩
 |xd fs=>obtain⟨_,⟨_,_,_,e,_⟩,_⟩:=x;exact⟨_,e⟩
 |rng lo hi=>obtain⟨_,_,_,e⟩:=x;exact⟨_,e⟩
 |frz ob u=>obtain⟨e,_⟩:=x;exact⟨_,e⟩
 |tbl ps=>exact⟨_,x⟩
 |met f y=>exact⟨_,x⟩
 |ext φ=>obtain⟨_,e,_⟩:=x;exact e
theorem lF.nowhere (x:lF P w H h) (hn:h.get? a=none):H a=none:=by
 cases e:H a with
 |none=>rfl
 |some o=>obtain⟨u,q⟩:=(x a o e).got;rw[hn]at q;cases q
end
section
variable {X:Cx} {Sv:List (L4×LJ)} {σ:List (Option V)} {H:Hp} {s:L5} {h':Lr}
theorem aP.laidAt {a:L4} {o:HO} {t':Nat} (I:aP X Sv σ H s) (k:∀b u,s.heap.get? b=some u->h'.get? b=some u) (hn:s.heap.get? a=none) (new:cp X.prog X.w (ce H a o) h' a o):
  aP X Sv σ (ce H a o) {s with heap:=h',toks:=t'}:=by
 have hH:=I.hok.nowhere hn
 have UR:∀b u,s.heap.get? b=some u->b≠a:=λb u q z=>by rw[z,hn]at q;cases q
 refine I.un ⟨λb u q _ _ _=>k b u q,λb u q _ _ _=>⟨u.slots,k b u q⟩,λb u q n _=>by rw[az (UR b u q)];exact n,λb u q _=>⟨u,k b u q⟩,λb xs q=>by rw[az (dr q hH)];exact q,
  λb u xs q=>by rw[az (dr q hH)];exact q,λb ps q=>⟨#[],by rw[az (dr q hH),q];simp⟩⟩ λb u e=> ?_
 by_cases hb:b=a
 ·subst hb;rw[aH]at e;cases e;exact new
 ·rw[az hb]at e
  exact(I.hok b u e).stay (λc v _ q=>k c v q) (λc q=>by rw[az (dr q hH)];exact q) λc xs q=>by rw[az (dr q hH)];exact q
end
section
variable {X:Cx}
theorem y6 {ns:List Int} {U4:Array L0} (h:ItemsOf (λi v=>∃n t,ns[i]? =some n/\v= .int n t) U4 ns.length):bp (ns.map V.int) U4.toList:=by
 have SN:∀(vs:List L0) (ns:List Int),vs.length=ns.length->(∀(j:Nat) v,vs[j]? =some v->∃n t,ns[j]? =some n/\v= .int n t)->bp (ns.map V.int) vs:=by
  intro vs
  induction vs with
  |nil=>intro ns h1 _;cases ns with
   |nil=>exact .nil
   |cons _ _=>cases h1
  |cons v r ih=>
   intro ns h1 h2
   cases ns with
   |nil=>cases h1
   |cons n ns=>
    obtain⟨m,t,e1,e2⟩:=h2 0 v rfl
    simp at e1
    subst e1
    refine .cons ⟨t,e2⟩ (ih ns (by simpa using h1) λj v hv=> ?_)
    have:=h2 (j+1) v (by simpa using hv)
    simpa using this
 refine SN U4.toList ns (by rw[MK];exact h.1) λj v hv=>h.2 j v (by rw[<-Qx];exact hv)
theorem uZ (hc:X.calm=true):d_ X (.builtin "sorted") (λxs H Q=>∃p kvs ns,xs=[.ref p]/\H p=some (.dK kvs)/\kvs.map (·.1)=ns.map NU/\ns.length<64/\∀l,H l=none->Q (.ref l) (ce H l (.lst ((cW ns).map V.int)))):=by
 intro Sv s σ H xs us Q I rv h
 obtain⟨p,kvs,ns,rfl,hp,hk,hl,q⟩:=h
 obtain⟨u,rfl,ru⟩:=j_ rv
 cases ru
 obtain⟨z,hd,vs,Vi,dd⟩:=Fp I.hok hp
 obtain⟨ep,a25⟩:=dd.dictAt
 have SW:vs.length=ns.length:=by
  rw[<-Vi.length]
  have:=congrArg OV hk
  simpa using this
 refine O2 RE Rl Rm (Rn _) ?_
 unfold OU.«sorted»
 refine L6 (m:=RZ "sorted" 1 1 _) (Le ?_)
 refine L6 (PySem.W.kdu_collect (A:=X.A.in1) (PySem.W.kdl_dict (knd:=dJ X.prog X.w) (kvs:=vs) (ep:=ep) hd) (I.ok.hd hc) a25 (by rw[<-Vi.length];exact z) λh' tk U4 WM Ym=> ?_)
 have hI:Pp U4.toList ns:=by
  refine kG (y6 ⟨by rw[Ym.1];exact SW,λj v hv=> ?_⟩)
  obtain⟨k,x,hx,Yd⟩:=Ym.2 j v hv
  have Z9:(vs.map (·.1))[j]? =some k:=by rw[Lx,hx];rfl
  rw[<-Vi.keys,hk,Lx]at Z9
  cases e:ns[j]? with
  |none=>rw[e]at Z9;cases Z9
  |some n=>
   rw[e]at Z9
   cases Z9
   rcases cV (show rP (NU n) v=true from Yd)with ⟨i,t,e1,e2⟩|⟨x',t,e1,e2⟩
   ·cases e1;exact⟨n,t,rfl,e2⟩
   ·cases e1
 have WY:U4.toList.length=ns.length:=by rw[MK,Ym.1];exact SW
 refine L6 (Ox ?_ (by rw[WY];have:sizeLine=16777216:=Ms;omega))
 have Xf:(h'.push (seqObj "list" U4.toList.toArray 0)).get? h'.objs.size=some (seqObj "list" U4.toList.toArray 0):=LH _ rfl
 refine L6 (M1 (NO Qy ⟨_,Xf,rfl⟩ Qh (list_sort_tree Xf hI (by omega) λout a0m a1 a2 a3=>⟨_,rfl,?_⟩) (Qz _)))
 refine Le ⟨_,rfl,?_⟩
 have en:a0m=cW ns:=i5 (a2.trans (i_ ns).symm) a3 (iR ns)
 subst en
 obtain⟨e,he⟩:=QT (out:=out) Xf
 have UI:s.heap.get? h'.objs.size=none:=by
  cases e:s.heap.get? h'.objs.size with
  |none=>rfl
  |some o=>exact absurd (Ln (WM _ _ e)) (Me _)
 have kk:∀b o,s.heap.get? b=some o->(QM (h'.push (seqObj "list" U4.toList.toArray 0)) h'.objs.size U4.toList out).get? b=some o:=λb o eb=>by
  have hb:=WM b o eb
  have Vn:b<h'.objs.size:=Ln hb
  rw[QA (LN Vn) (by rw[R_];exact Na Vn)]
  exact Lb _ hb
 refine⟨.ref h'.objs.size,_,I.laidAt (o:= .lst ((cW ns).map V.int)) kk UI ⟨?_,out.toList,e,kb a1,by simpa[seqObj]using he⟩,rfl,q _ (I.hok.nowhere UI)⟩
 have:=a2.length_eq
 rw[L7]
 have:sizeLine=16777216:=Ms
 omega
end
end L2
namespace L2
open PySem PySem.Spec PyProof.Rows
section
variable {prog:Ll} {w:Ly} {A:LF} {E:L0->L5->Prop} {s:L5} {I:L4} {fp wr:List L4} {G:Array Pw->Array Pw->Prop} {n:Nat} {P:Nat->L0->Prop} {St:Nat->L5->Prop}
end
section
variable {X:Cx} {e:Lc} {te:TE} {pos p1 p2 V7:LR}
end
end L2
namespace L2
open PySem PySem.Spec PyProof.Rows
section
variable {prog:Ll} {w:Ly} {A:LF} {E:L0->L5->Prop} {s:L5} {a:L4}
end
section
variable {prog:Ll} {w:Ly} {A:LF} {R:R7->L5->Prop} {I:L4} {fp wr:List L4} {G:Array Pw->Array Pw->Prop} {n:Nat} {P:Nat->L0->Prop} {St:Nat->L5->Prop}
end
section
variable {prog:Ll} {w:Ly} {A:LF} {E:L0->L5->Prop} {s:L5} {p:L4}
end
section
variable {X:Cx}
end
end L2
namespace L2
open PySem PySem.Spec PyProof.Rows PySem.W
def n6 {α:Type} (V:Nat->Nat->Prop) (lt:Nat->Nat->Bool):KasT α->(α->Prop)->Prop
 | .ret a,Q=>Q a
 | .ask i j k,Q=>V i j/\n6 V lt (k (lt i j)) Q
theorem n6.imp {α:Type} {V:Nat->Nat->Prop} {lt:Nat->Nat->Bool} {Q Q':α->Prop} (w:∀a,Q a->Q' a):∀{t:KasT α},n6 V lt t Q->n6 V lt t Q'
 | .ret a,h=>w a h
 | .ask i j k,h=>⟨h.1,n6.imp w h.2⟩
theorem n6.bind {α β:Type} {V:Nat->Nat->Prop} {lt:Nat->Nat->Bool} {f:α->KasT β} {Q:β->Prop}:∀{t:KasT α},n6 V lt t (λa=>n6 V lt (f a) Q)->n6 V lt (t.bind f) Q
 | .ret a,h=>h
 | .ask i j k,h=>⟨h.1,n6.bind h.2⟩
theorem n6.wp {α:Type} {V:Nat->Nat->Prop} {lt:Nat->Nat->Bool} {a1p:Nat->Nat->(Bool->L5->Prop)->L5->Prop} {Good:L5->Prop} (hc:∀i j C s,V i j->Good s->(∀s',Good s'->C (lt i j) s')->a1p i j C s) {Q:α->L5->Prop}:
  ∀{t:KasT α} {s:L5},n6 V lt t (λa=>∀s',Good s'->Q a s')->Good s->t.kasWp a1p Q s
 | .ret a,s,h,g=>h s g
 | .ask i j k,s,h,g=>hc i j _ s h.1 g λs' g'=>n6.wp hc h.2 g'
section
variable {n:Nat} {SN:Nat->Int}
def kk (SN:Nat->Int) (p:Array Nat) (i:Nat):Int:=SN (p.getD i 0)
def ya (SN:Nat->Int) (i j:Nat):Bool:=decide (SN i<SN j)
def Pr (n i j:Nat):Prop:=i<n/\j<n/\i≠j
structure tE (n:Nat) (p:Array Nat):Prop where
 sz:p.size=n
 perm:p.toList.Perm (LZ n)
theorem tE.lt {p:Array Nat} (h:tE n p) {i:Nat} (hi:i<n):p.getD i 0<n:=by
 have W_:i<p.size:=by rw[h.sz];exact hi
 have:p.getD i 0=p[i]:=by simp[QN,W_]
 rw[this]
 exact ME.mp (h.perm.mem_iff.mp (by simp))
theorem tE.inj {p:Array Nat} (h:tE n p) {i j:Nat} (hi:i<n) (hj:j<n) (e:p.getD i 0=p.getD j 0):i=j:=by
 have W_:i<p.size:=by rw[h.sz];exact hi
 have WN:j<p.size:=by rw[h.sz];exact hj
 have e1:p.getD i 0=p[i]:=by simp[QN,W_]
 have e2:p.getD j 0=p[j]:=by simp[QN,WN]
 rw[e1,e2]at e
 have nd:p.toList.Nodup:=(h.perm.nodup_iff).mpr List.nodup_range
 have hp:=O3.mp nd
 have el:p.toList[i]'(by simpa using W_)=p.toList[j]'(by simpa using WN):=by simpa using e
 rcases Rz i j with z|z|z
 ·exact absurd el (hp i j _ _ z)
 ·exact z
 ·exact absurd el.symm (hp j i _ _ z)
theorem tE.pr {p:Array Nat} (h:tE n p) {i j:Nat} (hi:i<n) (hj:j<n) (Xb:i≠j):Pr n (p.getD i 0) (p.getD j 0):=⟨h.lt hi,h.lt hj,λz=>Xb (h.inj hi hj z)⟩
def xH (SN:Nat->Int) (p:Array Nat) (m:Nat):Prop:=∀i j,i<j->j<m->kk SN p i<kk SN p j
def Gq (SN:Nat->Int) (p:Array Nat) (m:Nat):Prop:=∀i j,i<j->j<m->kk SN p j<kk SN p i
theorem xH.more {p:Array Nat} {m:Nat} (h:xH SN p (m+1)) (hl:kk SN p m<kk SN p (m+1)):xH SN p (m+2):=λi j Xb hj=>by
 by_cases e:j=m+1
 ·subst e
  by_cases e2:i=m
  ·subst e2;exact hl
  ·exact PU (h i m (by omega) (by omega)) hl
 ·exact h i j Xb (by omega)
theorem Gq.more {p:Array Nat} {m:Nat} (h:Gq SN p (m+1)) (hl:kk SN p (m+1)<kk SN p m):Gq SN p (m+2):=λi j Xb hj=>by
 by_cases e:j=m+1
 ·subst e
  by_cases e2:i=m
  ·subst e2;exact hl
  ·exact PU hl (h i m (by omega) (by omega))
 ·exact h i j Xb (by omega)
theorem yb {p:Array Nat} (o:tE n p) (hk:∀i j,i<n->j<n->SN i=SN j->i=j):∀(f m:Nat),xH SN p (m+1)->m+1+f=n->n6 (Pr n) (ya SN) (kas_asc p f (m+1)) λr=>m+1<=r/\r<=n/\xH SN p r/\(r<n->kk SN p r<kk SN p (r - 1))
 |0,m,h,e=>⟨Lv _,by omega,h,λz=>by omega⟩
 |f+1,m,h,e=>by
  refine⟨o.pr (by omega) (by omega) (by omega),?_⟩
  rw[OZ]
  by_cases hl:kk SN p (m+1)<kk SN p m
  ·simp only[show ya SN (p.getD (m+1) 0) (p.getD m 0)=true from decide_eq_true hl,if_true]
   exact⟨Lv _,by omega,h,λ_=>by rw[OZ];exact hl⟩
  ·simp only[show ya SN (p.getD (m+1) 0) (p.getD m 0)=false from decide_eq_false hl,Ma,if_false]
   have UR:kk SN p m≠kk SN p (m+1):=λz=>by
    have:=o.inj (i:=m) (j:=m+1) (by omega) (by omega) (hk _ _ (o.lt (by omega)) (o.lt (by omega)) z)
    omega
   refine n6.imp (λr ⟨a,b,c,d⟩=>⟨by omega,b,c,d⟩) (yb o hk f (m+1) (h.more (by omega)) (by omega))
theorem BY {p:Array Nat} (o:tE n p) (hk:∀i j,i<n->j<n->SN i=SN j->i=j):∀(f m:Nat),Gq SN p (m+1)->m+1+f=n->n6 (Pr n) (ya SN) (kas_desc f p (m+1) 0) λr=>r.1=p/\r.2.2=0/\m+1<=r.2.1/\r.2.1<=n/\Gq SN p r.2.1
 |0,m,h,e=>⟨rfl,rfl,Lv _,by show m+1<=n;omega,h⟩
 |f+1,m,h,e=>by
  refine⟨o.pr (by omega) (by omega) (by omega),?_⟩
  rw[OZ]
  by_cases hl:kk SN p (m+1)<kk SN p m
  ·simp only[show ya SN (p.getD (m+1) 0) (p.getD m 0)=true from decide_eq_true hl,if_true,gt_iff_lt,Me,if_false]
   exact n6.imp (λr ⟨a,b,c,d⟩=>⟨a,b,by omega,d⟩) (BY o hk f (m+1) (h.more hl) (by omega))
  ·simp only[show ya SN (p.getD (m+1) 0) (p.getD m 0)=false from decide_eq_false hl,Ma,if_false]
   have UR:kk SN p m≠kk SN p (m+1):=λz=>by
    have:=o.inj (i:=m) (j:=m+1) (by omega) (by omega) (hk _ _ (o.lt (by omega)) (o.lt (by omega)) z)
    omega
   have WY:kk SN p m<kk SN p (m+1):=by omega
   refine⟨o.pr (by omega) (by omega) (by omega),?_⟩
   simp only[show ya SN (p.getD m 0) (p.getD (m+1) 0)=true from decide_eq_true WY,if_true]
   exact⟨rfl,rfl,Lv _,by show m+1<=n;omega,h⟩
theorem rE {p q:Array Nat} {i j:Nat} (h:p[i]? =q[j]?):p.getD i 0=q.getD j 0:=by
 rw[O_,O_,h]
theorem Ed {p:Array Nat} (o:tE n p) (i j:Nat):tE n (kas_rev p i j):=
 ⟨by unfold kas_rev;rw[mirror_size];exact o.sz,(Pb.mp (mirror_perm p i j _)).trans o.perm⟩
theorem Ee {p:Array Nat} (o:tE n p) {m:Nat} (hm:m<=n) (h:Gq SN p m):xH SN (kas_rev p 0 m) m:=λi j Xb hj=>by
 have e:∀k,k<m->kk SN (kas_rev p 0 m) k=kk SN p (m - 1 - k):=λk hk=>by
  unfold kk
  congr 1
  refine rE ?_
  have:=getElem?_mirror_all (xs:=p) (i:=0) (j:=m) (by rw[o.sz];exact hm) k
  unfold kas_rev
  rw[this,if_pos ⟨ML _,hk⟩,PV]
 rw[e i (by omega),e j hj]
 exact h _ _ (by omega) (by omega)
theorem BZ {p:Array Nat} (o:tE n p) (hn:2<=n) (hk:∀i j,i<n->j<n->SN i=SN j->i=j):n6 (Pr n) (ya SN) (kas_count n p) λr=>1<=r.1/\r.1<=n/\tE n r.2/\xH SN r.2 r.1:=by
 unfold kas_count
 refine n6.bind (n6.imp (λm ⟨h1,h2,h3,h4⟩=> ?_) (yb o hk (n - 1) 0 (λi j Xb hj=>by omega) (by omega)))
 by_cases e:m=n
 ·rw[if_pos (by simp[e])];exact⟨by show 1<=m;omega,h2,o,h3⟩
 ·rw[if_neg (by simp[e])]
  by_cases e1:m>1
  ·rw[if_pos e1]
   refine⟨o.pr (by omega) (by omega) (by omega),?_⟩
   simp only[show ya SN (p.getD 0 0) (p.getD (m - 1) 0)=true from decide_eq_true (h3 0 (m - 1) (by omega) (by omega)),if_true]
   exact⟨by show 1<=m;omega,h2,o,h3⟩
  ·have em:m=1:=by omega
   subst em
   rw[if_neg (by omega)]
   have hd:Gq SN p 2:=λi j Xb hj=>by
    have hi:i=0:=by omega
    have WN:j=1:=by omega
    subst hi;subst WN
    exact h4 (by omega)
   unfold kas_descPart
   refine n6.bind (n6.imp (λr ⟨a,b,c,d,g⟩=> ?_) (BY o hk (n - (1+1)) 1 hd (by omega)))
   rw[if_neg (by omega)]
   unfold kas_tail3
   rw[a]
   have o2:=Ed o 0 r.2.1
   obtain⟨q,hq⟩:∃q,r.2.1=q+1:=⟨r.2.1 - 1,by omega⟩
   rw[hq]at d g o2 ⊢
   refine n6.bind (n6.imp (λm2 ⟨x1,x2,x3,_⟩=>⟨by show 1<=m2;omega,x2,o2,x3⟩) (yb o2 hk (n - (q+1)) q (Ee o d g) (by omega)))
theorem sk {p:Array Nat} (o:tE n p) (hk:∀i j,i<n->j<n->SN i=SN j->i=j) {k:Nat} (XN:k<n) (ha:xH SN p k):∀(f l r:Nat),l<=r->r<=k->r - l<=f->(∀i,i<l->kk SN p i<kk SN p k)->(∀i,r<=i->i<k->kk SN p k<kk SN p i)->
  n6 (Pr n) (ya SN) (kas_place p k f l r) λm=>m<=k/\(∀i,i<m->kk SN p i<kk SN p k)/\∀i,m<=i->i<k->kk SN p k<kk SN p i
 |0,l,r,h1,h2,h3,h4,h5=>⟨by omega,h4,λi hi=>h5 i (by omega)⟩
 |f+1,l,r,h1,h2,h3,h4,h5=>by
  unfold kas_place
  by_cases e:l>=r
  ·rw[if_pos e];exact⟨by omega,h4,λi hi=>h5 i (by omega)⟩
  ·rw[if_neg e]
   refine⟨o.pr XN (by omega) (by omega),?_⟩
   have XU:(l+r) / 2<r:=by omega
   have a0i:l<=(l+r) / 2:=by omega
   by_cases hl:kk SN p k<kk SN p ((l+r) / 2)
   ·simp only[show ya SN (p.getD k 0) (p.getD ((l+r) / 2) 0)=true from decide_eq_true hl,if_true]
    refine sk o hk XN ha f l ((l+r) / 2) a0i (by omega) (by omega) h4 λi hi a26=> ?_
    by_cases z:i=(l+r) / 2
    ·subst z;exact hl
    ·exact PU hl (ha _ _ (by omega) a26)
   ·simp only[show ya SN (p.getD k 0) (p.getD ((l+r) / 2) 0)=false from decide_eq_false hl,Ma,if_false]
    have UR:kk SN p ((l+r) / 2)≠kk SN p k:=λz=>by
     have:=o.inj (i:=(l+r) / 2) (j:=k) (by omega) XN (hk _ _ (o.lt (by omega)) (o.lt XN) z)
     omega
    have WY:kk SN p ((l+r) / 2)<kk SN p k:=by omega
    refine sk o hk XN ha f ((l+r) / 2+1) r (by omega) h2 (by omega) (λi hi=> ?_) h5
    by_cases z:i=(l+r) / 2
    ·subst z;exact WY
    ·exact PU (ha _ _ (show i<(l+r) / 2 by omega) (by omega)) WY
theorem Ef {p:Array Nat} (o:tE n p) {k m:Nat} (XN:k<n) (hm:m<=k) (ha:xH SN p k) (h1:∀i,i<m->kk SN p i<kk SN p k) (h2:∀i,m<=i->i<k->kk SN p k<kk SN p i):tE n (bubble p k (k - m))/\xH SN (bubble p k (k - m)) (k+1):=by
 refine⟨⟨by rw[bubble_size];exact o.sz,(Pb.mp (bubble_perm p k _)).trans o.perm⟩,λi j Xb hj=> ?_⟩
 have e:∀q,kk SN (bubble p k (k - m)) q=if q=m then kk SN p k else if m<q/\q<=k then kk SN p (q - 1)else kk SN p q:=λq=>by
  have:=getElem?_bubble (xs:=p) (src:=k) (by rw[o.sz];exact XN) (k - m) (by omega) q
  rw[show k - (k - m)=m by omega]at this
  unfold kk
  split
  ·rename_i z;rw[if_pos z]at this;congr 1;exact rE this
  ·rename_i z
   rw[if_neg z]at this
   split
   ·rename_i z2;rw[if_pos z2]at this;congr 1;exact rE this
   ·rename_i z2;rw[if_neg z2]at this;congr 1;exact rE this
 rw[e i,e j]
 by_cases i1:i=m
 ·rw[if_pos i1,if_neg (by omega),if_pos (by omega)]
  exact h2 _ (by omega) (by omega)
 ·rw[if_neg i1]
  by_cases i2:m<i/\i<=k
  ·rw[if_pos i2,if_neg (by omega),if_pos (by omega)]
   exact ha _ _ (by omega) (by omega)
  ·rw[if_neg i2]
   by_cases j1:j=m
   ·rw[if_pos j1];exact h1 i (by omega)
   ·rw[if_neg j1]
    by_cases j2:m<j/\j<=k
    ·rw[if_pos j2]
     by_cases z:i=j - 1
     ·omega
     ·exact ha _ _ (by omega) (by omega)
    ·rw[if_neg j2];exact ha _ _ Xb (by omega)
theorem B_ (hk:∀i j,i<n->j<n->SN i=SN j->i=j):∀(f:Nat) (p:Array Nat) (k:Nat),tE n p->xH SN p k->k+f=n->n6 (Pr n) (ya SN) (kas_bin f p k) λq=>tE n q/\xH SN q n
 |0,p,k,o,h,e=>⟨o,by rw[<-e];exact h⟩
 |f+1,p,k,o,h,e=>by
  unfold kas_bin
  refine n6.bind (n6.imp (λm ⟨h1,h2,h3⟩=> ?_) (sk o hk (show k<n by omega) h k 0 k (ML _) (Lv _) (by omega) (λi hi=>by omega) λi h1 h2=>by omega))
  obtain⟨o2,a2⟩:=Ef o (show k<n by omega) h1 h h2 h3
  exact B_ hk f _ (k+1) o2 a2 (by omega)
theorem Eg (hn:2<=n) (hk:∀i j,i<n->j<n->SN i=SN j->i=j):n6 (Pr n) (ya SN) (kas_sort n) λq=>tE n q/\xH SN q n:=by
 have o:tE n (NH (LZ n)):=⟨by simp,by simp⟩
 unfold kas_sort
 refine n6.bind (n6.imp (λr ⟨h1,h2,h3,h4⟩=> ?_) (BZ o hn hk))
 by_cases e:r.1<n
 ·rw[if_pos e,show max r.1 1=r.1 by omega]
  exact B_ hk _ _ _ h3 h4 (by omega)
 ·rw[if_neg e]
  have:r.1=n:=by omega
  rw[this]at h4
  exact⟨h3,h4⟩
end
end L2
namespace L2
open PySem PySem.Spec PyProof.Rows PySem.W
section
variable {prog:Ll} {w:Ly} {A:LF} {E:L0->L5->Prop} {s:L5}
def p_ (h:Lr) (v:L0) (k:Int):Prop:=∃b o t rest m,v= .ref b/\h.get? b=some o/\o.cls= .type "tuple"/\o.data= .seq (Array.mk (Nr k t::rest)) m
theorem Gr {v u:L0} {k l:Int} {Q:Bool->L5->Prop} (hv:p_ s.heap v k) (hu:p_ s.heap u l) (UR:k≠l) (h:Q (decide (k<l)) s):Lg (Lj prog w) A (keyLt' (tuples' true) v u) Q E s:=by
 obtain⟨b,o,t,rest,m,rfl,h1,h2,h3⟩:=hv
 obtain⟨b',o',t',Za,m',rfl,g1,g2,g3⟩:=hu
 refine kat_lt h1 h3 g1 g3 ?_
 show KatLex prog w A true _ Q ((Nr k t,Nr l t')::rest.zip Za) 0 s
 refine kat_cons (wpAny_eqBool_int ?_)
 have e:(k==l)=false:=beq_eq_false_iff_ne.mpr UR
 rw[e]
 exact kat_no (oneLt_int h)
theorem ul:∀{vs:List L0} {ks:List Int},vs.length=ks.length->(∀(i:Nat) v,vs[i]? =some v->p_ s.heap v (ks.getD i 0))->∃fs:List L0,KatTups s.heap vs fs/\fs.length=vs.length/\∀f∈fs,∃k t,f=Nr k t
 |[],ks,_,_=>⟨[], .nil,rfl,λf hf=>by cases hf⟩
 |v::vs,[],hl,_=>by cases hl
 |v::vs,k::ks,hl,h=>by
  obtain⟨fs,h1,h2,h3⟩:=ul (vs:=vs) (ks:=ks) (by simpa using hl) λi u hu=>by
   have:=h (i+1) u (by simpa using hu)
   simpa using this
  obtain⟨b,o,t,rest,m,rfl,g1,g2,g3⟩:=h 0 v rfl
  refine⟨_::fs,KatTups.cons g1 g2 g3 (f:=Nr ((k::ks).getD 0 0) t) rfl h1,by simp[h2],λf hf=> ?_⟩
  rcases Li.mp hf with rfl|hf
  ·exact⟨_,_,rfl⟩
  ·exact h3 f hf
def sq (ks:List Int) (p:List Nat):Prop:=p.Perm (LZ ks.length)/\(p.map λi=>ks.getD i 0).Pairwise (·<·)
theorem u_ {SN:Nat->Int} {p:Array Nat} {n:Nat} (hs:p.size=n) (h:xH SN p n):(p.toList.map SN).Pairwise (·<·):=by
 refine O3.mpr λi j hi hj Xb=> ?_
 rw[L7,MK]at hi hj
 have:=h i j Xb (by omega)
 unfold kk at this
 simpa[QN,hi,hj]using this
theorem Ap {α β:Type} {vs:List α} {ks:List β} (hl:vs.length=ks.length) (h:vs.length<2):(vs=[]/\ks=[])\/∃v k,vs=[v]/\ks=[k]:=by
 cases vs with
 |nil=>exact .inl ⟨rfl,M_.mp hl.symm⟩
 |cons v vs=>
  cases vs with
  |nil=>
   obtain⟨k,hk⟩:=List.length_eq_one_iff.mp hl.symm
   exact .inr ⟨v,k,rfl,hk⟩
  |cons=>exact absurd h (by simp only[Lu];omega)
theorem sr {a:L4} {vs:List L0} {ks:List Int} {n:Nat} {P:PySem.Fin->L5->Prop} (ho:s.heap.get? a=some (seqObj "list" vs.toArray n)) (hl:vs.length=ks.length) (hv:∀(i:Nat) v,vs[i]? =some v->p_ s.heap v (ks.getD i 0)) (a0n:ks.Nodup) (a0o:vs.length<64)
  (h:∀p:List Nat,sq ks p->P (.done (.ret .none)) {s with heap:=QM s.heap a vs (NH (p.map λi=>vs.getD i M8))}):
  Lg (Lj prog w) A (OU.«list.sort» ⟨[.ref a],[]⟩) P E s:=by
 rw[list_sort_plain]
 have ha:a<s.heap.objs.size:=Ln ho
 refine L6 (listItems_at ho rfl ?_)
 refine L6 (QU ho rfl ?_ (hsz2:=ML _) (hsz:=by rw[La,Ms];omega))
 obtain⟨e1,a1q⟩:∃e1,(s.heap.update a (MH λ_=> #[])).get? a=some (seqObj "list" #[] e1):=⟨_,get?_update_seq ho (λ_=> #[])⟩
 refine L6 (RF a1q rfl ?_)
 refine L6 (wpAny_newTuple ?_ (by show vs.length<=_;rw[Ms];omega))
 refine L6 (Ox ?_ (ML _))
 refine M1 ?_
 have a27:∀b o,b≠a->s.heap.get? b=some o->(((s.heap.update a (MH λ_=> #[])).push (seqObj "tuple" vs.toArray 0)).push (seqObj "list" #[] 0)).get? b=some o:=λb o hb e=>by
  refine Lb _ (Lb _ ?_)
  rw[Heap.get?_update_ne _ _ _ _ hb];exact e
 have ZF:(((s.heap.update a (MH λ_=> #[])).push (seqObj "tuple" vs.toArray 0)).push (seqObj "list" #[] 0)).get? a=some (seqObj "list" #[] e1):=Lb _ (Lb _ a1q)
 have YW:∀(i:Nat) v,vs[i]? =some v->p_ (((s.heap.update a (MH λ_=> #[])).push (seqObj "tuple" vs.toArray 0)).push (seqObj "list" #[] 0)) v (ks.getD i 0):=λi v e=>by
  obtain⟨b,o,t,rest,m,rfl,g1,g2,g3⟩:=hv i v e
  refine⟨b,o,t,rest,m,rfl,a27 b o (λz=> ?_) g1,g2,g3⟩
  subst z
  rw[ho]at g1
  cases g1
  exact absurd (show Nd "list"=Nd "tuple" from g2) (by decide)
 show Lg (Lj prog w) A _ P E {s with heap:=((s.heap.update a (MH λ_=> #[])).push (seqObj "tuple" vs.toArray 0)).push (seqObj "list" #[] 0)}
 dsimp only
 have hsz:vs.toArray.size=vs.length:=by simp
 have Xh:∀p:List Nat,p.length=vs.length->(NH (p.map λi=>vs.getD i M8)).size<=sizeLine:=λp hp=>by
  rw[La,L7,hp,Ms];omega
 by_cases h2:vs.toArray.size<2
 ·rw[if_pos h2,if_pos h2]
  refine L6 (Le ?_)
  rw[StateT.run_pure]
  refine L6 (Le ?_)
  dsimp only
  obtain⟨p,hp,U0,a28⟩:∃p:List Nat,sq ks p/\p.length=vs.length/\Ro (λx=>x.2) (arrOf (SortSt.mk' general' (vs.toArray.zip vs.toArray) #[] 7 none))=NH (p.map λi=>vs.getD i M8):=by
   rcases Ap hl (by simpa using h2)with ⟨rfl,rfl⟩|⟨v,k,rfl,rfl⟩
   ·exact⟨[],⟨NG _,Ph⟩,rfl,by show Ro (λx:Keyed=>x.2) ((#[]:Array L0).zip #[])=_;simp⟩
   ·exact⟨[0],⟨NG _,List.pairwise_singleton _ _⟩,rfl,by show Ro (λx:Keyed=>x.2) ((#[v]:Array L0).zip #[v])=_;simp⟩
  refine L6 (RF ZF rfl ?_)
  have Zb:Ro (λx=>x.2) (arrOf (SortSt.mk' general' (vs.toArray.zip vs.toArray) #[] 7 none))=NH (p.map λi=>vs.getD i M8):=a28
  refine L6 (QU ZF rfl ?_ (hsz2:=by have:=Xh p U0;rw[<-Zb]at this;exact Pk this))
  simp only[bne_self_eq_false,Ma,if_false]
  have hh:=h p hp
  rw[<-Zb]at hh
  exact Le hh
 ·rw[if_neg h2,if_neg h2]
  have Ye:2<=vs.length:=by rw[hsz]at h2;omega
  obtain⟨fs,t1,t2,t3⟩:=ul (s:={s with heap:=((s.heap.update a (MH λ_=> #[])).push (seqObj "tuple" vs.toArray 0)).push (seqObj "list" #[] 0)}) hl YW
  refine L6 (kat_kind (T:= .type "int") t1 (by omega) (λv hv=> ?_) (by decide) ?_)
  ·obtain⟨k,t,rfl⟩:=t3 v hv
   exact .now
  rw[show (Nd "int" != Nd "tuple")=true by decide]
  have a0p:(kas_sort vs.length).kasWp (kas_ask prog w A (tuples' true) vs) (λp s'=>s'={s with heap:=((s.heap.update a (MH λ_=> #[])).push (seqObj "tuple" vs.toArray 0)).push (seqObj "list" #[] 0)}/\tE vs.length p/\xH (λi=>ks.getD i 0) p vs.length) {s with heap:=((s.heap.update a (MH λ_=> #[])).push (seqObj "tuple" vs.toArray 0)).push (seqObj "list" #[] 0)}:=by
   have Zc:∀i j,i<vs.length->j<vs.length->ks.getD i 0=ks.getD j 0->i=j:=λi j hi hj e=>by
    have hp:=O3.mp a0n
    have e':ks[i]'(by omega)=ks[j]'(by omega):=by simpa[show i<ks.length by omega,show j<ks.length by omega]using e
    rcases Rz i j with z|z|z
    ·exact absurd e' (hp i j _ _ z)
    ·exact z
    ·exact absurd e'.symm (hp j i _ _ z)
   refine n6.wp (V:=Pr vs.length) (lt:=ya λi=>ks.getD i 0) (Good:=λs'=>s'={s with heap:=((s.heap.update a (MH λ_=> #[])).push (seqObj "tuple" vs.toArray 0)).push (seqObj "list" #[] 0)}) (λi j C s' Zd hg hC=> ?_) (n6.imp (λp hp s' T3=>⟨T3,hp⟩) (Eg Ye Zc)) rfl
   subst hg
   have hi:vs[i]? =some (vs.getD i M8):=by simp[Zd.1]
   have hj:vs[j]? =some (vs.getD j M8):=by simp[Zd.2.1]
   exact Gr (YW i _ hi) (YW j _ hj) (λz=>Zd.2.2 (Zc i j Zd.1 Zd.2.1 z)) (hC _ rfl)
  refine L6 (MR (kat_run (vs:=vs) (ks:=vs) (Q:=λWI s'=>∃p:Array Nat,arrOf WI=p.map (kas_item (vs.toArray.zip vs.toArray))/\failedOf WI=none/\s'={s with heap:=((s.heap.update a (MH λ_=> #[])).push (seqObj "tuple" vs.toArray 0)).push (seqObj "list" #[] 0)}/\tE vs.length p/\xH (λi=>ks.getD i 0) p vs.length)
   rfl Ye a0o (λp' WI s' a1 a2 a3 a4=>⟨p',a2,a3,a4⟩) a0p) ?_ λ_ _ e=>e)
  rintro⟨⟨⟩,WI⟩ s' ⟨p,a29,hf,rfl,a0q,a2a⟩
  dsimp only
  have a0r:=kat_snds (vs:=vs) (ks:=vs) rfl a29
  have U0:p.toList.length=vs.length:=by rw[MK];exact a0q.sz
  refine L6 (RF ZF rfl ?_)
  rw[a0r]
  refine L6 (QU ZF rfl ?_ (hsz2:=Pk (Xh _ U0)))
  rw[hf]
  simp only[bne_self_eq_false,Ma,if_false]
  exact Le (h p.toList ⟨by rw[<-hl];exact a0q.perm,u_ a0q.sz a2a⟩)
end
section
variable {X:Cx}
inductive kI (H:Hp):List V->List Int->Prop
 |nil:kI H [] []
 |cons {a:L4} {k:Int} {rest ys:List V} {ks:List Int}:H a=some (.tup (.int k::rest))->kI H ys ks->kI H (.ref a::ys) (k::ks)
theorem kI.length {H:Hp}:∀{ys:List V} {ks:List Int},kI H ys ks->ys.length=ks.length
 |_,_, .nil=>rfl
 |_,_, .cons _ t=>by rw[Lu,Lu,t.length]
theorem wo {P:Ll} {w:Ly} {H:Hp} {h h':Lr} (ok:lF P w H h) (kp:∀b o,h.get? b=some o->h'.get? b=some o):∀{ys:List V} {ks:List Int} {us:List L0},kI H ys ks->bp ys us->∀(i:Nat) v,us[i]? =some v->p_ h' v (ks.getD i 0)
 |_,_,_, .nil, .nil,i,v,e=>by simp at e
 |_,_,_, .cons (a:=a) (k:=k) (rest:=rest) ha t, .cons ru rt,i,v,e=>by
  cases i with
  |zero=>
   simp at e
   subst e
   obtain⟨_,its,r,o,h1,h2,n,h3,_⟩:=(show cp P w H h a (.tup (.int k::rest))from ok a _ ha)
   cases r with
   |cons rk rr=>
    obtain⟨t,rfl⟩:=rk
    exact⟨a,o,t,_,n,ru,kp _ _ h1,h2,h3⟩
  |succ i=>exact wo ok kp t rt i v (by simpa using e)
theorem um {ys:List V} {us:List L0} (r:bp ys us):∀p:List Nat,(∀i∈p,i<ys.length)->bp (p.map λi=>ys.getD i .non) (p.map λi=>us.getD i M8)
 |[],_=> .nil
 |i::p,h=>by
  have hi:=h i Lo
  have hy:ys[i]? =some (ys.getD i .non):=by simp[hi]
  obtain⟨u,hu,ru⟩:=r.get hy
  have e:us.getD i M8=u:=by simp[hu]
  refine .cons ?_ (um r p λj hj=>h j (Lp _ hj))
  show bW (ys.getD i .non) (us.getD i M8)
  rw[e];exact ru
theorem v3:d_ X (.builtin "sorted") (λxs H Q=>∃p ys ks,xs=[.ref p]/\(H p=some (.lst ys)\/H p=some (.tup ys))/\kI H ys ks/\ks.Nodup/\ks.length<64/\
  ∀l q,H l=none->sq ks q->Q (.ref l) (ce H l (.lst (q.map λi=>ys.getD i .non)))):=by
 intro Sv s σ H xs us Q I rv h
 obtain⟨p,ys,ks,rfl,hp,ra,nd,a0o,q⟩:=h
 obtain⟨u,rfl,ru⟩:=j_ rv
 cases ru
 have hl:=ra.length
 obtain⟨its,r,T,o,n,hT,ho,hc,hd⟩:∃its:List L0,bp ys its/\∃(T:String) (o:LJ) (n:Nat),(T="list"\/T="tuple")/\s.heap.get? p=some o/\o.cls= .type T/\o.data= .seq its.toArray n:=by
  rcases hp with hp|hp
  ·obtain⟨its,r,⟨o,n,e,c,_,d⟩,_⟩:=I.list (dC.of hp)
   exact⟨its,r,"list",o,n, .inl rfl,e,c,d⟩
  ·obtain⟨hz,its,r,o,e,c,n,d,_⟩:=(show cp X.prog X.w H s.heap p (.tup ys)from I.hok p _ hp)
   exact⟨its,r,"tuple",o,n, .inr rfl,e,c,d⟩
 have SW:=r.length
 refine O2 RE Rl Rm (Rn _) ?_
 unfold OU.«sorted»
 refine L6 (m:=RZ "sorted" 1 1 _) (Le ?_)
 refine L6 (RA p hT ho hc hd (λh' WM=> ?_) (by rw[La,Ms];omega))
 have eT:its.toArray.toList=its:=by simp
 rw[eT]
 refine L6 (Ox ?_ (by rw[Ms];omega))
 have Xf:(h'.push (seqObj "list" its.toArray 0)).get? h'.objs.size=some (seqObj "list" its.toArray 0):=LH _ rfl
 refine L6 (M1 (NO Qy ⟨_,Xf,rfl⟩ Qh (sr Xf (by omega) (wo I.hok (λb o e=>Lb _ (WM b o e)) ra r) nd (by omega) λz hz=>⟨_,rfl,?_⟩) (Qz _)))
 refine Le ⟨_,rfl,?_⟩
 obtain⟨e,he⟩:=QT (out:=NH (z.map λi=>its.getD i M8)) Xf
 have UI:s.heap.get? h'.objs.size=none:=by
  cases e:s.heap.get? h'.objs.size with
  |none=>rfl
  |some o=>exact absurd (Ln (WM _ _ e)) (Me _)
 have kk:∀b o,s.heap.get? b=some o->(QM (h'.push (seqObj "list" its.toArray 0)) h'.objs.size its (NH (z.map λi=>its.getD i M8))).get? b=some o:=λb o eb=>by
  have hb:=WM b o eb
  have Vn:b<h'.objs.size:=Ln hb
  rw[QA (LN Vn) (by rw[R_];exact Na Vn)]
  exact Lb _ hb
 have a2b:z.length=ys.length:=by have:=hz.1.length_eq;rw[Om]at this;omega
 refine⟨.ref h'.objs.size,_,I.laidAt (o:= .lst (z.map λi=>ys.getD i .non)) kk UI ⟨?_,z.map λi=>its.getD i M8,e,um r z λi hi=> ?_,by simpa[seqObj]using he⟩,rfl,q _ z (I.hok.nowhere UI) hz⟩
 ·rw[L7,a2b,Ms];omega
 ·have:=ME.mp (hz.1.mem_iff.mp hi)
  omega
end
end L2
namespace L2
open PySem PySem.Spec PyProof.Rows
section
variable {prog:Ll} {w:Ly} {A:LF} {E:L0->L5->Prop} {s:L5}
theorem uo {I:L4} {fp wr:List L4} {Sz:Array L0} {St:Nat->Lr->Prop} (W:Walks prog w A I fp wr Sz.size (λi v=>Sz[i]? =some v) St):∀(n i:Nat) (s:L5) (Q:List L0->L5->Prop),St i s.heap->i+n<=Sz.size->
  (∀(h':Lr) (tk:Nat),St (i+n) h'->(∀b o,b∉wr->s.heap.get? b=some o->h'.get? b=some o)->Q ((Sz.toList.drop i).take n) {s with heap:=h',toks:=tk})->Lg (Lj prog w) A (draw (.ref I) n) Q E s
 |0,i,s,Q,st,hn,k=>by
  refine Le ?_
  have:=k s.heap s.toks st λ_ _ _ e=>e
  rw[List.take_zero]at this
  exact this
 |n+1,i,s,Q,st,hn,k=>by
  unfold draw
  refine L6 (W.item i s _ E (by omega) st λv h' tk hv WI kp=> ?_)
  refine L6 (M1 (uo W n (i+1) _ _ WI (by omega) λh2 a0s XJ a0t=>Le ?_))
  have e:(Sz.toList.drop i).take (n+1)=v::(Sz.toList.drop (i+1)).take n:=by
   obtain⟨hl,he⟩:=Array.getElem?_eq_some_iff.mp hv
   rw[O4 (by simpa using hl),List.take_succ_cons]
   simp[he]
  have:=k h2 a0s (by rw[show i+(n+1)=i+1+n by omega];exact XJ) λb o hb e=>a0t b o hb (kp b o hb e)
  rw[e]at this
  exact this
theorem q0 {l:L4} {Sz:Array L0} {Q:List L0->L5->Prop} (hA:A.handled=none) (hl:s.heap.IsList l Sz)
  (k:∀(h':Lr) (tk:Nat),(∀b o,b≠s.heap.objs.size->s.heap.get? b=some o->h'.get? b=some o)->Q Sz.toList {s with heap:=h',toks:=tk}):Lg (Lj prog w) A (unpackItems (.ref l) Sz.size none) Q E s:=by
 have Vn:l<s.heap.objs.size:=by obtain⟨o,ho,_⟩:=id hl;exact Ln ho
 have ty:s.TypeIs (.ref l) "list":=by obtain⟨o,ho,hc,_⟩:=id hl;exact⟨o,ho,hc⟩
 unfold unpackItems notIterableAtAll
 refine L6 (L6 (wpAny_specialOf ty PySem.F.slot_list_iter.lookup ?_))
 refine Le ?_
 refine L6 (M1 (Pe hl ?_))
 have W:=Walks.list (prog:=prog) (w:=w) (A:=A) hA s.heap.objs.size l (LN Vn) Sz
 refine L6 (M1 (uo W Sz.size 0 _ _ ⟨⟨_,LH _ rfl,rfl,rfl⟩,hl.push _⟩ (by omega) λh' tk st kp=> ?_))
 have e:((Sz.toList.drop 0).take Sz.size)=Sz.toList:=by rw[S8];exact List.take_of_length_le (by simp)
 rw[e]
 rw[if_neg (by simp)]
 rw[PV]at st
 refine L6 (M1 (W.done _ _ E st λh2 a0s a0t=> ?_))
 refine Le (k h2 a0s λb o hb eb=> ?_)
 have nb:b∉[s.heap.objs.size]:=λz=>hb (Lk.mp z)
 exact a0t b o nb (kp b o nb (Lb _ eb))
theorem oR {env:MM} {XW:List Lc} {x1:Nat} {pos:LR} {l:L4} {Sz:Array L0} {Q:Unit->L5->Prop} (hA:A.handled=none) (hl:s.heap.IsList l Sz) (hn:(M9 XW env).length=Sz.size) (Vr:(M9 XW env).findIdx? (·.1)=none)
  (k:∀(h':Lr) (tk:Nat),(∀b o,b≠s.heap.objs.size->s.heap.get? b=some o->h'.get? b=some o)->Lg (Lj prog w) A (assignInOrder ((M9 XW env).map (·.2)) Sz.toList) Q E {s with heap:=h',toks:=tk}):
  Lg (Lj prog w) A (NR (.Tuple XW x1 pos) env (.ref l)) Q E s:=by
 rw[assign_Tuple]
 refine L6 (Ov ?_)
 unfold unpack
 rw[Vr,hn]
 exact L6 (M1 (q0 hA hl λh' tk kp=>k h' tk kp))
end
section
variable {X:Cx} {pos:LR}
def JY (K:K_) (n:Nat) (t:Bw):TG:=λv σ H Q=>∃a xs,v= .ref a/\dC K H a xs/\xs.length=n/\t xs σ H Q
theorem C1 {es:List Lc} {k:Nat} {t:Bw} {n:Nat} (hc:X.calm=true) (h:Bx X es t) (hn:(M9 es X.env).length=n:=by rfl) (Vr:(M9 es X.env).findIdx? (·.1)=none:=by rfl):PG X (.Tuple es k pos) (JY X.K n t):=by
 intro Sv s σ H v u Q I r hw
 obtain⟨a,xs,e1,hq,hl,hw⟩:=hw
 subst e1
 cases r
 obtain⟨its,rv,ht,hz⟩:=I.list hq
 refine oR (I.ok.hd hc) ht.isList (by simp[hn,<-hl,rv.length]) Vr λh' tk hx=> ?_
 have I1:aP X Sv σ H {s with heap:=h',toks:=tk}:=I.kept (t':=tk) λb o e=>hx b o (LN (Ln e)) e
 exact h Sv _ σ H xs _ Q I1 (by simpa using rv) hw
def JZ (K:K_):V->Option Int->Option Int->Hp->VK->Prop:=λx lo hi H Q=>∃a xs,x= .ref a/\iY K H a xs/\(HT.fH xs.length 0 lo=0/\HT.fH xs.length xs.length hi=xs.length)/\Q (.ref a) H
theorem n8 {prog:Ll} {w:Ly} {A:LF} {E:L0->L5->Prop} {s:L5} {t sl:L4} {Sz:Array L0} {vl vu:L0} {lo hi:Option Int} {Q:L0->L5->Prop} (ht:QF s.heap t Sz) (hs:s.heap.IsSliceOf sl vl vu .none) (pl:OL vl lo) (pu:OL vu hi)
  (hw:HT.fH Sz.size 0 lo=0/\HT.fH Sz.size Sz.size hi=Sz.size) (h:Q (.ref t) s):Lg (Lj prog w) A (Oe (.ref t) (.ref sl)) Q E s:=by
 obtain⟨os,Yg,ZC,Z2⟩:=id hs
 have a06:s.TypeIs (.ref sl) "slice":=⟨os,Yg,ZC⟩
 unfold Oe
 try with_reducible refine M1 ?_
 first|refine L6 (Le ?_)|skip
 refine L6 (Ry ht.typeIs (by decide) ?_)
 refine L6 (Q5 (name:=O9 "__getitem__") ht.typeIs M7
  (NO M7 ht.typeIs QW ?_ (Rf _ _)))
 show Lg _ _ (P6 (.ref t)>>=_) _ _ s
 refine L6 (P7 ht ?_)
 refine L6 (PH a06 ?_)
 rw[if_pos (by decide)]
 refine L6 (HT.ka hs pl pu ?_)
 show Lg _ _ (if (((HT.fH Sz.size 0 lo:Nat):Int)==0&&(1:Int)==1&&(HT.fH Sz.size Sz.size hi - HT.fH Sz.size 0 lo)==Sz.size)=true then _ else _) _ _ s
 rw[if_pos (by rw[hw.1,hw.2];simp)]
 unfold Pc
 refine L6 (L6 (PH ht.typeIs (Le ?_)))
 rw[if_pos (by decide)]
 refine L6 (S0 ?_)
 exact O5 ⟨_,rfl,Le h⟩
theorem Eh:Fk X (JZ X.K):=by
 intro Sv s σ H x v vl vu lo hi sl Q I rx hs pl pu h
 obtain⟨a,xs,rfl,hx,hw,q⟩:=h
 cases rx
 obtain⟨its,r,ht,hz⟩:=I.tuple hx
 have SW:its.toArray.size=xs.length:=by rw[La];exact r.length.symm
 refine⟨"tuple",_,M7.lookup,ht.typeIs,?_⟩
 exact n8 ht hs pl pu (by rw[SW];exact hw) ⟨.ref a,H,I,rfl,q⟩
theorem wq (l b:L4) (Sz XA:Array L0) (n n2:Nat) (dd YJ:Option L4) (sl YK:Array (Option L0)) (h0:Sz.isEmpty=true):
  Meets (OU.«tuple.__add__» {pos:=[LG l,LG b]}) λx R s=>
    s.heap.get? l=some {cls:=Nd "tuple",dict:=dd,data:=Sl Sz n,slots:=sl}/\
     s.heap.get? b=some {cls:=Nd "tuple",dict:=YJ,data:=Sl XA n2,slots:=YK}/\R (Except.ok (Flow.ret (LG b))) s:=by
 intro prog w A R s ⟨g1,g2,q⟩
 have t1:QF s.heap l Sz:=⟨_,g1,rfl,n,rfl⟩
 have t2:QF s.heap b XA:=⟨_,g2,rfl,n2,rfl⟩
 unfold OU.«tuple.__add__»
 refine L6 (Le (a:=(LG l,[LG b])) ?_)
 dsimp only
 refine L6 (wpAny_isInstance t2.typeIs sub_tuple_tuple ?_)
 rw[if_neg (by decide)]
 refine L6 (P7 t1 (L6 (P7 t2 ?_)))
 rw[if_pos h0]
 unfold Pc
 refine L6 (L6 (PH t2.typeIs (Le ?_)))
 rw[if_pos (by decide)]
 exact L6 (S0 (O5 q))
def Fs (K:K_):R2:=λx y H Q=>∃a b ys,x= .ref a/\y= .ref b/\iY K H a []/\iY K H b ys/\Q (.ref b) H
theorem Ei:lG X (MS .Add) (Fs X.K):=by
 intro Sv s σ H x y v u Q I rx ry h
 obtain⟨a,b,ys,rfl,rfl,ha,hb,q⟩:=h
 cases rx
 cases ry
 obtain⟨its,r1,p1,_⟩:=I.tuple ha
 obtain⟨Vb,r2,p2,_⟩:=I.tuple hb
 cases r1
 obtain⟨⟨cls,dd,data,sl⟩,ho,hc,n,hd⟩:=id p1
 obtain⟨⟨a05,YJ,data2,YK⟩,Yf,Z0,n2,Z1⟩:=id p2
 simp only at hc hd Z0 Z1
 subst hc hd Z0 Z1
 exact Rc ⟨_,ho,rfl⟩ ⟨_,Yf,rfl⟩ PD QR Ot Og (O8 _ _)
   (wq a b _ _ n n2 dd YJ sl YK rfl) ⟨ho,Yf,⟨.ref b,H,I,rfl,q⟩⟩
end
end L2
namespace L2
open PySem PySem.Spec PyProof.Rows
section
variable {X:Cx}
theorem oS:∀{bs:List Bool} {its:List L0},bp (bs.map V.bl) its->∀{i:Nat} {v:L0},its[i]? =some v->∃b,bs[i]? =some b/\v= .bool b:=by
 intro bs its r i v e
 have hl:=r.length
 rw[L7]at hl
 have hi:i<bs.length:=by rw[hl];exact(Lq.mp e).1
 obtain⟨u,h1,h2⟩:=r.get (i:=i) (x:=V.bl bs[i]) (by simp[hi])
 rw[e]at h1
 cases h1
 exact⟨bs[i],by simp[hi],h2⟩
theorem v4:∀{ns:List Int} {its:List L0},bp (ns.map V.int) its->∀{i:Nat} {v:L0},its[i]? =some v->∃t,v= .int (ns.getD i 0) t:=by
 intro ns its r i v e
 have hl:=r.length
 rw[L7]at hl
 have hi:i<ns.length:=by rw[hl];exact(Lq.mp e).1
 obtain⟨u,h1,h2⟩:=r.get (i:=i) (x:=V.int ns[i]) (by simp[hi])
 rw[e]at h1
 cases h1
 obtain⟨t,ht⟩:=h2
 exact⟨t,by rw[ht];simp[hi]⟩
theorem yc (bs:List Bool):((LZ bs.length).any λi=>bs.getD i false)=bs.any id:=by
 rw[NZ,Mc,Mc]
 constructor
 ·rintro⟨i,h1,h2⟩
  have hi:=ME.mp h1
  exact⟨bs[i],OA hi,by simpa[hi]using h2⟩
 ·rintro⟨b,h1,h2⟩
  obtain⟨i,hi,e⟩:=Nn h1
  exact⟨i,ME.mpr hi,by simp[hi,e];exact h2⟩
theorem Aq {s:L5} {it:LJ} {h':Lr} (hk:∀b o,b∉[s.heap.objs.size]->(s.heap.push it).get? b=some o->h'.get? b=some o):∀b o,s.heap.get? b=some o->h'.get? b=some o:=λb o e=>
 hk b o (λz=>by rw[Lk.mp z]at e;exact absurd (Ln e) (Me _)) (Lb _ e)
theorem iW (hc:X.calm=true):d_ X (.builtin "any") (λxs H Q=>∃(p:L4) (bs:List Bool),xs=[.ref p]/\dC X.K H p (bs.map V.bl)/\Q (.bl (bs.any id)) H):=by
 intro Sv s σ H xs us Q I rv h
 obtain⟨p,bs,rfl,hx,q⟩:=h
 obtain⟨u,rfl,ru⟩:=j_ rv
 cases ru
 obtain⟨its,r,ht,hz⟩:=I.list hx
 have hl:=ht.isList
 have Vn:p<s.heap.objs.size:=by obtain⟨_,e,_⟩:=hl;exact Ln e
 refine call_any_walk (Pe hl ?_)
 refine⟨s.heap.objs.size,[s.heap.objs.size,p],[s.heap.objs.size],its.toArray.size,_,_,λi=>bs.getD i false,rfl,Walks.list (A:=X.A.in1) (I.ok.hd hc) _ p (LN Vn) its.toArray,⟨⟨_,LH _ rfl,rfl,rfl⟩,hl.push _⟩,λi v s' Q' E' hP hQ=> ?_,λh' tk hk=> ?_⟩
 ·obtain⟨b,e,rfl⟩:=oS r (i:=i) (v:=v) (by simpa using hP)
  have:bs.getD i false=b:=by simp[Mg,e]
  dsimp only at hQ
  rw[this]at hQ
  exact MJ hQ
 ·have e:((LZ its.toArray.size).any λi=>bs.getD i false)=bs.any id:=by
   have hl:=r.length
   rw[L7]at hl
   rw[La,<-hl];exact yc bs
  rw[e]
  exact⟨.bl _,H,I.kept (Aq hk),rfl,q⟩
def C3 (k:Bool):L0->Bool
 | .bool b=>b==k
 |_=>false
theorem zk {k:Bool}:∀{bs:List Bool} {its:List L0},bp (bs.map V.bl) its->its.countP (C3 k)=bs.count k
 |[],its,r=>by cases r;rfl
 |b::bs,its,r=>by
  cases r with
  |cons h t=>cases h;rw[RK,S1,zk t];rfl
def Ej (K:K_):V->List V->Hp->VK->Prop:=λx vs H Q=>∃(l:L4) (k:Bool) (bs:List Bool),x= .ref l/\vs=[.bl k]/\dC K H l (bs.map V.bl)/\Q (.int (bs.count k)) H
theorem Ar:Gh X "list.count" (Ej X.K):=by
 intro Sv s σ H x vs v us Q I rx rv h
 obtain⟨l,k,bs,rfl,rfl,hx,q⟩:=h
 cases rx
 obtain⟨u,rfl,ru⟩:=rv.one
 cases ru
 obtain⟨its,r,ht,hz⟩:=I.list hx
 obtain⟨⟨cls,dd,data,sl⟩,ho,hc,n,hd⟩:=ht.isList
 simp only at hc hd
 subst hc hd
 refine Nv Np ⟨_,ho,rfl⟩ PY (Pn _ _) (PZ l its.toArray n dd sl (.bool k) (C3 k)) ⟨ho,λy hy=> ?_,?_⟩
 ·obtain⟨i,hi,e⟩:=Nn (show y∈its by simpa using hy)
  obtain⟨b,_,rfl⟩:=oS r (i:=i) (v:=y) (by rw[LB hi,e])
  exact Oa b k
 ·rw[show its.toArray.toList=its from rfl,zk r]
  exact⟨.int _,H,I.tok _,⟨_,rfl⟩,q⟩
theorem IA {k:Bool} {bs:List Bool} {its:List L0} (r:bp (bs.map V.bl) its) {i:Nat} (hi:i<its.length):∃h:i<bs.length,its[i]= .bool bs[i]:=by
 obtain⟨b,h1,h2⟩:=oS r (i:=i) (v:=its[i]) (LB hi)
 obtain⟨l,e⟩:=Lq.mp h1
 exact⟨l,by rw[h2,e]⟩
theorem C4 {k:Bool}:∀{bs:List Bool} {m:Nat} (hm:m<bs.length),m<bs.idxOf k->(bs[m]==k)=false
 |b::bs,0,hm,h=>by
  rw[S2]at h
  cases e:b==k with
  |true=>rw[e]at h;simp at h
  |false=>exact e
 |b::bs,m+1,hm,h=>by
  rw[S2]at h
  cases e:b==k with
  |true=>rw[e]at h;simp at h
  |false=>
   rw[e]at h
   exact C4 (bs:=bs) (m:=m) (by simpa using hm) (by simp at h;omega)
def Ek (K:K_):V->List V->Hp->VK->Prop:=λx vs H Q=>∃(l:L4) (k:Bool) (bs:List Bool),x= .ref l/\vs=[.bl k]/\dC K H l (bs.map V.bl)/\k∈bs/\bs.length<1000/\Q (.int (bs.idxOf k)) H
theorem As:Gh X "list.index" (Ek X.K):=by
 intro Sv s σ H x vs v us Q I rx rv h
 obtain⟨l,k,bs,rfl,rfl,hx,hk,hl,q⟩:=h
 cases rx
 obtain⟨u,rfl,ru⟩:=rv.one
 cases ru
 obtain⟨its,r,ht,hz⟩:=I.list hx
 have SW:=r.length
 rw[L7]at SW
 obtain⟨⟨cls,dd,data,sl⟩,ho,hc,n,hd⟩:=ht.isList
 simp only at hc hd
 subst hc hd
 have hj:=List.idxOf_lt_length_of_mem hk
 refine Nv Q6 ⟨_,ho,rfl⟩ PySem.F.entry_list_index (PySem.F.args_list_index_2 _ _) (PySem.SeqAt.list_indexAt l its.toArray n dd sl (.bool k) (C3 k) (bs.idxOf k) (by rw[La,<-SW];exact hj) (by omega) ?_ ?_) ⟨ho,λy hy=> ?_,?_⟩
 ·obtain⟨h1,e⟩:=IA (k:=k) r (i:=bs.idxOf k) (by rw[<-SW];exact hj)
  show C3 k (its[bs.idxOf k]'_)=true
  rw[e]
  show (bs[bs.idxOf k]==k)=true
  simp
 ·intro m hm Vn
  obtain⟨h1,e⟩:=IA (k:=k) r (i:=m) (by simpa using hm)
  show C3 k (its[m]'_)=false
  rw[e]
  exact C4 h1 Vn
 ·obtain⟨i,hi,e⟩:=Nn (show y∈its by simpa using hy)
  obtain⟨b,_,rfl⟩:=oS r (i:=i) (v:=y) (by rw[LB hi,e])
  exact Oa b k
 ·exact⟨.int _,H,I.tok _,⟨_,rfl⟩,q⟩
end
end L2
namespace L2
open PySem PySem.Spec PyProof.Rows
theorem tJ:isSubtype (.type "tuple") (.type "set")=pure false:=by rw[isSubtype_type];kernel_rfl
theorem su:isSubtype (.type "tuple") (.type "frozenset")=pure false:=by rw[isSubtype_type];kernel_rfl
abbrev setNew (Xc:Bool):LJ:={cls:= .type "set",dict:=none,data:= .set #[] 0 (.fresh 0 0 Xc)}
abbrev C5 (prog:Ll) (w:Ly) (h':Lr) (a:L4) (ns:List Int) (n:Nat):Prop:=h'.SetOf (intKind prog w) a (λk=>(RM (λi=>ns.getD i 0) n).any (·==k)) (RM (λi=>ns.getD i 0) n).length
set_option maxHeartbeats 8000000 in
theorem Au {prog:Ll} {w:Ly} {A:LF} {E:L0->L5->Prop} {s:L5} {u:L4} {xs:Array L0} {ns:List Int} {Q:L0->L5->Prop} (hh:A.handled=none) (ht:s.heap.IsTuple u xs) (hi:∀(i:Nat) (v:L0),xs[i]? =some v->∃t,v= .int (ns.getD i 0) t) (hb:xs.size+1<Rp)
  (Uk:∀(h':Lr) (tk:Nat),C5 prog w h' s.heap.objs.size ns xs.size->(∀b o,b<s.heap.objs.size->s.heap.get? b=some o->h'.get? b=some o)->Q (.ref s.heap.objs.size) {s with heap:=h',toks:=tk}):Lg (Lj prog w) A (call (.type "set") [.ref u]) Q E s:=by
 obtain⟨c,tl,a2c⟩:=F.called_set.mro
 have m1:=F.called_set.made
 have m2:=F.called_set.sub
 have m3:=F.called_set.notType
 have m4:=F.called_set.canCreate
 have m5:=F.typeCall_set_1 (.ref u)
 refine Pm (codeAny_of_tree ?_)
 show Lg _ _ (callAny (.type "set") _) _ _ _
 refine Le ⟨Rq _ (by decide+kernel),codeAny_builtin F.entry_type_call ?_⟩
 rw[Around.under_plain (weight_type_call_type "set" [.ref u] []) rfl]
 repeat (any_goals (first|assumption|wp_step))
 refine O7 (code_set_new_1 (.ref u) (E:=E) (Q₁:=λo s₁=>∃Xc:Bool,o= .ref s.heap.objs.size/\s₁={s with heap:=s.heap.push (setNew Xc)}) λXc=>⟨Xc,rfl,rfl⟩) λr s₁ hr=> ?_
 cases r with
 |error e=>exact hr
 |ok fl=>
  cases fl with
  |ret o=>
   obtain⟨Xc,rfl,rfl⟩:=hr
   have gS:(s.heap.push (setNew Xc)).get? s.heap.objs.size=some (setNew Xc):=LH _ rfl
   have tS:Shared.TypeIs {s with heap:=s.heap.push (setNew Xc)} (.ref s.heap.objs.size) "set":=⟨_,gS,rfl⟩
   have n1:=F.called_set.init.lookup
   have n2:=F.called_set.init.bind (.ref s.heap.objs.size)
   repeat (any_goals (first|assumption|wp_step))
   refine O7 (OO (R:=wants (λr s₂=>r= .none/\∃h' tk,s₂={s with heap:=h',toks:=tk}/\C5 prog w h' s.heap.objs.size ns xs.size/\∀b o,b<s.heap.objs.size->s.heap.get? b=some o->h'.get? b=some o) E) F.called_set.init.plain F.entry_set_init (check_set_init_1 tS ?_)) λr₂ s₂ a0u=> ?_
   ·have a3X:=ht
    obtain⟨ot,a1r,ZG,nt,a1s⟩:=ht
    obtain⟨a2d,Ze,a1t,Yn⟩:=ot
    simp only at ZG a1s
    subst ZG
    subst a1s
    have a0v:(s.heap.push (setNew Xc)).get? u=some {cls:= .type "tuple",dict:=Ze,data:= .seq xs nt,slots:=Yn}:=Lb _ a1r
    have k1:=tJ
    have k2:=su
    have k3:(Nd "tuple"==Nd "dict")=false:=by decide
    have t1:(s.heap.push (setNew Xc)).IsTuple u xs:=⟨_,a0v,rfl,nt,rfl⟩
    unfold OU.«set.__init__» noKeywords S9
    generalize a2e:pyIter=PI
    wp_walk
    subst a2e
    refine R6 t1 (L6 (wpAny_runValue ?_))
    have hu:u<s.heap.objs.size:=Ln a1r
    have h3:A.in1.in1.in1.handled=none:=by simp[hh]
    have z1:u≠(s.heap.push (setNew Xc)).objs.size:=by rw[NF];exact LN (Na hu)
    have z2:s.heap.objs.size∉[(s.heap.push (setNew Xc)).objs.size,u]:=by
     rw[NF]
     intro z
     rcases Li.mp z with z|z
     ·exact LN (Oy _) z
     ·exact Nat.ne_of_gt hu (Lk.mp z)
    refine codeAny_set_update_loopS (Walks.tuple h3 _ u z1 xs).toS s.heap.objs.size z2 (λi=>ns.getD i 0) (λi v hv=>hi i v hv) hb (xs.size - 0) 0 _ (by omega) (ML _) ⟨⟨_,LH _ rfl,rfl,rfl⟩,t1.push _⟩ ?a0 ?a1
    case a0=>
     exact SetOf_congr ((setObjOf_fresh (knd:=intKind prog w) Xc).setOf (Lb _ gS) (by unfold Rp;omega)) (λ_=>rfl) rfl
    case a1=>
     intro s' hm a0w
     obtain⟨h',g',d',a2f,a04⟩:=s'
     obtain rfl:g'=s.gens:=hm.gens
     obtain rfl:d'=s.drawn:=hm.drawn
     obtain rfl:a04=s.os:=hm.os
     show Lg _ _ _ _ _ _
     refine Le ?_
     show Lg _ _ (ret M8) _ _ _
     refine Le ⟨rfl,h',a2f,rfl,a0w,λb o hb e=>hm.heap b o ?_ (Lb _ (Lb _ e))⟩
     rw[NF]
     intro z
     rcases Li.mp z with z|z
     ·exact LN hb z
     ·exact LN (Na hb) (Lk.mp z)
   ·cases r₂ with
    |error e=>exact a0u
    |ok a2g=>
     cases a2g with
     |ret r=>
      obtain⟨rfl,h',tk,rfl,a0w,WM⟩:=a0u
      repeat (any_goals (first|assumption|wp_step))
      exact Uk _ _ a0w WM
     |_=>exact a0u.elim
  |_=>exact hr.elim
def gz (ns:List Int):Nat:=(RM (λi=>ns.getD i 0) ns.length).length
section
variable {X:Cx} {e:Lc} {te:TE} {p1 p2 pos V7:LR}
def El (K:K_) (te:TE):TE:=λσ H Q=>te σ H λx H1=>∃(a:L4) (ns:List Int),[x]=[V.ref a]/\(dC K H1 a (ns.map V.int)\/iY K H1 a (ns.map V.int))/\ns.length<4000/\Q (.int (gz ns)) H1
theorem C6:LS "set"=some (.type "set"):=by decide+kernel
theorem Av:LS "len"=some (.builtin "len"):=by decide+kernel
theorem Aw (hc:X.calm=true) (he:PE X e te) (a0x:X.mg "len"=none) (a0y:X.mg "set"=none) (a0z:Gl X "len") (a0A:Gl X "set")
  (ZH:L8 [e] X.env=(false,Ls e X.env)::L8 [] X.env) (Yo:(LK V7 (L8 [] X.env)).any (·.1)=false)
  (Xu:L8 [.Call (.Name "set" p2) [e] [] V7] X.env=(false,Ls (.Call (.Name "set" p2) [e] [] V7) X.env)::L8 [] X.env) (Yp:(LK pos (L8 [] X.env)).any (·.1)=false):
  PE X (.Call (.Name "len" p1) [.Call (.Name "set" p2) [e] [] V7] [] pos) (El X.K te):=by
 intro Sv s σ H Q I h
 refine N4 (nP I a0z a0x Av ?_ (by decide) (by decide))
 refine OK ?_ Xu Yp
 rw[Xu]
 show Lg _ _ (S5 ((false,Ls (.Call (.Name "set" p2) [e] [] V7) X.env)::LK pos (L8 [] X.env))) _ _ s
 refine Rb ?_
 refine N4 (nP I a0A a0y C6 ?_ (by decide) (by decide))
 refine N3 ?_ ZH Yo
 refine cY (dh he gX ZH V7 Sv s σ H (λvs H1=>∃(a:L4) (ns:List Int),vs=[V.ref a]/\(dC X.K H1 a (ns.map V.int)\/iY X.K H1 a (ns.map V.int))/\ns.length<4000/\Q (.int (gz ns)) H1) I h) λus s1 z_=> ?_
 obtain⟨vs,H1,I1,r1,a,ns,rfl,hx,hl,q⟩:=z_
 obtain⟨u,rfl,ru⟩:=j_ r1
 cases ru
 have Uk:∀(n:Nat),n=ns.length->∀(h':Lr) (tk:Nat),C5 X.prog X.w h' s1.heap.objs.size ns n->(∀b o,b<s1.heap.objs.size->s1.heap.get? b=some o->h'.get? b=some o)->
   Lg (Lj X.prog X.w) X.A (S5 (LK pos (L8 [] X.env))) (λus s2=>Lg (Lj X.prog X.w) X.A (call (.builtin "len") (.ref s1.heap.objs.size::us)) (EP X Sv σ Q) X.xe s2) X.xe {s1 with heap:=h',toks:=tk}:=by
  rintro n rfl h' tk hS hk
  refine Rx ?_
  obtain⟨o,es,ep,t,ho,a2h,hd,Xa,W4,_,hf,Zf⟩:=hS
  have a2i:=firstMet_length_le (λi=>ns.getD i 0) ns.length
  refine call_len_set ho a2h hd hf (by rw[Zf];omega) ?_
  rw[Zf]
  exact⟨.int _,H1,(I1.kept λb o e=>hk b o (Ln e) e).tok _,⟨_,rfl⟩,q⟩
 rcases hx with hx|hx
 ·obtain⟨its,r,ht,hz⟩:=I1.list hx
  have SW:=r.length
  rw[L7]at SW
  exact call_set_list (I1.ok.hd hc) ht.isList (kG r) (by rw[La,<-SW];unfold Rp;omega) λh' tk a b=>Uk _ (by rw[La,SW]) h' tk a b
 ·obtain⟨its,r,ht,hz⟩:=I1.tuple hx
  have SW:=r.length
  rw[L7]at SW
  exact Au (I1.ok.hd hc) ht (λi v hv=>v4 r (by simpa using hv)) (by rw[La,<-SW];unfold Rp;omega) λh' tk a b=>Uk _ (by rw[La,SW]) h' tk a b
end
end L2
namespace L2
open PySem PySem.Spec PyProof.Rows
theorem cp.there {P:Ll} {w:Ly} {H:Hp} {h:Lr} {a:L4} {o:HO} (x:cp P w H h a o):∃ob,h.get? a=some ob:=by
 cases o with
 |lst xs=>obtain⟨_,_,_,_,e⟩:=x;exact⟨_,e⟩
 |tup xs=>obtain⟨_,_,_,o,e,_⟩:=x;exact⟨_,e⟩
 |dK kvs=>obtain⟨_,_,_,_,o,_,_,e,_⟩:=x;exact⟨_,e⟩
 |dT kvs=>obtain⟨_,_,_,_,o,_,_,e,_⟩:=x;exact⟨_,e⟩
 |set S n=>obtain⟨o,_,_,_,e,_⟩:=x;exact⟨_,e⟩
 |ins C dx fs=>obtain⟨_,_,_,e,_⟩:=x;exact⟨_,e⟩
 |own y=>obtain⟨_,e⟩:=x;exact⟨_,e⟩
 |xd fs=>obtain⟨_,⟨_,_,_,e,_⟩,_⟩:=x;exact⟨_,e⟩
 |rng lo hi=>obtain⟨_,_,_,e⟩:=x;exact⟨_,e⟩
 |frz ob u=>obtain⟨e,_⟩:=x;exact⟨_,e⟩
 |tbl ps=>exact⟨_,(show h.get? a=some _ from x)⟩
 |met f y=>exact⟨_,(show h.get? a=some _ from x)⟩
 |ext φ=>obtain⟨_,⟨_,e⟩,_⟩:=x;exact⟨_,e⟩
theorem lF.none_of {P:Ll} {w:Ly} {H:Hp} {h:Lr} {a:L4} (x:lF P w H h) (e:h.get? a=none):H a=none:=by
 cases q:H a with
 |none=>rfl
 |some o=>obtain⟨ob,z⟩:=(x a o q).there;rw[e]at z;cases z
structure yd (X:Cx) (Sv:List (L4×LJ)) (H:Hp) (b:L4):Prop where
 s0:X.s₀.heap.get? b=none
 no:H b=none
 pin:∀p∈X.pn++Sv,p.1≠b
structure Gs (X:Cx) (Sv:List (L4×LJ)) (H:Hp) (h:Lr) (a T:L4) (fl:L0):Prop where
 new:yd X Sv H T
 ne:T≠a
 at_:∃oT ts,h.get? T=some oT/\oT.data= .fields ts/\ts[3]? =some fl
structure Fl (X:Cx) (Sv:List (L4×LJ)) (H:Hp) (h:Lr) (a:L4) (cls:L0):Prop where
 new:yd X Sv H a
 at_:∃oe vs,h.get? a=some oe/\oe.cls=cls/\oe.data= .fields vs/\(vs[1]? =some .none\/∃T fl,vs[1]? =some (.ref T)/\Gs X Sv H h a T fl/\(fl= .none\/fl=rawInt X.env.locals))
structure HD (X:Cx) (Sv:List (L4×LJ)) (H:Hp) (h:Lr) (a:L4) (cls fl:L0):Prop where
 new:yd X Sv H a
 at_:∃oe vs,h.get? a=some oe/\oe.cls=cls/\oe.data= .fields vs/\∃T,vs[1]? =some (.ref T)/\Gs X Sv H h a T fl
abbrev IB (X:Cx) (Sv:List (L4×LJ)) (H:Hp) (h:Lr) (a:L4) (cls:L0):Prop:=HD X Sv H h a cls .none
theorem HD.flo {X:Cx} {Sv:List (L4×LJ)} {H:Hp} {h:Lr} {a:L4} {cls fl:L0} (f:HD X Sv H h a cls fl) (hf:fl= .none\/fl=rawInt X.env.locals):Fl X Sv H h a cls:=
 let ⟨oe,vs,h1,h2,h3,T,h4,h5⟩:=f.at_;⟨f.new,oe,vs,h1,h2,h3, .inr ⟨T,fl,h4,h5,hf⟩⟩
theorem HD.fl {X:Cx} {Sv:List (L4×LJ)} {H:Hp} {h:Lr} {a:L4} {cls:L0} (f:HD X Sv H h a cls .none):Fl X Sv H h a cls:=f.flo (.inl rfl)
section
variable {X:Cx} {Sv:List (L4×LJ)} {σ:St} {H H':Hp} {s s':L5} {a:L4} {cls:L0}
structure ke (X:Cx):Prop where
 st:X.stack=X.env::X.outer
 fr:X.env.frame=some X.env.locals
 ex:X.ex=[]
theorem yd.of (I:aP X Sv σ H s) (p:ke X) {b:L4} (h:s.heap.get? b=none) (hH:H' b=none):yd X Sv H' b:=by
 refine⟨?_,hH,λq hq z=> ?_⟩
 ·cases e:X.s₀.heap.get? b with
  |none=>rfl
  |some o=>
   obtain⟨o',e'⟩:=I.base.there b o e (by rw[p.ex];simp)
   rw[h]at e';cases e'
 ·have:=(I.pin q hq).1
  rw[z,h]at this;cases this
def zl (h B:Lr) (a:L4) (cls fl:L0):Prop:=∃oe vs T oT ts,h.get? a=some oe/\oe.cls=cls/\oe.data= .fields vs/\vs[1]? =some (.ref T)/\B.get? T=none/\T≠a/\h.get? T=some oT/\oT.data= .fields ts/\ts[3]? =some fl
theorem _root_.PySem.Heap.TracedAtW.tl {h B:Lr} {a:L4} {cls a0 fl:L0} (t:h.TracedAtW B a cls a0 fl):zl h B a cls fl:=
 let ⟨oe,vs,T,oT,ts,g1,g2,g3⟩:=t;⟨oe,vs,T,oT,ts,g1,g2.1,g3⟩
theorem uq (I:aP X Sv σ H s) (p:ke X) (fl:Fl X Sv H s.heap a cls):∃(B:Lr) (oe:LJ) (vs:Array L0),s.heap.get? a=some oe/\oe.cls=cls/\oe.data= .fields vs/\s.heap.FunFrames B (X.env::X.outer)/\B.StaysIn s.heap/\B.get? a=none/\
  (vs[1]? =some .none\/∃T oT ts fl,vs[1]? =some (.ref T)/\B.get? T=none/\T≠a/\s.heap.get? T=some oT/\oT.data= .fields ts/\ts[3]? =some fl/\(fl= .none\/fl=rawInt X.env.locals))/\
  ∀h' fl,B.StaysIn h'->zl h' B a cls fl->s.heap.UpToSlots h'->aP X Sv σ H {s with heap:=h'}/\HD X Sv H h' a cls fl:=by
 obtain⟨oe,vs,ge,gc,gd,gt⟩:=fl.at_
 obtain⟨rest,Y6,Zg⟩:∃rest:List L4,(∀b∈rest,yd X Sv H b/\∃oT ts,s.heap.get? b=some oT/\oT.data= .fields ts)/\(vs[1]? =some .none\/∃T fl,vs[1]? =some (.ref T)/\Gs X Sv H s.heap a T fl/\(fl= .none\/fl=rawInt X.env.locals)/\T∈rest):=by
  rcases gt with g|⟨T,fl,g,t,a0B⟩
  ·exact⟨[],(λb hb=>by cases hb), .inl g⟩
  ·obtain⟨oT,ts,e1,e2,_⟩:=t.at_
   exact⟨[T],λb hb=>by rw[Lk.mp hb];exact⟨t.new,oT,ts,e1,e2⟩, .inr ⟨T,fl,g,t,a0B,Lk.mpr rfl⟩⟩
 have a0C:∀b,b∈X.fs->b∈rB X.stack:=λb hb=>by
  rw[p.st]
  unfold rB
  rw[Nl,p.fr]
  exact Lp _ hb
 have a0D:X.env.locals∈rB X.stack:=by
  rw[p.st]
  unfold rB
  rw[Nl,p.fr]
  exact Lo
 have a0E:∀b∈a::rest,yd X Sv H b/\∃oT ts,s.heap.get? b=some oT/\oT.data= .fields ts:=λb hb=>by
  rcases Li.mp hb with rfl|hb
  ·exact⟨fl.new,oe,vs,ge,gd⟩
  ·exact Y6 b hb
 have ZI:∀b∈rB X.stack,∃o,s.heap.get? b=some o/\∀vs:Array L0,o.data≠Data.fields vs:=λb hb=>(I.stack.mem hb).2
 have apart:∀b∈a::rest,b∉rB X.stack:=λb hb z=>by
  obtain⟨_,o,ts,e1,e2⟩:=a0E b hb
  obtain⟨o',e3,e4⟩:=ZI b z
  rw[e1]at e3;cases e3
  exact e4 ts e2
 let a1u:List L4:=(a::rest)++rB X.stack
 let B:Lr:=RS s.heap a1u
 have ff:s.heap.FunFrames B X.stack:=PySem.W.funFrames_hide I.stack λenv he b hb=>LL _ (OW.mpr ⟨env,he,hb⟩)
 have hB:B.StaysIn s.heap:=λb o e=>R3 _ e
 have Yq:B.get? a=none:=OG _ (Mi _ Lo)
 have a2j:s.heap.FunFrames B (X.env::X.outer):=by rw[<-p.st];exact ff
 refine⟨B,oe,vs,ge,gc,gd,a2j,hB,Yq,?_,λh' a3Y st ⟨a1v,ZJ,T',a0F,ZK,g1,g2,g3,g4,g5,g6,g7,g8,g9⟩ up=> ?_⟩
 ·rcases Zg with g|⟨T,fl,g,t,a0B,hT⟩
  ·exact .inl g
  ·obtain⟨oT,ts,e1,e2,e3⟩:=t.at_
   exact .inr ⟨T,oT,ts,fl,g,OG _ (Mi _ (Lp _ hT)),t.ne,e1,e2,e3,a0B⟩
 ·have ZL:∀b o,s.heap.get? b=some o->b∉a::rest->b∉rB X.stack->h'.get? b=some o:=λb o e n1 n2=>
   st b o (OR _ e λz=>(L_.mp z).elim n1 n2)
  have newT:yd X Sv H T':=by
   by_cases hr:T'∈rest
   ·exact(Y6 T' hr).1
   ·have hn:s.heap.get? T'=none:=by
     cases e:s.heap.get? T' with
     |none=>rfl
     |some o=>
      by_cases hf:T'∈rB X.stack
      ·obtain⟨o',e3,e4⟩:=ZI T' hf
       obtain⟨sl,e5⟩:=up T' o' e3 e4
       rw[g7]at e5;cases e5
       exact absurd g8 (e4 ZK)
      ·have:=OR a1u (b:=T') e λz=>(L_.mp z).elim (λq=>(Li.mp q).elim g6 hr) hf
       rw[g5]at this;cases this
    exact yd.of I p hn (I.hok.none_of hn)
  refine⟨I.step (g':=s.gens) (d':=s.drawn) (t':=s.toks) (ch:=a::rest) (λb hb=> ?_) (λb o n1 n2 n3 e _=> ?_) (λb o _ hb n3 e _=> ?_) (λ_ _ _ _ n=>n) (λb o n e=> ?_) (λ_ _ e=>e) (λ_ _ _ e=>e) (λb ps e=>⟨#[],by rw[e];simp⟩) (λm hm=> ?_) (λb u e=> ?_) I.bare,
   ⟨fl.new,a1v,ZJ,g1,g2,g3,T',g4,newT,g6,a0F,ZK,g7,g8,g9⟩⟩
  ·obtain⟨n,o,ts,e1,e2⟩:=a0E b hb
   refine⟨.inr n.s0,λz=>apart b hb (by rw[z];exact a0D),λx c hc z=> ?_,n.pin⟩
   obtain⟨v,o',e3,e4⟩:=I.cell x c hc
   rw[z,e1]at e3;cases e3
   rw[e2]at e4;cases e4
  ·exact ZL b o e n3 λz=>(Li.mp (I.stkSub b z)).elim n1 n2
  ·obtain⟨o',e3,e4⟩:=ZI b (a0C b hb)
   rw[e]at e3;cases e3
   exact up b o e e4
  ·by_cases hf:b∈rB X.stack
   ·obtain⟨o',e3,e4⟩:=ZI b hf
    rw[e]at e3;cases e3
    obtain⟨sl,e5⟩:=up b o e e4
    exact⟨_,e5⟩
   ·exact⟨o,ZL b o e n hf⟩
  ·obtain⟨o,es,ep,ho,hd,r⟩:=hm
   obtain⟨sl,e5⟩:=up _ o ho λvs z=>by rw[hd]at z;cases z
   exact⟨_,es,ep,e5,hd,r⟩
  ·have nh:∀c v,H c=some v->c∉a::rest/\c∉rB X.stack:=λc v hc=>⟨λz=>(by have:=(a0E c z).1.no;rw[hc]at this;cases this),λz=>(by have:=I.stkFree c z;rw[hc]at this;cases this)⟩
   refine(I.hok b u e).stay (λc v hc q=> ?_) (λ_ q=>q) λ_ _ q=>q
   rcases hc with z|z
   ·rw[z]at q ⊢;exact ZL b v q (nh b u e).1 (nh b u e).2
   ·exact ZL c v q (nh c _ z).1 (nh c _ z).2
theorem C7 {vs:Array L0} {v:L0} (h:vs[1]? =some v):1<vs.size/\∃a0,vs[0]? =some a0:=by
 have Wo:1<vs.size:=by
  by_cases z:1<vs.size
  ·exact z
  ·rw[Array.getElem?_eq_none (PL z)]at h;cases h
 exact⟨Wo,vs[0]'(by omega),by simp⟩
theorem wt {Q:Unit->L5->Prop} {E:L0->L5->Prop} (I:aP X Sv σ H s) (p:ke X) (fl:Fl X Sv H s.heap a cls)
  (k:∀h',aP X Sv σ H {s with heap:=h'}->IB X Sv H h' a cls->Q () {s with heap:=h'}):
  Lg (Lj X.prog X.w) X.A (Rj (.ref a) X.env) (λ_ s₂=>Lg (Lj X.prog X.w) X.A (setFlight (.ref a) none) Q E s₂) E s:=by
 obtain⟨B,oe,vs,ge,gc,gd,ff,hB,Yq,hn,hk⟩:=uq I p fl
 have UI:X.A.frames=some (X.env::X.outer):=by rw[I.ok.frames,p.st]
 rcases hn with g|⟨T,oT,ts,f,g1,g2,g3,g4,g5,g6,g7⟩
 ·obtain⟨Wo,a0,h0⟩:=C7 g
  unfold Rj
  rw[p.fr]
  refine L6 (Ql (o:=oe) ge (by rw[gd]) g ?_)
  refine wpAny_newEntryW (head:= .none) (hadNext:=false) UI ff p.fr ge hB Yq gd Wo h0 λh' z_=> ?_
  obtain⟨st,_,tr,up⟩:=z_
  rw[gc]at tr
  obtain⟨I',f'⟩:=hk h' _ st tr.at.tl up
  exact k h' I' f'
 ·obtain⟨Wo,a0,h0⟩:=C7 g1
  rcases g7 with rfl|rfl
  ·refine wpAny_looks_onW (cls:=cls) (a0:=a0) UI p.fr ⟨hB,Yq,ff,oe,vs,T,oT,ts,ge,⟨gc,h0⟩,gd,g1,g2,g3,g4,g5,g6⟩ λh1 a0G u1=> ?_
   refine wpAny_landsW a0G λh2 ⟨st,_,_,tr⟩ u2=> ?_
   obtain⟨I',f'⟩:=hk h2 _ st tr.at.tl (u1.trans u2)
   exact k h2 I' f'
  ·have tr0:s.heap.TracedAtW B a cls a0 (rawInt X.env.locals):=⟨oe,vs,T,oT,ts,ge,⟨gc,h0⟩,gd,g1,g2,g3,g4,g5,g6⟩
   refine wpAny_noteFrame_againW p.fr tr0 ?_
   refine wpAny_landsW (base:=B) (l:=X.env::X.outer) (L:=X.env.locals) ⟨hB,Yq,ff,tr0⟩ λh2 ⟨st,_,_,tr⟩ u2=> ?_
   obtain⟨I',f'⟩:=hk h2 _ st tr.at.tl u2
   exact k h2 I' f'
theorem C8 {Q:Unit->L5->Prop} {E:L0->L5->Prop} (I:aP X Sv σ H s) (p:ke X) (fl:Fl X Sv H s.heap a cls)
  (k:∀h',aP X Sv σ H {s with heap:=h'}->IB X Sv H h' a cls->Q () {s with heap:=h'}):Lg (Lj X.prog X.w) X.A (leaving X.env (.ref a)) Q E s:=
 L6 (wt I p fl k)
def KC (g:Lr) (H:Hp) (h:Lr) (a:L4) (cls:L0):Prop:=g.get? a=none/\H a=none/\∃oe vs T oT ts,h.get? a=some oe/\oe.cls=cls/\oe.data= .fields vs/\vs[1]? =some (.ref T)/\g.get? T=none/\H T=none/\T≠a/\
 h.get? T=some oT/\oT.data= .fields ts/\ts[3]? =some .none
def lz (P:Ll) (w:Ly):xS:=λouter H s E e s'=>∃a cls H',e= .ref a/\s'.os=s.os/\Oc s'.gens/\Un (rB outer) [] H H' s.heap s'.heap/\lF P w H' s'.heap/\KC s.heap H' s'.heap a cls/\E cls (some a) H'
theorem Gu {E:XK} {e:L0} (I:aP X Sv σ H s) (p:ke X) (h:lz X.prog X.w X.stack H s E e s'):∃a cls H',e= .ref a/\aP X Sv σ H' s'/\Fl X Sv H' s'.heap a cls/\E cls (some a) H':=by
 obtain⟨a,cls,H',rfl,os,bare,un,hok,⟨n1,n2,oe,vs,T,oT,ts,g1,g2,g3,g4,g5,g6,g7,g8,g9,a1w⟩,q⟩:=h
 refine⟨a,cls,H',rfl,I.call' os un hok bare (λb hb=>by cases hb),⟨yd.of I p n1 n2,oe,vs,g1,g2,g3, .inr ⟨T, .none,g4,⟨yd.of I p g5 g6,g7,oT,ts,g8,g9,a1w⟩, .inl rfl⟩⟩,q⟩
theorem sv {CX:xS} {P:Ll} {w:Ly} {K:K_} {mg:L3->Option L0} {base:Lr} {N:List L3} {qual:L3} {scope:MZ} {f:L4} {cd:L0} {A:LF} {outer:List MM} {s:L5} {H:Hp} {E:XK}:
  ke (iZ CX P w K mg base N qual scope f cd A outer s H E):=⟨rfl,rfl,rfl⟩
theorem ye {P:Ll} {w:Ly} {K:K_} {mg:L3->Option L0} {base:Lr} {N:List L3} {qual:L3} {scope:MZ} {f:L4} {cd:L0} {A:LF} {outer:List MM} {s0:L5} {H0:Hp} {E:XK}
  (I:aP (iZ (lz P w) P w K mg base N qual scope f cd A outer s0 H0 E) Sv σ H s) (fl:Fl (iZ (lz P w) P w K mg base N qual scope f cd A outer s0 H0 E) Sv H s.heap a cls) (h:E cls (some a) H):
  (iZ (lz P w) P w K mg base N qual scope f cd A outer s0 H0 E).xe (.ref a) s:=by
 refine C8 I sv fl λh' I' f'=> ?_
 obtain⟨oe,vs,g1,g2,g3,T,g4,t⟩:=f'.at_
 obtain⟨oT,ts,g5,g6,g7⟩:=t.at_
 exact⟨a,cls,H,rfl,I'.os,I'.bare,I'.base,I'.hok,⟨f'.new.s0,f'.new.no,oe,vs,T,oT,ts,g1,g2,g3,g4,t.new.s0,t.new.no,t.ne,g5,g6,g7⟩,h⟩
end
end L2
namespace L2
open PySem PySem.Spec PyProof.Rows
theorem eR {α:Type} {M:Rt} {A:LF} {t:Oq α} {r:α} {Q:α->L5->Prop} {E:L0->L5->Prop} {s:L5} (l:Sg M s.heap t r) (q:Q r s):Lg M A t Q E s:=l A Q E s (λ_ _ e=>e) q
theorem nT {M:Rt} {h:Lr} {x C:L4} {ox:LJ} (e:h.get? x=some ox) (hc:ox.cls= .ref C):Sg M h (typeOf (.ref x)) (.ref C):=λA Q E s k q=>
 L6 (wpAny_loadPart (k _ _ e) (Le (by rw[hc];exact q)))
theorem yf {prog:Ll} {w:Ly} {A:LF} {s:L5} {K:K_} {x C:L4} {R:R7->L5->Prop} {ox:LJ} {tp:L0} (KX:K.In s.heap) (e:s.heap.get? x=some ox) (hc:ox.cls= .ref C) (hm:LQ K C (.type "object")=some true)
  (q:R (.ok (.ret (.ref C))) s):Od (Lj prog w) A (.call (.builtin "getset_descriptor.__get__") {pos:=[.builtin "object.__class__", .ref x,tp]}) R s:=by
 refine OO Rr.plain PySem.W.KF.entry_gs ?_
 refine Rr.check _ _ _ _ _ _ _ _ PySem.W.KF.type_class (PySem.W.KF.args_gs _ _ _) ?_
 show Lg _ _ (Oo _) _ _ _
 unfold Oo
 rw[PySem.W.dga_obj]
 refine L6 (Le ?_)
 dsimp only
 unfold QY
 dsimp only
 unfold Qq Qr
 dsimp only
 rw[PySem.W.KF.owner_class]
 refine L6 (L6 (Le ?_))
 refine L6 (L6 (eR (nT e hc) (eR (QX KX hm) ?_)))
 refine Le ?_
 refine O5 ⟨Rq _ (by decide+kernel),codeAny_builtin PySem.W.KF.entry_class ?_⟩
 show Lg _ _ (do let t<-shownTypeOf (.ref x);ret t) _ _ _
 unfold shownTypeOf
 refine L6 (L6 (eR (nT e hc) ?_))
 rw[if_neg (by intro z;exact absurd z (by simp))]
 exact Le (O5 q)
theorem Em {prog:Ll} {w:Ly} {A:LF} {E:L0->L5->Prop} {s:L5} {K:K_} {x C:L4} {ox:LJ} {Q:Option L0->L5->Prop} (KX:K.In s.heap) (e:s.heap.get? x=some ox) (hc:ox.cls= .ref C)
  (h1:Lm K (.ref C) "__getattribute__"=some (some (.builtin "BaseException.__getattribute__"))) (h2:Lm K (.ref C) "__getattr__"=some none) (h3:Lm K (.ref C) "__class__"=some (some (.builtin "object.__class__")))
  (h4:NC K (.builtin "object.__class__") "__get__"=some (some (.builtin "getset_descriptor.__get__"))) (h5:N_ K (.builtin "object.__class__")=some true) (h6:LQ K C (.type "object")=some true) (h7:LQ K C (.type "BaseException")=some true)
  (q:Q (some (.ref C)) {s with toks:=s.toks+1}):Lg (Lj prog w) A (getAttr? (.ref x) "__class__") Q E s:=by
 unfold getAttr?
 refine L6 (wpAny_mkText ?_)
 unfold getAttrBy?
 refine L6 (wpAny_attempt ?_)
 unfold getAttrBy
 refine M1 (L6 (eR (nT e hc) (L6 (eR (NM KX h1) ?_))))
 dsimp only
 rw[if_neg (by rw[show (NT "BaseException.__getattribute__"==NT "object.__getattribute__")=false by decide+kernel,Qw];simp)]
 unfold getAttrByItsOwn hookBefore
 refine L6 ?_
 rw[if_pos (by rfl)]
 refine eR (NM KX h2) ?_
 refine L6 (wpAny_attempt (M1 ?_))
 unfold callGetattribute
 rw[if_neg (by simp)]
 unfold boundAndCalled
 rw[F.attrBase_ValueError.ga.bind]
 refine L6 (Le ?_)
 dsimp only
 refine Pm (OO F.attrBase_ValueError.ga.plain F.entry_bexc_ga ?_)
 show Lg _ _ (checkBuiltinCall "BaseException.__getattribute__" {pos:=LG x::[OC (O9 "__class__") s.toks],kw:=[]}) _ _ _
 refine PySem.W.check_slot (i:="BaseException.__getattribute__") (owner:="BaseException") (n:="__getattribute__") P_._proof_1_1 P_._proof_1_2 (λA Q E s k q=>L6 (nT e hc A _ E s k (QX KX h7 A _ E s k q))) (F.args_bexc_ga _ _) ?_
 unfold OU.«object.__getattribute__»
 refine L6 (Le (a:=(LG x,[OC (O9 "__class__") s.toks])) ?_)
 dsimp only
 refine L6 (Le (a:=O9 "__class__") ?_)
 refine L6 (eR (nT e hc) ?_)
 refine L6 ?_
 unfold So
 refine L6 (eR (NM KX h3) ?_)
 refine L6 ?_
 show Lg _ _ (specialOf _ _) _ _ _
 refine eR (PySem.W.looks_specialIn KX h4) ?_
 refine L6 ?_
 show Lg _ _ (do let b<-S3 (NT "object.__class__");if b=true then pure (some (NT "getset_descriptor.__get__",NT "object.__class__"))else pure none) _ _ _
 refine L6 (eR (PySem.W.looks_takesIn KX h5) ?_)
 rw[if_pos rfl]
 refine Le ?_
 dsimp only
 refine L6 (S0 (Le ?_))
 dsimp only
 unfold Sj
 dsimp only
 refine L6 (M1 (Pm (yf KX e hc h6 ?_)))
 refine O5 ?_
 exact PySem.W.handed_on (by rfl) (Le q)
def wu:List L0:=[.type "ValueError", .type "Exception", .type "BaseException", .type "object"]
structure v5 (K:K_) (C:L4):Prop where
 exc:∃Vk Bn a1x a1y,Mh K C wu Vk=true/\ExcBaseFacts Bn Vk a1x a1y/\wu.contains (.type Bn)=true
 ga:Lm K (.ref C) "__getattribute__"=some (some (.builtin "BaseException.__getattribute__"))
 gt:Lm K (.ref C) "__getattr__"=some none
 kc:Lm K (.ref C) "__class__"=some (some (.builtin "object.__class__"))
 sp:NC K (.builtin "object.__class__") "__get__"=some (some (.builtin "getset_descriptor.__get__"))
 tk:N_ K (.builtin "object.__class__")=some true
 mo:LQ K C (.type "object")=some true
 mb:LQ K C (.type "BaseException")=some true
 kk:NI K (.ref C) (.ref C)=some true
theorem zm {K:K_} {h:Lr} {C:L4} {XO:List L0} {Vk:String} (KX:K.In h) (e:Mh K C XO Vk=true):∃bm N nm q bs hdct sn sub ab col dd k0 k1 k2 k3 k5 mN,
  h.get? C=some (excClassObj nm q C N bs bm hdct sn sub ab col dd k0 k1 k2 k3 k5 Vk)/\h.Ns N mN/\mN (O9 "__init__")=none/\OwnTail h XO bm:=by
 unfold Mh at e
 split at e
 ·split at e
  ·rename_i dd cd sl lk _ _ C' bm k0 k1 k2 k3 n k5 e1 e2
   simp only[Mb]at e
   obtain⟨⟨⟨⟨⟨a1,a2⟩,a3⟩,a4⟩,a5⟩,a6⟩:=e
   have b1:C'=C:=eq_of_beq a1
   have b2:n=Vk:=eq_of_beq a2
   subst b1 b2
   have g:=KX _ _ lk
   have a2k:sl= #[k0,k1,k2,k3,some (NT n),k5]:=by rw[<-Array.toList_inj];exact e2
   have Zh:cd.hasDel=false:=by simpa using a3
   obtain⟨nm,bs,mro,N,q,hd,sn,sb,ab,col,a3Z⟩:=cd
   dsimp only at e1 Zh a4 a5 a6
   subst e1 a2k Zh
   exact⟨bm,N,nm,q,bs,hd,sn,sb,ab,col,dd,k0,k1,k2,k3,k5,_,g,Heap.Ns.of_isNs (PySem.W.isNs_of_in KX a5),PySem.W.nsMap_none_of_in KX a5 (eq_of_beq a6),PySem.W.tail_of_in KX a4⟩
  ·cases e
 ·cases e
theorem C9 {K:K_} {x C:L4} (k:v5 K C):PySem.W.KitX K (.ref x) (.ref C) λh=>∃ox,h.get? x=some ox/\ox.cls= .ref C where
 ty:=λM h _ ⟨ox,e,hc⟩=>nT e hc
 it:=λM h KX _=>(PySem.W.kit_cls KX k.kk).2.1
 ne:=λh tp dd its n sl KX e=>by
  cases z:(LG C==LG tp)with
  |false=>rfl
  |true=>
   have ez:LG C=LG tp:=eq_of_beq z
   cases ez
   obtain⟨Vk,_,_,_,ei,_⟩:=k.exc
   obtain⟨bm,N,nm,q,bs,hd,sn,sb,ab,col,dd,k0,k1,k2,k3,k5,mN,g,_⟩:=zm KX ei
   rw[e]at g
   exact absurd (congrArg Obj.data (M4 g)) (λz=>by cases z)
 ca:=λ{prog w A E Q s} KX ⟨ox,e,hc⟩ q=>Em KX e hc k.ga k.gt k.kc k.sp k.tk k.mo k.mb q
end L2
namespace L2
open PySem PySem.Spec PyProof.Rows
section
variable {X:Cx} {Sv:List (L4×LJ)} {σ:St} {H:Hp} {s:L5} {a:L4} {cls:L0} {x:L3} {np SK pos:LR} {e:Lc} {es:List Lc} {t:TA} {C:L4}
def Ca (X:Cx) (C:L4) (t:TA):TS:=λ_ σ H=>t σ H λvs H1=>vs.length<=sizeLine/\∀Sv s a,aP X Sv σ H1 s->Fl X Sv H1 s.heap a (.ref C)->X.xe (.ref a) s
theorem En {h':Lr} {vs:List L0} (I:aP X Sv σ H s) (p:ke X) (m:s.heap.MadeExcOf h' a cls vs):aP X Sv σ H {s with heap:=h'}/\Fl X Sv H h' a cls:=by
 obtain⟨tp,g1,g2,g3⟩:=m.there
 exact⟨I.kept (t':=s.toks) m.keeps,yd.of I p m.new (I.hok.none_of m.new),_,_,g1,rfl,rfl, .inl rfl⟩
theorem Cb (k:v5 X.K C) (hm:X.mg x=some (.ref C)) (p:ke X) (hc:X.calm=true) (ha:PA X (e::es) t) (hg:Gl X x:=by rfl) (Um:(x==("__debug__":L3))=false:=by decide)
  (he:L8 (e::es) X.env=(false,Ls e X.env)::L8 es X.env:=by rfl) (U0:(LK SK (L8 es X.env)).any (·.1)=false:=by rfl):PS X (.Raise (some (.Call (.Name x np) (e::es) [] SK)) none pos) (Ca X C t):=by
 intro Sv s σ H D I h
 obtain⟨Vk,Bn,a1x,a1y,ei,fB,hB⟩:=k.exc
 obtain⟨bm,N,nm,q,bs,hd,sn,sb,ab,col,dd,k0,k1,k2,k3,k5,mN,g,ns,ni,tl⟩:=zm I.ok.mod.kin ei
 have XB:LK SK (L8 (e::es) X.env)=(false,Ls e X.env)::LK SK (L8 es X.env):=by rw[he];rfl
 refine wpAny_Raise_call_subU (nm:=nm) (q:=q) (C:=C) (N:=N) (bs:=bs) (hdct:=hd) (sn:=sn) (sub:=sb) (ab:=ab) (col:=col) (dd:=dd) (k0:=k0) (k1:=k1) (k2:=k2) (k3:=k3) (k5:=k5) fB hB F.excBase_ValueError (tl.hasType (by decide)) (I.ok.hd hc) (by rw[XB];exact U0) ni (oH I hg hm ⟨rfl,?_⟩ Um)
 rw[XB]
 refine NP ?_
 rw[<-XB]
 refine cY (ha SK Sv s σ H _ I h) λus s1 ⟨vs,H1,I1,r,z,q1⟩=>⟨rfl,by rw[<-r.length];exact z,I1.bk _ _ g,ns.keeps I1.bk,tl.keeps I1.bk,λh' a m=> ?_⟩
 obtain⟨I2,f2⟩:=En I1 p m
 exact q1 Sv _ a I2 f2
abbrev Cx.inH (X:Cx) (v:L0):Cx:={X with A:=X.A.mark (some v),calm:=false,xe:=λ_ _=>False}
theorem Cx.Ok.inH {v:L0} (ok:X.Ok):(X.inH v).Ok:=⟨ok.mod,ok.kind,ok.glob,ok.blt,ok.above,ok.inj,ok.has,ok.cab,(λz=>by cases z),ok.frames,ok.stk,ok.exf,ok.bs,ok.bsz,ok.noex,ok.exfs,ok.funs,ok.frf⟩
theorem aP.inH {v:L0} (I:aP X Sv σ H s):aP (X.inH v) Sv σ H s:=⟨I.ok.inH,I.os,I.bare,I.base,I.loc,I.cell,I.free,I.freeC,I.pin,I.hok,I.len⟩
theorem aP.outH {v:L0} (ok:X.Ok) (I:aP (X.inH v) Sv σ H s):aP X Sv σ H s:=⟨ok,I.os,I.bare,I.base,I.loc,I.cell,I.free,I.freeC,I.pin,I.hok,I.len⟩
theorem aP.track {o:HO} {oa:LJ} {vs:Array L0} (I:aP X Sv σ H s) (n:yd X Sv H a) (ga:s.heap.get? a=some oa) (gd:oa.data= .fields vs) (new:cp X.prog X.w (ce H a o) s.heap a o):aP X Sv σ (ce H a o) s:=by
 have ne:∀b u,H b=some u->b≠a:=λb u e z=>by rw[z,n.no]at e;cases e
 have Y2:X.env.locals≠a:=λz=>by
  obtain⟨m,⟨o,es,ep,ho,hd,_⟩,_⟩:=I.loc
  rw[z,ga]at ho;cases ho
  rw[gd]at hd;cases hd
 have neC:∀y c,X.env.cells.lookup y=some c->c≠a:=λy c e z=>by
  obtain⟨v,o,ho,hd⟩:=I.cell y c e
  rw[z,ga]at ho;cases ho
  rw[gd]at hd;cases hd
 refine⟨I.ok,I.os,I.bare,⟨I.base.keep,I.base.slot,λb o e n' hx=> ?_,I.base.there,λb xs e=> ?_,λb o u e=> ?_,λb ps e=> ?_⟩,I.loc,I.cell,by rw[az Y2];exact I.free,λy c e=>by rw[az (neC y c e)];exact I.freeC y c e,λp hp=> ?_,λb u e=> ?_,I.len⟩
 ·rw[az (λz=>by rw[z,n.s0]at e;cases e)];exact I.base.free b o e n' hx
 ·have q:=I.base.tups b xs e
  rw[az (ne b _ q)];exact q
 ·have q:=I.base.frzs b o u e
  rw[az (ne b _ q)];exact q
 ·obtain⟨more,q⟩:=I.base.tbls b ps e
  exact⟨more,by rw[az (ne b _ q)];exact q⟩
 ·obtain⟨e,n',r⟩:=I.pin p hp
  exact⟨e,by rw[az (n.pin p hp)];exact n',r⟩
 ·by_cases z:b=a
  ·subst z;rw[aH]at e;cases e;exact new
  ·rw[az z]at e
   refine(I.hok b u e).stay (λ_ _ _ q=>q) (λc q=> ?_) λc xs q=> ?_
   ·rw[az (ne c _ q)];exact q
   ·rw[az (ne c _ q)];exact q
theorem Ax {M:Rt} {A:LF} {E:L0->L5->Prop} {i:Nat} {n:L3} {Q:Unit->L5->Prop} (I:aP X Sv σ H s) (hN:X.N.Nodup) (hi:X.N[i]? =some n) (hk:X.env.kindOf n=some .local)
  (k:∀s',aP X Sv (σ.set i none) H s'->Q () s'):Lg M A (do bindName X.env n M8;OP X.env n pos) Q E s:=by
 obtain⟨m,hn,hl⟩:=id I.loc
 refine wpAny_nameGoes_keeps hk hn (by rw[I.ok.kind];rfl) λh' v ZZ hs=>k _ ?_
 have Y2:∀b o,X.s₀.heap.get? b=some o->b≠X.env.locals:=λb o e=>LN (LM (Ln e) I.ok.above)
 refine⟨I.ok,I.os,I.bare,⟨λb o e n hb hx=>(hs.2 b (Y2 b o e)).trans (I.base.keep b o e n hb hx),λb o e n hb hx=> ?_,I.base.free,λb o e hx=> ?_,I.base.tups,I.base.frzs,I.base.tbls⟩,⟨_,ZZ,λj y v' e1 e2 e3=> ?_⟩,λy c e=> ?_,I.free,I.freeC,λp hp=> ?_,λb u e=> ?_,by simpa using I.len⟩
 ·obtain⟨sl,e1⟩:=I.base.slot b o e n hb hx
  exact⟨sl,(hs.2 b (Y2 b o e)).trans e1⟩
 ·obtain⟨o',e1⟩:=I.base.there b o e hx
  exact⟨o',(hs.2 b (Y2 b o e)).trans e1⟩
 ·by_cases hj:j=i
  ·subst hj
   rw[Nb]at e2
   split at e2
   ·split at e2<;>cases e2
   ·exact absurd rfl ‹_›
  ·rw[OI (MN hj)]at e2
   obtain⟨u',r',q⟩:=hl j y v' e1 e2 e3
   refine⟨u',r',?_⟩
   have ny:y≠n:=λe=>hj (rQ hN e1 (e▸hi))
   rcases q with ⟨k,e⟩|⟨k,c,e,z⟩
   ·exact .inl ⟨k,by show (if y=n then v else m y)=_;rw[if_neg ny];exact e⟩
   ·exact .inr ⟨k,c,e,z.sameBut hs (I.cne y c e)⟩
 ·obtain⟨w',z⟩:=I.cell y c e
  exact⟨w',z.sameBut hs (I.cne y c e)⟩
 ·obtain⟨e,n,ne,nf,d⟩:=I.pin p hp
  exact⟨(hs.2 p.1 ne).trans e,n,ne,nf,d⟩
 ·refine(I.hok b u e).stay (λc v hc q=>(hs.2 c ?_).trans q) (λ_ q=>q) λ_ _ q=>q
  rintro rfl
  have:=I.free
  rcases hc with z|z
  ·rw[<-z,this]at e;cases e
  ·rw[this]at z;cases z
def kg (a:L4) (cls:L0):Lr->Prop:=λh=>∃o,h.get? a=some o/\o.cls=cls
theorem Ay {P:Ll} {w:Ly} {h:Lr} (e:kg a cls h):cp P w H h a (.ext (kg a cls)):=by
 obtain⟨o,h1,h2⟩:=e
 exact⟨⟨o,h1,h2⟩,⟨o,h1⟩,λg1 g2 ⟨o',e1,e2⟩ k=>⟨o',k _ e1,e2⟩⟩
theorem Gv (I:aP X Sv σ H s) (p:ke X) (fl:IB X Sv H s.heap a cls) {Q:Unit->L5->Prop} {E:L0->L5->Prop} {A:LF}
  (k:∀h',aP X Sv σ H {s with heap:=h'}->IB X Sv H h' a cls->Q () {s with heap:=h'}):Lg (Lj X.prog X.w) A (setFlight (.ref a) none) Q E s:=by
 obtain⟨B,oe,vs,ge,gc,gd,ff,hB,Yq,hn,hk⟩:=uq I p fl.fl
 obtain⟨a1v,ZJ,e1,e2,e3,T',e4,WE⟩:=fl.at_
 rw[ge]at e1;cases e1
 rw[gd]at e3;cases e3
 obtain⟨a0F,ZK,q1,q2,q3⟩:=WE.at_
 rcases hn with g|⟨T,oT,ts,f,g1,g2,g3,g4,g5,g6,g7⟩
 ·rw[g]at e4;cases e4
 ·rw[e4]at g1;cases g1
  obtain⟨Wo,a0,h0⟩:=C7 e4
  refine lands_againW (base:=B) (l:=X.env::X.outer) (cls:=cls) (a0:=a0) ⟨hB,Yq,ff,oe,vs,T',a0F,ZK,ge,⟨gc,h0⟩,gd,e4,g2,g3,q1,q2,q3⟩ λh2 ⟨st,_,_,tr⟩ up=> ?_
  obtain⟨I',f'⟩:=hk h2 _ st tr.at.tl up
  exact k h2 I' f'
theorem Az {a1z:L4} {cx n:L3} {i:Nat} {Xi:LR} {b₀:Lw} {VZ:List Lw} {rest:List ExceptHandler} {Q:Flow->L5->Prop} {E:L0->L5->Prop} (I:aP X Sv σ H s) (p:ke X) (fl:IB X Sv H s.heap a (.ref C)) (hN:X.N.Nodup) (hi:X.N[i]? =some n)
  (hk:X.env.scope.names.lookup n=some .local) (hg:Gl X cx) (hm:X.mg cx=some (.ref a1z)) (hx:NJ X.K (.ref C) (.ref a1z)=some true) (Um:(cx==("__debug__":L3))=false)
  (k:∀s',aP (X.inH (.ref a)) Sv (σ.set i (some (.ref a))) (ce H a (.ext (kg a (.ref C)))) s'->
   Lg (Lj X.prog X.w) (X.inH (.ref a)).A (execs (b₀::VZ) X.env) (λf s3=>Lg (Lj X.prog X.w) X.A (do bindName X.env n M8;OP X.env n Xi) (λ_ s5=>Q f s5) E s3) (λ_ _=>False) s'):
  Lg (Lj X.prog X.w) X.A (handleBy (.ref a) X.env (.ExceptHandler (some (.Name cx np)) (some n) (b₀::VZ) Xi::rest)) Q E s:=by
 refine wpAny_handleBy_cons (codeAny_handlers_test ?_) (by intro z;cases z)
 refine oH (X:=X.inH (.ref a)) I.inH hg hm ?_ Um
 obtain⟨oe,vs,ge,gc,gd,_⟩:=fl.at_
 refine eR (PySem.W.exm_one I.kIn (nT ge gc) hx) ?_
 rw[if_pos rfl]
 refine codeAny_handlers_suite_as ?_
 refine Gv I p fl λh2 I2 f2=> ?_
 obtain⟨oe,vs,ge,gc,gd,_⟩:=f2.at_
 have I3:aP X Sv σ (ce H a (.ext (kg a (.ref C)))) {s with heap:=h2}:=I2.track f2.new ge gd (Ay ⟨oe,ge,gc⟩)
 refine rR (X:=X.inH (.ref a)) I3.inH hN hi (.inl hk) (v:= .ref a) rfl (λs' I'=> ?_) (.inr hk)
 exact MR (k s' I') (λf s3 q=>q) λ_ _ z=>z.elim
end
end L2
namespace L2
open PySem PySem.Spec PyProof.Rows
section
variable {X:Cx} {scope:MZ} {s:L5} {H:Hp} {ex:List L4} {E:L0->L5->Prop} {UQ:List (L4×LJ)} {τ:St} {H':Hp} {s':L5}
end
section
variable {X:Cx} {Vj tg T4:Lc} {V6:List Lc} {scope:MZ} {pos:LR} {wi:TI} {g:TG} {tt:TT} {te:TE}
end
end L2
namespace L2.Pu
open PySem PySem.Spec PyProof.Rows
structure fE where
 x:Nat
 C:L4
 fl:List (L3×Nat)
variable {ly:List fE}
inductive D where
 |non|bl (b:Bool)|int (i:Int)|str (x:L3)|tup (ds:List D)|lst (ds:List D)|dic (UJ:List (cJ×D))|ins (x:L3) (fs:List (L3×D))|scr (ns:List Int)|exc (x:L3)
mutual
inductive dZ (K:K_) (F:Hp):V->D->Prop
 |non:dZ K F .non .non
 |bl (b:Bool):dZ K F (.bl b) (.bl b)
 |int (i:Int):dZ K F (.int i) (.int i)
 |str (x:L3):dZ K F (.str x) (.str x)
 |tup {a:L4} {vs:List V} {ds:List D}:F a=some (.tup vs)->Reps K F vs ds->dZ K F (.ref a) (.tup ds)
 |lst {a:L4} {vs:List V} {ds:List D}:F a=some (.lst vs)->Reps K F vs ds->dZ K F (.ref a) (.lst ds)
 |scr {a:L4} {ns:List Int}:dC K F a (ns.map V.int)->dZ K F (.ref a) (.scr ns)
 |dic {a:L4} {kvs:List (cJ×V)} {UJ:List (cJ×D)}:F a=some (.dK kvs)->RepK K F kvs UJ->(kvs.map (·.1)).Nodup->dZ K F (.ref a) (.dic UJ)
 |ins {a C dx:L4} {x:L3} {fs vs:List (L3×V)} {fds:List (L3×D)}:F a=some (.ins C dx fs)->F dx=some (.own a)->Lh K Ld x=some (some (.ref C))->(∀p∈vs,fs.lookup p.1=some p.2)->(∀f v,fs.lookup f=some v->f∈vs.map (·.1))->RepF K F vs fds->dZ K F (.ref a) (.ins x fds)
 |exc {a C:L4} {x:L3}:F a=some (.ext (kg a (.ref C)))->Lh K Ld x=some (some (.ref C))->dZ K F (.ref a) (.exc x)
inductive Reps (K:K_) (F:Hp):List V->List D->Prop
 |nil:Reps K F [] []
 |cons {v:V} {d:D} {vs:List V} {ds:List D}:dZ K F v d->Reps K F vs ds->Reps K F (v::vs) (d::ds)
inductive RepK (K:K_) (F:Hp):List (cJ×V)->List (cJ×D)->Prop
 |nil:RepK K F [] []
 |cons {k:cJ} {v:V} {d:D} {vs:List (cJ×V)} {ds:List (cJ×D)}:dZ K F v d->RepK K F vs ds->RepK K F ((k,v)::vs) ((k,d)::ds)
inductive RepF (K:K_) (F:Hp):List (L3×V)->List (L3×D)->Prop
 |nil:RepF K F [] []
 |cons {k:L3} {v:V} {d:D} {vs:List (L3×V)} {ds:List (L3×D)}:dZ K F v d->RepF K F vs ds->RepF K F ((k,v)::vs) ((k,d)::ds)
end
theorem oU {K:K_} {F F':Hp} {a:L4} {xs:List V} (e:bd F F') (h:dC K F a xs):dC K F' a xs:=e.seq h
theorem dZ.mono {K:K_} {F F':Hp} (e:bd F F') {v:V} {d:D} (h:dZ K F v d):dZ K F' v d:=
 dZ.rec (motive_1:=λv d _=>dZ K F' v d) (motive_2:=λv d _=>Reps K F' v d) (motive_3:=λv d _=>RepK K F' v d) (motive_4:=λv d _=>RepF K F' v d) .non .bl .int .str (λh _ r=> .tup (e _ _ h) r) (λh _ r=> .lst (e _ _ h) r) (λh=> .scr (oU e h)) (λh _ n r=> .dic (e _ _ h) r n) (λh h2 n l1 l2 _ r=> .ins (e _ _ h) (e _ _ h2) n l1 l2 r) (λh n=> .exc (e _ _ h) n) .nil (λ_ _ a b=> .cons a b) .nil (λ_ _ a b=> .cons a b) .nil (λ_ _ a b=> .cons a b) h
theorem Reps.mono {K:K_} {F F':Hp} (e:bd F F') {v:List V} {d:List D} (h:Reps K F v d):Reps K F' v d:=
 Reps.rec (motive_1:=λv d _=>dZ K F' v d) (motive_2:=λv d _=>Reps K F' v d) (motive_3:=λv d _=>RepK K F' v d) (motive_4:=λv d _=>RepF K F' v d) .non .bl .int .str (λh _ r=> .tup (e _ _ h) r) (λh _ r=> .lst (e _ _ h) r) (λh=> .scr (oU e h)) (λh _ n r=> .dic (e _ _ h) r n) (λh h2 n l1 l2 _ r=> .ins (e _ _ h) (e _ _ h2) n l1 l2 r) (λh n=> .exc (e _ _ h) n) .nil (λ_ _ a b=> .cons a b) .nil (λ_ _ a b=> .cons a b) .nil (λ_ _ a b=> .cons a b) h
theorem RepK.mono {K:K_} {F F':Hp} (e:bd F F') {v:List (cJ×V)} {d:List (cJ×D)} (h:RepK K F v d):RepK K F' v d:=
 RepK.rec (motive_1:=λv d _=>dZ K F' v d) (motive_2:=λv d _=>Reps K F' v d) (motive_3:=λv d _=>RepK K F' v d) (motive_4:=λv d _=>RepF K F' v d) .non .bl .int .str (λh _ r=> .tup (e _ _ h) r) (λh _ r=> .lst (e _ _ h) r) (λh=> .scr (oU e h)) (λh _ n r=> .dic (e _ _ h) r n) (λh h2 n l1 l2 _ r=> .ins (e _ _ h) (e _ _ h2) n l1 l2 r) (λh n=> .exc (e _ _ h) n) .nil (λ_ _ a b=> .cons a b) .nil (λ_ _ a b=> .cons a b) .nil (λ_ _ a b=> .cons a b) h
theorem RepF.mono {K:K_} {F F':Hp} (e:bd F F') {v:List (L3×V)} {d:List (L3×D)} (h:RepF K F v d):RepF K F' v d:=
 RepF.rec (motive_1:=λv d _=>dZ K F' v d) (motive_2:=λv d _=>Reps K F' v d) (motive_3:=λv d _=>RepK K F' v d) (motive_4:=λv d _=>RepF K F' v d) .non .bl .int .str (λh _ r=> .tup (e _ _ h) r) (λh _ r=> .lst (e _ _ h) r) (λh=> .scr (oU e h)) (λh _ n r=> .dic (e _ _ h) r n) (λh h2 n l1 l2 _ r=> .ins (e _ _ h) (e _ _ h2) n l1 l2 r) (λh n=> .exc (e _ _ h) n) .nil (λ_ _ a b=> .cons a b) .nil (λ_ _ a b=> .cons a b) .nil (λ_ _ a b=> .cons a b) h
section
variable {K:K_} {F:Hp}
def Cd (K:K_) (F:Hp) (v:V):D->Prop
 | .non=>v= .non
 | .bl b=>v= .bl b
 | .int i=>v= .int i
 | .str x=>v= .str x
 | .tup ds=>∃a vs,v= .ref a/\F a=some (.tup vs)/\Reps K F vs ds
 | .lst ds=>∃a vs,v= .ref a/\F a=some (.lst vs)/\Reps K F vs ds
 | .scr ns=>∃a,v= .ref a/\dC K F a (ns.map V.int)
 | .dic UJ=>∃a kvs,v= .ref a/\F a=some (.dK kvs)/\RepK K F kvs UJ/\(kvs.map (·.1)).Nodup
 | .ins x fds=>∃a C dx fs vs,v= .ref a/\F a=some (.ins C dx fs)/\Lh K Ld x=some (some (.ref C))/\(∀p∈vs,fs.lookup p.1=some p.2)/\(∀f v,fs.lookup f=some v->f∈vs.map (·.1))/\RepF K F vs fds
 | .exc x=>∃a C,v= .ref a/\F a=some (.ext (kg a (.ref C)))/\Lh K Ld x=some (some (.ref C))
theorem dZ.inv {v:V} {d:D} (h:dZ K F v d):Cd K F v d:=by
 cases h with
 |non=>exact rfl
 |bl=>exact rfl
 |int=>exact rfl
 |str=>exact rfl
 |tup h r=>exact⟨_,_,rfl,h,r⟩
 |lst h r=>exact⟨_,_,rfl,h,r⟩
 |scr h=>exact⟨_,rfl,h⟩
 |dic h r n=>exact⟨_,_,rfl,h,r,n⟩
 |ins h1 _ h3 h4 h5 h6=>exact⟨_,_,_,_,_,rfl,h1,h3,h4,h5,h6⟩
 |exc h n=>exact⟨_,_,rfl,h,n⟩
theorem RepK.nilI {vs:List (cJ×V)} (h:RepK K F vs []):vs=[]:=by cases h;rfl
theorem RepK.consI {vs:List (cJ×V)} {k:cJ} {d:D} {ds:List (cJ×D)} (h:RepK K F vs ((k,d)::ds)):∃v us,vs=(k,v)::us/\dZ K F v d/\RepK K F us ds:=by
 cases h with
 |cons r t=>exact⟨_,_,rfl,r,t⟩
theorem Reps.nilI {vs:List V} (h:Reps K F vs []):vs=[]:=by cases h;rfl
theorem Reps.consI {vs:List V} {d:D} {ds:List D} (h:Reps K F vs (d::ds)):∃v us,vs=v::us/\dZ K F v d/\Reps K F us ds:=by
 cases h with
 |cons r t=>exact⟨_,_,rfl,r,t⟩
theorem dZ.intI {v:V} {i:Int} (h:dZ K F v (.int i)):v= .int i:=h.inv
theorem dZ.tupI {v:V} {ds:List D} (h:dZ K F v (.tup ds)):∃a vs,v= .ref a/\F a=some (.tup vs)/\Reps K F vs ds:=h.inv
theorem Reps.int1 {vs:List V} {i:Int} (h:Reps K F vs [.int i]):vs=[.int i]:=by
 obtain⟨v,us,rfl,r,t⟩:=h.consI
 rw[t.nilI,r.intI]
theorem Reps.int2 {vs:List V} {i j:Int} (h:Reps K F vs [.int i, .int j]):vs=[.int i, .int j]:=by
 obtain⟨v,us,rfl,r,t⟩:=h.consI
 rw[t.int1,r.intI]
theorem Reps.length:∀{vs:List V} {ds:List D},Reps K F vs ds->vs.length=ds.length:=by
 intro vs ds
 induction ds generalizing vs with
 |nil=>intro h;rw[h.nilI];rfl
 |cons d ds ih=>
  intro h
  obtain⟨v,us,rfl,_,t⟩:=h.consI
  rw[Lu,Lu,ih t]
theorem RepK.length:∀{vs:List (cJ×V)} {ds:List (cJ×D)},RepK K F vs ds->vs.length=ds.length:=by
 intro vs ds
 induction ds generalizing vs with
 |nil=>intro h;rw[h.nilI];rfl
 |cons d ds ih=>
  intro h
  obtain⟨v,us,rfl,_,t⟩:=RepK.consI (k:=d.1) (d:=d.2) h
  rw[Lu,Lu,ih t]
theorem Reps.append:∀{vs us:List V} {ds es:List D},Reps K F vs ds->Reps K F us es->Reps K F (vs++us) (ds++es):=by
 intro vs us ds
 induction ds generalizing vs with
 |nil=>intro es h g;rw[h.nilI];exact g
 |cons d ds ih=>
  intro es h g
  obtain⟨v,us,rfl,r,t⟩:=h.consI
  exact .cons r (ih t g)
theorem Reps.get:∀{vs:List V} {ds:List D} {i:Nat} {d:D},Reps K F vs ds->ds[i]? =some d->∃v,vs[i]? =some v/\dZ K F v d
 |_,_,_,_, .nil,h=>by simp at h
 |_,_,0,_, .cons r t,h=>by simp at h;subst h;exact⟨_,rfl,r⟩
 |_,_,i+1,_, .cons r t,h=>by
  obtain⟨v,h1,h2⟩:=t.get (i:=i) (by simpa using h)
  exact⟨v,by simpa using h1,h2⟩
theorem Reps.get':∀{vs:List V} {ds:List D} {i:Nat} {v:V},Reps K F vs ds->vs[i]? =some v->∃d,ds[i]? =some d/\dZ K F v d
 |_,_,_,_, .nil,h=>by simp at h
 |_,_,0,_, .cons r t,h=>by simp at h;subst h;exact⟨_,rfl,r⟩
 |_,_,i+1,_, .cons r t,h=>by
  obtain⟨v,h1,h2⟩:=t.get' (i:=i) (by simpa using h)
  exact⟨v,by simpa using h1,h2⟩
theorem Reps.set:∀{vs:List V} {ds:List D} {v:V} {d:D} (i:Nat),Reps K F vs ds->dZ K F v d->Reps K F (vs.set i v) (ds.set i d)
 |_,_,_,_,_, .nil,_=> .nil
 |_,_,_,_,0, .cons r t,h=> .cons h t
 |_,_,_,_,i+1, .cons r t,h=> .cons r (t.set i h)
theorem Reps.drop:∀{vs:List V} {ds:List D} (i:Nat),Reps K F vs ds->Reps K F (vs.drop i) (ds.drop i)
 |_,_,0,h=>h
 |_,_,_+1, .nil=> .nil
 |_,_,i+1, .cons r t=>t.drop i
theorem Reps.take:∀{vs:List V} {ds:List D} (i:Nat),Reps K F vs ds->Reps K F (vs.take i) (ds.take i)
 |_,_,0,h=> .nil
 |_,_,_+1, .nil=> .nil
 |_,_,i+1, .cons r t=> .cons r (t.take i)
theorem Reps.reverse {vs:List V} {ds:List D} (h:Reps K F vs ds):Reps K F vs.reverse ds.reverse:=by
 induction h using Reps.rec (motive_1:=λ_ _ _=>True) (motive_3:=λ_ _ _=>True) (motive_4:=λ_ _ _=>True)with
 |nil=>exact .nil
 |cons r t _ ih=>rw[Oj,Oj];exact ih.append (.cons r .nil)
 |_=>trivial
end
structure cg (H F H' F':Hp):Prop where
 sub:bd F' H'
 keep:bd H H'
 grow:bd F F'
 new:∀a,F' a≠none->F a≠none\/H a=none
theorem cg.refl {H F:Hp} (h:bd F H):cg H F H F:=⟨h,bd.refl _,bd.refl _,λ_ h=> .inl h⟩
theorem cg.trans {H F H1 F1 H2 F2:Hp} (a:cg H F H1 F1) (b:cg H1 F1 H2 F2):cg H F H2 F2:=
 ⟨b.sub,a.keep.trans b.keep,a.grow.trans b.grow,λx h=>(b.new x h).elim (λq=>a.new x q) λq=> .inr (a.keep.free q)⟩
theorem d0 {H:Hp} {p:L4} {o:HO} (h:H p=none):bd H (ce H p o):=λb u e=>by
 rw[az (λz=>by rw[z,h]at e;cases e)];exact e
theorem cg.lay {H F:Hp} (s:bd F H) {p:L4} {o:HO} (h:H p=none):cg H F (ce H p o) (ce F p o):=by
 refine⟨λb u e=> ?_,d0 h,d0 (s.free h),λb e=> ?_⟩
 ·by_cases z:b=p
  ·subst z;rw[aH]at e ⊢;exact e
  ·rw[az z]at e ⊢;exact s b u e
 ·by_cases z:b=p
  ·subst z;exact .inr h
  ·rw[az z]at e;exact .inl e
theorem cg.layOwn {H F:Hp} (s:bd F H) {p:L4} {o:HO} (h:H p=none):cg H F (ce H p o) F:=
 ⟨s.trans (d0 h),d0 h,bd.refl _,λ_ e=> .inl e⟩
inductive Slot where
 |val (d:D)|own (d:D)|bor (d:D)|obj|cel (x:L3) (SH:List (L3×D)) (f:L3) (hs:List D)
def Slot.data:Slot->D
 | .val d=>d
 | .own d=>d
 | .bor d=>d
 | .obj=> .non
 | .cel .. => .non
def Slot.single:Slot->Bool
 | .obj=>true
 | .cel .. =>true
 |_=>false
abbrev ag:=List (Option Slot)
inductive j0 (K:K_) (F:Hp):HO->D->Prop
 |lst {vs:List V} {ds:List D}:Reps K F vs ds->j0 K F (.lst vs) (.lst ds)
 |dic {kvs:List (cJ×V)} {UJ:List (cJ×D)}:RepK K F kvs UJ->(kvs.map (·.1)).Nodup->j0 K F (.dK kvs) (.dic UJ)
theorem j0.mono {K:K_} {F F':Hp} (e:bd F F') {o:HO} {d:D}:j0 K F o d->j0 K F' o d
 | .lst r=> .lst (r.mono e)
 | .dic r n=> .dic (r.mono e) n
structure dM (ly:List fE)where
 H0:Hp
 F0:Hp
 B:Hp
 Er:L3->ag->Prop
 oa:Nat->Option L4:=λ_=>none
 Fm:Hp:=λ_=>none
structure lK (K:K_) (H0 H F:Hp) (a dx b:L4) (x:L3) (SH:List (L3×D)) (f:L3) (hs:List D):Prop where
 ex:∃C fs vs us,H a=some (.ins C dx fs)/\Lh K Ld x=some (some (.ref C))/\fs.lookup f=some (.ref b)/\H b=some (.lst us)/\Reps K F us hs/\RepF K F vs SH/\(∀p∈vs,fs.lookup p.1=some p.2)/\
  (∀g v,fs.lookup g=some v->g=f\/g∈vs.map (·.1))/\(fs.map (·.1)).Nodup/\f∉vs.map (·.1)
 own:H dx=some (.own a)
 fa:F a=none
 fd:F dx=none
 fb:F b=none
 za:H0 a=none
 zd:H0 dx=none
 zb:H0 b=none
theorem cg.out {H F H' F':Hp} (e:cg H F H' F') {a:L4} {o:HO} (h:H a=some o) (hF:F a=none):F' a=none:=by
 cases q:F' a with
 |none=>rfl
 |some u=>
  rcases e.new a (by rw[q];simp)with z|z
  ·exact absurd hF z
  ·rw[h]at z;cases z
theorem lK.step {K:K_} {H0 H F H' F':Hp} {a dx b:L4} {x:L3} {SH:List (L3×D)} {f:L3} {hs:List D} (h:lK K H0 H F a dx b x SH f hs) (e:cg H F H' F'):lK K H0 H' F' a dx b x SH f hs:=by
 obtain⟨C,fs,vs,us,h1,h2,h3,h4,h5,h6,h7,h8⟩:=h.ex
 exact⟨⟨C,fs,vs,us,e.keep _ _ h1,h2,h3,e.keep _ _ h4,h5.mono e.grow,h6.mono e.grow,h7,h8⟩,e.keep _ _ h.own,e.out h1 h.fa,e.out h.own h.fd,e.out h4 h.fb,h.za,h.zd,h.zb⟩
structure oV (K:K_) (H0:Hp) (ρ:ag) (σ:St) (H F:Hp):Prop where
 ex:∀(i:Nat) x SH f hs,ρ[i]? =some (some (.cel x SH f hs))->∃a dx b,σ[i]? =some (some (.ref a))/\lK K H0 H F a dx b x SH f hs/\∀(j:Nat) d,ρ[j]? =some (some (.own d))->σ[j]? ≠some (some (.ref b))
 one:∀(i j:Nat) x SH f hs s,ρ[i]? =some (some (.cel x SH f hs))->ρ[j]? =some (some s)->s.single=true->i=j
theorem oV.no {K:K_} {H0:Hp} {ρ:ag} {σ:St} {H F:Hp} (h:∀(i:Nat) x SH f hs,ρ[i]? ≠some (some (.cel x SH f hs))):oV K H0 ρ σ H F:=⟨λi x SH f hs e=>absurd e (h i x SH f hs),λi j x SH f hs s e=>absurd e (h i x SH f hs)⟩
theorem oV.step {K:K_} {H0 H F H' F':Hp} {ρ:ag} {σ:St} (h:oV K H0 ρ σ H F) (e:cg H F H' F'):oV K H0 ρ σ H' F':=
 ⟨λi x SH f hs q=>by obtain⟨a,dx,b,h1,h2,h3⟩:=h.ex i x SH f hs q;exact⟨a,dx,b,h1,h2.step e,h3⟩,h.one⟩
structure RI (K:K_) (c:dM ly) (ρ:ag) (σ:St) (H F:Hp):Prop where
 ext:cg c.H0 c.F0 H F
 val:∀(i:Nat) d,ρ[i]? =some (some (.val d))->∃v,σ[i]? =some (some v)/\dZ K F v d
 own:∀(i:Nat) d,ρ[i]? =some (some (.own d))->∃a o,σ[i]? =some (some (.ref a))/\H a=some o/\F a=none/\c.H0 a=none/\j0 K F o d
 bor:∀(i:Nat) d,ρ[i]? =some (some (.bor d))->∃a o,σ[i]? =some (some (.ref a))/\c.B a=some o/\j0 K c.F0 o d
 bh:bd c.B c.H0
 dis:∀(i j:Nat) d d' a,ρ[i]? =some (some (.own d))->ρ[j]? =some (some (.own d'))->σ[i]? =some (some (.ref a))->σ[j]? =some (some (.ref a))->i=j
 len:ρ.length=σ.length
 obj:∀L∈ly,ρ[L.x]? =some (some .obj)->∃a dx fs,(∀b,c.oa L.x=some b->a=b)/\σ[L.x]? =some (some (.ref a))/\H a=some (.ins L.C dx fs)/\H dx=some (.own a)/\F a=none/\F dx=none/\c.H0 a=none/\c.H0 dx=none/\
  (∀p∈L.fl,fs.lookup p.1=(σ[p.2]?).join)/\(∀f v,fs.lookup f=some v->f∈L.fl.map (·.1))/\(fs.map (·.1)).Nodup
 odis:∀L∈ly,∀L'∈ly,ρ[L.x]? =some (some .obj)->ρ[L'.x]? =some (some .obj)->∀a,σ[L.x]? =some (some (.ref a))->σ[L'.x]? =some (some (.ref a))->L=L'
 fm:bd c.Fm F
 cel:oV K c.H0 ρ σ H F
 pin:∀L∈ly,∀a,c.oa L.x=some a->σ[L.x]? =some (some (.ref a))
def lA (ly:List fE) (i:Nat):Prop:=∀L∈ly,L.x≠i/\∀p∈L.fl,p.2≠i
theorem fO {i:Nat}:lA [] i:=λL h=>by cases h
theorem eA {L:fE} {ls:List fE} {i:Nat} (h:L.x≠i/\∀p∈L.fl,p.2≠i) (r:lA ls i):lA (L::ls) i:=λM hM=>by
 rcases Li.mp hM with rfl|hM
 ·exact h
 ·exact r M hM
section
variable {K:K_} {c:dM ly} {ρ:ag} {σ:St} {H F H' F':Hp}
theorem RI.step (r:RI K c ρ σ H F) (e:cg H F H' F'):RI K c ρ σ H' F' where
 cel:=r.cel.step e
 pin:=r.pin
 obj:=λL hL hρ=>by
  obtain⟨a,dx,fs,h0,h1,h2,h3,h4,h5,h6,h7,h8⟩:=r.obj L hL hρ
  exact⟨a,dx,fs,h0,h1,e.keep _ _ h2,e.keep _ _ h3,e.out h2 h4,e.out h3 h5,h6,h7,h8⟩
 odis:=r.odis
 fm:=r.fm.trans e.grow
 ext:=r.ext.trans e
 val:=λi d h=>by obtain⟨v,h1,h2⟩:=r.val i d h;exact⟨v,h1,h2.mono e.grow⟩
 own:=λi d h=>by
  obtain⟨a,o,h1,h2,h3,h4,h5⟩:=r.own i d h
  refine⟨a,o,h1,e.keep _ _ h2,?_,h4,h5.mono e.grow⟩
  cases q:F' a with
  |none=>rfl
  |some u=>
   rcases e.new a (by rw[q];simp)with z|z
   ·exact absurd h3 z
   ·rw[h2]at z;cases z
 bor:=r.bor
 bh:=r.bh
 dis:=r.dis
 len:=r.len
theorem RI.sub (r:RI K c ρ σ H F):bd F H:=r.ext.sub
theorem aB {α:Type} {l:List α} {i j:Nat} {a b:α} (h:(l.set i a)[j]? =some b):(i=j/\a=b/\i<l.length)\/(i≠j/\l[j]? =some b):=by
 rw[Nb]at h
 by_cases e:i=j
 ·rw[if_pos e]at h
  split at h
  ·cases h;exact .inl ⟨e,rfl,by assumption⟩
  ·cases h
 ·rw[if_neg e]at h;exact .inr ⟨e,h⟩
theorem gA {α:Type} {l:List α} {i:Nat} {a:α} (h:i<l.length):(l.set i a)[i]? =some a:=by
 rw[Nb,if_pos rfl,if_pos h]
theorem ao {α:Type} {l:List α} {i j:Nat} {a:α} (h:i≠j):(l.set i a)[j]? =l[j]? :=by
 rw[Nb,if_neg h]
theorem oV.set {K:K_} {H0:Hp} {ρ:ag} {σ:St} {H F:Hp} (h:oV K H0 ρ σ H F) (i:Nat) {s:Option Slot} {v:Option V} (hn:∀s',s=some s'->s'.single=false)
  (ho:∀d,s=some (.own d)->∀(j:Nat) x SH f hs a C dx fs b,ρ[j]? =some (some (.cel x SH f hs))->σ[j]? =some (some (.ref a))->H a=some (.ins C dx fs)->fs.lookup f=some (.ref b)->v≠some (.ref b)):oV K H0 (ρ.set i s) (σ.set i v) H F:=by
 refine⟨λj x SH f hs q=> ?_,λj k x SH f hs s' q q2 T3=> ?_⟩
 ·rcases aB q with ⟨_,z,_⟩|⟨z,q⟩
  ·have:=hn _ z;cases this
  ·obtain⟨a,dx,b,h1,h2,h3⟩:=h.ex j x SH f hs q
   refine⟨a,dx,b,by rw[ao z];exact h1,h2,λk d w=> ?_⟩
   rcases aB w with ⟨rfl,z',l⟩|⟨z',w⟩
   ·obtain⟨C,fs,vs,us,g1,g2,g3,_⟩:=h2.ex
    intro e
    rw[Nb]at e
    split at e
    ·split at e
     ·exact ho d z' j x SH f hs a C dx fs b q h1 g1 g3 (by simpa using e)
     ·cases e
    ·rename_i ne;exact absurd rfl ne
   ·rw[ao z'];exact h3 k d w
 ·rcases aB q with ⟨_,z,_⟩|⟨z,q⟩
  ·have:=hn _ z;cases this
  ·rcases aB q2 with ⟨_,z',_⟩|⟨z',q2⟩
   ·have:=hn _ z';rw[T3]at this;cases this
   ·exact h.one j k x SH f hs s' q q2 T3
theorem RI.setVal (r:RI K c ρ σ H F) (i:Nat) {v:V} {d:D} (hf:lA ly i) (h:dZ K F v d):RI K c (ρ.set i (some (.val d))) (σ.set i (some v)) H F where
 cel:=r.cel.set i (λs' e=>by cases e;rfl) (λd e=>by cases e)
 pin:=λL hL a h=>by rw[ao (hf L hL).1.symm];exact r.pin L hL a h
 obj:=λL hL hρ=>by
  rw[ao (hf L hL).1.symm]at hρ
  obtain⟨a,dx,fs,h0,h1,h2,h3,h4,h5,h6,h7,h8,h9⟩:=r.obj L hL hρ
  refine⟨a,dx,fs,h0,by rw[ao (hf L hL).1.symm];exact h1,h2,h3,h4,h5,h6,h7,λp hp=> ?_,h9⟩
  rw[ao ((hf L hL).2 p hp).symm];exact h8 p hp
 odis:=λL hL L' V_ q1 q2 a k1 k2=>by
  rw[ao (hf L hL).1.symm]at k1 q1
  rw[ao (hf L' V_).1.symm]at k2 q2
  exact r.odis L hL L' V_ q1 q2 a k1 k2
 fm:=r.fm
 ext:=r.ext
 val:=λj e q=>by
  rcases aB q with ⟨rfl,z,l⟩|⟨z,q⟩
  ·cases z;exact⟨v,gA (by rw[<-r.len];exact l),h⟩
  ·rw[ao z];exact r.val j e q
 own:=λj e q=>by
  rcases aB q with ⟨rfl,z,l⟩|⟨z,q⟩
  ·cases z
  ·rw[ao z];exact r.own j e q
 bor:=λj e q=>by
  rcases aB q with ⟨rfl,z,l⟩|⟨z,q⟩
  ·cases z
  ·rw[ao z];exact r.bor j e q
 bh:=r.bh
 dis:=λj k e e' a q1 q2 q3 q4=>by
  rcases aB q1 with ⟨rfl,z,l⟩|⟨z,q1⟩
  ·cases z
  ·rcases aB q2 with ⟨rfl,z',l⟩|⟨z',q2⟩
   ·cases z'
   ·rw[ao z]at q3;rw[ao z']at q4
    exact r.dis j k e e' a q1 q2 q3 q4
 len:=by simp[r.len]
theorem RI.setNone (r:RI K c ρ σ H F) (i:Nat) {v:Option V} (hf:lA ly i):RI K c (ρ.set i none) (σ.set i v) H F where
 cel:=r.cel.set i (λs' e=>by cases e) (λd e=>by cases e)
 pin:=λL hL a h=>by rw[ao (hf L hL).1.symm];exact r.pin L hL a h
 obj:=λL hL hρ=>by
  rw[ao (hf L hL).1.symm]at hρ
  obtain⟨a,dx,fs,h0,h1,h2,h3,h4,h5,h6,h7,h8,h9⟩:=r.obj L hL hρ
  refine⟨a,dx,fs,h0,by rw[ao (hf L hL).1.symm];exact h1,h2,h3,h4,h5,h6,h7,λp hp=> ?_,h9⟩
  rw[ao ((hf L hL).2 p hp).symm];exact h8 p hp
 odis:=λL hL L' V_ q1 q2 a k1 k2=>by
  rw[ao (hf L hL).1.symm]at k1 q1
  rw[ao (hf L' V_).1.symm]at k2 q2
  exact r.odis L hL L' V_ q1 q2 a k1 k2
 fm:=r.fm
 ext:=r.ext
 val:=λj e q=>by
  rcases aB q with ⟨rfl,z,l⟩|⟨z,q⟩
  ·cases z
  ·rw[ao z];exact r.val j e q
 own:=λj e q=>by
  rcases aB q with ⟨rfl,z,l⟩|⟨z,q⟩
  ·cases z
  ·rw[ao z];exact r.own j e q
 bor:=λj e q=>by
  rcases aB q with ⟨rfl,z,l⟩|⟨z,q⟩
  ·cases z
  ·rw[ao z];exact r.bor j e q
 bh:=r.bh
 dis:=λj k e e' a q1 q2 q3 q4=>by
  rcases aB q1 with ⟨rfl,z,l⟩|⟨z,q1⟩
  ·cases z
  ·rcases aB q2 with ⟨rfl,z',l⟩|⟨z',q2⟩
   ·cases z'
   ·rw[ao z]at q3;rw[ao z']at q4
    exact r.dis j k e e' a q1 q2 q3 q4
 len:=by simp[r.len]
theorem RI.setOwn (r:RI K c ρ σ H F) (i:Nat) {a:L4} {o:HO} {d:D} (hf:lA ly i) (h:H a=some o) (hF:F a=none) (h0:c.H0 a=none) (q:j0 K F o d)
  (ne:∀(j:Nat) d',j≠i->ρ[j]? =some (some (.own d'))->σ[j]? ≠some (some (.ref a)))
  (nb:∀(j:Nat) x SH f hs a' C dx fs,ρ[j]? =some (some (.cel x SH f hs))->σ[j]? =some (some (.ref a'))->H a'=some (.ins C dx fs)->fs.lookup f≠some (.ref a)):RI K c (ρ.set i (some (.own d))) (σ.set i (some (.ref a))) H F where
 cel:=r.cel.set i (λs' e=>by cases e;rfl) (λd e j x SH f hs a' C dx fs b q1 q2 q3 q4 z=>by cases z;exact nb j x SH f hs a' C dx fs q1 q2 q3 q4)
 pin:=λL hL b h=>by rw[ao (hf L hL).1.symm];exact r.pin L hL b h
 obj:=λL hL hρ=>by
  rw[ao (hf L hL).1.symm]at hρ
  obtain⟨b,dx,fs,h0,h1,h2,h3,h4,h5,h6,h7,h8,h9⟩:=r.obj L hL hρ
  refine⟨b,dx,fs,h0,by rw[ao (hf L hL).1.symm];exact h1,h2,h3,h4,h5,h6,h7,λp hp=> ?_,h9⟩
  rw[ao ((hf L hL).2 p hp).symm];exact h8 p hp
 odis:=λL hL L' V_ q1 q2 b k1 k2=>by
  rw[ao (hf L hL).1.symm]at k1 q1
  rw[ao (hf L' V_).1.symm]at k2 q2
  exact r.odis L hL L' V_ q1 q2 b k1 k2
 fm:=r.fm
 ext:=r.ext
 val:=λj e q=>by
  rcases aB q with ⟨rfl,z,l⟩|⟨z,q⟩
  ·cases z
  ·rw[ao z];exact r.val j e q
 own:=λj e q'=>by
  rcases aB q' with ⟨rfl,z,l⟩|⟨z,q'⟩
  ·cases z;exact⟨a,o,gA (by rw[<-r.len];exact l),h,hF,h0,q⟩
  ·rw[ao z];exact r.own j e q'
 bor:=λj e q=>by
  rcases aB q with ⟨rfl,z,l⟩|⟨z,q⟩
  ·cases z
  ·rw[ao z];exact r.bor j e q
 bh:=r.bh
 dis:=λj k e e' b q1 q2 q3 q4=>by
  rcases aB q1 with ⟨rfl,z,l⟩|⟨z,q1⟩
  ·rw[gA (by rw[<-r.len];exact l)]at q3
   cases q3
   rcases aB q2 with ⟨rfl,z',l⟩|⟨z',q2⟩
   ·rfl
   ·rw[ao z']at q4
    exact absurd q4 (ne k e' (MN z') q2)
  ·rw[ao z]at q3
   rcases aB q2 with ⟨rfl,z',l⟩|⟨z',q2⟩
   ·rw[gA (by rw[<-r.len];exact l)]at q4
    cases q4
    exact absurd q3 (ne j e (MN z) q1)
   ·rw[ao z']at q4
    exact r.dis j k e e' b q1 q2 q3 q4
 len:=by simp[r.len]
theorem RI.celNe (r:RI K c ρ σ H F) {H2:Hp} (k:bd H H2) {p:L4} (hp:H p=none):∀(j:Nat) x SH f hs a' C dx fs,ρ[j]? =some (some (.cel x SH f hs))->σ[j]? =some (some (.ref a'))->H2 a'=some (.ins C dx fs)->fs.lookup f≠some (.ref p):=λj x SH f hs a' C dx fs q1 q2 q3 q4=>by
 obtain⟨a,a3_,b,h1,h2,_⟩:=r.cel.ex j x SH f hs q1
 rw[q2]at h1
 cases h1
 obtain⟨C0,a40,vs,us,g1,g2,g3,g4,_⟩:=h2.ex
 rw[k _ _ g1]at q3
 cases q3
 rw[g3]at q4
 cases q4
 rw[hp]at g4
 cases g4
theorem RI.setNew (r:RI K c ρ σ H F) (i:Nat) {a:L4} {o:HO} {d:D} (hf:lA ly i) (h:H a=none) (q:j0 K F o d):RI K c (ρ.set i (some (.own d))) (σ.set i (some (.ref a))) (ce H a o) F:=by
 have r':=r.step (cg.layOwn r.sub (o:=o) h)
 refine r'.setOwn i hf aH (r.sub.free h) (r.ext.keep.free h) q (λj d' _ hj e=> ?_) (r.celNe (d0 h) h)
 obtain⟨b,o',h1,h2,_⟩:=r.own j d' hj
 rw[e]at h1
 cases h1
 rw[h]at h2
 cases h2
theorem RI.change (r:RI K c ρ σ H F) {i:Nat} {a:L4} {o o':HO} {d d':D} (hi:ρ[i]? =some (some (.own d))) (hs:σ[i]? =some (some (.ref a))) (q:j0 K F o' d'):
  RI K c (ρ.set i (some (.own d'))) σ (ce H a o') F:=by
 obtain⟨b,u,h1,h2,h3,h4,h5⟩:=r.own i d hi
 rw[hs]at h1
 cases h1
 refine⟨⟨λx y e=> ?_,λx y e=> ?_,r.ext.grow,r.ext.new⟩,λj e w=> ?_,λj e w=> ?_,λj e w=> ?_,r.bh,λj k e e' x q1 q2 q3 q4=> ?_,by simp[r.len],λL hL hρ=> ?_,λL hL L' V_ q1 q2=> ?_,r.fm,⟨λj x SH f hs w=> ?_,λj k x SH f hs s w w2 T3=> ?_⟩,r.pin⟩
 ·rw[az (λz=>by rw[z,h3]at e;cases e)];exact r.sub x y e
 ·rw[az (λz=>by rw[z,h4]at e;cases e)];exact r.ext.keep x y e
 ·rcases aB w with ⟨rfl,z,l⟩|⟨z,w⟩
  ·cases z
  ·exact r.val j e w
 ·rcases aB w with ⟨rfl,z,l⟩|⟨z,w⟩
  ·cases z;exact⟨a,o',hs,aH,h3,h4,q⟩
  ·obtain⟨x,y,k1,k2,k3,k4,k5⟩:=r.own j e w
   refine⟨x,y,k1,?_,k3,k4,k5⟩
   rw[az (λzz=>by subst zz;exact z (r.dis i j d e x hi w hs k1))]
   exact k2
 ·rcases aB w with ⟨rfl,z,l⟩|⟨z,w⟩
  ·cases z
  ·exact r.bor j e w
 ·have own_of:∀{l:Nat} {x:D},(ρ.set i (some (.own d')))[l]? =some (some (.own x))->∃y,ρ[l]? =some (some (.own y)):=λ{l x} w=>by
   rcases aB w with ⟨rfl,z,_⟩|⟨z,w⟩
   ·exact⟨d,hi⟩
   ·exact⟨x,w⟩
  obtain⟨y1,w1⟩:=own_of q1
  obtain⟨y2,w2⟩:=own_of q2
  exact r.dis j k y1 y2 x w1 w2 q3 q4
 ·have a0H:ρ[L.x]? =some (some .obj):=by
   rcases aB hρ with ⟨_,z,_⟩|⟨_,w⟩
   ·cases z
   ·exact w
  obtain⟨b,dx,fs,k0,k1,k2,k3,k4⟩:=r.obj L hL a0H
  have n1:b≠a:=λz=>by subst z;rw[k2]at h2;cases h2;cases h5
  have n2:dx≠a:=λz=>by subst z;rw[k3]at h2;cases h2;cases h5
  exact⟨b,dx,fs,k0,k1,by rw[az n1];exact k2,by rw[az n2];exact k3,k4⟩
 ·refine r.odis L hL L' V_ ?_ ?_
  ·rcases aB q1 with ⟨_,z,_⟩|⟨_,w⟩
   ·cases z
   ·exact w
  ·rcases aB q2 with ⟨_,z,_⟩|⟨_,w⟩
   ·cases z
   ·exact w
 ·rcases aB w with ⟨rfl,z,l⟩|⟨z,w⟩
  ·cases z
  ·obtain⟨b,dx,bb,k1,k2,k3⟩:=r.cel.ex j x SH f hs w
   obtain⟨C,fs,vs,us,g1,g2,g3,g4,g5⟩:=k2.ex
   have n1:b≠a:=λz=>by subst z;rw[g1]at h2;cases h2;cases h5
   have n2:dx≠a:=λz=>by subst z;rw[k2.own]at h2;cases h2;cases h5
   have n3:bb≠a:=λz=>by subst z;exact k3 i d hi hs
   refine⟨b,dx,bb,k1,⟨⟨C,fs,vs,us,by rw[az n1];exact g1,g2,g3,by rw[az n3];exact g4,g5⟩,by rw[az n2];exact k2.own,k2.fa,k2.fd,k2.fb,k2.za,k2.zd,k2.zb⟩,λk e w2=> ?_⟩
   rcases aB w2 with ⟨rfl,z',l⟩|⟨z',w2⟩
   ·exact k3 i d hi
   ·exact k3 k e w2
 ·rcases aB w with ⟨rfl,z,l⟩|⟨z,w⟩
  ·cases z
  ·rcases aB w2 with ⟨rfl,z',l⟩|⟨z',w2⟩
   ·cases z';cases T3
   ·exact r.cel.one j k x SH f hs s w w2 T3
end
def frz1 (i:Nat) (ρ:ag):ag:=match ρ[i]? with
 |some (some (.own d))=>ρ.set i (some (.val d))
 |_=>ρ
def frz (L:List Nat) (ρ:ag):ag:=L.foldl (λr i=>frz1 i r) ρ
theorem RI.frz1 {K:K_} {c:dM ly} {ρ:ag} {σ:St} {H F:Hp} (r:RI K c ρ σ H F) (i:Nat):∃F',bd F F'/\RI K c (frz1 i ρ) σ H F':=by
 unfold L2.Pu.frz1
 split
 ·rename_i d hi
  obtain⟨a,o,h1,h2,h3,h4,h5⟩:=r.own i d hi
  have g:bd F (ce F a o):=d0 h3
  refine⟨ce F a o,g,⟨⟨λb u e=> ?_,r.ext.keep,r.ext.grow.trans g,λb e=> ?_⟩,λj e w=> ?_,λj e w=> ?_,λj e w=> ?_,r.bh,λj k e e' x q1 q2 q3 q4=> ?_,by simp[r.len],λL hL hρ=> ?_,λL hL L' V_ q1 q2=> ?_,r.fm.trans g,⟨λj x SH f hs w=> ?_,λj k x SH f hs s w w2 T3=> ?_⟩,r.pin⟩⟩
  ·by_cases z:b=a
   ·subst z;rw[aH]at e;rw[h2];exact e
   ·rw[az z]at e;exact r.sub b u e
  ·by_cases z:b=a
   ·subst z;exact .inr h4
   ·rw[az z]at e;exact r.ext.new b e
  ·rcases aB w with ⟨rfl,z,l⟩|⟨z,w⟩
   ·cases z
    refine⟨.ref a,h1,?_⟩
    cases h5 with
    |lst q=>exact .lst aH (q.mono g)
    |dic q n=>exact .dic aH (q.mono g) n
   ·obtain⟨v,k1,k2⟩:=r.val j e w;exact⟨v,k1,k2.mono g⟩
  ·rcases aB w with ⟨rfl,z,l⟩|⟨z,w⟩
   ·cases z
   ·obtain⟨x,y,k1,k2,k3,k4,k5⟩:=r.own j e w
    refine⟨x,y,k1,k2,?_,k4,k5.mono g⟩
    rw[az (λzz=>by subst zz;exact z (r.dis i j d e x hi w h1 k1))]
    exact k3
  ·rcases aB w with ⟨rfl,z,l⟩|⟨z,w⟩
   ·cases z
   ·exact r.bor j e w
  ·rcases aB q1 with ⟨rfl,z,l⟩|⟨z,q1⟩
   ·cases z
   ·rcases aB q2 with ⟨rfl,z',l⟩|⟨z',q2⟩
    ·cases z'
    ·exact r.dis j k e e' x q1 q2 q3 q4
  ·have a0H:ρ[L.x]? =some (some .obj):=by
    rcases aB hρ with ⟨_,z,_⟩|⟨_,w⟩
    ·cases z
    ·exact w
   obtain⟨b,dx,fs,k0,k1,k2,k3,k4,k5,k6⟩:=r.obj L hL a0H
   have n1:b≠a:=λz=>by subst z;rw[k2]at h2;cases h2;cases h5
   have n2:dx≠a:=λz=>by subst z;rw[k3]at h2;cases h2;cases h5
   exact⟨b,dx,fs,k0,k1,k2,k3,by rw[az n1];exact k4,by rw[az n2];exact k5,k6⟩
  ·refine r.odis L hL L' V_ ?_ ?_
   ·rcases aB q1 with ⟨_,z,_⟩|⟨_,w⟩
    ·cases z
    ·exact w
   ·rcases aB q2 with ⟨_,z,_⟩|⟨_,w⟩
    ·cases z
    ·exact w
  ·rcases aB w with ⟨rfl,z,l⟩|⟨z,w⟩
   ·cases z
   ·obtain⟨b,dx,bb,k1,k2,k3⟩:=r.cel.ex j x SH f hs w
    obtain⟨C,fs,vs,us,g1,g2,g3,g4,g5,g6,g7⟩:=k2.ex
    have n1:b≠a:=λz=>by subst z;rw[g1]at h2;cases h2;cases h5
    have n2:dx≠a:=λz=>by subst z;rw[k2.own]at h2;cases h2;cases h5
    have n3:bb≠a:=λz=>by subst z;exact k3 i d hi h1
    refine⟨b,dx,bb,k1,⟨⟨C,fs,vs,us,g1,g2,g3,g4,g5.mono g,g6.mono g,g7⟩,k2.own,by rw[az n1];exact k2.fa,by rw[az n2];exact k2.fd,by rw[az n3];exact k2.fb,k2.za,k2.zd,k2.zb⟩,λk e w2=> ?_⟩
    rcases aB w2 with ⟨rfl,z',l⟩|⟨z',w2⟩
    ·cases z'
    ·exact k3 k e w2
  ·rcases aB w with ⟨rfl,z,l⟩|⟨z,w⟩
   ·cases z
   ·rcases aB w2 with ⟨rfl,z',l⟩|⟨z',w2⟩
    ·cases z';cases T3
    ·exact r.cel.one j k x SH f hs s w w2 T3
 ·exact⟨F,bd.refl _,r⟩
theorem RI.frz {K:K_} {c:dM ly} {σ:St} {H:Hp}:∀(L:List Nat) {ρ:ag} {F:Hp},RI K c ρ σ H F->∃F',bd F F'/\RI K c (frz L ρ) σ H F'
 |[],ρ,F,r=>⟨F,bd.refl _,r⟩
 |i::L,ρ,F,r=>by
  obtain⟨F1,g1,r1⟩:=r.frz1 i
  obtain⟨F2,g2,r2⟩:=RI.frz L r1
  exact⟨F2,g1.trans g2,r2⟩
end L2.Pu
namespace L2.Pu
open PySem PySem.Spec PyProof.Rows
variable {ly:List fE}
inductive R (α:Type)where
 |ok (a:α)|err (c:L3) (ρ:ag)|bad
def R.bind {α β:Type}:R α->(α->R β)->R β
 | .ok a,f=>f a
 | .err c ρ,_=> .err c ρ
 | .bad,_=> .bad
instance:Monad R where
 pure:=R.ok
 bind:=R.bind
@[simp] theorem ar {α β:Type} (a:α) (f:α->R β):(R.ok a>>=f)=f a:=rfl
@[simp] theorem IC {α β:Type} (c:L3) (ρ:ag) (f:α->R β):(R.err c ρ>>=f)=R.err c ρ:=rfl
@[simp] theorem ID {α β:Type} (f:α->R β):(R.bad>>=f)=R.bad:=rfl
@[simp] theorem Jo {α:Type} (a:α):(pure a:R α)=R.ok a:=rfl
def R.of {α:Type}:Option α->R α
 |some a=> .ok a
 |none=> .bad
@[simp] theorem gB {α:Type} (a:α):R.of (some a)= .ok a:=rfl
@[simp] theorem Jp {α:Type}:R.of (none:Option α)= .bad:=rfl
def aL {α:Type} (c:dM ly) (r:R α) (P:α->Prop):Prop:=match r with
 | .ok a=>P a
 | .err e ρ=>c.Er e ρ
 | .bad=>False
theorem aL.imp {α:Type} {c:dM ly} {r:R α} {P P':α->Prop} (h:aL c r P) (w:∀a,r= .ok a->P a->P' a):aL c r P':=by
 cases r with
 |ok a=>exact w a rfl h
 |err e ρ=>exact h
 |bad=>exact h
theorem aL.bind {α β:Type} {c:dM ly} {r:R α} {f:α->R β} {P:β->Prop}:aL c (r>>=f) P<->aL c r λa=>aL c (f a) P:=by
 cases r<;>exact Iff.rfl
theorem aL.of {α:Type} {c:dM ly} {r:Option α} {P:α->Prop} (h:aL c (R.of r) P):∃a,r=some a/\P a:=by
 cases r with
 |none=>exact h.elim
 |some a=>exact⟨a,rfl,h⟩
def di (K:K_) (H F:Hp) (v:V) (d:D):Prop:=dZ K F v d\/∃a o,v= .ref a/\H a=some o/\j0 K F o d
theorem di.mono {K:K_} {H F H' F':Hp} {v:V} {d:D} (e:cg H F H' F'):di K H F v d->di K H' F' v d
 | .inl r=> .inl (r.mono e.grow)
 | .inr ⟨a,o,h1,h2,h3⟩=> .inr ⟨a,o,h1,e.keep _ _ h2,h3.mono e.grow⟩
theorem di.lst {K:K_} {H F:Hp} {v:V} {ds:List D} (s:bd F H) (h:di K H F v (.lst ds)):∃a vs,v= .ref a/\H a=some (.lst vs)/\Reps K F vs ds:=by
 rcases h with h|⟨a,o,h1,h2,q⟩
 ·obtain⟨a,vs,e,h,r⟩:=h.inv
  exact⟨a,vs,e,s _ _ h,r⟩
 ·cases q with
  |lst r=>exact⟨_,_,h1,h2,r⟩
theorem di.dic {K:K_} {H F:Hp} {v:V} {ds:List (cJ×D)} (s:bd F H) (h:di K H F v (.dic ds)):∃a vs,v= .ref a/\H a=some (.dK vs)/\RepK K F vs ds/\(vs.map (·.1)).Nodup:=by
 rcases h with h|⟨a,o,h1,h2,q⟩
 ·obtain⟨a,vs,e,h,r⟩:=h.inv
  exact⟨a,vs,e,s _ _ h,r⟩
 ·cases q with
  |dic r n=>exact⟨_,_,h1,h2,r,n⟩
def KD:D->Bool
 | .lst _=>true
 | .dic _=>true
 |_=>false
theorem di.in {K:K_} {H F:Hp} {v:V} {d:D} (h:di K H F v d) (n:KD d=false):Cd K F v d:=by
 rcases h with h|⟨a,o,h1,h2,q⟩
 ·exact h.inv
 ·cases q<;>cases n
theorem di.tup {K:K_} {H F:Hp} {v:V} {ds:List D} (s:bd F H) (h:di K H F v (.tup ds)):∃a vs,v= .ref a/\H a=some (.tup vs)/\Reps K F vs ds:=by
 obtain⟨a,vs,e,h,r⟩:=h.in rfl
 exact⟨a,vs,e,s _ _ h,r⟩
theorem di.scr {K:K_} {H F:Hp} {v:V} {ns:List Int} (s:bd F H) (h:di K H F v (.scr ns)):∃a,v= .ref a/\dC K H a (ns.map V.int):=by
 obtain⟨a,e,h⟩:=h.in rfl
 exact⟨a,e,s.seq h⟩
theorem di.int {K:K_} {H F:Hp} {v:V} {i:Int} (h:di K H F v (.int i)):v= .int i:=h.in rfl
theorem di.bl {K:K_} {H F:Hp} {v:V} {i:Bool} (h:di K H F v (.bl i)):v= .bl i:=h.in rfl
theorem di.str {K:K_} {H F:Hp} {v:V} {i:L3} (h:di K H F v (.str i)):v= .str i:=h.in rfl
theorem di.non {K:K_} {H F:Hp} {v:V} (h:di K H F v .non):v= .non:=h.in rfl
inductive nE (K:K_) (H F:Hp):List V->List D->Prop
 |nil:nE K H F [] []
 |cons {v:V} {d:D} {vs:List V} {ds:List D}:di K H F v d->nE K H F vs ds->nE K H F (v::vs) (d::ds)
def eS (K:K_) (x:L3) (cls:L0):Prop:=∃C,cls= .ref C/\Lh K Ld x=some (some (.ref C))
def Ft (X:Cx) (c:dM ly) (σ:St):XK:=λcls _ H'=>∃x ρ F',eS X.K x cls/\RI X.K c ρ σ H' F'/\c.Er x ρ
def Gw (X:Cx) (c:dM ly):Prop:=(ke X/\∀Sv σ ρ H F s a cls x,aP X Sv σ H s->RI X.K c ρ σ H F->Fl X Sv H s.heap a cls->eS X.K x cls->c.Er x ρ->X.xe (.ref a) s)\/(∀x ρ,¬c.Er x ρ)\/(X.stack=X.outer/\lI (lz X.prog X.w) X (Ft X c))
abbrev j3 (ly:List fE) (X:Cx):Type:={c:dM ly // Gw X c}
theorem Gw.no {X:Cx} {c:dM ly} (h:∀x ρ,¬c.Er x ρ):Gw X c:= .inr (.inl h)
theorem oW {X:Cx} (c:j3 ly X):lI (lz X.prog X.w) X (Ft X c.1):=λSv σ H s e s' I h=>by
 rcases c.2 with ⟨hp,Yr⟩|no|⟨_,ps⟩
 ·obtain⟨a,cls,H',rfl,I',fl,x,ρ,F',ec,ri,er⟩:=Gu I hp h
  exact Yr Sv σ ρ H' F' s' a cls x I' ri fl ec er
 ·obtain⟨a,cls,H',_,_,_,_,_,_,x,ρ,F',ec,ri,er⟩:=h
  exact absurd er (no x ρ)
 ·exact ps Sv σ H s e s' I h
theorem Gw.plain {X:Cx} {c:dM ly} (h:Gw X c) (Vr:X.stack=X.env::X.outer):(ke X/\∀Sv σ ρ H F s a cls x,aP X Sv σ H s->RI X.K c ρ σ H F->Fl X Sv H s.heap a cls->eS X.K x cls->c.Er x ρ->X.xe (.ref a) s)\/∀x ρ,¬c.Er x ρ:=by
 rcases h with h|h|⟨h,_⟩
 ·exact .inl h
 ·exact .inr h
 ·rw[h]at Vr
  have:=congrArg OV Vr
  simp at this
def tQ (K:K_) (c:dM ly) (f:ag->R D):TE:=λσ H Q=>∃F ρ,RI K c ρ σ H F/\aL c (f ρ) λd=>∀v H' F',cg H F H' F'->dZ K F' v d->Q v H'
def tB' (K:K_) (c:dM ly) (f:ag->R D):TE:=λσ H Q=>∃F ρ,RI K c ρ σ H F/\aL c (f ρ) λd=>∀v H' F',cg H F H' F'->di K H' F' v d->Q v H'
def tT (K:K_) (c:dM ly) (f:ag->R Bool):TT:=λσ H Q=>∃F ρ,RI K c ρ σ H F/\aL c (f ρ) λb=>∀H' F',cg H F H' F'->Q b H'
def HE (K:K_) (c:dM ly) (f:ag->R (List D)):TA:=λσ H Q=>∃F ρ,RI K c ρ σ H F/\aL c (f ρ) λds=>∀vs H' F',cg H F H' F'->Reps K F' vs ds->Q vs H'
def IE (K:K_) (c:dM ly) (f:ag->R (List D)):TA:=λσ H Q=>∃F ρ,RI K c ρ σ H F/\aL c (f ρ) λds=>∀vs H' F',cg H F H' F'->nE K H' F' vs ds->Q vs H'
def PQ (ly:List fE) (X:Cx) (e:Lc) (f:ag->R D):Prop:=∀c:j3 ly X,PE X e (tQ X.K c.1 f)
def PB (ly:List fE) (X:Cx) (e:Lc) (f:ag->R D):Prop:=∀c:j3 ly X,PE X e (tB' X.K c.1 f)
def ur (ly:List fE) (X:Cx) (e:Lc) (f:ag->R Bool):Prop:=∀c:j3 ly X,PT X e (tT X.K c.1 f)
def qZ (ly:List fE) (X:Cx) (e:Lc) (f:ag->R Bool):Prop:=∀c:j3 ly X,PW X e (tT X.K c.1 f)
def vV (ly:List fE) (X:Cx) (es:List Lc) (f:ag->R (List D)):Prop:=∀c:j3 ly X,PA X es (HE X.K c.1 f)
def IF (ly:List fE) (X:Cx) (es:List Lc) (f:ag->R (List D)):Prop:=∀c:j3 ly X,PA X es (IE X.K c.1 f)
theorem PE.weak {X:Cx} {e:Lc} {t t':TE} (h:PE X e t) (w:∀σ H Q,t' σ H Q->t σ H Q):PE X e t':=λSv s σ H Q I q=>h Sv s σ H Q I (w σ H Q q)
theorem PT.weak {X:Cx} {e:Lc} {t t':TT} (h:PT X e t) (w:∀σ H Q,t' σ H Q->t σ H Q):PT X e t':=λSv s σ H Q I q=>h Sv s σ H Q I (w σ H Q q)
theorem PW.weak {X:Cx} {e:Lc} {t t':TT} (h:PW X e t) (w:∀σ H Q,t' σ H Q->t σ H Q):PW X e t':=λwh Sv s σ H Q I q=>h wh Sv s σ H Q I (w σ H Q q)
theorem PA.weak {X:Cx} {e:List Lc} {t t':TA} (h:PA X e t) (w:∀σ H Q,t' σ H Q->t σ H Q):PA X e t':=λpos Sv s σ H Q I q=>h pos Sv s σ H Q I (w σ H Q q)
theorem PS.weak {X:Cx} {e:Lw} {t t':TS} (h:PS X e t) (w:∀D σ H,t' D σ H->t D σ H):PS X e t':=λSv s σ H D I q=>h Sv s σ H D I (w D σ H q)
theorem rC.weak {X:Cx} {e:List Lw} {t t':TS} (h:rC X e t) (w:∀D σ H,t' D σ H->t D σ H):rC X e t':=λSv s σ H D I q=>h Sv s σ H D I (w D σ H q)
theorem PG.weak {X:Cx} {e:Lc} {t t':TG} (h:PG X e t) (w:∀v σ H Q,t' v σ H Q->t v σ H Q):PG X e t':=λSv s σ H v u Q I r q=>h Sv s σ H v u Q I r (w v σ H Q q)
theorem two {K:K_} {c:dM ly} {fa fb:ag->R D} {g:D->D->R D} {σ:St} {H:Hp} {Q:VK} (h:tQ K c (λρ=>fa ρ>>=λx=>fb ρ>>=λy=>g x y) σ H Q)
  {T:V->V->Hp->Prop} (k:∀F H2 F2 v u x y,cg H F H2 F2->di K H2 F2 v x->di K H2 F2 u y->aL c (g x y) (λd=>∀w H' F',cg H F H' F'->dZ K F' w d->Q w H')->T v u H2):
  tB' K c fa σ H λv H1=>tB' K c fb σ H1 λu H2=>T v u H2:=by
 obtain⟨F,ρ,ri,w⟩:=h
 refine⟨F,ρ,ri,(aL.bind.mp w).imp λx hx w1 v H1 F1 e1 r1=>⟨F1,ρ,ri.step e1,(aL.bind.mp w1).imp λy hy w2 u H2 F2 e2 r2=> ?_⟩⟩
 exact k F H2 F2 v u x y (e1.trans e2) (r1.mono e2) r2 w2
def kh (K:K_) (r:R2) (g:D->D->Option D):Prop:=∀v u x y d H F Q,bd F H->di K H F v x->di K H F u y->g x y=some d->(∀w H' F',cg H F H' F'->dZ K F' w d->Q w H')->r v u H Q
def IG (K:K_) (r:V->Hp->VK->Prop) (g:D->Option D):Prop:=∀v x d H F Q,bd F H->di K H F v x->g x=some d->(∀w H' F',cg H F H' F'->dZ K F' w d->Q w H')->r v H Q
def n9 (K:K_) (r:List V->Hp->VK->Prop) (g:List D->Option D):Prop:=∀vs ds d H F Q,bd F H->nE K H F vs ds->g ds=some d->(∀w H' F',cg H F H' F'->dZ K F' w d->Q w H')->r vs H Q
section
variable {X:Cx} {a b e:Lc} {es:List Lc} {fa fb f:ag->R D} {fs:ag->R (List D)} {pos:LR}
theorem PQ.bo (h:PQ ly X e f):PB ly X e f:=λc=>PE.weak (h c) λσ H Q ⟨F,ρ,ri,w⟩=>⟨F,ρ,ri,w.imp λd _ k v H' F' e r=>k v H' F' e (.inl r)⟩
def au (i:Nat):ag->R D:=λρ=>match ρ[i]? with
 |some (some (.val d))=> .ok d
 |_=> .bad
def aa (i:Nat):ag->R D:=λρ=>match ρ[i]? with
 |some (some .obj)=> .bad
 |some (some (.cel ..))=> .bad
 |some (some s)=> .ok s.data
 |_=> .bad
theorem J_ (h:PE X e (Bo i)):PQ ly X e (au i):=λc=>PE.weak h λσ H Q ⟨F,ρ,ri,w⟩=>by
 unfold au at w
 split at w
 ·rename_i d hd
  obtain⟨v,h1,h2⟩:=ri.val i d hd
  exact⟨v,h1,w v H F (cg.refl ri.sub) h2⟩
 ·exact w.elim
theorem K0 (h:PE X e (Bo i)):PB ly X e (aa i):=λc=>PE.weak h λσ H Q ⟨F,ρ,ri,w⟩=>by
 unfold aa at w
 split at w
 ·exact w.elim
 ·exact w.elim
 ·rename_i s a0I a0J hs
  cases s with
  |obj=>exact absurd rfl a0I
  |cel x SH f hs=>exact absurd rfl (a0J _ _ _ _)
  |val d=>obtain⟨v,h1,h2⟩:=ri.val i d hs;exact⟨v,h1,w v H F (cg.refl ri.sub) (.inl h2)⟩
  |own d=>obtain⟨a,o,h1,h2,h3,h4,h5⟩:=ri.own i d hs;exact⟨_,h1,w _ H F (cg.refl ri.sub) (.inr ⟨a,o,rfl,h2,h5⟩)⟩
  |bor d=>obtain⟨a,o,h1,h2,h3⟩:=ri.bor i d hs;exact⟨_,h1,w _ H F (cg.refl ri.sub) (.inr ⟨a,o,rfl,ri.ext.keep _ _ (ri.bh _ _ h2),h3.mono ri.ext.grow⟩)⟩
 ·exact w.elim
theorem aq (i:Nat) {x:L3} (hN:X.N[i]? =some x:=by rfl) (hv:pT X.env.scope x:=by first|exact LW rfl|exact LI (LW rfl)|exact LI (LI rfl)) (hd:(x==("__debug__":L3))=false:=by decide)
  (U3:(x==("__classdict__":L3))=false:=by decide):PQ ly X (.Name x pos) (au i):=J_ (pv i hN hv hd U3)
theorem ac (i:Nat) {x:L3} (hN:X.N[i]? =some x:=by rfl) (hv:pT X.env.scope x:=by first|exact LW rfl|exact LI (LW rfl)|exact LI (LI rfl)) (hd:(x==("__debug__":L3))=false:=by decide)
  (U3:(x==("__classdict__":L3))=false:=by decide):PB ly X (.Name x pos) (aa i):=K0 (pv i hN hv hd U3)
def fC (d:D):ag->R D:=λ_=> .ok d
theorem af {i:Int} {j:Nat}:PQ ly X (.Constant (.int i) j pos) (fC (.int i)):=λc=>PE.weak Bp λσ H Q ⟨F,ρ,ri,w⟩=>w _ H F (cg.refl ri.sub) (.int i)
theorem kJ {i:Bool} {j:Nat}:PQ ly X (.Constant (.bool i) j pos) (fC (.bl i)):=λc=>PE.weak HP λσ H Q ⟨F,ρ,ri,w⟩=>w _ H F (cg.refl ri.sub) (.bl i)
theorem zn {j:Nat}:PQ ly X (.Constant .none j pos) (fC .non):=λc=>PE.weak FV λσ H Q ⟨F,ρ,ri,w⟩=>w _ H F (cg.refl ri.sub) .non
theorem aJ {x:L3} {j:Nat}:PQ ly X (.Constant (.str x) j pos) (fC (.str x)):=λc=>PE.weak FW λσ H Q ⟨F,ρ,ri,w⟩=>w _ H F (cg.refl ri.sub) (.str x)
theorem kK {x:L3} {i:Int} {t:O6} (hg:Gl X x) (hm:X.mg x=some (.int i t)) (hd:(x==("__debug__":L3))=false:=by decide):PQ ly X (.Name x pos) (fC (.int i)):=
 λc=>PE.weak (yN hg hm (v:= .int i) ⟨t,rfl⟩ hd) λσ H Q ⟨F,ρ,ri,w⟩=>w _ H F (cg.refl ri.sub) (.int i)
def f2 (g:D->D->Option D) (fa fb:ag->R D):ag->R D:=λρ=>fa ρ>>=λx=>fb ρ>>=λy=>R.of (g x y)
theorem ay {op:Operator} {r:R2} {g:D->D->Option D} (ho:lG X (MS op) r) (WO:kh X.K r g) (ha:PB ly X a fa) (hb:PB ly X b fb):PQ ly X (.BinOp a op b pos) (f2 g fa fb):=λc=>
 PE.weak (Fd ho (ha c) (hb c)) λσ H Q h=>two h λF H2 F2 v u x y e rx ry w=>by
  obtain⟨d,hd,k⟩:=w.of
  exact WO v u x y d H2 F2 Q e.sub rx ry hd λw H' F' e' r'=>k w H' F' (e.trans e') r'
def f1 (g:D->Option D) (fa:ag->R D):ag->R D:=λρ=>fa ρ>>=λx=>R.of (g x)
theorem oX {op:UnaryOp} {r:V->Hp->VK->Prop} {g:D->Option D} (ho:Jk X (unaryOp op) r) (WO:IG X.K r g) (ha:PB ly X a fa):PQ ly X (.UnaryOp op a pos) (f1 g fa):=λc=>
 PE.weak (Fe ho (ha c)) λσ H Q ⟨F,ρ,ri,w⟩=>⟨F,ρ,ri,(aL.bind.mp w).imp λx hx w1 v H1 F1 e1 r1=>by
  obtain⟨d,hd,k⟩:=w1.of
  exact WO v x d H1 F1 Q e1.sub r1 hd λw H' F' e' r'=>k w H' F' (e1.trans e') r'⟩
theorem j4 {op:QG} {r:R2} {g:D->D->Option D} (ho:lG X (Mv op) r) (WO:kh X.K r g) (ha:PB ly X a fa) (hb:PB ly X b fb) (hm:Mz op b=false:=by first|exact BG _|with_unfolding_all rfl):
  PQ ly X (.Compare a [op] [b] pos) (f2 g fa fb):=λc=>
 PE.weak (DQ ho (ha c) (hb c) hm) λσ H Q h=>two h λF H2 F2 v u x y e rx ry w=>by
  obtain⟨d,hd,k⟩:=w.of
  exact WO v u x y d H2 F2 Q e.sub rx ry hd λw H' F' e' r'=>k w H' F' (e.trans e') r'
def fT (f:ag->R D):ag->R Bool:=λρ=>f ρ>>=λd=>match d with
 | .bl b=> .ok b
 |_=> .bad
theorem Gx {t:TE} (h:PT X e (Ff t)) (w:∀σ H Q,tQ X.K c f σ H Q->t σ H Q):PT X e (tT X.K c (fT f)):=PT.weak h λσ H Q ⟨F,ρ,ri,k⟩=>by
 refine w σ H _ ⟨F,ρ,ri,(aL.bind.mp k).imp λd _ k1 v H' F' e r=> ?_⟩
 cases d with
 |bl b=>cases r;exact⟨b,rfl,k1 H' F' e⟩
 |_=>exact k1.elim
theorem aO {op:QG} {r:R2} {g:D->D->Option D} (ho:lG X (Mv op) r) (WO:kh X.K r g) (ha:PB ly X a fa) (hb:PB ly X b fb) (hm:Mz op b=false:=by first|exact BG _|with_unfolding_all rfl):
  ur ly X (.Compare a [op] [b] pos) (fT (f2 g fa fb)):=λc=>Gx (DR ho (ha c) (hb c) hm) λσ H Q h=>two h λF H2 F2 v u x y e rx ry w=>by
  obtain⟨d,hd,k⟩:=w.of
  exact WO v u x y d H2 F2 Q e.sub rx ry hd λw H' F' e' r'=>k w H' F' (e.trans e') r'
def ai:ag->R (List D):=λ_=> .ok []
def a8 (f:ag->R D) (fs:ag->R (List D)):ag->R (List D):=λρ=>f ρ>>=λx=>fs ρ>>=λxs=> .ok (x::xs)
theorem ah:vV ly X [] ai:=λc=>PA.weak gX λσ H Q ⟨F,ρ,ri,w⟩=>w [] H F (cg.refl ri.sub) .nil
theorem a7 (h:PQ ly X e f) (hr:vV ly X es fs) (hs:L8 (e::es) X.env=(false,Ls e X.env)::L8 es X.env:=by rfl):vV ly X (e::es) (a8 f fs):=λc=>
 PA.weak (dh (h c) (hr c) hs) λσ H Q ⟨F,ρ,ri,w⟩=>⟨F,ρ,ri,(aL.bind.mp w).imp λx hx w1 v H1 F1 e1 r1=>⟨F1,ρ,ri.step e1,(aL.bind.mp w1).imp λy hy w2 u H2 F2 e2 r2=>
  w2 _ H2 F2 (e1.trans e2) (.cons (r1.mono e2.grow) r2)⟩⟩
theorem aD:IF ly X [] ai:=λc=>PA.weak gX λσ H Q ⟨F,ρ,ri,w⟩=>w [] H F (cg.refl ri.sub) .nil
theorem ax (h:PB ly X e f) (hr:IF ly X es fs) (hs:L8 (e::es) X.env=(false,Ls e X.env)::L8 es X.env:=by rfl):IF ly X (e::es) (a8 f fs):=λc=>
 PA.weak (dh (h c) (hr c) hs) λσ H Q ⟨F,ρ,ri,w⟩=>⟨F,ρ,ri,(aL.bind.mp w).imp λx hx w1 v H1 F1 e1 r1=>⟨F1,ρ,ri.step e1,(aL.bind.mp w1).imp λy hy w2 u H2 F2 e2 r2=>
  w2 _ H2 F2 (e1.trans e2) (.cons (r1.mono e2) r2)⟩⟩
def lim:Nat:=100000
theorem gC:lim<=sizeLine:=by decide
def bS (fs:ag->R (List D)):ag->R D:=λρ=>fs ρ>>=λds=>if ds.length<=lim then .ok (.tup ds)else .bad
def eG (fs:ag->R (List D)):ag->R D:=λρ=>fs ρ>>=λds=>if ds.length<=lim then .ok (.lst ds)else .bad
theorem bL {x1:Nat} (h:vV ly X es fs):PQ ly X (.Tuple es x1 pos) (bS fs):=λc=>PE.weak (Gb (h c)) λσ H Q ⟨F,ρ,ri,w⟩=>⟨F,ρ,ri,(aL.bind.mp w).imp λds hd w1 vs H1 F1 e1 r1=>by
 split at w1
 ·rename_i hl
  refine⟨LP (by rw[r1.length];exact hl) gC,λp hp=> ?_⟩
  have e2:=cg.lay (o:= .tup vs) e1.sub hp
  exact w1 _ _ _ (e1.trans e2) (.tup aH (r1.mono e2.grow))
 ·exact w1.elim⟩
theorem eM (h:vV ly X es fs):PQ ly X (.List es pos) (eG fs):=λc=>PE.weak (rY (h c)) λσ H Q ⟨F,ρ,ri,w⟩=>⟨F,ρ,ri,(aL.bind.mp w).imp λds hd w1 vs H1 F1 e1 r1=>by
 split at w1
 ·rename_i hl
  refine⟨LP (by rw[r1.length];exact hl) gC,λp hp=> ?_⟩
  have e2:=cg.lay (o:= .lst vs) e1.sub hp
  exact w1 _ _ _ (e1.trans e2) (.lst aH (r1.mono e2.grow))
 ·exact w1.elim⟩
def cn (g:List D->Option D) (fs:ag->R (List D)):ag->R D:=λρ=>fs ρ>>=λds=>R.of (g ds)
variable {x:L3} {p:LR} {id T:String} {rc:List V->Hp->VK->Prop}
theorem zo {c:dM ly} {rc:List V->Hp->VK->Prop} {g:List D->Option D} (WO:n9 X.K rc g) {σ:St} {H:Hp} {Q:VK} (h:tQ X.K c (cn g fs) σ H Q):JP rc (IE X.K c fs) σ H Q:=by
 obtain⟨F,ρ,ri,w⟩:=h
 refine⟨F,ρ,ri,(aL.bind.mp w).imp λds hd w1 vs H1 F1 e1 r1=> ?_⟩
 obtain⟨d,hd,k⟩:=w1.of
 exact WO vs ds d H1 F1 Q e1.sub r1 hd λw H' F' e' r'=>k w H' F' (e1.trans e') r'
theorem aS {g:List D->Option D} (hc:d_ X (.builtin id) rc) (WO:n9 X.K rc g) (hm:X.mg x=none) (hv:LS x=some (.builtin id)) (ha:IF ly X (e::es) fs) (hg:Gl X x:=by rfl) (hn:x≠"__name__":=by decide) (Um:(x==("__debug__":L3))=false:=by decide)
  (he:L8 (e::es) X.env=(false,Ls e X.env)::L8 es X.env:=by rfl) (U0:(LK pos (L8 es X.env)).any (·.1)=false:=by rfl):PQ ly X (.Call (.Name x p) (e::es) [] pos) (cn g fs):=λc=>
 PE.weak (oM hc hg hm hv (ha c) hn Um he U0) λσ H Q h=>zo WO h
theorem ba {g:List D->Option D} (hc:d_ X (.type T) rc) (WO:n9 X.K rc g) (hm:X.mg x=none) (hv:LS x=some (.type T)) (ha:IF ly X (e::es) fs) (hg:Gl X x:=by rfl) (hn:x≠"__name__":=by decide) (Um:(x==("__debug__":L3))=false:=by decide)
  (he:L8 (e::es) X.env=(false,Ls e X.env)::L8 es X.env:=by rfl) (U0:(LK pos (L8 es X.env)).any (·.1)=false:=by rfl):PQ ly X (.Call (.Name x p) (e::es) [] pos) (cn g fs):=λc=>
 PE.weak (Ak hc hg hm hv (ha c) hn Um he U0) λσ H Q h=>zo WO h
def AA (K:K_) (n:Nat) (m:List D->R D):Sp:=λvs H Q E=>vs.length=n/\∃F ds,bd F H/\Reps K F vs ds/\match m ds with
 | .ok d=>∀v H' F',cg H F H' F'->dZ K F' v d->Q v H'
 | .err x _=>∀cls a H' F',eS K x cls->cg H F H' F'->E cls a H'
 | .bad=>False
def aF (m:List D->R D) (n:Nat) (fs:ag->R (List D)):ag->R D:=λρ=>fs ρ>>=λds=>if ds.length=n then (match m ds with| .ok d=> .ok d| .err x _=> .err x ρ| .bad=> .bad)else .bad
theorem Gy {c:dM ly} {m:List D->R D} {n:Nat} {σ:St} {H:Hp} {Q:VK} (h:tQ X.K c (aF m n fs) σ H Q):Fi (AA X.K n m) [] (Ft X c) (HE X.K c fs) σ H Q:=by
 obtain⟨F,ρ,ri,w⟩:=h
 refine⟨F,ρ,ri,(aL.bind.mp w).imp λds hd w1 vs H1 F1 e1 r1=> ?_⟩
 show AA X.K n m (vs++[]) H1 Q (Ft X c σ)
 rw[Mu]
 split at w1
 ·rename_i hl
  refine⟨by rw[r1.length];exact hl,F1,ds,e1.sub,r1,?_⟩
  split at w1
  ·exact λv H' F' e' r'=>w1 v H' F' (e1.trans e') r'
  ·exact λcls a H' F' ec e'=>⟨_,ρ,F',ec,ri.step (e1.trans e'),w1⟩
  ·exact w1.elim
 ·exact w1.elim
theorem Gz {n k:Nat} {m:List D->R D} {f:L4} {fd:Mq} {ps:List L3} (F:fN X.prog X.w X.K X.mg X.base (lz X.prog X.w) k f fd ps (AA X.K n m)) (hr:c_ k X.A) (hm:X.mg x=some (.ref f)) (hk:LX X.K (.ref f)=true) (hb:gk X.K fd ps [])
  (ha:vV ly X (e::es) fs) (hg:Gl X x:=by rfl) (Um:(x==("__debug__":L3))=false:=by decide) (he:L8 (e::es) X.env=(false,Ls e X.env)::L8 es X.env:=by rfl) (U0:(LK pos (L8 es X.env)).any (·.1)=false:=by rfl):
  PQ ly X (.Call (.Name x p) (e::es) [] pos) (aF m n fs):=λc=>PE.weak (uS F hr hg hm hk hb .nil (oW c) (ha c) Um he U0) λσ H Q h=>Gy h
variable {ga gb:ag->R Bool} {rest:List Lc}
def gD (ga gb:ag->R Bool):ag->R Bool:=λρ=>ga ρ>>=λb=>if b=true then gb ρ else .ok false
def oG (ga gb:ag->R Bool):ag->R Bool:=λρ=>ga ρ>>=λb=>if b=true then .ok true else gb ρ
def gY (ga:ag->R Bool):ag->R Bool:=λρ=>ga ρ>>=λb=> .ok (!b)
theorem qZ.t (h:qZ ly X e ga):ur ly X e ga:=λc=>(h c).pt
theorem q8 (h:ur ly X a ga):qZ ly X (.BoolOp .And [a] pos) ga:=λc=>DM (h c)
theorem lL (h:ur ly X a ga):qZ ly X (.BoolOp .Or [a] pos) ga:=λc=>Bs (h c)
theorem ut (h:ur ly X a ga) (hb:qZ ly X (.BoolOp .And (b::rest) pos) gb):qZ ly X (.BoolOp .And (a::b::rest) pos) (gD ga gb):=λc=>PW.weak (FY (h c) (hb c)) λσ H Q ⟨F,ρ,ri,w⟩=>
 ⟨F,ρ,ri,(aL.bind.mp w).imp λb hb w1 H1 F1 e1=>by
  cases b with
  |true=>exact⟨F1,ρ,ri.step e1,w1.imp λb' _ k H2 F2 e2=>k H2 F2 (e1.trans e2)⟩
  |false=>exact w1 H1 F1 e1⟩
theorem sx (h:ur ly X a ga) (hb:qZ ly X (.BoolOp .Or (b::rest) pos) gb):qZ ly X (.BoolOp .Or (a::b::rest) pos) (oG ga gb):=λc=>PW.weak (Fa (h c) (hb c)) λσ H Q ⟨F,ρ,ri,w⟩=>
 ⟨F,ρ,ri,(aL.bind.mp w).imp λb hb w1 H1 F1 e1=>by
  cases b with
  |false=>exact⟨F1,ρ,ri.step e1,w1.imp λb' _ k H2 F2 e2=>k H2 F2 (e1.trans e2)⟩
  |true=>exact w1 H1 F1 e1⟩
theorem lm (h:ur ly X a ga):ur ly X (.UnaryOp .Not a pos) (gY ga):=λc=>PT.weak (Bt (h c)) λσ H Q ⟨F,ρ,ri,w⟩=>⟨F,ρ,ri,(aL.bind.mp w).imp λb hb w1 H1 F1 e1=>w1 H1 F1 e1⟩
def qD (fa fb:ag->R D):ag->R D:=λρ=>fa ρ>>=λd=>match d with
 | .bl true=>fb ρ
 | .bl false=> .ok (.bl false)
 |_=> .bad
def Eo (fa fb:ag->R D):ag->R D:=λρ=>fa ρ>>=λd=>match d with
 | .bl true=> .ok (.bl true)
 | .bl false=>fb ρ
 |_=> .bad
def zq (fa:ag->R D):ag->R D:=λρ=>fa ρ>>=λd=>match d with
 | .bl b=> .ok (.bl (!b))
 |_=> .bad
theorem wv {op:Sm} (h:PQ ly X a fa):PQ ly X (.BoolOp op [a] pos) fa:=λc=>Bu (h c)
theorem ww (ha:PQ ly X a fa) (hb:PQ ly X (.BoolOp .And (b::rest) pos) fb):PQ ly X (.BoolOp .And (a::b::rest) pos) (qD fa fb):=λc=>PE.weak (Bv (ha c) (hb c)) λσ H Q ⟨F,ρ,ri,w⟩=>
 ⟨F,ρ,ri,(aL.bind.mp w).imp λd hd w1 v H1 F1 e1 r1=>by
  cases d with
  |bl b=>
   cases r1
   cases b with
   |true=>exact⟨true,rfl,F1,ρ,ri.step e1,w1.imp λb' _ k v H2 F2 e2 r2=>k v H2 F2 (e1.trans e2) r2⟩
   |false=>exact⟨false,rfl,w1 _ H1 F1 e1 (.bl false)⟩
  |_=>exact w1.elim⟩
theorem K1 (ha:PQ ly X a fa) (hb:PQ ly X (.BoolOp .Or (b::rest) pos) fb):PQ ly X (.BoolOp .Or (a::b::rest) pos) (Eo fa fb):=λc=>PE.weak (HS (ha c) (hb c)) λσ H Q ⟨F,ρ,ri,w⟩=>
 ⟨F,ρ,ri,(aL.bind.mp w).imp λd hd w1 v H1 F1 e1 r1=>by
  cases d with
  |bl b=>
   cases r1
   cases b with
   |false=>exact⟨false,rfl,F1,ρ,ri.step e1,w1.imp λb' _ k v H2 F2 e2 r2=>k v H2 F2 (e1.trans e2) r2⟩
   |true=>exact⟨true,rfl,w1 _ H1 F1 e1 (.bl true)⟩
  |_=>exact w1.elim⟩
theorem Fu (ha:PQ ly X a fa):PQ ly X (.UnaryOp .Not a pos) (zq fa):=λc=>PE.weak (FZ (ha c)) λσ H Q ⟨F,ρ,ri,w⟩=>⟨F,ρ,ri,(aL.bind.mp w).imp λd hd w1 v H1 F1 e1 r1=>by
  cases d with
  |bl b=>cases r1;exact⟨b,rfl,w1 _ H1 F1 e1 (.bl _)⟩
  |_=>exact w1.elim⟩
def KE (gc:ag->R Bool) (fa fb:ag->R D):ag->R D:=λρ=>gc ρ>>=λb=>if b=true then fa ρ else fb ρ
def Cf:D->Option Bool
 | .non=>some false
 | .bl b=>some b
 | .int i=>some (i != 0)
 | .lst ds=>some (!ds.isEmpty)
 | .tup ds=>some (!ds.isEmpty)
 | .dic ds=>some (!ds.isEmpty)
 |_=>none
def dD (f:ag->R D):ag->R Bool:=λρ=>f ρ>>=λd=>R.of (Cf d)
theorem Reps.isEmpty {K:K_} {F:Hp}:∀{vs:List V} {ds:List D},Reps K F vs ds->vs.isEmpty=ds.isEmpty
 |_,_, .nil=>rfl
 |_,_, .cons _ _=>rfl
theorem RepK.isEmpty {K:K_} {F:Hp}:∀{vs:List (cJ×V)} {ds:List (cJ×D)},RepK K F vs ds->vs.isEmpty=ds.isEmpty
 |_,_, .nil=>rfl
 |_,_, .cons _ _=>rfl
theorem eN (h:PB ly X e f) (he:∀Uj,Qs e X.env Uj=(do let v<-Uj;Nq e.pos;MW [v] (RV v)):=by intro _;rfl):ur ly X e (dD f):=λc=>PT.weak (BH (h c) he) λσ H Q ⟨F,ρ,ri,w⟩=>
 ⟨F,ρ,ri,(aL.bind.mp w).imp λd hd w1 v H1 F1 e1 r1=>by
  obtain⟨b,hb,k⟩:=w1.of
  refine⟨b,?_,k H1 F1 e1⟩
  cases d with
  |non=>cases r1.non;cases hb;rfl
  |bl=>cases r1.bl;cases hb;rfl
  |int=>cases r1.int;cases hb;rfl
  |lst ds=>obtain⟨a,vs,rfl,h1,h2⟩:=r1.lst e1.sub;cases hb;exact .inl ⟨vs,dC.of h1,by rw[h2.isEmpty]⟩
  |tup ds=>obtain⟨a,vs,rfl,h1,h2⟩:=r1.tup e1.sub;cases hb;exact .inr (.inl ⟨vs,iY.of h1,by rw[h2.isEmpty]⟩)
  |dic ds=>obtain⟨a,vs,rfl,h1,h2,h3⟩:=r1.dic e1.sub;cases hb;exact .inr (.inr ⟨vs,h1,by rw[h2.isEmpty]⟩)
  |_=>cases hb⟩
end
end L2.Pu
namespace L2.Pu
open PySem PySem.Spec PyProof.Rows
variable {ly:List fE}
inductive bq where
 |nx (ρ:ag)|ret (d:D)|brk (ρ:ag)|cnt (ρ:ag)|retc (d:D) (ρ:ag)
def gE (K:K_) (c:dM ly) (F:Hp) (D:nO):bq->Prop
 | .nx ρ=>∀σ' H' F',bd F F'->RI K c ρ σ' H' F'->D.nx σ' H'
 | .brk ρ=>∀σ' H' F',bd F F'->RI K c ρ σ' H' F'->D.bk σ' H'
 | .cnt ρ=>∀σ' H' F',bd F F'->RI K c ρ σ' H' F'->D.ct σ' H'
 | .ret d=>∀v H' F',bd F F'->cg c.H0 c.F0 H' F'->dZ K F' v d->D.rt v H'
 | .retc d ρ=>∀v σ' H' F',bd F F'->RI K c ρ σ' H' F'->dZ K F' v d->D.rt v H'
theorem gE.mono {K:K_} {c:dM ly} {F F1:Hp} {D:nO} (g:bd F F1):∀{o:bq},gE K c F D o->gE K c F1 D o
 | .nx ρ,h=>λσ' H' F' s r=>h σ' H' F' (g.trans s) r
 | .brk ρ,h=>λσ' H' F' s r=>h σ' H' F' (g.trans s) r
 | .cnt ρ,h=>λσ' H' F' s r=>h σ' H' F' (g.trans s) r
 | .ret d,h=>λv H' F' s e r=>h v H' F' (g.trans s) e r
 | .retc d ρ,h=>λv σ' H' F' s e r=>h v σ' H' F' (g.trans s) e r
def tS (K:K_) (c:dM ly) (g:ag->R bq):TS:=λD σ H=>∃F ρ,RI K c ρ σ H F/\aL c (g ρ) (gE K c F D)
def mP (ly:List fE) (X:Cx) (st:Lw) (g:ag->R bq):Prop:=∀c:j3 ly X,PS X st (tS X.K c.1 g)
def jy (ly:List fE) (X:Cx) (st:List Lw) (g:ag->R bq):Prop:=∀c:j3 ly X,rC X st (tS X.K c.1 g)
section
variable {X:Cx} {st:Lw} {rest:List Lw} {a b e:Lc} {es:List Lc} {fa fb f:ag->R D} {fs:ag->R (List D)} {ga gb g g':ag->R bq} {gt:ag->R Bool} {pos:LR}
def aE:ag->R bq:=λρ=> .ok (.nx ρ)
def aw (g g':ag->R bq):ag->R bq:=λρ=>g ρ>>=λo=>match o with
 | .nx ρ'=>g' ρ'
 |o=> .ok o
theorem aG:jy ly X [] aE:=λc=>rC.weak DN λD σ H ⟨F,ρ,ri,w⟩=>w σ H F (bd.refl _) ri
theorem ae (h:mP ly X st g) (hr:jy ly X rest g'):jy ly X (st::rest) (aw g g'):=λc=>rC.weak (vZ (h c) (hr c)) λD σ H ⟨F,ρ,ri,w⟩=>by
 refine⟨F,ρ,ri,(aL.bind.mp w).imp λo ho w1=> ?_⟩
 cases o with
 |nx ρ'=>exact λσ' H' F' s r=>⟨F',ρ',r,w1.imp λo' _ k=>k.mono s⟩
 |ret d=>exact w1
 |brk ρ'=>exact w1
 |cnt ρ'=>exact w1
 |retc d ρ'=>exact w1
theorem ak (h:mP ly X st g):jy ly X [st] g:=λc=>rC.weak (yP (h c)) λD σ H w=>w
def q9 (L:List Nat) (g:ag->R bq):ag->R bq:=λρ=>g (frz L ρ)
theorem wx (L:List Nat) (h:mP ly X st g):mP ly X st (q9 L g):=λc=>PS.weak (h c) λD σ H ⟨F,ρ,ri,w⟩=>by
 obtain⟨F',s,U2⟩:=ri.frz L
 exact⟨F',_,U2,w.imp λo _ k=>k.mono s⟩
def bu (f:ag->R D):ag->R bq:=λρ=>f ρ>>=λd=> .ok (.ret d)
theorem b8 (h:PQ ly X e f):mP ly X (.Return (some e) pos) (bu f):=λc=>PS.weak (rS (h c)) λD σ H ⟨F,ρ,ri,w⟩=>
 ⟨F,ρ,ri,(aL.bind.mp w).imp λd _ w1 v H' F' e r=>w1 v H' F' e.grow (ri.ext.trans e) r⟩
def cA (gc:ag->R Bool) (g g':ag->R bq):ag->R bq:=λρ=>gc ρ>>=λb=>if b=true then g ρ else g' ρ
theorem bB {ta tb:List Lw} (hc:ur ly X e gt) (ha:jy ly X ta g) (hb:jy ly X tb g'):mP ly X (.If e ta tb pos) (cA gt g g'):=λc=>PS.weak (Fb (hc c) (ha c) (hb c)) λD σ H ⟨F,ρ,ri,w⟩=>
 ⟨F,ρ,ri,(aL.bind.mp w).imp λb hb w1 H1 F1 e1=>by
  cases b with
  |true=>exact⟨F1,ρ,ri.step e1,w1.imp λo _ k=>k.mono e1.grow⟩
  |false=>exact⟨F1,ρ,ri.step e1,w1.imp λo _ k=>k.mono e1.grow⟩⟩
def tG (K:K_) (c:dM ly) (gt:D->ag->R ag):TG:=λv σ H Q=>∃F ρ d,RI K c ρ σ H F/\dZ K F v d/\aL c (gt d ρ) λρ'=>∀σ' H' F',bd F F'->RI K c ρ' σ' H' F'->Q σ' H'
def Ep (ly:List fE) (X:Cx) (tg:Lc) (gt:D->ag->R ag):Prop:=∀c:j3 ly X,PG X tg (tG X.K c.1 gt)
def gN (i:Nat):D->ag->R ag:=λd ρ=> .ok (ρ.set i (some (.val d)))
theorem b7 (i:Nat) {x:L3} (hN:X.N.Nodup) (hi:X.N[i]? =some x:=by rfl) (hx:A7 X.env.scope x:=by first|exact LW rfl|exact LI rfl) (hf:X.fn x=true\/X.env.scope.names.lookup x=some .local:=by first|exact .inl rfl|exact .inr rfl|assumption) (UI:lA ly i:=by(repeat (first|assumption|exact L2.Pu.fO|refine L2.Pu.eA ⟨by first|decide|simp,by first|decide|simp⟩ ?_))):Ep ly X (.Name x pos) (gN i):=
 λc=>PG.weak (yQ hN hi hx hf) λv σ H Q ⟨F,ρ,d,ri,r,w⟩=>w _ H F (bd.refl _) (ri.setVal i UI r)
def Ki (K:K_) (c:dM ly) (gt:List D->ag->R ag):Bw:=λvs σ H Q=>∃F ρ ds,RI K c ρ σ H F/\Reps K F vs ds/\aL c (gt ds ρ) λρ'=>∀σ' H' F',bd F F'->RI K c ρ' σ' H' F'->Q σ' H'
def Cg (ly:List fE) (X:Cx) (tg:List Lc) (gt:List D->ag->R ag):Prop:=∀c:j3 ly X,Bx X tg (Ki X.K c.1 gt)
theorem Bx.weak {X:Cx} {e:List Lc} {t t':Bw} (h:Bx X e t) (w:∀v σ H Q,t' v σ H Q->t v σ H Q):Bx X e t':=λSv s σ H v u Q I r q=>h Sv s σ H v u Q I r (w v σ H Q q)
def sy:List D->ag->R ag:=λds ρ=>match ds with
 |[]=> .ok ρ
 |_=> .bad
def eU (g:D->ag->R ag) (gs:List D->ag->R ag):List D->ag->R ag:=λds ρ=>match ds with
 |[]=> .bad
 |d::r=>g d ρ>>=λρ'=>gs r ρ'
theorem v6:Cg ly X [] sy:=λc=>Bx.weak DO λvs σ H Q ⟨F,ρ,ds,ri,r,w⟩=>by
 cases r with
 |nil=>exact⟨rfl,w σ H F (bd.refl _) ri⟩
 |cons _ _=>exact w.elim
theorem fc {g:D->ag->R ag} {gs:List D->ag->R ag} (h:Ep ly X e g) (hr:Cg ly X es gs) (hs:(M9 (e::es) X.env).map (·.2)=NR e X.env::(M9 es X.env).map (·.2):=by rfl):Cg ly X (e::es) (eU g gs):=
 λc=>Bx.weak (By (h c) (hr c) hs) λvs σ H Q ⟨F,ρ,ds,ri,r,w⟩=>by
 cases r with
 |nil=>exact w.elim
 | @cons v d vs ds r t=>
  refine⟨v,vs,rfl,F,ρ,d,ri,r,(aL.bind.mp w).imp λρ' _ w1 σ' H' F' s U2=>⟨F',ρ',ds,U2,t.mono s,w1.imp λρ2 _ k σ2 H2 F2 s2 r2=>k σ2 H2 F2 (s.trans s2) r2⟩⟩
def uu (n:Nat) (gs:List D->ag->R ag):D->ag->R ag:=λd ρ=>match d with
 | .tup ds=>if ds.length=n then gs ds ρ else .bad
 | .lst ds=>if ds.length=n then gs ds ρ else .bad
 |_=> .bad
theorem PG.or {X:Cx} {e:Lc} {t t':TG} (h:PG X e t) (h':PG X e t'):PG X e (λv σ H Q=>t v σ H Q\/t' v σ H Q):=λSv s σ H v u Q I r q=>q.elim (λq=>h Sv s σ H v u Q I r q) λq=>h' Sv s σ H v u Q I r q
theorem Ch {k n:Nat} {gs:List D->ag->R ag} (hc:X.calm=true) (h:Cg ly X es gs) (hn:(M9 es X.env).length=n:=by rfl) (Vr:(M9 es X.env).findIdx? (·.1)=none:=by rfl):Ep ly X (.Tuple es k pos) (uu n gs):=
 λc=>PG.weak (PG.or (Bz hc (h c) hn Vr) (C1 hc (h c) hn Vr)) λv σ H Q ⟨F,ρ,d,ri,r,w⟩=>by
 cases r with
 | @tup a vs ds h1 h2=>
  change aL c.1 (if ds.length=n then gs ds ρ else .bad) _ at w
  split at w
  ·rename_i hl
   exact .inl ⟨a,vs,rfl,iY.of (ri.sub _ _ h1),by rw[h2.length];exact hl,F,ρ,ds,ri,h2,w⟩
  ·exact w.elim
 | @lst a vs ds h1 h2=>
  change aL c.1 (if ds.length=n then gs ds ρ else .bad) _ at w
  split at w
  ·rename_i hl
   exact .inr ⟨a,vs,rfl,dC.of (ri.sub _ _ h1),by rw[h2.length];exact hl,F,ρ,ds,ri,h2,w⟩
  ·exact w.elim
 |_=>exact w.elim
def aV (f:ag->R D) (g:D->ag->R ag):ag->R bq:=λρ=>f ρ>>=λd=>g d ρ>>=λρ'=> .ok (.nx ρ')
theorem GA {c:dM ly} {g:D->ag->R ag} {K:K_} {D':nO} {σ:St} {H:Hp} (h:tS K c (aV f g) D' σ H):G1 (tQ K c f) (tG K c g) D' σ H:=by
 obtain⟨F,ρ,ri,w⟩:=h
 refine⟨F,ρ,ri,(aL.bind.mp w).imp λd _ w1 v H1 F1 e1 r1=>⟨F1,ρ,d,ri.step e1,r1,(aL.bind.mp w1).imp λρ' _ w2 σ' H' F' s r'=>w2 σ' H' F' (e1.grow.trans s) r'⟩⟩
theorem Ci {tg:Lc} {g:D->ag->R ag} (he:PQ ly X e f) (hg:Ep ly X tg g) (hs:P2 [tg] e pos.line X.env=pure false:=by rfl) (hw:P4 [tg] e X.env=pure none:=by rfl)
  (h1:(M9 [tg] X.env).map (·.2)=[NR tg X.env]:=by rfl):mP ly X (.Assign [tg] e pos) (aV f g):=λc=>PS.weak (xJ (he c) (hg c) hs hw h1) λD σ H h=>GA h
theorem aU (i:Nat) {x:L3} {SY:LR} (hN:X.N.Nodup) (he:PQ ly X e f) (hi:X.N[i]? =some x:=by rfl) (hx:A7 X.env.scope x:=by first|exact LW rfl|exact LI rfl) (hs:M6 e (some (.Name x SY)) pos.line X.env=pure false:=by rfl)
  (hf:X.fn x=true\/X.env.scope.names.lookup x=some .local:=by first|exact .inl rfl|exact .inr rfl|assumption) (UI:lA ly i:=by(repeat (first|assumption|exact L2.Pu.fO|refine L2.Pu.eA ⟨by first|decide|simp,by first|decide|simp⟩ ?_))):mP ly X (.Assign [.Name x SY] e pos) (aV f (gN i)):=λc=>
 PS.weak (nQ hN hi hx (he c) hs hf) λD σ H h=>by
  obtain⟨F,ρ,ri,w⟩:=h
  exact⟨F,ρ,ri,(aL.bind.mp w).imp λd _ w1 v H1 F1 e1 r1=>w1 _ H1 F1 e1.grow ((ri.step e1).setVal i UI r1)⟩
def KG (i j:Nat) (fs:ag->R (List D)):ag->R bq:=λρ=>fs ρ>>=λds=>match ds with
 |[x,y]=> .ok (.nx ((ρ.set i (some (.val x))).set j (some (.val y))))
 |_=> .bad
def nF (i:Nat) (fs:ag->R (List D)):ag->R bq:=λρ=>fs ρ>>=λds=>if ds.length<=lim then .ok (.nx (ρ.set i (some (.own (.lst ds)))))else .bad
theorem lM (i:Nat) {x:L3} {SY pl:LR} (hN:X.N.Nodup) (h:vV ly X es fs) (hi:X.N[i]? =some x:=by rfl) (hx:A7 X.env.scope x:=by first|exact LW rfl|exact LI rfl) (hs:M6 (.List es pl) (some (.Name x SY)) pos.line X.env=pure false:=by rfl)
  (hf:X.fn x=true\/X.env.scope.names.lookup x=some .local:=by first|exact .inl rfl|exact .inr rfl|assumption) (UI:lA ly i:=by(repeat (first|assumption|exact L2.Pu.fO|refine L2.Pu.eA ⟨by first|decide|simp,by first|decide|simp⟩ ?_))):mP ly X (.Assign [.Name x SY] (.List es pl) pos) (nF i fs):=λc=>
 PS.weak (nQ hN hi hx (rY (h c)) hs hf) λD σ H ⟨F,ρ,ri,w⟩=>⟨F,ρ,ri,(aL.bind.mp w).imp λds _ w1 vs H1 F1 e1 r1=>by
  split at w1
  ·rename_i hl
   refine⟨LP (by rw[r1.length];exact hl) gC,λp hp=> ?_⟩
   exact w1 _ _ F1 e1.grow ((ri.step e1).setNew i UI hp (.lst r1))
  ·exact w1.elim⟩
structure AB (K:K_) (F:Hp) (J:It) (ds:List D):Prop where
 go:∀i H,bd F H->i<ds.length->J.go i H
 stop:∀H,bd F H->J.stop ds.length H
 yld:∀i H F1 x H',bd F F1->bd F1 H->J.yld i H x H'->i<ds.length->∃F' d,ds[i]? =some d/\cg H F1 H' F'/\dZ K F' x d
def tI (K:K_) (c:dM ly) (fi:ag->R (List D)):TI:=λσ H Rk=>∃F ρ,RI K c ρ σ H F/\aL c (fi ρ) λds=>∀J H' F',cg H F H' F'->AB K F' J ds->Rk J H'
def GB (ly:List fE) (X:Cx) (tg T4:Lc) (fi:ag->R (List D)):Prop:=∀c:j3 ly X,PI X tg T4 (tI X.K c.1 fi)
theorem PI.weak {X:Cx} {tg e:Lc} {t t':TI} (h:PI X tg e t) (w:∀σ H Rk,t' σ H Rk->t σ H Rk):PI X tg e t':=λSv s σ H Rk I q=>h Sv s σ H Rk I (w σ H Rk q)
def eO (g:D->ag->R ag) (gb:ag->R bq):List D->ag->R bq
 |[],ρ=> .ok (.nx ρ)
 |d::r,ρ=>g d ρ>>=λρ1=>gb ρ1>>=λo=>match o with
  | .nx ρ2=>eO g gb r ρ2
  | .cnt ρ2=>eO g gb r ρ2
  | .brk ρ2=> .ok (.nx ρ2)
  | .ret d=> .ok (.ret d)
  | .retc d ρ2=> .ok (.retc d ρ2)
def lB (fi:ag->R (List D)) (g:D->ag->R ag) (gb:ag->R bq):ag->R bq:=λρ=>fi ρ>>=λds=>eO g gb ds ρ
theorem yg {g:D->ag->R ag} {gb:ag->R bq} {ds:List D} {i:Nat} {d:D} {ρ:ag} (h:ds[i]? =some d):eO g gb (ds.drop i) ρ=(g d ρ>>=λρ1=>gb ρ1>>=λo=>match o with
  | .nx ρ2=>eO g gb (ds.drop (i+1)) ρ2
  | .cnt ρ2=>eO g gb (ds.drop (i+1)) ρ2
  | .brk ρ2=> .ok (.nx ρ2)
  | .ret d=> .ok (.ret d)
  | .retc d ρ2=> .ok (.retc d ρ2)):=by
 obtain⟨hl,e⟩:=Lq.mp h
 rw[O4 hl,e]
 rfl
theorem GC {K:K_} {c:dM ly} {fi:ag->R (List D)} {g:D->ag->R ag} {D':nO} {σ:St} {H:Hp} (h:tS K c (lB fi g gb) D' σ H):I9 (tI K c fi) (tG K c g) (tS K c gb) D' σ H:=by
 obtain⟨F,ρ,ri,w⟩:=h
 refine⟨F,ρ,ri,(aL.bind.mp w).imp λds _ w1 J H1 F1 e1 jo=> ?_⟩
 refine⟨λi m σ H=>∃F2 ρ2,RI K c ρ2 σ H F2/\bd F1 F2/\m=ds.length - i/\i<=ds.length/\aL c (eO g gb (ds.drop i) ρ2) (gE K c F2 D'),⟨_,F1,ρ,ri.step e1,bd.refl _,rfl,ML _,w1.imp λo _ k=>k.mono e1.grow⟩,?_⟩
 rintro i m σ2 H2 ⟨F2,ρ2,Wk,s2,rfl,hi,w2⟩
 by_cases hl:i<ds.length
 ·refine .inr ⟨jo.go i H2 (s2.trans Wk.sub) hl,λσ' H'=>∃F3 ρ3,RI K c ρ3 σ' H' F3/\bd F2 F3/\aL c (eO g gb (ds.drop (i+1)) ρ3) (gE K c F3 D'),?_,λx H3 y=> ?_⟩
  ·rintro σ' H' ⟨F3,ρ3,Xj,s3,w3⟩
   exact⟨ds.length - (i+1),by omega,F3,ρ3,Xj,s2.trans s3,rfl,hl,w3⟩
  ·obtain⟨F3,d,hd,e3,r3⟩:=jo.yld i H2 F2 x H3 s2 Wk.sub y hl
   rw[yg hd]at w2
   refine⟨F3,ρ2,d,Wk.step e3,r3,(aL.bind.mp w2).imp λρ3 _ w3 σ4 H4 F4 s4 r4=>⟨F4,ρ3,r4,(aL.bind.mp w3).imp λo _ w4=> ?_⟩⟩
   have Ys:bd F2 F4:=e3.grow.trans s4
   cases o with
   |nx ρ5=>exact λσ' H' F' s' r'=>⟨F',ρ5,r',Ys.trans s',w4.imp λo _ k=>k.mono (Ys.trans s')⟩
   |cnt ρ5=>exact λσ' H' F' s' r'=>⟨F',ρ5,r',Ys.trans s',w4.imp λo _ k=>k.mono (Ys.trans s')⟩
   |brk ρ5=>exact λσ' H' F' s' r'=>w4 σ' H' F' (Ys.trans s') r'
   |ret d=>exact λv H' F' s' e' r'=>w4 v H' F' (Ys.trans s') e' r'
   |retc d ρ5=>exact λv σ' H' F' s' e' r'=>w4 v σ' H' F' (Ys.trans s') e' r'
 ·have e:i=ds.length:=by omega
  subst e
  rw[RN]at w2
  exact .inl ⟨jo.stop H2 (s2.trans Wk.sub),w2 σ2 H2 F2 (bd.refl _) Wk⟩
theorem nG {tg T4:Lc} {body:List Lw} {fi:ag->R (List D)} {g:D->ag->R ag} (hp:R5 (Lj X.prog X.w) X.A X.env X.xe) (hc:X.calm=true) (hi:GB ly X tg T4 fi) (hg:Ep ly X tg g) (hb:jy ly X body gb)
  (hs:∀x,MX T4 X.env x=pure x:=by intro _;rfl):mP ly X (.For tg T4 body [] pos) (lB fi g gb):=λc=>PS.weak (G3 hp hc (hi c) (hg c) (hb c) hs) λD σ H h=>GC h
def jM (gt:ag->R Bool) (gb:ag->R bq):Nat->ag->R bq
 |0,_=> .bad
 |n+1,ρ=>gt ρ>>=λb=>if b=true then (gb ρ>>=λo=>match o with
   | .nx ρ2=>jM gt gb n ρ2
   | .cnt ρ2=>jM gt gb n ρ2
   | .brk ρ2=> .ok (.nx ρ2)
   | .ret d=> .ok (.ret d)
   | .retc d ρ2=> .ok (.retc d ρ2))else .ok (.nx ρ)
theorem Cj {K:K_} {c:dM ly} {D':nO} {σ:St} {H:Hp} {n:Nat} (h:tS K c (jM gt gb n) D' σ H):BB (tT K c gt) (tS K c gb) D' σ H:=by
 obtain⟨F,ρ,ri,w⟩:=h
 refine⟨λm σ H=>∃F2 ρ2,RI K c ρ2 σ H F2/\aL c (jM gt gb m ρ2) (gE K c F2 D'),⟨n,F,ρ,ri,w⟩,?_⟩
 rintro m σ2 H2 ⟨F2,ρ2,Wk,w2⟩
 cases m with
 |zero=>exact w2.elim
 |succ m=>
  refine⟨F2,ρ2,Wk,(aL.bind.mp w2).imp λb _ w3 H3 F3 e3=> ?_⟩
  cases b with
  |false=>exact w3 σ2 H3 F3 e3.grow (Wk.step e3)
  |true=>
   refine⟨λσ' H'=>∃F4 ρ4,RI K c ρ4 σ' H' F4/\aL c (jM gt gb m ρ4) (gE K c F4 D'),λσ' H' k=>⟨m,Oy _,k⟩,F3,ρ2,Wk.step e3,(aL.bind.mp w3).imp λo _ w4=> ?_⟩
   cases o with
   |nx ρ5=>exact λσ' H' F' s' r'=>⟨F',ρ5,r',w4.imp λo _ k=>k.mono (e3.grow.trans s')⟩
   |cnt ρ5=>exact λσ' H' F' s' r'=>⟨F',ρ5,r',w4.imp λo _ k=>k.mono (e3.grow.trans s')⟩
   |brk ρ5=>exact λσ' H' F' s' r'=>w4 σ' H' F' (e3.grow.trans s') r'
   |ret d=>exact λv H' F' s' e' r'=>w4 v H' F' (e3.grow.trans s') e' r'
   |retc d ρ5=>exact λv σ' H' F' s' e' r'=>w4 v σ' H' F' (e3.grow.trans s') e' r'
theorem Es {body:List Lw} (n:Nat) (hp:R5 (Lj X.prog X.w) X.A X.env X.xe) (hc:ur ly X e gt) (hb:jy ly X body gb):mP ly X (.While e body [] pos) (jM gt gb n):=λc=>PS.weak (BC hp (hc c) (hb c)) λD σ H h=>Cj h
theorem AD {K:K_} {F:Hp} {a:L4} {vs:List V} {ds:List D} (h:F a=some (.lst vs)) (r:Reps K F vs ds):AB K F (Jj K a) ds where
 go:=λi H s hi=>⟨vs,vs[i]'(by rw[r.length];exact hi),dC.of (s _ _ h),by simp[r.length,hi]⟩
 stop:=λH s=>⟨vs,dC.of (s _ _ h),Pz r.length⟩
 yld:=λi H F1 x H' s1 s2 y hi=>by
  obtain⟨rfl,y⟩:=y
  have:=y vs (dC.of (s2 _ _ (s1 _ _ h)))
  obtain⟨d,hd,rd⟩:=r.get' this
  exact⟨F1,d,hd,cg.refl s2,rd.mono s1⟩
theorem Ck {K:K_} {F:Hp} {a:L4} {vs:List V} {ds:List D} (h:F a=some (.tup vs)) (r:Reps K F vs ds):AB K F (JH K a) ds where
 go:=λi H s hi=>⟨vs,vs[i]'(by rw[r.length];exact hi),iY.of (s _ _ h),by simp[r.length,hi]⟩
 stop:=λH s=>⟨vs,iY.of (s _ _ h),Pz r.length⟩
 yld:=λi H F1 x H' s1 s2 y hi=>by
  obtain⟨rfl,y⟩:=y
  have:=y vs (iY.of (s2 _ _ (s1 _ _ h)))
  obtain⟨d,hd,rd⟩:=r.get' this
  exact⟨F1,d,hd,cg.refl s2,rd.mono s1⟩
def cD (f:ag->R D):ag->R (List D):=λρ=>f ρ>>=λd=>match d with
 | .lst ds=> .ok ds
 | .tup ds=> .ok ds
 | .scr ns=> .ok (ns.map .int)
 |_=> .bad
theorem Cm {K:K_} {F:Hp} {a:L4} {ns:List Int} (h:dC K F a (ns.map V.int)):AB K F (Jj K a) (ns.map .int)where
 go:=λi H s hi=>⟨ns.map V.int,(ns.map V.int)[i]'(by simpa using hi),s.seq h,by simp at hi;simp[hi]⟩
 stop:=λH s=>⟨ns.map V.int,s.seq h,by simp⟩
 yld:=λi H F1 x H' s1 s2 y hi=>by
  obtain⟨rfl,y⟩:=y
  have:=y (ns.map V.int) ((s1.trans s2).seq h)
  rw[Lx]at this
  cases e:ns[i]? with
  |none=>rw[e]at this;cases this
  |some n=>rw[e]at this;cases this;exact⟨F1, .int n,by rw[Lx,e];rfl,cg.refl s2, .int n⟩
theorem cX {tg:Lc} (h:PQ ly X e f):GB ly X tg e (cD f):=by
 intro c Sv s σ H Rk I q
 obtain⟨F,ρ,ri,w⟩:=q
 have w':=aL.bind.mp w
 cases hf:f ρ with
 |bad=>rw[hf]at w';exact w'.elim
 |err er ρe=>
  rw[hf]at w'
  exact uR (h c) Sv s σ H Rk I ⟨F,ρ,ri,by rw[hf];exact w'⟩
 |ok d=>
  rw[hf]at w'
  cases d with
  |lst ds=>exact uR (h c) Sv s σ H Rk I ⟨F,ρ,ri,by
    rw[hf]
    intro v H1 F1 e1 r1
    cases r1 with
    |lst h1 h2=>exact⟨_,rfl,⟨_,dC.of (e1.sub _ _ h1)⟩,w' _ H1 F1 e1 (AD h1 h2)⟩⟩
  |tup ds=>exact G2 (h c) Sv s σ H Rk I ⟨F,ρ,ri,by
    rw[hf]
    intro v H1 F1 e1 r1
    cases r1 with
    |tup h1 h2=>exact⟨_,rfl,⟨_,iY.of (e1.sub _ _ h1)⟩,w' _ H1 F1 e1 (Ck h1 h2)⟩⟩
  |scr ns=>exact uR (h c) Sv s σ H Rk I ⟨F,ρ,ri,by
    rw[hf]
    intro v H1 F1 e1 r1
    cases r1 with
    |scr h1=>exact⟨_,rfl,⟨_,e1.sub.seq h1⟩,w' _ H1 F1 e1 (Cm h1)⟩⟩
  |_=>exact w'.elim
def j5 (lo hi:Int):List D:=(LZ (hi - lo).toNat).map λk:Nat=>D.int (lo+(k:Int))
theorem sA {K:K_} {F:Hp} {lo hi:Int}:AB K F (HY lo (hi - lo).toNat) (j5 lo hi)where
 go:=λi H s h=>by
  rw[j5,L7,Om]at h
  exact h
 stop:=λH s=>by show (hi - lo).toNat<=_;rw[j5,L7,Om];exact Lv _
 yld:=λi H F1 x H' s1 s2 y h=>by
  obtain⟨rfl,rfl⟩:=y
  have h':i<(hi - lo).toNat:=by rw[j5,L7,Om]at h;exact h
  exact⟨F1, .int (lo+i),by rw[j5,Lx,List.getElem?_range h'];rfl,cg.refl s2, .int _⟩
def dN (f:ag->R (List D)):ag->R (List D):=λρ=>f ρ>>=λds=>match ds with
 |[.int j]=>if j.natAbs<=lim then .ok (j5 0 j)else .bad
 |_=> .bad
def rF (f:ag->R (List D)):ag->R (List D):=λρ=>f ρ>>=λds=>match ds with
 |[.int i, .int j]=>if i.natAbs<=lim/\j.natAbs<=lim then .ok (j5 i j)else .bad
 |_=> .bad
theorem i6 {j:Int} (h:j.natAbs<=lim): -(2 ^62)<=j/\j<2 ^62:=by
 unfold lim at h
 omega
theorem ic {tg:Lc} {p:LR} (hm:X.mg "range"=none) (ha:vV ly X [a] fs) (hg:Gl X "range":=by rfl) (hs:L8 [a] X.env=[(false,Ls a X.env)]:=by rfl):GB ly X tg (.Call (.Name "range" p) [a] [] pos) (dN fs):=λc=>
 PI.weak (Ab hg hm (ha c) hs) λσ H Rk ⟨F,ρ,ri,w⟩=>⟨F,ρ,ri,(aL.bind.mp w).imp λds _ w1 vs H1 F1 e1 r1=>by
  split at w1
  ·split at w1
   ·rename_i j _ hj
    cases r1.int1
    exact⟨j,rfl,(i6 hj).1,(i6 hj).2,w1 _ H1 F1 e1 (by simpa using sA (K:=X.K) (F:=F1) (lo:=0) (hi:=j))⟩
   ·exact w1.elim
  ·exact w1.elim⟩
theorem Cn {tg:Lc} {p:LR} (hm:X.mg "range"=none) (ha:vV ly X [a,b] fs) (hg:Gl X "range":=by rfl) (hs:L8 [a,b] X.env=[(false,Ls a X.env),(false,Ls b X.env)]:=by rfl) (VX:L8 [b] X.env=[(false,Ls b X.env)]:=by rfl):GB ly X tg (.Call (.Name "range" p) [a,b] [] pos) (rF fs):=λc=>
 PI.weak (Ac hg hm (ha c) hs VX) λσ H Rk ⟨F,ρ,ri,w⟩=>⟨F,ρ,ri,(aL.bind.mp w).imp λds _ w1 vs H1 F1 e1 r1=>by
  split at w1
  ·split at w1
   ·rename_i i j _ hj
    cases r1.int2
    exact⟨i,j,rfl,⟨(i6 hj.1).1,(i6 hj.1).2,(i6 hj.2).1,(i6 hj.2).2⟩,w1 _ H1 F1 e1 sA⟩
   ·exact w1.elim
  ·exact w1.elim⟩
end
def d3 (n:Nat) (ds:List D):ag:=ds.map (λd=>some (.val d))++LD (n - ds.length) none
def bi (k n:Nat) (g:ag->R bq) (ds:List D):R D:=if ds.length=k then g (d3 n ds)>>=λo=>match o with
 | .ret d=> .ok d
 | .nx _=> .ok .non
 |_=> .bad else .bad
theorem wy {K:K_} {N:List L3} {H F:Hp} {vs:List V} {ds:List D} {Er:L3->ag->Prop} (s:bd F H) (r:Reps K F vs ds):RI K (⟨H,F,λ_=>none,Er,λ_=>none,λ_=>none⟩:dM []) (d3 N.length ds) (dF N vs) H F:=by
 have hv:∀(i:Nat) sl,(d3 N.length ds)[i]? =some (some sl)->∃d,ds[i]? =some d/\sl= .val d:=λi sl h=>by
  unfold d3 at h
  rw[NQ]at h
  split at h
  ·rw[Lx]at h
   cases e:ds[i]? with
   |none=>rw[e]at h;cases h
   |some d=>rw[e]at h;simp at h;exact⟨d,rfl,h.symm⟩
  ·rw[MI]at h
   split at h<;>simp at h
 refine⟨cg.refl s,λi d h=> ?_,λi d h=> ?_,λi d h=> ?_,(λb o e=>by cases e),λi j d d' a h=> ?_,?_,(λL h=>by cases h),(λL h=>by cases h),(λ_ _ e=>by cases e), .no λi x SH f hs h=>(by obtain⟨d,_,z⟩:=hv i _ h;cases z),λL h=>by cases h⟩
 ·obtain⟨d',e,z⟩:=hv i _ h
  cases z
  obtain⟨v,h1,h2⟩:=r.get e
  refine⟨v,?_,h2⟩
  unfold dF
  have hl:i<vs.length:=(Lq.mp h1).1
  rw[MP (by simpa using hl),Lx,h1]
  rfl
 ·obtain⟨d',_,z⟩:=hv i _ h;cases z
 ·obtain⟨d',_,z⟩:=hv i _ h;cases z
 ·obtain⟨d',_,z⟩:=hv i _ h;cases z
 ·simp[d3,dF,r.length]
theorem IH {P:Ll} {w:Ly} {K:K_} {mg:L3->Option L0} {base:Lr} {x qual:L3} {st:Lw} {f:L4} {fd:Mq} {N ps:List L3} {k:Nat} {sp:Sp} (F:zf K x qual st f fd) (S:aC N ps (al st)) (len:∀vs H Q E,sp vs H Q E->vs.length=ps.length)
  (T2:∀(SE:L0) (A:LF) (outer:List MM) (s:L5) (H:Hp) (vs:List V) (Q:VK) (E:XK),c_ k (A.deeper (MO qual (al st) s.heap.objs.size f SE))->sp vs H Q E->
   ∃t,rC (iZ (lz P w) P w K mg base N qual (al st) f SE A outer s H E) (bK st) t/\t {nx:=λ_ H'=>Q .non H',rt:=Q} (dF N vs) H):fN P w K mg base (lz P w) (k+1) f fd ps sp:=by
 obtain⟨oc,od,kV,U1,pm,an,SE,ct,VN,rfl,lk,U3⟩:=F.ex
 exact Fj lk U3 S len λA outer s H vs Q E hr XM=>T2 SE A outer s H vs Q E hr XM
theorem sB {P:Ll} {w:Ly} {K:K_} {mg:L3->Option L0} {base:Lr} {N:List L3} {qual:L3} {scope:MZ} {f:L4} {cd:L0} {A:LF} {outer:List MM} {s0:L5} {H0:Hp} {E:XK} {c:dM ly}
  (h:∀x ρ,c.Er x ρ->∀cls a H' F' σ,eS K x cls->RI K c ρ σ H' F'->E cls a H'):Gw (iZ (lz P w) P w K mg base N qual scope f cd A outer s0 H0 E) c:=
 .inl ⟨sv,λSv σ ρ H F s a cls x I ri fl ec er=>ye I fl (h x ρ er cls (some a) H F σ ec ri)⟩
theorem GD {P:Ll} {w:Ly} {K:K_} {mg:L3->Option L0} {base:Lr} {x qual:L3} {st:Lw} {f:L4} {fd:Mq} {N ps:List L3} {k n m:Nat} {g:ag->R bq} (F:zf K x qual st f fd) (S:aC N ps (al st)) (hn:ps.length=n) (hm:N.length=m)
  (T2:∀(SE:L0) (A:LF) (outer:List MM) (s:L5) (H:Hp) (E:XK),c_ k (A.deeper (MO qual (al st) s.heap.objs.size f SE))->
   jy [] (iZ (lz P w) P w K mg base N qual (al st) f SE A outer s H E) (bK st) g):fN P w K mg base (lz P w) (k+1) f fd ps (AA K n (bi n m g)):=by
 refine IH F S (λvs H Q E h=>by rw[hn];exact h.1) (λSE A outer s H vs Q E hr h=> ?_)
 obtain⟨hl,Fz,ds,sub,r,w⟩:=h
 refine⟨_,T2 SE A outer s H E hr ⟨⟨H,Fz,λ_=>none,λx _=>∀cls a H' F',eS K x cls->cg H Fz H' F'->E cls a H',λ_=>none,λ_=>none⟩,sB λx ρ er cls a H' F' σ ec ri=>er cls a H' F' ec ri.ext⟩,?_⟩
 refine⟨Fz,d3 m ds,by rw[<-hm];exact wy sub r,?_⟩
 have hd:ds.length=n:=by rw[<-r.length];exact hl
 unfold bi at w
 rw[if_pos hd]at w
 cases e:g (d3 m ds)with
 |bad=>rw[e]at w;exact w.elim
 |err c ρ=>rw[e]at w;exact w
 |ok o=>
  rw[e]at w
  cases o with
  |ret d=>exact λv H' F' _ e' r'=>w v H' F' e' r'
  |nx ρ=>exact λσ' H' F' _ r'=>w .non H' F' r'.ext .non
  |retc d ρ=>exact w.elim
  |brk ρ=>exact w.elim
  |cnt ρ=>exact w.elim
end L2.Pu
namespace L2.Pu
open PySem PySem.Spec PyProof.Rows
variable {ly:List fE}
def Slot.toBor:Slot->Slot
 | .val d=> .val d
 | .own d=> .bor d
 | .bor d=> .bor d
 | .obj=> .obj
 | .cel .. => .obj
def j6 (N:List L3) (names:List (L3×M0)) (ρ:ag):ag:=
 names.map λx=>if x.2= .free then ((N.findIdx? (·==x.1)).bind λi=>(ρ[i]?).join.map Slot.toBor)else none
theorem II {K:K_} {c:dM ly} {ρ:ag} {σ:St} {H F H1 F1:Hp} {N:List L3} {names:List (L3×M0)} {p:L4} {o:HO} (ri:RI K c ρ σ H F) (e:cg H F H1 F1) (hp:H1 p=none):
  RI K (⟨ce H1 p o,F1,H1,λ_ _=>False,λ_=>none,λ_=>none⟩:dM []) (j6 N names ρ) (sg N names σ) (ce H1 p o) F1:=by
 have r1:=ri.step e
 have SN:∀(i:Nat) sl,(j6 N names ρ)[i]? =some (some sl)->∃(j:Nat) (Y1:Slot),ρ[j]? =some (some Y1)/\sl=Y1.toBor/\∀v,σ[j]? =some (some v)->(sg N names σ)[i]? =some (some v):=λi sl h=>by
  unfold j6 at h
  rw[Lx]at h
  cases en:names[i]? with
  |none=>rw[en]at h;cases h
  |some y=>
   rw[en]at h
   simp only[Nx,Pj]at h
   by_cases hf:y.2= .free
   ·rw[if_pos hf]at h
    cases ei:N.findIdx? (·==y.1)with
    |none=>rw[ei]at h;cases h
    |some j=>
     rw[ei]at h
     cases e2:ρ[j]? with
     |none=>simp[e2]at h
     |some u=>
      cases u with
      |none=>simp[e2]at h
      |some Y1=>
       simp[e2]at h
       refine⟨j,Y1,e2,h.symm,λv hv=> ?_⟩
       unfold sg
       rw[Lx,en]
       simp only[Nx,Pj]
       rw[if_pos hf,ei]
       show (σ[j]?).join=some v
       rw[hv];rfl
   ·rw[if_neg hf]at h;cases h
 refine⟨cg.refl (r1.sub.trans (d0 hp)),λi d h=> ?_,λi d h=> ?_,λi d h=> ?_,d0 hp,λi j d d' a h=> ?_,by simp[j6,sg],(λL h=>by cases h),(λL h=>by cases h),(λ_ _ e=>by cases e), .no λi x SH f hs h=>(by obtain⟨j,sl,h1,h2,h3⟩:=SN i _ h;cases sl<;>cases h2),λL h=>by cases h⟩
 ·obtain⟨j,sl,h1,h2,h3⟩:=SN i _ h
  cases sl with
  |val d'=>cases h2;obtain⟨v,k1,k2⟩:=r1.val j d h1;exact⟨v,h3 v k1,k2⟩
  |own d'=>cases h2
  |bor d'=>cases h2
  |obj=>cases h2
  |cel=>cases h2
 ·obtain⟨j,sl,h1,h2,h3⟩:=SN i _ h;cases sl<;>cases h2
 ·obtain⟨j,sl,h1,h2,h3⟩:=SN i _ h
  cases sl with
  |val d'=>cases h2
  |own d'=>cases h2;obtain⟨a,o,k1,k2,k3,k4,k5⟩:=r1.own j d h1;exact⟨a,o,h3 _ k1,k2,k5⟩
  |bor d'=>cases h2;obtain⟨a,o,k1,k2,k3⟩:=r1.bor j d h1;exact⟨a,o,h3 _ k1,r1.ext.keep _ _ (r1.bh _ _ k2),k3.mono r1.ext.grow⟩
  |obj=>cases h2
  |cel=>cases h2
 ·obtain⟨k,sl,h1,h2,h3⟩:=SN i _ h;cases sl<;>cases h2
theorem RI.bump {K:K_} {ρ:ag} {σ:St} {H F H1 F1:Hp} {p:L4} {o o':HO} {Er:L3->ag->Prop} (r:RI K (⟨ce H1 p o,F1,H1,Er,λ_=>none,λ_=>none⟩:dM []) ρ σ H F) (hp:H1 p=none) (hF:F p=none):
  RI K (⟨ce H1 p o',F1,H1,Er,λ_=>none,λ_=>none⟩:dM []) ρ σ (ce H p o') F:=by
 refine⟨⟨λb u e=> ?_,λb u e=> ?_,r.ext.grow,λb e=> ?_⟩,r.val,λi d h=> ?_,r.bor,d0 hp,r.dis,r.len,(λL h=>by cases h),(λL h=>by cases h),(λ_ _ e=>by cases e),⟨λi x SH f hs h=> ?_,r.cel.one⟩,λL h=>by cases h⟩
 ·rw[az (λz=>by rw[z,hF]at e;cases e)];exact r.sub b u e
 ·change ce H1 p o' b=some u at e
  by_cases z:b=p
  ·subst z;rw[aH]at e ⊢;exact e
  ·rw[az z]at e ⊢;exact r.ext.keep b u (by show ce H1 p o b=some u;rw[az z];exact e)
 ·by_cases z:b=p
  ·subst z;exact absurd hF e
  ·rcases r.ext.new b e with q|q
   ·exact .inl q
   ·refine .inr ?_
    change ce H1 p o b=none at q
    show ce H1 p o' b=none
    rw[az z]at q ⊢;exact q
 ·obtain⟨a,u,h1,h2,h3,h4,h5⟩:=r.own i d h
  change ce H1 p o a=none at h4
  have z:a≠p:=λz=>by subst z;rw[aH]at h4;cases h4
  refine⟨a,u,h1,by rw[az z];exact h2,h3,?_,h5⟩
  show ce H1 p o' a=none
  rw[az z]at h4 ⊢;exact h4
 ·obtain⟨a,dx,b,h1,h2,h3⟩:=r.cel.ex i x SH f hs h
  obtain⟨C,fs,vs,us,g1,g2,g3,g4,g5⟩:=h2.ex
  have SN:∀{z:L4},ce H1 p o z=none->z≠p/\ce H1 p o' z=none:=λ{z} e=>by
   have n:z≠p:=λq=>by subst q;rw[aH]at e;cases e
   exact⟨n,by rw[az n]at e ⊢;exact e⟩
  obtain⟨na,ea⟩:=SN h2.za
  obtain⟨nd,ed⟩:=SN h2.zd
  obtain⟨nb,eb⟩:=SN h2.zb
  exact⟨a,dx,b,h1,⟨⟨C,fs,vs,us,by rw[az na];exact g1,g2,g3,by rw[az nb];exact g4,g5⟩,by rw[az nd];exact h2.own,h2.fa,h2.fd,h2.fb,ea,ed,eb⟩,h3⟩
def lN (g:D->ag->R ag) (gt:ag->R Bool) (fe:ag->R D):List D->ag->R (List D)
 |[],_=> .ok []
 |d::r,τ=>g d τ>>=λτ1=>gt τ1>>=λb=>if b=true then (fe τ1>>=λy=>lN g gt fe r τ1>>=λys=> .ok (y::ys))else lN g gt fe r τ1
def Kj (K:K_) (g:D->ag->R ag):TG:=λv σ H Q=>∃c:dM [],(∀e ρ,¬c.Er e ρ)/\tG K c g v σ H Q
def Kk (K:K_) (g:ag->R Bool):TT:=λσ H Q=>∃c:dM [],(∀e ρ,¬c.Er e ρ)/\tT K c g σ H Q
def Kl (K:K_) (g:ag->R D):TE:=λσ H Q=>∃c:dM [],(∀e ρ,¬c.Er e ρ)/\tQ K c g σ H Q
def AE (ly:List fE) (X:Cx) (V6:List Lc) (gt:ag->R Bool):Prop:=∀c:j3 ly X,Fq X V6 (tT X.K c.1 gt)
def gP:ag->R Bool:=λ_=> .ok true
theorem eI {X:Cx}:AE ly X [] gP:=λc Sv s σ H Q I q=>by
 obtain⟨F,ρ,ri,w⟩:=q
 exact E9 Sv s σ H Q I (w H F (cg.refl ri.sub))
theorem gZ {X:Cx} {c:Lc} {gt:ag->R Bool} (h:ur ly X c gt):AE ly X [c] gt:=λc=>Ea (h c)
theorem rG {α β:Type} {r:R α} {f:α->R β} {b:β} (h:(r>>=f)= .ok b):∃a,r= .ok a/\f a= .ok b:=by
 cases r with
 |ok a=>exact⟨a,rfl,h⟩
 |err c ρ=>cases h
 |bad=>cases h
theorem nU {K:K_} {c:dM ly} {ρ:ag} {σ:St} {H F H1 F1:Hp} {N:List L3} {names:List (L3×M0)} {p:L4} {g:D->ag->R ag} {gt:ag->R Bool} {fe:ag->R D} {J:It} {ds es:List D} {Q:Hp->Prop}
  (ri:RI K c ρ σ H F) (e:cg H F H1 F1) (jo:AB K F1 J ds) (hp:H1 p=none) (hl:ds.length<=lim) (he:lN g gt fe ds (j6 N names ρ)= .ok es)
  (k:∀H2 F2 vs,cg H1 F1 H2 F2->H2 p=some (.lst vs)->F2 p=none->Reps K F2 vs es->Q H2):
  si J (Kj K g) (Kk K gt) (Kl K fe) p (sg N names σ) Q (ce H1 p (.lst [])):=by
 have s1:bd F1 H1:=e.sub
 have f1:F1 p=none:=s1.free hp
 refine⟨λi m ys τ H=>∃F ρ' pre rest,RI K (⟨ce H1 p (.lst ys),F1,H1,λ_ _=>False,λ_=>none,λ_=>none⟩:dM []) ρ' τ H F/\Reps K F ys pre/\pre.length<=i/\m=ds.length - i/\i<=ds.length/\lN g gt fe (ds.drop i) ρ'= .ok rest/\pre++rest=es,
  ⟨_,F1,_,[],es,II ri e hp, .nil,Lv _,rfl,ML _,he,rfl⟩,?_⟩
 rintro i m ys τ H2 ⟨F2,ρ',pre,rest,r2,rp,a41,rfl,hi,hc,ZM⟩
 have a2l:F2 p=none:=by
  cases q:F2 p with
  |none=>rfl
  |some u=>
   rcases r2.ext.new p (by rw[q];simp)with z|z
   ·exact absurd f1 z
   ·change ce H1 p (.lst ys) p=none at z;rw[aH]at z;cases z
 have hD:∀{ρ' τ H F},RI K (⟨ce H1 p (.lst ys),F1,H1,λ_ _=>False,λ_=>none,λ_=>none⟩:dM []) ρ' τ H F->H p=some (.lst ys):=λr=>r.ext.keep p _ aH
 refine⟨hD r2,?_⟩
 by_cases Vn:i<ds.length
 ·refine .inr ⟨jo.go i H2 (r2.ext.grow.trans r2.sub) Vn,?_,λx H3 y=> ?_⟩
  ·have:=rp.length
   have:=gC
   omega
  ·obtain⟨F3,d,hd,e3,r3⟩:=jo.yld i H2 F2 x H3 r2.ext.grow r2.sub y Vn
   obtain⟨WG,ed⟩:=Lq.mp hd
   rw[O4 WG,ed]at hc
   obtain⟨τ1,h1,hc⟩:=rG (r:=g d ρ') hc
   obtain⟨b,h2,hc⟩:=rG (r:=gt τ1) hc
   refine⟨_,λe ρ h=>h,F3,ρ',d,r2.step e3,r3,?_⟩
   rw[h1]
   intro τ4 H4 F4 s4 r4
   refine⟨_,λe ρ h=>h,F4,τ1,r4,?_⟩
   rw[h2]
   intro H5 F5 e5
   cases b with
   |false=>
    exact⟨ds.length - (i+1),by omega,F5,τ1,pre,rest,r4.step e5,(rp.mono e3.grow).mono (s4.trans e5.grow),by omega,rfl,Vn,hc,ZM⟩
   |true=>
    rw[if_pos rfl]at hc ⊢
    obtain⟨y',h3,hc⟩:=rG (r:=fe τ1) hc
    obtain⟨a2m,h4,hc⟩:=rG (r:=lN g gt fe (ds.drop (i+1)) τ1) hc
    cases hc
    refine⟨_,λe ρ h=>h,F5,τ1,r4.step e5,?_⟩
    rw[h3]
    intro v H6 F6 e6 r6
    have a0K:=(r4.step e5).step e6
    refine⟨hD a0K,ds.length - (i+1),by omega,F6,τ1,pre++[y'],a2m,a0K.bump hp ?_,(((rp.mono e3.grow).mono (s4.trans e5.grow)).mono e6.grow).append (.cons r6 .nil),by simp;omega,rfl,Vn,h4,by rw[<-ZM];simp⟩
    cases q:F6 p with
    |none=>rfl
    |some u=>
     rcases a0K.ext.new p (by rw[q];simp)with z|z
     ·exact absurd f1 z
     ·change ce H1 p (.lst ys) p=none at z;rw[aH]at z;cases z
 ·have ei:i=ds.length:=by omega
  subst ei
  rw[RN]at hc
  cases hc
  rw[Mu]at ZM
  subst ZM
  refine .inl ⟨jo.stop H2 (r2.ext.grow.trans r2.sub),k H2 F2 ys ⟨r2.sub,(d0 hp).trans r2.ext.keep,r2.ext.grow,λa ha=> ?_⟩ (hD r2) a2l rp⟩
  rcases r2.ext.new a ha with z|z
  ·exact .inl z
  ·refine .inr ?_
   change ce H1 p (.lst ys) a=none at z
   rw[az (λq=>by subst q;rw[aH]at z;cases z)]at z
   exact z
section
variable {X:Cx} {Vj tg T4:Lc} {V6:List Lc} {scope:MZ} {pos:LR} {fi:ag->R (List D)} {g:D->ag->R ag} {gt:ag->R Bool} {fe:ag->R D}
def bO (N:List L3) (names:List (L3×M0)) (fi:ag->R (List D)) (g:D->ag->R ag) (gt:ag->R Bool) (fe:ag->R D):ag->R (List D):=λρ=>fi ρ>>=λds=>if ds.length<=lim then (match lN g gt fe ds (j6 N names ρ)with
 | .ok es=> .ok es
 |_=> .bad)else .bad
def fL (f:ag->R (List D)):ag->R D:=λρ=>f ρ>>=λds=> .ok (.lst ds)
theorem K2 {X:Cx} (h:Ep [] X tg g):PG X tg (Kj X.K g):=λSv s σ H v u Q I r ⟨c,hn,q⟩=>h ⟨c, .no hn⟩ Sv s σ H v u Q I r q
theorem K3 {X:Cx} (h:AE [] X V6 gt):Fq X V6 (Kk X.K gt):=λSv s σ H Q I ⟨c,hn,q⟩=>h ⟨c, .no hn⟩ Sv s σ H Q I q
theorem K4 {X:Cx} (h:PQ [] X Vj fe):PE X Vj (Kl X.K fe):=λSv s σ H Q I ⟨c,hn,q⟩=>h ⟨c, .no hn⟩ Sv s σ H Q I q
theorem cT (S:aZ X scope) (hc:X.calm=true) (hi:GB ly X tg T4 fi) (hg:∀s H ex,Ep [] (dL X scope s H ex) tg g) (Xg:∀s H ex,AE [] (dL X scope s H ex) V6 gt) (Xa:∀s H ex,PQ [] (dL X scope s H ex) Vj fe)
  (hs:∀x,MX T4 X.env x=pure x:=by intro _;rfl):PQ ly X (.ListComp Vj [⟨tg,T4,V6,0⟩] scope pos) (fL (bO X.N scope.names fi g gt fe)):=λc=>
 PE.weak (zj S hc (hi c) (λs H ex=>K2 (hg s H ex)) (λs H ex=>K3 (Xg s H ex)) (λs H ex=>K4 (Xa s H ex)) hs) λσ H Q ⟨F,ρ,ri,w⟩=>by
  refine⟨F,ρ,ri,(aL.bind.mp (aL.bind.mp w)).imp λds _ w1 J H1 F1 e1 jo p hp=> ?_⟩
  split at w1
  ·rename_i hl
   split at w1
   ·rename_i es he
    refine nU ri e1 jo hp hl he λH2 F2 vs e2 Y5 Zi rv=> ?_
    have g2:bd F2 (ce F2 p (.lst vs)):=d0 Zi
    refine w1 (.ref p) H2 (ce F2 p (.lst vs)) ⟨λb u eb=> ?_,e1.keep.trans e2.keep,(e1.grow.trans e2.grow).trans g2,λa ha=> ?_⟩ (.lst aH (rv.mono g2))
    ·by_cases z:b=p
     ·subst z;rw[aH]at eb;rw[Y5];exact eb
     ·rw[az z]at eb;exact e2.sub b u eb
    ·by_cases z:a=p
     ·subst z;exact .inr (e1.keep.free hp)
     ·rw[az z]at ha
      exact(e1.trans e2).new a ha
   ·exact w1.elim
  ·exact w1.elim
def oY (i:Nat) (f:ag->R (List D)):ag->R bq:=λρ=>f ρ>>=λds=> .ok (.nx (ρ.set i (some (.own (.lst ds)))))
theorem yh (i:Nat) {y:L3} {py Vs:LR} (S:aZ X scope) (hc:X.calm=true) (hN:X.N.Nodup) (hi:GB ly X tg T4 fi) (hg:∀s H ex,Ep [] (dL X scope s H ex) tg g) (Xg:∀s H ex,AE [] (dL X scope s H ex) V6 gt) (Xa:∀s H ex,PQ [] (dL X scope s H ex) Vj fe)
  (W_:X.N[i]? =some y:=by rfl) (hx:A7 X.env.scope y:=by first|exact LW rfl|exact LI rfl) (hf:X.fn y=true\/X.env.scope.names.lookup y=some .local:=by first|exact .inl rfl|exact .inr rfl|assumption)
  (Wn:M6 (.ListComp Vj [⟨tg,T4,V6,0⟩] scope pos) (some (.Name y py)) Vs.line X.env=pure true:=by rfl) (hs:∀x,MX T4 X.env x=pure x:=by intro _;rfl) (UI:lA ly i:=by(repeat (first|assumption|exact L2.Pu.fO|refine L2.Pu.eA ⟨by first|decide|simp,by first|decide|simp⟩ ?_))):
  mP ly X (.Assign [.Name y py] (.ListComp Vj [⟨tg,T4,V6,0⟩] scope pos) Vs) (oY i (bO X.N scope.names fi g gt fe)):=λc=>
 PS.weak (Ec S hc (hi c) (λs H ex=>K2 (hg s H ex)) (λs H ex=>K3 (Xg s H ex)) (λs H ex=>K4 (Xa s H ex)) (yQ hN W_ hx hf) Wn hs) λD σ H ⟨F,ρ,ri,w⟩=>by
  refine⟨F,ρ,ri,(aL.bind.mp (aL.bind.mp w)).imp λds _ w1 J H1 F1 e1 jo p hp=> ?_⟩
  split at w1
  ·rename_i hl
   split at w1
   ·rename_i es he
    refine nU ri e1 jo hp hl he λH2 F2 vs e2 Y5 Zi rv=> ?_
    refine w1 _ H2 F2 (e1.grow.trans e2.grow) ((ri.step (e1.trans e2)).setOwn i UI Y5 Zi (ri.ext.keep.free (e1.keep.free hp)) (.lst rv) (λj d' _ hj ej=> ?_) (ri.celNe (e1.trans e2).keep (e1.keep.free hp)))
    obtain⟨a,o,k1,k2,_⟩:=ri.own j d' hj
    rw[ej]at k1
    cases k1
    rw[e1.keep.free hp]at k2
    cases k2
   ·exact w1.elim
  ·exact w1.elim
end
def lO:D->Option cJ
 | .int i=>some (.inl i)
 | .str x=>some (.inr x)
 |_=>none
def lP (UJ:List (cJ×D)) (k:cJ):Option D:=(UJ.find? λkv=>decide (kv.1=k)).map (·.2)
def GF (UJ:List (cJ×D)) (k:cJ) (v:D):List (cJ×D):=
 if (UJ.any λkv=>decide (kv.1=k))=true then UJ.map (λkv=>if kv.1=k then (kv.1,v)else kv)else UJ++[(k,v)]
theorem mQ {K:K_} {H F:Hp} {v:V} {d:D} {k:cJ} (h:lO d=some k) (r:di K H F v d):v=kV k:=by
 cases d with
 |int i=>cases h;exact r.int
 |str x=>cases h;exact r.str
 |_=>cases h
section
variable {K:K_} {F:Hp}
theorem RepK.any (k:cJ):∀{vs:List (cJ×V)} {ds:List (cJ×D)},RepK K F vs ds->(vs.any λkv=>decide (kv.1=k))=ds.any λkv=>decide (kv.1=k):=by
 intro vs ds
 induction ds generalizing vs with
 |nil=>intro h;rw[h.nilI];rfl
 |cons d ds ih=>
  intro h
  obtain⟨v,us,rfl,_,t⟩:=RepK.consI (k:=d.1) (d:=d.2) h
  rw[MB,MB,ih t]
theorem RepK.get (k:cJ):∀{vs:List (cJ×V)} {ds:List (cJ×D)},RepK K F vs ds->(kH vs k=none/\lP ds k=none)\/∃v d,kH vs k=some v/\lP ds k=some d/\dZ K F v d:=by
 intro vs ds
 induction ds generalizing vs with
 |nil=>intro h;rw[h.nilI];exact .inl ⟨rfl,rfl⟩
 |cons d ds ih=>
  intro h
  obtain⟨a,d⟩:=d
  obtain⟨v,vs,rfl,r,t⟩:=h.consI
  by_cases e:a=k
  ·exact .inr ⟨v,d,by simp[kH,e],by simp[lP,e],r⟩
  ·have h1:kH ((a,v)::vs) k=kH vs k:=by simp[kH,e]
   have h2:lP ((a,d)::ds) k=lP ds k:=by simp[lP,e]
   rw[h1,h2]
   exact ih t
theorem RepK.repl (k:cJ) {v:V} {d:D} (h:dZ K F v d):∀{vs:List (cJ×V)} {ds:List (cJ×D)},RepK K F vs ds->RepK K F (vs.map λkv=>if kv.1=k then (kv.1,v)else kv) (ds.map λkv=>if kv.1=k then (kv.1,d)else kv):=by
 intro vs ds
 induction ds generalizing vs with
 |nil=>intro h;rw[h.nilI];exact .nil
 |cons x ds ih=>
  intro g
  obtain⟨a,x⟩:=x
  obtain⟨y,vs,rfl,r,t⟩:=g.consI
  rw[Lf,Lf]
  by_cases e:a=k
  ·simp only[e,if_true];exact .cons h (ih t)
  ·simp only[e,if_false];exact .cons r (ih t)
theorem RepK.append:∀{vs us:List (cJ×V)} {ds es:List (cJ×D)},RepK K F vs ds->RepK K F us es->RepK K F (vs++us) (ds++es):=by
 intro vs us ds
 induction ds generalizing vs with
 |nil=>intro es h g;rw[h.nilI];exact g
 |cons x ds ih=>
  intro es h g
  obtain⟨a,x⟩:=x
  obtain⟨y,vs,rfl,r,t⟩:=h.consI
  exact .cons r (ih t g)
theorem RepK.put (k:cJ) {v:V} {d:D} (h:dZ K F v d) {vs:List (cJ×V)} {ds:List (cJ×D)} (r:RepK K F vs ds):RepK K F (n5 vs k v) (GF ds k d):=by
 unfold n5 GF
 rw[r.any k]
 split
 ·exact r.repl k h
 ·exact r.append (.cons h .nil)
end
theorem GG {kvs:List (cJ×V)} {k:cJ} (v:V) (hn:(kvs.map (·.1)).Nodup):((n5 kvs k v).map (·.1)).Nodup:=by
 unfold n5
 split
 ·have e:(kvs.map λkv=>if kv.1=k then (kv.1,v)else kv).map (·.1)=kvs.map (·.1):=by
   rw[Mr]
   refine NX λkv _=> ?_
   show (if kv.1=k then (kv.1,v)else kv).1=kv.1
   split<;>rfl
  rw[e];exact hn
 ·rename_i h
  rw[LU]
  refine ND.mpr ⟨hn,by simp,λa ha b hb=> ?_⟩
  have eb:b=k:=by simpa using hb
  subst eb
  intro z
  subst z
  obtain⟨kv,h1,h2⟩:=MU.mp ha
  exact h (Mc.mpr ⟨kv,h1,by simp[h2]⟩)
section
variable {X:Cx} {a b e:Lc} {es:List Lc} {fa fb f fk fv:ag->R D} {fs:ag->R (List D)} {pos:LR}
def oZ (i:Nat) (f:ag->R D):ag->R bq:=λρ=>match ρ[i]? with
 |some (some (.own (.lst ds)))=>f ρ>>=λd=>if ds.length<lim then .ok (.nx (ρ.set i (some (.own (.lst (ds++[d]))))))else .bad
 |_=> .bad
theorem RI.ownL {K:K_} {c:dM ly} {ρ:ag} {σ:St} {H F:Hp} (ri:RI K c ρ σ H F) {i:Nat} {ds:List D} (h:ρ[i]? =some (some (.own (.lst ds)))):∃a vs,σ[i]? =some (some (.ref a))/\H a=some (.lst vs)/\Reps K F vs ds:=by
 obtain⟨a,o,h1,h2,_,_,h5⟩:=ri.own i _ h
 cases h5 with
 |lst r=>exact⟨a,_,h1,h2,r⟩
theorem RI.ownD {K:K_} {c:dM ly} {ρ:ag} {σ:St} {H F:Hp} (ri:RI K c ρ σ H F) {i:Nat} {ds:List (cJ×D)} (h:ρ[i]? =some (some (.own (.dic ds)))):∃a vs,σ[i]? =some (some (.ref a))/\H a=some (.dK vs)/\RepK K F vs ds/\(vs.map (·.1)).Nodup:=by
 obtain⟨a,o,h1,h2,_,_,h5⟩:=ri.own i _ h
 cases h5 with
 |dic r n=>exact⟨a,_,h1,h2,r,n⟩
theorem ie (i:Nat) {x:L3} {px SQ SK:LR} (h:PQ ly X e f) (hN:X.N[i]? =some x:=by rfl) (hv:pT X.env.scope x:=by first|exact LW rfl|exact LI (LW rfl)|exact LI (LI rfl)) (hd:(x==("__debug__":L3))=false:=by decide)
  (U3:(x==("__classdict__":L3))=false:=by decide) (Th:LY (.Name x px) "append" X.env (Ls (.Name x px) X.env)=Ls (.Name x px) X.env:=by rfl)
  (Vc:((LK SK (L8 [e] X.env)).all (λx=> !x.1)&&(MT SK (Mt [] X.env)).all (λx=>x.1.isSome)
   &&decide (([e]:List Lc).length+([]:List N7).length+(if ([]:List N7).isEmpty then 0 else 1)<30))=true:=by rfl)
  (Ti:(SQ.endLine==SK.line)=true:=by rfl) (hs:L8 [e] X.env=(false,Ls e X.env)::L8 [] X.env:=by rfl) (Tj:(LK SK (L8 [] X.env)).any (·.1)=false:=by rfl)
  (Wn:M6 (.Call (.Attribute (.Name x px) "append" SQ) [e] [] SK) none pos.line X.env=pure false:=by rfl):mP ly X (.Expr (.Call (.Attribute (.Name x px) "append" SQ) [e] [] SK) pos) (oZ i f):=λc=>
 PS.weak (oI (zc Mw Q0 Q1 pX (pv i hN hv hd U3) (dh (h c) gX hs) Th Vc Ti hs Tj) Wn) λD σ H ⟨F,ρ,ri,w⟩=>by
  unfold oZ at w
  split at w
  ·rename_i ds hi
   obtain⟨a,vs,h1,h2,h3⟩:=ri.ownL hi
   refine⟨_,h1, .inl ⟨rfl,vs,dC.of h2⟩,F,ρ,ri,(aL.bind.mp w).imp λd _ w1 v H1 F1 e1 r1=> ?_⟩
   split at w1
   ·rename_i hl
    refine⟨a,vs,v,rfl,rfl,e1.keep _ _ h2,LM (by rw[h3.length];exact hl) gC,?_⟩
    exact w1 σ _ F1 e1.grow ((ri.step e1).change (o:= .lst vs) hi h1 (.lst ((h3.mono e1.grow).append (.cons r1 .nil))))
   ·exact w1.elim
  ·exact w.elim
def Co (i:Nat) (fk fv:ag->R D):ag->R bq:=λρ=>match ρ[i]? with
 |some (some (.own (.dic UJ)))=>fv ρ>>=λv=>fk ρ>>=λk=>match lO k with
  |some SN=>if UJ.length<lim then .ok (.nx (ρ.set i (some (.own (.dic (GF UJ SN v))))))else .bad
  |none=> .bad
 |some (some (.own (.lst ds)))=>fv ρ>>=λv=>fk ρ>>=λk=>match k with
  | .int j=>(match xG ds.length j with
   |some n=> .ok (.nx (ρ.set i (some (.own (.lst (ds.set n v))))))
   |none=> .bad)
  |_=> .bad
 |_=> .bad
theorem Fv (i:Nat) {x:L3} {px SY:LR} (hu:X.A.units+1<Nf) (hk:PQ ly X a fk) (h:PQ ly X e fv) (hN:X.N[i]? =some x:=by rfl) (hv:pT X.env.scope x:=by first|exact LW rfl|exact LI (LW rfl)|exact LI (LI rfl)) (hd:(x==("__debug__":L3))=false:=by decide)
  (U3:(x==("__classdict__":L3))=false:=by decide) (hs:M6 e (some (.Subscript (.Name x px) a SY)) pos.line X.env=pure false:=by rfl)
  (ha:∀v,NR (.Subscript (.Name x px) a SY) X.env v=(do
   let ov<-MW [v] (Ls (.Name x px) X.env)
   let iv<-MW [v,ov] (Ls a X.env)
   Nq SY
   MW [v,ov,iv] (S6 ov iv v)
   release [v,ov,iv] []):=by intro _;rfl)
  (VX:P2 [.Subscript (.Name x px) a SY] e pos.line X.env=pure false:=by rfl) (hw:P4 [.Subscript (.Name x px) a SY] e X.env=pure none:=by rfl)
  (h1:(M9 [.Subscript (.Name x px) a SY] X.env).map (·.2)=[NR (.Subscript (.Name x px) a SY) X.env]:=by rfl):mP ly X (.Assign [.Subscript (.Name x px) a SY] e pos) (Co i fk fv):=by
 intro c Sv s σ H D I q
 obtain⟨F,ρ,ri,w⟩:=q
 unfold Co at w
 split at w
 ·rename_i UJ hi
  obtain⟨p,vs,g1,g2,g3,g4⟩:=ri.ownD hi
  refine E7 hu (pv i hN hv hd U3) (hk c) (h c) hs Sv s σ H D I ⟨F,ρ,ri,(aL.bind.mp w).imp λd _ w1 v H1 F1 e1 r1=> ?_⟩
  refine⟨_,g1,F1,ρ,ri.step e1,(aL.bind.mp w1).imp λk _ w2 u H2 F2 e2 r2=> ?_⟩
  cases WM:lO k with
  |none=>rw[WM]at w2;exact w2.elim
  |some SN=>
   rw[WM]at w2
   cases mQ (H:=H2) WM (.inl r2)
   dsimp only at w2
   split at w2
   ·rename_i hl
    have XX:=e1.trans e2
    refine⟨p,_,rfl,y0.k (k:=SN) (XX.keep _ _ g2) (LM (by rw[g3.length];exact hl) gC),?_⟩
    exact w2 σ _ F2 XX.grow ((ri.step XX).change (o:= .dK vs) hi g1 (.dic ((g3.mono XX.grow).put SN (r1.mono e2.grow)) (GG _ g4)))
   ·exact w2.elim
 ·rename_i ds hi
  obtain⟨p,vs,g1,g2,g3⟩:=ri.ownL hi
  refine xJ (h c) (G0 (pv i hN hv hd U3) (hk c) BP ha) VX hw h1 Sv s σ H D I ⟨F,ρ,ri,(aL.bind.mp w).imp λd _ w1 v H1 F1 e1 r1=> ?_⟩
  refine⟨_,g1,F1,ρ,ri.step e1,(aL.bind.mp w1).imp λk _ w2 u H2 F2 e2 r2=> ?_⟩
  cases k with
  |int j=>
   cases r2
   dsimp only at w2
   split at w2
   ·rename_i n hn
    have XX:=e1.trans e2
    refine⟨p,vs,j,n,rfl,rfl,XX.keep _ _ g2,by rw[g3.length];exact hn,?_⟩
    exact w2 σ _ F2 XX.grow ((ri.step XX).change (o:= .lst vs) hi g1 (.lst ((g3.mono XX.grow).set n (r1.mono e2.grow))))
   ·exact w2.elim
  |_=>exact w2.elim
 ·exact w.elim
end
end L2.Pu
namespace L2.Pu
open PySem PySem.Spec PyProof.Rows
variable {ly:List fE}
section
variable {K:K_}
def tK (i j:Int):Prop:=i.natAbs<18446744073709551616\/j.natAbs<18446744073709551616
def yi (_ j:Int):Prop:=0<j/\j.natAbs<1073741824
def Cp (i j:Int):Prop:=0<=j/\j.natAbs<=1000000/\i.natAbs<18446744073709551616
instance (i j:Int):Decidable (tK i j):=by unfold tK;infer_instance
instance (i j:Int):Decidable (yi i j):=by unfold yi;infer_instance
instance (i j:Int):Decidable (Cp i j):=by unfold Cp;infer_instance
theorem tK.c {i j:Int} (h:tK i j):Af i j:=by
 unfold tK at h
 unfold Af
 omega
theorem yi.c {i j:Int} (h:yi i j):DP i j:=by
 unfold yi at h
 unfold DP
 omega
theorem Cp.c {i j:Int} (h:Cp i j):Ib i j:=by
 unfold Cp at h
 unfold Ib
 omega
def bD:D->D->Option D
 | .int i, .int j=>some (.int (i+j))
 | .lst a, .lst b=>if a.length+b.length<=lim then some (.lst (a++b))else none
 | .tup a, .tup b=>if a.length+b.length<=lim then some (.tup (a++b))else none
 |_,_=>none
def Fw (K:K_):R2:=λx y H Q=>(Ae (λi j=> .int (i+j)) x y H Q\/Io x y H Q)\/(Fn K x y H Q\/Fs K x y H Q)
theorem aM {X:Cx}:lG X (MS .Add) (Fw X.K):=(G6.or Gi).or (DY.or Ei)
theorem aN:kh K (Fw K) bD:=by
 intro v u x y d H F Q s rx ry h k
 unfold bD at h
 split at h
 ·cases rx.int;cases ry.int;cases h;exact .inl (.inl ⟨_,_,rfl,rfl,k _ H F (cg.refl s) (.int _)⟩)
 ·rename_i a b
  split at h
  ·rename_i hl
   cases h
   obtain⟨p,vs,rfl,h1,h2⟩:=rx.lst s
   obtain⟨q,us,rfl,h3,h4⟩:=ry.lst s
   refine .inl (.inr ⟨p,q,vs,us,rfl,rfl,h1,h3,LP (by rw[h2.length,h4.length];exact hl) gC,λl WG=> ?_⟩)
   have e:=cg.lay (o:= .lst (vs++us)) s WG
   exact k _ _ _ e (.lst aH ((h2.append h4).mono e.grow))
  ·cases h
 ·rename_i a b
  split at h
  ·rename_i hl
   cases h
   obtain⟨p,vs,rfl,h1,h2⟩:=rx.tup s
   obtain⟨q,us,rfl,h3,h4⟩:=ry.tup s
   cases a with
   |nil=>
    cases h2
    refine .inr (.inr ⟨p,q,us,rfl,rfl,iY.of h1,iY.of h3,?_⟩)
    match ry with
    | .inl ry=>exact k _ H F (cg.refl s) ry
   |cons a0 a1=>
    refine .inr (.inl ⟨p,q,vs,us,rfl,rfl,iY.of h1,iY.of h3,(λz=>by subst z;cases h2),LP (by rw[h2.length,h4.length];exact hl) gC,λz=> ?_,λ_ l WG=> ?_⟩)
    ·subst z
     cases h4
     rw[Mu]at k
     match rx with
     | .inl rx=>exact k _ H F (cg.refl s) rx
    ·have e:=cg.lay (o:= .tup (vs++us)) s WG
     exact k _ _ _ e (.tup aH ((h2.append h4).mono e.grow))
  ·cases h
 ·cases h
def HF (g:Int->Int->D):D->D->Option D
 | .int i, .int j=>some (g i j)
 |_,_=>none
def GH (C:Int->Int->Prop) [∀i j,Decidable (C i j)] (g:Int->Int->D):D->D->Option D
 | .int i, .int j=>if C i j then some (g i j)else none
 |_,_=>none
theorem v7 {gv:Int->Int->V} {g:Int->Int->D} (hg:∀F i j,dZ K F (gv i j) (g i j)):kh K (Ae gv) (HF g):=by
 intro v u x y d H F Q s rx ry h k
 cases x with
 |int i=>
  cases y with
  |int j=>cases rx.int;cases ry.int;cases h;exact⟨i,j,rfl,rfl,k _ H F (cg.refl s) (hg F i j)⟩
  |_=>cases h
 |_=>cases h
theorem Cq {C C':Int->Int->Prop} [∀i j,Decidable (C i j)] {gv:Int->Int->V} {g:Int->Int->D} (hC:∀i j,C i j->C' i j) (hg:∀F i j,dZ K F (gv i j) (g i j)):kh K (rI C' gv) (GH C g):=by
 intro v u x y d H F Q s rx ry h k
 cases x with
 |int i=>
  cases y with
  |int j=>
   cases rx.int;cases ry.int
   replace h:(if C i j then some (g i j)else none)=some d:=h
   split at h
   ·cases h;exact⟨i,j,rfl,rfl,hC i j (by assumption),k _ H F (cg.refl s) (hg F i j)⟩
   ·cases h
  |_=>cases h
 |_=>cases h
def iS:=HF λi j=> .int (i - j)
def ee:=GH yi λi j=> .int (i / j)
def bP:=GH (λ_ j=>0<j) λi j=> .int (i%j)
def tL:=HF λi j=> .bl (decide (i<j))
def KH:=HF λi j=> .bl (decide (i<=j))
def nV:=HF λi j=> .bl (decide (j<i))
def Et:=HF λi j=> .bl (decide (j<=i))
theorem fQ:kh K (Ae λi j=> .int (i - j)) iS:=v7 λF i j=> .int _
theorem dk:kh K (rI DP λi j=> .int (i / j)) ee:=Cq (λ_ _ h=>h.c) λF i j=> .int _
theorem bc:kh K (rI (λ_ j=>0<j) λi j=> .int (i%j)) bP:=Cq (λ_ _ h=>h) λF i j=> .int _
theorem iq:kh K (Ae λi j=> .bl (decide (i<j))) tL:=v7 λF i j=> .bl _
theorem gF:kh K (Ae λi j=> .bl (decide (j<i))) nV:=v7 λF i j=> .bl _
theorem sC:kh K (Ae λi j=> .bl (decide (j<=i))) Et:=v7 λF i j=> .bl _
def nW:D->D->Option D
 | .int i, .int j=>if tK i j then some (.int (i*j))else none
 | .lst a, .int k=>if k.natAbs<=lim/\a.length*k.toNat<=lim then some (.lst (LD k.toNat a).flatten)else none
 |_,_=>none
def Cr:R2:=λx y H Q=>rI Af (λi j=> .int (i*j)) x y H Q\/Ip x y H Q
theorem gG {X:Cx}:lG X (MS .Mult) Cr:=G7.or Gj
theorem Reps.rep {F:Hp} {vs:List V} {ds:List D} (h:Reps K F vs ds):∀k:Nat,Reps K F (LD k vs).flatten (LD k ds).flatten
 |0=> .nil
 |k+1=>by
  rw[Mn,Mn,MY,MY]
  exact h.append (h.rep k)
theorem i7:kh K Cr nW:=by
 intro v u x y d H F Q s rx ry h k
 unfold nW at h
 split at h
 ·rename_i i j
  cases rx.int;cases ry.int
  replace h:(if tK i j then some (D.int (i*j))else none)=some d:=h
  split at h
  ·rename_i hb;cases h;exact .inl ⟨i,j,rfl,rfl,tK.c hb,k _ H F (cg.refl s) (.int _)⟩
  ·cases h
 ·rename_i a j
  split at h
  ·rename_i hl
   cases h
   cases ry.int
   obtain⟨p,vs,rfl,h1,h2⟩:=rx.lst s
   refine .inr ⟨p,j,vs,rfl,rfl,h1,by have:=i6 hl.1;omega,by have:=i6 hl.1;omega,LP (by rw[h2.length];exact hl.2) gC,λl WG=> ?_⟩
   have e:=cg.lay (o:= .lst (LD j.toNat vs).flatten) s WG
   exact k _ _ _ e (.lst aH ((h2.rep _).mono e.grow))
  ·cases h
 ·cases h
def g_:D->Option D
 | .int i=>some (.int (-i))
 |_=>none
theorem eP:IG K (rU λi=> .int (-i)) g_:=by
 intro v x d H F Q s rx h k
 cases x with
 |int i=>cases rx.int;cases h;exact⟨i,rfl,k _ H F (cg.refl s) (.int _)⟩
 |_=>cases h
def yj:D->D->Option Bool
 | .non, .non=>some true
 | .non, .int _=>some false
 | .int _, .non=>some false
 | .non, .bl _=>some false
 | .bl _, .non=>some false
 | .non, .str _=>some false
 | .str _, .non=>some false
 | .int i, .int j=>some (decide (i=j))
 | .bl i, .bl j=>some (decide (i=j))
 | .str i, .str j=>some (decide (i=j))
 | .int _, .str _=>some false
 | .str _, .int _=>some false
 | .bl _, .str _=>some false
 | .str _, .bl _=>some false
 |_,_=>none
def dq (x y:D):Option D:=(yj x y).map .bl
def sD (x y:D):Option D:=(yj x y).map λb=> .bl (!b)
theorem uv {H F:Hp} {v u:V} {x y:D} {b:Bool} (rx:di K H F v x) (ry:di K H F u y) (h:yj x y=some b):G8 v u=true/\decide (v=u)=b:=by
 cases x<;>cases y<;>first
  |(exfalso;revert h;simp[yj];done)
  |(first|cases rx.int|cases rx.bl|cases rx.str|cases rx.non)<;>(first|cases ry.int|cases ry.bl|cases ry.str|cases ry.non)<;>(refine⟨rfl,?_⟩;simp[yj]at h ⊢;try exact h)
theorem bg:kh K Jm dq:=by
 intro v u x y d H F Q s rx ry h k
 unfold dq at h
 cases e:yj x y with
 |none=>rw[e]at h;cases h
 |some b=>
  rw[e]at h
  cases h
  obtain⟨h1,h2⟩:=uv rx ry e
  exact⟨h1,by rw[h2];exact k _ H F (cg.refl s) (.bl b)⟩
theorem j7:kh K Ke sD:=by
 intro v u x y d H F Q s rx ry h k
 unfold sD at h
 cases e:yj x y with
 |none=>rw[e]at h;cases h
 |some b=>
  rw[e]at h
  cases h
  obtain⟨h1,h2⟩:=uv rx ry e
  exact⟨h1,by rw[h2];exact k _ H F (cg.refl s) (.bl _)⟩
def wz:D->D->Option D
 | .non, .non=>some (.bl true)
 | .scr _, .non=>none
 |_, .non=>some (.bl false)
 |_,_=>none
def Ct:D->Bool
 | .non=>true
 |_=>false
theorem AF {H F:Hp} {v:V} {x:D} (s:bd F H) (rx:di K H F v x):decide (v= .non)=Ct x:=by
 cases x with
 |non=>cases rx.non;rfl
 |bl b=>cases rx.bl;rfl
 |int i=>cases rx.int;rfl
 |str z=>cases rx.str;rfl
 |tup ds=>obtain⟨a,vs,rfl,_⟩:=rx.tup s;rfl
 |lst ds=>obtain⟨a,vs,rfl,_⟩:=rx.lst s;rfl
 |dic ds=>obtain⟨a,vs,rfl,_⟩:=rx.dic s;rfl
 |scr ns=>obtain⟨a,rfl,_⟩:=rx.scr s;rfl
 |ins C fs=>
  rcases rx with rx|⟨a,o,rfl,_,q⟩
  ·cases rx;rfl
  ·cases q
 |exc C=>
  rcases rx with rx|⟨a,o,rfl,_,q⟩
  ·cases rx;rfl
  ·cases q
theorem GI {x y d:D} (h:wz x y=some d):y= .non/\d= .bl (Ct x):=by
 unfold wz at h
 split at h
 ·cases h;exact⟨rfl,rfl⟩
 ·cases h
 ·rename_i n1 _
  cases h
  refine⟨rfl,?_⟩
  unfold Ct
  split
  ·exact absurd rfl n1
  ·rfl
 ·cases h
theorem zr:kh K (λx y H Q=>y= .non/\Q (.bl (decide (x= .non))) H) wz:=by
 intro v u x y d H F Q s rx ry h k
 obtain⟨rfl,rfl⟩:=GI h
 cases ry.non
 refine⟨rfl,?_⟩
 rw[AF s rx]
 exact k _ H F (cg.refl s) (.bl _)
def j8:D->Bool
 | .non=>true
 | .bl _=>true
 | .int _=>true
 | .str _=>true
 |_=>false
def HG:D->D->Bool
 | .non, .non=>true
 | .bl a, .bl b=>a==b
 | .bl a, .int b=>(if a then 1 else 0)==b
 | .int a, .bl b=>a==(if b then 1 else 0)
 | .int a, .int b=>a==b
 | .str a, .str b=>a==b
 |_,_=>false
theorem wA {F:Hp} {v:V} {d:D} (r:dZ K F v d) (h:j8 d=true):iI v=true:=by
 cases r<;>first|rfl|cases h
theorem Cu {F:Hp} {v u:V} {x y:D} (r:dZ K F v x) (q:dZ K F u y) (hx:j8 x=true) (hy:j8 y=true):Bk v u=HG x y:=by
 cases r<;>first|(cases hx;done)|(cases q<;>first|rfl|(cases hy;done))
theorem Reps.flat {F:Hp}:∀{vs:List V} {ds:List D},Reps K F vs ds->ds.all j8=true->vs.all iI=true:=by
 intro vs ds
 induction ds generalizing vs with
 |nil=>intro h _;rw[h.nilI];rfl
 |cons d ds ih=>
  intro g h
  obtain⟨v,us,rfl,r,t⟩:=g.consI
  rw[Mp,Mb]at h
  rw[Mp,wA r h.1,ih t h.2];rfl
theorem Reps.inV {F:Hp} {v:V} {x:D} (rx:dZ K F v x) (hx:j8 x=true) {vs:List V} {ds:List D} (g:Reps K F vs ds):ds.all j8=true->L2.inV v vs=ds.any λy=>HG y x:=by
 induction ds generalizing vs with
 |nil=>intro _;rw[g.nilI];rfl
 |cons d ds ih=>
  intro h
  obtain⟨w,us,e0,r,t⟩:=g.consI
  rw[Mp,Mb]at h
  have:=ih t h.2
  rw[e0]
  unfold L2.inV at this ⊢
  rw[MB,MB,Cu r rx h.1 hx,this]
def HH (Vm:Bool) (x:D) (ds:List D):Option D:=if j8 x=true/\ds.all j8=true then some (.bl (if Vm then !(ds.any λy=>HG y x)else ds.any λy=>HG y x))else none
def yk (Vm:Bool):D->D->Option D
 |x, .lst ds=>HH Vm x ds
 |x, .tup ds=>HH Vm x ds
 |_,_=>none
theorem wB {H F:Hp} {Vm:Bool} {v:V} {x d:D} {ds:List D} (rx:di K H F v x) (h:HH Vm x ds=some d) {vs:List V} (rv:Reps K F vs ds):
  iI v=true/\vs.all iI=true/\d= .bl (if Vm then !L2.inV v vs else L2.inV v vs):=by
 unfold HH at h
 split at h
 ·rename_i hf
  cases h
  have a1A:dZ K F v x:=by
   rcases rx with rx|⟨a,o,rfl,_,q⟩
   ·exact rx
   ·cases q<;>cases hf.1
  exact⟨wA a1A hf.1,rv.flat hf.2,by rw[rv.inV a1A hf.1 hf.2]⟩
 ·cases h
theorem mR {Vm:Bool}:kh K (JS K Vm) (yk Vm):=by
 intro v u x y d H F Q s rx ry h k
 cases y with
 |lst ds=>
  obtain⟨a,vs,rfl,h1,h2⟩:=ry.lst s
  obtain⟨g1,g2,rfl⟩:=wB rx h h2
  exact⟨a,vs,rfl, .inl (dC.of h1),g1,g2,k _ H F (cg.refl s) (.bl _)⟩
 |tup ds=>
  obtain⟨a,vs,rfl,h1,h2⟩:=ry.tup s
  obtain⟨g1,g2,rfl⟩:=wB rx h h2
  exact⟨a,vs,rfl, .inr (iY.of h1),g1,g2,k _ H F (cg.refl s) (.bl _)⟩
 |_=>cases h
def v8 (Vm:Bool):D->D->Option D
 |x, .dic UJ=>(lO x).map λk=> .bl (if Vm then !(lP UJ k).isSome else (lP UJ k).isSome)
 |_,_=>none
def hE (Vm:Bool) (x y:D):Option D:=match y with
 | .dic _=>v8 Vm x y
 |_=>yk Vm x y
theorem RepK.look {F:Hp} {vs:List (cJ×V)} {ds:List (cJ×D)} (r:RepK K F vs ds) (k:cJ):(kH vs k).isSome=(lP ds k).isSome:=by
 rcases r.get k with ⟨h1,h2⟩|⟨v,d,h1,h2,_⟩<;>rw[h1,h2]<;>rfl
end
section
variable {X:Cx} {a b e:Lc} {es:List Lc} {fa fb f fk fv:ag->R D} {fs:ag->R (List D)} {pos:LR}
theorem Cv {g h:ag->R D} (hg:PQ ly X e g) (hh:PQ ly X e h) (Zj:∀ρ,f ρ=g ρ\/f ρ=h ρ):PQ ly X e f:=λc Sv s σ H Q I ⟨F,ρ,ri,w⟩=>
 (Zj ρ).elim (λz=>hg c Sv s σ H Q I ⟨F,ρ,ri,z▸w⟩) λz=>hh c Sv s σ H Q I ⟨F,ρ,ri,z▸w⟩
theorem Fx {g h f:ag->R Bool} (hg:ur ly X e g) (hh:ur ly X e h) (Zj:∀ρ,f ρ=g ρ\/f ρ=h ρ):ur ly X e f:=λc Sv s σ H Q I ⟨F,ρ,ri,w⟩=>
 (Zj ρ).elim (λz=>hg c Sv s σ H Q I ⟨F,ρ,ri,z▸w⟩) λz=>hh c Sv s σ H Q I ⟨F,ρ,ri,z▸w⟩
theorem v9 {Vm:Bool} (ρ:ag):f2 (hE Vm) fa fb ρ=f2 (yk Vm) fa fb ρ\/f2 (hE Vm) fa fb ρ=f2 (v8 Vm) fa fb ρ:=by
 unfold f2
 cases fa ρ with
 |ok x=>
  cases fb ρ with
  |ok y=>cases y<;>first|exact .inl rfl|exact .inr rfl
  |_=>exact .inl rfl
 |_=>exact .inl rfl
theorem wC {K:K_} {c:dM ly} {σ:St} {H:Hp} {Q:VK} (h:tQ K c (f2 (v8 false) fa fb) σ H Q):Gm (tB' K c fa) (tB' K c fb) σ H Q:=two h λF H2 F2 v u x y e rx ry w=>by
 obtain⟨d,hd,k⟩:=w.of
 cases y with
 |dic UJ=>
  obtain⟨p,vs,rfl,h1,h2,h3⟩:=ry.dic e.sub
  replace hd:(lO x).map (λk=>D.bl (if false then !(lP UJ k).isSome else (lP UJ k).isSome))=some d:=hd
  cases hk:lO x with
  |none=>rw[hk]at hd;cases hd
  |some SN=>
   rw[hk]at hd
   cases hd
   cases mQ hk rx
   exact⟨p,_,rfl,oQ.k (k:=SN) h1,k _ H2 F2 e (by rw[h2.look];exact .bl _)⟩
 |_=>cases hd
theorem qE {K:K_} {c:dM ly} {σ:St} {H:Hp} {Q:VK} (h:tQ K c (f2 (v8 true) fa fb) σ H Q):uX (tB' K c fa) (tB' K c fb) σ H Q:=two h λF H2 F2 v u x y e rx ry w=>by
 obtain⟨d,hd,k⟩:=w.of
 cases y with
 |dic UJ=>
  obtain⟨p,vs,rfl,h1,h2,h3⟩:=ry.dic e.sub
  replace hd:(lO x).map (λk=>D.bl (if true then !(lP UJ k).isSome else (lP UJ k).isSome))=some d:=hd
  cases hk:lO x with
  |none=>rw[hk]at hd;cases hd
  |some SN=>
   rw[hk]at hd
   cases hd
   cases mQ hk rx
   exact⟨p,_,rfl,oQ.k (k:=SN) h1,k _ H2 F2 e (by rw[h2.look];exact .bl _)⟩
 |_=>cases hd
theorem Eu (hu:X.A.units+1<Nf) (ha:PB ly X a fa) (hb:PB ly X b fb) (hm:Mz .In b=false:=by with_unfolding_all rfl):PQ ly X (.Compare a [.In] [b] pos) (f2 (hE false) fa fb):=
 Cv (j4 uf mR ha hb hm) (λc=>PE.weak (Bq (BV hu (ha c) (hb c)) hm) λσ H Q h=>wC h) v9
theorem va (hu:X.A.units+1<Nf) (ha:PB ly X a fa) (hb:PB ly X b fb) (hm:Mz .NotIn b=false:=by with_unfolding_all rfl):PQ ly X (.Compare a [.NotIn] [b] pos) (f2 (hE true) fa fb):=
 Cv (j4 oP mR ha hb hm) (λc=>PE.weak (Bq (uj hu (ha c) (hb c)) hm) λσ H Q h=>qE h) v9
theorem Cw {g h:ag->R D} (Zj:∀ρ,f ρ=g ρ\/f ρ=h ρ) (ρ:ag):fT f ρ=fT g ρ\/fT f ρ=fT h ρ:=by
 unfold fT
 rcases Zj ρ with z|z
 ·exact .inl (by rw[z])
 ·exact .inr (by rw[z])
theorem IJ (hu:X.A.units+1<Nf) (ha:PB ly X a fa) (hb:PB ly X b fb) (hm:Mz .In b=false:=by with_unfolding_all rfl):ur ly X (.Compare a [.In] [b] pos) (fT (f2 (hE false) fa fb)):=
 Fx (aO uf mR ha hb hm) (λc=>Gx (c:=c.1) (t:=Gm (tB' X.K c.1 fa) (tB' X.K c.1 fb)) (Br (BV hu (ha c) (hb c)) hm) λσ H Q h=>wC h) (Cw v9)
theorem o_ (hu:X.A.units+1<Nf) (ha:PB ly X a fa) (hb:PB ly X b fb) (hm:Mz .NotIn b=false:=by with_unfolding_all rfl):ur ly X (.Compare a [.NotIn] [b] pos) (fT (f2 (hE true) fa fb)):=
 Fx (aO oP mR ha hb hm) (λc=>Gx (c:=c.1) (t:=uX (tB' X.K c.1 fa) (tB' X.K c.1 fb)) (Br (uj hu (ha c) (hb c)) hm) λσ H Q h=>qE h) (Cw v9)
def vb:D->D->Option D
 | .lst ds, .int i=>atI ds i
 | .tup ds, .int i=>atI ds i
 | .scr ns, .int i=>(atI ns i).map .int
 |_,_=>none
def Cy:D->D->Option D
 | .dic UJ,k=>(lO k).bind λSN=>lP UJ SN
 |_,_=>none
def aQ (x y:D):Option D:=match x with
 | .dic _=>Cy x y
 |_=>vb x y
theorem Reps.atI {K:K_} {F:Hp} {vs:List V} {ds:List D} {i:Int} {d:D} (r:Reps K F vs ds) (h:atI ds i=some d):∃v,L2.atI vs i=some v/\dZ K F v d:=by
 unfold L2.atI at h ⊢
 rw[r.length]
 cases e:xG ds.length i with
 |none=>rw[e]at h;cases h
 |some j=>rw[e]at h;exact r.get h
theorem AG {K:K_}:kh K (Kg K) vb:=by
 intro v u x y d H F Q s rx ry h k
 unfold vb at h
 split at h
 ·cases ry.int
  obtain⟨a,vs,rfl,h1,h2⟩:=rx.lst s
  obtain⟨w,h3,h4⟩:=h2.atI h
  exact .inl ⟨a,vs,_,w,rfl,rfl,dC.of h1,h3,k _ H F (cg.refl s) h4⟩
 ·cases ry.int
  obtain⟨a,vs,rfl,h1,h2⟩:=rx.tup s
  obtain⟨w,h3,h4⟩:=h2.atI h
  exact .inr (.inl ⟨a,vs,_,w,rfl,rfl,iY.of h1,h3,k _ H F (cg.refl s) h4⟩)
 ·rename_i ns i
  cases ry.int
  obtain⟨a,rfl,h1⟩:=rx.scr s
  cases e:atI ns i with
  |none=>rw[e]at h;cases h
  |some n=>
   rw[e]at h
   cases h
   refine .inl ⟨a,ns.map V.int,i, .int n,rfl,rfl,h1,?_,k _ H F (cg.refl s) (.int n)⟩
   unfold L2.atI at e ⊢
   rw[L7]
   cases e2:xG ns.length i with
   |none=>rw[e2]at e;cases e
   |some j=>
    rw[e2]at e
    show (ns.map V.int)[j]? =_
    rw[Lx,show ns[j]? =some n from e]
    rfl
 ·cases h
theorem GJ (ρ:ag):f2 aQ fa fb ρ=f2 vb fa fb ρ\/f2 aQ fa fb ρ=f2 Cy fa fb ρ:=by
 unfold f2
 cases fa ρ with
 |ok x=>
  cases fb ρ with
  |ok y=>cases x<;>first|exact .inl rfl|exact .inr rfl
  |_=>exact .inl rfl
 |_=>exact .inl rfl
theorem aK (hu:X.A.units+1<Nf) (ha:PB ly X a fa) (hb:PB ly X b fb) (hs:y_ b:=by intro _ _;rfl):PQ ly X (.Subscript a b pos) (f2 aQ fa fb):=
 Cv (λc=>PE.weak (Ii Gg (ha c) (hb c) hs) λσ H Q h=>two h λF H2 F2 v u x y e rx ry w=>by
   obtain⟨d,hd,k⟩:=w.of
   exact AG v u x y d H2 F2 Q e.sub rx ry hd λw H' F' e' r'=>k w H' F' (e.trans e') r')
  (λc=>PE.weak (E6 hu (ha c) (hb c) hs) λσ H Q h=>two h λF H2 F2 v u x y e rx ry w=>by
   obtain⟨d,hd,k⟩:=w.of
   cases x with
   |dic UJ=>
    obtain⟨p,vs,rfl,h1,h2,h3⟩:=rx.dic e.sub
    replace hd:((lO y).bind λSN=>lP UJ SN)=some d:=hd
    cases hk:lO y with
    |none=>rw[hk]at hd;cases hd
    |some SN=>
     rw[hk]at hd
     cases mQ hk ry
     rcases h2.get SN with ⟨_,z⟩|⟨v',d',z1,z2,z3⟩
     ·rw[show lP UJ SN=some d from hd]at z;cases z
     ·rw[show lP UJ SN=some d from hd]at z2
      cases z2
      exact⟨p,v',rfl,z1▸oQ.k (k:=SN) h1,k _ H2 F2 e z3⟩
   |_=>cases hd) GJ
end
end L2.Pu
namespace L2.Pu
open PySem PySem.Spec PyProof.Rows
variable {ly:List fE}
section
variable {K:K_}
theorem nE.one {H F:Hp} {vs:List V} {d:D}:nE K H F vs [d]->∃v,vs=[v]/\di K H F v d:=λh=>by
 cases h with
 |cons r t=>cases t;exact⟨_,rfl,r⟩
theorem nE.two {H F:Hp} {vs:List V} {d e:D}:nE K H F vs [d,e]->∃v u,vs=[v,u]/\di K H F v d/\di K H F u e:=λh=>by
 cases h with
 |cons r t=>
  obtain⟨u,e,q⟩:=nE.one t
  exact⟨_,u,by rw[e],r,q⟩
def c9:List D->Option D
 |[.lst ds]=>some (.int ds.length)
 |[.tup ds]=>some (.int ds.length)
 |[.scr ns]=>some (.int ns.length)
 |[.dic ds]=>some (.int ds.length)
 |_=>none
def Fy (K:K_):List V->Hp->VK->Prop:=λxs H Q=>(∃p ys,xs=[.ref p]/\(dC K H p ys\/iY K H p ys)/\Q (.int ys.length) H)\/∃p kvs,xs=[.ref p]/\H p=some (.dK kvs)/\Q (.int kvs.length) H
theorem a_ {X:Cx}:d_ X (.builtin "len") (Fy X.K):=by
 intro Sv s σ H xs us Q I rv h
 rcases h with h|⟨p,kvs,rfl,hk,q⟩
 ·exact uW Sv s σ H xs us Q I rv h
 ·obtain⟨u,rfl,ru⟩:=j_ rv
  cases ru
  exact Ir I (.inl hk) λt s' I'=>⟨.int kvs.length,H,I',⟨t,rfl⟩,q⟩
theorem bF:n9 K (Fy K) c9:=by
 intro vs ds d H F Q s rv h k
 match ds,h with
 |[.lst xs],h=>
  obtain⟨v,rfl,r⟩:=rv.one
  obtain⟨a,ws,rfl,h1,h2⟩:=r.lst s
  cases h
  exact .inl ⟨a,ws,rfl, .inl (dC.of h1),by rw[h2.length];exact k _ H F (cg.refl s) (.int _)⟩
 |[.tup xs],h=>
  obtain⟨v,rfl,r⟩:=rv.one
  obtain⟨a,ws,rfl,h1,h2⟩:=r.tup s
  cases h
  exact .inl ⟨a,ws,rfl, .inr (iY.of h1),by rw[h2.length];exact k _ H F (cg.refl s) (.int _)⟩
 |[.scr ns],h=>
  obtain⟨v,rfl,r⟩:=rv.one
  obtain⟨a,rfl,h1⟩:=r.scr s
  cases h
  exact .inl ⟨a,_,rfl, .inl h1,by rw[L7];exact k _ H F (cg.refl s) (.int _)⟩
 |[.dic xs],h=>
  obtain⟨v,rfl,r⟩:=rv.one
  obtain⟨a,ws,rfl,h1,h2,h3⟩:=r.dic s
  cases h
  exact .inr ⟨a,ws,rfl,h1,by rw[h2.length];exact k _ H F (cg.refl s) (.int _)⟩
def bX:List D->Option D
 |[.lst ds]=>some (.tup ds)
 |[.tup ds]=>some (.tup ds)
 |_=>none
theorem br:n9 K (λxs H Q=>∃p ys,xs=[.ref p]/\((dC K H p ys/\∀l,H l=none->Q (.ref l) (ce H l (.tup ys)))\/(iY K H p ys/\Q (.ref p) H))) bX:=by
 intro vs ds d H F Q s rv h k
 match ds,h with
 |[.lst xs],h=>
  obtain⟨v,rfl,r⟩:=rv.one
  obtain⟨a,ws,rfl,h1,h2⟩:=r.lst s
  cases h
  refine⟨a,ws,rfl, .inl ⟨dC.of h1,λl hl=> ?_⟩⟩
  have e:=cg.lay (o:= .tup ws) s hl
  exact k _ _ _ e (.tup aH (h2.mono e.grow))
 |[.tup xs],h=>
  obtain⟨v,rfl,r⟩:=rv.one
  obtain⟨a,ws,rfl,h1,h2⟩:=r.tup s
  cases h
  refine⟨a,ws,rfl, .inr ⟨iY.of h1,?_⟩⟩
  match r with
  | .inl r=>exact k _ H F (cg.refl s) r
def p0:List D->Option D
 |[.lst ds]=>some (.lst ds)
 |[.tup ds]=>some (.lst ds)
 |[.scr ns]=>some (.lst (ns.map .int))
 |_=>none
theorem ki {F:Hp}:∀ns:List Int,Reps K F (ns.map V.int) (ns.map D.int)
 |[]=> .nil
 |n::r=> .cons (.int n) (ki r)
theorem lQ:n9 K (λxs H Q=>∃p ys,xs=[.ref p]/\(dC K H p ys\/iY K H p ys)/\∀l,H l=none->Q (.ref l) (ce H l (.lst ys))) p0:=by
 intro vs ds d H F Q s rv h k
 match ds,h with
 |[.lst xs],h=>
  obtain⟨v,rfl,r⟩:=rv.one
  obtain⟨a,ws,rfl,h1,h2⟩:=r.lst s
  cases h
  refine⟨a,ws,rfl, .inl (dC.of h1),λl hl=> ?_⟩
  have e:=cg.lay (o:= .lst ws) s hl
  exact k _ _ _ e (.lst aH (h2.mono e.grow))
 |[.tup xs],h=>
  obtain⟨v,rfl,r⟩:=rv.one
  obtain⟨a,ws,rfl,h1,h2⟩:=r.tup s
  cases h
  refine⟨a,ws,rfl, .inr (iY.of h1),λl hl=> ?_⟩
  have e:=cg.lay (o:= .lst ws) s hl
  exact k _ _ _ e (.lst aH (h2.mono e.grow))
 |[.scr ns],h=>
  obtain⟨v,rfl,r⟩:=rv.one
  obtain⟨a,rfl,h1⟩:=r.scr s
  cases h
  refine⟨a,_,rfl, .inl h1,λl hl=> ?_⟩
  have e:=cg.lay (o:= .lst (ns.map V.int)) s hl
  exact k _ _ _ e (.lst aH (ki ns))
def cU:List D->Option (List Int)
 |[]=>some []
 | .int i::r=>(cU r).map (i::·)
 |_::_=>none
theorem hG {F:Hp}:∀{ds:List D} {ns:List Int} {vs:List V},cU ds=some ns->Reps K F vs ds->vs=ns.map V.int:=by
 intro ds
 induction ds with
 |nil=>intro ns vs h r;cases r.nilI;cases h;rfl
 |cons d r ih=>
  intro ns vs h rv
  obtain⟨v,us,rfl,r1,t⟩:=rv.consI
  cases d with
  |int i=>
   cases r1.intI
   replace h:(cU r).map (i::·)=some ns:=h
   cases e:cU r with
   |none=>rw[e]at h;cases h
   |some ms=>
    rw[e]at h
    cases h
    rw[ih e t];rfl
  |_=>cases h
theorem kL (ns:List Int):cU (ns.map .int)=some ns:=by
 induction ns with
 |nil=>rfl
 |cons n r ih=>show (cU (r.map D.int)).map (n::·)=_;rw[ih];rfl
def KI:List D->Option D
 |[.lst ds]=>(cU ds).map λns=> .int ns.sum
 |_=>none
def vc:List D->Option D
 |[.lst ds]=>(cU ds).bind λns=>if ns.length<64 then some (.lst ((cW ns).map .int))else none
 |_=>none
theorem yl:n9 K (λxs H Q=>∃p ns,xs=[.ref p]/\dC K H p (ns.map V.int)/\ns.length<64/\∀l,H l=none->Q (.ref l) (ce H l (.lst ((cW ns).map V.int)))) vc:=by
 intro vs ds d H F Q s rv h k
 match ds,h with
 |[.lst xs],h=>
  obtain⟨v,rfl,r⟩:=rv.one
  obtain⟨a,ws,rfl,h1,h2⟩:=r.lst s
  replace h:((cU xs).bind λns=>if ns.length<64 then some (D.lst ((cW ns).map .int))else none)=some d:=h
  cases e:cU xs with
  |none=>rw[e]at h;cases h
  |some ns=>
   rw[e]at h
   replace h:(if ns.length<64 then some (D.lst ((cW ns).map .int))else none)=some d:=h
   split at h
   ·rename_i hl
    cases h
    rw[hG e h2]at h1
    refine⟨a,ns,rfl,dC.of h1,hl,λl WG=> ?_⟩
    have e:=cg.lay (o:= .lst ((cW ns).map V.int)) s WG
    exact k _ _ _ e (.lst aH (ki _))
   ·cases h
def wD:List D->Option D
 |[.int i, .int j]=>some (.int (if j<i then j else i))
 |_=>none
def AH:List D->Option D
 |[.int i, .int j]=>some (.int (if j>i then j else i))
 |_=>none
theorem rH:n9 K (λxs H Q=>∃i j,xs=[.int i, .int j]/\Q (.int (if j<i then j else i)) H) wD:=by
 intro vs ds d H F Q s rv h k
 match ds,h with
 |[.int i, .int j],h=>
  obtain⟨v,u,rfl,r,q⟩:=rv.two
  cases r.int;cases q.int;cases h
  exact⟨i,j,rfl,k _ H F (cg.refl s) (.int _)⟩
theorem zt:n9 K (λxs H Q=>∃i j,xs=[.int i, .int j]/\Q (.int (if j>i then j else i)) H) AH:=by
 intro vs ds d H F Q s rv h k
 match ds,h with
 |[.int i, .int j],h=>
  obtain⟨v,u,rfl,r,q⟩:=rv.two
  cases r.int;cases q.int;cases h
  exact⟨i,j,rfl,k _ H F (cg.refl s) (.int _)⟩
def ym:List D->Option D
 |[.int i]=>some (.int i)
 |[.bl k]=>some (.int (if k then 1 else 0))
 |_=>none
theorem ve:n9 K (λxs H Q=>(∃i,xs=[.int i]/\Q (.int i) H)\/∃k,xs=[.bl k]/\Q (.int (if k then 1 else 0)) H) ym:=by
 intro vs ds d H F Q s rv h k
 match ds,h with
 |[.int i],h=>obtain⟨v,rfl,r⟩:=rv.one;cases r.int;cases h;exact .inl ⟨i,rfl,k _ H F (cg.refl s) (.int _)⟩
 |[.bl i],h=>obtain⟨v,rfl,r⟩:=rv.one;cases r.bl;cases h;exact .inr ⟨i,rfl,k _ H F (cg.refl s) (.int _)⟩
end
section
variable {X:Cx} {a b e:Lc} {es:List Lc} {fa fb f fk fv:ag->R D} {fs:ag->R (List D)} {pos p p2:LR}
def Jq:D->Option String
 | .non=>some "NoneType"
 | .bl _=>some "bool"
 | .int _=>some "int"
 | .str _=>some "str"
 | .tup _=>some "tuple"
 | .lst _=>some "list"
 | .dic _=>some "dict"
 |_=>none
def uw (t T:String):Option Bool:=if t=T then some true else if t="bool"/\T="int" then some true
 else if ["NoneType","bool","int","str","tuple","list","dict"].contains t/\["bool","int","str","tuple","list","dict"].contains T then some false else none
theorem Cz (K:K_) {t T:String} {k:Bool} (ht:t="NoneType"\/t="bool"\/t="int"\/t="str"\/t="tuple"\/t="list"\/t="dict") (hT:T="bool"\/T="int"\/T="str"\/T="tuple"\/T="list"\/T="dict") (h:uw t T=some k):
  Mf K (.type t) (.type T)=some k:=by
 rcases ht with rfl|rfl|rfl|rfl|rfl|rfl|rfl<;>rcases hT with rfl|rfl|rfl|rfl|rfl|rfl<;>(revert h;unfold uw;simp+decide;rintro rfl;first|rfl|(unfold Mf NI;decide+kernel))
def q_ (T:String) (d:D):Option D:=(Jq d).bind λt=>(uw t T).map .bl
def qa (T:String) (f:ag->R D):ag->R D:=λρ=>f ρ>>=λd=>R.of (q_ T d)
theorem GK {K:K_} {H F:Hp} {v:V} {d:D} {t:String} (s:bd F H) (r:di K H F v d) (h:Jq d=some t):oK K H v (.type t):=by
 cases d with
 |non=>cases r.non;cases h;exact .non
 |bl=>cases r.bl;cases h;exact .bl _
 |int=>cases r.int;cases h;exact .int _
 |str=>cases r.str;cases h;exact .str _
 |tup=>obtain⟨a,vs,rfl,h1,_⟩:=r.tup s;cases h;exact .tup h1
 |lst=>obtain⟨a,vs,rfl,h1,_⟩:=r.lst s;cases h;exact .lst h1
 |dic=>obtain⟨a,vs,rfl,h1,_⟩:=r.dic s;cases h;exact .dK h1
 |_=>cases h
theorem AI {d:D} {t:String} (h:Jq d=some t):t="NoneType"\/t="bool"\/t="int"\/t="str"\/t="tuple"\/t="list"\/t="dict":=by
 cases d<;>cases h<;>simp
theorem qF {x:L3} {T:String} (hT:T="bool"\/T="int"\/T="str"\/T="tuple"\/T="list"\/T="dict") (XU:X.mg "isinstance"=none) (hm:X.mg x=none) (hv:LS x=some (.type T)) (ha:PB ly X a fa) (Yt:Gl X "isinstance":=by rfl) (hg:Gl X x:=by rfl)
  (hn:x≠"__name__":=by decide) (Um:(x==("__debug__":L3))=false:=by decide)
  (he:L8 [a, .Name x p2] X.env=(false,Ls a X.env)::L8 [.Name x p2] X.env:=by rfl) (Xu:L8 [.Name x p2] X.env=(false,Ls (.Name x p2) X.env)::L8 [] X.env:=by rfl) (U0:(LK pos (L8 [.Name x p2] X.env)).any (·.1)=false:=by rfl):
  PQ ly X (.Call (.Name "isinstance" p) [a, .Name x p2] [] pos) (qa T fa):=λc=>
 PE.weak (oM BX Yt XU sj (dh (ha c) (dh (yO (v:= .ty T) hg hm hv rfl hn Um) gX Xu) he) (by decide) (by decide) he U0) λσ H Q ⟨F,ρ,ri,w⟩=>
  ⟨F,ρ,ri,(aL.bind.mp w).imp λd _ w1 v H1 F1 e1 r1=>by
   obtain⟨d',hd,k⟩:=w1.of
   unfold q_ at hd
   cases ht:Jq d with
   |none=>rw[ht]at hd;cases hd
   |some t=>
    rw[ht]at hd
    cases hs:uw t T with
    |none=>
     replace hd:(uw t T).map D.bl=some d':=hd
     rw[hs]at hd;cases hd
    |some kk=>
     replace hd:(uw t T).map D.bl=some d':=hd
     rw[hs]at hd
     cases hd
     exact⟨v,T,_,kk,rfl,GK e1.sub r1 ht,Cz X.K (AI ht) hT hs,k _ H1 F1 e1 (.bl kk)⟩⟩
def CA (f:ag->R D):ag->R D:=λρ=>f ρ>>=λd=>match d with
 | .lst ds=> .ok (.lst ds.reverse)
 |_=> .bad
theorem IK {j:Nat} {pu pk:LR} (ha:PB ly X a fa):PQ ly X (.Subscript a (.Slice none none (some (.UnaryOp .USub (.Constant (.int 1) j pk) pu)) p2) pos) (CA fa):=λc=>
 PE.weak (Gp (ha c) (yY (Fe fU Bp))) λσ H Q ⟨F,ρ,ri,w⟩=>⟨F,ρ,ri,(aL.bind.mp w).imp λd _ w1 v H1 F1 e1 r1=>by
  cases d with
  |lst ds=>
   obtain⟨p,vs,rfl,h1,h2⟩:=r1.lst e1.sub
   refine⟨1,rfl,-1,rfl,rfl,p,vs,rfl,dC.of h1,λl hl=> ?_⟩
   have e2:=cg.lay (o:= .lst vs.reverse) e1.sub hl
   exact w1 _ _ _ (e1.trans e2) (.lst aH (h2.reverse.mono e2.grow))
  |_=>exact w1.elim⟩
def tM (ds:List D) (lo hi:Option Int):List D:=(ds.drop (HT.fH ds.length 0 lo)).take (HT.fH ds.length ds.length hi - HT.fH ds.length 0 lo)
theorem Reps.cut {K:K_} {F:Hp} {vs:List V} {ds:List D} (r:Reps K F vs ds) (lo hi:Option Int):Reps K F (tF vs lo hi) (tM ds lo hi):=by
 unfold tF tM
 rw[r.length]
 exact(r.drop _).take _
def KJ (K:K_) (c:dM ly) (f:ag->R (Option Int)):TO:=λσ H Q=>∃F ρ,RI K c ρ σ H F/\aL c (f ρ) λo=>∀H' F',cg H F H' F'->Q o H'
def Jr (ly:List fE) (X:Cx) (e:Option Lc) (f:ag->R (Option Int)):Prop:=∀c:j3 ly X,PO X e (KJ X.K c.1 f)
theorem PO.weak {X:Cx} {e:Option Lc} {t t':TO} (h:PO X e t) (w:∀σ H Q,t' σ H Q->t σ H Q):PO X e t':=λSv s σ H Q I q=>h Sv s σ H Q I (w σ H Q q)
def lS:ag->R (Option Int):=λ_=> .ok none
def lT (f:ag->R D):ag->R (Option Int):=λρ=>f ρ>>=λd=>match d with
 | .int i=> .ok (some i)
 |_=> .bad
theorem nX:Jr ly X none lS:=λc=>PO.weak DX λσ H Q ⟨F,ρ,ri,w⟩=>w H F (cg.refl ri.sub)
theorem nY (h:PQ ly X e f):Jr ly X (some e) (lT f):=λc=>PO.weak (yY (h c)) λσ H Q ⟨F,ρ,ri,w⟩=>⟨F,ρ,ri,(aL.bind.mp w).imp λd _ w1 v H1 F1 e1 r1=>by
 cases d with
 |int i=>cases r1;exact⟨i,rfl,w1 H1 F1 e1⟩
 |_=>exact w1.elim⟩
variable {lo hi:Option Lc} {fl fh:ag->R (Option Int)}
def FA (d:D) (lo hi:Option Int):Option D:=match d with
 | .lst ds=>some (.lst (tM ds lo hi))
 | .tup ds=>if HT.fH ds.length 0 lo=0/\HT.fH ds.length ds.length hi=ds.length then some (.tup ds)else some (.tup (tM ds lo hi))
 |_=>none
def zu (f:ag->R D) (fl fh:ag->R (Option Int)):ag->R D:=λρ=>f ρ>>=λd=>fl ρ>>=λl=>fh ρ>>=λh=>R.of (FA d l h)
theorem kM (ha:PB ly X a fa) (hl:Jr ly X lo fl) (hh:Jr ly X hi fh):PQ ly X (.Subscript a (.Slice lo hi none p2) pos) (zu fa fl fh):=λc=>
 PE.weak (BO ((E0.or Gd).or Eh) (ha c) (hl c) (hh c)) λσ H Q ⟨F,ρ,ri,w⟩=>⟨F,ρ,ri,(aL.bind.mp w).imp λd _ w1 v H1 F1 e1 r1=>⟨F1,ρ,ri.step e1,(aL.bind.mp w1).imp λl _ w2 H2 F2 e2=>
  ⟨F2,ρ,(ri.step e1).step e2,(aL.bind.mp w2).imp λh _ w3 H3 F3 e3=>by
   obtain⟨d',hd,k⟩:=w3.of
   have Y7:=(e1.trans e2).trans e3
   have r3:=(r1.mono e2).mono e3
   cases d with
   |lst ds=>
    cases hd
    obtain⟨p,vs,rfl,h1,h2⟩:=r3.lst Y7.sub
    refine .inl (.inl ⟨p,vs,rfl,dC.of h1,λq hq=> ?_⟩)
    have e4:=cg.lay (o:= .lst (tF vs l h)) Y7.sub hq
    exact k _ _ _ (Y7.trans e4) (.lst aH ((h2.cut l h).mono e4.grow))
   |tup ds=>
    replace hd:(if HT.fH ds.length 0 l=0/\HT.fH ds.length ds.length h=ds.length then some (D.tup ds)else some (D.tup (tM ds l h)))=some d':=hd
    split at hd
    ·rename_i hw
     cases hd
     rcases r3 with r3|⟨_,_,_,_,q⟩
     ·cases r3 with
      | @tup p vs _ h1 h2=>exact .inr ⟨p,vs,rfl,iY.of (Y7.sub _ _ h1),by rw[h2.length];exact hw,k _ _ _ Y7 (.tup h1 h2)⟩
     ·cases q
    ·rename_i hw
     cases hd
     obtain⟨p,vs,rfl,h1,h2⟩:=r3.tup Y7.sub
     refine .inl <| .inr ⟨p,vs,rfl,iY.of h1,by rw[h2.length];exact hw,λq hq=> ?_⟩
     have e4:=cg.lay (o:= .tup (tF vs l h)) Y7.sub hq
     exact k _ _ _ (Y7.trans e4) (.tup aH ((h2.cut l h).mono e4.grow))
   |_=>cases hd⟩⟩⟩
inductive IL (ly:List fE) (X:Cx) (pos:LR):List (Option Lc)->List Lc->List ((ag->R D)×(ag->R D))->Prop
 |nil:IL ly X pos [] [] []
 |cons {k v:Lc} {ks:List (Option Lc)} {vs:List Lc} {fk fv:ag->R D} {ps:List ((ag->R D)×(ag->R D))}:PQ ly X k fk->PQ ly X v fv->IL ly X pos ks vs ps->IL ly X pos (some k::ks) (v::vs) ((fk,fv)::ps)
theorem IL.len {X:Cx} {pos:LR}:∀{ks:List (Option Lc)} {vs:List Lc} {ps:List ((ag->R D)×(ag->R D))},IL ly X pos ks vs ps->ks.length=vs.length/\ks.length=ps.length/\ks.all (·.isSome)=true
 |_,_,_, .nil=>⟨rfl,rfl,rfl⟩
 |_,_,_, .cons _ _ r=>by
  obtain⟨a,b,c⟩:=r.len
  exact⟨by simp[a],by simp[b],by simp[Mp,c]⟩
end
end L2.Pu
namespace L2.Pu
open PySem PySem.Spec PyProof.Rows
variable {ly:List fE}
def wF (scope outer:MZ):Bool:=
 scope.kind== .function&&scope.names.all (λy=>y.2 != .cell)&&scope.names.all (λy=>y.2 != .local||scope.names.lookup y.1==some .local)&&
 scope.names.all (λy=>y.2 != .free||outer.names.lookup y.1==some .cell||outer.names.lookup y.1==some .free)&&decide ((scope.names.map (·.1)).Nodup)
theorem aZ.of {X:Cx} {scope outer:MZ} (h:X.env.scope=outer) (k:wF scope outer=true):aZ X scope:=by
 unfold wF at k
 simp only[Mb,Nk,decide_eq_true_eq,Qi,bne_iff_ne,beq_iff_eq]at k
 obtain⟨⟨⟨⟨k1,k2⟩,k3⟩,k4⟩,k5⟩:=k
 refine⟨k1,k2,λy hy hl=> ?_,λy hy hf=> ?_,k5⟩
 ·rcases k3 y hy with z|z
  ·exact absurd hl z
  ·exact z
 ·show X.env.scope.names.lookup y.1=_\/X.env.scope.names.lookup y.1=_
  rw[h]
  rcases k4 y hy with (z|z)|z
  ·exact absurd hf z
  ·exact .inl z
  ·exact .inr z
structure cB (K:K_) (mg:L3->Option L0) (x:L3) (st:Lw) (ps:List L3):Prop where
 ex:∃f fd,zf K x x st f fd/\mg x=some (.ref f)/\gk K fd ps []
structure bf (P:Ll) (w:Ly) (K:K_) (mg:L3->Option L0) (base:Lr) (k:Nat) (x:L3) (n:Nat) (m:List D->R D):Prop where
 ex:∃f fd ps,fN P w K mg base (lz P w) k f fd ps (AA K n m)/\mg x=some (.ref f)/\LX K (.ref f)=true/\gk K fd ps []
section
variable {P:Ll} {w:Ly} {K:K_} {mg:L3->Option L0} {base:Lr}
theorem cb {x:L3} {st:Lw} {N ps:List L3} {k n m:Nat} {g:ag->R bq} (A:cB K mg x st ps) (S:aC N ps (al st)) (hn:ps.length=n) (hm:N.length=m)
  (T2:∀(f:L4) (SE:L0) (A:LF) (outer:List MM) (s:L5) (H:Hp) (E:XK),c_ k (A.deeper (MO x (al st) s.heap.objs.size f SE))->
   jy [] (iZ (lz P w) P w K mg base N x (al st) f SE A outer s H E) (bK st) g):bf P w K mg base (k+1) x n (bi n m g):=by
 obtain⟨f,fd,F,h1,h2⟩:=A.ex
 exact⟨f,fd,ps,GD F S hn hm λSE A outer s H E hr=>T2 f SE A outer s H E hr,h1,F.kp,h2⟩
theorem bf.mono {x:L3} {j k n:Nat} {m:List D->R D} (F:bf P w K mg base j x n m) (h:j<=k):bf P w K mg base k x n m:=by
 obtain⟨f,fd,ps,h1,h2⟩:=F.ex
 exact⟨f,fd,ps,h1.mono h,h2⟩
theorem CB {x:L3} {st:Lw} {ps:List L3} {n:Nat} (A:cB K mg x st ps) (hn:ps.length=n):bf P w K mg base 0 x n (λ_=> .bad):=by
 obtain⟨f,fd,F,h1,h2⟩:=A.ex
 refine⟨f,fd,ps,⟨λvs H Q E h=>by rw[hn];exact h.1,λA outer s H args us vs Q E hr e0 hb rv h=> ?_⟩,h1,F.kp,h2⟩
 obtain⟨_,F',ds,_,_,z⟩:=h
 exact z.elim
end
section
variable {X:Cx} {e:Lc} {es:List Lc} {fs:ag->R (List D)} {x:L3} {p pos:LR}
theorem bY {n k:Nat} {m:List D->R D} (F:bf X.prog X.w X.K X.mg X.base k x n m) (hr:c_ k X.A)
  (ha:vV ly X (e::es) fs) (hg:Gl X x:=by rfl) (Um:(x==("__debug__":L3))=false:=by decide) (he:L8 (e::es) X.env=(false,Ls e X.env)::L8 es X.env:=by rfl) (U0:(LK pos (L8 es X.env)).any (·.1)=false:=by rfl):
  PQ ly X (.Call (.Name x p) (e::es) [] pos) (aF m n fs):=by
 obtain⟨f,fd,ps,h1,h2,h3,h4⟩:=F.ex
 exact Gz h1 hr h2 h3 h4 ha hg Um he U0
end
structure Bl (mg:L3->Option L0) (xs:List L3):Prop where
 no:∀x∈xs,mg x=none
theorem aX:LS "tuple"=some (.type "tuple"):=by decide+kernel
theorem kj:LS "list"=some (.type "list"):=by decide+kernel
theorem p7:LS "int"=some (.type "int"):=by decide+kernel
theorem qb:LS "bool"=some (.type "bool"):=by decide+kernel
theorem wG:LS "str"=some (.type "str"):=by decide+kernel
theorem jB:LS "sorted"=some (.builtin "sorted"):=by decide+kernel
theorem p8:LS "min"=some (.builtin "min"):=by decide+kernel
theorem wH:LS "max"=some (.builtin "max"):=by decide+kernel
theorem GL {K:K_} {m:List D->R D} {H:Hp} {a:L4} {ns:List Int} {E:XK} (h:m [.scr ns]= .ok (.bl true)) (hs:dC K H a (ns.map V.int)):AA K 1 m [.ref a] H (λv _=>v= .bl true) E:=by
 refine⟨rfl,H,[.scr ns],bd.refl _, .cons (.scr hs) .nil,?_⟩
 rw[h]
 intro v H' F' e r
 cases r
 rfl
end L2.Pu
namespace L2.Pu
open PySem PySem.Spec PyProof.Rows
variable {ly:List fE}
section
variable {i j:Int}
theorem b9 (h:0<j):bP (.int i) (.int j)=some (.int (i%j)):=if_pos h
theorem de (h:0<j/\j<1073741824):ee (.int i) (.int j)=some (.int (i / j)):=if_pos (show yi i j from ⟨h.1,by omega⟩)
theorem sE (h:j.natAbs<18446744073709551616):nW (.int i) (.int j)=some (.int (i*j)):=if_pos (show tK i j from .inr h)
theorem sG (h:i.natAbs<18446744073709551616):nW (.int i) (.int j)=some (.int (i*j)):=if_pos (show tK i j from .inl h)
theorem eJ:bD (.int i) (.int j)=some (.int (i+j)):=rfl
theorem lU:iS (.int i) (.int j)=some (.int (i - j)):=rfl
theorem lV:tL (.int i) (.int j)=some (.bl (decide (i<j))):=rfl
theorem IM:KH (.int i) (.int j)=some (.bl (decide (i<=j))):=rfl
theorem jC:nV (.int i) (.int j)=some (.bl (decide (j<i))):=rfl
theorem sH:Et (.int i) (.int j)=some (.bl (decide (j<=i))):=rfl
theorem gR:dq (.int i) (.int j)=some (.bl (decide (i=j))):=rfl
theorem zv:sD (.int i) (.int j)=some (.bl (!decide (i=j))):=rfl
theorem IN {a b:Bool}:dq (.bl a) (.bl b)=some (.bl (decide (a=b))):=rfl
theorem GN:g_ (.int i)=some (.int (-i)):=rfl
end
theorem CC {a b:List D} (h:a.length+b.length<=lim):bD (.lst a) (.lst b)=some (.lst (a++b)):=if_pos h
theorem wI {ds:List D} {i:Int}:aQ (.lst ds) (.int i)=atI ds i:=rfl
theorem ux {ds:List D} {i:Int}:aQ (.tup ds) (.int i)=atI ds i:=rfl
theorem IP {ns:List Int} {i:Int}:aQ (.scr ns) (.int i)=(atI ns i).map .int:=rfl
theorem ir {ds:List D}:c9 [.lst ds]=some (.int ds.length):=rfl
theorem hJ {ds:List D}:c9 [.tup ds]=some (.int ds.length):=rfl
theorem yn {ds:List Int}:c9 [.scr ds]=some (.int ds.length):=rfl
theorem CD {ds:List D}:bX [.lst ds]=some (.tup ds):=rfl
theorem CF {ds:List D}:bX [.tup ds]=some (.tup ds):=rfl
theorem Ew {ds:List D}:p0 [.lst ds]=some (.lst ds):=rfl
theorem Ex {ds:List D}:p0 [.tup ds]=some (.lst ds):=rfl
theorem iu {α:Type} {xs:List α} {k:Nat} (h:k<xs.length):L2.atI xs (k:Int)=some xs[k]:=uU (by simp[h])
theorem Ey (x:Int) (xs:List Int):((xs.map D.int).any λy=>HG y (.int x))=decide (x∈xs):=by
 induction xs with
 |nil=>rfl
 |cons y r ih=>
  rw[Lf,MB,ih]
  show (y==x||decide (x∈r))=decide (x∈y::r)
  by_cases e:x=y
  ·subst e;simp
  ·have:(y==x)=false:=beq_eq_false_iff_ne.mpr (MN e)
   simp[this,e]
theorem Ez (xs:List Int):(xs.map D.int).all j8=true:=by
 induction xs with
 |nil=>rfl
 |cons y r ih=>rw[Lf,Mp,ih];rfl
theorem vf (Vm:Bool) (x:Int) (xs:List Int):HH Vm (.int x) (xs.map .int)=some (.bl (if Vm then !decide (x∈xs)else decide (x∈xs))):=by
 unfold HH
 rw[if_pos ⟨rfl,Ez xs⟩,Ey]
theorem uy {x:Int} {xs:List Int}:hE false (.int x) (.tup (xs.map .int))=some (.bl (decide (x∈xs))):=vf false x xs
theorem lW {x:Int} {xs:List Int}:hE true (.int x) (.lst (xs.map .int))=some (.bl (!decide (x∈xs))):=vf true x xs
theorem p9 {x:Int} {xs:List Int}:hE true (.int x) (.tup (xs.map .int))=some (.bl (!decide (x∈xs))):=vf true x xs
theorem yo (n:Nat):j5 0 (n:Int)=(LZ n).map λk:Nat=>D.int (k:Int):=by
 unfold j5
 simp
theorem GO {ds:List D}:q_ "tuple" (.tup ds)=some (.bl true):=rfl
theorem GP {i:Int}:q_ "tuple" (.int i)=some (.bl false):=rfl
theorem GQ {i:Int}:q_ "int" (.int i)=some (.bl true):=rfl
theorem GR {i:Int}:q_ "bool" (.int i)=some (.bl false):=rfl
theorem CG {m:List D->R D} {n:Nat} {fs:ag->R (List D)} {ρ:ag} {ds:List D} {d:D} (h:fs ρ= .ok ds) (hl:ds.length=n) (hm:m ds= .ok d):aF m n fs ρ= .ok d:=by
 unfold aF
 rw[h,ar,if_pos hl,hm]
end L2.Pu
namespace L2.Pu
theorem mS {g:D->ag->R ag} {gb:ag->R bq} {d:D} {r:List D} {ρ ρ1 ρ2:ag} (h1:g d ρ= .ok ρ1) (h2:gb ρ1= .ok (.nx ρ2)):eO g gb (d::r) ρ=eO g gb r ρ2:=by
 rw[eO,h1,ar,h2,ar]
theorem CH {g:D->ag->R ag} {gb:ag->R bq} {d:D} {r:List D} {ρ ρ1 ρ2:ag} (h1:g d ρ= .ok ρ1) (h2:gb ρ1= .ok (.cnt ρ2)):eO g gb (d::r) ρ=eO g gb r ρ2:=by
 rw[eO,h1,ar,h2,ar]
end L2.Pu
namespace L2.Pu
theorem bx {k n:Nat} {g:ag->R bq} {ds:List D} {d:D} (h:ds.length=k) (e:g (d3 n ds)= .ok (.ret d)):bi k n g ds= .ok d:=by
 unfold bi
 rw[if_pos h,e,ar]
theorem GS {k n:Nat} {g:ag->R bq} {ds:List D} {ρ:ag} (h:ds.length=k) (e:g (d3 n ds)= .ok (.nx ρ)):bi k n g ds= .ok .non:=by
 unfold bi
 rw[if_pos h,e,ar]
theorem av {g g':ag->R bq} {ρ ρ':ag} (h:g ρ= .ok (.nx ρ')):aw g g' ρ=g' ρ':=by
 unfold aw
 rw[h,ar]
theorem dO {g g':ag->R bq} {ρ:ag} {d:D} (h:g ρ= .ok (.ret d)):aw g g' ρ= .ok (.ret d):=by
 unfold aw
 rw[h,ar]
theorem sI {fi:ag->R (List D)} {g:D->ag->R ag} {gb:ag->R bq} {ρ:ag} {ds:List D} (h:fi ρ= .ok ds):lB fi g gb ρ=eO g gb ds ρ:=by
 unfold lB
 rw[h,ar]
end L2.Pu
namespace L2.Pu
theorem mT {fs:ag->R (List D)} {ρ:ag} {n:Nat} (h:fs ρ= .ok [.int (n:Int)]) (hn:n<=lim):dN fs ρ= .ok ((LZ n).map λk:Nat=>D.int (k:Int)):=by
 unfold dN
 rw[h,ar]
 have hc:(n:Int).natAbs<=lim:=by rw[Int.natAbs_natCast];exact hn
 exact(if_pos hc).trans (congrArg R.ok (yo n))
end L2.Pu
namespace L2.Pu
open PySem PySem.Spec PyProof.Rows
variable {ly:List fE}
section
variable {X:Cx} {Vj tg T4:Lc} {V6:List Lc} {scope:MZ} {pos:LR} {fi:ag->R (List D)} {g:D->ag->R ag} {gt:ag->R Bool} {fe:ag->R D}
theorem rJ (i:Nat) {y:L3} {py Vs:LR} (S:aZ X scope) (hc:X.calm=true) (hN:X.N.Nodup) (hi:GB ly X tg T4 fi) (hg:∀s H ex,Ep [] (dL X scope s H ex) tg g) (Xg:∀s H ex,AE [] (dL X scope s H ex) V6 gt) (Xa:∀s H ex,PQ [] (dL X scope s H ex) Vj fe)
  (W_:X.N[i]? =some y:=by rfl) (hx:A7 X.env.scope y:=by first|exact LW rfl|exact LI rfl) (hf:X.fn y=true\/X.env.scope.names.lookup y=some .local:=by first|exact .inl rfl|exact .inr rfl|assumption)
  (Wn:M6 (.ListComp Vj [⟨tg,T4,V6,0⟩] scope pos) (some (.Name y py)) Vs.line X.env=pure false:=by rfl) (hs:∀x,MX T4 X.env x=pure x:=by intro _;rfl) (UI:lA ly i:=by(repeat (first|assumption|exact L2.Pu.fO|refine L2.Pu.eA ⟨by first|decide|simp,by first|decide|simp⟩ ?_))):
  mP ly X (.Assign [.Name y py] (.ListComp Vj [⟨tg,T4,V6,0⟩] scope pos) Vs) (oY i (bO X.N scope.names fi g gt fe)):=λc=>
 PS.weak (nQ hN W_ hx (zj S hc (hi c) (λs H ex=>K2 (hg s H ex)) (λs H ex=>K3 (Xg s H ex)) (λs H ex=>K4 (Xa s H ex)) hs) Wn hf) λD σ H ⟨F,ρ,ri,w⟩=>by
  refine⟨F,ρ,ri,(aL.bind.mp (aL.bind.mp w)).imp λds _ w1 J H1 F1 e1 jo p hp=> ?_⟩
  split at w1
  ·rename_i hl
   split at w1
   ·rename_i es he
    refine nU ri e1 jo hp hl he λH2 F2 vs e2 Y5 Zi rv=> ?_
    refine w1 _ H2 F2 (e1.grow.trans e2.grow) ((ri.step (e1.trans e2)).setOwn i UI Y5 Zi (ri.ext.keep.free (e1.keep.free hp)) (.lst rv) (λj d' _ hj ej=> ?_) (ri.celNe (e1.trans e2).keep (e1.keep.free hp)))
    obtain⟨a,o,k1,k2,_⟩:=ri.own j d' hj
    rw[ej]at k1
    cases k1
    rw[e1.keep.free hp]at k2
    cases k2
   ·exact w1.elim
  ·exact w1.elim
end
end L2.Pu
namespace L2.Pu
open PySem PySem.Spec PyProof.Rows
variable {ly:List fE}
theorem cN {f:ag->R D} {ρ:ag} {d:D} (h:f ρ= .ok d):bu f ρ= .ok (.ret d):=by unfold bu;rw[h,ar]
theorem aR {g:List D->Option D} {fs:ag->R (List D)} {ρ:ag} {ds:List D} {d:D} (h:fs ρ= .ok ds) (h2:g ds=some d):cn g fs ρ= .ok d:=by unfold cn;rw[h,ar,h2,gB]
theorem a9 {f:ag->R D} {fs:ag->R (List D)} {ρ:ag} {ds:List D} {d:D} (h:f ρ= .ok d) (h2:fs ρ= .ok ds):a8 f fs ρ= .ok (d::ds):=by unfold a8;rw[h,ar,h2,ar]
theorem nZ {f:ag->R (List D)} {ρ:ag} {ds:List D} (h:f ρ= .ok ds):fL f ρ= .ok (.lst ds):=by unfold fL;rw[h,ar]
theorem fR {N:List L3} {names:List (L3×M0)} {fi:ag->R (List D)} {g:D->ag->R ag} {gt:ag->R Bool} {fe:ag->R D} {ρ τ:ag} {ds es:List D} (h:fi ρ= .ok ds) (hl:ds.length<=lim) (hr:j6 N names ρ=τ) (hc:lN g gt fe ds τ= .ok es):
  bO N names fi g gt fe ρ= .ok es:=by
 unfold bO
 rw[h,ar,if_pos hl,hr,hc]
theorem own_of {i:Nat} {f:ag->R (List D)} {ρ:ag} {ds:List D} (h:f ρ= .ok ds):oY i f ρ= .ok (.nx (ρ.set i (some (.own (.lst ds))))):=by unfold oY;rw[h,ar]
theorem aY {f:ag->R D} {g:D->ag->R ag} {ρ ρ':ag} {d:D} (h:f ρ= .ok d) (h2:g d ρ= .ok ρ'):aV f g ρ= .ok (.nx ρ'):=by unfold aV;rw[h,ar,h2,ar]
theorem aW {m:List D->R D} {n:Nat} {fs:ag->R (List D)} {ρ:ag} {ds:List D} {d:D} (h:fs ρ= .ok ds) (hl:ds.length=n) (hm:m ds= .ok d):aF m n fs ρ= .ok d:=CG h hl hm
theorem aj {g:D->D->Option D} {fa fb:ag->R D} {ρ:ag} {a b d:D} (h:fa ρ= .ok a) (h2:fb ρ= .ok b) (h3:g a b=some d):f2 g fa fb ρ= .ok d:=by unfold f2;rw[h,ar,h2,ar,h3,gB]
end L2.Pu
namespace L2.Pu
theorem CI (d:D):(Slot.val d).data=d:=rfl
theorem CJ (d:D):(Slot.own d).data=d:=rfl
theorem CK (d:D):(Slot.bor d).data=d:=rfl
end L2.Pu
namespace L2.Pu
open PySem PySem.Spec PyProof.Rows
variable {ly:List fE}
def kN:List (cJ×D)->Option (List Int)
 |[]=>some []
 |(.inl i,_)::r=>(kN r).map (i::·)
 |(.inr _,_)::_=>none
def j9:List D->Option D
 |[.lst ds]=>(cU ds).bind λns=>if ns.length<64 then some (.lst ((cW ns).map .int))else none
 |[.dic UJ]=>(kN UJ).bind λns=>if ns.length<64 then some (.lst ((cW ns).map .int))else none
 |_=>none
theorem wJ {K:K_} {F:Hp}:∀{ds:List (cJ×D)} {ns:List Int} {vs:List (cJ×V)},kN ds=some ns->RepK K F vs ds->vs.map (·.1)=ns.map NU:=by
 intro ds
 induction ds with
 |nil=>intro ns vs h r;rw[r.nilI];cases h;rfl
 |cons d r ih=>
  intro ns vs h rr
  obtain⟨k,d⟩:=d
  obtain⟨v,us,rfl,_,t⟩:=rr.consI
  cases k with
  |inr i=>cases h
  |inl i=>
   replace h:(kN r).map (i::·)=some ns:=h
   cases e:kN r with
   |none=>rw[e]at h;cases h
   |some ms=>
    rw[e]at h
    cases h
    rw[Lf,Lf,ih e t]
def pb (K:K_):List V->Hp->VK->Prop:=λxs H Q=>
 (∃p ns,xs=[.ref p]/\dC K H p (ns.map V.int)/\ns.length<64/\∀l,H l=none->Q (.ref l) (ce H l (.lst ((cW ns).map V.int))))\/
 ∃p kvs ns,xs=[.ref p]/\H p=some (.dK kvs)/\kvs.map (·.1)=ns.map NU/\ns.length<64/\∀l,H l=none->Q (.ref l) (ce H l (.lst ((cW ns).map V.int)))
theorem vg {X:Cx} (hc:X.calm=true):d_ X (.builtin "sorted") (pb X.K):=uY.or (uZ hc)
theorem wK {K:K_}:n9 K (pb K) j9:=by
 intro vs ds d H F Q s rv h k
 match ds,h with
 |[.lst xs],h=>exact .inl (yl vs _ d H F Q s rv h k)
 |[.dic xs],h=>
  obtain⟨v,rfl,r⟩:=rv.one
  obtain⟨a,ws,rfl,h1,h2,_⟩:=r.dic s
  replace h:((kN xs).bind λns=>if ns.length<64 then some (D.lst ((cW ns).map .int))else none)=some d:=h
  cases e:kN xs with
  |none=>rw[e]at h;cases h
  |some ns=>
   rw[e]at h
   replace h:(if ns.length<64 then some (D.lst ((cW ns).map .int))else none)=some d:=h
   split at h
   ·rename_i hl
    cases h
    refine .inr ⟨a,ws,ns,rfl,h1,wJ e h2,hl,λl WG=> ?_⟩
    have e:=cg.lay (o:= .lst ((cW ns).map V.int)) s WG
    exact k _ _ _ e (.lst aH (ki _))
   ·cases h
section
variable {X:Cx} {a b:Lc} {fs:ag->R (List D)} {pos p1 p2 V7:LR}
end
end L2.Pu
namespace L2.Pu
open PySem PySem.Spec PyProof.Rows
variable {ly:List fE}
end L2.Pu
namespace L2.Pu
open PySem PySem.Spec PyProof.Rows
variable {ly:List fE}
section
variable {X:Cx} {a:Lc} {fa:ag->R D} {pos p1 p2 V7:LR}
end
section
variable {K:K_}
end
end L2.Pu
namespace L2.Pu
open PySem PySem.Spec PyProof.Rows
variable {ly:List fE}
structure jD (K:K_) (x:L3) (C:L4):Prop where
 ns:Lh K Ld x=some (some (.ref C))
 cl:w9 K C
theorem RepF.nilI {K:K_} {F:Hp} {vs:List (L3×V)} (h:RepF K F vs []):vs=[]:=by cases h;rfl
theorem RepF.consI {K:K_} {F:Hp} {vs:List (L3×V)} {k:L3} {d:D} {ds:List (L3×D)} (h:RepF K F vs ((k,d)::ds)):∃v us,vs=(k,v)::us/\dZ K F v d/\RepF K F us ds:=by
 cases h with
 |cons r t=>exact⟨_,_,rfl,r,t⟩
theorem RepF.get {K:K_} {F:Hp} {f:L3} {d:D} {vs:List (L3×V)} {ds:List (L3×D)} (g:RepF K F vs ds):ds.lookup f=some d->∃v,(f,v)∈vs/\dZ K F v d:=by
 induction ds generalizing vs with
 |nil=>intro h;cases h
 |cons p ds ih=>
  intro h
  obtain⟨v,us,e0,r,t⟩:=RepF.consI (k:=p.1) (d:=p.2) g
  subst e0
  rw[Mm]at h
  cases e:f==p.1 with
  |true=>rw[e]at h;cases h;cases eq_of_beq e;exact⟨v,Lo,r⟩
  |false=>
   rw[e]at h
   obtain⟨v',h1,h2⟩:=ih t h
   exact⟨v',Lp _ h1,h2⟩
theorem RepF.names {K:K_} {F:Hp} {vs:List (L3×V)} {ds:List (L3×D)} (g:RepF K F vs ds):vs.map (·.1)=ds.map (·.1):=by
 induction ds generalizing vs with
 |nil=>rw[g.nilI];rfl
 |cons p ds ih=>
  obtain⟨v,us,e0,_,t⟩:=RepF.consI (k:=p.1) (d:=p.2) g
  rw[e0,Lf,Lf,ih t]
theorem gH {α:Type} {f:L3}:∀{ds:List (L3×α)},ds.lookup f=none->f∉ds.map (·.1)
 |[],_=>by simp
 |(k,v)::ds,h=>by
  rw[Mm]at h
  cases e:f==k with
  |true=>rw[e]at h;cases h
  |false=>
   rw[e]at h
   rw[Lf]
   intro z
   rcases Li.mp z with z|z
   ·rw[z]at e;simp at e
   ·exact gH h z
theorem di.ins {K:K_} {H F:Hp} {v:V} {x:L3} {fds:List (L3×D)} (s:bd F H):di K H F v (.ins x fds)->∃a C dx fs vs,v= .ref a/\H a=some (.ins C dx fs)/\Lh K Ld x=some (some (.ref C))/\(∀p∈vs,fs.lookup p.1=some p.2)/\(∀f v,fs.lookup f=some v->f∈vs.map (·.1))/\RepF K F vs fds:=λh=>by
 obtain⟨a,C,dx,fs,vs,e,h,r⟩:=h.in rfl
 exact⟨a,C,dx,fs,vs,e,s _ _ h,r⟩
section
variable {X:Cx} {a o e:Lc} {es:List Lc} {fa fo:ag->R D} {fs:ag->R (List D)} {pos SQ p:LR} {cls f m x:L3} {C:L4}
def cE (cls f:L3) (fa:ag->R D):ag->R D:=λρ=>fa ρ>>=λd=>match d with
 | .ins y fds=>if y=cls then R.of (fds.lookup f)else .bad
 |_=> .bad
theorem IQ (T:jD X.K cls C) (n:eF X.K C f) (ha:PB ly X a fa) (hb:LY a f X.env (Ls a X.env)=Ls a X.env:=by rfl):PQ ly X (.Attribute a f pos) (cE cls f fa):=λc=>
 PE.weak (rX (ha c) hb) λσ H Q ⟨F,ρ,ri,w⟩=>⟨F,ρ,ri,(aL.bind.mp w).imp λd _ w1 v H1 F1 e1 r1=>by
  cases d with
  |ins y fds=>
   dsimp only at w1
   split at w1
   ·rename_i hy
    subst hy
    obtain⟨d',hd,k⟩:=w1.of
    obtain⟨a,C',dx,fs,vs,rfl,h1,h2,h3,h4,h5⟩:=r1.ins e1.sub
    have ec:C'=C:=by rw[T.ns]at h2;cases h2;rfl
    subst ec
    obtain⟨u,hu,ru⟩:=h5.get hd
    exact⟨a,C',dx,fs,u,rfl,h1,T.cl,n,h3 _ hu,k u H1 F1 e1 ru⟩
   ·exact w1.elim
  |_=>exact w1.elim⟩
structure bZ (P:Ll) (w:Ly) (K:K_) (mg:L3->Option L0) (base:Lr) (k:Nat) (cls m:L3) (n:Nat) (r:List D->R D):Prop where
 ex:∃C f fd ps,fN P w K mg base (lz P w) k f fd ps (AA K n r)/\jD K cls C/\xO K C m f/\gk K fd ps []
def fF (cls m:L3) (n:Nat) (r:List D->R D) (fo:ag->R D) (fs:ag->R (List D)):ag->R D:=λρ=>fo ρ>>=λd=>match d with
 | .ins y fds=>if y=cls/\fds.lookup m=none then (fs ρ>>=λds=>if ds.length+1=n then (match r (d::ds)with| .ok z=> .ok z| .err x _=> .err x ρ| .bad=> .bad)else .bad)else .bad
 |_=> .bad
theorem zw {c:dM ly} {r:List D->R D} {n:Nat} {σ:St} {H:Hp} {Q:VK} (T:jD X.K cls C) (h:tQ X.K c (fF cls m n r fo fs) σ H Q):BK C m (AA X.K n r) [] (Ft X c) (tQ X.K c fo) (HE X.K c fs) σ H Q:=by
 obtain⟨F,ρ,ri,w⟩:=h
 refine⟨F,ρ,ri,(aL.bind.mp w).imp λd hd w1 v H1 F1 e1 r1=> ?_⟩
 cases d with
 |ins y fds=>
  dsimp only at w1
  split at w1
  ·rename_i hy
   obtain⟨rfl,hm⟩:=hy
   obtain⟨a,C',dx,VW,vs,rfl,h1,h2,h3,h4,h5⟩:=di.ins e1.sub (H:=H1) (.inl r1)
   have ec:C'=C:=by rw[T.ns]at h2;cases h2;rfl
   subst ec
   have Wl:VW.lookup m=none:=by
    cases e:VW.lookup m with
    |none=>rfl
    |some v=>
     have:=h4 m v e
     rw[h5.names]at this
     exact absurd this (gH hm)
   refine⟨a,dx,VW,rfl,h1,Wl,F1,ρ,ri.step e1,(aL.bind.mp w1).imp λds _ w2 us H2 F2 e2 r2=> ?_⟩
   show AA X.K n r (V.ref a::(us++[])) H2 Q (Ft X c σ)
   rw[Mu]
   split at w2
   ·rename_i hl
    refine⟨by rw[Lu,r2.length];exact hl,F2,_,e2.sub, .cons (r1.mono e2.grow) r2,?_⟩
    split at w2
    ·rename_i z hz
     try rw[hz]
     exact λv H' F' e' r'=>w2 v H' F' ((e1.trans e2).trans e') r'
    ·rename_i z _ hz
     try rw[hz]
     exact λcls a H' F' ec e'=>⟨_,ρ,F',ec,ri.step ((e1.trans e2).trans e'),w2⟩
    ·exact w2.elim
   ·exact w2.elim
  ·exact w1.elim
 |_=>exact w1.elim
theorem qc {k n:Nat} {r:List D->R D} {pl:Oq Bool} (G:bZ X.prog X.w X.K X.mg X.base k cls m n r) (hr:c_ k X.A) (ho:PQ ly X o fo) (ha:vV ly X (e::es) fs)
  (Vr:L8 (e::es) X.env=(false,Ls e X.env)::L8 es X.env:=by rfl) (U0:(LK pos (L8 es X.env)).any (·.1)=false:=by rfl)
  (ht:Ls (.Call (.Attribute o m SQ) (e::es) [] pos) X.env=(do
   let ov<-Ls o X.env
   Nq SQ.atName
   let (f,first)<-MW [ov] (NL ov m pl)
   Oz pos f first (LK pos (L8 (e::es) X.env)) (MT pos (Mt [] X.env))):=by rfl):
  PQ ly X (.Call (.Attribute o m SQ) (e::es) [] pos) (fF cls m n r fo fs):=by
 obtain⟨C,f,fd,ps,h1,h2,h3,h4⟩:=G.ex
 exact λc=>PE.weak (yV (pl:=pl) (ho c) h2.cl h3 h1 hr h4 .nil (oW c) (ha c) Vr U0 ht) λσ H Q h=>zw h2 h
theorem pc {k n:Nat} {r:List D->R D} {pl:Oq Bool} (G:bZ X.prog X.w X.K X.mg X.base k cls m n r) (hr:c_ k X.A) (ho:PQ ly X o fo)
  (ht:Ls (.Call (.Attribute o m SQ) [] [] pos) X.env=(do
   let ov<-Ls o X.env
   Nq SQ.atName
   let (f,first)<-MW [ov] (NL ov m pl)
   Oz pos f first (LK pos (L8 [] X.env)) (MT pos (Mt [] X.env))):=by rfl):
  PQ ly X (.Call (.Attribute o m SQ) [] [] pos) (fF cls m n r fo ai):=by
 obtain⟨C,f,fd,ps,h1,h2,h3,h4⟩:=G.ex
 refine λc=>PE.weak (wa (pl:=pl) (ho c) h2.cl h3 h1 hr h4 .nil (oW c) ht) λσ H Q h=> ?_
 obtain⟨F,ρ,ri,w⟩:=zw h2 h
 refine⟨F,ρ,ri,w.imp λd _ k v H1 F1 e1 r1=> ?_⟩
 obtain⟨a,dx,VW,g1,g2,g3,F2,ρ2,Wk,w2⟩:=k v H1 F1 e1 r1
 exact⟨a,dx,VW,g1,g2,g3,w2 [] H1 F2 (cg.refl Wk.sub) .nil⟩
theorem aP.ghost {Sv:List (L4×LJ)} {σ:St} {H:Hp} {s:L5} (I:aP X Sv σ H s) {i:Nat} {g:L3} {v:Option V} (hi:X.N[i]? =some g) (hv:¬pT X.env.scope g):aP X Sv (σ.set i v) H s:=by
 refine {I with loc:= ?_,len:=by rw[OM];exact I.len}
 obtain⟨mm,h1,h2⟩:=I.loc
 refine⟨mm,h1,λj x u e1 e2 e3=> ?_⟩
 by_cases z:i=j
 ·subst z
  rw[hi]at e1
  cases e1
  exact absurd e3 hv
 ·rw[ao z]at e2
  exact h2 j x u e1 e2 e3
def IS (K:K_) (i:Nat) (ta tv:TE) (f:L3):TS:=λD σ H=>tv σ H λy H1=>ta σ H1 λx H2=>∃a C dx fs,x= .ref a/\H2 a=some (.ins C dx fs)/\w9 K C/\eF K C f/\fs.length<1000/\
 D.nx (σ.set i (some y)) (ce H2 a (.ins C dx (ip f y fs)))
theorem zx {value:Lc} {SY:LR} {ta tv:TE} {g:L3} (i:Nat) (hi:X.N[i]? =some g) (hvis:¬pT X.env.scope g) (ha:PE X o ta) (hv:PE X value tv) (hs:M6 value (some (.Attribute o f SY)) pos.line X.env=pure false):
  PS X (.Assign [.Attribute o f SY] value pos) (IS X.K i ta tv f):=by
 intro Sv s σ H D I h
 refine OF (cY (hv Sv s σ H _ I h) λu s1 z=> ?_) hs
 obtain⟨y,H1,I1,ry,q⟩:=z
 refine cY (ha Sv s1 σ H1 _ I1 q) λov s2 z=> ?_
 obtain⟨x,H2,I2,rx,a,C,dx,fs,ex,ea,c,n,l,q2⟩:=z
 subst ex
 obtain rfl:ov=LG a:=rx
 exact rW I2 ea c n l ry λs3 I3=>⟨_,_,L2.Pu.aP.ghost I3 hi hvis,q2⟩
theorem uz (f:L3) (v:V):∀fs:List (L3×V),(ip f v fs).map (·.1)=if f∈fs.map (·.1)then fs.map (·.1)else fs.map (·.1)++[f]
 |[]=>rfl
 |(g,x)::r=>by
  show (if g=f then (g,v)::r else (g,x)::ip f v r).map (·.1)=_
  by_cases e:g=f
  ·subst e;simp
  ·rw[if_neg e,Lf,uz f v r]
   by_cases h:f∈r.map (·.1)
   ·rw[if_pos h,if_pos (by rw[Lf];exact Lp _ h)];rfl
   ·rw[if_neg h,if_neg (by rw[Lf];intro z;exact(Li.mp z).elim (λq=>e q.symm) h)];rfl
theorem vh (f:L3) (v:V) {fs:List (L3×V)} (h:(fs.map (·.1)).Nodup):((ip f v fs).map (·.1)).Nodup:=by
 rw[uz]
 split
 ·exact h
 ·rename_i hf
  refine ND.mpr ⟨h,by simp,λa ha b hb=> ?_⟩
  rw[Lk.mp hb]
  intro z;subst z;exact hf ha
theorem i8 {α:Type} [DecidableEq α]:∀{l m:List α},l.Nodup->(∀x∈l,x∈m)->l.length<=m.length
 |[],_,_,_=>ML _
 |a::l,m,h,s=>by
  obtain⟨h1,h2⟩:=Nu.mp h
  have ha:=s a Lo
  have:=i8 (m:=m.erase a) h2 λx hx=>(List.mem_erase_of_ne (λz=>h1 (by rw[<-z];exact hx))).mpr (s x (Lp _ hx))
  rw[List.length_erase_of_mem ha]at this
  have hp:0<m.length:=List.length_pos_of_mem ha
  rw[Lu]
  omega
theorem kO {α:Type} {f:L3}:∀{fs:List (L3×α)},f∈fs.map (·.1)->∃v,fs.lookup f=some v
 |(g,x)::r,h=>by
  rw[Mm]
  cases e:f==g with
  |true=>exact⟨x,rfl⟩
  |false=>
   rw[Lf]at h
   rcases Li.mp h with z|z
   ·rw[z]at e;simp at e
   ·exact kO z
theorem RI.fld {K:K_} {c:dM ly} {ρ:ag} {σ:St} {H F:Hp} (r:RI K c ρ σ H F) {L:fE} (hL:L∈ly) (hρ:ρ[L.x]? =some (some .obj)) {a dx:L4} {fs:List (L3×V)} {i:Nat} (hx:σ[L.x]? =some (some (.ref a))) (ha:H a=some (.ins L.C dx fs)) (hf:(f,i)∈L.fl)
  (hn:∀p∈L.fl,p.1=f<->p.2=i) (Yu:L.x≠i) (WQ:∀M∈ly,M≠L->M.x≠i/\∀p∈M.fl,p.2≠i) {v:V} {d:D} (hd:dZ K F v d) (XC:i<σ.length):
  RI K c (ρ.set i (some (.val d))) (σ.set i (some v)) (ce H a (.ins L.C dx (ip f v fs))) F:=by
 obtain⟨b,Y8,VW,k0,k1,k2,k3,k4,k5,k6,k7,k8,k9,YL⟩:=r.obj L hL hρ
 rw[hx]at k1
 cases k1
 rw[ha]at k2
 cases k2
 have UR:∀{b:L4} {o:HO},H b=some o->j0 K F o d->b≠a:=λ{b o} e q z=>by subst z;rw[ha]at e;cases e;cases q
 refine⟨⟨λx y e=> ?_,λx y e=> ?_,r.ext.grow,r.ext.new⟩,λj e q=> ?_,λj e q=> ?_,λj e q=> ?_,r.bh,λj k e e' x q1 q2 q3 q4=> ?_,by simp[r.len],λM hM hq=> ?_,λM hM M' Yv Zk Zl x q1 q2=> ?_,r.fm, .no λj x SH g hs w=> ?_,λM hM a h=> ?_⟩
 ·rw[az (λz=>by rw[z,k4]at e;cases e)];exact r.sub x y e
 ·rw[az (λz=>by rw[z,k6]at e;cases e)];exact r.ext.keep x y e
 ·rcases aB q with ⟨rfl,z,l⟩|⟨z,q⟩
  ·cases z;exact⟨v,gA XC,hd⟩
  ·rw[ao z];exact r.val j e q
 ·rcases aB q with ⟨rfl,z,l⟩|⟨z,q⟩
  ·cases z
  ·obtain⟨x,o,g1,g2,g3,g4,g5⟩:=r.own j e q
   have nx:x≠a:=λz=>by subst z;rw[ha]at g2;cases g2;cases g5
   exact⟨x,o,by rw[ao z];exact g1,by rw[az nx];exact g2,g3,g4,g5⟩
 ·rcases aB q with ⟨rfl,z,l⟩|⟨z,q⟩
  ·cases z
  ·rw[ao z];exact r.bor j e q
 ·rcases aB q1 with ⟨rfl,z,l⟩|⟨z,q1⟩
  ·cases z
  ·rcases aB q2 with ⟨rfl,z',l⟩|⟨z',q2⟩
   ·cases z'
   ·rw[ao z]at q3;rw[ao z']at q4
    exact r.dis j k e e' x q1 q2 q3 q4
 ·by_cases W6:M=L
  ·subst W6
   refine⟨a,dx,ip f v fs,k0,by rw[ao Yu.symm];exact hx,aH,?_,k4,k5,k6,k7,λp hp=> ?_,λg u hu=> ?_,vh _ _ YL⟩
   ·rw[az (λz=>by rw[z,ha]at k3;cases k3)];exact k3
   ·rw[dg]
    by_cases e:p.1=f
    ·rw[if_pos e,(hn p hp).mp e,gA XC];rfl
    ·rw[if_neg e,ao (λz=>e ((hn p hp).mpr z.symm))];exact k8 p hp
   ·rw[dg]at hu
    by_cases e:g=f
    ·subst e;exact MU.mpr ⟨_,hf,rfl⟩
    ·rw[if_neg e]at hu;exact k9 g u hu
  ·have ho:=WQ M hM W6
   rw[ao ho.1.symm]at hq
   obtain⟨b,dy,gs,g0,g1,g2,g3,g4,g5,g6,g7,g8,g9⟩:=r.obj M hM hq
   have nb:b≠a:=λz=>W6 (r.odis M hM L hL hq hρ a (by rw[<-z];exact g1) hx)
   have nd:dy≠a:=λz=>by subst z;rw[ha]at g3;cases g3
   refine⟨b,dy,gs,g0,by rw[ao ho.1.symm];exact g1,by rw[az nb];exact g2,by rw[az nd];exact g3,g4,g5,g6,g7,λp hp=> ?_,g9⟩
   rw[ao (ho.2 p hp).symm];exact g8 p hp
 ·have XY:∀M∈ly,M.x≠i:=λM hM=>by
   by_cases W6:M=L
   ·subst W6;exact Yu
   ·exact(WQ M hM W6).1
  rw[ao (XY M hM).symm]at q1 Zk
  rw[ao (XY M' Yv).symm]at q2 Zl
  exact r.odis M hM M' Yv Zk Zl x q1 q2
 ·rcases aB w with ⟨rfl,z,l⟩|⟨z,w⟩
  ·cases z
  ·have:=r.cel.one j L.x x SH g hs .obj w hρ rfl
   subst this
   rw[hρ]at w
   cases w
 ·have XY:M.x≠i:=by
   by_cases W6:M=L
   ·subst W6;exact Yu
   ·exact(WQ M hM W6).1
  rw[ao XY.symm];exact r.pin M hM a h
def pd (x:Nat) (g:ag->R bq):ag->R bq:=λρ=>match ρ[x]? with
 |some (some .obj)=>g ρ
 |_=> .bad
theorem EA {c:dM ly} {x:Nat} {g:ag->R bq} {ρ:ag} {P:bq->Prop} (w:aL c (pd x g ρ) P):ρ[x]? =some (some .obj)/\aL c (g ρ) P:=by
 unfold pd at w
 split at w
 ·rename_i h;exact⟨h,w⟩
 ·exact w.elim
structure CL (ly:List fE) (L:fE) (f:L3) (i:Nat):Prop where
 mem:L∈ly
 fl:(f,i)∈L.fl
 un:∀p∈L.fl,p.1=f<->p.2=i
 x:L.x≠i
 oth:∀M∈ly,M≠L->M.x≠i/\∀p∈M.fl,p.2≠i
 few:L.fl.length<1000
theorem jN {value:Lc} {SY px:LR} {fv:ag->R D} {y g:L3} {L:fE} (i:Nat) (hC:w9 X.K L.C) (n:eF X.K L.C f) (A:CL ly L f i) (hv:PQ ly X value fv) (hN:X.N[L.x]? =some y:=by rfl) (a0L:pT X.env.scope y:=by first|exact LW rfl|exact LI (LW rfl)|exact LI (LI rfl)) (hd:(y==("__debug__":L3))=false:=by decide)
  (U3:(y==("__classdict__":L3))=false:=by decide) (hi:X.N[i]? =some g:=by rfl) (hvis:¬pT X.env.scope g:=by decide+kernel) (hs:M6 value (some (.Attribute (.Name y px) f SY)) pos.line X.env=pure false:=by rfl):
  mP ly X (.Assign [.Attribute (.Name y px) f SY] value pos) (pd L.x (aV fv (gN i))):=λc Sv s σ H D I q=>by
 refine zx i hi hvis (pv L.x hN a0L hd U3) (hv c) hs Sv s σ H D I ?_
 obtain⟨F,ρ,ri,w⟩:=q
 obtain⟨hρ,w⟩:=EA w
 refine⟨F,ρ,ri,(aL.bind.mp w).imp λd _ w1 v H1 F1 e1 r1=> ?_⟩
 have VE:=ri.step e1
 obtain⟨a,dx,fs,h0,h1,h2,h3,h4,h5,h6,h7,h8,h9,YM⟩:=VE.obj L A.mem hρ
 have XC:i<σ.length:=by rw[I.len];exact(Lq.mp hi).1
 have SW:fs.length<1000:=by
  have:=i8 (m:=L.fl.map (·.1)) YM λx hx=>by
   obtain⟨v,e⟩:=kO hx
   exact h9 x v e
  rw[L7,L7]at this
  exact OY this A.few
 refine⟨.ref a,h1,a,L.C,dx,fs,rfl,h2,hC,n,SW,?_⟩
 exact w1 _ _ F1 e1.grow (VE.fld A.mem hρ h1 h2 A.fl A.un A.x A.oth r1 XC)
end
end L2.Pu
namespace L2.Pu
open PySem PySem.Spec PyProof.Rows
variable {ly:List fE}
section
variable {X:Cx} {pos px:LR} {f y:L3}
def Km (x:Nat) (g:ag->R D):ag->R D:=λρ=>match ρ[x]? with
 |some (some .obj)=>g ρ
 |_=> .bad
end
def ef:List (L3×Nat)->ag->Option (List (L3×D))
 |[],_=>some []
 |p::r,ρ=>match ρ[p.2]? with
  |some (some (.val d))=>(ef r ρ).map λt=>(p.1,d)::t
  |_=>none
def jO (n:Nat) (ds:List D):ag:=some Slot.obj::d3 n ds
def AJ (fl:List (L3×Nat)) (ρ:ag):R (List (L3×D)):=match ρ[0]? with
 |some (some Slot.obj)=>R.of (ef fl ρ)
 |_=> .bad
def mU (k n:Nat) (fl:List (L3×Nat)) (g:ag->R bq) (ds:List D):R (List (L3×D)):=if ds.length=k then g (jO n ds)>>=λo=>match o with
 | .nx ρ=>AJ fl ρ
 |_=> .bad else .bad
def CM (K:K_) (C:L4) (cls:L3) (k:Nat) (mi:List D->R (List (L3×D))):Sp:=λvs H Q E=>∃F x dx us ds Hz,vs= .ref x::us/\us.length=k/\bd F Hz/\Hz x=none/\Hz dx=none/\dx≠x/\H=ce (ce Hz dx (.own x)) x (.ins C dx [])/\Reps K F us ds/\match mi ds with
 | .ok fds=>∀H' F',cg Hz F H' F'->dZ K F' (.ref x) (.ins cls fds)->Q .non H'
 | .err z _=>∀ec a H' F',eS K z ec->cg Hz F H' F'->E ec a H'
 | .bad=>False
theorem n_ {K:K_} {c:dM ly} {ρ:ag} {σ:St} {H F:Hp} (ri:RI K c ρ σ H F) {fs:List (L3×V)}:∀{fl:List (L3×Nat)} {fds:List (L3×D)},ef fl ρ=some fds->(∀p∈fl,fs.lookup p.1=(σ[p.2]?).join)->
  ∃vs:List (L3×V),RepF K F vs fds/\vs.map (·.1)=fl.map (·.1)/\∀p∈vs,fs.lookup p.1=some p.2
 |[],fds,h,_=>by cases h;exact⟨[], .nil,rfl,λp hp=>by cases hp⟩
 |p::fl,fds,h,hl=>by
  unfold ef at h
  split at h
  ·rename_i d hd
   cases e:ef fl ρ with
   |none=>rw[e]at h;cases h
   |some t=>
    rw[e]at h
    cases h
    obtain⟨vs,h1,h2,h3⟩:=n_ ri e λq hq=>hl q (Lp _ hq)
    obtain⟨v,g1,g2⟩:=ri.val _ d hd
    refine⟨(p.1,v)::vs, .cons g2 h1,by rw[Lf,Lf,h2],λq hq=> ?_⟩
    rcases Li.mp hq with rfl|hq
    ·have:=hl p Lo
     rw[this,g1];rfl
    ·exact h3 q hq
  ·cases h
theorem uA {K:K_} {N:List L3} {C x dx:L4} {fl:List (L3×Nat)} {Hz F:Hp} {us:List V} {ds:List D} {Er:L3->ag->Prop} {n:Nat} (hn:N.length=n+1) (s:bd F Hz) (hx:Hz x=none) (Zm:Hz dx=none) (UR:dx≠x) (r:Reps K F us ds) (a1j:us.length<=n) (hg:∀p∈fl,us.length<p.2):
  RI K (⟨Hz,F,λ_=>none,Er,λ_=>some x,λ_=>none⟩:dM [⟨0,C,fl⟩]) (jO n ds) (dF N (.ref x::us)) (ce (ce Hz dx (.own x)) x (.ins C dx [])) F:=by
 have keep:bd Hz (ce (ce Hz dx (.own x)) x (.ins C dx [])):=(d0 Zm).trans (d0 (by rw[az (MN UR)];exact hx))
 have hv:∀(i:Nat) sl,(jO n ds)[i]? =some (some sl)->(i=0/\sl= .obj)\/∃j d,i=j+1/\ds[j]? =some d/\sl= .val d:=λi sl h=>by
  cases i with
  |zero=>exact .inl ⟨rfl,by cases h;rfl⟩
  |succ j=>
   have h':(d3 n ds)[j]? =some (some sl):=h
   refine .inr ?_
   unfold d3 at h'
   rw[NQ]at h'
   split at h'
   ·rw[Lx]at h'
    cases e:ds[j]? with
    |none=>rw[e]at h';cases h'
    |some d=>rw[e]at h';simp at h';exact⟨j,d,rfl,e,h'.symm⟩
   ·rw[MI]at h'
    split at h'<;>simp at h'
 have Xd:(dF N (V.ref x::us))[0]? =some (some (V.ref x)):=rfl
 refine⟨⟨s.trans keep,keep,bd.refl _,λ_ h=> .inl h⟩,λi d h=> ?_,λi d h=> ?_,λi d h=> ?_,(λb o e=>by cases e),λi j d d' a h=> ?_,?_,λL hL _=> ?_,λL hL L' V_ _ _ a _ _=> ?_,(λ_ _ e=>by cases e), .no λi x SH f hs h=>(by obtain⟨_,z⟩|⟨j,d',_,_,z⟩:=hv i _ h<;>cases z),λL hL a h=>by rw[Lk.mp hL];cases h;exact Xd⟩
 ·obtain⟨rfl,z⟩|⟨j,d',rfl,e,z⟩:=hv i _ h
  ·cases z
  cases z
  obtain⟨v,h1,h2⟩:=r.get e
  refine⟨v,?_,h2⟩
  unfold dF
  have hl:j<us.length:=(Lq.mp h1).1
  rw[MP (by simpa using hl),Lx]
  show (us[j]?).map some=_
  rw[h1]
  rfl
 ·obtain⟨_,z⟩|⟨j,d',_,_,z⟩:=hv i _ h<;>cases z
 ·obtain⟨_,z⟩|⟨j,d',_,_,z⟩:=hv i _ h<;>cases z
 ·obtain⟨_,z⟩|⟨j,d',_,_,z⟩:=hv i _ h<;>cases z
 ·simp only[jO,d3,dF,Lu,LO,L7,OE,hn]
  have:=r.length
  omega
 ·rw[Lk.mp hL]
  refine⟨x,dx,[],(λb hb=>by cases hb;rfl),Xd,aH,?_,s.free hx,s.free Zm,hx,Zm,λp hp=> ?_,(λf v h=>by cases h),Sa⟩
  ·rw[az UR];exact aH
  ·have Y5:=hg p hp
   show none=_
   unfold dF
   rw[NS (by simp;omega),MI]
   split<;>rfl
 ·rw[Lk.mp hL,Lk.mp V_]
theorem EB {K:K_} {C:L4} {cls:L3} {fl:List (L3×Nat)} {c:dM [⟨0,C,fl⟩]} {ρ:ag} {σ:St} {H F:Hp} {fds:List (L3×D)} {x:L4} (ri:RI K c ρ σ H F) (hρ:ρ[0]? =some (some .obj)) (a0M:c.oa 0=some x) (WK:Lh K Ld cls=some (some (.ref C))) (h:ef fl ρ=some fds):
  ∃F',cg c.H0 c.F0 H F'/\dZ K F' (.ref x) (.ins cls fds):=by
 obtain⟨a,dx,fs,h0,h1,h2,h3,h4,h5,h6,h7,h8,h9,YM⟩:=ri.obj _ (Lk.mpr rfl) hρ
 cases h0 x a0M
 obtain⟨vs,g1,g2,g3⟩:=n_ ri h h8
 have UR:dx≠x:=λz=>by rw[z,h2]at h3;cases h3
 have s1:bd F (ce F dx (.own x)):=d0 h5
 have s2:bd (ce F dx (.own x)) (ce (ce F dx (.own x)) x (.ins C dx fs)):=d0 (by rw[az (MN UR)];exact h4)
 have sF:=s1.trans s2
 refine⟨ce (ce F dx (.own x)) x (.ins C dx fs),⟨λb u e=> ?_,ri.ext.keep,ri.ext.grow.trans sF,λb e=> ?_⟩, .ins aH (by rw[az UR];exact aH) WK g3 (λf v e=>by rw[g2];exact h9 f v e) (g1.mono sF)⟩
 ·by_cases z:b=x
  ·subst z;rw[aH]at e;rw[<-e];exact h2
  ·rw[az z]at e
   by_cases z2:b=dx
   ·subst z2;rw[aH]at e;rw[<-e];exact h3
   ·rw[az z2]at e;exact ri.sub b u e
 ·by_cases z:b=x
  ·subst z;exact .inr h6
  ·rw[az z]at e
   by_cases z2:b=dx
   ·subst z2;exact .inr h7
   ·rw[az z2]at e;exact ri.ext.new b e
theorem EC {P:Ll} {w:Ly} {K:K_} {mg:L3->Option L0} {base:Lr} {x qual cls:L3} {st:Lw} {f C:L4} {fd:Mq} {N ps:List L3} {k n m:Nat} {fl:List (L3×Nat)} {g:ag->R bq} (F:zf K x qual st f fd) (S:aC N ps (al st))
  (WK:Lh K Ld cls=some (some (.ref C))) (hn:ps.length=n+1) (hm:N.length=m+1) (hg:∀p∈fl,n<p.2) (XQ:n<=m)
  (T2:∀(SE:L0) (A:LF) (outer:List MM) (s:L5) (H:Hp) (E:XK),c_ k (A.deeper (MO qual (al st) s.heap.objs.size f SE))->
   jy [⟨0,C,fl⟩] (iZ (lz P w) P w K mg base N qual (al st) f SE A outer s H E) (bK st) g):fN P w K mg base (lz P w) (k+1) f fd ps (CM K C cls n (mU n m fl g)):=by
 refine IH F S (λvs H Q E h=> ?_) (λSE A outer s H vs Q E hr h=> ?_)
 ·obtain⟨Fz,y,dy,us,ds,Hz,rfl,hl,_⟩:=h
  rw[Lu,hl,hn]
 ·obtain⟨Fz,y,dy,us,ds,Hz,rfl,hl,sub,hy,Zn,UR,rfl,r,w⟩:=h
  refine⟨_,T2 SE A outer s _ E hr ⟨⟨Hz,Fz,λ_=>none,λz _=>∀ec a H' F',eS K z ec->cg Hz Fz H' F'->E ec a H',λ_=>some y,λ_=>none⟩,sB λz ρ er ec a H' F' σ hc ri=>er ec a H' F' hc ri.ext⟩,?_⟩
  refine⟨Fz,jO m ds,uA hm sub hy Zn UR r (by omega) (λp hp=>by rw[hl];exact hg p hp),?_⟩
  have hd:ds.length=n:=by rw[<-r.length];exact hl
  unfold mU at w
  rw[if_pos hd]at w
  cases e:g (jO m ds)with
  |bad=>rw[e]at w;exact w.elim
  |err c ρ=>rw[e]at w;exact w
  |ok o=>
   rw[e]at w
   cases o with
   |nx ρ=>
    intro σ' H' F' _ U2
    rw[ar]at w
    split at w
    ·rename_i fds hf
     replace hf:AJ fl ρ= .ok fds:=hf
     unfold AJ at hf
     split at hf
     ·rename_i hρ
      cases e2:ef fl ρ with
      |none=>rw[e2]at hf;cases hf
      |some a2n=>
       rw[e2]at hf
       cases hf
       obtain⟨F2,x1,x2⟩:=EB U2 hρ rfl WK e2
       exact w H' F2 x1 x2
     ·cases hf
    ·rename_i z ρe hf
     replace hf:AJ fl ρ= .err z ρe:=hf
     unfold AJ at hf
     split at hf
     ·cases e2:ef fl ρ<;>rw[e2]at hf<;>cases hf
     ·cases hf
    ·exact w.elim
   |_=>exact w.elim
structure hU (P:Ll) (w:Ly) (K:K_) (mg:L3->Option L0) (base:Lr) (k:Nat) (cls:L3) (n:Nat) (mi:List D->R (List (L3×D))):Prop where
 ex:∃C f fd ps,fN P w K mg base (lz P w) k f fd ps (CM K C cls n mi)/\mg cls=some (.ref C)/\Mk K C f/\gk K fd ps []
section
variable {X:Cx} {e:Lc} {es:List Lc} {fs:ag->R (List D)} {cls:L3} {p pos:LR}
def lX (cls:L3) (n:Nat) (mi:List D->R (List (L3×D))) (fs:ag->R (List D)):ag->R D:=λρ=>fs ρ>>=λds=>if ds.length=n then (match mi ds with| .ok fds=> .ok (.ins cls fds)| .err x _=> .err x ρ| .bad=> .bad)else .bad
theorem o0 {k n:Nat} {mi:List D->R (List (L3×D))} (G:hU X.prog X.w X.K X.mg X.base k cls n mi) (hr:c_ (k+1) X.A) (ha:vV ly X (e::es) fs) (hg:Gl X cls:=by rfl) (Um:(cls==("__debug__":L3))=false:=by decide)
  (he:L8 (e::es) X.env=(false,Ls e X.env)::L8 es X.env:=by rfl) (U0:(LK pos (L8 es X.env)).any (·.1)=false:=by rfl):PQ ly X (.Call (.Name cls p) (e::es) [] pos) (lX cls n mi fs):=by
 obtain⟨C,f,fd,ps,h1,h2,h3,h4⟩:=G.ex
 refine λc=>PE.weak (yW h3 h1 hr hg h2 h4 .nil (oW c) (ha c) Um he U0) λσ H Q ⟨F,ρ,ri,w⟩=>⟨F,ρ,ri,(aL.bind.mp w).imp λds _ w1 vs H1 F1 e1 r1 x dx hx Zm UR=> ?_⟩
 rw[Mu]
 split at w1
 ·rename_i hl
  refine⟨F1,x,dx,vs,ds,H1,rfl,by rw[r1.length];exact hl,e1.sub,hx,Zm,UR,rfl,r1,?_⟩
  split at w1
  ·rename_i fds hm
   exact λH' F' e' r'=>⟨rfl,w1 _ H' F' (e1.trans e') r'⟩
  ·exact λec a H' F' hc e'=>⟨_,ρ,F',hc,ri.step (e1.trans e'),w1⟩
  ·exact w1.elim
 ·exact w1.elim
end
end L2.Pu
namespace L2.Pu
open PySem PySem.Spec PyProof.Rows
variable {ly:List fE}
section
variable {X:Cx} {e:Lc} {es:List Lc} {fs:ag->R (List D)} {x:L3} {np SK pos:LR}
structure cK (K:K_) (mg:L3->Option L0) (x:L3):Prop where
 ex:∃C,Lh K Ld x=some (some (.ref C))/\mg x=some (.ref C)/\v5 K C
def cO (x:L3) (fs:ag->R (List D)):ag->R bq:=λρ=>fs ρ>>=λds=>if ds.length<=lim then .err x ρ else .bad
theorem CN {c:j3 ly X} {C:L4} {σ:St} {H:Hp} {D:nO} {ρ:ag} {F:Hp} (WK:Lh X.K Ld x=some (some (.ref C)))
  (Yr:∀Sv σ ρ H F s a cls x,aP X Sv σ H s->RI X.K c.1 ρ σ H F->Fl X Sv H s.heap a cls->eS X.K x cls->c.1.Er x ρ->X.xe (.ref a) s)
  (ri:RI X.K c.1 ρ σ H F) (w:aL c.1 (cO x fs ρ) (gE X.K c.1 F D)):Ca X C (HE X.K c.1 fs) D σ H:=by
 refine⟨F,ρ,ri,(aL.bind.mp w).imp λds _ w1 vs H1 F1 e1 r1=> ?_⟩
 split at w1
 ·rename_i hl
  exact⟨LP (by rw[r1.length];exact hl) gC,λSv s a I fl=>Yr Sv σ ρ H1 F1 s a _ x I (ri.step e1) fl ⟨C,rfl,WK⟩ w1⟩
 ·exact w1.elim
theorem CO {c:dM ly} {ρ:ag} {F:Hp} {D:nO} (no:∀x ρ,¬c.Er x ρ) (w:aL c (cO x fs ρ) (gE X.K c F D)):False:=by
 unfold cO at w
 cases h:fs ρ with
 |bad=>rw[h]at w;exact w
 |err y ρ'=>rw[h]at w;exact no _ _ w
 |ok ds=>
  rw[h,ar]at w
  split at w
  ·exact no _ _ w
  ·exact w
theorem dz (k:cK X.K X.mg x) (hc:X.calm=true) (ha:vV ly X (e::es) fs) (hg:Gl X x:=by rfl) (Um:(x==("__debug__":L3))=false:=by decide)
  (he:L8 (e::es) X.env=(false,Ls e X.env)::L8 es X.env:=by rfl) (U0:(LK SK (L8 es X.env)).any (·.1)=false:=by rfl) (Vr:X.stack=X.env::X.outer:=by rfl):mP ly X (.Raise (some (.Call (.Name x np) (e::es) [] SK)) none pos) (cO x fs):=by
 obtain⟨C,h1,h2,h3⟩:=k.ex
 intro c Sv s σ H D I q
 obtain⟨F,ρ,ri,w⟩:=q
 rcases c.2.plain Vr with ⟨hp,Yr⟩|no
 ·exact Cb h3 h2 hp hc (ha c) hg Um he U0 Sv s σ H D I (CN h1 Yr ri w)
 ·exact(CO (X:=X) no w).elim
end
def IT (i:Nat):bq->bq
 | .nx ρ=> .nx (ρ.set i none)
 | .brk ρ=> .brk (ρ.set i none)
 | .cnt ρ=> .cnt (ρ.set i none)
 | .ret d=> .ret d
 | .retc d ρ=> .retc d (ρ.set i none)
def wL (i:Nat) (sub:L3->Bool) (gh:ag->R bq) (x:L3) (ρ:ag):R bq:=if sub x=true then (match gh (ρ.set i (some (.val (.exc x))))with
 | .ok o=> .ok (IT i o)
 |_=> .bad)else .bad
def AK (i:Nat) (sub:L3->Bool) (g gh:ag->R bq):ag->R bq:=λρ=>match g ρ with
 | .err x ρ'=>wL i sub gh x ρ'
 |r=>r
section
variable {X:Cx} {Sv:List (L4×LJ)} {σ:St} {H:Hp} {s:L5}
abbrev _root_.L2.Cx.inT (X:Cx) (E:L0->L5->Prop) (pn:List (L4×LJ)):Cx:={X with xe:=E,pn:=pn}
theorem KN {E:L0->L5->Prop} {pn:List (L4×LJ)} (ok:X.Ok):(X.inT E pn).Ok:=
 ⟨ok.mod,ok.kind,ok.glob,ok.blt,ok.above,ok.inj,ok.has,ok.cab,ok.hd,ok.frames,ok.stk,ok.exf,ok.bs,ok.bsz,ok.noex,ok.exfs,ok.funs,ok.frf⟩
theorem inT {E:L0->L5->Prop} (I:aP X Sv σ H s):aP (X.inT E (X.pn++Sv)) [] σ H s:=⟨KN I.ok,I.os,I.bare,I.base,I.loc,I.cell,I.free,I.freeC,λp hp=>I.pin p (by simpa using hp),I.hok,I.len⟩
theorem CP {E:L0->L5->Prop} {UQ:List (L4×LJ)} (ok:X.Ok) (I:aP (X.inT E (X.pn++Sv)) UQ σ H s):aP X Sv σ H s:=⟨ok,I.os,I.bare,I.base,I.loc,I.cell,I.free,I.freeC,λp hp=>I.pin p (Mi _ hp),I.hok,I.len⟩
theorem newT {E:L0->L5->Prop} {UQ:List (L4×LJ)} {b:L4} (n:yd (X.inT E (X.pn++Sv)) UQ H b):yd X Sv H b:=⟨n.s0,n.no,λp hp=>n.pin p (Mi _ hp)⟩
theorem KO {E:L0->L5->Prop} {UQ:List (L4×LJ)} {h:Lr} {a:L4} {cls:L0} (f:Fl (X.inT E (X.pn++Sv)) UQ H h a cls):Fl X Sv H h a cls:=by
 obtain⟨oe,vs,h1,h2,h3,h4⟩:=f.at_
 refine⟨newT f.new,oe,vs,h1,h2,h3,h4.imp id λ⟨T,fl,e,t,hf⟩=>⟨T,fl,e,⟨newT t.new,t.ne,t.at_⟩,hf⟩⟩
theorem KP {E:L0->L5->Prop} {D:nO} {f:Flow} (ok:X.Ok) (h:SP (X.inT E (X.pn++Sv)) [] D f s):SP X Sv D f s:=by
 cases f with
 |next=>obtain⟨σ',H',I,q⟩:=h;exact⟨σ',H',CP ok I,q⟩
 |brk=>obtain⟨σ',H',I,q⟩:=h;exact⟨σ',H',CP ok I,q⟩
 |cont=>obtain⟨σ',H',I,q⟩:=h;exact⟨σ',H',CP ok I,q⟩
 |ret u=>obtain⟨v,σ',H',I,r,q⟩:=h;exact⟨v,σ',H',CP ok I,r,q⟩
end
section
variable {K:K_} {c:dM ly} {ρ:ag} {σ:St} {H F:Hp}
def dM.er (c:dM ly) (F:Hp) (Er:L3->ag->Prop):dM ly:=⟨c.H0,c.F0,c.B,Er,c.oa,F⟩
theorem RI.er {Er:L3->ag->Prop} (r:RI K c ρ σ H F):RI K (c.er F Er) ρ σ H F:=⟨r.ext,r.val,r.own,r.bor,r.bh,r.dis,r.len,r.obj,r.odis,bd.refl _,r.cel,r.pin⟩
theorem RI.unEr {F1:Hp} {Er:L3->ag->Prop} (r:RI K (c.er F1 Er) ρ σ H F) (m:bd c.Fm F1):RI K c ρ σ H F:=⟨r.ext,r.val,r.own,r.bor,r.bh,r.dis,r.len,r.obj,r.odis,m.trans r.fm,r.cel,r.pin⟩
theorem gE.er {D:nO} {o:bq} {F1:Hp} {Er:L3->ag->Prop} (m:bd c.Fm F1) (h:gE K c F D o):gE K (c.er F1 Er) F D o:=by
 cases o with
 |nx ρ=>exact λσ' H' F' s r=>h σ' H' F' s (r.unEr m)
 |brk ρ=>exact λσ' H' F' s r=>h σ' H' F' s (r.unEr m)
 |cnt ρ=>exact λσ' H' F' s r=>h σ' H' F' s (r.unEr m)
 |ret d=>exact λv H' F' s e r=>h v H' F' s e r
 |retc d ρ=>exact λv σ' H' F' s e r=>h v σ' H' F' s (e.unEr m) r
end
section
variable {X:Cx} {body VZ:List Lw} {b₀:Lw} {g gh:ag->R bq} {cx n:L3} {np Xi pos:LR} {sub:L3->Bool}
structure wM (K:K_) (mg:L3->Option L0) (cx:L3) (sub:L3->Bool):Prop where
 ex:∃C,mg cx=some (.ref C)/\∀x cls,sub x=true->eS K x cls->NJ K cls (.ref C)=some true
theorem IU (i:Nat) (p:ke X) (hN:X.N.Nodup) (U:wM X.K X.mg cx sub) (hb:∀E pn,jy ly (X.inT E pn) body g) (hh:∀v,jy ly (X.inH v) (b₀::VZ) gh) (hi:X.N[i]? =some n:=by rfl) (hk:X.env.scope.names.lookup n=some .local:=by rfl) (hg:Gl X cx:=by rfl)
  (Um:(cx==("__debug__":L3))=false:=by decide) (UI:lA ly i:=by(repeat (first|assumption|exact L2.Pu.fO|refine L2.Pu.eA ⟨by first|decide|simp,by first|decide|simp⟩ ?_))):mP ly X (.Try body [.ExceptHandler (some (.Name cx np)) (some n) (b₀::VZ) Xi] [] [] pos) (AK i sub g gh):=by
 obtain⟨Cc,hm,a0N⟩:=U.ex
 intro c Sv s σ H D I q
 obtain⟨F,ρ,ri,w⟩:=q
 refine wpAny_Try_except ?_
 have ok:=I.ok
 let a1B:L0->L5->Prop:=λe s₁=>Lg (Lj X.prog X.w) X.A (Rj e X.env) (λ_ s₂=>Lg (Lj X.prog X.w) X.A (setFlight e none) (λ_ s₃=>Lg (Lj X.prog X.w) X.A (handleBy e X.env [.ExceptHandler (some (.Name cx np)) (some n) (b₀::VZ) Xi]) (SP X Sv D) X.xe s₃) X.xe s₂) X.xe s₁
 let c':dM ly:=c.1.er F λx ρ'=>aL c.1 (wL i sub gh x ρ') (gE X.K c.1 F D)
 have Yr:Gw (X.inT a1B (X.pn++Sv)) c':=by
  refine .inl ⟨⟨p.st,p.fr,p.ex⟩,λUQ σ' ρ' H' F' s' a cls x I' U2 fl ec er=> ?_⟩
  obtain⟨C,rfl,WK⟩:=ec
  have Y9:RI X.K c.1 ρ' σ' H' F':=U2.unEr ri.fm
  have sF:bd F F':=U2.fm
  refine wt (CP ok I') p (KO fl) λh2 I2 f2=> ?_
  replace er:aL c.1 (wL i sub gh x ρ') (gE X.K c.1 F D):=er
  unfold wL at er
  split at er
  ·rename_i hs
   refine Az I2 p f2 hN hi hk hg hm (a0N x _ hs ⟨C,rfl,WK⟩) Um λs3 I3=> ?_
   have e2:=cg.lay (o:= .ext (kg a (.ref C))) Y9.sub f2.new.no
   have Xj:=(Y9.step e2).setVal i UI (dZ.exc aH WK)
   split at er
   ·rename_i o ho
    let D2:nO:={nx:=λσ1 H1=>D.nx (σ1.set i none) H1,rt:=D.rt,bk:=λσ1 H1=>D.bk (σ1.set i none) H1,ct:=λσ1 H1=>D.ct (σ1.set i none) H1}
    have a0O:gE X.K (c.1.er F λ_ _=>False) (ce F' a (.ext (kg a (.ref C)))) D2 o:=by
     have Zo:=sF.trans e2.grow
     cases o with
     |nx ρ1=>exact λσ1 H1 F1 s1 r1=>er _ H1 F1 (Zo.trans s1) ((r1.unEr ri.fm).setNone i UI)
     |brk ρ1=>exact λσ1 H1 F1 s1 r1=>er _ H1 F1 (Zo.trans s1) ((r1.unEr ri.fm).setNone i UI)
     |cnt ρ1=>exact λσ1 H1 F1 s1 r1=>er _ H1 F1 (Zo.trans s1) ((r1.unEr ri.fm).setNone i UI)
     |ret d=>exact λv H1 F1 s1 e1 r1=>er v H1 F1 (Zo.trans s1) e1 r1
     |retc d ρ1=>exact λv σ1 H1 F1 s1 e1 r1=>er v _ H1 F1 (Zo.trans s1) ((e1.unEr ri.fm).setNone i (v:=none) UI) r1
    have a2o:RI X.K (c.1.er F λ_ _=>False) (ρ'.set i (some (.val (.exc x)))) (σ'.set i (some (.ref a))) (ce H' a (.ext (kg a (.ref C)))) (ce F' a (.ext (kg a (.ref C)))):=⟨Xj.ext,Xj.val,Xj.own,Xj.bor,Xj.bh,Xj.dis,Xj.len,Xj.obj,Xj.odis,sF.trans e2.grow,Xj.cel,Xj.pin⟩
    refine cY (hh (.ref a) ⟨c.1.er F λ_ _=>False, .no λ_ _ z=>z⟩ Sv s3 _ _ D2 I3 ⟨_,_,a2o,by rw[ho];exact a0O⟩) λf s4 q4=> ?_
    have XZ:∀{σ1 H1},aP (X.inH (.ref a)) Sv σ1 H1 s4->(∀s5,aP X Sv (σ1.set i none) H1 s5->SP X Sv D f s5)->Lg (Lj X.prog X.w) X.A (do bindName X.env n M8;OP X.env n Xi) (λ_ s5=>SP X Sv D f s5) X.xe s4:=λI4 kk=>Ax (I4.outH ok) hN hi hk kk
    cases f with
    |next=>obtain⟨σ1,H1,I4,q5⟩:=q4;exact XZ I4 λs5 I5=>⟨_,H1,I5,q5⟩
    |brk=>obtain⟨σ1,H1,I4,q5⟩:=q4;exact XZ I4 λs5 I5=>⟨_,H1,I5,q5⟩
    |cont=>obtain⟨σ1,H1,I4,q5⟩:=q4;exact XZ I4 λs5 I5=>⟨_,H1,I5,q5⟩
    |ret u=>obtain⟨v,σ1,H1,I4,r,q5⟩:=q4;exact XZ I4 λs5 I5=>⟨v,_,H1,I5,r,q5⟩
   ·exact er.elim
  ·exact er.elim
 have wb:aL c' (g ρ) (gE X.K c' F D):=by
  unfold AK at w
  cases h:g ρ with
  |bad=>rw[h]at w;exact w
  |err x ρ'=>rw[h]at w;exact w
  |ok o=>rw[h]at w;exact gE.er ri.fm w
 refine cY (hb a1B (X.pn++Sv) ⟨c',Yr⟩ [] s σ H D (inT I) ⟨F,ρ,ri.er,wb⟩) λf s1 q1=> ?_
 have q2:=KP ok q1
 cases f with
 |next=>exact NY q2
 |brk=>exact q2
 |cont=>exact q2
 |ret u=>exact q2
end
section
variable {X:Cx} {a:Lc} {fa:ag->R D} {x:L3} {p p2 pos:LR} {tb:L3->Option Bool}
structure qG (K:K_) (v:L0) (tb:L3->Option Bool):Prop where
 ok:∀x b cls,tb x=some b->eS K x cls->Mf K cls v=some b/\∃C,cls= .ref C/\v5 K C
def jz (tb:L3->Option Bool) (f:ag->R D):ag->R D:=λρ=>f ρ>>=λd=>match d with
 | .exc x=>R.of ((tb x).map .bl)
 |_=> .bad
def IV (K:K_):List V->Hp->VK->Prop:=λxs H Q=>∃a C v c b,xs=[.ref a,v]/\H a=some (.ext (kg a (.ref C)))/\v5 K C/\((∃T,v= .ty T/\c= .type T)\/∃C2,v= .ref C2/\c= .ref C2)/\Mf K (.ref C) c=some b/\Q (.bl b) H
theorem wN:d_ X (.builtin "isinstance") (IV X.K):=by
 intro Sv s σ H xs us Q I rv h
 obtain⟨a,C,v,c,b,rfl,ea,k,hc,e,q⟩:=h
 obtain⟨u,w',rfl,ru,WX⟩:=yU rv
 cases (show u=LG a from ru)
 obtain⟨⟨o,g1,g2⟩,_⟩:=(show cp X.prog X.w H s.heap a (.ext (kg a (.ref C)))from I.hok a _ ea)
 have ew:w'=c:=by
  rcases hc with ⟨T,rfl,rfl⟩|⟨C2,rfl,rfl⟩
  ·exact WX
  ·exact WX
 subst ew
 exact Mj (C9 k) I.kIn ⟨o,g1,g2⟩ e (λz=>nomatch z) λtk=>⟨.bl b,H,I.tok tk,rfl,q⟩
theorem di.exc {K:K_} {H F:Hp} {v:V} {x:L3} (s:bd F H):di K H F v (.exc x)->∃a C,v= .ref a/\H a=some (.ext (kg a (.ref C)))/\Lh K Ld x=some (some (.ref C)):=λh=>by
 obtain⟨a,C,e,h,n⟩:=h.in rfl
 exact⟨a,C,e,s _ _ h,n⟩
theorem CQ {K:K_} {c:dM ly} {tv:V} {cv:L0} {σ:St} {H:Hp} {Q:VK} (T:qG K cv tb) (hv:(∃T,tv= .ty T/\cv= .type T)\/∃C2,tv= .ref C2/\cv= .ref C2) (h:tQ K c (jz tb fa) σ H Q):
  tB' K c fa σ H λv H1=>IV K [v,tv] H1 Q:=by
 obtain⟨F,ρ,ri,w⟩:=h
 refine⟨F,ρ,ri,(aL.bind.mp w).imp λd _ w1 v H1 F1 e1 r1=> ?_⟩
 cases d with
 |exc x=>
  obtain⟨d',hd,k⟩:=w1.of
  cases ht:tb x with
  |none=>rw[ht]at hd;cases hd
  |some b=>
   rw[ht]at hd
   cases hd
   obtain⟨a,C,rfl,h1,h2⟩:=r1.exc e1.sub
   obtain⟨g1,C',g2,g3⟩:=T.ok x b (.ref C) ht ⟨C,rfl,h2⟩
   cases g2
   exact⟨a,C,tv,cv,b,rfl,h1,g3,hv,g1,k _ H1 F1 e1 (.bl b)⟩
 |_=>exact w1.elim
theorem IW {C2:L4} (T:qG X.K (.ref C2) tb) (hm:X.mg x=some (.ref C2)) (XU:X.mg "isinstance"=none) (ha:PB ly X a fa) (Yt:Gl X "isinstance":=by rfl) (hg:Gl X x:=by rfl) (Um:(x==("__debug__":L3))=false:=by decide)
  (he:L8 [a, .Name x p2] X.env=(false,Ls a X.env)::L8 [.Name x p2] X.env:=by rfl) (Xu:L8 [.Name x p2] X.env=(false,Ls (.Name x p2) X.env)::L8 [] X.env:=by rfl) (U0:(LK pos (L8 [.Name x p2] X.env)).any (·.1)=false:=by rfl):
  PQ ly X (.Call (.Name "isinstance" p) [a, .Name x p2] [] pos) (jz tb fa):=λc=>
 PE.weak (oM wN Yt XU sj (dh (ha c) (dh (yN hg hm (v:= .ref C2) rfl Um) gX Xu) he) (by decide) (by decide) he U0) λσ H Q h=>CQ T (.inr ⟨C2,rfl,rfl⟩) h
theorem GU {Ty:String} (T:qG X.K (.type Ty) tb) (hv:LS x=some (.type Ty)) (hm:X.mg x=none) (XU:X.mg "isinstance"=none) (ha:PB ly X a fa) (Yt:Gl X "isinstance":=by rfl) (hg:Gl X x:=by rfl) (hn:x≠"__name__":=by decide) (Um:(x==("__debug__":L3))=false:=by decide)
  (he:L8 [a, .Name x p2] X.env=(false,Ls a X.env)::L8 [.Name x p2] X.env:=by rfl) (Xu:L8 [.Name x p2] X.env=(false,Ls (.Name x p2) X.env)::L8 [] X.env:=by rfl) (U0:(LK pos (L8 [.Name x p2] X.env)).any (·.1)=false:=by rfl):
  PQ ly X (.Call (.Name "isinstance" p) [a, .Name x p2] [] pos) (jz tb fa):=λc=>
 PE.weak (oM wN Yt XU sj (dh (ha c) (dh (yO (v:= .ty Ty) hg hm hv rfl hn Um) gX Xu) he) (by decide) (by decide) he U0) λσ H Q h=>CQ T (.inl ⟨Ty,rfl,rfl⟩) h
end
end L2.Pu
namespace L2.Pu
open PySem PySem.Spec PyProof.Rows
variable {ly:List fE}
def tO:D->Option Int
 | .tup (.int k::_)=>some k
 |_=>none
def hV (d:D):Int:=(tO d).getD 0
def fj:List D->Option (List Int)
 |[]=>some []
 |d::r=>(tO d).bind λk=>(fj r).map (k::·)
def yp (d:D):List D->List D
 |[]=>[d]
 |e::r=>if hV d<=hV e then d::e::r else e::yp d r
def nH:List D->List D
 |[]=>[]
 |d::r=>yp d (nH r)
theorem qd (d:D):∀l:List D,(yp d l).Perm (d::l)
 |[]=> .refl _
 |e::r=>by
  unfold yp
  split
  ·exact .refl _
  ·exact((qd d r).cons e).trans (.swap d e r)
theorem sJ:∀l:List D,(nH l).Perm l
 |[]=> .refl _
 |d::r=>(qd d _).trans ((sJ r).cons d)
theorem qH (d:D):∀{l:List D},l.Pairwise (λa b=>hV a<=hV b)->(yp d l).Pairwise (λa b=>hV a<=hV b)
 |[],_=>by simp[yp]
 |e::r,h=>by
  obtain⟨h1,h2⟩:=Ml.mp h
  unfold yp
  split
  ·rename_i hd
   refine Ml.mpr ⟨λx hx=> ?_,h⟩
   rcases Li.mp hx with rfl|hx
   ·exact hd
   ·exact MV hd (h1 x hx)
  ·rename_i hd
   refine Ml.mpr ⟨λx hx=> ?_,qH d h2⟩
   rcases Li.mp ((qd d r).mem_iff.mp hx)with rfl|hx
   ·omega
   ·exact h1 x hx
theorem pe:∀l:List D,(nH l).Pairwise (λa b=>hV a<=hV b)
 |[]=> .nil
 |d::r=>qH d (pe r)
theorem qI:∀{l m:List D},l.Perm m->l.Pairwise (λa b=>hV a<hV b)->m.Pairwise (λa b=>hV a<hV b)->l=m
 |[],m,p,_,_=>(RO p)
 |a::l,[],p,_,_=>absurd p.length_eq (by simp)
 |a::l,b::m,p,h1,h2=>by
  obtain⟨g1,g2⟩:=Ml.mp h1
  obtain⟨k1,k2⟩:=Ml.mp h2
  have e:a=b:=by
   have ha:a∈b::m:=p.mem_iff.mp Lo
   have hb:b∈a::l:=p.mem_iff.mpr Lo
   rcases Li.mp ha with z|ha
   ·exact z
   ·rcases Li.mp hb with z|hb
    ·exact z.symm
    ·have:=g1 b hb
     have:=k1 a ha
     omega
  subst e
  rw[qI (p.cons_inv) g2 k2]
theorem AL {l:List D} (h:l.Pairwise (λa b=>hV a<=hV b)) (nd:(l.map hV).Nodup):l.Pairwise (λa b=>hV a<hV b):=by
 have:=Nc.mp nd
 exact(h.and this).imp λ{x y} ⟨a,b⟩=>by omega
theorem wO {l m:List D} (p:l.Perm m) (h:m.Pairwise (λa b=>hV a<hV b)):nH l=m:=by
 have q:=(sJ l).trans p
 refine qI q (AL (pe l) ?_) h
 refine(q.map hV).nodup_iff.mpr (Nc.mpr (h.imp λz=>Int.ne_of_lt z))
theorem qJ:∀{ds:List D} {ks:List Int},fj ds=some ks->ks=ds.map hV
 |[],ks,h=>by cases h;rfl
 |d::r,ks,h=>by
  replace h:((tO d).bind λk=>(fj r).map (k::·))=some ks:=h
  cases e:tO d with
  |none=>rw[e]at h;cases h
  |some k=>
   rw[e]at h
   cases e2:fj r with
   |none=>rw[e2]at h;cases h
   |some q=>
    rw[e2]at h
    cases h
    rw[Lf,<-qJ e2]
    simp[hV,e]
theorem ED {K:K_} {H F:Hp} (s:bd F H):∀{ds:List D} {ks:List Int} {vs:List V},fj ds=some ks->Reps K F vs ds->kI H vs ks:=by
 intro ds
 induction ds with
 |nil=>intro ks vs h r;cases r.nilI;cases h;exact .nil
 |cons d r ih=>
  intro ks vs h rr
  replace h:((tO d).bind λk=>(fj r).map (k::·))=some ks:=h
  obtain⟨v0,us,rfl,rv,t⟩:=rr.consI
  obtain⟨k,ds,rfl⟩:∃k ds,d= .tup (.int k::ds):=by
   cases d with
   |tup xs=>
    cases xs with
    |nil=>cases h
    |cons x xs=>
     cases x with
     |int k=>exact⟨k,xs,rfl⟩
     |_=>cases h
   |_=>cases h
  obtain⟨a0,xs,rfl,h1,r2⟩:=rv.tupI
  obtain⟨k1,a42,rfl,rk,t1⟩:=r2.consI
  cases rk.intI
  ·cases e2:fj r with
   |none=>rw[e2]at h;cases h
   |some q=>
    rw[e2]at h
    cases h
    exact .cons (s _ _ h1) (ih e2 t)
theorem uB {K:K_} {F:Hp} {vs:List V} {ds:List D} (h:Reps K F vs ds):∀q:List Nat,(∀i∈q,i<ds.length)->Reps K F (q.map λi=>vs.getD i .non) (q.map λi=>ds.getD i .non)
 |[],_=> .nil
 |i::q,hq=>by
  have hi:=hq i Lo
  obtain⟨v,h1,h2⟩:=h.get (i:=i) (d:=ds[i]) (LB hi)
  refine .cons ?_ (uB h q λj hj=>hq j (Lp _ hj))
  show dZ K F (vs.getD i .non) (ds.getD i .non)
  rw[Mg,Mg,h1,LB hi]
  exact h2
theorem wQ {ds:List D} {q:List Nat} (p:sq (ds.map hV) q):(q.map λi=>ds.getD i .non)=nH ds:=by
 obtain⟨p1,p2⟩:=p
 rw[L7]at p1
 have hm:∀i∈q,i<ds.length:=λi hi=>ME.mp (p1.mem_iff.mp hi)
 have perm:(q.map λi=>ds.getD i .non).Perm ds:=by
  refine(p1.map λi=>ds.getD i .non).trans ?_
  have e:(LZ ds.length).map (λi=>ds.getD i .non)=ds:=by
   refine RP (by simp) λi h1 h2=> ?_
   simp[h2]
  rw[e]
 symm
 refine wO perm.symm ?_
 rw[Nc]at p2 ⊢
 refine p2.imp_of_mem λ{a b} ha hb z=> ?_
 have ea:(ds.map hV).getD a 0=hV (ds.getD a .non):=by simp[hm a ha]
 have eb:(ds.map hV).getD b 0=hV (ds.getD b .non):=by simp[hm b hb]
 rw[ea,eb]at z
 exact z
def pf:List D->Option D
 |[.lst ds]=>(fj ds).bind λks=>if ks.Nodup/\ks.length<64 then some (.lst (nH ds))else none
 |[.tup ds]=>(fj ds).bind λks=>if ks.Nodup/\ks.length<64 then some (.lst (nH ds))else none
 |_=>none
def ph:List V->Hp->VK->Prop:=λxs H Q=>∃p ys ks,xs=[.ref p]/\(H p=some (.lst ys)\/H p=some (.tup ys))/\kI H ys ks/\ks.Nodup/\ks.length<64/\∀l q,H l=none->sq ks q->Q (.ref l) (ce H l (.lst (q.map λi=>ys.getD i .non)))
theorem sK {K:K_} {H F:Hp} {p:L4} {ys:List V} {ds:List D} {d:D} {Q:VK} (s:bd F H) (hp:H p=some (.lst ys)\/H p=some (.tup ys)) (r:Reps K F ys ds) (h:((fj ds).bind λks=>if ks.Nodup/\ks.length<64 then some (D.lst (nH ds))else none)=some d)
  (k:∀w H' F',cg H F H' F'->dZ K F' w d->Q w H'):ph [.ref p] H Q:=by
 cases e:fj ds with
 |none=>rw[e]at h;cases h
 |some ks=>
  rw[e]at h
  replace h:(if ks.Nodup/\ks.length<64 then some (D.lst (nH ds))else none)=some d:=h
  split at h
  ·rename_i hk
   cases h
   refine⟨p,ys,ks,rfl,hp,ED s e r,hk.1,hk.2,λl q hl pl=> ?_⟩
   have ek:=qJ e
   subst ek
   have e2:=cg.lay (o:= .lst (q.map λi=>ys.getD i .non)) s hl
   refine k _ _ _ e2 (.lst aH ?_)
   rw[<-wQ pl]
   refine(uB r q λi hi=> ?_).mono e2.grow
   have:=ME.mp (pl.1.mem_iff.mp hi)
   simpa using this
  ·cases h
theorem wR {K:K_}:n9 K ph pf:=by
 intro vs ds d H F Q s rv h k
 match ds,h with
 |[.lst xs],h=>
  obtain⟨v,rfl,r⟩:=rv.one
  obtain⟨a,ws,rfl,h1,h2⟩:=r.lst s
  exact sK s (.inl h1) h2 h k
 |[.tup xs],h=>
  obtain⟨v,rfl,r⟩:=rv.one
  obtain⟨a,ws,rfl,h1,h2⟩:=r.tup s
  exact sK s (.inr h1) h2 h k
def ig (ds:List D):Option D:=match j9 ds with
 |some d=>some d
 |none=>pf ds
theorem kP {X:Cx} (hc:X.calm=true):d_ X (.builtin "sorted") (λxs H Q=>pb X.K xs H Q\/ph xs H Q):=(vg hc).or v3
theorem lY {K:K_}:n9 K (λxs H Q=>pb K xs H Q\/ph xs H Q) ig:=by
 intro vs ds d H F Q s rv h k
 unfold ig at h
 cases e:j9 ds with
 |some d'=>rw[e]at h;cases h;exact .inl (wK vs ds d H F Q s rv e k)
 |none=>rw[e]at h;exact .inr (wR vs ds d H F Q s rv h k)
def tN (K:K_) (c:dM ly) (f:ag->R D):TE:=λσ H Q=>∃F ρ,RI K c ρ σ H F/\aL c (f ρ) λd=>∀a o H' F',cg H F H' F'->H a=none->H' a=some o->F' a=none->j0 K F' o d->Q (.ref a) H'
def PN (ly:List fE) (X:Cx) (e:Lc) (f:ag->R D):Prop:=∀c:j3 ly X,PE X e (tN X.K c.1 f)
def FC (K:K_) (r:R2) (g:D->D->Option D):Prop:=∀v u x y d H F Q,bd F H->di K H F v x->di K H F u y->g x y=some d->(∀a o,H a=none->j0 K F o d->Q (.ref a) (ce H a o))->r v u H Q
section
variable {X:Cx} {a b e:Lc} {es:List Lc} {fa fb f:ag->R D} {fs:ag->R (List D)} {pos p:LR} {x:L3} {id T:String} {rc:List V->Hp->VK->Prop}
theorem zy {K:K_} {H F H1 F1:Hp} {d:D} {Q:VK} (e1:cg H F H1 F1) (k:∀a o H' F',cg H F H' F'->H a=none->H' a=some o->F' a=none->j0 K F' o d->Q (.ref a) H'):∀a o,H1 a=none->j0 K F1 o d->Q (.ref a) (ce H1 a o):=
 λa o ha r=>k a o (ce H1 a o) F1 (e1.trans (cg.layOwn e1.sub ha)) (e1.keep.free ha) aH (e1.sub.free ha) r
theorem IX {op:Operator} {r:R2} {g:D->D->Option D} (ho:lG X (MS op) r) (WO:FC X.K r g) (ha:PB ly X a fa) (hb:PB ly X b fb):PN ly X (.BinOp a op b pos) (f2 g fa fb):=λc=>
 PE.weak (Fd ho (ha c) (hb c)) λσ H Q ⟨F,ρ,ri,w⟩=>⟨F,ρ,ri,(aL.bind.mp w).imp λx hx w1 v H1 F1 e1 r1=>⟨F1,ρ,ri.step e1,(aL.bind.mp w1).imp λy hy w2 u H2 F2 e2 r2=>by
  obtain⟨d,hd,k⟩:=w2.of
  exact WO v u x y d H2 F2 Q (e1.trans e2).sub (r1.mono e2) r2 hd (zy (e1.trans e2) k)⟩⟩
def wU (i:Nat) (f:ag->R D):ag->R bq:=λρ=>f ρ>>=λd=> .ok (.nx (ρ.set i (some (.own d))))
theorem CS (i:Nat) {x:L3} {SY:LR} (hN:X.N.Nodup) (h:PN ly X e f) (hi:X.N[i]? =some x:=by rfl) (hx:A7 X.env.scope x:=by first|exact LW rfl|exact LI rfl) (hs:M6 e (some (.Name x SY)) pos.line X.env=pure false:=by rfl)
  (hf:X.fn x=true\/X.env.scope.names.lookup x=some .local:=by first|exact .inl rfl|exact .inr rfl|assumption) (UI:lA ly i:=by(repeat (first|assumption|exact L2.Pu.fO|refine L2.Pu.eA ⟨by first|decide|simp,by first|decide|simp⟩ ?_))):mP ly X (.Assign [.Name x SY] e pos) (wU i f):=λc=>
 PS.weak (nQ hN hi hx (h c) hs hf) λD σ H ⟨F,ρ,ri,w⟩=>⟨F,ρ,ri,(aL.bind.mp w).imp λd _ w1 a o H1 F1 e1 n1 h1 f1 r1=>by
  refine w1 _ H1 F1 e1.grow ((ri.step e1).setOwn i UI h1 f1 (ri.ext.keep.free n1) r1 (λj d' _ hj ej=> ?_) (ri.celNe e1.keep n1))
  obtain⟨b,o',k1,k2,_⟩:=ri.own j d' hj
  rw[ej]at k1
  cases k1
  rw[n1]at k2
  cases k2⟩
end
section
variable {K:K_}
def wV:D->D->Option D
 | .lst a, .int k=>if k.natAbs<=lim/\a.length*k.toNat<=lim then some (.lst (LD k.toNat a).flatten)else none
 |_,_=>none
theorem CT:FC K Cr wV:=by
 intro v u x y d H F Q s rx ry h k
 unfold wV at h
 split at h
 ·rename_i a j
  split at h
  ·rename_i hl
   cases h
   cases ry.int
   obtain⟨p,vs,rfl,h1,h2⟩:=rx.lst s
   refine .inr ⟨p,j,vs,rfl,rfl,h1,by have:=i6 hl.1;omega,by have:=i6 hl.1;omega,LP (by rw[h2.length];exact hl.2) gC,λl WG=> ?_⟩
   exact k _ _ WG (.lst (h2.rep _))
  ·cases h
 ·cases h
end
end L2.Pu
namespace L2.Pu
open PySem PySem.Spec PyProof.Rows
variable {ly:List fE}
structure dP (K:K_) (cls m qual:L3) (st:Lw) (ps:List L3):Prop where
 ex:∃C f fd,zf K m qual st f fd/\jD K cls C/\xO K C m f/\gk K fd ps []
structure qe (K:K_) (mg:L3->Option L0) (cls qual:L3) (st:Lw) (ps:List L3) (fs:List L3):Prop where
 ex:∃C f fd,zf K "__init__" qual st f fd/\jD K cls C/\mg cls=some (.ref C)/\Mk K C f/\gk K fd ps []/\∀x∈fs,eF K C x
structure cF (K:K_) (cls:L3) (fs:List L3):Prop where
 ex:∃C,jD K cls C/\∀x∈fs,eF K C x
section
variable {P:Ll} {w:Ly} {K:K_} {mg:L3->Option L0} {base:Lr}
theorem fq {cls mm qual:L3} {st:Lw} {N ps:List L3} {k n m:Nat} {g:ag->R bq} (A:dP K cls mm qual st ps) (S:aC N ps (al st)) (hn:ps.length=n) (hm:N.length=m)
  (T2:∀(f:L4) (SE:L0) (A:LF) (outer:List MM) (s:L5) (H:Hp) (E:XK),c_ k (A.deeper (MO qual (al st) s.heap.objs.size f SE))->
   jy [] (iZ (lz P w) P w K mg base N qual (al st) f SE A outer s H E) (bK st) g):bZ P w K mg base (k+1) cls mm n (bi n m g):=by
 obtain⟨C,f,fd,F,h1,h2,h3⟩:=A.ex
 exact⟨C,f,fd,ps,GD F S hn hm λSE A outer s H E hr=>T2 f SE A outer s H E hr,h1,h2,h3⟩
theorem uC {cls qual:L3} {st:Lw} {N ps fs:List L3} {k n m:Nat} {fl:List (L3×Nat)} {g:ag->R bq} (A:qe K mg cls qual st ps fs) (S:aC N ps (al st)) (hn:ps.length=n+1) (hm:N.length=m+1) (hg:∀p∈fl,n<p.2) (XQ:n<=m)
  (T2:∀(C f:L4) (SE:L0) (A:LF) (outer:List MM) (s:L5) (H:Hp) (E:XK),w9 K C->(∀x∈fs,eF K C x)->c_ k (A.deeper (MO qual (al st) s.heap.objs.size f SE))->
   jy [⟨0,C,fl⟩] (iZ (lz P w) P w K mg base N qual (al st) f SE A outer s H E) (bK st) g):hU P w K mg base (k+1) cls n (mU n m fl g):=by
 obtain⟨C,f,fd,F,h1,h2,h3,h4,h5⟩:=A.ex
 exact⟨C,f,fd,ps,EC F S h1.ns hn hm hg XQ λSE A outer s H E hr=>T2 C f SE A outer s H E h1.cl h5 hr,h2,h3,h4⟩
theorem ja {C:L4} {fl:List (L3×Nat)} {f:L3} {i:Nat} (h1:(f,i)∈fl) (h2:∀p∈fl,p.1=f<->p.2=i) (h3:0≠i) (h4:fl.length<1000):CL [⟨0,C,fl⟩] ⟨0,C,fl⟩ f i:=
 ⟨Lo,h1,h2,h3,λM hM UR=>absurd (Lk.mp hM) UR,h4⟩
theorem EE {C:L4} (e1:Mh K C wu "ValueError.__new__"=true) (e2:Lm K (.ref C) "__getattribute__"=some (some (.builtin "BaseException.__getattribute__"))) (e3:Lm K (.ref C) "__getattr__"=some none)
  (e4:Lm K (.ref C) "__class__"=some (some (.builtin "object.__class__"))) (e5:LQ K C (.type "object")=some true) (e6:LQ K C (.type "BaseException")=some true) (e7:NI K (.ref C) (.ref C)=some true)
  (e8:NC K (.builtin "object.__class__") "__get__"=some (some (.builtin "getset_descriptor.__get__"))) (e9:N_ K (.builtin "object.__class__")=some true):v5 K C:=
 ⟨⟨_,_,_,_,e1,F.excBase_ValueError,by decide⟩,e2,e3,e4,e8,e9,e5,e6,e7⟩
theorem yq {D:L4} {XO:List L0} {Yw:String} (e:Mh K D XO Yw=true):((Sh K D).isSome&&Qu K (.ref D)==some (.type "type"))=true:=by
 unfold Mh at e
 split at e
 ·rename_i lk
  unfold Sh Qu
  simp only[lk]
  rfl
 ·cases e
theorem qf {C D:L4} {b:Bool} {XO:List L0} {Yw:String} (e:Mh K D XO Yw=true) (m:LQ K C (.ref D)=some b):NI K (.ref C) (.ref D)=some b:=by
 unfold NI
 dsimp only
 rw[if_pos (yq e)]
 exact m
theorem AM {C D:L4} {b:Bool} {XO:List L0} {Yw:String} (e:Mh K D XO Yw=true) (m:LQ K C (.ref D)=some b) (s:LQ K C (.ref C)=some true):Mf K (.ref C) (.ref D)=some b:=by
 unfold Mf
 split
 ·rename_i h
  have ez:LG C=LG D:=eq_of_beq h
  cases ez
  exact s.symm.trans m
 ·exact qf e m
theorem r0:S4 "ValueError"=true:=by unfold S4;decide+kernel
theorem AN {C:L4} {b:Bool} (m:LQ K C (.type "ValueError")=some b):Mf K (.ref C) (.type "ValueError")=some b:=by
 unfold Mf
 rw[if_neg (by intro h;exact absurd (eq_of_beq h) (λz=>by cases z))]
 unfold NI
 dsimp only
 rw[if_pos r0]
 exact m
theorem AO {C D:L4} {b:Bool} {XO:List L0} {Yw:String} (e:Mh K D XO Yw=true) (m:LQ K C (.ref D)=some b) (mb:LQ K D (.type "BaseException")=some true):NJ K (.ref C) (.ref D)=some b:=by
 unfold NJ
 rw[if_pos (by show (LQ K D (.type "BaseException")==some true)=true;rw[mb];rfl)]
 exact qf e m
def AQ (xs:List L3) (x:L3):Bool:=xs.contains x
theorem CU {cx:L3} {C:L4} {xs:List L3} (hm:mg cx=some (.ref C)) (h:∀x∈xs,∃Ce,Lh K Ld x=some (some (.ref Ce))/\NJ K (.ref Ce) (.ref C)=some true):wM K mg cx (AQ xs):=by
 refine⟨C,hm,λx cls hx ⟨C',e,hc⟩=> ?_⟩
 obtain⟨Ce,h1,h2⟩:=h x (by simpa[AQ]using hx)
 rw[hc]at h1
 cases h1
 rw[e]
 exact h2
def AR (l:List (L3×Bool)) (x:L3):Option Bool:=l.lookup x
theorem uD {α:Type} {x:L3} {b:α}:∀{l:List (L3×α)},l.lookup x=some b->(x,b)∈l
 |(k,v)::r,h=>by
  rw[Mm]at h
  cases e:x==k with
  |true=>rw[e]at h;cases h;cases eq_of_beq e;exact Lo
  |false=>rw[e]at h;exact Lp _ (uD h)
theorem wW {v:L0} {l:List (L3×Bool)} (h:∀p∈l,∃Ce,Lh K Ld p.1=some (some (.ref Ce))/\Mf K (.ref Ce) v=some p.2/\v5 K Ce):qG K v (AR l):=by
 refine⟨λx b cls hb ⟨C',e,hc⟩=> ?_⟩
 obtain⟨Ce,h1,h2,h3⟩:=h _ (uD hb)
 rw[hc]at h1
 cases h1
 subst e
 exact⟨h2,C',rfl,h3⟩
structure eQ (K:K_) (mg:L3->Option L0) (x:L3) (tb:L3->Option Bool):Prop where
 ex:∃C,mg x=some (.ref C)/\qG K (.ref C) tb
end
section
variable {X:Cx} {a e o:Lc} {es:List Lc} {fa f fo:ag->R D} {fs:ag->R (List D)} {cls fld x m:L3} {p p2 pos SQ:LR} {xs:List L3} {tb:L3->Option Bool}
theorem bv (T:cF X.K cls xs) (hf:fld∈xs) (ha:PB ly X a fa) (hb:LY a fld X.env (Ls a X.env)=Ls a X.env:=by rfl):PQ ly X (.Attribute a fld pos) (cE cls fld fa):=by
 obtain⟨C,h1,h2⟩:=T.ex
 exact IQ h1 (h2 fld hf) ha hb
theorem eV (T:eQ X.K X.mg x tb) (XU:X.mg "isinstance"=none) (ha:PB ly X a fa) (Yt:Gl X "isinstance":=by rfl) (hg:Gl X x:=by rfl) (Um:(x==("__debug__":L3))=false:=by decide)
  (he:L8 [a, .Name x p2] X.env=(false,Ls a X.env)::L8 [.Name x p2] X.env:=by rfl) (Xu:L8 [.Name x p2] X.env=(false,Ls (.Name x p2) X.env)::L8 [] X.env:=by rfl) (U0:(LK pos (L8 [.Name x p2] X.env)).any (·.1)=false:=by rfl):
  PQ ly X (.Call (.Name "isinstance" p) [a, .Name x p2] [] pos) (jz tb fa):=by
 obtain⟨C,h1,h2⟩:=T.ex
 exact IW h2 h1 XU ha Yt hg Um he Xu U0
def ii (f:ag->R D):ag->R bq:=λρ=>f ρ>>=λ_=> .ok (.nx ρ)
theorem kQ (h:PQ ly X e f) (Wn:M6 e none pos.line X.env=pure false:=by rfl):mP ly X (.Expr e pos) (ii f):=λc=>
 PS.weak (oI (h c) Wn) λD σ H ⟨F,ρ,ri,w⟩=>⟨F,ρ,ri,(aL.bind.mp w).imp λd _ w1 v H1 F1 e1 r1=>w1 σ H1 F1 e1.grow (ri.step e1)⟩
end
theorem GV {P:Ll} {w:Ly} {outer:List MM} {H:Hp} {s s':L5} {e:L0} (h:lz P w outer H s (λ_ _ _=>False) e s'):False:=by
 obtain⟨_,_,_,_,_,_,_,_,_,z⟩:=h
 exact z
theorem r8:LS "ValueError"=some (.type "ValueError"):=by decide+kernel
end L2.Pu
namespace L2.Pu
open PySem PySem.Spec PyProof.Rows
variable {ly:List fE}
theorem RI.up {K:K_} {c:dM ly} {ρ:ag} {σ:St} {H F H':Hp} (r:RI K c ρ σ H F) (e:bd H H'):RI K c ρ σ H' F:=r.step ⟨r.sub.trans e,e,bd.refl _,λ_ h=> .inl h⟩
def o1:D->Bool
 | .non=>true
 | .bl _=>true
 | .int _=>true
 | .str _=>true
 |_=>false
theorem wX {K:K_} {F F':Hp} {v:V} {d:D} (h:o1 d=true) (r:dZ K F v d):dZ K F' v d:=by
 cases r with
 |non=>exact .non
 |bl b=>exact .bl b
 |int i=>exact .int i
 |str x=>exact .str x
 |_=>cases h
theorem AS {K:K_} {F F':Hp} {vs:List V} {ds:List D} (h:ds.all o1=true) (g:Reps K F vs ds):Reps K F' vs ds:=by
 induction ds generalizing vs with
 |nil=>rw[g.nilI];exact .nil
 |cons d ds ih=>
  obtain⟨w,us,e0,r,t⟩:=g.consI
  rw[Mp,Mb]at h
  rw[e0]
  exact .cons (wX h.1 r) (ih h.2 t)
section
variable {X:Cx} {e:Lc} {es:List Lc} {f:ag->R D} {g:ag->R Bool} {pos:LR}
def zA (L:List Nat) (f:ag->R D):ag->R D:=λρ=>f (frz L ρ)>>=λd=>if o1 d=true then .ok d else .bad
theorem wY {H F H':Hp} (s:bd F H) (e:bd H H'):cg H F H' F:=⟨s.trans e,e,bd.refl _,λ_ h=> .inl h⟩
theorem GW (L:List Nat) (h:PQ ly X e f):PQ ly X e (zA L f):=λc=>PE.weak (h c) λσ H Q ⟨F,ρ,ri,w⟩=>by
 obtain⟨F',s,U2⟩:=ri.frz L
 refine⟨F',_,U2,(aL.bind.mp w).imp λd _ w1 v H1 F1 e1 r1=> ?_⟩
 split at w1
 ·rename_i hd
  exact w1 v H1 F (wY ri.sub e1.keep) (wX hd r1)
 ·exact w1.elim
def CV (L:List Nat) (f:ag->R D) (n:Nat) (gs:List D->ag->R ag):ag->R bq:=λρ=>f (frz L ρ)>>=λd=>match d with
 | .lst ds=>if ds.length=n/\ds.all o1=true then (gs ds ρ>>=λρ'=> .ok (.nx ρ'))else .bad
 | .tup ds=>if ds.length=n/\ds.all o1=true then (gs ds ρ>>=λρ'=> .ok (.nx ρ'))else .bad
 |_=> .bad
theorem GX (L:List Nat) {k n:Nat} {pt:LR} {gs:List D->ag->R ag} (hc:X.calm=true) (he:PQ ly X e f) (h:Cg ly X es gs) (hn:(M9 es X.env).length=n:=by rfl) (Vr:(M9 es X.env).findIdx? (·.1)=none:=by rfl)
  (hs:P2 [.Tuple es k pt] e pos.line X.env=pure false:=by rfl) (hw:P4 [.Tuple es k pt] e X.env=pure none:=by rfl)
  (h1:(M9 [.Tuple es k pt] X.env).map (·.2)=[NR (.Tuple es k pt) X.env]:=by rfl):mP ly X (.Assign [.Tuple es k pt] e pos) (CV L f n gs):=λc=>
 PS.weak (xJ (he c) (PG.or (Bz hc (h c) hn Vr) (C1 hc (h c) hn Vr)) hs hw h1) λD σ H ⟨F,ρ,ri,w⟩=>by
  obtain⟨F',s,U2⟩:=ri.frz L
  refine⟨F',_,U2,(aL.bind.mp w).imp λd _ w1 v H1 F1 e1 r1=> ?_⟩
  have SN:∀{ds:List L2.Pu.D} {vs:List V},Reps X.K F1 vs ds->aL c.1 (if ds.length=n/\ds.all o1=true then (gs ds ρ>>=λρ'=>R.ok (bq.nx ρ'))else .bad) (gE X.K c.1 F D)->
    vs.length=n/\Ki X.K c.1 gs vs σ H1 (λσ' H'=>D.nx σ' H'):=by
   intro ds vs r2 w2
   split at w2
   ·rename_i hl
    refine⟨by rw[r2.length];exact hl.1,F,ρ,ds,ri.up e1.keep,AS hl.2 r2,(aL.bind.mp w2).imp λρ' _ w3 σ' H' F2 s2 r'=>w3 σ' H' F2 s2 r'⟩
   ·exact w2.elim
  cases r1 with
  | @tup a vs ds g1 g2=>
   obtain⟨k1,k2⟩:=SN g2 w1
   exact .inl ⟨a,vs,rfl,iY.of (e1.sub _ _ g1),k1,k2⟩
  | @lst a vs ds g1 g2=>
   obtain⟨k1,k2⟩:=SN g2 w1
   exact .inr ⟨a,vs,rfl,dC.of (e1.sub _ _ g1),k1,k2⟩
  |_=>exact w1.elim
end
section
variable {X:Cx} {e:Lc} {f:ag->R D} {pos:LR}
end
end L2.Pu
namespace L2
open PySem PySem.Spec PyProof.Rows
def wZ:List V->List V->Bool
 |[],[]=>true
 |x::xs,y::ys=>Bk x y&&wZ xs ys
 |_,_=>false
theorem w_:∀{xs ys:List V},xs.length≠ys.length->wZ xs ys=false
 |[],[],h=>absurd rfl h
 |[],_::_,_=>rfl
 |_::_,[],_=>rfl
 |x::xs,y::ys,h=>by
  rw[wZ,w_ (λz=>h (by rw[Lu,Lu,z])),Qw]
theorem x4:∀{xs ys:List V},xs.length=ys.length->(LZ xs.length).all (λj=>Bk (xs.getD j .non) (ys.getD j .non))=wZ xs ys
 |[],[],_=>rfl
 |x::xs,y::ys,h=>by
  have h':xs.length=ys.length:=by simpa using h
  rw[Lu,List.range_succ_eq_map,Mp,List.all_map,wZ,<-x4 h']
  rfl
def GY (K:K_):R2:=λx y H Q=>∃p q xs ys,x= .ref p/\y= .ref q/\dC K H p xs/\dC K H q ys/\xs.all iI=true/\ys.all iI=true/\Q (.bl (wZ xs ys)) H
theorem bp.getR {xs:List V} {us:List L0} (r:bp xs us):∀(j:Nat) (h:j<us.length),bW (xs.getD j .non) us[j]:=by
 induction r with
 |nil=>intro j h;cases h
 |cons r t ih=>
  intro j h
  cases j with
  |zero=>exact r
  |succ j=>exact ih j (by simpa using h)
theorem x5 {xs:List V} (h:xs.all iI=true) (j:Nat):iI (xs.getD j .non)=true:=by
 rw[Mg]
 cases e:xs[j]? with
 |none=>rfl
 |some x=>exact Nk.mp h x (Mx e)
theorem GZ {X:Cx} (hu:X.A.units+1<Nf):lG X (Mv .Eq) (GY X.K):=by
 intro Sv s σ H x y v u Q I rx ry h
 obtain⟨p,q,xs,ys,rfl,rfl,h1,h2,f1,f2,k⟩:=h
 cases rx
 cases ry
 obtain⟨its,r,pl,hz⟩:=I.list h1
 obtain⟨Vb,r2,Zp,a2p⟩:=I.list h2
 have l1:=r.length
 have l2:=r2.length
 by_cases hl:its.length=Vb.length
 ·refine SeqAt.eq_listAt (e:=λj=>Bk (xs.getD j .non) (ys.getD j .non)) pl.isList Zp.isList (by simpa using hl) (by omega) (λj a b=> ?_) ⟨.bl _,H,I,rfl,?_⟩
  ·have a':j<its.length:=by simpa using a
   have b':j<Vb.length:=by simpa using b
   simpa using BQ (r.getR j a') (r2.getR j b') (x5 f1 j) (x5 f2 j)
  ·have hx:its.toArray.size=xs.length:=by simpa using l1.symm
   rw[hx,x4 (by omega)]
   exact k
 ·refine SeqAt.eq_list_lengthsAt pl.isList Zp.isList (by simpa using hl) (by omega) ⟨.bl false,H,I,rfl,?_⟩
  rw[w_ (by omega)]at k
  exact k
section
variable {X:Cx} {tg:Lc}
end
end L2
namespace L2.Pu
open PySem PySem.Spec PyProof.Rows
variable {ly:List fE}
def CW:List D->List D->Bool
 |[],[]=>true
 |x::xs,y::ys=>HG x y&&CW xs ys
 |_,_=>false
def AT (x y:D):Option D:=match x,y with
 | .lst a, .lst b=>if a.all j8=true/\b.all j8=true then some (.bl (CW a b))else none
 |x,y=>dq x y
theorem Reps.eqs {K:K_} {F:Hp}:∀{vs us:List V} {ds es:List D},Reps K F vs ds->Reps K F us es->ds.all j8=true->es.all j8=true->wZ vs us=CW ds es
 |_,_,_,_, .nil, .nil,_,_=>rfl
 |_,_,_,_, .nil, .cons _ _,_,_=>rfl
 |_,_,_,_, .cons _ _, .nil,_,_=>rfl
 |_,_,_,_, .cons r t, .cons r' t',h,h'=>by
  rw[Mp,Mb]at h h'
  rw[wZ,CW,Cu r r' h.1 h'.1,Reps.eqs t t' h.2 h'.2]
theorem EF {K:K_}:kh K (λx y H Q=>Jm x y H Q\/GY K x y H Q) AT:=by
 intro v u x y d H F Q s rx ry h k
 unfold AT at h
 split at h
 ·split at h
  ·rename_i a b hf
   cases h
   obtain⟨p,vs,rfl,h1,h2⟩:=rx.lst s
   obtain⟨q,us,rfl,h3,h4⟩:=ry.lst s
   refine .inr ⟨p,q,vs,us,rfl,rfl,dC.of h1,dC.of h3,h2.flat hf.1,h4.flat hf.2,?_⟩
   rw[Reps.eqs h2 h4 hf.1 hf.2]
   exact k _ H F (cg.refl s) (.bl _)
  ·cases h
 ·exact .inl (bg v u x y d H F Q s rx ry h k)
theorem G_ {X:Cx} (hu:X.A.units+1<Nf):lG X (Mv .Eq) (λx y H Q=>Jm x y H Q\/GY X.K x y H Q):=bN.or (GZ hu)
section
variable {X:Cx} {a b d:Lc} {fs:ag->R (List D)} {pos:LR}
end
end L2.Pu
namespace L2
open PySem PySem.Spec PyProof.Rows
end L2
namespace L2.Pu
open PySem PySem.Spec PyProof.Rows
variable {ly:List fE}
end L2.Pu
namespace L2.Pu
section
variable {α:Type} {P:List α->Prop}
theorem Kn (h:P []):∀us:List α,us.length=0->P us:=λus e=>by
 rw[M_.mp e];exact h
theorem IY {n:Nat} (h:∀a us,us.length=n->P (a::us)):∀us:List α,us.length=n+1->P us:=λus e=>by
 cases us with
 |nil=>cases e
 |cons a us=>exact h a us (Nat.succ.inj e)
theorem Ko (h:∀a,P [a]):∀us:List α,us.length=1->P us:=IY λa=>Kn (P:=λus=>P (a::us)) (h a)
theorem Kp (h:∀a b,P [a,b]):∀us:List α,us.length=2->P us:=IY λa=>Ko (P:=λus=>P (a::us)) (h a)
theorem Kq (h:∀a b c,P [a,b,c]):∀us:List α,us.length=3->P us:=IY λa=>Kp (P:=λus=>P (a::us)) (h a)
theorem Kr (h:∀a b c d,P [a,b,c,d]):∀us:List α,us.length=4->P us:=IY λa=>Kq (P:=λus=>P (a::us)) (h a)
theorem KQ (h:∀a b c d e,P [a,b,c,d,e]):∀us:List α,us.length=5->P us:=IY λa=>Kr (P:=λus=>P (a::us)) (h a)
end
end L2.Pu
namespace L2
open PySem PySem.Spec PyProof.Rows
end L2
namespace L2.Pu
open PySem PySem.Spec PyProof.Rows
variable {ly:List fE}
end L2.Pu
namespace L2.Pu
open PySem PySem.Spec PyProof.Rows
variable {ly:List fE}
def Slot.kind:Slot->Nat
 | .own _=>1
 | .cel .. =>2
 |_=>0
def ft (ρ:ag):List Nat->Option (List Slot)
 |[]=>some []
 |i::r=>match ρ[i]? with
  |some (some s)=>(ft ρ r).map λt=>s::t
  |_=>none
def vi (ρ:ag):List Nat->List Slot->ag
 |i::is,s::ss=>vi (ρ.set i (some s)) is ss
 |_,_=>ρ
theorem x6:∀(is:List Nat) (ss:List Slot) (ρ:ag),(vi ρ is ss).length=ρ.length
 |[],ss,ρ=>by cases ss<;>rfl
 |i::is,[],ρ=>rfl
 |i::is,s::ss,ρ=>by
  show (vi (ρ.set i (some s)) is ss).length=_
  rw[x6 is ss];simp
theorem xa:∀{is:List Nat} {ss:List Slot} {ρ:ag} {j:Nat} {s:Slot},is.Nodup->ss.length=is.length->(vi ρ is ss)[j]? =some (some s)->(∃k:Nat,is[k]? =some j/\ss[k]? =some s)\/(j∉is/\ρ[j]? =some (some s))
 |[],ss,ρ,j,s,_,_,h=>by
  refine .inr ⟨by simp,?_⟩
  cases ss<;>exact h
 |i::is,[],ρ,j,s,_,hl,h=>by simp at hl
 |i::is,t::ss,ρ,j,s,nd,hl,h=>by
  obtain⟨n1,n2⟩:=Nu.mp nd
  rcases xa (ρ:=ρ.set i (some t)) n2 (by simpa using hl) h with ⟨k,h1,h2⟩|⟨h1,h2⟩
  ·exact .inl ⟨k+1,h1,h2⟩
  ·rcases aB h2 with ⟨rfl,z,_⟩|⟨z,h2⟩
   ·cases z;exact .inl ⟨0,rfl,rfl⟩
   ·exact .inr ⟨λm=>(Li.mp m).elim (λq=>z q.symm) h1,h2⟩
inductive At (ρ:ag) (σ:St):List Nat->List Slot->List L4->Prop
 |nil:At ρ σ [] [] []
 |cons {i:Nat} {s:Slot} {a:L4} {is:List Nat} {ss:List Slot} {as:List L4}:ρ[i]? =some (some s)->s.kind≠0->σ[i]? =some (some (.ref a))->At ρ σ is ss as->At ρ σ (i::is) (s::ss) (a::as)
theorem At.idx {ρ:ag} {σ:St} {is:List Nat} {ss:List Slot} {as:List L4} (h:At ρ σ is ss as):∀{k i:Nat},is[k]? =some i->∃s a,ss[k]? =some s/\as[k]? =some a/\ρ[i]? =some (some s)/\s.kind≠0/\σ[i]? =some (some (.ref a)):=by
 induction h with
 |nil=>intro k i e;simp at e
 |cons h1 h2 h3 _ ih=>
  intro k i e
  cases k with
  |zero=>cases e;exact⟨_,_,rfl,rfl,h1,h2,h3⟩
  |succ k=>exact ih e
theorem At.lens {ρ:ag} {σ:St} {is:List Nat} {ss:List Slot} {as:List L4} (h:At ρ σ is ss as):ss.length=is.length/\as.length=is.length:=by
 induction h with
 |nil=>exact⟨rfl,rfl⟩
 |cons _ _ _ _ ih=>exact⟨by simp[ih.1],by simp[ih.2]⟩
theorem At.get {ρ:ag} {σ:St} {is:List Nat} {ss:List Slot} {as:List L4} (h:At ρ σ is ss as) {k:Nat} {s:Slot} (e:ss[k]? =some s):∃i a,is[k]? =some i/\as[k]? =some a/\ρ[i]? =some (some s)/\s.kind≠0/\σ[i]? =some (some (.ref a)):=by
 have hk:k<is.length:=by rw[<-h.lens.1];exact(Lq.mp e).1
 obtain⟨s',a,h1,h2,h3⟩:=h.idx (k:=k) (i:=is[k]) (by simp[hk])
 rw[e]at h1
 cases h1
 exact⟨is[k],a,by simp[hk],h2,h3⟩
def gr (H:Hp) (ρ:ag) (σ:St) (i:Nat) (z:L4):Prop:=
 (∃d,ρ[i]? =some (some (.own d))/\σ[i]? =some (some (.ref z)))\/∃x SH f hs a C dx fs,ρ[i]? =some (some (.cel x SH f hs))/\σ[i]? =some (some (.ref a))/\H a=some (.ins C dx fs)/\(z=a\/z=dx\/fs.lookup f=some (.ref z))
open Classical in
noncomputable def kR (H:Hp) (ρ:ag) (σ:St) (is:List Nat):Hp:=λz=>if ∃i∈is,gr H ρ σ i z then none else H z
theorem lZ {H:Hp} {ρ:ag} {σ:St} {is:List Nat} {z:L4} {i:Nat} (hi:i∈is) (h:gr H ρ σ i z):kR H ρ σ is z=none:=if_pos ⟨i,hi,h⟩
theorem EG {H:Hp} {ρ:ag} {σ:St} {is:List Nat} {z:L4} (h:∀i∈is,¬gr H ρ σ i z):kR H ρ σ is z=H z:=if_neg λ⟨i,hi,o⟩=>h i hi o
theorem uE {H:Hp} {ρ:ag} {σ:St} {is:List Nat} {z:L4} {u:HO} (h:kR H ρ σ is z=some u):H z=some u:=by
 unfold kR at h
 split at h
 ·cases h
 ·exact h
section
variable {K:K_} {c:dM ly} {ρ:ag} {σ:St} {H F:Hp} {i j:Nat} {z:L4}
theorem RI.celIn (r:RI K c ρ σ H F) {x:L3} {SH:List (L3×D)} {f:L3} {hs:List D} {a:L4} {C dx:L4} {fs:List (L3×V)} (h1:ρ[i]? =some (some (.cel x SH f hs))) (h2:σ[i]? =some (some (.ref a))) (h3:H a=some (.ins C dx fs)):
  ∃b,lK K c.H0 H F a dx b x SH f hs/\fs.lookup f=some (.ref b)/\∀(j:Nat) d,ρ[j]? =some (some (.own d))->σ[j]? ≠some (some (.ref b)):=by
 obtain⟨a',Y8,b,k1,k2,k3⟩:=r.cel.ex i x SH f hs h1
 rw[h2]at k1
 cases k1
 obtain⟨C',VW,vs,us,g1,g2,g3,g4⟩:=k2.ex
 rw[h3]at g1
 cases g1
 exact⟨b,k2,g3,k3⟩
theorem RI.owns (r:RI K c ρ σ H F) (o:gr H ρ σ i z):c.H0 z=none/\F z=none/\∃u,H z=some u:=by
 rcases o with ⟨d,h1,h2⟩|⟨x,SH,f,hs,a,C,dx,fs,h1,h2,h3,h4⟩
 ·obtain⟨p,u,k1,k2,k3,k4,_⟩:=r.own i d h1
  rw[h2]at k1
  cases k1
  exact⟨k4,k3,u,k2⟩
 ·obtain⟨b,k1,k2,_⟩:=r.celIn h1 h2 h3
  rcases h4 with rfl|rfl|h4
  ·exact⟨k1.za,k1.fa,_,h3⟩
  ·exact⟨k1.zd,k1.fd,_,k1.own⟩
  ·rw[k2]at h4
   cases h4
   obtain⟨C',VW,vs,us,g1,g2,g3,g4,_⟩:=k1.ex
   exact⟨k1.zb,k1.fb,_,g4⟩
theorem RI.owns_inj (r:RI K c ρ σ H F) (o:gr H ρ σ i z) (o':gr H ρ σ j z):i=j:=by
 have oc:∀{i j:Nat},(∃d,ρ[i]? =some (some (.own d))/\σ[i]? =some (some (.ref z)))->(∃x SH f hs a C dx fs,ρ[j]? =some (some (.cel x SH f hs))/\σ[j]? =some (some (.ref a))/\H a=some (.ins C dx fs)/\(z=a\/z=dx\/fs.lookup f=some (.ref z)))->False:=by
  rintro i j ⟨d,h1,h2⟩ ⟨x,SH,f,hs,a,C,dx,fs,k1,k2,k3,k4⟩
  obtain⟨p,u,g1,g2,g3,g4,g5⟩:=r.own i d h1
  rw[h2]at g1
  cases g1
  obtain⟨b,m1,m2,m3⟩:=r.celIn k1 k2 k3
  rcases k4 with rfl|rfl|k4
  ·rw[k3]at g2;cases g2;cases g5
  ·rw[m1.own]at g2;cases g2;cases g5
  ·rw[m2]at k4;cases k4;exact m3 i d h1 h2
 rcases o with h|h
 ·rcases o' with k|k
  ·obtain⟨d,h1,h2⟩:=h
   obtain⟨d',k1,k2⟩:=k
   exact r.dis i j d d' z h1 k1 h2 k2
  ·exact(oc h k).elim
 ·rcases o' with k|k
  ·exact(oc k h).elim
  ·obtain⟨x,SH,f,hs,a,C,dx,fs,h1,_⟩:=h
   obtain⟨x',Xk,f',T3,a',C',Y8,VW,k1,_⟩:=k
   exact r.cel.one i j x SH f hs _ h1 k1 rfl
end
abbrev MC (Hz F:Hp):dM []:=⟨Hz,F,λ_=>none,λ_ _=>False,λ_=>none,λ_=>none⟩
def EH (K:K_) (Hz F:Hp) (ss:List Slot) (as:List L4) (H' F':Hp):Prop:=RI K (MC Hz F) (ss.map some) (as.map λa=>some (.ref a)) H' F'
theorem map_some {α β:Type} {l:List α} {g:α->β} {k:Nat} {b:β} (h:(l.map g)[k]? =some b):∃a,l[k]? =some a/\g a=b:=by
 rw[Lx]at h
 cases e:l[k]? with
 |none=>rw[e]at h;cases h
 |some a=>rw[e]at h;exact⟨a,rfl,by simpa using h⟩
theorem mV {α β:Type} {l:List α} {g:α->β} {k:Nat} {a:α} (h:l[k]? =some a):(l.map g)[k]? =some (g a):=by rw[Lx,h];rfl
theorem CY {is:List Nat} (nd:is.Nodup) {k k' i:Nat} (h:is[k]? =some i) (h':is[k']? =some i):k=k':=by
 obtain⟨l,e⟩:=Lq.mp h
 obtain⟨l',e'⟩:=Lq.mp h'
 exact(Px nd).mp (e.trans e'.symm)
section
variable {K:K_} {c:dM ly} {ρ:ag} {σ:St} {H F H' F':Hp} {is:List Nat} {ss ss':List Slot} {as:List L4}
theorem RI.split (r:RI K c ρ σ H F) (A:At ρ σ is ss as) (nd:is.Nodup):EH K (kR H ρ σ is) F ss as H F:=by
 have got:∀{k:Nat} {s:Slot},(ss.map some)[k]? =some (some s)->∃i a,is[k]? =some i/\as[k]? =some a/\ρ[i]? =some (some s)/\s.kind≠0/\σ[i]? =some (some (.ref a)):=λ{k s} h=>by
  obtain⟨s',h1,h2⟩:=map_some h
  cases h2
  exact A.get h1
 have W7:∀{k:Nat} {a:L4},as[k]? =some a->(as.map λa=>some (V.ref a))[k]? =some (some (.ref a)):=λh=>mV h
 have a0P:∀{k:Nat} {a a':L4},as[k]? =some a->(as.map λa=>some (V.ref a))[k]? =some (some (.ref a'))->a=a':=λ{k a a'} h h'=>by
  rw[W7 h]at h';cases h';rfl
 refine⟨⟨r.sub,λz u e=>uE e,bd.refl _,λ_ h=> .inl h⟩,λk d h=> ?_,λk d h=> ?_,λk d h=> ?_,(λ_ _ e=>by cases e),λk k' d d' a h h' e e'=> ?_,?_,(λL h=>by cases h),(λL h=>by cases h),(λ_ _ e=>by cases e),⟨λk x SH f hs h=> ?_,λk k' x SH f hs s h h' T3=> ?_⟩,(λL h=>by cases h)⟩
 ·obtain⟨i,a,_,_,_,z,_⟩:=got h;exact absurd rfl z
 ·obtain⟨i,a,h1,h2,h3,h4,h5⟩:=got h
  obtain⟨p,u,k1,k2,k3,k4,k5⟩:=r.own i d h3
  rw[h5]at k1
  cases k1
  exact⟨a,u,W7 h2,k2,k3,lZ (Mx h1) (.inl ⟨d,h3,h5⟩),k5⟩
 ·obtain⟨i,a,_,_,_,z,_⟩:=got h;exact absurd rfl z
 ·obtain⟨i1,a1,h1,h2,h3,h4,h5⟩:=got h
  obtain⟨i2,a2,g1,g2,g3,g4,g5⟩:=got h'
  cases a0P h2 e
  cases a0P g2 e'
  cases r.dis i1 i2 d d' _ h3 g3 h5 g5
  exact CY nd h1 g1
 ·simp only[L7];rw[A.lens.1,A.lens.2]
 ·obtain⟨i,a,h1,h2,h3,h4,h5⟩:=got h
  obtain⟨a',dx,b,k1,k2,k3⟩:=r.cel.ex i x SH f hs h3
  rw[h5]at k1
  cases k1
  have Zq:=k2
  obtain⟨C,fs,vs,us,g1,g2,g3,g4⟩:=k2.ex
  have o:∀z,(z=a\/z=dx\/fs.lookup f=some (.ref z))->kR H ρ σ is z=none:=λz hz=>lZ (Mx h1) (.inr ⟨x,SH,f,hs,a,C,dx,fs,h3,h5,g1,hz⟩)
  refine⟨a,dx,b,W7 h2,⟨k2.ex,k2.own,k2.fa,k2.fd,k2.fb,o a (.inl rfl),o dx (.inr (.inl rfl)),o b (.inr (.inr g3))⟩,λk' d h' e=> ?_⟩
  obtain⟨i2,a2,m1,m2,m3,m4,m5⟩:=got h'
  cases a0P m2 e
  exact k3 i2 d m3 m5
 ·obtain⟨i1,a1,h1,h2,h3,h4,h5⟩:=got h
  obtain⟨i2,a2,g1,g2,g3,g4,g5⟩:=got h'
  cases r.cel.one i1 i2 x SH f hs s h3 g3 T3
  exact CY nd h1 g1
theorem CZ {s:Slot} (h:s.kind=2):∃x SH f hs,s= .cel x SH f hs:=by cases s<;>first|exact⟨_,_,_,_,rfl⟩|cases h
theorem RI.join (r:RI K c ρ σ H F) (A:At ρ σ is ss as) (nd:is.Nodup) (m:EH K (kR H ρ σ is) F ss' as H' F') (hk:ss'.map Slot.kind=ss.map Slot.kind):RI K c (vi ρ is ss') σ H' F':=by
 have hl:ss'.length=is.length:=by rw[<-A.lens.1,<-L7 (f:=Slot.kind),hk,L7]
 have UG:∀{k:Nat} {s:Slot},ss'[k]? =some s->∃s0 i a,is[k]? =some i/\as[k]? =some a/\ρ[i]? =some (some s0)/\s0.kind=s.kind/\s.kind≠0/\σ[i]? =some (some (.ref a)):=λ{k s} h=>by
  have h1:(ss.map Slot.kind)[k]? =some s.kind:=by rw[<-hk];exact mV h
  obtain⟨s0,g1,g2⟩:=map_some h1
  obtain⟨i,a,k1,k2,k3,k4,k5⟩:=A.get g1
  exact⟨s0,i,a,k1,k2,k3,g2,by rw[<-g2];exact k4,k5⟩
 have ms:∀{k:Nat} {s:Slot},ss'[k]? =some s->(ss'.map some)[k]? =some (some s):=λh=>mV h
 have W7:∀{k:Nat} {a:L4},as[k]? =some a->(as.map λa=>some (V.ref a))[k]? =some (some (.ref a)):=λh=>mV h
 have hz:∀{z:L4},kR H ρ σ is z=none->c.H0 z=none:=λ{z} e=>by
  unfold kR at e
  split at e
  ·rename_i h
   obtain⟨i,hi,o⟩:=h
   exact(r.owns o).1
  ·exact r.ext.keep.free e
 have kz:∀{z:L4} {u:HO},H z=some u->(∀i∈is,¬gr H ρ σ i z)->kR H ρ σ is z=some u:=λh n=>by rw[EG n];exact h
 have me:=m.ext
 have Vt:∀{z:L4} {u:HO},H z=some u->(∀i∈is,¬gr H ρ σ i z)->H' z=some u:=λh n=>me.keep _ _ (kz h n)
 have Xl:∀{z:L4} {u:HO},H z=some u->(∀i∈is,¬gr H ρ σ i z)->F z=none->F' z=none:=λh n f=>me.out (kz h n) f
 have XD:∀{j:Nat} {z:L4},j∉is->gr H ρ σ j z->∀i∈is,¬gr H ρ σ i z:=λ{j z} hj o i hi o'=>hj (by rw[r.owns_inj o o'];exact hi)
 have US:∀{j:Nat} {s:Slot},(vi ρ is ss')[j]? =some (some s)->(∃k:Nat,is[k]? =some j/\ss'[k]? =some s)\/(j∉is/\ρ[j]? =some (some s)):=λh=>xa nd hl h
 have Xm:∀{k j:Nat} {d:D},is[k]? =some j->ss'[k]? =some (.own d)->∃a o,σ[j]? =some (some (.ref a))/\as[k]? =some a/\H' a=some o/\F' a=none/\kR H ρ σ is a=none/\j0 K F' o d:=λ{k j d} h1 h2=>by
  obtain⟨s0,i,a,k1,k2,k3,k4,k5,k6⟩:=UG h2
  rw[h1]at k1
  cases k1
  obtain⟨p,u,g1,g2,g3,g4,g5⟩:=m.own k d (ms h2)
  rw[W7 k2]at g1
  cases g1
  exact⟨a,u,k6,k2,g2,g3,g4,g5⟩
 have Yx:∀{j:Nat} {d:D} {p:L4} {u:HO},j∉is->ρ[j]? =some (some (.own d))->σ[j]? =some (some (.ref p))->H p=some u->kR H ρ σ is p=some u:=λhj h1 h2 h3=>kz h3 (XD hj (.inl ⟨_,h1,h2⟩))
 refine⟨⟨me.sub,λz u e=>Vt (r.ext.keep z u e) λi hi o=>(by rw[(r.owns o).1]at e;cases e),r.ext.grow.trans me.grow,λz e=>(me.new z e).elim (λq=>r.ext.new z q) λq=> .inr (hz q)⟩,λj d h=> ?_,λj d h=> ?_,λj d h=> ?_,r.bh,λj j' d d' p h h' e e'=> ?_,?_,λL hL h=> ?_,λL hL L' V_ h h'=> ?_,r.fm.trans me.grow,⟨λj x SH f hs h=> ?_,λj j' x SH f hs s h h' T3=> ?_⟩,r.pin⟩
 ·rcases US h with ⟨k,h1,h2⟩|⟨_,h2⟩
  ·obtain⟨_,_,_,_,_,_,_,z,_⟩:=UG h2;exact absurd rfl z
  ·obtain⟨v,k1,k2⟩:=r.val j d h2;exact⟨v,k1,k2.mono me.grow⟩
 ·rcases US h with ⟨k,h1,h2⟩|⟨hj,h2⟩
  ·obtain⟨a,o,k1,k2,k3,k4,k5,k6⟩:=Xm h1 h2
   exact⟨a,o,k1,k3,k4,hz k5,k6⟩
  ·obtain⟨p,u,k1,k2,k3,k4,k5⟩:=r.own j d h2
   have n:=XD hj (.inl ⟨d,h2,k1⟩)
   exact⟨p,u,k1,Vt k2 n,Xl k2 n k3,k4,k5.mono me.grow⟩
 ·rcases US h with ⟨k,h1,h2⟩|⟨_,h2⟩
  ·obtain⟨_,_,_,_,_,_,_,z,_⟩:=UG h2;exact absurd rfl z
  ·exact r.bor j d h2
 ·rcases US h with ⟨k,h1,h2⟩|⟨hj,h2⟩
  ·obtain⟨a,o,k1,k2,k3,k4,k5,k6⟩:=Xm h1 h2
   rw[k1]at e
   cases e
   rcases US h' with ⟨k',WH,V8⟩|⟨WN,V8⟩
   ·obtain⟨a',o',a0Q,Zq,a2q,a2r,a0R,a2s⟩:=Xm WH V8
    rw[a0Q]at e'
    cases e'
    have:=m.dis k k' d d' p (ms h2) (ms V8) (W7 k2) (W7 Zq)
    subst this
    rw[h1]at WH
    exact M4 WH
   ·obtain⟨p',u,g1,g2,g3,g4,g5⟩:=r.own j' d' V8
    rw[e']at g1
    cases g1
    rw[Yx WN V8 e' g2]at k5
    cases k5
  ·rcases US h' with ⟨k',WH,V8⟩|⟨WN,V8⟩
   ·obtain⟨a',o',a0Q,Zq,a2q,a2r,a0R,a2s⟩:=Xm WH V8
    rw[a0Q]at e'
    cases e'
    obtain⟨p',u,g1,g2,g3,g4,g5⟩:=r.own j d h2
    rw[e]at g1
    cases g1
    rw[Yx hj h2 e g2]at a0R
    cases a0R
   ·exact r.dis j j' d d' p h2 V8 e e'
 ·rw[x6];exact r.len
 ·rcases US h with ⟨k,h1,h2⟩|⟨hj,h2⟩
  ·obtain⟨_,_,_,_,_,_,_,z,_⟩:=UG h2;exact absurd rfl z
  ·obtain⟨a,dx,fs,k0,k1,k2,k3,k4,k5,k6⟩:=r.obj L hL h2
   have no:∀{z:L4} {u:HO},H z=some u->(∀d,¬j0 K F u d)->∀i∈is,¬gr H ρ σ i z:=λ{z u} hz nr i hi o=>by
    rcases o with ⟨d,g1,g2⟩|⟨x,SH,f,hs,a,C,dx,fs,g1,_⟩
    ·obtain⟨p,u',q1,q2,_,_,q5⟩:=r.own i d g1
     rw[g2]at q1
     cases q1
     rw[hz]at q2
     cases q2
     exact nr d q5
    ·exact hj (by rw[<-r.cel.one i L.x x SH f hs _ g1 h2 rfl];exact hi)
   have na:=no k2 (λd q=>by cases q)
   have nd:=no k3 (λd q=>by cases q)
   exact⟨a,dx,fs,k0,k1,Vt k2 na,Vt k3 nd,Xl k2 na k4,Xl k3 nd k5,k6⟩
 ·refine r.odis L hL L' V_ ?_ ?_
  ·rcases US h with ⟨k,h1,h2⟩|⟨_,h2⟩
   ·obtain⟨_,_,_,_,_,_,_,z,_⟩:=UG h2;exact absurd rfl z
   ·exact h2
  ·rcases US h' with ⟨k,h1,h2⟩|⟨_,h2⟩
   ·obtain⟨_,_,_,_,_,_,_,z,_⟩:=UG h2;exact absurd rfl z
   ·exact h2
 ·rcases US h with ⟨k,h1,h2⟩|⟨hj,h2⟩
  ·obtain⟨s0,i,a,k1,k2,k3,k4,k5,k6⟩:=UG h2
   rw[h1]at k1
   cases k1
   obtain⟨a',dx,b,g1,g2,g3⟩:=m.cel.ex k x SH f hs (ms h2)
   rw[W7 k2]at g1
   cases g1
   refine⟨a,dx,b,k6,⟨g2.ex,g2.own,g2.fa,g2.fd,g2.fb,hz g2.za,hz g2.zd,hz g2.zb⟩,λj' d h' e=> ?_⟩
   rcases US h' with ⟨k',WH,V8⟩|⟨WN,V8⟩
   ·obtain⟨a',o',q1,q2,_⟩:=Xm WH V8
    rw[q1]at e
    cases e
    exact g3 k' d (ms V8) (W7 q2)
   ·obtain⟨p',u,q1,q2,_⟩:=r.own j' d V8
    rw[e]at q1
    cases q1
    have:kR H ρ σ is b=none:=g2.zb
    rw[Yx WN V8 e q2]at this
    cases this
  ·obtain⟨a,dx,b,g1,g2,g3⟩:=r.cel.ex j x SH f hs h2
   have a43:=g2
   obtain⟨C,fs,vs,us,q1,q2,q3,q4,q5,q6,q7⟩:=g2.ex
   have ow:∀z,(z=a\/z=dx\/fs.lookup f=some (.ref z))->∀i∈is,¬gr H ρ σ i z:=λz hz=>XD hj (.inr ⟨x,SH,f,hs,a,C,dx,fs,h2,g1,q1,hz⟩)
   have na:=ow a (.inl rfl)
   have nd:=ow dx (.inr (.inl rfl))
   have nb:=ow b (.inr (.inr q3))
   refine⟨a,dx,b,g1,⟨⟨C,fs,vs,us,Vt q1 na,q2,q3,Vt q4 nb,q5.mono me.grow,q6.mono me.grow,q7⟩,Vt g2.own nd,Xl q1 na g2.fa,Xl g2.own nd g2.fd,Xl q4 nb g2.fb,g2.za,g2.zd,g2.zb⟩,λj' d h' e=> ?_⟩
   rcases US h' with ⟨k',WH,V8⟩|⟨WN,V8⟩
   ·obtain⟨a',o',w1,w2,w3,w4,w5,w6⟩:=Xm WH V8
    rw[w1]at e
    cases e
    rw[kz q4 nb]at w5
    cases w5
   ·exact g3 j' d V8 e
 ·have Zr:∀{k:Nat} {s:Slot},ss'[k]? =some s->s.single=true->∃x SH f hs i,is[k]? =some i/\ρ[i]? =some (some (.cel x SH f hs)):=λ{k s} h hs=>by
   obtain⟨s0,i,a,k1,k2,k3,k4,k5,k6⟩:=UG h
   have:s.kind=2:=by cases s<;>first|rfl|exact absurd rfl k5|cases hs
   rw[this]at k4
   obtain⟨x,SH,f,hs,rfl⟩:=CZ k4
   exact⟨x,SH,f,hs,i,k1,k3⟩
  rcases US h with ⟨k,h1,h2⟩|⟨hj,h2⟩
  ·rcases US h' with ⟨k',WH,V8⟩|⟨WN,V8⟩
   ·have:=m.cel.one k k' x SH f hs s (ms h2) (ms V8) T3
    subst this
    rw[h1]at WH
    exact M4 WH
   ·obtain⟨x0,Zs,f0,Xd,i,g1,g2⟩:=Zr h2 rfl
    have:=r.cel.one i j' x0 Zs f0 Xd s g2 V8 T3
    subst this
    exact absurd (Mx g1) WN
  ·rcases US h' with ⟨k',WH,V8⟩|⟨WN,V8⟩
   ·obtain⟨x0,Zs,f0,Xd,i,g1,g2⟩:=Zr V8 T3
    have:=r.cel.one j i x SH f hs _ h2 g2 rfl
    subst this
    exact absurd (Mx g1) hj
   ·exact r.cel.one j j' x SH f hs s h2 V8 T3
end
end L2.Pu
namespace L2.Pu
open PySem PySem.Spec PyProof.Rows
variable {ly:List fE}
def dG:Nat->ag->Option (List Slot)
 |0,_=>some []
 |n+1,some s::ρ=>(dG n ρ).map λt=>s::t
 |_+1,_=>none
theorem uF:∀{n:Nat} {ρ:ag} {ss:List Slot},dG n ρ=some ss->ss.length=n/\∀(k:Nat) s,ss[k]? =some s->ρ[k]? =some (some s)
 |0,ρ,ss,h=>by cases h;exact⟨rfl,λk s e=>by simp at e⟩
 |n+1,some s::ρ,ss,h=>by
  unfold dG at h
  cases e:dG n ρ with
  |none=>rw[e]at h;cases h
  |some t=>
   rw[e]at h
   cases h
   obtain⟨h1,h2⟩:=uF e
   refine⟨by simp[h1],λk s' e'=> ?_⟩
   cases k with
   |zero=>cases e';rfl
   |succ k=>exact h2 k s' e'
 |n+1,none::ρ,ss,h=>by cases h
 |n+1,[],ss,h=>by cases h
def fV (n:Nat) (ss:List Slot) (ds:List D):ag:=ss.map some++d3 n ds
def iw (nm k n:Nat) (g:ag->R bq) (ss:List Slot) (ds:List D):R (D×List Slot):=if ss.length=nm/\ds.length=k then (match g (fV n ss ds)with
 | .ok (.retc d ρ)=>(match dG nm ρ with|some ss'=> .ok (d,ss')|none=> .bad)
 | .ok (.nx ρ)=>(match dG nm ρ with|some ss'=> .ok (.non,ss')|none=> .bad)
 | .err z ρ=> .err z ρ
 |_=> .bad)else .bad
def Js (K:K_) (nm n:Nat) (m:List Slot->List D->R (D×List Slot)):Sp:=λvs H Q E=>∃F as ws ss ds Hz,vs=as.map V.ref++ws/\as.length=nm/\ws.length=n/\EH K Hz F ss as H F/\(∀s∈ss,s.kind≠0)/\Reps K F ws ds/\match m ss ds with
 | .ok r=>∀v H' F',EH K Hz F r.2 as H' F'->dZ K F' v r.1->Q v H'
 | .err z ρe=>∃ss',dG nm ρe=some ss'/\∀ec q H' F',eS K z ec->EH K Hz F ss' as H' F'->E ec q H'
 | .bad=>False
theorem RI.restrict {K:K_} {c:dM ly} {ρ:ag} {σ:St} {H F:Hp} {nm:Nat} {ss:List Slot} {as:List L4} (r:RI K c ρ σ H F) (hB:c.B=λ_=>none) (ht:dG nm ρ=some ss) (hl:as.length=nm) (hσ:∀(j:Nat) a,as[j]? =some a->σ[j]? =some (some (.ref a))):EH K c.H0 c.F0 ss as H F:=by
 obtain⟨t1,t2⟩:=uF ht
 have up:∀{k:Nat} {s:Slot},(ss.map some)[k]? =some (some s)->ρ[k]? =some (some s)/\k<as.length:=λ{k s} h=>by
  obtain⟨s',h1,h2⟩:=map_some h
  cases h2
  exact⟨t2 k s h1,by rw[hl,<-t1];exact(Lq.mp h1).1⟩
 have at_:∀{k:Nat},k<as.length->(as.map λa=>some (V.ref a))[k]? =σ[k]? :=λ{k} h=>by
  have:as[k]? =some as[k]:=LB h
  rw[hσ k _ this,mV this]
 refine⟨r.ext,λk d h=> ?_,λk d h=> ?_,λk d h=> ?_,(λ_ _ e=>by cases e),λk k' d d' a h h' e e'=> ?_,?_,(λL h=>by cases h),(λL h=>by cases h),(λ_ _ e=>by cases e),⟨λk x SH f hs h=> ?_,λk k' x SH f hs s h h' T3=> ?_⟩,(λL h=>by cases h)⟩
 ·obtain⟨h1,h2⟩:=up h
  rw[at_ h2];exact r.val k d h1
 ·obtain⟨h1,h2⟩:=up h
  rw[at_ h2];exact r.own k d h1
 ·obtain⟨h1,h2⟩:=up h
  obtain⟨a,o,_,z,_⟩:=r.bor k d h1
  rw[hB]at z
  cases z
 ·obtain⟨h1,h2⟩:=up h
  obtain⟨g1,g2⟩:=up h'
  rw[at_ h2]at e
  rw[at_ g2]at e'
  exact r.dis k k' d d' a h1 g1 e e'
 ·simp only[L7];rw[t1,hl]
 ·obtain⟨h1,h2⟩:=up h
  obtain⟨a,dx,b,k1,k2,k3⟩:=r.cel.ex k x SH f hs h1
  refine⟨a,dx,b,by rw[at_ h2];exact k1,k2,λj d hj e=> ?_⟩
  obtain⟨g1,g2⟩:=up hj
  rw[at_ g2]at e
  exact k3 j d g1 e
 ·exact r.cel.one k k' x SH f hs s (up h).1 (up h').1 T3
theorem AU {K:K_} {N:List L3} {Hz F H:Hp} {ss:List Slot} {as:List L4} {ws:List V} {ds:List D} {Er:L3->ag->Prop} {nm m:Nat} (mr:EH K Hz F ss as H F) (hk:∀s∈ss,s.kind≠0) (r:Reps K F ws ds) (hl:as.length=nm) (hN:N.length=nm+m) (hw:ws.length<=m)
  (Zt:∀L∈ly,L.x<nm):RI K (⟨Hz,F,λ_=>none,Er,λj=>as[j]?,λ_=>none⟩:dM ly) (fV m ss ds) (dF N (as.map V.ref++ws)) H F:=by
 have Yy:ss.length=as.length:=by have:=mr.len;simpa using this
 have pre:∀{i:Nat},i<as.length->(dF N (as.map V.ref++ws))[i]? =(as.map λa=>some (V.ref a))[i]? :=λ{i} h=>by
  unfold dF
  rw[LU,Ol,MP (by simpa using h),Mr];rfl
 have hv:∀{i:Nat} {sl:Slot},(fV m ss ds)[i]? =some (some sl)->((ss.map some)[i]? =some (some sl)/\i<as.length/\sl.kind≠0)\/∃(j:Nat) (d:D),i=as.length+j/\ds[j]? =some d/\sl= .val d:=λ{i sl} h=>by
  unfold fV at h
  rw[NQ]at h
  split at h
  ·rename_i hi
   obtain⟨s',h1,h2⟩:=map_some h
   cases h2
   exact .inl ⟨h,by rw[<-Yy];simpa using hi,hk _ (Mx h1)⟩
  ·rename_i hi
   refine .inr ⟨i - as.length,?_⟩
   have e:(ss.map (some:Slot->Option Slot)).length=as.length:=by simp[Yy]
   rw[e]at h
   unfold d3 at h
   rw[NQ]at h
   split at h
   ·rw[Lx]at h
    cases e2:ds[i - as.length]? with
    |none=>rw[e2]at h;cases h
    |some d=>rw[e2]at h;simp at h;exact⟨d,by simp at hi;omega,rfl,h.symm⟩
   ·rw[MI]at h
    split at h<;>simp at h
 have Wq:∀{i:Nat} {sl:Slot},(fV m ss ds)[i]? =some (some sl)->(∀d,sl≠ .val d)->(ss.map some)[i]? =some (some sl)/\i<as.length:=λh n=>by
  rcases hv h with ⟨a,b,_⟩|⟨j,d,_,_,z⟩
  ·exact⟨a,b⟩
  ·exact absurd z (n d)
 refine⟨mr.ext,λi d h=> ?_,λi d h=> ?_,λi d h=> ?_,(λ_ _ e=>by cases e),λi j d d' a h h' e e'=> ?_,?_,λL hL h=> ?_,λL hL L' V_ h _=> ?_,(λ_ _ e=>by cases e),⟨λi x SH f hs h=> ?_,λi j x SH f hs s h h' T3=> ?_⟩,λL hL a h=> ?_⟩
 ·rcases hv h with ⟨a,b,z⟩|⟨j,d',rfl,e,z⟩
  ·exact absurd rfl z
  ·cases z
   obtain⟨v,h1,h2⟩:=r.get e
   refine⟨v,?_,h2⟩
   unfold dF
   have hj:j<ws.length:=(Lq.mp h1).1
   rw[LU,Ol,NS (by simp),MP (by simp;omega)]
   simp[h1]
 ·obtain⟨h1,h2⟩:=Wq h (λd' z=>by cases z)
  rw[pre h2];exact mr.own i d h1
 ·obtain⟨h1,h2⟩:=Wq h (λd' z=>by cases z)
  obtain⟨a,o,_,z,_⟩:=mr.bor i d h1
  cases z
 ·obtain⟨h1,h2⟩:=Wq h (λd' z=>by cases z)
  obtain⟨g1,g2⟩:=Wq h' (λd' z=>by cases z)
  rw[pre h2]at e
  rw[pre g2]at e'
  exact mr.dis i j d d' a h1 g1 e e'
 ·have:=r.length
  simp only[fV,d3,dF,LO,L7,OE,Yy]
  omega
 ·rcases hv h with ⟨a,b,z⟩|⟨j,d',_,_,z⟩
  ·exact absurd rfl z
  ·cases z
 ·rcases hv h with ⟨a,b,z⟩|⟨j,d',_,_,z⟩
  ·exact absurd rfl z
  ·cases z
 ·obtain⟨h1,h2⟩:=Wq h (λd' z=>by cases z)
  obtain⟨a,dx,b,k1,k2,k3⟩:=mr.cel.ex i x SH f hs h1
  refine⟨a,dx,b,by rw[pre h2];exact k1,k2,λj d hj e=> ?_⟩
  obtain⟨g1,g2⟩:=Wq hj (λd' z=>by cases z)
  rw[pre g2]at e
  exact k3 j d g1 e
 ·exact mr.cel.one i j x SH f hs s (Wq h (λd' z=>by cases z)).1 (Wq h' (λd' z=>by subst z;cases T3)).1 T3
 ·have:=Zt L hL
  rw[pre (by omega)]
  exact mV (show as[L.x]? =some a from h)
theorem IZ {P:Ll} {w:Ly} {K:K_} {mg:L3->Option L0} {base:Lr} {x qual:L3} {st:Lw} {f:L4} {fd:Mq} {N ps:List L3} {k nm n m:Nat} {g:ag->R bq} (F:zf K x qual st f fd) (S:aC N ps (al st))
  (hn:ps.length=nm+n) (hm:N.length=nm+m) (XQ:n<=m) (Zt:∀j,j<nm->∃L∈ly,L.x=j) (Yz:∀L∈ly,L.x<nm)
  (T2:∀(SE:L0) (A:LF) (outer:List MM) (s:L5) (H:Hp) (E:XK),c_ k (A.deeper (MO qual (al st) s.heap.objs.size f SE))->
   jy ly (iZ (lz P w) P w K mg base N qual (al st) f SE A outer s H E) (bK st) g):fN P w K mg base (lz P w) (k+1) f fd ps (Js K nm n (iw nm n m g)):=by
 refine IH F S (λvs H Q E h=> ?_) (λSE A outer s H vs Q E hr h=> ?_)
 ·obtain⟨Fz,as,ws,ss,ds,Hz,rfl,h1,h2,_⟩:=h
  rw[LO,L7,h1,h2,hn]
 ·obtain⟨Fz,as,ws,ss,ds,Hz,rfl,h1,h2,mr,hk,r,w⟩:=h
  let c:dM ly:=⟨Hz,Fz,λ_=>none,λz ρe=>∃ss',dG nm ρe=some ss'/\∀ec q H' F',eS K z ec->EH K Hz Fz ss' as H' F'->E ec q H',λj=>as[j]?,λ_=>none⟩
  have back:∀{ρ σ H' F' ss'},RI K c ρ σ H' F'->dG nm ρ=some ss'->EH K Hz Fz ss' as H' F':=λ{ρ σ H' F' ss'} ri t=>ri.restrict rfl t h1 λj a e=>by
   have hj:j<nm:=by rw[<-h1];exact(Lq.mp e).1
   obtain⟨L,hL,rfl⟩:=Zt j hj
   exact ri.pin L hL a e
  refine⟨_,T2 SE A outer s H E hr ⟨c,sB λz ρ er ec a H' F' σ hc ri=> ?_⟩,?_⟩
  ·obtain⟨ss',t,q⟩:=er
   exact q ec a H' F' hc (back ri t)
  refine⟨Fz,fV m ss ds,AU mr hk r h1 hm (by omega) Yz,?_⟩
  have hd:ss.length=nm/\ds.length=n:=⟨by have:=mr.len;simp only[L7]at this;omega,by rw[<-r.length];exact h2⟩
  unfold iw at w
  rw[if_pos hd]at w
  cases e:g (fV m ss ds)with
  |bad=>rw[e]at w;exact w.elim
  |err z ρ=>rw[e]at w;exact w
  |ok o=>
   rw[e]at w
   cases o with
   |retc d ρ=>
    intro v σ' H' F' _ U2 rv
    dsimp only at w
    cases t:dG nm ρ with
    |none=>rw[t]at w;exact w.elim
    |some ss'=>rw[t]at w;exact w v H' F' (back U2 t) rv
   |nx ρ=>
    intro σ' H' F' _ U2
    dsimp only at w
    cases t:dG nm ρ with
    |none=>rw[t]at w;exact w.elim
    |some ss'=>rw[t]at w;exact w .non H' F' (back U2 t) .non
   |_=>exact w.elim
structure vj (P:Ll) (w:Ly) (K:K_) (mg:L3->Option L0) (base:Lr) (k:Nat) (x:L3) (nm n:Nat) (m:List Slot->List D->R (D×List Slot)):Prop where
 ex:∃f fd ps,fN P w K mg base (lz P w) k f fd ps (Js K nm n m)/\mg x=some (.ref f)/\LX K (.ref f)=true/\gk K fd ps []
structure dv (P:Ll) (w:Ly) (K:K_) (mg:L3->Option L0) (base:Lr) (k:Nat) (cls mm:L3) (n:Nat) (m:List Slot->List D->R (D×List Slot)):Prop where
 ex:∃C f fd ps,fN P w K mg base (lz P w) k f fd ps (Js K 1 n m)/\jD K cls C/\xO K C mm f/\gk K fd ps []
section
variable {P:Ll} {w:Ly} {K:K_} {mg:L3->Option L0} {base:Lr}
theorem sL {x:L3} {st:Lw} {N ps:List L3} {k nm n m:Nat} {g:ag->R bq} (ly:List fE) (A:cB K mg x st ps) (S:aC N ps (al st)) (hn:ps.length=nm+n) (hm:N.length=nm+m) (XQ:n<=m) (Zt:∀j,j<nm->∃L∈ly,L.x=j) (Yz:∀L∈ly,L.x<nm)
  (T2:∀(f:L4) (SE:L0) (A:LF) (outer:List MM) (s:L5) (H:Hp) (E:XK),c_ k (A.deeper (MO x (al st) s.heap.objs.size f SE))->
   jy ly (iZ (lz P w) P w K mg base N x (al st) f SE A outer s H E) (bK st) g):vj P w K mg base (k+1) x nm n (iw nm n m g):=by
 obtain⟨f,fd,F,h1,h2⟩:=A.ex
 exact⟨f,fd,ps,IZ F S hn hm XQ Zt Yz λSE A outer s H E hr=>T2 f SE A outer s H E hr,h1,F.kp,h2⟩
theorem jb {cls mm qual:L3} {st:Lw} {N ps:List L3} {k n m:Nat} {g:ag->R bq} (A:dP K cls mm qual st ps) (S:aC N ps (al st)) (hn:ps.length=1+n) (hm:N.length=1+m) (XQ:n<=m)
  (T2:∀(f:L4) (SE:L0) (A:LF) (outer:List MM) (s:L5) (H:Hp) (E:XK),c_ k (A.deeper (MO qual (al st) s.heap.objs.size f SE))->
   jy [⟨0,0,[]⟩] (iZ (lz P w) P w K mg base N qual (al st) f SE A outer s H E) (bK st) g):dv P w K mg base (k+1) cls mm n (iw 1 n m g):=by
 obtain⟨C,f,fd,F,h1,h2,h3⟩:=A.ex
 exact⟨C,f,fd,ps,IZ F S hn hm XQ (λj hj=>⟨_,Lk.mpr rfl,by show (0:Nat)=j;omega⟩) (λL hL=>by rw[Lk.mp hL];exact Nat.zero_lt_one) λSE A outer s H E hr=>T2 f SE A outer s H E hr,h1,h2,h3⟩
end
def dQ (is:List Nat) (m:List Slot->List D->R (D×List Slot)) (n:Nat) (fs:ag->R (List D)):ag->R (D×ag):=λρ=>match ft ρ is with
 |some ss=>if (ss.all λs=>s.kind != 0)=true/\is.Nodup then (fs ρ>>=λds=>if ds.length=n then (match m ss ds with
  | .ok r=>if r.2.map Slot.kind=ss.map Slot.kind then .ok (r.1,vi ρ is r.2)else .bad
  | .err z ρe=>(match dG is.length ρe with
   |some ss'=>if ss'.map Slot.kind=ss.map Slot.kind then .err z (vi ρ is ss')else .bad
   |none=> .bad)
  | .bad=> .bad)else .bad)else .bad
 |none=> .bad
def tX (K:K_) (c:dM ly) (fx:ag->R (D×ag)):TE:=λσ H Q=>∃F ρ,RI K c ρ σ H F/\aL c (fx ρ) λr=>∀v H' F',bd F F'->RI K c r.2 σ H' F'->dZ K F' v r.1->Q v H'
def PX (ly:List fE) (X:Cx) (e:Lc) (fx:ag->R (D×ag)):Prop:=∀c:j3 ly X,PE X e (tX X.K c.1 fx)
theorem At.of {K:K_} {c:dM ly} {ρ:ag} {σ:St} {H F:Hp} (r:RI K c ρ σ H F):∀{is:List Nat} {ss:List Slot},ft ρ is=some ss->(ss.all λs=>s.kind != 0)=true->∃as,At ρ σ is ss as
 |[],ss,h,_=>by cases h;exact⟨[], .nil⟩
 |i::is,ss,h,k=>by
  unfold ft at h
  split at h
  ·rename_i s hs
   cases e:ft ρ is with
   |none=>rw[e]at h;cases h
   |some t=>
    rw[e]at h
    cases h
    rw[Mp,Mb]at k
    obtain⟨as,A⟩:=At.of r e k.2
    have hk:s.kind≠0:=by simpa using k.1
    have:∃a,σ[i]? =some (some (.ref a)):=by
     cases s with
     |own d=>obtain⟨a,o,h1,_⟩:=r.own i d hs;exact⟨a,h1⟩
     |cel x SH f T3=>obtain⟨a,dx,b,h1,_⟩:=r.cel.ex i x SH f T3 hs;exact⟨a,h1⟩
     |_=>exact absurd rfl hk
    obtain⟨a,ha⟩:=this
    exact⟨a::as, .cons hs hk ha A⟩
  ·cases h
section
variable {X:Cx} {e:Lc} {es:List Lc} {fs:ag->R (List D)} {is:List Nat} {p pos SQ:LR} {x m:L3}
theorem yr {c:j3 ly X} {mf:List Slot->List D->R (D×List Slot)} {n:Nat} {ρ:ag} {σ:St} {H F:Hp} {Q:VK} (ri:RI X.K c.1 ρ σ H F) (w:aL c.1 (dQ is mf n fs ρ) λr=>∀v H' F',bd F F'->RI X.K c.1 r.2 σ H' F'->dZ X.K F' v r.1->Q v H'):
  ∃ss as,At ρ σ is ss as/\HE X.K c.1 fs σ H λvs H1=>Js X.K is.length n mf (as.map V.ref++vs) H1 Q (Ft X c.1 σ):=by
 unfold dQ at w
 split at w
 ·rename_i ss hs
  split at w
  ·rename_i hk
   obtain⟨hk,nd⟩:=hk
   obtain⟨as,A⟩:=At.of ri hs hk
   refine⟨ss,as,A,F,ρ,ri,(aL.bind.mp w).imp λds _ w1 vs H1 F1 e1 r1=> ?_⟩
   split at w1
   ·rename_i hl
    have r':=ri.step e1
    refine⟨F1,as,vs,ss,ds,kR H1 ρ σ is,rfl,A.lens.2,by rw[r1.length];exact hl,r'.split A nd,λs T3=>by have:=Nk.mp hk s T3;simpa using this,r1,?_⟩
    split at w1
    ·rename_i r hr
     split at w1
     ·rename_i Yj
      intro v H' F' mr rv
      exact w1 v H' F' (e1.grow.trans mr.ext.grow) (r'.join A nd mr Yj) rv
     ·exact w1.elim
    ·rename_i z ρe hr
     split at w1
     ·rename_i ss' ht
      split at w1
      ·rename_i Yj
       exact⟨ss',ht,λec q H' F' hc mr=>⟨z,_,F',hc,r'.join A nd mr Yj,w1⟩⟩
      ·exact w1.elim
     ·exact w1.elim
    ·exact w1.elim
   ·exact w1.elim
  ·exact w.elim
 ·exact w.elim
def yt:List Nat->TA->TA
 |[],t=>t
 |i::is,t=>Fh (Bo i) (yt is t)
theorem uG {t:TA} {ρ:ag} {σ:St} {H:Hp}:∀{is:List Nat} {ss:List Slot} {as:List L4} {Q:List V->Hp->Prop},At ρ σ is ss as->t σ H (λvs H1=>Q (as.map V.ref++vs) H1)->yt is t σ H Q
 |[],_,_,Q, .nil,h=>h
 |i::is,_,_,Q, .cons h1 h2 h3 A,h=>⟨_,h3,uG A h⟩
def Jt (ly:List fE) (X:Cx) (es:List Lc) (is:List Nat) (fs:ag->R (List D)):Prop:=∀c:j3 ly X,PA X es (yt is (HE X.K c.1 fs))
theorem jc (h:vV ly X es fs):Jt ly X es [] fs:=λc=>h c
theorem cL (i:Nat) (h:Jt ly X es is fs) (hN:X.N[i]? =some x:=by rfl) (hv:pT X.env.scope x:=by first|exact LW rfl|exact LI (LW rfl)|exact LI (LI rfl)) (hd:(x==("__debug__":L3))=false:=by decide)
  (U3:(x==("__classdict__":L3))=false:=by decide) (hs:L8 (.Name x p::es) X.env=(false,Ls (.Name x p) X.env)::L8 es X.env:=by rfl):Jt ly X (.Name x p::es) (i::is) fs:=λc=>dh (pv i hN hv hd U3) (h c) hs
theorem sM {k n:Nat} {mf:List Slot->List D->R (D×List Slot)} (G:vj X.prog X.w X.K X.mg X.base k x is.length n mf) (hr:c_ k X.A) (ha:Jt ly X (e::es) is fs) (hg:Gl X x:=by rfl) (Um:(x==("__debug__":L3))=false:=by decide)
  (he:L8 (e::es) X.env=(false,Ls e X.env)::L8 es X.env:=by rfl) (U0:(LK pos (L8 es X.env)).any (·.1)=false:=by rfl):PX ly X (.Call (.Name x p) (e::es) [] pos) (dQ is mf n fs):=λc=>by
 obtain⟨f,fd,ps,h1,h2,h3,h4⟩:=G.ex
 refine PE.weak (uS h1 hr hg h2 h3 h4 .nil (oW c) (ha c) Um he U0) λσ H Q q=> ?_
 obtain⟨F,ρ,ri,w⟩:=q
 obtain⟨ss,as,A,t⟩:=yr ri w
 refine uG A ?_
 obtain⟨F0,ρ0,Y9,w0⟩:=t
 exact⟨F0,ρ0,Y9,w0.imp λds _ k vs H1 F1 e1 r1=>by dsimp only;rw[Mu];exact k vs H1 F1 e1 r1⟩
def kS (i:Nat) (cls m:L3) (fx:ag->R (D×ag)):ag->R (D×ag):=λρ=>match ρ[i]? with
 |some (some (.cel y SH f hs))=>if y=cls/\m≠f/\SH.lookup m=none then fx ρ else .bad
 |_=> .bad
theorem zB {c:j3 ly X} {i:Nat} {cls:L3} {fx:ag->R (D×ag)} {ρ:ag} {σ:St} {H F:Hp} {C:L4} {P:D×ag->Prop} (T:jD X.K cls C) (ri:RI X.K c.1 ρ σ H F) (w:aL c.1 (kS i cls m fx ρ) P):
  ∃a dx fs,σ[i]? =some (some (.ref a))/\H a=some (.ins C dx fs)/\fs.lookup m=none/\aL c.1 (fx ρ) P:=by
 unfold kS at w
 split at w
 ·rename_i y SH f hs hi
  split at w
  ·rename_i hc
   obtain⟨rfl,h1,h2⟩:=hc
   obtain⟨a,dx,b,k1,k2,k3⟩:=ri.cel.ex i y SH f hs hi
   obtain⟨C',fs,vs,us,g1,g2,g3,g4,g5,g6,g7,g8,_⟩:=k2.ex
   have:C'=C:=by have:=T.ns;rw[g2]at this;cases this;rfl
   subst this
   refine⟨a,dx,fs,k1,g1,?_,w⟩
   cases q:fs.lookup m with
   |none=>rfl
   |some v=>
    rcases g8 m v q with z|z
    ·exact absurd z h1
    ·rw[g6.names]at z
     exact absurd z (gH h2)
  ·exact w.elim
 ·exact w.elim
theorem jP (i:Nat) {cls y:L3} {py:LR} {k n:Nat} {mf:List Slot->List D->R (D×List Slot)} {pl:Oq Bool} (G:dv X.prog X.w X.K X.mg X.base k cls m n mf) (hr:c_ k X.A) (ha:vV ly X (e::es) fs)
  (hN:X.N[i]? =some y:=by rfl) (hv:pT X.env.scope y:=by first|exact LW rfl|exact LI (LW rfl)|exact LI (LI rfl)) (hd:(y==("__debug__":L3))=false:=by decide) (U3:(y==("__classdict__":L3))=false:=by decide)
  (Vr:L8 (e::es) X.env=(false,Ls e X.env)::L8 es X.env:=by rfl) (U0:(LK pos (L8 es X.env)).any (·.1)=false:=by rfl)
  (ht:Ls (.Call (.Attribute (.Name y py) m SQ) (e::es) [] pos) X.env=(do
   let ov<-Ls (.Name y py) X.env
   Nq SQ.atName
   let (f,first)<-MW [ov] (NL ov m pl)
   Oz pos f first (LK pos (L8 (e::es) X.env)) (MT pos (Mt [] X.env))):=by rfl):
  PX ly X (.Call (.Attribute (.Name y py) m SQ) (e::es) [] pos) (kS i cls m (dQ [i] mf n fs)):=λc=>by
 obtain⟨C,f,fd,ps,h1,h2,h3,h4⟩:=G.ex
 refine PE.weak (yV (pv i hN hv hd U3) h2.cl h3 h1 hr h4 .nil (oW c) (ha c) Vr U0 ht) λσ H Q q=> ?_
 obtain⟨F,ρ,ri,w⟩:=q
 obtain⟨a,dx,VW,k1,k2,k3,w⟩:=zB h2 ri w
 obtain⟨ss,as,A,t⟩:=yr ri w
 cases A with
 |cons q1 q2 q3 A0=>
  cases A0
  rw[k1]at q3
  cases q3
  refine⟨.ref a,k1,a,dx,VW,rfl,k2,k3,?_⟩
  obtain⟨F0,ρ0,Y9,w0⟩:=t
  exact⟨F0,ρ0,Y9,w0.imp λds _ k vs H1 F1 e1 r1=>by dsimp only;rw[Mu];exact k vs H1 F1 e1 r1⟩
theorem EI (i:Nat) {cls y:L3} {py:LR} {k n:Nat} {mf:List Slot->List D->R (D×List Slot)} {pl:Oq Bool} (G:dv X.prog X.w X.K X.mg X.base k cls m n mf) (hr:c_ k X.A)
  (hN:X.N[i]? =some y:=by rfl) (hv:pT X.env.scope y:=by first|exact LW rfl|exact LI (LW rfl)|exact LI (LI rfl)) (hd:(y==("__debug__":L3))=false:=by decide) (U3:(y==("__classdict__":L3))=false:=by decide)
  (ht:Ls (.Call (.Attribute (.Name y py) m SQ) [] [] pos) X.env=(do
   let ov<-Ls (.Name y py) X.env
   Nq SQ.atName
   let (f,first)<-MW [ov] (NL ov m pl)
   Oz pos f first (LK pos (L8 [] X.env)) (MT pos (Mt [] X.env))):=by rfl):
  PX ly X (.Call (.Attribute (.Name y py) m SQ) [] [] pos) (kS i cls m (dQ [i] mf n ai)):=λc=>by
 obtain⟨C,f,fd,ps,h1,h2,h3,h4⟩:=G.ex
 refine PE.weak (wa (pv i hN hv hd U3) h2.cl h3 h1 hr h4 .nil (oW c) ht) λσ H Q q=> ?_
 obtain⟨F,ρ,ri,w⟩:=q
 obtain⟨a,dx,VW,k1,k2,k3,w⟩:=zB h2 ri w
 obtain⟨ss,as,A,t⟩:=yr ri w
 cases A with
 |cons q1 q2 q3 A0=>
  cases A0
  rw[k1]at q3
  cases q3
  refine⟨.ref a,k1,a,dx,VW,rfl,k2,k3,?_⟩
  obtain⟨F0,ρ0,Y9,w0⟩:=t
  exact w0 [] H F0 (cg.refl Y9.sub) .nil
end
end L2.Pu
namespace L2.Pu
open PySem PySem.Spec PyProof.Rows
variable {ly:List fE}
def AV (g:L3) (d:D) (SH:List (L3×D)):List (L3×D):=SH.map λp=>if p.1=g then (p.1,d)else p
section
variable {K:K_} {c:dM ly} {ρ:ag} {σ:St} {H F:Hp} {i:Nat} {z:L4}
theorem RepF.put {vs:List (L3×V)} {SH:List (L3×D)} {g:L3} {v:V} {d:D} (h:RepF K F vs SH) (r:dZ K F v d):RepF K F (vs.map λp=>if p.1=g then (p.1,v)else p) (AV g d SH):=by
 induction SH generalizing vs with
 |nil=>rw[h.nilI];exact .nil
 |cons p SH ih=>
  obtain⟨k,x⟩:=p
  obtain⟨u,us,rfl,h1,h2⟩:=h.consI
  have:=ih h2
  unfold AV at this ⊢
  rw[Lf,Lf]
  dsimp only
  by_cases e:k=g
  ·rw[if_pos e,if_pos e];exact .cons r this
  ·rw[if_neg e,if_neg e];exact .cons h1 this
theorem RI.celUpd (r:RI K c ρ σ H F) {x x':L3} {SH Xk:List (L3×D)} {f f':L3} {hs T3:List D} {a dx b:L4} {o':HO} (hi:ρ[i]? =some (some (.cel x SH f hs))) (h1:σ[i]? =some (some (.ref a))) (hz:gr H ρ σ i z)
  (A':lK K (kR H ρ σ [i]) (ce H z o') F a dx b x' Xk f' T3):RI K c (ρ.set i (some (.cel x' Xk f' T3))) σ (ce H z o') F:=by
 refine r.join (is:=[i]) (ss:=[.cel x SH f hs]) (ss':=[.cel x' Xk f' T3]) (as:=[a]) (.cons hi (by intro e;cases e) h1 .nil) (by simp) ?_ rfl
 have a2t:kR H ρ σ [i] z=none:=lZ (Lk.mpr rfl) hz
 have only:∀{k:Nat} {s:Slot},(([Slot.cel x' Xk f' T3]:List Slot).map some)[k]? =some (some s)->k=0/\s= .cel x' Xk f' T3:=λ{k s} h=>by
  cases k with
  |zero=>cases h;exact⟨rfl,rfl⟩
  |succ k=>simp at h
 refine⟨⟨λy u e=> ?_,λy u e=> ?_,bd.refl _,λ_ h=> .inl h⟩,λk d h=> ?_,λk d h=> ?_,λk d h=> ?_,(λ_ _ e=>by cases e),λk k' d d' a h=> ?_,rfl,(λL h=>by cases h),(λL h=>by cases h),(λ_ _ e=>by cases e),⟨λk y vd g hh h=> ?_,λk k' y vd g hh s h h' _=> ?_⟩,(λL h=>by cases h)⟩
 ·rw[az (λq=>by rw[q,(r.owns hz).2.1]at e;cases e)];exact r.sub y u e
 ·have e':kR H ρ σ [i] y=some u:=e
  rw[az (λq=>by rw[q,a2t]at e';cases e')];exact uE e'
 ·obtain⟨_,q⟩:=only h;cases q
 ·obtain⟨_,q⟩:=only h;cases q
 ·obtain⟨_,q⟩:=only h;cases q
 ·obtain⟨_,q⟩:=only h;cases q
 ·obtain⟨rfl,q⟩:=only h
  cases q
  exact⟨a,dx,b,rfl,A',λj d hj=>by obtain⟨_,q⟩:=only hj;cases q⟩
 ·rw[(only h).1,(only h').1]
end
section
variable {X:Cx} {a b e value:Lc} {es:List Lc} {fa fb f fv:ag->R D} {fs:ag->R (List D)} {pos px SQ VO SK SY:LR} {y g cls:L3} {xs:List L3}
def d4 (i:Nat) (cls g:L3):ag->R D:=λρ=>match ρ[i]? with
 |some (some (.cel x SH _ _))=>if x=cls then R.of (SH.lookup g)else .bad
 |_=> .bad
theorem pi {K:K_} {c:dM ly} {ρ:ag} {σ:St} {H F:Hp} {i:Nat} {C:L4} {x:L3} {SH:List (L3×D)} {f:L3} {hs:List D} (ri:RI K c ρ σ H F) (T:jD K x C) (hi:ρ[i]? =some (some (.cel x SH f hs))):
  ∃a dx b fs vs us,σ[i]? =some (some (.ref a))/\H a=some (.ins C dx fs)/\lK K c.H0 H F a dx b x SH f hs/\fs.lookup f=some (.ref b)/\H b=some (.lst us)/\Reps K F us hs/\RepF K F vs SH/\(∀p∈vs,fs.lookup p.1=some p.2)/\
   (∀g v,fs.lookup g=some v->g=f\/g∈vs.map (·.1))/\(fs.map (·.1)).Nodup/\f∉vs.map (·.1):=by
 obtain⟨a,dx,b,k1,k2,k3⟩:=ri.cel.ex i x SH f hs hi
 obtain⟨C',fs,vs,us,g1,g2,g3⟩:=k2.ex
 have:C'=C:=by have:=T.ns;rw[g2]at this;cases this;rfl
 subst this
 exact⟨a,dx,b,fs,vs,us,k1,g1,k2,g3⟩
theorem du (i:Nat) (T:cF X.K cls xs) (hx:g∈xs) (hN:X.N[i]? =some y:=by rfl) (hv:pT X.env.scope y:=by first|exact LW rfl|exact LI (LW rfl)|exact LI (LI rfl)) (hd:(y==("__debug__":L3))=false:=by decide)
  (U3:(y==("__classdict__":L3))=false:=by decide) (hb:LY (.Name y px) g X.env (Ls (.Name y px) X.env)=Ls (.Name y px) X.env:=by rfl):PQ ly X (.Attribute (.Name y px) g pos) (d4 i cls g):=by
 obtain⟨C,h1,h2⟩:=T.ex
 exact λc=>PE.weak (rX (pv i hN hv hd U3) hb) λσ H Q ⟨F,ρ,ri,w⟩=>by
  unfold d4 at w
  split at w
  ·rename_i x SH f hs hi
   split at w
   ·rename_i hc
    subst hc
    obtain⟨d,hd,k⟩:=w.of
    obtain⟨a,dx,b,fs,vs,us,k1,k2,k3,k4,k5,k6,k7,k8,_⟩:=pi ri h1 hi
    obtain⟨v,m1,m2⟩:=k7.get hd
    exact⟨.ref a,k1,a,C,dx,fs,v,rfl,k2,h1.cl,h2 g hx,k8 _ m1,k v H F (cg.refl ri.sub) m2⟩
   ·exact w.elim
  ·exact w.elim
def qK (i:Nat) (cls g:L3):ag->R D:=λρ=>match ρ[i]? with
 |some (some (.cel x _ f hs))=>if x=cls/\f=g then .ok (.lst hs)else .bad
 |_=> .bad
theorem C_ (i:Nat) (T:cF X.K cls xs) (hx:g∈xs) (hN:X.N[i]? =some y:=by rfl) (hv:pT X.env.scope y:=by first|exact LW rfl|exact LI (LW rfl)|exact LI (LI rfl)) (hd:(y==("__debug__":L3))=false:=by decide)
  (U3:(y==("__classdict__":L3))=false:=by decide) (hb:LY (.Name y px) g X.env (Ls (.Name y px) X.env)=Ls (.Name y px) X.env:=by rfl):PB ly X (.Attribute (.Name y px) g pos) (qK i cls g):=by
 obtain⟨C,h1,h2⟩:=T.ex
 exact λc=>PE.weak (rX (pv i hN hv hd U3) hb) λσ H Q ⟨F,ρ,ri,w⟩=>by
  unfold qK at w
  split at w
  ·rename_i x SH f hs hi
   split at w
   ·rename_i hc
    obtain⟨rfl,rfl⟩:=hc
    obtain⟨a,dx,b,fs,vs,us,k1,k2,k3,k4,k5,k6,_⟩:=pi ri h1 hi
    exact⟨.ref a,k1,a,C,dx,fs, .ref b,rfl,k2,h1.cl,h2 _ hx,k4,w (.ref b) H F (cg.refl ri.sub) (.inr ⟨b, .lst us,rfl,k5, .lst k6⟩)⟩
   ·exact w.elim
  ·exact w.elim
def rK (i:Nat) (cls g:L3) (fv:ag->R D):ag->R bq:=λρ=>match ρ[i]? with
 |some (some (.cel x SH f hs))=>fv ρ>>=λd=>if x=cls/\(SH.lookup g).isSome=true/\SH.length<900 then .ok (.nx (ρ.set i (some (.cel x (AV g d SH) f hs))))else .bad
 |_=> .bad
theorem xb {α:Type} {g:L3}:∀{l:List (L3×α)},(l.lookup g).isSome=true->g∈l.map (·.1)
 |(k,v)::r,h=>by
  rw[Mm]at h
  cases e:g==k with
  |true=>rw[eq_of_beq e];exact Lo
  |false=>rw[e]at h;exact Lp _ (xb h)
theorem xc (i:Nat) (T:cF X.K cls xs) (hx:g∈xs) (hv:PQ ly X value fv) (hN:X.N[i]? =some y:=by rfl) (a2u:pT X.env.scope y:=by first|exact LW rfl|exact LI (LW rfl)|exact LI (LI rfl)) (hd:(y==("__debug__":L3))=false:=by decide)
  (U3:(y==("__classdict__":L3))=false:=by decide) (hs:M6 value (some (.Attribute (.Name y px) g SY)) pos.line X.env=pure false:=by rfl):mP ly X (.Assign [.Attribute (.Name y px) g SY] value pos) (rK i cls g fv):=by
 obtain⟨C,h1,h2⟩:=T.ex
 exact λc=>PS.weak (Ga (pv i hN a2u hd U3) (hv c) hs) λD σ H ⟨F,ρ,ri,w⟩=>by
  unfold rK at w
  split at w
  ·rename_i x SH f hs hi
   refine⟨F,ρ,ri,(aL.bind.mp w).imp λd _ w1 v H1 F1 e1 r1=> ?_⟩
   split at w1
   ·rename_i hc
    obtain⟨rfl,hl,SW⟩:=hc
    have VE:=ri.step e1
    obtain⟨a,dx,b,fs,vs,us,k1,k2,k3,k4,k5,k6,k7,k8,k9,YL,a1C⟩:=pi VE h1 hi
    have a0S:g∈vs.map (·.1):=by rw[k7.names];exact xb hl
    have a2v:g≠f:=λz=>by rw[z]at a0S;exact a1C a0S
    have Zu:fs.length<1000:=by
     have:(fs.map (·.1)).length<=(f::vs.map (·.1)).length:=i8 YL λq hq=>by
      obtain⟨u,hu⟩:=kO hq
      rcases k9 q u hu with z|z
      ·rw[z];exact Lo
      ·exact Lp _ z
     rw[L7,Lu,k7.names,L7]at this
     omega
    refine⟨_,k1,a,C,dx,fs,rfl,k2,h1.cl,h2 g hx,Zu,?_⟩
    have oa:gr H1 ρ σ i a:= .inr ⟨x,SH,f,hs,a,C,dx,fs,hi,k1,k2, .inl rfl⟩
    have cz:∀z,(z=a\/z=dx\/fs.lookup f=some (.ref z))->kR H1 ρ σ [i] z=none:=λz hz=>lZ (Lk.mpr rfl) (.inr ⟨x,SH,f,hs,a,C,dx,fs,hi,k1,k2,hz⟩)
    have a2w:dx≠a:=λz=>by have:=k3.own;rw[z,k2]at this;cases this
    have a2x:b≠a:=λz=>by rw[z,k2]at k5;cases k5
    refine w1 σ _ F1 e1.grow (VE.celUpd (dx:=dx) (b:=b) hi k1 oa ⟨⟨C,ip g v fs,vs.map (λp=>if p.1=g then (p.1,v)else p),us,aH,h1.ns,?_,?_,k6,k7.put r1,λp hp=> ?_,λq u hq=> ?_,vh _ _ YL,?_⟩,?_,k3.fa,k3.fd,k3.fb,cz a (.inl rfl),cz dx (.inr (.inl rfl)),cz b (.inr (.inr k4))⟩)
    ·rw[dg,if_neg (MN a2v)];exact k4
    ·rw[az a2x];exact k5
    ·obtain⟨q,hq,rfl⟩:=MU.mp hp
     rw[dg]
     by_cases z:q.1=g
     ·rw[if_pos z,if_pos z]
     ·rw[if_neg z,if_neg z];exact k8 q hq
    ·have Xh:(vs.map (λp=>if p.1=g then (p.1,v)else p)).map (·.1)=vs.map (·.1):=by
      rw[Mr];refine NX λp _=> ?_
      show (if p.1=g then (p.1,v)else p).1=p.1
      split<;>rfl
     rw[Xh]
     rw[dg]at hq
     by_cases z:q=g
     ·rw[z];exact .inr a0S
     ·rw[if_neg z]at hq;exact k9 q u hq
    ·have Xh:(vs.map (λp=>if p.1=g then (p.1,v)else p)).map (·.1)=vs.map (·.1):=by
      rw[Mr];refine NX λp _=> ?_
      show (if p.1=g then (p.1,v)else p).1=p.1
      split<;>rfl
     rw[Xh];exact a1C
    ·rw[az a2w];exact k3.own
   ·exact w1.elim
  ·exact w.elim
theorem zC {K:K_} {c:dM ly} {ρ:ag} {σ:St} {H F:Hp} {i:Nat} {C:L4} {x:L3} {SH:List (L3×D)} {f:L3} {hs T3:List D} {a dx b:L4} {fs:List (L3×V)} {us a0T:List V} (ri:RI K c ρ σ H F) (hi:ρ[i]? =some (some (.cel x SH f hs))) (k1:σ[i]? =some (some (.ref a))) (k2:H a=some (.ins C dx fs))
  (k3:lK K c.H0 H F a dx b x SH f hs) (k4:fs.lookup f=some (.ref b)) (k5:H b=some (.lst us)) (q:Reps K F a0T T3):RI K c (ρ.set i (some (.cel x SH f T3))) σ (ce H b (.lst a0T)) F:=by
 have cz:∀z,(z=a\/z=dx\/fs.lookup f=some (.ref z))->gr H ρ σ i z:=λz hz=> .inr ⟨x,SH,f,hs,a,C,dx,fs,hi,k1,k2,hz⟩
 have cy:∀z,gr H ρ σ i z->kR H ρ σ [i] z=none:=λz o=>lZ (Lk.mpr rfl) o
 have a2y:a≠b:=λz=>by rw[<-z,k2]at k5;cases k5
 have a2z:dx≠b:=λz=>by have:=k3.own;rw[z,k5]at this;cases this
 obtain⟨C',VW,vs,a44,g1,g2,g3,g4,g5,g6,g7⟩:=k3.ex
 rw[k2]at g1
 cases g1
 exact ri.celUpd (dx:=dx) (b:=b) hi k1 (cz b (.inr (.inr k4))) ⟨⟨C,fs,vs,a0T,by rw[az a2y];exact k2,g2,k4,aH,q,g6,g7⟩,by rw[az a2z];exact k3.own,k3.fa,k3.fd,k3.fb,cy _ (cz a (.inl rfl)),cy _ (cz dx (.inr (.inl rfl))),cy _ (cz b (.inr (.inr k4)))⟩
def rL (i:Nat) (cls g:L3) (f:ag->R D):ag->R bq:=λρ=>match ρ[i]? with
 |some (some (.cel x SH h hs))=>if x=cls/\h=g then (f ρ>>=λd=>if hs.length<lim then .ok (.nx (ρ.set i (some (.cel x SH h (hs++[d])))))else .bad)else .bad
 |_=> .bad
theorem D0 (i:Nat) (T:cF X.K cls xs) (hx:g∈xs) (h:PQ ly X e f) (hN:X.N[i]? =some y:=by rfl) (hv:pT X.env.scope y:=by first|exact LW rfl|exact LI (LW rfl)|exact LI (LI rfl)) (hd:(y==("__debug__":L3))=false:=by decide)
  (U3:(y==("__classdict__":L3))=false:=by decide) (hb:LY (.Name y px) g X.env (Ls (.Name y px) X.env)=Ls (.Name y px) X.env:=by rfl)
  (Th:LY (.Attribute (.Name y px) g VO) "append" X.env (Ls (.Attribute (.Name y px) g VO) X.env)=Ls (.Attribute (.Name y px) g VO) X.env:=by rfl)
  (Vc:((LK SK (L8 [e] X.env)).all (λx=> !x.1)&&(MT SK (Mt [] X.env)).all (λx=>x.1.isSome)
   &&decide (([e]:List Lc).length+([]:List N7).length+(if ([]:List N7).isEmpty then 0 else 1)<30))=true:=by rfl)
  (Ti:(SQ.endLine==SK.line)=true:=by rfl) (hs:L8 [e] X.env=(false,Ls e X.env)::L8 [] X.env:=by rfl) (Tj:(LK SK (L8 [] X.env)).any (·.1)=false:=by rfl)
  (Wn:M6 (.Call (.Attribute (.Attribute (.Name y px) g VO) "append" SQ) [e] [] SK) none pos.line X.env=pure false:=by rfl):mP ly X (.Expr (.Call (.Attribute (.Attribute (.Name y px) g VO) "append" SQ) [e] [] SK) pos) (rL i cls g f):=by
 obtain⟨C,h1,h2⟩:=T.ex
 exact λc=>PS.weak (oI (zc Mw Q0 Q1 pX (rX (pv i hN hv hd U3) hb) (dh (h c) gX hs) Th Vc Ti hs Tj) Wn) λD σ H ⟨F,ρ,ri,w⟩=>by
  unfold rL at w
  split at w
  ·rename_i x SH f' hs hi
   split at w
   ·rename_i hc
    obtain⟨rfl,rfl⟩:=hc
    obtain⟨a,dx,b,fs,vs,us,k1,k2,k3,k4,k5,k6,_⟩:=pi ri h1 hi
    refine⟨.ref a,k1,a,C,dx,fs, .ref b,rfl,k2,h1.cl,h2 _ hx,k4, .inl ⟨rfl,us,dC.of k5⟩,F,ρ,ri,(aL.bind.mp w).imp λd _ w1 v H1 F1 e1 r1=> ?_⟩
    split at w1
    ·rename_i hl
     refine⟨b,us,v,rfl,rfl,e1.keep _ _ k5,LM (by rw[k6.length];exact hl) gC,?_⟩
     exact w1 σ _ F1 e1.grow (zC (ri.step e1) hi k1 (e1.keep _ _ k2) (k3.step e1) k4 (e1.keep _ _ k5) ((k6.mono e1.grow).append (.cons r1 .nil)))
    ·exact w1.elim
   ·exact w.elim
  ·exact w.elim
def vm (j i:Nat) (cls g:L3):ag->R bq:=λρ=>match ρ[i]? with
 |some (some (.cel x SH h hs))=>if x=cls/\h=g then (match hs[hs.length - 1]? with
  |some d=> .ok (.nx ((ρ.set i (some (.cel x SH h hs.dropLast))).set j (some (.val d))))
  |none=> .bad)else .bad
 |_=> .bad
theorem Reps.dropLast {K:K_} {F:Hp} {vs:List V} {ds:List D} (h:Reps K F vs ds):Reps K F vs.dropLast ds.dropLast:=by
 rw[QB,QB,h.length];exact h.take _
theorem D1 (j i:Nat) {z:L3} (a0U:X.N.Nodup) (T:cF X.K cls xs) (hx:g∈xs) (hN:X.N[i]? =some y:=by rfl) (hv:pT X.env.scope y:=by first|exact LW rfl|exact LI (LW rfl)|exact LI (LI rfl)) (hd:(y==("__debug__":L3))=false:=by decide)
  (U3:(y==("__classdict__":L3))=false:=by decide) (hb:LY (.Name y px) g X.env (Ls (.Name y px) X.env)=Ls (.Name y px) X.env:=by rfl)
  (Th:LY (.Attribute (.Name y px) g VO) "pop" X.env (Ls (.Attribute (.Name y px) g VO) X.env)=Ls (.Attribute (.Name y px) g VO) X.env:=by rfl) (Ti:(SQ.endLine==SK.line)=true:=by rfl)
  (a2A:X.N[j]? =some z:=by rfl) (a2B:A7 X.env.scope z:=by first|exact LW rfl|exact LI rfl) (Wn:M6 (.Call (.Attribute (.Attribute (.Name y px) g VO) "pop" SQ) [] [] SK) (some (.Name z SY)) pos.line X.env=pure false:=by rfl)
  (hf:X.fn z=true\/X.env.scope.names.lookup z=some .local:=by first|exact .inl rfl|exact .inr rfl|assumption) (UI:lA ly j:=by(repeat (first|assumption|exact L2.Pu.fO|refine L2.Pu.eA ⟨by first|decide|simp,by first|decide|simp⟩ ?_))):
  mP ly X (.Assign [.Name z SY] (.Call (.Attribute (.Attribute (.Name y px) g VO) "pop" SQ) [] [] SK) pos) (vm j i cls g):=by
 obtain⟨C,h1,h2⟩:=T.ex
 exact λc=>PS.weak (nQ a0U a2A a2B (BS Mw QC QD BU (rX (pv i hN hv hd U3) hb) Th Ti) Wn hf) λD σ H ⟨F,ρ,ri,w⟩=>by
  unfold vm at w
  split at w
  ·rename_i x SH f' hs hi
   split at w
   ·rename_i hc
    obtain⟨rfl,rfl⟩:=hc
    obtain⟨a,dx,b,fs,vs,us,k1,k2,k3,k4,k5,k6,_⟩:=pi ri h1 hi
    split at w
    ·rename_i d hd
     obtain⟨v,m1,m2⟩:=k6.get hd
     refine⟨.ref a,k1,a,C,dx,fs, .ref b,rfl,k2,h1.cl,h2 _ hx,k4, .inl ⟨rfl,us,dC.of k5⟩,b,us,v,rfl,rfl,k5,by rw[k6.length];exact m1,?_⟩
     exact w _ _ F (bd.refl _) ((zC ri hi k1 k2 k3 k4 k5 k6.dropLast).setVal j UI m2)
    ·exact w.elim
   ·exact w.elim
  ·exact w.elim
variable {fx:ag->R (D×ag)}
def gT (f:ag->R D):ag->R bq:=λρ=>f ρ>>=λd=> .ok (.retc d ρ)
theorem jd (h:PQ ly X e f):mP ly X (.Return (some e) pos) (gT f):=λc=>PS.weak (rS (h c)) λD σ H ⟨F,ρ,ri,w⟩=>
 ⟨F,ρ,ri,(aL.bind.mp w).imp λd _ w1 v H' F' e r=>w1 v σ H' F' e.grow (ri.step e) r⟩
def iJ (fx:ag->R (D×ag)):ag->R bq:=λρ=>fx ρ>>=λr=> .ok (.retc r.1 r.2)
theorem l_ (h:PX ly X e fx):mP ly X (.Return (some e) pos) (iJ fx):=λc=>PS.weak (rS (h c)) λD σ H ⟨F,ρ,ri,w⟩=>
 ⟨F,ρ,ri,(aL.bind.mp w).imp λr _ w1 v H' F' e U2 rv=>w1 v σ H' F' e U2 rv⟩
def je (fx:ag->R (D×ag)):ag->R bq:=λρ=>fx ρ>>=λr=> .ok (.nx r.2)
theorem pj (h:PX ly X e fx) (Wn:M6 e none pos.line X.env=pure false:=by rfl):mP ly X (.Expr e pos) (je fx):=λc=>PS.weak (oI (h c) Wn) λD σ H ⟨F,ρ,ri,w⟩=>
 ⟨F,ρ,ri,(aL.bind.mp w).imp λr _ w1 v H' F' e U2 rv=>w1 σ H' F' e U2⟩
def zD (i:Nat) (fx:ag->R (D×ag)):ag->R bq:=λρ=>fx ρ>>=λr=> .ok (.nx (r.2.set i (some (.val r.1))))
theorem H9 (i:Nat) {x:L3} (hN:X.N.Nodup) (he:PX ly X e fx) (hi:X.N[i]? =some x:=by rfl) (hx:A7 X.env.scope x:=by first|exact LW rfl|exact LI rfl) (hs:M6 e (some (.Name x SY)) pos.line X.env=pure false:=by rfl)
  (hf:X.fn x=true\/X.env.scope.names.lookup x=some .local:=by first|exact .inl rfl|exact .inr rfl|assumption) (UI:lA ly i:=by(repeat (first|assumption|exact L2.Pu.fO|refine L2.Pu.eA ⟨by first|decide|simp,by first|decide|simp⟩ ?_))):mP ly X (.Assign [.Name x SY] e pos) (zD i fx):=λc=>
 PS.weak (nQ hN hi hx (he c) hs hf) λD σ H ⟨F,ρ,ri,w⟩=>⟨F,ρ,ri,(aL.bind.mp w).imp λr _ w1 v H' F' e U2 rv=>w1 _ H' F' e (U2.setVal i UI rv)⟩
def m7 (f:ag->R D) (fx:ag->R (D×ag)):ag->R (D×ag):=λρ=>f ρ>>=λd=>fx ρ>>=λr=> .ok (.lst [d,r.1],r.2)
theorem Ha (h:PQ ly X a f) (hx:PX ly X b fx) (hs:L8 [a,b] X.env=(false,Ls a X.env)::L8 [b] X.env:=by rfl) (VX:L8 [b] X.env=(false,Ls b X.env)::L8 [] X.env:=by rfl):PX ly X (.List [a,b] pos) (m7 f fx):=λc=>
 PE.weak (rY (dh (h c) (dh (hx c) gX VX) hs)) λσ H Q ⟨F,ρ,ri,w⟩=>⟨F,ρ,ri,(aL.bind.mp w).imp λd _ w1 v H1 F1 e1 r1=>⟨F1,ρ,ri.step e1,(aL.bind.mp w1).imp λr _ w2 u H2 F2 e2 Wk r2=>by
  refine⟨by show 2<=sizeLine;exact LP (by decide) gC,λp hp=> ?_⟩
  have e3:=cg.lay (o:= .lst [v,u]) Wk.sub hp
  exact w2 _ _ _ ((e1.grow.trans e2).trans e3.grow) (Wk.step e3) (.lst aH (.cons ((r1.mono e2).mono e3.grow) (.cons (r2.mono e3.grow) .nil)))⟩⟩
def Ks (K:K_) (c:dM ly) (gx:ag->R (Bool×ag)):TT:=λσ H Q=>∃F ρ,RI K c ρ σ H F/\aL c (gx ρ) λr=>∀H' F',bd F F'->RI K c r.2 σ H' F'->Q r.1 H'
def FD (ly:List fE) (X:Cx) (e:Lc) (gx:ag->R (Bool×ag)):Prop:=∀c:j3 ly X,PT X e (Ks X.K c.1 gx)
def sN (fx:ag->R (D×ag)):ag->R (Bool×ag):=λρ=>fx ρ>>=λr=>match r.1 with
 | .bl b=> .ok (b,r.2)
 |_=> .bad
theorem o3 (h:PX ly X e fx) (he:∀Uj,Qs e X.env Uj=(do let v<-Uj;Nq e.pos;MW [v] (RV v)):=by intro _;rfl):FD ly X e (sN fx):=λc=>PT.weak (FX (h c) he) λσ H Q ⟨F,ρ,ri,w⟩=>
 ⟨F,ρ,ri,(aL.bind.mp w).imp λr _ w1 v H' F' e U2 rv=>by
  cases q:r.1 with
  |bl b=>rw[q]at w1 rv;cases rv;exact⟨b,rfl,w1 H' F' e U2⟩
  |_=>rw[q]at w1;exact w1.elim⟩
def m8 (gx:ag->R (Bool×ag)):ag->R (Bool×ag):=λρ=>gx ρ>>=λr=> .ok (!r.1,r.2)
theorem o4 {gx:ag->R (Bool×ag)} (h:FD ly X e gx):FD ly X (.UnaryOp .Not e pos) (m8 gx):=λc=>PT.weak (Bt (h c)) λσ H Q ⟨F,ρ,ri,w⟩=>⟨F,ρ,ri,(aL.bind.mp w).imp λr _ w1 H' F' e U2=>w1 H' F' e U2⟩
def tP (gx:ag->R (Bool×ag)) (g g':ag->R bq):ag->R bq:=λρ=>gx ρ>>=λr=>if r.1=true then g r.2 else g' r.2
theorem sO {gx:ag->R (Bool×ag)} {g g':ag->R bq} {ta tb:List Lw} (hc:FD ly X e gx) (ha:jy ly X ta g) (hb:jy ly X tb g'):mP ly X (.If e ta tb pos) (tP gx g g'):=λc=>PS.weak (Fb (hc c) (ha c) (hb c)) λD σ H ⟨F,ρ,ri,w⟩=>
 ⟨F,ρ,ri,(aL.bind.mp w).imp λr _ w1 H1 F1 e1 VE=>by
  cases q:r.1 with
  |true=>rw[q]at w1;rw[if_pos rfl]at w1 ⊢;exact⟨F1,r.2,VE,w1.imp λo _ k=>k.mono e1⟩
  |false=>rw[q]at w1;rw[if_neg LA]at w1 ⊢;exact⟨F1,r.2,VE,w1.imp λo _ k=>k.mono e1⟩⟩
end
end L2.Pu
namespace L2.Pu
open PySem PySem.Spec PyProof.Rows
variable {ly:List fE}
mutual
inductive kl (f:L3):D->Prop
 |non:kl f .non
 |bl (b:Bool):kl f (.bl b)
 |int (i:Int):kl f (.int i)
 |str (x:L3):kl f (.str x)
 |tup {ds:List D}:Cleans f ds->kl f (.tup ds)
 |ins {x:L3} {fds:List (L3×D)}:fds.lookup f=none->CleanF f fds->kl f (.ins x fds)
inductive Cleans (f:L3):List D->Prop
 |nil:Cleans f []
 |cons {d:D} {ds:List D}:kl f d->Cleans f ds->Cleans f (d::ds)
inductive CleanF (f:L3):List (L3×D)->Prop
 |nil:CleanF f []
 |cons {k:L3} {d:D} {ds:List (L3×D)}:kl f d->CleanF f ds->CleanF f ((k,d)::ds)
end
open Classical in
noncomputable def kT (F:Hp) (Ow:L4->Prop):Hp:=λz=>if Ow z then none else F z
theorem pq {F:Hp} {Ow:L4->Prop} {z:L4} (h:¬Ow z):kT F Ow z=F z:=if_neg h
theorem sP {F:Hp} {Ow:L4->Prop} {z:L4} {u:HO} (h:kT F Ow z=some u):¬Ow z/\F z=some u:=by
 unfold kT at h
 split at h
 ·cases h
 ·rename_i n;exact⟨n,h⟩
theorem dZ.cut {K:K_} {F:Hp} {Ow:L4->Prop} {f:L3} (hn:∀z,Ow z->∀vs,F z≠some (.tup vs)) (hi:∀z,Ow z->∀C dx fs,F z=some (.ins C dx fs)->fs.lookup f≠none) (ho:∀z a,Ow z->F z=some (.own a)->Ow a) {v:V} {d:D} (h:dZ K F v d):kl f d->dZ K (kT F Ow) v d:=by
 refine dZ.rec (motive_1:=λv d _=>kl f d->dZ K (kT F Ow) v d) (motive_2:=λv d _=>Cleans f d->Reps K (kT F Ow) v d) (motive_3:=λv d _=>True) (motive_4:=λv d _=>CleanF f d->RepF K (kT F Ow) v d)
  (λ_=> .non) (λb _=> .bl b) (λi _=> .int i) (λx _=> .str x) (λ{a vs ds} h _ ih c=> ?_) (λh _ ih c=>by cases c) (λh c=>by cases c) (λh _ n ih c=>by cases c) (λ{a C dx x fs vs fds} h1 h2 h3 h4 h5 h6 ih c=> ?_) (λh n c=>by cases c) (λ_=> .nil) (λ_ _ ih a0V c=> ?_) trivial (λ_ _ _ _=>trivial) (λ_=> .nil) (λ_ _ ih a0V c=> ?_) h
 ·cases c with
  |tup c=>exact .tup (by rw[pq (λo=>hn a o vs h)];exact h) (ih c)
 ·cases c with
  |ins cl c=>
   have na:¬Ow a:=λo=>by
    refine hi a o C dx fs h1 ?_
    cases q:fs.lookup f with
    |none=>rfl
    |some u=>
     have:=h5 f u q
     rw[h6.names]at this
     exact absurd this (gH cl)
   have nd:¬Ow dx:=λo=>na (ho dx a o h2)
   exact .ins (by rw[pq na];exact h1) (by rw[pq nd];exact h2) h3 h4 h5 (ih c)
 ·cases c with
  |cons c1 c2=>exact .cons (ih c1) (a0V c2)
 ·cases c with
  |cons c1 c2=>exact .cons (ih c1) (a0V c2)
def Slot.frozen:Slot->Slot
 | .own d=> .val d
 | .cel x SH f hs=> .val (.ins x (SH++[(f, .lst hs)]))
 |s=>s
theorem vn (s:Slot):s.frozen.frozen=s.frozen:=by cases s<;>rfl
def sQ (i:Nat) (ρ:ag):ag:=match ρ[i]? with
 |some (some s)=>ρ.set i (some s.frozen)
 |_=>ρ
def pw (L:List Nat) (ρ:ag):ag:=L.foldl (λr i=>sQ i r) ρ
theorem AW (i:Nat) (ρ:ag):(sQ i ρ).length=ρ.length:=by
 unfold sQ
 split
 ·simp
 ·rfl
theorem uH:∀(L:List Nat) (ρ:ag),(pw L ρ).length=ρ.length
 |[],ρ=>rfl
 |i::L,ρ=>(uH L (sQ i ρ)).trans (AW i ρ)
theorem uI {i j:Nat} {ρ:ag} {s:Slot} (h:(sQ i ρ)[j]? =some (some s)):(i=j/\∃s0,ρ[j]? =some (some s0)/\s=s0.frozen)\/(i≠j/\ρ[j]? =some (some s)):=by
 unfold sQ at h
 split at h
 ·rename_i s0 hs
  rcases aB h with ⟨rfl,z,_⟩|⟨z,h⟩
  ·cases z;exact .inl ⟨rfl,s0,hs,rfl⟩
  ·exact .inr ⟨z,h⟩
 ·rename_i n
  refine .inr ⟨λe=> ?_,h⟩
  subst e
  exact n s h
theorem eB:∀{L:List Nat} {j:Nat} {ρ:ag} {s:Slot},(pw L ρ)[j]? =some (some s)->(j∈L/\∃s0,ρ[j]? =some (some s0)/\s=s0.frozen)\/(j∉L/\ρ[j]? =some (some s))
 |[],j,ρ,s,h=> .inr ⟨by simp,h⟩
 |i::L,j,ρ,s,h=>by
  rcases eB (L:=L) (ρ:=sQ i ρ) h with ⟨h1,s0,h2,h3⟩|⟨h1,h2⟩
  ·refine .inl ⟨Lp _ h1,?_⟩
   rcases uI h2 with ⟨rfl,s1,g1,g2⟩|⟨_,g1⟩
   ·exact⟨s1,g1,by rw[h3,g2,vn]⟩
   ·exact⟨s0,g1,h3⟩
  ·rcases uI h2 with ⟨rfl,s1,g1,g2⟩|⟨n,g1⟩
   ·exact .inl ⟨Lo,s1,g1,g2⟩
   ·exact .inr ⟨λm=>(Li.mp m).elim (λq=>n q.symm) h1,g1⟩
open Classical in
noncomputable def m9 (H F:Hp) (ρ:ag) (σ:St) (L:List Nat):Hp:=λz=>if ∃i∈L,gr H ρ σ i z then H z else F z
section
variable {K:K_} {c:dM ly} {ρ:ag} {σ:St} {H F H' F':Hp} {L:List Nat}
theorem mW {i:Nat} {z:L4} (hi:i∈L) (h:gr H ρ σ i z):m9 H F ρ σ L z=H z:=if_pos ⟨i,hi,h⟩
theorem jf {z:L4} (h:¬∃i∈L,gr H ρ σ i z):m9 H F ρ σ L z=F z:=if_neg h
theorem RepF.snoc {vs:List (L3×V)} {SH:List (L3×D)} {f:L3} {v:V} {d:D} (h:RepF K F vs SH) (r:dZ K F v d):RepF K F (vs++[(f,v)]) (SH++[(f,d)]):=by
 induction SH generalizing vs with
 |nil=>rw[h.nilI];exact .cons r .nil
 |cons p SH ih=>
  obtain⟨k,x⟩:=p
  obtain⟨u,us,rfl,h1,h2⟩:=h.consI
  exact .cons h1 (ih h2)
theorem RI.lend (r:RI K c ρ σ H F) (L:List Nat):bd F (m9 H F ρ σ L)/\RI K c (pw L ρ) σ H (m9 H F ρ σ L):=by
 have grow:bd F (m9 H F ρ σ L):=λz u e=>by
  by_cases o:∃i∈L,gr H ρ σ i z
  ·obtain⟨i,hi,o⟩:=o
   rw[(r.owns o).2.1]at e
   cases e
  ·rw[jf o];exact e
 have out:∀{j:Nat} {z:L4},j∉L->gr H ρ σ j z->m9 H F ρ σ L z=none:=λ{j z} hj o=>by
  rw[jf (λ⟨i,hi,o'⟩=>hj (by rw[r.owns_inj o o'];exact hi))]
  exact(r.owns o).2.1
 refine⟨grow,⟨⟨λz u e=> ?_,r.ext.keep,r.ext.grow.trans grow,λz e=> ?_⟩,λj d h=> ?_,λj d h=> ?_,λj d h=> ?_,r.bh,λj j' d d' a h h'=> ?_,?_,λM hM h=> ?_,λM hM M' Yv h h'=> ?_,r.fm.trans grow,⟨λj x SH f hs h=> ?_,λj j' x SH f hs s h h' T3=> ?_⟩,r.pin⟩⟩
 ·by_cases o:∃i∈L,gr H ρ σ i z
  ·obtain⟨i,hi,o⟩:=o
   rw[mW hi o]at e;exact e
  ·rw[jf o]at e;exact r.sub z u e
 ·by_cases o:∃i∈L,gr H ρ σ i z
  ·obtain⟨i,hi,o⟩:=o
   exact .inr (r.owns o).1
  ·rw[jf o]at e;exact r.ext.new z e
 ·rcases eB h with ⟨hj,s0,h1,h2⟩|⟨_,h1⟩
  ·cases s0 with
   |val d'=>cases h2;obtain⟨v,k1,k2⟩:=r.val j d h1;exact⟨v,k1,k2.mono grow⟩
   |own d'=>
    cases h2
    obtain⟨a,o,k1,k2,k3,k4,k5⟩:=r.own j d h1
    have fa:m9 H F ρ σ L a=some o:=by rw[mW hj (.inl ⟨d,h1,k1⟩)];exact k2
    refine⟨.ref a,k1,?_⟩
    cases k5 with
    |lst q=>exact .lst fa (q.mono grow)
    |dic q n=>exact .dic fa (q.mono grow) n
   |cel x SH f hs=>
    cases h2
    obtain⟨a,dx,b,k1,k2,k3⟩:=r.cel.ex j x SH f hs h1
    have Zq:=k2
    obtain⟨C,fs,vs,us,g1,g2,g3,g4,g5,g6,g7,g8,g9,a1w⟩:=k2.ex
    have ow:∀z,(z=a\/z=dx\/fs.lookup f=some (.ref z))->m9 H F ρ σ L z=H z:=λz hz=>mW hj (.inr ⟨x,SH,f,hs,a,C,dx,fs,h1,k1,g1,hz⟩)
    refine⟨.ref a,k1, .ins (by rw[ow a (.inl rfl)];exact g1) (by rw[ow dx (.inr (.inl rfl))];exact k2.own) g2 (vs:=vs++[(f, .ref b)]) (λp hp=> ?_) (λg v hg=> ?_) ((g6.mono grow).snoc (.lst (by rw[ow b (.inr (.inr g3))];exact g4) (g5.mono grow)))⟩
    ·rcases L_.mp hp with q|q
     ·exact g7 p q
     ·rw[Lk.mp q];exact g3
    ·rw[LU]
     rcases g8 g v hg with q|q
     ·rw[q];exact LL _ Lo
     ·exact Mi _ q
   |bor d'=>cases h2
   |obj=>cases h2
  ·obtain⟨v,k1,k2⟩:=r.val j d h1;exact⟨v,k1,k2.mono grow⟩
 ·rcases eB h with ⟨hj,s0,h1,h2⟩|⟨hj,h1⟩
  ·cases s0<;>cases h2
  ·obtain⟨a,o,k1,k2,k3,k4,k5⟩:=r.own j d h1
   exact⟨a,o,k1,k2,out hj (.inl ⟨d,h1,k1⟩),k4,k5.mono grow⟩
 ·rcases eB h with ⟨hj,s0,h1,h2⟩|⟨hj,h1⟩
  ·cases s0 with
   |bor d'=>cases h2;exact r.bor j d h1
   |_=>cases h2
  ·exact r.bor j d h1
 ·have un:∀{j:Nat} {d:D},(pw L ρ)[j]? =some (some (.own d))->ρ[j]? =some (some (.own d)):=λh=>by
   rcases eB h with ⟨hj,s0,h1,h2⟩|⟨hj,h1⟩
   ·cases s0<;>cases h2
   ·exact h1
  exact r.dis j j' d d' a (un h) (un h')
 ·rw[uH];exact r.len
 ·have h1:ρ[M.x]? =some (some .obj):=by
   rcases eB h with ⟨hj,s0,h1,h2⟩|⟨hj,h1⟩
   ·cases s0 with
    |obj=>exact h1
    |_=>cases h2
   ·exact h1
  obtain⟨a,dx,fs,k0,k1,k2,k3,k4,k5,k6⟩:=r.obj M hM h1
  have no:∀{z:L4} {u:HO},H z=some u->(∀d,¬j0 K F u d)->F z=none->m9 H F ρ σ L z=none:=λ{z u} hz nr hf=>by
   rw[jf]
   ·exact hf
   ·rintro⟨i,hi,o⟩
    rcases o with ⟨d,g1,g2⟩|⟨x,SH,f,hs,a,C,dx,fs,g1,_⟩
    ·obtain⟨p,u',q1,q2,_,_,q5⟩:=r.own i d g1
     rw[g2]at q1
     cases q1
     rw[hz]at q2
     cases q2
     exact nr d q5
    ·have:=r.cel.one i M.x x SH f hs _ g1 h1 rfl
     subst this
     rw[h1]at g1
     cases g1
  exact⟨a,dx,fs,k0,k1,k2,k3,no k2 (λd q=>by cases q) k4,no k3 (λd q=>by cases q) k5,k6⟩
 ·have un:∀{j:Nat},(pw L ρ)[j]? =some (some .obj)->ρ[j]? =some (some .obj):=λh=>by
   rcases eB h with ⟨hj,s0,h1,h2⟩|⟨hj,h1⟩
   ·cases s0 with
    |obj=>exact h1
    |_=>cases h2
   ·exact h1
  exact r.odis M hM M' Yv (un h) (un h')
 ·rcases eB h with ⟨hj,s0,h1,h2⟩|⟨hj,h1⟩
  ·cases s0<;>cases h2
  ·obtain⟨a,dx,b,k1,k2,k3⟩:=r.cel.ex j x SH f hs h1
   have Zq:=k2
   obtain⟨C,fs,vs,us,g1,g2,g3,g4,g5,g6,g7⟩:=k2.ex
   have ow:∀z,(z=a\/z=dx\/fs.lookup f=some (.ref z))->m9 H F ρ σ L z=none:=λz hz=>out hj (.inr ⟨x,SH,f,hs,a,C,dx,fs,h1,k1,g1,hz⟩)
   refine⟨a,dx,b,k1,⟨⟨C,fs,vs,us,g1,g2,g3,g4,g5.mono grow,g6.mono grow,g7⟩,k2.own,ow a (.inl rfl),ow dx (.inr (.inl rfl)),ow b (.inr (.inr g3)),k2.za,k2.zd,k2.zb⟩,λj' d h'=> ?_⟩
   rcases eB h' with ⟨WN,s0,WH,V8⟩|⟨WN,WH⟩
   ·cases s0<;>cases V8
   ·exact k3 j' d WH
 ·have un:∀{j:Nat} {s:Slot},(pw L ρ)[j]? =some (some s)->s.single=true->ρ[j]? =some (some s):=λh hs=>by
   rcases eB h with ⟨hj,s0,h1,h2⟩|⟨hj,h1⟩
   ·cases s0 with
    |obj=>rw[h2];exact h1
    |_=>rw[h2]at hs;cases hs
   ·exact h1
  exact r.cel.one j j' x SH f hs s (un h rfl) (un h' T3) T3
def zE (f:L3) (ρ:ag) (i:Nat):Bool:=match ρ[i]? with
 |some (some (.cel _ _ g _))=>g==f
 |_=>true
theorem RI.unlend (r:RI K c ρ σ H F) {f:L3} (hc:L.all (zE f ρ)=true) (e:cg H (m9 H F ρ σ L) H' F') {v:V} {d:D} (q:dZ K F' v d) (cl:kl f d):∃F2,cg H F H' F2/\dZ K F2 v d:=by
 have up:∀{i:Nat} {z:L4} {u:HO},i∈L->gr H ρ σ i z->H z=some u->F' z=some u:=λhi o h=>e.grow _ _ (by rw[mW hi o];exact h)
 have UG:∀{i:Nat} {z:L4},i∈L->gr H ρ σ i z->(∃d,j0 K F (Option.getD (H z) (.own 0)) d/\∃u,H z=some u)\/(∃C dx fs,H z=some (.ins C dx fs)/\fs.lookup f≠none)\/(∃a,H z=some (.own a)/\gr H ρ σ i a)\/∃us,H z=some (.lst us):=λ{i z} hi o=>by
  rcases o with ⟨d,g1,g2⟩|⟨x,SH,g,hs,a,C,dx,fs,g1,g2,g3,g4⟩
  ·obtain⟨p,u,q1,q2,_,_,q5⟩:=r.own i d g1
   rw[g2]at q1
   cases q1
   exact .inl ⟨d,by rw[q2];exact q5,u,q2⟩
  ·obtain⟨b,m1,m2,m3⟩:=r.celIn g1 g2 g3
   have hg:g=f:=by
    have:=Nk.mp hc i hi
    unfold zE at this
    rw[g1]at this
    simpa using this
   rcases g4 with rfl|rfl|g4
   ·exact .inr (.inl ⟨C,dx,fs,g3,by rw[<-hg,m2];simp⟩)
   ·exact .inr (.inr (.inl ⟨a,m1.own, .inr ⟨x,SH,g,hs,a,C,_,fs,g1,g2,g3, .inl rfl⟩⟩))
   ·rw[m2]at g4
    cases g4
    obtain⟨C',VW,vs,us,q1,q2,q3,q4,_⟩:=m1.ex
    exact .inr (.inr (.inr ⟨us,q4⟩))
 refine⟨kT F' (λz=>∃i∈L,gr H ρ σ i z),⟨λz u h=>e.sub z u (sP h).2,e.keep,λz u h=> ?_,λz h=> ?_⟩,q.cut (f:=f) ?_ ?_ ?_ cl⟩
 ·have no:¬∃i∈L,gr H ρ σ i z:=λ⟨i,hi,o⟩=>by rw[(r.owns o).2.1]at h;cases h
  rw[pq no]
  exact e.grow z u (by rw[jf no];exact h)
 ·cases w:kT F' (λz=>∃i∈L,gr H ρ σ i z) z with
  |none=>exact absurd w h
  |some u=>
   obtain⟨no,w2⟩:=sP w
   rcases e.new z (by rw[w2];simp)with k|k
   ·rw[jf no]at k;exact .inl k
   ·exact .inr k
 ·rintro z ⟨i,hi,o⟩ vs h
  obtain⟨_,_,u,hu⟩:=r.owns o
  rw[up hi o hu]at h
  cases h
  rcases UG hi o with ⟨d,k,_⟩|⟨C,dx,fs,k,_⟩|⟨a,k,_⟩|⟨us,k⟩
  ·rw[hu]at k;cases k
  ·rw[hu]at k;cases k
  ·rw[hu]at k;cases k
  ·rw[hu]at k;cases k
 ·rintro z ⟨i,hi,o⟩ C dx fs h
  obtain⟨_,_,u,hu⟩:=r.owns o
  rw[up hi o hu]at h
  cases h
  rcases UG hi o with ⟨d,k,_⟩|⟨C',Y8,VW,k,k2⟩|⟨a,k,_⟩|⟨us,k⟩
  ·rw[hu]at k;cases k
  ·rw[hu]at k;cases k;exact k2
  ·rw[hu]at k;cases k
  ·rw[hu]at k;cases k
 ·rintro z a ⟨i,hi,o⟩ h
  obtain⟨_,_,u,hu⟩:=r.owns o
  rw[up hi o hu]at h
  cases h
  rcases UG hi o with ⟨d,k,_⟩|⟨C',Y8,VW,k,k2⟩|⟨a',k,k2⟩|⟨us,k⟩
  ·rw[hu]at k;cases k
  ·rw[hu]at k;cases k
  ·rw[hu]at k;cases k;exact⟨i,hi,k2⟩
  ·rw[hu]at k;cases k
end
section
variable {X:Cx} {e:Lc} {es:List Lc} {f:ag->R D} {g:ag->R Bool} {pos:LR}
open Classical in
noncomputable def o5 (x:L3) (L:List Nat) (f:ag->R D):ag->R D:=λρ=>if L.all (zE x ρ)=true then (f (pw L ρ)>>=λd=>if kl x d then .ok d else .bad)else .bad
theorem zF (x:L3) (L:List Nat) (h:PQ ly X e f):PQ ly X e (o5 x L f):=λc=>PE.weak (h c) λσ H Q ⟨F,ρ,ri,w⟩=>by
 unfold o5 at w
 split at w
 ·rename_i hc
  obtain⟨s,U2⟩:=ri.lend L
  refine⟨_,_,U2,(aL.bind.mp w).imp λd _ w1 v H1 F1 e1 r1=> ?_⟩
  split at w1
  ·rename_i cl
   obtain⟨F2,e2,r2⟩:=ri.unlend hc e1 r1 cl
   exact w1 v H1 F2 e2 r2
  ·exact w1.elim
 ·exact w.elim
def o6 (L:List Nat) (g:ag->R Bool):ag->R Bool:=λρ=>g (pw L ρ)
theorem vo (L:List Nat) (h:ur ly X e g):ur ly X e (o6 L g):=λc=>PT.weak (h c) λσ H Q ⟨F,ρ,ri,w⟩=>by
 obtain⟨s,U2⟩:=ri.lend L
 exact⟨_,_,U2,aL.imp w λb _ w1 H1 F1 e1=>w1 H1 F (wY ri.sub e1.keep)⟩
end
end L2.Pu
namespace L2.Pu
open PySem PySem.Spec PyProof.Rows
variable {ly:List fE}
theorem RI.fldO {K:K_} {c:dM ly} {ρ:ag} {σ:St} {H F:Hp} (r:RI K c ρ σ H F) {f:L3} {L:fE} (hL:L∈ly) (hρ:ρ[L.x]? =some (some .obj)) {a dx p:L4} {fs:List (L3×V)} {i:Nat} {o:HO} {d:D} (hx:σ[L.x]? =some (some (.ref a))) (ha:H a=some (.ins L.C dx fs)) (hf:(f,i)∈L.fl)
  (hn:∀p∈L.fl,p.1=f<->p.2=i) (Yu:L.x≠i) (WQ:∀M∈ly,M≠L->M.x≠i/\∀p∈M.fl,p.2≠i) (XC:i<σ.length) (hp:H p=some o) (fp:F p=none) (zp:c.H0 p=none) (ro:j0 K F o d) (ne:∀(j:Nat) d',ρ[j]? =some (some (.own d'))->σ[j]? ≠some (some (.ref p))):
  RI K c (ρ.set i (some (.own d))) (σ.set i (some (.ref p))) (ce H a (.ins L.C dx (ip f (.ref p) fs))) F:=by
 obtain⟨b,Y8,VW,k0,k1,k2,k3,k4,k5,k6,k7,k8,k9,YL⟩:=r.obj L hL hρ
 rw[hx]at k1
 cases k1
 rw[ha]at k2
 cases k2
 have a2C:p≠a:=λz=>by subst z;rw[ha]at hp;cases hp;cases ro
 refine⟨⟨λx y e=> ?_,λx y e=> ?_,r.ext.grow,r.ext.new⟩,λj e q=> ?_,λj e q=> ?_,λj e q=> ?_,r.bh,λj k e e' x q1 q2 q3 q4=> ?_,by simp[r.len],λM hM hq=> ?_,λM hM M' Yv Zk Zl x q1 q2=> ?_,r.fm, .no λj x SH g hs w=> ?_,λM hM a h=> ?_⟩
 ·rw[az (λz=>by rw[z,k4]at e;cases e)];exact r.sub x y e
 ·rw[az (λz=>by rw[z,k6]at e;cases e)];exact r.ext.keep x y e
 ·rcases aB q with ⟨rfl,z,l⟩|⟨z,q⟩
  ·cases z
  ·rw[ao z];exact r.val j e q
 ·rcases aB q with ⟨rfl,z,l⟩|⟨z,q⟩
  ·cases z;exact⟨p,o,gA XC,by rw[az a2C];exact hp,fp,zp,ro⟩
  ·obtain⟨x,o,g1,g2,g3,g4,g5⟩:=r.own j e q
   have nx:x≠a:=λz=>by subst z;rw[ha]at g2;cases g2;cases g5
   exact⟨x,o,by rw[ao z];exact g1,by rw[az nx];exact g2,g3,g4,g5⟩
 ·rcases aB q with ⟨rfl,z,l⟩|⟨z,q⟩
  ·cases z
  ·rw[ao z];exact r.bor j e q
 ·rcases aB q1 with ⟨rfl,z,l⟩|⟨z,q1⟩
  ·rw[gA XC]at q3
   cases q3
   rcases aB q2 with ⟨rfl,z',l⟩|⟨z',q2⟩
   ·rfl
   ·rw[ao z']at q4;exact absurd q4 (ne k e' q2)
  ·rw[ao z]at q3
   rcases aB q2 with ⟨rfl,z',l⟩|⟨z',q2⟩
   ·rw[gA XC]at q4
    cases q4
    exact absurd q3 (ne j e q1)
   ·rw[ao z']at q4
    exact r.dis j k e e' x q1 q2 q3 q4
 ·by_cases W6:M=L
  ·subst W6
   refine⟨a,dx,ip f (.ref p) fs,k0,by rw[ao Yu.symm];exact hx,aH,?_,k4,k5,k6,k7,λp hp=> ?_,λg u hu=> ?_,vh _ _ YL⟩
   ·rw[az (λz=>by rw[z,ha]at k3;cases k3)];exact k3
   ·rw[dg]
    by_cases e:p.1=f
    ·rw[if_pos e,(hn p hp).mp e,gA XC];rfl
    ·rw[if_neg e,ao (λz=>e ((hn p hp).mpr z.symm))];exact k8 p hp
   ·rw[dg]at hu
    by_cases e:g=f
    ·subst e;exact MU.mpr ⟨_,hf,rfl⟩
    ·rw[if_neg e]at hu;exact k9 g u hu
  ·have ho:=WQ M hM W6
   rw[ao ho.1.symm]at hq
   obtain⟨b,dy,gs,g0,g1,g2,g3,g4,g5,g6,g7,g8,g9⟩:=r.obj M hM hq
   have nb:b≠a:=λz=>W6 (r.odis M hM L hL hq hρ a (by rw[<-z];exact g1) hx)
   have nd:dy≠a:=λz=>by subst z;rw[ha]at g3;cases g3
   refine⟨b,dy,gs,g0,by rw[ao ho.1.symm];exact g1,by rw[az nb];exact g2,by rw[az nd];exact g3,g4,g5,g6,g7,λp hp=> ?_,g9⟩
   rw[ao (ho.2 p hp).symm];exact g8 p hp
 ·have XY:∀M∈ly,M.x≠i:=λM hM=>by
   by_cases W6:M=L
   ·subst W6;exact Yu
   ·exact(WQ M hM W6).1
  rw[ao (XY M hM).symm]at q1 Zk
  rw[ao (XY M' Yv).symm]at q2 Zl
  exact r.odis M hM M' Yv Zk Zl x q1 q2
 ·rcases aB w with ⟨rfl,z,l⟩|⟨z,w⟩
  ·cases z
  ·have:=r.cel.one j L.x x SH g hs .obj w hρ rfl
   subst this
   rw[hρ]at w
   cases w
 ·have XY:M.x≠i:=by
   by_cases W6:M=L
   ·subst W6;exact Yu
   ·exact(WQ M hM W6).1
  rw[ao XY.symm];exact r.pin M hM a h
section
variable {X:Cx} {pos SY px pl:LR} {f y g:L3}
def D3 (x i:Nat):ag->R bq:=λρ=>match ρ[x]? with
 |some (some .obj)=> .ok (.nx (ρ.set i (some (.own (.lst [])))))
 |_=> .bad
theorem Hb {L:fE} (i:Nat) (hC:w9 X.K L.C) (n:eF X.K L.C f) (A:CL ly L f i) (hN:X.N[L.x]? =some y:=by rfl) (a0L:pT X.env.scope y:=by first|exact LW rfl|exact LI (LW rfl)|exact LI (LI rfl)) (hd:(y==("__debug__":L3))=false:=by decide)
  (U3:(y==("__classdict__":L3))=false:=by decide) (hi:X.N[i]? =some g:=by rfl) (hvis:¬pT X.env.scope g:=by decide+kernel) (hs:M6 (.List [] pl) (some (.Attribute (.Name y px) f SY)) pos.line X.env=pure false:=by rfl):
  mP ly X (.Assign [.Attribute (.Name y px) f SY] (.List [] pl) pos) (D3 L.x i):=by
 intro c Sv s σ H D I q
 obtain⟨F,ρ,ri,w⟩:=q
 have XC:i<σ.length:=by rw[I.len];exact(Lq.mp hi).1
 unfold D3 at w
 split at w
 ·rename_i hρ
  refine zx i hi hvis (pv L.x hN a0L hd U3) (rY gX) hs Sv s σ H D I ⟨ML _,λp hp=> ?_⟩
  have VE:=ri.step (cg.layOwn ri.sub (o:= .lst []) hp)
  obtain⟨a,dx,fs,h0,h1,h2,h3,h4,h5,h6,h7,h8,h9,YM⟩:=VE.obj L A.mem hρ
  have SW:fs.length<1000:=by
   have:(fs.map (·.1)).length<=(L.fl.map (·.1)).length:=i8 YM λq hq=>by
    obtain⟨u,hu⟩:=kO hq
    exact h9 q u hu
   rw[L7,L7]at this
   exact OY this A.few
  refine⟨_,h1,a,L.C,dx,fs,rfl,h2,hC,n,SW,?_⟩
  refine w _ _ F (bd.refl _) (VE.fldO A.mem hρ h1 h2 A.fl A.un A.x A.oth XC aH (ri.sub.free hp) (ri.ext.keep.free hp) (.lst .nil) λj d' hj e=> ?_)
  obtain⟨b,o',q1,q2,_⟩:=ri.own j d' hj
  rw[e]at q1
  cases q1
  rw[hp]at q2
  cases q2
 ·exact w.elim
end
def tR (fl:List (L3×Nat)) (fo:L3) (io:Nat) (ρ:ag):R (List (L3×D)×L3×List D):=match ρ[0]? with
 |some (some Slot.obj)=>(match ρ[io]? with
  |some (some (.own (.lst hs)))=>(match ef fl ρ with
   |some fds=> .ok (fds,fo,hs)
   |none=> .bad)
  |_=> .bad)
 |_=> .bad
def ma (k n:Nat) (fl:List (L3×Nat)) (fo:L3) (io:Nat) (g:ag->R bq) (ds:List D):R (List (L3×D)×L3×List D):=if ds.length=k then g (jO n ds)>>=λo=>match o with
 | .nx ρ=>tR fl fo io ρ
 |_=> .bad else .bad
def zG (K:K_) (C:L4) (cls:L3) (k:Nat) (mi:List D->R (List (L3×D)×L3×List D)):Sp:=λvs H Q E=>∃F x dx us ds Hz,vs= .ref x::us/\us.length=k/\bd F Hz/\Hz x=none/\Hz dx=none/\dx≠x/\H=ce (ce Hz dx (.own x)) x (.ins C dx [])/\Reps K F us ds/\match mi ds with
 | .ok r=>∀H' F' Y8 b,cg Hz F H' F'->lK K Hz H' F' x Y8 b cls r.1 r.2.1 r.2.2->Q .non H'
 | .err z _=>∀ec a H' F',eS K z ec->cg Hz F H' F'->E ec a H'
 | .bad=>False
theorem EJ {K:K_} {C:L4} {cls fo:L3} {io:Nat} {fl:List (L3×Nat)} {c:dM [⟨0,C,fl++[(fo,io)]⟩]} {ρ:ag} {σ:St} {H F:Hp} {fds:List (L3×D)} {hs:List D} {x:L4} (ri:RI K c ρ σ H F) (hρ:ρ[0]? =some (some .obj)) (a0M:c.oa 0=some x) (WK:Lh K Ld cls=some (some (.ref C)))
  (ho:ρ[io]? =some (some (.own (.lst hs)))) (h:ef fl ρ=some fds) (Zv:fo∉fl.map (·.1)):∃dx b,lK K c.H0 H F x dx b cls fds fo hs:=by
 obtain⟨a,dx,fs,h0,h1,h2,h3,h4,h5,h6,h7,h8,h9,YM⟩:=ri.obj _ (Lk.mpr rfl) hρ
 cases h0 x a0M
 obtain⟨vs,g1,g2,g3⟩:=n_ ri h λp hp=>h8 p (Mi _ hp)
 obtain⟨b,o,k1,k2,k3,k4,k5⟩:=ri.own io _ ho
 cases k5 with
 |lst q=>
  have lf:fs.lookup fo=some (.ref b):=by
   have:=h8 (fo,io) (LL _ Lo)
   rw[this]
   show (σ[io]?).join=_
   rw[k1];rfl
  refine⟨dx,b,⟨⟨C,fs,vs,_,h2,WK,lf,k2,q,g1,g3,λg v hg=> ?_,YM,by rw[g2];exact Zv⟩,h3,h4,h5,k3,h6,h7,k4⟩⟩
  have:=h9 g v hg
  rw[LU]at this
  rcases L_.mp this with z|z
  ·exact .inr (by rw[g2];exact z)
  ·exact .inl (Lk.mp z)
theorem D4 {P:Ll} {w:Ly} {K:K_} {mg:L3->Option L0} {base:Lr} {x qual cls fo:L3} {st:Lw} {f C:L4} {fd:Mq} {N ps:List L3} {k n m io:Nat} {fl:List (L3×Nat)} {g:ag->R bq} (F:zf K x qual st f fd) (S:aC N ps (al st))
  (WK:Lh K Ld cls=some (some (.ref C))) (hn:ps.length=n+1) (hm:N.length=m+1) (hg:∀p∈fl++[(fo,io)],n<p.2) (XQ:n<=m) (Zv:fo∉fl.map (·.1))
  (T2:∀(SE:L0) (A:LF) (outer:List MM) (s:L5) (H:Hp) (E:XK),c_ k (A.deeper (MO qual (al st) s.heap.objs.size f SE))->
   jy [⟨0,C,fl++[(fo,io)]⟩] (iZ (lz P w) P w K mg base N qual (al st) f SE A outer s H E) (bK st) g):fN P w K mg base (lz P w) (k+1) f fd ps (zG K C cls n (ma n m fl fo io g)):=by
 refine IH F S (λvs H Q E h=> ?_) (λSE A outer s H vs Q E hr h=> ?_)
 ·obtain⟨Fz,y,dy,us,ds,Hz,rfl,hl,_⟩:=h
  rw[Lu,hl,hn]
 ·obtain⟨Fz,y,dy,us,ds,Hz,rfl,hl,sub,hy,Zn,UR,rfl,r,w⟩:=h
  refine⟨_,T2 SE A outer s _ E hr ⟨⟨Hz,Fz,λ_=>none,λz _=>∀ec a H' F',eS K z ec->cg Hz Fz H' F'->E ec a H',λ_=>some y,λ_=>none⟩,sB λz ρ er ec a H' F' σ hc ri=>er ec a H' F' hc ri.ext⟩,?_⟩
  refine⟨Fz,jO m ds,uA hm sub hy Zn UR r (by omega) (λp hp=>by rw[hl];exact hg p hp),?_⟩
  have hd:ds.length=n:=by rw[<-r.length];exact hl
  unfold ma at w
  rw[if_pos hd]at w
  cases e:g (jO m ds)with
  |bad=>rw[e]at w;exact w.elim
  |err c ρ=>rw[e]at w;exact w
  |ok o=>
   rw[e]at w
   cases o with
   |nx ρ=>
    intro σ' H' F' _ U2
    rw[ar]at w
    cases hρ:ρ[0]? with
    |none=>simp only[tR,hρ]at w
    |some s0=>
     cases s0 with
     |none=>simp only[tR,hρ]at w
     |some s0=>
      cases s0 with
      |obj=>
       cases ho:ρ[io]? with
       |none=>simp only[tR,hρ,ho]at w
       |some s1=>
        cases s1 with
        |none=>simp only[tR,hρ,ho]at w
        |some s1=>
         cases s1 with
         |own d=>
          cases d with
          |lst hs=>
           cases e2:ef fl ρ with
           |none=>simp only[tR,hρ,ho,e2]at w
           |some a2n=>
            simp only[tR,hρ,ho,e2]at w
            obtain⟨dx,b,A⟩:=EJ U2 hρ rfl WK ho e2 Zv
            exact w H' F' dx b U2.ext A
          |_=>simp only[tR,hρ,ho]at w
         |_=>simp only[tR,hρ,ho]at w
      |_=>simp only[tR,hρ]at w
   |_=>exact w.elim
structure xf (P:Ll) (w:Ly) (K:K_) (mg:L3->Option L0) (base:Lr) (k:Nat) (cls:L3) (n:Nat) (mi:List D->R (List (L3×D)×L3×List D)):Prop where
 ex:∃C f fd ps,fN P w K mg base (lz P w) k f fd ps (zG K C cls n mi)/\mg cls=some (.ref C)/\Mk K C f/\gk K fd ps []
theorem D5 {P:Ll} {w:Ly} {K:K_} {mg:L3->Option L0} {base:Lr} {cls qual fo:L3} {st:Lw} {N ps fs:List L3} {k n m io:Nat} {fl:List (L3×Nat)} {g:ag->R bq} (A:qe K mg cls qual st ps fs) (S:aC N ps (al st)) (hn:ps.length=n+1) (hm:N.length=m+1) (hg:∀p∈fl++[(fo,io)],n<p.2) (XQ:n<=m) (Zv:fo∉fl.map (·.1))
  (T2:∀(C f:L4) (SE:L0) (A:LF) (outer:List MM) (s:L5) (H:Hp) (E:XK),w9 K C->(∀x∈fs,eF K C x)->c_ k (A.deeper (MO qual (al st) s.heap.objs.size f SE))->
   jy [⟨0,C,fl++[(fo,io)]⟩] (iZ (lz P w) P w K mg base N qual (al st) f SE A outer s H E) (bK st) g):xf P w K mg base (k+1) cls n (ma n m fl fo io g):=by
 obtain⟨C,f,fd,F,h1,h2,h3,h4,h5⟩:=A.ex
 exact⟨C,f,fd,ps,D4 F S h1.ns hn hm hg XQ Zv λSE A outer s H E hr=>T2 C f SE A outer s H E h1.cl h5 hr,h2,h3,h4⟩
def Ju (i:Nat) (ρ:ag):Bool:=(LZ ρ.length).all λj=>j==i||(match ρ[j]? with
 |some (some s)=> !s.single
 |_=>true)
theorem vp {i j:Nat} {ρ:ag} {s:Slot} (h:Ju i ρ=true) (hs:ρ[j]? =some (some s)) (hj:j≠i):s.single=false:=by
 have:=Nk.mp h j (ME.mpr (Lq.mp hs).1)
 rw[hs]at this
 simpa[hj]using this
theorem RI.setCel {K:K_} {c:dM ly} {ρ:ag} {σ:St} {H F:Hp} (r:RI K c ρ σ H F) (i:Nat) {a dx b:L4} {x:L3} {SH:List (L3×D)} {f:L3} {hs:List D} (hf:lA ly i) (hn:Ju i ρ=true) (A:lK K c.H0 H F a dx b x SH f hs) (ne:∀(j:Nat) d',ρ[j]? =some (some (.own d'))->σ[j]? ≠some (some (.ref b))):
  RI K c (ρ.set i (some (.cel x SH f hs))) (σ.set i (some (.ref a))) H F where
 obj:=λL hL hρ=>by
  rw[ao (hf L hL).1.symm]at hρ
  have:=vp hn hρ (hf L hL).1
  cases this
 odis:=λL hL L' V_ q1 q2 b k1 k2=>by
  rw[ao (hf L hL).1.symm]at k1 q1
  rw[ao (hf L' V_).1.symm]at k2 q2
  exact r.odis L hL L' V_ q1 q2 b k1 k2
 fm:=r.fm
 ext:=r.ext
 val:=λj e q=>by
  rcases aB q with ⟨rfl,z,l⟩|⟨z,q⟩
  ·cases z
  ·rw[ao z];exact r.val j e q
 own:=λj e q=>by
  rcases aB q with ⟨rfl,z,l⟩|⟨z,q⟩
  ·cases z
  ·rw[ao z];exact r.own j e q
 bor:=λj e q=>by
  rcases aB q with ⟨rfl,z,l⟩|⟨z,q⟩
  ·cases z
  ·rw[ao z];exact r.bor j e q
 bh:=r.bh
 dis:=λj k e e' a q1 q2 q3 q4=>by
  rcases aB q1 with ⟨rfl,z,l⟩|⟨z,q1⟩
  ·cases z
  ·rcases aB q2 with ⟨rfl,z',l⟩|⟨z',q2⟩
   ·cases z'
   ·rw[ao z]at q3;rw[ao z']at q4
    exact r.dis j k e e' a q1 q2 q3 q4
 len:=by simp[r.len]
 pin:=λL hL b h=>by rw[ao (hf L hL).1.symm];exact r.pin L hL b h
 cel:=by
  refine⟨λj y vd g hh q=> ?_,λj k y vd g hh s q1 q2 T3=> ?_⟩
  ·rcases aB q with ⟨rfl,z,l⟩|⟨z,q⟩
   ·cases z
    refine⟨a,dx,b,gA (by rw[<-r.len];exact l),A,λk d hk=> ?_⟩
    rcases aB hk with ⟨rfl,z',l'⟩|⟨z',hk⟩
    ·cases z'
    ·rw[ao z'];exact ne k d hk
   ·have:=vp hn q (MN z)
    cases this
  ·rcases aB q1 with ⟨rfl,z,l⟩|⟨z,q1⟩
   ·rcases aB q2 with ⟨rfl,z',l'⟩|⟨z',q2⟩
    ·rfl
    ·have:=vp hn q2 (MN z')
     rw[T3]at this
     cases this
   ·have:=vp hn q1 (MN z)
    cases this
section
variable {X:Cx} {e:Lc} {es:List Lc} {fs:ag->R (List D)} {cls:L3} {p pos Vs SY:LR}
def vq (i:Nat) (cls:L3) (n:Nat) (mi:List D->R (List (L3×D)×L3×List D)) (fs:ag->R (List D)):ag->R bq:=λρ=>if Ju i ρ=true then (fs ρ>>=λds=>if ds.length=n then (match mi ds with
 | .ok r=> .ok (.nx (ρ.set i (some (.cel cls r.1 r.2.1 r.2.2))))
 | .err x _=> .err x ρ
 | .bad=> .bad)else .bad)else .bad
theorem EK (i:Nat) {x:L3} {k n:Nat} {mi:List D->R (List (L3×D)×L3×List D)} (a0U:X.N.Nodup) (G:xf X.prog X.w X.K X.mg X.base k cls n mi) (hr:c_ (k+1) X.A) (ha:vV ly X (e::es) fs) (hi:X.N[i]? =some x:=by rfl) (hx:A7 X.env.scope x:=by first|exact LW rfl|exact LI rfl)
  (hs:M6 (.Call (.Name cls p) (e::es) [] pos) (some (.Name x SY)) Vs.line X.env=pure false:=by rfl) (hf:X.fn x=true\/X.env.scope.names.lookup x=some .local:=by first|exact .inl rfl|exact .inr rfl|assumption)
  (hg:Gl X cls:=by rfl) (Um:(cls==("__debug__":L3))=false:=by decide) (he:L8 (e::es) X.env=(false,Ls e X.env)::L8 es X.env:=by rfl) (U0:(LK pos (L8 es X.env)).any (·.1)=false:=by rfl)
  (UI:lA ly i:=by(repeat (first|assumption|exact L2.Pu.fO|refine L2.Pu.eA ⟨by first|decide|simp,by first|decide|simp⟩ ?_))):mP ly X (.Assign [.Name x SY] (.Call (.Name cls p) (e::es) [] pos) Vs) (vq i cls n mi fs):=by
 obtain⟨C,f,fd,ps,h1,h2,h3,h4⟩:=G.ex
 refine λc=>PS.weak (nQ a0U hi hx (yW h3 h1 hr hg h2 h4 .nil (oW c) (ha c) Um he U0) hs hf) λD σ H q=> ?_
 obtain⟨F,ρ,ri,w⟩:=q
 unfold vq at w
 split at w
 ·rename_i hn
  refine⟨F,ρ,ri,(aL.bind.mp w).imp λds _ w1 vs H1 F1 e1 r1 y dy hy Zn UR=> ?_⟩
  rw[Mu]
  split at w1
  ·rename_i hl
   have VE:=ri.step e1
   refine⟨F1,y,dy,vs,ds,H1,rfl,by rw[r1.length];exact hl,e1.sub,hy,Zn,UR,rfl,r1,?_⟩
   split at w1
   ·rename_i r hm
    intro H' F' Y8 b e' A
    refine⟨rfl,?_⟩
    have kf:∀{z:L4},H1 z=none->c.1.H0 z=none:=λh=>VE.ext.keep.free h
    refine w1 _ H' F' (e1.grow.trans e'.grow) ((VE.step e').setCel i UI hn ⟨A.ex,A.own,A.fa,A.fd,A.fb,kf A.za,kf A.zd,kf A.zb⟩ λj d' hj ej=> ?_)
    obtain⟨q,o,q1,q2,_⟩:=VE.own j d' hj
    rw[ej]at q1
    cases q1
    have:=A.zb
    rw[q2]at this
    cases this
   ·exact λec a H' F' hc e'=>⟨_,ρ,F',hc,VE.step e',w1⟩
   ·exact w1.elim
  ·exact w1.elim
 ·exact w.elim
end
end L2.Pu
namespace L2.Pu
open PySem PySem.Spec PyProof.Rows
variable {ly:List fE}
section
variable {K:K_} {F:Hp}
def jg:List D->Option (List Bool)
 |[]=>some []
 | .bl b::r=>(jg r).map (b::·)
 |_=>none
theorem qg:∀{ds:List D} {bs:List Bool} {vs:List V},jg ds=some bs->Reps K F vs ds->vs=bs.map V.bl:=by
 intro ds
 induction ds with
 |nil=>intro bs vs h r;cases h;rw[r.nilI];rfl
 |cons d r ih=>
  intro bs vs h g
  obtain⟨v,us,rfl,r1,t⟩:=g.consI
  cases d with
  |bl b=>
   cases r1
   replace h:(jg r).map (b::·)=some bs:=h
   cases e:jg r with
   |none=>rw[e]at h;cases h
   |some ms=>rw[e]at h;cases h;rw[ih e t];rfl
  |_=>cases h
theorem AX (bs:List Bool):jg (bs.map .bl)=some bs:=by
 induction bs with
 |nil=>rfl
 |cons n r ih=>show (jg (r.map D.bl)).map (n::·)=_;rw[ih];rfl
def vt:List D->Option D
 |[.lst ds]=>(jg ds).map λbs=> .bl (bs.any id)
 |_=>none
theorem mX:n9 K (λxs H Q=>∃(p:L4) (bs:List Bool),xs=[.ref p]/\dC K H p (bs.map V.bl)/\Q (.bl (bs.any id)) H) vt:=by
 intro vs ds d H F Q s rv h k
 match ds,h with
 |[.lst xs],h=>
  obtain⟨v,rfl,r⟩:=rv.one
  obtain⟨a,ws,rfl,h1,h2⟩:=r.lst s
  replace h:(jg xs).map (λbs=>D.bl (bs.any id))=some d:=h
  cases e:jg xs with
  |none=>rw[e]at h;cases h
  |some bs=>
   rw[e]at h
   cases h
   rw[qg e h2]at h1
   exact⟨a,bs,rfl,dC.of h1,k _ H F (cg.refl s) (.bl _)⟩
theorem km:LS "any"=some (.builtin "any"):=by decide+kernel
end
section
variable {X:Cx} {a o e:Lc} {fa fo fk:ag->R D} {SQ SK pos V7 p1 p2:LR}
def rM (f:ag->R D):ag->R D:=λρ=>f ρ>>=λd=>match d with
 | .lst ds=>(match cU ds with|some ns=>if ns.length<4000 then .ok (.int (gz ns))else .bad|none=> .bad)
 | .tup ds=>(match cU ds with|some ns=>if ns.length<4000 then .ok (.int (gz ns))else .bad|none=> .bad)
 |_=> .bad
theorem D6 (hc:X.calm=true) (a0x:X.mg "len"=none) (a0y:X.mg "set"=none) (ha:PB ly X a fa) (a0z:Gl X "len":=by rfl) (a0A:Gl X "set":=by rfl)
  (ZH:L8 [a] X.env=(false,Ls a X.env)::L8 [] X.env:=by rfl) (Yo:(LK V7 (L8 [] X.env)).any (·.1)=false:=by rfl)
  (Xu:L8 [.Call (.Name "set" p2) [a] [] V7] X.env=(false,Ls (.Call (.Name "set" p2) [a] [] V7) X.env)::L8 [] X.env:=by rfl) (Yp:(LK pos (L8 [] X.env)).any (·.1)=false:=by rfl):
  PQ ly X (.Call (.Name "len" p1) [.Call (.Name "set" p2) [a] [] V7] [] pos) (rM fa):=λc=>
 PE.weak (Aw hc (ha c) a0x a0y a0z a0A ZH Yo Xu Yp) λσ H Q ⟨F,ρ,ri,w⟩=>⟨F,ρ,ri,(aL.bind.mp w).imp λd _ w1 v H1 F1 e1 r1=>by
  cases d with
  |lst ds=>
   obtain⟨p,vs,rfl,h1,h2⟩:=r1.lst e1.sub
   cases q:cU ds with
   |none=>simp only[q]at w1;exact w1.elim
   |some ns=>
    simp only[q]at w1
    split at w1
    ·rename_i hl
     rw[hG q h2]at h1
     exact⟨p,ns,rfl, .inl (dC.of h1),hl,w1 _ H1 F1 e1 (.int _)⟩
    ·exact w1.elim
  |tup ds=>
   obtain⟨p,vs,rfl,h1,h2⟩:=r1.tup e1.sub
   cases q:cU ds with
   |none=>simp only[q]at w1;exact w1.elim
   |some ns=>
    simp only[q]at w1
    split at w1
    ·rename_i hl
     rw[hG q h2]at h1
     exact⟨p,ns,rfl, .inr (iY.of h1),hl,w1 _ H1 F1 e1 (.int _)⟩
    ·exact w1.elim
  |_=>exact w1.elim⟩
def FE (fo fk:ag->R D):ag->R D:=λρ=>fo ρ>>=λd=>match d with
 | .lst ds=>fk ρ>>=λk=>(match jg ds,k with
  |some bs, .bl b=> .ok (.int (bs.count b))
  |_,_=> .bad)
 |_=> .bad
def FF (fo fk:ag->R D):ag->R D:=λρ=>fo ρ>>=λd=>match d with
 | .lst ds=>fk ρ>>=λk=>(match jg ds,k with
  |some bs, .bl b=>if b∈bs/\bs.length<1000 then .ok (.int (bs.idxOf b))else .bad
  |_,_=> .bad)
 |_=> .bad
theorem Hc (ho:PB ly X o fo) (hk:PQ ly X a fk) (Th:LY o "count" X.env (Ls o X.env)=Ls o X.env:=by rfl)
  (Vc:((LK SK (L8 [a] X.env)).all (λx=> !x.1)&&(MT SK (Mt [] X.env)).all (λx=>x.1.isSome)
   &&decide (([a]:List Lc).length+([]:List N7).length+(if ([]:List N7).isEmpty then 0 else 1)<30))=true:=by rfl)
  (Ti:(SQ.endLine==SK.line)=true:=by rfl) (hs:L8 [a] X.env=(false,Ls a X.env)::L8 [] X.env:=by rfl) (Tj:(LK SK (L8 [] X.env)).any (·.1)=false:=by rfl):
  PQ ly X (.Call (.Attribute o "count" SQ) [a] [] SK) (FE fo fk):=λc=>
 PE.weak (zc Mw Np Q7 Ar (ho c) (dh (hk c) gX hs) Th Vc Ti hs Tj) λσ H Q ⟨F,ρ,ri,w⟩=>⟨F,ρ,ri,(aL.bind.mp w).imp λd _ w1 v H1 F1 e1 r1=>by
  cases d with
  |lst ds=>
   obtain⟨p,vs,rfl,h1,h2⟩:=r1.lst e1.sub
   refine⟨.inl ⟨rfl,vs,dC.of h1⟩,F1,ρ,ri.step e1,(aL.bind.mp w1).imp λk _ w2 u H2 F2 e2 r2=> ?_⟩
   cases q:jg ds with
   |none=>simp only[q]at w2;exact w2.elim
   |some bs=>
    cases k with
    |bl b=>
     cases r2
     simp only[q]at w2
     rw[qg q h2]at h1
     exact⟨p,b,bs,rfl,rfl,dC.of (e2.keep _ _ h1),w2 _ H2 F2 (e1.trans e2) (.int _)⟩
    |_=>simp only[q]at w2;exact w2.elim
  |_=>exact w1.elim⟩
theorem Hd (ho:PB ly X o fo) (hk:PQ ly X a fk) (Th:LY o "index" X.env (Ls o X.env)=Ls o X.env:=by rfl)
  (Vc:((LK SK (L8 [a] X.env)).all (λx=> !x.1)&&(MT SK (Mt [] X.env)).all (λx=>x.1.isSome)
   &&decide (([a]:List Lc).length+([]:List N7).length+(if ([]:List N7).isEmpty then 0 else 1)<30))=true:=by rfl)
  (Ti:(SQ.endLine==SK.line)=true:=by rfl) (hs:L8 [a] X.env=(false,Ls a X.env)::L8 [] X.env:=by rfl) (Tj:(LK SK (L8 [] X.env)).any (·.1)=false:=by rfl):
  PQ ly X (.Call (.Attribute o "index" SQ) [a] [] SK) (FF fo fk):=λc=>
 PE.weak (zc Mw Q6 PySem.F.type_list_index As (ho c) (dh (hk c) gX hs) Th Vc Ti hs Tj) λσ H Q ⟨F,ρ,ri,w⟩=>⟨F,ρ,ri,(aL.bind.mp w).imp λd _ w1 v H1 F1 e1 r1=>by
  cases d with
  |lst ds=>
   obtain⟨p,vs,rfl,h1,h2⟩:=r1.lst e1.sub
   refine⟨.inl ⟨rfl,vs,dC.of h1⟩,F1,ρ,ri.step e1,(aL.bind.mp w1).imp λk _ w2 u H2 F2 e2 r2=> ?_⟩
   cases q:jg ds with
   |none=>simp only[q]at w2;exact w2.elim
   |some bs=>
    cases k with
    |bl b=>
     cases r2
     simp only[q]at w2
     split at w2
     ·rename_i hb
      rw[qg q h2]at h1
      exact⟨p,b,bs,rfl,rfl,dC.of (e2.keep _ _ h1),hb.1,hb.2,w2 _ H2 F2 (e1.trans e2) (.int _)⟩
     ·exact w2.elim
    |_=>simp only[q]at w2;exact w2.elim
  |_=>exact w1.elim⟩
end
end L2.Pu
namespace L2
open PySem PySem.Spec PyProof.Rows
section
variable {X:Cx}
def He (k:Int):L0->Bool
 | .int b _=>b==k
 |_=>false
theorem vv {k:Int}:∀{ns:List Int} {its:List L0},bp (ns.map V.int) its->its.countP (He k)=ns.count k
 |[],its,r=>by cases r;rfl
 |b::bs,its,r=>by
  cases r with
  |cons h t=>obtain⟨u,rfl⟩:=h;rw[RK,S1,vv t];rfl
def zH (K:K_):V->List V->Hp->VK->Prop:=λx vs H Q=>∃(l:L4) (k:Int) (ns:List Int),x= .ref l/\vs=[.int k]/\dC K H l (ns.map V.int)/\Q (.int (ns.count k)) H
theorem AY:Gh X "list.count" (zH X.K):=by
 intro Sv s σ H x vs v us Q I rx rv h
 obtain⟨l,k,bs,rfl,rfl,hx,q⟩:=h
 cases rx
 obtain⟨u,rfl,ru⟩:=rv.one
 obtain⟨tk,rfl⟩:=ru
 obtain⟨its,r,ht,hz⟩:=I.list hx
 obtain⟨⟨cls,dd,data,sl⟩,ho,hc,n,hd⟩:=ht.isList
 simp only at hc hd
 subst hc hd
 refine Nv Np ⟨_,ho,rfl⟩ PY (Pn _ _) (PZ l its.toArray n dd sl (.int k tk) (He k)) ⟨ho,λy hy=> ?_,?_⟩
 ·obtain⟨i,hi,e⟩:=Nn (show y∈its by simpa using hy)
  obtain⟨t,rfl⟩:=v4 r (i:=i) (v:=y) (by rw[LB hi,e])
  exact Ou _ t k tk
 ·rw[show its.toArray.toList=its from rfl,vv r]
  exact⟨.int _,H,I.tok _,⟨_,rfl⟩,q⟩
def I_ (K:K_):R2:=λx y H Q=>∃p q xs,x= .ref p/\y= .ref q/\dC K H p xs/\dC K H q []/\Q (.bl (!xs.isEmpty)) H
theorem qh (hu:X.A.units+1<Nf):lG X (Mv .NotEq) (I_ X.K):=by
 intro Sv s σ H x y v u Q I rx ry h
 obtain⟨p,q,xs,rfl,rfl,h1,h2,k⟩:=h
 cases rx
 cases ry
 obtain⟨its,r,pl,hz⟩:=I.list h1
 obtain⟨Vb,r2,Zp,a2p⟩:=I.list h2
 cases r2
 have l:=r.length
 cases xs with
 |nil=>
  cases its with
  |nil=>exact SeqAt.RcNeAt.lists (e:=λ_=>true) pl.isList Zp.isList rfl (by omega) (λj a b=>by simp at b) X.prog X.w X.xe (EP X Sv σ Q) ⟨.bl _,H,I,rfl,by simpa using k⟩
  |cons a b=>cases l
 |cons a b=>
  cases its with
  |nil=>cases l
  |cons c d=>exact SeqAt.RcNeAt.lists_lengths pl.isList Zp.isList (by simp) (by omega) X.prog X.w X.xe (EP X Sv σ Q) ⟨.bl _,H,I,rfl,by simpa using k⟩
end
end L2
namespace L2.Pu
open PySem PySem.Spec PyProof.Rows
variable {ly:List fE}
section
variable {K:K_} {F:Hp}
def KR:List D->Option D
 |[.lst ds]=>(jg ds).map λbs=> .bl (bs.all id)
 |_=>none
def r9:D->D->Option D
 | .lst ds, .lst []=>some (.bl (!ds.isEmpty))
 |_,_=>none
theorem mY:kh K (I_ K) r9:=by
 intro v u x y d H F Q s rx ry h k
 unfold r9 at h
 split at h
 ·rename_i ds
  cases h
  obtain⟨p,vs,rfl,h1,h2⟩:=rx.lst s
  obtain⟨q,us,rfl,h3,h4⟩:=ry.lst s
  rw[h4.nilI]at h3
  refine⟨p,q,vs,rfl,rfl,dC.of h1,dC.of h3,?_⟩
  have l:=h2.length
  have e:vs.isEmpty=ds.isEmpty:=by
   cases vs<;>cases ds<;>first|rfl|cases l
  rw[e]
  exact k _ H F (cg.refl s) (.bl _)
 ·cases h
end
section
variable {X:Cx} {a b o e:Lc} {fa fb fo fk:ag->R D} {SQ SK pos:LR}
end
end L2.Pu
namespace L2.Pu
open PySem PySem.Spec PyProof.Rows
variable {ly:List fE}
section
variable {X:Cx} {Vj tg T4:Lc} {V6:List Lc} {scope:MZ} {pos:LR} {fi:ag->R (List D)} {g:D->ag->R ag} {gt:ag->R Bool} {fe:ag->R D}
end
end L2.Pu
namespace L2
open PySem PySem.Spec PyProof.Rows
section
variable {X:Cx} {Sv:List (L4×LJ)} {σ:St} {H:Hp} {s:L5}
theorem AZ:d_ X (.builtin "abs") (λxs H Q=>∃i,xs=[.int i]/\Q (.int (if i<0 then -i else i)) H):=by
 intro Sv s σ H xs us Q I r h
 obtain⟨i,rfl,q⟩:=h
 obtain⟨u,rfl,t,rfl⟩:=j_ r
 exact call_abs_int λu tk=>⟨.int _,H,I.tok _,⟨_,rfl⟩,q⟩
end
end L2
namespace L2.Pu
open PySem PySem.Spec PyProof.Rows
variable {ly:List fE}
def J0:List D->Option D
 |[.int i]=>some (.int (if i<0 then -i else i))
 |_=>none
theorem EL {K:K_}:n9 K (λxs H Q=>∃i,xs=[.int i]/\Q (.int (if i<0 then -i else i)) H) J0:=by
 intro vs ds d H F Q s rv h k
 match ds,h with
 |[.int i],h=>
  obtain⟨v,rfl,r⟩:=rv.one
  cases r.int
  cases h
  exact⟨i,rfl,k _ H F (cg.refl s) (.int _)⟩
theorem A_:LS "abs"=some (.builtin "abs"):=by decide+kernel
section
variable {X:Cx} {a b e:Lc} {f fk fv:ag->R D} {pos:LR}
end
end L2.Pu
namespace L2
open PySem PySem.Spec PyProof.Rows
section
variable {X:Cx} {Sv:List (L4×LJ)} {σ:St} {H:Hp} {s:L5} {h':Lr}
variable {o:Lc} {to:TE} {p1 SQ SK pos:LR}
end
end L2
namespace L2.Pu
open PySem PySem.Spec PyProof.Rows
variable {ly:List fE}
section
variable {K:K_} {F:Hp}
end
section
variable {X:Cx} {o:Lc} {fo:ag->R D} {p1 SQ SK pos:LR}
end
end L2.Pu
namespace L2.Pu
open PySem PySem.Spec PyProof.Rows
variable {ly:List fE}
section
variable {X:Cx} {e:Lc} {f:ag->R D} {pos:LR}
def Kt (i:Nat) (fk:ag->R D):ag->R bq:=λρ=>match ρ[i]? with
 |some (some (.own (.lst ds)))=>fk ρ>>=λk=>match k with
  | .int n=>if n.natAbs<=lim then (match seqIndex? n ds.length with
   |some m=>(match ds[m]? with
    |some _=> .ok (.nx (ρ.set i (some (.own (.lst (ds.eraseIdx m))))))
    |none=> .bad)
   |none=> .bad)else .bad
  |_=> .bad
 |_=> .bad
def zI (i:Nat):ag->R bq:=λρ=>match ρ[i]? with
 |some (some (.own (.lst ds)))=>(match ds[ds.length - 1]? with
  |some _=> .ok (.nx (ρ.set i (some (.own (.lst ds.dropLast)))))
  |none=> .bad)
 |_=> .bad
theorem Hf (i:Nat) {x:L3} {px SQ SK:LR} (hN:X.N[i]? =some x:=by rfl) (hv:pT X.env.scope x:=by first|exact LW rfl|exact LI (LW rfl)|exact LI (LI rfl)) (hd:(x==("__debug__":L3))=false:=by decide)
  (U3:(x==("__classdict__":L3))=false:=by decide) (Th:LY (.Name x px) "pop" X.env (Ls (.Name x px) X.env)=Ls (.Name x px) X.env:=by rfl)
  (Ti:(SQ.endLine==SK.line)=true:=by rfl)
  (Wn:M6 (.Call (.Attribute (.Name x px) "pop" SQ) [] [] SK) none pos.line X.env=pure false:=by rfl):mP ly X (.Expr (.Call (.Attribute (.Name x px) "pop" SQ) [] [] SK) pos) (zI i):=λc=>
 PS.weak (oI (BS Mw QC QD BU (pv i hN hv hd U3) Th Ti) Wn) λD σ H ⟨F,ρ,ri,w⟩=>by
  unfold zI at w
  split at w
  ·rename_i ds hi
   obtain⟨a,vs,h1,h2,h3⟩:=ri.ownL hi
   split at w
   ·rename_i d hd
    obtain⟨v,m1,m2⟩:=h3.get hd
    refine⟨_,h1, .inl ⟨rfl,vs,dC.of h2⟩,a,vs,v,rfl,rfl,h2,by rw[h3.length];exact m1,?_⟩
    exact w _ _ F (bd.refl _) (ri.change (o:= .lst vs) hi h1 (.lst h3.dropLast))
   ·exact w.elim
  ·exact w.elim
end
end L2.Pu
namespace L2.Pu
open PySem PySem.Spec PyProof.Rows
variable {ly:List fE}
section
variable {X:Cx} {a b e:Lc} {rest:List Lc} {f:ag->R D} {fx fy:ag->R (D×ag)} {gx gy:ag->R (Bool×ag)} {g:ag->R Bool} {pos:LR}
def D7 (fx:ag->R (D×ag)):ag->R bq:=λρ=>fx ρ>>=λr=> .ok (.ret r.1)
theorem Hg (h:PX ly X e fx):mP ly X (.Return (some e) pos) (D7 fx):=λc=>PS.weak (rS (h c)) λD σ H ⟨F,ρ,ri,w⟩=>
 ⟨F,ρ,ri,(aL.bind.mp w).imp λr _ w1 v H' F' e U2 rv=>w1 v H' F' e U2.ext rv⟩
def J3 (f:ag->R D):ag->R (D×ag):=λρ=>f ρ>>=λd=> .ok (d,ρ)
theorem KS (h:PQ ly X e f):PX ly X e (J3 f):=λc=>PE.weak (h c) λσ H Q ⟨F,ρ,ri,w⟩=>⟨F,ρ,ri,(aL.bind.mp w).imp λd _ w1 v H1 F1 e1 r1=>w1 v H1 F1 e1.grow (ri.step e1) r1⟩
theorem J4 {op:Sm} (h:PX ly X a fx):PX ly X (.BoolOp op [a] pos) fx:=λc=>Bu (h c)
def D8 (fx fy:ag->R (D×ag)):ag->R (D×ag):=λρ=>fx ρ>>=λr=>match r.1 with
 | .bl true=>fy r.2
 | .bl false=> .ok (.bl false,r.2)
 |_=> .bad
theorem J5 (ha:PX ly X a fx) (hb:PX ly X (.BoolOp .And (b::rest) pos) fy):PX ly X (.BoolOp .And (a::b::rest) pos) (D8 fx fy):=λc=>PE.weak (Bv (ha c) (hb c)) λσ H Q ⟨F,ρ,ri,w⟩=>
 ⟨F,ρ,ri,(aL.bind.mp w).imp λr hd w1 v H1 F1 e1 VE r1=>by
  cases q:r.1 with
  |bl b=>
   rw[q]at w1 r1
   cases r1
   cases b with
   |true=>exact⟨true,rfl,F1,r.2,VE,w1.imp λb' _ k v H2 F2 e2 Wk r2=>k v H2 F2 (e1.trans e2) Wk r2⟩
   |false=>exact⟨false,rfl,w1 _ H1 F1 e1 VE (.bl false)⟩
  |_=>rw[q]at w1;exact w1.elim⟩
def Hh (ly:List fE) (X:Cx) (e:Lc) (gx:ag->R (Bool×ag)):Prop:=∀c:j3 ly X,PW X e (Ks X.K c.1 gx)
theorem Hh.t (h:Hh ly X e gx):FD ly X e gx:=λc=>(h c).pt
def HI (g:ag->R Bool):ag->R (Bool×ag):=λρ=>g ρ>>=λb=> .ok (b,ρ)
theorem J6 (h:ur ly X e g):FD ly X e (HI g):=λc=>PT.weak (h c) λσ H Q ⟨F,ρ,ri,w⟩=>⟨F,ρ,ri,(aL.bind.mp w).imp λd _ w1 H1 F1 e1=>w1 H1 F1 e1.grow (ri.step e1)⟩
theorem D9 (h:FD ly X a gx):Hh ly X (.BoolOp .Or [a] pos) gx:=λc=>Bs (h c)
def Dc (gx gy:ag->R (Bool×ag)):ag->R (Bool×ag):=λρ=>gx ρ>>=λr=>if r.1=true then .ok (true,r.2)else gy r.2
theorem FG (h:FD ly X a gx) (hb:Hh ly X (.BoolOp .Or (b::rest) pos) gy):Hh ly X (.BoolOp .Or (a::b::rest) pos) (Dc gx gy):=λc=>PW.weak (Fa (h c) (hb c)) λσ H Q ⟨F,ρ,ri,w⟩=>
 ⟨F,ρ,ri,(aL.bind.mp w).imp λr hb w1 H1 F1 e1 VE=>by
  cases q:r.1 with
  |false=>rw[q]at w1;exact⟨F1,r.2,VE,w1.imp λb' _ k H2 F2 e2 Wk=>k H2 F2 (e1.trans e2) Wk⟩
  |true=>rw[q]at w1;exact w1 H1 F1 e1 VE⟩
end
end L2.Pu
namespace L2.Pu
open PySem PySem.Spec PyProof.Rows
section
variable {K:K_} {mg:L3->Option L0} {h:Lr}
def UF (K:K_) (x:L3) (st:Lw):Prop:=∃(f:L4) (oc:L0) (od:Option L4) (kV U1 pm:L0) (an:Option L4) (SE ct:L0) (VN:Array (Option L0)),Lh K Ld x=some (some (.ref f))/\K.lookup f=some ⟨oc,od, .func (M3 x x (dw st) (bK st) (al st) .none kV U1 pm an SE ct),VN⟩/\Nh K SE x=true/\LX K (.ref f)=true
def qL (K:K_) (C:L4) (m qual:L3) (st:Lw):Prop:=∃(f:L4) (oc:L0) (od:Option L4) (kV U1 pm:L0) (an:Option L4) (SE ct:L0) (VN:Array (Option L0)),Lm K (.ref C) m=some (some (.ref f))/\K.lookup f=some ⟨oc,od, .func (M3 m qual (dw st) (bK st) (al st) .none kV U1 pm an SE ct),VN⟩/\Nh K SE qual=true/\LX K (.ref f)=true/\OJ K (.ref f)=true
def BA (x qual:L3) (st:Lw) (ps:List L3):Prop:=∀(kV U1 pm:L0) (an:Option L4) (SE ct:L0) (us:List L0),us.length=ps.length->N1 (M3 x qual (dw st) (bK st) (al st) .none kV U1 pm an SE ct) ⟨us,[]⟩=pure (ps.zip us)
theorem UF.at {x:L3} {st:Lw} {ps:List L3} (u:UF K x st) (X:K.In h) (G:h.Ns Ld mg) (hb:BA x x st ps):cB K mg x st ps:=by
 obtain⟨f,oc,od,kV,U1,pm,an,SE,ct,VN,h1,h2,h3,h4⟩:=u
 exact⟨_,_,nS (st:=st) h2 h3 h4,LC X G h1,(nS (st:=st) h2 h3 h4).binds hb⟩
theorem qL.at {C:L4} {cls m qual:L3} {st:Lw} {ps:List L3} (u:qL K C m qual st) (c:jD K cls C) (hb:BA m qual st ps):dP K cls m qual st ps:=by
 obtain⟨f,oc,od,kV,U1,pm,an,SE,ct,VN,h1,h2,h3,h4,h5⟩:=u
 exact⟨_,_,_,nS (st:=st) h2 h3 h4,c,⟨h1,h5,h4⟩,(nS (st:=st) h2 h3 h4).binds hb⟩
theorem qL.mk {C:L4} {cls qual:L3} {st:Lw} {ps fs:List L3} (u:qL K C "__init__" qual st) (c:jD K cls C) (hm:mg cls=some (.ref C)) (p5:Nt K C=true) (p6:LX K (.ref C)=true) (no:∀x∈fs,eF K C x) (hb:BA "__init__" qual st ps):qe K mg cls qual st ps fs:=by
 obtain⟨f,oc,od,kV,U1,pm,an,SE,ct,VN,h1,h2,h3,h4,h5⟩:=u
 exact⟨_,_,_,nS (st:=st) h2 h3 h4,c,hm,⟨p5,h1,h5,p6⟩,(nS (st:=st) h2 h3 h4).binds hb,no⟩
def EM (K:K_) (C:L4):Prop:=Mh K C wu "ValueError.__new__"=true/\Lm K (.ref C) "__getattribute__"=some (some (.builtin "BaseException.__getattribute__"))/\Lm K (.ref C) "__getattr__"=some none/\Lm K (.ref C) "__class__"=some (some (.builtin "object.__class__"))/\
 LQ K C (.type "object")=some true/\LQ K C (.type "BaseException")=some true/\LQ K C (.ref C)=some true
def yu (K:K_):List L4->Prop
 |[]=>True
 |C::r=>EM K C/\yu K r
def vw (K:K_):List L3->List L4->Prop
 |[],[]=>True
 |x::xs,C::Cs=>Lh K Ld x=some (some (.ref C))/\vw K xs Cs
 |_,_=>False
def ix (K:K_) (v:L0) (f:Nat->Bool):Nat->List L4->Prop
 |_,[]=>True
 |i,C::r=>LQ K C v=some (f i)/\ix K v f (i+1) r
def yv {α:Type} (f:Nat->Bool):Nat->List α->List (α×Bool)
 |_,[]=>[]
 |i,x::r=>(x,f i)::yv f (i+1) r
def HJ (K:K_):Prop:=NC K (.builtin "object.__class__") "__get__"=some (some (.builtin "getset_descriptor.__get__"))/\N_ K (.builtin "object.__class__")=some true
theorem EM.ok {C:L4} (e:EM K C) (s:HJ K):v5 K C:=by
 obtain⟨e1,e2,e3,e4,e5,e6,e7⟩:=e
 exact EE e1 e2 e3 e4 e5 e6 (qf e1 e7) s.1 s.2
theorem qi {v:L0} {f:Nat->Bool} (s:HJ K) (hk:∀C b,LQ K C v=some b->LQ K C (.ref C)=some true->Mf K (.ref C) v=some b):∀{xs:List L3} {Cs:List L4} {i:Nat},vw K xs Cs->yu K Cs->ix K v f i Cs->
  ∀p∈yv f i xs,∃Ce,Lh K Ld p.1=some (some (.ref Ce))/\Mf K (.ref Ce) v=some p.2/\v5 K Ce
 |[],[],i,n,e,r,p,hp=>by cases hp
 |[],_::_,i,n,e,r,p,hp=>n.elim
 |_::_,[],i,n,e,r,p,hp=>n.elim
 |x::xs,C::Cs,i,n,e,r,p,hp=>by
  rcases Li.mp hp with rfl|hp
  ·exact⟨C,n.1,hk C _ r.1 e.1.2.2.2.2.2.2,e.1.ok s⟩
  ·exact qi s hk n.2 e.2 r.2 p hp
theorem cG {x:L3} {C:L4} {f:Nat->Bool} {xs:List L3} {Cs:List L4} (s:HJ K) (N:vw K xs Cs) (E:yu K Cs) (hm:mg x=some (.ref C)) (e1:Mh K C wu "ValueError.__new__"=true) (R:ix K (.ref C) f 0 Cs):eQ K mg x (AR (yv f 0 xs)):=
 ⟨_,hm,wW (qi s (λ_ _ m q=>AM e1 m q) N E R)⟩
theorem EN {f:Nat->Bool} {xs:List L3} {Cs:List L4} (s:HJ K) (N:vw K xs Cs) (E:yu K Cs) (R:ix K (.type "ValueError") f 0 Cs):qG K (.type "ValueError") (AR (yv f 0 xs)):=
 wW (qi s (λ_ _ m _=>AN m) N E R)
theorem dm (s:HJ K) (X:K.In h) (G:h.Ns Ld mg):∀{xs:List L3} {Cs:List L4},vw K xs Cs->yu K Cs->∀x∈xs,cK K mg x
 |[],[],n,e,x,hx=>by cases hx
 |[],_::_,n,e,x,hx=>n.elim
 |_::_,[],n,e,x,hx=>n.elim
 |y::xs,C::Cs,n,e,x,hx=>by
  rcases Li.mp hx with rfl|hx
  ·exact⟨C,n.1,LC X G n.1,e.1.ok s⟩
  ·exact dm s X G n.2 e.2 x hx
theorem bz:∀{xs:List L3} {Cs:List L4},vw K xs Cs->yu K Cs->∀(x:L3) (C:L4),(xs.zip Cs).lookup x=some C->Lh K Ld x=some (some (.ref C))/\EM K C
 |[],Cs,n,e,x,C,hx=>by cases hx
 |_::_,[],n,e,x,C,hx=>n.elim
 |y::xs,C'::Cs,n,e,x,C,hx=>by
  rw[List.zip_cons_cons,Mm]at hx
  cases q:x==y with
  |true=>rw[q]at hx;cases hx;rw[eq_of_beq q];exact⟨n.1,e.1⟩
  |false=>rw[q]at hx;exact bz n.2 e.2 x C hx
theorem B0 {cx:L3} {D:L4} (hm:mg cx=some (.ref D)) (e1:Mh K D wu "ValueError.__new__"=true) (e6:LQ K D (.type "BaseException")=some true) {xs:List L3} {Cs:List L4} (N:vw K xs Cs) (R:ix K (.ref D) (λ_=>true) 0 Cs):wM K mg cx (AQ xs):=by
 refine CU hm ?_
 have:∀{xs:List L3} {Cs:List L4} {i:Nat},vw K xs Cs->ix K (.ref D) (λ_=>true) i Cs->∀x∈xs,∃Ce,Lh K Ld x=some (some (.ref Ce))/\NJ K (.ref Ce) (.ref D)=some true:=by
  intro xs
  induction xs with
  |nil=>intro Cs i n r x hx;cases hx
  |cons y xs ih=>
   intro Cs i n r x hx
   cases Cs with
   |nil=>exact n.elim
   |cons C Cs=>
    rcases Li.mp hx with rfl|hx
    ·exact⟨C,n.1,AO e1 r.1 e6⟩
    ·exact ih n.2 r.2 x hx
 exact this N R
end
section
variable {x qual:L3} {st:Lw}
theorem b0 (h:∀kV U1 pm an SE ct,N1 (M3 x qual (dw st) (bK st) (al st) .none kV U1 pm an SE ct) ⟨[],[]⟩=pure []:=by intros;rfl):BA x qual st []:=λ_ _ _ _ _ _=>Kn (h _ _ _ _ _ _)
theorem b1 {p:L3} (h:∀kV U1 pm an SE ct a,N1 (M3 x qual (dw st) (bK st) (al st) .none kV U1 pm an SE ct) ⟨[a],[]⟩=pure [(p,a)]:=by intros;rfl):BA x qual st [p]:=λ_ _ _ _ _ _=>Ko (P:=λus=>N1 _ ⟨us,[]⟩=pure (QO _ us)) (h _ _ _ _ _ _)
theorem b2 {p q:L3} (h:∀kV U1 pm an SE ct a b,N1 (M3 x qual (dw st) (bK st) (al st) .none kV U1 pm an SE ct) ⟨[a,b],[]⟩=pure [(p,a),(q,b)]:=by intros;rfl):BA x qual st [p,q]:=λ_ _ _ _ _ _=>Kp (P:=λus=>N1 _ ⟨us,[]⟩=pure (QO _ us)) (h _ _ _ _ _ _)
theorem b3 {p q r:L3} (h:∀kV U1 pm an SE ct a b c,N1 (M3 x qual (dw st) (bK st) (al st) .none kV U1 pm an SE ct) ⟨[a,b,c],[]⟩=pure [(p,a),(q,b),(r,c)]:=by intros;rfl):BA x qual st [p,q,r]:=λ_ _ _ _ _ _=>Kq (P:=λus=>N1 _ ⟨us,[]⟩=pure (QO _ us)) (h _ _ _ _ _ _)
theorem b4 {p q r t:L3} (h:∀kV U1 pm an SE ct a b c d,N1 (M3 x qual (dw st) (bK st) (al st) .none kV U1 pm an SE ct) ⟨[a,b,c,d],[]⟩=pure [(p,a),(q,b),(r,c),(t,d)]:=by intros;rfl):BA x qual st [p,q,r,t]:=λ_ _ _ _ _ _=>Kr (P:=λus=>N1 _ ⟨us,[]⟩=pure (QO _ us)) (h _ _ _ _ _ _)
theorem b5 {p q r t u:L3} (h:∀kV U1 pm an SE ct a b c d e,N1 (M3 x qual (dw st) (bK st) (al st) .none kV U1 pm an SE ct) ⟨[a,b,c,d,e],[]⟩=pure [(p,a),(q,b),(r,c),(t,d),(u,e)]:=by intros;rfl):BA x qual st [p,q,r,t,u]:=λ_ _ _ _ _ _=>KQ (P:=λus=>N1 _ ⟨us,[]⟩=pure (QO _ us)) (h _ _ _ _ _ _)
end
end L2.Pu
namespace L2.Pu
open PySem PySem.Spec PyProof.Rows
variable {ly:List fE}
section
variable {X:Cx} {a b e:Lc} {es:List Lc} {st:Lw} {rest:List Lw} {f:ag->R D} {fs:ag->R (List D)} {g:ag->R bq} {gn:ag->R D} {pos p:LR} {x:L3}
theorem J7 {e:Lc} {es:List Lc} (h:vV ly X (e::es) fs):PN ly X (.List (e::es) pos) (eG fs):=λc=>
 PE.weak (rY (h c)) λσ H Q ⟨F,ρ,ri,w⟩=>⟨F,ρ,ri,(aL.bind.mp w).imp λds hd w1 vs H1 F1 e1 r1=>by
  split at w1
  ·rename_i hl
   exact⟨LP (by rw[r1.length];exact hl) gC,λp hp=>zy e1 w1 p (.lst vs) hp (.lst r1)⟩
  ·exact w1.elim⟩
def KU (K:K_) (c:dM ly) (g:ag->R D):TS:=λD σ H=>∃F ρ,RI K c ρ σ H F/\aL c (g ρ) λd=>∀a o H' F',cg c.H0 c.F0 H' F'->c.H0 a=none->H' a=some o->F' a=none->j0 K F' o d->D.rt (.ref a) H'
def EO (ly:List fE) (X:Cx) (st:List Lw) (g:ag->R D):Prop:=∀c:j3 ly X,rC X st (KU X.K c.1 g)
theorem Hi (h:PN ly X e f):EO ly X [.Return (some e) pos] f:=λc=>rC.weak (yP (rS (h c))) λD σ H ⟨F,ρ,ri,w⟩=>
 ⟨F,ρ,ri,w.imp λd _ k a o H' F' e h1 h2 h3 h4=>k a o H' F' (ri.ext.trans e) (ri.ext.keep.free h1) h2 h3 h4⟩
def Dd (g:ag->R bq) (gn:ag->R D):ag->R D:=λρ=>g ρ>>=λo=>match o with
 | .nx ρ'=>gn ρ'
 |_=> .bad
theorem EQ {s2:Lw} (h:mP ly X st g) (h2:EO ly X (s2::rest) gn):EO ly X (st::s2::rest) (Dd g gn):=λc=>rC.weak (vZ (h c) (h2 c)) λD σ H ⟨F,ρ,ri,w⟩=>by
 refine⟨F,ρ,ri,(aL.bind.mp w).imp λo ho w1=> ?_⟩
 cases o with
 |nx ρ'=>exact λσ' H' F' s r=>⟨F',ρ',r,w1⟩
 |_=>exact w1.elim
def Ku (K:K_) (n:Nat) (m:List D->R D):Sp:=λvs H Q E=>vs.length=n/\∃F ds,bd F H/\Reps K F vs ds/\match m ds with
 | .ok d=>∀a o H' F',cg H F H' F'->H a=none->H' a=some o->F' a=none->j0 K F' o d->Q (.ref a) H'
 | .err x _=>∀cls a H' F',eS K x cls->cg H F H' F'->E cls a H'
 | .bad=>False
def ER (k n:Nat) (g:ag->R D) (ds:List D):R D:=if ds.length=k then g (d3 n ds)else .bad
structure J8 (P:Ll) (w:Ly) (K:K_) (mg:L3->Option L0) (base:Lr) (k:Nat) (x:L3) (n:Nat) (m:List D->R D):Prop where
 ex:∃f fd ps,fN P w K mg base (lz P w) k f fd ps (Ku K n m)/\mg x=some (.ref f)/\LX K (.ref f)=true/\gk K fd ps []
theorem K5 {n k:Nat} {m:List D->R D} (F:J8 X.prog X.w X.K X.mg X.base k x n m) (hr:c_ k X.A)
  (ha:vV ly X (e::es) fs) (hg:Gl X x:=by rfl) (Um:(x==("__debug__":L3))=false:=by decide) (he:L8 (e::es) X.env=(false,Ls e X.env)::L8 es X.env:=by rfl) (U0:(LK pos (L8 es X.env)).any (·.1)=false:=by rfl):
  PN ly X (.Call (.Name x p) (e::es) [] pos) (aF m n fs):=by
 obtain⟨f,fd,ps,h1,h2,h3,h4⟩:=F.ex
 exact λc=>PE.weak (uS h1 hr hg h2 h3 h4 .nil (oW c) (ha c) Um he U0) λσ H Q ⟨F,ρ,ri,w⟩=>by
  refine⟨F,ρ,ri,(aL.bind.mp w).imp λds hd w1 vs H1 F1 e1 r1=> ?_⟩
  show Ku X.K n m (vs++[]) H1 Q (Ft X c.1 σ)
  rw[Mu]
  split at w1
  ·rename_i hl
   refine⟨by rw[r1.length];exact hl,F1,ds,e1.sub,r1,?_⟩
   cases q:m ds with
   |ok d=>rw[q]at w1;exact λa o H' F' e' n1 h1 f1 r'=>w1 a o H' F' (e1.trans e') (e1.keep.free n1) h1 f1 r'
   |err z ρe=>rw[q]at w1;exact λcls a H' F' ec e'=>⟨_,ρ,F',ec,ri.step (e1.trans e'),w1⟩
   |bad=>rw[q]at w1;exact w1.elim
  ·exact w1.elim
end
section
variable {P:Ll} {w:Ly} {K:K_} {mg:L3->Option L0} {base:Lr}
theorem Hj {x:L3} {st:Lw} {N ps:List L3} {k n m:Nat} {g:ag->R D} (A:cB K mg x st ps) (S:aC N ps (al st)) (hn:ps.length=n) (hm:N.length=m)
  (T2:∀(f:L4) (SE:L0) (A:LF) (outer:List MM) (s:L5) (H:Hp) (E:XK),c_ k (A.deeper (MO x (al st) s.heap.objs.size f SE))->
   EO [] (iZ (lz P w) P w K mg base N x (al st) f SE A outer s H E) (bK st) g):J8 P w K mg base (k+1) x n (ER n m g):=by
 obtain⟨f,fd,F,h1,h2⟩:=A.ex
 refine⟨f,fd,ps,IH F S (λvs H Q E h=>by rw[hn];exact h.1) (λSE A outer s H vs Q E hr h=> ?_),h1,F.kp,h2⟩
 obtain⟨hl,Fz,ds,sub,r,w⟩:=h
 refine⟨_,T2 f SE A outer s H E hr ⟨⟨H,Fz,λ_=>none,λx _=>∀cls a H' F',eS K x cls->cg H Fz H' F'->E cls a H',λ_=>none,λ_=>none⟩,sB λx ρ er cls a H' F' σ ec ri=>er cls a H' F' ec ri.ext⟩,?_⟩
 refine⟨Fz,d3 m ds,by rw[<-hm];exact wy sub r,?_⟩
 have hd:ds.length=n:=by rw[<-r.length];exact hl
 unfold ER at w
 rw[if_pos hd]at w
 cases e:g (d3 m ds)with
 |bad=>rw[e]at w;exact w.elim
 |err c ρ=>rw[e]at w;exact w
 |ok d=>rw[e]at w;exact w
end
end L2.Pu
namespace L2
open PySem PySem.Spec PyProof.Rows
section
variable {X:Cx}
theorem tU:d_ X (.builtin "sorted") (λxs H Q=>∃p ns,xs=[.ref p]/\H p=some (.tup (ns.map V.int))/\ns.length<64/\∀l,H l=none->Q (.ref l) (ce H l (.lst ((cW ns).map V.int)))):=by
 intro Sv s σ H xs us Q I rv h
 obtain⟨p,ns,rfl,hp,a0o,q⟩:=h
 obtain⟨u,rfl,ru⟩:=j_ rv
 cases ru
 obtain⟨hz,its,r,o,ho,hc,n,hd,_⟩:=(show cp X.prog X.w H s.heap p (.tup (ns.map V.int))from I.hok p _ hp)
 have hI:=kG r
 have SW:=r.length
 rw[L7]at SW
 refine O2 RE Rl Rm (Rn _) ?_
 unfold OU.«sorted»
 refine L6 (m:=RZ "sorted" 1 1 _) (Le ?_)
 refine L6 (RA p (.inr rfl) ho hc hd (λh' WM=> ?_) (by rw[La,Ms];omega))
 have eT:its.toArray.toList=its:=by simp
 rw[eT]
 refine L6 (Ox ?_ (by rw[Ms];omega))
 have Xf:(h'.push (seqObj "list" its.toArray 0)).get? h'.objs.size=some (seqObj "list" its.toArray 0):=LH _ rfl
 refine L6 (M1 (NO Qy ⟨_,Xf,rfl⟩ Qh (list_sort_tree Xf hI (by omega) λz zs a1 a2 a3=>⟨_,rfl,?_⟩) (Qz _)))
 refine Le ⟨_,rfl,?_⟩
 obtain⟨e,he⟩:=QT (out:=z) Xf
 have en:zs=cW ns:=i5 (a2.trans (i_ ns).symm) a3 (iR ns)
 subst en
 have UI:s.heap.get? h'.objs.size=none:=by
  cases e:s.heap.get? h'.objs.size with
  |none=>rfl
  |some o=>exact absurd (Ln (WM _ _ e)) (Me _)
 have kk:∀b o,s.heap.get? b=some o->(QM (h'.push (seqObj "list" its.toArray 0)) h'.objs.size its z).get? b=some o:=λb o eb=>by
  have hb:=WM b o eb
  have Vn:b<h'.objs.size:=Ln hb
  rw[QA (LN Vn) (by rw[R_];exact Na Vn)]
  exact Lb _ hb
 refine⟨.ref h'.objs.size,_,I.laidAt (o:= .lst ((cW ns).map V.int)) kk UI ⟨?_,z.toList,e,kb a1,by simpa[seqObj]using he⟩,rfl,q _ (I.hok.nowhere UI)⟩
 have h1:=a2.length_eq
 rw[L7,h1,Ms];omega
end
end L2
namespace L2.Pu
open PySem PySem.Spec PyProof.Rows
def uJ:List D->Option D
 |[.tup ds]=>(cU ds).bind λns=>if ns.length<64 then some (.lst ((cW ns).map .int))else none
 |_=>none
theorem vx {K:K_}:n9 K (λxs H Q=>∃p ns,xs=[.ref p]/\H p=some (.tup (ns.map V.int))/\ns.length<64/\∀l,H l=none->Q (.ref l) (ce H l (.lst ((cW ns).map V.int)))) uJ:=by
 intro vs ds d H F Q s rv h k
 match ds,h with
 |[.tup xs],h=>
  obtain⟨v,rfl,r⟩:=rv.one
  obtain⟨a,ws,rfl,h1,h2⟩:=r.tup s
  replace h:((cU xs).bind λns=>if ns.length<64 then some (D.lst ((cW ns).map .int))else none)=some d:=h
  cases e:cU xs with
  |none=>rw[e]at h;cases h
  |some ns=>
   rw[e]at h
   dsimp only[Option.bind]at h
   split at h
   ·rename_i hl
    cases h
    rw[hG e h2]at h1
    exact⟨a,ns,rfl,h1,hl,λl hn=>by
     have e2:=cg.lay (o:= .lst ((cW ns).map V.int)) s hn
     exact k _ _ _ e2 (.lst aH (ki _))⟩
   ·cases h
end L2.Pu
namespace L2
open PySem PySem.Spec PyProof.Rows L2.Pu
section
variable {X:Cx} {o e:Lc} {es:List Lc} {to:TE} {t:TA} {SQ SK:LR}
def zJ:V->List V->Hp->VK->Prop:=λx vs H Q=>∃(l:L4) (k:Int) (ns:List Int),x= .ref l/\vs=[.int k]/\H l=some (.tup (ns.map V.int))/\Q (.int (ns.count k)) H
theorem B1:Gh X "tuple.count" zJ:=by
 intro Sv s σ H x vs v us Q I rx rv h
 obtain⟨l,k,bs,rfl,rfl,hx,q⟩:=h
 cases rx
 obtain⟨u,rfl,ru⟩:=rv.one
 obtain⟨tk,rfl⟩:=ru
 obtain⟨hz,its,r,⟨cls,dd,data,sl⟩,ho,hc,n,hd,_⟩:=(show cp X.prog X.w H s.heap l (.tup (bs.map V.int))from I.hok l _ hx)
 simp only at hc hd
 subst hc hd
 refine Nv Q2 ⟨_,ho,rfl⟩ PySem.F.entry_tuple_count (PySem.F.args_tuple_count_2 _ _) (PySem.SeqAt.tuple_countAt l its.toArray n dd sl (.int k tk) (He k)) ⟨ho,λy hy=> ?_,?_⟩
 ·obtain⟨i,hi,e⟩:=Nn (show y∈its by simpa using hy)
  obtain⟨t,rfl⟩:=v4 r (i:=i) (v:=y) (by rw[LB hi,e])
  exact Ou _ t k tk
 ·rw[show its.toArray.toList=its from rfl,vv r]
  exact⟨.int _,H,I.tok _,⟨_,rfl⟩,q⟩
theorem Hk (ho:PE X o to) (ha:PA X (e::es) t) (Th:LY o "count" X.env (Ls o X.env)=Ls o X.env)
  (Vc:((LK SK (L8 (e::es) X.env)).all (λx=> !x.1)&&(MT SK (Mt [] X.env)).all (λx=>x.1.isSome)
   &&decide ((e::es).length+([]:List N7).length+(if ([]:List N7).isEmpty then 0 else 1)<30))=true)
  (Ti:(SQ.endLine==SK.line)=true) (hs:L8 (e::es) X.env=(false,Ls e X.env)::L8 es X.env) (Tj:(LK SK (L8 es X.env)).any (·.1)=false):
  PE X (.Call (.Attribute o "count" SQ) (e::es) [] SK) (λσ H Q=>to σ H λx H1=>(Jn X.K "list" x H1/\t σ H1 λxs H2=>zH X.K x xs H2 Q)\/∃p vs,x= .ref p/\H1 p=some (.tup vs)/\t σ H1 λxs H2=>zJ x xs H2 Q):=by
 intro Sv s σ H Q I h
 refine Qp Th Vc Ti rfl (cY (ho Sv s σ H _ I h) λv s1 z_=> ?_)
 obtain⟨x,H1,I1,r1,z⟩:=z_
 rcases z with ⟨ty,q1⟩|⟨p,vs,rfl,hp,q1⟩
 ·obtain⟨h1,h2⟩:=xZ I1 r1 ty
  refine⟨"list","list.count",Mw,Np,Q7,h1,h2,?_⟩
  have hA:=ha SK Sv s1 σ H1 _ I1 q1
  rw[hs]at hA ⊢
  refine NA (by show (false||(LK SK (L8 es X.env)).any (·.1))=false;rw[Tj]<;>rfl) (NP ?_)
  exact cY hA λus s2 ⟨vs,H2,I2,r2,q2⟩=>AY Sv s2 σ H2 x vs v us Q I2 r1 r2 q2
 ·cases r1
  obtain⟨hz,its,r,ob,XI,hc,n,hd,a0W⟩:=(show cp X.prog X.w H1 s1.heap p (.tup vs)from I1.hok p _ hp)
  refine⟨"tuple","tuple.count",PySem.F.plainAttrs_tuple,Q2,PySem.F.type_tuple_count,⟨ob,XI,hc⟩,λa e=>by cases e;exact⟨ob,XI,a0W⟩,?_⟩
  have hA:=ha SK Sv s1 σ H1 _ I1 q1
  rw[hs]at hA ⊢
  refine NA (by show (false||(LK SK (L8 es X.env)).any (·.1))=false;rw[Tj]<;>rfl) (NP ?_)
  exact cY hA λus s2 ⟨ZJ,H2,I2,r2,q2⟩=>B1 Sv s2 σ H2 (.ref p) ZJ (.ref p) us Q I2 rfl r2 q2
end
end L2
namespace L2.Pu
open PySem PySem.Spec PyProof.Rows
variable {ly:List fE} {X:Cx} {a o:Lc} {fo fk:ag->R D} {SQ SK:LR}
def zK (fo fk:ag->R D):ag->R D:=λρ=>fo ρ>>=λd=>match d with
 | .lst ds=>fk ρ>>=λk=>(match cU ds,k with
  |some bs, .int b=> .ok (.int (bs.count b))
  |_,_=> .bad)
 | .tup ds=>fk ρ>>=λk=>(match cU ds,k with
  |some bs, .int b=> .ok (.int (bs.count b))
  |_,_=> .bad)
 |_=> .bad
theorem Hl (ho:PB ly X o fo) (hk:PQ ly X a fk) (Th:LY o "count" X.env (Ls o X.env)=Ls o X.env:=by rfl)
  (Vc:((LK SK (L8 [a] X.env)).all (λx=> !x.1)&&(MT SK (Mt [] X.env)).all (λx=>x.1.isSome)
   &&decide (([a]:List Lc).length+([]:List N7).length+(if ([]:List N7).isEmpty then 0 else 1)<30))=true:=by rfl)
  (Ti:(SQ.endLine==SK.line)=true:=by rfl) (hs:L8 [a] X.env=(false,Ls a X.env)::L8 [] X.env:=by rfl) (Tj:(LK SK (L8 [] X.env)).any (·.1)=false:=by rfl):
  PQ ly X (.Call (.Attribute o "count" SQ) [a] [] SK) (zK fo fk):=λc=>
 PE.weak (Hk (ho c) (dh (hk c) gX hs) Th Vc Ti hs Tj) λσ H Q ⟨F,ρ,ri,w⟩=>⟨F,ρ,ri,(aL.bind.mp w).imp λd _ w1 v H1 F1 e1 r1=>by
  cases d with
  |lst ds=>
   obtain⟨p,vs,rfl,h1,h2⟩:=r1.lst e1.sub
   refine .inl ⟨.inl ⟨rfl,vs,dC.of h1⟩,F1,ρ,ri.step e1,(aL.bind.mp w1).imp λk _ w2 u H2 F2 e2 r2=> ?_⟩
   cases q:cU ds with
   |none=>simp only[q]at w2;exact w2.elim
   |some bs=>
    cases k with
    |int b=>
     cases r2
     simp only[q]at w2
     rw[hG q h2]at h1
     exact⟨p,b,bs,rfl,rfl,dC.of (e2.keep _ _ h1),w2 _ H2 F2 (e1.trans e2) (.int _)⟩
    |_=>simp only[q]at w2;exact w2.elim
  |tup ds=>
   obtain⟨p,vs,rfl,h1,h2⟩:=r1.tup e1.sub
   refine .inr ⟨p,vs,rfl,h1,F1,ρ,ri.step e1,(aL.bind.mp w1).imp λk _ w2 u H2 F2 e2 r2=> ?_⟩
   cases q:cU ds with
   |none=>simp only[q]at w2;exact w2.elim
   |some bs=>
    cases k with
    |int b=>
     cases r2
     simp only[q]at w2
     rw[hG q h2]at h1
     exact⟨p,b,bs,rfl,rfl,e2.keep _ _ h1,w2 _ H2 F2 (e1.trans e2) (.int _)⟩
    |_=>simp only[q]at w2;exact w2.elim
  |_=>exact w1.elim⟩
end L2.Pu
namespace L2.Pu
open PySem PySem.Spec PyProof.Rows
section
variable {K:K_} {f:L4} {oc:L0} {od:Option L4} {kV U1 pm:L0} {an:Option L4} {SE ct:L0} {VN:Array (Option L0)} {x qual:L3} {st:Lw} {C:L4}
theorem UF.of (h1:Lh K Ld x=some (some (.ref f))) (h2:K.lookup f=some ⟨oc,od, .func (M3 x x (dw st) (bK st) (al st) .none kV U1 pm an SE ct),VN⟩) (h3:Nh K SE x=true) (h4:LX K (.ref f)=true):UF K x st:=
 ⟨f,oc,od,kV,U1,pm,an,SE,ct,VN,h1,h2,h3,h4⟩
theorem qL.of (h1:Lm K (.ref C) x=some (some (.ref f))) (h2:K.lookup f=some ⟨oc,od, .func (M3 x qual (dw st) (bK st) (al st) .none kV U1 pm an SE ct),VN⟩) (h3:Nh K SE qual=true) (h4:LX K (.ref f)=true) (h5:OJ K (.ref f)=true):qL K C x qual st:=
 ⟨f,oc,od,kV,U1,pm,an,SE,ct,VN,h1,h2,h3,h4,h5⟩
end
end L2.Pu
namespace My
open PySem PySem.Spec PyProof.Rows L2 L2.Pu
def iy (i:Nat):Lw:=PySem.Challenge.pw_tankbalance_k24_take_back.main.body.getD i (.Pass ⟨0,0,0,0⟩)
abbrev RL:List L3:=["BadTanks","UnknownDay","UnknownPlace","SamePlace","WrongRises","UnknownStream","Twice","AlreadyMetered","NotMetered","ReadingMissing","OutOfRange","TooManyStreams","TooManyMeters","TooManyDays","TooManyDeeds","NothingDone"]
abbrev tb (k:Nat):L3->Option Bool:=AR (yv (·==k) 0 RL)
abbrev K6:L3->Option Bool:=AR (yv (λ_=>true) 0 RL)
abbrev K7:L3->Option Bool:=AR (yv (λ_=>false) 0 RL)
abbrev sR:List L3:=["tanks","streams","rises","readings"]
abbrev bE:List L3:=["came","streams","meters","passed"]
abbrev cw:List L3:=["tanks","now","history"]
abbrev kU:Lw:=cS (iy 21) 0
def sS:ag->R bq:=
 aw (pd 0 (aV (au 1) (gN 5)))
  (aw (pd 0 (aV (cn bX (a8 (cn ig (a8 (aa 2) (ai))) (ai))) (gN 6)))
  (aw (pd 0 (aV (cn bX (a8 (aa 3) (ai))) (gN 7)))
  (pd 0 (aV (cn bX (a8 (cn ig (a8 (aa 4) (ai))) (ai))) (gN 8)))))
def qM:List (L3×Nat):=[("tanks",5),("streams",6),("rises",7),("readings",8)]
def hW:List D->R (List (L3×D)):=mU 4 8 qM sS
abbrev fS:Lw:=cS (iy 30) 0
def rb:ag->R bq:=
 aw (pd 0 (aV (au 1) (gN 5)))
  (aw (pd 0 (aV (au 2) (gN 6)))
  (aw (pd 0 (aV (au 3) (gN 7)))
  (pd 0 (aV (au 4) (gN 8)))))
def qj:List (L3×Nat):=[("came",5),("streams",6),("meters",7),("passed",8)]
def b6:List D->R (List (L3×D)):=mU 4 8 qj rb
abbrev dR:Lw:=cS (iy 30) 1
def dS:ag->R bq:=
 aw (aV (f2 bD (cE "Standing" "came" (aa 0)) (fC (.int 1))) (gN 3))
  (bu (lX "Standing" 4 b6 (a8 (au 3) (a8 (f2 bD (cE "Standing" "streams" (aa 0)) (bS (a8 (bS (a8 (au 3) (a8 (au 1) (a8 (au 2) (ai))))) (ai)))) (a8 (cE "Standing" "meters" (aa 0)) (a8 (cE "Standing" "passed" (aa 0)) (ai)))))))
def cq:List D->R D:=bi 3 4 dS
abbrev d8:Lw:=cS (iy 30) 2
def da:ag->R bq:=
 aw (aV (cn bX (a8 (fL (bO ["self","number","streams","meters"] [(".0", .local),("stream", .local),("number", .free)] (cD (cE "Standing" "streams" (aa 0))) (gN 1) (fT (f2 sD (f2 aQ (aa 1) (fC (.int 0))) (aa 2))) (au 1))) (ai))) (gN 2))
  (aw (aV (cn bX (a8 (fL (bO ["self","number","streams","meters"] [(".0", .local),("meter", .local),("number", .free)] (cD (cE "Standing" "meters" (aa 0))) (gN 1) (fT (f2 sD (aa 1) (aa 2))) (au 1))) (ai))) (gN 3))
  (bu (lX "Standing" 4 b6 (a8 (cE "Standing" "came" (aa 0)) (a8 (au 2) (a8 (au 3) (a8 (cE "Standing" "passed" (aa 0)) (ai))))))))
def bT:List D->R D:=bi 2 4 da
abbrev dU:Lw:=cS (iy 30) 3
def kW:ag->R bq:=
 bu (lX "Standing" 4 b6 (a8 (cE "Standing" "came" (aa 0)) (a8 (cE "Standing" "streams" (aa 0)) (a8 (f2 bD (cE "Standing" "meters" (aa 0)) (cn bX (a8 (aa 1) (ai)))) (a8 (cE "Standing" "passed" (aa 0)) (ai))))))
def cr:List D->R D:=bi 2 2 kW
abbrev db:Lw:=cS (iy 30) 4
def dc:ag->R bq:=
 aw (aV (cn bX (a8 (fL (bO ["self","numbers","meters"] [(".0", .local),("meter", .local),("numbers", .free)] (cD (cE "Standing" "meters" (aa 0))) (gN 1) (fT (f2 (hE true) (aa 1) (aa 2))) (au 1))) (ai))) (gN 2))
  (bu (lX "Standing" 4 b6 (a8 (cE "Standing" "came" (aa 0)) (a8 (cE "Standing" "streams" (aa 0)) (a8 (au 2) (a8 (cE "Standing" "passed" (aa 0)) (ai)))))))
def bU:List D->R D:=bi 2 3 dc
abbrev fI:Lw:=cS (iy 30) 5
def nc:ag->R bq:=
 bu (lX "Standing" 4 b6 (a8 (cE "Standing" "came" (aa 0)) (a8 (cE "Standing" "streams" (aa 0)) (a8 (cE "Standing" "meters" (aa 0)) (a8 (f2 bD (cE "Standing" "passed" (aa 0)) (bS (a8 (au 1) (ai)))) (ai))))))
def cP:List D->R D:=bi 2 2 nc
abbrev iz:Lw:=iy 32
def re:ag->R bq:=
 aw (cA (dD (cn vt (a8 (fL (bO ["tanks","places"] [(".0", .local),("place", .local),("OUTSIDE", .globalImplicit),("tanks", .free)] (cD (au 1)) (gN 1) (gP) (Eo (f2 tL (aa 1) (fC (.int 0))) (f2 nV (aa 1) (aa 3))))) (ai))))
  (cO "UnknownPlace" (a8 (fC (.str "a place is neither the outside nor one of the tanks")) (ai)))
  (aE))
  (cA (fT (f2 dq (f2 aQ (aa 1) (fC (.int 0))) (f2 aQ (aa 1) (fC (.int 1)))))
  (cO "SamePlace" (a8 (fC (.str "a stream leads from one place to another one")) (ai)))
  (aE))
def eg:List D->R D:=bi 2 2 re
abbrev hX:Lw:=iy 33
def qk:ag->R bq:=
 aw (oY 2 (bO ["standing","numbers","there"] [(".0", .local),("stream", .local)] (cD (cE "Standing" "streams" (aa 0))) (gN 1) (gP) (f2 aQ (aa 1) (fC (.int 0)))))
  (aw (cA (dD (cn vt (a8 (fL (bO ["standing","numbers","there"] [(".0", .local),("number", .local),("there", .free)] (cD (au 1)) (gN 1) (gP) (f2 (hE true) (aa 1) (aa 2)))) (ai))))
  (cO "UnknownStream" (a8 (fC (.str "a stream that is named is not there")) (ai)))
  (aE))
  (cA (fT (f2 tL (rM (aa 1)) (cn c9 (a8 (aa 1) (ai)))))
  (cO "Twice" (a8 (fC (.str "a stream is named twice")) (ai)))
  (aE)))
def bC:List D->R D:=bi 2 3 qk
abbrev fW:Lw:=iy 34
def o7:ag->R bq:=
 cA (dD (cn vt (a8 (fL (bO ["standing","numbers"] [(".0", .local),("number", .local),("standing", .free)] (cD (au 1)) (gN 1) (gP) (f2 (hE true) (aa 1) (cE "Standing" "meters" (aa 2))))) (ai))))
  (cO "NotMetered" (a8 (fC (.str "a stream that is named has no meter")) (ai)))
  (aE)
def ci:List D->R D:=bi 2 2 o7
abbrev hZ:Lw:=iy 35
def ql:ag->R bq:=
 cA (dD (cn vt (a8 (fL (bO ["amounts"] [(".0", .local),("amount", .local),("abs", .globalImplicit),("MOST_AMOUNT", .globalImplicit)] (cD (au 0)) (gN 1) (gP) (f2 nV (cn J0 (a8 (aa 1) (ai))) (fC (.int 1000))))) (ai))))
  (cO "OutOfRange" (a8 (fC (.str "a rise or a reading lies out of range")) (ai)))
  (aE)
def cZ:List D->R D:=bi 1 1 ql
abbrev i9:Lw:=cS (iy 36) 0
def jQ:ag->R bq:=
 aw (cA (oG (fT (f2 tL (aa 1) (fC (.int 0)))) (fT (f2 nV (aa 1) (fC (.int 7)))))
  (cO "BadTanks" (a8 (fC (.str "a cellar can't have that many tanks")) (ai)))
  (aE))
  (aw (pd 0 (aV (au 1) (gN 2)))
  (aw (pd 0 (aV (lX "Standing" 4 b6 (a8 (fC (.int 0)) (a8 (bS (ai)) (a8 (bS (ai)) (a8 (bS (ai)) (ai)))))) (gN 3)))
  (D3 0 4)))
def sT:List (L3×Nat):=[("tanks",2),("now",3)]
def eC:List D->R (List (L3×D)×L3×List D):=ma 1 4 sT "history" 4 jQ
abbrev fX:Lw:=cS (iy 36) 1
def fY:ag->R bq:=
 aw (cA (fT (f2 Et (cn c9 (a8 (qK 0 "Cellar" "history") (ai))) (fC (.int 60))))
  (cO "TooManyDeeds" (a8 (fC (.str "no more deeds can be kept")) (ai)))
  (aE))
  (aw (rL 0 "Cellar" "history" (bS (a8 (au 1) (a8 (d4 0 "Cellar" "now") (ai)))))
  (rK 0 "Cellar" "now" (au 2)))
def aT:List Slot->List D->R (D×List Slot):=iw 1 2 2 fY
abbrev eK:Lw:=cS (iy 36) 2
def lC:ag->R bq:=
 aw (ii (aF eg 2 (a8 (d4 0 "Cellar" "tanks") (a8 (bS (a8 (au 1) (a8 (au 2) (ai)))) (ai)))))
  (aw (cA (fT (f2 Et (cn c9 (a8 (cE "Standing" "streams" (d4 0 "Cellar" "now")) (ai))) (fC (.int 12))))
  (cO "TooManyStreams" (a8 (fC (.str "no more streams can be there")) (ai)))
  (aE))
  (aw (je (kS 0 "Cellar" "keep_deed" (dQ [0] aT 2 (a8 (bS (a8 (fC (.str "stream comes")) (a8 (au 1) (a8 (au 2) (ai))))) (a8 (fF "Standing" "with_stream" 3 cq (d4 0 "Cellar" "now") (a8 (au 1) (a8 (au 2) (ai)))) (ai))))))
  (gT (cE "Standing" "came" (d4 0 "Cellar" "now")))))
def cC:List Slot->List D->R (D×List Slot):=iw 1 2 2 lC
abbrev eW:Lw:=cS (iy 36) 3
def mh:ag->R bq:=
 aw (ii (aF bC 2 (a8 (d4 0 "Cellar" "now") (a8 (bS (a8 (au 1) (ai))) (ai)))))
  (je (kS 0 "Cellar" "keep_deed" (dQ [0] aT 2 (a8 (bS (a8 (fC (.str "stream goes")) (a8 (au 1) (ai)))) (a8 (fF "Standing" "without_stream" 2 bT (d4 0 "Cellar" "now") (a8 (au 1) (ai))) (ai))))))
def cH:List Slot->List D->R (D×List Slot):=iw 1 1 1 mh
abbrev eX:Lw:=cS (iy 36) 4
def mj:ag->R bq:=
 aw (ii (aF bC 2 (a8 (d4 0 "Cellar" "now") (a8 (au 1) (ai)))))
  (aw (cA (o6 [0] (dD (cn vt (a8 (fL (bO ["self","numbers"] [(".0", .local),("number", .local),("self", .free)] (cD (au 1)) (gN 1) (gP) (f2 (hE false) (aa 1) (cE "Standing" "meters" (cE "Cellar" "now" (aa 2)))))) (ai)))))
  (cO "AlreadyMetered" (a8 (fC (.str "a stream that is named has a meter already")) (ai)))
  (aE))
  (aw (cA (fT (f2 nV (f2 bD (cn c9 (a8 (cE "Standing" "meters" (d4 0 "Cellar" "now")) (ai))) (cn c9 (a8 (aa 1) (ai)))) (fC (.int 10))))
  (cO "TooManyMeters" (a8 (fC (.str "no more meters can be there")) (ai)))
  (aE))
  (je (kS 0 "Cellar" "keep_deed" (dQ [0] aT 2 (a8 (bS (a8 (fC (.str "meters come")) (a8 (cn bX (a8 (aa 1) (ai))) (ai)))) (a8 (fF "Standing" "with_meters" 2 cr (d4 0 "Cellar" "now") (a8 (au 1) (ai))) (ai))))))))
def cI:List Slot->List D->R (D×List Slot):=iw 1 1 1 mj
abbrev fZ:Lw:=cS (iy 36) 5
def o8:ag->R bq:=
 aw (ii (aF bC 2 (a8 (d4 0 "Cellar" "now") (a8 (au 1) (ai)))))
  (aw (ii (aF ci 2 (a8 (d4 0 "Cellar" "now") (a8 (au 1) (ai)))))
  (je (kS 0 "Cellar" "keep_deed" (dQ [0] aT 2 (a8 (bS (a8 (fC (.str "meters go")) (a8 (cn bX (a8 (aa 1) (ai))) (ai)))) (a8 (fF "Standing" "without_meters" 2 bU (d4 0 "Cellar" "now") (a8 (au 1) (ai))) (ai)))))))
def d6:List Slot->List D->R (D×List Slot):=iw 1 1 1 o8
abbrev f_:Lw:=cS (iy 36) 10
def o9:ag->R bq:=
 bu (cn c9 (a8 (cE "Standing" "passed" (cE "Cellar" "now" (aa 0))) (ai)))
def bj:List D->R D:=bi 1 1 o9
abbrev fJ:Lw:=cS (iy 36) 6
def ng:ag->R bq:=
 aw (cA (fT (f2 sD (cn c9 (a8 (aa 1) (ai))) (d4 0 "Cellar" "tanks")))
  (cO "WrongRises" (a8 (fC (.str "each tank has one rise")) (ai)))
  (aE))
  (aw (oY 3 (bO ["self","rises","readings","numbers","day"] [(".0", .local),("pair", .local)] (cD (au 2)) (gN 1) (gP) (f2 aQ (aa 1) (fC (.int 0)))))
  (aw (q9 [3] (ii (aF bC 2 (a8 (d4 0 "Cellar" "now") (a8 (au 3) (ai))))))
  (aw (q9 [3] (ii (aF ci 2 (a8 (d4 0 "Cellar" "now") (a8 (au 3) (ai))))))
  (aw (cA (dD (cn vt (a8 (fL (bO ["self","rises","readings","numbers","day"] [(".0", .local),("meter", .local),("numbers", .free)] (cD (cE "Standing" "meters" (d4 0 "Cellar" "now"))) (gN 1) (gP) (f2 (hE true) (aa 1) (aa 2)))) (ai))))
  (cO "ReadingMissing" (a8 (fC (.str "a stream that has a meter has no reading")) (ai)))
  (aE))
  (aw (ii (aF cZ 1 (a8 (au 1) (ai))))
  (aw (ii (aF cZ 1 (a8 (fL (bO ["self","rises","readings","numbers","day"] [(".0", .local),("pair", .local)] (cD (au 2)) (gN 1) (gP) (f2 aQ (aa 1) (fC (.int 1))))) (ai))))
  (aw (cA (fT (f2 Et (cn c9 (a8 (cE "Standing" "passed" (d4 0 "Cellar" "now")) (ai))) (fC (.int 12))))
  (cO "TooManyDays" (a8 (fC (.str "no more days can be kept")) (ai)))
  (aE))
  (aw (aV (lX "Day" 4 hW (a8 (d4 0 "Cellar" "tanks") (a8 (cE "Standing" "streams" (d4 0 "Cellar" "now")) (a8 (au 1) (a8 (au 2) (ai)))))) (gN 4))
  (aw (je (kS 0 "Cellar" "keep_deed" (dQ [0] aT 2 (a8 (bS (a8 (fC (.str "day passes")) (a8 (cn bX (a8 (aa 1) (ai))) (a8 (cn bX (a8 (aa 2) (ai))) (ai))))) (a8 (fF "Standing" "with_day" 2 cP (d4 0 "Cellar" "now") (a8 (au 4) (ai))) (ai))))))
  (gT (o5 "history" [0] (fF "Cellar" "days_gone" 1 bj (au 0) ai))))))))))))
def cQ:List Slot->List D->R (D×List Slot):=iw 1 2 4 ng
abbrev gf:Lw:=cS (iy 36) 7
def gg:ag->R bq:=
 aw (cA (fT (f2 dq (cn c9 (a8 (qK 0 "Cellar" "history") (ai))) (fC (.int 0))))
  (cO "NothingDone" (a8 (fC (.str "no deed stands")) (ai)))
  (aE))
  (aw (vm 1 0 "Cellar" "history")
  (aw (rK 0 "Cellar" "now" (f2 aQ (aa 1) (fC (.int 1))))
  (gT (f2 aQ (aa 1) (fC (.int 0))))))
def cj:List Slot->List D->R (D×List Slot):=iw 1 0 1 gg
abbrev iA:Lw:=cS (iy 36) 8
def iB:ag->R bq:=
 aw (aV (cE "Standing" "meters" (cE "Cellar" "now" (aa 0))) (gN 1))
  (bu (cn bX (a8 (fL (bO ["self","meters"] [(".0", .local),("stream", .local),("meters", .free)] (cD (cE "Standing" "streams" (cE "Cellar" "now" (aa 0)))) (gN 1) (gP) (f2 bD (aa 1) (bS (a8 (f2 (hE false) (f2 aQ (aa 1) (fC (.int 0))) (aa 2)) (ai)))))) (ai))))
def df:List D->R D:=bi 1 2 iB
abbrev jh:Lw:=cS (iy 36) 9
def sU:ag->R bq:=
 bu (cn bX (a8 (fL (bO ["self"] [(".0", .local),("kept", .local)] (cD (cE "Cellar" "history" (aa 0))) (gN 1) (gP) (f2 aQ (aa 1) (fC (.int 0))))) (ai)))
def dA:List D->R D:=bi 1 1 sU
abbrev kX:Lw:=cS (iy 36) 11
def kY:ag->R bq:=
 aw (cA (oG (fT (f2 tL (aa 1) (fC (.int 1)))) (fT (f2 nV (aa 1) (fF "Cellar" "days_gone" 1 bj (au 0) ai))))
  (cO "UnknownDay" (a8 (fC (.str "no day has that number")) (ai)))
  (aE))
  (bu (f2 aQ (cE "Standing" "passed" (cE "Cellar" "now" (aa 0))) (f2 iS (aa 1) (fC (.int 1)))))
def fu:List D->R D:=bi 2 2 kY
abbrev sV:Lw:=iy 38
def xg:ag->R bq:=
 aw (cA (fT (f2 tL (aa 1) (cn c9 (a8 (aa 0) (ai)))))
  (bu (f2 aQ (aa 0) (aa 1)))
  (aE))
  (bu (fC (.int 0)))
def cR:List D->R D:=bi 2 2 xg
abbrev og:Lw:=iy 39
def oh:ag->R bq:=
 aw (cA (fT (f2 dq (f2 bP (aF cR 2 (a8 (au 0) (a8 (fC (.int 0)) (ai)))) (fC (.int 2))) (fC (.int 0))))
  (bu (aF cR 2 (a8 (au 0) (a8 (au 1) (ai)))))
  (aE))
  (aw (aV (f2 bP (f2 nW (f2 bD (f2 bD (f2 bD (aF cR 2 (a8 (au 0) (a8 (au 1) (ai)))) (f2 ee (aF cR 2 (a8 (au 0) (a8 (fC (.int 0)) (ai)))) (fC (.int 2)))) (f2 nW (fC (.int 7919)) (aa 1))) (fC (.int 1))) (fC (.int 48271))) (fC (.int 2147483647))) (gN 2))
  (bu (f2 bP (f2 nW (f2 bD (aa 2) (aa 1)) (fC (.int 69621))) (fC (.int 2147483647)))))
def bQ:List D->R D:=bi 2 3 oh
abbrev jR:Lw:=iy 40
def gI:ag->R bq:=
 cA (dD (aa 1))
  (aw (aV (f2 bP (f2 nW (f2 bD (f2 bD (aa 0) (f2 nW (fC (.int 7919)) (aa 6))) (fC (.int 1))) (fC (.int 48271))) (fC (.int 2147483647))) (gN 7))
  (oZ 4 (f2 bP (f2 bP (f2 nW (f2 bD (aa 7) (aa 6)) (fC (.int 69621))) (fC (.int 2147483647))) (aa 3))))
  (aw (oZ 4 (f2 bP (aa 5) (aa 3)))
  (aV (f2 ee (aa 5) (aa 3)) (gN 5)))
def jS:ag->R bq:=
 aw (nF 4 (ai))
  (aw (aV (au 0) (gN 5))
  (aw (lB (dN (a8 (au 2) (ai))) (gN 6) (gI))
  (q9 [4] (bu (au 4)))))
def b_:List D->R D:=bi 4 8 jS
abbrev kZ:Lw:=iy 41
def jE (W8:List D->R D):ag->R bq:=
 cA (gY (dD (aF W8 2 (a8 (f2 aQ (aa 0) (aa 2)) (a8 (f2 aQ (aa 1) (aa 2)) (ai))))))
  (bu (fC (.bl false)))
  (aE)
def dW (W8:List D->R D):ag->R bq:=
 aw (cA (dD (qa "tuple" (aa 1)))
  (aw (cA (oG (gY (dD (qa "tuple" (aa 0)))) (fT (f2 sD (cn c9 (a8 (aa 0) (ai))) (cn c9 (a8 (aa 1) (ai))))))
  (bu (fC (.bl false)))
  (aE))
  (aw (lB (dN (a8 (cn c9 (a8 (aa 1) (ai))) (ai))) (gN 2) (jE W8))
  (bu (fC (.bl true)))))
  (aE))
  (aw (cA (fT (f2 wz (aa 1) (fC .non)))
  (bu (f2 wz (aa 0) (fC .non)))
  (aE))
  (aw (cA (dD (qa "bool" (aa 1)))
  (bu (qD (qa "bool" (aa 0)) (f2 dq (aa 0) (aa 1))))
  (aE))
  (aw (cA (dD (qa "str" (aa 1)))
  (bu (qD (qa "str" (aa 0)) (f2 dq (aa 0) (aa 1))))
  (aE))
  (bu (qD (qa "int" (aa 0)) (qD (zq (qa "bool" (aa 0))) (f2 dq (aa 0) (aa 1))))))))
def dH:Nat->List D->R D
 |0=>λ_=> .bad
 |n+1=>bi 2 3 (dW (dH n))
def bn:List D->R D:=dH 8
abbrev oi:Lw:=iy 42
def oj:ag->R bq:=
 aw (aV (f1 g_ (aa 3)) (gN 4))
  (aw (aV (au 3) (gN 5))
  (aw (cA (fT (f2 nV (aa 1) (fC (.int 0))))
  (aw (aV (cn AH (a8 (aa 4) (a8 (f2 iS (f2 aQ (aa 0) (aa 1)) (fC (.int 1000))) (ai)))) (gN 4))
  (aV (cn wD (a8 (aa 5) (a8 (f2 bD (f2 aQ (aa 0) (aa 1)) (fC (.int 1000))) (ai)))) (gN 5)))
  (aE))
  (aw (cA (fT (f2 nV (aa 2) (fC (.int 0))))
  (aw (aV (cn AH (a8 (aa 4) (a8 (f2 iS (f1 g_ (fC (.int 1000))) (f2 aQ (aa 0) (aa 2))) (ai)))) (gN 4))
  (aV (cn wD (a8 (aa 5) (a8 (f2 iS (fC (.int 1000)) (f2 aQ (aa 0) (aa 2))) (ai)))) (gN 5)))
  (aE))
  (bu (eG (a8 (au 4) (a8 (au 5) (ai))))))))
def ji:List D->R D:=bi 4 6 oj
abbrev ml:Lw:=iy 43
def iT:ag->R bq:=
 aw (aV (f2 aQ (aa 2) (aa 7)) (uu 3 (eU (gN 8) (eU (gN 9) (eU (gN 10) (sy))))))
  (aw (CV [5] (aF ji 4 (a8 (au 5) (a8 (au 9) (a8 (au 10) (a8 (f2 aQ (aa 4) (cn ym (a8 (f2 (hE false) (aa 8) (aa 3)) (ai)))) (ai)))))) 2 (eU (gN 11) (eU (gN 12) (sy))))
  (aw (aV (f2 bD (aa 11) (f2 bP (f2 aQ (aa 0) (aa 7)) (f2 bD (f2 iS (aa 12) (aa 11)) (fC (.int 1))))) (gN 13))
  (aw (Co 5 (au 9) (f2 iS (f2 aQ (aa 5) (aa 9)) (aa 13)))
  (aw (Co 5 (au 10) (f2 bD (f2 aQ (aa 5) (aa 10)) (aa 13)))
  (oZ 6 (bS (a8 (au 8) (a8 (au 13) (ai)))))))))
def mn:ag->R bq:=
 aw (wU 5 (f2 wV (eG (a8 (fC (.int 0)) (ai))) (f2 bD (aa 1) (fC (.int 1)))))
  (aw (nF 6 (ai))
  (aw (lB (dN (a8 (cn c9 (a8 (aa 2) (ai))) (ai))) (gN 7) (iT))
  (bu (eG (a8 (cn bX (a8 (aa 6) (ai))) (a8 (cn bX (a8 (zu (aa 5) (lT (fC (.int 1))) (lS)) (ai))) (ai)))))))
def ij:List D->R D:=bi 5 14 mn
abbrev ol:Lw:=iy 44
def om:ag->R bq:=
 aw (cA (oG (gY (dD (aF bn 2 (a8 (cE "Day" "tanks" (aa 0)) (a8 (f2 aQ (aa 1) (fC (.int 0))) (ai)))))) (gY (dD (aF bn 2 (a8 (cE "Day" "streams" (aa 0)) (a8 (f2 aQ (aa 1) (fC (.int 1))) (ai)))))))
  (bu (fC (.bl false)))
  (aE))
  (bu (qD (aF bn 2 (a8 (cE "Day" "rises" (aa 0)) (a8 (f2 aQ (aa 1) (fC (.int 2))) (ai)))) (aF bn 2 (a8 (cE "Day" "readings" (aa 0)) (a8 (f2 aQ (aa 1) (fC (.int 3))) (ai))))))
def h_:List D->R D:=bi 2 2 om
abbrev sW:Lw:=iy 45
def mq:ag->R bq:=
 aw (cA (fT (f2 dq (f2 aQ (aa 1) (fC (.int 0))) (fC (.str "stream comes"))))
  (iJ (kS 0 "Cellar" "stream_comes" (dQ [0] cC 2 (a8 (f2 aQ (aa 1) (fC (.int 1))) (a8 (f2 aQ (aa 1) (fC (.int 2))) (ai))))))
  (aE))
  (aw (cA (fT (f2 dq (f2 aQ (aa 1) (fC (.int 0))) (fC (.str "stream goes"))))
  (iJ (kS 0 "Cellar" "stream_goes" (dQ [0] cH 1 (a8 (f2 aQ (aa 1) (fC (.int 1))) (ai)))))
  (aE))
  (aw (cA (fT (f2 dq (f2 aQ (aa 1) (fC (.int 0))) (fC (.str "meters come"))))
  (iJ (kS 0 "Cellar" "meters_come" (dQ [0] cI 1 (a8 (cn p0 (a8 (f2 aQ (aa 1) (fC (.int 1))) (ai))) (ai)))))
  (aE))
  (aw (cA (fT (f2 dq (f2 aQ (aa 1) (fC (.int 0))) (fC (.str "meters go"))))
  (iJ (kS 0 "Cellar" "meters_go" (dQ [0] d6 1 (a8 (cn p0 (a8 (f2 aQ (aa 1) (fC (.int 1))) (ai))) (ai)))))
  (aE))
  (aw (cA (fT (f2 dq (f2 aQ (aa 1) (fC (.int 0))) (fC (.str "day passes"))))
  (iJ (kS 0 "Cellar" "day_passes" (dQ [0] cQ 2 (a8 (cn p0 (a8 (f2 aQ (aa 1) (fC (.int 1))) (ai))) (a8 (cn p0 (a8 (f2 aQ (aa 1) (fC (.int 2))) (ai))) (ai))))))
  (aE))
  (iJ (kS 0 "Cellar" "take_back" (dQ [0] cj 0 ai)))))))
def eY:List Slot->List D->R (D×List Slot):=iw 1 1 1 mq
abbrev oo:Lw:=iy 46
def jj:ag->R bq:=
 aw (nF 2 (ai))
  (aw (AK 3 (AQ RL)
  (iJ (m7 (fC (.str "")) (dQ [0] eY 1 (a8 (au 1) (ai)))))
  (aw (nF 2 (a8 (jz (tb 2) (aa 3)) (a8 (jz (tb 3) (aa 3)) (a8 (jz (tb 4) (aa 3)) (ai)))))
  (aw (aV (f2 bD (aa 2) (eG (a8 (jz (tb 5) (aa 3)) (a8 (jz (tb 6) (aa 3)) (a8 (jz (tb 7) (aa 3)) (ai)))))) (gN 2))
  (aw (aV (f2 bD (aa 2) (eG (a8 (jz (tb 8) (aa 3)) (a8 (jz (tb 9) (aa 3)) (a8 (jz (tb 10) (aa 3)) (ai)))))) (gN 2))
  (aw (aV (f2 bD (aa 2) (eG (a8 (jz (tb 11) (aa 3)) (a8 (jz (tb 12) (aa 3)) (a8 (jz (tb 13) (aa 3)) (ai)))))) (gN 2))
  (aw (aV (f2 bD (aa 2) (eG (a8 (jz (tb 14) (aa 3)) (a8 (jz (tb 15) (aa 3)) (a8 (jz (tb 0) (aa 3)) (ai)))))) (gN 2))
  (aV (f2 bD (aa 2) (eG (a8 (jz (tb 1) (aa 3)) (a8 (jz K7 (aa 3)) (a8 (zq (jz K6 (aa 3))) (ai)))))) (gN 2))))))))
  (aw (nF 4 (a8 (fC (.str "UnknownPlace")) (a8 (fC (.str "SamePlace")) (a8 (fC (.str "WrongRises")) (a8 (fC (.str "UnknownStream")) (a8 (fC (.str "Twice")) (a8 (fC (.str "AlreadyMetered")) (a8 (fC (.str "NotMetered")) (ai)))))))))
  (aw (aV (f2 bD (aa 4) (eG (a8 (fC (.str "ReadingMissing")) (a8 (fC (.str "OutOfRange")) (a8 (fC (.str "TooManyStreams")) (a8 (fC (.str "TooManyMeters")) (a8 (fC (.str "TooManyDays")) (ai)))))))) (gN 4))
  (aw (aV (f2 bD (aa 4) (eG (a8 (fC (.str "TooManyDeeds")) (a8 (fC (.str "NothingDone")) (a8 (fC (.str "BadTanks")) (a8 (fC (.str "UnknownDay")) (a8 (fC (.str "Clashing")) (a8 (fC (.str "another")) (ai))))))))) (gN 4))
  (aw (aV (fC (.str "another")) (gN 5))
  (aw (cA (fT (f2 dq (FE (aa 2) (fC (.bl true))) (fC (.int 1))))
  (aV (f2 aQ (aa 4) (FF (aa 2) (fC (.bl true)))) (gN 5))
  (aE))
  (gT (eG (a8 (au 5) (a8 (fC .non) (ai)))))))))))
def eZ:List Slot->List D->R (D×List Slot):=iw 1 1 5 jj
abbrev iC:Lw:=iy 47
def bJ:ag->R bq:=
 cA (oG (fT (f2 tL (aa 3) (fC (.int 0)))) (fT (f2 nV (aa 3) (f2 aQ (aa 0) (fC (.int 0))))))
  (bu (fC (.str "UnknownPlace")))
  (aE)
def iD:ag->R bq:=
 aw (lB (cD (bS (a8 (au 1) (a8 (au 2) (ai))))) (gN 3) (bJ))
  (aw (cA (fT (f2 dq (aa 1) (aa 2)))
  (bu (fC (.str "SamePlace")))
  (aE))
  (aw (cA (fT (f2 Et (cn c9 (a8 (f2 aQ (aa 0) (fC (.int 2))) (ai))) (fC (.int 12))))
  (bu (fC (.str "TooManyStreams")))
  (aE))
  (bu (fC (.str "")))))
def eh:List D->R D:=bi 3 4 iD
abbrev jk:Lw:=iy 48
def sX:ag->R bq:=
 aw (oY 2 (bO ["_law_model","_law_named","_law_there"] [(".0", .local),("_law_stream", .local)] (cD (f2 aQ (aa 0) (fC (.int 2)))) (gN 1) (gP) (f2 aQ (aa 1) (fC (.int 0)))))
  (aw (cA (fT (f2 r9 (fL (bO ["_law_model","_law_named","_law_there"] [(".0", .local),("_law_number", .local),("_law_there", .free)] (cD (au 1)) (gN 1) (fT (f2 (hE true) (aa 1) (aa 2))) (au 1))) (eG (ai))))
  (bu (fC (.str "UnknownStream")))
  (aE))
  (aw (cA (fT (f2 r9 (fL (bO ["_law_model","_law_named","_law_there"] [(".0", .local),("_law_number", .local),("_law_named", .free)] (cD (au 1)) (gN 1) (fT (f2 nV (zK (aa 2) (au 1)) (fC (.int 1)))) (au 1))) (eG (ai))))
  (bu (fC (.str "Twice")))
  (aE))
  (bu (fC (.str "")))))
def cu:List D->R D:=bi 2 3 sX
abbrev k_:Lw:=iy 49
def vy:ag->R bq:=
 aw (cA (fT (f2 sD (cn c9 (a8 (aa 1) (ai))) (f2 aQ (aa 0) (fC (.int 0)))))
  (bu (fC (.str "WrongRises")))
  (aE))
  (aw (oY 3 (bO ["_law_model","_law_rises","_law_readings","_law_named","_law_word","_law_amounts"] [(".0", .local),("_law_row", .local)] (cD (au 2)) (gN 1) (gP) (f2 aQ (aa 1) (fC (.int 0)))))
  (aw (q9 [3] (aV (aF cu 2 (a8 (au 0) (a8 (au 3) (ai)))) (gN 4)))
  (aw (cA (fT (f2 sD (aa 4) (fC (.str ""))))
  (bu (au 4))
  (aE))
  (aw (q9 [3] (cA (fT (f2 r9 (fL (bO ["_law_model","_law_rises","_law_readings","_law_named","_law_word","_law_amounts"] [(".0", .local),("_law_number", .local),("_law_model", .free)] (cD (au 3)) (gN 1) (fT (f2 (hE true) (aa 1) (f2 aQ (aa 2) (fC (.int 3))))) (au 1))) (eG (ai))))
  (bu (fC (.str "NotMetered")))
  (aE)))
  (aw (cA (fT (f2 r9 (fL (bO ["_law_model","_law_rises","_law_readings","_law_named","_law_word","_law_amounts"] [(".0", .local),("_law_number", .local),("_law_named", .free)] (cD (f2 aQ (aa 0) (fC (.int 3)))) (gN 1) (fT (f2 (hE true) (aa 1) (aa 2))) (au 1))) (eG (ai))))
  (bu (fC (.str "ReadingMissing")))
  (aE))
  (aw (aV (f2 bD (cn p0 (a8 (aa 1) (ai))) (fL (bO ["_law_model","_law_rises","_law_readings","_law_named","_law_word","_law_amounts"] [(".0", .local),("_law_row", .local)] (cD (au 2)) (gN 1) (gP) (f2 aQ (aa 1) (fC (.int 1)))))) (gN 5))
  (aw (cA (fT (f2 r9 (fL (bO ["_law_model","_law_rises","_law_readings","_law_named","_law_word","_law_amounts"] [(".0", .local),("_law_amount", .local)] (cD (au 5)) (gN 1) (oG (fT (f2 tL (aa 1) (f1 g_ (fC (.int 1000))))) (fT (f2 nV (aa 1) (fC (.int 1000))))) (au 1))) (eG (ai))))
  (bu (fC (.str "OutOfRange")))
  (aE))
  (aw (cA (fT (f2 Et (cn c9 (a8 (f2 aQ (aa 0) (fC (.int 4))) (ai))) (fC (.int 12))))
  (bu (fC (.str "TooManyDays")))
  (aE))
  (bu (fC (.str "")))))))))))
def gJ:List D->R D:=bi 3 6 vy
abbrev iE:Lw:=iy 50
def rf:ag->R bq:=
 aw (aV (aF cu 2 (a8 (au 0) (a8 (au 2) (ai)))) (gN 3))
  (aw (cA (fT (f2 sD (aa 3) (fC (.str ""))))
  (bu (au 3))
  (aE))
  (aw (oY 4 (bO ["_law_model","_law_come","_law_named","_law_word","_law_have"] [(".0", .local),("_law_number", .local),("_law_model", .free)] (cD (au 2)) (gN 1) (fT (f2 (hE false) (aa 1) (f2 aQ (aa 2) (fC (.int 3))))) (au 1)))
  (aw (cA (gD (dD (aa 1)) (fT (f2 r9 (aa 4) (eG (ai)))))
  (bu (fC (.str "AlreadyMetered")))
  (aE))
  (aw (cA (gD (dD (aa 1)) (fT (f2 nV (f2 bD (cn c9 (a8 (f2 aQ (aa 0) (fC (.int 3))) (ai))) (cn c9 (a8 (aa 2) (ai)))) (fC (.int 10)))))
  (bu (fC (.str "TooManyMeters")))
  (aE))
  (aw (cA (gD (gY (dD (aa 1))) (fT (f2 tL (cn c9 (a8 (aa 4) (ai))) (cn c9 (a8 (aa 2) (ai))))))
  (bu (fC (.str "NotMetered")))
  (aE))
  (bu (fC (.str ""))))))))
def eo:List D->R D:=bi 3 5 rf
abbrev jT:Lw:=iy 51
def jU:ag->R bq:=
 aw (aV (f2 aQ (aa 0) (f1 g_ (fC (.int 1)))) (gN 2))
  (aw (cA (fT (f2 dq (f2 aQ (aa 1) (fC (.int 0))) (fC (.str "take back"))))
  (bu (f2 aQ (eG (a8 (fC (.str "")) (a8 (fC (.str "NothingDone")) (ai)))) (cn ym (a8 (f2 dq (cn c9 (a8 (aa 0) (ai))) (fC (.int 1))) (ai)))))
  (aE))
  (aw (cA (fT (f2 dq (f2 aQ (aa 1) (fC (.int 0))) (fC (.str "stream comes"))))
  (aV (aF eh 3 (a8 (au 2) (a8 (f2 aQ (aa 1) (fC (.int 1))) (a8 (f2 aQ (aa 1) (fC (.int 2))) (ai))))) (gN 3))
  (cA (fT (f2 dq (f2 aQ (aa 1) (fC (.int 0))) (fC (.str "stream goes"))))
  (aV (aF cu 2 (a8 (au 2) (a8 (eG (a8 (f2 aQ (aa 1) (fC (.int 1))) (ai))) (ai)))) (gN 3))
  (cA (fT (f2 dq (f2 aQ (aa 1) (fC (.int 0))) (fC (.str "day passes"))))
  (aV (aF gJ 3 (a8 (au 2) (a8 (f2 aQ (aa 1) (fC (.int 1))) (a8 (f2 aQ (aa 1) (fC (.int 2))) (ai))))) (gN 3))
  (aV (aF eo 3 (a8 (au 2) (a8 (f2 dq (f2 aQ (aa 1) (fC (.int 0))) (fC (.str "meters come"))) (a8 (f2 aQ (aa 1) (fC (.int 1))) (ai))))) (gN 3)))))
  (aw (cA (gD (fT (f2 dq (aa 3) (fC (.str "")))) (fT (f2 nV (cn c9 (a8 (aa 0) (ai))) (fC (.int 60)))))
  (aV (fC (.str "TooManyDeeds")) (gN 3))
  (aE))
  (bu (au 3)))))
def eD:List D->R D:=bi 2 4 jU
abbrev l7:Lw:=iy 52
def l8:ag->R bq:=
 aw (aV (au 0) (uu 6 (eU (gN 2) (eU (gN 3) (eU (gN 4) (eU (gN 5) (eU (gN 6) (eU (gN 7) (sy)))))))))
  (aw (aV (f2 bD (aa 7) (bS (a8 (au 1) (ai)))) (gN 7))
  (aw (cA (fT (f2 dq (f2 aQ (aa 1) (fC (.int 0))) (fC (.str "stream comes"))))
  (aw (aV (f2 bD (aa 4) (bS (a8 (bS (a8 (au 3) (a8 (f2 aQ (aa 1) (fC (.int 1))) (a8 (f2 aQ (aa 1) (fC (.int 2))) (ai))))) (ai)))) (gN 4))
  (aV (f2 bD (aa 3) (fC (.int 1))) (gN 3)))
  (cA (fT (f2 dq (f2 aQ (aa 1) (fC (.int 0))) (fC (.str "stream goes"))))
  (aw (aV (cn bX (a8 (fL (bO ["_law_model","_law_deed_here","_law_n","_law_following","_law_streams","_law_meters","_law_days","_law_deeds"] [(".0", .local),("_law_stream", .local),("_law_deed_here", .free)] (cD (au 4)) (gN 1) (fT (f2 sD (f2 aQ (aa 1) (fC (.int 0))) (f2 aQ (aa 2) (fC (.int 1))))) (au 1))) (ai))) (gN 4))
  (aV (cn bX (a8 (fL (bO ["_law_model","_law_deed_here","_law_n","_law_following","_law_streams","_law_meters","_law_days","_law_deeds"] [(".0", .local),("_law_number", .local),("_law_deed_here", .free)] (cD (au 5)) (gN 1) (fT (f2 sD (aa 1) (f2 aQ (aa 2) (fC (.int 1))))) (au 1))) (ai))) (gN 5)))
  (cA (fT (f2 dq (f2 aQ (aa 1) (fC (.int 0))) (fC (.str "meters come"))))
  (aV (cn bX (a8 (cn uJ (a8 (f2 bD (aa 5) (f2 aQ (aa 1) (fC (.int 1)))) (ai))) (ai))) (gN 5))
  (cA (fT (f2 dq (f2 aQ (aa 1) (fC (.int 0))) (fC (.str "meters go"))))
  (aV (cn bX (a8 (fL (bO ["_law_model","_law_deed_here","_law_n","_law_following","_law_streams","_law_meters","_law_days","_law_deeds"] [(".0", .local),("_law_number", .local),("_law_deed_here", .free)] (cD (au 5)) (gN 1) (fT (f2 (hE true) (aa 1) (f2 aQ (aa 2) (fC (.int 1))))) (au 1))) (ai))) (gN 5))
  (aV (f2 bD (aa 6) (bS (a8 (bS (a8 (au 2) (a8 (au 4) (a8 (f2 aQ (aa 1) (fC (.int 1))) (a8 (cn bX (a8 (cn ig (a8 (f2 aQ (aa 1) (fC (.int 2))) (ai))) (ai))) (ai)))))) (ai)))) (gN 6))))))
  (bu (bS (a8 (au 2) (a8 (au 3) (a8 (au 4) (a8 (au 5) (a8 (au 6) (a8 (au 7) (ai)))))))))))
def dX:List D->R D:=bi 2 8 l8
abbrev l9:Lw:=iy 53
def la:ag->R bq:=
 aw (cA (fT (f2 dq (f2 aQ (aa 1) (fC (.int 0))) (fC (.str "stream comes"))))
  (bu (f2 aQ (aa 0) (fC (.int 1))))
  (aE))
  (aw (cA (fT (f2 dq (f2 aQ (aa 1) (fC (.int 0))) (fC (.str "day passes"))))
  (bu (f2 bD (cn c9 (a8 (f2 aQ (aa 0) (fC (.int 4))) (ai))) (fC (.int 1))))
  (aE))
  (bu (fC .non)))
def fw:List D->R D:=bi 2 2 la
abbrev oq:Lw:=iy 54
def gi:ag->R bq:=
 aw (aV (f2 aQ (aa 1) (f1 g_ (fC (.int 1)))) (gN 3))
  (aw (aV (zA [1] (aF eD 2 (a8 (au 1) (a8 (au 2) (ai))))) (gN 4))
  (aw (zD 5 (dQ [0] eZ 1 (a8 (au 2) (ai))))
  (aw (cA (oG (fT (f2 sD (aa 4) (fC (.str "")))) (fT (f2 sD (f2 aQ (aa 5) (fC (.int 0))) (fC (.str "")))))
  (gT (f2 dq (aa 4) (f2 aQ (aa 5) (fC (.int 0)))))
  (aE))
  (aw (cA (fT (f2 dq (f2 aQ (aa 2) (fC (.int 0))) (fC (.str "take back"))))
  (aw (zI 1)
  (gT (aF bn 2 (a8 (f2 aQ (aa 5) (fC (.int 1))) (a8 (f2 aQ (f2 aQ (aa 3) (fC (.int 5))) (f1 g_ (fC (.int 1)))) (ai))))))
  (aE))
  (aw (oZ 1 (aF dX 2 (a8 (au 3) (a8 (au 2) (ai)))))
  (gT (aF bn 2 (a8 (f2 aQ (aa 5) (fC (.int 1))) (a8 (aF fw 2 (a8 (au 3) (a8 (au 2) (ai)))) (ai))))))))))
def ck:List Slot->List D->R (D×List Slot):=iw 2 1 4 gi
abbrev lb:Lw:=iy 55
def vz:ag->R bq:=
 bu (cn bX (a8 (fL (bO ["_law_model"] [(".0", .local),("_law_stream", .local),("_law_model", .free)] (cD (f2 aQ (aa 0) (fC (.int 2)))) (gN 1) (gP) (f2 bD (aa 1) (bS (a8 (f2 (hE false) (f2 aQ (aa 1) (fC (.int 0))) (f2 aQ (aa 2) (fC (.int 3)))) (ai)))))) (ai)))
def fz:List D->R D:=bi 1 1 vz
abbrev mv:Lw:=iy 56
def lc:ag->R bq:=
 cA (gY (dD (aF h_ 2 (a8 (fF "Cellar" "day" 2 fu (au 0) (a8 (f2 bD (aa 2) (fC (.int 1))) (ai))) (a8 (f2 aQ (f2 aQ (aa 1) (fC (.int 4))) (aa 2)) (ai))))))
  (bu (fC (.bl false)))
  (aE)
def mw:ag->R bq:=
 aw (cA (oG (gY (dD (aF bn 2 (a8 (cE "Cellar" "tanks" (aa 0)) (a8 (f2 aQ (aa 1) (fC (.int 0))) (ai)))))) (gY (dD (aF bn 2 (a8 (fF "Cellar" "layout" 1 df (au 0) ai) (a8 (aF fz 1 (a8 (au 1) (ai))) (ai)))))))
  (bu (fC (.bl false)))
  (aE))
  (aw (cA (oG (gY (dD (aF bn 2 (a8 (fF "Cellar" "deeds" 1 dA (au 0) ai) (a8 (f2 aQ (aa 1) (fC (.int 5))) (ai)))))) (gY (dD (aF bn 2 (a8 (fF "Cellar" "days_gone" 1 bj (au 0) ai) (a8 (cn c9 (a8 (f2 aQ (aa 1) (fC (.int 4))) (ai))) (ai)))))))
  (bu (fC (.bl false)))
  (aE))
  (aw (lB (dN (a8 (cn c9 (a8 (f2 aQ (aa 1) (fC (.int 4))) (ai))) (ai))) (gN 2) (lc))
  (bu (fC (.bl true)))))
def bV:List D->R D:=bi 2 3 mw
abbrev jl:Lw:=iy 57
def et:ag->R bq:=
 aw (aV (f2 aQ (f2 aQ (aa 6) (fC (.int 0))) (aa 8)) (uu 2 (eU (gN 9) (eU (gN 10) (sy)))))
  (aw (aV (f2 aQ (aa 5) (f2 bD (aa 4) (aa 8))) (gN 11))
  (aw (cA (oG (fT (f2 dq (aa 3) (fC (.int 2)))) (gD (fT (f2 dq (aa 3) (fC (.int 1)))) (fT (f2 dq (f2 bP (aa 11) (fC (.int 3))) (fC (.int 0))))))
  (aV (f2 iS (f2 bP (f2 ee (aa 11) (fC (.int 3))) (fC (.int 2001))) (fC (.int 1000))) (gN 10))
  (aE))
  (aw (cA (gD (fT (f2 dq (aa 3) (fC (.int 4)))) (fT (f2 dq (f2 bP (aa 11) (fC (.int 2))) (fC (.int 0)))))
  (aV (f2 iS (f2 bP (f2 ee (aa 11) (fC (.int 2))) (fC (.int 3))) (fC (.int 1))) (gN 10))
  (aE))
  (cA (fT (f2 (hE false) (aa 9) (f2 aQ (aa 0) (fC (.int 3)))))
  (oZ 7 (bS (a8 (au 9) (a8 (au 10) (ai)))))
  (aE)))))
def jm:ag->R bq:=
 aw (aV (f2 bP (aa 1) (fC (.int 5))) (gN 3))
  (aw (aV (cn c9 (a8 (f2 aQ (aa 0) (fC (.int 2))) (ai))) (gN 4))
  (aw (aV (aF b_ 4 (a8 (f2 ee (aa 1) (fC (.int 10))) (a8 (au 2) (a8 (f2 bD (f2 nW (fC (.int 2)) (aa 4)) (f2 aQ (aa 0) (fC (.int 0)))) (a8 (fC (.int 10010)) (ai)))))) (gN 5))
  (aw (aV (aF ij 5 (a8 (au 5) (a8 (f2 aQ (aa 0) (fC (.int 0))) (a8 (f2 aQ (aa 0) (fC (.int 2))) (a8 (f2 aQ (aa 0) (fC (.int 3))) (a8 (f2 aQ (eG (a8 (eG (a8 (fC (.int 5000)) (a8 (fC (.int 1000)) (ai)))) (a8 (eG (a8 (fC (.int 1)) (a8 (fC (.int 1)) (ai)))) (ai)))) (cn ym (a8 (f2 nV (aa 3) (fC (.int 2))) (ai)))) (ai))))))) (gN 6))
  (aw (nF 7 (ai))
  (aw (lB (dN (a8 (au 4) (ai))) (gN 8) (et))
  (aw (aV (f2 aQ (aa 6) (fC (.int 1))) (gN 12))
  (aw (cA (fT (f2 dq (aa 3) (fC (.int 2))))
  (aV (cn bX (a8 (fL (bO ["_law_model","_law_cell_here","_law_mixed","_law_mode","_law_many","_law_figures_here","_law_flows_here","_law_readings","_law_k","_law_number","_law_amount","_law_other","_law_rises"] [(".0", .local),("_law_k", .local),("_law_figures_here", .free),("_law_many", .free)] (dN (a8 (f2 aQ (aa 0) (fC (.int 0))) (ai))) (gN 1) (gP) (f2 iS (f2 bP (f2 aQ (aa 2) (f2 bD (f2 nW (fC (.int 2)) (aa 3)) (aa 1))) (fC (.int 2001))) (fC (.int 1000))))) (ai))) (gN 12))
  (aE))
  (aw (cA (fT (f2 dq (f2 bP (f2 ee (aa 1) (fC (.int 5))) (fC (.int 2))) (fC (.int 1))))
  (aV (CA (aa 7)) (gN 7))
  (aE))
  (bu (bS (a8 (fC (.str "day passes")) (a8 (au 12) (a8 (cn bX (a8 (aa 7) (ai))) (ai))))))))))))))
def c7:List D->R D:=bi 3 13 jm
abbrev my:Lw:=iy 58
def gK:ag->R bq:=
 cA (oG (fT (f2 AT (aa 2) (eG (ai)))) (fT (f2 dq (f2 bP (aa 4) (fC (.int 9))) (fC (.int 8)))))
  (oZ 3 (f2 iS (f2 bP (f2 ee (aa 4) (fC (.int 9))) (fC (.int 70))) (fC (.int 2))))
  (oZ 3 (f2 aQ (aa 2) (f2 bP (f2 ee (aa 4) (fC (.int 9))) (cn c9 (a8 (aa 2) (ai))))))
def mz:ag->R bq:=
 aw (oY 2 (bO ["_law_model","_law_figures_here","_law_there","_law_found","_law_one"] [(".0", .local),("_law_stream", .local)] (cD (f2 aQ (aa 0) (fC (.int 2)))) (gN 1) (gP) (f2 aQ (aa 1) (fC (.int 0)))))
  (aw (nF 3 (ai))
  (aw (lB (cD (au 1)) (gN 4) (gK))
  (bu (cn bX (a8 (aa 3) (ai))))))
def dI:List D->R D:=bi 2 5 mz
abbrev ou:Lw:=iy 59
def oy:ag->R bq:=
 aw (aV (f2 aQ (aa 0) (fC (.int 1))) (gN 2))
  (aw (aV (f2 aQ (aa 0) (fC (.int 2))) (gN 3))
  (aw (cA (fT (f2 dq (f2 bP (aa 1) (fC (.int 5))) (fC (.int 0))))
  (aV (f2 bD (aa 2) (bS (a8 (fC (.int 0)) (ai)))) (gN 2))
  (cA (fT (f2 dq (f2 bP (aa 1) (fC (.int 5))) (fC (.int 1))))
  (aV (f2 bD (aa 3) (bS (a8 (bS (a8 (f2 bP (f2 ee (aa 1) (fC (.int 5))) (fC (.int 40))) (a8 (fC (.int 1)) (ai)))) (ai)))) (gN 3))
  (cA (fT (f2 dq (f2 bP (aa 1) (fC (.int 5))) (fC (.int 2))))
  (aV (f2 bD (bS (a8 (bS (a8 (f2 bP (f2 ee (aa 1) (fC (.int 5))) (fC (.int 14))) (a8 (f1 g_ (fC (.int 1))) (ai)))) (ai))) (zu (aa 3) (lT (fC (.int 1))) (lS))) (gN 3))
  (cA (fT (f2 dq (f2 bP (aa 1) (fC (.int 5))) (fC (.int 3))))
  (aV (zu (aa 3) (lS) (lT (f1 g_ (fC (.int 1))))) (gN 3))
  (aV (cn bX (a8 (fL (bO ["_law_day","_law_figure","_law_rises","_law_readings"] [(".0", .local),("_law_rise", .local)] (cD (au 2)) (gN 1) (gP) (f2 bD (f2 nW (aa 1) (fC (.int 25))) (fC (.int 1))))) (ai))) (gN 2))))))
  (bu (bS (a8 (fC (.str "day passes")) (a8 (au 2) (a8 (au 3) (ai))))))))
def jn:List D->R D:=bi 2 4 oy
abbrev oz:Lw:=iy 60
def oA:ag->R bq:=
 aw (aV (f2 bP (aa 1) (fC (.int 16))) (gN 3))
  (aw (aV (f2 bP (f2 ee (aa 1) (fC (.int 16))) (fC (.int 4))) (gN 4))
  (aw (aV (aF b_ 4 (a8 (f2 ee (aa 1) (fC (.int 64))) (a8 (au 2) (a8 (fC (.int 3)) (a8 (fC (.int 630)) (ai)))))) (gN 5))
  (aw (cA (fT (f2 tL (aa 3) (fC (.int 5))))
  (aw (aV (f2 bP (f2 aQ (aa 5) (fC (.int 0))) (f2 bD (f2 aQ (aa 0) (fC (.int 0))) (fC (.int 1)))) (gN 6))
  (aw (cA (fT (f2 dq (f2 bP (f2 aQ (aa 5) (fC (.int 2))) (fC (.int 13))) (fC (.int 12))))
  (bu (bS (a8 (fC (.str "stream comes")) (a8 (f2 iS (f2 bP (f2 aQ (aa 5) (fC (.int 0))) (fC (.int 11))) (fC (.int 1))) (a8 (f2 iS (f2 bP (f2 aQ (aa 5) (fC (.int 1))) (fC (.int 11))) (fC (.int 1))) (ai))))))
  (aE))
  (aw (cA (fT (f2 dq (f2 aQ (aa 0) (fC (.int 0))) (fC (.int 0))))
  (bu (bS (a8 (fC (.str "stream comes")) (a8 (fC (.int 0)) (a8 (f2 bP (f2 aQ (aa 5) (fC (.int 1))) (fC (.int 2))) (ai))))))
  (aE))
  (bu (bS (a8 (fC (.str "stream comes")) (a8 (au 6) (a8 (f2 bP (f2 bD (f2 bD (aa 6) (fC (.int 1))) (f2 bP (f2 aQ (aa 5) (fC (.int 1))) (f2 aQ (aa 0) (fC (.int 0))))) (f2 bD (f2 aQ (aa 0) (fC (.int 0))) (fC (.int 1)))) (ai)))))))))
  (aE))
  (aw (cA (fT (f2 dq (aa 3) (fC (.int 5))))
  (bu (bS (a8 (fC (.str "stream goes")) (a8 (f2 aQ (aF dI 2 (a8 (au 0) (a8 (zu (aa 5) (lS) (lT (fC (.int 1)))) (ai)))) (fC (.int 0))) (ai)))))
  (aE))
  (aw (cA (fT (f2 tL (aa 3) (fC (.int 9))))
  (bu (bS (a8 (fC (.str "meters come")) (a8 (aF dI 2 (a8 (au 0) (a8 (zu (aa 5) (lS) (lT (au 4))) (ai)))) (ai)))))
  (aE))
  (aw (cA (fT (f2 dq (aa 3) (fC (.int 9))))
  (bu (bS (a8 (fC (.str "meters go")) (a8 (aF dI 2 (a8 (au 0) (a8 (zu (aa 5) (lS) (lT (au 4))) (ai)))) (ai)))))
  (aE))
  (aw (cA (fT (f2 tL (aa 3) (fC (.int 14))))
  (aw (aV (aF c7 3 (a8 (au 0) (a8 (f2 ee (aa 1) (fC (.int 64))) (a8 (au 2) (ai))))) (gN 7))
  (aw (cA (fT (f2 dq (aa 4) (fC (.int 3))))
  (bu (aF jn 2 (a8 (au 7) (a8 (f2 aQ (aa 5) (fC (.int 0))) (ai)))))
  (aE))
  (bu (au 7))))
  (aE))
  (bu (bS (a8 (fC (.str "take back")) (ai)))))))))))
def jp:List D->R D:=bi 3 8 oA
abbrev i0:Lw:=iy 61
def gL:ag->R bq:=
 aw (aV (f2 bP (f2 aQ (aa 4) (aa 9)) (f2 bD (aa 1) (fC (.int 1)))) (gN 10))
  (oZ 8 (bS (a8 (fC (.str "stream comes")) (a8 (au 10) (a8 (f2 bP (f2 bD (f2 bD (aa 10) (fC (.int 1))) (f2 bP (f2 aQ (aa 5) (aa 9)) (aa 1))) (f2 bD (aa 1) (fC (.int 1)))) (ai))))))
def i3:ag->R bq:=
 aw (aV (f2 dq (f2 bP (aF cR 2 (a8 (au 0) (a8 (fC (.int 0)) (ai)))) (fC (.int 2))) (fC (.int 1))) (gN 2))
  (aw (aV (f2 nW (cn wD (a8 (aa 1) (a8 (fC (.int 1)) (ai)))) (f2 bP (aF bQ 2 (a8 (au 0) (a8 (fC (.int 2)) (ai)))) (fC (.int 13)))) (gN 3))
  (aw (aV (aF b_ 4 (a8 (aF bQ 2 (a8 (au 0) (a8 (fC (.int 3)) (ai)))) (a8 (au 2) (a8 (au 3) (a8 (fC (.int 8)) (ai)))))) (gN 4))
  (aw (aV (aF b_ 4 (a8 (aF bQ 2 (a8 (au 0) (a8 (fC (.int 4)) (ai)))) (a8 (au 2) (a8 (au 3) (a8 (fC (.int 7)) (ai)))))) (gN 5))
  (aw (aV (aF b_ 4 (a8 (f2 ee (aF bQ 2 (a8 (au 0) (a8 (fC (.int 5)) (ai)))) (fC (.int 5))) (a8 (au 2) (a8 (au 3) (a8 (fC (.int 4)) (ai)))))) (gN 6))
  (aw (aV (f2 bP (aF bQ 2 (a8 (au 0) (a8 (fC (.int 5)) (ai)))) (fC (.int 5))) (gN 7))
  (aw (nF 8 (ai))
  (aw (lB (dN (a8 (au 3) (ai))) (gN 9) (gL))
  (aw (oY 11 (bO ["_law_script","_law_n","_law_mixed","_law_many","_law_sources","_law_targets","_law_fitted","_law_share","_law_deeds","_law_k","_law_source","_law_named"] [(".0", .local),("_law_k", .local),("_law_fitted", .free),("_law_share", .free)] (dN (a8 (au 3) (ai))) (gN 1) (fT (f2 tL (f2 aQ (aa 2) (aa 1)) (aa 3))) (f2 bD (aa 1) (fC (.int 1)))))
  (bu (f2 bD (aa 8) (eG (a8 (bS (a8 (fC (.str "meters come")) (a8 (cn bX (a8 (zu (aa 11) (lS) (lT (fC (.int 10)))) (ai))) (ai)))) (ai)))))))))))))
def dB:List D->R D:=bi 2 12 i3
abbrev iF:Lw:=iy 62
def i4:ag->R bq:=
 tP (m8 (sN (dQ [0,1] ck 1 (a8 (au 3) (ai)))))
  (gT (fC (.bl false)))
  (aE)
def iG:ag->R bq:=
 aw (lB (cD (aF dB 2 (a8 (au 2) (a8 (f2 aQ (f2 aQ (aa 1) (fC (.int 0))) (fC (.int 0))) (ai))))) (gN 3) (i4))
  (gT (fC (.bl true)))
def eu:List Slot->List D->R (D×List Slot):=iw 2 1 2 iG
abbrev mB:Lw:=iy 63
def mC:ag->R D:=
 Dd (aV (f2 bP (aF bQ 2 (a8 (au 0) (a8 (fC (.int 1)) (ai)))) (fC (.int 8))) (gN 1))
  (eG (a8 (bS (a8 (au 1) (a8 (fC (.int 1)) (a8 (bS (ai)) (a8 (bS (ai)) (a8 (bS (ai)) (a8 (bS (ai)) (ai)))))))) (ai)))
def gl:List D->R D:=ER 1 2 mC
abbrev jV:Lw:=iy 64
def jq:ag->R bq:=
 tP (m8 (sN (dQ [0,1] ck 1 (a8 (aF jp 3 (a8 (f2 aQ (aa 1) (f1 g_ (fC (.int 1)))) (a8 (aF bQ 2 (a8 (au 2) (a8 (au 4) (ai)))) (a8 (au 3) (ai))))) (ai)))))
  (gT (fC (.bl false)))
  (aE)
def jW:ag->R bq:=
 aw (aV (f2 dq (f2 bP (aF cR 2 (a8 (au 2) (a8 (fC (.int 0)) (ai)))) (fC (.int 2))) (fC (.int 1))) (gN 3))
  (aw (tP (m8 (sN (dQ [0,1] eu 1 (a8 (au 2) (ai)))))
  (gT (fC (.bl false)))
  (aE))
  (aw (lB (rF (a8 (fC (.int 6)) (a8 (cn c9 (a8 (aa 2) (ai))) (ai)))) (gN 4) (jq))
  (aw (aV (aF c7 3 (a8 (f2 aQ (aa 1) (f1 g_ (fC (.int 1)))) (a8 (aF bQ 2 (a8 (au 2) (a8 (f2 bD (fC (.int 6)) (cn c9 (a8 (aa 2) (ai)))) (ai)))) (a8 (au 3) (ai))))) (gN 5))
  (iJ (dQ [0,1] ck 1 (a8 (au 5) (ai)))))))
def fP:List Slot->List D->R (D×List Slot):=iw 2 1 4 jW
abbrev sY:Lw:=iy 65
def vA:ag->R bq:=
 tP (Dc (m8 (sN (dQ [2,1] ck 1 (a8 (bS (a8 (fC (.str "take back")) (ai))) (ai))))) (HI (o6 [2] (gY (dD (aF bV 2 (a8 (au 2) (a8 (f2 aQ (aa 1) (f1 g_ (fC (.int 1)))) (ai)))))))))
  (bu (fC (.bl false)))
  (aE)
def De:ag->R bq:=
 aw (wU 1 (aF gl 1 (a8 (au 0) (ai))))
  (aw (vq 2 "Cellar" 1 eC (a8 (f2 aQ (f2 aQ (aa 1) (fC (.int 0))) (fC (.int 0))) (ai)))
  (aw (tP (Dc (m8 (sN (dQ [2,1] fP 1 (a8 (au 0) (ai))))) (HI (o6 [2] (gY (dD (aF bV 2 (a8 (au 2) (a8 (f2 aQ (aa 1) (f1 g_ (fC (.int 1)))) (ai)))))))))
  (bu (fC (.bl false)))
  (aE))
  (aw (jM (fT (f2 nV (cn c9 (a8 (aa 1) (ai))) (fC (.int 1)))) (vA) 100)
  (aw (tP (m8 (sN (dQ [2,1] ck 1 (a8 (bS (a8 (fC (.str "take back")) (ai))) (ai)))))
  (bu (fC (.bl false)))
  (aE))
  (aw (tP (m8 (sN (dQ [2,1] ck 1 (a8 (bS (a8 (fC (.str "stream comes")) (a8 (cn wD (a8 (fC (.int 1)) (a8 (f2 aQ (f2 aQ (aa 1) (fC (.int 0))) (fC (.int 0))) (ai)))) (a8 (fC (.int 0)) (ai))))) (ai)))))
  (bu (fC (.bl false)))
  (aE))
  (aw (aV (aF c7 3 (a8 (f2 aQ (aa 1) (f1 g_ (fC (.int 1)))) (a8 (aF bQ 2 (a8 (au 0) (a8 (fC (.int 7)) (ai)))) (a8 (fC (.bl true)) (ai))))) (gN 3))
  (D7 (D8 (dQ [2,1] ck 1 (a8 (au 3) (ai))) (J3 (o5 "history" [2] (aF bV 2 (a8 (au 2) (a8 (f2 aQ (aa 1) (f1 g_ (fC (.int 1)))) (ai))))))))))))))
def uK:List D->R D:=bi 1 4 De
end My
namespace My
open PySem PySem.Spec PyProof.Rows L2 L2.Pu
section
variable {P:Ll} {w:Ly} {K:K_} {mg:L3->Option L0} {base:Lr}
abbrev BN:List L3:=["ValueError","abs","any","bool","int","isinstance","len","list","max","min","range","set","sorted","str","tuple"]
theorem qN:aC ["self","tanks","streams","rises","readings","self.tanks","self.streams","self.rises","self.readings"] ["self","tanks","streams","rises","readings"] (al kU):=⟨rfl,rfl,rfl,by decide+kernel,rfl,by decide+kernel,by decide+kernel⟩
theorem jF:∀g∈(["self.tanks","self.streams","self.rises","self.readings"]:List L3),¬pT (al kU) g:=by unfold pT;decide+kernel
theorem xh (A:qe K mg "Day" "Day.__init__" kU ["self","tanks","streams","rises","readings"] sR) (B:Bl mg BN):hU P w K mg base 1 "Day" 4 hW:=by
 refine uC A qN rfl rfl (by decide) (by decide) λC f SE A outer s H E hC Wl hr=> ?_
 have hu:=bI hr
 have S:=qN
 exact ae (jN 5 hC (Wl "tanks" (by decide)) (ja (by decide) (by decide) (by decide) (by decide)) (aq 1) (hvis:=jF "self.tanks" (by decide))) (ae (jN 6 hC (Wl "streams" (by decide)) (ja (by decide) (by decide) (by decide) (by decide)) (ba aI br (B.no "tuple" (by decide)) L2.Pu.aX (ax (PQ.bo (aS (kP rfl) lY (B.no "sorted" (by decide)) L2.Pu.jB (ax (ac 2) (aD)))) (aD))) (hvis:=jF "self.streams" (by decide))) (ae (jN 7 hC (Wl "rises" (by decide)) (ja (by decide) (by decide) (by decide) (by decide)) (ba aI br (B.no "tuple" (by decide)) L2.Pu.aX (ax (ac 3) (aD))) (hvis:=jF "self.rises" (by decide))) (ak (jN 8 hC (Wl "readings" (by decide)) (ja (by decide) (by decide) (by decide) (by decide)) (ba aI br (B.no "tuple" (by decide)) L2.Pu.aX (ax (PQ.bo (aS (kP rfl) lY (B.no "sorted" (by decide)) L2.Pu.jB (ax (ac 4) (aD)))) (aD))) (hvis:=jF "self.readings" (by decide))))))
theorem kn:aC ["self","came","streams","meters","passed","self.came","self.streams","self.meters","self.passed"] ["self","came","streams","meters","passed"] (al fS):=⟨rfl,rfl,rfl,by decide+kernel,rfl,by decide+kernel,by decide+kernel⟩
theorem fA:∀g∈(["self.came","self.streams","self.meters","self.passed"]:List L3),¬pT (al fS) g:=by unfold pT;decide+kernel
theorem qm (A:qe K mg "Standing" "Standing.__init__" fS ["self","came","streams","meters","passed"] bE) (B:Bl mg BN):hU P w K mg base 1 "Standing" 4 b6:=by
 refine uC A kn rfl rfl (by decide) (by decide) λC f SE A outer s H E hC Wl hr=> ?_
 have hu:=bI hr
 have S:=kn
 exact ae (jN 5 hC (Wl "came" (by decide)) (ja (by decide) (by decide) (by decide) (by decide)) (aq 1) (hvis:=fA "self.came" (by decide))) (ae (jN 6 hC (Wl "streams" (by decide)) (ja (by decide) (by decide) (by decide) (by decide)) (aq 2) (hvis:=fA "self.streams" (by decide))) (ae (jN 7 hC (Wl "meters" (by decide)) (ja (by decide) (by decide) (by decide) (by decide)) (aq 3) (hvis:=fA "self.meters" (by decide))) (ak (jN 8 hC (Wl "passed" (by decide)) (ja (by decide) (by decide) (by decide) (by decide)) (aq 4) (hvis:=fA "self.passed" (by decide))))))
theorem gm:aC ["self","source","target","number"] ["self","source","target"] (al dR):=⟨rfl,rfl,rfl,by decide+kernel,rfl,by decide+kernel,by decide+kernel⟩
theorem ko (A:dP K "Standing" "with_stream" "Standing.with_stream" dR ["self","source","target"]) (B:Bl mg BN) (SA:hU P w K mg base 1 "Standing" 4 b6) (Sw:cF K "Standing" bE):bZ P w K mg base 3 "Standing" "with_stream" 3 cq:=by
 refine fq A gm rfl rfl λf SE A outer s H E hr=> ?_
 have hu:=bI hr
 have S:=gm
 exact ae (aU 3 S.nd (ay aM aN (PQ.bo (bv Sw (by decide) (ac 0))) (PQ.bo (af)))) (ak (b8 (o0 SA (hr.mono (by decide)) (a7 (aq 3) (a7 (ay aM aN (PQ.bo (bv Sw (by decide) (ac 0))) (PQ.bo (bL (a7 (bL (a7 (aq 3) (a7 (aq 1) (a7 (aq 2) (ah))))) (ah))))) (a7 (bv Sw (by decide) (ac 0)) (a7 (bv Sw (by decide) (ac 0)) (ah))))))))
theorem e_:aC ["self","number","streams","meters"] ["self","number"] (al d8):=⟨rfl,rfl,rfl,by decide+kernel,rfl,by decide+kernel,by decide+kernel⟩
theorem jr (A:dP K "Standing" "without_stream" "Standing.without_stream" d8 ["self","number"]) (B:Bl mg BN) (SA:hU P w K mg base 1 "Standing" 4 b6) (Sw:cF K "Standing" bE):bZ P w K mg base 3 "Standing" "without_stream" 2 bT:=by
 refine fq A e_ rfl rfl λf SE A outer s H E hr=> ?_
 have hu:=bI hr
 have S:=e_
 exact ae (aU 2 S.nd (ba aI br (B.no "tuple" (by decide)) L2.Pu.aX (ax (PQ.bo (cT (aZ.of rfl (by first|decide+kernel|rfl)) rfl (cX (bv Sw (by decide) (ac 0))) (λ_ _ _=>b7 1 (show ([".0","stream","number"]:List L3).Nodup by decide+kernel)) (λ_ _ _=>gZ (aO lH j7 (PQ.bo (aK hu (ac 1) (PQ.bo (af)))) (ac 2))) (λ_ _ _=>aq 1))) (aD)))) (ae (aU 3 S.nd (ba aI br (B.no "tuple" (by decide)) L2.Pu.aX (ax (PQ.bo (cT (aZ.of rfl (by first|decide+kernel|rfl)) rfl (cX (bv Sw (by decide) (ac 0))) (λ_ _ _=>b7 1 (show ([".0","meter","number"]:List L3).Nodup by decide+kernel)) (λ_ _ _=>gZ (aO lH j7 (ac 1) (ac 2))) (λ_ _ _=>aq 1))) (aD)))) (ak (b8 (o0 SA (hr.mono (by decide)) (a7 (bv Sw (by decide) (ac 0)) (a7 (aq 2) (a7 (aq 3) (a7 (bv Sw (by decide) (ac 0)) (ah)))))))))
theorem gp:aC ["self","numbers"] ["self","numbers"] (al dU):=⟨rfl,rfl,rfl,by decide+kernel,rfl,by decide+kernel,by decide+kernel⟩
theorem kq (A:dP K "Standing" "with_meters" "Standing.with_meters" dU ["self","numbers"]) (B:Bl mg BN) (SA:hU P w K mg base 1 "Standing" 4 b6) (Sw:cF K "Standing" bE):bZ P w K mg base 3 "Standing" "with_meters" 2 cr:=by
 refine fq A gp rfl rfl λf SE A outer s H E hr=> ?_
 have hu:=bI hr
 have S:=gp
 exact ak (b8 (o0 SA (hr.mono (by decide)) (a7 (bv Sw (by decide) (ac 0)) (a7 (bv Sw (by decide) (ac 0)) (a7 (ay aM aN (PQ.bo (bv Sw (by decide) (ac 0))) (PQ.bo (ba aI br (B.no "tuple" (by decide)) L2.Pu.aX (ax (ac 1) (aD))))) (a7 (bv Sw (by decide) (ac 0)) (ah)))))))
theorem f6:aC ["self","numbers","meters"] ["self","numbers"] (al db):=⟨rfl,rfl,rfl,by decide+kernel,rfl,by decide+kernel,by decide+kernel⟩
theorem js (A:dP K "Standing" "without_meters" "Standing.without_meters" db ["self","numbers"]) (B:Bl mg BN) (SA:hU P w K mg base 1 "Standing" 4 b6) (Sw:cF K "Standing" bE):bZ P w K mg base 3 "Standing" "without_meters" 2 bU:=by
 refine fq A f6 rfl rfl λf SE A outer s H E hr=> ?_
 have hu:=bI hr
 have S:=f6
 exact ae (aU 2 S.nd (ba aI br (B.no "tuple" (by decide)) L2.Pu.aX (ax (PQ.bo (cT (aZ.of rfl (by first|decide+kernel|rfl)) rfl (cX (bv Sw (by decide) (ac 0))) (λ_ _ _=>b7 1 (show ([".0","meter","numbers"]:List L3).Nodup by decide+kernel)) (λ_ _ _=>gZ (o_ hu (ac 1) (ac 2))) (λ_ _ _=>aq 1))) (aD)))) (ak (b8 (o0 SA (hr.mono (by decide)) (a7 (bv Sw (by decide) (ac 0)) (a7 (bv Sw (by decide) (ac 0)) (a7 (aq 2) (a7 (bv Sw (by decide) (ac 0)) (ah))))))))
theorem ik:aC ["self","day"] ["self","day"] (al fI):=⟨rfl,rfl,rfl,by decide+kernel,rfl,by decide+kernel,by decide+kernel⟩
theorem mD (A:dP K "Standing" "with_day" "Standing.with_day" fI ["self","day"]) (B:Bl mg BN) (SA:hU P w K mg base 1 "Standing" 4 b6) (Sw:cF K "Standing" bE):bZ P w K mg base 3 "Standing" "with_day" 2 cP:=by
 refine fq A ik rfl rfl λf SE A outer s H E hr=> ?_
 have hu:=bI hr
 have S:=ik
 exact ak (b8 (o0 SA (hr.mono (by decide)) (a7 (bv Sw (by decide) (ac 0)) (a7 (bv Sw (by decide) (ac 0)) (a7 (bv Sw (by decide) (ac 0)) (a7 (ay aM aN (PQ.bo (bv Sw (by decide) (ac 0))) (PQ.bo (bL (a7 (aq 1) (ah))))) (ah)))))))
theorem kr:aC ["tanks","places"] ["tanks","places"] (al iz):=⟨rfl,rfl,rfl,by decide+kernel,rfl,by decide+kernel,by decide+kernel⟩
theorem qo (A:cB K mg "refuse_places" iz ["tanks","places"]) (B:Bl mg BN) {Vd:O6} (UT:mg "OUTSIDE"=some (.int 0 Vd)) (UK:cK K mg "SamePlace") (TQ:cK K mg "UnknownPlace"):bf P w K mg base 1 "refuse_places" 2 eg:=by
 refine cb A kr rfl rfl λf SE A outer s H E hr=> ?_
 have hu:=bI hr
 have S:=kr
 exact ae (bB (eN (PQ.bo (aS (iW rfl) mX (B.no "any" (by decide)) L2.Pu.km (ax (PQ.bo (cT (aZ.of rfl (by first|decide+kernel|rfl)) rfl (cX (aq 1)) (λ_ _ _=>b7 1 (show ([".0","place","OUTSIDE","tanks"]:List L3).Nodup by decide+kernel)) (λ_ _ _=>eI) (λ_ _ _=>K1 (j4 ll iq (ac 1) (PQ.bo (kK rfl UT))) (wv (j4 jA gF (ac 1) (ac 3)))))) (aD))))) (ak (dz TQ rfl (a7 (aJ) (ah)))) (aG)) (ak (bB (aO bN bg (PQ.bo (aK hu (ac 1) (PQ.bo (af)))) (PQ.bo (aK hu (ac 1) (PQ.bo (af))))) (ak (dz UK rfl (a7 (aJ) (ah)))) (aG)))
theorem jG:aC ["standing","numbers","there"] ["standing","numbers"] (al hX):=⟨rfl,rfl,rfl,by decide+kernel,rfl,by decide+kernel,by decide+kernel⟩
theorem pz (A:cB K mg "refuse_numbers" hX ["standing","numbers"]) (B:Bl mg BN) (W9:cK K mg "Twice") (Tz:cK K mg "UnknownStream") (Sw:cF K "Standing" bE):bf P w K mg base 1 "refuse_numbers" 2 bC:=by
 refine cb A jG rfl rfl λf SE A outer s H E hr=> ?_
 have hu:=bI hr
 have S:=jG
 exact ae (rJ 2 (aZ.of rfl (by first|decide+kernel|rfl)) rfl S.nd (cX (bv Sw (by decide) (ac 0))) (λ_ _ _=>b7 1 (show ([".0","stream"]:List L3).Nodup by decide+kernel)) (λ_ _ _=>eI) (λ_ _ _=>aK hu (ac 1) (PQ.bo (af)))) (ae (bB (eN (PQ.bo (aS (iW rfl) mX (B.no "any" (by decide)) L2.Pu.km (ax (PQ.bo (cT (aZ.of rfl (by first|decide+kernel|rfl)) rfl (cX (aq 1)) (λ_ _ _=>b7 1 (show ([".0","number","there"]:List L3).Nodup by decide+kernel)) (λ_ _ _=>eI) (λ_ _ _=>va hu (ac 1) (ac 2)))) (aD))))) (ak (dz Tz rfl (a7 (aJ) (ah)))) (aG)) (ak (bB (aO ll iq (PQ.bo (D6 rfl (B.no "len" (by decide)) (B.no "set" (by decide)) (ac 1))) (PQ.bo (aS a_ bF (B.no "len" (by decide)) Lz (ax (ac 1) (aD))))) (ak (dz W9 rfl (a7 (aJ) (ah)))) (aG))))
theorem iK:aC ["standing","numbers"] ["standing","numbers"] (al fW):=⟨rfl,rfl,rfl,by decide+kernel,rfl,by decide+kernel,by decide+kernel⟩
theorem nj (A:cB K mg "refuse_unmetered" fW ["standing","numbers"]) (B:Bl mg BN) (Uo:cK K mg "NotMetered") (Sw:cF K "Standing" bE):bf P w K mg base 1 "refuse_unmetered" 2 ci:=by
 refine cb A iK rfl rfl λf SE A outer s H E hr=> ?_
 have hu:=bI hr
 have S:=iK
 exact ak (bB (eN (PQ.bo (aS (iW rfl) mX (B.no "any" (by decide)) L2.Pu.km (ax (PQ.bo (cT (aZ.of rfl (by first|decide+kernel|rfl)) rfl (cX (aq 1)) (λ_ _ _=>b7 1 (show ([".0","number","standing"]:List L3).Nodup by decide+kernel)) (λ_ _ _=>eI) (λ_ _ _=>va hu (ac 1) (PQ.bo (bv Sw (by decide) (ac 2)))))) (aD))))) (ak (dz Uo rfl (a7 (aJ) (ah)))) (aG))
theorem jH:aC ["amounts"] ["amounts"] (al hZ):=⟨rfl,rfl,rfl,by decide+kernel,rfl,by decide+kernel,by decide+kernel⟩
theorem pA (A:cB K mg "refuse_amounts" hZ ["amounts"]) (B:Bl mg BN) {U6:O6} (TR:mg "MOST_AMOUNT"=some (.int 1000 U6)) (Up:cK K mg "OutOfRange"):bf P w K mg base 1 "refuse_amounts" 1 cZ:=by
 refine cb A jH rfl rfl λf SE A outer s H E hr=> ?_
 have hu:=bI hr
 have S:=jH
 exact ak (bB (eN (PQ.bo (aS (iW rfl) mX (B.no "any" (by decide)) L2.Pu.km (ax (PQ.bo (cT (aZ.of rfl (by first|decide+kernel|rfl)) rfl (cX (aq 0)) (λ_ _ _=>b7 1 (show ([".0","amount","abs","MOST_AMOUNT"]:List L3).Nodup by decide+kernel)) (λ_ _ _=>eI) (λ_ _ _=>j4 jA gF (PQ.bo (aS AZ EL (B.no "abs" (by decide)) L2.Pu.A_ (ax (ac 1) (aD)))) (PQ.bo (kK rfl TR))))) (aD))))) (ak (dz Up rfl (a7 (aJ) (ah)))) (aG))
theorem mE:aC ["self","tanks","self.tanks","self.now","self.history"] ["self","tanks"] (al i9):=⟨rfl,rfl,rfl,by decide+kernel,rfl,by decide+kernel,by decide+kernel⟩
theorem jt:∀g∈(["self.tanks","self.now","self.history"]:List L3),¬pT (al i9) g:=by unfold pT;decide+kernel
theorem sZ (A:qe K mg "Cellar" "Cellar.__init__" i9 ["self","tanks"] cw) (B:Bl mg BN) (SA:hU P w K mg base 1 "Standing" 4 b6) {Uq:O6} (U7:mg "MOST_TANKS"=some (.int 7 Uq)) (UU:cK K mg "BadTanks"):xf P w K mg base 3 "Cellar" 1 eC:=by
 refine D5 A mE rfl rfl (by decide) (by decide) (by decide) λC f SE A outer s H E hC Wl hr=> ?_
 have hu:=bI hr
 have S:=mE
 exact ae (bB (qZ.t (sx (aO ll iq (ac 1) (PQ.bo (af))) (lL (aO jA gF (ac 1) (PQ.bo (kK rfl U7)))))) (ak (dz UU rfl (a7 (aJ) (ah)))) (aG)) (ae (jN 2 hC (Wl "tanks" (by decide)) (ja (by decide) (by decide) (by decide) (by decide)) (aq 1) (hvis:=jt "self.tanks" (by decide))) (ae (jN 3 hC (Wl "now" (by decide)) (ja (by decide) (by decide) (by decide) (by decide)) (o0 SA (hr.mono (by decide)) (a7 (af) (a7 (bL (ah)) (a7 (bL (ah)) (a7 (bL (ah)) (ah)))))) (hvis:=jt "self.now" (by decide))) (ak (Hb 4 hC (Wl "history" (by decide)) (ja (by decide) (by decide) (by decide) (by decide)) (hvis:=jt "self.history" (by decide))))))
theorem iL:aC ["self","deed","after"] ["self","deed","after"] (al fX):=⟨rfl,rfl,rfl,by decide+kernel,rfl,by decide+kernel,by decide+kernel⟩
theorem nk (A:dP K "Cellar" "keep_deed" "Cellar.keep_deed" fX ["self","deed","after"]) (B:Bl mg BN) {Ur:O6} (U8:mg "MOST_DEEDS"=some (.int 60 Ur)) (TU:cK K mg "TooManyDeeds") (Sx:cF K "Cellar" cw):dv P w K mg base 1 "Cellar" "keep_deed" 2 aT:=by
 refine jb A iL rfl rfl (by decide) λf SE A outer s H E hr=> ?_
 have hu:=bI hr
 have S:=iL
 exact ae (bB (aO w8 sC (PQ.bo (aS a_ bF (B.no "len" (by decide)) Lz (ax (C_ 0 Sx (by decide)) (aD)))) (PQ.bo (kK rfl U8))) (ak (dz TU rfl (a7 (aJ) (ah)))) (aG)) (ae (D0 0 Sx (by decide) (bL (a7 (aq 1) (a7 (du 0 Sx (by decide)) (ah))))) (ak (xc 0 Sx (by decide) (aq 2))))
theorem gM:aC ["self","source","target"] ["self","source","target"] (al eK):=⟨rfl,rfl,rfl,by decide+kernel,rfl,by decide+kernel,by decide+kernel⟩
theorem lg (A:dP K "Cellar" "stream_comes" "Cellar.stream_comes" eK ["self","source","target"]) (B:Bl mg BN) (TB:bf P w K mg base 1 "refuse_places" 2 eg) (Sy:dv P w K mg base 1 "Cellar" "keep_deed" 2 aT) (T5:bZ P w K mg base 3 "Standing" "with_stream" 3 cq) {TV:O6} (TC:mg "MOST_STREAMS"=some (.int 12 TV)) (Tn:cK K mg "TooManyStreams") (Sx:cF K "Cellar" cw) (Sw:cF K "Standing" bE):dv P w K mg base 4 "Cellar" "stream_comes" 2 cC:=by
 refine jb A gM rfl rfl (by decide) λf SE A outer s H E hr=> ?_
 have hu:=bI hr
 have S:=gM
 exact ae (kQ (bY TB (hr.mono (by decide)) (a7 (du 0 Sx (by decide)) (a7 (bL (a7 (aq 1) (a7 (aq 2) (ah)))) (ah))))) (ae (bB (aO w8 sC (PQ.bo (aS a_ bF (B.no "len" (by decide)) Lz (ax (PQ.bo (bv Sw (by decide) (PQ.bo (du 0 Sx (by decide))))) (aD)))) (PQ.bo (kK rfl TC))) (ak (dz Tn rfl (a7 (aJ) (ah)))) (aG)) (ae (pj (jP 0 Sy (hr.mono (by decide)) (a7 (bL (a7 (aJ) (a7 (aq 1) (a7 (aq 2) (ah))))) (a7 (qc T5 (hr.mono (by decide)) (du 0 Sx (by decide)) (a7 (aq 1) (a7 (aq 2) (ah)))) (ah))))) (ak (jd (bv Sw (by decide) (PQ.bo (du 0 Sx (by decide))))))))
theorem gU:aC ["self","number"] ["self","number"] (al eW):=⟨rfl,rfl,rfl,by decide+kernel,rfl,by decide+kernel,by decide+kernel⟩
theorem lD (A:dP K "Cellar" "stream_goes" "Cellar.stream_goes" eW ["self","number"]) (B:Bl mg BN) (SD:bf P w K mg base 1 "refuse_numbers" 2 bC) (Sy:dv P w K mg base 1 "Cellar" "keep_deed" 2 aT) (S_:bZ P w K mg base 3 "Standing" "without_stream" 2 bT) (Sx:cF K "Cellar" cw):dv P w K mg base 4 "Cellar" "stream_goes" 1 cH:=by
 refine jb A gU rfl rfl (by decide) λf SE A outer s H E hr=> ?_
 have hu:=bI hr
 have S:=gU
 exact ae (kQ (bY SD (hr.mono (by decide)) (a7 (du 0 Sx (by decide)) (a7 (bL (a7 (aq 1) (ah))) (ah))))) (ak (pj (jP 0 Sy (hr.mono (by decide)) (a7 (bL (a7 (aJ) (a7 (aq 1) (ah)))) (a7 (qc S_ (hr.mono (by decide)) (du 0 Sx (by decide)) (a7 (aq 1) (ah))) (ah))))))
theorem gW:aC ["self","numbers"] ["self","numbers"] (al eX):=⟨rfl,rfl,rfl,by decide+kernel,rfl,by decide+kernel,by decide+kernel⟩
theorem lE (A:dP K "Cellar" "meters_come" "Cellar.meters_come" eX ["self","numbers"]) (B:Bl mg BN) (SD:bf P w K mg base 1 "refuse_numbers" 2 bC) (Sy:dv P w K mg base 1 "Cellar" "keep_deed" 2 aT) (T6:bZ P w K mg base 3 "Standing" "with_meters" 2 cr) {U9:O6} (TX:mg "MOST_METERS"=some (.int 10 U9)) (To:cK K mg "AlreadyMetered") (TF:cK K mg "TooManyMeters") (Sx:cF K "Cellar" cw) (Sw:cF K "Standing" bE):dv P w K mg base 4 "Cellar" "meters_come" 1 cI:=by
 refine jb A gW rfl rfl (by decide) λf SE A outer s H E hr=> ?_
 have hu:=bI hr
 have S:=gW
 exact ae (kQ (bY SD (hr.mono (by decide)) (a7 (du 0 Sx (by decide)) (a7 (aq 1) (ah))))) (ae (bB (vo [0] (eN (PQ.bo (aS (iW rfl) mX (B.no "any" (by decide)) L2.Pu.km (ax (PQ.bo (cT (aZ.of rfl (by first|decide+kernel|rfl)) rfl (cX (aq 1)) (λ_ _ _=>b7 1 (show ([".0","number","self"]:List L3).Nodup by decide+kernel)) (λ_ _ _=>eI) (λ_ _ _=>Eu hu (ac 1) (PQ.bo (bv Sw (by decide) (PQ.bo (bv Sx (by decide) (ac 2)))))))) (aD)))))) (ak (dz To rfl (a7 (aJ) (ah)))) (aG)) (ae (bB (aO jA gF (PQ.bo (ay aM aN (PQ.bo (aS a_ bF (B.no "len" (by decide)) Lz (ax (PQ.bo (bv Sw (by decide) (PQ.bo (du 0 Sx (by decide))))) (aD)))) (PQ.bo (aS a_ bF (B.no "len" (by decide)) Lz (ax (ac 1) (aD)))))) (PQ.bo (kK rfl TX))) (ak (dz TF rfl (a7 (aJ) (ah)))) (aG)) (ak (pj (jP 0 Sy (hr.mono (by decide)) (a7 (bL (a7 (aJ) (a7 (ba aI br (B.no "tuple" (by decide)) L2.Pu.aX (ax (ac 1) (aD))) (ah)))) (a7 (qc T6 (hr.mono (by decide)) (du 0 Sx (by decide)) (a7 (aq 1) (ah))) (ah))))))))
theorem iM:aC ["self","numbers"] ["self","numbers"] (al fZ):=⟨rfl,rfl,rfl,by decide+kernel,rfl,by decide+kernel,by decide+kernel⟩
theorem nl (A:dP K "Cellar" "meters_go" "Cellar.meters_go" fZ ["self","numbers"]) (B:Bl mg BN) (SD:bf P w K mg base 1 "refuse_numbers" 2 bC) (SU:bf P w K mg base 1 "refuse_unmetered" 2 ci) (Sy:dv P w K mg base 1 "Cellar" "keep_deed" 2 aT) (T1:bZ P w K mg base 3 "Standing" "without_meters" 2 bU) (Sx:cF K "Cellar" cw):dv P w K mg base 4 "Cellar" "meters_go" 1 d6:=by
 refine jb A iM rfl rfl (by decide) λf SE A outer s H E hr=> ?_
 have hu:=bI hr
 have S:=iM
 exact ae (kQ (bY SD (hr.mono (by decide)) (a7 (du 0 Sx (by decide)) (a7 (aq 1) (ah))))) (ae (kQ (bY SU (hr.mono (by decide)) (a7 (du 0 Sx (by decide)) (a7 (aq 1) (ah))))) (ak (pj (jP 0 Sy (hr.mono (by decide)) (a7 (bL (a7 (aJ) (a7 (ba aI br (B.no "tuple" (by decide)) L2.Pu.aX (ax (ac 1) (aD))) (ah)))) (a7 (qc T1 (hr.mono (by decide)) (du 0 Sx (by decide)) (a7 (aq 1) (ah))) (ah)))))))
theorem iN:aC ["self"] ["self"] (al f_):=⟨rfl,rfl,rfl,by decide+kernel,rfl,by decide+kernel,by decide+kernel⟩
theorem nq (A:dP K "Cellar" "days_gone" "Cellar.days_gone" f_ ["self"]) (B:Bl mg BN) (Sx:cF K "Cellar" cw) (Sw:cF K "Standing" bE):bZ P w K mg base 1 "Cellar" "days_gone" 1 bj:=by
 refine fq A iN rfl rfl λf SE A outer s H E hr=> ?_
 have hu:=bI hr
 have S:=iN
 exact ak (b8 (aS a_ bF (B.no "len" (by decide)) Lz (ax (PQ.bo (bv Sw (by decide) (PQ.bo (bv Sx (by decide) (ac 0))))) (aD))))
theorem il:aC ["self","rises","readings","numbers","day"] ["self","rises","readings"] (al fJ):=⟨rfl,rfl,rfl,by decide+kernel,rfl,by decide+kernel,by decide+kernel⟩
theorem mF (A:dP K "Cellar" "day_passes" "Cellar.day_passes" fJ ["self","rises","readings"]) (B:Bl mg BN) (SD:bf P w K mg base 1 "refuse_numbers" 2 bC) (SU:bf P w K mg base 1 "refuse_unmetered" 2 ci) (Tc:bf P w K mg base 1 "refuse_amounts" 1 cZ) (UW:hU P w K mg base 1 "Day" 4 hW) (Sy:dv P w K mg base 1 "Cellar" "keep_deed" 2 aT) (Td:bZ P w K mg base 3 "Standing" "with_day" 2 cP) (SF:bZ P w K mg base 1 "Cellar" "days_gone" 1 bj) {UL:O6} (Us:mg "MOST_DAYS"=some (.int 12 UL)) (Tp:cK K mg "ReadingMissing") (Ua:cK K mg "TooManyDays") (Ut:cK K mg "WrongRises") (Sx:cF K "Cellar" cw) (Sw:cF K "Standing" bE):dv P w K mg base 4 "Cellar" "day_passes" 2 cQ:=by
 refine jb A il rfl rfl (by decide) λf SE A outer s H E hr=> ?_
 have hu:=bI hr
 have S:=il
 exact ae (bB (aO lH j7 (PQ.bo (aS a_ bF (B.no "len" (by decide)) Lz (ax (ac 1) (aD)))) (PQ.bo (du 0 Sx (by decide)))) (ak (dz Ut rfl (a7 (aJ) (ah)))) (aG)) (ae (rJ 3 (aZ.of rfl (by first|decide+kernel|rfl)) rfl S.nd (cX (aq 2)) (λ_ _ _=>b7 1 (show ([".0","pair"]:List L3).Nodup by decide+kernel)) (λ_ _ _=>eI) (λ_ _ _=>aK hu (ac 1) (PQ.bo (af)))) (ae (wx [3] (kQ (bY SD (hr.mono (by decide)) (a7 (du 0 Sx (by decide)) (a7 (aq 3) (ah)))))) (ae (wx [3] (kQ (bY SU (hr.mono (by decide)) (a7 (du 0 Sx (by decide)) (a7 (aq 3) (ah)))))) (ae (bB (eN (PQ.bo (aS (iW rfl) mX (B.no "any" (by decide)) L2.Pu.km (ax (PQ.bo (cT (aZ.of rfl (by first|decide+kernel|rfl)) rfl (cX (bv Sw (by decide) (PQ.bo (du 0 Sx (by decide))))) (λ_ _ _=>b7 1 (show ([".0","meter","numbers"]:List L3).Nodup by decide+kernel)) (λ_ _ _=>eI) (λ_ _ _=>va hu (ac 1) (ac 2)))) (aD))))) (ak (dz Tp rfl (a7 (aJ) (ah)))) (aG)) (ae (kQ (bY Tc (hr.mono (by decide)) (a7 (aq 1) (ah)))) (ae (kQ (bY Tc (hr.mono (by decide)) (a7 (cT (aZ.of rfl (by first|decide+kernel|rfl)) rfl (cX (aq 2)) (λ_ _ _=>b7 1 (show ([".0","pair"]:List L3).Nodup by decide+kernel)) (λ_ _ _=>eI) (λ_ _ _=>aK hu (ac 1) (PQ.bo (af)))) (ah)))) (ae (bB (aO w8 sC (PQ.bo (aS a_ bF (B.no "len" (by decide)) Lz (ax (PQ.bo (bv Sw (by decide) (PQ.bo (du 0 Sx (by decide))))) (aD)))) (PQ.bo (kK rfl Us))) (ak (dz Ua rfl (a7 (aJ) (ah)))) (aG)) (ae (aU 4 S.nd (o0 UW (hr.mono (by decide)) (a7 (du 0 Sx (by decide)) (a7 (bv Sw (by decide) (PQ.bo (du 0 Sx (by decide)))) (a7 (aq 1) (a7 (aq 2) (ah))))))) (ae (pj (jP 0 Sy (hr.mono (by decide)) (a7 (bL (a7 (aJ) (a7 (ba aI br (B.no "tuple" (by decide)) L2.Pu.aX (ax (ac 1) (aD))) (a7 (ba aI br (B.no "tuple" (by decide)) L2.Pu.aX (ax (ac 2) (aD))) (ah))))) (a7 (qc Td (hr.mono (by decide)) (du 0 Sx (by decide)) (a7 (aq 4) (ah))) (ah))))) (ak (jd (zF "history" [0] (pc SF (hr.mono (by decide)) (aq 0))))))))))))))
theorem iO:aC ["self","last"] ["self"] (al gf):=⟨rfl,rfl,rfl,by decide+kernel,rfl,by decide+kernel,by decide+kernel⟩
theorem nv (A:dP K "Cellar" "take_back" "Cellar.take_back" gf ["self"]) (B:Bl mg BN) (Ub:cK K mg "NothingDone") (Sx:cF K "Cellar" cw):dv P w K mg base 1 "Cellar" "take_back" 0 cj:=by
 refine jb A iO rfl rfl (by decide) λf SE A outer s H E hr=> ?_
 have hu:=bI hr
 have S:=iO
 exact ae (bB (aO bN bg (PQ.bo (aS a_ bF (B.no "len" (by decide)) Lz (ax (C_ 0 Sx (by decide)) (aD)))) (PQ.bo (af))) (ak (dz Ub rfl (a7 (aJ) (ah)))) (aG)) (ae (D1 1 0 S.nd Sx (by decide)) (ae (xc 0 Sx (by decide) (aK hu (ac 1) (PQ.bo (af)))) (ak (jd (aK hu (ac 1) (PQ.bo (af)))))))
theorem kt:aC ["self","meters"] ["self"] (al iA):=⟨rfl,rfl,rfl,by decide+kernel,rfl,by decide+kernel,by decide+kernel⟩
theorem qp (A:dP K "Cellar" "layout" "Cellar.layout" iA ["self"]) (B:Bl mg BN) (Sx:cF K "Cellar" cw) (Sw:cF K "Standing" bE):bZ P w K mg base 1 "Cellar" "layout" 1 df:=by
 refine fq A kt rfl rfl λf SE A outer s H E hr=> ?_
 have hu:=bI hr
 have S:=kt
 exact ae (aU 1 S.nd (bv Sw (by decide) (PQ.bo (bv Sx (by decide) (ac 0))))) (ak (b8 (ba aI br (B.no "tuple" (by decide)) L2.Pu.aX (ax (PQ.bo (cT (aZ.of rfl (by first|decide+kernel|rfl)) rfl (cX (bv Sw (by decide) (PQ.bo (bv Sx (by decide) (ac 0))))) (λ_ _ _=>b7 1 (show ([".0","stream","meters"]:List L3).Nodup by decide+kernel)) (λ_ _ _=>eI) (λ_ _ _=>ay aM aN (ac 1) (PQ.bo (bL (a7 (Eu hu (PQ.bo (aK hu (ac 1) (PQ.bo (af)))) (ac 2)) (ah))))))) (aD)))))
theorem lp:aC ["self"] ["self"] (al jh):=⟨rfl,rfl,rfl,by decide+kernel,rfl,by decide+kernel,by decide+kernel⟩
theorem rh (A:dP K "Cellar" "deeds" "Cellar.deeds" jh ["self"]) (B:Bl mg BN) (Sx:cF K "Cellar" cw):bZ P w K mg base 1 "Cellar" "deeds" 1 dA:=by
 refine fq A lp rfl rfl λf SE A outer s H E hr=> ?_
 have hu:=bI hr
 have S:=lp
 exact ak (b8 (ba aI br (B.no "tuple" (by decide)) L2.Pu.aX (ax (PQ.bo (cT (aZ.of rfl (by first|decide+kernel|rfl)) rfl (cX (bv Sx (by decide) (ac 0))) (λ_ _ _=>b7 1 (show ([".0","kept"]:List L3).Nodup by decide+kernel)) (λ_ _ _=>eI) (λ_ _ _=>aK hu (ac 1) (PQ.bo (af))))) (aD))))
theorem nI:aC ["self","number"] ["self","number"] (al kX):=⟨rfl,rfl,rfl,by decide+kernel,rfl,by decide+kernel,by decide+kernel⟩
theorem tV (A:dP K "Cellar" "day" "Cellar.day" kX ["self","number"]) (B:Bl mg BN) (SF:bZ P w K mg base 1 "Cellar" "days_gone" 1 bj) (Uu:cK K mg "UnknownDay") (Sx:cF K "Cellar" cw) (Sw:cF K "Standing" bE):bZ P w K mg base 2 "Cellar" "day" 2 fu:=by
 refine fq A nI rfl rfl λf SE A outer s H E hr=> ?_
 have hu:=bI hr
 have S:=nI
 exact ae (bB (qZ.t (sx (aO ll iq (ac 1) (PQ.bo (af))) (lL (aO jA gF (ac 1) (PQ.bo (pc SF (hr.mono (by decide)) (aq 0))))))) (ak (dz Uu rfl (a7 (aJ) (ah)))) (aG)) (ak (b8 (aK hu (PQ.bo (bv Sw (by decide) (PQ.bo (bv Sx (by decide) (ac 0))))) (PQ.bo (ay im fQ (ac 1) (PQ.bo (af)))))))
theorem uL:aC ["_law_script","_law_k"] ["_law_script","_law_k"] (al sV):=⟨rfl,rfl,rfl,by decide+kernel,rfl,by decide+kernel,by decide+kernel⟩
theorem B2 (A:cB K mg "_law_at" sV ["_law_script","_law_k"]) (B:Bl mg BN):bf P w K mg base 1 "_law_at" 2 cR:=by
 refine cb A uL rfl rfl λf SE A outer s H E hr=> ?_
 have hu:=bI hr
 have S:=uL
 exact ae (bB (aO ll iq (ac 1) (PQ.bo (aS a_ bF (B.no "len" (by decide)) Lz (ax (ac 0) (aD))))) (ak (b8 (aK hu (ac 0) (ac 1)))) (aG)) (ak (b8 (af)))
theorem qO:aC ["_law_script","_law_k","_law_mixed"] ["_law_script","_law_k"] (al og):=⟨rfl,rfl,rfl,by decide+kernel,rfl,by decide+kernel,by decide+kernel⟩
theorem xi (A:cB K mg "_law_cell" og ["_law_script","_law_k"]) (B:Bl mg BN) (T7:bf P w K mg base 1 "_law_at" 2 cR):bf P w K mg base 2 "_law_cell" 2 bQ:=by
 refine cb A qO rfl rfl λf SE A outer s H E hr=> ?_
 have hu:=bI hr
 have S:=qO
 exact ae (bB (aO bN bg (PQ.bo (ay bA bc (PQ.bo (bY T7 (hr.mono (by decide)) (a7 (aq 0) (a7 (af) (ah))))) (PQ.bo (af)))) (PQ.bo (af))) (ak (b8 (bY T7 (hr.mono (by decide)) (a7 (aq 0) (a7 (aq 1) (ah)))))) (aG)) (ae (aU 2 S.nd (ay bA bc (PQ.bo (ay gG i7 (PQ.bo (ay aM aN (PQ.bo (ay aM aN (PQ.bo (ay aM aN (PQ.bo (bY T7 (hr.mono (by decide)) (a7 (aq 0) (a7 (aq 1) (ah))))) (PQ.bo (ay eL dk (PQ.bo (bY T7 (hr.mono (by decide)) (a7 (aq 0) (a7 (af) (ah))))) (PQ.bo (af)))))) (PQ.bo (ay gG i7 (PQ.bo (af)) (ac 1))))) (PQ.bo (af)))) (PQ.bo (af)))) (PQ.bo (af)))) (ak (b8 (ay bA bc (PQ.bo (ay gG i7 (PQ.bo (ay aM aN (ac 2) (ac 1))) (PQ.bo (af)))) (PQ.bo (af))))))
theorem mG:aC ["_law_cell_here","_law_mixed","_law_many","_law_size","_law_found","_law_rest","_law_k","_law_one"] ["_law_cell_here","_law_mixed","_law_many","_law_size"] (al jR):=⟨rfl,rfl,rfl,by decide+kernel,rfl,by decide+kernel,by decide+kernel⟩
theorem s_ (A:cB K mg "_law_figures" jR ["_law_cell_here","_law_mixed","_law_many","_law_size"]) (B:Bl mg BN):bf P w K mg base 1 "_law_figures" 4 b_:=by
 refine cb A mG rfl rfl λf SE A outer s H E hr=> ?_
 have hu:=bI hr
 have S:=mG
 exact ae (lM 4 S.nd (ah)) (ae (aU 5 S.nd (aq 0)) (ae (nG Md rfl (ic (B.no "range" (by decide)) (a7 (aq 2) (ah))) (b7 6 S.nd) (ak (bB (eN (ac 1)) (ae (aU 7 S.nd (ay bA bc (PQ.bo (ay gG i7 (PQ.bo (ay aM aN (PQ.bo (ay aM aN (ac 0) (PQ.bo (ay gG i7 (PQ.bo (af)) (ac 6))))) (PQ.bo (af)))) (PQ.bo (af)))) (PQ.bo (af)))) (ak (ie 4 (ay bA bc (PQ.bo (ay bA bc (PQ.bo (ay gG i7 (PQ.bo (ay aM aN (ac 7) (ac 6))) (PQ.bo (af)))) (PQ.bo (af)))) (ac 3))))) (ae (ie 4 (ay bA bc (ac 5) (ac 3))) (ak (aU 5 S.nd (ay eL dk (ac 5) (ac 3)))))))) (ak (wx [4] (b8 (aq 4))))))
theorem qP:aC ["_law_found","_law_due","_law_k"] ["_law_found","_law_due"] (al kZ):=⟨rfl,rfl,rfl,by decide+kernel,rfl,by decide+kernel,by decide+kernel⟩
theorem pB (A:cB K mg "_law_same" kZ ["_law_found","_law_due"]) (B:Bl mg BN):∀n:Nat,bf P w K mg base n "_law_same" 2 (dH n)
 |0=>CB A rfl
 |n+1=>by
  have a0X:=pB A B n
  refine cb A qP rfl rfl λf SE A outer s H E hr=> ?_
  have hu:=bI hr
  have S:=qP
  exact ae (bB (eN (PQ.bo (qF (.inr (.inr (.inr (.inl rfl)))) (B.no "isinstance" (by decide)) (B.no "tuple" (by decide)) L2.Pu.aX (ac 1)))) (ae (bB (qZ.t (sx (lm (eN (PQ.bo (qF (.inr (.inr (.inr (.inl rfl)))) (B.no "isinstance" (by decide)) (B.no "tuple" (by decide)) L2.Pu.aX (ac 0))))) (lL (aO lH j7 (PQ.bo (aS a_ bF (B.no "len" (by decide)) Lz (ax (ac 0) (aD)))) (PQ.bo (aS a_ bF (B.no "len" (by decide)) Lz (ax (ac 1) (aD)))))))) (ak (b8 (kJ))) (aG)) (ae (nG Md rfl (ic (B.no "range" (by decide)) (a7 (aS a_ bF (B.no "len" (by decide)) Lz (ax (ac 1) (aD))) (ah))) (b7 2 S.nd) (ak (bB (lm (eN (PQ.bo (bY a0X (hr.mono (by omega)) (a7 (aK hu (ac 0) (ac 2)) (a7 (aK hu (ac 1) (ac 2)) (ah))))))) (ak (b8 (kJ))) (aG)))) (ak (b8 (kJ))))) (aG)) (ae (bB (aO BF zr (ac 1) (PQ.bo (zn))) (ak (b8 (j4 BF zr (ac 0) (PQ.bo (zn))))) (aG)) (ae (bB (eN (PQ.bo (qF (.inl rfl) (B.no "isinstance" (by decide)) (B.no "bool" (by decide)) L2.Pu.qb (ac 1)))) (ak (b8 (ww (qF (.inl rfl) (B.no "isinstance" (by decide)) (B.no "bool" (by decide)) L2.Pu.qb (ac 0)) (wv (j4 bN bg (ac 0) (ac 1)))))) (aG)) (ae (bB (eN (PQ.bo (qF (.inr (.inr (.inl rfl))) (B.no "isinstance" (by decide)) (B.no "str" (by decide)) L2.Pu.wG (ac 1)))) (ak (b8 (ww (qF (.inr (.inr (.inl rfl))) (B.no "isinstance" (by decide)) (B.no "str" (by decide)) L2.Pu.wG (ac 0)) (wv (j4 bN bg (ac 0) (ac 1)))))) (aG)) (ak (b8 (ww (qF (.inr (.inl rfl)) (B.no "isinstance" (by decide)) (B.no "int" (by decide)) L2.Pu.p7 (ac 0)) (ww (Fu (qF (.inl rfl) (B.no "isinstance" (by decide)) (B.no "bool" (by decide)) L2.Pu.qb (ac 0))) (wv (j4 bN bg (ac 0) (ac 1))))))))))
theorem xj (A:cB K mg "_law_same" kZ ["_law_found","_law_due"]) (B:Bl mg BN):bf P w K mg base 8 "_law_same" 2 bn:=(pB A B 8).mono (by decide)
theorem qQ:aC ["_law_levels","_law_source","_law_target","_law_most","_law_low","_law_high"] ["_law_levels","_law_source","_law_target","_law_most"] (al oi):=⟨rfl,rfl,rfl,by decide+kernel,rfl,by decide+kernel,by decide+kernel⟩
theorem xk (A:cB K mg "_law_span" oi ["_law_levels","_law_source","_law_target","_law_most"]) (B:Bl mg BN):bf P w K mg base 1 "_law_span" 4 ji:=by
 refine cb A qQ rfl rfl λf SE A outer s H E hr=> ?_
 have hu:=bI hr
 have S:=qQ
 exact ae (aU 4 S.nd (oX fU eP (ac 3))) (ae (aU 5 S.nd (aq 3)) (ae (bB (aO jA gF (ac 1) (PQ.bo (af))) (ae (aU 4 S.nd (aS (ua rfl) zt (B.no "max" (by decide)) L2.Pu.wH (ax (ac 4) (ax (PQ.bo (ay im fQ (PQ.bo (aK hu (ac 0) (ac 1))) (PQ.bo (af)))) (aD))))) (ak (aU 5 S.nd (aS (mO rfl) rH (B.no "min" (by decide)) L2.Pu.p8 (ax (ac 5) (ax (PQ.bo (ay aM aN (PQ.bo (aK hu (ac 0) (ac 1))) (PQ.bo (af)))) (aD))))))) (aG)) (ae (bB (aO jA gF (ac 2) (PQ.bo (af))) (ae (aU 4 S.nd (aS (ua rfl) zt (B.no "max" (by decide)) L2.Pu.wH (ax (ac 4) (ax (PQ.bo (ay im fQ (PQ.bo (oX fU eP (PQ.bo (af)))) (PQ.bo (aK hu (ac 0) (ac 2))))) (aD))))) (ak (aU 5 S.nd (aS (mO rfl) rH (B.no "min" (by decide)) L2.Pu.p8 (ax (ac 5) (ax (PQ.bo (ay im fQ (PQ.bo (af)) (PQ.bo (aK hu (ac 0) (ac 2))))) (aD))))))) (aG)) (ak (b8 (eM (a7 (aq 4) (a7 (aq 5) (ah)))))))))
theorem pC:aC ["_law_figures_here","_law_n","_law_streams","_law_meters","_law_bounds","_law_levels","_law_rows","_law_k","_law_number","_law_source","_law_target","_law_low","_law_high","_law_amount"] ["_law_figures_here","_law_n","_law_streams","_law_meters","_law_bounds"] (al ml):=⟨rfl,rfl,rfl,by decide+kernel,rfl,by decide+kernel,by decide+kernel⟩
theorem vB (A:cB K mg "_law_flows" ml ["_law_figures_here","_law_n","_law_streams","_law_meters","_law_bounds"]) (B:Bl mg BN) (UX:bf P w K mg base 1 "_law_span" 4 ji):bf P w K mg base 2 "_law_flows" 5 ij:=by
 refine cb A pC rfl rfl λf SE A outer s H E hr=> ?_
 have hu:=bI hr
 have S:=pC
 exact ae (CS 5 S.nd (IX gG CT (PQ.bo (eM (a7 (af) (ah)))) (PQ.bo (ay aM aN (ac 1) (PQ.bo (af)))))) (ae (lM 6 S.nd (ah)) (ae (nG Md rfl (ic (B.no "range" (by decide)) (a7 (aS a_ bF (B.no "len" (by decide)) Lz (ax (ac 2) (aD))) (ah))) (b7 7 S.nd) (ae (Ci (aK hu (ac 2) (ac 7)) (Ch rfl (fc (b7 8 S.nd) (fc (b7 9 S.nd) (fc (b7 10 S.nd) (v6)))))) (ae (GX [5] rfl (bY UX (hr.mono (by decide)) (a7 (aq 5) (a7 (aq 9) (a7 (aq 10) (a7 (aK hu (ac 4) (PQ.bo (ba pV ve (B.no "int" (by decide)) L2.Pu.p7 (ax (PQ.bo (Eu hu (ac 8) (ac 3))) (aD))))) (ah)))))) (fc (b7 11 S.nd) (fc (b7 12 S.nd) (v6)))) (ae (aU 13 S.nd (ay aM aN (ac 11) (PQ.bo (ay bA bc (PQ.bo (aK hu (ac 0) (ac 7))) (PQ.bo (ay aM aN (PQ.bo (ay im fQ (ac 12) (ac 11))) (PQ.bo (af)))))))) (ae (Fv 5 hu (aq 9) (ay im fQ (PQ.bo (aK hu (ac 5) (ac 9))) (ac 13))) (ae (Fv 5 hu (aq 10) (ay aM aN (PQ.bo (aK hu (ac 5) (ac 10))) (ac 13))) (ak (ie 6 (bL (a7 (aq 8) (a7 (aq 13) (ah)))))))))))) (ak (b8 (eM (a7 (ba aI br (B.no "tuple" (by decide)) L2.Pu.aX (ax (ac 6) (aD))) (a7 (ba aI br (B.no "tuple" (by decide)) L2.Pu.aX (ax (PQ.bo (kM (ac 5) (nY (af)) (nX))) (aD))) (ah))))))))
theorem qR:aC ["_law_day","_law_case"] ["_law_day","_law_case"] (al ol):=⟨rfl,rfl,rfl,by decide+kernel,rfl,by decide+kernel,by decide+kernel⟩
theorem xl (A:cB K mg "_law_kept" ol ["_law_day","_law_case"]) (B:Bl mg BN) (SM:bf P w K mg base 8 "_law_same" 2 bn) (W0:cF K "Day" sR):bf P w K mg base 9 "_law_kept" 2 h_:=by
 refine cb A qR rfl rfl λf SE A outer s H E hr=> ?_
 have hu:=bI hr
 have S:=qR
 exact ae (bB (qZ.t (sx (lm (eN (PQ.bo (bY SM (hr.mono (by decide)) (a7 (bv W0 (by decide) (ac 0)) (a7 (aK hu (ac 1) (PQ.bo (af))) (ah))))))) (lL (lm (eN (PQ.bo (bY SM (hr.mono (by decide)) (a7 (bv W0 (by decide) (ac 0)) (a7 (aK hu (ac 1) (PQ.bo (af))) (ah)))))))))) (ak (b8 (kJ))) (aG)) (ak (b8 (ww (bY SM (hr.mono (by decide)) (a7 (bv W0 (by decide) (ac 0)) (a7 (aK hu (ac 1) (PQ.bo (af))) (ah)))) (wv (bY SM (hr.mono (by decide)) (a7 (bv W0 (by decide) (ac 0)) (a7 (aK hu (ac 1) (PQ.bo (af))) (ah))))))))
theorem uM:aC ["_law_cellar","_law_deed_here"] ["_law_cellar","_law_deed_here"] (al sW):=⟨rfl,rfl,rfl,by decide+kernel,rfl,by decide+kernel,by decide+kernel⟩
theorem B3 (A:cB K mg "_law_do" sW ["_law_cellar","_law_deed_here"]) (B:Bl mg BN) (T8:dv P w K mg base 4 "Cellar" "stream_comes" 2 cC) (T9:dv P w K mg base 4 "Cellar" "stream_goes" 1 cH) (Ta:dv P w K mg base 4 "Cellar" "meters_come" 1 cI) (Tf:dv P w K mg base 4 "Cellar" "meters_go" 1 d6) (Te:dv P w K mg base 4 "Cellar" "day_passes" 2 cQ) (Tg:dv P w K mg base 1 "Cellar" "take_back" 0 cj):vj P w K mg base 5 "_law_do" 1 1 eY:=by
 refine sL [⟨0,0,[]⟩] A uM rfl rfl (by decide) (by decide) (by decide) λf SE A outer s H E hr=> ?_
 have hu:=bI hr
 have S:=uM
 exact ae (bB (aO bN bg (PQ.bo (aK hu (ac 1) (PQ.bo (af)))) (PQ.bo (aJ))) (ak (l_ (jP 0 T8 (hr.mono (by decide)) (a7 (aK hu (ac 1) (PQ.bo (af))) (a7 (aK hu (ac 1) (PQ.bo (af))) (ah)))))) (aG)) (ae (bB (aO bN bg (PQ.bo (aK hu (ac 1) (PQ.bo (af)))) (PQ.bo (aJ))) (ak (l_ (jP 0 T9 (hr.mono (by decide)) (a7 (aK hu (ac 1) (PQ.bo (af))) (ah))))) (aG)) (ae (bB (aO bN bg (PQ.bo (aK hu (ac 1) (PQ.bo (af)))) (PQ.bo (aJ))) (ak (l_ (jP 0 Ta (hr.mono (by decide)) (a7 (ba gu lQ (B.no "list" (by decide)) L2.Pu.kj (ax (PQ.bo (aK hu (ac 1) (PQ.bo (af)))) (aD))) (ah))))) (aG)) (ae (bB (aO bN bg (PQ.bo (aK hu (ac 1) (PQ.bo (af)))) (PQ.bo (aJ))) (ak (l_ (jP 0 Tf (hr.mono (by decide)) (a7 (ba gu lQ (B.no "list" (by decide)) L2.Pu.kj (ax (PQ.bo (aK hu (ac 1) (PQ.bo (af)))) (aD))) (ah))))) (aG)) (ae (bB (aO bN bg (PQ.bo (aK hu (ac 1) (PQ.bo (af)))) (PQ.bo (aJ))) (ak (l_ (jP 0 Te (hr.mono (by decide)) (a7 (ba gu lQ (B.no "list" (by decide)) L2.Pu.kj (ax (PQ.bo (aK hu (ac 1) (PQ.bo (af)))) (aD))) (a7 (ba gu lQ (B.no "list" (by decide)) L2.Pu.kj (ax (PQ.bo (aK hu (ac 1) (PQ.bo (af)))) (aD))) (ah)))))) (aG)) (ak (l_ (EI 0 Tg (hr.mono (by decide)))))))))
theorem qS:aC ["_law_cellar","_law_deed_here","_law_kinds","e","_law_words","_law_word"] ["_law_cellar","_law_deed_here"] (al oo):=⟨rfl,rfl,rfl,by decide+kernel,rfl,by decide+kernel,by decide+kernel⟩
theorem xm (A:cB K mg "_law_done" oo ["_law_cellar","_law_deed_here"]) (B:Bl mg BN) (Vu:vj P w K mg base 5 "_law_do" 1 1 eY) (Tq:eQ K mg "AlreadyMetered" (tb 7)) (UY:eQ K mg "BadTanks" (tb 0)) (UZ:eQ K mg "Clashing" K7) (Uv:eQ K mg "NotMetered" (tb 8)) (Uc:eQ K mg "NothingDone" (tb 15)) (Uw:eQ K mg "OutOfRange" (tb 10)) (Ts:eQ K mg "ReadingMissing" (tb 9)) (UM:eQ K mg "SamePlace" (tb 3)) (Ud:eQ K mg "TooManyDays" (tb 13)) (TY:eQ K mg "TooManyDeeds" (tb 14)) (TH:eQ K mg "TooManyMeters" (tb 12)) (Tt:eQ K mg "TooManyStreams" (tb 11)) (Wa:eQ K mg "Twice" (tb 6)) (Ux:eQ K mg "UnknownDay" (tb 1)) (TZ:eQ K mg "UnknownPlace" (tb 2)) (TJ:eQ K mg "UnknownStream" (tb 5)) (Uy:qG K (.type "ValueError") K6) (Uz:eQ K mg "WrongRises" (tb 4)) (Ue:wM K mg "CellarError" (AQ RL)):vj P w K mg base 6 "_law_done" 1 1 eZ:=by
 refine sL [⟨0,0,[]⟩] A qS rfl rfl (by decide) (by decide) (by decide) λf SE A outer s H E hr=> ?_
 have hu:=bI hr
 have S:=qS
 exact ae (lM 2 S.nd (ah)) (ae (IU 3 sv S.nd Ue (λ_ _=>ak (l_ (Ha (aJ) (sM Vu (hr.mono (by decide)) (cL 0 (jc (a7 (aq 1) (ah)))))))) (λ_=>ae (lM 2 S.nd (a7 (eV TZ (B.no "isinstance" (by decide)) (ac 3)) (a7 (eV UM (B.no "isinstance" (by decide)) (ac 3)) (a7 (eV Uz (B.no "isinstance" (by decide)) (ac 3)) (ah))))) (ae (aU 2 S.nd (ay aM aN (ac 2) (PQ.bo (eM (a7 (eV TJ (B.no "isinstance" (by decide)) (ac 3)) (a7 (eV Wa (B.no "isinstance" (by decide)) (ac 3)) (a7 (eV Tq (B.no "isinstance" (by decide)) (ac 3)) (ah)))))))) (ae (aU 2 S.nd (ay aM aN (ac 2) (PQ.bo (eM (a7 (eV Uv (B.no "isinstance" (by decide)) (ac 3)) (a7 (eV Ts (B.no "isinstance" (by decide)) (ac 3)) (a7 (eV Uw (B.no "isinstance" (by decide)) (ac 3)) (ah)))))))) (ae (aU 2 S.nd (ay aM aN (ac 2) (PQ.bo (eM (a7 (eV Tt (B.no "isinstance" (by decide)) (ac 3)) (a7 (eV TH (B.no "isinstance" (by decide)) (ac 3)) (a7 (eV Ud (B.no "isinstance" (by decide)) (ac 3)) (ah)))))))) (ae (aU 2 S.nd (ay aM aN (ac 2) (PQ.bo (eM (a7 (eV TY (B.no "isinstance" (by decide)) (ac 3)) (a7 (eV Uc (B.no "isinstance" (by decide)) (ac 3)) (a7 (eV UY (B.no "isinstance" (by decide)) (ac 3)) (ah)))))))) (ak (aU 2 S.nd (ay aM aN (ac 2) (PQ.bo (eM (a7 (eV Ux (B.no "isinstance" (by decide)) (ac 3)) (a7 (eV UZ (B.no "isinstance" (by decide)) (ac 3)) (a7 (Fu (GU Uy L2.Pu.r8 (B.no "ValueError" (by decide)) (B.no "isinstance" (by decide)) (ac 3))) (ah))))))))))))))) (ae (lM 4 S.nd (a7 (aJ) (a7 (aJ) (a7 (aJ) (a7 (aJ) (a7 (aJ) (a7 (aJ) (a7 (aJ) (ah))))))))) (ae (aU 4 S.nd (ay aM aN (ac 4) (PQ.bo (eM (a7 (aJ) (a7 (aJ) (a7 (aJ) (a7 (aJ) (a7 (aJ) (ah)))))))))) (ae (aU 4 S.nd (ay aM aN (ac 4) (PQ.bo (eM (a7 (aJ) (a7 (aJ) (a7 (aJ) (a7 (aJ) (a7 (aJ) (a7 (aJ) (ah))))))))))) (ae (aU 5 S.nd (aJ)) (ae (bB (aO bN bg (PQ.bo (Hc (ac 2) (kJ))) (PQ.bo (af))) (ak (aU 5 S.nd (aK hu (ac 4) (PQ.bo (Hd (ac 2) (kJ)))))) (aG)) (ak (jd (eM (a7 (aq 5) (a7 (zn) (ah))))))))))))
theorem ku:aC ["_law_model","_law_source","_law_target","_law_place"] ["_law_model","_law_source","_law_target"] (al iC):=⟨rfl,rfl,rfl,by decide+kernel,rfl,by decide+kernel,by decide+kernel⟩
theorem qq (A:cB K mg "_law_no_stream" iC ["_law_model","_law_source","_law_target"]) (B:Bl mg BN):bf P w K mg base 1 "_law_no_stream" 3 eh:=by
 refine cb A ku rfl rfl λf SE A outer s H E hr=> ?_
 have hu:=bI hr
 have S:=ku
 exact ae (nG Md rfl (cX (bL (a7 (aq 1) (a7 (aq 2) (ah))))) (b7 3 S.nd) (ak (bB (qZ.t (sx (aO ll iq (ac 3) (PQ.bo (af))) (lL (aO jA gF (ac 3) (PQ.bo (aK hu (ac 0) (PQ.bo (af)))))))) (ak (b8 (aJ))) (aG)))) (ae (bB (aO bN bg (ac 1) (ac 2)) (ak (b8 (aJ))) (aG)) (ae (bB (aO w8 sC (PQ.bo (aS a_ bF (B.no "len" (by decide)) Lz (ax (PQ.bo (aK hu (ac 0) (PQ.bo (af)))) (aD)))) (PQ.bo (af))) (ak (b8 (aJ))) (aG)) (ak (b8 (aJ)))))
theorem lq:aC ["_law_model","_law_named","_law_there"] ["_law_model","_law_named"] (al jk):=⟨rfl,rfl,rfl,by decide+kernel,rfl,by decide+kernel,by decide+kernel⟩
theorem rj (A:cB K mg "_law_no_names" jk ["_law_model","_law_named"]) (B:Bl mg BN):bf P w K mg base 1 "_law_no_names" 2 cu:=by
 refine cb A lq rfl rfl λf SE A outer s H E hr=> ?_
 have hu:=bI hr
 have S:=lq
 exact ae (rJ 2 (aZ.of rfl (by first|decide+kernel|rfl)) rfl S.nd (cX (aK hu (ac 0) (PQ.bo (af)))) (λ_ _ _=>b7 1 (show ([".0","_law_stream"]:List L3).Nodup by decide+kernel)) (λ_ _ _=>eI) (λ_ _ _=>aK hu (ac 1) (PQ.bo (af)))) (ae (bB (aO (qh hu) mY (PQ.bo (cT (aZ.of rfl (by first|decide+kernel|rfl)) rfl (cX (aq 1)) (λ_ _ _=>b7 1 (show ([".0","_law_number","_law_there"]:List L3).Nodup by decide+kernel)) (λ_ _ _=>gZ (o_ hu (ac 1) (ac 2))) (λ_ _ _=>aq 1))) (PQ.bo (eM (ah)))) (ak (b8 (aJ))) (aG)) (ae (bB (aO (qh hu) mY (PQ.bo (cT (aZ.of rfl (by first|decide+kernel|rfl)) rfl (cX (aq 1)) (λ_ _ _=>b7 1 (show ([".0","_law_number","_law_named"]:List L3).Nodup by decide+kernel)) (λ_ _ _=>gZ (aO jA gF (PQ.bo (Hl (ac 2) (aq 1))) (PQ.bo (af)))) (λ_ _ _=>aq 1))) (PQ.bo (eM (ah)))) (ak (b8 (aJ))) (aG)) (ak (b8 (aJ)))))
theorem nJ:aC ["_law_model","_law_rises","_law_readings","_law_named","_law_word","_law_amounts"] ["_law_model","_law_rises","_law_readings"] (al k_):=⟨rfl,rfl,rfl,by decide+kernel,rfl,by decide+kernel,by decide+kernel⟩
theorem tW (A:cB K mg "_law_no_day" k_ ["_law_model","_law_rises","_law_readings"]) (B:Bl mg BN) (SR:bf P w K mg base 1 "_law_no_names" 2 cu):bf P w K mg base 2 "_law_no_day" 3 gJ:=by
 refine cb A nJ rfl rfl λf SE A outer s H E hr=> ?_
 have hu:=bI hr
 have S:=nJ
 exact ae (bB (aO lH j7 (PQ.bo (aS a_ bF (B.no "len" (by decide)) Lz (ax (ac 1) (aD)))) (PQ.bo (aK hu (ac 0) (PQ.bo (af))))) (ak (b8 (aJ))) (aG)) (ae (rJ 3 (aZ.of rfl (by first|decide+kernel|rfl)) rfl S.nd (cX (aq 2)) (λ_ _ _=>b7 1 (show ([".0","_law_row"]:List L3).Nodup by decide+kernel)) (λ_ _ _=>eI) (λ_ _ _=>aK hu (ac 1) (PQ.bo (af)))) (ae (wx [3] (aU 4 S.nd (bY SR (hr.mono (by decide)) (a7 (aq 0) (a7 (aq 3) (ah)))))) (ae (bB (aO lH j7 (ac 4) (PQ.bo (aJ))) (ak (b8 (aq 4))) (aG)) (ae (wx [3] (bB (aO (qh hu) mY (PQ.bo (cT (aZ.of rfl (by first|decide+kernel|rfl)) rfl (cX (aq 3)) (λ_ _ _=>b7 1 (show ([".0","_law_number","_law_model"]:List L3).Nodup by decide+kernel)) (λ_ _ _=>gZ (o_ hu (ac 1) (PQ.bo (aK hu (ac 2) (PQ.bo (af)))))) (λ_ _ _=>aq 1))) (PQ.bo (eM (ah)))) (ak (b8 (aJ))) (aG))) (ae (bB (aO (qh hu) mY (PQ.bo (cT (aZ.of rfl (by first|decide+kernel|rfl)) rfl (cX (aK hu (ac 0) (PQ.bo (af)))) (λ_ _ _=>b7 1 (show ([".0","_law_number","_law_named"]:List L3).Nodup by decide+kernel)) (λ_ _ _=>gZ (o_ hu (ac 1) (ac 2))) (λ_ _ _=>aq 1))) (PQ.bo (eM (ah)))) (ak (b8 (aJ))) (aG)) (ae (aU 5 S.nd (ay aM aN (PQ.bo (ba gu lQ (B.no "list" (by decide)) L2.Pu.kj (ax (ac 1) (aD)))) (PQ.bo (cT (aZ.of rfl (by first|decide+kernel|rfl)) rfl (cX (aq 2)) (λ_ _ _=>b7 1 (show ([".0","_law_row"]:List L3).Nodup by decide+kernel)) (λ_ _ _=>eI) (λ_ _ _=>aK hu (ac 1) (PQ.bo (af))))))) (ae (bB (aO (qh hu) mY (PQ.bo (cT (aZ.of rfl (by first|decide+kernel|rfl)) rfl (cX (aq 5)) (λ_ _ _=>b7 1 (show ([".0","_law_amount"]:List L3).Nodup by decide+kernel)) (λ_ _ _=>gZ (qZ.t (sx (aO ll iq (ac 1) (PQ.bo (oX fU eP (PQ.bo (af))))) (lL (aO jA gF (ac 1) (PQ.bo (af))))))) (λ_ _ _=>aq 1))) (PQ.bo (eM (ah)))) (ak (b8 (aJ))) (aG)) (ae (bB (aO w8 sC (PQ.bo (aS a_ bF (B.no "len" (by decide)) Lz (ax (PQ.bo (aK hu (ac 0) (PQ.bo (af)))) (aD)))) (PQ.bo (af))) (ak (b8 (aJ))) (aG)) (ak (b8 (aJ)))))))))))
theorem kx:aC ["_law_model","_law_come","_law_named","_law_word","_law_have"] ["_law_model","_law_come","_law_named"] (al iE):=⟨rfl,rfl,rfl,by decide+kernel,rfl,by decide+kernel,by decide+kernel⟩
theorem qr (A:cB K mg "_law_no_meters" iE ["_law_model","_law_come","_law_named"]) (B:Bl mg BN) (SR:bf P w K mg base 1 "_law_no_names" 2 cu):bf P w K mg base 2 "_law_no_meters" 3 eo:=by
 refine cb A kx rfl rfl λf SE A outer s H E hr=> ?_
 have hu:=bI hr
 have S:=kx
 exact ae (aU 3 S.nd (bY SR (hr.mono (by decide)) (a7 (aq 0) (a7 (aq 2) (ah))))) (ae (bB (aO lH j7 (ac 3) (PQ.bo (aJ))) (ak (b8 (aq 3))) (aG)) (ae (yh 4 (aZ.of rfl (by first|decide+kernel|rfl)) rfl S.nd (cX (aq 2)) (λ_ _ _=>b7 1 (show ([".0","_law_number","_law_model"]:List L3).Nodup by decide+kernel)) (λ_ _ _=>gZ (IJ hu (ac 1) (PQ.bo (aK hu (ac 2) (PQ.bo (af)))))) (λ_ _ _=>aq 1)) (ae (bB (qZ.t (ut (eN (ac 1)) (q8 (aO (qh hu) mY (ac 4) (PQ.bo (eM (ah))))))) (ak (b8 (aJ))) (aG)) (ae (bB (qZ.t (ut (eN (ac 1)) (q8 (aO jA gF (PQ.bo (ay aM aN (PQ.bo (aS a_ bF (B.no "len" (by decide)) Lz (ax (PQ.bo (aK hu (ac 0) (PQ.bo (af)))) (aD)))) (PQ.bo (aS a_ bF (B.no "len" (by decide)) Lz (ax (ac 2) (aD)))))) (PQ.bo (af)))))) (ak (b8 (aJ))) (aG)) (ae (bB (qZ.t (ut (lm (eN (ac 1))) (q8 (aO ll iq (PQ.bo (aS a_ bF (B.no "len" (by decide)) Lz (ax (ac 4) (aD)))) (PQ.bo (aS a_ bF (B.no "len" (by decide)) Lz (ax (ac 2) (aD)))))))) (ak (b8 (aJ))) (aG)) (ak (b8 (aJ))))))))
theorem mH:aC ["_law_past","_law_deed_here","_law_model","_law_word"] ["_law_past","_law_deed_here"] (al jT):=⟨rfl,rfl,rfl,by decide+kernel,rfl,by decide+kernel,by decide+kernel⟩
theorem t7 (A:cB K mg "_law_refusal" jT ["_law_past","_law_deed_here"]) (B:Bl mg BN) (TK:bf P w K mg base 1 "_law_no_stream" 3 eh) (SR:bf P w K mg base 1 "_law_no_names" 2 cu) (UA:bf P w K mg base 2 "_law_no_day" 3 gJ) (TL:bf P w K mg base 2 "_law_no_meters" 3 eo):bf P w K mg base 3 "_law_refusal" 2 eD:=by
 refine cb A mH rfl rfl λf SE A outer s H E hr=> ?_
 have hu:=bI hr
 have S:=mH
 exact ae (aU 2 S.nd (aK hu (ac 0) (PQ.bo (oX fU eP (PQ.bo (af)))))) (ae (bB (aO bN bg (PQ.bo (aK hu (ac 1) (PQ.bo (af)))) (PQ.bo (aJ))) (ak (b8 (aK hu (PQ.bo (eM (a7 (aJ) (a7 (aJ) (ah))))) (PQ.bo (ba pV ve (B.no "int" (by decide)) L2.Pu.p7 (ax (PQ.bo (j4 bN bg (PQ.bo (aS a_ bF (B.no "len" (by decide)) Lz (ax (ac 0) (aD)))) (PQ.bo (af)))) (aD))))))) (aG)) (ae (bB (aO bN bg (PQ.bo (aK hu (ac 1) (PQ.bo (af)))) (PQ.bo (aJ))) (ak (aU 3 S.nd (bY TK (hr.mono (by decide)) (a7 (aq 2) (a7 (aK hu (ac 1) (PQ.bo (af))) (a7 (aK hu (ac 1) (PQ.bo (af))) (ah))))))) (ak (bB (aO bN bg (PQ.bo (aK hu (ac 1) (PQ.bo (af)))) (PQ.bo (aJ))) (ak (aU 3 S.nd (bY SR (hr.mono (by decide)) (a7 (aq 2) (a7 (eM (a7 (aK hu (ac 1) (PQ.bo (af))) (ah))) (ah)))))) (ak (bB (aO bN bg (PQ.bo (aK hu (ac 1) (PQ.bo (af)))) (PQ.bo (aJ))) (ak (aU 3 S.nd (bY UA (hr.mono (by decide)) (a7 (aq 2) (a7 (aK hu (ac 1) (PQ.bo (af))) (a7 (aK hu (ac 1) (PQ.bo (af))) (ah))))))) (ak (aU 3 S.nd (bY TL (hr.mono (by decide)) (a7 (aq 2) (a7 (j4 bN bg (PQ.bo (aK hu (ac 1) (PQ.bo (af)))) (PQ.bo (aJ))) (a7 (aK hu (ac 1) (PQ.bo (af))) (ah)))))))))))) (ae (bB (qZ.t (ut (aO bN bg (ac 3) (PQ.bo (aJ))) (q8 (aO jA gF (PQ.bo (aS a_ bF (B.no "len" (by decide)) Lz (ax (ac 0) (aD)))) (PQ.bo (af)))))) (ak (aU 3 S.nd (aJ))) (aG)) (ak (b8 (aq 3))))))
theorem nK:aC ["_law_model","_law_deed_here","_law_n","_law_following","_law_streams","_law_meters","_law_days","_law_deeds"] ["_law_model","_law_deed_here"] (al l7):=⟨rfl,rfl,rfl,by decide+kernel,rfl,by decide+kernel,by decide+kernel⟩
theorem tY (A:cB K mg "_law_behind" l7 ["_law_model","_law_deed_here"]) (B:Bl mg BN):bf P w K mg base 1 "_law_behind" 2 dX:=by
 refine cb A nK rfl rfl λf SE A outer s H E hr=> ?_
 have hu:=bI hr
 have S:=nK
 exact ae (Ci (aq 0) (Ch rfl (fc (b7 2 S.nd) (fc (b7 3 S.nd) (fc (b7 4 S.nd) (fc (b7 5 S.nd) (fc (b7 6 S.nd) (fc (b7 7 S.nd) (v6))))))))) (ae (aU 7 S.nd (ay aM aN (ac 7) (PQ.bo (bL (a7 (aq 1) (ah)))))) (ae (bB (aO bN bg (PQ.bo (aK hu (ac 1) (PQ.bo (af)))) (PQ.bo (aJ))) (ae (aU 4 S.nd (ay aM aN (ac 4) (PQ.bo (bL (a7 (bL (a7 (aq 3) (a7 (aK hu (ac 1) (PQ.bo (af))) (a7 (aK hu (ac 1) (PQ.bo (af))) (ah))))) (ah)))))) (ak (aU 3 S.nd (ay aM aN (ac 3) (PQ.bo (af)))))) (ak (bB (aO bN bg (PQ.bo (aK hu (ac 1) (PQ.bo (af)))) (PQ.bo (aJ))) (ae (aU 4 S.nd (ba aI br (B.no "tuple" (by decide)) L2.Pu.aX (ax (PQ.bo (cT (aZ.of rfl (by first|decide+kernel|rfl)) rfl (cX (aq 4)) (λ_ _ _=>b7 1 (show ([".0","_law_stream","_law_deed_here"]:List L3).Nodup by decide+kernel)) (λ_ _ _=>gZ (aO lH j7 (PQ.bo (aK hu (ac 1) (PQ.bo (af)))) (PQ.bo (aK hu (ac 2) (PQ.bo (af)))))) (λ_ _ _=>aq 1))) (aD)))) (ak (aU 5 S.nd (ba aI br (B.no "tuple" (by decide)) L2.Pu.aX (ax (PQ.bo (cT (aZ.of rfl (by first|decide+kernel|rfl)) rfl (cX (aq 5)) (λ_ _ _=>b7 1 (show ([".0","_law_number","_law_deed_here"]:List L3).Nodup by decide+kernel)) (λ_ _ _=>gZ (aO lH j7 (ac 1) (PQ.bo (aK hu (ac 2) (PQ.bo (af)))))) (λ_ _ _=>aq 1))) (aD)))))) (ak (bB (aO bN bg (PQ.bo (aK hu (ac 1) (PQ.bo (af)))) (PQ.bo (aJ))) (ak (aU 5 S.nd (ba aI br (B.no "tuple" (by decide)) L2.Pu.aX (ax (PQ.bo (aS tU vx (B.no "sorted" (by decide)) L2.Pu.jB (ax (PQ.bo (ay aM aN (ac 5) (PQ.bo (aK hu (ac 1) (PQ.bo (af)))))) (aD)))) (aD))))) (ak (bB (aO bN bg (PQ.bo (aK hu (ac 1) (PQ.bo (af)))) (PQ.bo (aJ))) (ak (aU 5 S.nd (ba aI br (B.no "tuple" (by decide)) L2.Pu.aX (ax (PQ.bo (cT (aZ.of rfl (by first|decide+kernel|rfl)) rfl (cX (aq 5)) (λ_ _ _=>b7 1 (show ([".0","_law_number","_law_deed_here"]:List L3).Nodup by decide+kernel)) (λ_ _ _=>gZ (o_ hu (ac 1) (PQ.bo (aK hu (ac 2) (PQ.bo (af)))))) (λ_ _ _=>aq 1))) (aD))))) (ak (aU 6 S.nd (ay aM aN (ac 6) (PQ.bo (bL (a7 (bL (a7 (aq 2) (a7 (aq 4) (a7 (aK hu (ac 1) (PQ.bo (af))) (a7 (ba aI br (B.no "tuple" (by decide)) L2.Pu.aX (ax (PQ.bo (aS (kP rfl) lY (B.no "sorted" (by decide)) L2.Pu.jB (ax (PQ.bo (aK hu (ac 1) (PQ.bo (af)))) (aD)))) (aD))) (ah)))))) (ah)))))))))))))) (ak (b8 (bL (a7 (aq 2) (a7 (aq 3) (a7 (aq 4) (a7 (aq 5) (a7 (aq 6) (a7 (aq 7) (ah))))))))))))
theorem nL:aC ["_law_model","_law_deed_here"] ["_law_model","_law_deed_here"] (al l9):=⟨rfl,rfl,rfl,by decide+kernel,rfl,by decide+kernel,by decide+kernel⟩
theorem tZ (A:cB K mg "_law_answer" l9 ["_law_model","_law_deed_here"]) (B:Bl mg BN):bf P w K mg base 1 "_law_answer" 2 fw:=by
 refine cb A nL rfl rfl λf SE A outer s H E hr=> ?_
 have hu:=bI hr
 have S:=nL
 exact ae (bB (aO bN bg (PQ.bo (aK hu (ac 1) (PQ.bo (af)))) (PQ.bo (aJ))) (ak (b8 (aK hu (ac 0) (PQ.bo (af))))) (aG)) (ae (bB (aO bN bg (PQ.bo (aK hu (ac 1) (PQ.bo (af)))) (PQ.bo (aJ))) (ak (b8 (ay aM aN (PQ.bo (aS a_ bF (B.no "len" (by decide)) Lz (ax (PQ.bo (aK hu (ac 0) (PQ.bo (af)))) (aD)))) (PQ.bo (af))))) (aG)) (ak (b8 (zn))))
theorem qT:aC ["_law_cellar","_law_past","_law_deed_here","_law_model","_law_word","_law_found"] ["_law_cellar","_law_past","_law_deed_here"] (al oq):=⟨rfl,rfl,rfl,by decide+kernel,rfl,by decide+kernel,by decide+kernel⟩
theorem xn (A:cB K mg "_law_step" oq ["_law_cellar","_law_past","_law_deed_here"]) (B:Bl mg BN) (Ug:bf P w K mg base 3 "_law_refusal" 2 eD) (U_:vj P w K mg base 6 "_law_done" 1 1 eZ) (SM:bf P w K mg base 8 "_law_same" 2 bn) (UB:bf P w K mg base 1 "_law_behind" 2 dX) (UC:bf P w K mg base 1 "_law_answer" 2 fw):vj P w K mg base 9 "_law_step" 2 1 ck:=by
 refine sL [⟨0,0,[]⟩,⟨1,0,[]⟩] A qT rfl rfl (by decide) (by decide) (by decide) λf SE A outer s H E hr=> ?_
 have hu:=bI hr
 have S:=qT
 exact ae (aU 3 S.nd (aK hu (ac 1) (PQ.bo (oX fU eP (PQ.bo (af)))))) (ae (aU 4 S.nd (GW [1] (bY Ug (hr.mono (by decide)) (a7 (aq 1) (a7 (aq 2) (ah)))))) (ae (H9 5 S.nd (sM U_ (hr.mono (by decide)) (cL 0 (jc (a7 (aq 2) (ah)))))) (ae (bB (qZ.t (sx (aO lH j7 (ac 4) (PQ.bo (aJ))) (lL (aO lH j7 (PQ.bo (aK hu (ac 5) (PQ.bo (af)))) (PQ.bo (aJ)))))) (ak (jd (j4 bN bg (ac 4) (PQ.bo (aK hu (ac 5) (PQ.bo (af))))))) (aG)) (ae (bB (aO bN bg (PQ.bo (aK hu (ac 2) (PQ.bo (af)))) (PQ.bo (aJ))) (ae (Hf 1) (ak (jd (bY SM (hr.mono (by decide)) (a7 (aK hu (ac 5) (PQ.bo (af))) (a7 (aK hu (PQ.bo (aK hu (ac 3) (PQ.bo (af)))) (PQ.bo (oX fU eP (PQ.bo (af))))) (ah))))))) (aG)) (ae (ie 1 (bY UB (hr.mono (by decide)) (a7 (aq 3) (a7 (aq 2) (ah))))) (ak (jd (bY SM (hr.mono (by decide)) (a7 (aK hu (ac 5) (PQ.bo (af))) (a7 (bY UC (hr.mono (by decide)) (a7 (aq 3) (a7 (aq 2) (ah)))) (ah)))))))))))
theorem nM:aC ["_law_model"] ["_law_model"] (al lb):=⟨rfl,rfl,rfl,by decide+kernel,rfl,by decide+kernel,by decide+kernel⟩
theorem t_ (A:cB K mg "_law_layout" lb ["_law_model"]) (B:Bl mg BN):bf P w K mg base 1 "_law_layout" 1 fz:=by
 refine cb A nM rfl rfl λf SE A outer s H E hr=> ?_
 have hu:=bI hr
 have S:=nM
 exact ak (b8 (ba aI br (B.no "tuple" (by decide)) L2.Pu.aX (ax (PQ.bo (cT (aZ.of rfl (by first|decide+kernel|rfl)) rfl (cX (aK hu (ac 0) (PQ.bo (af)))) (λ_ _ _=>b7 1 (show ([".0","_law_stream","_law_model"]:List L3).Nodup by decide+kernel)) (λ_ _ _=>eI) (λ_ _ _=>ay aM aN (ac 1) (PQ.bo (bL (a7 (Eu hu (PQ.bo (aK hu (ac 1) (PQ.bo (af)))) (PQ.bo (aK hu (ac 2) (PQ.bo (af))))) (ah))))))) (aD))))
theorem pD:aC ["_law_cellar","_law_model","_law_k"] ["_law_cellar","_law_model"] (al mv):=⟨rfl,rfl,rfl,by decide+kernel,rfl,by decide+kernel,by decide+kernel⟩
theorem vC (A:cB K mg "_law_looks" mv ["_law_cellar","_law_model"]) (B:Bl mg BN) (SM:bf P w K mg base 8 "_law_same" 2 bn) (TM:bZ P w K mg base 1 "Cellar" "layout" 1 df) (UD:bf P w K mg base 1 "_law_layout" 1 fz) (T_:bZ P w K mg base 1 "Cellar" "deeds" 1 dA) (SF:bZ P w K mg base 1 "Cellar" "days_gone" 1 bj) (V0:bf P w K mg base 9 "_law_kept" 2 h_) (UE:bZ P w K mg base 2 "Cellar" "day" 2 fu) (Sx:cF K "Cellar" cw):bf P w K mg base 10 "_law_looks" 2 bV:=by
 refine cb A pD rfl rfl λf SE A outer s H E hr=> ?_
 have hu:=bI hr
 have S:=pD
 exact ae (bB (qZ.t (sx (lm (eN (PQ.bo (bY SM (hr.mono (by decide)) (a7 (bv Sx (by decide) (ac 0)) (a7 (aK hu (ac 1) (PQ.bo (af))) (ah))))))) (lL (lm (eN (PQ.bo (bY SM (hr.mono (by decide)) (a7 (pc TM (hr.mono (by decide)) (aq 0)) (a7 (bY UD (hr.mono (by decide)) (a7 (aq 1) (ah))) (ah)))))))))) (ak (b8 (kJ))) (aG)) (ae (bB (qZ.t (sx (lm (eN (PQ.bo (bY SM (hr.mono (by decide)) (a7 (pc T_ (hr.mono (by decide)) (aq 0)) (a7 (aK hu (ac 1) (PQ.bo (af))) (ah))))))) (lL (lm (eN (PQ.bo (bY SM (hr.mono (by decide)) (a7 (pc SF (hr.mono (by decide)) (aq 0)) (a7 (aS a_ bF (B.no "len" (by decide)) Lz (ax (PQ.bo (aK hu (ac 1) (PQ.bo (af)))) (aD))) (ah)))))))))) (ak (b8 (kJ))) (aG)) (ae (nG Md rfl (ic (B.no "range" (by decide)) (a7 (aS a_ bF (B.no "len" (by decide)) Lz (ax (PQ.bo (aK hu (ac 1) (PQ.bo (af)))) (aD))) (ah))) (b7 2 S.nd) (ak (bB (lm (eN (PQ.bo (bY V0 (hr.mono (by decide)) (a7 (qc UE (hr.mono (by decide)) (aq 0) (a7 (ay aM aN (ac 2) (PQ.bo (af))) (ah))) (a7 (aK hu (PQ.bo (aK hu (ac 1) (PQ.bo (af)))) (ac 2)) (ah))))))) (ak (b8 (kJ))) (aG)))) (ak (b8 (kJ)))))
theorem lr:aC ["_law_model","_law_cell_here","_law_mixed","_law_mode","_law_many","_law_figures_here","_law_flows_here","_law_readings","_law_k","_law_number","_law_amount","_law_other","_law_rises"] ["_law_model","_law_cell_here","_law_mixed"] (al jl):=⟨rfl,rfl,rfl,by decide+kernel,rfl,by decide+kernel,by decide+kernel⟩
theorem rl (A:cB K mg "_law_day_deed" jl ["_law_model","_law_cell_here","_law_mixed"]) (B:Bl mg BN) (SO:bf P w K mg base 1 "_law_figures" 4 b_) (UN:bf P w K mg base 2 "_law_flows" 5 ij):bf P w K mg base 3 "_law_day_deed" 3 c7:=by
 refine cb A lr rfl rfl λf SE A outer s H E hr=> ?_
 have hu:=bI hr
 have S:=lr
 exact ae (aU 3 S.nd (ay bA bc (ac 1) (PQ.bo (af)))) (ae (aU 4 S.nd (aS a_ bF (B.no "len" (by decide)) Lz (ax (PQ.bo (aK hu (ac 0) (PQ.bo (af)))) (aD)))) (ae (aU 5 S.nd (bY SO (hr.mono (by decide)) (a7 (ay eL dk (ac 1) (PQ.bo (af))) (a7 (aq 2) (a7 (ay aM aN (PQ.bo (ay gG i7 (PQ.bo (af)) (ac 4))) (PQ.bo (aK hu (ac 0) (PQ.bo (af))))) (a7 (af) (ah))))))) (ae (aU 6 S.nd (bY UN (hr.mono (by decide)) (a7 (aq 5) (a7 (aK hu (ac 0) (PQ.bo (af))) (a7 (aK hu (ac 0) (PQ.bo (af))) (a7 (aK hu (ac 0) (PQ.bo (af))) (a7 (aK hu (PQ.bo (eM (a7 (eM (a7 (af) (a7 (af) (ah)))) (a7 (eM (a7 (af) (a7 (af) (ah)))) (ah))))) (PQ.bo (ba pV ve (B.no "int" (by decide)) L2.Pu.p7 (ax (PQ.bo (j4 jA gF (ac 3) (PQ.bo (af)))) (aD))))) (ah)))))))) (ae (lM 7 S.nd (ah)) (ae (nG Md rfl (ic (B.no "range" (by decide)) (a7 (aq 4) (ah))) (b7 8 S.nd) (ae (Ci (aK hu (PQ.bo (aK hu (ac 6) (PQ.bo (af)))) (ac 8)) (Ch rfl (fc (b7 9 S.nd) (fc (b7 10 S.nd) (v6))))) (ae (aU 11 S.nd (aK hu (ac 5) (PQ.bo (ay aM aN (ac 4) (ac 8))))) (ae (bB (qZ.t (sx (aO bN bg (ac 3) (PQ.bo (af))) (lL (qZ.t (ut (aO bN bg (ac 3) (PQ.bo (af))) (q8 (aO bN bg (PQ.bo (ay bA bc (ac 11) (PQ.bo (af)))) (PQ.bo (af))))))))) (ak (aU 10 S.nd (ay im fQ (PQ.bo (ay bA bc (PQ.bo (ay eL dk (ac 11) (PQ.bo (af)))) (PQ.bo (af)))) (PQ.bo (af))))) (aG)) (ae (bB (qZ.t (ut (aO bN bg (ac 3) (PQ.bo (af))) (q8 (aO bN bg (PQ.bo (ay bA bc (ac 11) (PQ.bo (af)))) (PQ.bo (af)))))) (ak (aU 10 S.nd (ay im fQ (PQ.bo (ay bA bc (PQ.bo (ay eL dk (ac 11) (PQ.bo (af)))) (PQ.bo (af)))) (PQ.bo (af))))) (aG)) (ak (bB (IJ hu (ac 9) (PQ.bo (aK hu (ac 0) (PQ.bo (af))))) (ak (ie 7 (bL (a7 (aq 9) (a7 (aq 10) (ah)))))) (aG)))))))) (ae (aU 12 S.nd (aK hu (ac 6) (PQ.bo (af)))) (ae (bB (aO bN bg (ac 3) (PQ.bo (af))) (ak (aU 12 S.nd (ba aI br (B.no "tuple" (by decide)) L2.Pu.aX (ax (PQ.bo (cT (aZ.of rfl (by first|decide+kernel|rfl)) rfl (ic (B.no "range" (by decide)) (a7 (aK hu (ac 0) (PQ.bo (af))) (ah))) (λ_ _ _=>b7 1 (show ([".0","_law_k","_law_figures_here","_law_many"]:List L3).Nodup by decide+kernel)) (λ_ _ _=>eI) (λ_ _ _=>ay im fQ (PQ.bo (ay bA bc (PQ.bo (aK hu (ac 2) (PQ.bo (ay aM aN (PQ.bo (ay gG i7 (PQ.bo (af)) (ac 3))) (ac 1))))) (PQ.bo (af)))) (PQ.bo (af))))) (aD))))) (aG)) (ae (bB (aO bN bg (PQ.bo (ay bA bc (PQ.bo (ay eL dk (ac 1) (PQ.bo (af)))) (PQ.bo (af)))) (PQ.bo (af))) (ak (aU 7 S.nd (IK (ac 7)))) (aG)) (ak (b8 (bL (a7 (aJ) (a7 (aq 12) (a7 (ba aI br (B.no "tuple" (by decide)) L2.Pu.aX (ax (ac 7) (aD))) (ah)))))))))))))))
theorem pE:aC ["_law_model","_law_figures_here","_law_there","_law_found","_law_one"] ["_law_model","_law_figures_here"] (al my):=⟨rfl,rfl,rfl,by decide+kernel,rfl,by decide+kernel,by decide+kernel⟩
theorem vD (A:cB K mg "_law_names" my ["_law_model","_law_figures_here"]) (B:Bl mg BN):bf P w K mg base 1 "_law_names" 2 dI:=by
 refine cb A pE rfl rfl λf SE A outer s H E hr=> ?_
 have hu:=bI hr
 have S:=pE
 exact ae (yh 2 (aZ.of rfl (by first|decide+kernel|rfl)) rfl S.nd (cX (aK hu (ac 0) (PQ.bo (af)))) (λ_ _ _=>b7 1 (show ([".0","_law_stream"]:List L3).Nodup by decide+kernel)) (λ_ _ _=>eI) (λ_ _ _=>aK hu (ac 1) (PQ.bo (af)))) (ae (lM 3 S.nd (ah)) (ae (nG Md rfl (cX (aq 1)) (b7 4 S.nd) (ak (bB (qZ.t (sx (aO (G_ hu) EF (ac 2) (PQ.bo (eM (ah)))) (lL (aO bN bg (PQ.bo (ay bA bc (ac 4) (PQ.bo (af)))) (PQ.bo (af)))))) (ak (ie 3 (ay im fQ (PQ.bo (ay bA bc (PQ.bo (ay eL dk (ac 4) (PQ.bo (af)))) (PQ.bo (af)))) (PQ.bo (af))))) (ak (ie 3 (aK hu (ac 2) (PQ.bo (ay bA bc (PQ.bo (ay eL dk (ac 4) (PQ.bo (af)))) (PQ.bo (aS a_ bF (B.no "len" (by decide)) Lz (ax (ac 2) (aD)))))))))))) (ak (b8 (ba aI br (B.no "tuple" (by decide)) L2.Pu.aX (ax (ac 3) (aD)))))))
theorem qU:aC ["_law_day","_law_figure","_law_rises","_law_readings"] ["_law_day","_law_figure"] (al ou):=⟨rfl,rfl,rfl,by decide+kernel,rfl,by decide+kernel,by decide+kernel⟩
theorem xo (A:cB K mg "_law_bent" ou ["_law_day","_law_figure"]) (B:Bl mg BN):bf P w K mg base 1 "_law_bent" 2 jn:=by
 refine cb A qU rfl rfl λf SE A outer s H E hr=> ?_
 have hu:=bI hr
 have S:=qU
 exact ae (aU 2 S.nd (aK hu (ac 0) (PQ.bo (af)))) (ae (aU 3 S.nd (aK hu (ac 0) (PQ.bo (af)))) (ae (bB (aO bN bg (PQ.bo (ay bA bc (ac 1) (PQ.bo (af)))) (PQ.bo (af))) (ak (aU 2 S.nd (ay aM aN (ac 2) (PQ.bo (bL (a7 (af) (ah))))))) (ak (bB (aO bN bg (PQ.bo (ay bA bc (ac 1) (PQ.bo (af)))) (PQ.bo (af))) (ak (aU 3 S.nd (ay aM aN (ac 3) (PQ.bo (bL (a7 (bL (a7 (ay bA bc (PQ.bo (ay eL dk (ac 1) (PQ.bo (af)))) (PQ.bo (af))) (a7 (af) (ah)))) (ah))))))) (ak (bB (aO bN bg (PQ.bo (ay bA bc (ac 1) (PQ.bo (af)))) (PQ.bo (af))) (ak (aU 3 S.nd (ay aM aN (PQ.bo (bL (a7 (bL (a7 (ay bA bc (PQ.bo (ay eL dk (ac 1) (PQ.bo (af)))) (PQ.bo (af))) (a7 (oX fU eP (PQ.bo (af))) (ah)))) (ah)))) (PQ.bo (kM (ac 3) (nY (af)) (nX)))))) (ak (bB (aO bN bg (PQ.bo (ay bA bc (ac 1) (PQ.bo (af)))) (PQ.bo (af))) (ak (aU 3 S.nd (kM (ac 3) (nX) (nY (oX fU eP (PQ.bo (af))))))) (ak (aU 2 S.nd (ba aI br (B.no "tuple" (by decide)) L2.Pu.aX (ax (PQ.bo (cT (aZ.of rfl (by first|decide+kernel|rfl)) rfl (cX (aq 2)) (λ_ _ _=>b7 1 (show ([".0","_law_rise"]:List L3).Nodup by decide+kernel)) (λ_ _ _=>eI) (λ_ _ _=>ay aM aN (PQ.bo (ay gG i7 (ac 1) (PQ.bo (af)))) (PQ.bo (af))))) (aD)))))))))))) (ak (b8 (bL (a7 (aJ) (a7 (aq 2) (a7 (aq 3) (ah)))))))))
theorem qV:aC ["_law_model","_law_cell_here","_law_mixed","_law_kind","_law_count","_law_figures_here","_law_source","_law_day"] ["_law_model","_law_cell_here","_law_mixed"] (al oz):=⟨rfl,rfl,rfl,by decide+kernel,rfl,by decide+kernel,by decide+kernel⟩
theorem xp (A:cB K mg "_law_deed" oz ["_law_model","_law_cell_here","_law_mixed"]) (B:Bl mg BN) (SO:bf P w K mg base 1 "_law_figures" 4 b_) (Tw:bf P w K mg base 1 "_law_names" 2 dI) (SS:bf P w K mg base 3 "_law_day_deed" 3 c7) (V1:bf P w K mg base 1 "_law_bent" 2 jn):bf P w K mg base 4 "_law_deed" 3 jp:=by
 refine cb A qV rfl rfl λf SE A outer s H E hr=> ?_
 have hu:=bI hr
 have S:=qV
 exact ae (aU 3 S.nd (ay bA bc (ac 1) (PQ.bo (af)))) (ae (aU 4 S.nd (ay bA bc (PQ.bo (ay eL dk (ac 1) (PQ.bo (af)))) (PQ.bo (af)))) (ae (aU 5 S.nd (bY SO (hr.mono (by decide)) (a7 (ay eL dk (ac 1) (PQ.bo (af))) (a7 (aq 2) (a7 (af) (a7 (af) (ah))))))) (ae (bB (aO ll iq (ac 3) (PQ.bo (af))) (ae (aU 6 S.nd (ay bA bc (PQ.bo (aK hu (ac 5) (PQ.bo (af)))) (PQ.bo (ay aM aN (PQ.bo (aK hu (ac 0) (PQ.bo (af)))) (PQ.bo (af)))))) (ae (bB (aO bN bg (PQ.bo (ay bA bc (PQ.bo (aK hu (ac 5) (PQ.bo (af)))) (PQ.bo (af)))) (PQ.bo (af))) (ak (b8 (bL (a7 (aJ) (a7 (ay im fQ (PQ.bo (ay bA bc (PQ.bo (aK hu (ac 5) (PQ.bo (af)))) (PQ.bo (af)))) (PQ.bo (af))) (a7 (ay im fQ (PQ.bo (ay bA bc (PQ.bo (aK hu (ac 5) (PQ.bo (af)))) (PQ.bo (af)))) (PQ.bo (af))) (ah))))))) (aG)) (ae (bB (aO bN bg (PQ.bo (aK hu (ac 0) (PQ.bo (af)))) (PQ.bo (af))) (ak (b8 (bL (a7 (aJ) (a7 (af) (a7 (ay bA bc (PQ.bo (aK hu (ac 5) (PQ.bo (af)))) (PQ.bo (af))) (ah))))))) (aG)) (ak (b8 (bL (a7 (aJ) (a7 (aq 6) (a7 (ay bA bc (PQ.bo (ay aM aN (PQ.bo (ay aM aN (ac 6) (PQ.bo (af)))) (PQ.bo (ay bA bc (PQ.bo (aK hu (ac 5) (PQ.bo (af)))) (PQ.bo (aK hu (ac 0) (PQ.bo (af)))))))) (PQ.bo (ay aM aN (PQ.bo (aK hu (ac 0) (PQ.bo (af)))) (PQ.bo (af))))) (ah)))))))))) (aG)) (ae (bB (aO bN bg (ac 3) (PQ.bo (af))) (ak (b8 (bL (a7 (aJ) (a7 (aK hu (PQ.bo (bY Tw (hr.mono (by decide)) (a7 (aq 0) (a7 (kM (ac 5) (nX) (nY (af))) (ah))))) (PQ.bo (af))) (ah)))))) (aG)) (ae (bB (aO ll iq (ac 3) (PQ.bo (af))) (ak (b8 (bL (a7 (aJ) (a7 (bY Tw (hr.mono (by decide)) (a7 (aq 0) (a7 (kM (ac 5) (nX) (nY (aq 4))) (ah)))) (ah)))))) (aG)) (ae (bB (aO bN bg (ac 3) (PQ.bo (af))) (ak (b8 (bL (a7 (aJ) (a7 (bY Tw (hr.mono (by decide)) (a7 (aq 0) (a7 (kM (ac 5) (nX) (nY (aq 4))) (ah)))) (ah)))))) (aG)) (ae (bB (aO ll iq (ac 3) (PQ.bo (af))) (ae (aU 7 S.nd (bY SS (hr.mono (by decide)) (a7 (aq 0) (a7 (ay eL dk (ac 1) (PQ.bo (af))) (a7 (aq 2) (ah)))))) (ae (bB (aO bN bg (ac 4) (PQ.bo (af))) (ak (b8 (bY V1 (hr.mono (by decide)) (a7 (aq 7) (a7 (aK hu (ac 5) (PQ.bo (af))) (ah)))))) (aG)) (ak (b8 (aq 7))))) (aG)) (ak (b8 (bL (a7 (aJ) (ah))))))))))))
theorem jI:aC ["_law_script","_law_n","_law_mixed","_law_many","_law_sources","_law_targets","_law_fitted","_law_share","_law_deeds","_law_k","_law_source","_law_named"] ["_law_script","_law_n"] (al i0):=⟨rfl,rfl,rfl,by decide+kernel,rfl,by decide+kernel,by decide+kernel⟩
theorem pF (A:cB K mg "_law_furnishing" i0 ["_law_script","_law_n"]) (B:Bl mg BN) (T7:bf P w K mg base 1 "_law_at" 2 cR) (SJ:bf P w K mg base 2 "_law_cell" 2 bQ) (SO:bf P w K mg base 1 "_law_figures" 4 b_):bf P w K mg base 3 "_law_furnishing" 2 dB:=by
 refine cb A jI rfl rfl λf SE A outer s H E hr=> ?_
 have hu:=bI hr
 have S:=jI
 exact ae (aU 2 S.nd (j4 bN bg (PQ.bo (ay bA bc (PQ.bo (bY T7 (hr.mono (by decide)) (a7 (aq 0) (a7 (af) (ah))))) (PQ.bo (af)))) (PQ.bo (af)))) (ae (aU 3 S.nd (ay gG i7 (PQ.bo (aS (mO rfl) rH (B.no "min" (by decide)) L2.Pu.p8 (ax (ac 1) (ax (PQ.bo (af)) (aD))))) (PQ.bo (ay bA bc (PQ.bo (bY SJ (hr.mono (by decide)) (a7 (aq 0) (a7 (af) (ah))))) (PQ.bo (af)))))) (ae (aU 4 S.nd (bY SO (hr.mono (by decide)) (a7 (bY SJ (hr.mono (by decide)) (a7 (aq 0) (a7 (af) (ah)))) (a7 (aq 2) (a7 (aq 3) (a7 (af) (ah))))))) (ae (aU 5 S.nd (bY SO (hr.mono (by decide)) (a7 (bY SJ (hr.mono (by decide)) (a7 (aq 0) (a7 (af) (ah)))) (a7 (aq 2) (a7 (aq 3) (a7 (af) (ah))))))) (ae (aU 6 S.nd (bY SO (hr.mono (by decide)) (a7 (ay eL dk (PQ.bo (bY SJ (hr.mono (by decide)) (a7 (aq 0) (a7 (af) (ah))))) (PQ.bo (af))) (a7 (aq 2) (a7 (aq 3) (a7 (af) (ah))))))) (ae (aU 7 S.nd (ay bA bc (PQ.bo (bY SJ (hr.mono (by decide)) (a7 (aq 0) (a7 (af) (ah))))) (PQ.bo (af)))) (ae (lM 8 S.nd (ah)) (ae (nG Md rfl (ic (B.no "range" (by decide)) (a7 (aq 3) (ah))) (b7 9 S.nd) (ae (aU 10 S.nd (ay bA bc (PQ.bo (aK hu (ac 4) (ac 9))) (PQ.bo (ay aM aN (ac 1) (PQ.bo (af)))))) (ak (ie 8 (bL (a7 (aJ) (a7 (aq 10) (a7 (ay bA bc (PQ.bo (ay aM aN (PQ.bo (ay aM aN (ac 10) (PQ.bo (af)))) (PQ.bo (ay bA bc (PQ.bo (aK hu (ac 5) (ac 9))) (ac 1))))) (PQ.bo (ay aM aN (ac 1) (PQ.bo (af))))) (ah))))))))) (ae (yh 11 (aZ.of rfl (by first|decide+kernel|rfl)) rfl S.nd (ic (B.no "range" (by decide)) (a7 (aq 3) (ah))) (λ_ _ _=>b7 1 (show ([".0","_law_k","_law_fitted","_law_share"]:List L3).Nodup by decide+kernel)) (λ_ _ _=>gZ (aO ll iq (PQ.bo (aK hu (ac 2) (ac 1))) (ac 3))) (λ_ _ _=>ay aM aN (ac 1) (PQ.bo (af)))) (ak (b8 (ay aM aN (ac 8) (PQ.bo (eM (a7 (bL (a7 (aJ) (a7 (ba aI br (B.no "tuple" (by decide)) L2.Pu.aX (ax (PQ.bo (kM (ac 11) (nX) (nY (af)))) (aD))) (ah)))) (ah)))))))))))))))
theorem ky:aC ["_law_cellar","_law_past","_law_script","_law_deed_here"] ["_law_cellar","_law_past","_law_script"] (al iF):=⟨rfl,rfl,rfl,by decide+kernel,rfl,by decide+kernel,by decide+kernel⟩
theorem qt (A:cB K mg "_law_furnished" iF ["_law_cellar","_law_past","_law_script"]) (B:Bl mg BN) (Tu:bf P w K mg base 3 "_law_furnishing" 2 dB) (SV:vj P w K mg base 9 "_law_step" 2 1 ck):vj P w K mg base 10 "_law_furnished" 2 1 eu:=by
 refine sL [⟨0,0,[]⟩,⟨1,0,[]⟩] A ky rfl rfl (by decide) (by decide) (by decide) λf SE A outer s H E hr=> ?_
 have hu:=bI hr
 have S:=ky
 exact ae (nG Md rfl (cX (bY Tu (hr.mono (by decide)) (a7 (aq 2) (a7 (aK hu (PQ.bo (aK hu (ac 1) (PQ.bo (af)))) (PQ.bo (af))) (ah))))) (b7 3 S.nd) (ak (sO (o4 (o3 (sM SV (hr.mono (by decide)) (cL 0 (cL 1 (jc (a7 (aq 3) (ah)))))))) (ak (jd (kJ))) (aG)))) (ak (jd (kJ)))
theorem pG:aC ["_law_script","_law_n"] ["_law_script"] (al mB):=⟨rfl,rfl,rfl,by decide+kernel,rfl,by decide+kernel,by decide+kernel⟩
theorem vE (A:cB K mg "_law_begun" mB ["_law_script"]) (B:Bl mg BN) (SJ:bf P w K mg base 2 "_law_cell" 2 bQ):J8 P w K mg base 3 "_law_begun" 1 gl:=by
 refine Hj A pG rfl rfl λf SE A outer s H E hr=> ?_
 have hu:=bI hr
 have S:=pG
 exact EQ (aU 1 S.nd (ay bA bc (PQ.bo (bY SJ (hr.mono (by decide)) (a7 (aq 0) (a7 (af) (ah))))) (PQ.bo (af)))) (Hi (J7 (a7 (bL (a7 (aq 1) (a7 (af) (a7 (bL (ah)) (a7 (bL (ah)) (a7 (bL (ah)) (a7 (bL (ah)) (ah)))))))) (ah))))
theorem mI:aC ["_law_cellar","_law_past","_law_script","_law_mixed","_law_k","_law_deed_here"] ["_law_cellar","_law_past","_law_script"] (al jV):=⟨rfl,rfl,rfl,by decide+kernel,rfl,by decide+kernel,by decide+kernel⟩
theorem t8 (A:cB K mg "_law_history" jV ["_law_cellar","_law_past","_law_script"]) (B:Bl mg BN) (T7:bf P w K mg base 1 "_law_at" 2 cR) (TN:vj P w K mg base 10 "_law_furnished" 2 1 eu) (SV:vj P w K mg base 9 "_law_step" 2 1 ck) (V2:bf P w K mg base 4 "_law_deed" 3 jp) (SJ:bf P w K mg base 2 "_law_cell" 2 bQ) (SS:bf P w K mg base 3 "_law_day_deed" 3 c7):vj P w K mg base 11 "_law_history" 2 1 fP:=by
 refine sL [⟨0,0,[]⟩,⟨1,0,[]⟩] A mI rfl rfl (by decide) (by decide) (by decide) λf SE A outer s H E hr=> ?_
 have hu:=bI hr
 have S:=mI
 exact ae (aU 3 S.nd (j4 bN bg (PQ.bo (ay bA bc (PQ.bo (bY T7 (hr.mono (by decide)) (a7 (aq 2) (a7 (af) (ah))))) (PQ.bo (af)))) (PQ.bo (af)))) (ae (sO (o4 (o3 (sM TN (hr.mono (by decide)) (cL 0 (cL 1 (jc (a7 (aq 2) (ah)))))))) (ak (jd (kJ))) (aG)) (ae (nG Md rfl (Cn (B.no "range" (by decide)) (a7 (af) (a7 (aS a_ bF (B.no "len" (by decide)) Lz (ax (ac 2) (aD))) (ah)))) (b7 4 S.nd) (ak (sO (o4 (o3 (sM SV (hr.mono (by decide)) (cL 0 (cL 1 (jc (a7 (bY V2 (hr.mono (by decide)) (a7 (aK hu (ac 1) (PQ.bo (oX fU eP (PQ.bo (af))))) (a7 (bY SJ (hr.mono (by decide)) (a7 (aq 2) (a7 (aq 4) (ah)))) (a7 (aq 3) (ah))))) (ah)))))))) (ak (jd (kJ))) (aG)))) (ae (aU 5 S.nd (bY SS (hr.mono (by decide)) (a7 (aK hu (ac 1) (PQ.bo (oX fU eP (PQ.bo (af))))) (a7 (bY SJ (hr.mono (by decide)) (a7 (aq 2) (a7 (ay aM aN (PQ.bo (af)) (PQ.bo (aS a_ bF (B.no "len" (by decide)) Lz (ax (ac 2) (aD))))) (ah)))) (a7 (aq 3) (ah)))))) (ak (l_ (sM SV (hr.mono (by decide)) (cL 0 (cL 1 (jc (a7 (aq 5) (ah)))))))))))
theorem Df:aC ["_law_script","_law_past","_law_cellar","_law_deed_here"] ["_law_script"] (al sY):=⟨rfl,rfl,rfl,by decide+kernel,rfl,by decide+kernel,by decide+kernel⟩
theorem Hm {f:L4} {fd:Mq} (F:zf K "law" "law" sY f fd) (B:Bl mg BN) (UO:J8 P w K mg base 3 "_law_begun" 1 gl) (Uh:xf P w K mg base 3 "Cellar" 1 eC) (Ui:vj P w K mg base 11 "_law_history" 2 1 fP) (Tx:bf P w K mg base 10 "_law_looks" 2 bV) (SV:vj P w K mg base 9 "_law_step" 2 1 ck) (SS:bf P w K mg base 3 "_law_day_deed" 3 c7) (SJ:bf P w K mg base 2 "_law_cell" 2 bQ):fN P w K mg base (lz P w) 12 f fd ["_law_script"] (AA K 1 uK):=by
 refine GD F Df rfl rfl λSE A outer s H E hr=> ?_
 have hu:=bI hr
 have S:=Df
 exact ae (CS 1 S.nd (K5 UO (hr.mono (by decide)) (a7 (aq 0) (ah)))) (ae (EK 2 S.nd Uh (hr.mono (by decide)) (a7 (aK hu (PQ.bo (aK hu (ac 1) (PQ.bo (af)))) (PQ.bo (af))) (ah))) (ae (sO (Hh.t (FG (o4 (o3 (sM Ui (hr.mono (by decide)) (cL 2 (cL 1 (jc (a7 (aq 0) (ah)))))))) (D9 (J6 (vo [2] (lm (eN (PQ.bo (bY Tx (hr.mono (by decide)) (a7 (aq 2) (a7 (aK hu (ac 1) (PQ.bo (oX fU eP (PQ.bo (af))))) (ah)))))))))))) (ak (b8 (kJ))) (aG)) (ae (Es 100 Md (aO jA gF (PQ.bo (aS a_ bF (B.no "len" (by decide)) Lz (ax (ac 1) (aD)))) (PQ.bo (af))) (ak (sO (Hh.t (FG (o4 (o3 (sM SV (hr.mono (by decide)) (cL 2 (cL 1 (jc (a7 (bL (a7 (aJ) (ah))) (ah)))))))) (D9 (J6 (vo [2] (lm (eN (PQ.bo (bY Tx (hr.mono (by decide)) (a7 (aq 2) (a7 (aK hu (ac 1) (PQ.bo (oX fU eP (PQ.bo (af))))) (ah)))))))))))) (ak (b8 (kJ))) (aG)))) (ae (sO (o4 (o3 (sM SV (hr.mono (by decide)) (cL 2 (cL 1 (jc (a7 (bL (a7 (aJ) (ah))) (ah)))))))) (ak (b8 (kJ))) (aG)) (ae (sO (o4 (o3 (sM SV (hr.mono (by decide)) (cL 2 (cL 1 (jc (a7 (bL (a7 (aJ) (a7 (aS (mO rfl) rH (B.no "min" (by decide)) L2.Pu.p8 (ax (PQ.bo (af)) (ax (PQ.bo (aK hu (PQ.bo (aK hu (ac 1) (PQ.bo (af)))) (PQ.bo (af)))) (aD)))) (a7 (af) (ah))))) (ah)))))))) (ak (b8 (kJ))) (aG)) (ae (aU 3 S.nd (bY SS (hr.mono (by decide)) (a7 (aK hu (ac 1) (PQ.bo (oX fU eP (PQ.bo (af))))) (a7 (bY SJ (hr.mono (by decide)) (a7 (aq 0) (a7 (af) (ah)))) (a7 (kJ) (ah)))))) (ak (Hg (J5 (sM SV (hr.mono (by decide)) (cL 2 (cL 1 (jc (a7 (aq 3) (ah)))))) (J4 (KS (zF "history" [2] (bY Tx (hr.mono (by decide)) (a7 (aq 2) (a7 (aK hu (ac 1) (PQ.bo (oX fU eP (PQ.bo (af))))) (ah))))))))))))))))
theorem Hn {l:Qg} {h:Lr} {fa U5 SG SI Tv V3 X0 X1 X2 X3 X4 X5 X6 X7 X8 X9 VF VG VH VI VJ VL:L4} (X:K.In h) (G:h.Ns Ld mg) (a2D:mg "law"=some (.ref fa))
  (Ya:Lh K Ld "Day"=some (some (.ref U5)))
  (Vv:Lh K Ld "Standing"=some (some (.ref SG)))
  (Wr:Lh K Ld "Cellar"=some (some (.ref SI)))
  (VP:Lh K Ld "CellarError"=some (some (.ref Tv)))
  (WR:Lh K Ld "Clashing"=some (some (.ref V3)))
  (N:vw K RL [X0,X1,X2,X3,X4,X5,X6,X7,X8,X9,VF,VG,VH,VI,VJ,VL])
  (YA:N0 K U5 R8=true)
  (YB:N9 K U5=true)
  (YC:NB K U5=true)
  (YD:Lm K (.ref U5) "__setattr__"=some (some (.builtin "object.__setattr__")))
  (Ws:Lm K (.ref U5) "tanks"=some none)
  (VQ:Lm K (.ref U5) "streams"=some none)
  (Wt:Lm K (.ref U5) "rises"=some none)
  (Vw:Lm K (.ref U5) "readings"=some none)
  (YE:Nt K U5=true)
  (YF:LX K (.ref U5)=true)
  (Wu:N0 K SG R8=true)
  (Wv:N9 K SG=true)
  (Ww:NB K SG=true)
  (Wx:Lm K (.ref SG) "__setattr__"=some (some (.builtin "object.__setattr__")))
  (Vo:Lm K (.ref SG) "came"=some none)
  (V4:Lm K (.ref SG) "streams"=some none)
  (V9:Lm K (.ref SG) "meters"=some none)
  (Va:Lm K (.ref SG) "passed"=some none)
  (Wy:Nt K SG=true)
  (Wz:LX K (.ref SG)=true)
  (Xn:N0 K SI R8=true)
  (Xo:N9 K SI=true)
  (Xp:NB K SI=true)
  (Xq:Lm K (.ref SI) "__setattr__"=some (some (.builtin "object.__setattr__")))
  (Vx:Lm K (.ref SI) "tanks"=some none)
  (Wb:Lm K (.ref SI) "now"=some none)
  (Ve:Lm K (.ref SI) "history"=some none)
  (Xr:Nt K SI=true)
  (Xs:LX K (.ref SI)=true)
  (u1:qL K U5 "__init__" "Day.__init__" kU)
  (u2:qL K SG "__init__" "Standing.__init__" fS)
  (u3:qL K SG "with_stream" "Standing.with_stream" dR)
  (u4:qL K SG "without_stream" "Standing.without_stream" d8)
  (u5:qL K SG "with_meters" "Standing.with_meters" dU)
  (u6:qL K SG "without_meters" "Standing.without_meters" db)
  (u7:qL K SG "with_day" "Standing.with_day" fI)
  (u8:UF K "refuse_places" iz)
  (u9:UF K "refuse_numbers" hX)
  (a2E:UF K "refuse_unmetered" fW)
  (a2F:UF K "refuse_amounts" hZ)
  (a2G:qL K SI "__init__" "Cellar.__init__" i9)
  (a2H:qL K SI "keep_deed" "Cellar.keep_deed" fX)
  (a2I:qL K SI "stream_comes" "Cellar.stream_comes" eK)
  (a2J:qL K SI "stream_goes" "Cellar.stream_goes" eW)
  (a2K:qL K SI "meters_come" "Cellar.meters_come" eX)
  (a2L:qL K SI "meters_go" "Cellar.meters_go" fZ)
  (a2M:qL K SI "days_gone" "Cellar.days_gone" f_)
  (a2N:qL K SI "day_passes" "Cellar.day_passes" fJ)
  (a2O:qL K SI "take_back" "Cellar.take_back" gf)
  (a2P:qL K SI "layout" "Cellar.layout" iA)
  (a2Q:qL K SI "deeds" "Cellar.deeds" jh)
  (a2R:qL K SI "day" "Cellar.day" kX)
  (a2S:UF K "_law_at" sV)
  (a2T:UF K "_law_cell" og)
  (a2U:UF K "_law_figures" jR)
  (a2V:UF K "_law_same" kZ)
  (a2W:UF K "_law_span" oi)
  (a2X:UF K "_law_flows" ml)
  (a2Y:UF K "_law_kept" ol)
  (a2Z:UF K "_law_do" sW)
  (a2_:UF K "_law_done" oo)
  (a30:UF K "_law_no_stream" iC)
  (a31:UF K "_law_no_names" jk)
  (a32:UF K "_law_no_day" k_)
  (a33:UF K "_law_no_meters" iE)
  (a34:UF K "_law_refusal" jT)
  (a35:UF K "_law_behind" l7)
  (a36:UF K "_law_answer" l9)
  (a37:UF K "_law_step" oq)
  (a38:UF K "_law_layout" lb)
  (a39:UF K "_law_looks" mv)
  (a3a:UF K "_law_day_deed" jl)
  (a3b:UF K "_law_names" my)
  (a3c:UF K "_law_bent" ou)
  (a3d:UF K "_law_deed" oz)
  (a3e:UF K "_law_furnishing" i0)
  (a3f:UF K "_law_furnished" iF)
  (a3g:UF K "_law_begun" mB)
  (a3h:UF K "_law_history" jV)
  (a3i:UF K "law" sY)
  (Z:HJ K)
  (E:yu K [X0,X1,X2,X3,X4,X5,X6,X7,X8,X9,VF,VG,VH,VI,VJ,VL])
  (Vy:Mh K Tv wu "ValueError.__new__"=true)
  (Vz:LQ K Tv (.type "BaseException")=some true)
  (WA:Mh K V3 wu "ValueError.__new__"=true)
  (Vf:ix K (.ref X7) (·==7) 0 [X0,X1,X2,X3,X4,X5,X6,X7,X8,X9,VF,VG,VH,VI,VJ,VL])
  (WS:ix K (.ref X0) (·==0) 0 [X0,X1,X2,X3,X4,X5,X6,X7,X8,X9,VF,VG,VH,VI,VJ,VL])
  (WT:ix K (.ref V3) (λ_=>false) 0 [X0,X1,X2,X3,X4,X5,X6,X7,X8,X9,VF,VG,VH,VI,VJ,VL])
  (Wc:ix K (.ref X8) (·==8) 0 [X0,X1,X2,X3,X4,X5,X6,X7,X8,X9,VF,VG,VH,VI,VJ,VL])
  (VR:ix K (.ref VL) (·==15) 0 [X0,X1,X2,X3,X4,X5,X6,X7,X8,X9,VF,VG,VH,VI,VJ,VL])
  (Wd:ix K (.ref VF) (·==10) 0 [X0,X1,X2,X3,X4,X5,X6,X7,X8,X9,VF,VG,VH,VI,VJ,VL])
  (Vg:ix K (.ref X9) (·==9) 0 [X0,X1,X2,X3,X4,X5,X6,X7,X8,X9,VF,VG,VH,VI,VJ,VL])
  (WB:ix K (.ref X3) (·==3) 0 [X0,X1,X2,X3,X4,X5,X6,X7,X8,X9,VF,VG,VH,VI,VJ,VL])
  (VS:ix K (.ref VI) (·==13) 0 [X0,X1,X2,X3,X4,X5,X6,X7,X8,X9,VF,VG,VH,VI,VJ,VL])
  (VA:ix K (.ref VJ) (·==14) 0 [X0,X1,X2,X3,X4,X5,X6,X7,X8,X9,VF,VG,VH,VI,VJ,VL])
  (Vp:ix K (.ref VH) (·==12) 0 [X0,X1,X2,X3,X4,X5,X6,X7,X8,X9,VF,VG,VH,VI,VJ,VL])
  (Vh:ix K (.ref VG) (·==11) 0 [X0,X1,X2,X3,X4,X5,X6,X7,X8,X9,VF,VG,VH,VI,VJ,VL])
  (X_:ix K (.ref X6) (·==6) 0 [X0,X1,X2,X3,X4,X5,X6,X7,X8,X9,VF,VG,VH,VI,VJ,VL])
  (We:ix K (.ref X1) (·==1) 0 [X0,X1,X2,X3,X4,X5,X6,X7,X8,X9,VF,VG,VH,VI,VJ,VL])
  (VB:ix K (.ref X2) (·==2) 0 [X0,X1,X2,X3,X4,X5,X6,X7,X8,X9,VF,VG,VH,VI,VJ,VL])
  (Vq:ix K (.ref X5) (·==5) 0 [X0,X1,X2,X3,X4,X5,X6,X7,X8,X9,VF,VG,VH,VI,VJ,VL])
  (Wg:ix K (.type "ValueError") (λ_=>true) 0 [X0,X1,X2,X3,X4,X5,X6,X7,X8,X9,VF,VG,VH,VI,VJ,VL])
  (Wh:ix K (.ref X4) (·==4) 0 [X0,X1,X2,X3,X4,X5,X6,X7,X8,X9,VF,VG,VH,VI,VJ,VL])
  (VT:ix K (.ref Tv) (λ_=>true) 0 [X0,X1,X2,X3,X4,X5,X6,X7,X8,X9,VF,VG,VH,VI,VJ,VL])
  {U6:O6}
  (VU:Lh K Ld "MOST_AMOUNT"=some (some (.int 1000 U6)))
  {UL:O6}
  (WC:Lh K Ld "MOST_DAYS"=some (some (.int 12 UL)))
  {Ur:O6}
  (Wi:Lh K Ld "MOST_DEEDS"=some (some (.int 60 Ur)))
  {U9:O6}
  (VV:Lh K Ld "MOST_METERS"=some (some (.int 10 U9)))
  {TV:O6}
  (VC:Lh K Ld "MOST_STREAMS"=some (some (.int 12 TV)))
  {Uq:O6}
  (Wj:Lh K Ld "MOST_TANKS"=some (some (.int 7 Uq)))
  {Vd:O6}
  (Xt:Lh K Ld "OUTSIDE"=some (some (.int 0 Vd)))
  (z0:Lh K Ld "ValueError"=some none)
  (z1:Lh K Ld "abs"=some none)
  (z2:Lh K Ld "any"=some none)
  (z3:Lh K Ld "bool"=some none)
  (z4:Lh K Ld "int"=some none)
  (z5:Lh K Ld "isinstance"=some none)
  (z6:Lh K Ld "len"=some none)
  (z7:Lh K Ld "list"=some none)
  (z8:Lh K Ld "max"=some none)
  (z9:Lh K Ld "min"=some none)
  (ZN:Lh K Ld "range"=some none)
  (ZO:Lh K Ld "set"=some none)
  (a1D:Lh K Ld "sorted"=some none)
  (a1E:Lh K Ld "str"=some none)
  (a3j:Lh K Ld "tuple"=some none)
  :∃fd:Mq,(∀(s:L5) (v:L0),Qv s fd ⟨[v],[]⟩ [("_law_script",v)])/\∀base:Lr,K.In base->base.Ns Ld mg->fN l.prog w K mg base (lz l.prog w) 12 fa fd ["_law_script"] (AA K 1 uK):=by
 obtain⟨f0,a45,a46,a3k,a3l,a3m,a3n,a3o,a3p,a47,a0,l0,c0,k0⟩:=a3i
 have e:=a2D.symm.trans (LC X G a0)
 cases e
 have B:Bl mg BN:=⟨λx hx=>by
  simp only[BN,Li,M5,or_false]at hx
  rcases hx with rfl|rfl|rfl|rfl|rfl|rfl|rfl|rfl|rfl|rfl|rfl|rfl|rfl|rfl|rfl
  ·exact LV X G z0
  ·exact LV X G z1
  ·exact LV X G z2
  ·exact LV X G z3
  ·exact LV X G z4
  ·exact LV X G z5
  ·exact LV X G z6
  ·exact LV X G z7
  ·exact LV X G z8
  ·exact LV X G z9
  ·exact LV X G ZN
  ·exact LV X G ZO
  ·exact LV X G a1D
  ·exact LV X G a1E
  ·exact LV X G a3j⟩
 have XE:jD K "Day" U5:=⟨Ya,YA,YB,YC,YD⟩
 have XF:∀x∈sR,eF K U5 x:=λx hx=>by
  simp only[sR,Li,M5,or_false]at hx
  rcases hx with rfl|rfl|rfl|rfl
  ·exact Ws
  ·exact VQ
  ·exact Wt
  ·exact Vw
 have W0:cF K "Day" sR:=⟨_,XE,XF⟩
 have Tb:jD K "Standing" SG:=⟨Vv,Wu,Wv,Ww,Wx⟩
 have Vl:∀x∈bE,eF K SG x:=λx hx=>by
  simp only[bE,Li,M5,or_false]at hx
  rcases hx with rfl|rfl|rfl|rfl
  ·exact Vo
  ·exact V4
  ·exact V9
  ·exact Va
 have Sw:cF K "Standing" bE:=⟨_,Tb,Vl⟩
 have SX:jD K "Cellar" SI:=⟨Wr,Xn,Xo,Xp,Xq⟩
 have W2:∀x∈cw,eF K SI x:=λx hx=>by
  simp only[cw,Li,M5,or_false]at hx
  rcases hx with rfl|rfl|rfl
  ·exact Vx
  ·exact Wb
  ·exact Ve
 have Sx:cF K "Cellar" cw:=⟨_,SX,W2⟩
 have TR:=LC X G VU
 have Us:=LC X G WC
 have U8:=LC X G Wi
 have TX:=LC X G VV
 have TC:=LC X G VC
 have U7:=LC X G Wj
 have UT:=LC X G Xt
 have To:cK K mg "AlreadyMetered":=dm Z X G N E _ (by decide+kernel)
 have UU:cK K mg "BadTanks":=dm Z X G N E _ (by decide+kernel)
 have Uo:cK K mg "NotMetered":=dm Z X G N E _ (by decide+kernel)
 have Ub:cK K mg "NothingDone":=dm Z X G N E _ (by decide+kernel)
 have Up:cK K mg "OutOfRange":=dm Z X G N E _ (by decide+kernel)
 have Tp:cK K mg "ReadingMissing":=dm Z X G N E _ (by decide+kernel)
 have UK:cK K mg "SamePlace":=dm Z X G N E _ (by decide+kernel)
 have Ua:cK K mg "TooManyDays":=dm Z X G N E _ (by decide+kernel)
 have TU:cK K mg "TooManyDeeds":=dm Z X G N E _ (by decide+kernel)
 have TF:cK K mg "TooManyMeters":=dm Z X G N E _ (by decide+kernel)
 have Tn:cK K mg "TooManyStreams":=dm Z X G N E _ (by decide+kernel)
 have W9:cK K mg "Twice":=dm Z X G N E _ (by decide+kernel)
 have Uu:cK K mg "UnknownDay":=dm Z X G N E _ (by decide+kernel)
 have TQ:cK K mg "UnknownPlace":=dm Z X G N E _ (by decide+kernel)
 have Tz:cK K mg "UnknownStream":=dm Z X G N E _ (by decide+kernel)
 have Ut:cK K mg "WrongRises":=dm Z X G N E _ (by decide+kernel)
 have Tq:eQ K mg "AlreadyMetered" (tb 7):=cG Z N E (LC X G (bz N E "AlreadyMetered" _ rfl).1) (bz N E "AlreadyMetered" _ rfl).2.1 Vf
 have UY:eQ K mg "BadTanks" (tb 0):=cG Z N E (LC X G (bz N E "BadTanks" _ rfl).1) (bz N E "BadTanks" _ rfl).2.1 WS
 have UZ:eQ K mg "Clashing" K7:=cG Z N E (LC X G WR) WA WT
 have Uv:eQ K mg "NotMetered" (tb 8):=cG Z N E (LC X G (bz N E "NotMetered" _ rfl).1) (bz N E "NotMetered" _ rfl).2.1 Wc
 have Uc:eQ K mg "NothingDone" (tb 15):=cG Z N E (LC X G (bz N E "NothingDone" _ rfl).1) (bz N E "NothingDone" _ rfl).2.1 VR
 have Uw:eQ K mg "OutOfRange" (tb 10):=cG Z N E (LC X G (bz N E "OutOfRange" _ rfl).1) (bz N E "OutOfRange" _ rfl).2.1 Wd
 have Ts:eQ K mg "ReadingMissing" (tb 9):=cG Z N E (LC X G (bz N E "ReadingMissing" _ rfl).1) (bz N E "ReadingMissing" _ rfl).2.1 Vg
 have UM:eQ K mg "SamePlace" (tb 3):=cG Z N E (LC X G (bz N E "SamePlace" _ rfl).1) (bz N E "SamePlace" _ rfl).2.1 WB
 have Ud:eQ K mg "TooManyDays" (tb 13):=cG Z N E (LC X G (bz N E "TooManyDays" _ rfl).1) (bz N E "TooManyDays" _ rfl).2.1 VS
 have TY:eQ K mg "TooManyDeeds" (tb 14):=cG Z N E (LC X G (bz N E "TooManyDeeds" _ rfl).1) (bz N E "TooManyDeeds" _ rfl).2.1 VA
 have TH:eQ K mg "TooManyMeters" (tb 12):=cG Z N E (LC X G (bz N E "TooManyMeters" _ rfl).1) (bz N E "TooManyMeters" _ rfl).2.1 Vp
 have Tt:eQ K mg "TooManyStreams" (tb 11):=cG Z N E (LC X G (bz N E "TooManyStreams" _ rfl).1) (bz N E "TooManyStreams" _ rfl).2.1 Vh
 have Wa:eQ K mg "Twice" (tb 6):=cG Z N E (LC X G (bz N E "Twice" _ rfl).1) (bz N E "Twice" _ rfl).2.1 X_
 have Ux:eQ K mg "UnknownDay" (tb 1):=cG Z N E (LC X G (bz N E "UnknownDay" _ rfl).1) (bz N E "UnknownDay" _ rfl).2.1 We
 have TZ:eQ K mg "UnknownPlace" (tb 2):=cG Z N E (LC X G (bz N E "UnknownPlace" _ rfl).1) (bz N E "UnknownPlace" _ rfl).2.1 VB
 have TJ:eQ K mg "UnknownStream" (tb 5):=cG Z N E (LC X G (bz N E "UnknownStream" _ rfl).1) (bz N E "UnknownStream" _ rfl).2.1 Vq
 have Uy:qG K (.type "ValueError") K6:=EN Z N E Wg
 have Uz:eQ K mg "WrongRises" (tb 4):=cG Z N E (LC X G (bz N E "WrongRises" _ rfl).1) (bz N E "WrongRises" _ rfl).2.1 Wh
 have Ue:wM K mg "CellarError" (AQ RL):=B0 (LC X G VP) Vy Vz N VT
 refine⟨M3 "law" "law" (dw sY) (bK sY) (al sY) .none a3k a3l a3m a3n a3o a3p,λs v=> .of_eq rfl,λbase _ _=> ?_⟩
 have UW:hU l.prog w K mg base 1 "Day" 4 hW:=xh (u1.mk XE (LC X G Ya) YE YF XF b5) B
 have SA:hU l.prog w K mg base 1 "Standing" 4 b6:=qm (u2.mk Tb (LC X G Vv) Wy Wz Vl b5) B
 have T5:bZ l.prog w K mg base 3 "Standing" "with_stream" 3 cq:=ko (u3.at Tb b3) B SA Sw
 have S_:bZ l.prog w K mg base 3 "Standing" "without_stream" 2 bT:=jr (u4.at Tb b2) B SA Sw
 have T6:bZ l.prog w K mg base 3 "Standing" "with_meters" 2 cr:=kq (u5.at Tb b2) B SA Sw
 have T1:bZ l.prog w K mg base 3 "Standing" "without_meters" 2 bU:=js (u6.at Tb b2) B SA Sw
 have Td:bZ l.prog w K mg base 3 "Standing" "with_day" 2 cP:=mD (u7.at Tb b2) B SA Sw
 have TB:bf l.prog w K mg base 1 "refuse_places" 2 eg:=qo (u8.at X G b2) B UT UK TQ
 have SD:bf l.prog w K mg base 1 "refuse_numbers" 2 bC:=pz (u9.at X G b2) B W9 Tz Sw
 have SU:bf l.prog w K mg base 1 "refuse_unmetered" 2 ci:=nj (a2E.at X G b2) B Uo Sw
 have Tc:bf l.prog w K mg base 1 "refuse_amounts" 1 cZ:=pA (a2F.at X G b1) B TR Up
 have Uh:xf l.prog w K mg base 3 "Cellar" 1 eC:=sZ (a2G.mk SX (LC X G Wr) Xr Xs W2 b2) B SA U7 UU
 have Sy:dv l.prog w K mg base 1 "Cellar" "keep_deed" 2 aT:=nk (a2H.at SX b3) B U8 TU Sx
 have T8:dv l.prog w K mg base 4 "Cellar" "stream_comes" 2 cC:=lg (a2I.at SX b3) B TB Sy T5 TC Tn Sx Sw
 have T9:dv l.prog w K mg base 4 "Cellar" "stream_goes" 1 cH:=lD (a2J.at SX b2) B SD Sy S_ Sx
 have Ta:dv l.prog w K mg base 4 "Cellar" "meters_come" 1 cI:=lE (a2K.at SX b2) B SD Sy T6 TX To TF Sx Sw
 have Tf:dv l.prog w K mg base 4 "Cellar" "meters_go" 1 d6:=nl (a2L.at SX b2) B SD SU Sy T1 Sx
 have SF:bZ l.prog w K mg base 1 "Cellar" "days_gone" 1 bj:=nq (a2M.at SX b1) B Sx Sw
 have Te:dv l.prog w K mg base 4 "Cellar" "day_passes" 2 cQ:=mF (a2N.at SX b3) B SD SU Tc UW Sy Td SF Us Tp Ua Ut Sx Sw
 have Tg:dv l.prog w K mg base 1 "Cellar" "take_back" 0 cj:=nv (a2O.at SX b1) B Ub Sx
 have TM:bZ l.prog w K mg base 1 "Cellar" "layout" 1 df:=qp (a2P.at SX b1) B Sx Sw
 have T_:bZ l.prog w K mg base 1 "Cellar" "deeds" 1 dA:=rh (a2Q.at SX b1) B Sx
 have UE:bZ l.prog w K mg base 2 "Cellar" "day" 2 fu:=tV (a2R.at SX b2) B SF Uu Sx Sw
 have T7:bf l.prog w K mg base 1 "_law_at" 2 cR:=B2 (a2S.at X G b2) B
 have SJ:bf l.prog w K mg base 2 "_law_cell" 2 bQ:=xi (a2T.at X G b2) B T7
 have SO:bf l.prog w K mg base 1 "_law_figures" 4 b_:=s_ (a2U.at X G b4) B
 have SM:bf l.prog w K mg base 8 "_law_same" 2 bn:=xj (a2V.at X G b2) B
 have UX:bf l.prog w K mg base 1 "_law_span" 4 ji:=xk (a2W.at X G b4) B
 have UN:bf l.prog w K mg base 2 "_law_flows" 5 ij:=vB (a2X.at X G b5) B UX
 have V0:bf l.prog w K mg base 9 "_law_kept" 2 h_:=xl (a2Y.at X G b2) B SM W0
 have Vu:vj l.prog w K mg base 5 "_law_do" 1 1 eY:=B3 (a2Z.at X G b2) B T8 T9 Ta Tf Te Tg
 have U_:vj l.prog w K mg base 6 "_law_done" 1 1 eZ:=xm (a2_.at X G b2) B Vu Tq UY UZ Uv Uc Uw Ts UM Ud TY TH Tt Wa Ux TZ TJ Uy Uz Ue
 have TK:bf l.prog w K mg base 1 "_law_no_stream" 3 eh:=qq (a30.at X G b3) B
 have SR:bf l.prog w K mg base 1 "_law_no_names" 2 cu:=rj (a31.at X G b2) B
 have UA:bf l.prog w K mg base 2 "_law_no_day" 3 gJ:=tW (a32.at X G b3) B SR
 have TL:bf l.prog w K mg base 2 "_law_no_meters" 3 eo:=qr (a33.at X G b3) B SR
 have Ug:bf l.prog w K mg base 3 "_law_refusal" 2 eD:=t7 (a34.at X G b2) B TK SR UA TL
 have UB:bf l.prog w K mg base 1 "_law_behind" 2 dX:=tY (a35.at X G b2) B
 have UC:bf l.prog w K mg base 1 "_law_answer" 2 fw:=tZ (a36.at X G b2) B
 have SV:vj l.prog w K mg base 9 "_law_step" 2 1 ck:=xn (a37.at X G b3) B Ug U_ SM UB UC
 have UD:bf l.prog w K mg base 1 "_law_layout" 1 fz:=t_ (a38.at X G b1) B
 have Tx:bf l.prog w K mg base 10 "_law_looks" 2 bV:=vC (a39.at X G b2) B SM TM UD T_ SF V0 UE Sx
 have SS:bf l.prog w K mg base 3 "_law_day_deed" 3 c7:=rl (a3a.at X G b3) B SO UN
 have Tw:bf l.prog w K mg base 1 "_law_names" 2 dI:=vD (a3b.at X G b2) B
 have V1:bf l.prog w K mg base 1 "_law_bent" 2 jn:=xo (a3c.at X G b2) B
 have V2:bf l.prog w K mg base 4 "_law_deed" 3 jp:=xp (a3d.at X G b3) B SO Tw SS V1
 have Tu:bf l.prog w K mg base 3 "_law_furnishing" 2 dB:=pF (a3e.at X G b2) B T7 SJ SO
 have TN:vj l.prog w K mg base 10 "_law_furnished" 2 1 eu:=qt (a3f.at X G b3) B Tu SV
 have UO:J8 l.prog w K mg base 3 "_law_begun" 1 gl:=vE (a3g.at X G b1) B SJ
 have Ui:vj l.prog w K mg base 11 "_law_history" 2 1 fP:=t8 (a3h.at X G b3) B T7 TN SV V2 SJ SS
 exact Hm (nS (st:=sY) l0 c0 k0) B UO Uh Ui Tx SV SS SJ
end
theorem walk {l:Qg} {q:Ll} {VY:List L3} {XP:(L3->Option L0)->Lr->Prop} {YP:Ly->Lr->Prop} {d:DefRec} {K:Params->K_} (hn:l.most=some 63) (Z3:d.params.defaults=[])
  (hY:∀(w:Ly) (h:Lr),YP w h->(K w.params).In h) (main:∀ns:List Int,ns.length<=63->uK [.scr ns]= .ok (.bl true))
  (F:∀(w:Ly) (mg:L3->Option L0) (fa:L4) (h:Lr),(K w.params).In h->h.Ns Ld mg->mg d.name=some (.ref fa)->
   ∃fd:Mq,(∀(s:L5) (u:L0),Qv s fd ⟨[u],[]⟩ [("_law_script",u)])/\∀base:Lr,(K w.params).In base->base.Ns Ld mg->fN l.prog w (K w.params) mg base (lz l.prog w) 12 fa fd ["_law_script"] (AA (K w.params) 1 uK)):
  Sf q VY XP YP l.row.toRowW d [] (λf vs=>RY f vs):=
 L2.E8 (n:=63) (k:=12) (x:="_law_script") (CX:=λw=>lz l.prog w) (sp:=λw=>AA (K w.params) 1 uK) hn (by decide) Z3 ⟨rfl,by decide,by decide⟩ hY F (λ_ _ a ns hl _ hS=>GL (main ns hl) hS) λ_ _ _ _ _ z=>L2.Pu.GV z
end My
namespace My
open PySem PySem.Spec PyProof.Rows L2 L2.Pu
local macro_rules|`(tactic|simp! [$xs,*])=>`(tactic|simp only[aw,aV,gN,cA,bu,aE,q9,lB,nF,oY,oZ,frz,frz1,QK,cD,f2,f1,cn,eG,bS,fL,aF,qD,Eo,zq,KE,fT,dD,gD,oG,gY,a8,ai,au,aa,fC,CA,ar,gB,Q8,Q9,List.set_cons_zero,List.set_cons_succ,CI,CJ,CK,Lu,O1,PV,Nat.reduceAdd,if_true,if_false,Ma,Si,Sb,Cf,decide_true,decide_false,eJ,lU,gR,zv,lV,IM,jC,sH,GN,IN,ir,hJ,Ew,Ex,CD,CF,wI,ux,Qe,Nx,ML,$xs,*])
def cel (ns:List Int) (k:Nat):Int:=ns.getD k 0
theorem zL (ns:List Int) (k:Nat):cR [.scr ns, .int (k:Int)]= .ok (.int (cel ns k)):=by
 unfold cR bi
 simp only[d3,xg,aw,cA,bu,aE,f2,cn,aa,fC,fT,a8,ai,yn,lV,IP,Lu,O1,if_true,Lf,MA,LD,Nat.sub_self,Mu,Q8,Q9,Slot.data,ar,gB]
 by_cases h:k<ns.length
 ·have h':(k:Int)<(ns.length:Int):=by omega
  simp only[h',decide_true,if_true,iu h,Nx,gB,ar]
  simp[cel,h]
 ·have h':¬(k:Int)<(ns.length:Int):=by omega
  simp only[h',decide_false,if_false,Ma,ar]
  simp[cel,PL h]
theorem K8 (ns:List Int):cR [.scr ns, .int 0]= .ok (.int (cel ns 0)):=zL ns 0
def cl (ns:List Int) (k:Nat):Int:=if cel ns 0%2=0 then cel ns k else ((cel ns k+cel ns 0 / 2+7919*(k:Int)+1)*48271%2147483647+(k:Int))*69621%2147483647
theorem qu (ns:List Int) (k:Nat):bQ [.scr ns, .int (k:Int)]= .ok (.int (cl ns k)):=by
 refine bx rfl ?_
 show oh [some (.val (.scr ns)),some (.val (.int (k:Int))),none]=_
 by_cases h:cel ns 0%2=0<;>simp! [oh,K8,zL,h,b9 (show (0:Int)<2 by decide),de (show (0:Int)<2/\(2:Int)<1073741824 by decide),sE (show OQ 48271<18446744073709551616 by decide),sE (show OQ 69621<18446744073709551616 by decide),sG (show OQ 7919<18446744073709551616 by decide),b9 (show (0:Int)<2147483647 by decide),cl]
theorem xq {g:D->ag->R ag} {gb:ag->R bq} {n:Nat} {P:Nat->ag->Prop} (h:∀k,k<n->∀ρ,P k ρ->∃ρ1 ρ2,g (.int (k:Int)) ρ= .ok ρ1/\(gb ρ1= .ok (.nx ρ2)\/gb ρ1= .ok (.cnt ρ2))/\P (k+1) ρ2):∀(j k:Nat) (ρ:ag),k+j=n->P k ρ->∃ρ',eO g gb ((List.range' k j).map λk:Nat=>D.int (k:Int)) ρ= .ok (.nx ρ')/\P n ρ'
 |0,k,ρ,e,hp=>⟨ρ,rfl,by rw[Nat.add_zero]at e;exact e▸hp⟩
 |j+1,k,ρ,e,hp=>by
  obtain⟨ρ1,ρ2,e1,e2,h2⟩:=h k (by omega) ρ hp
  obtain⟨ρ',e3,h3⟩:=xq h j (k+1) ρ2 (by omega) h2
  refine⟨ρ',?_,h3⟩
  rw[List.range'_succ,Lf]
  rcases e2 with e2|e2
  ·rw[mS e1 e2,e3]
  ·rw[CH e1 e2,e3]
theorem pH {g:D->ag->R ag} {gb:ag->R bq} {n:Nat} {P:Nat->ag->Prop} {fs:ag->R (List D)} {ρ:ag} (hf:fs ρ= .ok [.int (n:Int)]) (hn:n<=1000) (h0:P 0 ρ) (h:∀k,k<n->∀ρ,P k ρ->∃ρ1 ρ2,g (.int (k:Int)) ρ= .ok ρ1/\(gb ρ1= .ok (.nx ρ2)\/gb ρ1= .ok (.cnt ρ2))/\P (k+1) ρ2):∃ρ',lB (dN fs) g gb ρ= .ok (.nx ρ')/\P n ρ':=by
 obtain⟨ρ',e,hp⟩:=xq h n 0 ρ (by omega) h0
 rw[<-List.range_eq_range']at e
 exact⟨ρ',(sI (mT hf (by unfold lim;omega))).trans e,hp⟩
theorem Dg {α β:Type} (f:α->β) {l:List α} {k:Nat} (h:k<l.length):(l.take (k+1)).map f=(l.take k).map f++[f l[k]]:=by
 rw[<-List.take_append_getElem h,LU];rfl
inductive Wf:Nat->D->Prop
 |int (n:Nat) (i:Int):Wf n (.int i)
 |bl (n:Nat) (b:Bool):Wf n (.bl b)
 |str (n:Nat) (x:L3):Wf n (.str x)
 |non (n:Nat):Wf n .non
 |tup {n:Nat} {ds:List D}:ds.length<=1000->(∀d∈ds,Wf n d)->Wf (n+1) (.tup ds)
theorem Wf.up {n:Nat} {d:D} (h:Wf n d):∀k,Wf (n+k) d:=by
 induction h with
 |int n i=>exact λk=> .int _ i
 |bl n b=>exact λk=> .bl _ b
 |str n x=>exact λk=> .str _ x
 |non n=>exact λk=> .non _
 | @tup n ds h1 h2 ih=>exact λk=>by rw[Nat.add_right_comm];exact .tup h1 λd hd=>ih d hd k
theorem B4 {W8:List D->R D} {ds:List D} (h:∀d∈ds,W8 [d,d]= .ok (.bl true)) {k:Nat} (hk:k<ds.length):
  jE W8 [some (.val (.tup ds)),some (.val (.tup ds)),some (.val (.int (k:Int)))]= .ok (.nx [some (.val (.tup ds)),some (.val (.tup ds)),some (.val (.int (k:Int)))]):=by
 have hr:=h ds[k] (OA hk)
 simp! [jE,iu hk,hr]
theorem uN {W8:List D->R D} {ds:List D} (h:∀d∈ds,W8 [d,d]= .ok (.bl true)):∀(ks:List Nat) (x:Option Slot),(∀k∈ks,k<ds.length)->
  ∃y,eO (gN 2) (jE W8) (ks.map λk:Nat=>D.int (k:Int)) [some (.val (.tup ds)),some (.val (.tup ds)),x]= .ok (.nx [some (.val (.tup ds)),some (.val (.tup ds)),y])
 |[],x,_=>⟨x,rfl⟩
 |k::ks,x,hk=>by
  obtain⟨y,e⟩:=uN h ks (some (.val (.int (k:Int)))) λj hj=>hk j (Lp _ hj)
  exact⟨y,by rw[Lf,mS rfl (B4 h (hk k Lo)),e]⟩
theorem t9 {x y:L3}:dq (.str x) (.str y)=some (.bl (decide (x=y))):=rfl
theorem B5 {n:Nat} {d:D} (h:Wf n d):dH (n+1) [d,d]= .ok (.bl true):=by
 induction h with
 |int n i=>
  refine bx rfl ?_
  show dW (dH n) [some (.val (.int i)),some (.val (.int i)),none]=_
  have a:wz (.int i) .non=some (.bl false):=rfl
  have b:q_ "str" (.int i)=some (.bl false):=rfl
  simp! [dW,qa,GP,GQ,GR,a,b]
 |bl n i=>
  refine bx rfl ?_
  show dW (dH n) [some (.val (.bl i)),some (.val (.bl i)),none]=_
  have a:wz (.bl i) .non=some (.bl false):=rfl
  have b:q_ "bool" (.bl i)=some (.bl true):=rfl
  have c:q_ "tuple" (.bl i)=some (.bl false):=rfl
  simp! [dW,qa,a,b,c]
 |str n i=>
  refine bx rfl ?_
  show dW (dH n) [some (.val (.str i)),some (.val (.str i)),none]=_
  have a:wz (.str i) .non=some (.bl false):=rfl
  have b:q_ "bool" (.str i)=some (.bl false):=rfl
  have c:q_ "tuple" (.str i)=some (.bl false):=rfl
  have d:q_ "str" (.str i)=some (.bl true):=rfl
  simp! [dW,qa,a,b,c,d,t9]
 |non n=>rfl
 | @tup n ds h1 h2 ih=>
  obtain⟨y,e⟩:=uN ih (LZ ds.length) none λk hk=>ME.mp hk
  refine bx rfl ?_
  show dW (dH (n+1)) [some (.val (.tup ds)),some (.val (.tup ds)),none]=_
  have hr:dN (a8 (cn c9 (a8 (aa 1) (ai))) (ai)) [some (.val (.tup ds)),some (.val (.tup ds)),none]= .ok ((LZ ds.length).map λk:Nat=>D.int (k:Int)):=mT (n:=ds.length) (by simp! []) (by unfold lim;omega)
  simp! [dW,qa,GO,hr,e]
theorem ju {n:Nat} (hn:n<=7) {d:D} (h:Wf n d):bn [d,d]= .ok (.bl true):=by
 have:=B5 (h.up (7 - n))
 rw[show n+(7 - n)+1=8 by omega]at this
 exact this
theorem zM (ns:List Int) (h:ns.length<=1000):Wf 1 (.tup (ns.map .int)):= .tup (by simpa using h) λd hd=>by obtain⟨i,_,rfl⟩:=MU.mp hd;exact .int 0 i
theorem vF {α:Type} {n:Nat} {f:α->D} {l:List α} (hl:l.length<=1000) (h:∀a∈l,Wf n (f a)):Wf (n+1) (.tup (l.map f)):= .tup (by simpa using hl) λd hd=>by obtain⟨a,ha,rfl⟩:=MU.mp hd;exact h a ha
abbrev zN:=Int×Int×Int
def d7 (r:zN):D:= .tup [.int r.1, .int r.2.1, .int r.2.2]
def lh (n:Int) (now:D):List (L3×D):=[("tanks", .int n),("now",now)]
def aA (n:Int) (now:D) (hs:List D):Slot:= .cel "Cellar" (lh n now) "history" hs
theorem Dh (n:Int) (now:D):(lh n now).lookup ("tanks":L3)=some (D.int n):=rfl
theorem tf (n:Int) (now:D):(lh n now).lookup ("now":L3)=some now:=rfl
theorem zO (n:Int) (now d:D):AV "now" d (lh n now)=lh n d:=rfl
theorem fK {cls g:L3} {f:ag->R D} {ρ:ag} {fds:List (L3×D)} {d:D} (h:f ρ= .ok (.ins cls fds)) (h2:fds.lookup g=some d):cE cls g f ρ= .ok d:=by
 unfold cE
 rw[h,ar]
 dsimp only
 rw[if_pos rfl,h2,gB]
theorem rN {i:Nat} {g:L3} {ρ:ag} {n:Int} {now d:D} {hs:List D} (h:ρ[i]? =some (some (aA n now hs))) (h2:(lh n now).lookup g=some d):d4 i "Cellar" g ρ= .ok d:=by
 unfold d4
 rw[h]
 show (if ("Cellar":L3)="Cellar" then R.of ((lh n now).lookup g)else .bad)=_
 rw[if_pos rfl,h2,gB]
theorem rO {i:Nat} {ρ:ag} {n:Int} {now:D} {hs:List D} (h:ρ[i]? =some (some (aA n now hs))):qK i "Cellar" "history" ρ= .ok (.lst hs):=by
 unfold qK
 rw[h]
 exact if_pos ⟨rfl,rfl⟩
theorem li {g g':ag->R bq} {ρ ρ':ag} {x:L3} (h:g ρ= .err x ρ'):aw g g' ρ= .err x ρ':=by
 unfold aw
 rw[h];rfl
theorem pI {g g':ag->R bq} {ρ ρ':ag} {d:D} (h:g ρ= .ok (.retc d ρ')):aw g g' ρ= .ok (.retc d ρ'):=by
 unfold aw
 rw[h,ar]
theorem dE {gc:ag->R Bool} {g g':ag->R bq} {ρ:ag} (h:gc ρ= .ok true):cA gc g g' ρ=g ρ:=by unfold cA;rw[h,ar];rfl
theorem bR {gc:ag->R Bool} {g g':ag->R bq} {ρ:ag} (h:gc ρ= .ok false):cA gc g g' ρ=g' ρ:=by unfold cA;rw[h,ar];rfl
theorem bt {f:ag->R D} {ρ:ag} {b:Bool} (h:f ρ= .ok (.bl b)):fT f ρ= .ok b:=by unfold fT;rw[h,ar]
theorem jX {f:ag->R D} {ρ:ag} {b:Bool} (h:f ρ= .ok (.bl b)):dD f ρ= .ok b:=by unfold dD;rw[h,ar];rfl
theorem pJ {x:L3} {s:L3} {ρ:ag}:cO x (a8 (fC (.str s)) ai) ρ= .err x ρ:=by
 unfold cO a8 fC ai
 simp only[ar]
 exact if_pos (show 1<=lim by decide)
theorem bM {fs:ag->R (List D)} {ρ:ag} {ds:List D} (h:fs ρ= .ok ds) (hl:ds.length<=lim):bS fs ρ= .ok (.tup ds):=by unfold bS;rw[h,ar,if_pos hl]
theorem ES {f:ag->R D} {ρ:ag} {d:D} (h:f ρ= .ok d):ii f ρ= .ok (.nx ρ):=by unfold ii;rw[h,ar]
theorem xr {f:ag->R D} {ρ ρ':ag} {x:L3} (h:f ρ= .err x ρ'):ii f ρ= .err x ρ':=by unfold ii;rw[h];rfl
theorem xt {m:List D->R D} {n:Nat} {fs:ag->R (List D)} {ρ ρ':ag} {ds:List D} {x:L3} (h:fs ρ= .ok ds) (hl:ds.length=n) (hm:m ds= .err x ρ'):aF m n fs ρ= .err x ρ:=by
 unfold aF
 rw[h,ar,if_pos hl,hm]
theorem iU {cls m:L3} {n:Nat} {r:List D->R D} {fo:ag->R D} {fs:ag->R (List D)} {ρ:ag} {fds:List (L3×D)} {ds:List D} {z:D} (h1:fo ρ= .ok (.ins cls fds)) (h2:fs ρ= .ok ds) (hl:ds.length+1=n) (e:r (.ins cls fds::ds)= .ok z) (hm:fds.lookup m=none):fF cls m n r fo fs ρ= .ok z:=by
 unfold fF
 rw[h1,ar]
 dsimp only
 rw[if_pos ⟨rfl,hm⟩,h2,ar,if_pos hl,e]
theorem yw {i:Nat} {mf:List Slot->List D->R (D×List Slot)} {k:Nat} {fs:ag->R (List D)} {ρ:ag} {ds:List D} {n n':Int} {now UP d:D} {hs T3:List D} (h:ρ[i]? =some (some (aA n now hs))) (h2:fs ρ= .ok ds) (hl:ds.length=k) (e:mf [aA n now hs] ds= .ok (d,[aA n' UP T3])):
  dQ [i] mf k fs ρ= .ok (d,ρ.set i (some (aA n' UP T3))):=by
 unfold dQ
 have Xv:ft ρ [i]=some [aA n now hs]:=by unfold ft ft;rw[h];rfl
 rw[Xv]
 dsimp only
 rw[if_pos ⟨rfl,by simp⟩,h2,ar,if_pos hl,e]
 dsimp only
 rw[if_pos (show Q3 Slot.kind [aA n' UP T3]=Q3 Slot.kind [aA n now hs]from rfl)]
 rfl
theorem vG {i:Nat} {mf:List Slot->List D->R (D×List Slot)} {k:Nat} {fs:ag->R (List D)} {ρ ρe:ag} {ds:List D} {n:Int} {now:D} {hs:List D} {x:L3} (h:ρ[i]? =some (some (aA n now hs))) (h2:fs ρ= .ok ds) (hl:ds.length=k) (e:mf [aA n now hs] ds= .err x ρe) (ht:dG 1 ρe=some [aA n now hs]) (hi:ρ.set i (some (aA n now hs))=ρ):
  dQ [i] mf k fs ρ= .err x ρ:=by
 unfold dQ
 have T3:ft ρ [i]=some [aA n now hs]:=by unfold ft ft;rw[h];rfl
 rw[T3]
 dsimp only
 rw[if_pos ⟨rfl,by simp⟩,h2,ar,if_pos hl,e]
 dsimp only
 rw[show dG [i].length ρe=some [aA n now hs]from ht]
 dsimp only
 rw[if_pos rfl]
 show R.err x (ρ.set i (some (aA n now hs)))=_
 rw[hi]
theorem vH {i:Nat} {m:L3} {fx:ag->R (D×ag)} {ρ:ag} {n:Int} {now:D} {hs:List D} (h:ρ[i]? =some (some (aA n now hs))) (h1:m≠"history":=by decide) (h2:(lh n now).lookup m=none:=by rfl):kS i "Cellar" m fx ρ=fx ρ:=by
 unfold kS
 rw[h]
 exact if_pos ⟨rfl,h1,h2⟩
theorem Di {fx:ag->R (D×ag)} {ρ ρ':ag} {d:D} (h:fx ρ= .ok (d,ρ')):je fx ρ= .ok (.nx ρ'):=by unfold je;rw[h,ar]
theorem B6 {fx:ag->R (D×ag)} {ρ ρ':ag} {x:L3} (h:fx ρ= .err x ρ'):je fx ρ= .err x ρ':=by unfold je;rw[h];rfl
theorem fD {nm k n:Nat} {g:ag->R bq} {ss ss':List Slot} {ds:List D} {d:D} {ρ:ag} (h:ss.length=nm/\ds.length=k) (e:g (fV n ss ds)= .ok (.retc d ρ)) (ht:dG nm ρ=some ss'):iw nm k n g ss ds= .ok (d,ss'):=by
 unfold iw
 rw[if_pos h,e]
 dsimp only
 rw[ht]
theorem zP {nm k n:Nat} {g:ag->R bq} {ss ss':List Slot} {ds:List D} {ρ:ag} (h:ss.length=nm/\ds.length=k) (e:g (fV n ss ds)= .ok (.nx ρ)) (ht:dG nm ρ=some ss'):iw nm k n g ss ds= .ok (.non,ss'):=by
 unfold iw
 rw[if_pos h,e]
 dsimp only
 rw[ht]
theorem pK {nm k n:Nat} {g:ag->R bq} {ss:List Slot} {ds:List D} {x:L3} {ρ:ag} (h:ss.length=nm/\ds.length=k) (e:g (fV n ss ds)= .err x ρ):iw nm k n g ss ds= .err x ρ:=by
 unfold iw
 rw[if_pos h,e]
theorem Dj {k n:Nat} {g:ag->R bq} {ds:List D} {x:L3} {ρ:ag} (h:ds.length=k) (e:g (d3 n ds)= .err x ρ):bi k n g ds= .err x ρ:=by
 unfold bi
 rw[if_pos h,e];rfl
theorem pL {f:ag->R D} {ρ:ag} {d:D} (h:f ρ= .ok d):gT f ρ= .ok (.retc d ρ):=by unfold gT;rw[h,ar]
theorem kA {α:Type} {gt:ag->R Bool} {fe:ag->R D} {enc out:α->D} {p:α->Bool} {a0:Option Slot} {rest:ag}:∀(xs:List α) (v:Option Slot),(∀x∈xs,gt (a0::some (.val (enc x))::rest)= .ok (p x))->(∀x∈xs,p x=true->fe (a0::some (.val (enc x))::rest)= .ok (out x))->
  lN (gN 1) gt fe (xs.map enc) (a0::v::rest)= .ok ((xs.filter p).map out)
 |[],v,h1,h2=>rfl
 |x::xs,v,h1,h2=>by
  have e1:=h1 x Lo
  have ih:=kA (gt:=gt) (fe:=fe) (enc:=enc) (out:=out) (p:=p) (a0:=a0) (rest:=rest) xs (some (.val (enc x))) (λy hy=>h1 y (Lp _ hy)) (λy hy=>h2 y (Lp _ hy))
  rw[Lf,lN]
  show (gt (a0::some (.val (enc x))::rest)>>=λb=>if b=true then (fe (a0::some (.val (enc x))::rest)>>=λy=>lN (gN 1) gt fe (xs.map enc) (a0::some (.val (enc x))::rest)>>=λys=> .ok (y::ys))else lN (gN 1) gt fe (xs.map enc) (a0::some (.val (enc x))::rest))=_
  rw[e1,ar,ih]
  cases q:p x with
  |true=>rw[if_pos rfl,h2 x Lo q,ar,ar,Q4,if_pos q];rfl
  |false=>rw[if_neg (by simp),Q4,if_neg (by rw[q];simp)]
theorem oB {α:Type} (xs:List α):xs.filter (λ_=>true)=xs:=by simp
theorem DI {x:D} {r:List D}:aQ (.tup (x::r)) (.int 0)=some x:=by
 rw[ux]
 have:=iu (xs:=x::r) (k:=0) (by simp)
 simpa using this
theorem K9 {x y:D} {r:List D}:aQ (.tup (x::y::r)) (.int 1)=some y:=by
 rw[ux]
 have:=iu (xs:=x::y::r) (k:=1) (by simp)
 simpa using this
theorem J9 {x:D} {r:List D}:aQ (.lst (x::r)) (.int 0)=some x:=by
 rw[wI]
 have:=iu (xs:=x::r) (k:=0) (by simp)
 simpa using this
theorem Ja {x y:D} {r:List D}:aQ (.lst (x::y::r)) (.int 1)=some y:=by
 rw[wI]
 have:=iu (xs:=x::y::r) (k:=1) (by simp)
 simpa using this
theorem pM {r:zN}:aQ (d7 r) (.int 0)=some (.int r.1):=DI
abbrev Rd:=Int×Int
def jx (r:Rd):D:= .tup [.int r.1, .int r.2]
structure Dk where
 ss:List zN
 ri:List Int
 rd:List Rd
structure Mo where
 c:Int
 ss:List zN
 ms:List Int
 mm:List Int
 ds:List Dk
 dd:List D
def Dl (n:Int) (d:Dk):List (L3×D):=[("tanks", .int n),("streams", .tup (d.ss.map d7)),("rises", .tup (d.ri.map .int)),("readings", .tup (d.rd.map jx))]
def tj (n:Int) (d:Dk):D:= .ins "Day" (Dl n d)
def uO (n:Int) (m:Mo):List (L3×D):=[("came", .int m.c),("streams", .tup (m.ss.map d7)),("meters", .tup (m.ms.map .int)),("passed", .tup (m.ds.map (tj n)))]
def bw (n:Int) (m:Mo):D:= .ins "Standing" (uO n m)
abbrev Mo.nu (m:Mo):List Int:=m.ss.map (·.1)
theorem mZ (n:Int) (m:Mo):(uO n m).lookup ("came":L3)=some (D.int m.c):=rfl
theorem dY (n:Int) (m:Mo):(uO n m).lookup ("streams":L3)=some (D.tup (m.ss.map d7)):=rfl
theorem eE (n:Int) (m:Mo):(uO n m).lookup ("meters":L3)=some (D.tup (m.ms.map .int)):=rfl
theorem gq (n:Int) (m:Mo):(uO n m).lookup ("passed":L3)=some (D.tup (m.ds.map (tj n))):=rfl
def Mo.comes (m:Mo) (a b:Int):Mo:={m with c:=m.c+1,ss:=m.ss++[(m.c+1,a,b)],dd:=m.dd++[.tup [.str "stream comes", .int a, .int b]]}
def Mo.goes (m:Mo) (a:Int):Mo:={m with ss:=m.ss.filter λr=>decide (r.1≠a),ms:=m.ms.filter λx=>decide (x≠a),mm:=m.mm.filter λx=>decide (x≠a),dd:=m.dd++[.tup [.str "stream goes", .int a]]}
def Mo.mcome (m:Mo) (ns:List Int):Mo:={m with ms:=m.ms++ns,mm:=cW (m.mm++ns),dd:=m.dd++[.tup [.str "meters come", .tup (ns.map .int)]]}
def Mo.mgo (m:Mo) (ns:List Int):Mo:={m with ms:=m.ms.filter λx=> !decide (x∈ns),mm:=m.mm.filter λx=> !decide (x∈ns),dd:=m.dd++[.tup [.str "meters go", .tup (ns.map .int)]]}
def xI (rd:List Rd):List Rd:=rd.mergeSort λa b=>decide (a.1<=b.1)
def Mo.passes (m:Mo) (ri:List Int) (rd:List Rd):Mo:={m with ds:=m.ds++[⟨m.ss,ri,xI rd⟩],dd:=m.dd++[.tup [.str "day passes", .tup (ri.map .int), .tup (rd.map jx)]]}
structure Mo.Ok (m:Mo):Prop where
 inc:m.ss.Pairwise λa b=>a.1<b.1
 le:∀r∈m.ss,r.1<=m.c
 len:m.ss.length<=12
 per:m.mm.Perm m.ms
 nd:m.ms.Nodup
 sub:∀x∈m.ms,x∈m.nu
 ten:m.ms.length<=10
 dl:m.ds.length<=12
theorem kB (rd:List Rd):rd.Perm (xI rd):=(List.mergeSort_perm rd _).symm
theorem zQ {rd:List Rd} (h:(rd.map (·.1)).Nodup):(xI rd).Pairwise λa b=>a.1<b.1:=by
 have h1:(xI rd).Pairwise λa b=>decide (a.1<=b.1)=true:=List.pairwise_mergeSort (λa b c h1 h2=>by simp only[decide_eq_true_eq]at*;omega) (λa b=>by simp only[Qi,decide_eq_true_eq];omega) rd
 have h2:((xI rd).map (·.1)).Nodup:=((kB rd).map (·.1)).nodup_iff.mp h
 rw[List.Nodup,Nc]at h2
 refine(h1.and h2).imp λ{a b} h=> ?_
 have:=of_decide_eq_true h.1
 have:=h.2
 omega
theorem pN {fs:ag->R (List D)} {ρ:ag} {a b c d:D} (h:fs ρ= .ok [a,b,c,d]):lX "Standing" 4 b6 fs ρ= .ok (.ins "Standing" [("came",a),("streams",b),("meters",c),("passed",d)]):=by
 unfold lX
 rw[h,ar,if_pos (show [a,b,c,d].length=4 from rfl),show b6 [a,b,c,d]= .ok [("came",a),("streams",b),("meters",c),("passed",d)]from rfl]
theorem iH {a b:List D} (h:a.length+b.length<=1000):bD (.tup a) (.tup b)=some (.tup (a++b)):=if_pos (by unfold lim;omega)
theorem vI {a b:Int}:sD (.int a) (.int b)=some (.bl (decide (a≠b))):=by rw[zv];first|rfl|simp
section
variable {n:Int} {m:Mo} {hs:List D}
theorem vW {x:List (Option Slot)} {g:L3} {d:D} (h:(uO n m).lookup g=some d):cE "Standing" g (aa 0) (some (.val (bw n m))::x)= .ok d:=fK rfl h
theorem qv (g:m.Ok) (a b:Int):cq [bw n m, .int a, .int b]= .ok (bw n (m.comes a b)):=by
 refine bx rfl ?_
 show dS [some (.val (bw n m)),some (.val (.int a)),some (.val (.int b)),none]=_
 unfold dS
 rw[av (ρ':=[some (.val (bw n m)),some (.val (.int a)),some (.val (.int b)),some (.val (.int (m.c+1)))]) (aY (aj (vW (mZ n m)) rfl rfl) rfl)]
 refine cN ((pN (a9 rfl (a9 (aj (vW (dY n m)) (bM (ds:=[d7 (m.c+1,a,b)]) (a9 (bM (ds:=[.int (m.c+1), .int a, .int b]) rfl (show 3<=lim by decide)) rfl) (show 1<=lim by decide)) (iH (by have:=g.len;simp;omega))) (a9 (vW (eE n m)) (a9 (vW (gq n m)) rfl))))).trans ?_)
 simp only[bw,uO,Mo.comes,LU,Lf,MA,d7]
theorem vJ {x:List (Option Slot)} {g:L3} {l:List D} (h:(uO n m).lookup g=some (.tup l)):cD (cE "Standing" g (aa 0)) (some (.val (bw n m))::x)= .ok l:=by
 unfold cD
 rw[vW h,ar]
theorem nz (g:m.Ok) (a:Int):bT [bw n m, .int a]= .ok (bw n (m.goes a)):=by
 refine bx rfl ?_
 show da [some (.val (bw n m)),some (.val (.int a)),none,none]=_
 unfold da
 rw[av (ρ':=[some (.val (bw n m)),some (.val (.int a)),some (.val (.tup ((m.ss.filter λr=>decide (r.1≠a)).map d7))),none]) (aY (aR (a9 (nZ (fR (vJ (dY n m)) (by have:=g.len;simp;unfold lim;omega) (τ:=[none,none,some (.val (.int a))]) rfl (kA (p:=λr:zN=>decide (r.1≠a)) (out:=d7) m.ss none (λr _=>bt (aj (aj rfl rfl pM) rfl vI)) (λr _ _=>rfl)))) rfl) rfl) rfl)]
 rw[av (ρ':=[some (.val (bw n m)),some (.val (.int a)),some (.val (.tup ((m.ss.filter λr=>decide (r.1≠a)).map d7))),some (.val (.tup ((m.ms.filter λr=>decide (r≠a)).map .int)))]) (aY (aR (a9 (nZ (fR (vJ (eE n m)) (by have:=g.ten;simp;unfold lim;omega) (τ:=[none,none,some (.val (.int a))]) rfl (kA (p:=λr:Int=>decide (r≠a)) (out:= .int) m.ms none (λr _=>bt (aj (a:= .int r) rfl rfl vI)) (λr _ _=>rfl)))) rfl) rfl) rfl)]
 exact cN (pN (a9 (vW (mZ n m)) (a9 rfl (a9 rfl (a9 (vW (gq n m)) rfl)))))
def f7 (d:D) (row:List Int):Prop:=d= .lst (row.map .int)\/d= .tup (row.map .int)
theorem f7.seq {d:D} {row:List Int} (h:f7 d row) {ρ:ag} {f:ag->R D} (e:f ρ= .ok d):cD f ρ= .ok (row.map .int):=by
 unfold cD
 rw[e]
 rcases h with rfl|rfl<;>rfl
theorem f7.len {d:D} {row:List Int} (h:f7 d row):c9 [d]=some (.int (row.length:Int)):=by
 rcases h with rfl|rfl
 ·rw[ir,L7]
 ·rw[hJ,L7]
theorem f7.set {d:D} {row:List Int} (h:f7 d row) (hl:row.length<4000) {ρ:ag} {f:ag->R D} (e:f ρ= .ok d):rM f ρ= .ok (.int (L2.gz row)):=by
 unfold rM
 rw[e]
 rcases h with rfl|rfl<;>simp only[ar,kL,hl,if_true]
theorem f7.out {d:D} {row:List Int} (h:f7 d row) (k:Int):hE true (.int k) d=some (.bl (!decide (k∈row))):=by
 rcases h with rfl|rfl
 ·exact lW
 ·exact p9
theorem f7.tup {d:D} {row:List Int} (h:f7 d row):bX [d]=some (.tup (row.map .int)):=by rcases h with rfl|rfl<;>rfl
theorem qw (g:m.Ok) {d:D} {ns:List Int} (h:f7 d ns) (hl:ns.length<=100):cr [bw n m,d]= .ok (bw n (m.mcome ns)):=by
 refine bx rfl (cN ((pN (a9 (vW (x:=[some (.val d)]) (mZ n m)) (a9 (vW (dY n m)) (a9 (aj (vW (eE n m)) (aR (a9 rfl rfl) h.tup) (iH (by have:=g.ten;simp;omega))) (a9 (vW (gq n m)) rfl))))).trans ?_))
 simp only[bw,uO,Mo.mcome,LU]
theorem nA (g:m.Ok) {d:D} {ns:List Int} (h:f7 d ns):bU [bw n m,d]= .ok (bw n (m.mgo ns)):=by
 refine bx rfl ?_
 show dc [some (.val (bw n m)),some (.val d),none]=_
 unfold dc
 rw[av (ρ':=[some (.val (bw n m)),some (.val d),some (.val (.tup ((m.ms.filter λr=> !decide (r∈ns)).map .int)))]) (aY (aR (a9 (nZ (fR (vJ (eE n m)) (by have:=g.ten;simp;unfold lim;omega) (τ:=[none,none,some (.val d)]) rfl (kA (p:=λr:Int=> !decide (r∈ns)) (out:= .int) m.ms none (λr _=>bt (aj (a:= .int r) rfl rfl (h.out r))) (λr _ _=>rfl)))) rfl) rfl) rfl)]
 exact cN (pN (a9 (vW (mZ n m)) (a9 (vW (dY n m)) (a9 rfl (a9 (vW (gq n m)) rfl)))))
theorem u0 (g:m.Ok) (ri:List Int) (rd:List Rd):cP [bw n m,tj n ⟨m.ss,ri,xI rd⟩]= .ok (bw n (m.passes ri rd)):=by
 refine bx rfl (cN ((pN (a9 (vW (x:=[some (.val (tj n ⟨m.ss,ri,xI rd⟩))]) (mZ n m)) (a9 (vW (dY n m)) (a9 (vW (eE n m)) (a9 (aj (vW (gq n m)) (bM (ds:=[tj n ⟨m.ss,ri,xI rd⟩]) (a9 rfl rfl) (show 1<=lim by decide)) (iH (by have:=g.dl;simp;omega))) rfl))))).trans ?_))
 simp only[bw,uO,Mo.passes,LU,Lf,MA]
end
theorem vK:∀(ns U4:List Int),U4.Nodup->(ns.foldl Of U4).length<=U4.length+ns.length/\((ns.foldl Of U4).length=U4.length+ns.length<->(U4++ns).Nodup)
 |[],U4,h=>⟨by simp,by simpa using h⟩
 |k::ns,U4,h=>by
  rw[RX]
  unfold Of
  by_cases hk:k∈U4
  ·have e:U4.any (·==k)=true:=Mc.mpr ⟨k,hk,by simp⟩
   rw[if_pos e]
   obtain⟨h1,_⟩:=vK ns U4 h
   refine⟨by rw[Lu];exact Pk h1,λz=> ?_,λz=> ?_⟩
   ·rw[Lu]at z
    have:=h1
    unfold Of at this
    omega
   ·exact absurd rfl ((ND.mp z).2.2 k hk k Lo)
  ·have e:¬U4.any (·==k)=true:=λz=>by
    obtain⟨x,hx,a3q⟩:=Mc.mp z
    have:x=k:=by simpa using a3q
    exact hk (this▸hx)
   rw[if_neg e]
   have hn:(U4++[k]).Nodup:=ND.mpr ⟨h,by simp,λa ha b hb=>by
    have:b=k:=by simpa using hb
    subst this
    intro z
    exact hk (z▸ha)⟩
   obtain⟨h1,h2⟩:=vK ns (U4++[k]) hn
   rw[LO,N8]at h1 h2
   rw[Ol]at h2
   rw[Lu]
   unfold Of at h1 h2
   refine⟨by omega,?_⟩
   rw[show U4.length+(ns.length+1)=U4.length+1+ns.length by omega]
   exact h2
theorem yx (ns:List Int):(LZ ns.length).map (λi=>ns.getD i 0)=ns:=by
 apply RP
 ·simp
 ·intro i h1 h2
  simp[h2]
theorem xu (ns:List Int):decide ((L2.gz ns:Int)<(ns.length:Int))= !decide ns.Nodup:=by
 have e:L2.gz ns=(ns.foldl Of []).length:=by
  unfold L2.gz RM
  rw[yx]
 obtain⟨h1,h2⟩:=vK ns [] Sa
 rw[O1,PV]at h1 h2
 rw[Qe]at h2
 rw[e]
 by_cases h:ns.Nodup
 ·have:=h2.mpr h
  simp[h,this]
 ·have:(ns.foldl Of []).length≠ns.length:=λz=>h (h2.mp z)
  simp[h]
  omega
def fG (a b:L3):L3:=if a="" then b else a
def iP (b:Bool) (w:L3):L3:=if b=true then w else ""
def Ho (r:R D) (w:L3):Prop:=(w≠""->∃ρ,r= .err w ρ)/\(w=""->r= .ok .non)
def pP (g:ag->R bq) (ρ:ag) (w:L3) (r:R bq):Prop:=(w≠""->∃ρe,g ρ= .err w ρe/\dG 1 ρe=dG 1 ρ)/\(w=""->g ρ=r)
def nB (r:R (D×List Slot)) (s:Slot) (w:L3) (a:D) (s':Slot):Prop:=(w≠""->∃ρ,r= .err w ρ/\dG 1 ρ=some [s])/\(w=""->r= .ok (a,[s']))
theorem iV {m:List D->R D} {k:Nat} {fs:ag->R (List D)} {ρ:ag} {ds:List D} {g':ag->R bq} {w w':L3} {r:R bq} (h:fs ρ= .ok ds) (hl:ds.length=k) (hr:Ho (m ds) w) (h2:pP g' ρ w' r):pP (aw (ii (aF m k fs)) g') ρ (fG w w') r:=by
 by_cases e:w=""
 ·have:aw (ii (aF m k fs)) g' ρ=g' ρ:=av (ES (aW h hl (hr.2 e)))
  unfold fG pP
  rw[if_pos e,this];exact h2
 ·unfold fG
  rw[if_neg e]
  obtain⟨ρe,e1⟩:=hr.1 e
  exact⟨λ_=>⟨ρ,li (xr (xt h hl e1)),rfl⟩,λz=>absurd z e⟩
theorem mJ {t:ag->R Bool} {ρ:ag} {b:Bool} {x s w':L3} {g':ag->R bq} {r:R bq} (h:t ρ= .ok b) (h2:pP g' ρ w' r) (hx:x≠"":=by decide):pP (aw (cA t (cO x (a8 (fC (.str s)) ai)) aE) g') ρ (fG (iP b x) w') r:=by
 cases b with
 |true=>
  have:fG (iP true x) w'=x:=by unfold fG iP;rw[if_pos rfl,if_neg hx]
  rw[this]
  exact⟨λ_=>⟨ρ,li (by rw[dE h];exact pJ),rfl⟩,λz=>absurd z hx⟩
 |false=>
  have:fG (iP false x) w'=w':=rfl
  have e:aw (cA t (cO x (a8 (fC (.str s)) ai)) aE) g' ρ=g' ρ:=av (by rw[bR h];rfl)
  unfold pP
  rw[this,e];exact h2
theorem yy {g g':ag->R bq} {ρ ρ':ag} {w:L3} {r:R bq} (h:g ρ= .ok (.nx ρ')) (ht:dG 1 ρ'=dG 1 ρ) (h2:pP g' ρ' w r):pP (aw g g') ρ w r:=by
 unfold pP
 rw[av h,<-ht];exact h2
theorem zR {g:ag->R bq} {ρ ρ':ag} {w:L3} {f:ag->R D} {d:D} (h:pP g ρ w (.ok (.nx ρ'))) (hf:f ρ'= .ok d):pP (aw g (gT f)) ρ w (.ok (.retc d ρ')):=
 ⟨λz=>by obtain⟨ρe,e,t⟩:=h.1 z;exact⟨ρe,li e,t⟩,λz=>by rw[av (h.2 z)];exact pL hf⟩
theorem zS {g g':ag->R bq} {ρ ρ':ag} {w:L3} {r:R bq} {L:List Nat} (hf:frz L ρ=ρ') (ht:dG 1 ρ'=dG 1 ρ) (h:pP (aw g g') ρ' w r):pP (aw (q9 L g) g') ρ w r:=by
 have:aw (q9 L g) g' ρ=aw g g' ρ':=by unfold aw q9;rw[hf]
 unfold pP
 rw[this,<-ht];exact h
theorem vL {g:ag->R bq} {k n:Nat} {s s':Slot} {ds:List D} {w:L3} {ρ':ag} (hl:ds.length=k) (h:pP g (fV n [s] ds) w (.ok (.nx ρ'))) (ht:dG 1 ρ'=some [s']):nB (iw 1 k n g [s] ds) s w .non s':=
 ⟨λz=>by obtain⟨ρe,e,t⟩:=h.1 z;exact⟨ρe,pK ⟨rfl,hl⟩ e,t⟩,λz=>zP ⟨rfl,hl⟩ (h.2 z) ht⟩
theorem m_ {g:ag->R bq} {k n:Nat} {s s':Slot} {ds:List D} {w:L3} {ρ':ag} {d:D} (hl:ds.length=k) (h:pP g (fV n [s] ds) w (.ok (.retc d ρ'))) (ht:dG 1 ρ'=some [s']):nB (iw 1 k n g [s] ds) s w d s':=
 ⟨λz=>by obtain⟨ρe,e,t⟩:=h.1 z;exact⟨ρe,pK ⟨rfl,hl⟩ e,t⟩,λz=>fD ⟨rfl,hl⟩ (h.2 z) ht⟩
theorem pQ {t:ag->R Bool} {ρ:ag} {b:Bool} {x s:L3} (h:t ρ= .ok b) (hx:x≠"":=by decide):pP (cA t (cO x (a8 (fC (.str s)) ai)) aE) ρ (iP b x) (.ok (.nx ρ)):=by
 cases b with
 |true=>exact⟨λ_=>⟨ρ,by rw[dE h];exact pJ,rfl⟩,λz=>absurd z hx⟩
 |false=>exact⟨λz=>absurd rfl z,λ_=>by rw[bR h];rfl⟩
theorem vM {g:ag->R bq} {k n:Nat} {ds:List D} {w:L3} {ρ':ag} (hl:ds.length=k) (h:pP g (d3 n ds) w (.ok (.nx ρ'))):Ho (bi k n g ds) w:=
 ⟨λz=>by obtain⟨ρe,e,_⟩:=h.1 z;exact⟨ρe,Dj hl e⟩,λz=>GS hl (h.2 z)⟩
theorem Hq {α:Type} (l:List α) (p:α->Bool):vt [.lst ((l.filter λ_=>true).map λx=>D.bl (p x))]=some (.bl (l.any p)):=by
 rw[oB]
 show (jg (l.map λx=>D.bl (p x))).map (λbs=>D.bl (bs.any id))=_
 rw[show l.map (λx=>D.bl (p x))=(l.map p).map .bl by rw[Mr];rfl,AX]
 show some (D.bl ((l.map p).any id))=_
 rw[List.any_map];rfl
theorem B7 {α:Type} {N:List L3} {names:List (L3×M0)} {fi:ag->R (List D)} {fe:ag->R D} {ρ rest:ag} {enc:α->D} {l:List α} {p:α->Bool} (h:fi ρ= .ok (l.map enc)) (hl:l.length<=1000) (hr:j6 N names ρ=none::none::rest) (he:∀x∈l,fe (none::some (.val (enc x))::rest)= .ok (.bl (p x))):
  dD (cn vt (a8 (fL (bO N names fi (gN 1) gP fe)) ai)) ρ= .ok (l.any p):=
 jX (aR (a9 (nZ (fR h (by rw[L7];unfold lim;omega) hr (kA (p:=λ_=>true) (out:=λx=> .bl (p x)) l none (λr _=>rfl) (λr Y0 _=>he r Y0)))) rfl) (Hq l p))
def yz (n a:Int):Bool:=decide (a<0)||decide (a>n)
def Hr (n a b:Int):L3:=fG (iP ([a,b].any (yz n)) "UnknownPlace") (iP (decide (a=b)) "SamePlace")
theorem yA (n a b:Int):Ho (eg [.int n, .tup [.int a, .int b]]) (Hr n a b):=by
 refine vM rfl (mJ (ρ:=[some (.val (.int n)),some (.val (.tup [.int a, .int b]))]) (B7 (enc:= .int) (l:=[a,b]) rfl (by simp) (rest:=[none,some (.val (.int n))]) rfl λr _=> ?_) (pQ (bt (aj (aj rfl rfl DI) (aj rfl rfl K9) gR))))
 unfold Eo
 rw[aj (a:= .int r) (b:= .int 0) rfl rfl lV,ar]
 by_cases h:r<0
 ·simp only[h,decide_true,yz,PK]
 ·simp only[h,decide_false,yz,Pa]
  exact aj (a:= .int r) (b:= .int n) rfl rfl jC
def vN (nu ns:List Int):L3:=fG (iP (ns.any λx=> !decide (x∈nu)) "UnknownStream") (iP (!decide ns.Nodup) "Twice")
section
variable {n:Int} {m:Mo} {hs:List D}
theorem Dm {N:List L3} {names:List (L3×M0)} {fi:ag->R (List D)} {ρ rest:ag} (g:m.Ok) (h:fi ρ= .ok (m.ss.map d7)) (hr:j6 N names ρ=none::none::rest):bO N names fi (gN 1) gP (f2 aQ (aa 1) (fC (.int 0))) ρ= .ok (m.nu.map .int):=by
 rw[fR h (by have:=g.len;rw[L7];unfold lim;omega) hr (kA (p:=λ_=>true) (out:=λr=> .int r.1) m.ss none (λr _=>rfl) (λr _ _=>aj rfl rfl pM)),oB,Mr];rfl
theorem own_of {i:Nat} {f:ag->R (List D)} {ρ:ag} {ds:List D} (h:f ρ= .ok ds):oY i f ρ= .ok (.nx (ρ.set i (some (.own (.lst ds))))):=by unfold oY;rw[h,ar]
theorem jJ (g:m.Ok) {d:D} {ns:List Int} (h:f7 d ns) (hl:ns.length<=100):Ho (bC [bw n m,d]) (vN m.nu ns):=by
 refine vM rfl (yy (ρ:=[some (.val (bw n m)),some (.val d),none]) (ρ':=[some (.val (bw n m)),some (.val d),some (.own (.lst (m.nu.map .int)))]) (own_of (Dm g (vJ (dY n m)) rfl)) rfl (mJ (B7 (enc:= .int) (l:=ns) (h.seq rfl) (by omega) (rest:=[some (.bor (.lst (m.nu.map .int)))]) rfl λr _=>aj (a:= .int r) (b:= .lst (m.nu.map .int)) rfl rfl lW) (pQ (bt (aj (a:= .int (L2.gz ns)) (h.set (by omega) rfl) (aR (a9 rfl rfl) h.len) ?_)))))
 rw[lV,xu]
def HK (ms ns:List Int):L3:=iP (ns.any λx=> !decide (x∈ms)) "NotMetered"
theorem nN {d:D} {ns:List Int} (h:f7 d ns) (hl:ns.length<=100):Ho (ci [bw n m,d]) (HK m.ms ns):=
 vM rfl (pQ (ρ:=[some (.val (bw n m)),some (.val d)]) (B7 (enc:= .int) (l:=ns) (h.seq rfl) (by omega) (rest:=[some (.val (bw n m))]) rfl λr _=>aj (a:= .int r) (b:= .tup (m.ms.map .int)) rfl (fK (fds:=uO n m) rfl (eE n m)) p9))
def Hs (i:Int):Bool:=decide (i< -1000)||decide (i>1000)
def ET (ns:List Int):L3:=iP (ns.any Hs) "OutOfRange"
theorem qW {d:D} {ns:List Int} (h:f7 d ns) (hl:ns.length<=100):Ho (cZ [d]) (ET ns):=
 vM rfl (pQ (ρ:=[some (.val d)]) (B7 (enc:= .int) (l:=ns) (h.seq rfl) (by omega) (rest:=[none,none]) rfl λr _=>(aj (a:= .int (if r<0 then -r else r)) (b:= .int 1000) rfl rfl jC).trans (by
  unfold Hs
  congr 2
  rw[<-Bool.decide_or]
  refine decide_eq_decide.mpr ?_
  split<;>omega)))
def nD (hs:List D):L3:=iP (decide ((60:Int)<=(hs.length:Int))) "TooManyDeeds"
theorem B8 {now deed after:D}:nB (aT [aA n now hs] [deed,after]) (aA n now hs) (nD hs) .non (aA n after (hs++[.tup [deed,now]])):=by
 by_cases ZP:(60:Int)<=(hs.length:Int)
 ·have e1:fT (f2 Et (cn c9 (a8 (qK 0 "Cellar" "history") (ai))) (fC (.int 60))) [some (aA n now hs),some (.val deed),some (.val after)]= .ok true:=bt (aj (aR (a9 (rO rfl) rfl) ir) rfl (by rw[sH,decide_eq_true ZP]))
  have w:nD hs="TooManyDeeds":=by unfold nD iP;rw[decide_eq_true ZP,if_pos rfl]
  rw[w]
  exact⟨λ_=>⟨_,pK ⟨rfl,rfl⟩ (ρ:=[some (aA n now hs),some (.val deed),some (.val after)]) (li (by rw[show fV 2 [aA n now hs] [deed,after]=[some (aA n now hs),some (.val deed),some (.val after)]from rfl,dE e1];exact pJ)),rfl⟩,λz=>absurd z (by decide)⟩
 ·have e1:fT (f2 Et (cn c9 (a8 (qK 0 "Cellar" "history") (ai))) (fC (.int 60))) [some (aA n now hs),some (.val deed),some (.val after)]= .ok false:=bt (aj (aR (a9 (rO rfl) rfl) ir) rfl (by rw[sH,decide_eq_false ZP]))
  have w:nD hs="":=by unfold nD iP;rw[decide_eq_false ZP];rfl
  rw[w]
  refine⟨λz=>absurd rfl z,λ_=>zP ⟨rfl,rfl⟩ (ρ:=[some (aA n after (hs++[.tup [deed,now]])),some (.val deed),some (.val after)]) ?_ rfl⟩
  show fY [some (aA n now hs),some (.val deed),some (.val after)]=_
  unfold fY
  rw[av (by rw[bR e1];rfl)]
  have e2:rL 0 "Cellar" "history" (bS (a8 (au 1) (a8 (d4 0 "Cellar" "now") (ai)))) [some (aA n now hs),some (.val deed),some (.val after)]= .ok (.nx [some (aA n now (hs++[.tup [deed,now]])),some (.val deed),some (.val after)]):=by
   have hf:bS (a8 (au 1) (a8 (d4 0 "Cellar" "now") (ai))) [some (aA n now hs),some (.val deed),some (.val after)]= .ok (.tup [deed,now]):=bM (a9 rfl (a9 (rN (n:=n) (now:=now) (hs:=hs) rfl (tf n now)) rfl)) (show 2<=lim by decide)
   show (if ("Cellar":L3)="Cellar"/\("history":L3)="history" then (bS (a8 (au 1) (a8 (d4 0 "Cellar" "now") (ai))) [some (aA n now hs),some (.val deed),some (.val after)]>>=λd=>if hs.length<lim then R.ok (bq.nx ([some (aA n now hs),some (.val deed),some (.val after)].set 0 (some (.cel "Cellar" (lh n now) "history" (hs++[d])))))else .bad)else .bad)=_
   rw[if_pos ⟨rfl,rfl⟩,hf,ar,if_pos (by unfold lim;omega)]
   rfl
  rw[av e2]
  show ((au 2:ag->R D) [some (aA n now (hs++[.tup [deed,now]])),some (.val deed),some (.val after)]>>=λd=>if ("Cellar":L3)="Cellar"/\((lh n now).lookup ("now":L3)).isSome=true/\(lh n now).length<900 then R.ok (bq.nx ([some (aA n now (hs++[.tup [deed,now]])),some (.val deed),some (.val after)].set 0 (some (.cel "Cellar" (AV "now" d (lh n now)) "history" (hs++[.tup [deed,now]])))))else .bad)=_
  rw[show (au 2:ag->R D) [some (aA n now (hs++[.tup [deed,now]])),some (.val deed),some (.val after)]= .ok after from rfl,ar,if_pos ⟨rfl,by rw[tf];rfl,show 2<900 by decide⟩,zO]
  rfl
theorem mK {now deed after:D} {fs:ag->R (List D)} {rest:ag} (h:fs (some (aA n now hs)::rest)= .ok [deed,after]):pP (je (kS 0 "Cellar" "keep_deed" (dQ [0] aT 2 fs))) (some (aA n now hs)::rest) (nD hs) (.ok (.nx (some (aA n after (hs++[.tup [deed,now]]))::rest))):=by
 have k:=B8 (n:=n) (hs:=hs) (now:=now) (deed:=deed) (after:=after)
 refine⟨λz=> ?_,λz=>Di (by rw[vH (n:=n) (now:=now) (hs:=hs) rfl];exact yw (k:=2) (n:=n) (now:=now) (hs:=hs) rfl h rfl (k.2 z))⟩
 obtain⟨ρe,e,t⟩:=k.1 z
 exact⟨_,B6 (by rw[vH (n:=n) (now:=now) (hs:=hs) rfl];exact vG (k:=2) (n:=n) (now:=now) (hs:=hs) rfl h rfl e t rfl),rfl⟩
theorem rm {rest:ag}:d4 0 "Cellar" "now" (some (aA n (bw n m) hs)::rest)= .ok (bw n m):=rN (n:=n) (now:=bw n m) (hs:=hs) rfl (tf n _)
theorem Dn {now:D} {rest:ag}:d4 0 "Cellar" "tanks" (some (aA n now hs)::rest)= .ok (.int n):=rN (n:=n) (now:=now) (hs:=hs) rfl (Dh n _)
theorem Jb {rest:ag} {g:L3} {d:D} (h:(uO n m).lookup g=some d):cE "Standing" g (d4 0 "Cellar" "now") (some (aA n (bw n m) hs)::rest)= .ok d:=fK rm h
def lj (a b:Int):D:= .tup [.str "stream comes", .int a, .int b]
def Dp (n:Int) (m:Mo) (hs:List D) (a b:Int):L3:=fG (Hr n a b) (fG (iP (decide ((12:Int)<=(m.ss.length:Int))) "TooManyStreams") (nD hs))
theorem yB (g:m.Ok) (a b:Int):nB (cC [aA n (bw n m) hs] [.int a, .int b]) (aA n (bw n m) hs) (Dp n m hs a b) (.int (m.c+1)) (aA n (bw n (m.comes a b)) (hs++[.tup [lj a b,bw n m]])):=
 m_ rfl (iV (ρ:=[some (aA n (bw n m) hs),some (.val (.int a)),some (.val (.int b))]) (ds:=[.int n, .tup [.int a, .int b]]) (a9 Dn (a9 (bM (ds:=[.int a, .int b]) rfl (show 2<=lim by decide)) rfl)) rfl (yA n a b)
  (mJ (bt (aj (aR (a9 (Jb (dY n m)) rfl) hJ) rfl (by rw[sH,L7])))
  (zR (mK (a9 (bM (ds:=[.str "stream comes", .int a, .int b]) rfl (show 3<=lim by decide)) (a9 (iU (n:=3) (fds:=uO n m) (ds:=[.int a, .int b]) rm rfl rfl (qv g a b) rfl) rfl)))
   (fK (rN (n:=n) (now:=bw n (m.comes a b)) (hs:=hs++[.tup [lj a b,bw n m]]) rfl (tf n _)) (mZ n (m.comes a b)))))) rfl
def qX (a:Int):D:= .tup [.str "stream goes", .int a]
def FH (m:Mo) (hs:List D) (a:Int):L3:=fG (vN m.nu [a]) (nD hs)
theorem B9 (g:m.Ok) (a:Int):nB (cH [aA n (bw n m) hs] [.int a]) (aA n (bw n m) hs) (FH m hs a) .non (aA n (bw n (m.goes a)) (hs++[.tup [qX a,bw n m]])):=
 vL rfl (iV (ρ:=[some (aA n (bw n m) hs),some (.val (.int a))]) (ds:=[bw n m, .tup [.int a]]) (a9 rm (a9 (bM (ds:=[.int a]) rfl (show 1<=lim by decide)) rfl)) rfl (jJ g (ns:=[a]) (.inr rfl) (by simp))
  (mK (a9 (bM (ds:=[.str "stream goes", .int a]) rfl (show 2<=lim by decide)) (a9 (iU (n:=2) (fds:=uO n m) (ds:=[.int a]) rm rfl rfl (nz g a) rfl) rfl)))) rfl
def qx (ns:List Int):D:= .tup [.str "meters come", .tup (ns.map .int)]
def Dq (m:Mo) (hs:List D) (ns:List Int):L3:=fG (vN m.nu ns) (fG (iP (ns.any λx=>decide (x∈m.ms)) "AlreadyMetered") (fG (iP (decide ((m.ms.length:Int)+(ns.length:Int)>10)) "TooManyMeters") (nD hs)))
def gQ (n:Int) (now:D) (hs:List D):List (L3×D):=lh n now++[(("history":L3),D.lst hs)]
theorem yC (g:m.Ok) {d:D} {ns:List Int} (h:f7 d ns) (hl:ns.length<=100):nB (cI [aA n (bw n m) hs] [d]) (aA n (bw n m) hs) (Dq m hs ns) .non (aA n (bw n (m.mcome ns)) (hs++[.tup [qx ns,bw n m]])):=
 vL rfl (iV (ρ:=[some (aA n (bw n m) hs),some (.val d)]) (ds:=[bw n m,d]) (a9 rm rfl) rfl (jJ g h hl)
  (mJ (b:=ns.any λx=>decide (x∈m.ms)) (B7 (ρ:=[some (.val (.ins "Cellar" (gQ n (bw n m) hs))),some (.val d)]) (enc:= .int) (l:=ns) (h.seq rfl) (by omega) (rest:=[some (.val (.ins "Cellar" (gQ n (bw n m) hs)))]) rfl λr _=>aj (a:= .int r) (b:= .tup (m.ms.map .int)) rfl (fK (fds:=uO n m) (fK (fds:=gQ n (bw n m) hs) rfl rfl) (eE n m)) uy)
  (mJ (bt (aj (aj (aR (a9 (Jb (eE n m)) rfl) hJ) (aR (a9 rfl rfl) h.len) eJ) rfl (by rw[jC,L7])))
  (mK (a9 (bM (ds:=[.str "meters come", .tup (ns.map .int)]) (a9 rfl (a9 (aR (a9 rfl rfl) h.tup) rfl)) (show 2<=lim by decide)) (a9 (iU (n:=2) (fds:=uO n m) (ds:=[d]) rm rfl rfl (qw g h hl) rfl) rfl)))))) rfl
def xv (ns:List Int):D:= .tup [.str "meters go", .tup (ns.map .int)]
def Jc (m:Mo) (hs:List D) (ns:List Int):L3:=fG (vN m.nu ns) (fG (HK m.ms ns) (nD hs))
theorem Dr (g:m.Ok) {d:D} {ns:List Int} (h:f7 d ns) (hl:ns.length<=100):nB (d6 [aA n (bw n m) hs] [d]) (aA n (bw n m) hs) (Jc m hs ns) .non (aA n (bw n (m.mgo ns)) (hs++[.tup [xv ns,bw n m]])):=
 vL rfl (iV (ρ:=[some (aA n (bw n m) hs),some (.val d)]) (ds:=[bw n m,d]) (a9 rm rfl) rfl (jJ g h hl)
  (iV (ds:=[bw n m,d]) (a9 rm rfl) rfl (nN h hl)
  (mK (a9 (bM (ds:=[.str "meters go", .tup (ns.map .int)]) (a9 rfl (a9 (aR (a9 rfl rfl) h.tup) rfl)) (show 2<=lim by decide)) (a9 (iU (n:=2) (fds:=uO n m) (ds:=[d]) rm rfl rfl (nA g h) rfl) rfl))))) rfl
end
theorem tq {α:Type} {f:α->D} {k:α->Int} (hk:∀a,tO (f a)=some (k a)):∀l:List α,fj (l.map f)=some (l.map k)
 |[]=>rfl
 |a::l=>by
  rw[Lf,fj,hk,tq hk l];rfl
theorem Ba {α:Type} {f:α->D} {k:α->Int} (hk:∀a,tO (f a)=some (k a)) {l:List α} (h:l≠[]):cU (l.map f)=none:=by
 cases l with
 |nil=>exact absurd rfl h
 |cons a l=>
  have:=hk a
  rw[Lf]
  cases e:f a<;>rw[e]at this<;>first|rfl|cases this
theorem vO {α:Type} {f:α->D} {k:α->Int} (hk:∀a,tO (f a)=some (k a)) {l m:List α} (p:l.Perm m) (inc:m.Pairwise λa b=>k a<k b) (hl:m.length<64) {d:D} (hd:d= .lst (l.map f)\/d= .tup (l.map f)):ig [d]=some (.lst (m.map f)):=by
 by_cases h0:l=[]
 ·subst h0
  have:m=[]:=(RO p).symm
  subst this
  rcases hd with rfl|rfl<;>rfl
 ·have hn:(l.map k).Nodup:=(p.map k).nodup_iff.mpr (Nc.mpr (inc.imp λh=>Int.ne_of_lt h))
  have hs:nH (l.map f)=m.map f:=wO (p.map f) (by
   rw[Nc]
   refine inc.imp λ{a b} h=> ?_
   show (tO (f a)).getD 0<(tO (f b)).getD 0
   rw[hk,hk];exact h)
  have WG:(l.map k).length<64:=by rw[L7,p.length_eq];exact hl
  have hr:=tq hk l
  have ha:=Ba hk h0
  rcases hd with rfl|rfl
  ·have:j9 [.lst (l.map f)]=none:=by simp[j9,vc,ha]
   simp only[ig,this,pf,hr,PM,hn,WG,and_self,if_true,hs]
  ·have:j9 [.tup (l.map f)]=none:=by simp[j9,vc,ha]
   simp only[ig,this,pf,hr,PM,hn,WG,and_self,if_true,hs]
theorem Ds {m:List D->R D} {k:Nat} {fs:ag->R (List D)} {ρ:ag} {ds:List D} {g':ag->R bq} {w w':L3} {r:R bq} (h:fs ρ= .ok ds) (hl:ds.length=k) (hr:Ho (m ds) w) (h2:w=""->pP g' ρ w' r):pP (aw (ii (aF m k fs)) g') ρ (fG w w') r:=by
 by_cases e:w=""
 ·exact iV h hl hr (h2 e)
 ·unfold fG
  rw[if_neg e]
  obtain⟨ρe,e1⟩:=hr.1 e
  exact⟨λ_=>⟨ρ,li (xr (xt h hl e1)),rfl⟩,λz=>absurd z e⟩
theorem xw {f:ag->R D} {ρ:ag} {d:D} {L:List Nat} {x:L3} (hc:L.all (zE x ρ)=true) (h:f (pw L ρ)= .ok d) (cl:kl x d):o5 x L f ρ= .ok d:=by
 unfold o5
 rw[if_pos hc,h,ar,if_pos cl]
def yD (d:D) (rd:List Rd):Prop:=d= .lst (rd.map jx)\/d= .tup (rd.map jx)
theorem yD.seq {d:D} {rd:List Rd} (h:yD d rd) {ρ:ag} {f:ag->R D} (e:f ρ= .ok d):cD f ρ= .ok (rd.map jx):=by
 unfold cD
 rw[e]
 rcases h with rfl|rfl<;>rfl
theorem yD.tup {d:D} {rd:List Rd} (h:yD d rd):bX [d]=some (.tup (rd.map jx)):=by rcases h with rfl|rfl<;>rfl
theorem Dt {r:Rd}:aQ (jx r) (.int 0)=some (.int r.1):=DI
theorem Du {r:Rd}:aQ (jx r) (.int 1)=some (.int r.2):=K9
theorem pR {α:Type} {N:List L3} {names:List (L3×M0)} {fi:ag->R (List D)} {fe:ag->R D} {ρ rest:ag} {enc out:α->D} {l:List α} (h:fi ρ= .ok (l.map enc)) (hl:l.length<=1000) (hr:j6 N names ρ=none::none::rest) (he:∀x∈l,fe (none::some (.val (enc x))::rest)= .ok (out x)):
  bO N names fi (gN 1) gP fe ρ= .ok (l.map out):=by
 rw[fR h (by rw[L7];unfold lim;omega) hr (kA (p:=λ_=>true) (out:=out) l none (λr _=>rfl) (λr Y0 _=>he r Y0)),oB]
theorem yE {nu ns:List Int} (h:vN nu ns=""):ns.Nodup/\∀x∈ns,x∈nu:=by
 unfold vN fG iP at h
 by_cases a:(ns.any λx=> !decide (x∈nu))=true
 ·rw[if_pos a,if_neg (by decide)]at h;exact absurd h (by decide)
 ·rw[if_neg a,if_pos rfl]at h
  by_cases b:ns.Nodup
  ·refine⟨b,λx hx=> ?_⟩
   by_cases c:x∈nu
   ·exact c
   ·exact absurd (Mc.mpr ⟨x,hx,by simp[c]⟩) a
  ·rw[decide_eq_false b]at h;exact absurd h (by decide)
section
variable {n:Int} {m:Mo} {hs:List D}
theorem jv:bj [.ins "Cellar" (gQ n (bw n m) hs)]= .ok (.int (m.ds.length:Int)):=
 bx rfl (cN (aR (a9 (fK (fds:=uO n m) (fK (fds:=gQ n (bw n m) hs) rfl rfl) (gq n m)) rfl) (by rw[hJ,L7])))
theorem vP (g:m.Ok) {d1 d2:D} {ri:List Int} {rd:List Rd} (h1:f7 d1 ri) (h2:yD d2 rd) (nd:(rd.map (·.1)).Nodup) (hl:rd.length<=60):hW [.int n, .tup (m.ss.map d7),d1,d2]= .ok (Dl n ⟨m.ss,ri,xI rd⟩):=by
 have e1:=vO (f:=d7) (k:=(·.1)) (λa=>rfl) (NG m.ss) g.inc (by have:=g.len;omega) (.inr rfl)
 have e3:=vO (f:=jx) (k:=(·.1)) (λa=>rfl) (kB rd) (zQ nd) (by have:=(kB rd).length_eq;omega) h2
 have e2:=h1.tup
 simp! [hW,mU,jO,d3,sS,pd,e1,e2,e3,Lf,MA,LD,List.cons_append,Nat.reduceSub,AJ,qM,L2.Pu.ef,Nx,Dl]
def dn (ri:List Int) (rd:List Rd):D:= .tup [.str "day passes", .tup (ri.map .int), .tup (rd.map jx)]
def FI (n:Int) (m:Mo) (hs:List D) (ri:List Int) (rd:List Rd):L3:=fG (iP (!decide ((ri.length:Int)=n)) "WrongRises") (fG (vN m.nu (rd.map (·.1))) (fG (HK m.ms (rd.map (·.1))) (fG (iP (m.ms.any λx=> !decide (x∈rd.map (·.1))) "ReadingMissing") (fG (ET ri) (fG (ET (rd.map (·.2))) (fG (iP (decide ((12:Int)<=(m.ds.length:Int))) "TooManyDays") (nD hs)))))))
theorem Bb (g:m.Ok) {d1 d2:D} {ri:List Int} {rd:List Rd} (h1:f7 d1 ri) (h2:yD d2 rd) (l1:ri.length<=100) (l2:rd.length<=60):nB (cQ [aA n (bw n m) hs] [d1,d2]) (aA n (bw n m) hs) (FI n m hs ri rd) (.int ((m.ds.length:Int)+1)) (aA n (bw n (m.passes ri rd)) (hs++[.tup [dn ri rd,bw n m]])):=by
 let ks:=rd.map (·.1)
 have hk:∀{x:Option Slot} {N:List L3} {names:List (L3×M0)} {ρ:ag},ρ[2]? =some (some (.val d2))->j6 N names ρ=[none,none]->bO N names (cD (au 2)) (gN 1) gP (f2 aQ (aa 1) (fC (.int 0))) ρ= .ok (ks.map .int):=λ{x N names ρ} e hr=>by
  rw[pR (rest:=[]) (h2.seq (by unfold au;rw[e])) (by omega) hr (out:=λr=> .int r.1) λr _=>aj rfl rfl Dt,Mr];rfl
 have hv:∀{N:List L3} {names:List (L3×M0)} {ρ:ag},ρ[2]? =some (some (.val d2))->j6 N names ρ=[none,none]->bO N names (cD (au 2)) (gN 1) gP (f2 aQ (aa 1) (fC (.int 1))) ρ= .ok ((rd.map (·.2)).map .int):=λ{N names ρ} e hr=>by
  rw[pR (rest:=[]) (h2.seq (by unfold au;rw[e])) (by omega) hr (out:=λr=> .int r.2) λr _=>aj rfl rfl Du,Mr];rfl
 have lk:ks.length<=100:=by simp only[ks,L7];omega
 let R (x y:Option Slot):ag:=[some (aA n (bw n m) hs),some (.val d1),some (.val d2),x,y]
 refine m_ rfl (mJ (ρ:=R none none) (bt (aj (aR (a9 rfl rfl) h1.len) Dn zv)) (yy (ρ':=R (some (.own (.lst (ks.map .int)))) none) (own_of (hk (x:=none) rfl rfl)) rfl (zS (ρ':=R (some (.val (.lst (ks.map .int)))) none) rfl rfl
  (Ds (ds:=[bw n m, .lst (ks.map .int)]) (a9 rm rfl) rfl (jJ g (.inl rfl) lk) λhw=>zS (ρ':=R (some (.val (.lst (ks.map .int)))) none) rfl rfl
  (iV (ds:=[bw n m, .lst (ks.map .int)]) (a9 rm rfl) rfl (nN (.inl rfl) lk)
  (mJ (B7 (enc:= .int) (l:=m.ms) (by unfold cD;rw[Jb (eE n m)];rfl) (by have:=g.ten;omega) (rest:=[some (.val (.lst (ks.map .int)))]) rfl λr _=>aj (a:= .int r) (b:= .lst (ks.map .int)) rfl rfl lW)
  (iV (ds:=[d1]) rfl rfl (qW h1 l1)
  (iV (ds:=[.lst ((rd.map (·.2)).map .int)]) (a9 (nZ (hv rfl rfl)) rfl) rfl (qW (.inl rfl) (by rw[L7];omega))
  (mJ (bt (aj (aR (a9 (Jb (gq n m)) rfl) hJ) rfl (by rw[sH,L7])))
  (yy (ρ':=R (some (.val (.lst (ks.map .int)))) (some (.val (tj n ⟨m.ss,ri,xI rd⟩)))) (aY (d:=tj n ⟨m.ss,ri,xI rd⟩) ?_ rfl) rfl
  (zR (mK (a9 (bM (ds:=[.str "day passes", .tup (ri.map .int), .tup (rd.map jx)]) (a9 rfl (a9 (aR (a9 rfl rfl) h1.tup) (a9 (aR (a9 rfl rfl) h2.tup) rfl))) (show 3<=lim by decide)) (a9 (iU (n:=2) (fds:=uO n m) (ds:=[tj n ⟨m.ss,ri,xI rd⟩]) rm rfl rfl (u0 g ri rd) rfl) rfl)))
   (xw rfl ((iU (n:=1) (fds:=gQ n (bw n (m.passes ri rd)) (hs++[.tup [dn ri rd,bw n m]])) (ds:=[]) rfl rfl rfl jv rfl).trans ?_) (.int _))))))))))))) rfl
 ·unfold lX
  rw[a9 (ds:=[.tup (m.ss.map d7),d1,d2]) Dn (a9 (Jb (dY n m)) rfl),ar,if_pos (show [D.int n, .tup (m.ss.map d7),d1,d2].length=4 from rfl),vP g h1 h2 (yE hw).1 l2]
  rfl
 ·simp only[Mo.passes,LO,Lu,O1]
  rfl
theorem Bc:nB (cj [aA n (bw n m) []] []) (aA n (bw n m) []) "NothingDone" .non (aA n (bw n m) []):=
 ⟨λ_=>⟨_,pK ⟨rfl,rfl⟩ (ρ:=[some (aA n (bw n m) []),none]) (li (by rw[show fV 1 [aA n (bw n m) []] []=[some (aA n (bw n m) []),none]from rfl,dE (bt (aj (aR (a9 (rO rfl) rfl) ir) rfl gR))];exact pJ)),rfl⟩,λz=>absurd z (by decide)⟩
theorem Bd {now d st:D}:cj [aA n now (hs++[.tup [d,st]])] []= .ok (d,[aA n st hs]):=by
 have SW:((hs++[D.tup [d,st]]).length:Int)≠0:=by simp;omega
 refine fD ⟨rfl,rfl⟩ (ρ:=[some (aA n st hs),some (.val (.tup [d,st]))]) ?_ rfl
 show gg [some (aA n now (hs++[.tup [d,st]])),none]=_
 unfold gg
 rw[av (ρ':=[some (aA n now (hs++[.tup [d,st]])),none]) (by rw[bR (bt (aj (aR (a9 (rO rfl) rfl) ir) rfl (by rw[gR,decide_eq_false SW])))];rfl)]
 rw[av (ρ':=[some (aA n now hs),some (.val (.tup [d,st]))]) (by
  show (if ("Cellar":L3)="Cellar"/\("history":L3)="history" then (match (hs++[D.tup [d,st]])[(hs++[D.tup [d,st]]).length - 1]? with
   |some d'=>R.ok (bq.nx ((([some (aA n now (hs++[D.tup [d,st]])),none]:ag).set 0 (some (.cel "Cellar" (lh n now) "history" (hs++[D.tup [d,st]]).dropLast))).set 1 (some (.val d'))))
   |none=> .bad)else .bad)=_
  rw[if_pos ⟨rfl,rfl⟩,QP,show (hs++[D.tup [d,st]])[(hs++[D.tup [d,st]]).length - 1]? =some (D.tup [d,st]) by simp]
  rfl)]
 rw[av (ρ':=[some (aA n st hs),some (.val (.tup [d,st]))]) (by
  show (f2 aQ (aa 1) (fC (.int 1)) [some (aA n now hs),some (.val (.tup [d,st]))]>>=λd'=>if ("Cellar":L3)="Cellar"/\((lh n now).lookup ("now":L3)).isSome=true/\(lh n now).length<900 then R.ok (bq.nx ([some (aA n now hs),some (.val (.tup [d,st]))].set 0 (some (.cel "Cellar" (AV "now" d' (lh n now)) "history" hs))))else .bad)=_
  rw[aj rfl rfl K9,ar,if_pos ⟨rfl,by rw[tf];rfl,show 2<900 by decide⟩,zO]
  rfl)]
 exact pL (aj rfl rfl DI)
def yF (ms:List Int) (r:zN):D:= .tup [.int r.1, .int r.2.1, .int r.2.2, .bl (decide (r.1∈ms))]
theorem xx (g:m.Ok):df [.ins "Cellar" (gQ n (bw n m) hs)]= .ok (.tup (m.ss.map (yF m.ms))):=by
 refine bx rfl ?_
 show iB [some (.val (.ins "Cellar" (gQ n (bw n m) hs))),none]=_
 unfold iB
 have nw:∀{x:Option Slot},cE "Cellar" "now" (aa 0) [some (.val (.ins "Cellar" (gQ n (bw n m) hs))),x]= .ok (bw n m):=λ{x}=>fK (fds:=gQ n (bw n m) hs) rfl rfl
 rw[av (ρ':=[some (.val (.ins "Cellar" (gQ n (bw n m) hs))),some (.val (.tup (m.ms.map .int)))]) (aY (fK nw (eE n m)) rfl)]
 refine cN (aR (a9 (nZ (pR (enc:=d7) (l:=m.ss) (by unfold cD;rw[fK nw (dY n m)];rfl) (by have:=g.len;omega) (rest:=[some (.val (.tup (m.ms.map .int)))]) rfl λr _=>aj (a:=d7 r) (b:= .tup [.bl (decide (r.1∈m.ms))]) rfl (bM (ds:=[.bl (decide (r.1∈m.ms))]) (a9 (aj (aj rfl rfl pM) rfl uy) rfl) (show 1<=lim by decide)) (iH (by simp[d7])))) rfl) rfl)
theorem Dv {k:Nat} (h:k<m.ds.length):fu [.ins "Cellar" (gQ n (bw n m) hs), .int ((k:Int)+1)]= .ok (tj n m.ds[k]):=by
 refine bx rfl ?_
 show kY [some (.val (.ins "Cellar" (gQ n (bw n m) hs))),some (.val (.int ((k:Int)+1)))]=_
 unfold kY
 have t1:fT (f2 tL (aa 1) (fC (.int 1))) [some (.val (.ins "Cellar" (gQ n (bw n m) hs))),some (.val (.int ((k:Int)+1)))]= .ok false:=bt (aj (a:= .int ((k:Int)+1)) (b:= .int 1) rfl rfl (by rw[lV,decide_eq_false (by omega)]))
 have t2:fT (f2 nV (aa 1) (fF "Cellar" "days_gone" 1 bj (au 0) ai)) [some (.val (.ins "Cellar" (gQ n (bw n m) hs))),some (.val (.int ((k:Int)+1)))]= .ok false:=bt (aj (a:= .int ((k:Int)+1)) rfl (iU (n:=1) (fds:=gQ n (bw n m) hs) (ds:=[]) rfl rfl rfl jv rfl) (by rw[jC,decide_eq_false (by omega)]))
 rw[av (by rw[bR (by unfold oG;rw[t1,ar,if_neg (by simp),t2])];rfl)]
 refine cN (aj (fK (fds:=uO n m) (fK (fds:=gQ n (bw n m) hs) rfl rfl) (gq n m)) (aj (a:= .int ((k:Int)+1)) (b:= .int 1) rfl rfl lU) ?_)
 rw[ux,show (k:Int)+1 - 1=(k:Int) by omega,iu (by simpa using h)]
 simp
end
def rn (n:Int) (d:Dk):D:= .tup [.int n, .tup (d.ss.map d7), .tup (d.ri.map .int), .tup (d.rd.map jx)]
def bH (n:Int) (m:Mo):D:= .tup [.int n, .int (m.c+1), .tup (m.ss.map d7), .tup (m.mm.map .int), .tup (m.ds.map (rn n)), .tup m.dd]
theorem f8 {l:List D} {d:D} (k:Nat) (h:l[k]? =some d):aQ (.tup l) (.int (k:Int))=some d:=by rw[ux];exact uU h
theorem rq {l:List D} {d:D} (k:Nat) (h:l[k]? =some d):aQ (.lst l) (.int (k:Int))=some d:=by rw[wI];exact uU h
section
variable {n:Int} {m:Mo} {hs:List D}
theorem DJ:aQ (bH n m) (.int 0)=some (.int n):=f8 0 rfl
theorem KW:aQ (bH n m) (.int 1)=some (.int (m.c+1)):=f8 1 rfl
theorem HL:aQ (bH n m) (.int 2)=some (.tup (m.ss.map d7)):=f8 2 rfl
theorem Ht:aQ (bH n m) (.int 3)=some (.tup (m.mm.map .int)):=f8 3 rfl
theorem Jd:aQ (bH n m) (.int 4)=some (.tup (m.ds.map (rn n))):=f8 4 rfl
theorem Kv:aQ (bH n m) (.int 5)=some (.tup m.dd):=f8 5 rfl
theorem Mo.Ok.mem (g:m.Ok) (x:Int):decide (x∈m.mm)=decide (x∈m.ms):=decide_eq_decide.mpr g.per.mem_iff
def Dw (g:ag->R bq) (ρ:ag) (w:L3):Prop:=g ρ= .ok (.ret (.str w))
theorem gj {t:ag->R Bool} {ρ:ag} {b:Bool} {x w':L3} {g':ag->R bq} (h:t ρ= .ok b) (h2:Dw g' ρ w') (hx:x≠"":=by decide):Dw (aw (cA t (bu (fC (.str x))) aE) g') ρ (fG (iP b x) w'):=by
 cases b with
 |true=>
  have:fG (iP true x) w'=x:=by unfold fG iP;rw[if_pos rfl,if_neg hx]
  unfold Dw
  rw[this];exact dO (by rw[dE h];rfl)
 |false=>exact(av (by rw[bR h];rfl)).trans h2
theorem pS {ρ:ag}:Dw (bu (fC (.str ""))) ρ "":=rfl
theorem oE {g g':ag->R bq} {ρ ρ':ag} {w:L3} (h:g ρ= .ok (.nx ρ')) (h2:Dw g' ρ' w):Dw (aw g g') ρ w:=(av h).trans h2
theorem xy (w:L3):fG w ""=w:=by unfold fG;split<;>simp_all
theorem uP (a b c:L3):fG (fG a b) c=fG a (fG b c):=by
 unfold fG
 by_cases h:a=""
 ·simp[h]
 ·simp[h]
theorem Hu {a b:Bool} {w:L3} (hw:w≠""):fG (iP a w) (iP b w)=iP (a||b) w:=by
 cases a<;>cases b<;>simp[fG,iP,hw]
theorem tu {α:Type} (p:α->Bool):∀l:List α,(!(l.filter p).isEmpty)=l.any p
 |[]=>rfl
 |a::l=>by
  rw[MB,Q4]
  cases q:p a with
  |true=>rfl
  |false=>exact tu p l
theorem neC {α:Type} {N:List L3} {names:List (L3×M0)} {fi:ag->R (List D)} {gt:ag->R Bool} {ρ rest:ag} {enc:α->D} {l:List α} {p:α->Bool} (h:fi ρ= .ok (l.map enc)) (hl:l.length<=1000) (hr:j6 N names ρ=none::none::rest) (ht:∀x∈l,gt (none::some (.val (enc x))::rest)= .ok (p x)):
  fT (f2 r9 (fL (bO N names fi (gN 1) gt (au 1))) (eG ai)) ρ= .ok (l.any p):=by
 refine bt (aj (nZ (fR h (by rw[L7];unfold lim;omega) hr (kA (p:=p) (out:=enc) l none (λr Y0=>ht r Y0) (λr _ _=>rfl)))) rfl ?_)
 show some (D.bl (!((l.filter p).map enc).isEmpty))=_
 congr 2
 rw[RQ]
 rw[tu]
theorem tw (a b:Int):eh [bH n m, .int a, .int b]= .ok (.str (fG (Hr n a b) (iP (decide ((12:Int)<=(m.ss.length:Int))) "TooManyStreams"))):=by
 have Yl:∀{x:Int},oG (fT (f2 tL (aa 3) (fC (.int 0)))) (fT (f2 nV (aa 3) (f2 aQ (aa 0) (fC (.int 0))))) [some (.val (bH n m)),some (.val (.int a)),some (.val (.int b)),some (.val (.int x))]= .ok (yz n x):=λ{x}=>by
  have t2:fT (f2 nV (aa 3) (f2 aQ (aa 0) (fC (.int 0)))) [some (.val (bH n m)),some (.val (.int a)),some (.val (.int b)),some (.val (.int x))]= .ok (decide (x>n)):=bt (aj (a:= .int x) rfl (aj (a:=bH n m) rfl rfl DJ) jC)
  unfold oG
  rw[bt (aj (a:= .int x) (b:= .int 0) rfl rfl lV),ar]
  unfold yz
  by_cases h:x<0
  ·simp only[h,decide_true,if_true,PK]
  ·simp only[h,decide_false,Ma,if_false,t2,Pa]
 have W5:∀(x:Int) (r:List D) (y:Option Slot),eO (gN 3) bJ (.int x::r) [some (.val (bH n m)),some (.val (.int a)),some (.val (.int b)),y]=if yz n x=true then .ok (.ret (.str "UnknownPlace"))else eO (gN 3) bJ r [some (.val (bH n m)),some (.val (.int a)),some (.val (.int b)),some (.val (.int x))]:=λx r y=>by
  cases q:yz n x with
  |true=>
   rw[if_pos rfl,eO]
   show (bJ [some (.val (bH n m)),some (.val (.int a)),some (.val (.int b)),some (.val (.int x))]>>=_)=_
   rw[show bJ [some (.val (bH n m)),some (.val (.int a)),some (.val (.int b)),some (.val (.int x))]= .ok (.ret (.str "UnknownPlace")) by unfold bJ;rw[dE (by rw[Yl,q])];rfl]
   rfl
  |false=>
   rw[if_neg (by simp)]
   exact mS (ρ1:=[some (.val (bH n m)),some (.val (.int a)),some (.val (.int b)),some (.val (.int x))]) rfl (by unfold bJ;rw[bR (by rw[Yl,q])];rfl)
 refine bx rfl ?_
 show iD [some (.val (bH n m)),some (.val (.int a)),some (.val (.int b)),none]=_
 unfold iD
 have hf:lB (cD (bS (a8 (au 1) (a8 (au 2) (ai))))) (gN 3) bJ [some (.val (bH n m)),some (.val (.int a)),some (.val (.int b)),none]=eO (gN 3) bJ [.int a, .int b] [some (.val (bH n m)),some (.val (.int a)),some (.val (.int b)),none]:=sI (by unfold cD;rw[bM (ds:=[.int a, .int b]) rfl (show 2<=lim by decide)];rfl)
 rw[W5,W5]at hf
 by_cases h:[a,b].any (yz n)=true
 ·have e:lB (cD (bS (a8 (au 1) (a8 (au 2) (ai))))) (gN 3) bJ [some (.val (bH n m)),some (.val (.int a)),some (.val (.int b)),none]= .ok (.ret (.str "UnknownPlace")):=by
   rw[hf]
   simp only[MB,List.any_nil,Se,Qi]at h
   by_cases ha:yz n a=true
   ·rw[if_pos ha]
   ·rw[if_neg ha,if_pos (h.resolve_left ha)]
  rw[dO e]
  simp only[Hr,h,iP,if_true,fG]
  rfl
 ·have ha:¬yz n a=true:=λz=>h (by simp[z])
  have hb:¬yz n b=true:=λz=>h (by simp[z])
  rw[if_neg ha,if_neg hb]at hf
  rw[av hf]
  have:Hr n a b=iP (decide (a=b)) "SamePlace":=by unfold Hr;rw[show [a,b].any (yz n)=false from Pl.mpr h];rfl
  rw[this]
  exact gj (bt (aj (a:= .int a) (b:= .int b) rfl rfl gR)) ((gj (bt (aj (aR (a9 (aj (a:=bH n m) rfl rfl HL) rfl) hJ) rfl (by rw[sH,L7]))) pS).trans (by rw[xy]))
theorem zT {x y:L3}:sD (.str x) (.str y)=some (.bl (!decide (x=y))):=rfl
theorem zU {i:Nat} {ρ:ag} {w w':L3} {g':ag->R bq} (h:ρ[i]? =some (some (.val (.str w)))) (h2:w=""->Dw g' ρ w'):Dw (aw (cA (fT (f2 sD (aa i) (fC (.str "")))) (bu (au i)) aE) g') ρ (fG w w'):=by
 have hb:aa i ρ= .ok (.str w):=by unfold aa;rw[h];rfl
 have hv:au i ρ= .ok (.str w):=by unfold au;rw[h]
 by_cases e:w=""
 ·have e1:fT (f2 sD (aa i) (fC (.str ""))) ρ= .ok false:=bt (aj hb rfl (by rw[zT,decide_eq_true e];rfl))
  unfold fG
  rw[if_pos e]
  exact oE (by rw[bR e1];rfl) (h2 e)
 ·have e1:fT (f2 sD (aa i) (fC (.str ""))) ρ= .ok true:=bt (aj hb rfl (by rw[zT,decide_eq_false e];rfl))
  unfold fG
  rw[if_neg e]
  exact dO (by rw[dE e1];exact cN hv)
theorem EU {fo fk:ag->R D} {ρ:ag} {d:D} {ns:List Int} {k:Int} (h:f7 d ns) (ho:fo ρ= .ok d) (hk:fk ρ= .ok (.int k)):zK fo fk ρ= .ok (.int (ns.count k)):=by
 unfold zK
 rw[ho,ar]
 rcases h with rfl|rfl
 ·dsimp only
  rw[hk,ar,kL]
 ·dsimp only
  rw[hk,ar,kL]
theorem EV (ns:List Int):(ns.any λx=>decide ((ns.count x:Int)>1))= !decide ns.Nodup:=by
 by_cases h:ns.Nodup
 ·rw[decide_eq_true h,Si,Pl]
  intro z
  obtain⟨x,_,hx⟩:=Mc.mp z
  have:=QQ.mp h x
  have:=of_decide_eq_true hx
  omega
 ·rw[decide_eq_false h,Sb]
  refine Mc.mpr ?_
  by_cases z:∃x∈ns,decide ((ns.count x:Int)>1)=true
  ·exact z
  ·refine absurd (QQ.mpr λa=> ?_) h
   by_cases ha:a∈ns
   ·have:¬((ns.count a:Int)>1):=λq=>z ⟨a,ha,decide_eq_true q⟩
    omega
   ·rw[List.count_eq_zero_of_not_mem ha];omega
theorem EW {x:List (Option Slot)} {k:Int} {l:List D} (h:aQ (bH n m) (.int k)=some (.tup l)):cD (f2 aQ (aa 0) (fC (.int k))) (some (.val (bH n m))::x)= .ok l:=by
 unfold cD
 rw[aj (a:=bH n m) rfl rfl h,ar]
theorem jY (g:m.Ok) {d:D} {ns:List Int} (h:f7 d ns) (hl:ns.length<=100):cu [bH n m,d]= .ok (.str (vN m.nu ns)):=by
 refine bx rfl (oE (ρ:=[some (.val (bH n m)),some (.val d),none]) (ρ':=[some (.val (bH n m)),some (.val d),some (.own (.lst (m.nu.map .int)))]) (own_of (Dm g (EW HL) rfl)) ?_)
 refine(gj (neC (enc:= .int) (l:=ns) (h.seq rfl) (by omega) (rest:=[some (.bor (.lst (m.nu.map .int)))]) rfl λr _=>bt (aj (a:= .int r) (b:= .lst (m.nu.map .int)) rfl rfl lW)) (gj (neC (enc:= .int) (l:=ns) (h.seq rfl) (by omega) (rest:=[some (.val d)]) rfl λr _=>bt (aj (EU h rfl rfl) rfl jC)) pS)).trans ?_
 rw[xy,EV]
 rfl
theorem mL (g:m.Ok) (c:Bool) {ns:List Int} (hl:ns.length<=100):eo [bH n m, .bl c, .tup (ns.map .int)]= .ok (.str (fG (vN m.nu ns) (if c=true then fG (iP (ns.any λx=>decide (x∈m.ms)) "AlreadyMetered") (iP (decide ((m.ms.length:Int)+(ns.length:Int)>10)) "TooManyMeters")else HK m.ms ns))):=by
 have hr:f7 (.tup (ns.map .int)) ns:= .inr rfl
 let R (x y:Option Slot):ag:=[some (.val (bH n m)),some (.val (.bl c)),some (.val (.tup (ns.map .int))),x,y]
 refine bx rfl (oE (ρ:=R none none) (ρ':=R (some (.val (.str (vN m.nu ns)))) none) (aY (aW (n:=2) (a9 rfl (a9 rfl rfl)) rfl (jY g hr hl)) rfl) (zU rfl λ_=> ?_))
 have hf:bO ["_law_model","_law_come","_law_named","_law_word","_law_have"] [(".0", .local),("_law_number", .local),("_law_model", .free)] (cD (au 2)) (gN 1) (fT (f2 (hE false) (aa 1) (f2 aQ (aa 2) (fC (.int 3))))) (au 1) (R (some (.val (.str (vN m.nu ns)))) none)= .ok ((ns.filter λx=>decide (x∈m.ms)).map .int):=
  fR (hr.seq rfl) (by rw[L7];unfold lim;omega) (τ:=[none,none,some (.val (bH n m))]) rfl (kA (p:=λx=>decide (x∈m.ms)) (out:= .int) ns none (λr _=>by
   rw[bt (aj (a:= .int r) (b:= .tup (m.mm.map .int)) rfl (aj (a:=bH n m) rfl rfl Ht) uy),g.mem]) (λr _ _=>rfl))
 refine oE (ρ':=R (some (.val (.str (vN m.nu ns)))) (some (.own (.lst ((ns.filter λx=>decide (x∈m.ms)).map .int))))) (own_of hf) ?_
 let ρ:=R (some (.val (.str (vN m.nu ns)))) (some (.own (.lst ((ns.filter λx=>decide (x∈m.ms)).map .int))))
 have tc:dD (aa 1) ρ= .ok c:=jX rfl
 have t1:fT (f2 r9 (aa 4) (eG (ai))) ρ= .ok (ns.any λx=>decide (x∈m.ms)):=bt (aj (a:= .lst ((ns.filter λx=>decide (x∈m.ms)).map .int)) (b:= .lst []) rfl rfl (by
  show some (D.bl (!((ns.filter λx=>decide (x∈m.ms)).map D.int).isEmpty))=_
  rw[RQ,tu]))
 have t2:fT (f2 nV (f2 bD (cn c9 (a8 (f2 aQ (aa 0) (fC (.int 3))) (ai))) (cn c9 (a8 (aa 2) (ai)))) (fC (.int 10))) ρ= .ok (decide ((m.ms.length:Int)+(ns.length:Int)>10)):=bt (aj (aj (aR (a9 (aj (a:=bH n m) rfl rfl Ht) rfl) hJ) (aR (a9 rfl rfl) hr.len) eJ) rfl (by rw[jC,L7,g.per.length_eq]))
 have t3:fT (f2 tL (cn c9 (a8 (aa 4) (ai))) (cn c9 (a8 (aa 2) (ai)))) ρ= .ok (ns.any λx=> !decide (x∈m.ms)):=bt (aj (aR (a9 (d:= .lst ((ns.filter λx=>decide (x∈m.ms)).map .int)) rfl rfl) ir) (aR (a9 rfl rfl) hr.len) (by
  rw[lV,L7]
  congr 2
  have a2i:=NK (λx=>decide (x∈m.ms)) ns
  by_cases z:(ns.any λx=> !decide (x∈m.ms))=true
  ·rw[z,decide_eq_true_eq]
   obtain⟨x,hx,hp⟩:=Mc.mp z
   have:(ns.filter λx=>decide (x∈m.ms)).length≠ns.length:=λe=>by
    have:=OB.mp e x hx
    rw[this]at hp;cases hp
   omega
  ·rw[Pl.mpr z,decide_eq_false_iff_not]
   have:(ns.filter λx=>decide (x∈m.ms)).length=ns.length:=OB.mpr λx hx=>by
    cases q:decide (x∈m.ms)with
    |true=>rfl
    |false=>exact absurd (Mc.mpr ⟨x,hx,by rw[q];rfl⟩) z
   omega))
 cases c with
 |true=>
  rw[if_pos rfl]
  have a1:gD (dD (aa 1)) (fT (f2 r9 (aa 4) (eG (ai)))) ρ= .ok (ns.any λx=>decide (x∈m.ms)):=by unfold gD;rw[tc,ar,if_pos rfl,t1]
  have a2:gD (dD (aa 1)) (fT (f2 nV (f2 bD (cn c9 (a8 (f2 aQ (aa 0) (fC (.int 3))) (ai))) (cn c9 (a8 (aa 2) (ai)))) (fC (.int 10)))) ρ= .ok (decide ((m.ms.length:Int)+(ns.length:Int)>10)):=by unfold gD;rw[tc,ar,if_pos rfl,t2]
  have a3:gD (gY (dD (aa 1))) (fT (f2 tL (cn c9 (a8 (aa 4) (ai))) (cn c9 (a8 (aa 2) (ai))))) ρ= .ok false:=by unfold gD gY;rw[tc];rfl
  exact(gj a1 (gj a2 (gj a3 pS))).trans (by rw[show fG (iP false "NotMetered") ""="" from rfl,xy])
 |false=>
  rw[if_neg (by simp)]
  have a1:gD (dD (aa 1)) (fT (f2 r9 (aa 4) (eG (ai)))) ρ= .ok false:=by unfold gD;rw[tc];rfl
  have a2:gD (dD (aa 1)) (fT (f2 nV (f2 bD (cn c9 (a8 (f2 aQ (aa 0) (fC (.int 3))) (ai))) (cn c9 (a8 (aa 2) (ai)))) (fC (.int 10)))) ρ= .ok false:=by unfold gD;rw[tc];rfl
  have a3:gD (gY (dD (aa 1))) (fT (f2 tL (cn c9 (a8 (aa 4) (ai))) (cn c9 (a8 (aa 2) (ai))))) ρ= .ok (ns.any λx=> !decide (x∈m.ms)):=by unfold gD gY;rw[tc,ar,ar,if_pos (show (!false)=true from rfl),t3]
  exact(gj a1 (gj a2 (gj a3 pS))).trans (by rw[xy];rfl)
end
section
variable {n:Int} {m:Mo} {hs:List D}
theorem zV {g g':ag->R bq} {ρ ρ':ag} {w:L3} {L:List Nat} (hf:frz L ρ=ρ') (h:Dw (aw g g') ρ' w):Dw (aw (q9 L g) g') ρ w:=by
 have:aw (q9 L g) g' ρ=aw g g' ρ':=by unfold aw q9;rw[hf]
 unfold Dw
 rw[this];exact h
theorem xz (g:m.Ok) {ri:List Int} {rd:List Rd} (l1:ri.length<=100) (l2:rd.length<=60):gJ [bH n m, .tup (ri.map .int), .tup (rd.map jx)]= .ok (.str (fG (iP (!decide ((ri.length:Int)=n)) "WrongRises") (fG (vN m.nu (rd.map (·.1))) (fG (HK m.ms (rd.map (·.1))) (fG (iP (m.ms.any λx=> !decide (x∈rd.map (·.1))) "ReadingMissing") (fG (ET ri) (fG (ET (rd.map (·.2))) (iP (decide ((12:Int)<=(m.ds.length:Int))) "TooManyDays")))))))):=by
 let ks:=rd.map (·.1)
 have lk:ks.length<=100:=by simp only[ks,L7];omega
 have h1:f7 (.tup (ri.map .int)) ri:= .inr rfl
 have h2:yD (.tup (rd.map jx)) rd:= .inr rfl
 let R (x y z:Option Slot):ag:=[some (.val (bH n m)),some (.val (.tup (ri.map .int))),some (.val (.tup (rd.map jx))),x,y,z]
 have hk:∀{N:List L3} {names:List (L3×M0)} {ρ:ag},ρ[2]? =some (some (.val (.tup (rd.map jx))))->j6 N names ρ=[none,none]->bO N names (cD (au 2)) (gN 1) gP (f2 aQ (aa 1) (fC (.int 0))) ρ= .ok (ks.map .int):=λ{N names ρ} e hr=>by
  rw[pR (rest:=[]) (h2.seq (by unfold au;rw[e])) (by omega) hr (out:=λr=> .int r.1) λr _=>aj rfl rfl Dt,Mr];rfl
 have hv:∀{N:List L3} {names:List (L3×M0)} {ρ:ag},ρ[2]? =some (some (.val (.tup (rd.map jx))))->j6 N names ρ=[none,none]->bO N names (cD (au 2)) (gN 1) gP (f2 aQ (aa 1) (fC (.int 1))) ρ= .ok ((rd.map (·.2)).map .int):=λ{N names ρ} e hr=>by
  rw[pR (rest:=[]) (h2.seq (by unfold au;rw[e])) (by omega) hr (out:=λr=> .int r.2) λr _=>aj rfl rfl Du,Mr];rfl
 have a3r:m.mm.length<=10:=by rw[g.per.length_eq];exact g.ten
 let w:=vN m.nu ks
 let K:Option Slot:=some (.val (.lst (ks.map .int)))
 let W:Option Slot:=some (.val (.str w))
 let am:=ri++rd.map (·.2)
 have a48:am.length<=160:=by simp only[am,LO,L7];omega
 have a5:f2 bD (cn p0 (a8 (aa 1) (ai))) (fL (bO ["_law_model","_law_rises","_law_readings","_law_named","_law_word","_law_amounts"] [(".0", .local),("_law_row", .local)] (cD (au 2)) (gN 1) (gP) (f2 aQ (aa 1) (fC (.int 1))))) (R K W none)= .ok (.lst (am.map .int)):=
  aj (a:= .lst (ri.map .int)) (b:= .lst ((rd.map (·.2)).map .int)) (aR (a9 rfl rfl) rfl) (nZ (hv rfl rfl)) (by rw[CC (by simp only[L7];unfold lim;omega),<-LU])
 refine bx rfl ((gj (ρ:=R none none none) (bt (aj (aR (a9 rfl rfl) h1.len) (aj (a:=bH n m) rfl rfl DJ) zv)) (oE (ρ':=R (some (.own (.lst (ks.map .int)))) none none) (own_of (hk rfl rfl)) (zV (ρ':=R K none none) rfl (oE (ρ':=R K W none) (aY (aW (n:=2) (a9 rfl (a9 rfl rfl)) rfl (jY g (.inl rfl) lk)) rfl)
  (zU (w:=w) rfl λ_=>zV (ρ':=R K W none) rfl (gj (neC (enc:= .int) (l:=ks) (p:=λx=> !decide (x∈m.ms)) rfl (by omega) (rest:=[some (.val (bH n m))]) rfl λr _=>by
    rw[bt (aj (a:= .int r) (b:= .tup (m.mm.map .int)) rfl (aj (a:=bH n m) rfl rfl Ht) p9),g.mem])
   (gj (neC (enc:= .int) (l:=m.mm) (EW Ht) (by omega) (rest:=[K]) rfl λr _=>bt (aj (a:= .int r) (b:= .lst (ks.map .int)) rfl rfl lW))
   (oE (ρ':=R K W (some (.val (.lst (am.map .int))))) (aY a5 rfl)
   (gj (neC (enc:= .int) (l:=am) (p:=Hs) rfl (by omega) (rest:=[]) rfl λr _=>by
    unfold oG
    rw[bt (aj (a:= .int r) (b:= .int (-1000)) rfl rfl lV),ar]
    unfold Hs
    by_cases z:r< -1000
    ·simp only[z,decide_true,if_true,PK]
    ·simp only[z,decide_false,Ma,if_false,Pa]
     exact bt (aj (a:= .int r) (b:= .int 1000) rfl rfl jC))
   (gj (bt (aj (aR (a9 (aj (a:=bH n m) rfl rfl Jd) rfl) hJ) rfl (by rw[sH,L7]))) pS)))))))))).trans ?_)
 have e1:(m.mm.any λx=> !decide (x∈ks))=m.ms.any λx=> !decide (x∈ks):=g.per.any_eq
 have e2:fG (iP (am.any Hs) "OutOfRange")=λx=>fG (ET ri) (fG (ET (rd.map (·.2))) x):=by
  funext x
  rw[<-uP,show fG (ET ri) (ET (rd.map (·.2)))=iP (ri.any Hs||(rd.map (·.2)).any Hs) "OutOfRange" from Hu (by decide),List.any_append]
 rw[xy,e1,e2]
 rfl
inductive cc where
 |comes (a b:Int)|goes (a:Int)|mcome (ns:List Int)|mgo (ns:List Int)|pass (ri:List Int) (rd:List Rd)|back
def cc.dt:cc->L2.Pu.D
 | .comes a b=>lj a b
 | .goes a=>qX a
 | .mcome ns=>qx ns
 | .mgo ns=>xv ns
 | .pass ri rd=>dn ri rd
 | .back=> .tup [.str "take back"]
def cc.Fit:cc->Prop
 | .mcome ns=>ns.length<=40
 | .mgo ns=>ns.length<=40
 | .pass ri rd=>ri.length<=100/\rd.length<=60
 |_=>True
def cc.W (n:Int) (m:Mo) (hs:List L2.Pu.D):cc->L3
 | .comes a b=>Dp n m hs a b
 | .goes a=>FH m hs a
 | .mcome ns=>Dq m hs ns
 | .mgo ns=>Jc m hs ns
 | .pass ri rd=>FI n m hs ri rd
 | .back=>iP (decide (hs.length=0)) "NothingDone"
def cc.next (m:Mo):cc->Mo
 | .comes a b=>m.comes a b
 | .goes a=>m.goes a
 | .mcome ns=>m.mcome ns
 | .mgo ns=>m.mgo ns
 | .pass ri rd=>m.passes ri rd
 | .back=>m
end
section
variable {n:Int} {m:Mo} {hs:List D}
theorem iQ {i:Nat} {s x:L3} {l:List D} {ρ:ag} (h:ρ[i]? =some (some (.val (.tup (.str s::l))))) (e:s=x):fT (f2 dq (f2 aQ (aa i) (fC (.int 0))) (fC (.str x))) ρ= .ok true:=bt (aj (aj (a:= .tup (.str s::l)) (by unfold aa;rw[h];rfl) rfl DI) rfl (by rw[t9,decide_eq_true e]))
theorem c8 {i:Nat} {s x:L3} {l:List D} {ρ:ag} (h:ρ[i]? =some (some (.val (.tup (.str s::l))))) (e:s≠x):fT (f2 dq (f2 aQ (aa i) (fC (.int 0))) (fC (.str x))) ρ= .ok false:=bt (aj (aj (a:= .tup (.str s::l)) (by unfold aa;rw[h];rfl) rfl DI) rfl (by rw[t9,decide_eq_false e]))
theorem yG {b:Bool}:ym [.bl b]=some (.int (if b=true then 1 else 0)):=rfl
def cM (n:Int) (tr:List Mo) (m:Mo):List D:=(tr++[m]).map (bH n)
theorem iX {tr:List Mo}:aQ (.lst (cM n tr m)) (.int (-1))=some (bH n m):=by
 rw[wI]
 unfold cM
 rw[LU]
 exact wd _ _
theorem kC {tr:List Mo}:(cM n tr m).length=tr.length+1:=by unfold cM;simp
theorem vQ (g:m.Ok) {tr:List Mo} (hl:hs.length=tr.length) (d:cc) (hf:d.Fit):eD [.lst (cM n tr m),d.dt]= .ok (.str (d.W n m hs)):=by
 let R (y:Option Slot):ag:=[some (.val (.lst (cM n tr m))),some (.val d.dt),some (.val (bH n m)),y]
 have hw:nD hs=iP (decide (((cM n tr m).length:Int)>60)) "TooManyDeeds":=by
  unfold nD
  rw[kC,<-hl]
  congr 1
  refine decide_eq_decide.mpr ?_
  omega
 have e0:aV (f2 aQ (aa 0) (f1 g_ (fC (.int 1)))) (gN 2) [some (.val (.lst (cM n tr m))),some (.val d.dt),none,none]= .ok (.nx (R none)):=aY (aj (a:= .lst (cM n tr m)) (b:= .int (-1)) rfl rfl iX) rfl
 have Uk:∀{w:L3},aw (cA (gD (fT (f2 dq (aa 3) (fC (.str "")))) (fT (f2 nV (cn c9 (a8 (aa 0) (ai))) (fC (.int 60))))) (aV (fC (.str "TooManyDeeds")) (gN 3)) (aE)) (bu (au 3)) (R (some (.val (.str w))))= .ok (.ret (.str (fG w (nD hs)))):=λ{w}=>by
  have t1:fT (f2 dq (aa 3) (fC (.str ""))) (R (some (.val (.str w))))= .ok (decide (w="")):=bt (aj (a:= .str w) (b:= .str "") rfl rfl t9)
  have t2:fT (f2 nV (cn c9 (a8 (aa 0) (ai))) (fC (.int 60))) (R (some (.val (.str w))))= .ok (decide (((cM n tr m).length:Int)>60)):=bt (aj (aR (a9 rfl rfl) ir) rfl jC)
  rw[hw]
  by_cases e:w=""
  ·have a:gD (fT (f2 dq (aa 3) (fC (.str "")))) (fT (f2 nV (cn c9 (a8 (aa 0) (ai))) (fC (.int 60)))) (R (some (.val (.str w))))= .ok (decide (((cM n tr m).length:Int)>60)):=by unfold gD;rw[t1,decide_eq_true e,ar,if_pos rfl,t2]
   unfold fG
   rw[if_pos e]
   by_cases z:((cM n tr m).length:Int)>60
   ·rw[decide_eq_true z]at a ⊢
    rw[av (ρ':=R (some (.val (.str "TooManyDeeds")))) (by rw[dE a];rfl)]
    rfl
   ·rw[decide_eq_false z]at a ⊢
    rw[av (ρ':=R (some (.val (.str w)))) (by rw[bR a];rfl),e]
    rfl
  ·have a:gD (fT (f2 dq (aa 3) (fC (.str "")))) (fT (f2 nV (cn c9 (a8 (aa 0) (ai))) (fC (.int 60)))) (R (some (.val (.str w))))= .ok false:=by unfold gD;rw[t1,decide_eq_false e];rfl
   unfold fG
   rw[if_neg e,av (ρ':=R (some (.val (.str w)))) (by rw[bR a];rfl)]
   rfl
 refine bx rfl ?_
 show jU [some (.val (.lst (cM n tr m))),some (.val d.dt),none,none]=_
 unfold jU
 rw[av e0]
 cases d with
 |back=>
  refine dO ?_
  rw[dE (iQ rfl rfl)]
  have hc:cn ym (a8 (f2 dq (cn c9 (a8 (aa 0) (ai))) (fC (.int 1))) (ai)) (R none)= .ok (.int (if decide (((cM n tr m).length:Int)=1)=true then 1 else 0)):=aR (a9 (aj (aR (a9 rfl rfl) ir) rfl gR) rfl) yG
  show bu (f2 aQ (eG (a8 (fC (.str "")) (a8 (fC (.str "NothingDone")) (ai)))) (cn ym (a8 (f2 dq (cn c9 (a8 (aa 0) (ai))) (fC (.int 1))) (ai)))) (R none)= .ok (.ret (.str (iP (decide (hs.length=0)) "NothingDone")))
  refine cN (aj (a:= .lst [.str "", .str "NothingDone"]) rfl hc ?_)
  by_cases z:hs.length=0
  ·rw[decide_eq_true z,decide_eq_true (by rw[kC];omega)]
   exact Ja
  ·rw[decide_eq_false z,decide_eq_false (by rw[kC];omega)]
   exact J9
 |comes a b=>
  rw[av (by rw[bR (c8 rfl (by decide))];rfl),av (ρ':=R (some (.val (.str (fG (Hr n a b) (iP (decide ((12:Int)<=(m.ss.length:Int))) "TooManyStreams")))))) (by rw[dE (iQ rfl rfl)];exact aY (aW (n:=3) (a9 rfl (a9 (aj (a:=lj a b) rfl rfl (f8 1 rfl)) (a9 (aj (a:=lj a b) rfl rfl (f8 2 rfl)) rfl))) rfl (tw a b)) rfl),Uk,uP]
  rfl
 |goes a=>
  rw[av (by rw[bR (c8 rfl (by decide))];rfl),av (ρ':=R (some (.val (.str (vN m.nu [a]))))) (by rw[bR (c8 rfl (by decide)),dE (iQ rfl rfl)];exact aY (aW (n:=2) (a9 rfl (a9 (d:= .lst [.int a]) (by unfold eG;rw[a9 (aj (a:=qX a) rfl rfl (f8 1 rfl)) rfl,ar];exact if_pos (show 1<=lim by decide)) rfl)) rfl (jY g (ns:=[a]) (.inl rfl) (by simp))) rfl),Uk]
  rfl
 |mcome ns=>
  rw[av (by rw[bR (c8 rfl (by decide))];rfl),av (ρ':=R (some (.val (.str (fG (vN m.nu ns) (fG (iP (ns.any λx=>decide (x∈m.ms)) "AlreadyMetered") (iP (decide ((m.ms.length:Int)+(ns.length:Int)>10)) "TooManyMeters"))))))) (by rw[bR (c8 rfl (by decide)),bR (c8 rfl (by decide)),bR (c8 rfl (by decide))];exact aY (aW (n:=3) (ds:=[bH n m, .bl true, .tup (ns.map .int)]) (a9 rfl (a9 (aj (aj (a:=qx ns) rfl rfl DI) rfl (by rw[t9,decide_eq_true rfl])) (a9 (aj (a:=qx ns) rfl rfl (f8 1 rfl)) rfl))) rfl (mL g true (by have:ns.length<=40:=hf;omega))) rfl),Uk,uP,uP]
  rfl
 |mgo ns=>
  rw[av (by rw[bR (c8 rfl (by decide))];rfl),av (ρ':=R (some (.val (.str (fG (vN m.nu ns) (HK m.ms ns)))))) (by rw[bR (c8 rfl (by decide)),bR (c8 rfl (by decide)),bR (c8 rfl (by decide))];exact aY (aW (n:=3) (ds:=[bH n m, .bl false, .tup (ns.map .int)]) (a9 rfl (a9 (aj (aj (a:=xv ns) rfl rfl DI) rfl (by rw[t9,decide_eq_false (by decide)])) (a9 (aj (a:=xv ns) rfl rfl (f8 1 rfl)) rfl))) rfl (mL g false (by have:ns.length<=40:=hf;omega))) rfl),Uk,uP]
  rfl
 |pass ri rd=>
  rw[av (by rw[bR (c8 rfl (by decide))];rfl),av (by rw[bR (c8 rfl (by decide)),bR (c8 rfl (by decide)),dE (iQ rfl rfl)];exact aY (aW (n:=3) (a9 rfl (a9 (aj (a:=dn ri rd) rfl rfl (f8 1 rfl)) (a9 (aj (a:=dn ri rd) rfl rfl (f8 2 rfl)) rfl))) rfl (xz g hf.1 hf.2)) rfl)]
  refine Uk.trans ?_
  simp only[uP]
  rfl
theorem xA (g:m.Ok) (d:cc) (hf:d.Fit) (hd:m.dd.length<=100) (hp:∀ri rd,d= .pass ri rd->(rd.map (·.1)).Nodup) (hb:d≠ .back):dX [bH n m,d.dt]= .ok (bH n (d.next m)):=by
 let R (a b c e f:D):ag:=[some (.val (bH n m)),some (.val d.dt),some (.val (.int n)),some (.val a),some (.val b),some (.val c),some (.val e),some (.val f)]
 let S:=D.tup (m.ss.map d7);let Q:=D.tup (m.mm.map .int);let Y:=D.tup (m.ds.map (rn n));let Z:=D.tup (m.dd++[d.dt])
 have a3r:m.mm.length<=10:=by rw[g.per.length_eq];exact g.ten
 refine bx rfl ?_
 show l8 [some (.val (bH n m)),some (.val d.dt),none,none,none,none,none,none]=_
 unfold l8
 rw[av (ρ':=R (.int (m.c+1)) S Q Y (.tup m.dd)) rfl,av (ρ':=R (.int (m.c+1)) S Q Y Z) (aY (aj (a:= .tup m.dd) (b:= .tup [d.dt]) rfl rfl (iH (by simp;omega))) rfl)]
 have Uk:∀{a b c e f:D},bu (bS (a8 (au 2) (a8 (au 3) (a8 (au 4) (a8 (au 5) (a8 (au 6) (a8 (au 7) (ai)))))))) (R a b c e f)= .ok (.ret (.tup [.int n,a,b,c,e,f])):=λ{a b c e f}=>cN (bM (ds:=[.int n,a,b,c,e,f]) rfl (show 6<=lim by decide))
 cases d with
 |back=>exact absurd rfl hb
 |comes a b=>
  rw[av (ρ':=R (.int (m.c+1+1)) (.tup (m.ss.map d7++[d7 (m.c+1,a,b)])) Q Y Z) (by
   rw[dE (iQ rfl rfl),av (ρ':=R (.int (m.c+1)) (.tup (m.ss.map d7++[d7 (m.c+1,a,b)])) Q Y Z) (aY (aj (a:=S) (b:= .tup [d7 (m.c+1,a,b)]) rfl (bM (ds:=[d7 (m.c+1,a,b)]) (a9 (bM (ds:=[.int (m.c+1), .int a, .int b]) (a9 rfl (a9 (aj (a:=lj a b) rfl rfl (f8 1 rfl)) (a9 (aj (a:=lj a b) rfl rfl (f8 2 rfl)) rfl))) (show 3<=lim by decide)) rfl) (show 1<=lim by decide)) (iH (by have:=g.len;simp;omega))) rfl)]
   rfl),Uk]
  simp only[bH,cc.next,Mo.comes,LU,Lf,MA]
  rfl
 |goes a=>
  have h1:∀{b c:D},f2 aQ (aa 2) (fC (.int 1)) [none,some (.val b),some (.val (qX a))]= .ok (.int a):=λ{b c}=>aj (a:=qX a) rfl rfl (f8 1 rfl)
  rw[av (ρ':=R (.int (m.c+1)) (.tup ((m.ss.filter λr=>decide (r.1≠a)).map d7)) (.tup ((m.mm.filter λx=>decide (x≠a)).map .int)) Y Z) (by
   rw[bR (c8 rfl (by decide)),dE (iQ rfl rfl),av (ρ':=R (.int (m.c+1)) (.tup ((m.ss.filter λr=>decide (r.1≠a)).map d7)) Q Y Z) (aY (aR (a9 (nZ (fR (ds:=m.ss.map d7) rfl (by have:=g.len;rw[L7];unfold lim;omega) (τ:=[none,none,some (.val (qX a))]) rfl (kA (p:=λr:zN=>decide (r.1≠a)) (out:=d7) m.ss none (λr _=>bt (aj (aj rfl rfl pM) (h1 (c:= .non)) vI)) (λr _ _=>rfl)))) rfl) rfl) rfl)]
   exact aY (aR (a9 (nZ (fR (ds:=m.mm.map .int) rfl (by rw[L7];unfold lim;omega) (τ:=[none,none,some (.val (qX a))]) rfl (kA (p:=λr:Int=>decide (r≠a)) (out:= .int) m.mm none (λr _=>bt (aj (a:= .int r) rfl (h1 (c:= .non)) vI)) (λr _ _=>rfl)))) rfl) rfl) rfl),Uk]
  rfl
 |mcome ns=>
  have hn:ns.length<=40:=hf
  rw[av (ρ':=R (.int (m.c+1)) S (.tup ((cW (m.mm++ns)).map .int)) Y Z) (by
   rw[bR (c8 rfl (by decide)),bR (c8 rfl (by decide)),dE (iQ rfl rfl)]
   refine aY (aR (a9 (aR (a9 (aj (a:=Q) (b:= .tup (ns.map .int)) rfl (aj (a:=qx ns) rfl rfl (f8 1 rfl)) (iH (by simp;omega))) rfl) (d:= .lst ((cW (m.mm++ns)).map .int)) ?_) rfl) rfl) rfl
   rw[<-LU]
   show ((cU ((m.mm++ns).map D.int)).bind λns=>if ns.length<64 then some (D.lst ((cW ns).map .int))else none)=_
   rw[kL]
   exact if_pos (by rw[LO];omega)),Uk]
  rfl
 |mgo ns=>
  have h1:∀{b:D},f2 aQ (aa 2) (fC (.int 1)) [none,some (.val b),some (.val (xv ns))]= .ok (.tup (ns.map .int)):=λ{b}=>aj (a:=xv ns) rfl rfl (f8 1 rfl)
  rw[av (ρ':=R (.int (m.c+1)) S (.tup ((m.mm.filter λx=> !decide (x∈ns)).map .int)) Y Z) (by
   rw[bR (c8 rfl (by decide)),bR (c8 rfl (by decide)),bR (c8 rfl (by decide)),dE (iQ rfl rfl)]
   exact aY (aR (a9 (nZ (fR (ds:=m.mm.map .int) rfl (by rw[L7];unfold lim;omega) (τ:=[none,none,some (.val (xv ns))]) rfl (kA (p:=λr:Int=> !decide (r∈ns)) (out:= .int) m.mm none (λr _=>bt (aj (a:= .int r) rfl h1 p9)) (λr _ _=>rfl)))) rfl) rfl) rfl),Uk]
  rfl
 |pass ri rd=>
  have nd:=hp ri rd rfl
  have e3:=vO (f:=jx) (k:=(·.1)) (λa=>rfl) (kB rd) (zQ nd) (by have:=(kB rd).length_eq;have:=hf.2;omega) (.inr rfl)
  rw[av (ρ':=R (.int (m.c+1)) S Q (.tup (m.ds.map (rn n)++[rn n ⟨m.ss,ri,xI rd⟩])) Z) (by
   rw[bR (c8 rfl (by decide)),bR (c8 rfl (by decide)),bR (c8 rfl (by decide)),bR (c8 rfl (by decide))]
   exact aY (aj (a:=Y) (b:= .tup [rn n ⟨m.ss,ri,xI rd⟩]) rfl (bM (ds:=[rn n ⟨m.ss,ri,xI rd⟩]) (a9 (bM (ds:=[.int n,S, .tup (ri.map .int), .tup ((xI rd).map jx)]) (a9 rfl (a9 rfl (a9 (aj (a:=dn ri rd) rfl rfl (f8 1 rfl)) (a9 (aR (a9 (aR (a9 (aj (a:=dn ri rd) rfl rfl (f8 2 rfl)) rfl) e3) rfl) rfl) rfl)))) (show 4<=lim by decide)) rfl) (show 1<=lim by decide)) (iH (by have:=g.dl;simp;omega))) rfl),Uk]
  simp only[bH,cc.next,Mo.passes,LU,Lf,MA]
  rfl
def cc.ans (m:Mo):cc->L2.Pu.D
 | .comes _ _=> .int (m.c+1)
 | .pass _ _=> .int ((m.ds.length:Int)+1)
 |_=> .non
theorem xB (d:cc):fw [bH n m,d.dt]= .ok (d.ans m):=by
 refine bx rfl ?_
 show la [some (.val (bH n m)),some (.val d.dt)]=_
 unfold la
 have no:∀{s:L3} {l:List D},d.dt= .tup (.str s::l)->s≠"stream comes"->s≠"day passes"->d.ans m= .non->aw (cA (fT (f2 dq (f2 aQ (aa 1) (fC (.int 0))) (fC (.str "stream comes")))) (bu (f2 aQ (aa 0) (fC (.int 1)))) (aE)) (aw (cA (fT (f2 dq (f2 aQ (aa 1) (fC (.int 0))) (fC (.str "day passes")))) (bu (f2 bD (cn c9 (a8 (f2 aQ (aa 0) (fC (.int 4))) (ai))) (fC (.int 1)))) (aE)) (bu (fC .non))) [some (.val (bH n m)),some (.val d.dt)]= .ok (.ret (d.ans m)):=λ{s l} h1 h2 h3 h4=>by
  rw[h1,h4,av (by rw[bR (c8 rfl h2)];rfl),av (by rw[bR (c8 rfl h3)];rfl)];rfl
 cases d with
 |comes a b=>exact dO (by rw[dE (iQ rfl rfl)];exact cN (aj (a:=bH n m) rfl rfl KW))
 |pass ri rd=>
  rw[av (by rw[bR (c8 rfl (by decide))];rfl)]
  exact dO (by rw[dE (iQ rfl rfl)];exact cN (aj (aR (a9 (aj (a:=bH n m) rfl rfl Jd) rfl) hJ) rfl (by rw[eJ,L7];rfl)))
 |goes a=>exact no rfl (by decide) (by decide) rfl
 |mcome ns=>exact no rfl (by decide) (by decide) rfl
 |mgo ns=>exact no rfl (by decide) (by decide) rfl
 |back=>exact no rfl (by decide) (by decide) rfl
end
def WL:List L3:=["UnknownPlace","SamePlace","WrongRises","UnknownStream","Twice","AlreadyMetered","NotMetered","ReadingMissing","OutOfRange","TooManyStreams","TooManyMeters","TooManyDays","TooManyDeeds","NothingDone"]
def KL:List L3:=WL++(["BadTanks","UnknownDay","Clashing"]:List L3)
def Hv (w:L3):Prop:=w=""\/w∈WL
theorem f9 {a b:L3} (h:Hv a) (h2:Hv b):Hv (fG a b):=by unfold fG;split<;>assumption
theorem fM {b:Bool} {x:L3} (h:x∈WL:=by decide+kernel):Hv (iP b x):=by cases b;exact .inl rfl;exact .inr h
theorem bG {a b:L3} (h:fG a b=""):a=""/\b="":=by
 unfold fG at h
 split at h
 ·exact⟨by assumption,h⟩
 ·exact absurd h (by assumption)
theorem jK {b:Bool} {x:L3} (h:iP b x="") (hx:x≠"":=by decide):b=false:=by
 cases b
 ·rfl
 ·exact absurd h hx
section
variable {n:Int} {m:Mo} {hs:List D}
theorem cc.inW (d:cc):Hv (d.W n m hs):=by
 have nm:∀{a b:List Int},Hv (vN a b):=f9 fM fM
 have lt:Hv (nD hs):=fM
 cases d with
 |comes a b=>exact f9 (f9 fM fM) (f9 fM lt)
 |goes a=>exact f9 nm lt
 |mcome ns=>exact f9 nm (f9 fM (f9 fM lt))
 |mgo ns=>exact f9 nm (f9 fM lt)
 |pass ri rd=>exact f9 fM (f9 nm (f9 fM (f9 fM (f9 fM (f9 fM (f9 fM lt))))))
 |back=>exact fM
theorem mM (h:nD hs=""):hs.length<60:=by
 have:=of_decide_eq_false (jK h)
 omega
theorem cc.lt60 (d:cc) (hb:d≠ .back) (h:d.W n m hs=""):hs.length<60:=by
 cases d with
 |comes a b=>exact mM (bG (bG h).2).2
 |goes a=>exact mM (bG h).2
 |mcome ns=>exact mM (bG (bG (bG h).2).2).2
 |mgo ns=>exact mM (bG (bG h).2).2
 |pass ri rd=>exact mM (bG (bG (bG (bG (bG (bG (bG h).2).2).2).2).2).2).2
 |back=>exact absurd rfl hb
theorem cc.nodup (ri:List Int) (rd:List Rd) (h:(cc.pass ri rd).W n m hs=""):(rd.map (·.1)).Nodup:=(yE (bG (bG h).2).1).1
theorem cc.ok (d:cc) (g:m.Ok) (h:d.W n m hs=""):(d.next m).Ok:=by
 cases d with
 |back=>exact g
 |comes a b=>
  have a49:m.ss.length<12:=by
   have:=of_decide_eq_false (jK (bG (bG h).2).1)
   omega
  exact⟨List.pairwise_append.mpr ⟨g.inc,by simp,λr hr r' Y0=>by rw[Lk.mp Y0];have:=g.le r hr;show r.1<m.c+1;omega⟩,λr hr=>by
    show r.1<=m.c+1
    rcases L_.mp hr with hr|hr
    ·have:=g.le r hr;omega
    ·rw[Lk.mp hr];exact Int.le_refl _,by show (m.ss++_).length<=12;rw[LO,N8];omega,g.per,g.nd,λx hx=>by
    show x∈(m.ss++_).map (·.1)
    rw[LU];exact Mi _ (g.sub x hx),g.ten,g.dl⟩
 |goes a=>
  exact⟨g.inc.filter _,λr hr=>g.le r (N5.mp hr).1,LP (NK _ _) g.len,g.per.filter _,g.nd.filter _,λx hx=>by
    obtain⟨h1,h2⟩:=N5.mp hx
    obtain⟨r,hr,rfl⟩:=MU.mp (g.sub x h1)
    exact MU.mpr ⟨r,N5.mpr ⟨hr,h2⟩,rfl⟩,LP (NK _ _) g.ten,g.dl⟩
 |mcome ns=>
  obtain⟨w1,w2⟩:=bG h
  obtain⟨w3,w4⟩:=bG w2
  obtain⟨nd,sb⟩:=yE w1
  have dj:=jK w3
  have tn:=of_decide_eq_false (jK (bG w4).1)
  exact⟨g.inc,g.le,g.len,(i_ _).trans (g.per.append_right ns),ND.mpr ⟨g.nd,nd,λx hx y hy e=>by
    subst e
    exact absurd (Mc.mpr ⟨x,hy,decide_eq_true hx⟩) (by rw[dj];simp)⟩,λx hx=>by
    rcases L_.mp hx with hx|hx
    ·exact g.sub x hx
    ·exact sb x hx,by show (m.ms++ns).length<=10;rw[LO];omega,g.dl⟩
 |mgo ns=>exact⟨g.inc,g.le,g.len,g.per.filter _,g.nd.filter _,λx hx=>g.sub x (N5.mp hx).1,LP (NK _ _) g.ten,g.dl⟩
 |pass ri rd=>
  have hd:=of_decide_eq_false (jK (bG (bG (bG (bG (bG (bG (bG h).2).2).2).2).2).2).1)
  exact⟨g.inc,g.le,g.len,g.per,g.nd,g.sub,g.ten,by show (m.ds++_).length<=12;rw[LO,N8];omega⟩
theorem cc.dd (d:cc) (hb:d≠ .back):(d.next m).dd=m.dd++[d.dt]:=by
 cases d with
 |back=>exact absurd rfl hb
 |_=>rfl
theorem vR {fx:ag->R (D×ag)} {ρ ρ':ag} {d:D} (h:fx ρ= .ok (d,ρ')):iJ fx ρ= .ok (.retc d ρ'):=by unfold iJ;rw[h,ar]
theorem xC {fx:ag->R (D×ag)} {ρ ρ':ag} {x:L3} (h:fx ρ= .err x ρ'):iJ fx ρ= .err x ρ':=by unfold iJ;rw[h];rfl
theorem kD {mt:L3} {mf:List Slot->List D->R (D×List Slot)} {k:Nat} {fs:ag->R (List D)} {rest:ag} {ds:List D} {now UP a:D} {T3:List D} {w:L3} (h:fs (some (aA n now hs)::rest)= .ok ds) (hl:ds.length=k) (d:nB (mf [aA n now hs] ds) (aA n now hs) w a (aA n UP T3)) (hm:mt≠"history":=by decide) (h2:(lh n now).lookup mt=none:=by rfl):
  pP (iJ (kS 0 "Cellar" mt (dQ [0] mf k fs))) (some (aA n now hs)::rest) w (.ok (.retc a (some (aA n UP T3)::rest))):=by
 refine⟨λz=> ?_,λz=>vR (by rw[vH (n:=n) (now:=now) (hs:=hs) rfl hm h2];exact yw (n:=n) (now:=now) (hs:=hs) rfl h hl (d.2 z))⟩
 obtain⟨ρe,e,t⟩:=d.1 z
 exact⟨_,xC (by rw[vH (n:=n) (now:=now) (hs:=hs) rfl hm h2];exact vG (n:=n) (now:=now) (hs:=hs) rfl h hl e t rfl),rfl⟩
theorem xD {t:ag->R Bool} {g g':ag->R bq} {ρ ρ':ag} {w:L3} {a:D} (h:t ρ= .ok true) (h2:pP g ρ w (.ok (.retc a ρ'))):pP (aw (cA t g aE) g') ρ w (.ok (.retc a ρ')):=
 ⟨λz=>by obtain⟨ρe,e,k⟩:=h2.1 z;exact⟨ρe,li (by rw[dE h];exact e),k⟩,λz=>pI (by rw[dE h];exact h2.2 z)⟩
theorem jw {t:ag->R Bool} {g g':ag->R bq} {ρ:ag} {w:L3} {r:R bq} (h:t ρ= .ok false) (h2:pP g' ρ w r):pP (aw (cA t g aE) g') ρ w r:=by
 have:aw (cA t g aE) g' ρ=g' ρ:=av (by rw[bR h];rfl)
 unfold pP
 rw[this];exact h2
theorem zW (g:m.Ok) (d:cc) (hb:d≠ .back) (hf:d.Fit):nB (eY [aA n (bw n m) hs] [d.dt]) (aA n (bw n m) hs) (d.W n m hs) (d.ans m) (aA n (bw n (d.next m)) (hs++[.tup [d.dt,bw n m]])):=by
 refine m_ rfl (ρ':=[some (aA n (bw n (d.next m)) (hs++[.tup [d.dt,bw n m]])),some (.val d.dt)]) ?_ rfl
 show pP mq [some (aA n (bw n m) hs),some (.val d.dt)] _ _
 unfold mq
 cases d with
 |back=>exact absurd rfl hb
 |comes a b=>exact xD (iQ rfl rfl) (kD (a9 (aj (a:=lj a b) rfl rfl (f8 1 rfl)) (a9 (aj (a:=lj a b) rfl rfl (f8 2 rfl)) rfl)) rfl (yB g a b))
 |goes a=>exact jw (c8 rfl (by decide)) (xD (iQ rfl rfl) (kD (a9 (aj (a:=qX a) rfl rfl (f8 1 rfl)) rfl) rfl (B9 g a)))
 |mcome ns=>exact jw (c8 rfl (by decide)) (jw (c8 rfl (by decide)) (xD (iQ rfl rfl) (kD (a9 (aR (a9 (aj (a:=qx ns) rfl rfl (f8 1 rfl)) rfl) rfl) rfl) rfl (yC g (.inl rfl) (by have:ns.length<=40:=hf;omega)))))
 |mgo ns=>exact jw (c8 rfl (by decide)) (jw (c8 rfl (by decide)) (jw (c8 rfl (by decide)) (xD (iQ rfl rfl) (kD (a9 (aR (a9 (aj (a:=xv ns) rfl rfl (f8 1 rfl)) rfl) rfl) rfl) rfl (Dr g (.inl rfl) (by have:ns.length<=40:=hf;omega))))))
 |pass ri rd=>exact jw (c8 rfl (by decide)) (jw (c8 rfl (by decide)) (jw (c8 rfl (by decide)) (jw (c8 rfl (by decide)) (xD (iQ rfl rfl) (kD (a9 (aR (a9 (aj (a:=dn ri rd) rfl rfl (f8 1 rfl)) rfl) rfl) (a9 (aR (a9 (aj (a:=dn ri rd) rfl rfl (f8 2 rfl)) rfl) rfl) rfl)) rfl (Bb g (.inl rfl) (.inl rfl) hf.1 hf.2))))))
theorem zX {now a UP:D} {T3:List D} {w:L3} (h:nB (cj [aA n now hs] []) (aA n now hs) w a (aA n UP T3)):nB (eY [aA n now hs] [cc.back.dt]) (aA n now hs) w a (aA n UP T3):=by
 refine m_ rfl (ρ':=[some (aA n UP T3),some (.val cc.back.dt)]) ?_ rfl
 show pP mq [some (aA n now hs),some (.val cc.back.dt)] _ _
 unfold mq
 exact jw (c8 rfl (by decide)) (jw (c8 rfl (by decide)) (jw (c8 rfl (by decide)) (jw (c8 rfl (by decide)) (jw (c8 rfl (by decide)) (kD rfl rfl h)))))
theorem EX {f:ag->R D} {fx:ag->R (D×ag)} {ρ ρ':ag} {d e:D} (h:f ρ= .ok d) (h2:fx ρ= .ok (e,ρ')):m7 f fx ρ= .ok (.lst [d,e],ρ'):=by unfold m7;rw[h,ar,h2,ar]
theorem Dx {f:ag->R D} {fx:ag->R (D×ag)} {ρ ρ':ag} {d:D} {x:L3} (h:f ρ= .ok d) (h2:fx ρ= .err x ρ'):m7 f fx ρ= .err x ρ':=by unfold m7;rw[h,ar,h2];rfl
theorem zY {now a d UP:D} {T3:List D} {w:L3} (h:nB (eY [aA n now hs] [d]) (aA n now hs) w a (aA n UP T3)) (hw:w=""):eZ [aA n now hs] [d]= .ok (.lst [.str "",a],[aA n UP T3]):=by
 refine fD ⟨rfl,rfl⟩ (ρ:=[some (aA n UP T3),some (.val d),some (.own (.lst [])),none,none,none]) ?_ rfl
 show jj [some (aA n now hs),some (.val d),none,none,none,none]=_
 unfold jj
 rw[av (ρ':=[some (aA n now hs),some (.val d),some (.own (.lst [])),none,none,none]) rfl]
 refine pI ?_
 unfold AK
 rw[vR (ρ':=[some (aA n UP T3),some (.val d),some (.own (.lst [])),none,none,none]) (EX (d:= .str "") (e:=a) rfl (yw (k:=1) (n:=n) (now:=now) (hs:=hs) rfl (a9 rfl rfl) rfl (h.2 hw)))]
theorem xE {now a d UP:D} {T3:List D} {w:L3} (h:nB (eY [aA n now hs] [d]) (aA n now hs) w a (aA n UP T3)) (hw:w∈WL):eZ [aA n now hs] [d]= .ok (.lst [.str w, .non],[aA n now hs]):=by
 have nw:w≠"":=λz=>by rw[z]at hw;exact absurd hw (by decide+kernel)
 obtain⟨ρe,e,t⟩:=h.1 nw
 let ρ1:ag:=[some (aA n now hs),some (.val d),some (.own (.lst [])),none,none,none]
 have h1:iJ (m7 (fC (.str "")) (dQ [0] eY 1 (a8 (au 1) (ai)))) ρ1= .err w ρ1:=xC (Dx rfl (vG (n:=n) (now:=now) (hs:=hs) rfl (a9 rfl rfl) rfl e t rfl))
 have hT:∀{i:Nat} {sub:L3->Bool} {hd rest:ag->R bq},aw (AK i sub (iJ (m7 (fC (.str "")) (dQ [0] eY 1 (a8 (au 1) (ai))))) hd) rest ρ1=aw (λ_=>wL i sub hd w ρ1) rest ρ1:=by
  intro i sub hd rest
  unfold aw AK
  rw[h1]
 have go:jj [some (aA n now hs),some (.val d),none,none,none,none]= .ok (.retc (.lst [.str w, .non]) [some (aA n now hs),some (.val d),some (.val (.lst ((KL.map λx=> .bl (decide (w=x)))++[.bl false]))),none,some (.val (.lst ((KL++(["another"]:List L3)).map .str))),some (.val (.str w))]):=by
  unfold jj
  rw[av (ρ':=ρ1) rfl,hT]
  unfold WL at hw
  simp only[Li,M5,or_false]at hw
  rcases hw with rfl|rfl|rfl|rfl|rfl|rfl|rfl|rfl|rfl|rfl|rfl|rfl|rfl|rfl<;>kernel_rfl
 exact fD ⟨rfl,rfl⟩ go rfl
end
structure Mo.Rg (n:Int) (m:Mo):Prop where
 row:∀r∈m.ss,(0<=r.2.1/\r.2.1<=n)/\(0<=r.2.2/\r.2.2<=n)/\r.2.1≠r.2.2
 day:∀d∈m.ds,d.ss.length<=12/\d.ri.length<=100/\d.rd.length<=60
theorem cc.rg {n:Int} {m:Mo} {hs:List D} (d:cc) (hf:d.Fit) (k:m.Ok) (g:m.Rg n) (h:d.W n m hs=""):(d.next m).Rg n:=by
 cases d with
 |back=>exact g
 |comes a b=>
  obtain⟨w1,w2⟩:=bG (bG h).1
  have ho:=jK w1
  have UR:=of_decide_eq_false (jK w2)
  have Zw:∀x∈[a,b],0<=x/\x<=n:=λx hx=>by
   have:yz n x=false:=by
    cases q:yz n x with
    |false=>rfl
    |true=>rw[Mc.mpr ⟨x,hx,q⟩]at ho;cases ho
   unfold yz at this
   simp only[Bool.or_eq_false_iff,decide_eq_false_iff_not]at this
   omega
  refine⟨λr hr=> ?_,g.day⟩
  rcases L_.mp hr with hr|hr
  ·exact g.row r hr
  ·rw[Lk.mp hr];exact⟨Zw a (by simp),Zw b (by simp),UR⟩
 |goes a=>exact⟨λr hr=>g.row r (N5.mp hr).1,g.day⟩
 |mcome ns=>exact⟨g.row,g.day⟩
 |mgo ns=>exact⟨g.row,g.day⟩
 |pass ri rd=>
  refine⟨g.row,λd hd=> ?_⟩
  rcases L_.mp hd with hd|hd
  ·exact g.day d hd
  ·rw[Lk.mp hd];exact⟨k.len,hf.1,by rw[<-(kB rd).length_eq];exact hf.2⟩
inductive Tr (n:Int):List Mo->Mo->List D->Prop
 |nil {m:Mo}:m.Ok->m.Rg n->m.dd=[]->Tr n [] m []
 |snoc {tr:List Mo} {m:Mo} {hs:List D} {m':Mo} {d:D}:Tr n tr m hs->m'.Ok->m'.Rg n->m'.dd=m.dd++[d]->hs.length<60->Wf 3 d->Tr n (tr++[m]) m' (hs++[.tup [d,bw n m]])
section
variable {n:Int} {tr:List Mo} {m:Mo} {hs:List D}
theorem Tr.ok (t:Tr n tr m hs):m.Ok:=by cases t<;>assumption
theorem Tr.rg (t:Tr n tr m hs):m.Rg n:=by cases t<;>assumption
theorem Tr.len (t:Tr n tr m hs):hs.length=tr.length:=by
 induction t with
 |nil _ _ _=>rfl
 |snoc _ _ _ _ _ _ ih=>simp[ih]
theorem Tr.le (t:Tr n tr m hs):hs.length<=60:=by
 cases t with
 |nil _ _ _=>simp
 |snoc _ _ _ _ h _=>rw[LO,N8];omega
theorem Tr.prs (t:Tr n tr m hs):∃l:List (D×D),hs=l.map (λp=> .tup [p.1,p.2])/\l.map (·.1)=m.dd/\∀d∈m.dd,Wf 3 d:=by
 induction t with
 |nil _ _ h=>exact⟨[],rfl,h.symm,λd hd=>by rw[h]at hd;cases hd⟩
 | @snoc tr m hs m' d _ _ _ h _ hw ih=>
  obtain⟨l,h1,h2,h3⟩:=ih
  refine⟨l++[(d,bw n m)],by rw[h1];simp,by rw[h,<-h2];simp,λe he=> ?_⟩
  rw[h]at he
  rcases L_.mp he with he|he
  ·exact h3 e he
  ·rw[Lk.mp he];exact hw
theorem Tr.dl (t:Tr n tr m hs):m.dd.length<=60:=by
 obtain⟨l,h1,h2,_⟩:=t.prs
 have:=t.le
 rw[<-h2,L7]
 rw[h1,L7]at this
 exact this
theorem yH (t:Tr n tr m hs):dA [.ins "Cellar" (gQ n (bw n m) hs)]= .ok (.tup m.dd):=by
 obtain⟨l,h1,h2,_⟩:=t.prs
 have hl:=t.le
 rw[h1,L7]at hl
 refine bx rfl (cN (aR (a9 (d:= .lst m.dd) (nZ ?_) rfl) rfl))
 rw[<-h2]
 exact pR (enc:=λp:D×D=> .tup [p.1,p.2]) (l:=l) (out:=(·.1)) (by unfold cD;rw[fK (fds:=gQ n (bw n m) hs) (d:= .lst hs) rfl rfl,h1];rfl) (by omega) (rest:=[]) rfl λp _=>aj (a:= .tup [p.1,p.2]) rfl rfl DI
theorem Hw (r:zN):Wf 1 (d7 r):= .tup (by simp) λd hd=>by
 simp only[Li,M5,or_false]at hd
 rcases hd with rfl|rfl|rfl<;>exact .int 0 _
theorem FJ (r:Rd):Wf 1 (jx r):= .tup (by simp) λd hd=>by
 simp only[Li,M5,or_false]at hd
 rcases hd with rfl|rfl<;>exact .int 0 _
theorem cc.wf (d:cc) (hf:d.Fit):Wf 3 d.dt:=by
 have i1:∀{ns:List Int},ns.length<=100->Wf 2 (.tup (ns.map .int)):=λ{ns} h=>(zM ns (by omega)).up 1
 cases d with
 |back=>exact .tup (by simp) λd hd=>by rw[Lk.mp hd];exact .str _ _
 |comes a b=>
  refine .tup (by simp) λd hd=> ?_
  simp only[Li,M5,or_false]at hd
  rcases hd with rfl|rfl|rfl
  ·exact .str _ _
  ·exact .int _ _
  ·exact .int _ _
 |goes a=>
  refine .tup (by simp) λd hd=> ?_
  simp only[Li,M5,or_false]at hd
  rcases hd with rfl|rfl
  ·exact .str _ _
  ·exact .int _ _
 |mcome ns=>
  refine .tup (by simp) λd hd=> ?_
  simp only[Li,M5,or_false]at hd
  rcases hd with rfl|rfl
  ·exact .str _ _
  ·exact i1 (LP (show ns.length<=40 from hf) (by decide))
 |mgo ns=>
  refine .tup (by simp) λd hd=> ?_
  simp only[Li,M5,or_false]at hd
  rcases hd with rfl|rfl
  ·exact .str _ _
  ·exact i1 (LP (show ns.length<=40 from hf) (by decide))
 |pass ri rd=>
  refine .tup (by simp) λd hd=> ?_
  simp only[Li,M5,or_false]at hd
  rcases hd with rfl|rfl|rfl
  ·exact .str _ _
  ·exact i1 hf.1
  ·exact vF (by have:=hf.2;omega) λa _=>FJ a
theorem cc.wfa (d:cc):Wf 0 (d.ans m):=by cases d<;>first|exact .int _ _|exact .non _
abbrev pO (n:Int) (tr:List Mo) (m:Mo):Slot:= .own (.lst (cM n tr m))
theorem EY {i:Nat} {fx:ag->R (D×ag)} {ρ ρ':ag} {d:D} (h:fx ρ= .ok (d,ρ')):zD i fx ρ= .ok (.nx (ρ'.set i (some (.val d)))):=by unfold zD;rw[h,ar]
theorem Ka {mf:List Slot->List D->R (D×List Slot)} {k:Nat} {fs:ag->R (List D)} {rest:ag} {ds:List D} {now d:D} {s':Slot} (h2:fs (some (aA n now hs)::rest)= .ok ds) (hl:ds.length=k) (e:mf [aA n now hs] ds= .ok (d,[s'])) (hk:s'.kind=(aA n now hs).kind):dQ [0] mf k fs (some (aA n now hs)::rest)= .ok (d,some s'::rest):=by
 unfold dQ
 rw[show ft (some (aA n now hs)::rest) [0]=some [aA n now hs]from rfl]
 dsimp only
 rw[if_pos ⟨rfl,by simp⟩,h2,ar,if_pos hl,e]
 dsimp only
 rw[if_pos (show Q3 Slot.kind [s']=Q3 Slot.kind [aA n now hs] by simp only[Lf,MA,hk])]
 rfl
theorem qy (t:Tr n tr m hs) (d:cc) (hf:d.Fit):∃WE m' T3,Tr n WE m' T3/\ck [aA n (bw n m) hs,pO n tr m] [d.dt]= .ok (.bl true,[aA n (bw n m') T3,pO n WE m'])/\(d= .back->WE.length=tr.length - 1):=by
 have g:=t.ok
 let w:=d.W n m hs
 have a0Y:=vQ g t.len d hf (n:=n)
 let Z (s p:Slot) (x y z:Option Slot):ag:=[some s,some p,some (.val d.dt),x,y,z]
 let s:=aA n (bw n m) hs
 let p:=pO n tr m
 let M:Option Slot:=some (.val (bH n m))
 let W:Option Slot:=some (.val (.str w))
 have e1:aV (f2 aQ (aa 1) (f1 g_ (fC (.int 1)))) (gN 3) (Z s p none none none)= .ok (.nx (Z s p M none none)):=aY (aj (a:= .lst (cM n tr m)) (b:= .int (-1)) rfl rfl iX) rfl
 have e2:aV (zA [1] (aF eD 2 (a8 (au 1) (a8 (au 2) (ai))))) (gN 4) (Z s p M none none)= .ok (.nx (Z s p M W none)):=by
  refine aY (d:= .str w) ?_ rfl
  unfold zA
  rw[show frz [1] (Z s p M none none)=Z s (.val (.lst (cM n tr m))) M none none from rfl,aW (n:=2) (a9 rfl (a9 rfl rfl)) rfl a0Y,ar]
  rfl
 have dF:∀{r:R (D×List Slot)},iw 2 1 4 gi [s,p] [d.dt]=r->ck [s,p] [d.dt]=r:=λh=>h
 have YN:∀{v s':_} (hm:eZ [s] [d.dt]= .ok (v,[s'])) (hk:s'.kind=s.kind),gi (Z s p none none none)=aw (cA (oG (fT (f2 sD (aa 4) (fC (.str "")))) (fT (f2 sD (f2 aQ (aa 5) (fC (.int 0))) (fC (.str ""))))) (gT (f2 dq (aa 4) (f2 aQ (aa 5) (fC (.int 0))))) (aE)) (aw (cA (fT (f2 dq (f2 aQ (aa 2) (fC (.int 0))) (fC (.str "take back")))) (aw (zI 1) (gT (aF bn 2 (a8 (f2 aQ (aa 5) (fC (.int 1))) (a8 (f2 aQ (f2 aQ (aa 3) (fC (.int 5))) (f1 g_ (fC (.int 1)))) (ai)))))) (aE)) (aw (oZ 1 (aF dX 2 (a8 (au 3) (a8 (au 2) (ai))))) (gT (aF bn 2 (a8 (f2 aQ (aa 5) (fC (.int 1))) (a8 (aF fw 2 (a8 (au 3) (a8 (au 2) (ai)))) (ai))))))) (Z s' p M W (some (.val v))):=λ{v s'} hm hk=>by
  unfold gi
  rw[av e1,av e2,av (EY (Ka (n:=n) (hs:=hs) (now:=bw n m) (k:=1) (a9 rfl rfl) rfl hm hk))]
  rfl
 have t4:∀{s':Slot} {v:D},fT (f2 sD (aa 4) (fC (.str ""))) (Z s' p M W (some (.val v)))= .ok (!decide (w="")):=λ{s' v}=>bt (aj (a:= .str w) (b:= .str "") rfl rfl zT)
 have t5:∀{s':Slot} {a:D},fT (f2 sD (f2 aQ (aa 5) (fC (.int 0))) (fC (.str ""))) (Z s' p M W (some (.val (.lst [.str "",a]))))= .ok false:=λ{s' a}=>bt (aj (aj (a:= .lst [.str "",a]) rfl rfl J9) rfl zT)
 by_cases hw:w=""
 ·by_cases hb:d= .back
  ·subst hb
   have ZQ:hs.length≠0:=of_decide_eq_false (jK hw)
   cases t with
   |nil _ _ _=>exact absurd rfl ZQ
   | @snoc tr0 m0 Xd _ e t0 _ _ a0W _ a3s=>
    have a0Z:nB (eY [aA n (bw n m) (Xd++[.tup [e,bw n m0]])] [cc.back.dt]) (aA n (bw n m) (Xd++[.tup [e,bw n m0]])) "" e (aA n (bw n m0) Xd):=zX ⟨λz=>absurd rfl z,λ_=>Bd⟩
    have WD:=zY a0Z rfl
    refine⟨tr0,m0,Xd,t0,dF (fD ⟨rfl,rfl⟩ (ρ:=Z (aA n (bw n m0) Xd) (pO n tr0 m0) M W (some (.val (.lst [.str "",e])))) ?_ rfl),λ_=>by simp⟩
    show gi (Z s p none none none)=_
    rw[YN WD rfl,av (by rw[bR (by unfold oG;rw[t4,decide_eq_true hw];exact t5 (s':=aA n (bw n m0) Xd) (a:=e))];rfl)]
    refine pI ?_
    rw[dE (iQ rfl rfl),av (ρ':=Z (aA n (bw n m0) Xd) (pO n tr0 m0) M W (some (.val (.lst [.str "",e])))) (by
     show (match (cM n (tr0++[m0]) m)[(cM n (tr0++[m0]) m).length - 1]? with|some _=>R.ok (bq.nx ((Z (aA n (bw n m0) Xd) (pO n (tr0++[m0]) m) M W (some (.val (.lst [.str "",e])))).set 1 (some (.own (.lst (cM n (tr0++[m0]) m).dropLast)))))|none=> .bad)=_
     unfold cM
     rw[LU,Lf,MA,QP,show (Q3 (bH n) (tr0++[m0])++[bH n m])[(Q3 (bH n) (tr0++[m0])++[bH n m]).length - 1]? =some (bH n m) by simp]
     rfl)]
    refine pL (aW (n:=2) (a9 (aj (a:= .lst [.str "",e]) rfl rfl Ja) (a9 (aj (b:= .int (-1)) (aj (a:=bH n m) rfl rfl Kv) rfl (by rw[ux,a0W];exact wd _ _)) rfl)) rfl (ju (by decide) a3s))
  ·
   have a0Z:=zW g d hb hf (n:=n) (hs:=hs)
   have WD:=zY a0Z hw
   have a0n:∀ri rd,d= .pass ri rd->(rd.map (·.1)).Nodup:=λri rd e=>by subst e;exact cc.nodup (n:=n) (hs:=hs) ri rd hw
   have XS:=xA g d hf (by have:=t.dl;omega) a0n hb (n:=n)
   have a3t:∀{ρ:ag},ρ[2]? =some (some (.val d.dt))->fT (f2 dq (f2 aQ (aa 2) (fC (.int 0))) (fC (.str "take back"))) ρ= .ok false:=λ{ρ} h=>by
    cases d with
    |back=>exact absurd rfl hb
    |_=>exact c8 h (by decide)
   refine⟨tr++[m],d.next m,_, .snoc t (d.ok g hw) (d.rg hf g t.rg hw) (d.dd hb) (d.lt60 hb hw) (d.wf hf),dF (fD ⟨rfl,rfl⟩ (ρ:=Z (aA n (bw n (d.next m)) (hs++[.tup [d.dt,bw n m]])) (pO n (tr++[m]) (d.next m)) M W (some (.val (.lst [.str "",d.ans m])))) ?_ rfl),λz=>absurd z hb⟩
   show gi (Z s p none none none)=_
   rw[YN WD rfl,av (by rw[bR (by unfold oG;rw[t4,decide_eq_true hw];exact t5 (s':=aA n (bw n (d.next m)) (hs++[.tup [d.dt,bw n m]])) (a:=d.ans m))];rfl),av (by rw[bR (a3t rfl)];rfl),av (ρ':=Z (aA n (bw n (d.next m)) (hs++[.tup [d.dt,bw n m]])) (pO n (tr++[m]) (d.next m)) M W (some (.val (.lst [.str "",d.ans m])))) (by
    show (aF dX 2 (a8 (au 3) (a8 (au 2) (ai))) (Z (aA n (bw n (d.next m)) (hs++[.tup [d.dt,bw n m]])) p M W (some (.val (.lst [.str "",d.ans m]))))>>=λx=>if (cM n tr m).length<lim then R.ok (bq.nx ((Z (aA n (bw n (d.next m)) (hs++[.tup [d.dt,bw n m]])) p M W (some (.val (.lst [.str "",d.ans m])))).set 1 (some (.own (.lst (cM n tr m++[x]))))))else .bad)=_
    rw[aW (n:=2) (a9 rfl (a9 rfl rfl)) rfl XS,ar,if_pos (by rw[kC,<-t.len];have:=t.le;unfold lim;omega)]
    unfold pO cM
    rw[LU (l₁:=tr++[m]),Lf,MA]
    rfl)]
   exact pL (aW (n:=2) (a9 (aj (a:= .lst [.str "",d.ans m]) rfl rfl Ja) (a9 (aW (n:=2) (a9 rfl (a9 rfl rfl)) rfl (xB d)) rfl)) rfl (ju (by decide) d.wfa))
 ·
  have a0_:w∈WL:=(d.inW (n:=n) (m:=m) (hs:=hs)).resolve_left hw
  have WD:eZ [s] [d.dt]= .ok (.lst [.str w, .non],[s]):=by
   by_cases hb:d= .back
   ·subst hb
    have ZQ:hs.length=0:=by
     by_cases z:hs.length=0
     ·exact z
     ·exact absurd (show iP (decide (hs.length=0)) "NothingDone"="" by rw[decide_eq_false z];rfl) hw
    have h0:hs=[]:=M_.mp ZQ
    have a3u:w="NothingDone":=by show iP (decide (hs.length=0)) "NothingDone"=_;rw[decide_eq_true ZQ];rfl
    subst h0
    rw[a3u]
    exact xE (zX Bc) (by decide+kernel)
   ·exact xE (zW g d hb hf (n:=n) (hs:=hs)) a0_
  refine⟨tr,m,hs,t,dF (fD ⟨rfl,rfl⟩ (ρ:=Z s p M W (some (.val (.lst [.str w, .non])))) ?_ rfl),λz=>by
   subst z
   have h0:hs.length=0:=by
    by_cases z:hs.length=0
    ·exact z
    ·exact absurd (show iP (decide (hs.length=0)) "NothingDone"="" by rw[decide_eq_false z];rfl) hw
   have:=t.len
   omega⟩
  show gi (Z s p none none none)=_
  rw[YN WD rfl]
  refine pI ?_
  rw[dE (by unfold oG;rw[t4,decide_eq_false hw];rfl)]
  exact pL (aj (a:= .str w) rfl (aj (a:= .lst [.str w, .non]) rfl rfl J9) (by rw[t9,decide_eq_true rfl]))
theorem kE (t:Tr n tr m hs) (d:cc) (hf:d.Fit):∃WE m' T3,Tr n WE m' T3/\ck [aA n (bw n m) hs,pO n tr m] [d.dt]= .ok (.bl true,[aA n (bw n m') T3,pO n WE m']):=by
 obtain⟨WE,m',T3,t',e,_⟩:=qy t d hf
 exact⟨WE,m',T3,t',e⟩
end
theorem Hx {ss:List zN} {k:Nat} (h:k<ss.length):L2.atI (ss.map d7) (k:Int)=some (d7 ss[k]):=by
 rw[iu (by simpa using h)]
 simp
theorem Je {α:Type} {x:α} {xs:List α}:L2.atI (x::xs) 0=some x:=by
 have:=iu (xs:=x::xs) (k:=0) (by simp)
 simpa using this
theorem Jf {α:Type} {x y:α} {xs:List α}:L2.atI (x::y::xs) 1=some y:=by
 have:=iu (xs:=x::y::xs) (k:=1) (by simp)
 simpa using this
structure Good (n:Nat) (ss:List zN):Prop where
 src:∀r∈ss,0<=r.2.1/\r.2.1<=n
 tgt:∀r∈ss,0<=r.2.2/\r.2.2<=n
 ne:∀r∈ss,r.2.1≠r.2.2
def lv (L:List Int) (i:Int):Int:=L.getD i.toNat 0
theorem zZ {L:List Int} {i:Int} (h0:0<=i) (h1:i<L.length):L2.atI (L.map D.int) i=some (.int (lv L i)):=by
 obtain⟨k,rfl⟩:=Oh h0
 have hk:k<L.length:=by omega
 rw[iu (by simpa using hk)]
 simp[lv,hk]
theorem Dy {i j:Int}:AH [.int i, .int j]=some (.int (if j>i then j else i)):=rfl
theorem vS {i j:Int}:wD [.int i, .int j]=some (.int (if j<i then j else i)):=rfl
theorem FK {a b c:Int} (h1:a<=c) (h2:b<=c):(if b>a then b else a)<=c:=by split<;>assumption
theorem Dz {a b c:Int} (h:c<=a):c<=(if b>a then b else a):=by
 split
 ·exact MV h (Int.le_of_lt (by assumption))
 ·exact h
theorem DA {a b c:Int} (h:c<=b):c<=(if b>a then b else a):=by
 split
 ·exact h
 ·exact MV h (Int.not_lt.mp (by assumption))
theorem FL {a b c:Int} (h1:c<=a) (h2:c<=b):c<=(if b<a then b else a):=by split<;>assumption
theorem DB {a b c:Int} (h:a<=c):(if b<a then b else a)<=c:=by
 split
 ·exact MV (Int.le_of_lt (by assumption)) h
 ·exact h
theorem DC {a b c:Int} (h:b<=c):(if b<a then b else a)<=c:=by
 split
 ·exact h
 ·exact MV (Int.not_lt.mp (by assumption)) h
theorem Be {L:List Int} {n:Nat} {s t most:Int} (hL:L.length=n+1) (hs:0<=s/\s<=n) (ht:0<=t/\t<=n) (hm:0<=most) (hb:∀i:Int,1<=i->i<=n-> -1000<=lv L i/\lv L i<=1000):
  ∃lo hi:Int,ji [.lst (L.map .int), .int s, .int t, .int most]= .ok (.lst [.int lo, .int hi])/\lo<=0/\0<=hi/\ -most<=lo/\hi<=most/\(0<s->lv L s - 1000<=lo/\hi<=lv L s+1000)/\(0<t-> -1000 - lv L t<=lo/\hi<=1000 - lv L t):=by
 have Yy:L2.atI (L.map D.int) s=some (.int (lv L s)):=zZ hs.1 (by omega)
 have a10:L2.atI (L.map D.int) t=some (.int (lv L t)):=zZ ht.1 (by omega)
 have WY:(2:Nat)<=lim:=by decide
 have a1F: -most<=0:=Int.neg_nonpos_of_nonneg hm
 have r:= @Int.le_refl
 have SN:∀i:Int,0<i->i<=n->(lv L i - 1000<=0/\0<=lv L i+1000)/\ -1000 - lv L i<=0/\0<=1000 - lv L i:=λi h1 h2=>by
  have:=hb i h1 h2
  omega
 obtain⟨lo1,XR,e1,p1,p2,p3,p4,p5⟩:∃lo1 XR:Int,cA (fT (f2 nV (aa 1) (fC (.int 0)))) (aw (aV (cn AH (a8 (aa 4) (a8 (f2 iS (f2 aQ (aa 0) (aa 1)) (fC (.int 1000))) (ai)))) (gN 4)) (aV (cn wD (a8 (aa 5) (a8 (f2 bD (f2 aQ (aa 0) (aa 1)) (fC (.int 1000))) (ai)))) (gN 5))) (aE) [some (.val (.lst (L.map .int))),some (.val (.int s)),some (.val (.int t)),some (.val (.int most)),some (.val (.int (-most))),some (.val (.int most))]
   = .ok (.nx [some (.val (.lst (L.map .int))),some (.val (.int s)),some (.val (.int t)),some (.val (.int most)),some (.val (.int lo1)),some (.val (.int XR))])/\lo1<=0/\0<=XR/\ -most<=lo1/\XR<=most/\(0<s->lv L s - 1000<=lo1/\XR<=lv L s+1000):=by
  by_cases h1:0<s
  ·have k:=(SN s h1 hs.2).1
   exact⟨_,_,by simp! [h1,Yy,Dy,vS],FK a1F k.1,FL hm k.2,Dz (r _),DB (r _),λ_=>⟨DA (r _),DC (r _)⟩⟩
  ·exact⟨-most,most,by simp! [h1],a1F,hm,r _,r _,λz=>absurd z h1⟩
 obtain⟨YO,YQ,e2,q1,q2,q3,q4,q5⟩:∃YO YQ:Int,cA (fT (f2 nV (aa 2) (fC (.int 0)))) (aw (aV (cn AH (a8 (aa 4) (a8 (f2 iS (f1 g_ (fC (.int 1000))) (f2 aQ (aa 0) (aa 2))) (ai)))) (gN 4)) (aV (cn wD (a8 (aa 5) (a8 (f2 iS (fC (.int 1000)) (f2 aQ (aa 0) (aa 2))) (ai)))) (gN 5))) (aE) [some (.val (.lst (L.map .int))),some (.val (.int s)),some (.val (.int t)),some (.val (.int most)),some (.val (.int lo1)),some (.val (.int XR))]
   = .ok (.nx [some (.val (.lst (L.map .int))),some (.val (.int s)),some (.val (.int t)),some (.val (.int most)),some (.val (.int YO)),some (.val (.int YQ))])/\YO<=0/\0<=YQ/\lo1<=YO/\YQ<=XR/\(0<t-> -1000 - lv L t<=YO/\YQ<=1000 - lv L t):=by
  by_cases h1:0<t
  ·have k:=(SN t h1 ht.2).2
   exact⟨_,_,by simp! [h1,a10,Dy,vS],FK p1 k.1,FL p2 k.2,Dz (r _),DB (r _),λ_=>⟨DA (r _),DC (r _)⟩⟩
  ·exact⟨lo1,XR,by simp! [h1],p1,p2,r _,r _,λz=>absurd z h1⟩
 refine⟨YO,YQ,bx rfl ?_,q1,q2,MV p3 q3,MV q4 p4,λz=>⟨MV (p5 z).1 q3,MV q4 (p5 z).2⟩,q5⟩
 show oj [some (.val (.lst (L.map .int))),some (.val (.int s)),some (.val (.int t)),some (.val (.int most)),none,none]=_
 unfold oj
 rw[av (ρ':=[some (.val (.lst (L.map .int))),some (.val (.int s)),some (.val (.int t)),some (.val (.int most)),some (.val (.int (-most))),none]) rfl,
  av (ρ':=[some (.val (.lst (L.map .int))),some (.val (.int s)),some (.val (.int t)),some (.val (.int most)),some (.val (.int (-most))),some (.val (.int most))]) rfl,av e1,av e2]
 simp! [WY]
def lw (p:Int×Int):D:= .tup [.int p.1, .int p.2]
theorem yI {L:List Int} {i j v:Int} (hi:0<=i) (hl:i<L.length) (hj:0<=j):lv (L.set i.toNat v) j=if j=i then v else lv L j:=by
 unfold lv
 rw[Mg,Nb]
 by_cases h:j=i
 ·subst h
  rw[if_pos rfl,if_pos (by omega),if_pos rfl];rfl
 ·rw[if_neg (by omega),if_neg h,Mg]
theorem DD {n:Nat} {i:Int} (h0:0<=i) (h1:i<n):L2.xG n i=some i.toNat:=by unfold L2.xG;rw[if_pos h0,if_pos h1]
theorem xF (L:List Int) (i:Nat) (v:Int):(L.map D.int).set i (.int v)=(L.set i v).map D.int:=by rw[List.map_set]
theorem KY {i:Nat} {gs:List D->ag->R ag} {d:D} {ds:List D} {ρ:ag}:eU (gN i) gs (d::ds) ρ=gs ds (ρ.set i (some (.val d))):=rfl
theorem KZ {ρ:ag}:sy [] ρ= .ok ρ:=rfl
theorem Bf {n:Nat} {figs:List Int} {ss:List zN} {mm:List Int} {b0 b1:Int} {L:List Int} {rows:List (Int×Int)} {k:Nat} {x8 x9 x10 x11 x12 x13:Option Slot} (hk:k<ss.length) (hf:k<figs.length) (g:Good n ss) (hn:n<=7) (hL:L.length=n+1) (h0:0<=b0) (h1:0<=b1)
  (hb:∀i:Int,1<=i->i<=n-> -1000<=lv L i/\lv L i<=1000) (hr:rows.length<=1000):
  ∃(a:Int) (L':List Int) (y8 y9 UH V5 Yb YR:Option Slot),iT [some (.val (.lst (figs.map .int))),some (.val (.int (n:Int))),some (.val (.tup (ss.map d7))),some (.val (.tup (mm.map .int))),some (.val (.lst [.int b0, .int b1])),some (.own (.lst (L.map .int))),some (.own (.lst (rows.map lw))),some (.val (.int (k:Int))),x8,x9,x10,x11,x12,x13]
   = .ok (.nx [some (.val (.lst (figs.map .int))),some (.val (.int (n:Int))),some (.val (.tup (ss.map d7))),some (.val (.tup (mm.map .int))),some (.val (.lst [.int b0, .int b1])),some (.own (.lst (L'.map .int))),some (.own (.lst ((rows++[(ss[k].1,a)]).map lw))),some (.val (.int (k:Int))),y8,y9,UH,V5,Yb,YR])/\
   L'.length=n+1/\(∀i:Int,1<=i->i<=n-> -1000<=lv L' i/\lv L' i<=1000):=by
 have W4:=OA hk
 have a11:=Hx hk
 have hs:=g.src _ W4
 have ht:=g.tgt _ W4
 have UR:=g.ne _ W4
 generalize ss[k]=row at*
 obtain⟨YG,s,t⟩:=row
 replace hs:0<=s/\s<=n:=hs
 replace ht:0<=t/\t<=n:=ht
 replace UR:s≠t:=UR
 have hm:0<=(if YG∈mm then b1 else b0):=by split<;>omega
 obtain⟨lo,hi,e,c1,c2,c3,c4,c5,c6⟩:=Be hL hs ht hm hb
 have Zx:L2.atI (figs.map D.int) (k:Int)=some (.int figs[k]):=by
  rw[iu (by simpa using hf)];simp
 have hd:(0:Int)<hi - lo+1:=by omega
 generalize figs[k]=fg at Zx
 have a1:=Ny fg (show hi - lo+1≠0 by omega)
 have a2:=Nz fg hd
 have Yy:L2.atI (L.map D.int) s=some (.int (lv L s)):=zZ hs.1 (by omega)
 have a3v:L2.atI [D.int b0,D.int b1] (if decide (YG∈mm)=true then 1 else 0)=some (.int (if YG∈mm then b1 else b0)):=by
  by_cases h:YG∈mm
  ·simp only[h,decide_true,if_true,Jf]
  ·simp only[h,decide_false,Ma,if_false,Je]
 have a12:L2.xG (L.map D.int).length s=some s.toNat:=DD hs.1 (by rw[L7];omega)
 have Zy:(L.set s.toNat (lv L s - (lo+fg%(hi - lo+1)))).length=n+1:=by rw[OM];exact hL
 have a10:L2.atI ((L.set s.toNat (lv L s - (lo+fg%(hi - lo+1)))).map D.int) t=some (.int (lv L t)):=by
  rw[zZ ht.1 (by omega),yI hs.1 (by omega) ht.1,if_neg (MN UR)]
 have a13:L2.xG ((L.set s.toNat (lv L s - (lo+fg%(hi - lo+1)))).map D.int).length t=some t.toNat:=DD ht.1 (by rw[L7];omega)
 have a14:(rows.map lw).length<lim:=by rw[L7];unfold lim;omega
 have WY:(2:Nat)<=lim:=by decide
 have ap:rows.map lw++[D.tup [.int YG, .int (lo+fg%(hi - lo+1))]]=(rows++[(YG,lo+fg%(hi - lo+1))]).map lw:=by simp[lw]
 generalize ha:lo+fg%(hi - lo+1)=a at*
 refine⟨a,(L.set s.toNat (lv L s - a)).set t.toNat (lv L t+a),some (.val (.int YG)),some (.val (.int s)),some (.val (.int t)),some (.val (.int lo)),some (.val (.int hi)),some (.val (.int a)),?_,by rw[OM];exact Zy,?_⟩
 ·simp! [iT,CV,uu,KY,KZ,Co,a11,d7,e,uy,yG,a3v,o1,Mp,Sn,Bool.and_true,and_self,Zx,b9 hd,ha,Yy,a12,xF,a10,a13,a14,WY,ap]
 ·intro i XR a0_
  rw[yI ht.1 (by omega) (by omega),yI hs.1 (by omega) (by omega)]
  by_cases h1:i=t
  ·subst h1
   rw[if_pos rfl]
   have:=c6 (by omega);omega
  ·rw[if_neg h1]
   by_cases h2:i=s
   ·subst h2
    rw[if_pos rfl]
    have:=c5 (by omega);omega
   ·rw[if_neg h2];exact hb i XR a0_
theorem EZ {k:Int} (h0:0<=k) (h:k<=1000):wV (.lst [.int 0]) (.int k)=some (.lst ((LD k.toNat (0:Int)).map .int)):=by
 show (if k.natAbs<=lim/\[D.int 0].length*k.toNat<=lim then some (D.lst (LD k.toNat [D.int 0]).flatten)else none)=_
 rw[if_pos ⟨by unfold lim;omega,by unfold lim;simp;omega⟩]
 congr 2
 induction k.toNat with
 |zero=>rfl
 |succ m ih=>rw[Mn,Mn,MY,ih];rfl
theorem Kb {x:D} {ds:List D}:FA (.lst (x::ds)) (some 1) none=some (.lst ds):=by
 show some (D.lst (L2.Pu.tM (x::ds) (some 1) none))=_
 unfold L2.Pu.tM HT.fH
 simp
theorem E_ {m:Nat} (i:Int):lv (LD m 0) i=0:=by
 unfold lv
 rw[Mg,MI]
 split<;>rfl
theorem yJ {n:Nat} {figs:List Int} {ss:List zN} {mm:List Int} {b0 b1:Int} (hf:ss.length<=figs.length) (g:Good n ss) (hn:n<=7) (h0:0<=b0) (h1:0<=b1) (hs:ss.length<=1000):
  ∃(ps:List (Int×Int)) (Xe:List Int),ij [.lst (figs.map .int), .int (n:Int), .tup (ss.map d7), .tup (mm.map .int), .lst [.int b0, .int b1]]= .ok (.lst [.tup (ps.map lw), .tup (Xe.map .int)])/\ps.map (·.1)=ss.map (·.1)/\Xe.length=n:=by
 have hd:wV (.lst [.int 0]) (.int ((n:Int)+1))=some (.lst ((LD (n+1) (0:Int)).map .int)):=by
  have:=EZ (k:=(n:Int)+1) (by omega) (by omega)
  rwa [show ((n:Int)+1).toNat=n+1 by omega]at this
 have a3w:(1:Nat)<=lim:=by decide
 have WY:(2:Nat)<=lim:=by decide
 obtain⟨ρ',e,L',rows,y7,y8,y9,UH,V5,Yb,YR,rfl,e2,_,e4⟩:=pH (g:=gN 7) (gb:=iT) (n:=ss.length) (fs:=a8 (cn c9 (a8 (aa 2) (ai))) (ai)) (ρ:=[some (.val (.lst (figs.map .int))),some (.val (.int (n:Int))),some (.val (.tup (ss.map d7))),some (.val (.tup (mm.map .int))),some (.val (.lst [.int b0, .int b1])),some (.own (.lst ((LD (n+1) (0:Int)).map .int))),some (.own (.lst (([]:List (Int×Int)).map lw))),none,none,none,none,none,none,none])
  (P:=λk ρ=>∃(L:List Int) (rows:List (Int×Int)) (y7 y8 y9 UH V5 Yb YR:Option Slot),ρ=[some (.val (.lst (figs.map .int))),some (.val (.int (n:Int))),some (.val (.tup (ss.map d7))),some (.val (.tup (mm.map .int))),some (.val (.lst [.int b0, .int b1])),some (.own (.lst (L.map .int))),some (.own (.lst (rows.map lw))),y7,y8,y9,UH,V5,Yb,YR]/\L.length=n+1/\(∀i:Int,1<=i->i<=n-> -1000<=lv L i/\lv L i<=1000)/\rows.map (·.1)=(ss.take k).map (·.1))
  (by simp! [L7]) hs ⟨_,_,_,_,_,_,_,_,_,rfl,by simp,λi _ _=>by rw[E_];omega,rfl⟩ (λk hk ρ hρ=>by
   obtain⟨L,rows,y7,y8,y9,UH,V5,Yb,YR,rfl,hL,hb,hr⟩:=hρ
   have a14:rows.length<=1000:=by
    have:=congrArg OV hr
    simp at this
    omega
   obtain⟨a,L1,z8,z9,ZN,ZO,a1D,a1E,e1,l1,a3x⟩:=Bf (figs:=figs) (mm:=mm) (b0:=b0) (b1:=b1) (L:=L) (rows:=rows) (k:=k) (x8:=y8) (x9:=y9) (x10:=UH) (x11:=V5) (x12:=Yb) (x13:=YR) hk (by omega) g hn hL h0 h1 hb a14
   exact⟨_,_,rfl, .inl e1,L1,_,_,_,_,_,_,_,_,rfl,l1,a3x,by rw[LU,hr,Dg _ hk];rfl⟩)
 rw[List.take_length]at e4
 obtain⟨z,Xe,rfl⟩:∃z Xe,L'=z::Xe:=by
  cases L' with
  |nil=>simp at e2
  |cons z Xe=>exact⟨z,Xe,rfl⟩
 refine⟨rows,Xe,bx rfl ?_,e4,by simpa using e2⟩
 show mn [some (.val (.lst (figs.map .int))),some (.val (.int (n:Int))),some (.val (.tup (ss.map d7))),some (.val (.tup (mm.map .int))),some (.val (.lst [.int b0, .int b1])),none,none,none,none,none,none,none,none,none]=_
 unfold mn
 rw[av (ρ':=[some (.val (.lst (figs.map .int))),some (.val (.int (n:Int))),some (.val (.tup (ss.map d7))),some (.val (.tup (mm.map .int))),some (.val (.lst [.int b0, .int b1])),some (.own (.lst ((LD (n+1) (0:Int)).map .int))),none,none,none,none,none,none,none,none]) (by simp! [wU,hd,a3w]),
  av (ρ':=[some (.val (.lst (figs.map .int))),some (.val (.int (n:Int))),some (.val (.tup (ss.map d7))),some (.val (.tup (mm.map .int))),some (.val (.lst [.int b0, .int b1])),some (.own (.lst ((LD (n+1) (0:Int)).map .int))),some (.own (.lst (([]:List (Int×Int)).map lw))),none,none,none,none,none,none,none]) rfl,av e]
 simp! [zu,lT,lS,Lf,Kb,WY]
section
variable {n:Int} {tr:List Mo} {m:Mo} {hs:List D}
theorem F7 (g:m.Ok) (r:zN):yF m.mm r=yF m.ms r:=by unfold yF;rw[g.mem]
theorem rz (g:m.Ok):fz [bH n m]= .ok (.tup (m.ss.map (yF m.ms))):=by
 refine bx rfl (cN (aR (a9 (nZ (pR (enc:=d7) (l:=m.ss) (out:=yF m.ms) (EW HL) (by have:=g.len;omega) (rest:=[some (.val (bH n m))]) rfl λr _=> ?_)) rfl) rfl))
 rw[<-F7 g]
 exact aj (a:=d7 r) (b:= .tup [.bl (decide (r.1∈m.mm))]) rfl (bM (ds:=[.bl (decide (r.1∈m.mm))]) (a9 (aj (aj rfl rfl pM) (aj (a:=bH n m) rfl rfl Ht) uy) rfl) (show 1<=lim by decide)) (iH (by simp[d7]))
theorem Hy (ms:List Int) (r:zN):Wf 1 (yF ms r):= .tup (by simp) λd hd=>by
 simp only[Li,M5,or_false]at hd
 rcases hd with rfl|rfl|rfl|rfl
 ·exact .int _ _
 ·exact .int _ _
 ·exact .int _ _
 ·exact .bl _ _
theorem Bg (d:Dk) (h1:d.ss.length<=12) (h2:d.ri.length<=100) (h3:d.rd.length<=60):h_ [tj n d,rn n d]= .ok (.bl true):=by
 let ρ:ag:=[some (.val (tj n d)),some (.val (rn n d))]
 have sm:∀{f:L3} {k:Int} {x:D} {j:Nat},(Dl n d).lookup f=some x->aQ (rn n d) (.int k)=some x->j<=7->Wf j x->aF bn 2 (a8 (cE "Day" f (aa 0)) (a8 (f2 aQ (aa 1) (fC (.int k))) (ai))) ρ= .ok (.bl true):=λ{f k x j} e1 e2 hj hw=>
  aW (n:=2) (a9 (fK (fds:=Dl n d) rfl e1) (a9 (aj (a:=rn n d) rfl rfl e2) rfl)) rfl (ju hj hw)
 have a0:=sm (f:="tanks") (k:=0) rfl (f8 0 rfl) (by decide) (.int 0 n)
 have a1:=sm (f:="streams") (k:=1) rfl (f8 1 rfl) (by decide) (vF (f:=d7) (l:=d.ss) (by omega) λr _=>Hw r)
 have a2:=sm (f:="rises") (k:=2) rfl (f8 2 rfl) (by decide) (zM d.ri (by omega))
 have a3:=sm (f:="readings") (k:=3) rfl (f8 3 rfl) (by decide) (vF (f:=jx) (l:=d.rd) (by omega) λr _=>FJ r)
 refine bx rfl ?_
 show om ρ=_
 unfold om
 rw[av (ρ':=ρ) (by rw[bR (by unfold oG gY;rw[jX a0,jX a1];rfl)];rfl)]
 exact cN (by unfold qD;rw[a2,ar];exact a3)
theorem yK (t:Tr n tr m hs):bV [.ins "Cellar" (gQ n (bw n m) hs),bH n m]= .ok (.bl true):=by
 have g:=t.ok
 let C:D:= .ins "Cellar" (gQ n (bw n m) hs)
 let P (x:Option Slot):ag:=[some (.val C),some (.val (bH n m)),x]
 have mt:∀{x:Option Slot} {f:L3} {r:List D->R D} {z:D},r [C]= .ok z->(gQ n (bw n m) hs).lookup f=none->fF "Cellar" f 1 r (au 0) ai (P x)= .ok z:=λ{x f r z} h1 h2=>iU (n:=1) (fds:=gQ n (bw n m) hs) (ds:=[]) rfl rfl rfl h1 h2
 have b0:aF bn 2 (a8 (cE "Cellar" "tanks" (aa 0)) (a8 (f2 aQ (aa 1) (fC (.int 0))) (ai))) (P none)= .ok (.bl true):=aW (n:=2) (a9 (fK (fds:=gQ n (bw n m) hs) rfl rfl) (a9 (aj (a:=bH n m) rfl rfl DJ) rfl)) rfl (ju (by decide) (.int 0 n))
 have b1:aF bn 2 (a8 (fF "Cellar" "layout" 1 df (au 0) ai) (a8 (aF fz 1 (a8 (au 1) (ai))) (ai))) (P none)= .ok (.bl true):=aW (n:=2) (a9 (mt (xx g) rfl) (a9 (aW (n:=1) (a9 rfl rfl) rfl (rz g)) rfl)) rfl (ju (by decide) (vF (by have:=g.len;omega) λr _=>Hy _ r))
 have b2:aF bn 2 (a8 (fF "Cellar" "deeds" 1 dA (au 0) ai) (a8 (f2 aQ (aa 1) (fC (.int 5))) (ai))) (P none)= .ok (.bl true):=aW (n:=2) (a9 (mt (yH t) rfl) (a9 (aj (a:=bH n m) rfl rfl Kv) rfl)) rfl (ju (n:=4) (by decide) (.tup (by have:=t.dl;omega) (by obtain⟨_,_,_,h⟩:=t.prs;exact h)))
 have b3:aF bn 2 (a8 (fF "Cellar" "days_gone" 1 bj (au 0) ai) (a8 (cn c9 (a8 (f2 aQ (aa 1) (fC (.int 4))) (ai))) (ai))) (P none)= .ok (.bl true):=aW (n:=2) (a9 (mt jv rfl) (a9 (aR (a9 (aj (a:=bH n m) rfl rfl Jd) rfl) (by rw[hJ,L7])) rfl)) rfl (ju (by decide) (.int 0 _))
 refine bx rfl ?_
 show mw (P none)=_
 unfold mw
 rw[av (ρ':=P none) (by rw[bR (by unfold oG gY;rw[jX b0,jX b1];rfl)];rfl),av (ρ':=P none) (by rw[bR (by unfold oG gY;rw[jX b2,jX b3];rfl)];rfl)]
 obtain⟨ρ',e,y,rfl⟩:=pH (g:=gN 2) (gb:=lc) (n:=m.ds.length) (fs:=a8 (cn c9 (a8 (f2 aQ (aa 1) (fC (.int 4))) (ai))) (ai)) (ρ:=P none) (P:=λ_ ρ=>∃y,ρ=P y) (a9 (aR (a9 (aj (a:=bH n m) rfl rfl Jd) rfl) (by rw[hJ,L7])) rfl) (by have:=g.dl;omega) ⟨none,rfl⟩ λk hk ρ ⟨y,hy⟩=>by
  subst hy
  have hd:=t.rg.day _ (OA hk)
  refine⟨P (some (.val (.int (k:Int)))),P (some (.val (.int (k:Int)))),rfl, .inl ?_,_,rfl⟩
  have a15:aF h_ 2 (a8 (fF "Cellar" "day" 2 fu (au 0) (a8 (f2 bD (aa 2) (fC (.int 1))) (ai))) (a8 (f2 aQ (f2 aQ (aa 1) (fC (.int 4))) (aa 2)) (ai))) (P (some (.val (.int (k:Int)))))= .ok (.bl true):=
   aW (n:=2) (a9 (iU (n:=2) (fds:=gQ n (bw n m) hs) (ds:=[.int ((k:Int)+1)]) rfl (a9 (aj (a:= .int (k:Int)) (b:= .int 1) rfl rfl eJ) rfl) rfl (Dv hk) rfl) (a9 (d:=rn n m.ds[k]) (aj (b:= .int (k:Int)) (aj (a:=bH n m) rfl rfl Jd) rfl (f8 k (by rw[Lx,LB hk];rfl))) rfl)) rfl (Bg _ hd.1 hd.2.1 hd.2.2)
  unfold lc
  rw[bR (by unfold gY;rw[jX a15];rfl)]
  rfl
 rw[av e]
 rfl
end
theorem DE {ga gb:ag->R Bool} {ρ:ag} (h:∃b,ga ρ= .ok b) (h2:∃b,gb ρ= .ok b):∃b,oG ga gb ρ= .ok b:=by
 obtain⟨a,ha⟩:=h;obtain⟨b,hb⟩:=h2
 unfold oG;rw[ha,ar]
 cases a
 ·exact⟨b,hb⟩
 ·exact⟨true,rfl⟩
theorem A1 {ga gb:ag->R Bool} {ρ:ag} (h:∃b,ga ρ= .ok b) (h2:∃b,gb ρ= .ok b):∃b,gD ga gb ρ= .ok b:=by
 obtain⟨a,ha⟩:=h;obtain⟨b,hb⟩:=h2
 unfold gD;rw[ha,ar]
 cases a
 ·exact⟨false,rfl⟩
 ·exact⟨b,hb⟩
theorem gO (c:Int) (mx:Bool) (k:Nat) (sz:Int) (hs:0<sz/\sz<1073741824) (hk:k<=100):∃xs:List Int,b_ [.int c, .bl mx, .int (k:Int), .int sz]= .ok (.lst (xs.map .int))/\xs.length=k/\∀x∈xs,0<=x:=by
 let P (xs:List Int) (r:Int) (y z:Option Slot):ag:=[some (.val (.int c)),some (.val (.bl mx)),some (.val (.int (k:Int))),some (.val (.int sz)),some (.own (.lst (xs.map .int))),some (.val (.int r)),y,z]
 obtain⟨ρ',e,xs,r,y,z,rfl,h1,h2⟩:=pH (g:=gN 6) (gb:=gI) (n:=k) (fs:=a8 (au 2) (ai)) (ρ:=P [] c none none) (P:=λj ρ=>∃xs r y z,ρ=P xs r y z/\xs.length=j/\∀x∈xs,0<=x) (a9 rfl rfl) (by omega) ⟨[],c,none,none,rfl,rfl,λx hx=>by cases hx⟩ λj hj ρ hρ=>by
  obtain⟨xs,r,y,z,rfl,h1,h2⟩:=hρ
  have hl:(xs.map D.int).length<lim:=by rw[L7];unfold lim;omega
  refine⟨P xs r (some (.val (.int (j:Int)))) z,?_⟩
  have nn:∀{v:Int},∀x∈xs++[v%sz],0<=x:=λ{v} x hx=>by
   rcases L_.mp hx with hx|hx
   ·exact h2 x hx
   ·rw[Lk.mp hx];exact Ny _ (by omega)
  have ap:∀v:Int,xs.map D.int++[.int v]=(xs++[v]).map .int:=λv=>by simp
  cases mx with
  |true=>exact⟨P (xs++[((c+7919*(j:Int)+1)*48271%2147483647+(j:Int))*69621%2147483647%sz]) r (some (.val (.int (j:Int)))) (some (.val (.int ((c+7919*(j:Int)+1)*48271%2147483647)))),rfl, .inl (by simp! [P,gI,sE (show OQ 48271<18446744073709551616 by decide),sE (show OQ 69621<18446744073709551616 by decide),sG (show OQ 7919<18446744073709551616 by decide),b9 (show (0:Int)<2147483647 by decide),b9 hs.1,hl,ap]),_,_,_,_,rfl,by simp[h1],nn⟩
  |false=>exact⟨P (xs++[r%sz]) (r / sz) (some (.val (.int (j:Int)))) z,rfl, .inl (by simp! [P,gI,b9 hs.1,de hs,hl,ap]),_,_,_,_,rfl,by simp[h1],nn⟩
 refine⟨xs,bx rfl ?_,h1,h2⟩
 show jS [some (.val (.int c)),some (.val (.bl mx)),some (.val (.int (k:Int))),some (.val (.int sz)),none,none,none,none]=_
 unfold jS
 rw[av (ρ':=[some (.val (.int c)),some (.val (.bl mx)),some (.val (.int (k:Int))),some (.val (.int sz)),some (.own (.lst [])),none,none,none]) rfl,av (ρ':=P [] c none none) rfl,av e]
 rfl
theorem DF {ds:List D} {k:Int} (h0:0<=k):FA (.lst ds) none (some k)=some (.lst (ds.take k.toNat)):=by
 show some (D.lst (L2.Pu.tM ds none (some k)))=_
 unfold L2.Pu.tM HT.fH
 simp only[if_neg (show ¬k<0 by omega),S8,Nat.sub_zero]
 congr 2
 rw[List.take_eq_take_iff]
 omega
theorem DG {α:Type} {f:α->D} {l:List α} {lo hi:Option Int}:∃l':List α,FA (.tup (l.map f)) lo hi=some (.tup (l'.map f))/\l'.length<=l.length:=by
 unfold FA
 dsimp only
 split
 ·exact⟨l,rfl,Lv _⟩
 ·unfold L2.Pu.tM
  rw[<-List.map_drop,<-QV]
  exact⟨_,rfl,by rw[NN,PF];omega⟩
section
variable {n:Int} {m:Mo} {hs:List D}
theorem F8 {xs:List Int}:AT (.lst (xs.map .int)) (.lst [])=some (.bl xs.isEmpty):=by
 show (if (xs.map D.int).all j8=true/\([]:List D).all j8=true then some (D.bl (CW (xs.map D.int) []))else none)=_
 rw[if_pos ⟨Nk.mpr λd hd=>by obtain⟨i,_,rfl⟩:=MU.mp hd;rfl,rfl⟩]
 cases xs<;>rfl
theorem yL (g:m.Ok) (fs:List Int) (hl:fs.length<=40):∃xs:List Int,dI [bH n m, .lst (fs.map .int)]= .ok (.tup (xs.map .int))/\xs.length=fs.length:=by
 let P (xs:List Int) (y:Option Slot):ag:=[some (.val (bH n m)),some (.val (.lst (fs.map .int))),some (.own (.lst (m.nu.map .int))),some (.own (.lst (xs.map .int))),y]
 have step:∀(xs:List Int) (y:Option Slot) (x:Int),xs.length<=100->∃v:Int,gK (P xs (some (.val (.int x))))= .ok (.nx (P (xs++[v]) (some (.val (.int x))))):=λxs y x hx=>by
  have hl:(xs.map D.int).length<lim:=by rw[L7];unfold lim;omega
  have ap:∀v:Int,xs.map D.int++[.int v]=(xs++[v]).map .int:=λv=>by simp
  let ρ:=P xs (some (.val (.int x)))
  have t1:fT (f2 AT (aa 2) (eG (ai))) ρ= .ok m.nu.isEmpty:=bt (aj (a:= .lst (m.nu.map .int)) (b:= .lst []) rfl rfl F8)
  have t2:fT (f2 dq (f2 bP (aa 4) (fC (.int 9))) (fC (.int 8))) ρ= .ok (decide (x%9=8)):=bt (aj (aj (a:= .int x) (b:= .int 9) rfl rfl (b9 (by decide))) rfl gR)
  have a1G:∀{f:ag->R D} {v:Int},f ρ= .ok (.int v)->oZ 3 f ρ= .ok (.nx (P (xs++[v]) (some (.val (.int x))))):=λ{f v} h=>by
   show (f ρ>>=λd=>if (xs.map D.int).length<lim then R.ok (bq.nx (ρ.set 3 (some (.own (.lst (xs.map D.int++[d]))))))else .bad)=_
   rw[h,ar,if_pos hl,ap];rfl
  obtain⟨b,hb⟩:=DE ⟨_,t1⟩ ⟨_,t2⟩
  have d9:f2 ee (aa 4) (fC (.int 9)) ρ= .ok (.int (x / 9)):=aj (a:= .int x) (b:= .int 9) rfl rfl (de (by decide))
  cases b with
  |true=>exact⟨x / 9%70 - 2,by unfold gK;rw[dE hb];exact a1G (aj (aj d9 rfl (b9 (by decide))) rfl lU)⟩
  |false=>
   have UR:m.nu≠[]:=λz=>by
    have:oG (fT (f2 AT (aa 2) (eG (ai)))) (fT (f2 dq (f2 bP (aa 4) (fC (.int 9))) (fC (.int 8)))) ρ= .ok true:=by unfold oG;rw[t1,z];rfl
    rw[this]at hb;cases hb
   have hp:0<m.nu.length:=List.length_pos_iff.mpr UR
   have a3y:=Ny (x / 9) (show (m.nu.length:Int)≠0 by omega)
   have XU:=Nz (x / 9) (show (0:Int)<m.nu.length by omega)
   obtain⟨j,hj⟩:=Oh a3y
   have a3z:j<m.nu.length:=by omega
   have a3A:aQ (.lst (m.nu.map .int)) (.int (x / 9%(m.nu.length:Int)))=some (.int m.nu[j]):=by rw[hj];exact rq j (by rw[Lx,LB a3z];rfl)
   refine⟨m.nu[j],by unfold gK;rw[bR hb];exact a1G (aj (a:= .lst (m.nu.map .int)) rfl (aj d9 (aR (a9 (d:= .lst (m.nu.map .int)) rfl rfl) ir) (by rw[L7];exact b9 (by omega))) a3A)⟩
 have W5:∀(l:List Int) (xs:List Int) (y:Option Slot),xs.length+l.length<=100->∃ZR y',eO (gN 4) gK (l.map .int) (P xs y)= .ok (.nx (P ZR y'))/\ZR.length=xs.length+l.length:=by
  intro l
  induction l with
  |nil=>exact λxs y _=>⟨xs,y,rfl,rfl⟩
  |cons x l ih=>
   intro xs y h
   rw[Lu]at h
   obtain⟨v,hv⟩:=step xs y x (by omega)
   obtain⟨ZR,y',e,h2⟩:=ih (xs++[v]) (some (.val (.int x))) (by simp;omega)
   exact⟨ZR,y',by rw[Lf,mS (ρ1:=P xs (some (.val (.int x)))) rfl hv,e],by rw[h2];simp;omega⟩
 obtain⟨xs,y,e,h2⟩:=W5 fs [] none (by simp;omega)
 refine⟨xs,bx rfl ?_,by rw[h2];simp⟩
 show mz [some (.val (bH n m)),some (.val (.lst (fs.map .int))),none,none,none]=_
 unfold mz
 rw[av (ρ':=[some (.val (bH n m)),some (.val (.lst (fs.map .int))),some (.own (.lst (m.nu.map .int))),none,none]) (own_of (Dm g (EW HL) rfl)),av (ρ':=P [] none) rfl,av ((sI (ds:=fs.map .int) rfl).trans e)]
 rfl
theorem Bh (ri:List Int) (rd:List Rd) (x:Int) (l1:ri.length<=50) (l2:rd.length<=50):∃U2 W3,jn [dn ri rd, .int x]= .ok (dn U2 W3)/\U2.length<=ri.length+1/\W3.length<=rd.length+1:=by
 let P (a b:D):ag:=[some (.val (dn ri rd)),some (.val (.int x)),some (.val a),some (.val b)]
 let A:=D.tup (ri.map .int);let B:=D.tup (rd.map jx)
 have tk:∀{k:Int},fT (f2 dq (f2 bP (aa 1) (fC (.int 5))) (fC (.int k))) (P A B)= .ok (decide (x%5=k)):=λ{k}=>bt (aj (aj (a:= .int x) (b:= .int 5) rfl rfl (b9 (by decide))) rfl gR)
 have d5:f2 ee (aa 1) (fC (.int 5)) (P A B)= .ok (.int (x / 5)):=aj (a:= .int x) (b:= .int 5) rfl rfl (de (by decide))
 have Uk:∀{a:List Int} {b:List Rd},bu (bS (a8 (fC (.str "day passes")) (a8 (au 2) (a8 (au 3) (ai))))) (P (.tup (a.map .int)) (.tup (b.map jx)))= .ok (.ret (dn a b)):=λ{a b}=>cN (bM (ds:=[.str "day passes", .tup (a.map .int), .tup (b.map jx)]) rfl (show 3<=lim by decide))
 have go:∃U2 W3,oy [some (.val (dn ri rd)),some (.val (.int x)),none,none]= .ok (.ret (dn U2 W3))/\U2.length<=ri.length+1/\W3.length<=rd.length+1:=by
  unfold oy
  rw[av (ρ':=[some (.val (dn ri rd)),some (.val (.int x)),some (.val A),none]) (aY (aj (a:=dn ri rd) rfl rfl (f8 1 rfl)) rfl),av (ρ':=P A B) (aY (aj (a:=dn ri rd) rfl rfl (f8 2 rfl)) rfl)]
  by_cases h0:x%5=0
  ·refine⟨ri++[0],rd,?_,by simp,by omega⟩
   rw[av (ρ':=P (.tup ((ri++[0]).map .int)) B) (by rw[dE (by rw[tk,decide_eq_true h0])];exact aY (aj (a:=A) (b:= .tup [.int 0]) rfl rfl (by rw[iH (by simp;omega)];simp)) rfl),Uk]
  by_cases h1:x%5=1
  ·refine⟨ri,rd++[(x / 5%40,1)],?_,by omega,by simp⟩
   rw[av (ρ':=P A (.tup ((rd++[(x / 5%40,1)]).map jx))) (by rw[bR (by rw[tk,decide_eq_false h0]),dE (by rw[tk,decide_eq_true h1])];exact aY (aj (a:=B) (b:= .tup [jx (x / 5%40,1)]) rfl (bM (ds:=[jx (x / 5%40,1)]) (a9 (bM (ds:=[.int (x / 5%40), .int 1]) (a9 (aj d5 rfl (b9 (by decide))) rfl) (show 2<=lim by decide)) rfl) (show 1<=lim by decide)) (by rw[iH (by simp;omega)];simp)) rfl),Uk]
  by_cases h2:x%5=2
  ·obtain⟨l',e,hl⟩:=DG (f:=jx) (l:=rd) (lo:=some 1) (hi:=none)
   refine⟨ri,(x / 5%14,-1)::l',?_,by omega,by simp;omega⟩
   rw[av (ρ':=P A (.tup (((x / 5%14,-1)::l').map jx))) (by rw[bR (by rw[tk,decide_eq_false h0]),bR (by rw[tk,decide_eq_false h1]),dE (by rw[tk,decide_eq_true h2])];exact aY (aj (a:= .tup [jx (x / 5%14,-1)]) (b:= .tup (l'.map jx)) (bM (ds:=[jx (x / 5%14,-1)]) (a9 (bM (ds:=[.int (x / 5%14), .int (-1)]) (a9 (aj d5 rfl (b9 (by decide))) (a9 (d:= .int (-1)) rfl rfl)) (show 2<=lim by decide)) rfl) (show 1<=lim by decide)) (by unfold zu;rw[show (aa 3:ag->R D) (P A B)= .ok B from rfl,ar];show R.of (FA B (some 1) none)=_;rw[e,gB]) (by rw[iH (by simp;omega)];rfl)) rfl),Uk]
  by_cases h3:x%5=3
  ·obtain⟨l',e,hl⟩:=DG (f:=jx) (l:=rd) (lo:=none) (hi:=some (-1))
   refine⟨ri,l',?_,by omega,by omega⟩
   rw[av (ρ':=P A (.tup (l'.map jx))) (by rw[bR (by rw[tk,decide_eq_false h0]),bR (by rw[tk,decide_eq_false h1]),bR (by rw[tk,decide_eq_false h2]),dE (by rw[tk,decide_eq_true h3])];exact aY (d:= .tup (l'.map jx)) (by unfold zu;rw[show (aa 3:ag->R D) (P A B)= .ok B from rfl,ar];show R.of (FA B none (some (-1)))=_;rw[e,gB]) rfl),Uk]
  ·refine⟨ri.map λr=>r*25+1,rd,?_,by simp,by omega⟩
   rw[av (ρ':=P (.tup ((ri.map λr=>r*25+1).map .int)) B) (by rw[bR (by rw[tk,decide_eq_false h0]),bR (by rw[tk,decide_eq_false h1]),bR (by rw[tk,decide_eq_false h2]),bR (by rw[tk,decide_eq_false h3])];exact aY (aR (a9 (nZ (pR (enc:= .int) (l:=ri) (out:=λr=> .int (r*25+1)) (by rfl) (by omega) (rest:=[]) rfl λr _=>aj (aj (a:= .int r) (b:= .int 25) rfl rfl (sE (by decide))) rfl eJ)) rfl) (by rw[Mr];rfl)) rfl),Uk]
 obtain⟨U2,W3,e,h1,h2⟩:=go
 exact⟨U2,W3,bx rfl e,h1,h2⟩
end
section
variable {n:Nat} {m:Mo} {hs:List D}
theorem F9 (g:m.Rg (n:Int)):Good n m.ss:=⟨λr hr=>(g.row r hr).1,λr hr=>(g.row r hr).2.1,λr hr=>(g.row r hr).2.2⟩
theorem A2 {t:ag->R Bool} {f:ag->R D} {i:Nat} {ρ:ag} {v:Int} (ht:∃b,t ρ= .ok b) (hf:f ρ= .ok (.int v)):cA t (aV f (gN i)) aE ρ= .ok (.nx (ρ.set i (some (.val (.int v)))))\/cA t (aV f (gN i)) aE ρ= .ok (.nx ρ):=by
 obtain⟨b,hb⟩:=ht
 cases b with
 |true=>exact .inl (by rw[dE hb];exact aY hf rfl)
 |false=>exact .inr (by rw[bR hb];rfl)
theorem jZ (g:m.Ok) (q:m.Rg (n:Int)) (h7:n<=7) (c:Int) (mx:Bool):∃ri rd,c7 [bH (n:Int) m, .int c, .bl mx]= .ok (dn ri rd)/\ri.length<=7/\rd.length<=12:=by
 have hm:=g.len
 obtain⟨fg,e1,l1,_⟩:=gO (c / 10) mx (2*m.ss.length+n) 10010 (by decide) (by omega)
 let VD:=c%5
 have hb:∃b0 b1:Int,0<=b0/\0<=b1/\aQ (.lst [.lst [.int 5000, .int 1000], .lst [.int 1, .int 1]]) (.int (if decide (VD>2)=true then 1 else 0))=some (.lst [.int b0, .int b1]):=by
  by_cases z:VD>2
  ·exact⟨1,1,by decide,by decide,by rw[decide_eq_true z];exact Ja⟩
  ·exact⟨5000,1000,by decide,by decide,by rw[decide_eq_false z];exact J9⟩
 obtain⟨b0,b1,a3B,a3C,a3D⟩:=hb
 obtain⟨ps,Xe,e2,l2,l3⟩:=yJ (figs:=fg) (mm:=m.mm) (b0:=b0) (b1:=b1) (by omega) (F9 q) h7 a3B a3C (by omega)
 have a4a:ps.length=m.ss.length:=by have:=congrArg OV l2;simpa using this
 let M:=bH (n:Int) m
 let F:=D.lst (fg.map .int)
 let W:=D.lst [.tup (ps.map lw), .tup (Xe.map .int)]
 let P (s7 y8 y9 UH V5 Yb:Option Slot):ag:=[some (.val M),some (.val (.int c)),some (.val (.bl mx)),some (.val (.int VD)),some (.val (.int (m.ss.length:Int))),some (.val F),some (.val W),s7,y8,y9,UH,V5,Yb]
 let O (rd:List Rd):Option Slot:=some (.own (.lst (rd.map jx)))
 have body:∀k,k<m.ss.length->∀rd y9 UH V5,rd.length<=k->∃W3 a3E a16 a17,et (P (O rd) (some (.val (.int (k:Int)))) y9 UH V5 none)= .ok (.nx (P (O W3) (some (.val (.int (k:Int)))) a3E a16 a17 none))/\W3.length<=k+1:=λk hk rd y9 UH V5 hr=>by
  let K:Option Slot:=some (.val (.int (k:Int)))
  have a15:k<ps.length:=by omega
  have a3F:m.ss.length+k<fg.length:=by omega
  let N:=ps[k].1
  let a0:=ps[k].2
  let ot:=fg[m.ss.length+k]
  have s1:aV (f2 aQ (f2 aQ (aa 6) (fC (.int 0))) (aa 8)) (uu 2 (eU (gN 9) (eU (gN 10) (sy)))) (P (O rd) K y9 UH V5 none)= .ok (.nx (P (O rd) K (some (.val (.int N))) (some (.val (.int a0))) V5 none)):=
   aY (d:=lw ps[k]) (aj (b:= .int (k:Int)) (aj (a:=W) rfl rfl J9) rfl (f8 k (by rw[Lx,LB a15];rfl))) rfl
  have s2:aV (f2 aQ (aa 5) (f2 bD (aa 4) (aa 8))) (gN 11) (P (O rd) K (some (.val (.int N))) (some (.val (.int a0))) V5 none)= .ok (.nx (P (O rd) K (some (.val (.int N))) (some (.val (.int a0))) (some (.val (.int ot))) none)):=
   aY (d:= .int ot) (aj (a:=F) (b:= .int ((m.ss.length+k:Nat):Int)) rfl (aj (a:= .int (m.ss.length:Int)) (b:= .int (k:Int)) rfl rfl (by rw[eJ];congr 2)) (rq (m.ss.length+k) (by rw[Lx,LB a3F];rfl))) rfl
  have md:∀{j:Int} {am:Int},∃b,fT (f2 dq (aa 3) (fC (.int j))) (P (O rd) K (some (.val (.int N))) (some (.val (.int am))) (some (.val (.int ot))) none)= .ok b:=λ{j am}=>⟨_,bt (aj (a:= .int VD) (b:= .int j) rfl rfl gR)⟩
  have mo:∀{j:Int} {am:Int},0<j->∃b,fT (f2 dq (f2 bP (aa 11) (fC (.int j))) (fC (.int 0))) (P (O rd) K (some (.val (.int N))) (some (.val (.int am))) (some (.val (.int ot))) none)= .ok b:=λ{j am} hj=>⟨_,bt (aj (aj (a:= .int ot) (b:= .int j) rfl rfl (b9 hj)) rfl gR)⟩
  have v1:∀{am:Int},f2 iS (f2 bP (f2 ee (aa 11) (fC (.int 3))) (fC (.int 2001))) (fC (.int 1000)) (P (O rd) K (some (.val (.int N))) (some (.val (.int am))) (some (.val (.int ot))) none)= .ok (.int (ot / 3%2001 - 1000)):=λ{am}=>aj (aj (aj (a:= .int ot) (b:= .int 3) rfl rfl (de (by decide))) rfl (b9 (by decide))) rfl lU
  have v2:∀{am:Int},f2 iS (f2 bP (f2 ee (aa 11) (fC (.int 2))) (fC (.int 3))) (fC (.int 1)) (P (O rd) K (some (.val (.int N))) (some (.val (.int am))) (some (.val (.int ot))) none)= .ok (.int (ot / 2%3 - 1)):=λ{am}=>aj (aj (aj (a:= .int ot) (b:= .int 2) rfl rfl (de (by decide))) rfl (b9 (by decide))) rfl lU
  obtain⟨a1,h1⟩:∃a1:Int,cA (oG (fT (f2 dq (aa 3) (fC (.int 2)))) (gD (fT (f2 dq (aa 3) (fC (.int 1)))) (fT (f2 dq (f2 bP (aa 11) (fC (.int 3))) (fC (.int 0)))))) (aV (f2 iS (f2 bP (f2 ee (aa 11) (fC (.int 3))) (fC (.int 2001))) (fC (.int 1000))) (gN 10)) (aE) (P (O rd) K (some (.val (.int N))) (some (.val (.int a0))) (some (.val (.int ot))) none)= .ok (.nx (P (O rd) K (some (.val (.int N))) (some (.val (.int a1))) (some (.val (.int ot))) none)):=by
   rcases A2 (i:=10) (DE (md (j:=2)) (A1 (md (j:=1)) (mo (j:=3) (by decide)))) v1 with h|h
   ·exact⟨_,h⟩
   ·exact⟨a0,h⟩
  obtain⟨a2,h2⟩:∃a2:Int,cA (gD (fT (f2 dq (aa 3) (fC (.int 4)))) (fT (f2 dq (f2 bP (aa 11) (fC (.int 2))) (fC (.int 0))))) (aV (f2 iS (f2 bP (f2 ee (aa 11) (fC (.int 2))) (fC (.int 3))) (fC (.int 1))) (gN 10)) (aE) (P (O rd) K (some (.val (.int N))) (some (.val (.int a1))) (some (.val (.int ot))) none)= .ok (.nx (P (O rd) K (some (.val (.int N))) (some (.val (.int a2))) (some (.val (.int ot))) none)):=by
   rcases A2 (i:=10) (A1 (md (j:=4) (am:=a1)) (mo (j:=2) (am:=a1) (by decide))) (v2 (am:=a1))with h|h
   ·exact⟨_,h⟩
   ·exact⟨a1,h⟩
  let ρ2:=P (O rd) K (some (.val (.int N))) (some (.val (.int a2))) (some (.val (.int ot))) none
  have t3:fT (f2 (hE false) (aa 9) (f2 aQ (aa 0) (fC (.int 3)))) ρ2= .ok (decide (N∈m.mm)):=bt (aj (a:= .int N) rfl (aj (a:=M) rfl rfl Ht) uy)
  have YN:∀{r:R bq},cA (fT (f2 (hE false) (aa 9) (f2 aQ (aa 0) (fC (.int 3))))) (oZ 7 (bS (a8 (au 9) (a8 (au 10) (ai))))) (aE) ρ2=r->et (P (O rd) K y9 UH V5 none)=r:=λ{r} h=>by
   unfold et
   rw[av s1,av s2,av h1,av h2];exact h
  by_cases z:N∈m.mm
  ·refine⟨rd++[(N,a2)],some (.val (.int N)),some (.val (.int a2)),some (.val (.int ot)),YN ?_,by simp;omega⟩
   rw[dE (by rw[t3,decide_eq_true z])]
   show (bS (a8 (au 9) (a8 (au 10) (ai))) ρ2>>=λd=>if (rd.map jx).length<lim then R.ok (bq.nx (ρ2.set 7 (some (.own (.lst (rd.map jx++[d]))))))else .bad)=_
   rw[bM (ds:=[.int N, .int a2]) rfl (show 2<=lim by decide),ar,if_pos (by rw[L7];unfold lim;omega),show rd.map jx++[D.tup [.int N, .int a2]]=(rd++[(N,a2)]).map jx by simp[jx]]
   rfl
  ·exact⟨rd,some (.val (.int N)),some (.val (.int a2)),some (.val (.int ot)),YN (by rw[bR (by rw[t3,decide_eq_false z])];rfl),by omega⟩
 obtain⟨ρ',e3,rd,y8,y9,UH,V5,rfl,a1U⟩:=pH (g:=gN 8) (gb:=et) (n:=m.ss.length) (fs:=a8 (au 4) (ai)) (ρ:=P (O []) none none none none none) (P:=λk ρ=>∃rd y8 y9 UH V5,ρ=P (O rd) y8 y9 UH V5 none/\rd.length<=k) (a9 rfl rfl) (by omega) ⟨[],none,none,none,none,rfl,Lv _⟩ λk hk ρ hρ=>by
  obtain⟨rd,y8,y9,UH,V5,rfl,hr⟩:=hρ
  obtain⟨W3,z9,ZN,ZO,e,Y0⟩:=body k hk rd y9 UH V5 hr
  exact⟨_,_,rfl, .inl e,W3,_,z9,ZN,ZO,rfl,Y0⟩
 obtain⟨ri,a4b,h4⟩:∃ri:List Int,ri.length=n/\cA (fT (f2 dq (aa 3) (fC (.int 2)))) (aV (cn bX (a8 (fL (bO ["_law_model","_law_cell_here","_law_mixed","_law_mode","_law_many","_law_figures_here","_law_flows_here","_law_readings","_law_k","_law_number","_law_amount","_law_other","_law_rises"] [(".0", .local),("_law_k", .local),("_law_figures_here", .free),("_law_many", .free)] (dN (a8 (f2 aQ (aa 0) (fC (.int 0))) (ai))) (gN 1) (gP) (f2 iS (f2 bP (f2 aQ (aa 2) (f2 bD (f2 nW (fC (.int 2)) (aa 3)) (aa 1))) (fC (.int 2001))) (fC (.int 1000))))) (ai))) (gN 12)) (aE) (P (O rd) y8 y9 UH V5 (some (.val (.tup (Xe.map .int)))))= .ok (.nx (P (O rd) y8 y9 UH V5 (some (.val (.tup (ri.map .int)))))):=by
  have tm:fT (f2 dq (aa 3) (fC (.int 2))) (P (O rd) y8 y9 UH V5 (some (.val (.tup (Xe.map .int)))))= .ok (decide (VD=2)):=bt (aj (a:= .int VD) (b:= .int 2) rfl rfl gR)
  by_cases z:VD=2
  ·refine⟨(LZ n).map λk=>fg.getD (2*m.ss.length+k) 0%2001 - 1000,by simp,?_⟩
   rw[dE (by rw[tm,decide_eq_true z])]
   refine aY (aR (a9 (nZ (pR (enc:=λk:Nat=>D.int (k:Int)) (l:=LZ n) (out:=λk=> .int (fg.getD (2*m.ss.length+k) 0%2001 - 1000)) (mT (a9 (aj (a:=M) rfl rfl DJ) rfl) (by unfold lim;omega)) (by simp;omega) (rest:=[some (.val F),some (.val (.int (m.ss.length:Int)))]) rfl λk hk=> ?_)) rfl) (by rw[Mr];rfl)) rfl
   have XN:k<n:=ME.mp hk
   have Vn:2*m.ss.length+k<fg.length:=by omega
   exact aj (aj (aj (a:=F) (b:= .int ((2*m.ss.length+k:Nat):Int)) (d:= .int (fg.getD (2*m.ss.length+k) 0)) rfl (aj (a:= .int (2*(m.ss.length:Int))) (b:= .int (k:Int)) (aj (a:= .int 2) (b:= .int (m.ss.length:Int)) rfl rfl (sG (by decide))) rfl (by rw[eJ];congr 2)) (rq (2*m.ss.length+k) (by rw[Lx,LB Vn];simp[Vn]))) rfl (b9 (by decide))) rfl lU
  ·exact⟨Xe,l3,by rw[bR (by rw[tm,decide_eq_false z])];rfl⟩
 obtain⟨W3,s7,a3G,a3H,h5⟩:∃(W3:List Rd) (s7:Option Slot),W3.length=rd.length/\(aa 7:ag->R D) (P s7 y8 y9 UH V5 (some (.val (.tup (ri.map .int)))))= .ok (.lst (W3.map jx))/\cA (fT (f2 dq (f2 bP (f2 ee (aa 1) (fC (.int 5))) (fC (.int 2))) (fC (.int 1)))) (aV (CA (aa 7)) (gN 7)) (aE) (P (O rd) y8 y9 UH V5 (some (.val (.tup (ri.map .int)))))= .ok (.nx (P s7 y8 y9 UH V5 (some (.val (.tup (ri.map .int)))))):=by
  have tt:fT (f2 dq (f2 bP (f2 ee (aa 1) (fC (.int 5))) (fC (.int 2))) (fC (.int 1))) (P (O rd) y8 y9 UH V5 (some (.val (.tup (ri.map .int)))))= .ok (decide (c / 5%2=1)):=bt (aj (aj (aj (a:= .int c) (b:= .int 5) rfl rfl (de (by decide))) rfl (b9 (by decide))) rfl gR)
  by_cases z:c / 5%2=1
  ·exact⟨rd.reverse,some (.val (.lst (rd.reverse.map jx))),by simp,rfl,by rw[dE (by rw[tt,decide_eq_true z])];exact aY (d:= .lst (rd.reverse.map jx)) (by unfold CA;rw[show (aa 7:ag->R D) (P (O rd) y8 y9 UH V5 (some (.val (.tup (ri.map .int)))))= .ok (.lst (rd.map jx))from rfl,ar,List.map_reverse]) rfl⟩
  ·exact⟨rd,O rd,rfl,rfl,by rw[bR (by rw[tt,decide_eq_false z])];rfl⟩
 refine⟨ri,W3,bx rfl ?_,by omega,by omega⟩
 show jm [some (.val M),some (.val (.int c)),some (.val (.bl mx)),none,none,none,none,none,none,none,none,none,none]=_
 unfold jm
 rw[av (ρ':=[some (.val M),some (.val (.int c)),some (.val (.bl mx)),some (.val (.int VD)),none,none,none,none,none,none,none,none,none]) (aY (aj (a:= .int c) (b:= .int 5) rfl rfl (b9 (by decide))) rfl)]
 rw[av (ρ':=[some (.val M),some (.val (.int c)),some (.val (.bl mx)),some (.val (.int VD)),some (.val (.int (m.ss.length:Int))),none,none,none,none,none,none,none,none]) (aY (aR (a9 (aj (a:=M) rfl rfl HL) rfl) (by rw[hJ,L7])) rfl)]
 rw[av (ρ':=[some (.val M),some (.val (.int c)),some (.val (.bl mx)),some (.val (.int VD)),some (.val (.int (m.ss.length:Int))),some (.val F),none,none,none,none,none,none,none]) (aY (aW (n:=4) (ds:=[.int (c / 10), .bl mx, .int ((2*m.ss.length+n:Nat):Int), .int 10010]) (a9 (aj (a:= .int c) (b:= .int 10) rfl rfl (de (by decide))) (a9 rfl (a9 (aj (a:= .int (2*(m.ss.length:Int))) (b:= .int (n:Int)) (aj (a:= .int 2) (b:= .int (m.ss.length:Int)) rfl rfl (sG (by decide))) (aj (a:=M) rfl rfl DJ) (by rw[eJ];congr 2)) rfl))) rfl e1) rfl)]
 rw[av (ρ':=P none none none none none none) (aY (aW (n:=5) (a9 rfl (a9 (aj (a:=M) rfl rfl DJ) (a9 (aj (a:=M) rfl rfl HL) (a9 (aj (a:=M) rfl rfl Ht) (a9 (aj (a:= .lst [.lst [.int 5000, .int 1000], .lst [.int 1, .int 1]]) rfl (aR (a9 (aj (a:= .int VD) (b:= .int 2) rfl rfl jC) rfl) yG) a3D) rfl))))) rfl e2) rfl)]
 rw[av (ρ':=P (O []) none none none none none) rfl,av e3,av (ρ':=P (O rd) y8 y9 UH V5 (some (.val (.tup (Xe.map .int))))) (aY (aj (a:=W) rfl rfl Ja) rfl),av h4,av h5]
 exact cN (bM (ds:=[.str "day passes", .tup (ri.map .int), .tup (W3.map jx)]) (a9 rfl (a9 rfl (a9 (aR (a9 a3H rfl) rfl) rfl))) (show 3<=lim by decide))
end
section
variable {n:Nat} {m:Mo} {hs:List D}
theorem Bi (g:m.Ok) (q:m.Rg (n:Int)) (h7:n<=7) (c:Int) (mx:Bool):∃d:cc,jp [bH (n:Int) m, .int c, .bl mx]= .ok d.dt/\d.Fit:=by
 obtain⟨fg,e1,l1,p1⟩:=gO (c / 64) mx 3 630 (by decide) (by decide)
 obtain⟨x0,x1,x2,rfl⟩:∃x0 x1 x2,fg=[x0,x1,x2]:=by
  match fg,l1 with
  |[x0,x1,x2],_=>exact⟨x0,x1,x2,rfl⟩
 let kd:=c%16
 let ct:=c / 16%4
 let M:=bH (n:Int) m
 let P (y z:Option Slot):ag:=[some (.val M),some (.val (.int c)),some (.val (.bl mx)),some (.val (.int kd)),some (.val (.int ct)),some (.val (.lst [.int x0, .int x1, .int x2])),y,z]
 have f0:∀{y z:Option Slot},f2 aQ (aa 5) (fC (.int 0)) (P y z)= .ok (.int x0):=λ{y z}=>aj (a:= .lst [.int x0, .int x1, .int x2]) rfl rfl (rq 0 rfl)
 have f1:∀{y z:Option Slot},f2 aQ (aa 5) (fC (.int 1)) (P y z)= .ok (.int x1):=λ{y z}=>aj (a:= .lst [.int x0, .int x1, .int x2]) rfl rfl (rq 1 rfl)
 have a3I:∀{y z:Option Slot},f2 aQ (aa 5) (fC (.int 2)) (P y z)= .ok (.int x2):=λ{y z}=>aj (a:= .lst [.int x0, .int x1, .int x2]) rfl rfl (rq 2 rfl)
 have fn:∀{y z:Option Slot},f2 aQ (aa 0) (fC (.int 0)) (P y z)= .ok (.int (n:Int)):=λ{y z}=>aj (a:=M) rfl rfl DJ
 have tl:∀{y z:Option Slot} {k:Int},fT (f2 tL (aa 3) (fC (.int k))) (P y z)= .ok (decide (kd<k)):=λ{y z k}=>bt (aj (a:= .int kd) (b:= .int k) rfl rfl lV)
 have te:∀{y z:Option Slot} {k:Int},fT (f2 dq (aa 3) (fC (.int k))) (P y z)= .ok (decide (kd=k)):=λ{y z k}=>bt (aj (a:= .int kd) (b:= .int k) rfl rfl gR)
 have ZG:0<=ct/\ct<4:=⟨Ny _ (by decide),Nz _ (by decide)⟩
 have nm:∀{k:Int} {fk:ag->R (Option Int)},0<=k->fk (P none none)= .ok (some k)->∃xs:List Int,aF dI 2 (a8 (au 0) (a8 (zu (aa 5) (lS) fk) (ai))) (P none none)= .ok (.tup (xs.map .int))/\xs.length=min k.toNat 3:=λ{k fk} hk hf=>by
  obtain⟨xs,e,hl⟩:=yL (n:=(n:Int)) g ([x0,x1,x2].take k.toNat) (by simp;omega)
  refine⟨xs,aW (n:=2) (a9 rfl (a9 (d:= .lst (([x0,x1,x2].take k.toNat).map .int)) ?_ rfl)) rfl e,by rw[hl];simp⟩
  unfold zu
  rw[show (aa 5:ag->R D) (P none none)= .ok (.lst ([x0,x1,x2].map .int))from rfl,ar,show lS (P none none)= .ok none from rfl,ar,hf,ar,DF hk,gB,QV]
 have go:∃d:cc,oA [some (.val M),some (.val (.int c)),some (.val (.bl mx)),none,none,none,none,none]= .ok (.ret d.dt)/\d.Fit:=by
  unfold oA
  rw[av (ρ':=[some (.val M),some (.val (.int c)),some (.val (.bl mx)),some (.val (.int kd)),none,none,none,none]) (aY (aj (a:= .int c) (b:= .int 16) rfl rfl (b9 (by decide))) rfl),av (ρ':=[some (.val M),some (.val (.int c)),some (.val (.bl mx)),some (.val (.int kd)),some (.val (.int ct)),none,none,none]) (aY (aj (aj (a:= .int c) (b:= .int 16) rfl rfl (de (by decide))) rfl (b9 (by decide))) rfl),av (ρ':=P none none) (aY (aW (n:=4) (ds:=[.int (c / 64), .bl mx, .int ((3:Nat):Int), .int 630]) (a9 (aj (a:= .int c) (b:= .int 64) rfl rfl (de (by decide))) rfl) rfl e1) rfl)]
  by_cases k5:kd<5
  ·
   have cm:∀{a b:Int} {fa fb:ag->R D} {y:Option Slot},fa (P y none)= .ok (.int a)->fb (P y none)= .ok (.int b)->bu (bS (a8 (fC (.str "stream comes")) (a8 fa (a8 fb (ai))))) (P y none)= .ok (.ret (cc.comes a b).dt):=λ{a b fa fb y} h1 h2=>cN (bM (ds:=[.str "stream comes", .int a, .int b]) (a9 rfl (a9 h1 (a9 h2 rfl))) (show 3<=lim by decide))
   have n1:∀{y:Option Slot},f2 bD (f2 aQ (aa 0) (fC (.int 0))) (fC (.int 1)) (P y none)= .ok (.int ((n:Int)+1)):=λ{y}=>aj fn rfl eJ
   let S:Option Slot:=some (.val (.int (x0%((n:Int)+1))))
   have a1H:fT (f2 dq (f2 bP (f2 aQ (aa 5) (fC (.int 2))) (fC (.int 13))) (fC (.int 12))) (P S none)= .ok (decide (x2%13=12)):=bt (aj (aj a3I rfl (b9 (by decide))) rfl gR)
   have t0:fT (f2 dq (f2 aQ (aa 0) (fC (.int 0))) (fC (.int 0))) (P S none)= .ok (decide ((n:Int)=0)):=bt (aj fn rfl gR)
   have Zz:∃d:cc,aw (aV (f2 bP (f2 aQ (aa 5) (fC (.int 0))) (f2 bD (f2 aQ (aa 0) (fC (.int 0))) (fC (.int 1)))) (gN 6)) (aw (cA (fT (f2 dq (f2 bP (f2 aQ (aa 5) (fC (.int 2))) (fC (.int 13))) (fC (.int 12)))) (bu (bS (a8 (fC (.str "stream comes")) (a8 (f2 iS (f2 bP (f2 aQ (aa 5) (fC (.int 0))) (fC (.int 11))) (fC (.int 1))) (a8 (f2 iS (f2 bP (f2 aQ (aa 5) (fC (.int 1))) (fC (.int 11))) (fC (.int 1))) (ai)))))) (aE)) (aw (cA (fT (f2 dq (f2 aQ (aa 0) (fC (.int 0))) (fC (.int 0)))) (bu (bS (a8 (fC (.str "stream comes")) (a8 (fC (.int 0)) (a8 (f2 bP (f2 aQ (aa 5) (fC (.int 1))) (fC (.int 2))) (ai)))))) (aE)) (bu (bS (a8 (fC (.str "stream comes")) (a8 (au 6) (a8 (f2 bP (f2 bD (f2 bD (aa 6) (fC (.int 1))) (f2 bP (f2 aQ (aa 5) (fC (.int 1))) (f2 aQ (aa 0) (fC (.int 0))))) (f2 bD (f2 aQ (aa 0) (fC (.int 0))) (fC (.int 1)))) (ai)))))))) (P none none)= .ok (.ret d.dt)/\d.Fit:=by
    rw[av (ρ':=P S none) (aY (aj f0 n1 (b9 (by omega))) rfl)]
    by_cases z:x2%13=12
    ·exact⟨.comes (x0%11 - 1) (x1%11 - 1),dO (by rw[dE (by rw[a1H,decide_eq_true z])];exact cm (aj (aj f0 rfl (b9 (by decide))) rfl lU) (aj (aj f1 rfl (b9 (by decide))) rfl lU)),trivial⟩
    rw[av (by rw[bR (by rw[a1H,decide_eq_false z])];rfl)]
    by_cases z0:(n:Int)=0
    ·exact⟨.comes 0 (x1%2),dO (by rw[dE (by rw[t0,decide_eq_true z0])];exact cm rfl (aj f1 rfl (b9 (by decide)))),trivial⟩
    rw[av (by rw[bR (by rw[t0,decide_eq_false z0])];rfl)]
    exact⟨.comes (x0%((n:Int)+1)) ((x0%((n:Int)+1)+1+x1%(n:Int))%((n:Int)+1)),cm rfl (aj (aj (aj (a:= .int (x0%((n:Int)+1))) (b:= .int 1) rfl rfl eJ) (aj f1 fn (b9 (by omega))) eJ) n1 (b9 (by omega))),trivial⟩
   obtain⟨d,e,hf⟩:=Zz
   exact⟨d,dO (by rw[dE (by rw[tl,decide_eq_true k5])];exact e),hf⟩
  rw[av (by rw[bR (by rw[tl,decide_eq_false k5])];rfl)]
  by_cases a1I:kd=5
  ·obtain⟨xs,e,hl⟩:=nm (k:=1) (fk:=lT (fC (.int 1))) (by decide) rfl
   match xs,hl with
   |[x],_=>exact⟨.goes x,dO (by rw[dE (by rw[te,decide_eq_true a1I])];exact cN (bM (ds:=[.str "stream goes", .int x]) (a9 rfl (a9 (aj e rfl DI) rfl)) (show 2<=lim by decide))),trivial⟩
  rw[av (by rw[bR (by rw[te,decide_eq_false a1I])];rfl)]
  obtain⟨xs,e,hl⟩:=nm (k:=ct) (fk:=lT (au 4)) ZG.1 rfl
  by_cases k9:kd<9
  ·exact⟨.mcome xs,dO (by rw[dE (by rw[tl,decide_eq_true k9])];exact cN (bM (ds:=[.str "meters come", .tup (xs.map .int)]) (a9 rfl (a9 e rfl)) (show 2<=lim by decide))),by show xs.length<=40;omega⟩
  rw[av (by rw[bR (by rw[tl,decide_eq_false k9])];rfl)]
  by_cases a1J:kd=9
  ·exact⟨.mgo xs,dO (by rw[dE (by rw[te,decide_eq_true a1J])];exact cN (bM (ds:=[.str "meters go", .tup (xs.map .int)]) (a9 rfl (a9 e rfl)) (show 2<=lim by decide))),by show xs.length<=40;omega⟩
  rw[av (by rw[bR (by rw[te,decide_eq_false a1J])];rfl)]
  by_cases a18:kd<14
  ·obtain⟨ri,rd,e2,h1,h2⟩:=jZ g q h7 (c / 64) mx
   have a1:aV (aF c7 3 (a8 (au 0) (a8 (f2 ee (aa 1) (fC (.int 64))) (a8 (au 2) (ai))))) (gN 7) (P none none)= .ok (.nx (P none (some (.val (dn ri rd))))):=aY (aW (n:=3) (a9 rfl (a9 (aj (a:= .int c) (b:= .int 64) rfl rfl (de (by decide))) rfl)) rfl e2) rfl
   have t3:fT (f2 dq (aa 4) (fC (.int 3))) (P none (some (.val (dn ri rd))))= .ok (decide (ct=3)):=bt (aj (a:= .int ct) (b:= .int 3) rfl rfl gR)
   by_cases z:ct=3
   ·obtain⟨U2,W3,e3,h3,h4⟩:=Bh ri rd x0 (by omega) (by omega)
    exact⟨.pass U2 W3,dO (by rw[dE (by rw[tl,decide_eq_true a18]),av a1];exact dO (by rw[dE (by rw[t3,decide_eq_true z])];exact cN (aW (n:=2) (a9 rfl (a9 f0 rfl)) rfl e3))),⟨by omega,by omega⟩⟩
   ·exact⟨.pass ri rd,dO (by rw[dE (by rw[tl,decide_eq_true a18]),av a1,av (by rw[bR (by rw[t3,decide_eq_false z])];rfl)];rfl),⟨by omega,by omega⟩⟩
  rw[av (by rw[bR (by rw[tl,decide_eq_false a18])];rfl)]
  exact⟨.back,cN (bM (ds:=[.str "take back"]) rfl (show 1<=lim by decide)),trivial⟩
 obtain⟨d,e,hf⟩:=go
 exact⟨d,bx rfl e,hf⟩
theorem oF (ns:List Int) (k:Nat) {x:Int} (h:x=(k:Int)):bQ [.scr ns, .int x]= .ok (.int (cl ns k)):=by rw[h];exact qu ns k
def HA (ns:List Int):Bool:=decide (cel ns 0%2=1)
theorem HB (ns:List Int) {ρ:ag} (h:(au 0:ag->R D) ρ= .ok (.scr ns)):f2 dq (f2 bP (aF cR 2 (a8 (au 0) (a8 (fC (.int 0)) (ai)))) (fC (.int 2))) (fC (.int 1)) ρ= .ok (.bl (HA ns)):=aj (aj (aW (n:=2) (a9 h (a9 rfl rfl)) rfl (K8 ns)) rfl (b9 (by decide))) rfl gR
theorem rA (ns:List Int) (h7:n<=7):∃ds:List cc,dB [.scr ns, .int (n:Int)]= .ok (.lst (ds.map cc.dt))/\(∀d∈ds,d.Fit)/\ds.length<=20:=by
 obtain⟨k,hk,a3J,XN⟩:∃k:Nat,(if (1:Int)<(n:Int)then (1:Int)else (n:Int))*(cl ns 2%13)=(k:Int)/\k<=12/\(0<k->0<n):=by
  have a:=Ny (cl ns 2) (show (13:Int)≠0 by decide)
  have b:=Nz (cl ns 2) (show (0:Int)<13 by decide)
  by_cases z:n=0
  ·exact⟨0,by rw[z];simp,by omega,λh=>absurd h (Me _)⟩
  ·have:(if (1:Int)<(n:Int)then (1:Int)else (n:Int))=1:=by split<;>omega
   exact⟨(cl ns 2%13).toNat,by rw[this];omega,by omega,λ_=>by omega⟩
 let mx:=HA ns
 obtain⟨so,e4,l4,_⟩:=gO (cl ns 3) mx k 8 (by decide) (by omega)
 obtain⟨ta,e5,l5,_⟩:=gO (cl ns 4) mx k 7 (by decide) (by omega)
 obtain⟨fi,e6,l6,_⟩:=gO (cl ns 5 / 5) mx k 4 (by decide) (by omega)
 let sh:=cl ns 5%5
 let P (y8 y9 UH V5:Option Slot):ag:=[some (.val (.scr ns)),some (.val (.int (n:Int))),some (.val (.bl mx)),some (.val (.int (k:Int))),some (.val (.lst (so.map .int))),some (.val (.lst (ta.map .int))),some (.val (.lst (fi.map .int))),some (.val (.int sh)),y8,y9,UH,V5]
 let O (ds:List cc):Option Slot:=some (.own (.lst (ds.map cc.dt)))
 obtain⟨ρ',e8,ds,y9,UH,rfl,hl,hf⟩:=pH (g:=gN 9) (gb:=gL) (n:=k) (fs:=a8 (au 3) (ai)) (ρ:=P (O []) none none none) (P:=λj ρ=>∃ds y9 UH,ρ=P (O ds) y9 UH none/\ds.length=j/\∀d∈ds,d.Fit) (a9 rfl rfl) (by omega) ⟨[],none,none,rfl,rfl,λd hd=>by cases hd⟩ λj hj ρ hρ=>by
  obtain⟨ds,y9,UH,rfl,hl,hf⟩:=hρ
  have n0:=XN (by omega)
  have a3K:j<so.length:=by omega
  have a3L:j<ta.length:=by omega
  let J:Option Slot:=some (.val (.int (j:Int)))
  let s:=so[j]%((n:Int)+1)
  have s1:aV (f2 bP (f2 aQ (aa 4) (aa 9)) (f2 bD (aa 1) (fC (.int 1)))) (gN 10) (P (O ds) J UH none)= .ok (.nx (P (O ds) J (some (.val (.int s))) none)):=aY (aj (aj (a:= .lst (so.map .int)) (b:= .int (j:Int)) rfl rfl (rq j (by rw[Lx,LB a3K];rfl))) (aj (a:= .int (n:Int)) (b:= .int 1) rfl rfl eJ) (b9 (by omega))) rfl
  let t:=(s+1+ta[j]%(n:Int))%((n:Int)+1)
  have s2:bS (a8 (fC (.str "stream comes")) (a8 (au 10) (a8 (f2 bP (f2 bD (f2 bD (aa 10) (fC (.int 1))) (f2 bP (f2 aQ (aa 5) (aa 9)) (aa 1))) (f2 bD (aa 1) (fC (.int 1)))) (ai)))) (P (O ds) J (some (.val (.int s))) none)= .ok (cc.comes s t).dt:=
   bM (ds:=[.str "stream comes", .int s, .int t]) (a9 rfl (a9 rfl (a9 (aj (aj (aj (a:= .int s) (b:= .int 1) rfl rfl eJ) (aj (aj (a:= .lst (ta.map .int)) (b:= .int (j:Int)) rfl rfl (rq j (by rw[Lx,LB a3L];rfl))) rfl (b9 (by omega))) eJ) (aj (a:= .int (n:Int)) (b:= .int 1) rfl rfl eJ) (b9 (by omega))) rfl))) (show 3<=lim by decide)
  refine⟨P (O ds) J UH none,P (O (ds++[.comes s t])) J (some (.val (.int s))) none,rfl, .inl ?_,_,_,_,rfl,by simp[hl],λd hd=> ?_⟩
  ·unfold gL
   rw[av s1]
   show (bS (a8 (fC (.str "stream comes")) (a8 (au 10) (a8 (f2 bP (f2 bD (f2 bD (aa 10) (fC (.int 1))) (f2 bP (f2 aQ (aa 5) (aa 9)) (aa 1))) (f2 bD (aa 1) (fC (.int 1)))) (ai)))) (P (O ds) J (some (.val (.int s))) none)>>=λd=>if (ds.map cc.dt).length<lim then R.ok (bq.nx ((P (O ds) J (some (.val (.int s))) none).set 8 (some (.own (.lst (ds.map cc.dt++[d]))))))else .bad)=_
   rw[s2,ar,if_pos (by rw[L7];unfold lim;omega),show ds.map cc.dt++[(cc.comes s t).dt]=(ds++[cc.comes s t]).map cc.dt by simp]
   rfl
  ·rcases L_.mp hd with hd|hd
   ·exact hf d hd
   ·rw[Lk.mp hd];exact trivial
 let a3M:=(LZ k).filter λj=>decide (fi.getD j 0<sh)
 let XG:=a3M.map λj:Nat=>(j:Int)+1
 have a3N:bO ["_law_script","_law_n","_law_mixed","_law_many","_law_sources","_law_targets","_law_fitted","_law_share","_law_deeds","_law_k","_law_source","_law_named"] [(".0", .local),("_law_k", .local),("_law_fitted", .free),("_law_share", .free)] (dN (a8 (au 3) (ai))) (gN 1) (fT (f2 tL (f2 aQ (aa 2) (aa 1)) (aa 3))) (f2 bD (aa 1) (fC (.int 1))) (P (O ds) y9 UH none)= .ok (XG.map .int):=by
  rw[fR (mT (n:=k) (a9 rfl rfl) (by unfold lim;omega)) (by simp;unfold lim;omega) (τ:=[none,none,some (.val (.lst (fi.map .int))),some (.val (.int sh))]) rfl (kA (enc:=λj:Nat=>D.int (j:Int)) (p:=λj=>decide (fi.getD j 0<sh)) (out:=λj=> .int ((j:Int)+1)) (LZ k) none (λj hj=> ?_) (λj _ _=>aj (a:= .int (j:Int)) (b:= .int 1) rfl rfl eJ)),Mr]
  ·rfl
  ·have a1K:j<fi.length:=by have:=ME.mp hj;omega
   exact bt (aj (a:= .int (fi.getD j 0)) (b:= .int sh) (aj (a:= .lst (fi.map .int)) (b:= .int (j:Int)) rfl rfl (rq j (by rw[Lx,LB a1K];simp[a1K]))) rfl lV)
 refine⟨ds++[.mcome (XG.take 10)],bx rfl ?_,λd hd=> ?_,by simp;omega⟩
 ·show i3 [some (.val (.scr ns)),some (.val (.int (n:Int))),none,none,none,none,none,none,none,none,none,none]=_
  unfold i3
  rw[av (ρ':=[some (.val (.scr ns)),some (.val (.int (n:Int))),some (.val (.bl mx)),none,none,none,none,none,none,none,none,none]) (aY (HB ns rfl) rfl)]
  rw[av (ρ':=[some (.val (.scr ns)),some (.val (.int (n:Int))),some (.val (.bl mx)),some (.val (.int (k:Int))),none,none,none,none,none,none,none,none]) (aY (aj (aR (a9 (d:= .int (n:Int)) rfl rfl) vS) (aj (aW (n:=2) (a9 rfl (a9 rfl rfl)) rfl (oF ns 2 rfl)) rfl (b9 (by decide))) ((sG (by split<;>omega)).trans (by rw[hk]))) rfl)]
  rw[av (ρ':=[some (.val (.scr ns)),some (.val (.int (n:Int))),some (.val (.bl mx)),some (.val (.int (k:Int))),some (.val (.lst (so.map .int))),none,none,none,none,none,none,none]) (aY (aW (n:=4) (a9 (aW (n:=2) (a9 rfl (a9 rfl rfl)) rfl (oF ns 3 rfl)) rfl) rfl e4) rfl)]
  rw[av (ρ':=[some (.val (.scr ns)),some (.val (.int (n:Int))),some (.val (.bl mx)),some (.val (.int (k:Int))),some (.val (.lst (so.map .int))),some (.val (.lst (ta.map .int))),none,none,none,none,none,none]) (aY (aW (n:=4) (a9 (aW (n:=2) (a9 rfl (a9 rfl rfl)) rfl (oF ns 4 rfl)) rfl) rfl e5) rfl)]
  rw[av (ρ':=[some (.val (.scr ns)),some (.val (.int (n:Int))),some (.val (.bl mx)),some (.val (.int (k:Int))),some (.val (.lst (so.map .int))),some (.val (.lst (ta.map .int))),some (.val (.lst (fi.map .int))),none,none,none,none,none]) (aY (aW (n:=4) (a9 (aj (aW (n:=2) (a9 rfl (a9 rfl rfl)) rfl (oF ns 5 rfl)) rfl (de (by decide))) rfl) rfl e6) rfl)]
  rw[av (ρ':=P none none none none) (aY (aj (aW (n:=2) (a9 rfl (a9 rfl rfl)) rfl (oF ns 5 rfl)) rfl (b9 (by decide))) rfl)]
  rw[av (ρ':=P (O []) none none none) rfl,av e8,av (ρ':=P (O ds) y9 UH (some (.own (.lst (XG.map .int))))) (own_of a3N)]
  refine cN (aj (a:= .lst (ds.map cc.dt)) (b:= .lst [(cc.mcome (XG.take 10)).dt]) rfl ?_ (by rw[CC (by simp;unfold lim;omega)];simp))
  unfold eG
  rw[a9 (ds:=[]) (d:=(cc.mcome (XG.take 10)).dt) (bM (ds:=[.str "meters come", .tup ((XG.take 10).map .int)]) (a9 rfl (a9 (aR (a9 (d:= .lst ((XG.take 10).map .int)) (by unfold zu;rw[show (aa 11:ag->R D) (P (O ds) y9 UH (some (.own (.lst (XG.map .int)))))= .ok (.lst (XG.map .int))from rfl,ar];show R.of (FA (.lst (XG.map .int)) none (some 10))=_;rw[DF (by decide),gB,QV];rfl) rfl) rfl) rfl)) (show 2<=lim by decide)) rfl,ar]
  exact if_pos (show 1<=lim by decide)
 ·rcases L_.mp hd with hd|hd
  ·exact hf d hd
  ·rw[Lk.mp hd]
   show (XG.take 10).length<=40
   rw[NN];omega
end
theorem vT {i j:Nat} {mf:List Slot->List D->R (D×List Slot)} {k:Nat} {fs:ag->R (List D)} {ρ:ag} {ds:List D} {d:D} {s p s' p':Slot} (h:ft ρ [i,j]=some [s,p]) (Xb:i≠j) (k1:s.kind=2) (k2:p.kind=1) (h2:fs ρ= .ok ds) (hl:ds.length=k) (e:mf [s,p] ds= .ok (d,[s',p'])) (k3:s'.kind=2) (k4:p'.kind=1):dQ [i,j] mf k fs ρ= .ok (d,vi ρ [i,j] [s',p']):=by
 unfold dQ
 rw[h]
 dsimp only
 rw[if_pos ⟨by simp only[Mp,Sn,k1,k2];rfl,by simp[Xb]⟩,h2,ar,if_pos hl,e]
 dsimp only
 rw[if_pos (by simp only[Lf,MA,k1,k2,k3,k4])]
theorem n4 {fx:ag->R (D×ag)} {ρ ρ':ag} {b:Bool} (h:fx ρ= .ok (.bl b,ρ')):m8 (sN fx) ρ= .ok (!b,ρ'):=by unfold m8 sN;rw[h];rfl
theorem tz {gx:ag->R (Bool×ag)} {g g':ag->R bq} {ρ ρ':ag} (h:gx ρ= .ok (false,ρ')):tP gx g g' ρ=g' ρ':=by unfold tP;rw[h];rfl
def m0:Mo:=⟨0,[],[],[],[],[]⟩
theorem Jg:m0.Ok:=⟨.nil,λr h=>(by cases h),by decide, .refl _, .nil,λx h=>(by cases h),by decide,by decide⟩
theorem Jh (n:Int):m0.Rg n:=⟨λr h=>(by cases h),λr h=>(by cases h)⟩
theorem tr0 (n:Int):Tr n [] m0 []:= .nil Jg (Jh n) rfl
theorem yM (ns:List Int):gl [.scr ns]= .ok (.lst (cM (cl ns 1%8) [] m0)):=by
 unfold gl L2.Pu.ER
 rw[if_pos (show [D.scr ns].length=1 from rfl)]
 show mC [some (.val (.scr ns)),none]=_
 unfold mC Dd
 rw[aY (ρ':=[some (.val (.scr ns)),some (.val (.int (cl ns 1%8)))]) (aj (aW (n:=2) (a9 rfl (a9 rfl rfl)) rfl (oF ns 1 rfl)) rfl (b9 (by decide))) rfl,ar]
 rfl
theorem Bj {n:Int} (h0:0<=n) (h7:n<=7):eC [.int n]= .ok (lh n (bw n m0),"history",[]):=by
 unfold eC ma
 rw[if_pos (show [D.int n].length=1 from rfl)]
 show (jQ [some .obj,some (.val (.int n)),none,none,none]>>=_)=_
 unfold jQ
 rw[av (ρ':=[some .obj,some (.val (.int n)),none,none,none]) (by
  rw[bR]
  ·rfl
  ·unfold oG
   rw[bt (aj (a:= .int n) (b:= .int 0) rfl rfl lV),ar,decide_eq_false (by omega),if_neg (by simp)]
   rw[bt (aj (a:= .int n) (b:= .int 7) rfl rfl jC),decide_eq_false (by omega)])]
 rfl
theorem tD (ns:List Int) {n:Nat} (h7:n<=7):∃tr m hs,Tr (n:Int) tr m hs/\eu [aA (n:Int) (bw (n:Int) m0) [],pO (n:Int) [] m0] [.scr ns]= .ok (.bl true,[aA (n:Int) (bw (n:Int) m) hs,pO (n:Int) tr m]):=by
 obtain⟨ds,e,hf,_⟩:=rA ns h7
 let F (s p:Slot) (y:Option Slot):ag:=[some s,some p,some (.val (.scr ns)),y]
 have W5:∀(ds:List cc),(∀d∈ds,d.Fit)->∀tr m hs y,Tr (n:Int) tr m hs->∃WE m' T3 y',Tr (n:Int) WE m' T3/\eO (gN 3) i4 (ds.map cc.dt) (F (aA (n:Int) (bw (n:Int) m) hs) (pO (n:Int) tr m) y)= .ok (.nx (F (aA (n:Int) (bw (n:Int) m') T3) (pO (n:Int) WE m') y')):=by
  intro ds
  induction ds with
  |nil=>exact λ_ tr m hs y t=>⟨tr,m,hs,y,t,rfl⟩
  |cons d ds ih=>
   intro hf tr m hs y t
   obtain⟨XH,m1,Xv,t1,e1⟩:=kE t d (hf d Lo)
   obtain⟨YS,m2,VX,y2,t2,e2⟩:=ih (λx hx=>hf x (Lp _ hx)) XH m1 Xv (some (.val d.dt)) t1
   refine⟨YS,m2,VX,y2,t2,?_⟩
   rw[Lf,mS (ρ1:=F (aA (n:Int) (bw (n:Int) m) hs) (pO (n:Int) tr m) (some (.val d.dt))) rfl (show i4 _= .ok (.nx (F (aA (n:Int) (bw (n:Int) m1) Xv) (pO (n:Int) XH m1) (some (.val d.dt))))from (tz (n4 (vT (i:=0) (j:=1) (k:=1) rfl (by decide) rfl rfl (a9 rfl rfl) rfl e1 rfl rfl)))),e2]
 obtain⟨tr,m,hs,y,t,e2⟩:=W5 ds hf [] m0 [] none (tr0 n)
 refine⟨tr,m,hs,t,fD ⟨rfl,rfl⟩ (ρ:=F (aA (n:Int) (bw (n:Int) m) hs) (pO (n:Int) tr m) y) ?_ rfl⟩
 show iG (F (aA (n:Int) (bw (n:Int) m0) []) (pO (n:Int) [] m0) none)=_
 unfold iG
 rw[av ((sI (by
  unfold cD
  rw[aW (n:=2) (ds:=[.scr ns, .int (n:Int)]) (a9 rfl (a9 (aj (aj (a:= .lst (cM (n:Int) [] m0)) rfl rfl (rq 0 rfl)) rfl DJ) rfl)) rfl e]
  rfl)).trans e2)]
 rfl
theorem Kc (ns:List Int) (hl:ns.length<=63) {fs:ag->R (List D)} {ρ:ag} (h:fs ρ= .ok [.int 6, .int (ns.length:Int)]):rF fs ρ= .ok (((LZ ((ns.length:Int) - 6).toNat).map λk:Nat=>k+6).map λk:Nat=>D.int (k:Int)):=by
 unfold rF
 rw[h,ar]
 show (if (6:Int).natAbs<=lim/\(ns.length:Int).natAbs<=lim then R.ok (j5 6 (ns.length:Int))else .bad)=_
 rw[if_pos ⟨by decide,by unfold lim;omega⟩]
 unfold j5
 rw[Mr]
 congr 1
 refine NX λk _=> ?_
 show D.int (6+(k:Int))=D.int ((k+6:Nat):Int)
 congr 1
 omega
abbrev hR (ns:List Int) (s p:Slot) (b k d:Option Slot):ag:=[some s,some p,some (.val (.scr ns)),b,k,d]
theorem FN {ns:List Int} {n:Nat} (h7:n<=7) (b:Bool):∀(ks:List Nat) {tr:List Mo} {m:Mo} {hs:List D} (y:Option Slot),Tr (n:Int) tr m hs->∃WE m' T3 y',Tr (n:Int) WE m' T3/\eO (gN 4) jq (ks.map λk:Nat=>D.int (k:Int)) (hR ns (aA (n:Int) (bw (n:Int) m) hs) (pO (n:Int) tr m) (some (.val (.bl b))) y none)= .ok (.nx (hR ns (aA (n:Int) (bw (n:Int) m') T3) (pO (n:Int) WE m') (some (.val (.bl b))) y' none))
 |[],tr,m,hs,y,t=>⟨tr,m,hs,y,t,rfl⟩
 |k::ks,tr,m,hs,y,t=>by
  obtain⟨d,e,hf⟩:=Bi t.ok t.rg h7 (cl ns k) b
  obtain⟨XH,m1,Xv,t1,e1⟩:=kE t d hf
  obtain⟨YS,m2,VX,y2,t2,e2⟩:=FN h7 b ks (some (.val (.int (k:Int)))) t1
  refine⟨YS,m2,VX,y2,t2,?_⟩
  rw[Lf,mS (ρ1:=hR ns (aA (n:Int) (bw (n:Int) m) hs) (pO (n:Int) tr m) (some (.val (.bl b))) (some (.val (.int (k:Int)))) none) rfl (show jq _= .ok (.nx (hR ns (aA (n:Int) (bw (n:Int) m1) Xv) (pO (n:Int) XH m1) (some (.val (.bl b))) (some (.val (.int (k:Int)))) none))from (tz (n4 (vT (i:=0) (j:=1) (k:=1) rfl (by decide) rfl rfl (a9 (aW (n:=3) (a9 (aj (a:= .lst (cM (n:Int) tr m)) (b:= .int (-1)) rfl rfl iX) (a9 (aW (n:=2) (a9 rfl (a9 rfl rfl)) rfl (qu ns k)) rfl)) rfl e) rfl) rfl e1 rfl rfl)))),e2]
theorem vU (ns:List Int) (hl:ns.length<=63) {n:Nat} (h7:n<=7):∃tr m hs,Tr (n:Int) tr m hs/\fP [aA (n:Int) (bw (n:Int) m0) [],pO (n:Int) [] m0] [.scr ns]= .ok (.bl true,[aA (n:Int) (bw (n:Int) m) hs,pO (n:Int) tr m]):=by
 obtain⟨XH,m1,Xv,t1,e1⟩:=tD ns h7
 let b:=HA ns
 obtain⟨YS,m2,VX,y2,t2,e2⟩:=FN (ns:=ns) h7 b ((LZ ((ns.length:Int) - 6).toNat).map λk:Nat=>k+6) none t1
 obtain⟨ri,rd,e3,l1,l2⟩:=jZ t2.ok t2.rg h7 (cl ns (6+ns.length)) b
 obtain⟨YH,m4,YT,t4,e4⟩:=kE t2 (.pass ri rd) ⟨by omega,by omega⟩
 refine⟨YH,m4,YT,t4,fD ⟨rfl,rfl⟩ (ρ:=hR ns (aA (n:Int) (bw (n:Int) m4) YT) (pO (n:Int) YH m4) (some (.val (.bl b))) y2 (some (.val (dn ri rd)))) ?_ rfl⟩
 show jW (hR ns (aA (n:Int) (bw (n:Int) m0) []) (pO (n:Int) [] m0) none none none)=_
 unfold jW
 have a3O:f2 dq (f2 bP (aF cR 2 (a8 (au 2) (a8 (fC (.int 0)) (ai)))) (fC (.int 2))) (fC (.int 1)) (hR ns (aA (n:Int) (bw (n:Int) m0) []) (pO (n:Int) [] m0) none none none)= .ok (.bl b):=aj (aj (aW (n:=2) (a9 rfl (a9 rfl rfl)) rfl (K8 ns)) rfl (b9 (by decide))) rfl gR
 rw[av (ρ':=hR ns (aA (n:Int) (bw (n:Int) m0) []) (pO (n:Int) [] m0) (some (.val (.bl b))) none none) (aY a3O rfl)]
 rw[av (ρ':=hR ns (aA (n:Int) (bw (n:Int) m1) Xv) (pO (n:Int) XH m1) (some (.val (.bl b))) none none) (tz (n4 (vT (i:=0) (j:=1) (k:=1) rfl (by decide) rfl rfl (a9 rfl rfl) rfl e1 rfl rfl)))]
 rw[av ((sI (Kc ns hl (a9 rfl (a9 (aR rfl yn) rfl)))).trans e2)]
 rw[av (ρ':=hR ns (aA (n:Int) (bw (n:Int) m2) VX) (pO (n:Int) YS m2) (some (.val (.bl b))) y2 (some (.val (dn ri rd)))) (aY (aW (n:=3) (a9 (aj (a:= .lst (cM (n:Int) YS m2)) (b:= .int (-1)) rfl rfl iX) (a9 (aW (n:=2) (a9 rfl (a9 (d:= .int ((6+ns.length:Nat):Int)) (aj (a:= .int 6) (b:= .int (ns.length:Int)) rfl (aR rfl yn) (by rw[eJ];congr 2)) rfl)) rfl (qu ns (6+ns.length))) rfl)) rfl e3) rfl)]
 exact vR (vT (i:=0) (j:=1) (k:=1) rfl (by decide) rfl rfl (a9 (d:=(cc.pass ri rd).dt) rfl rfl) rfl e4 rfl rfl)
abbrev lR (ns:List Int) (s p:Slot) (d:Option Slot):ag:=[some (.val (.scr ns)),some p,some s,d]
theorem A3 {ns:List Int} {n:Nat} {tr:List Mo} {m:Mo} {hs:List D} (t:Tr (n:Int) tr m hs) (d:Option Slot):aF bV 2 (a8 (au 2) (a8 (f2 aQ (aa 1) (f1 g_ (fC (.int 1)))) (ai))) (lR ns (.val (.ins "Cellar" (gQ (n:Int) (bw (n:Int) m) hs))) (pO (n:Int) tr m) d)= .ok (.bl true):=aW (n:=2) (a9 rfl (a9 (aj (a:= .lst (cM (n:Int) tr m)) (b:= .int (-1)) rfl rfl iX) rfl)) rfl (yK t)
theorem DH {ns:List Int} {n:Nat} {tr:List Mo} {m:Mo} {hs:List D} (t:Tr (n:Int) tr m hs) (d:Option Slot) {fx:ag->R (D×ag)} {ρ:ag} (h:fx ρ= .ok (.bl true,lR ns (aA (n:Int) (bw (n:Int) m) hs) (pO (n:Int) tr m) d)):
  Dc (m8 (sN fx)) (HI (o6 [2] (gY (dD (aF bV 2 (a8 (au 2) (a8 (f2 aQ (aa 1) (f1 g_ (fC (.int 1)))) (ai)))))))) ρ= .ok (false,lR ns (aA (n:Int) (bw (n:Int) m) hs) (pO (n:Int) tr m) d):=by
 unfold Dc
 rw[n4 h,ar]
 show HI (o6 [2] (gY (dD (aF bV 2 (a8 (au 2) (a8 (f2 aQ (aa 1) (f1 g_ (fC (.int 1)))) (ai))))))) (lR ns (aA (n:Int) (bw (n:Int) m) hs) (pO (n:Int) tr m) d)=_
 unfold HI
 have:o6 [2] (gY (dD (aF bV 2 (a8 (au 2) (a8 (f2 aQ (aa 1) (f1 g_ (fC (.int 1)))) (ai)))))) (lR ns (aA (n:Int) (bw (n:Int) m) hs) (pO (n:Int) tr m) d)= .ok false:=by
  show gY (dD (aF bV 2 (a8 (au 2) (a8 (f2 aQ (aa 1) (f1 g_ (fC (.int 1)))) (ai))))) (lR ns (.val (.ins "Cellar" (gQ (n:Int) (bw (n:Int) m) hs))) (pO (n:Int) tr m) d)=_
  unfold gY
  rw[jX (A3 t d)];rfl
 rw[this];rfl
theorem FO {ns:List Int} {n:Nat}:∀(k f:Nat) {tr:List Mo} {m:Mo} {hs:List D},Tr (n:Int) tr m hs->tr.length=k->k<f->∃m' T3,Tr (n:Int) [] m' T3/\jM (fT (f2 nV (cn c9 (a8 (aa 1) (ai))) (fC (.int 1)))) vA f (lR ns (aA (n:Int) (bw (n:Int) m) hs) (pO (n:Int) tr m) none)= .ok (.nx (lR ns (aA (n:Int) (bw (n:Int) m') T3) (pO (n:Int) [] m') none))
 |k,0,tr,m,hs,t,h,hf=>absurd hf (Nat.not_lt_zero _)
 |0,f+1,tr,m,hs,t,h,hf=>by
  have h0:=M_.mp h
  subst h0
  refine⟨m,hs,t,?_⟩
  rw[jM,show fT (f2 nV (cn c9 (a8 (aa 1) (ai))) (fC (.int 1))) (lR ns (aA (n:Int) (bw (n:Int) m) hs) (pO (n:Int) [] m) none)= .ok false from bt (aj (aR (a9 (d:= .lst (cM (n:Int) [] m)) rfl rfl) ir) rfl (by rw[jC,kC];rfl))]
  rfl
 |k+1,f+1,tr,m,hs,t,h,hf=>by
  obtain⟨XH,m1,Xv,t1,e1,hl⟩:=qy t .back trivial
  obtain⟨m2,VX,t2,e2⟩:=FO (ns:=ns) k f t1 (by rw[hl rfl,h];rfl) (by omega)
  refine⟨m2,VX,t2,?_⟩
  have eb:vA (lR ns (aA (n:Int) (bw (n:Int) m) hs) (pO (n:Int) tr m) none)= .ok (.nx (lR ns (aA (n:Int) (bw (n:Int) m1) Xv) (pO (n:Int) XH m1) none)):=by
   unfold vA
   rw[tz (DH t1 none (vT (i:=2) (j:=1) (k:=1) rfl (by decide) rfl rfl (a9 (d:=cc.back.dt) (bM (ds:=[.str "take back"]) rfl (show 1<=lim by decide)) rfl) rfl e1 rfl rfl))]
   rfl
  rw[jM,show fT (f2 nV (cn c9 (a8 (aa 1) (ai))) (fC (.int 1))) (lR ns (aA (n:Int) (bw (n:Int) m) hs) (pO (n:Int) tr m) none)= .ok true from bt (aj (aR (a9 (d:= .lst (cM (n:Int) tr m)) rfl rfl) ir) rfl (by rw[jC,kC,h,decide_eq_true (by omega)])),ar,if_pos rfl,eb,ar]
  exact e2
theorem main (ns:List Int) (hl:ns.length<=63):uK [.scr ns]= .ok (.bl true):=by
 obtain⟨n,hn⟩:=Oh (Ny (cl ns 1) (show (8:Int)≠0 by decide))
 have h7:n<=7:=by have:=Nz (cl ns 1) (show (0:Int)<8 by decide);omega
 obtain⟨XH,m1,Xv,t1,e1⟩:=vU ns hl h7
 obtain⟨m2,VX,t2,e2⟩:=FO (ns:=ns) XH.length 100 t1 rfl (by have:=t1.le;have:=t1.len;omega)
 obtain⟨a3P,m3,a3Q,t3,e3,l3⟩:=qy t2 .back trivial
 have h3:a3P=[]:=M_.mp (l3 rfl)
 subst h3
 let a:Int:=if (n:Int)<1 then (n:Int)else 1
 obtain⟨YH,m4,YT,t4,e4⟩:=kE t3 (.comes a 0) trivial
 obtain⟨ri,rd,e5,l1,l2⟩:=jZ t4.ok t4.rg h7 (cl ns 7) true
 obtain⟨ZS,m6,ZT,t6,e6⟩:=kE t4 (.pass ri rd) ⟨by omega,by omega⟩
 refine bx rfl ?_
 show De [some (.val (.scr ns)),none,none,none]=_
 unfold De
 rw[av (ρ':=[some (.val (.scr ns)),some (pO (n:Int) [] m0),none,none]) (by unfold wU;rw[aW (n:=1) (a9 rfl rfl) rfl (yM ns),ar,hn];rfl)]
 rw[av (ρ':=lR ns (aA (n:Int) (bw (n:Int) m0) []) (pO (n:Int) [] m0) none) (by
  unfold vq
  rw[if_pos (show Ju 2 [some (.val (.scr ns)),some (pO (n:Int) [] m0),none,none]=true from rfl),a9 (d:= .int (n:Int)) (ds:=[]) (aj (aj (a:= .lst (cM (n:Int) [] m0)) rfl rfl (rq 0 rfl)) rfl DJ) rfl,ar,if_pos (show [D.int (n:Int)].length=1 from rfl),Bj (by omega) (by omega)]
  rfl)]
 rw[av (ρ':=lR ns (aA (n:Int) (bw (n:Int) m1) Xv) (pO (n:Int) XH m1) none) (by rw[tz (DH t1 none (vT (i:=2) (j:=1) (k:=1) rfl (by decide) rfl rfl (a9 rfl rfl) rfl e1 rfl rfl))];rfl)]
 rw[av e2]
 rw[av (ρ':=lR ns (aA (n:Int) (bw (n:Int) m3) a3Q) (pO (n:Int) [] m3) none) (tz (n4 (vT (i:=2) (j:=1) (k:=1) rfl (by decide) rfl rfl (a9 (d:=cc.back.dt) (bM (ds:=[.str "take back"]) rfl (show 1<=lim by decide)) rfl) rfl e3 rfl rfl)))]
 rw[av (ρ':=lR ns (aA (n:Int) (bw (n:Int) m4) YT) (pO (n:Int) YH m4) none) (tz (n4 (vT (i:=2) (j:=1) (k:=1) rfl (by decide) rfl rfl (a9 (d:=(cc.comes a 0).dt) (bM (ds:=[.str "stream comes", .int a, .int 0]) (a9 rfl (a9 (aR (a9 rfl (a9 (d:= .int (n:Int)) (aj (aj (a:= .lst (cM (n:Int) [] m3)) rfl rfl (rq 0 rfl)) rfl DJ) rfl)) vS) rfl)) (show 3<=lim by decide)) rfl) rfl e4 rfl rfl)))]
 rw[av (ρ':=lR ns (aA (n:Int) (bw (n:Int) m4) YT) (pO (n:Int) YH m4) (some (.val (dn ri rd)))) (aY (aW (n:=3) (a9 (aj (a:= .lst (cM (n:Int) YH m4)) (b:= .int (-1)) rfl rfl iX) (a9 (aW (n:=2) (a9 rfl (a9 rfl rfl)) rfl (oF ns 7 rfl)) rfl)) rfl e5) rfl)]
 unfold D7 D8
 rw[vT (i:=2) (j:=1) (k:=1) (ρ:=lR ns (aA (n:Int) (bw (n:Int) m4) YT) (pO (n:Int) YH m4) (some (.val (dn ri rd)))) rfl (by decide) rfl rfl (a9 (d:=(cc.pass ri rd).dt) rfl rfl) rfl e6 rfl rfl,ar]
 have a3R:J3 (o5 "history" [2] (aF bV 2 (a8 (au 2) (a8 (f2 aQ (aa 1) (f1 g_ (fC (.int 1)))) (ai))))) (lR ns (aA (n:Int) (bw (n:Int) m6) ZT) (pO (n:Int) ZS m6) (some (.val (dn ri rd))))= .ok (.bl true,lR ns (aA (n:Int) (bw (n:Int) m6) ZT) (pO (n:Int) ZS m6) (some (.val (dn ri rd)))):=by
  unfold J3
  rw[xw (L:=[2]) rfl (show aF bV 2 (a8 (au 2) (a8 (f2 aQ (aa 1) (f1 g_ (fC (.int 1)))) (ai))) (lR ns (.val (.ins "Cellar" (gQ (n:Int) (bw (n:Int) m6) ZT))) (pO (n:Int) ZS m6) (some (.val (dn ri rd))))= .ok (.bl true)from A3 t6 _) (.bl true),ar]
 show ((J3 _ (lR ns (aA (n:Int) (bw (n:Int) m6) ZT) (pO (n:Int) ZS m6) (some (.val (dn ri rd)))))>>=_)=_
 rw[a3R]
 rfl
end My
end
inductive PySem.W.Fast
|tw10036686235955158536|tw10374768275936182515|tw10825419603663975265|tw10972155604445676397|tw10988335682127107360|tw11024257986228026271|tw11085244672140009426|tw1108990264543843864|tw11160448075930932955|tw11173963446449023081|tw1121422459845163245|tw11367313812639401305|tw11545445183820340580|tw11654071262604066314|tw11822360749793080077|tw11917661171925628853|tw11949617326825641866|tw12085947831054932983|tw12164339805742944777|tw12253333484640714688|tw12580730186691614140|tw12713047116231968115|tw12862073440312532584|tw12946970823069188887|tw13338832180164057977|tw13455275493830338447|tw13469415527239392653|tw13699173481471961681|tw13970759368388522462|tw13985412964906983396|tw13995311086144921114|tw14097451774521488608|tw14431000421568267908|tw14523485263009527927|tw14549881810100672751|tw14580585199931440592|tw14585727225684134011|tw1458595681685783884|tw14677303815744679707|tw14721931435880603628|tw14795841057131528845|tw1494720729714308818|tw14977255494329649880|tw15062331392859340500|tw15258621713575632715|tw15320140223690352818|tw15339820315177888611|tw15411361297808491076|tw15544912710503274957|tw1556787568778287813|tw15624088418869295998|tw15754595733782988420|tw15847660761353220698|tw15879717723352507340|tw16014622479905914789|tw16249733965489271983|tw16255788479339021775|tw1627176693013811070|tw1641100831119012291|tw16468041218778198952|tw16667326653709427438|tw16668244674360247966|tw16849119746805478561|tw16918866874380759331|tw1695170289735629985|tw16952472987472321018|tw16974276363354168467|tw17053684891493018530|tw17068675042104991984|tw17242149572288388684|tw17325398850696546494|tw17326347402675765770|tw17442718691954481635|tw17457053792150808369|tw17662643661143581965|tw17792178983360270313|tw1805282387182963531|tw18320480300879240742|tw18427328707633173210|tw18427370756379194426|tw1994078613067985448|tw2021517932667572616|tw2080679504518928006|tw2092170345008232634|tw2124080261241540606|tw2248970516022809166|tw2405287798473665001|tw2501807286661210404|tw2527407417222196798|tw2628102844057137198|tw2647580928881932979|tw269208362601976485|tw2760330290954597022|tw2977324023309271022|tw3073883343287534263|tw3125377160918220442|tw325033699639011625|tw3267044080223984322|tw3313187227750032084|tw335828499844991795|tw3406862652068994257|tw3551890465949192758|tw360926207982400504|tw3630676889819600827|tw3829327221080695769|tw4024551798270053308|tw4065618455071993719|tw4094346858380376334|tw416227860459749436|tw4292809684874074074|tw4402267283243224487|tw4450741675428079339|tw4629296836269753736|tw4949600617577089184|tw5123579986373170144|tw5156541121086081709|tw5181878763545194298|tw5228966983566749764|tw5486402283381697966|tw5528075038382598169|tw5757506575820046666|tw5821474317653885831|tw5868939959730130218|tw5873347302817400391|tw6016944515267943212|tw6078699794337755855|tw6138564756636302278|tw6206288595663595158|tw622979941160596035|tw6288467020951816407|tw6459752758640311797|tw6461916620063353017|tw6552653557078500728|tw6792851934290112934|tw6829498161404590393|tw6866539868116266937|tw7042524108579382851|tw7124030788138361404|tw7254869445303535835|tw7279638489093920318|tw7289431893874088228|tw73620118846096088|tw7368040699115878700|tw7470148606170717077|tw7470669720458039330|tw7487595191065630450|tw7637212757646642105|tw7649539459234494684|tw7769883237302994458|tw7818711538298672984|tw7829669032981792802|tw794574030364249227|tw7949232664989280958|tw8040249291499309626|tw8123046853999885061|tw8209102723204705517|tw8471930816705575103|tw8720484681374007569|tw8728386782535077918|tw8824342245836975829|tw8856251003448867962|tw8886747260751299071|tw8891863531024477626|tw9109993831423972046|tw9210625490808085602|tw9353025287357166078|tw9569502517064115008|tw9588780168861790596|tw974539215337192477|tw9748806494123578679|tw9765732893496241970|tw9829698208455593142|tw9986638493653593616|tw9988480587379024520
open PySem PySem.W PyProof.Rows
set_option maxRecDepth 100000 in
set_option maxHeartbeats 0 in
theorem PySem.Challenge.cw_tankbalance_k24_take_back_holds : PySem.Challenge.rw_tankbalance_k24_take_back.Holds := by
  w_on; o_law; k_head; (case hw => w_witness2)
  k_fill
  refine My.walk (l := PySem.Challenge.rw_tankbalance_k24_take_back) rfl rfl (fun w h Y => PySem.W.kIn_of Y) My.main ?F
  case F =>
    intro w mg fa h KX G hmg
    refine' My.Hn KX G hmg ?_ ?_ ?_ ?_ ?_ ?_ ?_ ?_ ?_ ?_ ?_ ?_ ?_ ?_ ?_ ?_ ?_ ?_ ?_ ?_ ?_ ?_ ?_ ?_ ?_ ?_ ?_ ?_ ?_ ?_ ?_ ?_ ?_ ?_ ?_ ?_ ?_ ?_ ?_ ?_ ?_ ?_ ?_ ?_ ?_ ?_ ?_ ?_ ?_ ?_ ?_ ?_ ?_ ?_ ?_ ?_ ?_ ?_ ?_ ?_ ?_ ?_ ?_ ?_ ?_ ?_ ?_ ?_ ?_ ?_ ?_ ?_ ?_ ?_ ?_ ?_ ?_ ?_ ?_ ?_ ?_ ?_ ?_ ?_ ?_ ?_ ?_ ?_ ?_ ?_ ?_ ?_ ?_ ?_ ?_ ?_ ?_ ?_ ?_ ?_ ?_ ?_ ?_ ?_ ?_ ?_ ?_ ?_ ?_ ?_ ?_ ?_ ?_ ?_ ?_ ?_ ?_ ?_ ?_ ?_ ?_ ?_ ?_ ?_ ?_ ?_ ?_ ?_ ?_ ?_ ?_ ?_
    all_goals try first | k_is | k_exc | (refine' L2.Pu.UF.of ?_ ?_ ?_ ?_ <;> try k_is) | (refine' L2.Pu.qL.of ?_ ?_ ?_ ?_ ?_ <;> try k_is)
    all_goals try (repeat' (first | exact True.intro | refine And.intro ?_ ?_ | (refine @Eq.trans _ _ (some true) _ ?_ rfl; k_is) | (refine @Eq.trans _ _ (some false) _ ?_ rfl; k_is) | k_is | k_exc))
