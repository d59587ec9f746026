import PyProof.Rows.All
import Wide.All
import OpenK.AllK
import Wide.FinOn
import Lean
import PyProof.EqAt
import PyProof.EqKinds
import PyProof.TupleCall
import PyProof.NeKinds
import PySem.Challenge.RW_tankbalance_k14_known_is_true
set_option Elab.async false
set_option linter.all false
set_option maxRecDepth 100000
set_option maxHeartbeats 40000000
open PySem.W renaming Frag->KU,nsIn->Lz,findIn->LB,mg_none_of->LV,fnOf->M3,keepIn->Mg,kia_one->Mt,emptyDict->Mz,instObj->MZ,mroIn->N5,excIn->Nl,codeIn->Nv,plainGet->NX,kitCls->Oo,hasDictIn->Oy,specialIn->Oz,mg_of->OH,methodCall_KW->OO,hideAll_none->OS,isFn->OU,makesIn->OV,takesIn->OW,hideAll_get->P7,plainGet_of->P8,lookIn->Pb,kitOne->Pc,callWith_K->Ph,methodObj->PL,plainOver->PM,takerIn->QA,OpenLaw->QD,cellsFrom_some->QG,typeIn->QQ,of_hideAll->RF,kitx_list->S4,kitx_dict->S5,handedIn->Sl,hideAll->Sw,nd_pure->SK,WalkO->SX,clsIn->T1
open PySem renaming Value->KW,Shared->KY,Addr->KZ,wpAny_bind->K_,Str->L0,starEach->L6,Spec->L9,Expr->La,Program->Lb,wpAny_pure->Lc,model->Lh,Heap->Lj,World->Ll,mainGlobals->Lp,eval->Ls,Stmt->Ly,Around->LD,Pos->LF,Obj->LG,bootBuiltins->LK,backTo->LM,wpAny_holding->LO,wpAny_mono->M8,assignEach->M9,sizeLine_eq->Md,NameKind->Mf,swapsWith->Mi,foldedSetIterable->Mq,wpAny_Call_Name_kw->Mv,FuncData->MD,behindInMarks->MK,attributeBase->ML,Scope->MO,compareOp->MP,wpAny_standAt->MR,binaryOp->MT,Env->MU,keywordEach->MX,wpAny_newObj_type->N1,holding->N9,bindArgs->Na,wpAny_passesOwn->Nf,codeAny->Ng,cLine->Nh,relabel->Ni,wpAny_truthy_bool->Nn,assign->Ny,wpAny_typeOf->NA,mem_of_lookup->ND,tupleKind_room_in1->NI,codeAny_builtin->NK,backToKw->NN,codeAny_mono->NS,builtinLookup_eq_fast->NT,Sem->NV,wpAny_call_entry->NZ,swapsWithSole->O0,swappedStores->O1,wpAny_newList->O2,Keyword->O6,sliceBounds->O7,noteFrame->Oh,getattributeRaised->Oi,getItem->Ol,wpAny_pyIter_list->Ox,wpAny_field->OD,plainId_quiet->OG,Operator->OJ,standAt->OM,getMethod->ON,Builtin->OR,wpAny_execs_nil->OT,IsPart->OX,typeLookup->OY,wpAny_specialOf->P0,typeLookup_type->P4,tupleKind->Pe,wpAny_pyIter_tuple->Pg,seqIndex?->Pj,assignInOrder->Pt,evalPart_none->PD,comprehension->PH,slot_list_getitem->PR,wpAny_rule->PZ,valueAt->Q1,callerA->Q2,GenState->Q3,Result->Q4,callWith->Q6,noFill_tuple_add->Q7,wpAny_getItem_list_slice->Q9,stored->Qa,call_meetsIn->Qb,wpAny_comprehension_free->Qe,passOn->Qh,wpAny_comp_letGo->Qi,wpAny_callSpecial?_slot->Qo,inplaceOp->Qy,letOwnedTupleGo->Qz,atKey->QC,subscripted->QH,codeAny_compStart_list->QK,spliced->QN,wpAny_isTrue_Compare1->QO,setItem->QP,BindsTo->QR,merged->QU,newFunctionEnv->QV,exec_Assign_Name_used->QW,isSubtype_type->Q_,wpAny_loadName_local->R5,CmpOp->R6,bindL->R7,bindC->R8,wpAny_newFunctionEnv->Rc,getAttr?->Rh,seq_tuple_add->Ro,wpAny_loadName_cell->Rw,Within->RD,PassesOwn->RG,pyIter->RJ,concat_meets->RN,seqIndex_neg->RQ,sub_AttributeError->RW,scanBound->RZ,newList->S2,wpAny_sequenceKey->S6,unpackItems->Sf,seqIndex_of->Sh,bindName->Sk,builtinsNs->Sx,Model->Sy,isTrue->Sz,wpAny_Name->SA,wpAny_call->SD,typeIs_int->SE,call->SG,closureFor->SH,checkCount->SI,release->SO,ItemsOf->SR
open List renaming map_cons->L3,length_map->L4,mem_cons_of_mem->L7,mem_cons_self->L8,size_toArray->Ld,mem_cons->Le,mem_map->Lk,length_cons->Lm,mem_append_right->Ln,mem_singleton->Lo,mem_filter->Lv,getElem?_eq_some_iff->Lx,getElem?_map->LA,replicate->LC,nodup_cons->LN,getElem?_cons_zero->LP,getElem?_cons_succ->LQ,mem_append->LR,mem_append_left->LS,range->LU,map_append->LW,length_append->LX,map_map->LY,mem_map_of_mem->LZ,mem_range->M0,sum_cons->M1,map_nil->M4,pairwise_cons->Ma,append_nil->Mb,filter_cons->Mc,pairwise_map->Me,getD_eq_getElem?_getD->Mh,mem_of_getElem?->Mj,length_nil->Ml,lookup_cons->Mm,replicate_succ->Mo,map_congr_left->Mp,append_assoc->Mr,nodup_append->MA,set_cons_zero->MI,set_cons_succ->MJ,find?_cons->MQ,any_cons->MS,drop_eq_getElem_cons->MW,getElem?_eq_getElem->M_,flatten_cons->N2,length_range->N3,all_cons->N6,getElem?_replicate->N7,filterMap_cons->N8,mem_filterMap->Nb,toArray->Nd,length_filter_le->Nk,range_eq_range'->Nr,length->Nt,length_take->Nz,any_eq_true->NC,zip_cons_cons->NM,take_of_length_le->NO,range'->NP,getElem?_set->NR,nodup_nil->NU,range'_succ->N_,lookup->O5,filter_sublist->O8,getElem?_append_left->Oa,nil_append->Oc,pairwise_iff_getElem->Oe,length_eq_zero_iff->Ov,reverse_cons->OA,getElem_inj->OI,take_succ_eq_append_getElem->OK,take_length->OL,length_set->OZ,length_reverse->P9,filter_eq_self->Pa,drop_zero->Pd,getElem?_append_right->Pw,length_drop->Q8,drop_length->Qj,all_eq_true->Qk,getElem_mem->Ql,range'_eq_map_range->Qn,pairwise_singleton->Qt,filter_cons_of_pos->Qw,of_mem_zip->QB,getElem?_set_self->QF,length_replicate->QS,getElem?_eq_none->R0,mem_iff_getElem?->R1,getElem?_set_ne->R4,foldl->Ra,mem_iff_getElem->Rb,getElem?_append->Rj,zip->Rl,mem_of_mem_tail->Rn,map_take->Ru,getElem?_range->Ry,getElem_of_mem->Rz,length_pos_iff->RA,reverse_perm->Sb,find?_append->Sd,getElem_map->So,nodup_range->Sq,not_mem_nil->Ss,cons_append->Su,map_reverse->Sv,filter_nil->SM,take_zero->SS,map_drop->T2,sum->T6
open PySem.Heap renaming get?_push_of_some->L5,lt_size->Lg,get?_push_size->Lq,size_push->Nu,SameBut->Nx,get?_none_of_le->NW,get?_update_other->OE,get?_update_self->QT
open Sum renaming inl->Lf,inr->P_
open Nat renaming le_refl->Li,ne_of_lt->Lu,lt_irrefl->LI,lt_of_lt_of_le->LJ,le_trans->LL,zero_le->M6,lt_succ_of_lt->MN,le_of_lt->Nw,lt_succ_self->NY,le_succ->OB,add_sub_cancel->Pm,le_of_eq->Q5,le_of_not_lt->Qc,ne_of_gt->RH,lt_of_le_of_lt->RS,zero_add->RX,add_right_comm->R_,lt_trichotomy->S7,le_succ_of_le->S8,succ_le_succ->Sn
open PySem.Value renaming ref->Lr,none->M5,type->MY,int->N4,str->Qx,bool->R3,builtin->Rr,float->Se,isStrOf->SW,isInt->T7,bytes->T8
open Bool renaming false_ne_true->Lw,false_eq_true->LH,and_eq_true->Mw,not_true->O4,eq_iff_iff->O9,true_eq_false->S1,not_false->SV
open Or renaming inr->L_,inl->Mn
open PyProof.Rows renaming slot_tuple_getitem->M7,callWith_type1->Mu,envOfC->NG,callWith_builtin1->NH,AllBare->Oj,assignInOrder_cons->Pf,tupleItemsOf_->Pz,subscriptTail->PF,IsTup->PY,IntsAre->Q0,entry_list_sort->QE,subscriptTail_builtinR->QI,boot_range->QM,slot_list_sort->QX,args_list_sort->QY,sortedHeap_old->QZ,Subscript_->R9,sortedHeap->Rf,size_push'->Rg,sortedHeap_at->Rq,listUpdate_at->Rt,entry_tuple_getitem->Rx,args_tuple_getitem->RO,plain_sorted->RT,entry_sorted->RU,args_sorted1->RV,assignInOrder_nil->S3,kind_sorted->Si,seqEpoch_at->Sj,iadd_int->SN
open Option.some renaming inj->Ms,injEq->PX
open PySem.NameKind renaming free->Mx,cell->Rp
open Array renaming length_toList->MB,getElem?_eq_some_iff->O3,getElem?_toList->OP,getD_eq_getD_getElem?->Pn,perm_iff_toList_perm->PJ,getD->Ri,append_assoc->RE,map->RY,toList->T4
open False renaming elim->ME
open PySem.Obj renaming mapSeq->MF,mapFields->S_
open Ne renaming symm->MG
open PySem.Builtin.Tuple renaming tupleExact->MH,tupleItemsOf->Py,tupleIsExact->PK
open True renaming intro->MM
open Int renaming emod_lt_of_pos->MV,le_trans->N0,emod_nonneg->Nj,eq_ofNat_of_zero_le->Ow,zero_mul->P6,lt_trans->Qg,le_refl->QL,natAbs->Rm,ne_of_lt->S0,emod_eq_of_lt->Sa,add_assoc->T3
open PySem.Calls renaming spliced_cons->Nc,spliced_nil->NQ,call_function_entry->Od,callWith_builtin->OF,evalArgs_plain->O_,Name_function_global->Pq
open Eq renaming trans->Nm
open PySem.Builtin.Slice renaming slicePlaces->Np,sliceAdjust->Ob,sliceApplied->Px
open PySem.Around renaming under_plainId->Nq,under->RK
open PySem.Builtin.List renaming listTooLong->NB,listExtendWith->Pk,listSameRef->Qf
open PySem.F renaming slot_tuple_getattribute->NF,slot_list_getattribute->NL,args_tuple_add_2->Of,entry_tuple_add->Ot,plainAttrs_dict->Ou,slot_tuple_add->OC,slot_dict_get->OQ,called_tuple->P5,slot_dict_update->Qm,args_dict_get_3->Qp,plain_list_iadd->Qq,plain_tuple_new->Qr,plainAttrs_list->Qu,slot_dict_items->Qv,entry_dict_get->QJ
open Option renaming map_some->NJ,isSome_map->PU,bind_some->Qd,toList->Rv,getD_none->Sm,none->Ta
open PySem.Str renaming ofString->Og
open List.Perm renaming refl->Om,nil_eq->Sr,cons->SQ
open PySem.Builtin.Range renaming rangeSize->Oq
open ForInStep renaming yield->P2
open List.Nodup renaming sublist->Po
open PySem.Paired renaming length->Pp,snoc->T9
open List.Pairwise renaming nil->PV
open PySem.Builtin.Dict renaming updateFrom->Qs
open PySem.SeqAt.EqAt renaming int_str->RB,str_int->RC
open PySem.Code renaming isFrame->RM
open PySem.Heap.IsSliceOf renaming new->RP
open PySem.PassesOwn renaming leaving->S9
open PySem.Data renaming fields->Sg,seq->T5
open PySem.Heap.DictOf renaming new->SF
open PySem.Walks renaming list->SJ,tuple->Tb
open PySem.Builtin.Frozenset renaming updateFrom->SU
open PySem.Moved renaming eq_with->SY
local macro_rules | `(tactic| omega) => `(tactic| lia)
noncomputable section
namespace L2
open PySem PySem.Spec PyProof.Rows
abbrev aL:=Sum Int L0
def oF:aL->KW->Bool
 | .inl k,v=>T7 k v
 | .inr x,v=>SW x v
def Jn (w:Ll):aL->Int
 | .inl k=>hashInt k
 | .inr x=>hashStr w x
theorem bn:∀{k:aL} {v:KW},oF k v=true->(∃i t,k=Lf i/\v=N4 i t)\/(∃x t,k=P_ x/\v=Qx x t)
 | .inl i,v,h=>by
  obtain⟨t,e⟩:=Value.isInt_shape (k:=i) (v:=v) h
  exact .inl ⟨i,t,rfl,e⟩
 | .inr x,v,h=>by
  obtain⟨t,e⟩:=Value.isStrOf_shape (x:=x) (v:=v) h
  exact .inr ⟨x,t,rfl,e⟩
theorem xw (i:Int) (t:Tok):oF (.inl i) (.int i t)=true:=by simp[oF,T7]
theorem xx (x:L0) (t:Tok):oF (.inr x) (.str x t)=true:=by simp[oF,SW]
theorem EN (a b:Int):decide ((Lf a:aL)=Lf b)=(a==b):=by
 by_cases e:a=b
 ·subst e;simp
 ·have h:¬(Lf a:aL)=Lf b:=λq=>e (Sum.inl.inj q)
  rw[decide_eq_false h]
  exact(beq_eq_false_iff_ne.mpr e).symm
theorem EQ (a b:L0):decide ((P_ a:aL)=P_ b)=decide (a=b):=by
 by_cases e:a=b
 ·subst e;simp
 ·have h:¬(P_ a:aL)=P_ b:=λq=>e (Sum.inr.inj q)
  rw[decide_eq_false h,decide_eq_false e]
theorem ER (a:Int) (b:L0):decide ((Lf a:aL)=P_ b)=false:=decide_eq_false (λq=>nomatch q)
theorem ES (a:L0) (b:Int):decide ((P_ a:aL)=Lf b)=false:=decide_eq_false (λq=>nomatch q)
def aR (prog:Lb) (w:Ll):PySem.KeyKind prog w aL where
 is:=oF
 hash:=Jn w
 inj:=λv a b ha hb=>by
  rcases bn ha with ⟨i,t,rfl,rfl⟩|⟨x,t,rfl,rfl⟩
  ·rcases bn hb with ⟨j,u,rfl,e⟩|⟨y,u,rfl,e⟩
   ·injection e with e1 _;rw[e1]
   ·exact nomatch e
  ·rcases bn hb with ⟨j,u,rfl,e⟩|⟨y,u,rfl,e⟩
   ·exact nomatch e
   ·injection e with e1 _;rw[e1]
 byValue:=λk v h=>by
  rcases bn h with ⟨i,t,rfl,rfl⟩|⟨x,t,rfl,rfl⟩<;>rfl
 pyHash:=λhv h=>by
  rcases bn hv with ⟨i,t,rfl,rfl⟩|⟨x,t,rfl,rfl⟩
  ·exact wpAny_pyHash_int h
  ·exact wpAny_pyHash_str h
 eqBool:=λhu hv h=>by
  rcases bn hu with ⟨i,t,rfl,rfl⟩|⟨x,t,rfl,rfl⟩
  ·rcases bn hv with ⟨j,u,rfl,rfl⟩|⟨y,u,rfl,rfl⟩
   ·rw[EN]at h;exact wpAny_eqBool_int h
   ·rw[ER]at h;exact RB i t y u _ _ _ _ h
  ·rcases bn hv with ⟨j,u,rfl,rfl⟩|⟨y,u,rfl,rfl⟩
   ·rw[ES]at h;exact RC x t j u _ _ _ _ h
   ·rw[EQ]at h;exact wpAny_eqBool_str h
 «strs»:=λk x t v h=>by
  rcases bn h with ⟨i,u,rfl,e⟩|⟨y,u,rfl,e⟩
  ·exact nomatch e
  ·injection e with e1 _
   subst e1
   cases v<;>rfl
theorem s_ (prog:Lb) (w:Ll) (i:Int) (t:Tok):(aR prog w).is (.inl i) (.int i t)=true:=xw i t
theorem t0 (prog:Lb) (w:Ll) (x:L0) (t:Tok):(aR prog w).is (.inr x) (.str x t)=true:=xx x t
end L2
namespace L2
open PySem PySem.Spec PyProof.Rows
inductive V where
 |non|bl (b:Bool)|int (i:Int)|str (x:L0)|byt (b:Array UInt8)|flt (b:UInt64)|ref (a:KZ)|ty (n:String)
 deriving DecidableEq
def aT:V->KW->Prop
 | .non,u=>u=M5
 | .bl b,u=>u=R3 b
 | .int i,u=>∃t,u=N4 i t
 | .str x,u=>∃t,u=Qx x t
 | .byt b,u=>∃t,u=T8 b t
 | .flt b,u=>∃t,u=Se b t
 | .ref a,u=>u=Lr a
 | .ty n,u=>u=MY n
abbrev aK:List V->List KW->Prop:=Paired aT
theorem aK.length {xs:List V} {us:List KW} (r:aK xs us):xs.length=us.length:=Pp r
theorem aK.get:∀{xs:List V} {us:List KW} {i:Nat} {x:V},aK xs us->xs[i]? =some x->∃u,us[i]? =some u/\aT x u
 |_,_,_,_, .nil,e=>by simp at e
 |_,_,0,_, .cons r _,e=>by simp at e;subst e;exact⟨_,rfl,r⟩
 |_,_,i+1,x, .cons _ t,e=>by
  obtain⟨u,h1,h2⟩:=aK.get (i:=i) (x:=x) t (by simpa using e)
  exact⟨u,by simpa using h1,h2⟩
theorem aK.set {x:V} {u:KW} (r:aT x u):∀{xs:List V} {us:List KW} (i:Nat),aK xs us->aK (xs.set i x) (us.set i u)
 |_,_,_, .nil=> .nil
 |_,_,0, .cons _ t=> .cons r t
 |_,_,i+1, .cons q t=> .cons q (aK.set r i t)
theorem aK.append:∀{xs ys:List V} {us ws:List KW},aK xs us->aK ys ws->aK (xs++ys) (us++ws)
 |_,_,_,_, .nil,s=>s
 |_,_,_,_, .cons r t,s=> .cons r (aK.append t s)
theorem aK.take:∀{xs:List V} {us:List KW} (n:Nat),aK xs us->aK (xs.take n) (us.take n)
 |_,_,0,_=> .nil
 |_,_,_+1, .nil=> .nil
 |_,_,n+1, .cons r t=> .cons r (aK.take n t)
theorem aK.drop:∀{xs:List V} {us:List KW} (n:Nat),aK xs us->aK (xs.drop n) (us.drop n)
 |_,_,0,r=>r
 |_,_,_+1, .nil=> .nil
 |_,_,n+1, .cons _ t=>aK.drop n t
def jA:Option V->Option KW->Prop
 |some v,some u=>aT v u
 |none,none=>True
 |_,_=>False
def KV {κ:Type}:List (κ×V)->List (κ×KW)->Prop:=Paired λ(p:κ×V) (q:κ×KW)=>p.1=q.1/\aT p.2 q.2
def kV:aL->V
 | .inl i=> .int i
 | .inr x=> .str x
inductive HO where
 |lst (xs:List V)
 |tup (xs:List V)
 |dK (kvs:List (aL×V))|dT (kvs:List (List aL×V))
 |set (S:Int->Bool) (n:Nat)
 |ins (C dx:KZ) (fs:List (L0×V))
 |own (x:KZ)
 |xd (fs:List (L0×V))
 |met (f x:KZ)
 |rng (lo hi:Int)
 |frz (o:LG) (u:HO)
 |tbl (ps:Array KW)
 |ext (φ:Lj->Prop)
abbrev Hp:=KZ->Option HO
def a_ (H:Hp) (a:KZ) (o:HO):Hp:=λb=>if b=a then some o else H b
theorem aq {H:Hp} {a:KZ} {o:HO}:a_ H a o a=some o:=by unfold a_;rw[if_pos rfl]
theorem au {H:Hp} {a b:KZ} {o:HO} (h:b≠a):a_ H a o b=H b:=by unfold a_;rw[if_neg h]
theorem Hd {H:Hp} {a b:KZ} {o u:HO} (h:H a=some o) (h':H b=some u) (d:o≠u):a≠b:=by
 intro e;subst e;rw[h]at h';exact d (Ms h')
theorem cc {H:Hp} {a b:KZ} {o:HO} (h:H a=some o) (h':H b=none):a≠b:=by
 intro e;subst e;rw[h]at h';cases h'
def f9 (h:Lj) (a:KZ) (items:Array KW):Prop:=∃o,h.get? a=some o/\o.cls= .type "tuple"/\∃n,o.data= .seq items n/\o.dict=none
theorem f9.tup {h:Lj} {a:KZ} {items:Array KW} (x:f9 h a items):PY h a items:=let ⟨o,ho,hc,n,hd,_⟩:=x;⟨o,ho,hc,n,hd⟩
theorem f9.lt {h:Lj} {a:KZ} {items:Array KW} (x:f9 h a items):a<h.objs.size:=x.tup.lt
theorem f9.new (h:Lj) (items:Array KW):f9 (h.push {cls:= .type "tuple",data:= .seq items}) h.objs.size items:=⟨_,Lq _ rfl,rfl,_,rfl,rfl⟩
section
variable (P:Lb) (w:Ll)
def bu (H:Hp) (h:Lj) (a:KZ):HO->Prop
 | .lst xs=>xs.length<=sizeLine/\∃(its:List KW) (n:Nat),aK xs its/\h.get? a=some {cls:= .type "list",data:= .seq its.toArray n}
 | .tup xs=>xs.length<=sizeLine/\∃its:List KW,aK xs its/\f9 h a its.toArray
 | .dK kvs=>kvs.length<=sizeLine/\(a==sysModules)=false/\∃vs,KV kvs vs/\h.DictOf (aR P w) a vs
 | .dT kvs=>kvs.length<=sizeLine/\(a==sysModules)=false/\∃xs:List (List aL×KZ×KW),
   Paired (λ(p:List aL×V) (q:List aL×KZ×KW)=>p.1=q.1/\H q.2.1=some (.tup (p.1.map kV))/\aT p.2 q.2.2) kvs xs/\
   ∃o es ep,h.get? a=some o/\o.ExactDict/\o.data= .dict es ep/\es.toList=xs.map (entryOfKey (Pe (aR P w)))/\(xs.map (·.1)).Nodup
 | .set S n=>h.SetOf (intKind P w) a S n
 | .ins C dx fs=>H dx=some (.own a)/\fs.length<=1000/\dx≠a/\h.get? a=some (MZ C dx)/\
   ∃mA,h.Ns1 dx mA/\(∀f,jA (fs.lookup f) (mA f))/\RD mA (fs.map (·.1))
 | .own _=>∃o,h.get? a=some o
 | .xd fs=>∃mA,h.Ns1 a mA/\∀f,jA (fs.lookup f) (mA f)
 | .rng lo hi=>∃t u v,h.get? a=some {cls:= .type "range",data:= .fields #[.int lo t, .int hi u, .int 1 v]}
 | .frz o u=>h.get? a=some o/\bu H h a u
 | .tbl ps=>h.get? a=some {cls:= .none,data:= .fields ps}
 | .met f x=>h.get? a=some (PL (.ref f) (.ref x))
 | .ext φ=>φ h/\(∃o,h.get? a=some o)/\∀h1 h2:Lj,φ h1->(∀o,h1.get? a=some o->h2.get? a=some o)->φ h2
def jB (H:Hp) (h:Lj):Prop:=∀a o,H a=some o->bu P w H h a o
end
section
variable {P:Lb} {w:Ll} {H H':Hp} {h h':Lj} {a:KZ} {o:HO}
theorem bu.lt (x:bu P w H h a o):a<h.objs.size:=by
 cases o with
 |lst xs=>obtain⟨_,_,_,_,e⟩:=x;exact Lg e
 |tup xs=>obtain⟨_,_,_,p⟩:=x;exact p.lt
 |dK kvs=>obtain⟨_,_,_,_,o,_,_,e,_⟩:=x;exact Lg e
 |dT kvs=>obtain⟨_,_,_,_,o,_,_,e,_⟩:=x;exact Lg e
 |set S n=>obtain⟨o,_,_,_,e,_⟩:=x;exact Lg e
 |ins C dx fs=>obtain⟨_,_,_,e,_⟩:=x;exact Lg e
 |own y=>obtain⟨_,e⟩:=x;exact Lg e
 |xd fs=>obtain⟨_,⟨_,_,_,e,_⟩,_⟩:=x;exact Lg e
 |rng lo hi=>obtain⟨_,_,_,e⟩:=x;exact Lg e
 |frz ob u=>obtain⟨e,_⟩:=x;exact Lg e
 |tbl ps=>exact Lg (show h.get? a=some _ from x)
 |met f y=>exact Lg (show h.get? a=some _ from x)
 |ext φ=>obtain⟨_,⟨_,e⟩,_⟩:=x;exact Lg e
theorem Paired.mapP {α β:Type} {F G:α->β->Prop}:∀{l₁:List α} {l₂:List β},Paired F l₁ l₂->(∀a b,F a b->G a b)->Paired G l₁ l₂
 |_,_, .nil,_=> .nil
 |_,_, .cons r t,f=> .cons (f _ _ r) (Paired.mapP t f)
theorem bu.stay (x:bu P w H h a o) (k:∀b u,(b=a\/H b=some (.own a))->h.get? b=some u->h'.get? b=some u)
  (ho:∀b,H b=some (.own a)->H' b=some (.own a)) (ht:∀b xs,H b=some (.tup xs)->H' b=some (.tup xs)):bu P w H' h' a o:=by
 induction o with
 |lst xs=>obtain⟨z,its,n,r,e⟩:=x;exact⟨z,its,n,r,k _ _ (.inl rfl) e⟩
 |tup xs=>obtain⟨z,its,r,ob,e,c⟩:=x;exact⟨z,its,r,ob,k _ _ (.inl rfl) e,c⟩
 |dK kvs=>obtain⟨z,y,vs,r,ob,es,ep,e,c⟩:=x;exact⟨z,y,vs,r,ob,es,ep,k _ _ (.inl rfl) e,c⟩
 |dT kvs=>
  obtain⟨z,y,xs,r,ob,es,ep,e,c⟩:=x
  exact⟨z,y,xs,Paired.mapP r λp q z=>⟨z.1,ht _ _ z.2.1,z.2.2⟩,ob,es,ep,k _ _ (.inl rfl) e,c⟩
 |set S n=>obtain⟨ob,es,ep,t,e,c⟩:=x;exact⟨ob,es,ep,t,k _ _ (.inl rfl) e,c⟩
 |ins C dx fs=>
  obtain⟨d,z,ne,e,mA,⟨od,es,ep,e2,c⟩,r⟩:=x
  exact⟨ho _ d,z,ne,k _ _ (.inl rfl) e,mA,⟨od,es,ep,k _ _ (.inr d) e2,c⟩,r⟩
 |own y=>obtain⟨ob,e⟩:=x;exact⟨ob,k _ _ (.inl rfl) e⟩
 |xd fs=>obtain⟨mA,⟨od,es,ep,e,c⟩,r⟩:=x;exact⟨mA,⟨od,es,ep,k _ _ (.inl rfl) e,c⟩,r⟩
 |rng lo hi=>obtain⟨t,u,v,e⟩:=x;exact⟨t,u,v,k _ _ (.inl rfl) e⟩
 |frz ob u ih=>obtain⟨e,q⟩:=x;exact⟨k _ _ (.inl rfl) e,ih q⟩
 |tbl ps=>
  have e:h.get? a=some {cls:= .none,data:= .fields ps}:=x
  show h'.get? a=some {cls:= .none,data:= .fields ps}
  exact k a _ (.inl rfl) e
 |met f y=>
  have e:h.get? a=some (PL (.ref f) (.ref y)):=x
  show h'.get? a=some (PL (.ref f) (.ref y))
  exact k a _ (.inl rfl) e
 |ext φ=>obtain⟨p,⟨o,e⟩,st⟩:=x;exact⟨st _ _ p λo q=>k _ _ (.inl rfl) q,⟨o,k _ _ (.inl rfl) e⟩,st⟩
theorem jB.lt (x:jB P w H h) (e:H a=some o):a<h.objs.size:=(x a o e).lt
theorem jB.fresh (x:jB P w H h) (e:h.objs.size<=a):H a=none:=by
 cases q:H a with
 |none=>rfl
 |some u=>exact absurd (LJ (x.lt q) e) (LI _)
theorem jB.kept (x:jB P w H h) (k:∀b u,h.get? b=some u->h'.get? b=some u):jB P w H h':=λa o e=>
 (x a o e).stay (λb u _ q=>k b u q) (λ_ q=>q) λ_ _ q=>q
theorem jB.laid (x:jB P w H h) (k:∀b u,h.get? b=some u->h'.get? b=some u) (hp:h.objs.size<=a) (new:bu P w (a_ H a o) h' a o):jB P w (a_ H a o) h':=λb u e=>by
 have hn:=x.fresh hp
 by_cases hb:b=a
 ·subst hb;rw[aq]at e;cases e;exact new
 ·rw[au hb]at e
  exact(x b u e).stay (λc v _ q=>k c v q) (λc q=>by rw[au (cc q hn)];exact q) λc xs q=>by rw[au (cc q hn)];exact q
end
def Rd (H:Hp) (a:KZ) (u:HO):Prop:=H a=some u\/∃o,H a=some (.frz o u)
theorem Rd.ok {P:Lb} {w:Ll} {H:Hp} {h:Lj} {a:KZ} {u:HO} (r:Rd H a u) (x:jB P w H h):bu P w H h a u:=by
 rcases r with r|⟨o,r⟩
 ·exact x a u r
 ·obtain⟨_,q⟩:=x a _ r
  exact q
def He:Option HO->Prop
 |some (.lst _)=>True
 |some (.dK _)=>True
 |some (.dT _)=>True
 |some (.set _ _)=>True
 |some (.ins _ _ _)=>True
 |some (.ext _)=>True
 |_=>False
section
variable {P:Lb} {w:Ll} {H:Hp} {h h':Lj} {x e:KZ} {o':HO}
theorem jB.write (ok:jB P w H h) (mu:He (H x)) (he:e=x\/H e=some (.own x)) (k:∀b u,b≠e->h.get? b=some u->h'.get? b=some u) (Xp:∃u,h'.get? e=some u)
  (new:bu P w (a_ H x o') h' x o'):jB P w (a_ H x o') h':=λb u q=>by
 have XI:∀c y,H c=some (.own y)->c≠x:=λc y r z=>by subst z;rw[r]at mu;exact mu
 have YS:∀c xs,H c=some (.tup xs)->c≠x:=λc xs r z=>by subst z;rw[r]at mu;exact mu
 by_cases hb:b=x
 ·subst hb;rw[aq]at q;cases q;exact new
 ·rw[au hb]at q
  by_cases WC:b=e
  ·have q':H b=some (.own x):=by
    rcases he with z|z
    ·exact absurd (WC.trans z) hb
    ·rw[WC];exact z
   rw[q]at q';cases q'
   obtain⟨v,hv⟩:=Xp
   exact⟨v,by rw[WC];exact hv⟩
  ·refine(ok b u q).stay (λc v hc r=>k c v ?_ r) (λc r=>by rw[au (XI c b r)];exact r) λc xs r=>by rw[au (YS c xs r)];exact r
   rcases hc with rfl|hc
   ·exact WC
   ·rintro rfl
    rcases he with z|z
    ·exact XI c b hc z
    ·rw[hc]at z;cases z;exact hb rfl
end
structure Un (fs ex:List KZ) (H H':Hp) (h h':Lj):Prop where
 keep:∀b o,h.get? b=some o->H b=none->b∉fs->b∉ex->h'.get? b=some o
 slot:∀b o,h.get? b=some o->H b=none->b∈fs->b∉ex->∃sl,h'.get? b=some {o with slots:=sl}
 free:∀b o,h.get? b=some o->H b=none->b∉ex->H' b=none
 there:∀b o,h.get? b=some o->b∉ex->∃o',h'.get? b=some o'
 tups:∀b xs,H b=some (.tup xs)->H' b=some (.tup xs)
 frzs:∀b o u,H b=some (.frz o u)->H' b=some (.frz o u)
 tbls:∀b ps,H b=some (.tbl ps)->∃more,H' b=some (.tbl (ps++more))
section
variable {fs Wo ex a3a:List KZ} {H H1 H2:Hp} {h h1 h2 h':Lj} {a x e:KZ} {o:HO}
theorem Un.any (u:Un fs ex H H1 h h1) {b:KZ} {ob:LG} (q:h.get? b=some ob) (n:H b=none) (hx:b∉ex):∃sl,h1.get? b=some {ob with slots:=sl}:=by
 by_cases hb:b∈fs
 ·exact u.slot b ob q n hb hx
 ·exact⟨ob.slots,u.keep b ob q n hb hx⟩
theorem Un.trans (a:Un fs ex H H1 h h1) (b:Un fs ex H1 H2 h1 h2):Un fs ex H H2 h h2 where
 keep:=λc ob q n hc hx=>b.keep c ob (a.keep c ob q n hc hx) (a.free c ob q n hx) hc hx
 slot:=λc ob q n hc hx=>by
  obtain⟨sl,e1⟩:=a.slot c ob q n hc hx
  obtain⟨Wq,e2⟩:=b.slot c _ e1 (a.free c ob q n hx) hc hx
  exact⟨Wq,e2⟩
 free:=λc ob q n hx=>by
  obtain⟨o',e1⟩:=a.there c ob q hx
  exact b.free c o' e1 (a.free c ob q n hx) hx
 there:=λc ob q hx=>by
  obtain⟨o',e1⟩:=a.there c ob q hx
  exact b.there c o' e1 hx
 tups:=λc xs q=>b.tups c xs (a.tups c xs q)
 frzs:=λc ob xs q=>b.frzs c ob xs (a.frzs c ob xs q)
 tbls:=λc ps q=>by
  obtain⟨m1,e1⟩:=a.tbls c ps q
  obtain⟨m2,e2⟩:=b.tbls c _ e1
  exact⟨m1++m2,by rw[e2,RE]⟩
theorem Un.kept (k:∀b u,h.get? b=some u->h'.get? b=some u):Un fs ex H H h h':=
 ⟨λb ob q _ _ _=>k b ob q,λb ob q _ _ _=>⟨ob.slots,k b ob q⟩,λ_ _ _ n _=>n,λb ob q _=>⟨ob,k b ob q⟩,λ_ _ q=>q,λ_ _ _ q=>q,λ_ ps q=>⟨#[],by rw[q];simp⟩⟩
theorem Un.refl:Un fs ex H H h h:=Un.kept λ_ _ q=>q
theorem Un.laid (k:∀b u,h.get? b=some u->h'.get? b=some u) (hp:h.objs.size<=a) (hn:H a=none):Un fs ex H (a_ H a o) h h' where
 keep:=λb u q _ _ _=>k b u q
 slot:=λb u q _ _ _=>⟨u.slots,k b u q⟩
 free:=λb u q n _=>by rw[au (Lu (LJ (Lg q) hp))];exact n
 there:=λb u q _=>⟨u,k b u q⟩
 tups:=λb xs q=>by rw[au (cc q hn)];exact q
 frzs:=λb u xs q=>by rw[au (cc q hn)];exact q
 tbls:=λb ps q=>⟨#[],by rw[au (cc q hn),q];simp⟩
theorem Un.write (mu:He (H x)) (he:e=x\/H e=some (.own x)) (k:∀b u,b≠e->h.get? b=some u->h'.get? b=some u) (Xp:∃u,h'.get? e=some u):Un fs ex H (a_ H x o) h h':=by
 have hx:∀b,H b=none->b≠x:=λb n z=>by subst z;rw[n]at mu;exact mu
 have hb:∀b,H b=none->b≠e:=λb n z=>by
  subst z
  rcases he with r|r
  ·exact hx b n r
  ·rw[n]at r;cases r
 have hm:∀b u,H b=some u->¬He (some u)->b≠x:=λb u q nm z=>by subst z;rw[q]at mu;exact nm mu
 refine⟨λb u q n _ _=>k b u (hb b n) q,λb u q n _ _=>⟨u.slots,k b u (hb b n) q⟩,λb u q n _=>by rw[au (hx b n)];exact n,λb u q _=> ?_,
  λb xs q=>by rw[au (hm b _ q λz=>z)];exact q,λb u xs q=>by rw[au (hm b _ q λz=>z)];exact q,λb ps q=>⟨#[],by rw[au (hm b _ q λz=>z),q];simp⟩⟩
 by_cases WC:b=e
 ·subst WC;exact Xp
 ·exact⟨u,k b u WC q⟩
end
def J7 (h:Lj) (H:Hp):List KZ:=(LU h.objs.size).filter λa=>(H a).isSome
def rM (h:Lj) (H:Hp):Lj:=Sw h (J7 h H)
theorem xy (h:Lj) (H:Hp):(rM h H).objs.size=h.objs.size:=PySem.W.hideAll_size _ _
theorem zf {h:Lj} {H:Hp} {b:KZ} {o:LG} (e:h.get? b=some o) (n:H b=none):(rM h H).get? b=some o:=
 P7 _ e λhm=>by
  have q:(H b).isSome=true:=(Lv.mp hm).2
  rw[n]at q;simp at q
theorem BZ {h:Lj} {H:Hp} {b:KZ} {o:LG} (e:(rM h H).get? b=some o):h.get? b=some o/\H b=none:=by
 have e':h.get? b=some o:=RF (J7 h H) e
 refine⟨e',?_⟩
 cases q:H b with
 |none=>rfl
 |some x=>
  have hm:b∈J7 h H:=Lv.mpr ⟨M0.mpr (Lg e'),by simp[q]⟩
  have z:(rM h H).get? b=none:=OS (J7 h H) hm
  rw[z]at e;cases e
def B_ (g h:Lj) (L:KZ):List (KZ×LG):=(LU h.objs.size).filterMap λa=>if a=L\/(g.get? a).isSome=true then none else (h.get? a).map λo=>(a,o)
def rest (g h:Lj) (L d:KZ):List (KZ×LG):=(B_ g h L).filter λp=>decide (p.1≠d)
end L2
namespace L2
open PySem PySem.Spec PyProof.Rows
structure Mod (K:KU) (mg:L0->Option KW) (base:Lj):Prop where
 kin:K.In base
 glob:base.Ns Lp mg
 blt:∃mb,base.Ns Sx mb/\∀x:L0,x≠"__name__"->mb x=LK x
 nolimit:base.NoLimit
structure Cx where
 prog:Lb
 w:Ll
 K:KU
 mg:L0->Option KW
 base:Lj
 A:LD
 N:List L0
 s₀:KY
 H₀:Hp
 env:MU
 outer:List MU
 stack:List MU
 ex:List KZ
 fn:L0->Bool
 calm:Bool
 pn:List (KZ×LG)
 xe:KW->KY->Prop
def ol (l:List MU):List KZ:=l.filterMap (·.frame)
abbrev Cx.fs (X:Cx):List KZ:=ol X.outer
def t4 (sc:MO) (x:L0):Prop:=sc.names.lookup x=some .local\/sc.names.lookup x=some .cell\/sc.names.lookup x=some .free
def uS (sc:MO) (x:L0):Prop:=sc.names.lookup x=some .local\/sc.names.lookup x=some .cell
def Jo (env:MU) (h:Lj) (m:L0->Option KW) (x:L0) (u:KW):Prop:=
 (env.kindOf x=some .local/\m x=some u)\/((env.kindOf x=some .cell\/env.kindOf x=some .free)/\∃c,env.cells.lookup x=some c/\h.IsCell c (some u))
structure Cx.Ok (X:Cx):Prop where
 mod:Mod X.K X.mg X.base
 kind:X.env.scope.kind= .function
 glob:X.env.globals=Lp
 blt:X.env.builtins=Sx
 above:X.s₀.heap.objs.size<=X.env.locals
 inj:∀x y c,X.env.cells.lookup x=some c->X.env.cells.lookup y=some c->x=y
 has:∀x,(X.env.kindOf x=some .cell\/X.env.kindOf x=some .free)->∃c,X.env.cells.lookup x=some c
 cab:∀x c,X.fn x=true->X.env.cells.lookup x=some c->X.s₀.heap.objs.size<=c
 hd:X.calm=true->X.A.handled=none
 frames:X.A.frames=some X.stack
 stk:X.stack=X.outer\/(X.stack=X.env::X.outer/\X.env.frame=some X.env.locals)
 exf:∀b∈X.ex,b≠X.env.locals/\∀x c,X.env.cells.lookup x=some c->c≠b
 bs:∀b o,X.base.get? b=some o->X.s₀.heap.get? b=some o/\X.H₀ b=none
 bsz:X.base.objs.size<=X.s₀.heap.objs.size
 noex:∀b o,X.base.get? b=some o->b∉X.ex
 exfs:∀b∈X.ex,b∉X.fs
 funs:X.s₀.heap.FunFrames X.base X.outer
 frf:∀b∈X.fs,X.H₀ b=none
structure aw (X:Cx) (Tc:List (KZ×LG)) (σ:List (Option V)) (H:Hp) (s:KY):Prop where
 ok:X.Ok
 os:s.os=X.s₀.os
 bare:Oj s.gens
 base:Un X.fs X.ex X.H₀ H X.s₀.heap s.heap
 loc:∃m,s.heap.Ns X.env.locals m/\∀(i:Nat) (x:L0) (v:V),X.N[i]? =some x->σ[i]? =some (some v)->t4 X.env.scope x->∃u,aT v u/\Jo X.env s.heap m x u
 cell:∀x c,X.env.cells.lookup x=some c->∃v,s.heap.IsCell c v
 free:H X.env.locals=none
 freeC:∀x c,X.env.cells.lookup x=some c->H c=none
 pin:∀p∈X.pn++Tc,s.heap.get? p.1=some p.2/\H p.1=none/\p.1≠X.env.locals/\p.1∉X.fs/\∀v,p.2.data≠ .cell v
 hok:jB X.prog X.w H s.heap
 len:σ.length=X.N.length
section
variable {X:Cx} {Tc:List (KZ×LG)} {σ:List (Option V)} {H H':Hp} {s:KY} {h':Lj}
theorem Cx.Ok.nofr (ok:X.Ok) {b:KZ} {o:LG} (e:X.base.get? b=some o):b∉X.fs:=λhb=>by
 have:=(ok.funs.mem hb).1
 rw[e]at this;cases this
theorem aw.bs (I:aw X Tc σ H s):∀b o,X.base.get? b=some o->s.heap.get? b=some o/\H b=none:=λb o e=>
 ⟨I.base.keep b o (I.ok.bs b o e).1 (I.ok.bs b o e).2 (I.ok.nofr e) (I.ok.noex b o e),I.base.free b o (I.ok.bs b o e).1 (I.ok.bs b o e).2 (I.ok.noex b o e)⟩
theorem aw.bk (I:aw X Tc σ H s):∀b o,X.base.get? b=some o->s.heap.get? b=some o:=λb o e=>(I.bs b o e).1
theorem aw.mod (I:aw X Tc σ H s):Mod X.K X.mg X.base:=I.ok.mod
theorem aw.kIn (I:aw X Tc σ H s):X.K.In s.heap:=I.ok.mod.kin.keeps I.bk
theorem aw.lt (I:aw X Tc σ H s):X.env.locals<s.heap.objs.size:=let ⟨_,hn,_⟩:=I.loc;hn.lt
theorem aw.sz (I:aw X Tc σ H s):X.s₀.heap.objs.size<=s.heap.objs.size:=LL I.ok.above (Nw I.lt)
theorem aw.nofs (I:aw X Tc σ H s) {a:KZ} (h:s.heap.objs.size<=a):a∉X.fs:=λhb=>by
 obtain⟨_,o,ho,_⟩:=I.ok.funs.mem hb
 exact absurd (LJ (Lg ho) (LL I.sz h)) (LI _)
theorem aw.cne (I:aw X Tc σ H s):∀x c,X.env.cells.lookup x=some c->c≠X.env.locals:=λx c e z=>by
 obtain⟨v,o,ho,hd⟩:=I.cell x c e
 obtain⟨m,⟨o',es,ep,VF,XJ,_⟩,_⟩:=I.loc
 rw[z,VF]at ho;cases ho;rw[XJ]at hd;cases hd
theorem aw.funs (I:aw X Tc σ H s):s.heap.FunFrames X.base X.outer:=by
 have all:∀(l:List MU),(∀b∈ol l,b∈X.fs)->X.s₀.heap.FunFrames X.base l->s.heap.FunFrames X.base l:=by
  intro l
  induction l with
  |nil=>intro _ _;trivial
  |cons env r ih=>
   intro hs hl
   obtain⟨hk,⟨L,o,hf,hn,ho,hd⟩,hr⟩:=hl
   have hL:L∈X.fs:=hs L (by unfold ol;rw[N8,hf];exact L8)
   obtain⟨sl,e⟩:=I.base.slot L o ho (I.ok.frf L hL) hL λz=>I.ok.exfs L z hL
   exact⟨hk,⟨L,_,hf,hn,e,hd⟩,ih (λb hb=>hs b (by unfold ol;rw[N8,hf];exact L7 _ hb)) hr⟩
 exact all X.outer (λ_ hb=>hb) I.ok.funs
theorem aw.stack (I:aw X Tc σ H s):s.heap.FunFrames X.base X.stack:=by
 rcases I.ok.stk with e|⟨e,hf⟩
 ·rw[e];exact I.funs
 ·rw[e]
  obtain⟨m,hn,_⟩:=I.loc
  refine .cons (by rw[I.ok.kind];decide) hf hn ?_ I.funs
  exact NW (LL I.ok.bsz I.ok.above)
theorem aw.stkSub (I:aw X Tc σ H s):∀b∈ol X.stack,b∈X.env.locals::X.fs:=λb hb=>by
 rcases I.ok.stk with e|⟨e,hf⟩
 ·rw[e]at hb;exact L7 _ hb
 ·rw[e]at hb
  unfold ol at hb
  rw[N8,hf]at hb
  exact hb
theorem aw.stkFree (I:aw X Tc σ H s):∀b∈ol X.stack,H b=none:=λb hb=>by
 rcases Le.mp (I.stkSub b hb)with e|hb
 ·rw[e];exact I.free
 ·obtain⟨_,o,ho,_⟩:=I.ok.funs.mem hb
  exact I.base.free b o ho (I.ok.frf b hb) λz=>I.ok.exfs b z hb
theorem aw.step {g':Array Q3} {t':Nat} {d':Drawn} {ch:List KZ} (I:aw X Tc σ H s)
  (VL:∀b∈ch,(b∈X.ex\/X.s₀.heap.get? b=none)/\b≠X.env.locals/\(∀x c,X.env.cells.lookup x=some c->c≠b)/\∀p∈X.pn++Tc,p.1≠b)
  (keep:∀b o,b≠X.env.locals->b∉X.fs->b∉ch->s.heap.get? b=some o->H b=none->h'.get? b=some o)
  (slot:∀b o,b≠X.env.locals->b∈X.fs->b∉ch->s.heap.get? b=some o->H b=none->∃sl,h'.get? b=some {o with slots:=sl}) (free:∀b o,b∉ch->s.heap.get? b=some o->H b=none->H' b=none)
  (there:∀b o,b∉ch->s.heap.get? b=some o->∃o',h'.get? b=some o')
  (tups:∀b xs,H b=some (.tup xs)->H' b=some (.tup xs)) (frzs:∀b o u,H b=some (.frz o u)->H' b=some (.frz o u)) (tbls:∀b ps,H b=some (.tbl ps)->∃more,H' b=some (.tbl (ps++more)))
  (ns:∀m,s.heap.Ns X.env.locals m->h'.Ns X.env.locals m) (hok:jB X.prog X.w H' h') (hg:Oj g'):
  aw X Tc σ H' {s with heap:=h',gens:=g',drawn:=d',toks:=t'}:=by
 have a0a:∀b o,X.s₀.heap.get? b=some o->b≠X.env.locals:=λb o e=>Lu (LJ (Lg e) I.ok.above)
 have YB:∀b o,X.s₀.heap.get? b=some o->b∉X.ex->b∉ch:=λb o e hx hb=>by
  rcases(VL b hb).1 with z|z
  ·exact hx z
  ·rw[e]at z;cases z
 have Wr:∀x c,X.env.cells.lookup x=some c->∀v,s.heap.IsCell c v->h'.IsCell c v:=λx c e v ⟨o,ho,hd⟩=>by
  have XM:c∉ch:=λz=>(VL c z).2.2.1 x c e rfl
  by_cases hc:c∈X.fs
  ·obtain⟨sl,q⟩:=slot c o (I.cne x c e) hc XM ho (I.freeC x c e)
   exact⟨_,q,hd⟩
  ·exact⟨o,keep c o (I.cne x c e) hc XM ho (I.freeC x c e),hd⟩
 refine⟨I.ok,I.os,hg,⟨λb o e n hb hx=> ?_,λb o e n hb hx=> ?_,λb o e n hx=> ?_,λb o e hx=> ?_,λb xs e=>tups b xs (I.base.tups b xs e),λb o xs e=>frzs b o xs (I.base.frzs b o xs e),λb ps e=> ?_⟩,?_,λx c e=> ?_,?_,λx c e=> ?_,λp hp=> ?_,hok,I.len⟩
 ·exact keep b o (a0a b o e) hb (YB b o e hx) (I.base.keep b o e n hb hx) (I.base.free b o e n hx)
 ·obtain⟨sl,e1⟩:=I.base.slot b o e n hb hx
  obtain⟨Wq,e2⟩:=slot b _ (a0a b o e) hb (YB b o e hx) e1 (I.base.free b o e n hx)
  exact⟨Wq,e2⟩
 ·obtain⟨o',e1⟩:=I.base.there b o e hx
  exact free b o' (YB b o e hx) e1 (I.base.free b o e n hx)
 ·obtain⟨o',e1⟩:=I.base.there b o e hx
  exact there b o' (YB b o e hx) e1
 ·obtain⟨m1,e1⟩:=I.base.tbls b ps e
  obtain⟨m2,e2⟩:=tbls b _ e1
  exact⟨m1++m2,by rw[e2,RE]⟩
 ·obtain⟨m,hn,hl⟩:=I.loc
  refine⟨m,ns m hn,λi x v e1 e2 e3=> ?_⟩
  obtain⟨u,r,l⟩:=hl i x v e1 e2 e3
  refine⟨u,r,?_⟩
  rcases l with l|⟨k,c,e,z⟩
  ·exact .inl l
  ·exact .inr ⟨k,c,e,Wr x c e _ z⟩
 ·obtain⟨v,z⟩:=I.cell x c e
  exact⟨v,Wr x c e v z⟩
 ·obtain⟨m,⟨o,_,_,ho,_⟩,_⟩:=I.loc
  exact free _ o (λz=>(VL _ z).2.1 rfl) ho I.free
 ·obtain⟨v,o,ho,hd⟩:=I.cell x c e
  exact free c o (λz=>(VL c z).2.2.1 x c e rfl) ho (I.freeC x c e)
 ·obtain⟨e,n,ne,nf,d⟩:=I.pin p hp
  have XM:p.1∉ch:=λz=>(VL p.1 z).2.2.2 p hp rfl
  exact⟨keep p.1 p.2 ne nf XM e n,free p.1 p.2 XM e n,ne,nf,d⟩
theorem aw.un {t':Nat} (I:aw X Tc σ H s) (u:Un X.fs [] H H' s.heap h') (hok:jB X.prog X.w H' h'):aw X Tc σ H' {s with heap:=h',toks:=t'}:=by
 obtain⟨m,⟨o,es,ep,ho,r⟩,_⟩:=id I.loc
 obtain⟨sl,hL⟩:=u.any ho I.free (by simp)
 exact I.step (g':=s.gens) (d':=s.drawn) (ch:=[]) (λ_ z=>nomatch z) (λb o _ hb _ e n=>u.keep b o e n hb (by simp)) (λb o _ hb _ e n=>u.slot b o e n hb (by simp)) (λb o _ e n=>u.free b o e n (by simp)) (λb o _ e=>u.there b o e (by simp)) u.tups u.frzs u.tbls (λm' hm=>by
  obtain⟨o',XN,YT,VF,r'⟩:=hm
  rw[ho]at VF;cases VF
  exact⟨_,XN,YT,hL,r'⟩) hok I.bare
theorem aw.call {g':Array Q3} {t':Nat} {d':Drawn} {ch:List KZ} (I:aw X Tc σ H s) (u:Un (ol X.stack) ch H H' s.heap h') (hok:jB X.prog X.w H' h') (hg:Oj g')
  (VL:∀b∈ch,(b∈X.ex\/X.s₀.heap.objs.size<=b)/\b≠X.env.locals/\(∀x c,X.env.cells.lookup x=some c->c≠b)/\∀p∈X.pn++Tc,p.1≠b):
  aw X Tc σ H' {s with heap:=h',gens:=g',drawn:=d',toks:=t'}:=by
 obtain⟨m,⟨o,es,ep,ho,r⟩,_⟩:=id I.loc
 obtain⟨sl,hL⟩:=u.any ho I.free λz=>(VL _ z).2.1 rfl
 exact I.step (ch:=ch) (λb hb=>⟨(VL b hb).1.imp id NW,(VL b hb).2⟩) (λb o hL hb hc e n=>u.keep b o e n (λz=>(Le.mp (I.stkSub b z)).elim hL hb) hc) (λb o _ _ hc e n=>u.any e n hc) (λb o hc e n=>u.free b o e n hc) (λb o hc e=>u.there b o e hc) u.tups u.frzs u.tbls (λm' hm=>by
  obtain⟨o',XN,YT,VF,r'⟩:=hm
  rw[ho]at VF;cases VF
  exact⟨_,XN,YT,hL,r'⟩) hok hg
theorem aw.turned {t':Nat} {it:KZ} (I:aw X Tc σ H s) (k:∀b o,b≠it->s.heap.get? b=some o->h'.get? b=some o) (hn:H it=none) (hL:it≠X.env.locals)
  (h1:it∈X.ex\/X.s₀.heap.objs.size<=it) (h2:∀x c,X.env.cells.lookup x=some c->c≠it) (h3:∀p∈X.pn++Tc,p.1≠it):aw X Tc σ H {s with heap:=h',toks:=t'}:=by
 have a0b:∀b u,H b=some u->b≠it:=λb u e z=>by rw[z,hn]at e;cases e
 refine I.step (g':=s.gens) (d':=s.drawn) (ch:=[it]) (λb hb=> ?_) (λb o _ _ hc e _=>k b o (λz=>hc (by simp[z])) e) (λb o _ _ hc e _=>⟨o.slots,k b o (λz=>hc (by simp[z])) e⟩) (λ_ _ _ _ n=>n)
  (λb o hc e=>⟨o,k b o (λz=>hc (by simp[z])) e⟩) (λ_ _ e=>e) (λ_ _ _ e=>e) (λb ps e=>⟨#[],by rw[e];simp⟩) (λm hm=> ?_) (λb u e=> ?_) I.bare
 ·have e:b=it:=by simpa using hb
  subst e
  exact⟨h1.imp id NW,hL,h2,h3⟩
 ·obtain⟨o,es,ep,ho,r⟩:=hm
  exact⟨o,es,ep,k _ o (MG hL) ho,r⟩
 ·refine(I.hok b u e).stay (λc v hc q=>k c v ?_ q) (λ_ q=>q) λ_ _ q=>q
  rcases hc with z|z
  ·rw[z];exact a0b b u e
  ·exact a0b c _ z
theorem aw.tok (I:aw X Tc σ H s) (t:Nat):aw X Tc σ H {s with toks:=t}:=I.un (h':=s.heap) (t':=t) Un.refl I.hok
theorem aw.kept {t':Nat} (I:aw X Tc σ H s) (k:∀b u,s.heap.get? b=some u->h'.get? b=some u):aw X Tc σ H {s with heap:=h',toks:=t'}:=I.un (Un.kept k) (I.hok.kept k)
theorem aw.laid {a:KZ} {o:HO} {t':Nat} (I:aw X Tc σ H s) (k:∀b u,s.heap.get? b=some u->h'.get? b=some u) (hp:s.heap.objs.size<=a) (new:bu X.prog X.w (a_ H a o) h' a o):
  aw X Tc σ (a_ H a o) {s with heap:=h',toks:=t'}:=I.un (Un.laid k hp (I.hok.fresh hp)) (I.hok.laid k hp new)
theorem aw.write {x e:KZ} {o:HO} {t':Nat} (I:aw X Tc σ H s) (mu:He (H x)) (he:e=x\/H e=some (.own x)) (k:∀b u,b≠e->s.heap.get? b=some u->h'.get? b=some u) (Xp:∃u,h'.get? e=some u)
  (new:bu X.prog X.w (a_ H x o) h' x o):aw X Tc σ (a_ H x o) {s with heap:=h',toks:=t'}:=I.un (Un.write mu he k Xp) (I.hok.write mu he k Xp new)
theorem aw.pins_of {TZ:List (KZ×LG)} (I:aw X Tc σ H s) (h:∀p∈TZ,s.heap.get? p.1=some p.2/\H p.1=none/\p.1≠X.env.locals/\p.1∉X.fs/\∀v,p.2.data≠ .cell v):aw X TZ σ H s:=
 ⟨I.ok,I.os,I.bare,I.base,I.loc,I.cell,I.free,I.freeC,λp hp=>(LR.mp hp).elim (λz=>I.pin p (LS _ z)) (h p),I.hok,I.len⟩
theorem t5 {N:List L0} (hN:N.Nodup) {i j:Nat} {x:L0} (a:N[i]? =some x) (b:N[j]? =some x):i=j:=by
 obtain⟨h1,e1⟩:=Lx.mp a
 obtain⟨h2,e2⟩:=Lx.mp b
 exact(OI hN).mp (e1.trans e2.symm)
theorem xz {M:Sy} {A:LD} {E:KW->KY->Prop} {i:Nat} {x:L0} {v:V} {u:KW} {Q:Unit->KY->Prop} (I:aw X Tc σ H s) (hN:X.N.Nodup) (hi:X.N[i]? =some x) (hx:uS X.env.scope x) (r:aT v u)
  (h:∀s',aw X Tc (σ.set i (some v)) H s'->(∃a,Nx a s.heap s'.heap/\(a=X.env.locals\/X.env.cells.lookup x=some a))->Q () s') (hf:X.fn x=true\/X.env.scope.names.lookup x=some .local:=by first|exact .inl rfl|exact .inr rfl|assumption):wpAny M A (storeName X.env x u) Q E s:=by
 obtain⟨m,hn,hl⟩:=id I.loc
 have YU:(X.env.scope.kind== .class||(X.env.scope.kind== .module&&X.env.locals != X.env.globals))=false:=by rw[I.ok.kind];rfl
 have a0c:i<σ.length:=by rw[I.len];exact(Lx.mp hi).1
 have cne:=I.cne
 have Vj:∀{a:KZ} {h':Lj},(∃o,s.heap.get? a=some o/\H a=none)->Nx a s.heap h'->jB X.prog X.w H h':=λ{a h'} ha hs b ob e=>by
  obtain⟨_,_,Ws⟩:=ha
  refine(I.hok b ob e).stay (λc w' hc q=>(hs.2 c ?_).trans q) (λ_ q=>q) λ_ _ q=>q
  rintro rfl
  rcases hc with rfl|hc
  ·rw[Ws]at e;cases e
  ·rw[Ws]at hc;cases hc
 rcases hx with hk|hk
 ·refine wpAny_storeName_local hk hn (λh' a13 hs=> ?_) YU
  obtain⟨oL,_,_,Vr,_⟩:=id hn
  refine h _ ⟨I.ok,I.os,I.bare,⟨λb o e n hb hx=> ?_,λb o e n hb hx=> ?_,I.base.free,λb o e hx=> ?_,I.base.tups,I.base.frzs,I.base.tbls⟩,⟨_,a13,λj y v' e1 e2 e3=> ?_⟩,λy c e=> ?_,I.free,I.freeC,λp hp=> ?_,Vj ⟨oL,Vr,I.free⟩ hs,by simpa using I.len⟩ ⟨_,hs, .inl rfl⟩
  ·exact(hs.2 b (Lu (LJ (Lg e) I.ok.above))).trans (I.base.keep b o e n hb hx)
  ·obtain⟨sl,e1⟩:=I.base.slot b o e n hb hx
   exact⟨sl,(hs.2 b (Lu (LJ (Lg e) I.ok.above))).trans e1⟩
  ·obtain⟨o',e1⟩:=I.base.there b o e hx
   exact⟨o',(hs.2 b (Lu (LJ (Lg e) I.ok.above))).trans e1⟩
  ·by_cases hj:j=i
   ·subst hj
    rw[hi]at e1;cases e1
    rw[QF a0c]at e2
    cases e2
    exact⟨u,r, .inl ⟨hk,by simp⟩⟩
   ·rw[R4 (MG hj)]at e2
    obtain⟨u',r',q⟩:=hl j y v' e1 e2 e3
    refine⟨u',r',?_⟩
    rcases q with ⟨k,e⟩|⟨k,c,e,z⟩
    ·refine .inl ⟨k,?_⟩
     have:y≠x:=λe=>hj (t5 hN e1 (e▸hi))
     simp[this,e]
    ·exact .inr ⟨k,c,e,z.sameBut hs (cne y c e)⟩
  ·obtain⟨w',z⟩:=I.cell y c e
   exact⟨w',z.sameBut hs (cne y c e)⟩
  ·obtain⟨e,n,ne,nf,d⟩:=I.pin p hp
   exact⟨(hs.2 p.1 ne).trans e,n,ne,nf,d⟩
 ·have YV:X.fn x=true:=by
   rcases hf with z|z
   ·exact z
   ·rw[z]at hk;cases hk
  obtain⟨c,hc⟩:=I.ok.has x (.inl hk)
  obtain⟨w',z⟩:=I.cell x c hc
  refine wpAny_storeName_cell I.ok.kind hk hc z (λh' a0d hs=> ?_)
  obtain⟨oc,a0e,YW⟩:=id z
  refine h {s with heap:=h'} ⟨I.ok,I.os,I.bare,⟨λb o e n hb hx=> ?_,λb o e n hb hx=> ?_,I.base.free,λb o e hx=> ?_,I.base.tups,I.base.frzs,I.base.tbls⟩,⟨m,hn.sameBut hs (MG (cne x c hc)),λj y v' e1 e2 e3=> ?_⟩,λy c' e=> ?_,I.free,I.freeC,λp hp=> ?_,Vj ⟨oc,a0e,I.freeC x c hc⟩ hs,by simpa using I.len⟩ ⟨c,hs, .inr hc⟩
  ·exact(hs.2 b (Lu (LJ (Lg e) (I.ok.cab x c YV hc)))).trans (I.base.keep b o e n hb hx)
  ·obtain⟨sl,e1⟩:=I.base.slot b o e n hb hx
   exact⟨sl,(hs.2 b (Lu (LJ (Lg e) (I.ok.cab x c YV hc)))).trans e1⟩
  ·obtain⟨o',e1⟩:=I.base.there b o e hx
   exact⟨o',(hs.2 b (Lu (LJ (Lg e) (I.ok.cab x c YV hc)))).trans e1⟩
  ·by_cases hj:j=i
   ·subst hj
    rw[hi]at e1;cases e1
    rw[QF a0c]at e2
    cases e2
    exact⟨u,r, .inr ⟨.inl hk,c,hc,a0d⟩⟩
   ·rw[R4 (MG hj)]at e2
    obtain⟨u',r',q⟩:=hl j y v' e1 e2 e3
    refine⟨u',r',?_⟩
    rcases q with q|⟨k,c',e,z'⟩
    ·exact .inl q
    ·refine .inr ⟨k,c',e,z'.sameBut hs ?_⟩
     rintro rfl
     exact hj (t5 hN e1 (I.ok.inj _ _ _ e hc▸hi))
  ·by_cases a0f:c'=c
   ·subst a0f;exact⟨_,a0d⟩
   ·obtain⟨w2,z2⟩:=I.cell y c' e
    exact⟨w2,z2.sameBut hs a0f⟩
  ·obtain⟨e,n,ne,nf,d⟩:=I.pin p hp
   refine⟨(hs.2 p.1 ?_).trans e,n,ne,nf,d⟩
   intro q
   rw[q,a0e]at e
   have q':oc=p.2:=Ms e
   exact d w' (by rw[<-q'];exact YW)
theorem jE {M:Sy} {A:LD} {E:KW->KY->Prop} {i:Nat} {x:L0} {v:V} {u:KW} {Q:Unit->KY->Prop} (I:aw X Tc σ H s) (hN:X.N.Nodup) (hi:X.N[i]? =some x) (hx:uS X.env.scope x) (r:aT v u)
  (h:∀s',aw X Tc (σ.set i (some v)) H s'->Q () s') (hf:X.fn x=true\/X.env.scope.names.lookup x=some .local:=by first|exact .inl rfl|exact .inr rfl|assumption):wpAny M A (storeName X.env x u) Q E s:=
 xz I hN hi hx r (λs' I' _=>h s' I') hf
theorem aw.call' {s':KY} {ch:List KZ} (I:aw X Tc σ H s) (ho:s'.os=s.os) (u:Un (ol X.stack) ch H H' s.heap s'.heap) (hok:jB X.prog X.w H' s'.heap) (hg:Oj s'.gens)
  (VL:∀b∈ch,(b∈X.ex\/X.s₀.heap.objs.size<=b)/\b≠X.env.locals/\(∀x c,X.env.cells.lookup x=some c->c≠b)/\∀p∈X.pn++Tc,p.1≠b):aw X Tc σ H' s':=by
 obtain⟨h',g',d',t',o'⟩:=s'
 have e:o'=s.os:=ho
 subst e
 exact I.call (g':=g') (t':=t') (d':=d') u hok hg VL
end
abbrev XK:=KW->Option KZ->Hp->Prop
abbrev St:=List (Option V)
abbrev VK:=V->Hp->Prop
abbrev TE:=St->Hp->VK->Prop
abbrev TT:=St->Hp->(Bool->Hp->Prop)->Prop
abbrev TA:=St->Hp->(List V->Hp->Prop)->Prop
structure mJ where
 nx:St->Hp->Prop
 rt:VK
 bk:St->Hp->Prop:=λ_ _=>False
 ct:St->Hp->Prop:=λ_ _=>False
abbrev TS:=mJ->St->Hp->Prop
def EP (X:Cx) (Tc:List (KZ×LG)) (σ:St) (Q:VK) (u:KW) (s':KY):Prop:=∃v H',aw X Tc σ H' s'/\aT v u/\Q v H'
def TP (X:Cx) (Tc:List (KZ×LG)) (σ:St) (Q:Bool->Hp->Prop) (b:Bool) (s':KY):Prop:=∃H',aw X Tc σ H' s'/\Q b H'
def AP (X:Cx) (Tc:List (KZ×LG)) (σ:St) (Q:List V->Hp->Prop) (us:List KW) (s':KY):Prop:=∃vs H',aw X Tc σ H' s'/\aK vs us/\Q vs H'
def SP (X:Cx) (Tc:List (KZ×LG)) (D:mJ) (f:Flow) (s':KY):Prop:=
 match f with
 | .next=>∃σ' H',aw X Tc σ' H' s'/\D.nx σ' H'
 | .brk=>∃σ' H',aw X Tc σ' H' s'/\D.bk σ' H'
 | .cont=>∃σ' H',aw X Tc σ' H' s'/\D.ct σ' H'
 | .ret u=>∃v σ' H',aw X Tc σ' H' s'/\aT v u/\D.rt v H'
def PE (X:Cx) (e:La) (t:TE):Prop:=
 ∀(Tc:List (KZ×LG)) (s:KY) (σ:St) (H:Hp) (Q:VK),aw X Tc σ H s->t σ H Q->wpAny (Lh X.prog X.w) X.A (Ls e X.env) (EP X Tc σ Q) X.xe s
def PT (X:Cx) (e:La) (t:TT):Prop:=
 ∀(Tc:List (KZ×LG)) (s:KY) (σ:St) (H:Hp) (Q:Bool->Hp->Prop),aw X Tc σ H s->t σ H Q->wpAny (Lh X.prog X.w) X.A (Sz e X.env (Ls e X.env)) (TP X Tc σ Q) X.xe s
def PW (X:Cx) (e:La) (t:TT):Prop:=
 ∀(Uo:NV KW) (Tc:List (KZ×LG)) (s:KY) (σ:St) (H:Hp) (Q:Bool->Hp->Prop),aw X Tc σ H s->t σ H Q->wpAny (Lh X.prog X.w) X.A (Sz e X.env Uo) (TP X Tc σ Q) X.xe s
theorem PW.pt {X:Cx} {e:La} {t:TT} (h:PW X e t):PT X e t:=h _
def PA (X:Cx) (es:List La) (t:TA):Prop:=
 ∀(pos:LF) (Tc:List (KZ×LG)) (s:KY) (σ:St) (H:Hp) (Q:List V->Hp->Prop),aw X Tc σ H s->t σ H Q->wpAny (Lh X.prog X.w) X.A (QN (LM pos (L6 es X.env))) (AP X Tc σ Q) X.xe s
def PS (X:Cx) (st:Ly) (t:TS):Prop:=
 ∀(Tc:List (KZ×LG)) (s:KY) (σ:St) (H:Hp) (D:mJ),aw X Tc σ H s->t D σ H->wpAny (Lh X.prog X.w) X.A (exec st X.env) (SP X Tc D) X.xe s
def qe (X:Cx) (st:List Ly) (t:TS):Prop:=
 ∀(Tc:List (KZ×LG)) (s:KY) (σ:St) (H:Hp) (D:mJ),aw X Tc σ H s->t D σ H->wpAny (Lh X.prog X.w) X.A (execs st X.env) (SP X Tc D) X.xe s
theorem bq {α:Type} {t:NV α} {Q Q':α->KY->Prop} {M:Sy} {A:LD} {E:KW->KY->Prop} {s:KY} (h:wpAny M A t Q E s) (hQ:∀a s,Q a s->Q' a s):wpAny M A t Q' E s:=M8 h hQ λ_ _ x=>x
end L2
namespace L2
open PySem PySem.Spec PyProof.Rows
section
variable {X:Cx}
def C1 (i:Nat):TE:=λσ H Q=>∃v,σ[i]? =some (some v)/\Q v H
def tC (v:V):TE:=λ_ H Q=>Q v H
theorem ET {i:Nat} {x:L0} {pos:LF} (hN:X.N[i]? =some x) (hv:t4 X.env.scope x) (hd:(x==("__debug__":L0))=false:=by decide) (Ua:(x==("__classdict__":L0))=false:=by decide):PE X (.Name x pos) (C1 i):=by
 intro Tc s σ H Q I h
 obtain⟨v,e,h⟩:=h
 obtain⟨m,hn,hl⟩:=I.loc
 obtain⟨u,r,l⟩:=hl i x v hN e hv
 have U5:EP X Tc σ Q u s:=⟨v,H,I,r,h⟩
 rcases l with ⟨hk,hm⟩|⟨hk,c,hc,UK⟩
 ·exact SA (R5 I.ok.kind hk hn hm U5) hd
 ·rcases hk with hk|hk
  ·exact SA (Rw I.ok.kind hk hc UK U5) hd
  ·exact SA (wpAny_loadName_free I.ok.kind hk hc UK U5 Ua) hd
theorem zg {i j pos}:PE X (.Constant (.int i) j pos) (tC (.int i)):=λ_ _ _ H _ I h=>wpAny_Constant_int ⟨.int i,H,I.tok _,⟨_,rfl⟩,h⟩
theorem Hf {b j pos}:PE X (.Constant (.bool b) j pos) (tC (.bl b)):=λ_ _ _ H _ I h=>Constant_bool ⟨.bl b,H,I,rfl,h⟩
theorem EU {j pos}:PE X (.Constant .none j pos) (tC .non):=λ_ _ _ H _ I h=>Constant_none ⟨.non,H,I,rfl,h⟩
theorem EV {x j pos}:PE X (.Constant (.str x) j pos) (tC (.str x)):=λ_ _ _ H _ I h=>Calls.Constant_str ⟨.str x,H,I.tok _,⟨_,rfl⟩,h⟩
def Gl (X:Cx) (x:L0):Prop:=X.env.kindOf x=some .globalImplicit
theorem om {E:KW->KY->Prop} {Tc:List (KZ×LG)} {s:KY} {σ:St} {H:Hp} {x:L0} {u:KW} {pos:LF} {Q:KW->KY->Prop} (I:aw X Tc σ H s) (hg:Gl X x) (hm:X.mg x=some u) (h:Q u s)
  (hd:(x==("__debug__":L0))=false:=by decide):wpAny (Lh X.prog X.w) X.A (Ls (.Name x pos) X.env) Q E s:=
 Pq I.ok.kind hg (Calls.loadGlobal_global (by rw[I.ok.glob];exact I.mod.glob.keeps I.bk) hm h) hd
theorem gT {E:KW->KY->Prop} {Tc:List (KZ×LG)} {s:KY} {σ:St} {H:Hp} {x:L0} {u:KW} {pos:LF} {Q:KW->KY->Prop} (I:aw X Tc σ H s) (hg:Gl X x) (hm:X.mg x=none) (hv:LK x=some u) (h:Q u s)
  (hn:x≠"__name__":=by decide) (hd:(x==("__debug__":L0))=false:=by decide):wpAny (Lh X.prog X.w) X.A (Ls (.Name x pos) X.env) Q E s:=by
 obtain⟨mb,h1,h2⟩:=I.mod.blt
 exact Pq I.ok.kind hg (Calls.loadGlobal_builtin (by rw[I.ok.glob];exact I.mod.glob.keeps I.bk) hm (by rw[I.ok.blt];exact h1.keeps I.bk) ((h2 x hn).trans hv) h) hd
theorem C2 {x:L0} {v:V} {u:KW} {pos:LF} (hg:Gl X x) (hm:X.mg x=some u) (r:aT v u) (hd:(x==("__debug__":L0))=false:=by decide):PE X (.Name x pos) (tC v):=
 λ_ _ _ H _ I h=>om I hg hm ⟨v,H,I,r,h⟩ hd
theorem C3 {x:L0} {v:V} {u:KW} {pos:LF} (hg:Gl X x) (hm:X.mg x=none) (hv:LK x=some u) (r:aT v u) (hn:x≠"__name__":=by decide) (hd:(x==("__debug__":L0))=false:=by decide):PE X (.Name x pos) (tC v):=
 λ_ _ _ H _ I h=>gT I hg hm hv ⟨v,H,I,r,h⟩ hn hd
variable {a b:La} {ta tb:TE} {pos:LF}
def PC (X:Cx) (op:R6) (a b:La) (t:TE):Prop:=
 ∀(Tc:List (KZ×LG)) (s:KY) (σ:St) (H:Hp) (Q:VK),aw X Tc σ H s->t σ H Q->
  wpAny (Lh X.prog X.w) X.A (Ls a X.env) (λv s₁=>wpAny (Lh X.prog X.w) X.A (Ls b X.env) (λu s₂=>wpAny (Lh X.prog X.w) X.A (MP op v u) (EP X Tc σ Q) X.xe s₂) X.xe s₁) X.xe s
def tB (t:TE):TT:=λσ H Q=>t σ H λx H1=>∃c,x= .bl c/\Q c H1
theorem EW {op:R6} {t:TE} (h:PC X op a b t) (h1:MK op b=false:=by first|exact nobehind _ (by decide) (by decide)|rfl):PE X (.Compare a [op] [b] pos) t:=λTc s σ H Q I hw=>wpAny_Compare1 (h Tc s σ H Q I hw) h1
theorem zh {op:R6} {t:TE} (h:PC X op a b t) (h1:MK op b=false:=by first|exact nobehind _ (by decide) (by decide)|rfl):PT X (.Compare a [op] [b] pos) (tB t):=by
 intro Tc s σ H Q I hw
 refine QO (bq (h Tc s σ H _ I hw) λv s1 h1=>bq h1 λu s2 h2=>bq h2 λc s3 z_=> ?_) h1
 obtain⟨x,H1,I1,r1,q1⟩:=z_
 obtain⟨d,rfl,q⟩:=q1
 cases r1
 exact Nn ⟨H1,I1,q⟩
variable {tA tB':TT} {rest:List La}
def Jp (t u:TT):TT:=λσ H Q=>t σ H λc H1=>if c=true then u σ H1 Q else Q false H1
def Kt (t u:TT):TT:=λσ H Q=>t σ H λc H1=>if c=true then Q true H1 else u σ H1 Q
def Jq (t:TT):TT:=λσ H Q=>t σ H λc H1=>Q (!c) H1
theorem C4 (ha:PT X a tA):PW X (.BoolOp .And [a] pos) tA:=by
 intro wh Tc s σ H Q I h
 refine isTrue_and (bq (ha Tc s σ H Q I h) λc s1 e=> ?_)
 cases c with
 |true=>exact isTrue_and_nil e
 |false=>exact e
theorem EX (ha:PT X a tA):PW X (.BoolOp .Or [a] pos) tA:=by
 intro wh Tc s σ H Q I h
 refine isTrue_or (bq (ha Tc s σ H Q I h) λc s1 e=> ?_)
 cases c with
 |false=>exact isTrue_or_nil e
 |true=>exact e
theorem EY (ha:PT X a tA) (hb:PW X (.BoolOp .And (b::rest) pos) tB'):PW X (.BoolOp .And (a::b::rest) pos) (Jp tA tB'):=by
 intro wh Tc s σ H Q I h
 refine isTrue_and (bq (ha Tc s σ H _ I h) λc s1 z_=> ?_)
 obtain⟨H1,I1,q1⟩:=z_
 cases c with
 |true=>exact hb wh Tc s1 σ H1 Q I1 q1
 |false=>exact⟨H1,I1,q1⟩
theorem Hg (ha:PT X a tA) (hb:PW X (.BoolOp .Or (b::rest) pos) tB'):PW X (.BoolOp .Or (a::b::rest) pos) (Kt tA tB'):=by
 intro wh Tc s σ H Q I h
 refine isTrue_or (bq (ha Tc s σ H _ I h) λc s1 z_=> ?_)
 obtain⟨H1,I1,q1⟩:=z_
 cases c with
 |true=>exact⟨H1,I1,q1⟩
 |false=>exact hb wh Tc s1 σ H1 Q I1 q1
theorem EZ (ha:PT X a tA):PT X (.UnaryOp .Not a pos) (Jq tA):=by
 intro Tc s σ H Q I h
 exact isTrue_not (ha Tc s σ H (λc H1=>Q (!c) H1) I h)
def Hh (ta tb:TE):TE:=λσ H Q=>ta σ H λx H1=>∃c,x= .bl c/\if c=true then tb σ H1 Q else Q (.bl false) H1
def Hi (ta:TE):TE:=λσ H Q=>ta σ H λx H1=>∃c,x= .bl c/\Q (.bl (!c)) H1
theorem E_ {op} {t:TE} (h:PE X a t):PE X (.BoolOp op [a] pos) t:=λTc s σ H Q I hw=>BoolOp_one (h Tc s σ H Q I hw)
theorem F7 (ha:PE X a ta) (hb:PE X (.BoolOp .And (b::rest) pos) tb):PE X (.BoolOp .And (a::b::rest) pos) (Hh ta tb):=by
 intro Tc s σ H Q I h
 refine BoolOp_and (bq (ha Tc s σ H _ I h) λv s1 z_=> ?_)
 obtain⟨x,H1,I1,r1,q1⟩:=z_
 obtain⟨c,rfl,q1⟩:=q1
 cases r1
 refine Nn ?_
 cases c with
 |true=>exact hb Tc s1 σ H1 Q I1 q1
 |false=>exact⟨.bl false,H1,I1,rfl,q1⟩
theorem F8 (ha:PE X a ta):PE X (.UnaryOp .Not a pos) (Hi ta):=by
 intro Tc s σ H Q I h
 refine UnaryOp_ (bq (ha Tc s σ H _ I h) λv s1 z_=> ?_)
 obtain⟨x,H1,I1,r1,q1⟩:=z_
 obtain⟨c,rfl,q1⟩:=q1
 cases r1
 exact not_of (Nn ⟨.bl (!c),H1,I1,rfl,q1⟩)
def Ku (t:TT) (ta tb:TE):TE:=λσ H Q=>t σ H λc H1=>if c=true then ta σ H1 Q else tb σ H1 Q
theorem zi {c:La} (hc:PT X c tA) (ha:PE X a ta) (hb:PE X b tb):PE X (.IfExp c a b pos) (Ku tA ta tb):=by
 intro Tc s σ H Q I h
 refine wpAny_IfExp (bq (hc Tc s σ H _ I h) λd s1 z_=> ?_)
 obtain⟨H1,I1,q1⟩:=z_
 cases d with
 |true=>exact ha Tc s1 σ H1 Q I1 q1
 |false=>exact hb Tc s1 σ H1 Q I1 q1
end
end L2
namespace L2
open PySem PySem.Spec PyProof.Rows
def d6 (K:KU) (H:Hp) (a:KZ) (xs:List V):Prop:=
 Rd H a (.lst xs)\/
  ∃(o:LG) (its:Array KW) (n:Nat),K.lookup a=some o/\o.cls= .type "list"/\o.dict=none/\o.data= .seq its n/\its.size<=sizeLine/\aK xs its.toList
def fS (K:KU) (H:Hp) (a:KZ) (xs:List V):Prop:=
 Rd H a (.tup xs)\/
  ∃(o:LG) (its:Array KW) (n:Nat),K.lookup a=some o/\o.cls= .type "tuple"/\o.data= .seq its n/\its.size<=sizeLine/\aK xs its.toList
def Jr:KW->Option V
 | .none=>some .non
 | .bool b=>some (.bl b)
 | .int i _=>some (.int i)
 | .str x _=>some (.str x)
 | .bytes b _=>some (.byt b)
 | .float b _=>some (.flt b)
 | .ref a=>some (.ref a)
 | .type n=>some (.ty n)
 |_=>none
theorem aT.abs {x:V} {u:KW} (r:aT x u):Jr u=some x:=by
 cases x with
 |non=>cases r;rfl
 |bl _=>cases r;rfl
 |int _=>obtain⟨t,rfl⟩:=r;rfl
 |str _=>obtain⟨t,rfl⟩:=r;rfl
 |byt _=>obtain⟨t,rfl⟩:=r;rfl
 |flt _=>obtain⟨t,rfl⟩:=r;rfl
 |ref _=>cases r;rfl
 |ty _=>cases r;rfl
theorem aT.inj {x y:V} {u:KW} (r:aT x u) (q:aT y u):x=y:=Ms (r.abs.symm.trans q.abs)
theorem aK.inj:∀{xs ys:List V} {us:List KW},aK xs us->aK ys us->xs=ys
 |_,_,_, .nil, .nil=>rfl
 |_,_,_, .cons r t, .cons r' t'=>by rw[r.inj r',aK.inj t t']
section
variable {X:Cx} {Tc:List (KZ×LG)} {σ:St} {H:Hp} {s:KY} {a:KZ} {xs ys:List V}
theorem d6.of {K:KU} (h:H a=some (.lst xs)):d6 K H a xs:= .inl (.inl h)
theorem fS.of {K:KU} (h:H a=some (.tup xs)):fS K H a xs:= .inl (.inl h)
theorem aw.list (I:aw X Tc σ H s) (h:d6 X.K H a xs):∃its:List KW,aK xs its/\PlainL s.heap a its.toArray/\xs.length<=sizeLine:=by
 rcases h with h|⟨o,its,n,hk,hc,hd,hs,hz,r⟩
 ·obtain⟨z,its,n,r,e⟩:=h.ok I.hok
  exact⟨its,r,⟨_,n,e,rfl,rfl,rfl⟩,z⟩
 ·refine⟨its.toList,r,⟨o,n,I.kIn a o hk,hc,hd,by simpa using hs⟩,?_⟩
  have e:=r.length
  simp only[MB]at e
  omega
theorem aw.tuple (I:aw X Tc σ H s) (h:fS X.K H a xs):∃its:List KW,aK xs its/\PY s.heap a its.toArray/\xs.length<=sizeLine:=by
 rcases h with h|⟨o,its,n,hk,hc,hs,hz,r⟩
 ·obtain⟨z,its,r,p⟩:=h.ok I.hok
  exact⟨its,r,p.tup,z⟩
 ·refine⟨its.toList,r,⟨o,I.kIn a o hk,hc,n,by simpa using hs⟩,?_⟩
  have e:=r.length
  simp only[MB]at e
  omega
theorem aw.list_inj (I:aw X Tc σ H s) (h:d6 X.K H a xs) (h':d6 X.K H a ys):xs=ys:=by
 obtain⟨its,r,⟨o,n,e,_,_,d⟩,_⟩:=I.list h
 obtain⟨its',r',⟨o',n',e',_,_,d'⟩,_⟩:=I.list h'
 rw[e]at e';cases e'
 rw[d]at d'
 injection d' with d1 _
 have:its=its':=by simpa using congrArg T4 d1
 subst this
 exact r.inj r'
theorem aw.tuple_inj (I:aw X Tc σ H s) (h:fS X.K H a xs) (h':fS X.K H a ys):xs=ys:=by
 obtain⟨its,r,⟨o,e,_,n,d⟩,_⟩:=I.tuple h
 obtain⟨its',r',⟨o',e',_,n',d'⟩,_⟩:=I.tuple h'
 rw[e]at e';cases e'
 rw[d]at d'
 injection d' with d1 _
 have:its=its':=by simpa using congrArg T4 d1
 subst this
 exact r.inj r'
end
abbrev Cx.wish (X:Cx) (E:KW->KY->Prop):Cx:={X with xe:=E}
abbrev Cx.nox (X:Cx):Cx:=X.wish λ_ _=>False
theorem Cx.Ok.wish {X:Cx} (ok:X.Ok) (E:KW->KY->Prop):(X.wish E).Ok:=
 ⟨ok.mod,ok.kind,ok.glob,ok.blt,ok.above,ok.inj,ok.has,ok.cab,ok.hd,ok.frames,ok.stk,ok.exf,ok.bs,ok.bsz,ok.noex,ok.exfs,ok.funs,ok.frf⟩
theorem Cx.Ok.unwish {X:Cx} {E:KW->KY->Prop} (ok:(X.wish E).Ok):X.Ok:=
 ⟨ok.mod,ok.kind,ok.glob,ok.blt,ok.above,ok.inj,ok.has,ok.cab,ok.hd,ok.frames,ok.stk,ok.exf,ok.bs,ok.bsz,ok.noex,ok.exfs,ok.funs,ok.frf⟩
section
variable {X:Cx} {Tc:List (KZ×LG)} {σ:St} {H:Hp} {s:KY} {E:KW->KY->Prop}
theorem aw.wish (I:aw X Tc σ H s) (E:KW->KY->Prop):aw (X.wish E) Tc σ H s:=⟨I.ok.wish E,I.os,I.bare,I.base,I.loc,I.cell,I.free,I.freeC,I.pin,I.hok,I.len⟩
theorem aw.unwish (I:aw (X.wish E) Tc σ H s):aw X Tc σ H s:=⟨I.ok.unwish,I.os,I.bare,I.base,I.loc,I.cell,I.free,I.freeC,I.pin,I.hok,I.len⟩
theorem SP.unwish {D:mJ} {f:Flow} {s':KY} (h:SP (X.wish E) Tc D f s'):SP X Tc D f s':=by
 cases f with
 |next=>obtain⟨σ',H',I,q⟩:=h;exact⟨σ',H',I.unwish,q⟩
 |brk=>obtain⟨σ',H',I,q⟩:=h;exact⟨σ',H',I.unwish,q⟩
 |cont=>obtain⟨σ',H',I,q⟩:=h;exact⟨σ',H',I.unwish,q⟩
 |ret u=>obtain⟨v,σ',H',I,r,q⟩:=h;exact⟨v,σ',H',I.unwish,r,q⟩
theorem PE.nox {e:La} {t:TE} (h:PE X.nox e t):PE X e t:=λTc s σ H Q I hw=>
 M8 (h Tc s σ H Q (I.wish _) hw) (λ_ _ ⟨v,H',I',r,q⟩=>⟨v,H',I'.unwish,r,q⟩) λ_ _ z=>ME z
theorem PT.nox {e:La} {t:TT} (h:PT X.nox e t):PT X e t:=λTc s σ H Q I hw=>
 M8 (h Tc s σ H Q (I.wish _) hw) (λ_ _ ⟨H',I',q⟩=>⟨H',I'.unwish,q⟩) λ_ _ z=>ME z
theorem qe.nox {st:List Ly} {t:TS} (h:qe X.nox st t):qe X st t:=λTc s σ H D I hw=>
 M8 (h Tc s σ H D (I.wish _) hw) (λ_ _ q=>q.unwish) λ_ _ z=>ME z
end
section
variable {X:Cx} {st:Ly} {rest:List Ly} {t u:TS} {e:La} {te:TE} {pos:LF}
def Hj:TS:=λD σ H=>D.nx σ H
def Js (t u:TS):TS:=λD σ H=>t {D with nx:=u D} σ H
theorem C5:qe X [] Hj:=λ_ _ σ H _ I h=>OT ⟨σ,H,I,h⟩
theorem zj (h1:PS X st t) (h2:qe X rest u):qe X (st::rest) (Js t u):=by
 intro Tc s σ H D I h
 refine wpAny_execs_cons (bq (h1 Tc s σ H {D with nx:=u D} I h) λf s1 q=> ?_)
 cases f with
 |next=>
  obtain⟨σ',H',I',q⟩:=q
  exact h2 Tc s1 σ' H' D I' q
 |ret v=>exact q
 |brk=>exact q
 |cont=>exact q
theorem C6 (h1:PS X st t):qe X [st] t:=by
 intro Tc s σ H D I h
 refine wpAny_execs_cons (bq (h1 Tc s σ H D I h) λf s1 q=> ?_)
 cases f with
 |next=>exact OT q
 |ret v=>exact q
 |brk=>exact q
 |cont=>exact q
theorem aw.quiet {Tc:List (KZ×LG)} {σ:St} {H:Hp} {s:KY} (I:aw X Tc σ H s):interactive X.env=false:=by simp[interactive,I.ok.kind]
def Hk (te:TE):TS:=λD σ H=>te σ H λ_ H1=>D.nx σ H1
theorem rN (he:PE X e te) (hs:Mi e none pos.line X.env=pure false:=by rfl):PS X (.Expr e pos) (Hk te):=by
 intro Tc s σ H D I h
 exact wpAny_Expr_any (bq (he Tc s σ H _ I h) λv s1 ⟨x,H1,I1,r1,q1⟩=>⟨σ,H1,I1,q1⟩) I.quiet hs
def Jt (te:TE):TS:=λD σ H=>te σ H D.rt
theorem F9 (he:PE X e te):PS X (.Return (some e) pos) (Jt te):=by
 intro Tc s σ H D I h
 exact wpAny_Return_some (bq (he Tc s σ H _ I h) λv s1 ⟨x,H1,I1,r1,q1⟩=>⟨x,σ,H1,I1,r1,q1⟩)
def Ju (c:TT) (t u:TS):TS:=λD σ H=>c σ H λb H1=>if b=true then t D σ H1 else u D σ H1
theorem Hl {c:La} {a b:List Ly} {tc:TT} (hc:PT X c tc) (ha:qe X a t) (hb:qe X b u):PS X (.If c a b pos) (Ju tc t u):=by
 intro Tc s σ H D I h
 refine wpAny_If (bq (hc Tc s σ H _ I h) λd s1 z_=> ?_)
 obtain⟨H1,I1,q1⟩:=z_
 cases d with
 |true=>exact ha Tc s1 σ H1 D I1 q1
 |false=>exact hb Tc s1 σ H1 D I1 q1
end
abbrev TG:=V->St->Hp->(St->Hp->Prop)->Prop
abbrev zk:=List V->St->Hp->(St->Hp->Prop)->Prop
def PG (X:Cx) (target:La) (t:TG):Prop:=
 ∀(Tc:List (KZ×LG)) (s:KY) (σ:St) (H:Hp) (v:V) (u:KW) (Q:St->Hp->Prop),aw X Tc σ H s->aT v u->t v σ H Q->
  wpAny (Lh X.prog X.w) X.A (Ny target X.env u) (λ_ s'=>∃σ' H',aw X Tc σ' H' s'/\Q σ' H') X.xe s
def zl (X:Cx) (ts:List La) (t:zk):Prop:=
 ∀(Tc:List (KZ×LG)) (s:KY) (σ:St) (H:Hp) (vs:List V) (us:List KW) (Q:St->Hp->Prop),aw X Tc σ H s->aK vs us->t vs σ H Q->
  wpAny (Lh X.prog X.w) X.A (Pt ((M9 ts X.env).map (·.2)) us) (λ_ s'=>∃σ' H',aw X Tc σ' H' s'/\Q σ' H') X.xe s
abbrev Fa:=V->V->V->Hp->(Hp->Prop)->Prop
def Hm (X:Cx) (t:Fa):Prop:=
 ∀(Tc:List (KZ×LG)) (s:KY) (σ:St) (H:Hp) (o i v:V) (ov iv u:KW) (Q:Hp->Prop),aw X Tc σ H s->aT o ov->aT i iv->aT v u->t o i v H Q->
  wpAny (Lh X.prog X.w) X.A (QP ov iv u) (λ_ s'=>∃H',aw X Tc σ H' s'/\Q H') X.xe s
abbrev Jv:=V->V->Hp->VK->Prop
def Kv (X:Cx) (op:OJ) (t:Jv):Prop:=
 ∀(Tc:List (KZ×LG)) (s:KY) (σ:St) (H:Hp) (x y:V) (v u:KW) (Q:VK),aw X Tc σ H s->aT x v->aT y u->t x y H Q->
  wpAny (Lh X.prog X.w) X.A (Qy op v u) (EP X Tc σ Q) X.xe s
section
variable {X:Cx} {pos:LF}
def Ef (i:Nat):TG:=λv σ H Q=>Q (σ.set i (some v)) H
theorem rO {i:Nat} {x:L0} (hN:X.N.Nodup) (hi:X.N[i]? =some x) (hx:uS X.env.scope x) (hf:X.fn x=true\/X.env.scope.names.lookup x=some .local:=by first|exact .inl rfl|exact .inr rfl|assumption):PG X (.Name x pos) (Ef i):=by
 intro Tc s σ H v u Q I r h
 exact wpAny_assign_Name (jE I hN hi hx r (λs' I'=>⟨_,H,I',h⟩) hf)
def Jw:zk:=λvs σ H Q=>vs=[]/\Q σ H
def Hn (t:TG) (u:zk):zk:=λvs σ H Q=>∃v r,vs=v::r/\t v σ H λσ' H'=>u r σ' H' Q
theorem C7:zl X [] Jw:=by
 intro Tc s σ H vs us Q I r h
 obtain⟨e,h⟩:=h
 subst e
 cases r
 exact S3 ⟨σ,H,I,h⟩
theorem zm {e:La} {es:List La} {t:TG} {u:zk} (h1:PG X e t) (h2:zl X es u)
  (hs:(M9 (e::es) X.env).map (·.2)=Ny e X.env::(M9 es X.env).map (·.2):=by rfl):zl X (e::es) (Hn t u):=by
 intro Tc s σ H vs us Q I r h
 obtain⟨v,vr,e1,h⟩:=h
 subst e1
 cases r with
 |cons r rr=>
  rw[hs]
  refine Pf (bq (h1 Tc s σ H _ _ _ I r h) λ_ s1 z_=> ?_)
  obtain⟨σ1,H1,I1,q1⟩:=z_
  exact h2 Tc s1 σ1 H1 _ _ Q I1 rr q1
def Jx (K:KU) (n:Nat) (t:zk):TG:=λv σ H Q=>∃a xs,v= .ref a/\fS K H a xs/\xs.length=n/\t xs σ H Q
theorem zn {es:List La} {k:Nat} {t:zk} {n:Nat} (hc:X.calm=true) (h:zl X es t)
  (hn:(M9 es X.env).length=n:=by rfl) (Tz:(M9 es X.env).findIdx? (·.1)=none:=by rfl):PG X (.Tuple es k pos) (Jx X.K n t):=by
 intro Tc s σ H v u Q I r hw
 obtain⟨a,xs,e1,hq,hl,hw⟩:=hw
 subst e1
 cases r
 obtain⟨its,rv,ht,hz⟩:=I.tuple hq
 refine assign_Tuple_tuple (I.ok.hd hc) ht (by simp[hn,<-hl,rv.length]) Tz λh' hx=> ?_
 have I1:aw X Tc σ H {s with heap:=h'}:=I.kept (t':=s.toks) λb o e=>hx b o (Lu (Lg e)) e
 exact h Tc _ σ H xs _ Q I1 (by simpa using rv) hw
def Jy (to ti:TE) (t:Fa):TG:=λv σ H Q=>to σ H λo H1=>ti σ H1 λi H2=>t o i v H2 λH3=>Q σ H3
theorem Fb {o i:La} {to ti:TE} {t:Fa} (ho:PE X o to) (hi:PE X i ti) (hs:Hm X t)
  (ha:∀v,Ny (.Subscript o i pos) X.env v=(do
   let ov<-N9 [v] (Ls o X.env)
   let iv<-N9 [v,ov] (Ls i X.env)
   OM pos
   N9 [v,ov,iv] (QP ov iv v)
   SO [v,ov,iv] []):=by intro _;rfl):PG X (.Subscript o i pos) (Jy to ti t):=by
 intro Tc s σ H v u Q I r h
 rw[ha]
 refine K_ (LO (bq (ho Tc s σ H _ I h) λov s1 z_=> ?_))
 obtain⟨x,H1,I1,r1,q1⟩:=z_
 refine K_ (LO (bq (hi Tc s1 σ H1 _ I1 q1) λiv s2 z_=> ?_))
 obtain⟨y,H2,I2,r2,q2⟩:=z_
 refine K_ (MR (K_ (LO (bq (hs Tc s2 σ H2 x y v ov iv u _ I2 r1 r2 r q2) λ_ s3 z_=> ?_))))
 obtain⟨H3,I3,q3⟩:=z_
 exact wpAny_release ⟨σ,H3,I3,q3⟩
def Fc (te:TE) (g:TG):TS:=λD σ H=>te σ H λx H1=>g x σ H1 D.nx
theorem uU {tg e:La} {te:TE} {g:TG} (he:PE X e te) (hg:PG X tg g) (hs:O0 [tg] e pos.line X.env=pure false:=by rfl) (hw:O1 [tg] e X.env=pure none:=by rfl)
  (h1:(M9 [tg] X.env).map (·.2)=[Ny tg X.env]:=by rfl):PS X (.Assign [tg] e pos) (Fc te g):=by
 intro Tc s σ H D I h
 refine wpAny_Assign_stores (bq (he Tc s σ H _ I h) λv s1 z_=> ?_) hs hw
 obtain⟨x,H1,I1,r1,q1⟩:=z_
 rw[h1]
 exact bq (hg Tc s1 σ H1 x v _ I1 r1 q1) λ_ s2 q=>q
theorem lg {i:Nat} {x:L0} {e:La} {te:TE} {Tj:LF} (hN:X.N.Nodup) (hi:X.N[i]? =some x) (hx:uS X.env.scope x) (he:PE X e te) (hs:Mi e (some (.Name x Tj)) pos.line X.env=pure false:=by rfl) (hf:X.fn x=true\/X.env.scope.names.lookup x=some .local:=by first|exact .inl rfl|exact .inr rfl|assumption):
  PS X (.Assign [.Name x Tj] e pos) (Fc te (Ef i)):=by
 intro Tc s σ H D I h
 refine wpAny_Assign_Name (bq (he Tc s σ H _ I h) λv s1 z_=> ?_) hs
 obtain⟨y,H1,I1,r1,q1⟩:=z_
 exact jE I1 hN hi hx r1 (λs2 I2=>⟨_,H1,I2,q1⟩) hf
def Jz (i j:Nat) (ta:TA):TS:=λD σ H=>ta σ H λvs H1=>∃v w,vs=[v,w]/\D.nx ((σ.set i (some v)).set j (some w)) H1
theorem Fd {i j:Nat} {x y:L0} {a b:La} {ta:TA} {px py pt:LF} {kt k2 WD} (hc:X.calm=true) (hN:X.N.Nodup) (hi:X.N[i]? =some x) (hj:X.N[j]? =some y) (V7:i≠j)
  (hx:X.env.scope.names.lookup x=some .local) (hy:X.env.scope.names.lookup y=some .local) (ha:PA X [a,b] ta)
  (hw:O1 [.Tuple [.Name x px, .Name y py] kt pt] (.Tuple [a,b] k2 WD) X.env=pure (some [x,y]))
  (hs:O0 [.Tuple [.Name x px, .Name y py] kt pt] (.Tuple [a,b] k2 WD) pos.line X.env=pure false:=by rfl):
  PS X (.Assign [.Tuple [.Name x px, .Name y py] kt pt] (.Tuple [a,b] k2 WD) pos) (Jz i j ta):=by
 intro Tc s σ H D I h
 rw[exec_Assign_arm]
 refine K_ (MR ?_)
 rw[hs]
 refine K_ (Lc ?_)
 rw[if_neg (by decide)]
 refine K_ (Tuple_ (bq (ha _ Tc s σ H _ I h) λus s1 z_=> ?_))
 obtain⟨vs,H1,I1,r1,q1⟩:=z_
 obtain⟨v,w,e1,q1⟩:=q1
 subst e1
 obtain⟨u1,u2,rfl,rv,Uy⟩:∃u1 u2,us=[u1,u2]/\aT v u1/\aT w u2:=by
  cases r1 with
  |cons p q=>
   cases q with
   |cons p' q'=>
    cases q'
    exact⟨_,_,rfl,p,p'⟩
 refine N1 ?_ (by show 2<=sizeLine;decide)
 have I2:aw X Tc σ H1 {s1 with heap:=s1.heap.push {cls:= .type "tuple",data:= .seq [u1,u2].toArray}}:=I1.kept (t':=s1.toks) λb o e=>L5 _ e
 rw[hw]
 refine K_ (Lc ?_)
 show wpAny (Lh X.prog X.w) X.A (do rule "assign.swapped-stores";let items<-Sf (.ref s1.heap.objs.size) 2 none;Pt [λv=>Sk X.env y v,λv=>Sk X.env x v] items.reverse;pure Flow.next) _ _ _
 refine K_ (PZ (K_ (unpackItems_tuple (items:= #[u1,u2]) (I.ok.hd hc) (IsTup.new s1.heap _) λh' WE=> ?_)))
 have I3:=I2.kept (h':=h') (t':=s1.toks) λb o e=>WE b o (Lu (Lg e)) e
 show wpAny _ _ (Pt [λv=>Sk X.env y v,λv=>Sk X.env x v] [u2,u1]>>=λ_=>pure Flow.next) _ _ _
 refine K_ (Pf (wpAny_bindName (jE I3 hN hj (.inl hy) Uy (λs2 I4=> ?_) (.inr hy))))
 refine Pf (wpAny_bindName (jE I4 hN hi (.inl hx) rv (λs3 I5=>S3 (Lc ?_)) (.inr hx)))
 rw[List.set_comm _ _ (MG V7)]at I5
 exact⟨_,H1,I5,q1⟩
def JA (i:Nat) (te:TE) (ti:Jv):TS:=λD σ H=>∃x,σ[i]? =some (some x)/\te σ H λy H1=>ti x y H1 λz H2=>D.nx (σ.set i (some z)) H2
theorem Fe {i:Nat} {x:L0} {e:La} {te:TE} {op:OJ} {ti:Jv} {Tj:LF} (hN:X.N.Nodup) (hi:X.N[i]? =some x) (hx:uS X.env.scope x) (he:PE X e te) (ho:Kv X op ti) (hf:X.fn x=true\/X.env.scope.names.lookup x=some .local:=by first|exact .inl rfl|exact .inr rfl|assumption):
  PS X (.AugAssign (.Name x Tj) op e pos) (JA i te ti):=by
 intro Tc s σ H D I h
 obtain⟨v,e1,h⟩:=h
 obtain⟨m,hn,hl⟩:=I.loc
 have a14:t4 X.env.scope x:=by rcases hx with k|k;exact .inl k;exact .inr (.inl k)
 obtain⟨u,r,l⟩:=hl i x v hi e1 a14
 refine wpAny_AugAssign_Name ?_
 have go:wpAny (Lh X.prog X.w) X.A (Ls e X.env) (λw s₂=>wpAny (Lh X.prog X.w) X.A (Qy op u w) (λr s₃=>wpAny (Lh X.prog X.w) X.A (storeName X.env x r) (λ_=>SP X Tc D .next) X.xe s₃) X.xe s₂) X.xe s:=by
  refine bq (he Tc s σ H _ I h) λw s1 z_=> ?_
  obtain⟨y,H1,I1,r1,q1⟩:=z_
  refine bq (ho Tc s1 σ H1 v y u w _ I1 r r1 q1) λz s2 z_=> ?_
  obtain⟨zv,H2,I2,r2,q2⟩:=z_
  exact jE I2 hN hi hx r2 (λs3 I3=>⟨_,H2,I3,q2⟩) hf
 rcases l with ⟨hk,hm⟩|⟨hk,c,hc,UK⟩
 ·exact R5 I.ok.kind hk hn hm go
 ·rcases hk with hk|hk
  ·exact Rw I.ok.kind hk hc UK go
  ·rcases hx with k|k
   ·have:X.env.scope.names.lookup x=some .free:=hk
    rw[k]at this;cases this
   ·have:X.env.scope.names.lookup x=some .free:=hk
    rw[k]at this;cases this
end
section
variable {X:Cx} {pos:LF}
def zo (c:TT) (tb:TS):TS:=λD σ H=>∃W:Nat->St->Hp->Prop,(∃m,W m σ H)/\∀m σ H,W m σ H->
 c σ H λb H1=>if b=true then ∃N:St->Hp->Prop,(∀σ' H',N σ' H'->∃m',m'<m/\W m' σ' H')/\tb {D with nx:=N,ct:=N,bk:=D.nx} σ H1 else D.nx σ H1
theorem zp {c:La} {body:List Ly} {tc:TT} {tb:TS} (hp:RG (Lh X.prog X.w) X.A X.env X.xe) (hc:PT X c tc) (hb:qe X body tb):PS X (.While c body [] pos) (zo tc tb):=by
 intro Tc s σ H D I h
 obtain⟨W,⟨m0,w0⟩,V9⟩:=h
 refine wpAny_While (codeAny_whileLoop (λn s'=>∃σ' H',aw X Tc σ' H' s'/\W n σ' H') ?_ m0 ⟨σ,H,I,w0⟩)
 rintro n s1 ⟨σ1,H1,I1,w1⟩
 refine Nf hp (bq (hc Tc s1 σ1 H1 _ I1 (V9 n σ1 H1 w1)) λb s2 z_=> ?_)
 obtain⟨H2,I2,q2⟩:=z_
 cases b with
 |true=>
  obtain⟨N,hN,q2⟩:=q2
  rw[if_pos rfl]
  refine Nf hp (bq (hb Tc s2 σ1 H2 _ I2 q2) λf s3 q3=> ?_)
  cases f with
  |next=>
   obtain⟨σ3,H3,I3,n3⟩:=q3
   obtain⟨m',hm,w3⟩:=hN σ3 H3 n3
   exact⟨m',hm,σ3,H3,I3,w3⟩
  |cont=>
   obtain⟨σ3,H3,I3,n3⟩:=q3
   obtain⟨m',hm,w3⟩:=hN σ3 H3 n3
   exact⟨m',hm,σ3,H3,I3,w3⟩
  |brk=>exact q3
  |ret v=>exact q3
 |false=>
  rw[if_neg Lw]
  exact OT ⟨σ1,H2,I2,q2⟩
end
structure It where
 go:Nat->Hp->Prop
 yld:Nat->Hp->V->Hp->Prop
 stop:Nat->Hp->Prop
def fG (X:Cx) (Tc:List (KZ×LG)) (H:Hp) (b:KZ):Prop:=
 H b=none/\b≠X.env.locals/\b∉X.fs/\(b∈X.ex\/X.s₀.heap.objs.size<=b)/\(∀x c,X.env.cells.lookup x=some c->c≠b)/\∀p∈X.pn++Tc,p.1≠b
theorem aw.fpOk {X:Cx} {Tc:List (KZ×LG)} {σ:St} {H H':Hp} {s:KY} {b:KZ} (I:aw X Tc σ H s) (hb:s.heap.objs.size<=b) (hn:H' b=none):fG X Tc H' b:=by
 refine⟨hn,RH (LJ I.lt hb),I.nofs hb, .inr (LL I.sz hb),λx c e z=> ?_,λp hp z=> ?_⟩
 ·obtain⟨v,q⟩:=I.cell x c e
  exact absurd (LJ q.lt (by rw[z];exact hb)) (LI _)
 ·exact absurd (LJ (Lg (I.pin p hp).1) (by rw[z];exact hb)) (LI _)
structure t6 (P:Lb) (w:Ll) (K:KU) (tg:La) (J:It) (fp:List KZ) (it:KZ) (tn:Nat->Lj->Prop):Prop where
 mem:it∈fp
 obj:∀i h,tn i h->∀b∈fp,∃o,h.get? b=some o/\∀v,o.data≠ .cell v
 keep:∀i h h',tn i h->(∀b∈fp,∀o,h.get? b=some o->h'.get? b=some o)->tn i h'
 item:∀(X:Cx),X.prog=P->X.w=w->X.K=K->X.calm=true->∀(i:Nat) (Tc:List (KZ×LG)) (s:KY) (σ:St) (H:Hp) (E:KW->KY->Prop),aw X Tc σ H s->(∀b∈fp,fG X Tc H b)->tn i s.heap->J.go i H->
  wpAny (Lh P w) X.A (pyNext (.ref it)) (λr s1=>∃u,r=some u/\
   wpAny (Lh P w) X.A (Qz tg (.ref it) u) (λ_ s2=>∃x H',aw X Tc σ H' s2/\aT x u/\J.yld i H x H'/\tn (i+1) s2.heap/\∀b∈fp,H' b=none) E s1) E s
 done:∀(X:Cx),X.prog=P->X.w=w->X.K=K->X.calm=true->∀(i:Nat) (Tc:List (KZ×LG)) (s:KY) (σ:St) (H:Hp) (E:KW->KY->Prop),aw X Tc σ H s->(∀b∈fp,fG X Tc H b)->tn i s.heap->J.stop i H->
  wpAny (Lh P w) X.A (pyNext (.ref it)) (λr s1=>r=none/\aw X Tc σ H s1) E s
 self:∀(A:LD) (i:Nat) (s:KY) (Q:KW->KY->Prop) (E:KW->KY->Prop),tn i s.heap->Q (.ref it) s->wpAny (Lh P w) A (RJ (.ref it)) Q E s
abbrev TI:=St->Hp->(It->Hp->Prop)->Prop
def Kc (X:Cx) (Tc:List (KZ×LG)) (σ:St) (tg:La) (R:It->Hp->Prop) (XO:KW) (s2:KY):Prop:=
 ∃(it:KZ) (fp:List KZ) (tn:Nat->Lj->Prop) (J:It) (H':Hp),XO= .ref it/\aw X Tc σ H' s2/\t6 X.prog X.w X.K tg J fp it tn/\tn 0 s2.heap/\(∀b∈fp,fG X Tc H' b)/\R J H'
def PI (X:Cx) (tg iter:La) (wi:TI):Prop:=
 ∀(Tc:List (KZ×LG)) (s:KY) (σ:St) (H:Hp) (R:It->Hp->Prop),aw X Tc σ H s->wi σ H R->
  wpAny (Lh X.prog X.w) X.A (Ls iter X.env) (λv s1=>wpAny (Lh X.prog X.w) X.A (RJ v) (Kc X Tc σ tg R) X.xe s1) X.xe s
theorem zq {M:Sy} {A:LD} {E:KW->KY->Prop} {s:KY} {tg:La} {it:KZ} {u:KW} {o:LG} {n:String} {vs:Array KW} {Q:Unit->KY->Prop} (ho:s.heap.get? it=some o) (hc:o.cls= .type n) (hd:o.data= .fields vs)
  (hn:["enumerate","zip","dict_itemiterator","dict_reverseitemiterator","odict_iterator","itertools.zip_longest","itertools.pairwise"].contains n=false) (hQ:Q () s):wpAny M A (Qz tg (.ref it) u) Q E s:=by
 unfold Qz
 cases tg<;>first
  |exact Lc hQ
  |(cases u<;>first
    |exact Lc hQ
    |(refine K_ (wpAny_load ho ?_)
      rw[hc,hd]
      show wpAny M A (if (["enumerate","zip","dict_itemiterator","dict_reverseitemiterator","odict_iterator","itertools.zip_longest","itertools.pairwise"].contains n&&vs[0]? ==some (rawInt _))=true then _ else _) Q E s
      rw[if_neg (by intro h;rw[hn,Bool.false_and]at h;cases h)]
      exact Lc hQ))
def J8 (K:KU) (a:KZ):It:=
 ⟨λi H=>∃xs x,d6 K H a xs/\xs[i]? =some x,λi H x H'=>H'=H/\∀xs,d6 K H a xs->xs[i]? =some x,λi H=>∃xs,d6 K H a xs/\xs.length<=i⟩
def JB (K:KU) (a:KZ):It:=
 ⟨λi H=>∃xs x,fS K H a xs/\xs[i]? =some x,λi H x H'=>H'=H/\∀xs,fS K H a xs->xs[i]? =some x,λi H=>∃xs,fS K H a xs/\xs.length<=i⟩
def Ho (lo:Int) (n:Nat):It:=⟨λi _=>i<n,λi H x H'=>H'=H/\x= .int (lo+i),λi _=>n<=i⟩
theorem xA {P:Lb} {w:Ll} {K:KU} {tg:La} (a it:KZ):t6 P w K tg (J8 K a) [it] it (λi h=>h.IsListIter it a i)where
 mem:=by simp
 obj:=λi h st b hb=>by
  have e:b=it:=by simpa using hb
  subst e
  obtain⟨o,e,c,d⟩:=st
  exact⟨o,e,λv z=>by rw[d]at z;cases z⟩
 keep:=λi h h' st k=>st.at λo e=>k it (by simp) o e
 item:=by
  intro X hP hw hK hc i Tc s σ H E I hf st hg
  subst hP hw hK
  obtain⟨xs,x,hq,hx⟩:=hg
  obtain⟨its,rv,p,hz⟩:=I.list hq
  obtain⟨u,hu,ru⟩:=rv.get hx
  obtain⟨f0,f1,f2,f3,f4,f5⟩:=hf it (by simp)
  refine wpAny_pyNext_list_item st p.isList (x:=u) (by simpa using hu) λh' Va sb=> ?_
  have I1:aw X Tc σ H {s with heap:=h'}:=I.turned (t':=s.toks) (λb o hb e=>(sb.2 b hb).trans e) f0 f1 f3 f4 f5
  obtain⟨o,e,c,d⟩:=id Va
  exact⟨u,rfl,zq (s:={s with heap:=h'}) e c d (by decide) ⟨x,H,I1,ru,⟨rfl,λys hy=>by rw[I.list_inj hy hq];exact hx⟩,Va,λb hb=>(hf b hb).1⟩⟩
 done:=by
  intro X hP hw hK hc i Tc s σ H E I hf st hg
  subst hP hw hK
  obtain⟨xs,hq,hx⟩:=hg
  obtain⟨its,rv,p,hz⟩:=I.list hq
  obtain⟨f0,f1,f2,f3,f4,f5⟩:=hf it (by simp)
  have hl:=rv.length
  exact wpAny_pyNext_list_end (I.ok.hd hc) st p.isList (by simp;omega) λh' eb=>⟨rfl,I.turned (t':=s.toks) (λb o hb e=>eb b o hb e) f0 f1 f3 f4 f5⟩
 self:=λ_ _ _ _ _ st h=>wpAny_pyIter_listiter st h
theorem uV {P:Lb} {w:Ll} {K:KU} {tg:La} (a it:KZ):t6 P w K tg (JB K a) [it] it (λi h=>h.IsTupleIter it a i)where
 mem:=by simp
 obj:=λi h st b hb=>by
  have e:b=it:=by simpa using hb
  subst e
  obtain⟨o,e,c,d⟩:=st
  exact⟨o,e,λv z=>by rw[d]at z;cases z⟩
 keep:=λi h h' st k=>st.at λo e=>k it (by simp) o e
 item:=by
  intro X hP hw hK hc i Tc s σ H E I hf st hg
  subst hP hw hK
  obtain⟨xs,x,hq,hx⟩:=hg
  obtain⟨its,rv,p,hz⟩:=I.tuple hq
  obtain⟨u,hu,ru⟩:=rv.get hx
  obtain⟨f0,f1,f2,f3,f4,f5⟩:=hf it (by simp)
  refine wpAny_pyNext_tuple_item st (show s.heap.IsTuple a its.toArray from p) (x:=u) (by simpa using hu) λh' Va sb=> ?_
  have I1:aw X Tc σ H {s with heap:=h'}:=I.turned (t':=s.toks) (λb o hb e=>(sb.2 b hb).trans e) f0 f1 f3 f4 f5
  obtain⟨o,e,c,d⟩:=id Va
  exact⟨u,rfl,zq (s:={s with heap:=h'}) e c d (by decide) ⟨x,H,I1,ru,⟨rfl,λys hy=>by rw[I.tuple_inj hy hq];exact hx⟩,Va,λb hb=>(hf b hb).1⟩⟩
 done:=by
  intro X hP hw hK hc i Tc s σ H E I hf st hg
  subst hP hw hK
  obtain⟨xs,hq,hx⟩:=hg
  obtain⟨its,rv,p,hz⟩:=I.tuple hq
  obtain⟨f0,f1,f2,f3,f4,f5⟩:=hf it (by simp)
  have hl:=rv.length
  exact wpAny_pyNext_tuple_end (I.ok.hd hc) st (show s.heap.IsTuple a its.toArray from p) (by simp;omega) λh' eb=>⟨rfl,I.turned (t':=s.toks) (λb o hb e=>eb b o hb e) f0 f1 f3 f4 f5⟩
 self:=λ_ _ _ _ _ st h=>wpAny_pyIter_tupleiter st h
theorem uW {P:Lb} {w:Ll} {K:KU} {tg:La} (it:KZ) (lo:Int) (n:Nat):t6 P w K tg (Ho lo n) [it] it (λi h=>IsRangeIter h it (lo+(i:Nat)*1) ((n:Int) - (i:Nat)) 1)where
 mem:=by simp
 obj:=λi h st b hb=>by
  have e:b=it:=by simpa using hb
  subst e
  exact⟨_,st,λv z=>by
   have z':Sg _=Data.cell v:=z
   cases z'⟩
 keep:=λi h h' st k=>k it (by simp) _ st
 item:=by
  intro X hP hw hK hc i Tc s σ H E I hf st hg
  subst hP hw hK
  obtain⟨f0,f1,f2,f3,f4,f5⟩:=hf it (by simp)
  have W:=Walks.range (prog:=X.prog) (w:=X.w) (I.ok.hd hc) it lo 1 n
  refine W.item i s _ _ hg st λv h' tk hv Va kk=> ?_
  obtain⟨t,rfl⟩:=hv
  have I1:aw X Tc σ H {s with heap:=h',toks:=tk}:=I.turned (λb o hb e=>kk b o (by simpa using hb) e) f0 f1 f3 f4 f5
  refine⟨_,rfl,zq (s:={s with heap:=h',toks:=tk}) (n:="range_iterator") Va rfl rfl (by decide) ⟨.int (lo+i),H,I1,⟨t,?_⟩,⟨rfl,rfl⟩,Va,λb hb=>(hf b hb).1⟩⟩
  rw[Int.mul_one]
 done:=by
  intro X hP hw hK hc i Tc s σ H E I hf st hg
  subst hP hw hK
  obtain⟨f0,f1,f2,f3,f4,f5⟩:=hf it (by simp)
  exact wpAny_pyNext_range_end (I.ok.hd hc) st (by have:n<=i:=hg;omega) λh' eb=>⟨rfl,I.turned (t':=s.toks) (λb o hb e=>eb b o hb e) f0 f1 f3 f4 f5⟩
 self:=λ_ _ _ _ _ st h=>wpAny_pyIter_rangeiter st h
end L2
namespace L2
open PySem PySem.Spec PyProof.Rows
section
variable {X:Cx} {tg:La}
def Hq (K:KU) (tl:TE):TI:=λσ H R=>tl σ H λx H1=>∃a,x= .ref a/\(∃xs,d6 K H1 a xs)/\R (J8 K a) H1
def JC (K:KU) (tl:TE):TI:=λσ H R=>tl σ H λx H1=>∃a,x= .ref a/\(∃xs,fS K H1 a xs)/\R (JB K a) H1
theorem rP {l:La} {tl:TE} (hl:PE X l tl):PI X tg l (Hq X.K tl):=by
 intro Tc s σ H R I h
 refine bq (hl Tc s σ H _ I h) λv s1 z_=> ?_
 obtain⟨x,H1,I1,r1,q1⟩:=z_
 obtain⟨a,e,⟨xs,hq⟩,q⟩:=q1
 subst e
 cases r1
 obtain⟨its,rv,p,hz⟩:=I1.list hq
 refine Ox p.isList ?_
 refine⟨s1.heap.objs.size,[s1.heap.objs.size],_,_,H1,rfl,I1.kept (t':=s1.toks) λb o e=>L5 _ e,xA a _,⟨_,Lq _ rfl,rfl,rfl⟩,λb hb=> ?_,q⟩
 have e:b=s1.heap.objs.size:=by simpa using hb
 subst e
 exact I1.fpOk (Li _) (I1.hok.fresh (Li _))
theorem Ff {l:La} {tl:TE} (hl:PE X l tl):PI X tg l (JC X.K tl):=by
 intro Tc s σ H R I h
 refine bq (hl Tc s σ H _ I h) λv s1 z_=> ?_
 obtain⟨x,H1,I1,r1,q1⟩:=z_
 obtain⟨a,e,⟨xs,hq⟩,q⟩:=q1
 subst e
 cases r1
 obtain⟨its,rv,p,hz⟩:=I1.tuple hq
 refine Pg (show s1.heap.IsTuple a its.toArray from p) ?_
 refine⟨s1.heap.objs.size,[s1.heap.objs.size],_,_,H1,rfl,I1.kept (t':=s1.toks) λb o e=>L5 _ e,uV a _,⟨_,Lq _ rfl,rfl,rfl⟩,λb hb=> ?_,q⟩
 have e:b=s1.heap.objs.size:=by simpa using hb
 subst e
 exact I1.fpOk (Li _) (I1.hok.fresh (Li _))
theorem t7 {Tc:List (KZ×LG)} {σ:St} {H:Hp} {s:KY} {R:It->Hp->Prop} {E:KW->KY->Prop} {lo hi:Int} {t u v:Tok} {tk:Nat} (I:aw X Tc σ H s) (h1: -(2 ^62)<=lo) (h2:lo<2 ^62) (h3: -(2 ^62)<=hi) (h4:hi<2 ^62)
  (q:R (Ho lo (hi - lo).toNat) H):wpAny (Lh X.prog X.w) X.A (RJ (.ref s.heap.objs.size)) (Kc X Tc σ tg R) E {s with heap:=s.heap.push {cls:= .type "range",data:= .fields #[.int lo t, .int hi u, .int 1 v]},toks:=tk}:=by
 refine wpAny_pyIter_range (IsRange.new ..) (small_one h1 h2 h3 h4) ?_
 have I1:aw X Tc σ H {s with heap:=s.heap.push {cls:= .type "range",data:= .fields #[.int lo t, .int hi u, .int 1 v]},toks:=tk}:=I.kept λb o e=>L5 _ e
 refine⟨(s.heap.push {cls:= .type "range",data:= .fields #[.int lo t, .int hi u, .int 1 v]}).objs.size,[(s.heap.push {cls:= .type "range",data:= .fields #[.int lo t, .int hi u, .int 1 v]}).objs.size],_,_,H,rfl,
  I1.kept (t':=tk) λb o e=>L5 _ e,uW _ lo (hi - lo).toNat,?_,λb hb=> ?_,q⟩
 ·have e1:lo+((0:Nat):Int)*1=lo:=by simp
  have e2:(((hi - lo).toNat:Nat):Int) - ((0:Nat):Int)=Oq lo hi 1:=by rw[rangeSize_one];split<;>omega
  show IsRangeIter _ _ (lo+((0:Nat):Int)*1) ((((hi - lo).toNat:Nat):Int) - ((0:Nat):Int)) 1
  rw[e1,e2]
  exact Lq _ rfl
 ·have e:b=(s.heap.push {cls:= .type "range",data:= .fields #[.int lo t, .int hi u, .int 1 v]}).objs.size:=by simpa using hb
  subst e
  exact I1.fpOk (Li _) (I1.hok.fresh (Li _))
def Hr (ta:TA):TI:=λσ H R=>ta σ H λvs H1=>∃j:Int,vs=[.int j]/\ -(2 ^62)<=j/\j<2 ^62/\R (Ho 0 j.toNat) H1
def Hs (ta:TA):TI:=λσ H R=>ta σ H λvs H1=>∃i j:Int,vs=[.int i, .int j]/\(-(2 ^62)<=i/\i<2 ^62/\ -(2 ^62)<=j/\j<2 ^62)/\R (Ho i (j - i).toNat) H1
theorem xB {a:La} {ta:TA} {p pos:LF} (hg:Gl X "range") (hm:X.mg "range"=none) (ha:PA X [a] ta) (hs:L6 [a] X.env=[(false,Ls a X.env)]:=by rfl):PI X tg (.Call (.Name "range" p) [a] [] pos) (Hr ta):=by
 intro Tc s σ H R I h
 refine Call_ (gT I hg hm QM (Mu (bq (ha pos Tc s σ H _ I h) λus s1 z_=> ?_) hs rfl))
 obtain⟨vs,H1,I1,r1,q1⟩:=z_
 obtain⟨j,e,q1,q2,q⟩:=q1
 subst e
 cases r1 with
 |cons r rr=>
  cases rr
  obtain⟨t,rfl⟩:=r
  exact call_range_1 (t7 I1 (by omega) (by omega) q1 q2 (by simpa using q))
theorem xC {a b:La} {ta:TA} {p pos:LF} (hg:Gl X "range") (hm:X.mg "range"=none) (ha:PA X [a,b] ta) (hs:L6 [a,b] X.env=[(false,Ls a X.env),(false,Ls b X.env)]:=by rfl) (Wd:L6 [b] X.env=[(false,Ls b X.env)]:=by rfl):
  PI X tg (.Call (.Name "range" p) [a,b] [] pos) (Hs ta):=by
 intro Tc s σ H R I h
 refine Call_ (gT I hg hm QM (Mu (bq (ha pos Tc s σ H _ I h) λus s1 z_=> ?_) (by rw[hs,Wd]) (by rw[Wd];rfl)))
 obtain⟨vs,H1,I1,r1,q1⟩:=z_
 obtain⟨i,j,e,⟨q1,q2,q3,q4⟩,q⟩:=q1
 subst e
 cases r1 with
 |cons r rr=>
  cases rr with
  |cons r' rr=>
   cases rr
   obtain⟨t,rfl⟩:=r
   obtain⟨t',rfl⟩:=r'
   exact call_range_2 (t7 I1 q1 q2 q3 q4 q)
def Ht (wi:TI) (g:TG) (tb:TS):TS:=λD σ H=>wi σ H λJ H1=>∃W:Nat->Nat->St->Hp->Prop,(∃m,W 0 m σ H1)/\∀i m σ H,W i m σ H->
 (J.stop i H/\D.nx σ H)\/(J.go i H/\∃N:St->Hp->Prop,(∀σ' H',N σ' H'->∃m',m'<m/\W (i+1) m' σ' H')/\∀x H',J.yld i H x H'->g x σ H' λσ2 H2=>tb {D with nx:=N,ct:=N,bk:=D.nx} σ2 H2)
def mK (fp:List KZ) (h:Lj):List (KZ×LG):=fp.filterMap λb=>(h.get? b).map λo=>(b,o)
theorem ef {fp:List KZ} {h:Lj} {b:KZ} {o:LG} (hb:b∈fp) (e:h.get? b=some o):(b,o)∈mK fp h:=Nb.mpr ⟨b,hb,by rw[e];rfl⟩
theorem xD {fp:List KZ} {h:Lj} {p:KZ×LG} (hp:p∈mK fp h):p.1∈fp/\h.get? p.1=some p.2:=by
 obtain⟨b,hb,e⟩:=Nb.mp hp
 cases q:h.get? b with
 |none=>rw[q]at e;cases e
 |some o=>
  rw[q]at e
  have e':(b,o)=p:=Ms e
  subst e'
  exact⟨hb,q⟩
theorem aw.pinned {Tc:List (KZ×LG)} {σ:St} {H:Hp} {s:KY} {fp:List KZ} (I:aw X Tc σ H s) (hf:∀b∈fp,fG X Tc H b) (ho:∀b∈fp,∃o,s.heap.get? b=some o/\∀v,o.data≠ .cell v):aw X (Tc++mK fp s.heap) σ H s:=
 I.pins_of λp hp=>(LR.mp hp).elim (λz=>I.pin p (Ln _ z)) λz=>by
  obtain⟨hb,e⟩:=xD z
  obtain⟨f0,f1,f2,_⟩:=hf p.1 hb
  obtain⟨o,e',d⟩:=ho p.1 hb
  rw[e]at e';cases e'
  exact⟨e,f0,f1,f2,d⟩
theorem aw.unpinned {Tc pl:List (KZ×LG)} {σ:St} {H:Hp} {s:KY} (I:aw X (Tc++pl) σ H s):aw X Tc σ H s:=I.pins_of λp hp=>I.pin p (Ln _ (LS _ hp))
theorem Fg {iter:La} {body:List Ly} {wi:TI} {g:TG} {tb:TS} {pos:LF} (hp:RG (Lh X.prog X.w) X.A X.env X.xe) (hc:X.calm=true) (hi:PI X tg iter wi) (hg:PG X tg g) (hb:qe X body tb)
  (hs:∀x,Mq iter X.env x=pure x:=by intro _;rfl):PS X (.For tg iter body [] pos) (Ht wi g tb):=by
 intro Tc s σ H D I h
 refine wpAny_For (bq (hi Tc s σ H _ I h) λv s1 h1=>bq h1 λXO s2 h2=> ?_) hs
 obtain⟨it,fp,tn,J,H2,e,I2,T,Vb,f2,W,⟨m0,w0⟩,V9⟩:=h2
 subst e
 have Up:∀{H':Hp},(∀b∈fp,H' b=none)->∀b∈fp,fG X Tc H' b:=λhn b hb=>⟨hn b hb,(f2 b hb).2⟩
 refine codeAny_forLoop_any (λn s'=>∃i σ' H',aw X Tc σ' H' s'/\tn i s'.heap/\(∀b∈fp,H' b=none)/\W i n σ' H') ?_ m0 ⟨0,σ,H2,I2,Vb,λb hb=>(f2 b hb).1,w0⟩
 rintro n s3 ⟨i,σ3,H3,I3,a0g,a0h,w3⟩
 rcases V9 i n σ3 H3 w3 with ⟨stop,qn⟩|⟨go,N,hN,step⟩
 ·refine Nf hp (bq (T.done X rfl rfl rfl hc i Tc s3 σ3 H3 X.xe I3 (Up a0h) a0g stop) λr s4 z_=> ?_)
  obtain⟨hr,I4⟩:=z_
  subst hr
  exact OT ⟨σ3,H3,I4,qn⟩
 ·refine Nf hp (bq (T.item X rfl rfl rfl hc i Tc s3 σ3 H3 X.xe I3 (Up a0h) a0g go) λr s4 z_=> ?_)
  obtain⟨u,hr,h4⟩:=z_
  subst hr
  refine Nf hp (bq h4 λ_ s5 z_=> ?_)
  obtain⟨x,H5,I5,r5,y5,YX,a15⟩:=z_
  have a16:=I5.pinned (Up a15) (T.obj _ _ YX)
  refine Nf hp (bq (hg _ s5 σ3 H5 x u _ a16 r5 (step x H5 y5)) λ_ s6 z_=> ?_)
  obtain⟨σ6,H6,I6,q6⟩:=z_
  refine Nf hp (bq (hb _ s6 σ6 H6 _ I6 q6) λf s7 q7=> ?_)
  have again:∀{σ7:St} {H7:Hp},aw X (Tc++mK fp s5.heap) σ7 H7 s7->N σ7 H7->∃m,m<n/\∃i σ' H',aw X Tc σ' H' s7/\tn i s7.heap/\(∀b∈fp,H' b=none)/\W i m σ' H':=λ{σ7 H7} I7 n7=>by
   obtain⟨m',hm,w7⟩:=hN σ7 H7 n7
   refine⟨m',hm,i+1,σ7,H7,I7.unpinned,T.keep _ _ _ YX λb hb o e=>(I7.pin (b,o) (Ln _ (Ln _ (ef hb e)))).1,λb hb=> ?_,w7⟩
   obtain⟨o,e,d⟩:=T.obj _ _ YX b hb
   exact(I7.pin (b,o) (Ln _ (Ln _ (ef hb e)))).2.1
  cases f with
  |next=>obtain⟨σ7,H7,I7,n7⟩:=q7;exact again I7 n7
  |cont=>obtain⟨σ7,H7,I7,n7⟩:=q7;exact again I7 n7
  |brk=>obtain⟨σ7,H7,I7,q7⟩:=q7;exact⟨σ7,H7,I7.unpinned,q7⟩
  |ret v=>obtain⟨x7,σ7,H7,I7,r7,q7⟩:=q7;exact⟨x7,σ7,H7,I7.unpinned,r7,q7⟩
end
end L2
namespace L2
open PySem PySem.Spec PyProof.Rows
abbrev R2:=V->V->Hp->VK->Prop
def jD (X:Cx) (f:KW->KW->NV KW) (r:R2):Prop:=
 ∀(Tc:List (KZ×LG)) (s:KY) (σ:St) (H:Hp) (x y:V) (v u:KW) (Q:VK),aw X Tc σ H s->aT x v->aT y u->r x y H Q->
  wpAny (Lh X.prog X.w) X.A (f v u) (EP X Tc σ Q) X.xe s
def J9 (X:Cx) (f:KW->NV KW) (r:V->Hp->VK->Prop):Prop:=
 ∀(Tc:List (KZ×LG)) (s:KY) (σ:St) (H:Hp) (x:V) (v:KW) (Q:VK),aw X Tc σ H s->aT x v->r x H Q->
  wpAny (Lh X.prog X.w) X.A (f v) (EP X Tc σ Q) X.xe s
def ck (X:Cx) (f:KW) (r:List V->Hp->VK->Prop):Prop:=
 ∀(Tc:List (KZ×LG)) (s:KY) (σ:St) (H:Hp) (xs:List V) (us:List KW) (Q:VK),aw X Tc σ H s->aK xs us->r xs H Q->
  wpAny (Lh X.prog X.w) X.A (call f us) (EP X Tc σ Q) X.xe s
def JD (X:Cx) (r:V->Hp->(Bool->Hp->Prop)->Prop):Prop:=
 ∀(Tc:List (KZ×LG)) (s:KY) (σ:St) (H:Hp) (x:V) (v:KW) (Q:Bool->Hp->Prop),aw X Tc σ H s->aT x v->r x H Q->
  wpAny (Lh X.prog X.w) X.A (truthy v) (TP X Tc σ Q) X.xe s
def Ja (r:R2) (ta tb:TE):TE:=λσ H Q=>ta σ H λx H1=>tb σ H1 λy H2=>r x y H2 Q
def Kw (r:V->Hp->VK->Prop) (ta:TE):TE:=λσ H Q=>ta σ H λx H1=>r x H1 Q
def rI (C:Int->Int->Prop) (g:Int->Int->V):R2:=λx y H Q=>∃i j,x= .int i/\y= .int j/\C i j/\Q (g i j) H
def xE (g:Int->Int->V):R2:=λx y H Q=>∃i j,x= .int i/\y= .int j/\Q (g i j) H
def rU (g:Int->V):V->Hp->VK->Prop:=λx H Q=>∃i,x= .int i/\Q (g i) H
section
variable {X:Cx} {a b c:La} {ta tb tc:TE} {pos:LF}
theorem Fh (ha:PE X a ta) (hb:PE X b tb) {Tc:List (KZ×LG)} {s:KY} {σ:St} {H:Hp} {R:V->V->Hp->Prop} (I:aw X Tc σ H s)
  (h:ta σ H λx H1=>tb σ H1 λy H2=>R x y H2) {Q:KW->KY->Prop} {f:KW->KW->NV KW}
  (hf:∀v u s2 x y H2,aw X Tc σ H2 s2->aT x v->aT y u->R x y H2->wpAny (Lh X.prog X.w) X.A (f v u) Q X.xe s2):
  wpAny (Lh X.prog X.w) X.A (Ls a X.env) (λv s₁=>wpAny (Lh X.prog X.w) X.A (Ls b X.env) (λu s₂=>wpAny (Lh X.prog X.w) X.A (f v u) Q X.xe s₂) X.xe s₁) X.xe s:=by
 refine bq (ha Tc s σ H _ I h) λv s1 z_=> ?_
 obtain⟨x,H1,I1,r1,q1⟩:=z_
 refine bq (hb Tc s1 σ H1 _ I1 q1) λu s2 z_=> ?_
 obtain⟨y,H2,I2,r2,q2⟩:=z_
 exact hf v u s2 x y H2 I2 r1 r2 q2
theorem Eg {op:OJ} {r:R2} (ho:jD X (MT op) r) (ha:PE X a ta) (hb:PE X b tb):PE X (.BinOp a op b pos) (Ja r ta tb):=by
 intro Tc s σ H Q I h
 exact wpAny_BinOp (Fh ha hb I h λv u s2 x y H2 I2 rx ry q=>ho Tc s2 σ H2 x y v u Q I2 rx ry q)
theorem Eh {op:UnaryOp} {r:V->Hp->VK->Prop} (ho:J9 X (unaryOp op) r) (ha:PE X a ta):PE X (.UnaryOp op a pos) (Kw r ta):=by
 intro Tc s σ H Q I h
 exact UnaryOp_ (bq (ha Tc s σ H _ I h) λv s1 ⟨x,H1,I1,r1,q1⟩=>ho Tc s1 σ H1 x v Q I1 r1 q1)
theorem Jb {f:KW->KW->NV KW} {C:Int->Int->Prop} {g:Int->Int->Int}
  (rule:∀(i j:Int) (t u:Tok) (s:KY) (Q:KW->KY->Prop) (E:KW->KY->Prop),C i j->Q (.int (g i j) s.toks) {s with toks:=s.toks+1}->wpAny (Lh X.prog X.w) X.A (f (.int i t) (.int j u)) Q E s):
  jD X f (rI C λi j=> .int (g i j)):=by
 intro Tc s σ H x y v u Q I rx ry h
 obtain⟨i,j,rfl,rfl,hc,q⟩:=h
 obtain⟨t,rfl⟩:=rx
 obtain⟨t',rfl⟩:=ry
 exact rule i j t t' s _ _ hc ⟨.int (g i j),H,I.tok _,⟨_,rfl⟩,q⟩
theorem Fi {f:KW->KW->NV KW} {g:Int->Int->Int}
  (rule:∀(i j:Int) (t u:Tok) (s:KY) (Q:KW->KY->Prop) (E:KW->KY->Prop),Q (.int (g i j) s.toks) {s with toks:=s.toks+1}->wpAny (Lh X.prog X.w) X.A (f (.int i t) (.int j u)) Q E s):
  jD X f (xE λi j=> .int (g i j)):=by
 intro Tc s σ H x y v u Q I rx ry h
 obtain⟨i,j,rfl,rfl,q⟩:=h
 obtain⟨t,rfl⟩:=rx
 obtain⟨t',rfl⟩:=ry
 exact rule i j t t' s _ _ ⟨.int (g i j),H,I.tok _,⟨_,rfl⟩,q⟩
theorem Hu {f:KW->KW->NV KW} {g:Int->Int->Bool}
  (rule:∀(i j:Int) (t u:Tok) (s:KY) (Q:KW->KY->Prop) (E:KW->KY->Prop),Q (.bool (g i j)) s->wpAny (Lh X.prog X.w) X.A (f (.int i t) (.int j u)) Q E s):
  jD X f (xE λi j=> .bl (g i j)):=by
 intro Tc s σ H x y v u Q I rx ry h
 obtain⟨i,j,rfl,rfl,q⟩:=h
 obtain⟨t,rfl⟩:=rx
 obtain⟨t',rfl⟩:=ry
 exact rule i j t t' s _ _ ⟨.bl (g i j),H,I,rfl,q⟩
def C8 (i j:Int):Prop:=0<j/\j<1073741824
def C9 (i j:Int):Prop:=0<=j/\j<=1000000/\i.natAbs<2 ^64
def xF (i j:Int):Prop:=(-(2 ^64)<i/\i<2 ^64)\/(-(2 ^64)<j/\j<2 ^64)
theorem xF.ok {i j:Int} (h:xF i j):IntMulOk i j:=by
 rcases h with ⟨h1,h2⟩|⟨h1,h2⟩
 ·exact .of_left (intBits_le_64 h1 h2)
 ·exact .of_right (intBits_le_64 h1 h2)
theorem Fj:jD X (MT .Add) (xE λi j=> .int (i+j)):=Fi λ_ _ _ _ _ _ _ q=>add_int q
theorem Fk:jD X (MT .Sub) (xE λi j=> .int (i - j)):=Fi λ_ _ _ _ _ _ _ q=>sub_int q
theorem Fn:jD X (MT .Mult) (rI xF λi j=> .int (i*j)):=Jb λ_ _ _ _ _ _ _ hc q=>mul_int q hc.ok
theorem Ca:jD X (MT .FloorDiv) (rI C8 λi j=> .int (i / j)):=Jb λi j _ _ _ _ _ hc q=>by
 have h1:(0:Int)<j:=hc.1
 have h2:j<1073741824:=hc.2
 exact floordiv_int (by omega) (by rw[Int.fdiv_eq_ediv_of_nonneg i (by omega)];exact q) (.inl (PyProof.noPylong_small (by omega)))
theorem Fo:jD X (MT .Mod) (rI (λ_ j=>0<j) λi j=> .int (i%j)):=Jb λi j _ _ _ _ _ hc q=>by
 have h1:(0:Int)<j:=hc
 exact mod_int' (by omega) (by rw[Int.fmod_eq_emod_of_nonneg i (by omega)];exact q)
theorem Fp:jD X (MT .Pow) (rI C9 λi j=> .int (i ^j.toNat)):=Jb λ_ _ _ _ _ _ _ hc q=>pow_int_small hc.1 hc.2.1 hc.2.2 q
theorem Cb:jD X (Qy .Add) (xE λi j=> .int (i+j)):=Fi λ_ _ _ _ _ _ _ q=>SN q
theorem Kx {f:KW->NV KW} {g:Int->Int}
  (rule:∀(i:Int) (t:Tok) (s:KY) (Q:KW->KY->Prop) (E:KW->KY->Prop),Q (.int (g i) s.toks) {s with toks:=s.toks+1}->wpAny (Lh X.prog X.w) X.A (f (.int i t)) Q E s):
  J9 X f (rU λi=> .int (g i)):=by
 intro Tc s σ H x v Q I rx h
 obtain⟨i,rfl,q⟩:=h
 obtain⟨t,rfl⟩:=rx
 exact rule i t s _ _ ⟨.int (g i),H,I.tok _,⟨_,rfl⟩,q⟩
theorem zr:J9 X (unaryOp .USub) (rU λi=> .int (-i)):=Kx λ_ _ _ _ _ q=>neg_int q
end
def Fq:V->V->Bool
 | .non, .non=>true| .non, .int _=>true| .int _, .non=>true| .non, .bl _=>true| .bl _, .non=>true| .non, .str _=>true| .str _, .non=>true
 | .int _, .int _=>true| .bl _, .bl _=>true| .str _, .str _=>true| .byt _, .byt _=>true
 | .int _, .str _=>true| .str _, .int _=>true| .bl _, .str _=>true| .str _, .bl _=>true
 |_,_=>false
def Kd:R2:=λx y H Q=>Fq x y=true/\Q (.bl (decide (x=y))) H
def Ke:R2:=λx y H Q=>Fq x y=true/\Q (.bl (!decide (x=y))) H
theorem wm {i j:Int}:decide (V.int i=V.int j)=(i==j):=by
 rw[O9]
 simp
theorem zt {i j:Bool}:decide (V.bl i=V.bl j)=(i==j):=by
 rw[O9]
 simp
theorem wo {i j:L0}:decide (V.str i=V.str j)=(i==j):=by
 rw[O9]
 simp
theorem wq {i j:Array UInt8}:decide (V.byt i=V.byt j)=(i.toList==j.toList):=by
 rw[O9]
 cases i
 cases j
 simp
section
variable {X:Cx} {a b c:La} {ta tb tc:TE} {pos:LF}
theorem ba {Tc:List (KZ×LG)} {σ:St} {H:Hp} {s:KY} {Q:VK} {k k':Bool} (I:aw X Tc σ H s) (q:Q (.bl k) H) (e:k=k'):EP X Tc σ Q (.bool k') s:=by
 subst e
 exact⟨.bl k,H,I,rfl,q⟩
theorem Ei:jD X (MP .Eq) Kd:=by
 intro Tc s σ H x y v u Q I rx ry h
 obtain⟨hs,q⟩:=h
 cases x with
 |non=>
  cases rx
  cases y with
  |non=>cases ry;exact PySem.EqNone.eq_none_none (ba I q (by simp))
  |bl j=>cases ry;exact PySem.EqNone.eq_none_bool (ba I q (by simp))
  |int j=>obtain⟨t',rfl⟩:=ry;exact PySem.EqNone.eq_none_int (ba I q (by simp))
  |str j=>obtain⟨t',rfl⟩:=ry;exact PySem.EqNone.eq_none_str (ba I q (by simp))
  |_=>exact absurd (show false=true from hs) Lw
 |bl i=>
  cases rx
  cases y with
  |non=>cases ry;exact PySem.EqNone.eq_bool_none (ba I q (by simp))
  |bl j=>cases ry;exact eq_bool (ba I q zt)
  |str j=>obtain⟨t',rfl⟩:=ry;exact PySem.EqMixed.eq_bool_str (ba I q (by simp))
  |_=>exact absurd (show false=true from hs) Lw
 |int i=>
  obtain⟨t,rfl⟩:=rx
  cases y with
  |non=>cases ry;exact PySem.EqNone.eq_int_none (ba I q (by simp))
  |int j=>obtain⟨t',rfl⟩:=ry;exact eq_int (ba I q wm)
  |str j=>obtain⟨t',rfl⟩:=ry;exact PySem.EqMixed.eq_int_str (ba I q (by simp))
  |_=>exact absurd (show false=true from hs) Lw
 |str i=>
  obtain⟨t,rfl⟩:=rx
  cases y with
  |non=>cases ry;exact PySem.EqNone.eq_str_none (ba I q (by simp))
  |bl j=>cases ry;exact PySem.EqMixed.eq_str_bool (ba I q (by simp))
  |int j=>obtain⟨t',rfl⟩:=ry;exact PySem.EqMixed.eq_str_int (ba I q (by simp))
  |str j=>obtain⟨t',rfl⟩:=ry;exact eq_str (ba I q wo)
  |_=>exact absurd (show false=true from hs) Lw
 |byt i=>
  obtain⟨t,rfl⟩:=rx
  cases y with
  |byt j=>obtain⟨t',rfl⟩:=ry;exact PySem.W.eq_bytes (ba I q wq)
  |_=>exact absurd (show false=true from hs) Lw
 |_=>cases y<;>exact absurd (show false=true from hs) Lw
theorem Hv:jD X (MP .NotEq) Ke:=by
 intro Tc s σ H x y v u Q I rx ry h
 obtain⟨hs,q⟩:=h
 cases x with
 |non=>
  cases rx
  cases y with
  |non=>cases ry;exact PySem.EqNone.ne_none_none (ba I q (by simp))
  |bl j=>cases ry;exact PySem.EqNone.ne_none_bool (ba I q (by simp))
  |int j=>obtain⟨t',rfl⟩:=ry;exact PySem.EqNone.ne_none_int (ba I q (by simp))
  |str j=>obtain⟨t',rfl⟩:=ry;exact PySem.EqNone.ne_none_str (ba I q (by simp))
  |_=>exact absurd (show false=true from hs) Lw
 |bl i=>
  cases rx
  cases y with
  |non=>cases ry;exact PySem.EqNone.ne_bool_none (ba I q (by simp))
  |bl j=>cases ry;exact ne_bool (ba I q (congrArg not zt))
  |str j=>obtain⟨t',rfl⟩:=ry;exact PySem.EqMixed.ne_bool_str (ba I q (by simp))
  |_=>exact absurd (show false=true from hs) Lw
 |int i=>
  obtain⟨t,rfl⟩:=rx
  cases y with
  |non=>cases ry;exact PySem.EqNone.ne_int_none (ba I q (by simp))
  |int j=>obtain⟨t',rfl⟩:=ry;exact ne_int (ba I q (congrArg not wm))
  |str j=>obtain⟨t',rfl⟩:=ry;exact PySem.EqMixed.ne_int_str (ba I q (by simp))
  |_=>exact absurd (show false=true from hs) Lw
 |str i=>
  obtain⟨t,rfl⟩:=rx
  cases y with
  |non=>cases ry;exact PySem.EqNone.ne_str_none (ba I q (by simp))
  |bl j=>cases ry;exact PySem.EqMixed.ne_str_bool (ba I q (by simp))
  |int j=>obtain⟨t',rfl⟩:=ry;exact PySem.EqMixed.ne_str_int (ba I q (by simp))
  |str j=>obtain⟨t',rfl⟩:=ry;exact ne_str (ba I q (congrArg not wo))
  |_=>exact absurd (show false=true from hs) Lw
 |byt i=>
  obtain⟨t,rfl⟩:=rx
  cases y with
  |byt j=>obtain⟨t',rfl⟩:=ry;exact PySem.W.ne_bytes (ba I q (congrArg not wq))
  |_=>exact absurd (show false=true from hs) Lw
 |_=>cases y<;>exact absurd (show false=true from hs) Lw
theorem Hw:jD X (MP .Lt) (xE λi j=> .bl (decide (i<j))):=Hu λ_ _ _ _ _ _ _ q=>lt_int q
theorem Hx:jD X (MP .Gt) (xE λi j=> .bl (decide (j<i))):=Hu λ_ _ _ _ _ _ _ q=>gt_int q
theorem Fs:jD X (MP .Is) (λx y H Q=>y= .non/\Q (.bl (decide (x= .non))) H):=by
 intro Tc s σ H x y v u Q I rx ry h
 obtain⟨rfl,q⟩:=h
 cases ry
 refine is_none_gen (ba I q ?_)
 cases x<;>first
  |(cases rx;rfl)
  |(obtain⟨t,rfl⟩:=rx;rfl)
theorem wt:jD X (MP .IsNot) (λx y H Q=>y= .non/\Q (.bl (!decide (x= .non))) H):=by
 intro Tc s σ H x y v u Q I rx ry h
 obtain⟨rfl,q⟩:=h
 cases ry
 refine isnot_none_gen (ba I q ?_)
 cases x<;>first
  |(cases rx;rfl)
  |(obtain⟨t,rfl⟩:=rx;rfl)
theorem jD.or {f:KW->KW->NV KW} {r r':R2} (h:jD X f r) (h':jD X f r'):jD X f (λx y H Q=>r x y H Q\/r' x y H Q):=by
 intro Tc s σ H x y v u Q I rx ry q
 rcases q with q|q
 ·exact h Tc s σ H x y v u Q I rx ry q
 ·exact h' Tc s σ H x y v u Q I rx ry q
theorem zu (b:La) {op:R6} (h:op≠ .In:=by decide) (h2:op≠ .NotIn:=by decide):MK op b=false:=by
 have e1:(op==CmpOp.In)=false:=by cases op<;>first|rfl|exact absurd rfl h
 have e2:(op==CmpOp.NotIn)=false:=by cases op<;>first|rfl|exact absurd rfl h2
 cases b<;>simp[MK,e1,e2]
theorem Cc {op:R6} {r:R2} (ho:jD X (MP op) r) (ha:PE X a ta) (hb:PE X b tb) (hm:MK op b=false):PE X (.Compare a [op] [b] pos) (Ja r ta tb):=by
 intro Tc s σ H Q I h
 exact wpAny_Compare1 (Fh ha hb I h λv u s2 x y H2 I2 rx ry q=>ho Tc s2 σ H2 x y v u Q I2 rx ry q) hm
def Ej (t:TE):TT:=λσ H Q=>t σ H λx H'=>∃k,x= .bl k/\Q k H'
theorem Cd {op:R6} {r:R2} (ho:jD X (MP op) r) (ha:PE X a ta) (hb:PE X b tb) (hm:MK op b=false):PT X (.Compare a [op] [b] pos) (Ej (Ja r ta tb)):=by
 intro Tc s σ H Q I h
 refine QO (bq (ha Tc s σ H _ I h) λv s1 ⟨x,H1,I1,r1,q1⟩=>bq (hb Tc s1 σ H1 _ I1 q1) λu s2 ⟨y,H2,I2,r2,q2⟩=>
  bq (ho Tc s2 σ H2 x y v u _ I2 r1 r2 q2) λc s3 ⟨z,H3,I3,r3,k,e,q3⟩=> ?_) hm
 subst e
 cases r3
 exact Nn ⟨H3,I3,q3⟩
def Hy (K:KU) (x:V) (H:Hp) (k:Bool):Prop:=
 match x with
 | .non=>k=false
 | .bl b=>k=b
 | .int i=>k=(i != 0)
 | .str y=>y.length<=sizeLine/\k=((y.length:Int) != 0)
 | .byt y=>y.size<=sizeLine/\k=((y.size:Int) != 0)
 | .ref p=>(∃xs,d6 K H p xs/\k= !xs.isEmpty)\/(∃xs,fS K H p xs/\k= !xs.isEmpty)\/∃kvs,H p=some (.dK kvs)/\k= !kvs.isEmpty
 |_=>False
theorem uX {κ:Type} {kvs:List (κ×V)} {vs:List (κ×KW)} (r:KV kvs vs):(!vs.isEmpty)= !kvs.isEmpty:=by
 cases r<;>rfl
theorem oG {xs:List V} {its:List KW} (r:aK xs its):(!its.toArray.isEmpty)= !xs.isEmpty:=by
 cases r<;>simp
theorem mL:(sizeLine:Nat)<2 ^63:=by rw[Md];decide
theorem lh:JD X (λx H Q=>∃k,Hy X.K x H k/\Q k H):=by
 intro Tc s σ H x v Q I rx h
 obtain⟨k,e,q⟩:=h
 have hl:=mL
 have hs:sizeLine=16777216:=Md
 cases x with
 |non=>
  cases rx
  have e':k=false:=e
  subst e'
  exact truthy_none ⟨H,I,q⟩
 |bl b=>
  cases rx
  have e':k=b:=e
  subst e'
  exact Nn ⟨H,I,q⟩
 |int i=>
  obtain⟨t,rfl⟩:=rx
  have e':k=(i != 0):=e
  subst e'
  exact PySem.P.truthy_int ⟨H,I,q⟩
 |str y=>
  obtain⟨t,rfl⟩:=rx
  obtain⟨hy,e'⟩:y.length<=sizeLine/\k=((y.length:Int) != 0):=e
  subst e'
  exact PySem.P.truthy_str (by omega) ⟨H,I.tok _,q⟩
 |byt y=>
  obtain⟨t,rfl⟩:=rx
  obtain⟨hy,e'⟩:y.size<=sizeLine/\k=((y.size:Int) != 0):=e
  subst e'
  exact PySem.W.truthy_bytes (by omega) ⟨H,I.tok _,q⟩
 |ref p=>
  cases rx
  have e':(∃xs,d6 X.K H p xs/\k= !xs.isEmpty)\/(∃xs,fS X.K H p xs/\k= !xs.isEmpty)\/∃kvs,H p=some (.dK kvs)/\k= !kvs.isEmpty:=e
  rcases e' with ⟨xs,hx,e'⟩|⟨xs,hx,e'⟩|⟨kvs,hx,e'⟩
  ·subst e'
   obtain⟨its,r,pl,hz⟩:=I.list hx
   have Ti:=r.length
   exact wpAny_truthy_list pl.isList (by simp only[Ld];omega) ⟨H,I.tok _,by rw[oG r];exact q⟩
  ·subst e'
   obtain⟨its,r,pl,hz⟩:=I.tuple hx
   have Ti:=r.length
   exact truthy_tuple pl (by simp only[Ld];omega) ⟨H,I.tok _,by rw[oG r];exact q⟩
  ·subst e'
   obtain⟨hz,hS,vs,r,m⟩:kvs.length<=sizeLine/\(p==sysModules)=false/\∃vs,KV kvs vs/\s.heap.DictOf (aR X.prog X.w) p vs:=I.hok p _ hx
   have Ti:kvs.length=vs.length:=Pp r
   exact wpAny_truthy_dict hS m (by omega) ⟨H,I.tok _,by rw[uX r];exact q⟩
 |_=>exact(show False from e).elim
theorem zw (ha:PE X a ta) (he:∀Uo,Sz a X.env Uo=(do let v<-Uo;OM a.pos;N9 [v] (truthy v))):
  PT X a (λσ H Q=>ta σ H λx H'=>∃k,Hy X.K x H' k/\Q k H'):=by
 intro Tc s σ H Q I h
 exact isTrue_plain (bq (ha Tc s σ H _ I h) λv s1 ⟨x,H1,I1,r1,q1⟩=>lh Tc s1 σ H1 x v Q I1 r1 q1) (he _)
theorem fU {x:V} {us:List KW} (r:aK [x] us):∃u,us=[u]/\aT x u:=by
 cases r with
 |cons r1 r2=>cases r2;exact⟨_,rfl,r1⟩
theorem wu {x y:V} {us:List KW} (r:aK [x,y] us):∃u w',us=[u,w']/\aT x u/\aT y w':=by
 cases r with
 |cons r1 r2=>
  cases r2 with
  |cons r3 r4=>cases r4;exact⟨_,_,rfl,r1,r3⟩
theorem xG (hc:X.calm=true):ck X (.builtin "max") (λxs H Q=>∃i j,xs=[.int i, .int j]/\Q (.int (if j>i then j else i)) H):=by
 intro Tc s σ H xs us Q I r h
 obtain⟨i,j,rfl,q⟩:=h
 obtain⟨u,w',rfl,⟨t,rfl⟩,⟨t',rfl⟩⟩:=wu r
 refine max_two_ints (I.ok.hd hc) λh' tk k=>⟨_,H,I.kept k,?_,q⟩
 by_cases hj:j>i
 ·rw[if_pos hj,if_pos hj];exact⟨_,rfl⟩
 ·rw[if_neg hj,if_neg hj];exact⟨_,rfl⟩
theorem xH (hc:X.calm=true):ck X (.builtin "min") (λxs H Q=>∃i j,xs=[.int i, .int j]/\Q (.int (if j<i then j else i)) H):=by
 intro Tc s σ H xs us Q I r h
 obtain⟨i,j,rfl,q⟩:=h
 obtain⟨u,w',rfl,⟨t,rfl⟩,⟨t',rfl⟩⟩:=wu r
 refine min_two_ints (I.ok.hd hc) λh' tk k=>⟨_,H,I.kept k,?_,q⟩
 by_cases hj:j<i
 ·rw[if_pos hj,if_pos hj];exact⟨_,rfl⟩
 ·rw[if_neg hj,if_neg hj];exact⟨_,rfl⟩
theorem xI:ck X (.type "int") (λxs H Q=>(∃i,xs=[.int i]/\Q (.int i) H)\/∃k,xs=[.bl k]/\Q (.int (if k then 1 else 0)) H):=by
 intro Tc s σ H xs us Q I r h
 rcases h with ⟨i,rfl,q⟩|⟨k,rfl,q⟩
 ·obtain⟨u,rfl,t,rfl⟩:=fU r
  exact call_int_int ⟨.int i,H,I,⟨_,rfl⟩,q⟩
 ·obtain⟨u,rfl,r1⟩:=fU r
  cases r1
  exact call_int_bool ⟨.int (if k then 1 else 0),H,I.tok _,⟨_,rfl⟩,q⟩
end
end L2
namespace L2
open PySem PySem.Spec PyProof.Rows
structure uY (h:Lj) (x dx C:KZ) (mA:L0->Option KW):Prop where
 obj:h.get? x=some (MZ C dx)
 ns:h.Ns1 dx mA
 ne:dx≠x
theorem xJ {h:Lj} {dx:KZ} {mA:L0->Option KW} (n:h.Ns1 dx mA):∃od,h.get? dx=some od/\∀name,Pb name od=some (mA name):=by
 obtain⟨o,es,ep,ho,hd,hk,_,hm⟩:=n
 refine⟨o,ho,λname=> ?_⟩
 have e:=hm name
 unfold nsFind findBy at e
 rw[<-Array.find?_toList]at e
 unfold Pb
 rw[hd]
 dsimp only
 split
 ·rename_i y q
  rw[q]at e
  exact congrArg some e
 ·rename_i q
  rw[q]at e
  have a:es.toList.any (·.refKey)=false:=by
   rw[List.any_eq_false]
   intro y hy
   obtain⟨z,t,VM⟩:=hk y (Array.mem_toList_iff.mp hy)
   simp[DictEntry.refKey,VM]
  have a':¬es.toList.any (·.refKey)=true:=by rw[a];exact Lw
  rw[if_neg a']
  exact congrArg some e
theorem uY.look {h:Lj} {x dx C:KZ} {mA:L0->Option KW} (I:uY h x dx C mA):∃od,PySem.W.InstAt h x (MZ C dx) C (some od)/\∀name,Pb name od=some (mA name):=
 let ⟨od,ho,hl⟩:=xJ I.ns
 ⟨od,⟨I.obj,rfl,rfl,ho⟩,hl⟩
section
variable {prog:Lb} {w:Ll} {A:LD} {E:KW->KY->Prop} {s:KY} {K:KU} {x dx C f:KZ} {mA:L0->Option KW} {name:L0} {v:KW}
theorem Ce {expr:Bool} {Q:KW->KY->Prop} (X:K.In s.heap) (I:uY s.heap x dx C mA) (hg:NX K C name=true) (hh:Oy K C=true)
  (ha:LB K (.ref C) name=some none) (hv:mA name=some v) (We:Sl v=true) (h:Q v {s with toks:=s.toks+1}):
  wpAny (Lh prog w) A (getAttr (.ref x) name expr) Q E s:=by
 obtain⟨od,J,hl⟩:=I.look
 exact PySem.W.get_value X J (P8 hg).1 (PySem.W.findObj_own hh ha rfl (by rw[hl,hv])) We h
theorem zx {pl:NV Bool} {Q:KW×List KW->KY->Prop} (X:K.In s.heap) (I:uY s.heap x dx C mA) (hg:NX K C name=true)
  (hf:LB K (.ref C) name=some (some (.ref f))) (ht:OU K (.ref f)=true) (hv:mA name=none) (h:Q (.ref f,[.ref x]) s):
  wpAny (Lh prog w) A (ON (.ref x) name pl) Q E s:=by
 obtain⟨od,J,hl⟩:=I.look
 exact PySem.W.method_fn X J (P8 hg).1 (P8 hg).2 hf (beq_iff_eq.mp ht) (by show (Pb name od).map (·.isSome)=some false;rw[hl,hv];rfl) h
theorem Cf {ns:List L0} {Q:Unit->KY->Prop} (X:K.In s.heap) (I:uY s.heap x dx C mA)
  (hs:LB K (.ref C) "__setattr__"=some (some (.builtin "object.__setattr__"))) (hp:PM K C=true) (ht:QA K C name=some none) (hh:Oy K C=true)
  (hw:RD mA ns) (hsz:ns.length<=sizeLine)
  (h:∀h',uY h' x dx C (λy=>if y=name then some v else mA y)->Nx dx s.heap h'->Q () {s with heap:=h',toks:=s.toks+2}):
  wpAny (Lh prog w) A (setAttr (.ref x) name v) Q E s:=by
 obtain⟨od,J,hl⟩:=I.look
 refine PySem.W.set_plain X J hs (PySem.W.osa_open (s:={s with toks:=s.toks+1}) (r:=none) X J hp ht λb=> ?_)
 obtain⟨cd,hc,XJ⟩:=PySem.W.any_some hh
 have hx:s.heap.get? x=some ⟨.ref C,some dx, .plain,#[]⟩:=I.obj
 refine K_ (Lc (K_ (K_ (wpAny_loadPart hx (K_ (PySem.W.Looks.here (s:={s with toks:=s.toks+1}) (PySem.W.looks_clsIn X hc) ?_))))))
 rw[XJ]
 refine Lc (a:=some dx) (K_ (Lc (K_ ?_)))
 refine wpAny_nsSet1 (s:={s with toks:=s.toks+1}) I.ns λh' WG Wd=> ?_
 obtain⟨oD,a3b,a3c,a17,a18,a19⟩:=WG.count (PySem.Within.cons name v hw)
 refine K_ (wpAny_lookBehind a17 (by rw[a18];exact pastItsLine_dict (LL a19 (by rw[Lm];omega))) ?_)
 exact Lc (h _ ⟨(Wd.2 _ (MG I.ne)).trans I.obj,WG,I.ne⟩ Wd)
theorem zy {R:Q4->KY->Prop} {vs:List KW} {kw:List (L0×KW)} (X:K.In s.heap) (hm:OV K C=true)
  (hi:LB K (.ref C) "__init__"=some (some (.ref f))) (hf:QQ K (.ref f)=some (.type "function"))
  (h:Ng (Lh prog w) (A.under (.builtin "type.__call__" ⟨.ref C::vs,kw⟩)) (.call (.ref f) ⟨.ref (s.heap.objs.size+1)::vs,kw⟩) (PySem.W.InitBack (s.heap.objs.size+1) R)
   {s with heap:=(s.heap.push Mz).push (MZ C s.heap.objs.size)}):
  Ng (Lh prog w) A (.call (.ref C) ⟨vs,kw⟩) R s:=by
 obtain⟨hh,g,d,t,os⟩:=s
 exact PySem.W.make_core (PySem.W.makes_of X hm) (PySem.W.looks_findIn X hi) (λself=>PySem.W.bind_fn X self hf) (.inl rfl) h
end
def gU (f:L0) (v:V):List (L0×V)->List (L0×V)
 |[]=>[(f,v)]
 |(g,x)::r=>if g=f then (g,v)::r else (g,x)::gU f v r
theorem gG (f g:L0) (v:V):∀fs:List (L0×V),(gU f v fs).lookup g=if g=f then some v else fs.lookup g
 |[]=>by
  show O5 g [(f,v)]=_
  by_cases h:g=f
  ·have hb:(g==f)=true:=beq_iff_eq.mpr h
   simp only[O5,hb,if_pos h]
  ·have hb:(g==f)=false:=beq_eq_false_iff_ne.mpr h
   simp only[O5,hb,if_neg h]
 |(k,x)::r=>by
  have ih:=gG f g v r
  rw[show gU f v ((k,x)::r)=(if k=f then (k,v)::r else (k,x)::gU f v r)from rfl]
  by_cases hk:k=f
  ·rw[if_pos hk]
   by_cases h:g=k
   ·have hb:(g==k)=true:=beq_iff_eq.mpr h
    simp only[O5,hb,if_pos (h.trans hk)]
   ·have hb:(g==k)=false:=beq_eq_false_iff_ne.mpr h
    simp only[O5,hb,if_neg (λe:g=f=>h (e.trans hk.symm))]
  ·rw[if_neg hk]
   by_cases h:g=k
   ·have hb:(g==k)=true:=beq_iff_eq.mpr h
    simp only[O5,hb,if_neg (λe:g=f=>hk (h.symm.trans e))]
   ·have hb:(g==k)=false:=beq_eq_false_iff_ne.mpr h
    simp only[O5,hb]
    exact ih
theorem mM (f:L0) (v:V):∀fs:List (L0×V),f∈(gU f v fs).map (·.1)/\∀g,g∈fs.map (·.1)->g∈(gU f v fs).map (·.1)
 |[]=>⟨by simp[gU],λg h=>by simp at h⟩
 |(k,x)::r=>by
  obtain⟨i1,i2⟩:=mM f v r
  rw[show gU f v ((k,x)::r)=(if k=f then (k,v)::r else (k,x)::gU f v r)from rfl]
  by_cases hk:k=f
  ·rw[if_pos hk]
   subst hk
   exact⟨by simp,λg h=>by simpa using h⟩
  ·rw[if_neg hk]
   refine⟨?_,λg h=> ?_⟩
   ·rw[L3]
    exact L7 _ i1
   ·rw[L3]at h ⊢
    rcases Le.mp h with e|e
    ·exact Le.mpr (.inl e)
    ·exact L7 _ (i2 g e)
theorem nI (f:L0) (v:V):∀fs:List (L0×V),(gU f v fs).length<=fs.length+1
 |[]=>by simp[gU]
 |(k,x)::r=>by
  have ih:=nI f v r
  rw[show gU f v ((k,x)::r)=(if k=f then (k,v)::r else (k,x)::gU f v r)from rfl]
  by_cases hk:k=f
  ·rw[if_pos hk,Lm,Lm];omega
  ·rw[if_neg hk,Lm,Lm];omega
theorem jA.some_of {v:V} {o:Option KW} (r:jA (some v) o):∃u,o=some u/\aT v u:=by
 cases o with
 |none=>exact(show False from r).elim
 |some u=>exact⟨u,rfl,r⟩
theorem jA.none_of {o:Option KW} (r:jA none o):o=none:=by
 cases o with
 |none=>rfl
 |some u=>exact(show False from r).elim
theorem xK {v:V} {u:KW} (r:aT v u):Sl u=true:=by
 cases v with
 |non=>cases (show u=M5 from r);rfl
 |bl b=>cases (show u=R3 b from r);rfl
 |int i=>obtain⟨t,e⟩:=(show ∃t,u=N4 i t from r);cases e;rfl
 |str x=>obtain⟨t,e⟩:=(show ∃t,u=Qx x t from r);cases e;rfl
 |byt b=>obtain⟨t,e⟩:=(show ∃t,u=T8 b t from r);cases e;rfl
 |flt b=>obtain⟨t,e⟩:=(show ∃t,u=Se b t from r);cases e;rfl
 |ref a=>cases (show u=Lr a from r);rfl
 |ty n=>cases (show u=MY n from r);rfl
section
variable {P:Lb} {w:Ll} {H H':Hp} {h h':Lj} {a C dx:KZ} {fs Wo:List (L0×V)}
theorem oo (hok:jB P w H h) (e:H a=some (.ins C dx fs)):∃mA,uY h a dx C mA/\(∀f,jA (fs.lookup f) (mA f))/\RD mA (fs.map (·.1))/\fs.length<=1000/\H dx=some (.own a):=by
 obtain⟨d,z,ne,ob,mA,n,r,q⟩:=(show bu P w H h a (.ins C dx fs)from hok a _ e)
 exact⟨mA,⟨ob,n,ne⟩,r,q,z,d⟩
end
structure wv (K:KU) (C:KZ):Prop where
 pg:NX K C Str.empty=true
 hd:Oy K C=true
 po:PM K C=true
 sa:LB K (.ref C) "__setattr__"=some (some (.builtin "object.__setattr__"))
theorem wv.get {K:KU} {C:KZ} (c:wv K C) (f:L0):NX K C f=true:=c.pg
def eh (K:KU) (C:KZ) (f:L0):Prop:=LB K (.ref C) f=some none
theorem eh.taker {K:KU} {C:KZ} {f:L0} (n:eh K C f):QA K C f=some none:=by
 unfold QA
 rw[show LB K (.ref C) f=some none from n]
 rfl
structure xL (K:KU) (C:KZ) (m:L0) (f:KZ):Prop where
 at_:LB K (.ref C) m=some (some (.ref f))
 fn:OU K (.ref f)=true
 kp:Mg K (.ref f)=true
section
variable {X:Cx} {Tc:List (KZ×LG)} {σ:St} {H:Hp} {s:KY} {a C dx:KZ} {fs:List (L0×V)} {f:L0} {v:V} {A:LD} {E:KW->KY->Prop}
theorem uZ {b:Bool} {Q:KW->KY->Prop} (I:aw X Tc σ H s) (e:H a=some (.ins C dx fs)) (c:wv X.K C) (n:eh X.K C f) (l:fs.lookup f=some v)
  (h:∀u s',aw X Tc σ H s'->aT v u->Q u s'):wpAny (Lh X.prog X.w) A (getAttr (.ref a) f b) Q E s:=by
 obtain⟨mA,O,r,_,_,_⟩:=oo I.hok e
 obtain⟨u,hu,ru⟩:=jA.some_of (v:=v) (o:=mA f) (by rw[<-l];exact r f)
 exact Ce I.kIn O (c.get f) c.hd n hu (xK ru) (h u _ (I.tok _) ru)
theorem li {m:L0} {g:KZ} {pl:NV Bool} {Q:KW×List KW->KY->Prop} (I:aw X Tc σ H s) (e:H a=some (.ins C dx fs)) (c:wv X.K C) (k:xL X.K C m g) (l:fs.lookup m=none)
  (h:Q (.ref g,[.ref a]) s):wpAny (Lh X.prog X.w) A (ON (.ref a) m pl) Q E s:=by
 obtain⟨mA,O,r,_,_,_⟩:=oo I.hok e
 have hn:mA m=none:=jA.none_of (by rw[<-l];exact r m)
 exact zx I.kIn O (c.get m) k.at_ k.fn hn h
theorem u_ {y:V} {u:KW} {Q:Unit->KY->Prop} (I:aw X Tc σ H s) (e:H a=some (.ins C dx fs)) (c:wv X.K C) (n:eh X.K C f) (hl:fs.length<1000) (ry:aT y u)
  (h:∀s',aw X Tc σ (a_ H a (.ins C dx (gU f y fs))) s'->Q () s'):wpAny (Lh X.prog X.w) A (setAttr (.ref a) f u) Q E s:=by
 obtain⟨mA,O,r,wi,_,ho⟩:=oo I.hok e
 have hz:(fs.map (·.1)).length<=sizeLine:=by rw[L4,Md];omega
 refine Cf I.kIn O c.sa c.po n.taker c.hd wi hz λh' O' sb=>h _ ?_
 have hd:∃o,h'.get? dx=some o:=let ⟨o,_,_,e',_⟩:=O'.ns;⟨o,e'⟩
 refine I.write (x:=a) (e:=dx) (by rw[e];exact MM) (.inr ho) (λb q hb z=>(sb.2 b hb).trans z) hd ?_
 refine⟨by rw[au O.ne];exact ho,?_,O.ne,O'.obj,_,O'.ns,λg=> ?_,λg hg=> ?_⟩
 ·have:=nI f y fs;omega
 ·show jA ((gU f y fs).lookup g) (if g=f then some u else mA g)
  rw[gG]
  by_cases q:g=f
  ·rw[if_pos q,if_pos q];exact ry
  ·rw[if_neg q,if_neg q];exact r g
 ·by_cases q:g=f
  ·rw[q];exact(mM f y fs).1
  ·refine(mM f y fs).2 g (wi g λz=>hg ?_)
   show (if g=f then some u else mA g)=none
   rw[if_neg q];exact z
theorem aw.made (I:aw X Tc σ H s):aw X Tc σ (a_ (a_ H s.heap.objs.size (.own (s.heap.objs.size+1))) (s.heap.objs.size+1) (.ins C s.heap.objs.size []))
  {s with heap:=(s.heap.push Mz).push (MZ C s.heap.objs.size)}:=by
 have e1:(s.heap.push Mz).get? s.heap.objs.size=some Mz:=Lq s.heap rfl
 have e2:((s.heap.push Mz).push (MZ C s.heap.objs.size)).get? (s.heap.objs.size+1)=some (MZ C s.heap.objs.size):=by
  have:=Lq (s.heap.push Mz) (o:=MZ C s.heap.objs.size) rfl
  rwa [Nu]at this
 have e3:(s.heap.push Mz).Ns s.heap.objs.size (λ_=>none):=⟨Mz,#[],_,e1,rfl,(λe he=>absurd he (by simp)),λ_=>rfl⟩
 have I1:=I.laid (a:=s.heap.objs.size) (o:= .own (s.heap.objs.size+1)) (h':=s.heap.push Mz) (t':=s.toks) (λb u q=>L5 _ q) (Li _) ⟨_,e1⟩
 refine I1.laid (a:=s.heap.objs.size+1) (o:= .ins C s.heap.objs.size []) (t':=s.toks) (λb u q=>L5 _ q) (Q5 (Nu _ _)) ?_
 have ne:s.heap.objs.size≠s.heap.objs.size+1:=Lu (NY _)
 refine⟨by rw[au ne,aq],M6 _,ne,e2,λ_=>none,(Heap.Ns1.of_empty e3).at λo q=>L5 _ q,λ_=>MM,λy hy=>absurd rfl hy⟩
theorem Cg {prog:Lb} {w:Ll} {env:MU} {e:La} {f:L0} {pos:LF} {s:KY} {Q:KW->KY->Prop} (hb:ML e f env (Ls e env)=Ls e env)
  (h:wpAny (Lh prog w) A (Ls e env) (λo s₁=>wpAny (Lh prog w) A (getAttr o f true) Q E s₁) E s):wpAny (Lh prog w) A (Ls (.Attribute e f pos) env) Q E s:=
 Attribute_any_ h (by rw[arm_eval_Attribute,hb])
end
def JE (K:KU) (ta:TE) (f:L0):TE:=λσ H Q=>ta σ H λx H1=>∃a C dx fs v,x= .ref a/\H1 a=some (.ins C dx fs)/\wv K C/\eh K C f/\fs.lookup f=some v/\Q v H1
def HA (X:Cx) (op:OJ) (rd:V->V->Hp->VK->Prop):Prop:=
 ∀(Tc:List (KZ×LG)) (s:KY) (σ:St) (H:Hp) (x y:V) (u v:KW) (Q:VK),aw X Tc σ H s->aT x u->aT y v->rd x y H Q->wpAny (Lh X.prog X.w) X.A (Qy op u v) (EP X Tc σ Q) X.xe s
section
variable {X:Cx} {o e value:La} {f:L0} {pos Tj Wg:LF} {ta tv:TE}
theorem Ft (he:PE X e ta) (hb:ML e f X.env (Ls e X.env)=Ls e X.env):PE X (.Attribute e f pos) (JE X.K ta f):=by
 intro Tc s σ H Q I h
 refine Cg hb (bq (he Tc s σ H _ I h) λu s1 z_=> ?_)
 obtain⟨x,H1,I1,rx,a,C,dx,fs,v,ex,ea,c,n,l,q⟩:=z_
 subst ex
 obtain rfl:u=Lr a:=rx
 exact uZ I1 ea c n l λu' s2 I2 ru=>⟨v,H1,I2,ru,q⟩
def JF:V->V->Hp->VK->Prop:=λx y H Q=>∃i j,x= .int i/\y= .int j/\Q (.int (i+j)) H
theorem Fu:HA X .Add JF:=by
 rintro Tc s σ H x y u v Q I rx ry ⟨i,j,rfl,rfl,q⟩
 obtain⟨t,rfl⟩:=(show ∃t,u=N4 i t from rx)
 obtain⟨t',rfl⟩:=(show ∃t',v=N4 j t' from ry)
 exact SN ⟨.int (i+j),H,I.tok _,⟨_,rfl⟩,q⟩
theorem Ek {pl:NV Bool} {m:L0} {Th:LF} {args:List La} {Tc:List (KZ×LG)} {s:KY} {σ:St} {H:Hp} {Q:KW->KY->Prop} {te:TE} (he:PE X e te) (I:aw X Tc σ H s)
  (h:te σ H λx H1=>∃a C dx fs g,x= .ref a/\H1 a=some (.ins C dx fs)/\wv X.K C/\xL X.K C m g/\fs.lookup m=none/\
   ∀s1,aw X Tc σ H1 s1->wpAny (Lh X.prog X.w) X.A (Q6 pos (.ref g) [.ref a] (LM pos (L6 args X.env)) (NN pos (MX [] X.env))) Q X.xe s1)
  (ht:Ls (.Call (.Attribute e m Th) args [] pos) X.env=(do
   let ov<-Ls e X.env
   OM Th.atName
   let (f,first)<-N9 [ov] (ON ov m pl)
   Q6 pos f first (LM pos (L6 args X.env)) (NN pos (MX [] X.env)))):
  wpAny (Lh X.prog X.w) X.A (Ls (.Call (.Attribute e m Th) args [] pos) X.env) Q X.xe s:=by
 refine OO (pl:=pl) (bq (he Tc s σ H _ I h) λu s1 z_=> ?_) ht
 obtain⟨x,H1,I1,rx,a,C,dx,fs,g,ex,ea,c,k,l,q⟩:=z_
 subst ex
 obtain rfl:u=Lr a:=rx
 exact li I1 ea c k l (q s1 I1)
end
section
variable {X:Cx} {Tc:List (KZ×LG)} {σ:St} {H:Hp} {s:KY} {A:LD} {E:KW->KY->Prop} {Q:KW->KY->Prop} {c:KW} {b:Bool}
inductive lL (K:KU) (H:Hp):V->KW->Prop where
 |non:lL K H .non (.type "NoneType")
 |bl (x:Bool):lL K H (.bl x) (.type "bool")
 |int (i:Int):lL K H (.int i) (.type "int")
 |str (x:L0):lL K H (.str x) (.type "str")
 |flt (x:UInt64):lL K H (.flt x) (.type "float")
 |lst {a:KZ} {xs:List V} (e:H a=some (.lst xs)):lL K H (.ref a) (.type "list")
 |frz {a:KZ} {o:LG} {xs:List V} (e:H a=some (.frz o (.lst xs))):lL K H (.ref a) (.type "list")
 |tup {a:KZ} {xs:List V} (e:H a=some (.tup xs)):lL K H (.ref a) (.type "tuple")
 |dK {a:KZ} {kvs:List (aL×V)} (e:H a=some (.dK kvs)):lL K H (.ref a) (.type "dict")
 |dT {a:KZ} {kvs:List (List aL×V)} (e:H a=some (.dT kvs)):lL K H (.ref a) (.type "dict")
 |ins {a C dx:KZ} {fs:List (L0×V)} (e:H a=some (.ins C dx fs)) (cl:wv K C) (ha:LB K (.ref C) "__class__"=some (some (.builtin "object.__class__")))
   (hn:Oz K (.builtin "object.__class__") "__get__"=some (some (.builtin "getset_descriptor.__get__"))) (a0i:OW K (.builtin "object.__class__")=some true)
   (hm:N5 K C (.type "object")=some true):lL K H (.ref a) (.ref C)
theorem xM {x:V} {u t:KW} (I:aw X Tc σ H s) (rx:aT x u) (ty:lL X.K H x t) (e:Pc X.K t c=some b) (h:∀tk,Q (.bool b) {s with toks:=tk}):
  wpAny (Lh X.prog X.w) A (call (.builtin "isinstance") [u,c]) Q E s:=by
 cases ty with
 |non=>cases (show u=M5 from rx);exact Mt PySem.W.kitx_none I.kIn MM e (λz=>nomatch z) h
 |bl y=>cases (show u=R3 y from rx);exact Mt PySem.W.kitx_bool I.kIn MM e (λz=>nomatch z) h
 |int i=>obtain⟨t,q⟩:=(show ∃t,u=N4 i t from rx);cases q;exact Mt PySem.W.kitx_int I.kIn MM e (λz=>nomatch z) h
 |str y=>obtain⟨t,q⟩:=(show ∃t,u=Qx y t from rx);cases q;exact Mt PySem.W.kitx_str I.kIn MM e (λz=>nomatch z) h
 |flt y=>obtain⟨t,q⟩:=(show ∃t,u=Se y t from rx);cases q;exact Mt PySem.W.kitx_float I.kIn MM e (λz=>nomatch z) h
 | @lst a xs ea=>
  cases (show u=Lr a from rx)
  obtain⟨_,_,n,_,h1⟩:=(show bu X.prog X.w H s.heap a (.lst xs)from I.hok a _ ea)
  exact Mt S4 I.kIn ⟨_,h1,rfl⟩ e (λz=>nomatch z) h
 | @frz a ob xs ea=>
  cases (show u=Lr a from rx)
  obtain⟨_,_,_,n,_,h1⟩:=(show bu X.prog X.w H s.heap a (.frz ob (.lst xs))from I.hok a _ ea)
  exact Mt S4 I.kIn ⟨_,h1,rfl⟩ e (λz=>nomatch z) h
 | @tup a xs ea=>
  cases (show u=Lr a from rx)
  obtain⟨_,_,_,p⟩:=(show bu X.prog X.w H s.heap a (.tup xs)from I.hok a _ ea)
  obtain⟨o,h1,h2,_⟩:=p
  exact Mt PySem.W.kitx_tuple I.kIn ⟨o,h1,h2⟩ e (λz=>nomatch z) h
 | @dK a kvs ea=>
  cases (show u=Lr a from rx)
  obtain⟨_,_,vs,_,p⟩:=(show bu X.prog X.w H s.heap a (.dK kvs)from I.hok a _ ea)
  obtain⟨o,es,ep,h1,h2,_⟩:=p
  exact Mt S5 I.kIn ⟨o,h1,h2.1⟩ e (λz=>nomatch z) h
 | @dT a kvs ea=>
  cases (show u=Lr a from rx)
  obtain⟨_,_,xs,_,o,es,ep,h1,h2,_⟩:=(show bu X.prog X.w H s.heap a (.dT kvs)from I.hok a _ ea)
  exact Mt S5 I.kIn ⟨o,h1,h2.1⟩ e (λz=>nomatch z) h
 | @ins a C dx fs ea cl ha hn a0i hm=>
  cases (show u=Lr a from rx)
  obtain⟨mA,O,_⟩:=oo I.hok ea
  obtain⟨od,J,_⟩:=O.look
  exact Mt (PySem.W.kitx_own (cl.get _) cl.hd ha hn a0i hm) I.kIn J e (λz=>nomatch z) h
end
end L2
namespace L2
open PySem PySem.Spec PyProof.Rows
structure cw (k:Nat) (A:LD):Prop where
 hd:A.handled=none
 dp:A.depth+3*k+5<recursionLimit
 un:A.units+16*k+200<Nh
theorem cw.mono {j k:Nat} {A:LD} (r:cw k A) (h:j<=k):cw j A:=⟨r.hd,by have:=r.dp;omega,by have:=r.un;omega⟩
theorem cw.deeper {k:Nat} {A:LD} (r:cw (k+1) A) (env:MU):cw k (A.deeper env):=
 ⟨r.hd,by have:=r.dp;show A.depth+1+3*k+5<_;omega,by have:=r.un;show A.units+3+16*k+200<_;omega⟩
theorem v3 {A:LD} {C:KZ} {us:List KW} {kw:List (L0×KW)}:(A.under (.builtin "type.__call__" ⟨.ref C::us,kw⟩)).depth=A.depth+1:=by
 first|rfl|simp[RK,Code.weight,Code.isCreation,Code.isGuard,Code.isCaller,Code.frames,RM,guardIds]
theorem v4 {A:LD} {C:KZ} {us:List KW} {kw:List (L0×KW)}:(A.under (.builtin "type.__call__" ⟨.ref C::us,kw⟩)).units=A.units+1:=by
 first|rfl|simp[RK,Code.cUnits,Code.frames,RM]
theorem cw.make {k:Nat} {A:LD} (r:cw (k+1) A) (C:KZ) (us:List KW) (kw:List (L0×KW)):cw k (A.under (.builtin "type.__call__" ⟨.ref C::us,kw⟩)):=
 ⟨r.hd,by have:=r.dp;rw[v3];omega,by have:=r.un;rw[v4];omega⟩
theorem cw.depth {k:Nat} {A:LD} (r:cw k A):A.depth<recursionLimit:=by have:=r.dp;omega
theorem cw.units {k:Nat} {A:LD} (r:cw k A):A.units+64<Nh:=by have:=r.un;omega
def HB:TA:=λ_ H Q=>Q [] H
def HC (ta:TE) (tr:TA):TA:=λσ H Q=>ta σ H λx H1=>tr σ H1 λxs H2=>Q (x::xs) H2
section
variable {X:Cx} {e:La} {es:List La} {te:TE} {t:TA} {pos:LF}
theorem iI:PA X [] HB:=λ_ _ _ _ H Q I h=>NQ ⟨[],H,I, .nil,h⟩
theorem eN (ha:PE X e te) (hr:PA X es t) (hs:L6 (e::es) X.env=(false,Ls e X.env)::L6 es X.env:=by rfl):PA X (e::es) (HC te t):=by
 intro pos Tc s σ H Q I h
 rw[hs]
 show wpAny _ _ (QN ((false,Ls e X.env)::LM pos (L6 es X.env))) _ _ s
 refine Nc (bq (ha Tc s σ H _ I h) λu s1 z_=> ?_)
 obtain⟨x,H1,I1,r1,q1⟩:=z_
 exact bq (hr pos Tc s1 σ H1 _ I1 q1) λus s2 ⟨xs,H2,I2,r2,q2⟩=>⟨x::xs,H2,I2, .cons r1 r2,q2⟩
def JG (t:TA):TE:=λσ H Q=>t σ H λxs H1=>xs.length<=sizeLine/\∀p,H1 p=none->Q (.ref p) (a_ H1 p (.tup xs))
def JH (t:TA):TE:=λσ H Q=>t σ H λxs H1=>xs.length<=sizeLine/\∀p,H1 p=none->Q (.ref p) (a_ H1 p (.lst xs))
theorem Fv {x1} (h:PA X es t):PE X (.Tuple es x1 pos) (JG t):=by
 intro Tc s σ H Q I hq
 refine wpAny_Tuple_spliced (bq (h pos Tc s σ H _ I hq) λus s1 ⟨xs,H1,I1,r,z,q⟩=>⟨by rw[<-r.length];exact z,?_⟩)
 have hf:H1 s1.heap.objs.size=none:=I1.hok.fresh (Li _)
 refine⟨.ref s1.heap.objs.size,a_ H1 s1.heap.objs.size (.tup xs),I1.laid (t':=s1.toks) (λb u e=>L5 _ e) (Li _) ?_,rfl,q _ hf⟩
 exact⟨z,us,r,⟨_,Lq _ rfl,rfl,_,rfl,rfl⟩⟩
theorem zA (h:PA X es t):PE X (.List es pos) (JH t):=by
 intro Tc s σ H Q I hq
 refine wpAny_List_spliced (bq (h pos Tc s σ H _ I hq) λus s1 ⟨xs,H1,I1,r,z,q⟩=>⟨by rw[<-r.length];exact z,?_⟩)
 have hf:H1 s1.heap.objs.size=none:=I1.hok.fresh (Li _)
 refine⟨.ref s1.heap.objs.size,a_ H1 s1.heap.objs.size (.lst xs),I1.laid (t':=s1.toks) (λb u e=>L5 _ e) (Li _) ?_,rfl,q _ hf⟩
 exact⟨z,us,0,r,Lq _ rfl⟩
end
abbrev Sp:=List V->Hp->VK->XK->Prop
abbrev v5:=List MU->Hp->KY->XK->KW->KY->Prop
structure v6 (P:Lb) (w:Ll) (K:KU) (mg:L0->Option KW) (base:Lj) (A:LD) (outer:List MU) (s:KY) (H:Hp):Prop where
 frames:A.frames=some outer
 mod:Mod K mg base
 bs:∀b o,base.get? b=some o->s.heap.get? b=some o/\H b=none
 bsz:base.objs.size<=s.heap.objs.size
 funs:s.heap.FunFrames base outer
 frf:∀b∈ol outer,H b=none
 hok:jB P w H s.heap
 bare:Oj s.gens
def CE (outer:List MU) (P:Lb) (w:Ll) (H:Hp) (s:KY) (Q:VK) (u:KW) (s':KY):Prop:=
 ∃v H',s'.os=s.os/\Oj s'.gens/\Un (ol outer) [] H H' s.heap s'.heap/\jB P w H' s'.heap/\aT v u/\Q v H'
def CR (CX:v5) (outer:List MU) (P:Lb) (w:Ll) (H:Hp) (s:KY) (Q:VK) (E:XK) (r:Q4) (s':KY):Prop:=
 match r with
 | .ok (.ret u)=>CE outer P w H s Q u s'
 | .ok _=>False
 | .error e=>CX outer H s E e s'
structure eY (P:Lb) (w:Ll) (K:KU) (mg:L0->Option KW) (base:Lj) (CX:v5) (k:Nat) (f:KZ) (fd:MD) (ps:List L0) (sp:Sp):Prop where
 len:∀vs H Q E,sp vs H Q E->vs.length=ps.length
 run:∀(A:LD) (outer:List MU) (s:KY) (H:Hp) (args:Args) (us:List KW) (vs:List V) (Q:VK) (E:XK),cw k A->v6 P w K mg base A outer s H->QR s fd args (ps.zip us)->aK vs us->sp vs H Q E->
  Ng (Lh P w) A (.call (.ref f) args) (CR CX outer P w H s Q E) s
theorem eY.mono {P:Lb} {w:Ll} {K:KU} {mg:L0->Option KW} {base:Lj} {CX:v5} {j k:Nat} {f:KZ} {fd:MD} {ps:List L0} {sp:Sp} (F:eY P w K mg base CX j f fd ps sp) (h:j<=k):
  eY P w K mg base CX k f fd ps sp:=⟨F.len,λA outer s H args us vs Q E hr=>F.run A outer s H args us vs Q E (hr.mono h)⟩
theorem eY.imp {P:Lb} {w:Ll} {K:KU} {mg:L0->Option KW} {base:Lj} {CX:v5} {k:Nat} {f:KZ} {fd:MD} {ps:List L0} {sp a0j:Sp} (F:eY P w K mg base CX k f fd ps sp)
  (h:∀vs H Q E,a0j vs H Q E->sp vs H Q E):eY P w K mg base CX k f fd ps a0j:=
 ⟨λvs H Q E q=>F.len vs H Q E (h _ _ _ _ q),λA outer s H args us vs Q E hr he hb hv hs=>F.run A outer s H args us vs Q E hr he hb hv (h _ _ _ _ hs)⟩
theorem v6.make {P:Lb} {w:Ll} {K:KU} {mg:L0->Option KW} {base:Lj} {A:LD} {outer:List MU} {s:KY} {H:Hp} (e:v6 P w K mg base A outer s H) (C:KZ) (us:List KW) (kw:List (L0×KW)):
  v6 P w K mg base (A.under (.builtin "type.__call__" ⟨.ref C::us,kw⟩)) outer s H:=⟨by first|exact e.frames|(simpa[RK,Code.envs,RM,pushEnvs]using e.frames),e.mod,e.bs,e.bsz,e.funs,e.frf,e.hok,e.bare⟩
section
variable {X:Cx} {Tc:List (KZ×LG)} {σ:St} {H:Hp} {s s':KY}
theorem aw.env0 (I:aw X Tc σ H s):v6 X.prog X.w X.K X.mg X.base X.A X.stack s H:=
 ⟨I.ok.frames,I.ok.mod,I.bs,LL I.ok.bsz I.sz,I.stack,I.stkFree,I.hok,I.bare⟩
theorem aw.after {Q:VK} {u:KW} (I:aw X Tc σ H s) (h:CE X.stack X.prog X.w H s Q u s'):EP X Tc σ Q u s':=by
 obtain⟨v,H',os,bare,un,hok,r,q⟩:=h
 obtain⟨hh,g,d,t,YY⟩:=s'
 obtain rfl:YY=s.os:=os
 exact⟨v,H',I.call (h':=hh) (g':=g) (d':=d) (t':=t) (ch:=[]) un hok bare (λb z=>absurd z (by simp)),r,q⟩
end
def El (sp:Sp) (Uz:List V) (E:St->XK) (t:TA):TE:=λσ H Q=>t σ H λvs H1=>sp (vs++Uz) H1 Q (E σ)
def zB (C:KZ) (m:L0) (sp:Sp) (Uz:List V) (E:St->XK) (ta:TE) (t:TA):TE:=λσ H Q=>ta σ H λx H1=>∃a dx fs,x= .ref a/\H1 a=some (.ins C dx fs)/\fs.lookup m=none/\
 t σ H1 λvs H2=>sp (x::(vs++Uz)) H2 Q (E σ)
def HD (C:KZ) (sp:Sp) (Uz:List V) (E:St->XK) (t:TA):TE:=λσ H Q=>t σ H λvs H1=>∀x dx,H1 x=none->H1 dx=none->dx≠x->
 sp (.ref x::(vs++Uz)) (a_ (a_ H1 dx (.own x)) x (.ins C dx [])) (λv H2=>v= .non/\Q (.ref x) H2) (E σ)
def fD (K:KU) (fd:MD) (ps:List L0) (ds:List KW):Prop:=
 ∀(s:KY) (us:List KW),K.In s.heap->(us++ds).length=ps.length->QR s fd ⟨us,[]⟩ (ps.zip (us++ds))
theorem fD.all {K:KU} {fd:MD} {ps:List L0} (h:∀us:List KW,us.length=ps.length->Na fd ⟨us,[]⟩=pure (ps.zip us)):fD K fd ps []:=λs us _ hl=>by
 rw[Mb]at hl ⊢
 exact .of_eq (h us hl)
def jF (CX:v5) (X:Cx) (E:St->XK):Prop:=∀(Tc:List (KZ×LG)) (σ:St) (H:Hp) (s:KY) (e:KW) (s':KY),aw X Tc σ H s->CX X.stack H s (E σ) e s'->X.xe e s'
section
variable {X:Cx} {CX:v5} {k:Nat} {f C:KZ} {fd:MD} {ps:List L0} {sp:Sp} {Uz:List V} {ds:List KW} {E:St->XK} {x m:L0} {p pos Th:LF} {e o:La} {es:List La} {ta:TE} {t:TA}
theorem v7 {Tc:List (KZ×LG)} {σ:St} {H:Hp} {s:KY} {Q:VK} {us:List KW} {vs:List V} (F:eY X.prog X.w X.K X.mg X.base CX k f fd ps sp) (hr:cw k X.A) (hb:fD X.K fd ps ds) (hd:aK Uz ds) (hx:jF CX X E)
  (I:aw X Tc σ H s) (r:aK vs us) (h:sp (vs++Uz) H Q (E σ)):wpAny (Lh X.prog X.w) X.A (call (.ref f) us) (EP X Tc σ Q) X.xe s:=by
 have r2:aK (vs++Uz) (us++ds):=r.append hd
 have hl:(us++ds).length=ps.length:=by rw[<-r2.length];exact F.len _ _ _ _ h
 refine SD (NS (F.run X.A X.stack s H ⟨us,[]⟩ (us++ds) (vs++Uz) Q (E σ) hr I.env0 (hb s us I.kIn hl) r2 h) λr s' hq=> ?_)
 cases r with
 |error e=>exact hx Tc σ H s e s' I hq
 |ok fl=>
  cases fl with
  |ret u=>exact I.after hq
  |next=>exact ME hq
  |brk=>exact ME hq
  |cont=>exact ME hq
theorem Ch (F:eY X.prog X.w X.K X.mg X.base CX k f fd ps sp) (hr:cw k X.A) (hg:Gl X x) (hm:X.mg x=some (.ref f)) (hk:Mg X.K (.ref f)=true) (hb:fD X.K fd ps ds) (hd:aK Uz ds) (hx:jF CX X E)
  (ha:PA X (e::es) t) (Ue:(x==("__debug__":L0))=false:=by decide) (he:L6 (e::es) X.env=(false,Ls e X.env)::L6 es X.env:=by rfl) (TC:(LM pos (L6 es X.env)).any (·.1)=false:=by rfl):
  PE X (.Call (.Name x p) (e::es) [] pos) (El sp Uz E t):=by
 intro Tc s σ H Q I h
 refine Mv (om I hg hm ?_ Ue)
 refine Ph (h₀:=X.base) I.ok.mod.kin hk (bq (ha pos Tc s σ H _ I h) λus s1 ⟨vs,H1,I1,r,q⟩=>⟨I1.kIn,?_⟩) he TC
 exact v7 F hr hb hd hx I1 r q
theorem Ci {pl:NV Bool} (he:PE X o ta) (c:wv X.K C) (hm:xL X.K C m f) (F:eY X.prog X.w X.K X.mg X.base CX k f fd ps sp) (hr:cw k X.A) (hb:fD X.K fd ps ds) (hd:aK Uz ds) (hx:jF CX X E) (ha:PA X (e::es) t)
  (Tz:L6 (e::es) X.env=(false,Ls e X.env)::L6 es X.env:=by rfl) (TC:(LM pos (L6 es X.env)).any (·.1)=false:=by rfl)
  (ht:Ls (.Call (.Attribute o m Th) (e::es) [] pos) X.env=(do
   let ov<-Ls o X.env
   OM Th.atName
   let (f,first)<-N9 [ov] (ON ov m pl)
   Q6 pos f first (LM pos (L6 (e::es) X.env)) (NN pos (MX [] X.env))):=by rfl):
  PE X (.Call (.Attribute o m Th) (e::es) [] pos) (zB C m sp Uz E ta t):=by
 intro Tc s σ H Q I h
 refine OO (pl:=pl) (bq (he Tc s σ H _ I h) λu s1 z_=> ?_) ht
 obtain⟨x,H1,I1,rx,a,dx,fs,ex,ea,l,q⟩:=z_
 subst ex
 obtain rfl:u=Lr a:=rx
 refine li I1 ea c hm l ?_
 refine Ph (first:=[.ref a]) (h₀:=X.base) I.ok.mod.kin hm.kp (bq (ha pos Tc s1 σ H1 _ I1 q) λus s2 ⟨vs,H2,I2,r,q2⟩=>⟨I2.kIn,?_⟩) Tz TC
 exact v7 (us:= .ref a::us) (vs:= .ref a::vs) F hr hb hd hx I2 (.cons rfl r) q2
theorem zC {pl:NV Bool} (he:PE X o ta) (c:wv X.K C) (hm:xL X.K C m f) (F:eY X.prog X.w X.K X.mg X.base CX k f fd ps sp) (hr:cw k X.A) (hb:fD X.K fd ps ds) (hd:aK Uz ds) (hx:jF CX X E)
  (ht:Ls (.Call (.Attribute o m Th) [] [] pos) X.env=(do
   let ov<-Ls o X.env
   OM Th.atName
   let (f,first)<-N9 [ov] (ON ov m pl)
   Q6 pos f first (LM pos (L6 [] X.env)) (NN pos (MX [] X.env))):=by rfl):
  PE X (.Call (.Attribute o m Th) [] [] pos) (zB C m sp Uz E ta HB):=by
 intro Tc s σ H Q I h
 refine OO (pl:=pl) (bq (he Tc s σ H _ I h) λu s1 z_=> ?_) ht
 obtain⟨x,H1,I1,rx,a,dx,fs,ex,ea,l,q⟩:=z_
 subst ex
 obtain rfl:u=Lr a:=rx
 refine li I1 ea c hm l ?_
 exact PySem.W.callWith_K0 (first:=[.ref a]) I1.kIn hm.kp (v7 (us:=[.ref a]) (vs:=[.ref a]) F hr hb hd hx I1 (.cons rfl .nil) q)
structure Mk (K:KU) (C f:KZ):Prop where
 makes:OV K C=true
 init:LB K (.ref C) "__init__"=some (some (.ref f))
 fn:OU K (.ref f)=true
 kp:Mg K (.ref C)=true
theorem zD {Tc:List (KZ×LG)} {σ:St} {H:Hp} {s:KY} {Q:VK} {us:List KW} {vs:List V} (M:Mk X.K C f) (F:eY X.prog X.w X.K X.mg X.base CX k f fd ps sp) (hr:cw (k+1) X.A) (hb:fD X.K fd ps ds) (hd:aK Uz ds)
  (hx:jF CX X E) (I:aw X Tc σ H s) (r:aK vs us)
  (h:∀x dx,H x=none->H dx=none->dx≠x->sp (.ref x::(vs++Uz)) (a_ (a_ H dx (.own x)) x (.ins C dx [])) (λv H2=>v= .non/\Q (.ref x) H2) (E σ)):
  wpAny (Lh X.prog X.w) X.A (call (.ref C) us) (EP X Tc σ Q) X.xe s:=by
 have hq:=h (s.heap.objs.size+1) s.heap.objs.size (I.hok.fresh (OB _)) (I.hok.fresh (Li _)) (Lu (NY _))
 have I2:=aw.made (C:=C) I
 have r2:aK (V.ref (s.heap.objs.size+1)::(vs++Uz)) (Lr (s.heap.objs.size+1)::(us++ds)):= .cons rfl (r.append hd)
 have hl:(Lr (s.heap.objs.size+1)::us++ds).length=ps.length:=by
  have e:=r2.length
  rw[F.len _ _ _ _ hq]at e
  exact e.symm
 refine SD (zy (f:=f) I.kIn M.makes M.init (beq_iff_eq.mp M.fn) (NS (F.run _ X.stack _ _ ⟨Lr (s.heap.objs.size+1)::us,[]⟩ (Lr (s.heap.objs.size+1)::(us++ds)) _ _ (E σ) (hr.make C us [])
  (I2.env0.make C us []) (hb _ (Lr (s.heap.objs.size+1)::us) I2.kIn hl) r2 hq) λr s' Xq=> ?_))
 cases r with
 |error e=>exact hx Tc σ _ _ e s' I2 Xq
 |ok fl=>
  cases fl with
  |ret u=>
   obtain⟨v,H',I3,rv,ev,q3⟩:=I2.after Xq
   subst ev
   exact⟨rv,⟨V.ref (s.heap.objs.size+1),H',I3,rfl,q3⟩⟩
  |next=>exact ME Xq
  |brk=>exact ME Xq
  |cont=>exact ME Xq
theorem Cj (M:Mk X.K C f) (F:eY X.prog X.w X.K X.mg X.base CX k f fd ps sp) (hr:cw (k+1) X.A) (hg:Gl X x) (hm:X.mg x=some (.ref C)) (hb:fD X.K fd ps ds) (hd:aK Uz ds) (hx:jF CX X E)
  (ha:PA X (e::es) t) (Ue:(x==("__debug__":L0))=false:=by decide) (he:L6 (e::es) X.env=(false,Ls e X.env)::L6 es X.env:=by rfl) (TC:(LM pos (L6 es X.env)).any (·.1)=false:=by rfl):
  PE X (.Call (.Name x p) (e::es) [] pos) (HD C sp Uz E t):=by
 intro Tc s σ H Q I h
 refine Mv (om I hg hm ?_ Ue)
 refine Ph (h₀:=X.base) I.ok.mod.kin M.kp (bq (ha pos Tc s σ H _ I h) λus s1 ⟨vs,H1,I1,r,q⟩=>⟨I1.kIn,?_⟩) he TC
 exact zD M F hr hb hd hx I1 r q
end
section
variable {X:Cx} {CX:v5} {k:Nat} {f C:KZ} {fd:MD} {ps ks:List L0} {sp:Sp} {E:St->XK} {x m:L0} {p pos Th a1a:LF} {e o:La} {es:List La} {a3d:List O6} {te ta:TE} {t tk:TA} {nm:Option L0}
variable {g:List KW->List KW->List KW} {gV:List V->List V->List V}
end
structure bd (N P:List L0) (sc:MO):Prop where
 kind:sc.kind= .function
 co:sc.isCoroutine=false
 gen:sc.isGenerator=false
 nd:N.Nodup
 pre:N.take P.length=P
 par:∀x∈P,sc.names.lookup x=some .local\/sc.names.lookup x=some .cell
 nofree:∀y∈sc.names,y.2≠ .free
theorem qA {kindOf:L0->Option Mf} {x:L0}:∀{binds:List (L0×KW)} {m:L0->Option KW},(∀v,(x,v)∉binds)->R7 kindOf binds m x=m x
 |[],_,_=>rfl
 |(n,v)::r,m,h=>by
  unfold R7
  rw[qA λw hw=>h w (L7 _ hw)]
  split
  ·have:x≠n:=by rintro rfl;exact h v L8
   simp[this]
  ·rfl
theorem qB {kindOf:L0->Option Mf} {x:L0}:∀{binds:List (L0×KW)} {m:L0->Option KW},(∀v,(x,v)∉binds)->R8 kindOf binds m x=m x
 |[],_,_=>rfl
 |(n,v)::r,m,h=>by
  unfold R8
  rw[qB λw hw=>h w (L7 _ hw)]
  split
  ·rfl
  ·have:x≠n:=by rintro rfl;exact h v L8
   simp[this]
theorem qC {kindOf:L0->Option Mf} {x:L0} {v:KW}:∀{P:List L0} {vs:List KW} {i:Nat} {m:L0->Option KW},P.Nodup->P[i]? =some x->vs[i]? =some v->kindOf x=some .local->
  R7 kindOf (P.zip vs) m x=some v
 |[],_,_,_,_,h,_,_=>by simp at h
 |_::_,[],_,_,_,_,h,_=>by simp at h
 |p::P,w::vs,0,m,nd,h1,h2,hk=>by
  simp at h1 h2;subst h1;subst h2
  show R7 kindOf ((p,w)::P.zip vs) m p=_
  unfold R7
  rw[qA λv hv=>(LN.mp nd).1 (QB hv).1,if_pos hk]
  simp
 |p::P,w::vs,i+1,m,nd,h1,h2,hk=>by
  show R7 kindOf ((p,w)::P.zip vs) m x=_
  unfold R7
  exact qC (i:=i) (LN.mp nd).2 (by simpa using h1) (by simpa using h2) hk
theorem qD {kindOf:L0->Option Mf} {x:L0} {v:KW}:∀{P:List L0} {vs:List KW} {i:Nat} {m:L0->Option KW},P.Nodup->P[i]? =some x->vs[i]? =some v->kindOf x≠some .local->
  R8 kindOf (P.zip vs) m x=some v
 |[],_,_,_,_,h,_,_=>by simp at h
 |_::_,[],_,_,_,_,h,_=>by simp at h
 |p::P,w::vs,0,m,nd,h1,h2,hk=>by
  simp at h1 h2;subst h1;subst h2
  show R8 kindOf ((p,w)::P.zip vs) m p=_
  unfold R8
  rw[qB λv hv=>(LN.mp nd).1 (QB hv).1,if_neg hk]
  simp
 |p::P,w::vs,i+1,m,nd,h1,h2,hk=>by
  show R8 kindOf ((p,w)::P.zip vs) m x=_
  unfold R8
  exact qD (i:=i) (LN.mp nd).2 (by simpa using h1) (by simpa using h2) hk
def cn (N:List L0) (vs:List V):St:=vs.map some++LC (N.length - vs.length) none
def jG (CX:v5) (P:Lb) (w:Ll) (K:KU) (mg:L0->Option KW) (base:Lj) (N:List L0) (qual:L0) (scope:MO) (f:KZ) (cd:KW) (A:LD) (outer:List MU) (s:KY) (H:Hp) (E:XK):Cx where
 prog:=P
 w:=w
 K:=K
 mg:=mg
 base:=base
 A:=A.deeper (NG qual scope s.heap.objs.size f cd)
 N:=N
 s₀:=s
 H₀:=H
 env:=NG qual scope s.heap.objs.size f cd
 outer:=outer
 stack:=NG qual scope s.heap.objs.size f cd::outer
 ex:=[]
 calm:=true
 fn:=λ_=>true
 pn:=[]
 xe:=λe s'=>wpAny (Lh P w) (A.deeper (NG qual scope s.heap.objs.size f cd)) (leaving (NG qual scope s.heap.objs.size f cd) e) (λ_ UA=>CX outer H s E e UA) (λe' UA=>CX outer H s E e' UA) s'
theorem t8 {sc:MO} {n:Nat} {x:L0} (h:sc.names.lookup x=some .cell):∃c,(cellsFrom n sc.names []).lookup x=some c:=by
 have q:=QG sc.names n [] (.inl h)
 exact Option.isSome_iff_exists.mp q
theorem xN {CX:v5} {P:Lb} {w:Ll} {K:KU} {mg:L0->Option KW} {base:Lj} {N ps:List L0} {qual:L0} {scope:MO} {f:KZ} {cd:KW} {A:LD} {outer:List MU} {s s1:KY} {H:Hp} {E:XK} {us:List KW} {vs:List V}
  (S:bd N ps scope) (hd:A.handled=none) (e0:v6 P w K mg base A outer s H) (hl:vs.length=ps.length) (r:aK vs us)
  (x:InCallC s s.heap.objs.size (R7 (NG qual scope s.heap.objs.size f cd).kindOf (ps.zip us) λ_=>none) (cellsFrom (s.heap.objs.size+1) scope.names []) (R8 (NG qual scope s.heap.objs.size f cd).kindOf (ps.zip us) λ_=>none) s1):
  aw (jG CX P w K mg base N qual scope f cd A outer s H E) [] (cn N vs) H s1:=by
 have TC:ps.length<=N.length:=by have:=congrArg Nt S.pre;rw[Nz]at this;omega
 obtain⟨h1,tk,rfl,hk⟩:=x.done
 have XQ:∀b:KZ,b∉(jG CX P w K mg base N qual scope f cd A outer s H E).ex:=λb z=>absurd (show b∈([]:List KZ)from z) (by simp)
 refine⟨⟨e0.mod,S.kind,rfl,rfl,Li _,λy z c h1 h2=> ?_,λy hy=> ?_,λy c _ h=> ?_,λ_=>hd,Around.frames_deeper e0.frames, .inr ⟨rfl,rfl⟩,λb z=>absurd z (XQ b),e0.bs,e0.bsz,λb _ _=>XQ b,λb z=>absurd z (XQ b),e0.funs,e0.frf⟩,
  rfl,e0.bare,Un.kept hk,⟨_,x.toInCall.ns,λi y v h1 h2 h3=> ?_⟩,λy c h=>⟨_,x.cell y c h⟩,e0.hok.fresh (Li _),λy c h=> ?_,λp hp=>absurd (show p∈([]:List (KZ×LG))from hp) (by simp),e0.hok.kept hk,?_⟩
 ·exact name_of_addr x.apart (ND h1) (ND h2)
 ·have hy:scope.names.lookup y=some .cell\/scope.names.lookup y=some .free:=hy
  rcases hy with hy|hy
  ·exact t8 hy
  ·exact absurd rfl (S.nofree _ (ND hy))
 ·exact Nw (x.above y c (ND h))
 ·have hi:i<vs.length:=by
   unfold cn at h2
   by_cases hi:i<vs.length
   ·exact hi
   ·rw[Pw (by simpa using hi)]at h2
    rw[N7]at h2
    split at h2<;>cases h2
  have ha:vs[i]? =some v:=by
   unfold cn at h2
   rw[Oa (by simpa using hi),LA]at h2
   cases e:vs[i]? with
   |none=>rw[e]at h2;cases h2
   |some a=>rw[e]at h2;cases h2;rfl
  obtain⟨u,hu,rv⟩:=r.get ha
  have hp:ps[i]? =some y:=by
   rw[<-S.pre,List.getElem?_take_of_lt (by omega)];exact h1
  have a0k:ps.Nodup:=by rw[<-S.pre];exact S.nd.sublist (List.take_sublist _ _)
  refine⟨u,rv,?_⟩
  rcases S.par y (Mj hp)with k|k
  ·exact .inl ⟨k,qC a0k hp hu k⟩
  ·obtain⟨c,e⟩:=t8 (n:=s.heap.objs.size+1) k
   refine .inr ⟨.inl k,c,e,?_⟩
   have q:=x.cell y c e
   rw[qD a0k hp hu (by show scope.names.lookup y≠_;rw[k];decide)]at q
   exact q
 ·exact e0.hok.fresh (Nw (x.above y c (ND h)))
 ·unfold cn
  show _=N.length
  rw[LX,L4,QS]
  omega
theorem Em {CX:v5} {P:Lb} {w:Ll} {K:KU} {mg:L0->Option KW} {base:Lj} {k:Nat} {f:KZ} {name qual:L0} {params:Arguments} {body:List Ly} {scope:MO} {dV kV TF pm Tg ct oc:KW} {an od:Option KZ}
  {Uq:Array (Option KW)} {N ps:List L0} {sp:Sp} (lk:K.lookup f=some ⟨oc,od, .func (M3 name qual params body scope dV kV TF pm an Tg ct),Uq⟩) (Ua:Nv K Tg qual=true) (S:bd N ps scope)
  (len:∀vs H Q E,sp vs H Q E->vs.length=ps.length)
  (Tr:∀(A:LD) (outer:List MU) (s:KY) (H:Hp) (vs:List V) (Q:VK) (E:XK),cw k (A.deeper (NG qual scope s.heap.objs.size f Tg))->sp vs H Q E->
   ∃t,qe (jG CX P w K mg base N qual scope f Tg A outer s H E) body t/\t {nx:=λ_ H'=>Q .non H',rt:=Q} (cn N vs) H):
  eY P w K mg base CX (k+1) f (M3 name qual params body scope dV kV TF pm an Tg ct) ps sp:=by
 refine⟨len,λA outer s H args us vs Q E hr e0 hb r W9=> ?_⟩
 have hl:=len _ _ _ _ W9
 have KX:K.In s.heap:=e0.mod.kin.keeps λb o e=>(e0.bs b o e).1
 have lim:s.heap.NoLimit:=e0.mod.nolimit.keeps λb o e=>(e0.bs b o e).1
 have UX:∀y∈ps.zip us,scope.names.lookup y.1=some .local\/(scope.names.lookup y.1=some .cell/\((cellsFrom (s.heap.objs.size+1) scope.names []).lookup y.1).isSome=true):=λ⟨n,v⟩ hy=>by
  rcases S.par n (QB hy).1 with q|q
  ·exact .inl q
  ·exact .inr ⟨q,QG _ _ _ (.inl q)⟩
 refine codeAny_call_function hr.depth (KX _ _ lk) rfl S.co S.gen rfl (PySem.W.codeRec_of KX Ua) (hb _ _ _ _ ?_)
 refine wpAny_newFunctionEnv_cells S.kind UX λenv he s1 x=> ?_
 subst he
 refine⟨lim.keeps x.toInCall.keep,codeAny_func ?_⟩
 obtain⟨t,ht,hq⟩:=Tr A outer s H vs Q E (hr.deeper _) W9
 have I:aw (jG CX P w K mg base N qual scope f Tg A outer s H E) [] (cn N vs) H s1:=xN S hr.hd e0 hl r x
 refine M8 (ht [] s1 (cn N vs) H _ I hq) (λfl s' hs=> ?_) λe s' hs=>hs
 have U5:∀{σ':St} {H':Hp} {v:V} {u:KW},aw (jG CX P w K mg base N qual scope f Tg A outer s H E) [] σ' H' s'->aT v u->Q v H'->CE outer P w H s Q u s':=
  λ{σ' H' v u} J rv q=>⟨v,H',J.os,J.bare,J.base,J.hok,rv,q⟩
 cases fl with
 |ret u=>
  obtain⟨v,σ',H',J,rv,q⟩:=hs
  exact U5 J rv q
 |next=>
  obtain⟨σ',H',J,q⟩:=hs
  exact U5 (v:=V.non) (u:=M5) J rfl q
 |brk=>
  obtain⟨_,_,_,q⟩:=hs
  exact ME q
 |cont=>
  obtain⟨_,_,_,q⟩:=hs
  exact ME q
end L2
namespace L2
open PySem PySem.Spec PyProof.Rows
section
variable {X:Cx} {x:L0} {p pos:LF} {e:La} {es:List La} {t:TA} {id T:String} {r:List V->Hp->VK->Prop}
def JI (r:List V->Hp->VK->Prop) (t:TA):TE:=λσ H Q=>t σ H λvs H1=>r vs H1 Q
theorem oH (hc:ck X (.builtin id) r) (hg:Gl X x) (hm:X.mg x=none) (hv:LK x=some (.builtin id)) (ha:PA X (e::es) t) (hn:x≠"__name__":=by decide) (Ue:(x==("__debug__":L0))=false:=by decide)
  (he:L6 (e::es) X.env=(false,Ls e X.env)::L6 es X.env:=by rfl) (TC:(LM pos (L6 es X.env)).any (·.1)=false:=by rfl):PE X (.Call (.Name x p) (e::es) [] pos) (JI r t):=by
 intro Tc s σ H Q I h
 refine Mv (gT I hg hm hv ?_ hn Ue)
 exact NH (bq (ha pos Tc s σ H _ I h) λus s1 ⟨vs,H1,I1,r1,q1⟩=>hc Tc s1 σ H1 vs us Q I1 r1 q1) he TC
theorem kF (hc:ck X (.type T) r) (hg:Gl X x) (hm:X.mg x=none) (hv:LK x=some (.type T)) (ha:PA X (e::es) t) (hn:x≠"__name__":=by decide) (Ue:(x==("__debug__":L0))=false:=by decide)
  (he:L6 (e::es) X.env=(false,Ls e X.env)::L6 es X.env:=by rfl) (TC:(LM pos (L6 es X.env)).any (·.1)=false:=by rfl):PE X (.Call (.Name x p) (e::es) [] pos) (JI r t):=by
 intro Tc s σ H Q I h
 refine Mv (gT I hg hm hv ?_ hn Ue)
 exact Mu (bq (ha pos Tc s σ H _ I h) λus s1 ⟨vs,H1,I1,r1,q1⟩=>hc Tc s1 σ H1 vs us Q I1 r1 q1) he TC
end
end L2
namespace HT
open PySem PyProof.Rows
section
open PySem.SeqAt
open PySem.AutoSeq1 (wpAny_loadPart')
open PySem.MeetsSeq PySem.MeetsSeq2 PySem.MeetsSeq3
end
section
variable {prog:Lb} {w:Ll} {A:LD} {E:KW->KY->Prop} {s:KY}
theorem Ck {t b:KZ} {vs ws:List KW} {Q:KW->KY->Prop} (ht:PY s.heap t vs.toArray) (hb:PY s.heap b ws.toArray) (hv:vs≠[])
  (h1:ws=[]->Q (.ref t) s) (h2:ws≠[]->Q (.ref s.heap.objs.size) {s with heap:=s.heap.push {cls:= .type "tuple",data:= .seq (vs++ws).toArray}})
  (hsz:vs.length+ws.length<=sizeLine):wpAny (Lh prog w) A (MT .Add (.ref t) (.ref b)) Q E s:=by
 obtain⟨⟨cls,dd,data,sl⟩,ho,hc,n,hd⟩:=id ht
 obtain⟨⟨YZ,Wt,data2,Xr⟩,WH,XR,n2,WI⟩:=id hb
 simp only at hc hd XR WI
 subst hc hd XR WI
 have e:vs.toArray++ws.toArray=(vs++ws).toArray:=by simp
 by_cases hw:ws=[]
 ·exact RN ⟨_,ho,rfl⟩ ⟨_,WH,rfl⟩ Q7 Ro OC Ot (Of _ _)
   (tuple_addW1 t b vs.toArray ws.toArray n n2 dd Wt sl Xr (by simpa using hv) (by simp[hw])) ⟨ho,WH,h1 hw⟩
 ·refine RN ⟨_,ho,rfl⟩ ⟨_,WH,rfl⟩ Q7 Ro OC Ot (Of _ _)
   (tuple_addW2 t b vs.toArray ws.toArray n n2 dd Wt sl Xr (by simpa using hv) (by simpa using hw) (by rw[Ld,Ld];exact hsz)) ⟨ho,WH,?_⟩
  rw[e]
  exact h2 hw
def cX (n d:Nat):Option Int->Nat
 |none=>d
 |some v=>if v<0 then (v+(n:Int)).toNat else min v.toNat n
theorem Fw (n d:Nat) (hd:d<=n) (o:Option Int):cX n d o<=n:=by
 cases o with
 |none=>exact hd
 |some v=>
  show (if v<0 then (v+(n:Int)).toNat else min v.toNat n)<=n
  by_cases hv:v<0
  ·rw[if_pos hv];omega
  ·rw[if_neg hv];exact Nat.min_le_right _ _
theorem ww (v:Int) (n d:Nat):(if v<0 then max (v+(n:Int)) 0 else min v (n:Int))=((cX n d (some v):Nat):Int):=by
 show (if v<0 then max (v+(n:Int)) 0 else min v (n:Int))=(((if v<0 then (v+(n:Int)).toNat else min v.toNat n):Nat):Int)
 by_cases hv:v<0
 ·simp only[if_pos hv];omega
 ·simp only[if_neg hv];omega
theorem v8 (lo hi:Option Int) (n:Nat):Ob lo hi 1 (n:Int)=(((cX n 0 lo:Nat):Int),((cX n n hi:Nat):Int)):=by
 have h1:¬((1:Int)<0):=by omega
 unfold Ob
 simp only[h1,if_false]
 refine Prod.ext ?_ ?_
 ·cases lo with
  |none=>rfl
  |some v=>exact ww v n 0
 ·cases hi with
  |none=>rfl
  |some v=>exact ww v n n
theorem v9 (i j:Nat):Np (i:Int) (j:Int) 1=j - i:=by
 unfold Np
 have h1:(1:Int)>0:=by omega
 simp only[h1,if_true,Int.ediv_one]
 split<;>omega
theorem oJ {v:KW} {o:Option Int} {Q:Option Int->KY->Prop} (p:OX v o) (h:Q o s):wpAny (Lh prog w) A (Builtin.Slice.slicePartIndex v) Q E s:=by
 cases p with
 |none=>exact slicePart_none h
 |int i t=>exact slicePart_int h
theorem ip {sl:KZ} {vl vu:KW} {lo hi:Option Int} {n:Nat} {Q:Int×Int×Nat->KY->Prop} (hs:s.heap.IsSliceOf sl vl vu .none) (pl:OX vl lo) (pu:OX vu hi)
  (h:Q (((cX n 0 lo:Nat):Int),1,cX n n hi - cX n 0 lo) s):wpAny (Lh prog w) A (Px (.ref sl) (pure (n:Int))) Q E s:=by
 obtain⟨os,Wh,YC,XS⟩:=id hs
 unfold Px Builtin.Slice.sliceFields
 refine K_ (K_ (OD Wh XS (x:=vl) rfl (K_ (OD Wh XS (x:=vu) rfl (K_ (OD Wh XS (x:= .none) rfl (Lc ?_)))))))
 refine K_ (slicePart_none ?_)
 show wpAny _ _ (if ((1:Int)==0)=true then _ else _) _ _ s
 rw[if_neg (by decide)]
 refine K_ (oJ pl (K_ (oJ pu (K_ (Lc ?_)))))
 show wpAny _ _ (match Ob lo hi 1 (n:Int)with|(lo,hi)=>pure (lo,(1:Int),Np lo hi 1)) _ _ s
 rw[v8 lo hi n]
 show wpAny _ _ (pure (((cX n 0 lo:Nat):Int),(1:Int),Np ((cX n 0 lo:Nat):Int) ((cX n n hi:Nat):Int) 1)) _ _ s
 rw[v9]
 exact Lc h
theorem zE (xs:Array KW) (i k:Nat):((LU k).filterMap λ(m:Nat)=>xs[((i:Int)+(m:Int)*1).toNat]?).toArray=((xs.toList.drop i).take k).toArray:=by
 have e:(λ(m:Nat)=>xs[((i:Int)+(m:Int)*1).toNat]?)=λm=>xs[i+m]? :=by
  funext m
  have:((i:Int)+(m:Int)*1).toNat=i+m:=by omega
  rw[this]
 rw[e]
 have:=pick_run xs i k
 rw[List.filterMap_map]at this
 have e2:((λx=>xs[x]?)∘λx=>i+x)=λm=>xs[i+m]? :=rfl
 rw[e2]at this
 rw[this]
theorem lM {t sl:KZ} {items:Array KW} {vl vu:KW} {lo hi:Option Int} {Q:KW->KY->Prop} (ht:PY s.heap t items) (hs:s.heap.IsSliceOf sl vl vu .none) (pl:OX vl lo) (pu:OX vu hi)
  (hw:¬(cX items.size 0 lo=0/\cX items.size items.size hi=items.size))
  (h:Q (.ref s.heap.objs.size) {s with heap:=s.heap.push {cls:= .type "tuple",data:= .seq ((items.toList.drop (cX items.size 0 lo)).take (cX items.size items.size hi - cX items.size 0 lo)).toArray}})
  (hsz:items.size<=sizeLine):wpAny (Lh prog w) A (Ol (.ref t) (.ref sl)) Q E s:=by
 have Vk:sizeOk (.seq ((items.toList.drop (cX items.size 0 lo)).take (cX items.size items.size hi - cX items.size 0 lo)).toArray):=by
  show ((items.toList.drop (cX items.size 0 lo)).take (cX items.size items.size hi - cX items.size 0 lo)).toArray.size<=sizeLine
  rw[Ld,Nz,Q8,MB]
  omega
 have hj:cX items.size items.size hi<=items.size:=Fw _ _ (Li _) hi
 obtain⟨os,Wh,YC,XS⟩:=id hs
 have Y_:s.TypeIs (.ref sl) "slice":=⟨os,Wh,YC⟩
 unfold Ol
 try with_reducible refine LO ?_
 first|refine K_ (Lc ?_)|skip
 refine K_ (S6 ht.typeIs (by decide) ?_)
 refine K_ (Qo (name:=Og "__getitem__") ht.typeIs M7
  (NZ M7 ht.typeIs Rx ?_ (RO _ _)))
 show wpAny _ _ (Py (.ref t)>>=_) _ _ s
 refine K_ (Pz ht ?_)
 refine K_ (NA Y_ ?_)
 rw[if_pos (by decide)]
 refine K_ (ip hs pl pu ?_)
 have VG:¬((((cX items.size 0 lo:Nat):Int)==0&&(1:Int)==1&&(cX items.size items.size hi - cX items.size 0 lo)==items.size)=true):=by
  intro q
  rw[Mw,Mw]at q
  have q1:((cX items.size 0 lo:Nat):Int)=0:=eq_of_beq q.1.1
  have q2:cX items.size items.size hi - cX items.size 0 lo=items.size:=eq_of_beq q.2
  exact hw ⟨by omega,by omega⟩
 show wpAny _ _ (if (((cX items.size 0 lo:Nat):Int)==0&&(1:Int)==1&&(cX items.size items.size hi - cX items.size 0 lo)==items.size)=true then _ else _) _ _ s
 rw[if_neg VG,zE]
 first
  |exact K_ (m:=MH _) (N1 (Lc ⟨_,rfl,Lc h⟩) Vk)
  |exact K_ (m:=MH _) (N1 (K_ (Lc (Lc ⟨_,rfl,Lc h⟩))) Vk)
  |exact K_ (K_ (m:=MH _) (N1 (Lc (Lc ⟨_,rfl,Lc h⟩)) Vk))
  |exact K_ (K_ (m:=MH _) (N1 (Lc ⟨_,rfl,Lc h⟩) Vk))
end
end HT
namespace L2
open PySem PySem.Spec PyProof.Rows
abbrev TO:=St->Hp->(Option Int->Hp->Prop)->Prop
def PO (X:Cx) (e:Option La) (t:TO):Prop:=
 ∀(Tc:List (KZ×LG)) (s:KY) (σ:St) (H:Hp) (Q:Option Int->Hp->Prop),aw X Tc σ H s->t σ H Q->
  wpAny (Lh X.prog X.w) X.A (evalPart e X.env) (λu s'=>∃o H',aw X Tc σ H' s'/\OX u o/\Q o H') X.xe s
def Cm:TO:=λ_ H Q=>Q none H
def HE (t:TE):TO:=λσ H Q=>t σ H λx H1=>∃i,x= .int i/\Q (some i) H1
theorem iJ {ns:List Int}:∀{us:List KW},aK (ns.map V.int) us->Q0 us ns:=by
 induction ns with
 |nil=>intro us r;rw[M4]at r;cases r;exact .nil
 |cons n ns ih=>
  intro us r
  rw[L3]at r
  cases r with
  |cons r1 r2=>
   obtain⟨t,e⟩:=r1
   subst e
   exact .cons n t (ih r2)
section
variable {X:Cx} {e:La} {te:TE} {lo hi:Option La} {tl th:TO} {pos p2:LF}
theorem Cn:PO X none Cm:=by
 intro Tc s σ H Q I h
 rw[PD]
 exact Lc ⟨none,H,I, .none,h⟩
theorem wx (h:PE X e te):PO X (some e) (HE te):=by
 intro Tc s σ H Q I hw
 rw[evalPart_some]
 refine bq (h Tc s σ H _ I hw) λu s1 z_=> ?_
 obtain⟨x,H1,I1,r1,q1⟩:=z_
 obtain⟨i,rfl,q⟩:=q1
 obtain⟨t,rfl⟩:=r1
 exact⟨some i,H1,I1, .int i t,q⟩
def En (X:Cx) (r:V->Option Int->Option Int->Hp->VK->Prop):Prop:=
 ∀(Tc:List (KZ×LG)) (s:KY) (σ:St) (H:Hp) (x:V) (v vl vu:KW) (lo hi:Option Int) (sl:KZ) (Q:VK),aw X Tc σ H s->aT x v->s.heap.IsSliceOf sl vl vu .none->OX vl lo->OX vu hi->r x lo hi H Q->
  ∃T id,OY (.type T) "__getitem__"=pure (some (.builtin id))/\s.TypeIs v T/\wpAny (Lh X.prog X.w) X.A (Ol v (.ref sl)) (EP X Tc σ Q) X.xe s
theorem En.or {r r':V->Option Int->Option Int->Hp->VK->Prop} (h:En X r) (h':En X r'):En X (λx lo hi H Q=>r x lo hi H Q\/r' x lo hi H Q):=by
 intro Tc s σ H x v vl vu lo hi sl Q I rx hs pl pu q
 rcases q with q|q
 ·exact h Tc s σ H x v vl vu lo hi sl Q I rx hs pl pu q
 ·exact h' Tc s σ H x v vl vu lo hi sl Q I rx hs pl pu q
def Ky (r:V->Option Int->Option Int->Hp->VK->Prop) (te:TE) (tl th:TO):TE:=λσ H Q=>te σ H λx H1=>tl σ H1 λl H2=>th σ H2 λu H3=>r x l u H3 Q
theorem zF {r:V->Option Int->Option Int->Hp->VK->Prop} (hr:En X r) (he:PE X e te) (hl:PO X lo tl) (hu:PO X hi th):PE X (.Subscript e (.Slice lo hi none p2) pos) (Ky r te tl th):=by
 intro Tc s σ H Q I h
 refine R9 (bq (he Tc s σ H _ I h) λv s1 z_=> ?_)
 obtain⟨x,H1,I1,r1,q1⟩:=z_
 refine wpAny_Slice (bq (hl Tc s1 σ H1 _ I1 q1) λvl s2 ⟨l,H2,I2,pl,q2⟩=>bq (hu Tc s2 σ H2 _ I2 q2) λvu s3 z_=> ?_)
 obtain⟨u,H3,I3,pu,q3⟩:=z_
 rw[PD]
 refine Lc ?_
 have I4:aw X Tc σ H3 {s3 with heap:=s3.heap.push {cls:= .type "slice",data:= .fields #[vl,vu, .none]}}:=I3.kept (t':=s3.toks) λb ob q=>L5 _ q
 obtain⟨T,id,hT,ht,hg⟩:=hr Tc {s3 with heap:=s3.heap.push {cls:= .type "slice",data:= .fields #[vl,vu, .none]}} σ H3 x v vl vu l u s3.heap.objs.size Q I4 r1 (RP ..) pl pu q3
 show wpAny (Lh X.prog X.w) X.A (PF e (.Slice lo hi none p2) v (.ref s3.heap.objs.size)) (EP X Tc σ Q) X.xe {s3 with heap:=s3.heap.push {cls:= .type "slice",data:= .fields #[vl,vu, .none]}}
 exact tail_any (ops:=[.ref s3.heap.objs.size,v]) ht hT hg (by with_unfolding_all rfl)
def qg (xs:List V) (lo hi:Option Int):List V:=(xs.drop (HT.cX xs.length 0 lo)).take (HT.cX xs.length xs.length hi - HT.cX xs.length 0 lo)
theorem nJ (xs:List V) (lo hi:Option Int):(qg xs lo hi).length<=xs.length:=by
 unfold qg
 rw[Nz,Q8]
 omega
def JJ (K:KU):V->Option Int->Option Int->Hp->VK->Prop:=λx lo hi H Q=>∃a xs,x= .ref a/\fS K H a xs/\
 ¬(HT.cX xs.length 0 lo=0/\HT.cX xs.length xs.length hi=xs.length)/\∀p,H p=none->Q (.ref p) (a_ H p (.tup (qg xs lo hi)))
theorem Fx:En X (JJ X.K):=by
 intro Tc s σ H x v vl vu lo hi sl Q I rx hs pl pu h
 obtain⟨a,xs,rfl,hx,hw,q⟩:=h
 cases rx
 obtain⟨its,r,ht,hz⟩:=I.tuple hx
 have Ti:its.toArray.size=xs.length:=by rw[Ld];exact r.length.symm
 refine⟨"tuple",_,M7.lookup,ht.typeIs,?_⟩
 refine HT.lM ht hs pl pu (by rw[Ti];exact hw) ?_ (by rw[Ti];exact hz)
 rw[Ti]
 refine⟨.ref s.heap.objs.size,_,I.laid (t':=s.toks) (o:= .tup (qg xs lo hi)) (λb ob q=>L5 _ q) (Li _) ?_,rfl,q _ (I.hok.fresh (Li _))⟩
 exact⟨LL (nJ xs lo hi) hz,_,(r.drop (HT.cX xs.length 0 lo)).take (HT.cX xs.length xs.length hi - HT.cX xs.length 0 lo),f9.new _ _⟩
def Eo (K:KU):R2:=λx y H Q=>∃a b xs ys,x= .ref a/\y= .ref b/\fS K H a xs/\fS K H b ys/\xs≠[]/\xs.length+ys.length<=sizeLine/\
 (ys=[]->Q (.ref a) H)/\(ys≠[]->∀p,H p=none->Q (.ref p) (a_ H p (.tup (xs++ys))))
theorem aK.nil_iff {xs:List V} {us:List KW} (r:aK xs us):us=[]<->xs=[]:=by
 cases r with
 |nil=>simp
 |cons _ _=>simp
theorem Co:jD X (MT .Add) (Eo X.K):=by
 intro Tc s σ H x y v u Q I rx ry h
 obtain⟨a,b,xs,ys,rfl,rfl,ha,hb,hx,hz,q1,q2⟩:=h
 cases rx
 cases ry
 obtain⟨its,r1,p1,_⟩:=I.tuple ha
 obtain⟨UL,r2,p2,_⟩:=I.tuple hb
 refine HT.Ck p1 p2 (λz=>hx (r1.nil_iff.mp z)) (λz=>⟨.ref a,H,I,rfl,q1 (r2.nil_iff.mp z)⟩) (λz=> ?_) (by rw[<-r1.length,<-r2.length];exact hz)
 refine⟨.ref s.heap.objs.size,_,I.laid (t':=s.toks) (o:= .tup (xs++ys)) (λb ob q=>L5 _ q) (Li _) ?_,rfl,q2 (λw=>z (r2.nil_iff.mpr w)) _ (I.hok.fresh (Li _))⟩
 exact⟨by rw[LX];exact hz,_,r1.append r2,f9.new _ _⟩
end
end L2
namespace L2
open PySem PySem.Spec PyProof.Rows
def t9 (n:Nat) (i:Int):Option Nat:=if 0<=i then (if i<n then some i.toNat else none)else if -(n:Int)<=i then some (i+n).toNat else none
def atI {α:Type} (xs:List α) (i:Int):Option α:=(t9 xs.length i).bind λj=>xs[j]?
theorem wy {n:Nat} {i:Int} {j:Nat} (h:t9 n i=some j):Pj i n=some j/\j<n/\ -(n:Int)<=i/\i<n:=by
 unfold t9 at h
 by_cases h0:0<=i
 ·rw[if_pos h0]at h
  by_cases h1:i<n
  ·rw[if_pos h1]at h
   have e:i.toNat=j:=Ms h
   exact⟨by rw[Sh h0 h1,e],by omega,by omega,h1⟩
  ·rw[if_neg h1]at h;cases h
 ·rw[if_neg h0]at h
  by_cases h1: -(n:Int)<=i
  ·rw[if_pos h1]at h
   have e:(i+n).toNat=j:=Ms h
   exact⟨by rw[RQ (by omega) h1,e],by omega,h1,by omega⟩
  ·rw[if_neg h1]at h;cases h
theorem rQ {α:Type} {xs:List α} {i:Int} {v:α} (h:atI xs i=some v):∃j,Pj i xs.length=some j/\xs[j]? =some v/\j<xs.length/\ -(xs.length:Int)<=i/\i<xs.length:=by
 unfold atI at h
 cases e:t9 xs.length i with
 |none=>rw[e]at h;cases h
 |some j=>
  rw[e]at h
  obtain⟨h1,h2,h3,h4⟩:=wy e
  exact⟨j,h1,h,h2,h3,h4⟩
theorem kG {α:Type} {xs:List α} {j:Nat} {v:α} (h:xs[j]? =some v):atI xs (j:Int)=some v:=by
 have hj:j<xs.length:=(Lx.mp h).1
 have e:t9 xs.length (j:Int)=some j:=by
  unfold t9
  rw[if_pos (by omega),if_pos (by omega)];simp
 unfold atI;rw[e];exact h
theorem tf {α:Type} (xs:List α) (v:α):atI (xs++[v]) (-1)=some v:=by
 have hl:(xs++[v]).length=xs.length+1:=by simp
 have e:t9 (xs++[v]).length (-1)=some xs.length:=by
  unfold t9
  rw[hl,if_neg (by decide),if_pos (by omega)]
  congr 1
  omega
 unfold atI
 rw[e]
 show (xs++[v])[xs.length]? =some v
 simp
def wz (b:La):Prop:=∀o i,QH b false o i=operate [o,i] (Ol o i)
def Cp (X:Cx) (r:R2):Prop:=
 ∀(value TL:La) (Tc:List (KZ×LG)) (s:KY) (σ:St) (H:Hp) (x y:V) (v u:KW) (Q:VK),aw X Tc σ H s->aT x v->aT y u->r x y H Q->
  QH TL false v u=operate [v,u] (Ol v u)->wpAny (Lh X.prog X.w) X.A (PF value TL v u) (EP X Tc σ Q) X.xe s
def Kz (X:Cx) (id:String) (r:V->List V->Hp->VK->Prop):Prop:=
 ∀(Tc:List (KZ×LG)) (s:KY) (σ:St) (H:Hp) (x:V) (xs:List V) (v:KW) (us:List KW) (Q:VK),aw X Tc σ H s->aT x v->aK xs us->r x xs H Q->
  wpAny (Lh X.prog X.w) X.A (call (.builtin id) (v::us)) (EP X Tc σ Q) X.xe s
section
variable {X:Cx} {a b:La} {ta tb:TE} {pos:LF}
theorem Cp.or {r r':R2} (h:Cp X r) (h':Cp X r'):Cp X (λx y H Q=>r x y H Q\/r' x y H Q):=by
 intro value TL Tc s σ H x y v u Q I rx ry q hs
 rcases q with q|q
 ·exact h value TL Tc s σ H x y v u Q I rx ry q hs
 ·exact h' value TL Tc s σ H x y v u Q I rx ry q hs
theorem HF {r:R2} (hr:Cp X r) (ha:PE X a ta) (hb:PE X b tb) (hs:wz b):PE X (.Subscript a b pos) (Ja r ta tb):=by
 intro Tc s σ H Q I h
 exact R9 (Fh ha hb I h λv u s2 x y H2 I2 rx ry q=>hr a b Tc s2 σ H2 x y v u Q I2 rx ry q (hs _ _))
def HG (K:KU):R2:=λx y H Q=>∃p xs i v,x= .ref p/\y= .int i/\d6 K H p xs/\atI xs i=some v/\Q v H
def HH (K:KU):R2:=λx y H Q=>∃p xs i v,x= .ref p/\y= .int i/\fS K H p xs/\atI xs i=some v/\Q v H
def HI:R2:=λx y H Q=>∃z i c,x= .str z/\y= .int i/\z.length<=sizeLine/\atI z.cps.toList i=some c/\Q (.str ⟨#[c]⟩) H
theorem Cq:Cp X (HG X.K):=by
 intro value TL Tc s σ H x y v u Q I rx ry h hs
 obtain⟨p,xs,i,z,rfl,rfl,hq,he,q⟩:=h
 cases rx
 obtain⟨t,rfl⟩:=ry
 obtain⟨its,r,pl,hz⟩:=I.list hq
 obtain⟨j,h1,h2,h3,h4,h5⟩:=rQ he
 obtain⟨w,ew,Uy⟩:=r.get h2
 have hl:=r.length
 have hn:=mL
 have U5:EP X Tc σ Q w s:=⟨z,H,I,Uy,q⟩
 by_cases h0:0<=i
 ·have hj:i.toNat=j:=by
   rw[Sh h0 h5]at h1
   exact Ms h1
  exact item_listR pl.isList h0 (by omega) (by rw[hj];simpa using ew) U5 hs
 ·have hj:(i+(its.toArray.size:Int)).toNat=j:=by
   rw[RQ (by omega) h4]at h1
   rw[Ld,<-hl]
   exact Ms h1
  exact QI (x:=w) pl.isList.typeIs PR.lookup
   (wpAny_getItem_list_neg (Q:=λr s'=>r=w/\EP X Tc σ Q r s') pl.isList (by omega) (by rw[Ld]<;>omega) (by omega) (by rw[hj];simpa using ew) ⟨rfl,U5⟩) hs
theorem Fy:Cp X (HH X.K):=by
 intro value TL Tc s σ H x y v u Q I rx ry h hs
 obtain⟨p,xs,i,z,rfl,rfl,hq,he,q⟩:=h
 cases rx
 obtain⟨t,rfl⟩:=ry
 obtain⟨its,r,pl,hz⟩:=I.tuple hq
 obtain⟨j,h1,h2,h3,h4,h5⟩:=rQ he
 obtain⟨w,ew,Uy⟩:=r.get h2
 have hl:=r.length
 have hn:=mL
 have U5:EP X Tc σ Q w s:=⟨z,H,I,Uy,q⟩
 exact QI (x:=w) pl.typeIs M7.lookup
  (getItem_tuple (j:=j) (Q:=λr s'=>r=w/\EP X Tc σ Q r s') pl (by omega) (by omega) (by rw[Ld,<-hl];exact h1) (by simpa using ew) ⟨rfl,U5⟩) hs
theorem FA:Cp X HI:=by
 intro value TL Tc s σ H x y v u Q I rx ry h hs
 obtain⟨z,i,c,rfl,rfl,hz,he,q⟩:=h
 obtain⟨t,rfl⟩:=rx
 obtain⟨t',rfl⟩:=ry
 obtain⟨j,h1,h2,h3,h4,h5⟩:=rQ he
 have hl:z.cps.toList.length=z.length:=by simp[Str.length]
 rw[hl]at h1 h4 h5
 have hn:=mL
 exact tail_any (typeIs_str s z t) slot_str_getitem.lookup (getItem_str (c:=c) (by
  have e1:decide (i< -(2 ^63:Int))=false:=decide_eq_false (by omega)
  have e2:decide (i>=2 ^63)=false:=decide_eq_false (by omega)
  rw[e1,e2,Bool.or_false]) (by rw[h1];simpa using h2) ⟨.str ⟨#[c]⟩,H,I.tok _,⟨_,rfl⟩,q⟩) hs
def Kf (K:KU):R2:=λx y H Q=>HG K x y H Q\/HH K x y H Q\/HI x y H Q
theorem FC:Cp X (Kf X.K):=Cq.or (Fy.or FA)
theorem va (its:List KW) (n j:Nat) (u:KW):MF (·.setIfInBounds j u) {cls:= .type "list",data:= .seq its.toArray n}={cls:= .type "list",data:= .seq (its.set j u).toArray n}:=by
 simp[MF]
theorem aw.lst {Tc:List (KZ×LG)} {σ:St} {H:Hp} {s:KY} {p:KZ} {xs:List V} (I:aw X Tc σ H s) (h:H p=some (.lst xs)):
  ∃(its:List KW) (n:Nat),aK xs its/\s.heap.get? p=some {cls:= .type "list",data:= .seq its.toArray n}/\xs.length<=sizeLine:=by
 obtain⟨z,its,n,r,e⟩:=I.hok p _ h
 exact⟨its,n,r,e,z⟩
theorem aw.lstUpd {Tc:List (KZ×LG)} {σ:St} {H:Hp} {s:KY} {p:KZ} {xs ys:List V} {its its':List KW} {n n':Nat} {f:LG->LG} (I:aw X Tc σ H s) (h:H p=some (.lst xs))
  (ho:s.heap.get? p=some {cls:= .type "list",data:= .seq its.toArray n}) (hf:f {cls:= .type "list",data:= .seq its.toArray n}={cls:= .type "list",data:= .seq its'.toArray n'}) (r:aK ys its') (hz:ys.length<=sizeLine) (t:Nat):
  aw X Tc σ (a_ H p (.lst ys)) {s with heap:=s.heap.update p f,toks:=t}:=by
 have e:(s.heap.update p f).get? p=some {cls:= .type "list",data:= .seq its'.toArray n'}:=by
  rw[QT f ho (by rw[hf]<;>rfl),hf]
 refine I.write (x:=p) (e:=p) (by rw[h];trivial) (.inl rfl) (λb u hb q=>(OE _ _ (MG hb)).trans q) ⟨_,e⟩ ?_
 exact⟨hz,its',n',r,e⟩
def HJ:V->V->V->Hp->(Hp->Prop)->Prop:=λo i v H Q=>∃p xs k j,o= .ref p/\i= .int k/\H p=some (.lst xs)/\t9 xs.length k=some j/\Q (a_ H p (.lst (xs.set j v)))
theorem zG:Hm X HJ:=by
 intro Tc s σ H o i v ov iv u Q I ro ri rv h
 obtain⟨p,xs,k,j,rfl,rfl,hp,hj,q⟩:=h
 cases ro
 obtain⟨t,rfl⟩:=ri
 obtain⟨its,n,r,ho,hz⟩:=I.lst hp
 obtain⟨h1,h2,h3,h4⟩:=wy hj
 have hl:=r.length
 have hn:=mL
 have I':aw X Tc σ (a_ H p (.lst (xs.set j v))) {s with heap:=s.heap.update p (MF (·.setIfInBounds j u))}:=
  I.lstUpd hp ho (va its n j u) (r.set rv j) (by rw[OZ];exact hz) s.toks
 by_cases h0:0<=k
 ·have hk:k.toNat=j:=by
   rw[Sh h0 h4]at h1
   exact Ms h1
  exact PySem.W.ki_setAt ho h0 (by omega) (by rw[Ld,<-hl];exact h4) (by rw[hk];exact⟨_,I',q⟩)
 ·have hk:(k+(its.toArray.size:Int)).toNat=j:=by
   rw[RQ (by omega) h3]at h1
   rw[Ld,<-hl]
   exact Ms h1
  exact PySem.W.ki_setBack ho (by omega) (by rw[Ld,<-hl];exact h3) (by omega) (by rw[hk];exact⟨_,I',q⟩)
theorem rR (lo hi:Option Int) (n:Nat):(O7 lo hi none n).1=((HT.cX n 0 lo:Nat):Int)/\(O7 lo hi none n).2.1=((HT.cX n n hi:Nat):Int)/\(O7 lo hi none n).2.2=1:=by
 refine⟨?_,?_,rfl⟩
 ·cases lo with
  |none=>simp[O7,HT.cX]
  |some i=>
   simp only[O7,HT.cX,Sm,show (1:Int)>0 by decide,if_true]
   by_cases h:i<0
   ·simp only[h,if_true]<;>omega
   ·simp only[h,if_false]<;>omega
 ·cases hi with
  |none=>simp[O7,HT.cX]
  |some i=>
   simp only[O7,HT.cX,Sm,show (1:Int)>0 by decide,if_true]
   by_cases h:i<0
   ·simp only[h,if_true]<;>omega
   ·simp only[h,if_false]<;>omega
theorem qh (its:List KW) (lo hi:Option Int):slicePick its.toArray lo hi none=((its.drop (HT.cX its.length 0 lo)).take (HT.cX its.length its.length hi - HT.cX its.length 0 lo)).toArray:=by
 obtain⟨h1,h2,h3⟩:=rR lo hi its.toArray.size
 unfold slicePick
 rw[h1,h2,h3]
 simp only[sliceRange_one,pick_run,Ld]<;>rfl
def JK (K:KU):V->Option Int->Option Int->Hp->VK->Prop:=λx lo hi H Q=>∃a xs,x= .ref a/\d6 K H a xs/\∀p,H p=none->Q (.ref p) (a_ H p (.lst (qg xs lo hi)))
theorem Cr:En X (JK X.K):=by
 intro Tc s σ H x v vl vu lo hi sl Q I rx hs pl pu h
 obtain⟨a,xs,rfl,hx,q⟩:=h
 cases rx
 obtain⟨its,r,ht,hz⟩:=I.list hx
 have Ti:=r.length
 refine⟨"list",_,PR.lookup,ht.isList.typeIs,?_⟩
 refine Q9 ht.isList hs pl pu .none (by simp) ?_ (by rw[Ld]<;>omega)
 rw[qh,<-Ti]
 refine⟨.ref s.heap.objs.size,_,I.laid (t':=s.toks) (o:= .lst (qg xs lo hi)) (λb ob q=>L5 _ q) (Li _) ?_,rfl,q _ (I.hok.fresh (Li _))⟩
 exact⟨LL (nJ xs lo hi) hz,_,0,(r.drop (HT.cX xs.length 0 lo)).take (HT.cX xs.length xs.length hi - HT.cX xs.length 0 lo),Lq _ rfl⟩
def js:V->Bool
 | .non=>true
 | .bl _=>true
 | .int _=>true
 | .str _=>true
 |_=>false
def Ct:V->V->Bool
 | .non, .non=>true
 | .bl a, .bl b=>a==b
 | .bl a, .int b=>(if a then 1 else 0)==b
 | .int a, .bl b=>a==(if b then 1 else 0)
 | .int a, .int b=>a==b
 | .str a, .str b=>a==b
 |_,_=>false
theorem FD {A:LD} {s:KY} {y x:V} {u v:KW} (ry:aT y u) (rx:aT x v) (fy:js y=true) (fx:js x=true):SeqAt.EqAt A s u v (Ct y x):=by
 cases y with
 |non=>
  cases ry
  cases x with
  |non=>cases rx;exact SeqAt.EqAt.same _
  |bl b=>cases rx;exact SeqAt.EqAt.none_bool b
  |int b=>obtain⟨t,rfl⟩:=rx;exact SeqAt.EqAt.none_int b t
  |str b=>obtain⟨t,rfl⟩:=rx;exact SeqAt.EqAt.none_str b t
  |_=>exact absurd (show false=true from fx) Lw
 |bl a=>
  cases ry
  cases x with
  |non=>cases rx;exact SeqAt.EqAt.bool_none a
  |bl b=>cases rx;exact SeqAt.EqAt.bool_bool a b
  |int b=>obtain⟨t,rfl⟩:=rx;exact SeqAt.EqAt.bool_int a b t
  |str b=>obtain⟨t,rfl⟩:=rx;exact SeqAt.EqAt.bool_str a b t
  |_=>exact absurd (show false=true from fx) Lw
 |int a=>
  obtain⟨t',rfl⟩:=ry
  cases x with
  |non=>cases rx;exact SeqAt.EqAt.int_none a t'
  |bl b=>cases rx;exact SeqAt.EqAt.int_bool a t' b
  |int b=>obtain⟨t,rfl⟩:=rx;exact SeqAt.EqAt.int_int a t' b t
  |str b=>obtain⟨t,rfl⟩:=rx;exact RB a t' b t
  |_=>exact absurd (show false=true from fx) Lw
 |str a=>
  obtain⟨t',rfl⟩:=ry
  cases x with
  |non=>cases rx;exact SeqAt.EqAt.str_none a t'
  |bl b=>cases rx;exact SeqAt.EqAt.str_bool a t' b
  |int b=>obtain⟨t,rfl⟩:=rx;exact RC a t' b t
  |str b=>obtain⟨t,rfl⟩:=rx;exact SeqAt.EqAt.str_str a t' b t
  |_=>exact absurd (show false=true from fx) Lw
 |_=>exact absurd (show false=true from fy) Lw
def vb (x:V) (u:KW):Bool:=match u with
 | .none=>Ct .non x
 | .bool b=>Ct (.bl b) x
 | .int i _=>Ct (.int i) x
 | .str z _=>Ct (.str z) x
 |_=>false
theorem zH {x y:V} {u:KW} (r:aT y u) (f:js y=true):vb x u=Ct y x:=by
 cases y with
 |non=>cases r;rfl
 |bl b=>cases r;rfl
 |int i=>obtain⟨t,rfl⟩:=r;rfl
 |str z=>obtain⟨t,rfl⟩:=r;rfl
 |_=>exact absurd (show false=true from f) Lw
theorem lN {x:V}:∀{xs:List V} {us:List KW},aK xs us->xs.all js=true->us.any (vb x)=xs.any λy=>Ct y x
 |_,_, .nil,_=>rfl
 |y::xs,u::us, .cons r t,f=>by
  rw[N6,Mw]at f
  rw[MS,MS,zH r f.1,lN t f.2]
theorem jH {A:LD} {s:KY} {x:V} {v:KW} (rx:aT x v) (fx:js x=true):∀{xs:List V} {us:List KW},aK xs us->xs.all js=true->∀u∈us,SeqAt.EqAt A s u v (vb x u)
 |_,_, .nil,_=>λu hu=>by cases hu
 |y::xs,u::us, .cons r t,f=>λu' hu=>by
  rw[N6,Mw]at f
  rcases Le.mp hu with rfl|hu
  ·rw[zH r f.1];exact FD r rx f.1 fx
  ·exact jH rx fx t f.2 u' hu
def inV (x:V) (xs:List V):Bool:=xs.any λy=>Ct y x
def JL (K:KU) (Uj:Bool):R2:=λx y H Q=>∃p xs,y= .ref p/\(d6 K H p xs\/fS K H p xs)/\js x=true/\xs.all js=true/\Q (.bl (if Uj then !inV x xs else inV x xs)) H
theorem qE:jD X (MP .In) (JL X.K false):=by
 intro Tc s σ H x y v u Q I rx ry h
 obtain⟨p,xs,rfl,hq,fx,fs,q⟩:=h
 cases ry
 rcases hq with hq|hq
 ·obtain⟨its,r,pl,hz⟩:=I.list hq
  refine SeqAt.in_listAt (vb x) pl.isList (λw hw=>jH rx fx r fs w (by simpa using hw)) ⟨.bl _,H,I,rfl,?_⟩
  rw[show its.toArray.any (vb x)=its.any (vb x) by simp,lN r fs]
  exact q
 ·obtain⟨its,r,pl,hz⟩:=I.tuple hq
  refine SeqAt.in_tupleAt (vb x) pl (λw hw=>jH rx fx r fs w (by simpa using hw)) ⟨.bl _,H,I,rfl,?_⟩
  rw[show its.toArray.any (vb x)=its.any (vb x) by simp,lN r fs]
  exact q
theorem rS:jD X (MP .NotIn) (JL X.K true):=by
 intro Tc s σ H x y v u Q I rx ry h
 obtain⟨p,xs,rfl,hq,fx,fs,q⟩:=h
 cases ry
 rcases hq with hq|hq
 ·obtain⟨its,r,pl,hz⟩:=I.list hq
  refine SeqAt.notIn_listAt (vb x) pl.isList (λw hw=>jH rx fx r fs w (by simpa using hw)) ⟨.bl _,H,I,rfl,?_⟩
  rw[show its.toArray.any (vb x)=its.any (vb x) by simp,lN r fs]
  exact q
 ·obtain⟨its,r,pl,hz⟩:=I.tuple hq
  refine SeqAt.notIn_tupleAt (vb x) pl (λw hw=>jH rx fx r fs w (by simpa using hw)) ⟨.bl _,H,I,rfl,?_⟩
  rw[show its.toArray.any (vb x)=its.any (vb x) by simp,lN r fs]
  exact q
theorem rT:ck X (.builtin "len") (λxs H Q=>∃p ys,xs=[.ref p]/\(d6 X.K H p ys\/fS X.K H p ys)/\Q (.int ys.length) H):=by
 intro Tc s σ H xs us Q I r h
 obtain⟨p,ys,rfl,hq,q⟩:=h
 obtain⟨u,rfl,rx⟩:=fU r
 cases rx
 have hn:=mL
 rcases hq with hq|hq
 ·obtain⟨its,r',pl,hz⟩:=I.list hq
  have Ti:=r'.length
  exact Calls.call_len_list pl.isList (by simp only[Ld]<;>omega) ⟨.int ys.length,H,I.tok _,⟨s.toks+1,by rw[Ld,Ti]⟩,q⟩
 ·obtain⟨its,r',pl,hz⟩:=I.tuple hq
  have Ti:=r'.length
  exact len_tuple pl (by simp only[Ld]<;>omega) ⟨.int ys.length,H,I.tok _,⟨s.toks+1,by rw[Ld,Ti]⟩,q⟩
theorem ck.or {f:KW} {r r':List V->Hp->VK->Prop} (h:ck X f r) (h':ck X f r'):ck X f (λxs H Q=>r xs H Q\/r' xs H Q):=by
 intro Tc s σ H xs us Q I rs q
 rcases q with q|q
 ·exact h Tc s σ H xs us Q I rs q
 ·exact h' Tc s σ H xs us Q I rs q
theorem rV:ck X (.type "list") (λxs H Q=>∃p ys,xs=[.ref p]/\(d6 X.K H p ys\/fS X.K H p ys)/\∀l,H l=none->Q (.ref l) (a_ H l (.lst ys))):=by
 intro Tc s σ H xs us Q I r h
 obtain⟨p,ys,rfl,hq,q⟩:=h
 obtain⟨u,rfl,rx⟩:=fU r
 cases rx
 have U5:∀(its:List KW),aK ys its->ys.length<=sizeLine->∀(h':Lj) (c':Nat),(∀b o',s.heap.get? b=some o'->h'.get? b=some o')->
   h'.get? s.heap.objs.size=some {cls:= .type "list",dict:=none,data:= .seq its.toArray c',slots:= #[]}->EP X Tc σ Q (.ref s.heap.objs.size) {s with heap:=h'}:=λits r' hz h' c' kp e=>
  ⟨.ref s.heap.objs.size,_,I.laid (t':=s.toks) kp (Li _) (show bu X.prog X.w _ h' _ (.lst ys)from ⟨hz,its,c',r',e⟩),rfl,q _ (I.hok.fresh (Li _))⟩
 rcases hq with hq|hq
 ·obtain⟨its,r',pl,hz⟩:=I.list hq
  have Ti:=r'.length
  obtain⟨o,ho,hc,n,hd⟩:=pl.isList
  exact call_list_seq p (.inl rfl) ho hc hd (λh' c' kp e=>U5 its r' hz h' c' kp e) (by simp only[Ld]<;>omega)
 ·obtain⟨its,r',pl,hz⟩:=I.tuple hq
  have Ti:=r'.length
  obtain⟨o,ho,hc,n,hd⟩:=pl
  exact call_list_seq p (.inr rfl) ho hc hd (λh' c' kp e=>U5 its r' hz h' c' kp e) (by simp only[Ld]<;>omega)
theorem eO:ck X (.type "tuple") (λxs H Q=>∃p ys,xs=[.ref p]/\((d6 X.K H p ys/\∀l,H l=none->Q (.ref l) (a_ H l (.tup ys)))\/(fS X.K H p ys/\Q (.ref p) H))):=by
 intro Tc s σ H xs us Q I r h
 obtain⟨p,ys,rfl,h⟩:=h
 obtain⟨u,rfl,rx⟩:=fU r
 cases rx
 rcases h with ⟨hq,q⟩|⟨hq,q⟩
 ·obtain⟨its,r',pl,hz⟩:=I.list hq
  have Ti:=r'.length
  refine call_tuple_list pl.isList (λh' kp=> ?_) (by simp only[Ld]<;>omega)
  have I1:aw X Tc σ H {s with heap:=h'}:=I.kept (t':=s.toks) kp
  have I2:aw X Tc σ (a_ H h'.objs.size (.tup ys)) {s with heap:=h'.push {cls:= .type "tuple",data:= .seq its.toArray}}:=
   I1.laid (t':=s.toks) (λb o e=>L5 _ e) (Li _) (show bu X.prog X.w _ _ _ (.tup ys)from ⟨hz,its,r',f9.new _ _⟩)
  exact⟨.ref h'.objs.size,_,I2,rfl,q _ (I1.hok.fresh (Li _))⟩
 ·obtain⟨its,r',pl,hz⟩:=I.tuple hq
  exact call_tuple_same pl ⟨.ref p,H,I,rfl,q⟩
def JM (K:KU) (T:String) (x:V) (H:Hp):Prop:=match x with
 | .str _=>T="str"
 | .int _=>T="int"
 | .ref p=>(T="list"/\∃xs,d6 K H p xs)\/(T="tuple"/\∃o,K.lookup p=some o/\o.cls= .type "tuple"/\o.dict=none)\/
   (T="dict"/\((∃kvs,H p=some (.dK kvs))\/∃kvs,H p=some (.dT kvs)))\/(T="set"/\∃S n,H p=some (.set S n))
 |_=>False
theorem zI {Tc:List (KZ×LG)} {σ:St} {H:Hp} {s:KY} {T:String} {x:V} {v:KW} (I:aw X Tc σ H s) (r:aT x v) (ty:JM X.K T x H):
  s.TypeIs v T/\∀a,v= .ref a->∃ob,s.heap.get? a=some ob/\ob.dict=none:=by
 cases x with
 |str z=>
  obtain⟨t,rfl⟩:=r
  cases (show T="str" from ty)
  exact⟨typeIs_str s z t,λ_ e=>nomatch e⟩
 |int i=>
  obtain⟨t,rfl⟩:=r
  cases (show T="int" from ty)
  exact⟨SE s i t,λ_ e=>nomatch e⟩
 |ref p=>
  cases r
  rcases ty with ⟨rfl,xs,hq⟩|⟨rfl,o,hk,hc,hd⟩|⟨rfl,hk⟩|⟨rfl,S,n,hk⟩
  ·obtain⟨its,_,pl,_⟩:=I.list hq
   refine⟨pl.isList.typeIs,λa e=> ?_⟩
   cases e
   obtain⟨o,n,e,c,hd,_⟩:=pl
   exact⟨o,e,hd⟩
  ·refine⟨⟨o,I.kIn p o hk,hc⟩,λa e=> ?_⟩
   cases e
   exact⟨o,I.kIn _ o hk,hd⟩
  ·have z:∃o,s.heap.get? p=some o/\o.ExactDict:=by
    rcases hk with ⟨kvs,hk⟩|⟨kvs,hk⟩
    ·obtain⟨_,_,_,_,o,_,_,e,ex,_⟩:=I.hok p _ hk
     exact⟨o,e,ex⟩
    ·obtain⟨_,_,_,_,o,_,_,e,ex,_⟩:=I.hok p _ hk
     exact⟨o,e,ex⟩
   obtain⟨o,e,ex⟩:=z
   refine⟨⟨o,e,ex.1⟩,λa e2=> ?_⟩
   cases e2
   exact⟨o,e,ex.2.1⟩
  ·obtain⟨o,_,_,_,e,ex,_⟩:=I.hok p _ hk
   refine⟨⟨o,e,ex.1⟩,λa e2=> ?_⟩
   cases e2
   exact⟨o,e,ex.2.1⟩
 |_=>exact ME ty
def KA (K:KU) (T:String) (r:V->List V->Hp->VK->Prop) (to:TE) (t:TA):TE:=λσ H Q=>to σ H λx H1=>JM K T x H1/\t σ H1 λxs H2=>r x xs H2 Q
variable {o e:La} {es:List La} {to:TE} {t:TA} {name:L0} {Th Tf:LF} {T id:String} {r:V->List V->Hp->VK->Prop}
theorem zJ (pa:PlainAttrs T) (slot:Slot T name id) (a1b:typeOf (.builtin id)=pure (.type "method_descriptor")) (hm:Kz X id r) (ho:PE X o to) (ha:PA X (e::es) t)
  (T_:ML o name X.env (Ls o X.env)=Ls o X.env:=by rfl)
  (Vc:((LM Tf (L6 (e::es) X.env)).all (λx=> !x.1)&&(NN Tf (MX [] X.env)).all (λx=>x.1.isSome)
   &&decide ((e::es).length+([]:List O6).length+(if ([]:List O6).isEmpty then 0 else 1)<30))=true:=by rfl)
  (U0:(Th.endLine==Tf.line)=true:=by rfl) (hs:L6 (e::es) X.env=(false,Ls e X.env)::L6 es X.env:=by rfl) (U6:(LM Tf (L6 es X.env)).any (·.1)=false:=by rfl):
  PE X (.Call (.Attribute o name Th) (e::es) [] Tf) (KA X.K T r to t):=by
 intro Tc s σ H Q I h
 refine wpAny_Call_method_late T_ Vc U0 rfl (bq (ho Tc s σ H _ I h) λv s1 z_=> ?_)
 obtain⟨x,H1,I1,r1,ty,q1⟩:=z_
 obtain⟨h1,h2⟩:=zI I1 r1 ty
 refine⟨T,id,pa,slot,a1b,h1,h2,?_⟩
 have hA:=ha Tf Tc s1 σ H1 _ I1 q1
 rw[hs]at hA ⊢
 refine OF (by show (false||(LM Tf (L6 es X.env)).any (·.1))=false;rw[U6]<;>rfl) (O_ ?_)
 exact bq hA λus s2 ⟨vs,H2,I2,r2,q2⟩=>hm Tc s2 σ H2 x vs v us Q I2 r1 r2 q2
end
end L2
namespace L2
open PySem PySem.Spec PyProof.Rows
def Jc (X:Cx) (id:String) (r:V->List V->Hp->VK->Prop):Prop:=
 ∀(Tc:List (KZ×LG)) (s:KY) (σ:St) (H:Hp) (x:V) (xs:List V) (v:KW) (us:List KW) (Q:VK),aw X Tc σ H s->aT x v->aK xs us->r x xs H Q->
  wpAny (Lh X.prog X.w) X.A (call (.builtin id) (v::us)) (EP X Tc σ Q) X.xe s
theorem aK.one:∀{x:V} {us:List KW},aK [x] us->∃u,us=[u]/\aT x u:=λh=>by
 cases h with
 |cons r t=>cases t;exact⟨_,rfl,r⟩
theorem aK.two:∀{x y:V} {us:List KW},aK [x,y] us->∃u v,us=[u,v]/\aT x u/\aT y v:=λh=>by
 cases h with
 |cons r t=>
  obtain⟨v,e,q⟩:=aK.one t
  exact⟨_,v,by rw[e],r,q⟩
theorem aK.zero:∀{us:List KW},aK [] us->us=[]
 |_, .nil=>rfl
theorem aK.eraseIdx:∀{xs:List V} {us:List KW} (i:Nat),aK xs us->aK (xs.eraseIdx i) (us.eraseIdx i)
 |_,_,_, .nil=> .nil
 |_,_,0, .cons _ t=>t
 |_,_,i+1, .cons r t=> .cons r (aK.eraseIdx i t)
theorem aK.reverse {xs:List V} {us:List KW} (h:aK xs us):aK xs.reverse us.reverse:=by
 induction h with
 |nil=>exact .nil
 |cons r t ih=>rw[OA,OA];exact aK.append ih (.cons r .nil)
theorem aK.rep {xs:List V} {us:List KW} (h:aK xs us):∀k:Nat,aK (LC k xs).flatten (LC k us).flatten
 |0=> .nil
 |k+1=>by
  rw[Mo,Mo,N2,N2]
  exact aK.append h (aK.rep h k)
theorem qF {α:Type}:∀(l:List α) (i:Nat),(l.eraseIdx i).length<=l.length
 |[],_=>Li _
 |_::_,0=>OB _
 |_::r,i+1=>Sn (qF r i)
theorem qG (its:List KW):∀(k:Nat) (acc:List KW),
  Ra (λx1 x2=>x1++x2) acc.toArray (LC k its.toArray)=(acc++(LC k its).flatten).toArray
 |0,acc=>by simp
 |k+1,acc=>by
  have e:acc.toArray++its.toArray=(acc++its).toArray:=by simp
  have e2:(acc++its)++(LC k its).flatten=acc++(LC (k+1) its).flatten:=by
   rw[Mo,N2,Mr]
  rw[<-e2,<-qG its k (acc++its),<-e,Mo,List.foldl_cons]
section
variable {X:Cx} {Tc:List (KZ×LG)} {σ:St} {H:Hp} {s:KY} {l b:KZ} {xs ys zs:List V}
theorem aw.lset {its its':List KW} {n:Nat} {f:Array KW->Array KW} {t':Nat} (I:aw X Tc σ H s) (hH:H l=some (.lst xs))
  (e:s.heap.get? l=some {cls:= .type "list",data:= .seq its.toArray n}) (hf:f its.toArray=its'.toArray) (hv:aK ys its') (hz:ys.length<=sizeLine):
  aw X Tc σ (a_ H l (.lst ys)) {s with heap:=s.heap.update l (MF f),toks:=t'}:=by
 have q:=PySem.IsL.update e f
 rw[hf]at q
 refine I.write (x:=l) (e:=l) (by rw[hH];exact trivial) (.inl rfl) (λb' u hb hu=>(OE s.heap (MF f) (MG hb)).trans hu) ⟨_,q⟩ ?_
 exact⟨hz,its',_,hv,q⟩
theorem aw.lnew {its:List KW} {t':Nat} (I:aw X Tc σ H s) (hv:aK ys its) (hz:ys.length<=sizeLine):
  aw X Tc σ (a_ H s.heap.objs.size (.lst ys)) {s with heap:=s.heap.push {cls:= .type "list",data:= .seq its.toArray},toks:=t'}:=
 I.laid (λ_ _ q=>L5 _ q) (Li _) ⟨hz,its,0,hv,Lq _ rfl⟩
theorem aw.fresh (I:aw X Tc σ H s):H s.heap.objs.size=none:=I.hok.fresh (Li _)
theorem aw.lstM (I:aw X Tc σ H s) (hH:H l=some (.lst xs)):xs.length<=sizeLine/\∃(its:List KW) (n:Nat),aK xs its/\xs.length=its.length/\s.heap.get? l=some {cls:= .type "list",data:= .seq its.toArray n}:=by
 obtain⟨z,its,n,r,e⟩:=I.hok l _ hH
 exact⟨z,its,n,r,r.length,e⟩
theorem tj {n:Nat} (h:n<=sizeLine):NB n=false:=by
 unfold NB
 exact decide_eq_false (by omega)
end
section
variable {X:Cx}
def Cu:V->List V->Hp->VK->Prop:=λx vs H Q=>∃l xs y,x= .ref l/\vs=[y]/\H l=some (.lst xs)/\xs.length<sizeLine/\Q .non (a_ H l (.lst (xs++[y])))
theorem mO:Jc X "list.append" Cu:=by
 intro Tc s σ H x vs v us Q I rx rv h
 obtain⟨l,xs,y,rfl,rfl,hH,hz,q⟩:=h
 cases rx
 obtain⟨u,rfl,ru⟩:=rv.one
 obtain⟨z,its,n,r,hl,e⟩:=I.lstM hH
 refine call_meets F.slot_list_append ⟨_,e,rfl⟩ F.entry_list_append (F.args_list_append_2 _ _) (PySem.list_append l its.toArray n u (by rw[Ld];omega)) ⟨e,?_⟩
 refine⟨.non,_,I.lset (its':=its++[u]) hH e (by simp) (r.append (.cons ru .nil)) ?_,rfl,q⟩
 rw[LX,List.length_singleton]
 omega
def Cv:V->List V->Hp->VK->Prop:=λx vs H Q=>∃l b xs zs,x= .ref l/\vs=[.ref b]/\H l=some (.lst xs)/\H b=some (.lst zs)/\xs.length+zs.length<=sizeLine/\Q .non (a_ H l (.lst (xs++zs)))
theorem GZ:Jc X "list.extend" Cv:=by
 intro Tc s σ H x vs v us Q I rx rv h
 obtain⟨l,b,xs,zs,rfl,rfl,hH,hB,hz,q⟩:=h
 cases rx
 obtain⟨u,rfl,ru⟩:=rv.one
 cases ru
 obtain⟨z,its,n,r,hl,e⟩:=I.lstM hH
 obtain⟨z2,UL,n2,r2,UY,e2⟩:=I.lstM hB
 have hsz:its.toArray.size+UL.toArray.size<=sizeLine:=by rw[Ld,Ld];omega
 have VN:¬(!its.toArray.isEmpty&&NB (its.toArray.size+UL.toArray.size))=true:=by
  rw[tj hsz,Bool.and_false]
  exact Lw
 refine call_meets F.slot_list_extend ⟨_,e,rfl⟩ F.entry_list_extend (F.args_list_extend_2 _ _)
  (AutoSeq1.list_extend_list_list_0 l its.toArray n b UL.toArray n2 VN (by rw[Ld];omega) (by omega)) ⟨e,e2,?_⟩
 refine⟨.non,_,I.lset (its':=its++UL) hH e (by simp) (r.append r2) ?_,rfl,q⟩
 rw[LX]
 omega
def FE:V->List V->Hp->VK->Prop:=λx vs H Q=>∃l xs i k y,x= .ref l/\vs=[.int i]/\H l=some (.lst xs)/\ -(2 ^63)<=i/\i<2 ^63/\Pj i xs.length=some k/\xs[k]? =some y/\Q y (a_ H l (.lst (xs.eraseIdx k)))
theorem zK:Jc X "list.pop" FE:=by
 intro Tc s σ H x vs v us Q I rx rv h
 obtain⟨l,xs,i,k,y,rfl,rfl,hH,h1,h2,hk,hy,q⟩:=h
 cases rx
 obtain⟨u,rfl,ru⟩:=rv.one
 obtain⟨t,rfl⟩:=ru
 obtain⟨z,its,n,r,hl,e⟩:=I.lstM hH
 obtain⟨w,hw,Uy⟩:=r.get hy
 refine call_meets F.slot_list_pop ⟨_,e,rfl⟩ F.entry_list_pop (F.args_list_pop_2 _ _)
  (MeetsSeq.list_pop_at l its.toArray n i t k w (fitsIndex_both h1 h2) (by rw[Ld,<-hl];exact hk) (by rw[<-OP];exact hw) (by rw[Ld];omega)) ⟨e,?_⟩
 refine⟨y,_,I.lset (its':=its.eraseIdx k) hH e ?_ (r.eraseIdx k) ?_,Uy,q⟩
 ·show its.toArray.eraseIdxIfInBounds k=(its.eraseIdx k).toArray
  rw[List.eraseIdxIfInBounds_toArray]
 ·have:=qF xs k
  omega
def HK:R2:=λx y H Q=>∃l b xs zs,x= .ref l/\y= .ref b/\H l=some (.lst xs)/\H b=some (.lst zs)/\xs.length+zs.length<=sizeLine/\∀p,H p=none->Q (.ref p) (a_ H p (.lst (xs++zs)))
theorem FF:jD X (MT .Add) HK:=by
 intro Tc s σ H x y v u Q I rx ry h
 obtain⟨l,b,xs,zs,rfl,rfl,hH,hB,hz,q⟩:=h
 cases rx
 cases ry
 obtain⟨z,its,n,r,hl,e⟩:=I.lstM hH
 obtain⟨z2,UL,n2,r2,UY,e2⟩:=I.lstM hB
 refine PySem.P.add_list e e2 ?_ (by rw[Ld,Ld];omega)
 have ea:its.toArray++UL.toArray=(its++UL).toArray:=by simp
 rw[ea]
 exact⟨.ref _,_,I.lnew (t':=s.toks) (r.append r2) (by rw[LX];omega),rfl,q _ I.fresh⟩
def HL:R2:=λx y H Q=>∃l k xs,x= .ref l/\y= .int k/\H l=some (.lst xs)/\ -(2 ^63)<=k/\k<2 ^63/\xs.length*k.toNat<=sizeLine/\
 ∀p,H p=none->Q (.ref p) (a_ H p (.lst (LC k.toNat xs).flatten))
theorem Cw {α:Type} (xs:List α) (k:Nat):(LC k xs).flatten.length=k*xs.length:=by
 induction k with
 |zero=>simp
 |succ k ih=>rw[Mo,N2,LX,ih,Nat.succ_mul,Nat.add_comm]
theorem FG:jD X (MT .Mult) HL:=by
 intro Tc s σ H x y v u Q I rx ry h
 obtain⟨l,k,xs,rfl,rfl,hH,h1,h2,hz,q⟩:=h
 cases rx
 obtain⟨t,rfl⟩:=ry
 obtain⟨z,its,n,r,hl,e⟩:=I.lstM hH
 have Ti:its.toArray.size*k.toNat<=sizeLine:=by rw[Ld,<-hl];exact hz
 have Z0:¬its.toArray.size*k.toNat>(2 ^63 - 1) / 8:=by
  have:(sizeLine:Nat)<=(2 ^63 - 1) / 8:=by decide
  omega
 have Z1:¬(!Builtin.List.listFitsIndex k)=true:=by
  rw[fitsIndex_both h1 h2]
  exact Lw
 have VN:¬NB (its.toArray.size*k.toNat)=true:=by
  rw[tj Ti]
  exact Lw
 have VO:Ra (λx1 x2=>x1++x2) #[] (LC (if its.toArray.isEmpty=true then 0 else k.toNat) its.toArray)=(LC k.toNat its).flatten.toArray:=by
  have f0:∀m:Nat,Ra (λx1 x2=>x1++x2) #[] (LC m its.toArray)=(LC m its).flatten.toArray:=λm=>by
   have:=qG its m []
   rw[Oc]at this
   exact this
  rw[f0]
  cases its with
  |nil=>simp
  |cons a r'=>rw[if_neg (by simp)]
 refine wpAny_binaryOp_repeat_ref (T:="list") (U:="int") (by decide) ⟨_,e,rfl⟩ (λs'=>SE s' k t) noFill_list_mul F.fills_int_mul F.slot_int_rmul repeat_list F.slot_int_index.lookup
  (call_meets F.slot_int_rmul (SE s k t) F.entry_int_rmul (F.args_int_rmul_2 _ _) (int___rmul___int_list k t l its.toArray n)
   ⟨e,rfl,⟨_,e,rfl⟩,call_meets F.slot_list_mul ⟨_,e,rfl⟩ F.entry_list_mul (F.args_list_mul_2 _ _) (AutoListH.list___mul___list_int_3 l its.toArray n k t Z1 Z0 VN) ⟨e,?_⟩⟩)
 rw[VO]
 exact⟨.ref _,_,I.lnew (t':=s.toks) (r.rep k.toNat) (by rw[Cw,Nat.mul_comm];exact hz),rfl,q _ I.fresh⟩
end
section
variable {prog:Lb} {w:Ll} {A:LD} {E:KW->KY->Prop} {s:KY}
end
section
variable {X:Cx}
end
end L2
namespace L2
open PySem PySem.Spec PyProof.Rows
section
variable {κ:Type} [DecidableEq κ]
def iK (kvs:List (κ×V)) (k:κ):Option V:=(kvs.find? λkv=>decide (kv.1=k)).map (·.2)
def iq (kvs:List (κ×V)) (k:κ) (v:V):List (κ×V):=
 if (kvs.any λkv=>decide (kv.1=k))=true then kvs.map (λkv=>if kv.1=k then (kv.1,v)else kv)else kvs++[(k,v)]
def Ep (kvs:List (κ×V)) (k:κ):List (κ×V):=kvs.filter λkv=>decide (kv.1≠k)
theorem oK {p:κ×V} {r:List (κ×V)} {k:κ} (e:p.1=k):iK (p::r) k=some p.2:=by simp[iK,MQ,e]
theorem oM {p:κ×V} {r:List (κ×V)} {k:κ} (e:¬p.1=k):iK (p::r) k=iK r k:=by simp[iK,MQ,e]
theorem tm (k:κ):∀kvs:List (κ×V),(kvs.any λkv=>decide (kv.1=k))=(iK kvs k).isSome
 |[]=>rfl
 |p::r=>by
  rw[MS]
  by_cases e:p.1=k
  ·simp only[oK e,decide_eq_true e,Bool.true_or,Option.isSome_some]
  ·rw[oM e,decide_eq_false e,Bool.false_or];exact tm k r
theorem jI (kvs:List (κ×V)) (k:κ) (v:V):(iq kvs k v).length<=kvs.length+1:=by
 unfold iq
 split
 ·rw[L4];omega
 ·rw[LX,Lm,Ml];omega
theorem jA.isSome_eq {o:Option V} {u:Option KW} (r:jA o u):o.isSome=u.isSome:=by
 cases o with
 |none=>cases u with
  |none=>rfl
  |some _=>exact(show False from r).elim
 |some _=>cases u with
  |none=>exact(show False from r).elim
  |some _=>rfl
theorem jA.getD {o:Option V} {u:Option KW} {d:V} {d':KW} (r:jA o u) (rd:aT d d'):aT (o.getD d) (u.getD d'):=by
 cases o with
 |none=>cases u with
  |none=>exact rd
  |some _=>exact(show False from r).elim
 |some _=>cases u with
  |none=>exact(show False from r).elim
  |some _=>exact r
theorem KV.val {kvs:List (κ×V)} {vs:List (κ×KW)} (r:KV kvs vs) (k:κ):jA (iK kvs k) (Q1 vs k):=by
 unfold KV at r
 induction r with
 |nil=>exact MM
 | @cons p q ps qs h t ih=>
  obtain⟨h1,h2⟩:=h
  by_cases e:p.1=k
  ·have e':q.1=k:=h1.symm.trans e
   have b:Q1 (q::qs) k=some q.2:=by simp[Q1,MQ,e']
   rw[oK e,b];exact h2
  ·have e':¬q.1=k:=λz=>e (h1.trans z)
   have b:Q1 (q::qs) k=Q1 qs k:=by simp[Q1,MQ,e']
   rw[oM e,b];exact ih
theorem KV.any {kvs:List (κ×V)} {vs:List (κ×KW)} (r:KV kvs vs) (k:κ):(kvs.any λkv=>decide (kv.1=k))=vs.any λkv=>decide (kv.1=k):=by
 unfold KV at r
 induction r with
 |nil=>rfl
 |cons h t ih=>rw[MS,MS,ih,h.1]
theorem KV.repl {kvs:List (κ×V)} {vs:List (κ×KW)} (r:KV kvs vs) (k:κ) {y:V} {u:KW} (ry:aT y u):
  KV (kvs.map λkv=>if kv.1=k then (kv.1,y)else kv) (vs.map λkv=>if kv.1=k then (kv.1,u)else kv):=by
 unfold KV at r ⊢
 induction r with
 |nil=>exact .nil
 | @cons p q ps qs h t ih=>
  rw[L3,L3]
  refine .cons ?_ ih
  obtain⟨h1,h2⟩:=h
  by_cases e:p.1=k
  ·rw[if_pos e,if_pos (h1.symm.trans e)];exact⟨h1,ry⟩
  ·rw[if_neg e,if_neg (λz=>e (h1.trans z))];exact⟨h1,h2⟩
theorem KV.put {kvs:List (κ×V)} {vs:List (κ×KW)} (r:KV kvs vs) (k:κ) {y:V} {u:KW} (ry:aT y u):KV (iq kvs k y) (Qa vs k u):=by
 unfold iq Qa
 rw[r.any k]
 by_cases e:(vs.any λkv=>decide (kv.1=k))=true
 ·rw[if_pos e,if_pos e];exact r.repl k ry
 ·rw[if_neg e,if_neg e];exact T9 r ⟨rfl,ry⟩
theorem KV.drop {kvs:List (κ×V)} {vs:List (κ×KW)} (r:KV kvs vs) (k:κ):KV (Ep kvs k) (without vs k):=by
 unfold KV at r ⊢
 unfold Ep without
 induction r with
 |nil=>exact .nil
 | @cons p q ps qs h t ih=>
  obtain⟨h1,h2⟩:=h
  rw[Mc,Mc]
  by_cases e:p.1=k
  ·have a:¬decide (p.1≠k)=true:=by simp[e]
   have b:¬decide (q.1≠k)=true:=by simp[h1.symm.trans e]
   rw[if_neg a,if_neg b];exact ih
  ·have e':¬q.1=k:=λz=>e (h1.trans z)
   have a:decide (p.1≠k)=true:=by simp[e]
   have b:decide (q.1≠k)=true:=by simp[e']
   rw[if_pos a,if_pos b];exact .cons ⟨h1,h2⟩ ih
theorem KV.keys {kvs:List (κ×V)} {vs:List (κ×KW)} (r:KV kvs vs):kvs.map (·.1)=vs.map (·.1):=by
 unfold KV at r
 induction r with
 |nil=>rfl
 |cons h t ih=>rw[L3,L3,ih,h.1]
theorem KV.length {kvs:List (κ×V)} {vs:List (κ×KW)} (r:KV kvs vs):kvs.length=vs.length:=Pp r
end
theorem nK {P:Lb} {w:Ll} {k:aL} {u:KW} (r:aT (kV k) u):(aR P w).is k u=true:=by
 cases k with
 |inl i=>obtain⟨t,e⟩:=(show ∃t,u=N4 i t from r);subst e;exact s_ P w i t
 |inr x=>obtain⟨t,e⟩:=(show ∃t,u=Qx x t from r);subst e;exact t0 P w x t
theorem qH {P:Lb} {w:Ll}:∀{ks:List aL} {us:List KW},aK (ks.map kV) us->ItemsAre (aR P w) ks us
 |[],_,r=>by rw[M4]at r;cases r;exact .nil
 |k::ks,_,r=>by
  rw[L3]at r
  cases r with
  |cons h t=>exact .cons (nK h) (qH t)
abbrev KT (H:Hp):List (List aL×V)->List (List aL×KZ×KW)->Prop:=Paired λp q=>p.1=q.1/\H q.2.1=some (.tup (p.1.map kV))/\aT p.2 q.2.2
theorem KT.val {H:Hp} {kvs:List (List aL×V)} {xs:List (List aL×KZ×KW)} (r:KT H kvs xs) (k:List aL):jA (iK kvs k) ((QC xs k).map (·.2)):=by
 induction r with
 |nil=>exact MM
 | @cons p q ps qs h t ih=>
  obtain⟨h1,_,h2⟩:=h
  by_cases e:p.1=k
  ·have e':q.1=k:=h1.symm.trans e
   have b:QC (q::qs) k=some q.2:=by simp[QC,MQ,e']
   rw[oK e,b];exact h2
  ·have e':¬q.1=k:=λz=>e (h1.trans z)
   have b:QC (q::qs) k=QC qs k:=by simp[QC,MQ,e']
   rw[oM e,b];exact ih
theorem KT.repl {H:Hp} {kvs:List (List aL×V)} {xs:List (List aL×KZ×KW)} (r:KT H kvs xs) (k:List aL) {y:V} {u:KW} (ry:aT y u):
  KT H (kvs.map λkv=>if kv.1=k then (kv.1,y)else kv) (xs.map (putAt k u)):=by
 induction r with
 |nil=>exact .nil
 | @cons p q ps qs h t ih=>
  rw[L3,L3]
  refine .cons ?_ ih
  obtain⟨h1,h2,h3⟩:=h
  unfold putAt
  by_cases e:p.1=k
  ·rw[if_pos e,if_pos (h1.symm.trans e)];exact⟨h1,h2,ry⟩
  ·rw[if_neg e,if_neg (λz=>e (h1.trans z))];exact⟨h1,h2,h3⟩
theorem KT.put {H:Hp} {kvs:List (List aL×V)} {xs:List (List aL×KZ×KW)} (r:KT H kvs xs) (k:List aL) {b:KZ} {y:V} {u:KW} (hb:H b=some (.tup (k.map kV))) (ry:aT y u):
  KT H (iq kvs k y) (storedH xs k b u):=by
 have e:(kvs.any λkv=>decide (kv.1=k))=(QC xs k).isSome:=by
  rw[tm,(r.val k).isSome_eq,PU]
 unfold iq storedH
 rw[e]
 by_cases q:(QC xs k).isSome=true
 ·rw[if_pos q,if_pos q];exact r.repl k ry
 ·rw[if_neg q,if_neg q];exact T9 r ⟨rfl,hb,ry⟩
theorem KT.keeps {H H':Hp} {kvs:List (List aL×V)} {xs:List (List aL×KZ×KW)} (r:KT H kvs xs) (ht:∀b ys,H b=some (.tup ys)->H' b=some (.tup ys)):KT H' kvs xs:=
 Paired.mapP r λ_ _ z=>⟨z.1,ht _ _ z.2.1,z.2.2⟩
section
variable {P:Lb} {w:Ll} {H:Hp} {h:Lj} {a:KZ}
theorem Es {u:HO} (ok:jB P w H h) (e:Rd H a u):bu P w H h a u:=e.ok ok
theorem nL {kvs:List (aL×V)} (ok:jB P w H h) (e:Rd H a (.dK kvs)):kvs.length<=sizeLine/\(a==sysModules)=false/\∃vs,KV kvs vs/\h.DictOf (aR P w) a vs:=
 show bu P w H h a (.dK kvs)from Es ok e
theorem oN {kvs:List (aL×V)} (ok:jB P w H h) (e:H a=some (.dK kvs)):kvs.length<=sizeLine/\(a==sysModules)=false/\∃vs,KV kvs vs/\h.DictOf (aR P w) a vs:=nL ok (.inl e)
theorem mP {ks:List aL} (ok:jB P w H h) (e:H a=some (.tup (ks.map kV))):(Pe (aR P w)).is h ks a:=by
 obtain⟨_,its,r,o,h1,h2,n,h3,_⟩:=(show bu P w H h a (.tup (ks.map kV))from ok a _ e)
 exact⟨o,its.toArray,n,h1,h2,h3,by simpa using qH r⟩
theorem oO {kvs:List (List aL×V)} (ok:jB P w H h) (e:Rd H a (.dT kvs)):kvs.length<=sizeLine/\(a==sysModules)=false/\
  ∃xs,KT H kvs xs/\h.DictOfH (Pe (aR P w)) a xs:=by
 obtain⟨z,y,xs,r,o,es,ep,h1,h2,h3,h4,h5⟩:=(show bu P w H h a (.dT kvs)from Es ok e)
 refine⟨z,y,xs,r,o,es,ep,h1,h2,h3,h4,λx hx=> ?_,h5⟩
 have all:∀{l:List (List aL×V)} {m:List (List aL×KZ×KW)},KT H l m->∀x∈m,(Pe (aR P w)).is h x.1 x.2.1:=by
  intro l m q
  induction q with
  |nil=>intro x hx;exact nomatch hx
  | @cons p q ps qs hq t ih=>
   intro x hx
   rcases Le.mp hx with e|hx
   ·subst e
    exact mP ok (by rw[<-hq.1];exact hq.2.1)
   ·exact ih x hx
 exact all r x hx
theorem HM {kvs:List (List aL×V)} (ok:jB P w H h) (e:H a=some (.dT kvs)):kvs.length<=sizeLine/\(a==sysModules)=false/\
  ∃xs,KT H kvs xs/\h.DictOfH (Pe (aR P w)) a xs:=oO ok (.inl e)
end
def iL (H:Hp) (a:KZ) (y:V) (r:Option V):Prop:=
 (∃kvs k,Rd H a (.dK kvs)/\y=kV k/\r=iK kvs k)\/∃kvs k b,Rd H a (.dT kvs)/\y= .ref b/\H b=some (.tup (k.map kV))/\r=iK kvs k
def rW (H:Hp) (a:KZ) (y v:V) (H':Hp):Prop:=
 (∃kvs k,H a=some (.dK kvs)/\y=kV k/\kvs.length<sizeLine/\H'=a_ H a (.dK (iq kvs k v)))\/
 ∃kvs k b,H a=some (.dT kvs)/\y= .ref b/\H b=some (.tup (k.map kV))/\kvs.length<sizeLine/\H'=a_ H a (.dT (iq kvs k v))
theorem iL.k {H:Hp} {a:KZ} {kvs:List (aL×V)} {k:aL} (e:H a=some (.dK kvs)):iL H a (kV k) (iK kvs k):= .inl ⟨kvs,k, .inl e,rfl,rfl⟩
theorem iL.t {H:Hp} {a b:KZ} {kvs:List (List aL×V)} {k:List aL} (e:H a=some (.dT kvs)) (eb:H b=some (.tup (k.map kV))):iL H a (.ref b) (iK kvs k):= .inr ⟨kvs,k,b, .inl e,rfl,eb,rfl⟩
theorem rW.k {H:Hp} {a:KZ} {kvs:List (aL×V)} {k:aL} {v:V} (e:H a=some (.dK kvs)) (hl:kvs.length<sizeLine):rW H a (kV k) v (a_ H a (.dK (iq kvs k v))):= .inl ⟨kvs,k,e,rfl,hl,rfl⟩
theorem rW.t {H:Hp} {a b:KZ} {kvs:List (List aL×V)} {k:List aL} {v:V} (e:H a=some (.dT kvs)) (eb:H b=some (.tup (k.map kV))) (hl:kvs.length<sizeLine):
  rW H a (.ref b) v (a_ H a (.dT (iq kvs k v))):= .inr ⟨kvs,k,b,e,rfl,eb,hl,rfl⟩
section
variable {X:Cx} {Tc:List (KZ×LG)} {σ:St} {H:Hp} {s:KY} {a:KZ} {y v:V} {u r:KW} {o:Option V} {A:LD} {E:KW->KY->Prop}
theorem aw.big (I:aw X Tc σ H s):sysModules<s.heap.objs.size:=by
 have h:Lp<s.heap.objs.size:=(I.mod.glob.keeps I.bk).lt
 exact Nat.lt_trans (by decide) h
theorem qI {Q:KW->KY->Prop} (hu:A.units+1<Nh) (I:aw X Tc σ H s) (g:iL H a y (some v)) (ry:aT y u) (h:∀w' s',aw X Tc σ H s'->aT v w'->Q w' s'):
  wpAny (Lh X.prog X.w) A (Ol (.ref a) u) Q E s:=by
 rcases g with ⟨kvs,k,e,ey,l⟩|⟨kvs,k,b,e,ey,eb,l⟩
 ·subst ey
  obtain⟨z,hd,vs,TB,dd⟩:=nL I.hok e
  obtain⟨w',hw,Uy⟩:=jA.some_of (v:=v) (o:=Q1 vs k) (by rw[l];exact TB.val k)
  exact wpAny_getItem_of (nK ry) dd.mapOf hw (h w' _ (I.tok _) Uy)
 ·subst ey
  cases (show u=Lr b from ry)
  obtain⟨z,hd,xs,TB,dd⟩:=oO I.hok e
  obtain⟨w',hw,Uy⟩:=jA.some_of (v:=v) (o:=(QC xs k).map (·.2)) (by rw[l];exact TB.val k)
  obtain⟨p,hp,VH⟩:=Option.map_eq_some_iff.mp hw
  refine wpAny_getItem_heap (NI hu) (mP I.hok eb) dd hp ?_
  rw[VH]
  exact h w' _ (I.tok _) Uy
theorem JN {Q:KW->KY->Prop} (hu:A.units+1<Nh) (I:aw X Tc σ H s) (g:iL H a y o) (ry:aT y u) (h:∀s',aw X Tc σ H s'->Q (.bool o.isSome) s'):
  wpAny (Lh X.prog X.w) A (MP .In u (.ref a)) Q E s:=by
 rcases g with ⟨kvs,k,e,ey,l⟩|⟨kvs,k,b,e,ey,eb,l⟩
 ·subst ey
  obtain⟨z,hd,vs,TB,dd⟩:=nL I.hok e
  refine wpAny_in_of (nK ry) hd dd.mapOf ?_
  rw[<-(TB.val k).isSome_eq,<-l]
  exact h _ (I.tok _)
 ·subst ey
  cases (show u=Lr b from ry)
  obtain⟨z,hd,xs,TB,dd⟩:=oO I.hok e
  refine wpAny_in_heap (NI hu) (mP I.hok eb) hd dd ?_
  have q:=(TB.val k).isSome_eq
  rw[PU]at q
  rw[<-q,<-l]
  exact h _ (I.tok _)
theorem Cy {Q:KW->KY->Prop} (hu:A.units+1<Nh) (I:aw X Tc σ H s) (g:iL H a y o) (ry:aT y u) (h:∀s',aw X Tc σ H s'->Q (.bool (!o.isSome)) s'):
  wpAny (Lh X.prog X.w) A (MP .NotIn u (.ref a)) Q E s:=by
 rcases g with ⟨kvs,k,e,ey,l⟩|⟨kvs,k,b,e,ey,eb,l⟩
 ·subst ey
  obtain⟨z,hd,vs,TB,dd⟩:=nL I.hok e
  refine wpAny_notIn_of (nK ry) hd dd.mapOf ?_
  rw[<-(TB.val k).isSome_eq,<-l]
  exact h _ (I.tok _)
 ·subst ey
  cases (show u=Lr b from ry)
  obtain⟨z,hd,xs,TB,dd⟩:=oO I.hok e
  refine wpAny_notIn_heap (NI hu) (mP I.hok eb) hd dd ?_
  have q:=(TB.val k).isSome_eq
  rw[PU]at q
  rw[<-q,<-l]
  exact h _ (I.tok _)
theorem oq {h':Lj} {t':Nat} {ob:HO} (I:aw X Tc σ H s) (mu:He (H a)) (hs:Nx a s.heap h') (he:∃q,h'.get? a=some q) (new:bu X.prog X.w (a_ H a ob) h' a ob):
  aw X Tc σ (a_ H a ob) {s with heap:=h',toks:=t'}:=
 I.write (x:=a) (e:=a) mu (.inl rfl) (λb q hb z=>(hs.2 b hb).trans z) he new
theorem rX {P:Lb} {w:Ll} {H':Hp} {h':Lj} {kvs:List (aL×V)} {vs:List (aL×KW)} (z:kvs.length<=sizeLine) (hd:(a==sysModules)=false) (TB:KV kvs vs) (dd:h'.DictOf (aR P w) a vs):
  bu P w H' h' a (.dK kvs):=⟨z,hd,vs,TB,dd⟩
theorem qJ {H':Hp} {Q:Unit->KY->Prop} (hu:A.units+1<Nh) (I:aw X Tc σ H s) (g:rW H a y v H') (ry:aT y u) (rv:aT v r) (h:∀s',aw X Tc σ H' s'->Q () s'):
  wpAny (Lh X.prog X.w) A (QP (.ref a) u r) Q E s:=by
 rcases g with ⟨kvs,k,e,ey,l,eH⟩|⟨kvs,k,b,e,ey,eb,l,eH⟩
 ·subst ey eH
  obtain⟨z,hd,vs,TB,dd⟩:=oN I.hok e
  have hz:vs.length<=sizeLine:=by rw[<-TB.length];exact z
  have hl:(iq kvs k v).length<=sizeLine:=by have:=jI kvs k v;omega
  refine wpAny_setItem_pairs (hsz:=hz) (nK ry) dd λh' Wa hs=>h _ ?_
  have he:∃q,h'.get? a=some q:=let ⟨q,_,_,hq,_⟩:=Wa;⟨q,hq⟩
  exact oq I (by rw[e];exact MM) hs he (rX hl hd (TB.put k rv) Wa)
 ·subst ey eH
  cases (show u=Lr b from ry)
  obtain⟨z,hd,xs,TB,dd⟩:=HM I.hok e
  have hz:xs.length<=sizeLine:=by rw[<-Pp TB];exact z
  have hl:(iq kvs k v).length<=sizeLine:=by have:=jI kvs k v;omega
  refine wpAny_setItem_heap (hsz:=hz) (NI hu) (mP I.hok eb) dd λh' Wa hs=>h _ ?_
  obtain⟨q,es,ep,hq,h2,h3,h4,_,h5⟩:=Wa
  refine oq I (by rw[e];exact MM) hs ⟨q,hq⟩ ⟨hl,hd,_,(TB.put k eb rv).keeps λc ys ec=> ?_,q,es,ep,hq,h2,h3,h4,h5⟩
  rw[au (Hd ec e (λz=>nomatch z))]
  exact ec
end
section
variable {X:Cx} {Tc:List (KZ×LG)} {σ:St} {H:Hp} {s:KY} {a:KZ} {kvs:List (aL×V)} {k:aL} {u:KW} {A:LD} {E:KW->KY->Prop}
theorem HN {Q:KW->KY->Prop} (I:aw X Tc σ H s) (e:Rd H a (.dK kvs)) (h:∀t s',aw X Tc σ H s'->Q (.int kvs.length t) s'):wpAny (Lh X.prog X.w) A (call (.builtin "len") [.ref a]) Q E s:=by
 obtain⟨z,hd,vs,TB,dd⟩:=nL I.hok e
 refine call_len_dict hd dd (by rw[<-TB.length];rw[Md]at z;omega) ?_
 rw[<-TB.length]
 exact h _ _ (I.tok _)
end
def HP (i:La):Prop:=∀ov iv,QH i false ov iv=operate [ov,iv] (Ol ov iv)
theorem Cz {prog:Lb} {w:Ll} {A:LD} {E:KW->KY->Prop} {s:KY} {env:MU} {value TL:La} {pos:LF} {T id:String} {Q:KW->KY->Prop}
  (hl:OY (.type T) "__getitem__"=pure (some (.builtin id))) (hs:HP TL)
  (h:wpAny (Lh prog w) A (Ls value env) (λo s₁=>wpAny (Lh prog w) A (Ls TL env) (λi s₂=>s₂.TypeIs o T/\wpAny (Lh prog w) A (Ol o i) Q E s₂) E s₁) E s):
  wpAny (Lh prog w) A (Ls (.Subscript value TL pos) env) Q E s:=by
 refine R9 (M8 h (λo s₁ h₁=>M8 h₁ (λi s₂ h₂=> ?_) λ_ _ x=>x) λ_ _ x=>x)
 obtain⟨hT,h₂⟩:=h₂
 unfold PF
 refine K_ ?_
 rw[getitemInPython_of_ne hT.not_modules]
 refine K_ (P0 hT hl ?_)
 have U5:wpAny (Lh prog w) A (QH TL false o i) (λr s₃=>wpAny (Lh prog w) A (letTemporaryGo value o r>>=λ_=>pure r) Q E s₃) E s₂:=by
  rw[hs o i]
  exact wpAny_operating (M8 h₂ (λr s₃ h₃=>K_ (wpAny_letTemporaryGo (Lc h₃))) λ_ _ x=>x)
 first
  |exact Lc (K_ U5)
  |exact K_ (Lc (K_ U5))
  |exact K_ U5
theorem tq {X:Cx} {Tc:List (KZ×LG)} {σ:St} {H:Hp} {s:KY} {a:KZ} {y:V} {o:Option V} (I:aw X Tc σ H s) (g:iL H a y o):s.TypeIs (.ref a) "dict":=by
 rcases g with ⟨kvs,k,e,_,_⟩|⟨kvs,k,b,e,_,_,_⟩
 ·obtain⟨_,_,vs,_,dd⟩:=nL I.hok e
  exact dd.typeIs
 ·obtain⟨_,_,xs,_,dd⟩:=oO I.hok e
  exact dd.typeIs
def HQ (td ty:TE):TE:=λσ H Q=>td σ H λx H1=>ty σ H1 λy H2=>∃a v,x= .ref a/\iL H2 a y (some v)/\Q v H2
def FH (ty td:TE):TE:=λσ H Q=>ty σ H λy H1=>td σ H1 λx H2=>∃a o,x= .ref a/\iL H2 a y o/\Q (.bl o.isSome) H2
def rY (ty td:TE):TE:=λσ H Q=>ty σ H λy H1=>td σ H1 λx H2=>∃a o,x= .ref a/\iL H2 a y o/\Q (.bl (!o.isSome)) H2
def HR (td ty tv:TE):TS:=λD σ H=>tv σ H λv H1=>td σ H1 λx H2=>ty σ H2 λy H3=>∃a H4,x= .ref a/\rW H3 a y v H4/\D.nx σ H4
def HS (td ty tv:TE) (rd:V->V->Hp->VK->Prop):TS:=λD σ H=>td σ H λx H1=>ty σ H1 λy H2=>∃a v,x= .ref a/\iL H2 a y (some v)/\
 tv σ H2 λy2 H3=>rd v y2 H3 λz H4=>∃H5,rW H4 a y z H5/\D.nx σ H5
section
variable {X:Cx} {o i e value:La} {pos Tj Wg:LF} {td ty tv:TE}
theorem CA (hu:X.A.units+1<Nh) (ho:PE X o td) (hi:PE X i ty) (hs:HP i):PE X (.Subscript o i pos) (HQ td ty):=by
 intro Tc s σ H Q I h
 refine Cz PySem.F.slot_dict_getitem.lookup hs (bq (ho Tc s σ H _ I h) λu s1 ⟨x,H1,I1,rx,q1⟩=>bq (hi Tc s1 σ H1 _ I1 q1) λiv s2 z_=> ?_)
 obtain⟨y,H2,I2,ry,a,v,ex,g,q2⟩:=z_
 subst ex
 obtain rfl:u=Lr a:=rx
 exact⟨tq I2 g,qI hu I2 g ry λw' s3 I3 Uy=>⟨v,H2,I3,Uy,q2⟩⟩
theorem zL (hu:X.A.units+1<Nh) (hi:PE X i ty) (ho:PE X o td):PC X .In i o (FH ty td):=by
 intro Tc s σ H Q I h
 refine bq (hi Tc s σ H _ I h) λiv s1 ⟨y,H1,I1,ry,q1⟩=>bq (ho Tc s1 σ H1 _ I1 q1) λu s2 z_=> ?_
 obtain⟨x,H2,I2,rx,a,ov,ex,g,q2⟩:=z_
 subst ex
 obtain rfl:u=Lr a:=rx
 exact JN hu I2 g ry λs3 I3=>⟨.bl ov.isSome,H2,I3,rfl,q2⟩
theorem xO (hu:X.A.units+1<Nh) (hi:PE X i ty) (ho:PE X o td):PC X .NotIn i o (rY ty td):=by
 intro Tc s σ H Q I h
 refine bq (hi Tc s σ H _ I h) λiv s1 ⟨y,H1,I1,ry,q1⟩=>bq (ho Tc s1 σ H1 _ I1 q1) λu s2 z_=> ?_
 obtain⟨x,H2,I2,rx,a,ov,ex,g,q2⟩:=z_
 subst ex
 obtain rfl:u=Lr a:=rx
 exact Cy hu I2 g ry λs3 I3=>⟨.bl (!ov.isSome),H2,I3,rfl,q2⟩
theorem CB (hu:X.A.units+1<Nh) (ho:PE X o td) (hi:PE X i ty) (hv:PE X value tv) (hs:Mi value (some (.Subscript o i Tj)) pos.line X.env=pure false):
  PS X (.Assign [.Subscript o i Tj] value pos) (HR td ty tv):=by
 intro Tc s σ H D I h
 refine wpAny_Assign_Subscript (bq (hv Tc s σ H _ I h) λr s1 ⟨v,H1,I1,rv,q1⟩=>bq (ho Tc s1 σ H1 _ I1 q1) λu s2 ⟨x,H2,I2,rx,q2⟩=>bq (hi Tc s2 σ H2 _ I2 q2) λiv s3 z_=> ?_) hs
 obtain⟨y,H3,I3,ry,a,H4,ex,g,q3⟩:=z_
 subst ex
 obtain rfl:u=Lr a:=rx
 exact qJ hu I3 g ry rv λs4 I4=>⟨σ,H4,I4,q3⟩
theorem CC {op:OJ} {rd:V->V->Hp->VK->Prop} (hu:X.A.units+1<Nh) (ho:PE X o td) (hi:PE X i ty) (hv:PE X value tv) (a1c:HA X op rd)
  (ha:∀ov iv new,augStore i ov iv new=(do N9 [new,ov,iv] (QP ov iv new);SO [new,ov,iv] [];pure .next)):PS X (.AugAssign (.Subscript o i Wg) op value pos) (HS td ty tv rd):=by
 intro Tc s σ H D I h
 refine wpAny_AugAssign_SubscriptAny (bq (ho Tc s σ H _ I h) λu s1 ⟨x,H1,I1,rx,q1⟩=>bq (hi Tc s1 σ H1 _ I1 q1) λiv s2 z_=> ?_) ha
 obtain⟨y,H2,I2,ry,a,v,ex,g,q2⟩:=z_
 subst ex
 obtain rfl:u=Lr a:=rx
 refine qI hu I2 g ry λw' s3 I3 Uy=>bq (hv Tc s3 σ H2 _ I3 q2) λw2 s4 ⟨y2,H3,I4,a1d,q3⟩=>bq (a1c Tc s4 σ H3 v y2 w' w2 _ I4 Uy a1d q3) λw3 s5 z_=> ?_
 obtain⟨z,H4,I5,rz,H5,g5,q4⟩:=z_
 exact qJ hu I5 g5 ry rz λs6 I6=>⟨σ,H5,I6,q4⟩
end
theorem tu {P:Lb} {w:Ll} {H:Hp} (h:Lj) (hb:sysModules<h.objs.size):bu P w H (h.push {cls:= .type "dict",data:= .dict #[]}) h.objs.size (.dK []):=
 ⟨M6 _,beq_eq_false_iff_ne.mpr (MG (Lu hb)),[], .nil,SF h⟩
def FI:TE:=λ_ H Q=>∀p,H p=none->Q (.ref p) (a_ H p (.dK []))
section
variable {X:Cx} {pos:LF}
theorem zM:PE X (.Dict [] [] pos) FI:=λTc s σ H Q I h=>
 wpAny_Dict_empty ⟨.ref s.heap.objs.size,_,I.laid (a:=s.heap.objs.size) (o:= .dK []) (t':=s.toks) (λ_ _ q=>L5 _ q) (Li _) (tu s.heap I.big),rfl,h _ (I.hok.fresh (Li _))⟩
end
def rZ:List (TE×TE)->St->Hp->(List (V×V)->Hp->Prop)->Prop
 |[],_,H,Q=>Q [] H
 |(tk,tv)::r,σ,H,Q=>tk σ H λx H1=>tv σ H1 λy H2=>rZ r σ H2 λps H3=>Q ((x,y)::ps) H3
abbrev VV:List (V×V)->List (KW×KW)->Prop:=Paired λp q=>aT p.1 q.1/\aT p.2 q.2
def HU (X:Cx) (pos:LF) (keys:List (Option La)) (TQ:List La) (Wi:List (TE×TE)):Prop:=
 ∀(Tc:List (KZ×LG)) (s:KY) (σ:St) (H:Hp) (Q:List (V×V)->Hp->Prop),aw X Tc σ H s->rZ Wi σ H Q->
  wpAny (Lh X.prog X.w) X.A (evalPairs (pairTrees keys TQ X.env pos)) (λvs s'=>∃ps H',aw X Tc σ H' s'/\VV ps vs/\Q ps H') X.xe s
theorem CD {X:Cx} {pos:LF}:HU X pos [] [] []:=λTc s σ H Q I h=>pairTrees_nil_walk ⟨[],H,I, .nil,h⟩
theorem zN {X:Cx} {pos:LF} {k v:La} {ks:List (Option La)} {vs:List La} {tk tv:TE} {Wi:List (TE×TE)} (hk:PE X k tk) (hv:PE X v tv) (hr:HU X pos ks vs Wi):
  HU X pos (some k::ks) (v::vs) ((tk,tv)::Wi):=λTc s σ H Q I h=>
 pairTrees_cons_walk (bq (hk Tc s σ H _ I h) λu s1 ⟨x,H1,I1,rx,q1⟩=>bq (hv Tc s1 σ H1 _ I1 q1) λw2 s2 ⟨y,H2,I2,ry,q2⟩=>
  bq (hr Tc s2 σ H2 _ I2 q2) λws s3 ⟨ps,H3,I3,TB,q3⟩=>⟨(x,y)::ps,H3,I3, .cons ⟨rx,ry⟩ TB,q3⟩)
def df (kvs more:List (aL×V)):List (aL×V):=more.foldl (λacc kv=>iq acc kv.1 kv.2) kvs
theorem KV.merge:∀{more:List (aL×V)} {rs:List (aL×KW)} {kvs:List (aL×V)} {vs:List (aL×KW)},KV more rs->KV kvs vs->KV (df kvs more) (QU vs rs):=by
 intro more rs kvs vs r
 unfold KV at r
 induction r generalizing kvs vs with
 |nil=>intro q;exact q
 | @cons p q ps qs h t ih=>
  intro r0
  have e:KV (iq kvs p.1 p.2) (Qa vs q.1 q.2):=by
   have:=r0.put p.1 h.2
   rw[<-h.1];exact this
  exact ih e
theorem gW:∀(more kvs:List (aL×V)),(df kvs more).length<=kvs.length+more.length
 |[],kvs=>by show kvs.length<=kvs.length+0;omega
 |p::r,kvs=>by
  have h1:=gW r (iq kvs p.1 p.2)
  have h2:=jI kvs p.1 p.2
  show (df (iq kvs p.1 p.2) r).length<=_
  rw[Lm];omega
theorem oP {P:Lb} {w:Ll}:∀{kvs:List (aL×V)} {ws:List (KW×KW)},VV (kvs.map λkv=>(kV kv.1,kv.2)) ws->∃rs,Carries (aR P w) ws rs/\KV kvs rs
 |[],_,r=>by rw[M4]at r;cases r;exact⟨[],MM, .nil⟩
 |p::kvs,_,r=>by
  rw[L3]at r
  cases r with
  | @cons a b as bs h t=>
   obtain⟨rs,c,q⟩:=oP (P:=P) (w:=w) t
   obtain⟨b1,b2⟩:=b
   exact⟨(p.1,b2)::rs,⟨nK h.1,rfl,c⟩, .cons ⟨rfl,h.2⟩ q⟩
def Et (Wi:List (TE×TE)):TE:=λσ H Q=>∀p,H p=none->rZ Wi σ (a_ H p (.dK [])) λps H2=>H2 p=some (.dK [])/\∃kvs:List (aL×V),ps=kvs.map (λkv=>(kV kv.1,kv.2))/\kvs.length<=15/\Q (.ref p) (a_ H2 p (.dK (df [] kvs)))
theorem CF {X:Cx} {pos:LF} {keys:List (Option La)} {TQ:List La} {Wi:List (TE×TE)} (h:HU X pos keys TQ Wi) (Vs:keys.all (·.isSome)=true) (hl:keys.length=TQ.length) (h0:keys≠[])
  (Xs:keys.length<=15):PE X (.Dict keys TQ pos) (Et Wi):=by
 intro Tc s σ H Q I q
 have hn:=I.hok.fresh (Li s.heap.objs.size)
 have I1:=I.laid (a:=s.heap.objs.size) (o:= .dK []) (h':=s.heap.push {cls:= .type "dict",data:= .dict #[]}) (t':=s.toks) (λ_ _ q=>L5 _ q) (Li _) (tu s.heap I.big)
 refine wpAny_Dict_walk (knd:=aR X.prog X.w) Vs hl h0 Xs (bq (h Tc _ σ _ _ I1 (q _ hn)) λws s2 z_=> ?_)
 obtain⟨ps,H2,I2,TB,e,kvs,ep,lk,q2⟩:=z_
 subst ep
 obtain⟨rs,c,rk⟩:=oP (P:=X.prog) (w:=X.w) TB
 obtain⟨z,hd,a3e,r0,dd⟩:=oN I2.hok e
 cases r0
 refine⟨rs,c,dd,λh' Wa hs=>⟨.ref s.heap.objs.size,_,?_,rfl,q2⟩⟩
 have hz:(df [] kvs).length<=sizeLine:=by
  have h1:=gW kvs []
  rw[Ml]at h1
  rw[Md];omega
 have he:∃q,h'.get? s.heap.objs.size=some q:=let ⟨q,_,_,hq,_⟩:=Wa;⟨q,hq⟩
 exact oq I2 (by rw[e];exact MM) hs he (rX hz hd (rk.merge .nil) Wa)
structure M2 (X:Cx) (o:La) (m:L0) (Th:LF) (e f:La) (Tf:LF):Prop where
 base:ML o m X.env (Ls o X.env)=Ls o X.env
 few:((LM Tf (L6 [e,f] X.env)).all (λx=> !x.1)&&(NN Tf (MX [] X.env)).all (λx=>x.1.isSome)
  &&decide (([e,f]:List La).length+([]:List O6).length+(if ([]:List O6).isEmpty then 0 else 1)<30))=true
 line:(Th.endLine==Tf.line)=true
 trees:LM Tf (L6 [e,f] X.env)=[(false,Ls e X.env),(false,Ls f X.env)]
def Kg (H:Hp) (a:KZ):Prop:=(∃kvs,Rd H a (.dK kvs))\/∃kvs,Rd H a (.dT kvs)
theorem FJ {X:Cx} {Tc:List (KZ×LG)} {σ:St} {H:Hp} {s:KY} {a:KZ} (I:aw X Tc σ H s) (d:Kg H a):
  s.TypeIs (.ref a) "dict"/\(∀b,Lr a= .ref b->∃ob,s.heap.get? b=some ob/\ob.dict=none)/\(a==sysModules)=false:=by
 rcases d with ⟨kvs,e⟩|⟨kvs,e⟩
 ·obtain⟨_,hd,vs,_,dd⟩:=nL I.hok e
  refine⟨dd.typeIs,λb q=> ?_,hd⟩
  cases q
  obtain⟨ob,_,_,h1,h2,_⟩:=dd
  exact⟨ob,h1,h2.2.1⟩
 ·obtain⟨_,hd,xs,_,dd⟩:=oO I.hok e
  refine⟨dd.typeIs,λb q=> ?_,hd⟩
  cases q
  obtain⟨ob,_,_,h1,h2,_⟩:=dd
  exact⟨ob,h1,h2.2.1⟩
section
variable {X:Cx} {Tc:List (KZ×LG)} {σ:St} {H:Hp} {s:KY} {a:KZ} {y d:V} {u r:KW} {o:Option V} {A:LD} {E:KW->KY->Prop}
theorem FK {Q:KW->KY->Prop} (hu:A.units+1<Nh) (I:aw X Tc σ H s) (g:iL H a y o) (ry:aT y u) (rd:aT d r) (h:∀w' s',aw X Tc σ H s'->aT (o.getD d) w'->Q w' s'):
  wpAny (Lh X.prog X.w) A (call (.builtin "dict.get") [.ref a,u,r]) Q E s:=by
 rcases g with ⟨kvs,k,e,ey,l⟩|⟨kvs,k,b,e,ey,eb,l⟩
 ·subst ey
  obtain⟨z,hd,vs,TB,dd⟩:=nL I.hok e
  refine Qb OQ dd.typeIs QJ (Qp _ _ _) (meets_dict_get_default (aR X.prog X.w) a (nK ry) hd r) ⟨_,dd.mapOf,h _ _ (I.tok _) ?_⟩
  rw[l]
  exact(TB.val k).getD rd
 ·subst ey
  cases (show u=Lr b from ry)
  obtain⟨z,hd,xs,TB,dd⟩:=oO I.hok e
  refine Qb OQ dd.typeIs QJ (Qp _ _ _) (meetsH_dict_get_default (Pe (aR X.prog X.w)) a b hd r) ⟨NI hu,k,xs,mP I.hok eb,dd,h _ _ (I.tok _) ?_⟩
  rw[l]
  exact(TB.val k).getD rd
end
def FL (td ty tx:TE):TE:=λσ H Q=>td σ H λx H1=>∃a,x= .ref a/\Kg H1 a/\ty σ H1 λy H2=>tx σ H2 λz H3=>∃o,iL H3 a y o/\Q (o.getD z) H3
section
variable {X:Cx} {o e f:La} {Th Tf:LF} {td ty tx:TE}
theorem zO (hu:X.A.units+1<Nh) (ho:PE X o td) (he:PE X e ty) (hf:PE X f tx) (m:M2 X o "get" Th e f Tf):PE X (.Call (.Attribute o "get" Th) [e,f] [] Tf) (FL td ty tx):=by
 intro Tc s σ H Q I h
 refine wpAny_Call_method m.base m.few m.line Ou OQ PySem.F.type_dict_get (bq (ho Tc s σ H _ I h) λu s1 z_=> ?_)
 obtain⟨x,H1,I1,rx,a,ex,d,q1⟩:=z_
 subst ex
 obtain rfl:u=Lr a:=rx
 obtain⟨t1,t2,_⟩:=FJ I1 d
 refine⟨t1,t2,?_⟩
 rw[m.trees]
 refine OF rfl (O_ (Nc (bq (he Tc s1 σ H1 _ I1 q1) λiv s2 ⟨y,H2,I2,ry,q2⟩=>
  Nc (bq (hf Tc s2 σ H2 _ I2 q2) λfv s3 ⟨z,H3,I3,rz,ov,g,q3⟩=>NQ ?_))))
 exact FK hu I3 g ry rz λw' s4 I4 Uy=>⟨_,H3,I4,Uy,q3⟩
end
section
variable {X:Cx} {Tc:List (KZ×LG)} {σ:St} {H:Hp} {s:KY} {a:KZ} {kvs:List (aL×V)} {A:LD} {E:KW->KY->Prop}
end
section
variable {X:Cx} {Tc:List (KZ×LG)} {σ:St} {H:Hp} {s:KY} {a:KZ} {y:V} {u:KW} {A:LD} {E:KW->KY->Prop}
end
end L2
namespace Att
open PySem PySem.W PySem.Calls PyProof.Rows
theorem o8 {P:Params} {h:Lj}:∀(ns:List Int) (vs:List KW),WellAll P h vs (ns.map WData.int)->Q0 vs ns:=by
 intro ns
 induction ns with
 |nil=>
  intro vs w
  rw[M4]at w
  cases w
  exact .nil
 |cons n ns ih=>
  intro vs w
  rw[L3]at w
  cases w with
  |cons a b=>
   cases a
   exact .cons _ _ (ih _ b)
theorem xP {l:OpenLaw} {n:Nat} (hn:l.most=some n) {P:Params} {h:Lj} {args:List WData} {WJ:List KW}
  (Wj:l.row.toRowW.claim.pre args=true) (Z2:WellAll P h WJ args):
  ∃a vs ns,WJ=[Lr a]/\args=[WData.list (ns.map WData.int)]/\h.get? a=some {cls:= .type "list",data:= .seq vs.toArray}/\Q0 vs ns/\ns.length<=n:=by
 have a1e:WShape.hasAll [] args [.list .int]=true:=(pre_splitW Wj).1
 have hc:l.pre.holds [] {args:=args}=true:=(pre_splitW Wj).2
 obtain⟨d,r,rfl,h1,h2⟩:=hasAllW_cons a1e
 obtain rfl:=hasAllW_nil h2
 obtain⟨xs,rfl,h3⟩:=hasW_list h1
 obtain⟨ns,rfl⟩:=items_int h3
 have Ti:ns.length<=n:=by
  unfold OpenLaw.pre at hc
  have h4:(WTm.not (.lt (.lit (.int (n:Int))) (.len (.arg 0)))).holds [] {args:=[.list (ns.map .int)]}=true:=by
   have h4:=(holds_andW hc).1
   rw[hn]at h4
   exact h4
  have h5:=condW_of h4 (w_not (w_lt w_lit (w_len_list (w_arg rfl))))
  rw[L4]at h5
  refine Qc λq=> ?_
  have q':(n:Int)<((ns.length:Nat):Int):=by omega
  first
   |(rw[decide_eq_true q']at h5;exact absurd h5 (by decide))
   |(simp at h5;omega)
 cases Z2 with
 |cons w1 w2=>
  cases w2
  cases w1 with
  |list ho Vs=>exact⟨_,_,ns,rfl,rfl,ho,o8 ns _ Vs,Ti⟩
theorem xQ (l:OpenLaw) (args:List WData):l.row.toRowW.claim.post args (.bool true) args=true:=
 postW_of (r:=l.row.toRowW) (X:=(true==true))
  (show WShape.has [] (.bool true) .bool=true by first|rfl|decide|simp[WShape.has,WShape.arms,WShape.armsAll])
  (show (WTm.eq .res (.lit (.bool true))).value [] {args:=args,res:=some (.bool true),after:=args}=some (.bool (true==true))from w_eq_bool (w_res rfl) w_lit) rfl
theorem attach_call {l:OpenLaw} {n:Nat} {q:Lb} {loose:List L0} {XP:(L0->Option KW)->Lj->Prop} {YP:Ll->Lj->Prop} {d:DefRec}
  (hn:l.most=some n) (XT:d.params.defaults=[])
  (call:∀(w:Ll) (s₀ s₁:KY) (mg mb:L0->Option KW) (fa:KZ) (o:LG) (pm cd TF:KW) (a:KZ) (vs:List KW) (ns:List Int),
   Ground q loose [] XP w s₀ mg mb s₁.heap->YP w s₁.heap->
   s₁.heap.get? fa=some o->o.data= .func (docDef d.name d.params d.body d.scope pm cd TF)->s₁.heap.CodeRec cd d.name->mg d.name=some (.ref fa)->
   s₁.heap.get? a=some {cls:= .type "list",data:= .seq vs.toArray}->Q0 vs ns->ns.length<=n->s₁.gens= #[]->
   Ng (Lh l.prog w) Q2 (.call (.ref fa) ⟨[.ref a],[]⟩) (λr s'=>r= .ok (.ret (.bool true))/\OldK s₁.heap s'.heap/\s'.os=s₁.os/\Oj s'.gens) s₁):
  WalkO q loose XP YP l.row.toRowW d [] (λf vs=>SG f vs):=by
 intro w s₀ s₁ mg mb G Y fa o pm cd TF dV kV ho hd Ua hD XU hg args WJ as Wj a1f WK Z2 Z3
 obtain rfl:dV= .none:=Dflts.none hD XT
 obtain rfl:kV= .none:=Dflts.noKw hD
 obtain⟨a,vs,ns,rfl,rfl,WL,VP,Ti⟩:=xP hn Wj Z2
 refine enter_call (NS (call w s₀ s₁ mg mb fa o pm cd TF a vs ns G Y ho (fd_plain hd) Ua XU WL VP Ti hg) λr s' hq=> ?_)
 obtain⟨rfl,h2,h3,h4⟩:=hq
 exact⟨.inl ⟨.bool true, .bool true,[],rfl,λ_=>rfl, .bool true,xQ l _,λ_=>⟨PV,λ_ hm=>(nomatch hm)⟩⟩,h2,h3,h4⟩
section
variable {prog:Lb} {w:Ll} {A:LD} {E:KW->KY->Prop} {s:KY} {K:Frag}
end
end Att
namespace L2
open PySem PySem.Spec PyProof.Rows
theorem kH:∀{vs:List KW} {ns:List Int},Q0 vs ns->aK (ns.map V.int) vs
 |_,_, .nil=> .nil
 |_,_, .cons n t h=> .cons ⟨t,rfl⟩ (kH h)
def FN (H:Hp):Prop:=∀b,H b=none\/∃o xs,H b=some (.frz o (.lst xs))
theorem zP {P:Lb} {w:Ll} {K:KU} {mg mb:L0->Option KW} {CX:v5} {k:Nat} {fa a:KZ} {fd:MD} {x:L0} {sp:Sp} {s₁:KY} {vs:List KW} {ns:List Int}
  (KX:K.In s₁.heap) (Wu:s₁.heap.Ns Lp mg) (hb:s₁.heap.Ns Sx mb) (a1g:∀x:L0,x≠"__name__"->mb x=LK x) (UM:s₁.heap.NoLimit) (hg:s₁.gens= #[])
  (ha:s₁.heap.get? a=some {cls:= .type "list",data:= .seq vs.toArray}) (hi:Q0 vs ns) (hl:ns.length<=sizeLine) (hr:cw k Q2)
  (F:∀base:Lj,K.In base->base.Ns Lp mg->eY P w K mg base CX k fa fd [x] sp) (XW:∀(s:KY) (u:KW),QR s fd ⟨[u],[]⟩ [(x,u)])
  (W9:∀H:Hp,FN H->d6 K H a (ns.map V.int)->sp [.ref a] H (λv _=>v= .bl true) λ_ _ _=>False)
  (Z4:∀H e s',CX [] H s₁ (λ_ _ _=>False) e s'->False):
  Ng (Lh P w) Q2 (.call (.ref fa) ⟨[.ref a],[]⟩) (λr s'=>r= .ok (.ret (.bool true))/\OldK s₁.heap s'.heap/\s'.os=s₁.os/\Oj s'.gens) s₁:=by
 have rv:=kH hi
 have Z5:=hi.length
 have XX:∀H:Hp,FN H->d6 K H a (ns.map V.int)->jB P w H s₁.heap->(∀b,H b≠none->b=a)->(H a≠none->K.lookup a=none)->
   Ng (Lh P w) Q2 (.call (.ref fa) ⟨[.ref a],[]⟩) (λr s'=>r= .ok (.ret (.bool true))/\OldK s₁.heap s'.heap/\s'.os=s₁.os/\Oj s'.gens) s₁:=by
  intro H hO hS hok hA hK
  have Vl:∀{b:KZ} {o:LG},s₁.heap.get? b=some o->H b=none->(rM s₁.heap H).get? b=some o:=λe n=>zf e n
  have XQ:∀{b:KZ} {o:LG} {es:Array DictEntry} {ep:Nat},s₁.heap.get? b=some o->o.data= .dict es ep->H b=none:=λ{b o es ep} e d=>by
   cases q:H b with
   |none=>rfl
   |some u=>
    have e':b=a:=hA b (by rw[q];simp)
    subst e'
    rw[ha]at e;cases e
    have d':T5 vs.toArray _=Data.dict es ep:=d
    cases d'
  have YD:∀{b:KZ} {m:L0->Option KW},s₁.heap.Ns b m->(rM s₁.heap H).Ns b m:=λ{b m} ⟨o,es,ep,e,d,r⟩=>⟨o,es,ep,Vl e (XQ e d),d,r⟩
  have a0l:K.In (rM s₁.heap H):=λb o e=>Vl (KX b o e) (by
   cases q:H b with
   |none=>rfl
   |some u=>
    have e':b=a:=hA b (by rw[q];simp)
    subst e'
    rw[hK (by rw[q];simp)]at e;cases e)
  have hM:Mod K mg (rM s₁.heap H):=⟨a0l,YD Wu,⟨mb,YD hb,a1g⟩,let ⟨mc,h1,h2⟩:=UM;⟨mc,YD h1,h2⟩⟩
  have e0:v6 P w K mg (rM s₁.heap H) Q2 [] s₁ H:=⟨rfl,hM,λb o e=>BZ e,Q5 (xy _ _),trivial,λb hb=>absurd (show b∈([]:List KZ)from hb) (by simp),hok, .of_eq hg⟩
  refine NS ((F _ a0l (YD Wu)).run Q2 [] s₁ H ⟨[.ref a],[]⟩ [.ref a] [.ref a] _ _ hr e0 (XW s₁ (.ref a)) (.cons rfl .nil) (W9 H hO hS)) λr s' h=> ?_
  cases r with
  |error e=>exact(Z4 H e s' h).elim
  |ok fl=>
   cases fl with
   |next=>exact ME h
   |brk=>exact ME h
   |cont=>exact ME h
   |ret u=>
    obtain⟨v,H',os,bare,un,Z6,r',q⟩:=h
    have q':v= .bl true:=q
    subst q'
    obtain rfl:u=R3 true:=r'
    refine⟨rfl,OldK.of_keep λb o e=> ?_,os,bare⟩
    cases q:H b with
    |none=>exact un.keep b o e q (by intro z;exact absurd (show b∈([]:List KZ)from z) (by simp)) (by simp)
    |some u=>
     rcases hO b with z|⟨ob,xs,z⟩
     ·rw[q]at z;cases z
     ·have z2:=un.frzs b ob _ z
      obtain⟨e1,_⟩:=hok b _ z
      obtain⟨e2,_⟩:=Z6 b _ z2
      rw[e]at e1;cases e1
      exact e2
 cases hk:K.lookup a with
 |some o=>
  have e:=KX a o hk
  rw[ha]at e
  cases e
  refine XX (λ_=>none) (λ_=> .inl rfl) (.inr ⟨_,vs.toArray,_,hk,rfl,rfl,rfl,by rw[Ld,Z5];exact hl,by simpa using rv⟩) (λb u z=>by have z':(none:Option HO)=some u:=z;cases z') (λb z=>absurd rfl z) λz=>absurd rfl z
 |none=>
  refine XX (λb=>if b=a then some (.frz {cls:= .type "list",data:= .seq vs.toArray} (.lst (ns.map V.int)))else none) (λb=> ?_) (.inl (.inr ⟨{cls:= .type "list",data:= .seq vs.toArray},if_pos rfl⟩)) (λb u z=> ?_) (λb z=> ?_) λ_=>hk
  ·by_cases hb:b=a
   ·exact .inr ⟨_,_,if_pos hb⟩
   ·exact .inl (if_neg hb)
  ·by_cases hb:b=a
   ·have z':=(if_pos hb).symm.trans z
    cases z'
    subst hb
    exact⟨ha,by rw[L4];exact hl,vs,_,rv,ha⟩
   ·have z':=(if_neg hb).symm.trans z
    cases z'
  ·by_cases hb:b=a
   ·exact hb
   ·exact absurd (if_neg hb) z
end L2
namespace L2
open PySem PySem.Spec PyProof.Rows
theorem CG {l:QD} {n k:Nat} {q:Lb} {loose:List L0} {XP:(L0->Option KW)->Lj->Prop} {YP:Ll->Lj->Prop} {d:DefRec} {K:Params->KU} {CX:Ll->v5} {sp:Ll->Sp} {x:L0}
  (hn:l.most=some n) (WG:n<=sizeLine) (XT:d.params.defaults=[]) (hr:cw k Q2)
  (hY:∀(w:Ll) (h:Lj),YP w h->(K w.params).In h)
  (F:∀(w:Ll) (mg:L0->Option KW) (fa:KZ) (h:Lj),(K w.params).In h->h.Ns Lp mg->mg d.name=some (.ref fa)->
   ∃fd:MD,(∀(s:KY) (u:KW),QR s fd ⟨[u],[]⟩ [(x,u)])/\
    ∀base:Lj,(K w.params).In base->base.Ns Lp mg->eY l.prog w (K w.params) mg base (CX w) k fa fd [x] (sp w))
  (W9:∀(w:Ll) (H:Hp) (a:KZ) (ns:List Int),ns.length<=n->FN H->d6 (K w.params) H a (ns.map V.int)->sp w [.ref a] H (λv _=>v= .bl true) λ_ _ _=>False)
  (Z4:∀(w:Ll) (H:Hp) (s:KY) (e:KW) (s':KY),CX w [] H s (λ_ _ _=>False) e s'->False):
  SX q loose XP YP l.row.toRowW d [] (λf vs=>SG f vs):=by
 refine Att.attach_call hn XT λw s₀ s₁ mg mb fa o pm cd TF a vs ns G Y ho hd Ua XU WL VP Ti hg=> ?_
 have KX:=hY w _ Y
 obtain⟨fd,hb,hF⟩:=F w mg fa _ KX G.T.g XU
 exact zP KX G.T.g G.T.b G.T.builtins G.T.nolimit hg WL VP (LL Ti WG) hr hF hb (λH hO hS=>W9 w H a ns Ti hO hS) λH e s'=>Z4 w H s₁ e s'
end L2
namespace L2
open PySem PySem.Spec PyProof.Rows
def kI (s:Ly) (j:Nat):Ly:=match s with
 | .ClassDef _ _ _ body _ _ _ _ _ _ _=>body.getD j (.Pass ⟨0,0,0,0⟩)
 |_=> .Pass ⟨0,0,0,0⟩
def cm (s:Ly):Arguments:=match s with
 | .FunctionDef _ a _ _ _ _ _ _ _ _=>a
 |_=>{posonlyargs:=[],args:=[],vararg:=none,kwonlyargs:=[],kw_defaults:=[],kwarg:=none,defaults:=[]}
def bi (s:Ly):List Ly:=match s with
 | .FunctionDef _ _ b _ _ _ _ _ _ _=>b
 |_=>[]
def aA (s:Ly):MO:=match s with
 | .FunctionDef _ _ _ _ _ _ sc _ _ _=>sc
 |_=>{kind:= .function,names:=[],isGenerator:=false,isCoroutine:=false}
abbrev Kh:v5:=λ_ _ _ _ _ _=>False
structure y_ (K:KU) (x qual:L0) (st:Ly) (f:KZ) (fd:MD):Prop where
 ex:∃(oc:KW) (od:Option KZ) (kV TF pm:KW) (an:Option KZ) (Tg ct:KW) (Uq:Array (Option KW)),
  fd=M3 x qual (cm st) (bi st) (aA st) .none kV TF pm an Tg ct/\K.lookup f=some ⟨oc,od, .func fd,Uq⟩/\Nv K Tg qual=true
 kp:Mg K (.ref f)=true
section
variable {P:Lb} {w:Ll} {K:KU} {mg:L0->Option KW} {base:Lj}
theorem y_.ok {x qual:L0} {st:Ly} {f:KZ} {fd:MD} {N ps:List L0} {k:Nat} {sp:Sp} (F:y_ K x qual st f fd) (S:bd N ps (aA st)) (len:∀vs H Q E,sp vs H Q E->vs.length=ps.length)
  (Tr:∀(Tg:KW) (A:LD) (outer:List MU) (s:KY) (H:Hp) (vs:List V) (Q:VK) (E:XK),cw k (A.deeper (NG qual (aA st) s.heap.objs.size f Tg))->sp vs H Q E->
   ∃t,qe (jG Kh P w K mg base N qual (aA st) f Tg A outer s H E).nox (bi st) t/\t {nx:=λ_ H'=>Q .non H',rt:=Q} (cn N vs) H):eY P w K mg base Kh (k+1) f fd ps sp:=by
 obtain⟨oc,od,kV,TF,pm,an,Tg,ct,Uq,rfl,lk,Ua⟩:=F.ex
 refine Em lk Ua S len λA outer s H vs Q E hr W9=> ?_
 obtain⟨t,h,q⟩:=Tr Tg A outer s H vs Q E hr W9
 exact⟨t,h.nox,q⟩
theorem y_.binds {x qual:L0} {st:Ly} {f:KZ} {fd:MD} {ps:List L0} (F:y_ K x qual st f fd)
  (h:∀(kV TF pm:KW) (an:Option KZ) (Tg ct:KW) (us:List KW),us.length=ps.length->Na (M3 x qual (cm st) (bi st) (aA st) .none kV TF pm an Tg ct) ⟨us,[]⟩=pure (ps.zip us)):fD K fd ps []:=by
 obtain⟨oc,od,kV,TF,pm,an,Tg,ct,Uq,rfl,lk,Ua⟩:=F.ex
 exact .all (h kV TF pm an Tg ct)
theorem lj {x qual:L0} {st:Ly} {f:KZ} {oc:KW} {od an:Option KZ} {Uq:Array (Option KW)} {kV TF pm Tg ct:KW} (l:K.lookup f=some ⟨oc,od, .func (M3 x qual (cm st) (bi st) (aA st) .none kV TF pm an Tg ct),Uq⟩)
  (c:Nv K Tg qual=true) (k:Mg K (.ref f)=true):y_ K x qual st f (M3 x qual (cm st) (bi st) (aA st) .none kV TF pm an Tg ct):=⟨⟨oc,od,kV,TF,pm,an,Tg,ct,Uq,rfl,l,c⟩,k⟩
end
theorem nM {A:LD} {k:Nat} (hr:cw k A):A.units+1<Nh:=RS (Nat.add_le_add_left (by decide:1<=64) _) hr.units
section
variable {X:Cx}
theorem pv (i:Nat) {x:L0} {pos:LF} (hN:X.N[i]? =some x:=by rfl) (hv:t4 X.env.scope x:=by first|exact Mn rfl|exact L_ (Mn rfl)|exact L_ (L_ rfl)) (hd:(x==("__debug__":L0))=false:=by decide)
  (Ua:(x==("__classdict__":L0))=false:=by decide):PE X (.Name x pos) (C1 i):=ET hN hv hd Ua
end
def aO (H H':Hp):Prop:=∀b o,H b=some o->H' b=some o
theorem aO.refl (H:Hp):aO H H:=λ_ _ h=>h
theorem aO.trans {H H1 H2:Hp} (a:aO H H1) (b:aO H1 H2):aO H H2:=λc o h=>b c o (a c o h)
theorem aO.free {H H':Hp} (e:aO H H') {l:KZ} (h:H' l=Ta):H l=Ta:=by
 cases q:H l with
 |none=>rfl
 |some o=>
  rw[e l o q]at h
  cases h
theorem aO.seq {K:KU} {H H':Hp} {a:KZ} {xs:List V} (e:aO H H') (h:d6 K H a xs):d6 K H' a xs:=by
 rcases h with (h|⟨o,h⟩)|h
 ·exact .inl (.inl (e _ _ h))
 ·exact .inl (.inr ⟨o,e _ _ h⟩)
 ·exact .inr h
section
variable {κ:Type} [DecidableEq κ]
end
end L2
namespace L2
open PySem PySem.Spec PyProof.Rows
def lO (env:MU):List (L0×Mf)->List (L0×KZ)->List (L0×KZ)
 |[],cs=>cs
 |(n,k)::r,cs=>lO env r (if k= .free then (match env.cells.lookup n with|some c=>(n,c)::cs|none=>cs)else cs)
theorem oQ (env:MU):∀(names:List (L0×Mf)) (cs:List (L0×KZ)),(∀y∈names,y.2= .free->∃c,env.cells.lookup y.1=some c)->
  (forIn names cs λ(x:L0×Mf) (r:List (L0×KZ))=>(if (x.2==Mx)=true then do
    let a<-cellOf env x.1
    pure (P2 ((x.1,a)::r))else pure (P2 r):NV (ForInStep (List (L0×KZ)))))=pure (lO env names cs)
 |[],cs,_=>rfl
 |(n,k)::r,cs,h=>by
  rw[List.forIn_cons]
  by_cases hk:k= .free
  ·subst hk
   obtain⟨c,hc⟩:=h (n, .free) L8 rfl
   have e:cellOf env n=pure c:=by unfold cellOf;rw[hc]
   simp only[beq_self_eq_true,if_true,e]
   unfold lO
   simp only[if_true,hc]
   exact oQ env r ((n,c)::cs) λy hy=>h y (L7 _ hy)
  ·have hb:(k==Mx)=false:=by simpa using hk
   simp only[hb,LH,if_false]
   unfold lO
   rw[if_neg hk]
   exact oQ env r cs λy hy=>h y (L7 _ hy)
theorem r_ {scope:MO} {env:MU} (h:∀y∈scope.names,y.2= .free->∃c,env.cells.lookup y.1=some c):SH scope env=pure (lO env scope.names []):=by
 have:=oQ env scope.names [] h
 unfold SH
 simp only[bind_pure]
 exact this
theorem dL {env:MU} {x:L0} {c:KZ}:∀{names:List (L0×Mf)} {cs:List (L0×KZ)},(∀c,cs.lookup x=some c->env.cells.lookup x=some c)->(lO env names cs).lookup x=some c->env.cells.lookup x=some c
 |[],cs,h,e=>h c e
 |(n,k)::r,cs,h,e=>by
  unfold lO at e
  refine dL (names:=r) (λd hd=> ?_) e
  split at hd
  ·split at hd
   ·rename_i c' hc
    rw[Mm]at hd
    cases hx:x==n with
    |true=>rw[hx]at hd;have:=eq_of_beq hx;subst this;rw[hc];exact hd
    |false=>rw[hx]at hd;exact h d hd
   ·exact h d hd
  ·exact h d hd
theorem qK {env:MU} {x:L0}:∀{names:List (L0×Mf)} {cs:List (L0×KZ)},(∃c,cs.lookup x=some c)->∃c,(lO env names cs).lookup x=some c
 |[],cs,h=>h
 |(n,k)::r,cs,h=>by
  unfold lO
  refine qK (names:=r) ?_
  split
  ·split
   ·rename_i c' hc
    rw[Mm]
    cases x==n with
    |true=>exact⟨_,rfl⟩
    |false=>exact h
   ·exact h
  ·exact h
theorem oR {env:MU} {x:L0}:∀{names:List (L0×Mf)} {cs:List (L0×KZ)},(x,Mx)∈names->(∃c,env.cells.lookup x=some c)->∃c,(lO env names cs).lookup x=some c
 |(n,k)::r,cs,h,hc=>by
  unfold lO
  rcases Le.mp h with h|h
  ·cases h
   obtain⟨c,hc⟩:=hc
   refine qK (names:=r) ?_
   rw[if_pos rfl,hc]
   exact⟨c,by simp⟩
  ·exact oR h hc
def lP (N:List L0) (names:List (L0×Mf)) (σ:St):St:=
 names.map λx=>if x.2= .free then ((N.findIdx? (·==x.1)).bind λi=>(σ[i]?).join)else none
def bE (X:Cx) (scope:MO) (s:KY) (H:Hp) (ex:List KZ):Cx:=
 {X with N:=scope.names.map (·.1),s₀:=s,H₀:=H,env:=compEnvC scope (lO X.env scope.names []) s.heap.objs.size X.env,outer:=X.stack,ex:=ex,fn:=λ_=>false,pn:=[],xe:=λ_ _=>False}
structure bA (X:Cx) (scope:MO):Prop where
 kind:scope.kind= .function
 nocell:∀y∈scope.names,y.2≠ .cell
 loc:∀y∈scope.names,y.2= .local->scope.names.lookup y.1=some .local
 free:∀y∈scope.names,y.2= .free->X.env.kindOf y.1=some .cell\/X.env.kindOf y.1=some .free
 nd:(scope.names.map (·.1)).Nodup
theorem dM {env:MU} {x:L0}:∀{names:List (L0×Mf)} {k:Mf},
  (names.map λ(n,k)=>if (k==Mx&&env.scope.kind== .function&&env.kindOf n==some .cell)then (n,Rp)else (n,k)).lookup x=some k->
  names.lookup x=some k\/(names.lookup x=some .free/\k= .cell)
 |[],k,h=>by simp at h
 |(n,j)::r,k,h=>by
  have ih:= @dM env x r k
  rw[L3,Mm]at h
  rw[Mm]
  by_cases hc:(j==Mx&&env.scope.kind== .function&&env.kindOf n==some .cell)=true
  ·rw[if_pos hc]at h
   have hj:j= .free:=by
    simp only[Mw]at hc
    exact eq_of_beq hc.1.1
   cases hx:x==n with
   |true=>rw[hx]at h;simp at h;exact .inr ⟨by rw[hj],h.symm⟩
   |false=>rw[hx]at h;exact ih h
  ·rw[if_neg hc]at h
   cases hx:x==n with
   |true=>rw[hx]at h;exact .inl h
   |false=>rw[hx]at h;exact ih h
theorem eZ {α β:Type} [BEq α] [LawfulBEq α] {x:α} {b:β}:∀{l:List (α×β)},l.lookup x=some b->(x,b)∈l
 |[],h=>by simp at h
 |(a,c)::r,h=>by
  rw[Mm]at h
  cases hx:x==a with
  |true=>rw[hx]at h;have:=eq_of_beq hx;subst this;cases h;exact L8
  |false=>rw[hx]at h;exact L7 _ (eZ h)
section
variable {X:Cx} {Tc:List (KZ×LG)} {σ:St} {H:Hp} {s:KY} {scope:MO}
theorem bA.cellOf (S:bA X scope) (ok:X.Ok):∀y∈scope.names,y.2= .free->∃c,X.env.cells.lookup y.1=some c:=λy hy hf=>ok.has y.1 (S.free y hy hf)
theorem s9 (S:bA X scope) (I:aw X Tc σ H s) {fp:List KZ} (U2:∀b∈fp,fG X Tc H b/\b<s.heap.objs.size):(bE X scope s H fp).Ok where
 mod:=I.mod
 kind:=S.kind
 glob:=I.ok.glob
 blt:=I.ok.blt
 above:=Li _
 inj:=λx y c hx hy=>I.ok.inj x y c (dL (by intro c h;simp at h) hx) (dL (by intro c h;simp at h) hy)
 has:=λx hx=>by
  have hm:(x,Mx)∈scope.names:=by
   rcases hx with hx|hx
   ·rcases dM hx with h|⟨h,_⟩
    ·exact absurd rfl (S.nocell _ (eZ h))
    ·exact eZ h
   ·rcases dM hx with h|⟨h,_⟩<;>exact eZ h
  exact oR hm (S.cellOf I.ok _ hm rfl)
 cab:=λx c h=>by cases h
 hd:=I.ok.hd
 frames:=I.ok.frames
 stk:= .inl rfl
 exf:=λb hb=>⟨Lu (U2 b hb).2,λx c hx=>(U2 b hb).1.2.2.2.2.1 x c (dL (by intro c h;simp at h) hx)⟩
 bs:=I.bs
 bsz:=LL I.ok.bsz I.sz
 noex:=λb o e hb=>by
  rcases(U2 b hb).1.2.2.2.1 with h|h
  ·exact I.ok.noex b o e h
  ·have h1:b<X.base.objs.size:=Lg e
   exact LI _ (LJ h1 (LL I.ok.bsz h))
 exfs:=λb hb hc=>by
  have:=I.stkSub b hc
  rcases Le.mp this with h|h
  ·exact(U2 b hb).1.2.1 h
  ·exact(U2 b hb).1.2.2.1 h
 funs:=I.stack
 frf:=I.stkFree
theorem zQ (S:bA X scope) (I:aw X Tc σ H s) {fp:List KZ} (U2:∀b∈fp,fG X Tc H b/\b<s.heap.objs.size) {h':Lj} {t':Nat}
  (hn:h'.Ns s.heap.objs.size λ_=>none) (k:∀b o,s.heap.get? b=some o->h'.get? b=some o):
  aw (bE X scope s H fp) [] (lP X.N scope.names σ) H {s with heap:=h',toks:=t'}where
 ok:=s9 S I U2
 os:=rfl
 bare:=I.bare
 base:=Un.kept k
 loc:=by
  refine⟨_,hn,λi x v hi hv _=> ?_⟩
  have V8:(scope.names.map (·.1))[i]? =some x:=hi
  rw[LA]at V8
  unfold lP at hv
  rw[LA]at hv
  cases e:scope.names[i]? with
  |none=>rw[e]at V8;cases V8
  |some y=>
   rw[e]at V8 hv
   have hx:y.1=x:=by simpa using V8
   have hy:y∈scope.names:=Mj e
   simp only[NJ,PX]at hv
   by_cases hf:y.2= .free
   ·rw[if_pos hf]at hv
    cases ei:X.N.findIdx? (·==y.1)with
    |none=>rw[ei]at hv;cases hv
    |some j=>
     rw[ei]at hv
     have hj:σ[j]? =some (some v):=by
      cases e2:σ[j]? with
      |none=>simp[e2]at hv
      |some o=>simp only[Qd,e2,Option.join_some]at hv;rw[hv]
     obtain⟨hl,hp,_⟩:=List.findIdx?_eq_some_iff_getElem.mp ei
     have hN:X.N[j]? =some x:=by
      rw[M_ hl]
      have:=eq_of_beq hp
      rw[this,hx]
     have hk:=S.free y hy hf
     rw[hx]at hk
     obtain⟨m,_,hm⟩:=I.loc
     obtain⟨u,ru,lu⟩:=hm j x v hN hj (by
      rcases hk with q|q
      ·exact .inr (.inl q)
      ·exact .inr (.inr q))
     refine⟨u,ru,?_⟩
     rcases lu with ⟨q,_⟩|⟨_,c,hc,UK⟩
     ·rcases hk with z|z<;>rw[z]at q<;>cases q
     ·have UN:(x,Mx)∈scope.names:=by
       have:y=(x,Mx):=by cases y;simp at hx hf;rw[hx,hf]
       rw[<-this];exact hy
      obtain⟨d,hd⟩:=oR (cs:=[]) UN (S.cellOf I.ok _ UN rfl)
      have a1h:d=c:=by
       have:=dL (cs:=[]) (by intro c h;simp at h) hd
       rw[this]at hc
       exact Ms hc
      refine .inr ⟨?_,d,hd,?_⟩
      ·show (Ni scope X.env).names.lookup x=some .cell\/(Ni scope X.env).names.lookup x=some .free
       have a1i:∃k,(Ni scope X.env).names.lookup x=some k:=by
        unfold Ni
        cases el:(scope.names.map λ(n,k)=>if (k==Mx&&X.env.scope.kind== .function&&X.env.kindOf n==some .cell)then (n,Rp)else (n,k)).lookup x with
        |some k=>exact⟨k,rfl⟩
        |none=>
         exfalso
         rw[List.lookup_eq_none_iff]at el
         have:=el (if (Mx==Mx&&X.env.scope.kind== .function&&X.env.kindOf x==some .cell)then (x,Rp)else (x,Mx)) (Lk.mpr ⟨_,UN,rfl⟩)
         split at this<;>simp at this
       obtain⟨k,Z7⟩:=a1i
       rcases dM Z7 with h|⟨_,h⟩
       ·have Z8:=eZ h
        have:k= .free:=by
         have nd:=S.nd
         obtain⟨a,ha,e1⟩:=Rb.mp UN
         obtain⟨b,hb,e2⟩:=Rb.mp Z8
         have:a=b:=by
          refine(OI (h₀:=by simpa using ha) (h₁:=by simpa using hb) nd).mp ?_
          rw[So,So,e1,e2]
         subst this
         rw[e1]at e2
         cases e2;rfl
        subst this
        exact .inr Z7
       ·subst h;exact .inl Z7
      ·rw[a1h];exact UK.keeps k
   ·rw[if_neg hf]at hv;cases hv
 cell:=λx c hx=>by
  obtain⟨v,hv⟩:=I.cell x c (dL (cs:=[]) (by intro c h;simp at h) hx)
  exact⟨v,hv.keeps k⟩
 free:=I.hok.fresh (Li _)
 freeC:=λx c hx=>I.freeC x c (dL (cs:=[]) (by intro c h;simp at h) hx)
 pin:=λp hp=>by cases hp
 hok:=I.hok.kept k
 len:=by simp[bE,lP]
theorem ou (I:aw X Tc σ H s) {fp:List KZ} (U2:∀b∈fp,fG X Tc H b/\b<s.heap.objs.size) {τ:St} {H':Hp} {s':KY} (I':aw (bE X scope s H fp) [] τ H' s') {h':Lj} {t':Nat}
  (hs:∀b o,b≠s.heap.objs.size->s'.heap.get? b=some o->h'.get? b=some o):aw X Tc σ H' {s' with heap:=h',toks:=t'}:=by
 have u:Un (ol X.stack) fp H H' s.heap s'.heap:=I'.base
 have hC:H' s.heap.objs.size=none:=I'.free
 have nC:∀b o,s.heap.get? b=some o->b≠s.heap.objs.size:=λb o e=>Lu (Lg e)
 refine I.call' (ch:=fp) I'.os ⟨?_,?_,u.free,?_,u.tups,u.frzs,u.tbls⟩ (λb o e=> ?_) I'.bare λb hb=> ?_
 ·exact λb o e n a c=>hs b o (nC b o e) (u.keep b o e n a c)
 ·intro b o e n a c
  obtain⟨sl,q⟩:=u.slot b o e n a c
  exact⟨sl,hs b _ (nC b o e) q⟩
 ·intro b o e a
  obtain⟨o',q⟩:=u.there b o e a
  exact⟨o',hs b _ (nC b o e) q⟩
 ·refine(I'.hok b o e).stay (λc v hc q=>hs c v ?_ q) (λ_ q=>q) λ_ _ q=>q
  intro z
  subst z
  rcases hc with z|z
  ·rw[z]at hC;rw[hC]at e;cases e
  ·rw[hC]at z;cases z
 ·obtain⟨h1,h2,h3,h4,h5,h6⟩:=(U2 b hb).1
  exact⟨h4,h2,h5,h6⟩
end
def zR (X:Cx) (TH:List La) (t:TT):Prop:=
 ∀(Tc:List (KZ×LG)) (s:KY) (σ:St) (H:Hp) (Q:Bool->Hp->Prop),aw X Tc σ H s->t σ H Q->
  wpAny (Lh X.prog X.w) X.A (forIn TH true λc r=>if r=true then do let ok<-Sz c X.env (Ls c X.env);pure (P2 ok)else pure (P2 r)) (TP X Tc σ Q) X.xe s
theorem CH {X:Cx}:zR X [] (λ_ H Q=>Q true H):=λ_ _ _ H _ I h=>wpAny_tests_nil ⟨H,I,h⟩
theorem CI {X:Cx} {c:La} {t:TT} (h:PT X c t):zR X [c] t:=λTc s σ H Q I q=>wpAny_tests_one (h Tc s σ H Q I q)
def iM (J:It) (g:TG) (tt:TT) (te:TE) (D:KZ) (τ0:St) (Q:Hp->Prop) (H1:Hp):Prop:=
 ∃W:Nat->Nat->List V->St->Hp->Prop,(∃m,W 0 m [] τ0 H1)/\∀i m ys τ H,W i m ys τ H->H D=some (.lst ys)/\
  ((J.stop i H/\Q H)\/(J.go i H/\ys.length<sizeLine/\∀x H',J.yld i H x H'->g x τ H' λτ2 H2=>tt τ2 H2 λb H3=>
   if b=true then te τ2 H3 λy H4=>H4 D=some (.lst ys)/\∃m',m'<m/\W (i+1) m' (ys++[y]) τ2 (a_ H4 D (.lst (ys++[y])))else ∃m',m'<m/\W (i+1) m' ys τ2 H3))
def HV (N:List L0) (names:List (L0×Mf)) (wi:TI) (g:TG) (tt:TT) (te:TE):TE:=λσ H Q=>
 wi σ H λJ H1=>∀D,H1 D=none->iM J g tt te D (lP N names σ) (λH2=>Q (.ref D) H2) (a_ H1 D (.lst []))
section
variable {X:Cx} {TJ tg iter:La} {TH:List La} {scope:MO} {pos:LF} {wi:TI} {g:TG} {tt:TT} {te:TE}
theorem CJ (S:bA X scope) (hc:X.calm=true) (hg:∀s H ex,PG (bE X scope s H ex) tg g) (UB:∀s H ex,zR (bE X scope s H ex) TH tt) (Ux:∀s H ex,PE (bE X scope s H ex) TJ te)
  {Tc:List (KZ×LG)} {σ:St} {H:Hp} {s:KY} (I:aw X Tc σ H s) {fp:List KZ} {it D:KZ} {tn:Nat->Lj->Prop} {J:It} (T:t6 X.prog X.w X.K tg J fp it tn)
  (U2:∀b∈fp,fG X Tc H b/\b<s.heap.objs.size) {Q:Hp->Prop} {R:Q4->KY->Prop}
  (hR:∀τ H' s',aw (bE X scope s H fp) [] τ H' s'->Q H'->R (.ok .next) s')
  {s1:KY} {τ0:St} (I1:aw (bE X scope s H fp) [] τ0 H s1) (ht:tn 0 s1.heap) (q:iM J g tt te D τ0 Q H):
  Ng (Lh X.prog X.w) X.A (.compLoop (.ListComp TJ [⟨tg,iter,TH,0⟩] scope pos) 0 (.ref it) (.ref D) (bE X scope s H fp).env) R s1:=by
 obtain⟨W,⟨m0,w0⟩,V9⟩:=q
 have Up:∀{H':Hp},(∀b∈fp,H' b=none)->∀b∈fp,fG (bE X scope s H fp) [] H' b:=λ{H'} hn b hb=>
  ⟨hn b hb,Lu (U2 b hb).2,(s9 S I U2).exfs b hb, .inl hb,λx c hx=>(U2 b hb).1.2.2.2.2.1 x c (dL (cs:=[]) (by intro c h;simp at h) hx),λp hp=>by cases hp⟩
 refine codeAny_loop rfl (λn s'=>∃i ys τ H',aw (bE X scope s H fp) [] τ H' s'/\tn i s'.heap/\(∀b∈fp,H' b=none)/\W i n ys τ H') (λn s2 hI=> ?_) m0 ⟨0,[],τ0,H,I1,ht,λb hb=>(U2 b hb).1.1,w0⟩
 obtain⟨i,ys,τ,H2,I2,Vb,XY,w2⟩:=hI
 show wpAny _ X.A ((compTurn (.ListComp TJ [⟨tg,iter,TH,0⟩] scope pos) 0 (.ref it) (.ref D) (bE X scope s H fp).env).onRaise (λx=>do Oh x (bE X scope s H fp).env;theTreesLotGoes x)) _ _ s2
 refine wpAny_noted ?_
 rw[compTurn_list]
 have up:∀{α:Type} {t:NV α} {Q:α->KY->Prop} {E:KW->KY->Prop} {s:KY},wpAny (Lh X.prog X.w) X.A t Q (λ_ _=>False) s->wpAny (Lh X.prog X.w) X.A t Q E s:=λh=>M8 h (λ_ _ q=>q) λ_ _ f=>f.elim
 obtain⟨hD,Z9⟩:=V9 i n ys τ H2 w2
 rcases Z9 with ⟨stop,qn⟩|⟨go,hz,step⟩
 ·refine K_ (MR (K_ (up (bq (T.done (bE X scope s H fp) rfl rfl rfl hc i [] s2 τ H2 (λ_ _=>False) I2 (Up XY) Vb stop) λr s3 z_=> ?_))))
  obtain⟨hr,I3⟩:=z_
  subst hr
  exact Lc (hR _ _ _ I3 qn)
 ·refine K_ (MR (K_ (up (bq (T.item (bE X scope s H fp) rfl rfl rfl hc i [] s2 τ H2 (λ_ _=>False) I2 (Up XY) Vb go) λr s3 z_=> ?_))))
  obtain⟨u,hr,h3⟩:=z_
  subst hr
  refine K_ (up (bq h3 λ_ s4 z_=> ?_))
  obtain⟨x,H4,I4,r4,y4,WM,Za⟩:=z_
  have Zb:=I4.pinned (Up Za) (T.obj _ _ WM)
  have VQ:∀{τ7:St} {H7:Hp} {s7:KY},aw (bE X scope s H fp) ([]++mK fp s4.heap) τ7 H7 s7->aw (bE X scope s H fp) [] τ7 H7 s7/\tn (i+1) s7.heap/\∀b∈fp,H7 b=none:=λI7=>
   ⟨I7.unpinned,T.keep _ _ _ WM λb hb o e=>(I7.pin (b,o) (Ln _ (Ln _ (ef hb e)))).1,λb hb=>by
    obtain⟨o,e,d⟩:=T.obj _ _ WM b hb
    exact(I7.pin (b,o) (Ln _ (Ln _ (ef hb e)))).2.1⟩
  refine K_ (up (bq (hg s H fp _ s4 τ H4 x u _ Zb r4 (step x H4 y4)) λ_ s5 z_=> ?_))
  obtain⟨τ5,H5,I5,q5⟩:=z_
  refine K_ (up (bq (UB s H fp _ s5 τ5 H5 _ I5 q5) λok s6 z_=> ?_))
  obtain⟨H6,I6,q6⟩:=z_
  cases ok with
  |false=>
   obtain⟨m',hm,w'⟩:=q6
   obtain⟨a,b,c⟩:=VQ I6
   exact Lc ⟨rfl,m',hm,i+1,ys,τ5,H6,a,b,c,w'⟩
  |true=>
   rw[if_pos rfl]at q6
   refine K_ (K_ (up (bq (Ux s H fp _ s6 τ5 H6 _ I6 q6) λv s7 z_=> ?_)))
   obtain⟨y,H7,I7,r7,Zc,m',hm,w'⟩:=z_
   refine K_ (up (bq (mO (X:=bE X scope s H fp) _ s7 τ5 H7 (.ref D) [y] (.ref D) [v] (λ_ H8=>H8=a_ H7 D (.lst (ys++[y]))) I7 rfl (.cons r7 .nil) ⟨D,ys,y,rfl,rfl,Zc,hz,rfl⟩) λ_ s8 z_=> ?_))
   obtain⟨_,H8,I8,_,e8⟩:=z_
   subst e8
   obtain⟨a,b,c⟩:=VQ I8
   exact Lc (Lc ⟨rfl,m',hm,i+1,ys++[y],τ5,_,a,b,c,w'⟩)
theorem tw (S:bA X scope) (hc:X.calm=true) (hg:∀s H ex,PG (bE X scope s H ex) tg g) (UB:∀s H ex,zR (bE X scope s H ex) TH tt) (Ux:∀s H ex,PE (bE X scope s H ex) TJ te)
  {Tc:List (KZ×LG)} {σ:St} {H:Hp} {s:KY} {E:KW->KY->Prop} (I:aw X Tc σ H s) {fp:List KZ} {it:KZ} {tn:Nat->Lj->Prop} {J:It} (T:t6 X.prog X.w X.K tg J fp it tn)
  (U2:∀b∈fp,fG X Tc H b) (ht:tn 0 s.heap) {Q:KZ->Hp->Prop} {RR:KW->KZ->Q4->KY->Prop}
  (hR:∀(D:KZ) (H3:Hp) (s3:KY) (τ:St) (H':Hp) (s':KY),aw X Tc σ H3 s3->(∀b∈fp,fG X Tc H3 b/\b<s3.heap.objs.size)->aw (bE X scope s3 H3 fp) [] τ H' s'->Q D H'->RR (.ref D) s3.heap.objs.size (.ok .next) s')
  (q:∀D,H D=none->iM J g tt te D (lP X.N scope.names σ) (Q D) (a_ H D (.lst []))):
  wpAny (Lh X.prog X.w) X.A (S2 []) (λacc s₃=>wpAny (Lh X.prog X.w) X.A (QV scope X.env.globals (lO X.env scope.names []) [] X.env.qual none .none (some X.env)) (λcenv s₄=>
   Ng (Lh X.prog X.w) X.A (.compStart (.ListComp TJ [⟨tg,iter,TH,0⟩] scope pos) 0 (.ref it) acc {cenv with scope:=Ni scope X.env}) (RR acc cenv.locals) s₄) E s₃) E s:=by
 have TK:∀b∈fp,b<s.heap.objs.size:=λb hb=>by
  obtain⟨o,e,_⟩:=T.obj _ _ ht b hb
  exact Lg e
 refine O2 ?_
 have I3:=I.lnew (ys:=[]) (its:=[]) (t':=s.toks) .nil (M6 _)
 have hD:H s.heap.objs.size=none:=I.hok.fresh (Li _)
 have Vt:(s.heap.push {cls:= .type "list",data:= .seq ([]:List KW).toArray}).objs.size=s.heap.objs.size+1:=Nu ..
 have UO:∀b∈fp,fG X Tc (a_ H s.heap.objs.size (.lst [])) b/\b<({s with heap:=s.heap.push {cls:= .type "list",data:= .seq ([]:List KW).toArray},toks:=s.toks}:KY).heap.objs.size:=λb hb=>by
  refine⟨⟨?_,(U2 b hb).2⟩,?_⟩
  ·rw[au (Lu (TK b hb))];exact(U2 b hb).1
  ·show b<(s.heap.push _).objs.size
   rw[Vt]
   exact MN (TK b hb)
 refine Rc S.nocell (by intro y hy;simp at hy) (λh₁ VR VS=> ?_) S.kind
 dsimp only at VR VS ⊢
 have k1:∀b o,(s.heap.push {cls:= .type "list",data:= .seq ([]:List KW).toArray}).get? b=some o->h₁.get? b=some o:=λb o e=>VS.extBut b o (Lu (Lg e)) (L5 _ e)
 have I4:=zQ (t':=s.toks) S I3 UO (h':=h₁) VR k1
 have XZ:tn 0 h₁:=T.keep _ _ _ ht λb hb o e=>k1 b o (L5 _ e)
 have Vd:Ng (Lh X.prog X.w) X.A (.compLoop (.ListComp TJ [⟨tg,iter,TH,0⟩] scope pos) 0 (.ref it) (.ref s.heap.objs.size) (bE X scope {s with heap:=s.heap.push {cls:= .type "list",data:= .seq ([]:List KW).toArray},toks:=s.toks} (a_ H s.heap.objs.size (.lst [])) fp).env)
   (RR (.ref s.heap.objs.size) (s.heap.push {cls:= .type "list",data:= .seq ([]:List KW).toArray}).objs.size) {s with heap:=h₁,toks:=s.toks}:=
  CJ S hc hg UB Ux I3 T UO (λτ H' s' I' q'=>hR _ _ _ τ H' s' I3 UO I' q') I4 XZ (q _ hD)
 exact QK Vd (T.self _ 0 _ _ _ XZ Vd)
theorem wA (S:bA X scope) (hc:X.calm=true) (hi:PI X tg iter wi) (hg:∀s H ex,PG (bE X scope s H ex) tg g) (UB:∀s H ex,zR (bE X scope s H ex) TH tt) (Ux:∀s H ex,PE (bE X scope s H ex) TJ te)
  (hs:∀x,Mq iter X.env x=pure x:=by intro _;rfl):PE X (.ListComp TJ [⟨tg,iter,TH,0⟩] scope pos) (HV X.N scope.names wi g tt te):=by
 intro Tc s σ H Q I h
 rw[eval_ListComp]
 refine Qe (use:=none) rfl hs (r_ (S.cellOf I.ok)) S.kind S.loc (bq (hi Tc s σ H _ I h) λv s1 h1=>bq h1 λXO s2 h2=> ?_)
 obtain⟨it,fp,tn,J,H2,e,I2,T,Vb,f2,q⟩:=h2
 subst e
 refine tw (Q:=λD H2=>Q (.ref D) H2) (RR:=λacc C=>compPost (Lh X.prog X.w) X.A X.xe none (EP X Tc σ Q) acc C) S hc hg UB Ux I2 T f2 Vb ?_ q
 intro D H3 s3 τ H' s' I3 f3 I' q'
 obtain⟨m,hm,_⟩:=I'.loc
 refine⟨m,hm,λh' Ub=> ?_⟩
 exact⟨.ref D,H',ou (t':=s'.toks) I3 f3 I' λb o hb e=>Ub.extBut b o hb e,rfl,q'⟩
def HW (N:List L0) (names:List (L0×Mf)) (wi:TI) (g:TG) (tt:TT) (te:TE) (gy:TG):TS:=λD σ H=>
 wi σ H λJ H1=>∀p,H1 p=none->iM J g tt te p (lP N names σ) (λH2=>gy (.ref p) σ H2 D.nx) (a_ H1 p (.lst []))
theorem CK {y:L0} {py U4:LF} {gy:TG} (S:bA X scope) (hc:X.calm=true) (hi:PI X tg iter wi) (hg:∀s H ex,PG (bE X scope s H ex) tg g) (UB:∀s H ex,zR (bE X scope s H ex) TH tt)
  (Ux:∀s H ex,PE (bE X scope s H ex) TJ te) (hy:PG X (.Name y py) gy) (UZ:Mi (.ListComp TJ [⟨tg,iter,TH,0⟩] scope pos) (some (.Name y py)) U4.line X.env=pure true:=by rfl)
  (hs:∀x,Mq iter X.env x=pure x:=by intro _;rfl):PS X (.Assign [.Name y py] (.ListComp TJ [⟨tg,iter,TH,0⟩] scope pos) U4) (HW X.N scope.names wi g tt te gy):=by
 intro Tc s σ H D I h
 rw[QW _ _ _ _ UZ]
 refine K_ (MR (K_ ?_))
 show wpAny _ X.A (do let _<-PH (.ListComp TJ [⟨tg,iter,TH,0⟩] scope pos) scope X.env _ (S2 []) false (Ls iter X.env) (some (Ny (.Name y py) X.env))) _ _ s
 refine K_ (M8 (Qe (use:=some (Ny (.Name y py) X.env)) (Q:=λ_ s'=>SP X Tc D .next s') rfl hs (r_ (S.cellOf I.ok)) S.kind S.loc
  (bq (hi Tc s σ H _ I h) λv s1 h1=>bq h1 λXO s2 h2=> ?_)) (λ_ s' hq=>Lc (Lc hq)) λ_ _ e=>e)
 obtain⟨it,fp,tn,J,H2,e,I2,T,Vb,f2,q⟩:=h2
 subst e
 refine tw (Q:=λp H2=>gy (.ref p) σ H2 D.nx) (RR:=λacc C=>compPost (Lh X.prog X.w) X.A X.xe (some (Ny (.Name y py) X.env)) (λ_ s'=>SP X Tc D .next s') acc C) S hc hg UB Ux I2 T f2 Vb ?_ q
 intro p H3 s3 τ H' s' I3 f3 I' q'
 obtain⟨m,hm,_⟩:=I'.loc
 obtain⟨oC,es,ep,X_,WN,Zd,Ze⟩:=hm
 have J1:aw X Tc σ H' s':=ou (t':=s'.toks) (h':=s'.heap) I3 f3 I' λb o _ e=>e
 have Y0:H' s3.heap.objs.size=none:=I'.free
 have WO:s3.heap.objs.size≠X.env.locals:=λz=>by have:=I3.lt;rw[<-z]at this;exact LI _ this
 have J2:aw X (Tc++[(s3.heap.objs.size,oC)]) σ H' s':=J1.pins_of λq hq=>by
  rcases LR.mp hq with hq|hq
  ·exact J1.pin q (Ln _ hq)
  ·have e:q=(s3.heap.objs.size,oC):=by simpa using hq
   subst e
   exact⟨X_,Y0,WO,I3.nofs (Li _),λv z=>by rw[WN]at z;cases z⟩
 refine bq (hy _ s' σ H' (.ref p) (.ref p) D.nx J2 rfl q') λ_ UA z_=> ?_
 obtain⟨σ5,H5,I5,q5⟩:=z_
 have hp:=I5.pin (s3.heap.objs.size,oC) (Ln _ (Ln _ L8))
 refine⟨m,⟨oC,es,ep,hp.1,WN,Zd,Ze⟩,λh' Ub=> ?_⟩
 refine⟨σ5,H5,(I5.unpinned).turned (it:=s3.heap.objs.size) (t':=UA.toks) (λb o hb e=>Ub.extBut b o hb e) hp.2.1 WO (.inr I3.sz) (λx c hx z=> ?_) (λq hq z=> ?_),q5⟩
 ·obtain⟨v,o,ho,_⟩:=I3.cell x c hx
  have:=Lg ho
  rw[z]at this
  exact LI _ this
 ·have:=(I3.pin q hq).1
  have:=Lg this
  rw[z]at this
  exact LI _ this
end
end L2
namespace L2
open PySem PySem.Spec PyProof.Rows
section
variable {X:Cx} {e a b st:La} {te ta tb:TE} {Xt:TO} {pos p2 p:LF}
def JO (K:KU) (te:TE) (Xt:TO):TE:=λσ H Q=>te σ H λx H1=>Xt σ H1 λo H2=>o=some (-1)/\∃a xs,x= .ref a/\d6 K H2 a xs/\∀p,H2 p=none->Q (.ref p) (a_ H2 p (.lst xs.reverse))
theorem FO (he:PE X e te) (Tz:PO X (some st) Xt):PE X (.Subscript e (.Slice none none (some st) p2) pos) (JO X.K te Xt):=by
 intro Tc s σ H Q I h
 refine R9 (bq (he Tc s σ H _ I h) λv s1 z_=> ?_)
 obtain⟨x,H1,I1,r1,q1⟩:=z_
 refine wpAny_Slice ?_
 rw[PD]
 refine Lc ?_
 try rw[PD]
 refine Lc ?_
 refine bq (Tz Tc s1 σ H1 _ I1 q1) λvk s2 z_=> ?_
 obtain⟨o,H2,I2,pk,ho,a,xs,ex,hx,q⟩:=z_
 subst ho
 subst ex
 cases r1
 have I3:aw X Tc σ H2 {s2 with heap:=s2.heap.push {cls:= .type "slice",data:= .fields #[.none, .none,vk]}}:=I2.kept (t':=s2.toks) λb ob q=>L5 _ q
 obtain⟨its,r,ht,hz⟩:=I3.list hx
 have Ti:=r.length
 show wpAny (Lh X.prog X.w) X.A (PF e (.Slice none none (some st) p2) (.ref a) (.ref s2.heap.objs.size)) (EP X Tc σ Q) X.xe {s2 with heap:=s2.heap.push {cls:= .type "slice",data:= .fields #[.none, .none,vk]}}
 refine tail_any (ops:=[.ref a, .ref s2.heap.objs.size]) ht.isList.typeIs PR.lookup ?_ (by with_unfolding_all rfl)
 refine Q9 ht.isList (RP ..) .none .none pk (by decide) ?_ (by rw[Ld]<;>omega)
 rw[PySem.W.krv_pick]
 refine⟨.ref _,_,I3.laid (t':=s2.toks) (o:= .lst xs.reverse) (λb ob q=>L5 _ q) (Li _) ?_,rfl,q _ (I3.hok.fresh (Li _))⟩
 exact⟨by rw[P9];exact hz,its.reverse,0,r.reverse,Lq _ rfl⟩
def JP (K:KU):List V->Hp->VK->Prop:=λxs H Q=>∃x T t k,xs=[x, .ty T]/\lL K H x t/\Pc K t (.type T)=some k/\Q (.bl k) H
theorem zS:ck X (.builtin "isinstance") (JP X.K):=by
 intro Tc s σ H xs us Q I rv h
 obtain⟨x,T,t,k,rfl,ty,e,q⟩:=h
 obtain⟨u,w',rfl,ru,Uy⟩:=wu rv
 cases Uy
 exact xM I ru ty e λtk=>⟨.bl k,H,I.tok tk,rfl,q⟩
theorem zT:LK "isinstance"=some (.builtin "isinstance"):=by decide+kernel
theorem xR (hc:X.calm=true):ck X (.builtin "sum") (λxs H Q=>∃p ns,xs=[.ref p]/\d6 X.K H p (ns.map V.int)/\Q (.int (T6 ns)) H):=by
 intro Tc s σ H xs us Q I rv h
 obtain⟨p,ns,rfl,hx,q⟩:=h
 obtain⟨u,rfl,ru⟩:=fU rv
 cases ru
 obtain⟨its,r,ht,hz⟩:=I.list hx
 have hi:=iJ r
 obtain⟨xs,WQ⟩:=hi.allInts.items
 have Ur:s.heap.IsList p (intItems xs):=WQ▸ht.isList
 refine sum_intListG (I.ok.hd hc) Ur λh' tk t' hk=> ?_
 have e1:ns=xs.toList.map (·.1):=by
  rw[<-nums_intItems,<-WQ]
  exact(show numsOf its.toArray.toList=ns from hi.numsOf).symm
 have e2:preSum (numAt xs) xs.size=ns.sum:=by
  rw[preSum_eq,NO (by simp),e1]
 rw[e2]
 exact⟨.int ns.sum,H,I.kept hk,⟨t',rfl⟩,q⟩
def vc (x:Int):List Int->List Int
 |[]=>[x]
 |y::r=>if x<=y then x::y::r else y::vc x r
def cy:List Int->List Int
 |[]=>[]
 |x::r=>vc x (cy r)
theorem mQ (x:Int):∀l:List Int,(vc x l).Perm (x::l)
 |[]=>Om _
 |y::r=>by
  unfold vc
  split
  ·exact Om _
  ·exact(SQ y (mQ x r)).trans (List.Perm.swap x y r)
theorem eu:∀l:List Int,(cy l).Perm l
 |[]=>Om _
 |x::r=>(mQ x _).trans (SQ x (eu r))
theorem nN (x:Int):∀{l:List Int},l.Pairwise (·<=·)->(vc x l).Pairwise (·<=·)
 |[],_=>by simp[vc]
 |y::r,h=>by
  obtain⟨h1,h2⟩:=Ma.mp h
  unfold vc
  split
  ·rename_i Zf
   refine Ma.mpr ⟨λz hz=> ?_,h⟩
   rcases Le.mp hz with rfl|hz
   ·exact Zf
   ·exact N0 Zf (h1 z hz)
  ·rename_i Zf
   refine Ma.mpr ⟨λz hz=> ?_,nN x h2⟩
   rcases Le.mp ((mQ x r).mem_iff.mp hz)with rfl|hz
   ·omega
   ·exact h1 z hz
theorem fH:∀l:List Int,(cy l).Pairwise (·<=·)
 |[]=>PV
 |x::r=>nN x (fH r)
theorem eP:∀{a b:List Int},a.Perm b->a.Pairwise (·<=·)->b.Pairwise (·<=·)->a=b
 |[],b,p,_,_=>(List.nil_perm.mp p).symm
 |x::a,[],p,_,_=>(List.perm_nil.mp p)
 |x::a,y::b,p,h1,h2=>by
  obtain⟨a1,a2⟩:=Ma.mp h1
  obtain⟨b1,b2⟩:=Ma.mp h2
  have e:x=y:=by
   have hx:x∈y::b:=p.mem_iff.mp L8
   have hy:y∈x::a:=p.mem_iff.mpr L8
   rcases Le.mp hx with h|h
   ·exact h
   ·rcases Le.mp hy with h'|h'
    ·exact h'.symm
    ·exact Int.le_antisymm (a1 y h') (b1 x h)
  subst e
  rw[eP ((List.perm_cons x).mp p) a2 b2]
theorem se:ck X (.builtin "sorted") (λxs H Q=>∃p ns,xs=[.ref p]/\d6 X.K H p (ns.map V.int)/\ns.length<64/\∀l,H l=none->Q (.ref l) (a_ H l (.lst ((cy ns).map V.int)))):=by
 intro Tc s σ H xs us Q I rv h
 obtain⟨p,ns,rfl,hx,hl,q⟩:=h
 obtain⟨u,rfl,ru⟩:=fU rv
 cases ru
 obtain⟨its,r,ht,hz⟩:=I.list hx
 have hi:=iJ r
 have Ti:=r.length
 rw[L4]at Ti
 refine sorted_ints ht.isList hi (by omega) λout Zg a1 a2 a3=> ?_
 obtain⟨e,he⟩:=sortedAll_at s.heap its out
 have en:Zg=cy ns:=eP (a2.trans (eu ns).symm) a3 (fH ns)
 subst en
 have k:∀b o,s.heap.get? b=some o->(sortedAll s.heap its out).get? b=some o:=λb o e=>sortedAll_old e
 refine⟨.ref (s.heap.objs.size+1),_,I.laid (t':=s.toks) (o:= .lst ((cy ns).map V.int)) k (OB _) ?_,rfl,q _ (I.hok.fresh (OB _))⟩
 refine⟨?_,out.toList,e,kH a1,by simpa[seqObj]using he⟩
 have h1:=a2.length_eq
 rw[L4]at hz ⊢
 omega
end
end L2
namespace L2
open PySem PySem.Spec PyProof.Rows
section
variable {P:Lb} {w:Ll} {H:Hp} {h h':Lj} {a:KZ} {o:HO}
theorem bu.got (x:bu P w H h a o):∃u,h.get? a=some u:=by
 cases o with
 |lst xs=>obtain⟨_,_,_,_,e⟩:=x;exact⟨_,e⟩
 |tup xs=>obtain⟨_,_,_,p⟩:=x;obtain⟨o,e,_⟩:=p;exact⟨_,e⟩
 |dK kvs=>obtain⟨_,_,_,_,o,_,_,e,_⟩:=x;exact⟨_,e⟩
 |dT kvs=>obtain⟨_,_,_,_,o,_,_,e,_⟩:=x;exact⟨_,e⟩
 |set S n=>obtain⟨o,_,_,_,e,_⟩:=x;exact⟨_,e⟩
 |ins C dx fs=>obtain⟨_,_,_,e,_⟩:=x;exact⟨_,e⟩
 |own y=>obtain⟨_,e⟩:=x;exact⟨_,e⟩
 |xd fs=>obtain⟨_,⟨_,_,_,e,_⟩,_⟩:=x;exact⟨_,e⟩
 |rng lo hi=>obtain⟨_,_,_,e⟩:=x;exact⟨_,e⟩
 |frz ob u=>obtain⟨e,_⟩:=x;exact⟨_,e⟩
 |tbl ps=>exact⟨_,x⟩
 |met f y=>exact⟨_,x⟩
 |ext φ=>obtain⟨_,e,_⟩:=x;exact e
theorem jB.nowhere (x:jB P w H h) (hn:h.get? a=none):H a=none:=by
 cases e:H a with
 |none=>rfl
 |some o=>obtain⟨u,q⟩:=(x a o e).got;rw[hn]at q;cases q
end
section
variable {X:Cx} {Tc:List (KZ×LG)} {σ:List (Option V)} {H:Hp} {s:KY} {h':Lj}
theorem aw.laidAt {a:KZ} {o:HO} {t':Nat} (I:aw X Tc σ H s) (k:∀b u,s.heap.get? b=some u->h'.get? b=some u) (hn:s.heap.get? a=none) (new:bu X.prog X.w (a_ H a o) h' a o):
  aw X Tc σ (a_ H a o) {s with heap:=h',toks:=t'}:=by
 have hH:=I.hok.nowhere hn
 have TM:∀b u,s.heap.get? b=some u->b≠a:=λb u q z=>by rw[z,hn]at q;cases q
 refine I.un ⟨λb u q _ _ _=>k b u q,λb u q _ _ _=>⟨u.slots,k b u q⟩,λb u q n _=>by rw[au (TM b u q)];exact n,λb u q _=>⟨u,k b u q⟩,λb xs q=>by rw[au (cc q hH)];exact q,
  λb u xs q=>by rw[au (cc q hH)];exact q,λb ps q=>⟨#[],by rw[au (cc q hH),q];simp⟩⟩ λb u e=> ?_
 by_cases hb:b=a
 ·subst hb;rw[aq]at e;cases e;exact new
 ·rw[au hb]at e
  exact(I.hok b u e).stay (λc v _ q=>k c v q) (λc q=>by rw[au (cc q hH)];exact q) λc xs q=>by rw[au (cc q hH)];exact q
end
section
variable {X:Cx}
theorem sf:ck X (.type "range") (λxs H Q=>∃i j,xs=[.int i, .int j]/\∀p,H p=none->Q (.ref p) (a_ H p (.rng i j))):=by
 intro Tc s σ H xs us Q I rv h
 obtain⟨i,j,rfl,q⟩:=h
 obtain⟨u,w',rfl,ru,Uy⟩:=wu rv
 obtain⟨t,rfl⟩:=ru
 obtain⟨t',rfl⟩:=Uy
 refine call_range_2 ?_
 exact⟨.ref s.heap.objs.size,_,I.laid (o:= .rng i j) (λb ob q=>L5 _ q) (Li _) ⟨t,t',_,Lq _ rfl⟩,rfl,q _ (I.hok.fresh (Li _))⟩
theorem oS {ns:List Int} {acc:Array KW} (h:SR (λi v=>∃n t,ns[i]? =some n/\v= .int n t) acc ns.length):aK (ns.map V.int) acc.toList:=by
 have Td:∀(vs:List KW) (ns:List Int),vs.length=ns.length->(∀(j:Nat) v,vs[j]? =some v->∃n t,ns[j]? =some n/\v= .int n t)->aK (ns.map V.int) vs:=by
  intro vs
  induction vs with
  |nil=>intro ns h1 _;cases ns with
   |nil=>exact .nil
   |cons _ _=>cases h1
  |cons v r ih=>
   intro ns h1 h2
   cases ns with
   |nil=>cases h1
   |cons n ns=>
    obtain⟨m,t,e1,e2⟩:=h2 0 v rfl
    simp at e1
    subst e1
    refine .cons ⟨t,e2⟩ (ih ns (by simpa using h1) λj v hv=> ?_)
    have:=h2 (j+1) v (by simpa using hv)
    simpa using this
 refine Td acc.toList ns (by rw[MB];exact h.1) λj v hv=>h.2 j v (by rw[<-OP];exact hv)
def ez (lo hi:Int):List Int:=(LU (hi - lo).toNat).map λk:Nat=>lo+(k:Int)
theorem sg (hc:X.calm=true):ck X (.type "list") (λxs H Q=>∃p lo hi,xs=[.ref p]/\H p=some (.rng lo hi)/\(-(2 ^20)<=lo/\lo<=2 ^20)/\(-(2 ^20)<=hi/\hi<=2 ^20)/\∀l,H l=none->Q (.ref l) (a_ H l (.lst ((ez lo hi).map V.int)))):=by
 intro Tc s σ H xs us Q I rv h
 obtain⟨p,lo,hi,rfl,hp,⟨l1,l2⟩,⟨h1,h2⟩,q⟩:=h
 obtain⟨u,rfl,ru⟩:=fU rv
 cases ru
 obtain⟨t,u,v,ho⟩:=I.hok p _ hp
 have hn:Oq lo hi 1=(((hi - lo).toNat:Nat):Int):=by
  unfold Oq
  rw[if_pos (by decide)]
  split
  ·rw[Int.ediv_one];omega
  ·omega
 have WR:Builtin.Range.small lo hi 1=true:=small_one (by omega) (by omega) (by omega) (by omega)
 refine call_list_range (I.ok.hd hc) ho WR hn (by omega) λh' tk acc c hk hS U1=> ?_
 have hv:aK ((ez lo hi).map V.int) acc.toList:=by
  refine oS ⟨by rw[U1.1];simp[ez],λj v hv=> ?_⟩
  obtain⟨t,rfl⟩:=U1.2 j v hv
  have hj:j<(hi - lo).toNat:=by
   have:=(O3.mp hv).1
   rw[U1.1]at this
   exact this
  exact⟨lo+j*1,t,by unfold ez;rw[LA,Ry hj];simp,rfl⟩
 refine⟨.ref s.heap.objs.size,_,I.laid (o:= .lst ((ez lo hi).map V.int)) hk (Li _) ⟨?_,acc.toList,c,hv,by simpa using hS⟩,rfl,q _ (I.hok.fresh (Li _))⟩
 rw[L4]
 unfold ez
 rw[L4,N3]
 have:sizeLine=16777216:=Md
 omega
theorem sh (hc:X.calm=true):ck X (.builtin "sorted") (λxs H Q=>∃p kvs ns,xs=[.ref p]/\H p=some (.dK kvs)/\kvs.map (·.1)=ns.map Lf/\ns.length<64/\∀l,H l=none->Q (.ref l) (a_ H l (.lst ((cy ns).map V.int)))):=by
 intro Tc s σ H xs us Q I rv h
 obtain⟨p,kvs,ns,rfl,hp,hk,hl,q⟩:=h
 obtain⟨u,rfl,ru⟩:=fU rv
 cases ru
 obtain⟨z,hd,vs,TB,dd⟩:=oN I.hok hp
 obtain⟨ep,a1j⟩:=dd.dictAt
 have Ti:vs.length=ns.length:=by
  rw[<-TB.length]
  have:=congrArg Nt hk
  simpa using this
 refine Od Si RT RU (RV _) ?_
 unfold OR.«sorted»
 refine K_ (m:=SI "sorted" 1 1 _) (Lc ?_)
 refine K_ (PySem.W.kdu_collect (A:=X.A.in1) (PySem.W.kdl_dict (knd:=aR X.prog X.w) (kvs:=vs) (ep:=ep) hd) (I.ok.hd hc) a1j (by rw[<-TB.length];exact z) λh' tk acc Us U1=> ?_)
 have hI:Q0 acc.toList ns:=by
  refine iJ (oS ⟨by rw[U1.1];exact Ti,λj v hv=> ?_⟩)
  obtain⟨k,x,hx,VM⟩:=U1.2 j v hv
  have Y1:(vs.map (·.1))[j]? =some k:=by rw[LA,hx];rfl
  rw[<-TB.keys,hk,LA]at Y1
  cases e:ns[j]? with
  |none=>rw[e]at Y1;cases Y1
  |some n=>
   rw[e]at Y1
   cases Y1
   rcases bn (show oF (Lf n) v=true from VM)with ⟨i,t,e1,e2⟩|⟨x',t,e1,e2⟩
   ·cases e1;exact⟨n,t,rfl,e2⟩
   ·cases e1
 have UY:acc.toList.length=ns.length:=by rw[MB,U1.1];exact Ti
 refine K_ (O2 ?_ (by rw[UY];have:sizeLine=16777216:=Md;omega))
 have Vr:(h'.push (seqObj "list" acc.toList.toArray 0)).get? h'.objs.size=some (seqObj "list" acc.toList.toArray 0):=Lq _ rfl
 refine K_ (LO (NZ QX ⟨_,Vr,rfl⟩ QE (list_sort_tree Vr hI (by omega) λout Zg a1 a2 a3=>⟨_,rfl,?_⟩) (QY _)))
 refine Lc ⟨_,rfl,?_⟩
 have en:Zg=cy ns:=eP (a2.trans (eu ns).symm) a3 (fH ns)
 subst en
 obtain⟨e,he⟩:=Rq (out:=out) Vr
 have TY:s.heap.get? h'.objs.size=none:=by
  cases e:s.heap.get? h'.objs.size with
  |none=>rfl
  |some o=>exact absurd (Lg (Us _ _ e)) (LI _)
 have kk:∀b o,s.heap.get? b=some o->(Rf (h'.push (seqObj "list" acc.toList.toArray 0)) h'.objs.size acc.toList out).get? b=some o:=λb o eb=>by
  have hb:=Us b o eb
  have TK:b<h'.objs.size:=Lg hb
  rw[QZ (Lu TK) (by rw[Rg];exact MN TK)]
  exact L5 _ hb
 refine⟨.ref h'.objs.size,_,I.laidAt (o:= .lst ((cy ns).map V.int)) kk TY ⟨?_,out.toList,e,kH a1,by simpa[seqObj]using he⟩,rfl,q _ (I.hok.nowhere TY)⟩
 have:=a2.length_eq
 rw[L4]
 have:sizeLine=16777216:=Md
 omega
end
end L2
namespace L2
open PySem PySem.Spec PyProof.Rows
theorem xS:OY (.type "list_reverseiterator") "__len__"=pure none:=by rw[P4,NT];kernel_rfl
theorem zU:OY (.type "list_reverseiterator") "__length_hint__"=pure (some (.builtin "list_reverseiterator.__length_hint__")):=by rw[P4,NT];kernel_rfl
section
variable {prog:Lb} {w:Ll} {A:LD} {E:KW->KY->Prop} {s:KY} {I:KZ} {fp wr:List KZ} {G:Array Q3->Array Q3->Prop} {n:Nat} {P:Nat->KW->Prop} {St:Nat->KY->Prop}
theorem tz {Q:List KW->KY->Prop} (W:WalksS prog w A.in1 I fp wr G n P St) (hT:∀i s,St i s->s.TypeIs (.ref I) "list_reverseiterator") (Tz:St 0 s) (U2:∀b∈fp,b<s.heap.objs.size) (hI:I∈fp)
  (hQ:∀s' acc,Moved wr G s s'->SR P acc n->Q acc.toList s') (hn:n<=sizeLine):wpAny (Lh prog w) A (collect (.ref I)) Q E s:=by
 have Y2:s.heap.objs.size∉fp:=λhm=>LI _ (U2 _ hm)
 have a1k:s.heap.objs.size≠I:=λe=>Y2 (e▸hI)
 unfold collect
 refine K_ (wpAny_runValue (NK PySem.F.entry_proto_collect ?_))
 rw[Nq PySem.F.plain_proto_collect _]
 show wpAny _ A.in1 (S2 []>>=λl=>again (.builtin "list.__iadd__" ⟨[l, .ref I],[]⟩)) _ _ s
 refine K_ (N1 ?_)
 refine Lc ⟨OG Qq _,NK PySem.F.entry_list_iadd ?_⟩
 rw[Nq Qq _]
 have Vu:=W.frame 0 s (s.heap.push {cls:= .type "list",data:= .seq ([]:List KW).toArray}) s.toks Tz (Li _) λb _ o e=>L5 _ e
 have a1l:(s.heap.push {cls:= .type "list",data:= .seq ([]:List KW).toArray}).get? s.heap.objs.size=some {cls:= .type "list",data:= .seq ([]:List KW).toArray}:=Lq _ rfl
 have h1:Qf (.ref s.heap.objs.size) (.ref I)=false:=by simp[Qf,a1k]
 show wpAny _ A.in1 (Pk (.ref s.heap.objs.size) (.ref I) (.ref s.heap.objs.size)) _ _ _
 unfold Pk
 refine K_ (NA (hT 0 _ Vu) ?_)
 rw[if_neg (by rw[h1];decide)]
 refine K_ (W.self 0 _ _ _ Vu ?_)
 refine K_ (LO ?_)
 unfold Builtin.List.listLengthHint
 refine K_ (P0 (hT 0 _ Vu) xS ?_)
 show wpAny _ A.in1 (specialOf (Lr I) (Og "__length_hint__")>>=_) _ _ _
 refine K_ (P0 (hT 0 _ Vu) zU ?_)
 (generalize Xu:("list_reverseiterator.__length_hint__":String)=id0;(fail_if_success (clear Xu id0));wp_delta;rw[show splitId id0=some ("list_reverseiterator","__length_hint__")from by subst Xu;decide+kernel];subst Xu)
 refine K_ (wpAny_isInstance (b:=true) (hT 0 _ Vu) (by rw[Q_];kernel_rfl) ?_)
 refine Lc ?_
 rw[if_neg (by decide)]
 refine Lc ⟨OG PySem.F.plain_extend_loop _,codeAny_extend_loopS W hn _ Y2 _ n 0 _ _ _ rfl (M6 _) Vu a1l (ItemsOf.nil P) λs' Vv c' hm Wk U1=> ?_⟩
 show wpAny _ A (load s.heap.objs.size>>=_) _ _ s'
 refine K_ (wpAny_load Wk ?_)
 exact Lc (hQ s' Vv (Moved.drop_new (o:={cls:= .type "list",data:= .seq ([]:List KW).toArray}) (tk:=s.toks) hm (Li _)) U1)
theorem ll {Q₁:KW->KY->Prop} (W:WalksS prog w A.in1.in1 I fp wr G n P St) (hT:∀i s,St i s->s.TypeIs (.ref I) "list_reverseiterator") (Tz:St 0 s) (U2:∀b∈fp,b<s.heap.objs.size) (hI:I∈fp)
  (h:∀s' acc,Moved wr G s s'->SR P acc n->Q₁ (.ref s'.heap.objs.size) {s' with heap:=s'.heap.push {cls:= .type "tuple",data:= .seq acc}}) (hsz:n<=sizeLine):
  Ng (Lh prog w) A (.call (.builtin "tuple.__new__") ⟨[.type "tuple", .ref I],[]⟩) (wants Q₁ E) s:=by
 refine codeAny_of_tree ?_
 show wpAny _ A.in1 (do checkBuiltinCall "tuple.__new__" ⟨[.type "tuple", .ref I],[]⟩;again (.builtin "tuple.__new__" ⟨[.type "tuple", .ref I],[]⟩)) _ _ s
 refine K_ (wpAny_of_eq (PySem.F.newCall_tuple_1 _) (Lc ⟨OG Qr _,NK PySem.F.entry_tuple_new ?_⟩))
 rw[Nq Qr _]
 have WS:=sub_tuple_self
 have a0m:=init_tuple_lookup
 have a3f:=madeHere_tuple
 have a1m:=hT 0 s Tz
 wp_walk using NA a1m,tz (hn:=hsz) W hT Tz U2 hI
 intro s' acc hm U1
 show wpAny _ _ (MH acc.toList.toArray>>=λv=>ret v) _ _ _
 unfold MH
 refine K_ (N1 ?_ (by show acc.toList.toArray.size<=sizeLine;simp only[Array.toArray_toList];rw[U1.1];exact hsz))
 refine Lc ?_
 have e:acc.toList.toArray=acc:=by simp
 rw[e]
 exact h s' acc hm U1
theorem oU {Q:KW->KY->Prop} (W:WalksS prog w A.in1.in1.in1 I fp wr G n P St) (hT:∀i s,St i s->s.TypeIs (.ref I) "list_reverseiterator") (Tz:St 0 s) (U2:∀b∈fp,b<s.heap.objs.size) (hI:I∈fp)
  (hQ:∀s' acc,Moved wr G s s'->SR P acc n->Q (.ref s'.heap.objs.size) {s' with heap:=s'.heap.push {cls:= .type "tuple",data:= .seq acc}}) (hsz:n<=sizeLine):
  wpAny (Lh prog w) A (call (.type "tuple") [.ref I]) Q E s:=by
 refine callType_codes (Q₁:=λobj s₁=>s₁.TypeIs obj "tuple"/\Q obj s₁) P5 (PySem.F.typeCall_tuple_1 _) PySem.F.entry_object_init
  (ll (hsz:=hsz) W hT Tz U2 hI λs' acc hm U1=>⟨⟨_,Lq _ rfl,rfl⟩,hQ s' acc hm U1⟩) λobj s₁ h₁=> ?_
 exact⟨h₁.1,PySem.F.args_object_init_2 obj _,object_init_meets P5.init.lookup P5.made (by decide) prog w A.in1 _ s₁ ⟨h₁.1,rfl,h₁.2⟩⟩
end
section
variable {X:Cx} {e:La} {te:TE} {pos p1 p2 Tv:LF}
def CL (K:KU) (te:TE):TE:=λσ H Q=>te σ H λx H1=>∃a xs,[x]=[V.ref a]/\d6 K H1 a xs/\∀l,H1 l=none->Q (.ref l) (a_ H1 l (.tup xs.reverse))
theorem qi:LK "reversed"=some (.type "reversed"):=by decide+kernel
theorem tD:LK "tuple"=some (.type "tuple"):=by decide+kernel
theorem xT (hc:X.calm=true) (he:PE X e te) (Zh:X.mg "tuple"=none) (Y3:X.mg "reversed"=none) (Zi:Gl X "tuple") (Y4:Gl X "reversed")
  (VI:L6 [e] X.env=(false,Ls e X.env)::L6 [] X.env) (UP:(LM Tv (L6 [] X.env)).any (·.1)=false)
  (VT:L6 [.Call (.Name "reversed" p2) [e] [] Tv] X.env=(false,Ls (.Call (.Name "reversed" p2) [e] [] Tv) X.env)::L6 [] X.env) (Ve:(LM pos (L6 [] X.env)).any (·.1)=false):
  PE X (.Call (.Name "tuple" p1) [.Call (.Name "reversed" p2) [e] [] Tv] [] pos) (CL X.K te):=by
 intro Tc s σ H Q I h
 refine Mv (gT I Zi Zh tD ?_ (by decide) (by decide))
 refine Mu ?_ VT Ve
 rw[VT]
 show wpAny _ _ (QN ((false,Ls (.Call (.Name "reversed" p2) [e] [] Tv) X.env)::LM pos (L6 [] X.env))) _ _ s
 refine Nc ?_
 refine Mv (gT I Y4 Y3 qi ?_ (by decide) (by decide))
 refine Mu ?_ VI UP
 refine bq (eN he iI VI Tv Tc s σ H (λvs H1=>∃a xs,vs=[V.ref a]/\d6 X.K H1 a xs/\∀l,H1 l=none->Q (.ref l) (a_ H1 l (.tup xs.reverse))) I h) λus s1 z_=> ?_
 obtain⟨vs,H1,I1,r1,q1⟩:=z_
 obtain⟨a,xs,rfl,hx,q⟩:=q1
 obtain⟨u,rfl,ru⟩:=fU r1
 cases ru
 obtain⟨its,r,ht,hz⟩:=I1.list hx
 have Ti:=r.length
 refine call_reversed_list ht.isList ?_
 refine NQ ?_
 have hl:(s1.heap.push (revObj a ((its.toArray.size:Int) - 1))).IsList a its.toArray:=ht.isList.push _
 have TK:a<s1.heap.objs.size:=by obtain⟨o,ho,_⟩:=ht.isList;exact Lg ho
 have W:=Walks.listRev (prog:=X.prog) (w:=X.w) (A:=X.A.in1.in1.in1) (I1.ok.hd hc) s1.heap.objs.size a (Lu TK) its.toArray
 have TM:∀b o,s1.heap.get? b=some o->b≠s1.heap.objs.size:=λb o e z=>absurd (Lg e) (by rw[z];exact LI _)
 refine oU W.toS (λi s st=>st.2.1.typeIs) ⟨M6 _,?_,hl⟩ (λb hb=> ?_) (by simp) (λs' acc hm U1=> ?_) (by rw[Ld];omega)
 ·refine⟨_,Lq _ rfl,rfl,?_⟩
  show Sg _=_
  simp
 ·show b<(s1.heap.push _).objs.size
  rw[Rg]
  rcases Le.mp hb with rfl|hb
  ·exact NY _
  ·rw[Lo.mp hb];exact MN TK
 ·have hk:∀b o,s1.heap.get? b=some o->s'.heap.get? b=some o:=λb o e=>
   hm.heap b o (λhI=>TM b o e (Lo.mp hI)) (L5 _ e)
  have TY:s1.heap.get? s'.heap.objs.size=none:=by
   cases e:s1.heap.get? s'.heap.objs.size with
   |none=>rfl
   |some o=>exact absurd (Lg (hk _ _ e)) (LI _)
  rw[SY hm]
  have hv:aK xs.reverse acc.toList:=by
   have e:acc.toList=its.reverse:=by
    refine List.ext_getElem? λj=> ?_
    have h1:acc.size=its.length:=by have:=U1.1;rwa [Ld]at this
    by_cases hj:j<its.length
    ·have ha:acc[j]? =some (acc[j]'(by omega)):=Array.getElem?_eq_getElem (by omega)
     have:=U1.2 j _ ha
     rw[Ld,List.getElem?_toArray]at this
     rw[OP,ha,List.getElem?_reverse hj,this]
    ·rw[R0 (by rw[MB];omega),R0 (by rw[P9];omega)]
   rw[e]
   exact r.reverse
  refine⟨.ref s'.heap.objs.size,_,I1.laidAt (t':=s'.toks) (o:= .tup xs.reverse) (λb o e=>L5 _ (hk b o e)) TY ⟨?_,acc.toList,hv,?_⟩,rfl,q _ (I1.hok.nowhere TY)⟩
  ·rw[P9];exact hz
  ·exact f9.new _ _
end
end L2
namespace L2
open PySem PySem.Spec PyProof.Rows
theorem oV:OY (.type "list") (Og "keys")=pure none:=by rw[P4,NT];kernel_rfl
theorem o9:OY (.type "tuple") (Og "keys")=pure none:=by rw[P4,NT];kernel_rfl
theorem dN:entryFor table "dict.update.loop"=some OR.«dict.update.loop»:=entryFor_of_tree (by kernel_rfl)
theorem bO:plainId "dict.update.loop"=true:=by decide+kernel
section
variable {prog:Lb} {w:Ll} {A:LD} {E:KW->KY->Prop} {s:KY} {a:KZ}
theorem tE {xs:Array KW} {k:Nat} {sl:Array (Option KW)} {Q:Option KW->KY->Prop} (hx:s.heap.get? a=some {cls:= .type "list",dict:=none,data:= .seq xs k,slots:=sl}) (hA:A.handled=none)
  (h:∀h' tk,(∀b o,s.heap.get? b=some o->h'.get? b=some o)->Q none {s with heap:=h',toks:=tk}):wpAny (Lh prog w) A (Rh (.ref a) "keys") Q E s:=by
 obtain⟨hp,g,d,tk,os⟩:=s
 have hT:∀WT,(⟨hp,g,d,WT,os⟩:KY).TypeIs (.ref a) "list":=λ_=>⟨_,hx,rfl⟩
 have f1:=RW
 have f3:=NL.lookup
 have f4:=NL.bind (.ref a)
 have f5:=am_list_getattr_none
 unfold Rh getAttrBy? getAttrBy
 repeat (any_goals (first|assumption|exact hT _|((with_reducible show wpAny _ _ (call (Rr "list.__getattribute__") _ _) _ _ _);refine call_meets NL (hT _) am_entry_list_getattribute (PySem.F.args_list_getattribute_2 _ _) (meets_getattribute_miss_list a xs k sl _ _ oV (by decide+kernel) (by size_fits)) ⟨hx,hA,λh' WT e WE=> ?_⟩)|wp_step))
 obtain⟨t',u',he⟩:=WE.there
 show wpAny _ _ (Oi _ _ _ _ _ _ _) _ _ _
 unfold Oi
 repeat (any_goals (first|assumption|wp_step))
 exact h _ _ WE.of.keeps
theorem si {xs:Array KW} {k:Nat} {sl:Array (Option KW)} {Q:Option KW->KY->Prop} (hx:s.heap.get? a=some {cls:= .type "tuple",dict:=none,data:= .seq xs k,slots:=sl}) (hA:A.handled=none)
  (h:∀h' tk,(∀b o,s.heap.get? b=some o->h'.get? b=some o)->Q none {s with heap:=h',toks:=tk}):wpAny (Lh prog w) A (Rh (.ref a) "keys") Q E s:=by
 obtain⟨hp,g,d,tk,os⟩:=s
 have hT:∀WT,(⟨hp,g,d,WT,os⟩:KY).TypeIs (.ref a) "tuple":=λ_=>⟨_,hx,rfl⟩
 have f1:=RW
 have f3:=NF.lookup
 have f4:=NF.bind (.ref a)
 have f5:=am_tuple_getattr_none
 unfold Rh getAttrBy? getAttrBy
 repeat (any_goals (first|assumption|exact hT _|((with_reducible show wpAny _ _ (call (Rr "tuple.__getattribute__") _ _) _ _ _);refine call_meets NF (hT _) am_entry_tuple_getattribute (PySem.F.args_tuple_getattribute_2 _ _) (meets_getattribute_miss_tuple a xs k sl _ _ o9 (by decide+kernel) (by size_fits)) ⟨hx,hA,λh' WT e WE=> ?_⟩)|wp_step))
 obtain⟨t',u',he⟩:=WE.there
 show wpAny _ _ (Oi _ _ _ _ _ _ _) _ _ _
 unfold Oi
 repeat (any_goals (first|assumption|wp_step))
 exact h _ _ WE.of.keeps
end
section
variable {prog:Lb} {w:Ll} {A:LD} {R:Q4->KY->Prop} {I:KZ} {fp wr:List KZ} {G:Array Q3->Array Q3->Prop} {n:Nat} {P:Nat->KW->Prop} {St:Nat->KY->Prop}
def vd (Td:Nat->aL) (val:Nat->KW):Nat->List (aL×KW)
 |0=>[]
 |i+1=>Qa (vd Td val i) (Td i) (val i)
theorem ve (kvs:List (aL×KW)) (k:aL) (v:KW):(Qa kvs k v).length<=kvs.length+1:=by
 unfold Qa
 split<;>simp
theorem oW (Td:Nat->aL) (val:Nat->KW):∀i,(vd Td val i).length<=i
 |0=>Li _
 |i+1=>LL (ve _ _ _) (Sn (oW Td val i))
theorem xU {h0:Lj} (W:WalksS prog w A.in1 I fp wr G n P St) (S:KZ) (Y2:S∉fp) (a1n:h0.get? S=none) (a1o:∀b∈wr,h0.get? b=none) (Td:Nat->aL) (val:Nat->KW) (res:KW) (hn:n<=sizeLine)
  (hP:∀i v,P i v->∃a o kv m,v= .ref a/\h0.get? a=some o/\o.cls= .type "tuple"/\o.data= .seq #[kv,val i] m/\(aR prog w).is (Td i) kv=true):
  ∀(k i:Nat) (s:KY),n - i=k->i<=n->St i s->(∀b o,h0.get? b=some o->s.heap.get? b=some o)->s.heap.DictOf (aR prog w) S (vd Td val i)->
   (∀s',Moved (S::wr) G s s'->s'.heap.DictOf (aR prog w) S (vd Td val n)->R (.ok (.ret res)) s')->
   Ng (Lh prog w) A (.builtin "dict.update.loop" ⟨[.ref S, .ref I,rawInt i,res],[]⟩) R s:=by
 have a1p:S∉wr:=λh=>Y2 (W.sub _ h)
 have WS:∀b∈wr,b∈S::wr:=λb hb=>L7 _ hb
 have mv:∀{s s':KY} {kvs:List (aL×KW)},Moved wr G s s'->s.heap.DictOf (aR prog w) S kvs->s'.heap.DictOf (aR prog w) S kvs:=λhm hd=>by
  obtain⟨o,es,ep,ho,rest⟩:=hd
  exact⟨o,es,ep,hm.heap S _ a1p ho,rest⟩
 intro k
 induction k with
 |zero=>
  intro i s hk hi Tz a0n hS hR
  have Uc:i=n:=by omega
  subst Uc
  refine NK dN ?_
  rw[Nq bO _]
  show wpAny _ A.in1 (pyNext (.ref I)>>=_) _ _ s
  refine K_ (W.done s _ _ Tz λs' hm=> ?_)
  show wpAny _ A.in1 (Builtin.Dict.addKeywords S []>>=λ_=>ret res) _ _ s'
  refine K_ (Lc ?_)
  exact Lc (hR s' (hm.mono WS) (mv hm hS))
 |succ k ih=>
  intro i s hk hi Tz a0n hS hR
  have TK:i<n:=by omega
  refine NK dN ?_
  rw[Nq bO _]
  show wpAny _ A.in1 (pyNext (.ref I)>>=_) _ _ s
  refine K_ (W.item i s _ _ TK Tz λv s' a1q Zj hm=> ?_)
  obtain⟨a,o,kv,m,rfl,ho,hc,hd,VM⟩:=hP i v a1q
  have a0o:∀b o,h0.get? b=some o->s'.heap.get? b=some o:=λb o e=>hm.heap b o (λhb=>by rw[a1o b hb]at e;cases e) (a0n b o e)
  have VF:=a0o a o ho
  have Wk:=mv hm hS
  dsimp only
  refine K_ (LO ?_)
  refine K_ (wpAny_tryCatch ?_)
  unfold Builtin.Dict.pairItems
  refine K_ (NA (T:="tuple") ⟨o,VF,hc⟩ ?_)
  rw[if_pos (by decide)]
  refine K_ (wpAny_seqItems VF hd ?_)
  refine Lc ?_
  show wpAny _ A.in1 (N9 [kv,val i] (dictSet S kv (val i))) _ _ s'
  refine LO (wpAny_dictSet_pairs (hsz:=by have:=oW Td val i;omega) VM Wk λh' a1r Zk=> ?_)
  refine Lc ⟨OG bO _,ih (i+1) _ (by omega) TK (W.frame _ s' _ _ Zj (OB _) λb hb o e=> ?_) (λb o e=> ?_) a1r λUA Zl Zm=> ?_⟩
  ·rw[Zk.2 b (λh:b=S=>Y2 (by rw[<-h];exact hb))];exact e
  ·show h'.get? b=some o
   rw[Zk.2 b (λh:b=S=>by rw[h,a1n]at e;cases e)];exact a0o b o e
  ·refine hR UA (Moved.trans W.gtrans ((hm.mono WS).then_heap (OB _) λb o hb e=> ?_) Zl) Zm
   rw[Zk.2 b (λh:b=S=>hb (by rw[h];exact L8))];exact e
end
section
variable {prog:Lb} {w:Ll} {A:LD} {E:KW->KY->Prop} {s:KY} {p:KZ}
abbrev Kp (h h':Lj):Prop:=∀b o,h.get? b=some o->h'.get? b=some o
structure CM (prog:Lb) (w:Ll) (h0:Lj) (p:KZ) (T:String) (n:Nat) (P:Nat->KW->Prop):Prop where
 lt:p<h0.objs.size
 ty:∀s:KY,Kp h0 s.heap->s.TypeIs (.ref p) T
 nd:(MY T != MY "dict")=true
 no:∀(A:LD) (E:KW->KY->Prop) (s:KY) (Q:Option KW->KY->Prop),A.handled=none->Kp h0 s.heap->(∀h' tk,Kp s.heap h'->Q none {s with heap:=h',toks:=tk})->wpAny (Lh prog w) A (Rh (.ref p) "keys") Q E s
 it:∀(A:LD) (s:KY),A.handled=none->Kp h0 s.heap->∃(oI:LG) (St:Nat->Lj->Prop),(∀(A':LD) (E:KW->KY->Prop) (Q:KW->KY->Prop),Q (.ref s.heap.objs.size) {s with heap:=s.heap.push oI}->wpAny (Lh prog w) A' (RJ (.ref p)) Q E s)/\
  Walks prog w A s.heap.objs.size [s.heap.objs.size,p] [s.heap.objs.size] n P St/\St 0 (s.heap.push oI)
theorem qj {T:String} {n:Nat} {P:Nat->KW->Prop} {Q:KW->KY->Prop} (S:CM prog w s.heap p T n P) (hh:A.handled=none) (Td:Nat->aL) (val:Nat->KW) (hn:n<=sizeLine)
  (hP:∀i v,P i v->∃a o kv m,v= .ref a/\s.heap.get? a=some o/\o.cls= .type "tuple"/\o.data= .seq #[kv,val i] m/\(aR prog w).is (Td i) kv=true)
  (h:∀h' tk,Kp s.heap h'->h'.DictOf (aR prog w) s.heap.objs.size (vd Td val n)->Q (.ref s.heap.objs.size) {s with heap:=h',toks:=tk}):
  wpAny (Lh prog w) A (call (.type "dict") [.ref p]) Q E s:=by
 refine callType_codes (Q₁:=λobj s₁=>obj= .ref s.heap.objs.size/\s₁={s with heap:=s.heap.push {cls:= .type "dict",data:= .dict #[]}}) PySem.F.kt_called_dict (PySem.F.kt_typeCall_dict_1 _) PySem.F.entry_dict_init (kt_code_dict_new _ ⟨rfl,rfl⟩) ?_
 rintro obj s₁ ⟨rfl,rfl⟩
 have VO:(s.heap.push {cls:= .type "dict",data:= .dict #[]}).DictOf (aR prog w) s.heap.objs.size []:=SF s.heap
 have Zn:Kp s.heap (s.heap.push {cls:= .type "dict",data:= .dict #[]}):=λb o e=>L5 _ e
 refine⟨VO.typeIs,PySem.F.args_dict_init_2 _ _,?_⟩
 unfold OR.«dict.__init__»
 refine K_ ?_
 unfold Builtin.Dict.selfAndRest
 refine K_ (wpAny_notOrdered_dict VO.typeIs ?_)
 show wpAny _ _ (pure (s.heap.objs.size,[Lr p])) _ _ _
 refine Lc ?_
 show wpAny _ _ (Qs "dict.__init__" s.heap.objs.size (.ref p) [] .none) _ _ _
 unfold Qs
 refine K_ (NA (S.ty _ Zn) ?_)
 rw[if_pos S.nd]
 refine K_ (S.no _ _ _ _ hh Zn λh1 a1s k1=> ?_)
 rw[if_pos (show (none:Option KW).isNone=true from rfl)]
 refine K_ (PZ ?_)
 have Zo:Kp s.heap h1:=λb o e=>k1 b o (Zn b o e)
 obtain⟨oI,St,a1t,W,st⟩:=S.it A.in1.in1 {s with heap:=h1,toks:=a1s} hh Zo
 refine K_ (a1t _ _ _ ?_)
 have a0p:h1.DictOf (aR prog w) s.heap.objs.size []:=by
  obtain⟨o,es,ep,ho,rest⟩:=VO
  exact⟨o,es,ep,k1 _ _ ho,rest⟩
 have WU:s.heap.objs.size<h1.objs.size:=by
  obtain⟨o,es,ep,ho,rest⟩:=a0p
  exact Lg ho
 have fr:∀c,s.heap.objs.size<=c->s.heap.get? c=none:=λc hc=>by
  cases e:s.heap.get? c with
  |none=>rfl
  |some o=>exact absurd (LJ (Lg e) hc) (LI _)
 refine Lc ⟨OG bO _,xU (h0:=s.heap) W.toS s.heap.objs.size (λhm=> ?_) (fr _ (Li _)) (λb hb=> ?_) Td val .none hn hP n 0 _ (by omega) (M6 _) st (λb o e=>L5 _ (Zo b o e)) ?_ λs' hm Wk=> ?_⟩
 ·rcases Le.mp hm with z|hm
  ·exact absurd WU (by rw[z];exact LI _)
  ·exact absurd S.lt (by rw[<-Lo.mp hm];exact LI _)
 ·rw[Lo.mp hb];exact fr _ (Nw WU)
 ·obtain⟨o,es,ep,ho,rest⟩:=a0p
  exact⟨o,es,ep,L5 _ ho,rest⟩
 ·refine⟨rfl,?_⟩
  rw[SY hm]
  refine h s'.heap s'.toks (λb o e=>hm.heap b o (λhb=> ?_) (L5 _ (Zo b o e))) Wk
  rcases Le.mp hb with rfl|hb
  ·rw[fr _ (Li _)]at e;cases e
  ·rw[Lo.mp hb]at e
   rw[fr _ (Nw WU)]at e;cases e
theorem xV {items:Array KW} (h:PlainL s.heap p items):CM prog w s.heap p "list" items.size (λi v=>items[i]? =some v)where
 lt:=let ⟨_,_,e,_⟩:=h;Lg e
 ty:=λs k=>let ⟨o,n,e,c,_⟩:=h;⟨o,k _ _ e,c⟩
 nd:=by decide
 no:=λA E s' Q hA k q=>by
  obtain⟨⟨oc,od,a1u,Uq⟩,n,e,c,d,dt⟩:=h
  cases c;cases d;cases dt
  exact tE (k _ _ e) hA q
 it:=λA s' hA k=>by
  have hp:PlainL s'.heap p items:=h.keeps k
  have TK:p<s'.heap.objs.size:=let ⟨_,_,e,_⟩:=hp;Lg e
  exact⟨_,_,λA' E Q q=>Ox hp.isList q,SJ hA s'.heap.objs.size p (Lu TK) items,⟨⟨_,Lq _ rfl,rfl,rfl⟩,hp.isList.push _⟩⟩
theorem vf {items:Array KW} (h:f9 s.heap p items):CM prog w s.heap p "tuple" items.size (λi v=>items[i]? =some v)where
 lt:=h.lt
 ty:=λs k=>let ⟨o,e,c,_⟩:=h;⟨o,k _ _ e,c⟩
 nd:=by decide
 no:=λA E s' Q hA k q=>by
  obtain⟨⟨oc,od,a1u,Uq⟩,e,c,n,dt,d⟩:=h
  cases c;cases d;cases dt
  exact si (k _ _ e) hA q
 it:=λA s' hA k=>by
  have hp:PY s'.heap p items:=h.tup.keeps k
  have TK:p<s'.heap.objs.size:=hp.lt
  have Zp:s'.heap.IsTuple p items:=hp
  exact⟨_,_,λA' E Q q=>Pg Zp q,Tb hA s'.heap.objs.size p (Lu TK) items,⟨⟨_,Lq _ rfl,rfl,rfl⟩,show PY _ _ _ from hp.push _⟩⟩
end
section
variable {X:Cx}
inductive eQ (H:Hp):List V->List (aL×V)->Prop
 |nil:eQ H [] []
 |cons {a:KZ} {k:aL} {v:V} {ys:List V} {ps:List (aL×V)}:H a=some (.tup [kV k,v])->eQ H ys ps->eQ H (.ref a::ys) ((k,v)::ps)
theorem tF (rs:List (aL×KW)) (x:aL×KW):QU [] (rs++[x])=Qa (QU [] rs) x.1 x.2:=by
 unfold QU
 rw[List.foldl_append]
 rfl
def oX (rs:List (aL×KW)) (i:Nat):aL:=((rs[i]?).map (·.1)).getD (.inl 0)
def oY (rs:List (aL×KW)) (i:Nat):KW:=((rs[i]?).map (·.2)).getD .none
theorem jJ (rs:List (aL×KW)):∀i,i<=rs.length->vd (oX rs) (oY rs) i=QU [] (rs.take i)
 |0,_=>rfl
 |i+1,h=>by
  have hi:i<rs.length:=h
  show Qa (vd (oX rs) (oY rs) i) (oX rs i) (oY rs i)=_
  rw[jJ rs i (Nw hi),OK hi,tF]
  simp[oX,oY,hi]
theorem oZ {P:Lb} {w:Ll} {H:Hp} {h:Lj} (ok:jB P w H h):∀{ys:List V} {ps:List (aL×V)} {us:List KW},eQ H ys ps->aK ys us->∃rs:List (aL×KW),KV ps rs/\us.length=rs.length/\
  ∀(i:Nat) v,us[i]? =some v->∃a o kv m,v= .ref a/\h.get? a=some o/\o.cls= .type "tuple"/\o.data= .seq #[kv,oY rs i] m/\(aR P w).is (oX rs i) kv=true
 |_,_,_, .nil, .nil=>⟨[], .nil,rfl,λi v h=>by simp at h⟩
 |_,_,_, .cons (a:=a) (k:=k) (v:=v) ha t, .cons ru rt=>by
  obtain⟨rs,h1,h2,h3⟩:=oZ ok t rt
  obtain⟨_,its,r,o,g1,g2,n,g3,_⟩:=(show bu P w H h a (.tup [kV k,v])from ok a _ ha)
  obtain⟨x,y,rfl,rx,ry⟩:=r.two
  refine⟨(k,y)::rs, .cons ⟨rfl,ry⟩ h1,by simp[h2],λi v' hv=> ?_⟩
  cases i with
  |zero=>
   simp at hv
   subst hv
   exact⟨a,o,x,n,ru,g1,g2,g3,nK rx⟩
  |succ i=>exact h3 i v' (by simpa using hv)
theorem nO (hc:X.calm=true):ck X (.type "dict") (λxs H Q=>∃p ys ps,xs=[.ref p]/\(H p=some (.lst ys)\/H p=some (.tup ys))/\eQ H ys ps/\∀l,H l=none->Q (.ref l) (a_ H l (.dK (df [] ps)))):=by
 intro Tc s σ H xs us Q I rv h
 obtain⟨p,ys,ps,rfl,hp,pa,q⟩:=h
 obtain⟨u,rfl,ru⟩:=fU rv
 cases ru
 have U5:∀(its:List KW) (T:String),aK ys its->ys.length<=sizeLine->CM X.prog X.w s.heap p T its.toArray.size (λi v=>its.toArray[i]? =some v)->
   wpAny (Lh X.prog X.w) X.A (call (.type "dict") [.ref p]) (EP X Tc σ Q) X.xe s:=by
  intro its T r hz S
  obtain⟨rs,h1,h2,h3⟩:=oZ I.hok pa r
  have hl:=r.length
  refine qj S (I.ok.hd hc) (oX rs) (oY rs) (by rw[Ld];omega) (λi v hv=>h3 i v (by simpa using hv)) λh' tk k hd=> ?_
  have en:its.toArray.size=rs.length:=by rw[<-h2];exact Ld
  rw[en,jJ rs _ (Li _),OL]at hd
  have VJ:KV (df [] ps) (QU [] rs):=KV.merge h1 .nil
  refine⟨.ref s.heap.objs.size,_,I.laid (t':=tk) (o:= .dK (df [] ps)) k (Li _) (rX ?_ ?_ VJ hd),rfl,q _ (I.hok.fresh (Li _))⟩
  ·rw[KV.length VJ]
   have:(QU [] rs).length<=rs.length:=by
    have:=oW (oX rs) (oY rs) rs.length
    rwa [jJ rs _ (Li _),OL]at this
   omega
  ·exact beq_eq_false_iff_ne.mpr (RH I.big)
 rcases hp with hp|hp
 ·obtain⟨its,r,pl,hz⟩:=I.list (d6.of hp)
  exact U5 its "list" r hz (xV pl)
 ·obtain⟨hz,its,r,pl⟩:=(show bu X.prog X.w H s.heap p (.tup ys)from I.hok p _ hp)
  exact U5 its "tuple" r hz (vf pl)
end
end L2
namespace L2
open PySem PySem.Spec PyProof.Rows PySem.W
def kS {α:Type} (V:Nat->Nat->Prop) (lt:Nat->Nat->Bool):KasT α->(α->Prop)->Prop
 | .ret a,Q=>Q a
 | .ask i j k,Q=>V i j/\kS V lt (k (lt i j)) Q
theorem kS.imp {α:Type} {V:Nat->Nat->Prop} {lt:Nat->Nat->Bool} {Q Q':α->Prop} (w:∀a,Q a->Q' a):∀{t:KasT α},kS V lt t Q->kS V lt t Q'
 | .ret a,h=>w a h
 | .ask i j k,h=>⟨h.1,kS.imp w h.2⟩
theorem kS.bind {α β:Type} {V:Nat->Nat->Prop} {lt:Nat->Nat->Bool} {f:α->KasT β} {Q:β->Prop}:∀{t:KasT α},kS V lt t (λa=>kS V lt (f a) Q)->kS V lt (t.bind f) Q
 | .ret a,h=>h
 | .ask i j k,h=>⟨h.1,kS.bind h.2⟩
theorem kS.wp {α:Type} {V:Nat->Nat->Prop} {lt:Nat->Nat->Bool} {a0q:Nat->Nat->(Bool->KY->Prop)->KY->Prop} {Good:KY->Prop} (hc:∀i j C s,V i j->Good s->(∀s',Good s'->C (lt i j) s')->a0q i j C s) {Q:α->KY->Prop}:
  ∀{t:KasT α} {s:KY},kS V lt t (λa=>∀s',Good s'->Q a s')->Good s->t.kasWp a0q Q s
 | .ret a,s,h,g=>h s g
 | .ask i j k,s,h,g=>hc i j _ s h.1 g λs' g'=>kS.wp hc h.2 g'
section
variable {n:Nat} {Td:Nat->Int}
def kk (Td:Nat->Int) (p:Array Nat) (i:Nat):Int:=Td (p.getD i 0)
def vg (Td:Nat->Int) (i j:Nat):Bool:=decide (Td i<Td j)
def Pr (n i j:Nat):Prop:=i<n/\j<n/\i≠j
structure qf (n:Nat) (p:Array Nat):Prop where
 sz:p.size=n
 perm:p.toList.Perm (LU n)
theorem qf.lt {p:Array Nat} (h:qf n p) {i:Nat} (hi:i<n):p.getD i 0<n:=by
 have V8:i<p.size:=by rw[h.sz];exact hi
 have:p.getD i 0=p[i]:=by simp[Ri,V8]
 rw[this]
 exact M0.mp (h.perm.mem_iff.mp (by simp))
theorem qf.inj {p:Array Nat} (h:qf n p) {i j:Nat} (hi:i<n) (hj:j<n) (e:p.getD i 0=p.getD j 0):i=j:=by
 have V8:i<p.size:=by rw[h.sz];exact hi
 have YE:j<p.size:=by rw[h.sz];exact hj
 have e1:p.getD i 0=p[i]:=by simp[Ri,V8]
 have e2:p.getD j 0=p[j]:=by simp[Ri,YE]
 rw[e1,e2]at e
 have nd:p.toList.Nodup:=(h.perm.nodup_iff).mpr Sq
 have hp:=Oe.mp nd
 have el:p.toList[i]'(by simpa using V8)=p.toList[j]'(by simpa using YE):=by simpa using e
 rcases S7 i j with z|z|z
 ·exact absurd el (hp i j _ _ z)
 ·exact z
 ·exact absurd el.symm (hp j i _ _ z)
theorem qf.pr {p:Array Nat} (h:qf n p) {i j:Nat} (hi:i<n) (hj:j<n) (V7:i≠j):Pr n (p.getD i 0) (p.getD j 0):=⟨h.lt hi,h.lt hj,λz=>V7 (h.inj hi hj z)⟩
def uT (Td:Nat->Int) (p:Array Nat) (m:Nat):Prop:=∀i j,i<j->j<m->kk Td p i<kk Td p j
def FP (Td:Nat->Int) (p:Array Nat) (m:Nat):Prop:=∀i j,i<j->j<m->kk Td p j<kk Td p i
theorem uT.more {p:Array Nat} {m:Nat} (h:uT Td p (m+1)) (hl:kk Td p m<kk Td p (m+1)):uT Td p (m+2):=λi j V7 hj=>by
 by_cases e:j=m+1
 ·subst e
  by_cases e2:i=m
  ·subst e2;exact hl
  ·exact Qg (h i m (by omega) (by omega)) hl
 ·exact h i j V7 (by omega)
theorem FP.more {p:Array Nat} {m:Nat} (h:FP Td p (m+1)) (hl:kk Td p (m+1)<kk Td p m):FP Td p (m+2):=λi j V7 hj=>by
 by_cases e:j=m+1
 ·subst e
  by_cases e2:i=m
  ·subst e2;exact hl
  ·exact Qg hl (h i m (by omega) (by omega))
 ·exact h i j V7 (by omega)
theorem vh {p:Array Nat} (o:qf n p) (hk:∀i j,i<n->j<n->Td i=Td j->i=j):∀(f m:Nat),uT Td p (m+1)->m+1+f=n->kS (Pr n) (vg Td) (kas_asc p f (m+1)) λr=>m+1<=r/\r<=n/\uT Td p r/\(r<n->kk Td p r<kk Td p (r - 1))
 |0,m,h,e=>⟨Li _,by omega,h,λz=>by omega⟩
 |f+1,m,h,e=>by
  refine⟨o.pr (by omega) (by omega) (by omega),?_⟩
  rw[Pm]
  by_cases hl:kk Td p (m+1)<kk Td p m
  ·simp only[show vg Td (p.getD (m+1) 0) (p.getD m 0)=true from decide_eq_true hl,if_true]
   exact⟨Li _,by omega,h,λ_=>by rw[Pm];exact hl⟩
  ·simp only[show vg Td (p.getD (m+1) 0) (p.getD m 0)=false from decide_eq_false hl,LH,if_false]
   have TM:kk Td p m≠kk Td p (m+1):=λz=>by
    have:=o.inj (i:=m) (j:=m+1) (by omega) (by omega) (hk _ _ (o.lt (by omega)) (o.lt (by omega)) z)
    omega
   refine kS.imp (λr ⟨a,b,c,d⟩=>⟨by omega,b,c,d⟩) (vh o hk f (m+1) (h.more (by omega)) (by omega))
theorem zV {p:Array Nat} (o:qf n p) (hk:∀i j,i<n->j<n->Td i=Td j->i=j):∀(f m:Nat),FP Td p (m+1)->m+1+f=n->kS (Pr n) (vg Td) (kas_desc f p (m+1) 0) λr=>r.1=p/\r.2.2=0/\m+1<=r.2.1/\r.2.1<=n/\FP Td p r.2.1
 |0,m,h,e=>⟨rfl,rfl,Li _,by show m+1<=n;omega,h⟩
 |f+1,m,h,e=>by
  refine⟨o.pr (by omega) (by omega) (by omega),?_⟩
  rw[Pm]
  by_cases hl:kk Td p (m+1)<kk Td p m
  ·simp only[show vg Td (p.getD (m+1) 0) (p.getD m 0)=true from decide_eq_true hl,if_true,gt_iff_lt,LI,if_false]
   exact kS.imp (λr ⟨a,b,c,d⟩=>⟨a,b,by omega,d⟩) (zV o hk f (m+1) (h.more hl) (by omega))
  ·simp only[show vg Td (p.getD (m+1) 0) (p.getD m 0)=false from decide_eq_false hl,LH,if_false]
   have TM:kk Td p m≠kk Td p (m+1):=λz=>by
    have:=o.inj (i:=m) (j:=m+1) (by omega) (by omega) (hk _ _ (o.lt (by omega)) (o.lt (by omega)) z)
    omega
   have UY:kk Td p m<kk Td p (m+1):=by omega
   refine⟨o.pr (by omega) (by omega) (by omega),?_⟩
   simp only[show vg Td (p.getD m 0) (p.getD (m+1) 0)=true from decide_eq_true UY,if_true]
   exact⟨rfl,rfl,Li _,by show m+1<=n;omega,h⟩
theorem ow {p q:Array Nat} {i j:Nat} (h:p[i]? =q[j]?):p.getD i 0=q.getD j 0:=by
 rw[Pn,Pn,h]
theorem CN {p:Array Nat} (o:qf n p) (i j:Nat):qf n (kas_rev p i j):=
 ⟨by unfold kas_rev;rw[mirror_size];exact o.sz,(PJ.mp (mirror_perm p i j _)).trans o.perm⟩
theorem CO {p:Array Nat} (o:qf n p) {m:Nat} (hm:m<=n) (h:FP Td p m):uT Td (kas_rev p 0 m) m:=λi j V7 hj=>by
 have e:∀k,k<m->kk Td (kas_rev p 0 m) k=kk Td p (m - 1 - k):=λk hk=>by
  unfold kk
  congr 1
  refine ow ?_
  have:=getElem?_mirror_all (xs:=p) (i:=0) (j:=m) (by rw[o.sz];exact hm) k
  unfold kas_rev
  rw[this,if_pos ⟨M6 _,hk⟩,RX]
 rw[e i (by omega),e j hj]
 exact h _ _ (by omega) (by omega)
theorem zW {p:Array Nat} (o:qf n p) (hn:2<=n) (hk:∀i j,i<n->j<n->Td i=Td j->i=j):kS (Pr n) (vg Td) (kas_count n p) λr=>1<=r.1/\r.1<=n/\qf n r.2/\uT Td r.2 r.1:=by
 unfold kas_count
 refine kS.bind (kS.imp (λm ⟨h1,h2,h3,h4⟩=> ?_) (vh o hk (n - 1) 0 (λi j V7 hj=>by omega) (by omega)))
 by_cases e:m=n
 ·rw[if_pos (by simp[e])];exact⟨by show 1<=m;omega,h2,o,h3⟩
 ·rw[if_neg (by simp[e])]
  by_cases e1:m>1
  ·rw[if_pos e1]
   refine⟨o.pr (by omega) (by omega) (by omega),?_⟩
   simp only[show vg Td (p.getD 0 0) (p.getD (m - 1) 0)=true from decide_eq_true (h3 0 (m - 1) (by omega) (by omega)),if_true]
   exact⟨by show 1<=m;omega,h2,o,h3⟩
  ·have em:m=1:=by omega
   subst em
   rw[if_neg (by omega)]
   have hd:FP Td p 2:=λi j V7 hj=>by
    have hi:i=0:=by omega
    have YE:j=1:=by omega
    subst hi;subst YE
    exact h4 (by omega)
   unfold kas_descPart
   refine kS.bind (kS.imp (λr ⟨a,b,c,d,g⟩=> ?_) (zV o hk (n - (1+1)) 1 hd (by omega)))
   rw[if_neg (by omega)]
   unfold kas_tail3
   rw[a]
   have o2:=CN o 0 r.2.1
   obtain⟨q,hq⟩:∃q,r.2.1=q+1:=⟨r.2.1 - 1,by omega⟩
   rw[hq]at d g o2 ⊢
   refine kS.bind (kS.imp (λm2 ⟨x1,x2,x3,_⟩=>⟨by show 1<=m2;omega,x2,o2,x3⟩) (vh o2 hk (n - (q+1)) q (CO o d g) (by omega)))
theorem o_ {p:Array Nat} (o:qf n p) (hk:∀i j,i<n->j<n->Td i=Td j->i=j) {k:Nat} (WV:k<n) (ha:uT Td p k):∀(f l r:Nat),l<=r->r<=k->r - l<=f->(∀i,i<l->kk Td p i<kk Td p k)->(∀i,r<=i->i<k->kk Td p k<kk Td p i)->
  kS (Pr n) (vg Td) (kas_place p k f l r) λm=>m<=k/\(∀i,i<m->kk Td p i<kk Td p k)/\∀i,m<=i->i<k->kk Td p k<kk Td p i
 |0,l,r,h1,h2,h3,h4,h5=>⟨by omega,h4,λi hi=>h5 i (by omega)⟩
 |f+1,l,r,h1,h2,h3,h4,h5=>by
  unfold kas_place
  by_cases e:l>=r
  ·rw[if_pos e];exact⟨by omega,h4,λi hi=>h5 i (by omega)⟩
  ·rw[if_neg e]
   refine⟨o.pr WV (by omega) (by omega),?_⟩
   have Y5:(l+r) / 2<r:=by omega
   have Z8:l<=(l+r) / 2:=by omega
   by_cases hl:kk Td p k<kk Td p ((l+r) / 2)
   ·simp only[show vg Td (p.getD k 0) (p.getD ((l+r) / 2) 0)=true from decide_eq_true hl,if_true]
    refine o_ o hk WV ha f l ((l+r) / 2) Z8 (by omega) (by omega) h4 λi hi a1v=> ?_
    by_cases z:i=(l+r) / 2
    ·subst z;exact hl
    ·exact Qg hl (ha _ _ (by omega) a1v)
   ·simp only[show vg Td (p.getD k 0) (p.getD ((l+r) / 2) 0)=false from decide_eq_false hl,LH,if_false]
    have TM:kk Td p ((l+r) / 2)≠kk Td p k:=λz=>by
     have:=o.inj (i:=(l+r) / 2) (j:=k) (by omega) WV (hk _ _ (o.lt (by omega)) (o.lt WV) z)
     omega
    have UY:kk Td p ((l+r) / 2)<kk Td p k:=by omega
    refine o_ o hk WV ha f ((l+r) / 2+1) r (by omega) h2 (by omega) (λi hi=> ?_) h5
    by_cases z:i=(l+r) / 2
    ·subst z;exact UY
    ·exact Qg (ha _ _ (show i<(l+r) / 2 by omega) (by omega)) UY
theorem CP {p:Array Nat} (o:qf n p) {k m:Nat} (WV:k<n) (hm:m<=k) (ha:uT Td p k) (h1:∀i,i<m->kk Td p i<kk Td p k) (h2:∀i,m<=i->i<k->kk Td p k<kk Td p i):qf n (bubble p k (k - m))/\uT Td (bubble p k (k - m)) (k+1):=by
 refine⟨⟨by rw[bubble_size];exact o.sz,(PJ.mp (bubble_perm p k _)).trans o.perm⟩,λi j V7 hj=> ?_⟩
 have e:∀q,kk Td (bubble p k (k - m)) q=if q=m then kk Td p k else if m<q/\q<=k then kk Td p (q - 1)else kk Td p q:=λq=>by
  have:=getElem?_bubble (xs:=p) (src:=k) (by rw[o.sz];exact WV) (k - m) (by omega) q
  rw[show k - (k - m)=m by omega]at this
  unfold kk
  split
  ·rename_i z;rw[if_pos z]at this;congr 1;exact ow this
  ·rename_i z
   rw[if_neg z]at this
   split
   ·rename_i z2;rw[if_pos z2]at this;congr 1;exact ow this
   ·rename_i z2;rw[if_neg z2]at this;congr 1;exact ow this
 rw[e i,e j]
 by_cases i1:i=m
 ·rw[if_pos i1,if_neg (by omega),if_pos (by omega)]
  exact h2 _ (by omega) (by omega)
 ·rw[if_neg i1]
  by_cases i2:m<i/\i<=k
  ·rw[if_pos i2,if_neg (by omega),if_pos (by omega)]
   exact ha _ _ (by omega) (by omega)
  ·rw[if_neg i2]
   by_cases j1:j=m
   ·rw[if_pos j1];exact h1 i (by omega)
   ·rw[if_neg j1]
    by_cases j2:m<j/\j<=k
    ·rw[if_pos j2]
     by_cases z:i=j - 1
     ·omega
     ·exact ha _ _ (by omega) (by omega)
    ·rw[if_neg j2];exact ha _ _ V7 (by omega)
theorem zX (hk:∀i j,i<n->j<n->Td i=Td j->i=j):∀(f:Nat) (p:Array Nat) (k:Nat),qf n p->uT Td p k->k+f=n->kS (Pr n) (vg Td) (kas_bin f p k) λq=>qf n q/\uT Td q n
 |0,p,k,o,h,e=>⟨o,by rw[<-e];exact h⟩
 |f+1,p,k,o,h,e=>by
  unfold kas_bin
  refine kS.bind (kS.imp (λm ⟨h1,h2,h3⟩=> ?_) (o_ o hk (show k<n by omega) h k 0 k (M6 _) (Li _) (by omega) (λi hi=>by omega) λi h1 h2=>by omega))
  obtain⟨o2,a2⟩:=CP o (show k<n by omega) h1 h h2 h3
  exact zX hk f _ (k+1) o2 a2 (by omega)
theorem CQ (hn:2<=n) (hk:∀i j,i<n->j<n->Td i=Td j->i=j):kS (Pr n) (vg Td) (kas_sort n) λq=>qf n q/\uT Td q n:=by
 have o:qf n (Nd (LU n)):=⟨by simp,by simp⟩
 unfold kas_sort
 refine kS.bind (kS.imp (λr ⟨h1,h2,h3,h4⟩=> ?_) (zW o hn hk))
 by_cases e:r.1<n
 ·rw[if_pos e,show max r.1 1=r.1 by omega]
  exact zX hk _ _ _ h3 h4 (by omega)
 ·rw[if_neg e]
  have:r.1=n:=by omega
  rw[this]at h4
  exact⟨h3,h4⟩
end
end L2
namespace L2
open PySem PySem.Spec PyProof.Rows PySem.W
section
variable {prog:Lb} {w:Ll} {A:LD} {E:KW->KY->Prop} {s:KY}
def lm (h:Lj) (v:KW) (k:Int):Prop:=∃b o t rest m,v= .ref b/\h.get? b=some o/\o.cls= .type "tuple"/\o.data= .seq (Array.mk (N4 k t::rest)) m
theorem FQ {v u:KW} {k l:Int} {Q:Bool->KY->Prop} (hv:lm s.heap v k) (hu:lm s.heap u l) (TM:k≠l) (h:Q (decide (k<l)) s):wpAny (Lh prog w) A (keyLt' (tuples' true) v u) Q E s:=by
 obtain⟨b,o,t,rest,m,rfl,h1,h2,h3⟩:=hv
 obtain⟨b',o',t',Y6,m',rfl,g1,g2,g3⟩:=hu
 refine kat_lt h1 h3 g1 g3 ?_
 show KatLex prog w A true _ Q ((N4 k t,N4 l t')::rest.zip Y6) 0 s
 refine kat_cons (wpAny_eqBool_int ?_)
 have e:(k==l)=false:=beq_eq_false_iff_ne.mpr TM
 rw[e]
 exact kat_no (oneLt_int h)
theorem qL:∀{vs:List KW} {ks:List Int},vs.length=ks.length->(∀(i:Nat) v,vs[i]? =some v->lm s.heap v (ks.getD i 0))->∃fs:List KW,KatTups s.heap vs fs/\fs.length=vs.length/\∀f∈fs,∃k t,f=N4 k t
 |[],ks,_,_=>⟨[], .nil,rfl,λf hf=>by cases hf⟩
 |v::vs,[],hl,_=>by cases hl
 |v::vs,k::ks,hl,h=>by
  obtain⟨fs,h1,h2,h3⟩:=qL (vs:=vs) (ks:=ks) (by simpa using hl) λi u hu=>by
   have:=h (i+1) u (by simpa using hu)
   simpa using this
  obtain⟨b,o,t,rest,m,rfl,g1,g2,g3⟩:=h 0 v rfl
  refine⟨_::fs,KatTups.cons g1 g2 g3 (f:=N4 ((k::ks).getD 0 0) t) rfl h1,by simp[h2],λf hf=> ?_⟩
  rcases Le.mp hf with rfl|hf
  ·exact⟨_,_,rfl⟩
  ·exact h3 f hf
def jK (ks:List Int) (p:List Nat):Prop:=p.Perm (LU ks.length)/\(p.map λi=>ks.getD i 0).Pairwise (·<·)
theorem sj {Td:Nat->Int} {p:Array Nat} {n:Nat} (hs:p.size=n) (h:uT Td p n):(p.toList.map Td).Pairwise (·<·):=by
 refine Oe.mpr λi j hi hj V7=> ?_
 rw[L4,MB]at hi hj
 have:=h i j V7 (by omega)
 unfold kk at this
 simpa[Ri,hi,hj]using this
theorem xW {α β:Type} {vs:List α} {ks:List β} (hl:vs.length=ks.length) (h:vs.length<2):(vs=[]/\ks=[])\/∃v k,vs=[v]/\ks=[k]:=by
 cases vs with
 |nil=>exact .inl ⟨rfl,Ov.mp hl.symm⟩
 |cons v vs=>
  cases vs with
  |nil=>
   obtain⟨k,hk⟩:=List.length_eq_one_iff.mp hl.symm
   exact .inr ⟨v,k,rfl,hk⟩
  |cons=>exact absurd h (by simp only[Lm];omega)
theorem jL {a:KZ} {vs:List KW} {ks:List Int} {n:Nat} {P:PySem.Fin->KY->Prop} (ho:s.heap.get? a=some (seqObj "list" vs.toArray n)) (hl:vs.length=ks.length) (hv:∀(i:Nat) v,vs[i]? =some v->lm s.heap v (ks.getD i 0)) (YF:ks.Nodup) (Y7:vs.length<64)
  (h:∀p:List Nat,jK ks p->P (.done (.ret .none)) {s with heap:=Rf s.heap a vs (Nd (p.map λi=>vs.getD i M5))}):
  wpAny (Lh prog w) A (OR.«list.sort» ⟨[.ref a],[]⟩) P E s:=by
 rw[list_sort_plain]
 have ha:a<s.heap.objs.size:=Lg ho
 refine K_ (listItems_at ho rfl ?_)
 refine K_ (Rt ho rfl ?_ (hsz2:=M6 _) (hsz:=by rw[Ld,Md];omega))
 obtain⟨e1,a0r⟩:∃e1,(s.heap.update a (MF λ_=> #[])).get? a=some (seqObj "list" #[] e1):=⟨_,get?_update_seq ho (λ_=> #[])⟩
 refine K_ (Sj a0r rfl ?_)
 refine K_ (wpAny_newTuple ?_ (by show vs.length<=_;rw[Md];omega))
 refine K_ (O2 ?_ (M6 _))
 refine LO ?_
 have Xv:∀b o,b≠a->s.heap.get? b=some o->(((s.heap.update a (MF λ_=> #[])).push (seqObj "tuple" vs.toArray 0)).push (seqObj "list" #[] 0)).get? b=some o:=λb o hb e=>by
  refine L5 _ (L5 _ ?_)
  rw[Heap.get?_update_ne _ _ _ _ hb];exact e
 have YG:(((s.heap.update a (MF λ_=> #[])).push (seqObj "tuple" vs.toArray 0)).push (seqObj "list" #[] 0)).get? a=some (seqObj "list" #[] e1):=L5 _ (L5 _ a0r)
 have We:∀(i:Nat) v,vs[i]? =some v->lm (((s.heap.update a (MF λ_=> #[])).push (seqObj "tuple" vs.toArray 0)).push (seqObj "list" #[] 0)) v (ks.getD i 0):=λi v e=>by
  obtain⟨b,o,t,rest,m,rfl,g1,g2,g3⟩:=hv i v e
  refine⟨b,o,t,rest,m,rfl,Xv b o (λz=> ?_) g1,g2,g3⟩
  subst z
  rw[ho]at g1
  cases g1
  exact absurd (show MY "list"=MY "tuple" from g2) (by decide)
 show wpAny (Lh prog w) A _ P E {s with heap:=((s.heap.update a (MF λ_=> #[])).push (seqObj "tuple" vs.toArray 0)).push (seqObj "list" #[] 0)}
 dsimp only
 have hsz:vs.toArray.size=vs.length:=by simp
 have Y8:∀p:List Nat,p.length=vs.length->(Nd (p.map λi=>vs.getD i M5)).size<=sizeLine:=λp hp=>by
  rw[Ld,L4,hp,Md];omega
 by_cases h2:vs.toArray.size<2
 ·rw[if_pos h2,if_pos h2]
  refine K_ (Lc ?_)
  rw[StateT.run_pure]
  refine K_ (Lc ?_)
  dsimp only
  obtain⟨p,hp,TC,a1w⟩:∃p:List Nat,jK ks p/\p.length=vs.length/\RY (λx=>x.2) (arrOf (SortSt.mk' general' (vs.toArray.zip vs.toArray) #[] 7 none))=Nd (p.map λi=>vs.getD i M5):=by
   rcases xW hl (by simpa using h2)with ⟨rfl,rfl⟩|⟨v,k,rfl,rfl⟩
   ·exact⟨[],⟨Om _,PV⟩,rfl,by show RY (λx:Keyed=>x.2) ((#[]:Array KW).zip #[])=_;simp⟩
   ·exact⟨[0],⟨Om _,Qt _ _⟩,rfl,by show RY (λx:Keyed=>x.2) ((#[v]:Array KW).zip #[v])=_;simp⟩
  refine K_ (Sj YG rfl ?_)
  have Y9:RY (λx=>x.2) (arrOf (SortSt.mk' general' (vs.toArray.zip vs.toArray) #[] 7 none))=Nd (p.map λi=>vs.getD i M5):=a1w
  refine K_ (Rt YG rfl ?_ (hsz2:=by have:=Y8 p TC;rw[<-Y9]at this;exact S8 this))
  simp only[bne_self_eq_false,LH,if_false]
  have hh:=h p hp
  rw[<-Y9]at hh
  exact Lc hh
 ·rw[if_neg h2,if_neg h2]
  have WG:2<=vs.length:=by rw[hsz]at h2;omega
  obtain⟨fs,t1,t2,t3⟩:=qL (s:={s with heap:=((s.heap.update a (MF λ_=> #[])).push (seqObj "tuple" vs.toArray 0)).push (seqObj "list" #[] 0)}) hl We
  refine K_ (kat_kind (T:= .type "int") t1 (by omega) (λv hv=> ?_) (by decide) ?_)
  ·obtain⟨k,t,rfl⟩:=t3 v hv
   exact .now
  rw[show (MY "int" != MY "tuple")=true by decide]
  have Zq:(kas_sort vs.length).kasWp (kas_ask prog w A (tuples' true) vs) (λp s'=>s'={s with heap:=((s.heap.update a (MF λ_=> #[])).push (seqObj "tuple" vs.toArray 0)).push (seqObj "list" #[] 0)}/\qf vs.length p/\uT (λi=>ks.getD i 0) p vs.length) {s with heap:=((s.heap.update a (MF λ_=> #[])).push (seqObj "tuple" vs.toArray 0)).push (seqObj "list" #[] 0)}:=by
   have Ya:∀i j,i<vs.length->j<vs.length->ks.getD i 0=ks.getD j 0->i=j:=λi j hi hj e=>by
    have hp:=Oe.mp YF
    have e':ks[i]'(by omega)=ks[j]'(by omega):=by simpa[show i<ks.length by omega,show j<ks.length by omega]using e
    rcases S7 i j with z|z|z
    ·exact absurd e' (hp i j _ _ z)
    ·exact z
    ·exact absurd e'.symm (hp j i _ _ z)
   refine kS.wp (V:=Pr vs.length) (lt:=vg λi=>ks.getD i 0) (Good:=λs'=>s'={s with heap:=((s.heap.update a (MF λ_=> #[])).push (seqObj "tuple" vs.toArray 0)).push (seqObj "list" #[] 0)}) (λi j C s' WW hg hC=> ?_) (kS.imp (λp hp s' Ub=>⟨Ub,hp⟩) (CQ WG Ya)) rfl
   subst hg
   have hi:vs[i]? =some (vs.getD i M5):=by simp[WW.1]
   have hj:vs[j]? =some (vs.getD j M5):=by simp[WW.2.1]
   exact FQ (We i _ hi) (We j _ hj) (λz=>WW.2.2 (Ya i j WW.1 WW.2.1 z)) (hC _ rfl)
  refine K_ (M8 (kat_run (vs:=vs) (ks:=vs) (Q:=λVa s'=>∃p:Array Nat,arrOf Va=p.map (kas_item (vs.toArray.zip vs.toArray))/\failedOf Va=none/\s'={s with heap:=((s.heap.update a (MF λ_=> #[])).push (seqObj "tuple" vs.toArray 0)).push (seqObj "list" #[] 0)}/\qf vs.length p/\uT (λi=>ks.getD i 0) p vs.length)
   rfl WG Y7 (λp' Va s' a1 a2 a3 a4=>⟨p',a2,a3,a4⟩) Zq) ?_ λ_ _ e=>e)
  rintro⟨⟨⟩,Va⟩ s' ⟨p,a1x,hf,rfl,Zr,a1y⟩
  dsimp only
  have Zs:=kat_snds (vs:=vs) (ks:=vs) rfl a1x
  have TC:p.toList.length=vs.length:=by rw[MB];exact Zr.sz
  refine K_ (Sj YG rfl ?_)
  rw[Zs]
  refine K_ (Rt YG rfl ?_ (hsz2:=S8 (Y8 _ TC)))
  rw[hf]
  simp only[bne_self_eq_false,LH,if_false]
  exact Lc (h p.toList ⟨by rw[<-hl];exact Zr.perm,sj Zr.sz a1y⟩)
end
section
variable {X:Cx}
inductive iN (H:Hp):List V->List Int->Prop
 |nil:iN H [] []
 |cons {a:KZ} {k:Int} {rest ys:List V} {ks:List Int}:H a=some (.tup (.int k::rest))->iN H ys ks->iN H (.ref a::ys) (k::ks)
theorem iN.length {H:Hp}:∀{ys:List V} {ks:List Int},iN H ys ks->ys.length=ks.length
 |_,_, .nil=>rfl
 |_,_, .cons _ t=>by rw[Lm,Lm,t.length]
theorem tH {P:Lb} {w:Ll} {H:Hp} {h h':Lj} (ok:jB P w H h) (kp:∀b o,h.get? b=some o->h'.get? b=some o):∀{ys:List V} {ks:List Int} {us:List KW},iN H ys ks->aK ys us->∀(i:Nat) v,us[i]? =some v->lm h' v (ks.getD i 0)
 |_,_,_, .nil, .nil,i,v,e=>by simp at e
 |_,_,_, .cons (a:=a) (k:=k) (rest:=rest) ha t, .cons ru rt,i,v,e=>by
  cases i with
  |zero=>
   simp at e
   subst e
   obtain⟨_,its,r,o,h1,h2,n,h3,_⟩:=(show bu P w H h a (.tup (.int k::rest))from ok a _ ha)
   cases r with
   |cons rk rr=>
    obtain⟨t,rfl⟩:=rk
    exact⟨a,o,t,_,n,ru,kp _ _ h1,h2,h3⟩
  |succ i=>exact tH ok kp t rt i v (by simpa using e)
theorem mR {ys:List V} {us:List KW} (r:aK ys us):∀p:List Nat,(∀i∈p,i<ys.length)->aK (p.map λi=>ys.getD i .non) (p.map λi=>us.getD i M5)
 |[],_=> .nil
 |i::p,h=>by
  have hi:=h i L8
  have hy:ys[i]? =some (ys.getD i .non):=by simp[hi]
  obtain⟨u,hu,ru⟩:=r.get hy
  have e:us.getD i M5=u:=by simp[hu]
  refine .cons ?_ (mR r p λj hj=>h j (L7 _ hj))
  show aT (ys.getD i .non) (us.getD i M5)
  rw[e];exact ru
theorem sk:ck X (.builtin "sorted") (λxs H Q=>∃p ys ks,xs=[.ref p]/\(H p=some (.lst ys)\/H p=some (.tup ys))/\iN H ys ks/\ks.Nodup/\ks.length<64/\
  ∀l q,H l=none->jK ks q->Q (.ref l) (a_ H l (.lst (q.map λi=>ys.getD i .non)))):=by
 intro Tc s σ H xs us Q I rv h
 obtain⟨p,ys,ks,rfl,hp,ra,nd,Y7,q⟩:=h
 obtain⟨u,rfl,ru⟩:=fU rv
 cases ru
 have hl:=ra.length
 obtain⟨its,r,T,o,n,hT,ho,hc,hd⟩:∃its:List KW,aK ys its/\∃(T:String) (o:LG) (n:Nat),(T="list"\/T="tuple")/\s.heap.get? p=some o/\o.cls= .type T/\o.data= .seq its.toArray n:=by
  rcases hp with hp|hp
  ·obtain⟨its,r,⟨o,n,e,c,_,d⟩,_⟩:=I.list (d6.of hp)
   exact⟨its,r,"list",o,n, .inl rfl,e,c,d⟩
  ·obtain⟨hz,its,r,o,e,c,n,d,_⟩:=(show bu X.prog X.w H s.heap p (.tup ys)from I.hok p _ hp)
   exact⟨its,r,"tuple",o,n, .inr rfl,e,c,d⟩
 have Ti:=r.length
 refine Od Si RT RU (RV _) ?_
 unfold OR.«sorted»
 refine K_ (m:=SI "sorted" 1 1 _) (Lc ?_)
 refine K_ (wpAny_collect_seq p hT ho hc hd (λh' Us=> ?_) (by rw[Ld,Md];omega))
 have eT:its.toArray.toList=its:=by simp
 rw[eT]
 refine K_ (O2 ?_ (by rw[Md];omega))
 have Vr:(h'.push (seqObj "list" its.toArray 0)).get? h'.objs.size=some (seqObj "list" its.toArray 0):=Lq _ rfl
 refine K_ (LO (NZ QX ⟨_,Vr,rfl⟩ QE (jL Vr (by omega) (tH I.hok (λb o e=>L5 _ (Us b o e)) ra r) nd (by omega) λz hz=>⟨_,rfl,?_⟩) (QY _)))
 refine Lc ⟨_,rfl,?_⟩
 obtain⟨e,he⟩:=Rq (out:=Nd (z.map λi=>its.getD i M5)) Vr
 have TY:s.heap.get? h'.objs.size=none:=by
  cases e:s.heap.get? h'.objs.size with
  |none=>rfl
  |some o=>exact absurd (Lg (Us _ _ e)) (LI _)
 have kk:∀b o,s.heap.get? b=some o->(Rf (h'.push (seqObj "list" its.toArray 0)) h'.objs.size its (Nd (z.map λi=>its.getD i M5))).get? b=some o:=λb o eb=>by
  have hb:=Us b o eb
  have TK:b<h'.objs.size:=Lg hb
  rw[QZ (Lu TK) (by rw[Rg];exact MN TK)]
  exact L5 _ hb
 have a1z:z.length=ys.length:=by have:=hz.1.length_eq;rw[N3]at this;omega
 refine⟨.ref h'.objs.size,_,I.laidAt (o:= .lst (z.map λi=>ys.getD i .non)) kk TY ⟨?_,z.map λi=>its.getD i M5,e,mR r z λi hi=> ?_,by simpa[seqObj]using he⟩,rfl,q _ z (I.hok.nowhere TY) hz⟩
 ·rw[L4,a1z,Md];omega
 ·have:=M0.mp (hz.1.mem_iff.mp hi)
  omega
end
end L2
namespace L2
open PySem PySem.Spec PyProof.Rows
section
variable {prog:Lb} {w:Ll} {A:LD} {E:KW->KY->Prop} {s:KY}
theorem qM {I:KZ} {fp wr:List KZ} {items:Array KW} {St:Nat->Lj->Prop} (W:Walks prog w A I fp wr items.size (λi v=>items[i]? =some v) St):∀(n i:Nat) (s:KY) (Q:List KW->KY->Prop),St i s.heap->i+n<=items.size->
  (∀(h':Lj) (tk:Nat),St (i+n) h'->(∀b o,b∉wr->s.heap.get? b=some o->h'.get? b=some o)->Q ((items.toList.drop i).take n) {s with heap:=h',toks:=tk})->wpAny (Lh prog w) A (draw (.ref I) n) Q E s
 |0,i,s,Q,st,hn,k=>by
  refine Lc ?_
  have:=k s.heap s.toks st λ_ _ _ e=>e
  rw[SS]at this
  exact this
 |n+1,i,s,Q,st,hn,k=>by
  unfold draw
  refine K_ (W.item i s _ E (by omega) st λv h' tk hv Va kp=> ?_)
  refine K_ (LO (qM W n (i+1) _ _ Va (by omega) λh2 Zt Vb Zu=>Lc ?_))
  have e:(items.toList.drop i).take (n+1)=v::(items.toList.drop (i+1)).take n:=by
   obtain⟨hl,he⟩:=O3.mp hv
   rw[MW (by simpa using hl),List.take_succ_cons]
   simp[he]
  have:=k h2 Zt (by rw[show i+(n+1)=i+1+n by omega];exact Vb) λb o hb e=>Zu b o hb (kp b o hb e)
  rw[e]at this
  exact this
theorem mS {l:KZ} {items:Array KW} {Q:List KW->KY->Prop} (hA:A.handled=none) (hl:s.heap.IsList l items)
  (k:∀(h':Lj) (tk:Nat),(∀b o,b≠s.heap.objs.size->s.heap.get? b=some o->h'.get? b=some o)->Q items.toList {s with heap:=h',toks:=tk}):wpAny (Lh prog w) A (Sf (.ref l) items.size none) Q E s:=by
 have TK:l<s.heap.objs.size:=by obtain⟨o,ho,_⟩:=id hl;exact Lg ho
 have ty:s.TypeIs (.ref l) "list":=by obtain⟨o,ho,hc,_⟩:=id hl;exact⟨o,ho,hc⟩
 unfold Sf notIterableAtAll
 refine K_ (K_ (P0 ty PySem.F.slot_list_iter.lookup ?_))
 refine Lc ?_
 refine K_ (LO (Ox hl ?_))
 have W:=SJ (prog:=prog) (w:=w) (A:=A) hA s.heap.objs.size l (Lu TK) items
 refine K_ (LO (qM W items.size 0 _ _ ⟨⟨_,Lq _ rfl,rfl,rfl⟩,hl.push _⟩ (by omega) λh' tk st kp=> ?_))
 have e:((items.toList.drop 0).take items.size)=items.toList:=by rw[Pd];exact NO (by simp)
 rw[e]
 rw[if_neg (by simp)]
 rw[RX]at st
 refine K_ (LO (W.done _ _ E st λh2 Zt Zu=> ?_))
 refine Lc (k h2 Zt λb o hb eb=> ?_)
 have nb:b∉[s.heap.objs.size]:=λz=>hb (Lo.mp z)
 exact Zu b o nb (kp b o nb (L5 _ eb))
theorem lQ {env:MU} {Wl:List La} {x1:Nat} {pos:LF} {l:KZ} {items:Array KW} {Q:Unit->KY->Prop} (hA:A.handled=none) (hl:s.heap.IsList l items) (hn:(M9 Wl env).length=items.size) (Tz:(M9 Wl env).findIdx? (·.1)=none)
  (k:∀(h':Lj) (tk:Nat),(∀b o,b≠s.heap.objs.size->s.heap.get? b=some o->h'.get? b=some o)->wpAny (Lh prog w) A (Pt ((M9 Wl env).map (·.2)) items.toList) Q E {s with heap:=h',toks:=tk}):
  wpAny (Lh prog w) A (Ny (.Tuple Wl x1 pos) env (.ref l)) Q E s:=by
 rw[assign_Tuple]
 refine K_ (MR ?_)
 unfold unpack
 rw[Tz,hn]
 exact K_ (LO (mS hA hl λh' tk kp=>k h' tk kp))
end
section
variable {X:Cx} {pos:LF}
def JQ (K:KU) (n:Nat) (t:zk):TG:=λv σ H Q=>∃a xs,v= .ref a/\d6 K H a xs/\xs.length=n/\t xs σ H Q
theorem zY {es:List La} {k:Nat} {t:zk} {n:Nat} (hc:X.calm=true) (h:zl X es t) (hn:(M9 es X.env).length=n:=by rfl) (Tz:(M9 es X.env).findIdx? (·.1)=none:=by rfl):PG X (.Tuple es k pos) (JQ X.K n t):=by
 intro Tc s σ H v u Q I r hw
 obtain⟨a,xs,e1,hq,hl,hw⟩:=hw
 subst e1
 cases r
 obtain⟨its,rv,ht,hz⟩:=I.list hq
 refine lQ (I.ok.hd hc) ht.isList (by simp[hn,<-hl,rv.length]) Tz λh' tk hx=> ?_
 have I1:aw X Tc σ H {s with heap:=h',toks:=tk}:=I.kept (t':=tk) λb o e=>hx b o (Lu (Lg e)) e
 exact h Tc _ σ H xs _ Q I1 (by simpa using rv) hw
def JR (K:KU):V->Option Int->Option Int->Hp->VK->Prop:=λx lo hi H Q=>∃a xs,x= .ref a/\fS K H a xs/\(HT.cX xs.length 0 lo=0/\HT.cX xs.length xs.length hi=xs.length)/\Q (.ref a) H
theorem kT {prog:Lb} {w:Ll} {A:LD} {E:KW->KY->Prop} {s:KY} {t sl:KZ} {items:Array KW} {vl vu:KW} {lo hi:Option Int} {Q:KW->KY->Prop} (ht:PY s.heap t items) (hs:s.heap.IsSliceOf sl vl vu .none) (pl:OX vl lo) (pu:OX vu hi)
  (hw:HT.cX items.size 0 lo=0/\HT.cX items.size items.size hi=items.size) (h:Q (.ref t) s):wpAny (Lh prog w) A (Ol (.ref t) (.ref sl)) Q E s:=by
 obtain⟨os,Wh,YC,XS⟩:=id hs
 have Y_:s.TypeIs (.ref sl) "slice":=⟨os,Wh,YC⟩
 unfold Ol
 try with_reducible refine LO ?_
 first|refine K_ (Lc ?_)|skip
 refine K_ (S6 ht.typeIs (by decide) ?_)
 refine K_ (Qo (name:=Og "__getitem__") ht.typeIs M7
  (NZ M7 ht.typeIs Rx ?_ (RO _ _)))
 show wpAny _ _ (Py (.ref t)>>=_) _ _ s
 refine K_ (Pz ht ?_)
 refine K_ (NA Y_ ?_)
 rw[if_pos (by decide)]
 refine K_ (HT.ip hs pl pu ?_)
 show wpAny _ _ (if (((HT.cX items.size 0 lo:Nat):Int)==0&&(1:Int)==1&&(HT.cX items.size items.size hi - HT.cX items.size 0 lo)==items.size)=true then _ else _) _ _ s
 rw[if_pos (by rw[hw.1,hw.2];simp)]
 unfold PK
 refine K_ (K_ (NA ht.typeIs (Lc ?_)))
 rw[if_pos (by decide)]
 refine K_ (PZ ?_)
 exact SK ⟨_,rfl,Lc h⟩
theorem CS:En X (JR X.K):=by
 intro Tc s σ H x v vl vu lo hi sl Q I rx hs pl pu h
 obtain⟨a,xs,rfl,hx,hw,q⟩:=h
 cases rx
 obtain⟨its,r,ht,hz⟩:=I.tuple hx
 have Ti:its.toArray.size=xs.length:=by rw[Ld];exact r.length.symm
 refine⟨"tuple",_,M7.lookup,ht.typeIs,?_⟩
 exact kT ht hs pl pu (by rw[Ti];exact hw) ⟨.ref a,H,I,rfl,q⟩
theorem tJ (l b:KZ) (items VU:Array KW) (n n2:Nat) (dd Wt:Option KZ) (sl Xr:Array (Option KW)) (h0:items.isEmpty=true):
  Meets (OR.«tuple.__add__» {pos:=[Lr l,Lr b]}) λx R s=>
    s.heap.get? l=some {cls:=MY "tuple",dict:=dd,data:=T5 items n,slots:=sl}/\
     s.heap.get? b=some {cls:=MY "tuple",dict:=Wt,data:=T5 VU n2,slots:=Xr}/\R (Except.ok (Flow.ret (Lr b))) s:=by
 intro prog w A R s ⟨g1,g2,q⟩
 have t1:PY s.heap l items:=⟨_,g1,rfl,n,rfl⟩
 have t2:PY s.heap b VU:=⟨_,g2,rfl,n2,rfl⟩
 unfold OR.«tuple.__add__»
 refine K_ (Lc (a:=(Lr l,[Lr b])) ?_)
 dsimp only
 refine K_ (wpAny_isInstance t2.typeIs sub_tuple_tuple ?_)
 rw[if_neg (by decide)]
 refine K_ (Pz t1 (K_ (Pz t2 ?_)))
 rw[if_pos h0]
 unfold PK
 refine K_ (K_ (NA t2.typeIs (Lc ?_)))
 rw[if_pos (by decide)]
 exact K_ (PZ (SK q))
def Eu (K:KU):R2:=λx y H Q=>∃a b ys,x= .ref a/\y= .ref b/\fS K H a []/\fS K H b ys/\Q (.ref b) H
theorem CT:jD X (MT .Add) (Eu X.K):=by
 intro Tc s σ H x y v u Q I rx ry h
 obtain⟨a,b,ys,rfl,rfl,ha,hb,q⟩:=h
 cases rx
 cases ry
 obtain⟨its,r1,p1,_⟩:=I.tuple ha
 obtain⟨UL,r2,p2,_⟩:=I.tuple hb
 cases r1
 obtain⟨⟨cls,dd,data,sl⟩,ho,hc,n,hd⟩:=id p1
 obtain⟨⟨YZ,Wt,data2,Xr⟩,WH,XR,n2,WI⟩:=id p2
 simp only at hc hd XR WI
 subst hc hd XR WI
 exact RN ⟨_,ho,rfl⟩ ⟨_,WH,rfl⟩ Q7 Ro OC Ot (Of _ _)
   (tJ a b _ _ n n2 dd Wt sl Xr rfl) ⟨ho,WH,⟨.ref b,H,I,rfl,q⟩⟩
end
end L2
namespace L2
open PySem PySem.Spec PyProof.Rows
section
variable {X:Cx}
theorem zZ:∀{bs:List Bool} {its:List KW},aK (bs.map V.bl) its->∀{i:Nat} {v:KW},its[i]? =some v->∃b,bs[i]? =some b/\v= .bool b:=by
 intro bs its r i v e
 have hl:=r.length
 rw[L4]at hl
 have hi:i<bs.length:=by rw[hl];exact(Lx.mp e).1
 obtain⟨u,h1,h2⟩:=r.get (i:=i) (x:=V.bl bs[i]) (by simp[hi])
 rw[e]at h1
 cases h1
 exact⟨bs[i],by simp[hi],h2⟩
theorem CU:∀{ns:List Int} {its:List KW},aK (ns.map V.int) its->∀{i:Nat} {v:KW},its[i]? =some v->∃t,v= .int (ns.getD i 0) t:=by
 intro ns its r i v e
 have hl:=r.length
 rw[L4]at hl
 have hi:i<ns.length:=by rw[hl];exact(Lx.mp e).1
 obtain⟨u,h1,h2⟩:=r.get (i:=i) (x:=V.int ns[i]) (by simp[hi])
 rw[e]at h1
 cases h1
 obtain⟨t,ht⟩:=h2
 exact⟨t,by rw[ht];simp[hi]⟩
theorem xX {s:KY} {it:LG} {h':Lj} (hk:∀b o,b∉[s.heap.objs.size]->(s.heap.push it).get? b=some o->h'.get? b=some o):∀b o,s.heap.get? b=some o->h'.get? b=some o:=λb o e=>
 hk b o (λz=>by rw[Lo.mp z]at e;exact absurd (Lg e) (LI _)) (L5 _ e)
end
end L2
namespace L2
open PySem PySem.Spec PyProof.Rows
theorem qk:isSubtype (.type "tuple") (.type "set")=pure false:=by rw[Q_];kernel_rfl
theorem p7:isSubtype (.type "tuple") (.type "frozenset")=pure false:=by rw[Q_];kernel_rfl
abbrev setNew (Vm:Bool):LG:={cls:= .type "set",dict:=none,data:= .set #[] 0 (.fresh 0 0 Vm)}
abbrev A0 (prog:Lb) (w:Ll) (h':Lj) (a:KZ) (ns:List Int) (n:Nat):Prop:=h'.SetOf (intKind prog w) a (λk=>(firstMet (λi=>ns.getD i 0) n).any (·==k)) (firstMet (λi=>ns.getD i 0) n).length
set_option maxHeartbeats 8000000 in
theorem xY {prog:Lb} {w:Ll} {A:LD} {E:KW->KY->Prop} {s:KY} {u:KZ} {xs:Array KW} {ns:List Int} {Q:KW->KY->Prop} (hh:A.handled=none) (ht:s.heap.IsTuple u xs) (hi:∀(i:Nat) (v:KW),xs[i]? =some v->∃t,v= .int (ns.getD i 0) t) (hb:xs.size+1<RZ)
  (U5:∀(h':Lj) (tk:Nat),A0 prog w h' s.heap.objs.size ns xs.size->(∀b o,b<s.heap.objs.size->s.heap.get? b=some o->h'.get? b=some o)->Q (.ref s.heap.objs.size) {s with heap:=h',toks:=tk}):wpAny (Lh prog w) A (call (.type "set") [.ref u]) Q E s:=by
 obtain⟨c,tl,a1A⟩:=F.called_set.mro
 have m1:=F.called_set.made
 have m2:=F.called_set.sub
 have m3:=F.called_set.notType
 have m4:=F.called_set.canCreate
 have m5:=F.typeCall_set_1 (.ref u)
 refine SD (codeAny_of_tree ?_)
 show wpAny _ _ (callAny (.type "set") _) _ _ _
 refine Lc ⟨Code.quiet_builtin _ (by decide+kernel),NK F.entry_type_call ?_⟩
 rw[Around.under_plain (weight_type_call_type "set" [.ref u] []) rfl]
 repeat (any_goals (first|assumption|wp_step))
 refine NS (code_set_new_1 (.ref u) (E:=E) (Q₁:=λo s₁=>∃Vm:Bool,o= .ref s.heap.objs.size/\s₁={s with heap:=s.heap.push (setNew Vm)}) λVm=>⟨Vm,rfl,rfl⟩) λr s₁ hr=> ?_
 cases r with
 |error e=>exact hr
 |ok fl=>
  cases fl with
  |ret o=>
   obtain⟨Vm,rfl,rfl⟩:=hr
   have gS:(s.heap.push (setNew Vm)).get? s.heap.objs.size=some (setNew Vm):=Lq _ rfl
   have tS:Shared.TypeIs {s with heap:=s.heap.push (setNew Vm)} (.ref s.heap.objs.size) "set":=⟨_,gS,rfl⟩
   have n1:=F.called_set.init.lookup
   have n2:=F.called_set.init.bind (.ref s.heap.objs.size)
   repeat (any_goals (first|assumption|wp_step))
   refine NS (codeAny_call_builtin (R:=wants (λr s₂=>r= .none/\∃h' tk,s₂={s with heap:=h',toks:=tk}/\A0 prog w h' s.heap.objs.size ns xs.size/\∀b o,b<s.heap.objs.size->s.heap.get? b=some o->h'.get? b=some o) E) F.called_set.init.plain F.entry_set_init (check_set_init_1 tS ?_)) λr₂ s₂ Zv=> ?_
   ·have a3g:=ht
    obtain⟨ot,a0s,a0t,nt,a0u⟩:=ht
    obtain⟨a1B,Yb,a0v,WX⟩:=ot
    simp only at a0t a0u
    subst a0t
    subst a0u
    have Zw:(s.heap.push (setNew Vm)).get? u=some {cls:= .type "tuple",dict:=Yb,data:= .seq xs nt,slots:=WX}:=L5 _ a0s
    have k1:=qk
    have k2:=p7
    have k3:(MY "tuple"==MY "dict")=false:=by decide
    have t1:(s.heap.push (setNew Vm)).IsTuple u xs:=⟨_,Zw,rfl,nt,rfl⟩
    unfold OR.«set.__init__» noKeywords SU
    generalize a1C:RJ=PI
    wp_walk
    subst a1C
    refine Pg t1 (K_ (wpAny_runValue ?_))
    have hu:u<s.heap.objs.size:=Lg a0s
    have h3:A.in1.in1.in1.handled=none:=by simp[hh]
    have z1:u≠(s.heap.push (setNew Vm)).objs.size:=by rw[Nu];exact Lu (MN hu)
    have z2:s.heap.objs.size∉[(s.heap.push (setNew Vm)).objs.size,u]:=by
     rw[Nu]
     intro z
     rcases Le.mp z with z|z
     ·exact Lu (NY _) z
     ·exact RH hu (Lo.mp z)
    refine codeAny_set_update_loopS (Tb h3 _ u z1 xs).toS s.heap.objs.size z2 (λi=>ns.getD i 0) (λi v hv=>hi i v hv) hb (xs.size - 0) 0 _ (by omega) (M6 _) ⟨⟨_,Lq _ rfl,rfl,rfl⟩,t1.push _⟩ ?a0 ?a1
    case a0=>
     exact SetOf_congr ((setObjOf_fresh (knd:=intKind prog w) Vm).setOf (L5 _ gS) (by unfold RZ;omega)) (λ_=>rfl) rfl
    case a1=>
     intro s' hm Wk
     obtain⟨h',g',d',WT,YY⟩:=s'
     obtain rfl:g'=s.gens:=hm.gens
     obtain rfl:d'=s.drawn:=hm.drawn
     obtain rfl:YY=s.os:=hm.os
     show wpAny _ _ _ _ _ _
     refine Lc ?_
     show wpAny _ _ (ret M5) _ _ _
     refine Lc ⟨rfl,h',WT,rfl,Wk,λb o hb e=>hm.heap b o ?_ (L5 _ (L5 _ e))⟩
     rw[Nu]
     intro z
     rcases Le.mp z with z|z
     ·exact Lu hb z
     ·exact Lu (MN hb) (Lo.mp z)
   ·cases r₂ with
    |error e=>exact Zv
    |ok a1D=>
     cases a1D with
     |ret r=>
      obtain⟨rfl,h',tk,rfl,Wk,Us⟩:=Zv
      repeat (any_goals (first|assumption|wp_step))
      exact U5 _ _ Wk Us
     |_=>exact Zv.elim
  |_=>exact hr.elim
def lR (ns:List Int):Nat:=(firstMet (λi=>ns.getD i 0) ns.length).length
section
variable {X:Cx} {e:La} {te:TE} {p1 p2 pos Tv:LF}
def CV (K:KU) (te:TE):TE:=λσ H Q=>te σ H λx H1=>∃(a:KZ) (ns:List Int),[x]=[V.ref a]/\(d6 K H1 a (ns.map V.int)\/fS K H1 a (ns.map V.int))/\ns.length<4000/\Q (.int (lR ns)) H1
theorem A1:LK "set"=some (.type "set"):=by decide+kernel
theorem xZ:LK "len"=some (.builtin "len"):=by decide+kernel
theorem x_ (hc:X.calm=true) (he:PE X e te) (Yc:X.mg "len"=none) (WY:X.mg "set"=none) (Yd:Gl X "len") (WZ:Gl X "set")
  (VI:L6 [e] X.env=(false,Ls e X.env)::L6 [] X.env) (UP:(LM Tv (L6 [] X.env)).any (·.1)=false)
  (VT:L6 [.Call (.Name "set" p2) [e] [] Tv] X.env=(false,Ls (.Call (.Name "set" p2) [e] [] Tv) X.env)::L6 [] X.env) (Ve:(LM pos (L6 [] X.env)).any (·.1)=false):
  PE X (.Call (.Name "len" p1) [.Call (.Name "set" p2) [e] [] Tv] [] pos) (CV X.K te):=by
 intro Tc s σ H Q I h
 refine Mv (gT I Yd Yc xZ ?_ (by decide) (by decide))
 refine NH ?_ VT Ve
 rw[VT]
 show wpAny _ _ (QN ((false,Ls (.Call (.Name "set" p2) [e] [] Tv) X.env)::LM pos (L6 [] X.env))) _ _ s
 refine Nc ?_
 refine Mv (gT I WZ WY A1 ?_ (by decide) (by decide))
 refine Mu ?_ VI UP
 refine bq (eN he iI VI Tv Tc s σ H (λvs H1=>∃(a:KZ) (ns:List Int),vs=[V.ref a]/\(d6 X.K H1 a (ns.map V.int)\/fS X.K H1 a (ns.map V.int))/\ns.length<4000/\Q (.int (lR ns)) H1) I h) λus s1 z_=> ?_
 obtain⟨vs,H1,I1,r1,a,ns,rfl,hx,hl,q⟩:=z_
 obtain⟨u,rfl,ru⟩:=fU r1
 cases ru
 have U5:∀(n:Nat),n=ns.length->∀(h':Lj) (tk:Nat),A0 X.prog X.w h' s1.heap.objs.size ns n->(∀b o,b<s1.heap.objs.size->s1.heap.get? b=some o->h'.get? b=some o)->
   wpAny (Lh X.prog X.w) X.A (QN (LM pos (L6 [] X.env))) (λus s2=>wpAny (Lh X.prog X.w) X.A (call (.builtin "len") (.ref s1.heap.objs.size::us)) (EP X Tc σ Q) X.xe s2) X.xe {s1 with heap:=h',toks:=tk}:=by
  rintro n rfl h' tk hS hk
  refine NQ ?_
  obtain⟨o,es,ep,t,ho,a1E,hd,Ux,UN,_,hf,Ye⟩:=hS
  have a3h:=firstMet_length_le (λi=>ns.getD i 0) ns.length
  refine call_len_set ho a1E hd hf (by rw[Ye];omega) ?_
  rw[Ye]
  exact⟨.int _,H1,(I1.kept λb o e=>hk b o (Lg e) e).tok _,⟨_,rfl⟩,q⟩
 rcases hx with hx|hx
 ·obtain⟨its,r,ht,hz⟩:=I1.list hx
  have Ti:=r.length
  rw[L4]at Ti
  exact call_set_list (I1.ok.hd hc) ht.isList (iJ r) (by rw[Ld,<-Ti];unfold RZ;omega) λh' tk a b=>U5 _ (by rw[Ld,Ti]) h' tk a b
 ·obtain⟨its,r,ht,hz⟩:=I1.tuple hx
  have Ti:=r.length
  rw[L4]at Ti
  exact xY (I1.ok.hd hc) ht (λi v hv=>CU r (by simpa using hv)) (by rw[Ld,<-Ti];unfold RZ;omega) λh' tk a b=>U5 _ (by rw[Ld,Ti]) h' tk a b
end
end L2
namespace L2
open PySem PySem.Spec PyProof.Rows
theorem bu.there {P:Lb} {w:Ll} {H:Hp} {h:Lj} {a:KZ} {o:HO} (x:bu P w H h a o):∃ob,h.get? a=some ob:=by
 cases o with
 |lst xs=>obtain⟨_,_,_,_,e⟩:=x;exact⟨_,e⟩
 |tup xs=>obtain⟨_,_,_,o,e,_⟩:=x;exact⟨_,e⟩
 |dK kvs=>obtain⟨_,_,_,_,o,_,_,e,_⟩:=x;exact⟨_,e⟩
 |dT kvs=>obtain⟨_,_,_,_,o,_,_,e,_⟩:=x;exact⟨_,e⟩
 |set S n=>obtain⟨o,_,_,_,e,_⟩:=x;exact⟨_,e⟩
 |ins C dx fs=>obtain⟨_,_,_,e,_⟩:=x;exact⟨_,e⟩
 |own y=>obtain⟨_,e⟩:=x;exact⟨_,e⟩
 |xd fs=>obtain⟨_,⟨_,_,_,e,_⟩,_⟩:=x;exact⟨_,e⟩
 |rng lo hi=>obtain⟨_,_,_,e⟩:=x;exact⟨_,e⟩
 |frz ob u=>obtain⟨e,_⟩:=x;exact⟨_,e⟩
 |tbl ps=>exact⟨_,(show h.get? a=some _ from x)⟩
 |met f y=>exact⟨_,(show h.get? a=some _ from x)⟩
 |ext φ=>obtain⟨_,⟨_,e⟩,_⟩:=x;exact⟨_,e⟩
theorem jB.none_of {P:Lb} {w:Ll} {H:Hp} {h:Lj} {a:KZ} (x:jB P w H h) (e:h.get? a=none):H a=none:=by
 cases q:H a with
 |none=>rfl
 |some o=>obtain⟨ob,z⟩:=(x a o q).there;rw[e]at z;cases z
structure y0 (X:Cx) (Tc:List (KZ×LG)) (H:Hp) (b:KZ):Prop where
 s0:X.s₀.heap.get? b=none
 no:H b=none
 pin:∀p∈X.pn++Tc,p.1≠b
structure FR (X:Cx) (Tc:List (KZ×LG)) (H:Hp) (h:Lj) (a T:KZ) (fl:KW):Prop where
 new:y0 X Tc H T
 ne:T≠a
 at_:∃oT ts,h.get? T=some oT/\oT.data= .fields ts/\ts[3]? =some fl
structure Fl (X:Cx) (Tc:List (KZ×LG)) (H:Hp) (h:Lj) (a:KZ) (cls:KW):Prop where
 new:y0 X Tc H a
 at_:∃oe vs,h.get? a=some oe/\oe.cls=cls/\oe.data= .fields vs/\(vs[1]? =some .none\/∃T fl,vs[1]? =some (.ref T)/\FR X Tc H h a T fl/\(fl= .none\/fl=rawInt X.env.locals))
structure BR (X:Cx) (Tc:List (KZ×LG)) (H:Hp) (h:Lj) (a:KZ) (cls fl:KW):Prop where
 new:y0 X Tc H a
 at_:∃oe vs,h.get? a=some oe/\oe.cls=cls/\oe.data= .fields vs/\∃T,vs[1]? =some (.ref T)/\FR X Tc H h a T fl
abbrev Jd (X:Cx) (Tc:List (KZ×LG)) (H:Hp) (h:Lj) (a:KZ) (cls:KW):Prop:=BR X Tc H h a cls .none
theorem BR.flo {X:Cx} {Tc:List (KZ×LG)} {H:Hp} {h:Lj} {a:KZ} {cls fl:KW} (f:BR X Tc H h a cls fl) (hf:fl= .none\/fl=rawInt X.env.locals):Fl X Tc H h a cls:=
 let ⟨oe,vs,h1,h2,h3,T,h4,h5⟩:=f.at_;⟨f.new,oe,vs,h1,h2,h3, .inr ⟨T,fl,h4,h5,hf⟩⟩
theorem BR.fl {X:Cx} {Tc:List (KZ×LG)} {H:Hp} {h:Lj} {a:KZ} {cls:KW} (f:BR X Tc H h a cls .none):Fl X Tc H h a cls:=f.flo (.inl rfl)
section
variable {X:Cx} {Tc:List (KZ×LG)} {σ:St} {H H':Hp} {s s':KY} {a:KZ} {cls:KW}
structure fE (X:Cx):Prop where
 st:X.stack=X.env::X.outer
 fr:X.env.frame=some X.env.locals
 ex:X.ex=[]
theorem y0.of (I:aw X Tc σ H s) (p:fE X) {b:KZ} (h:s.heap.get? b=none) (hH:H' b=none):y0 X Tc H' b:=by
 refine⟨?_,hH,λq hq z=> ?_⟩
 ·cases e:X.s₀.heap.get? b with
  |none=>rfl
  |some o=>
   obtain⟨o',e'⟩:=I.base.there b o e (by rw[p.ex];simp)
   rw[h]at e';cases e'
 ·have:=(I.pin q hq).1
  rw[z,h]at this;cases this
def wB (h B:Lj) (a:KZ) (cls fl:KW):Prop:=∃oe vs T oT ts,h.get? a=some oe/\oe.cls=cls/\oe.data= .fields vs/\vs[1]? =some (.ref T)/\B.get? T=none/\T≠a/\h.get? T=some oT/\oT.data= .fields ts/\ts[3]? =some fl
theorem _root_.PySem.Heap.TracedAtW.tl {h B:Lj} {a:KZ} {cls a0 fl:KW} (t:h.TracedAtW B a cls a0 fl):wB h B a cls fl:=
 let ⟨oe,vs,T,oT,ts,g1,g2,g3⟩:=t;⟨oe,vs,T,oT,ts,g1,g2.1,g3⟩
theorem mT (I:aw X Tc σ H s) (p:fE X) (fl:Fl X Tc H s.heap a cls):∃(B:Lj) (oe:LG) (vs:Array KW),s.heap.get? a=some oe/\oe.cls=cls/\oe.data= .fields vs/\s.heap.FunFrames B (X.env::X.outer)/\B.StaysIn s.heap/\B.get? a=none/\
  (vs[1]? =some .none\/∃T oT ts fl,vs[1]? =some (.ref T)/\B.get? T=none/\T≠a/\s.heap.get? T=some oT/\oT.data= .fields ts/\ts[3]? =some fl/\(fl= .none\/fl=rawInt X.env.locals))/\
  ∀h' fl,B.StaysIn h'->wB h' B a cls fl->s.heap.UpToSlots h'->aw X Tc σ H {s with heap:=h'}/\BR X Tc H h' a cls fl:=by
 obtain⟨oe,vs,ge,gc,gd,gt⟩:=fl.at_
 obtain⟨rest,Wv,Yf⟩:∃rest:List KZ,(∀b∈rest,y0 X Tc H b/\∃oT ts,s.heap.get? b=some oT/\oT.data= .fields ts)/\(vs[1]? =some .none\/∃T fl,vs[1]? =some (.ref T)/\FR X Tc H s.heap a T fl/\(fl= .none\/fl=rawInt X.env.locals)/\T∈rest):=by
  rcases gt with g|⟨T,fl,g,t,Zx⟩
  ·exact⟨[],(λb hb=>by cases hb), .inl g⟩
  ·obtain⟨oT,ts,e1,e2,_⟩:=t.at_
   exact⟨[T],λb hb=>by rw[Lo.mp hb];exact⟨t.new,oT,ts,e1,e2⟩, .inr ⟨T,fl,g,t,Zx,Lo.mpr rfl⟩⟩
 have Zy:∀b,b∈X.fs->b∈ol X.stack:=λb hb=>by
  rw[p.st]
  unfold ol
  rw[N8,p.fr]
  exact L7 _ hb
 have Zz:X.env.locals∈ol X.stack:=by
  rw[p.st]
  unfold ol
  rw[N8,p.fr]
  exact L8
 have ZA:∀b∈a::rest,y0 X Tc H b/\∃oT ts,s.heap.get? b=some oT/\oT.data= .fields ts:=λb hb=>by
  rcases Le.mp hb with rfl|hb
  ·exact⟨fl.new,oe,vs,ge,gd⟩
  ·exact Wv b hb
 have YH:∀b∈ol X.stack,∃o,s.heap.get? b=some o/\∀vs:Array KW,o.data≠Sg vs:=λb hb=>(I.stack.mem hb).2
 have apart:∀b∈a::rest,b∉ol X.stack:=λb hb z=>by
  obtain⟨_,o,ts,e1,e2⟩:=ZA b hb
  obtain⟨o',e3,e4⟩:=YH b z
  rw[e1]at e3;cases e3
  exact e4 ts e2
 let Xu:List KZ:=(a::rest)++ol X.stack
 let B:Lj:=Sw s.heap Xu
 have ff:s.heap.FunFrames B X.stack:=PySem.W.funFrames_hide I.stack λenv he b hb=>Ln _ (Nb.mpr ⟨env,he,hb⟩)
 have hB:B.StaysIn s.heap:=λb o e=>RF _ e
 have Ww:B.get? a=none:=OS _ (LS _ L8)
 have a1F:s.heap.FunFrames B (X.env::X.outer):=by rw[<-p.st];exact ff
 refine⟨B,oe,vs,ge,gc,gd,a1F,hB,Ww,?_,λh' a3i st ⟨ZC,ZD,T',Yg,Xw,g1,g2,g3,g4,g5,g6,g7,g8,g9⟩ up=> ?_⟩
 ·rcases Yf with g|⟨T,fl,g,t,Zx,hT⟩
  ·exact .inl g
  ·obtain⟨oT,ts,e1,e2,e3⟩:=t.at_
   exact .inr ⟨T,oT,ts,fl,g,OS _ (LS _ (L7 _ hT)),t.ne,e1,e2,e3,Zx⟩
 ·have YI:∀b o,s.heap.get? b=some o->b∉a::rest->b∉ol X.stack->h'.get? b=some o:=λb o e n1 n2=>
   st b o (P7 _ e λz=>(LR.mp z).elim n1 n2)
  have ZE:y0 X Tc H T':=by
   by_cases hr:T'∈rest
   ·exact(Wv T' hr).1
   ·have hn:s.heap.get? T'=none:=by
     cases e:s.heap.get? T' with
     |none=>rfl
     |some o=>
      by_cases hf:T'∈ol X.stack
      ·obtain⟨o',e3,e4⟩:=YH T' hf
       obtain⟨sl,e5⟩:=up T' o' e3 e4
       rw[g7]at e5;cases e5
       exact absurd g8 (e4 Xw)
      ·have:=P7 Xu (b:=T') e λz=>(LR.mp z).elim (λq=>(Le.mp q).elim g6 hr) hf
       rw[g5]at this;cases this
    exact y0.of I p hn (I.hok.none_of hn)
  refine⟨I.step (g':=s.gens) (d':=s.drawn) (t':=s.toks) (ch:=a::rest) (λb hb=> ?_) (λb o n1 n2 n3 e _=> ?_) (λb o _ hb n3 e _=> ?_) (λ_ _ _ _ n=>n) (λb o n e=> ?_) (λ_ _ e=>e) (λ_ _ _ e=>e) (λb ps e=>⟨#[],by rw[e];simp⟩) (λm hm=> ?_) (λb u e=> ?_) I.bare,
   ⟨fl.new,ZC,ZD,g1,g2,g3,T',g4,ZE,g6,Yg,Xw,g7,g8,g9⟩⟩
  ·obtain⟨n,o,ts,e1,e2⟩:=ZA b hb
   refine⟨.inr n.s0,λz=>apart b hb (by rw[z];exact Zz),λx c hc z=> ?_,n.pin⟩
   obtain⟨v,o',e3,e4⟩:=I.cell x c hc
   rw[z,e1]at e3;cases e3
   rw[e2]at e4;cases e4
  ·exact YI b o e n3 λz=>(Le.mp (I.stkSub b z)).elim n1 n2
  ·obtain⟨o',e3,e4⟩:=YH b (Zy b hb)
   rw[e]at e3;cases e3
   exact up b o e e4
  ·by_cases hf:b∈ol X.stack
   ·obtain⟨o',e3,e4⟩:=YH b hf
    rw[e]at e3;cases e3
    obtain⟨sl,e5⟩:=up b o e e4
    exact⟨_,e5⟩
   ·exact⟨o,YI b o e n hf⟩
  ·obtain⟨o,es,ep,ho,hd,r⟩:=hm
   obtain⟨sl,e5⟩:=up _ o ho λvs z=>by rw[hd]at z;cases z
   exact⟨_,es,ep,e5,hd,r⟩
  ·have nh:∀c v,H c=some v->c∉a::rest/\c∉ol X.stack:=λc v hc=>⟨λz=>(by have:=(ZA c z).1.no;rw[hc]at this;cases this),λz=>(by have:=I.stkFree c z;rw[hc]at this;cases this)⟩
   refine(I.hok b u e).stay (λc v hc q=> ?_) (λ_ q=>q) λ_ _ q=>q
   rcases hc with z|z
   ·rw[z]at q ⊢;exact YI b v q (nh b u e).1 (nh b u e).2
   ·exact YI c v q (nh c _ z).1 (nh c _ z).2
theorem A2 {vs:Array KW} {v:KW} (h:vs[1]? =some v):1<vs.size/\∃a0,vs[0]? =some a0:=by
 have U_:1<vs.size:=by
  by_cases z:1<vs.size
  ·exact z
  ·rw[Array.getElem?_eq_none (Qc z)]at h;cases h
 exact⟨U_,vs[0]'(by omega),by simp⟩
theorem A3 {Q:Unit->KY->Prop} {E:KW->KY->Prop} (I:aw X Tc σ H s) (p:fE X) (fl:Fl X Tc H s.heap a cls)
  (k:∀h',aw X Tc σ H {s with heap:=h'}->Jd X Tc H h' a cls->Q () {s with heap:=h'}):
  wpAny (Lh X.prog X.w) X.A (Oh (.ref a) X.env) (λ_ s₂=>wpAny (Lh X.prog X.w) X.A (setFlight (.ref a) none) Q E s₂) E s:=by
 obtain⟨B,oe,vs,ge,gc,gd,ff,hB,Ww,hn,hk⟩:=mT I p fl
 have TY:X.A.frames=some (X.env::X.outer):=by rw[I.ok.frames,p.st]
 rcases hn with g|⟨T,oT,ts,f,g1,g2,g3,g4,g5,g6,g7⟩
 ·obtain⟨U_,a0,h0⟩:=A2 g
  unfold Oh
  rw[p.fr]
  refine K_ (OD (o:=oe) ge (by rw[gd]) g ?_)
  refine wpAny_newEntryW (head:= .none) (hadNext:=false) TY ff p.fr ge hB Ww gd U_ h0 λh' z_=> ?_
  obtain⟨st,_,tr,up⟩:=z_
  rw[gc]at tr
  obtain⟨I',f'⟩:=hk h' _ st tr.at.tl up
  exact k h' I' f'
 ·obtain⟨U_,a0,h0⟩:=A2 g1
  rcases g7 with rfl|rfl
  ·refine wpAny_looks_onW (cls:=cls) (a0:=a0) TY p.fr ⟨hB,Ww,ff,oe,vs,T,oT,ts,ge,⟨gc,h0⟩,gd,g1,g2,g3,g4,g5,g6⟩ λh1 ZF u1=> ?_
   refine wpAny_landsW ZF λh2 ⟨st,_,_,tr⟩ u2=> ?_
   obtain⟨I',f'⟩:=hk h2 _ st tr.at.tl (u1.trans u2)
   exact k h2 I' f'
  ·have a0w:s.heap.TracedAtW B a cls a0 (rawInt X.env.locals):=⟨oe,vs,T,oT,ts,ge,⟨gc,h0⟩,gd,g1,g2,g3,g4,g5,g6⟩
   refine wpAny_noteFrame_againW p.fr a0w ?_
   refine wpAny_landsW (base:=B) (l:=X.env::X.outer) (L:=X.env.locals) ⟨hB,Ww,ff,a0w⟩ λh2 ⟨st,_,_,tr⟩ u2=> ?_
   obtain⟨I',f'⟩:=hk h2 _ st tr.at.tl u2
   exact k h2 I' f'
theorem A4 {Q:Unit->KY->Prop} {E:KW->KY->Prop} (I:aw X Tc σ H s) (p:fE X) (fl:Fl X Tc H s.heap a cls)
  (k:∀h',aw X Tc σ H {s with heap:=h'}->Jd X Tc H h' a cls->Q () {s with heap:=h'}):wpAny (Lh X.prog X.w) X.A (leaving X.env (.ref a)) Q E s:=
 K_ (A3 I p fl k)
theorem CW {cenv:MU} {Q:Unit->KY->Prop} {E:KW->KY->Prop} (I:aw X Tc σ H s) (p:fE X) (fl:Jd X Tc H s.heap a cls) (hc:cenv.frame=X.env.frame)
  (k:∀h',aw X Tc σ H {s with heap:=h'}->BR X Tc H h' a cls (rawInt X.env.locals)->s.heap.UpToSlots h'->Q () {s with heap:=h'}):wpAny (Lh X.prog X.w) X.A (Oh (.ref a) cenv) Q E s:=by
 obtain⟨B,oe,vs,ge,gc,gd,ff,hB,Ww,hn,hk⟩:=mT I p fl.fl
 have TY:X.A.frames=some (X.env::X.outer):=by rw[I.ok.frames,p.st]
 have en:Oh (.ref a) cenv=Oh (.ref a) X.env:=by unfold Oh PySem.frameOf;rw[hc]
 rw[en]
 obtain⟨ZC,ZD,e1,e2,e3,T',e4,ZG⟩:=fl.at_
 rw[ge]at e1;cases e1
 rw[gd]at e3;cases e3
 obtain⟨Yg,Xw,q1,q2,q3⟩:=ZG.at_
 rcases hn with g|⟨T,oT,ts,f,g1,g2,g3,g4,g5,g6,g7⟩
 ·rw[g]at e4;cases e4
 ·rw[e4]at g1;cases g1
  rw[q1]at g4;cases g4
  rw[q2]at g5;cases g5
  obtain⟨U_,a0,h0⟩:=A2 e4
  refine wpAny_looks_onW (cls:=cls) (a0:=a0) TY p.fr ⟨hB,Ww,ff,oe,vs,T',Yg,Xw,ge,⟨gc,h0⟩,gd,e4,g2,g3,q1,q2,q3⟩ λh1 ⟨st,_,_,tr⟩ u1=> ?_
  obtain⟨I',f'⟩:=hk h1 _ st tr.tl u1
  exact k h1 I' f' u1
theorem CY {α:Type} {ZH:String} {cenv:MU} {Q:α->KY->Prop} {E:KW->KY->Prop} (I:aw X Tc σ H s) (p:fE X) (fl:BR X Tc H s.heap a cls (rawInt X.env.locals)) (hc:cenv.frame=X.env.frame)
  (k:∀h',aw X Tc σ H {s with heap:=h'}->BR X Tc H h' a cls (rawInt X.env.locals)->E (.ref a) {s with heap:=h'}):wpAny (Lh X.prog X.w) X.A (Qh ZH (.ref a) cenv:NV α) Q E s:=by
 obtain⟨B,oe,vs,ge,gc,gd,ff,hB,Ww,hn,hk⟩:=mT I p (fl.flo (.inr rfl))
 obtain⟨ZC,ZD,e1,e2,e3,T',e4,ZG⟩:=fl.at_
 rw[ge]at e1;cases e1
 rw[gd]at e3;cases e3
 obtain⟨Yg,Xw,q1,q2,q3⟩:=ZG.at_
 rcases hn with g|⟨T,oT,ts,f,g1,g2,g3,g4,g5,g6,g7⟩
 ·rw[g]at e4;cases e4
 ·rw[e4]at g1;cases g1
  rw[q1]at g4;cases g4
  rw[q2]at g5;cases g5
  unfold Qh
  refine K_ (OD ge gd e4 ?_)
  rw[if_neg (by simp)]
  refine K_ ?_
  unfold setFlight
  refine K_ (OD ge gd e4 ?_)
  rw[if_pos (show (Lr T' != M5)=true from by simp),hc,p.fr]
  have Vt:3<Xw.size:=(O3.mp q3).1
  obtain⟨tc,td,a0x,a3j⟩:=Yg
  simp only at q2
  subst q2
  refine wpAny_setField q1 rfl Vt ?_
  have VW:∀b,b≠T'->(s.heap.update T' (S_ (·.setIfInBounds 3 (rawInt X.env.locals)))).get? b=s.heap.get? b:=λb hb=>OE _ _ (MG hb)
  obtain⟨I',f'⟩:=hk (s.heap.update T' (S_ (·.setIfInBounds 3 (rawInt X.env.locals)))) (rawInt X.env.locals) (λb o e=>by rw[VW b (λz=>by rw[z,g2]at e;cases e)];exact hB b o e)
   ⟨oe,vs,T',_,_,by rw[VW a (MG g3)];exact ge,gc,gd,e4,g2,g3,QT _ q1 rfl,rfl,by simp[Vt]⟩
   (λb o e VG=>⟨o.slots,by rw[VW b (λz=>by rw[z,q1]at e;cases e;exact VG _ rfl)];exact e⟩)
  exact wpAny_throw (k _ I' f')
def KC (g:Lj) (H:Hp) (h:Lj) (a:KZ) (cls:KW):Prop:=g.get? a=none/\H a=none/\∃oe vs T oT ts,h.get? a=some oe/\oe.cls=cls/\oe.data= .fields vs/\vs[1]? =some (.ref T)/\g.get? T=none/\H T=none/\T≠a/\
 h.get? T=some oT/\oT.data= .fields ts/\ts[3]? =some .none
def og (P:Lb) (w:Ll):v5:=λouter H s E e s'=>∃a cls H',e= .ref a/\s'.os=s.os/\Oj s'.gens/\Un (ol outer) [] H H' s.heap s'.heap/\jB P w H' s'.heap/\KC s.heap H' s'.heap a cls/\E cls (some a) H'
theorem FT {E:XK} {e:KW} (I:aw X Tc σ H s) (p:fE X) (h:og X.prog X.w X.stack H s E e s'):∃a cls H',e= .ref a/\aw X Tc σ H' s'/\Fl X Tc H' s'.heap a cls/\E cls (some a) H':=by
 obtain⟨a,cls,H',rfl,os,bare,un,hok,⟨n1,n2,oe,vs,T,oT,ts,g1,g2,g3,g4,g5,g6,g7,g8,g9,ZI⟩,q⟩:=h
 refine⟨a,cls,H',rfl,I.call' os un hok bare (λb hb=>by cases hb),⟨y0.of I p n1 n2,oe,vs,g1,g2,g3, .inr ⟨T, .none,g4,⟨y0.of I p g5 g6,g7,oT,ts,g8,g9,ZI⟩, .inl rfl⟩⟩,q⟩
theorem tK {CX:v5} {P:Lb} {w:Ll} {K:KU} {mg:L0->Option KW} {base:Lj} {N:List L0} {qual:L0} {scope:MO} {f:KZ} {cd:KW} {A:LD} {outer:List MU} {s:KY} {H:Hp} {E:XK}:
  fE (jG CX P w K mg base N qual scope f cd A outer s H E):=⟨rfl,rfl,rfl⟩
theorem vi {P:Lb} {w:Ll} {K:KU} {mg:L0->Option KW} {base:Lj} {N:List L0} {qual:L0} {scope:MO} {f:KZ} {cd:KW} {A:LD} {outer:List MU} {s0:KY} {H0:Hp} {E:XK}
  (I:aw (jG (og P w) P w K mg base N qual scope f cd A outer s0 H0 E) Tc σ H s) (fl:Fl (jG (og P w) P w K mg base N qual scope f cd A outer s0 H0 E) Tc H s.heap a cls) (h:E cls (some a) H):
  (jG (og P w) P w K mg base N qual scope f cd A outer s0 H0 E).xe (.ref a) s:=by
 refine A4 I tK fl λh' I' f'=> ?_
 obtain⟨oe,vs,g1,g2,g3,T,g4,t⟩:=f'.at_
 obtain⟨oT,ts,g5,g6,g7⟩:=t.at_
 exact⟨a,cls,H,rfl,I'.os,I'.bare,I'.base,I'.hok,⟨f'.new.s0,f'.new.no,oe,vs,T,oT,ts,g1,g2,g3,g4,t.new.s0,t.new.no,t.ne,g5,g6,g7⟩,h⟩
end
end L2
namespace L2
open PySem PySem.Spec PyProof.Rows
def CZ:List KW:=[.type "ValueError", .type "Exception", .type "BaseException", .type "object"]
structure C_ (K:KU) (C:KZ):Prop where
 exc:∃Ut Bn a0y a0z,Nl K C CZ Ut=true/\ExcBaseFacts Bn Ut a0y a0z/\CZ.contains (.type Bn)=true
 ga:LB K (.ref C) "__getattribute__"=some (some (.builtin "BaseException.__getattribute__"))
 gt:LB K (.ref C) "__getattr__"=some none
 kc:LB K (.ref C) "__class__"=some (some (.builtin "object.__class__"))
 sp:Oz K (.builtin "object.__class__") "__get__"=some (some (.builtin "getset_descriptor.__get__"))
 tk:OW K (.builtin "object.__class__")=some true
 mo:N5 K C (.type "object")=some true
 mb:N5 K C (.type "BaseException")=some true
 kk:Oo K (.ref C) (.ref C)=some true
theorem D0 {K:KU} {h:Lj} {C:KZ} {Xx:List KW} {Ut:String} (KX:K.In h) (e:Nl K C Xx Ut=true):∃bm N nm q bs hdct sn sub ab col dd k0 k1 k2 k3 k5 mN,
  h.get? C=some (excClassObj nm q C N bs bm hdct sn sub ab col dd k0 k1 k2 k3 k5 Ut)/\h.Ns N mN/\mN (Og "__init__")=none/\OwnTail h Xx bm:=by
 unfold Nl at e
 split at e
 ·split at e
  ·rename_i dd cd sl lk _ _ C' bm k0 k1 k2 k3 n k5 e1 e2
   simp only[Mw]at e
   obtain⟨⟨⟨⟨⟨a1,a2⟩,a3⟩,a4⟩,a5⟩,a6⟩:=e
   have b1:C'=C:=eq_of_beq a1
   have b2:n=Ut:=eq_of_beq a2
   subst b1 b2
   have g:=KX _ _ lk
   have a1G:sl= #[k0,k1,k2,k3,some (Rr n),k5]:=by rw[<-Array.toList_inj];exact e2
   have Yh:cd.hasDel=false:=by simpa using a3
   obtain⟨nm,bs,mro,N,q,hd,sn,sb,ab,col,a3k⟩:=cd
   dsimp only at e1 Yh a4 a5 a6
   subst e1 a1G Yh
   exact⟨bm,N,nm,q,bs,hd,sn,sb,ab,col,dd,k0,k1,k2,k3,k5,_,g,Heap.Ns.of_isNs (PySem.W.isNs_of_in KX a5),PySem.W.nsMap_none_of_in KX a5 (eq_of_beq a6),PySem.W.tail_of_in KX a4⟩
  ·cases e
 ·cases e
end L2
namespace L2
open PySem PySem.Spec PyProof.Rows
section
variable {X:Cx} {Tc:List (KZ×LG)} {σ:St} {H:Hp} {s:KY} {a:KZ} {cls:KW} {x:L0} {np Tf pos:LF} {e:La} {es:List La} {t:TA} {C:KZ}
def A5 (X:Cx) (C:KZ) (t:TA):TS:=λ_ σ H=>t σ H λvs H1=>vs.length<=sizeLine/\∀Tc s a,aw X Tc σ H1 s->Fl X Tc H1 s.heap a (.ref C)->X.xe (.ref a) s
theorem D1 {h':Lj} {vs:List KW} (I:aw X Tc σ H s) (p:fE X) (m:s.heap.MadeExcOf h' a cls vs):aw X Tc σ H {s with heap:=h'}/\Fl X Tc H h' a cls:=by
 obtain⟨tp,g1,g2,g3⟩:=m.there
 exact⟨I.kept (t':=s.toks) m.keeps,y0.of I p m.new (I.hok.none_of m.new),_,_,g1,rfl,rfl, .inl rfl⟩
theorem A6 (k:C_ X.K C) (hm:X.mg x=some (.ref C)) (p:fE X) (hc:X.calm=true) (ha:PA X (e::es) t) (hg:Gl X x:=by rfl) (Ue:(x==("__debug__":L0))=false:=by decide)
  (he:L6 (e::es) X.env=(false,Ls e X.env)::L6 es X.env:=by rfl) (TC:(LM Tf (L6 es X.env)).any (·.1)=false:=by rfl):PS X (.Raise (some (.Call (.Name x np) (e::es) [] Tf)) none pos) (A5 X C t):=by
 intro Tc s σ H D I h
 obtain⟨Ut,Bn,a0y,a0z,ei,fB,hB⟩:=k.exc
 obtain⟨bm,N,nm,q,bs,hd,sn,sb,ab,col,dd,k0,k1,k2,k3,k5,mN,g,ns,ni,tl⟩:=D0 I.ok.mod.kin ei
 have VX:LM Tf (L6 (e::es) X.env)=(false,Ls e X.env)::LM Tf (L6 es X.env):=by rw[he];rfl
 refine wpAny_Raise_call_subU (nm:=nm) (q:=q) (C:=C) (N:=N) (bs:=bs) (hdct:=hd) (sn:=sn) (sub:=sb) (ab:=ab) (col:=col) (dd:=dd) (k0:=k0) (k1:=k1) (k2:=k2) (k3:=k3) (k5:=k5) fB hB F.excBase_ValueError (tl.hasType (by decide)) (I.ok.hd hc) (by rw[VX];exact TC) ni (om I hg hm ⟨rfl,?_⟩ Ue)
 rw[VX]
 refine O_ ?_
 rw[<-VX]
 refine bq (ha Tf Tc s σ H _ I h) λus s1 ⟨vs,H1,I1,r,z,q1⟩=>⟨rfl,by rw[<-r.length];exact z,I1.bk _ _ g,ns.keeps I1.bk,tl.keeps I1.bk,λh' a m=> ?_⟩
 obtain⟨I2,f2⟩:=D1 I1 p m
 exact q1 Tc _ a I2 f2
def Ew (a:KZ) (cls:KW):Lj->Prop:=λh=>∃o,h.get? a=some o/\o.cls=cls
end
end L2
namespace L2
open PySem PySem.Spec PyProof.Rows
def qN (M:Sy) (A:LD) (E:KW->KY->Prop) (use:Option (KW->NV Unit)) (Q:KW->KY->Prop) (acc:KW) (cenv:MU) (r:Q4) (s':KY):Prop:=
 match r,use with
 | .ok _,none=>∃m,s'.heap.Ns cenv.locals m/\∀h',Nx cenv.locals s'.heap h'->Q acc {s' with heap:=h'}
 | .ok _,some u=>wpAny M A (u acc) (λ_ UA=>∃m,UA.heap.Ns cenv.locals m/\∀h',Nx cenv.locals UA.heap h'->Q .none {UA with heap:=h'}) E s'
 | .error x,_=>∃m,s'.heap.Ns cenv.locals m/\∀h',Nx cenv.locals s'.heap h'->wpAny M A (Qh "comprehension.variables-let-go" x cenv:NV KW) (λ_ _=>False) E {s' with heap:=h'}
theorem vj {M:Sy} {A:LD} {E:KW->KY->Prop} {env:MU} {s:KY} {e:La} {scope:MO} {pos:LF} {VY first:NV KW} {g:Comprehension} {gs:List Comprehension} {cl:List (L0×KZ)} {use:Option (KW->NV Unit)}
  {Q:KW->KY->Prop} (W_:clausesOf e=g::gs) (hs:∀x,Mq g.iter env x=pure x) (Yi:SH scope env=pure cl)
  (UX:scope.kind= .function) (X4:∀x∈scope.names,x.2= .local->scope.names.lookup x.1=some .local)
  (h:wpAny M A first (λx s₁=>wpAny M A (RJ x) (λit s₂=>wpAny M A VY (λacc s₃=>
   wpAny M A (QV scope env.globals cl [] env.qual none .none (some env)) (λcenv s₄=>
    Ng M A (.compStart e 0 it acc {cenv with scope:=Ni scope env}) (qN M A E use Q acc {cenv with scope:=Ni scope env}) s₄) E s₃) E s₂) E s₁) E s):
  wpAny M A (PH e scope env pos VY false first use) Q E s:=by
 unfold PH
 rw[Yi,W_]
 refine K_ (M8 h (λx s₁ h₁=>K_ (MR (K_ (wpAny_of_eq (hs x) (K_ (LO (M8 h₁ (λit s₂ h₂=>
  wpAny_standIf (K_ (M8 h₂ (λacc s₃ h₃=>K_ (Lc (K_ (M8 h₃ (λcenv s₄ h₄=> ?_) λ_ _ h'=>h')))) λ_ _ h'=>h')))
   λ_ _ h'=>h'))))))) λ_ _ h'=>h')
 dsimp only
 have hv:∀x∈(scope.names.filter λx=>(x.2== .local||x.2== .cell)&&x.1 != (".0":L0)).reverse,x.2= .local->
   Env.kindOf {cenv with scope:=Ni scope env} x.1=some .local:=λx hx hl=>lookup_relabel_local (X4 x (Lv.mp (List.mem_reverse.mp hx)).1 hl)
 have We:∀x∈(scope.names.filter λx=>(x.2== .local||x.2== .cell)&&x.1 != (".0":L0)).reverse.drop 1++(scope.names.filter λx=>(x.2== .local||x.2== .cell)&&x.1 != (".0":L0)).reverse.take 1,
   x.2= .local->Env.kindOf {cenv with scope:=Ni scope env} x.1=some .local:=λx hx hl=>by
  rcases LR.mp hx with h1|h1
  ·exact hv x (List.mem_of_mem_drop h1) hl
  ·exact hv x (List.mem_of_mem_take h1) hl
 refine LO (K_ (wpAny_attempt (LO (wpAny_run (NS h₄ λr s' hr=> ?_)))))
 cases r with
 |ok f=>
  cases use with
  |none=>
   obtain⟨m,hn,hr⟩:=hr
   exact K_ (LO (Qi (cenv:={cenv with scope:=Ni scope env}) UX _ s' m hv hn λh' m' _ Ub=>Lc (hr h' Ub)))
  |some u=>
   refine K_ (PZ (K_ (LO (M8 hr (λ_ UA X5=> ?_) λ_ _ h'=>h'))))
   obtain⟨m,hn,X5⟩:=X5
   exact K_ (Qi (cenv:={cenv with scope:=Ni scope env}) UX _ UA m We hn λh' m' _ Ub=>Lc (X5 h' Ub))
 |error x=>
  have X5:∃m,s'.heap.Ns cenv.locals m/\∀h',Nx cenv.locals s'.heap h'->wpAny M A (Qh "comprehension.variables-let-go" x {cenv with scope:=Ni scope env}:NV KW) (λ_ _=>False) E {s' with heap:=h'}:=by cases use<;>exact hr
  obtain⟨m,hn,hr⟩:=X5
  exact K_ (LO (Qi (cenv:={cenv with scope:=Ni scope env}) UX _ s' m hv hn λh' m' _ Ub=>M8 (hr h' Ub) (λ_ _ f=>f.elim) λ_ _ y=>y))
def bL (X:Cx) (scope:MO) (s:KY) (H:Hp) (ex:List KZ) (E:KW->KY->Prop):Cx:={bE X scope s H ex with xe:=E}
section
variable {X:Cx} {scope:MO} {s:KY} {H:Hp} {ex:List KZ} {E:KW->KY->Prop} {TZ:List (KZ×LG)} {τ:St} {H':Hp} {s':KY}
theorem HX (ok:(bE X scope s H ex).Ok):(bL X scope s H ex E).Ok:=
 ⟨ok.mod,ok.kind,ok.glob,ok.blt,ok.above,ok.inj,ok.has,ok.cab,ok.hd,ok.frames,ok.stk,ok.exf,ok.bs,ok.bsz,ok.noex,ok.exfs,ok.funs,ok.frf⟩
theorem JS (ok:(bL X scope s H ex E).Ok):(bE X scope s H ex).Ok:=
 ⟨ok.mod,ok.kind,ok.glob,ok.blt,ok.above,ok.inj,ok.has,ok.cab,ok.hd,ok.frames,ok.stk,ok.exf,ok.bs,ok.bsz,ok.noex,ok.exfs,ok.funs,ok.frf⟩
theorem KD (I:aw (bE X scope s H ex) TZ τ H' s'):aw (bL X scope s H ex E) TZ τ H' s':=⟨HX I.ok,I.os,I.bare,I.base,I.loc,I.cell,I.free,I.freeC,I.pin,I.hok,I.len⟩
theorem FU (I:aw (bL X scope s H ex E) TZ τ H' s'):aw (bE X scope s H ex) TZ τ H' s':=⟨JS I.ok,I.os,I.bare,I.base,I.loc,I.cell,I.free,I.freeC,I.pin,I.hok,I.len⟩
end
section
variable {X:Cx} {TJ tg iter:La} {TH:List La} {scope:MO} {pos:LF} {wi:TI} {g:TG} {tt:TT} {te:TE}
theorem A7 (S:bA X scope) (hc:X.calm=true) {Tc:List (KZ×LG)} {σ:St} {H:Hp} {s:KY} {fp:List KZ} {EE:KW->KY->Prop} (hg:PG (bL X scope s H fp EE) tg g) (UB:zR (bL X scope s H fp EE) TH tt) (Ux:PE (bL X scope s H fp EE) TJ te)
  (I:aw X Tc σ H s) {it D:KZ} {tn:Nat->Lj->Prop} {J:It} (T:t6 X.prog X.w X.K tg J fp it tn)
  (U2:∀b∈fp,fG X Tc H b/\b<s.heap.objs.size) {Q:Hp->Prop} {R:Q4->KY->Prop}
  (hR:∀τ H' s',aw (bL X scope s H fp EE) [] τ H' s'->Q H'->R (.ok .next) s') (hE:∀e s',EE e s'->notedBy (Lh X.prog X.w) X.A (bL X scope s H fp EE).env (λe UA=>R (.error e) UA) e s')
  {s1:KY} {τ0:St} (I1:aw (bL X scope s H fp EE) [] τ0 H s1) (ht:tn 0 s1.heap) (q:iM J g tt te D τ0 Q H):
  Ng (Lh X.prog X.w) X.A (.compLoop (.ListComp TJ [⟨tg,iter,TH,0⟩] scope pos) 0 (.ref it) (.ref D) (bL X scope s H fp EE).env) R s1:=by
 obtain⟨W,⟨m0,w0⟩,V9⟩:=q
 have Up:∀{H':Hp},(∀b∈fp,H' b=none)->∀b∈fp,fG (bL X scope s H fp EE) [] H' b:=λ{H'} hn b hb=>
  ⟨hn b hb,Lu (U2 b hb).2,(HX (s9 S I U2) (E:=EE)).exfs b hb, .inl hb,λx c hx=>(U2 b hb).1.2.2.2.2.1 x c (dL (cs:=[]) (by intro c h;simp at h) hx),λp hp=>by cases hp⟩
 refine codeAny_loop rfl (λn s'=>∃i ys τ H',aw (bL X scope s H fp EE) [] τ H' s'/\tn i s'.heap/\(∀b∈fp,H' b=none)/\W i n ys τ H') (λn s2 hI=> ?_) m0 ⟨0,[],τ0,H,I1,ht,λb hb=>(U2 b hb).1.1,w0⟩
 obtain⟨i,ys,τ,H2,I2,Vb,XY,w2⟩:=hI
 show wpAny _ X.A ((compTurn (.ListComp TJ [⟨tg,iter,TH,0⟩] scope pos) 0 (.ref it) (.ref D) (bL X scope s H fp EE).env).onRaise (λx=>do Oh x (bL X scope s H fp EE).env;theTreesLotGoes x)) _ _ s2
 refine wpAny_noted ?_
 rw[compTurn_list]
 have up:∀{α:Type} {t:NV α} {Q:α->KY->Prop} {E:KW->KY->Prop} {s:KY},wpAny (Lh X.prog X.w) X.A t Q (λ_ _=>False) s->wpAny (Lh X.prog X.w) X.A t Q E s:=λh=>M8 h (λ_ _ q=>q) λ_ _ f=>f.elim
 have YJ:∀{α:Type} {t:NV α} {Q:α->KY->Prop} {s':KY},wpAny (Lh X.prog X.w) X.A t Q EE s'->wpAny (Lh X.prog X.w) X.A t Q (notedBy (Lh X.prog X.w) X.A (bL X scope s H fp EE).env (λe UA=>R (.error e) UA)) s':=λh=>M8 h (λ_ _ q=>q) λe s' z=>hE e s' z
 obtain⟨hD,Z9⟩:=V9 i n ys τ H2 w2
 rcases Z9 with ⟨stop,qn⟩|⟨go,hz,step⟩
 ·refine K_ (MR (K_ (up (bq (T.done (bL X scope s H fp EE) rfl rfl rfl hc i [] s2 τ H2 (λ_ _=>False) I2 (Up XY) Vb stop) λr s3 z_=> ?_))))
  obtain⟨hr,I3⟩:=z_
  subst hr
  exact Lc (hR _ _ _ I3 qn)
 ·refine K_ (MR (K_ (up (bq (T.item (bL X scope s H fp EE) rfl rfl rfl hc i [] s2 τ H2 (λ_ _=>False) I2 (Up XY) Vb go) λr s3 z_=> ?_))))
  obtain⟨u,hr,h3⟩:=z_
  subst hr
  refine K_ (up (bq h3 λ_ s4 z_=> ?_))
  obtain⟨x,H4,I4,r4,y4,WM,Za⟩:=z_
  have Zb:=I4.pinned (Up Za) (T.obj _ _ WM)
  have VQ:∀{τ7:St} {H7:Hp} {s7:KY},aw (bL X scope s H fp EE) ([]++mK fp s4.heap) τ7 H7 s7->aw (bL X scope s H fp EE) [] τ7 H7 s7/\tn (i+1) s7.heap/\∀b∈fp,H7 b=none:=λI7=>
   ⟨I7.unpinned,T.keep _ _ _ WM λb hb o e=>(I7.pin (b,o) (Ln _ (Ln _ (ef hb e)))).1,λb hb=>by
    obtain⟨o,e,d⟩:=T.obj _ _ WM b hb
    exact(I7.pin (b,o) (Ln _ (Ln _ (ef hb e)))).2.1⟩
  refine K_ (YJ (bq (hg _ s4 τ H4 x u _ Zb r4 (step x H4 y4)) λ_ s5 z_=> ?_))
  obtain⟨τ5,H5,I5,q5⟩:=z_
  refine K_ (YJ (bq (UB _ s5 τ5 H5 _ I5 q5) λok s6 z_=> ?_))
  obtain⟨H6,I6,q6⟩:=z_
  cases ok with
  |false=>
   obtain⟨m',hm,w'⟩:=q6
   obtain⟨a,b,c⟩:=VQ I6
   exact Lc ⟨rfl,m',hm,i+1,ys,τ5,H6,a,b,c,w'⟩
  |true=>
   rw[if_pos rfl]at q6
   refine K_ (K_ (YJ (bq (Ux _ s6 τ5 H6 _ I6 q6) λv s7 z_=> ?_)))
   obtain⟨y,H7,I7,r7,Zc,m',hm,w'⟩:=z_
   refine K_ (YJ (bq (mO (X:=bL X scope s H fp EE) _ s7 τ5 H7 (.ref D) [y] (.ref D) [v] (λ_ H8=>H8=a_ H7 D (.lst (ys++[y]))) I7 rfl (.cons r7 .nil) ⟨D,ys,y,rfl,rfl,Zc,hz,rfl⟩) λ_ s8 z_=> ?_))
   obtain⟨_,H8,I8,_,e8⟩:=z_
   subst e8
   obtain⟨a,b,c⟩:=VQ I8
   exact Lc (Lc ⟨rfl,m',hm,i+1,ys++[y],τ5,_,a,b,c,w'⟩)
theorem ya (S:bA X scope) (hc:X.calm=true) (hg:∀s H ex E,PG (bL X scope s H ex E) tg g) (UB:∀s H ex E,zR (bL X scope s H ex E) TH tt)
  {Tc:List (KZ×LG)} {σ:St} {H:Hp} {s:KY} {E:KW->KY->Prop} {fp:List KZ} {EF:KY->Hp->KW->KY->Prop}
  (Ux:∀s3 H3,aw X Tc σ H3 s3->(∀b∈fp,fG X Tc H3 b/\b<s3.heap.objs.size)->PE (bL X scope s3 H3 fp (EF s3 H3)) TJ te) (I:aw X Tc σ H s) {it:KZ} {tn:Nat->Lj->Prop} {J:It} (T:t6 X.prog X.w X.K tg J fp it tn)
  (U2:∀b∈fp,fG X Tc H b) (ht:tn 0 s.heap) {Q:KZ->Hp->Prop} {RR:KW->MU->Q4->KY->Prop}
  (hR:∀(D:KZ) (H3:Hp) (s3:KY) (τ:St) (H':Hp) (s':KY),aw X Tc σ H3 s3->(∀b∈fp,fG X Tc H3 b/\b<s3.heap.objs.size)->aw (bL X scope s3 H3 fp (EF s3 H3)) [] τ H' s'->Q D H'->RR (.ref D) (bE X scope s3 H3 fp).env (.ok .next) s')
  (hE:∀(D:KZ) (H3:Hp) (s3:KY),aw X Tc σ H3 s3->(∀b∈fp,fG X Tc H3 b/\b<s3.heap.objs.size)->∀e s',EF s3 H3 e s'->notedBy (Lh X.prog X.w) X.A (bE X scope s3 H3 fp).env (λe UA=>RR (.ref D) (bE X scope s3 H3 fp).env (.error e) UA) e s')
  (q:∀D,H D=none->iM J g tt te D (lP X.N scope.names σ) (Q D) (a_ H D (.lst []))):
  wpAny (Lh X.prog X.w) X.A (S2 []) (λacc s₃=>wpAny (Lh X.prog X.w) X.A (QV scope X.env.globals (lO X.env scope.names []) [] X.env.qual none .none (some X.env)) (λcenv s₄=>
   Ng (Lh X.prog X.w) X.A (.compStart (.ListComp TJ [⟨tg,iter,TH,0⟩] scope pos) 0 (.ref it) acc {cenv with scope:=Ni scope X.env}) (RR acc {cenv with scope:=Ni scope X.env}) s₄) E s₃) E s:=by
 have TK:∀b∈fp,b<s.heap.objs.size:=λb hb=>by
  obtain⟨o,e,_⟩:=T.obj _ _ ht b hb
  exact Lg e
 refine O2 ?_
 have I3:=I.lnew (ys:=[]) (its:=[]) (t':=s.toks) .nil (M6 _)
 have hD:H s.heap.objs.size=none:=I.hok.fresh (Li _)
 have Vt:(s.heap.push {cls:= .type "list",data:= .seq ([]:List KW).toArray}).objs.size=s.heap.objs.size+1:=Nu ..
 have UO:∀b∈fp,fG X Tc (a_ H s.heap.objs.size (.lst [])) b/\b<({s with heap:=s.heap.push {cls:= .type "list",data:= .seq ([]:List KW).toArray},toks:=s.toks}:KY).heap.objs.size:=λb hb=>by
  refine⟨⟨?_,(U2 b hb).2⟩,?_⟩
  ·rw[au (Lu (TK b hb))];exact(U2 b hb).1
  ·show b<(s.heap.push _).objs.size
   rw[Vt]
   exact MN (TK b hb)
 refine Rc S.nocell (by intro y hy;simp at hy) (λh₁ VR VS=> ?_) S.kind
 dsimp only at VR VS ⊢
 have k1:∀b o,(s.heap.push {cls:= .type "list",data:= .seq ([]:List KW).toArray}).get? b=some o->h₁.get? b=some o:=λb o e=>VS.extBut b o (Lu (Lg e)) (L5 _ e)
 have I4:=zQ (t':=s.toks) S I3 UO (h':=h₁) VR k1
 have XZ:tn 0 h₁:=T.keep _ _ _ ht λb hb o e=>k1 b o (L5 _ e)
 have Vd:Ng (Lh X.prog X.w) X.A (.compLoop (.ListComp TJ [⟨tg,iter,TH,0⟩] scope pos) 0 (.ref it) (.ref s.heap.objs.size) (bE X scope {s with heap:=s.heap.push {cls:= .type "list",data:= .seq ([]:List KW).toArray},toks:=s.toks} (a_ H s.heap.objs.size (.lst [])) fp).env)
   (RR (.ref s.heap.objs.size) (bE X scope {s with heap:=s.heap.push {cls:= .type "list",data:= .seq ([]:List KW).toArray},toks:=s.toks} (a_ H s.heap.objs.size (.lst [])) fp).env) {s with heap:=h₁,toks:=s.toks}:=
  A7 S hc (hg _ _ _ _) (UB _ _ _ _) (Ux _ _ I3 UO) I3 T UO (λτ H' s' I' q'=>hR _ _ _ τ H' s' I3 UO I' q') (hE _ _ _ I3 UO) (KD I4) XZ (q _ hD)
 exact QK Vd (T.self _ 0 _ _ _ XZ Vd)
def FV (X:Cx) (Tc:List (KZ×LG)) (scope:MO) (fp:List KZ) (EO:KW->Hp->Prop) (s3:KY) (H3:Hp):KW->KY->Prop:=λe s'=>
 ∃a cls H' τ,e= .ref a/\aw (bE X scope s3 H3 fp) [] τ H' s'/\Jd X Tc H' s'.heap a cls/\EO cls H'
theorem wC {Tc:List (KZ×LG)} {σ:St} {H3:Hp} {s3:KY} {fp:List KZ} (I:aw X Tc σ H3 s3) (p:fE X) (U2:∀b∈fp,fG X Tc H3 b/\b<s3.heap.objs.size) {TZ:List (KZ×LG)} {τ:St} {H H':Hp} {s:KY} (I':aw (bE X scope s3 H3 fp) TZ τ H s)
  {b:KZ} (hb:s.heap.get? b=none) (hH:H' b=none):y0 X Tc H' b:=by
 have Yj:∀o,s3.heap.get? b=some o->b∉fp->False:=λo e n=>by
  obtain⟨o',e'⟩:=I'.base.there b o e n
  rw[hb]at e';cases e'
 refine⟨?_,hH,λq hq z=> ?_⟩
 ·cases e:X.s₀.heap.get? b with
  |none=>rfl
  |some o=>
   obtain⟨o',e'⟩:=I.base.there b o e (by rw[p.ex];simp)
   refine(Yj o' e' λz=> ?_).elim
   rcases(U2 b z).1.2.2.2.1 with y|y
   ·rw[p.ex]at y;cases y
   ·exact absurd (Lg e) (Nat.not_lt.mpr y)
 ·have:=(I.pin q hq).1
  rw[z]at this
  exact Yj _ this λy=>(U2 b y).1.2.2.2.2.2 q hq z
def FW (X:Cx) (names:List (L0×Mf)) (wi:TI) (g:TG) (tt:TT) (te:(KW->Hp->Prop)->TE) (gy:TG):TS:=λD σ H=>
 ∃EO:KW->Hp->Prop,(∀cls H' Tc s a,EO cls H'->aw X Tc σ H' s->Fl X Tc H' s.heap a cls->X.xe (.ref a) s)/\
  wi σ H λJ H1=>∀p,H1 p=none->iM J g tt (te EO) p (lP X.N names σ) (λH2=>gy (.ref p) σ H2 D.nx) (a_ H1 p (.lst []))
theorem A8 {y:L0} {py U4:LF} {gy:TG} {te:(KW->Hp->Prop)->TE} (pl:fE X) (S:bA X scope) (hc:X.calm=true) (hi:PI X tg iter wi) (hg:∀s H ex E,PG (bL X scope s H ex E) tg g) (UB:∀s H ex E,zR (bL X scope s H ex E) TH tt)
  (Ux:∀Tc σ s3 H3 fp EO,aw X Tc σ H3 s3->(∀b∈fp,fG X Tc H3 b/\b<s3.heap.objs.size)->PE (bL X scope s3 H3 fp (FV X Tc scope fp EO s3 H3)) TJ (te EO)) (hy:PG X (.Name y py) gy) (UZ:Mi (.ListComp TJ [⟨tg,iter,TH,0⟩] scope pos) (some (.Name y py)) U4.line X.env=pure true:=by rfl)
  (hs:∀x,Mq iter X.env x=pure x:=by intro _;rfl):PS X (.Assign [.Name y py] (.ListComp TJ [⟨tg,iter,TH,0⟩] scope pos) U4) (FW X scope.names wi g tt te gy):=by
 intro Tc s σ H D I h
 obtain⟨EO,a1H,h⟩:=h
 rw[QW _ _ _ _ UZ]
 refine K_ (MR (K_ ?_))
 show wpAny _ X.A (do let _<-PH (.ListComp TJ [⟨tg,iter,TH,0⟩] scope pos) scope X.env _ (S2 []) false (Ls iter X.env) (some (Ny (.Name y py) X.env))) _ _ s
 refine K_ (M8 (vj (use:=some (Ny (.Name y py) X.env)) (Q:=λ_ s'=>SP X Tc D .next s') rfl hs (r_ (S.cellOf I.ok)) S.kind S.loc
  (bq (hi Tc s σ H _ I h) λv s1 h1=>bq h1 λXO s2 h2=> ?_)) (λ_ s' hq=>Lc (Lc hq)) λ_ _ e=>e)
 obtain⟨it,fp,tn,J,H2,e,I2,T,Vb,f2,q⟩:=h2
 subst e
 refine ya (Q:=λp H2=>gy (.ref p) σ H2 D.nx) (EF:=FV X Tc scope fp EO) (RR:=λacc cenv=>qN (Lh X.prog X.w) X.A X.xe (some (Ny (.Name y py) X.env)) (λ_ s'=>SP X Tc D .next s') acc cenv) S hc hg UB (λs3 H3 I3 f3=>Ux Tc σ s3 H3 fp EO I3 f3) I2 T f2 Vb ?_ ?_ q
 ·intro p H3 s3 τ H' s' I3 f3 I' q'
  have I':=FU I'
  obtain⟨m,hm,_⟩:=I'.loc
  obtain⟨oC,es,ep,X_,WN,Zd,Ze⟩:=hm
  have J1:aw X Tc σ H' s':=ou (t':=s'.toks) (h':=s'.heap) I3 f3 I' λb o _ e=>e
  have Y0:H' s3.heap.objs.size=none:=I'.free
  have WO:s3.heap.objs.size≠X.env.locals:=λz=>by have:=I3.lt;rw[<-z]at this;exact LI _ this
  have J2:aw X (Tc++[(s3.heap.objs.size,oC)]) σ H' s':=J1.pins_of λq hq=>by
   rcases LR.mp hq with hq|hq
   ·exact J1.pin q (Ln _ hq)
   ·have e:q=(s3.heap.objs.size,oC):=by simpa using hq
    subst e
    exact⟨X_,Y0,WO,I3.nofs (Li _),λv z=>by rw[WN]at z;cases z⟩
  refine bq (hy _ s' σ H' (.ref p) (.ref p) D.nx J2 rfl q') λ_ UA z_=> ?_
  obtain⟨σ5,H5,I5,q5⟩:=z_
  have hp:=I5.pin (s3.heap.objs.size,oC) (Ln _ (Ln _ L8))
  refine⟨m,⟨oC,es,ep,hp.1,WN,Zd,Ze⟩,λh' Ub=> ?_⟩
  refine⟨σ5,H5,(I5.unpinned).turned (it:=s3.heap.objs.size) (t':=UA.toks) (λb o hb e=>Ub.extBut b o hb e) hp.2.1 WO (.inr I3.sz) (λx c hx z=> ?_) (λq hq z=> ?_),q5⟩
  ·obtain⟨v,o,ho,_⟩:=I3.cell x c hx
   have:=Lg ho
   rw[z]at this
   exact LI _ this
  ·have:=(I3.pin q hq).1
   have:=Lg this
   rw[z]at this
   exact LI _ this
 ·rintro p H3 s3 I3 f3 e s' ⟨a,cls,H',τ,rfl,I',fl,eo⟩
  obtain⟨m,hm,_⟩:=I'.loc
  have J1:aw X Tc σ H' s':=ou (t':=s'.toks) (h':=s'.heap) I3 f3 I' λb o _ e=>e
  have Y0:H' s3.heap.objs.size=none:=I'.free
  have WO:s3.heap.objs.size≠X.env.locals:=λz=>by have:=I3.lt;rw[<-z]at this;exact LI _ this
  refine CW J1 pl fl rfl λh1 J2 f2 up=> ?_
  have Y5:=up.ns hm
  refine⟨m,Y5,λh' Ub=> ?_⟩
  have Yk:∀b o vs,h1.get? b=some o->o.data= .fields vs->b≠s3.heap.objs.size:=λb o vs e1 e2 z=>by
   obtain⟨oC,es,ep,X_,WN,_⟩:=Y5
   subst z
   have a0A:h1.get? (bE X scope s3 H3 fp).env.locals=some o:=e1
   rw[X_]at a0A
   cases a0A
   rw[WN]at e2
   cases e2
  have J3:aw X Tc σ H' {s' with heap:=h'}:=aw.turned (s:={s' with heap:=h1}) (it:=s3.heap.objs.size) (t':=s'.toks) J2 (λb o hb e=>Ub.extBut b o hb e) Y0 WO (.inr I3.sz) (λx c hx z=>by
   obtain⟨v,o,ho,_⟩:=I3.cell x c hx
   have:=Lg ho
   rw[z]at this
   exact LI _ this) (λq hq z=>by
   have:=(I3.pin q hq).1
   have:=Lg this
   rw[z]at this
   exact LI _ this)
  have f3:BR X Tc H' h' a cls (rawInt X.env.locals):=by
   obtain⟨oe,vs,g1,g2,g3,T,g4,t⟩:=f2.at_
   obtain⟨oT,ts,g5,g6,g7⟩:=t.at_
   exact⟨f2.new,oe,vs,Ub.extBut a oe (Yk a oe vs g1 g3) g1,g2,g3,T,g4,t.new,t.ne,oT,ts,Ub.extBut T oT (Yk T oT ts g5 g6) g5,g6,g7⟩
  exact CY (s:={s' with heap:=h'}) J3 pl f3 rfl λh2 J4 f4=>a1H cls H' Tc {s' with heap:=h2} a eo J4 (f4.flo (.inr rfl))
end
end L2
namespace L2.Pu
open PySem PySem.Spec PyProof.Rows
structure cY where
 x:Nat
 C:KZ
 fl:List (L0×Nat)
variable {ly:List cY}
inductive D where
 |non|bl (b:Bool)|int (i:Int)|str (x:L0)|tup (ds:List D)|lst (ds:List D)|dic (kds:List (aL×D))|ins (x:L0) (fs:List (L0×D))|scr (ns:List Int)|exc (x:L0)
mutual
inductive dg (K:KU) (F:Hp):V->D->Prop
 |non:dg K F .non .non
 |bl (b:Bool):dg K F (.bl b) (.bl b)
 |int (i:Int):dg K F (.int i) (.int i)
 |str (x:L0):dg K F (.str x) (.str x)
 |tup {a:KZ} {vs:List V} {ds:List D}:F a=some (.tup vs)->Reps K F vs ds->dg K F (.ref a) (.tup ds)
 |lst {a:KZ} {vs:List V} {ds:List D}:F a=some (.lst vs)->Reps K F vs ds->dg K F (.ref a) (.lst ds)
 |scr {a:KZ} {ns:List Int}:d6 K F a (ns.map V.int)->dg K F (.ref a) (.scr ns)
 |dic {a:KZ} {kvs:List (aL×V)} {kds:List (aL×D)}:F a=some (.dK kvs)->RepK K F kvs kds->(kvs.map (·.1)).Nodup->dg K F (.ref a) (.dic kds)
 |ins {a C dx:KZ} {x:L0} {fs vs:List (L0×V)} {Ud:List (L0×D)}:F a=some (.ins C dx fs)->F dx=some (.own a)->Lz K Lp x=some (some (.ref C))->(∀p∈vs,fs.lookup p.1=some p.2)->(∀f v,fs.lookup f=some v->f∈vs.map (·.1))->RepF K F vs Ud->dg K F (.ref a) (.ins x Ud)
 |exc {a C:KZ} {x:L0}:F a=some (.ext (Ew a (.ref C)))->Lz K Lp x=some (some (.ref C))->dg K F (.ref a) (.exc x)
inductive Reps (K:KU) (F:Hp):List V->List D->Prop
 |nil:Reps K F [] []
 |cons {v:V} {d:D} {vs:List V} {ds:List D}:dg K F v d->Reps K F vs ds->Reps K F (v::vs) (d::ds)
inductive RepK (K:KU) (F:Hp):List (aL×V)->List (aL×D)->Prop
 |nil:RepK K F [] []
 |cons {k:aL} {v:V} {d:D} {vs:List (aL×V)} {ds:List (aL×D)}:dg K F v d->RepK K F vs ds->RepK K F ((k,v)::vs) ((k,d)::ds)
inductive RepF (K:KU) (F:Hp):List (L0×V)->List (L0×D)->Prop
 |nil:RepF K F [] []
 |cons {k:L0} {v:V} {d:D} {vs:List (L0×V)} {ds:List (L0×D)}:dg K F v d->RepF K F vs ds->RepF K F ((k,v)::vs) ((k,d)::ds)
end
theorem lS {K:KU} {F F':Hp} {a:KZ} {xs:List V} (e:aO F F') (h:d6 K F a xs):d6 K F' a xs:=e.seq h
theorem dg.mono {K:KU} {F F':Hp} (e:aO F F') {v:V} {d:D} (h:dg K F v d):dg K F' v d:=
 dg.rec (motive_1:=λv d _=>dg K F' v d) (motive_2:=λv d _=>Reps K F' v d) (motive_3:=λv d _=>RepK K F' v d) (motive_4:=λv d _=>RepF K F' v d) .non .bl .int .str (λh _ r=> .tup (e _ _ h) r) (λh _ r=> .lst (e _ _ h) r) (λh=> .scr (lS e h)) (λh _ n r=> .dic (e _ _ h) r n) (λh h2 n l1 l2 _ r=> .ins (e _ _ h) (e _ _ h2) n l1 l2 r) (λh n=> .exc (e _ _ h) n) .nil (λ_ _ a b=> .cons a b) .nil (λ_ _ a b=> .cons a b) .nil (λ_ _ a b=> .cons a b) h
theorem Reps.mono {K:KU} {F F':Hp} (e:aO F F') {v:List V} {d:List D} (h:Reps K F v d):Reps K F' v d:=
 Reps.rec (motive_1:=λv d _=>dg K F' v d) (motive_2:=λv d _=>Reps K F' v d) (motive_3:=λv d _=>RepK K F' v d) (motive_4:=λv d _=>RepF K F' v d) .non .bl .int .str (λh _ r=> .tup (e _ _ h) r) (λh _ r=> .lst (e _ _ h) r) (λh=> .scr (lS e h)) (λh _ n r=> .dic (e _ _ h) r n) (λh h2 n l1 l2 _ r=> .ins (e _ _ h) (e _ _ h2) n l1 l2 r) (λh n=> .exc (e _ _ h) n) .nil (λ_ _ a b=> .cons a b) .nil (λ_ _ a b=> .cons a b) .nil (λ_ _ a b=> .cons a b) h
theorem RepK.mono {K:KU} {F F':Hp} (e:aO F F') {v:List (aL×V)} {d:List (aL×D)} (h:RepK K F v d):RepK K F' v d:=
 RepK.rec (motive_1:=λv d _=>dg K F' v d) (motive_2:=λv d _=>Reps K F' v d) (motive_3:=λv d _=>RepK K F' v d) (motive_4:=λv d _=>RepF K F' v d) .non .bl .int .str (λh _ r=> .tup (e _ _ h) r) (λh _ r=> .lst (e _ _ h) r) (λh=> .scr (lS e h)) (λh _ n r=> .dic (e _ _ h) r n) (λh h2 n l1 l2 _ r=> .ins (e _ _ h) (e _ _ h2) n l1 l2 r) (λh n=> .exc (e _ _ h) n) .nil (λ_ _ a b=> .cons a b) .nil (λ_ _ a b=> .cons a b) .nil (λ_ _ a b=> .cons a b) h
theorem RepF.mono {K:KU} {F F':Hp} (e:aO F F') {v:List (L0×V)} {d:List (L0×D)} (h:RepF K F v d):RepF K F' v d:=
 RepF.rec (motive_1:=λv d _=>dg K F' v d) (motive_2:=λv d _=>Reps K F' v d) (motive_3:=λv d _=>RepK K F' v d) (motive_4:=λv d _=>RepF K F' v d) .non .bl .int .str (λh _ r=> .tup (e _ _ h) r) (λh _ r=> .lst (e _ _ h) r) (λh=> .scr (lS e h)) (λh _ n r=> .dic (e _ _ h) r n) (λh h2 n l1 l2 _ r=> .ins (e _ _ h) (e _ _ h2) n l1 l2 r) (λh n=> .exc (e _ _ h) n) .nil (λ_ _ a b=> .cons a b) .nil (λ_ _ a b=> .cons a b) .nil (λ_ _ a b=> .cons a b) h
section
variable {K:KU} {F:Hp}
def A9 (K:KU) (F:Hp) (v:V):D->Prop
 | .non=>v= .non
 | .bl b=>v= .bl b
 | .int i=>v= .int i
 | .str x=>v= .str x
 | .tup ds=>∃a vs,v= .ref a/\F a=some (.tup vs)/\Reps K F vs ds
 | .lst ds=>∃a vs,v= .ref a/\F a=some (.lst vs)/\Reps K F vs ds
 | .scr ns=>∃a,v= .ref a/\d6 K F a (ns.map V.int)
 | .dic kds=>∃a kvs,v= .ref a/\F a=some (.dK kvs)/\RepK K F kvs kds/\(kvs.map (·.1)).Nodup
 | .ins x Ud=>∃a C dx fs vs,v= .ref a/\F a=some (.ins C dx fs)/\Lz K Lp x=some (some (.ref C))/\(∀p∈vs,fs.lookup p.1=some p.2)/\(∀f v,fs.lookup f=some v->f∈vs.map (·.1))/\RepF K F vs Ud
 | .exc x=>∃a C,v= .ref a/\F a=some (.ext (Ew a (.ref C)))/\Lz K Lp x=some (some (.ref C))
theorem dg.inv {v:V} {d:D} (h:dg K F v d):A9 K F v d:=by
 cases h with
 |non=>exact rfl
 |bl=>exact rfl
 |int=>exact rfl
 |str=>exact rfl
 |tup h r=>exact⟨_,_,rfl,h,r⟩
 |lst h r=>exact⟨_,_,rfl,h,r⟩
 |scr h=>exact⟨_,rfl,h⟩
 |dic h r n=>exact⟨_,_,rfl,h,r,n⟩
 |ins h1 _ h3 h4 h5 h6=>exact⟨_,_,_,_,_,rfl,h1,h3,h4,h5,h6⟩
 |exc h n=>exact⟨_,_,rfl,h,n⟩
theorem RepK.nilI {vs:List (aL×V)} (h:RepK K F vs []):vs=[]:=by cases h;rfl
theorem RepK.consI {vs:List (aL×V)} {k:aL} {d:D} {ds:List (aL×D)} (h:RepK K F vs ((k,d)::ds)):∃v us,vs=(k,v)::us/\dg K F v d/\RepK K F us ds:=by
 cases h with
 |cons r t=>exact⟨_,_,rfl,r,t⟩
theorem Reps.nilI {vs:List V} (h:Reps K F vs []):vs=[]:=by cases h;rfl
theorem Reps.consI {vs:List V} {d:D} {ds:List D} (h:Reps K F vs (d::ds)):∃v us,vs=v::us/\dg K F v d/\Reps K F us ds:=by
 cases h with
 |cons r t=>exact⟨_,_,rfl,r,t⟩
theorem dg.intI {v:V} {i:Int} (h:dg K F v (.int i)):v= .int i:=h.inv
theorem dg.tupI {v:V} {ds:List D} (h:dg K F v (.tup ds)):∃a vs,v= .ref a/\F a=some (.tup vs)/\Reps K F vs ds:=h.inv
theorem Reps.int1 {vs:List V} {i:Int} (h:Reps K F vs [.int i]):vs=[.int i]:=by
 obtain⟨v,us,rfl,r,t⟩:=h.consI
 rw[t.nilI,r.intI]
theorem Reps.int2 {vs:List V} {i j:Int} (h:Reps K F vs [.int i, .int j]):vs=[.int i, .int j]:=by
 obtain⟨v,us,rfl,r,t⟩:=h.consI
 rw[t.int1,r.intI]
theorem Reps.length:∀{vs:List V} {ds:List D},Reps K F vs ds->vs.length=ds.length:=by
 intro vs ds
 induction ds generalizing vs with
 |nil=>intro h;rw[h.nilI];rfl
 |cons d ds ih=>
  intro h
  obtain⟨v,us,rfl,_,t⟩:=h.consI
  rw[Lm,Lm,ih t]
theorem RepK.length:∀{vs:List (aL×V)} {ds:List (aL×D)},RepK K F vs ds->vs.length=ds.length:=by
 intro vs ds
 induction ds generalizing vs with
 |nil=>intro h;rw[h.nilI];rfl
 |cons d ds ih=>
  intro h
  obtain⟨v,us,rfl,_,t⟩:=RepK.consI (k:=d.1) (d:=d.2) h
  rw[Lm,Lm,ih t]
theorem Reps.append:∀{vs us:List V} {ds es:List D},Reps K F vs ds->Reps K F us es->Reps K F (vs++us) (ds++es):=by
 intro vs us ds
 induction ds generalizing vs with
 |nil=>intro es h g;rw[h.nilI];exact g
 |cons d ds ih=>
  intro es h g
  obtain⟨v,us,rfl,r,t⟩:=h.consI
  exact .cons r (ih t g)
theorem Reps.get:∀{vs:List V} {ds:List D} {i:Nat} {d:D},Reps K F vs ds->ds[i]? =some d->∃v,vs[i]? =some v/\dg K F v d
 |_,_,_,_, .nil,h=>by simp at h
 |_,_,0,_, .cons r t,h=>by simp at h;subst h;exact⟨_,rfl,r⟩
 |_,_,i+1,_, .cons r t,h=>by
  obtain⟨v,h1,h2⟩:=t.get (i:=i) (by simpa using h)
  exact⟨v,by simpa using h1,h2⟩
theorem Reps.get':∀{vs:List V} {ds:List D} {i:Nat} {v:V},Reps K F vs ds->vs[i]? =some v->∃d,ds[i]? =some d/\dg K F v d
 |_,_,_,_, .nil,h=>by simp at h
 |_,_,0,_, .cons r t,h=>by simp at h;subst h;exact⟨_,rfl,r⟩
 |_,_,i+1,_, .cons r t,h=>by
  obtain⟨v,h1,h2⟩:=t.get' (i:=i) (by simpa using h)
  exact⟨v,by simpa using h1,h2⟩
theorem Reps.set:∀{vs:List V} {ds:List D} {v:V} {d:D} (i:Nat),Reps K F vs ds->dg K F v d->Reps K F (vs.set i v) (ds.set i d)
 |_,_,_,_,_, .nil,_=> .nil
 |_,_,_,_,0, .cons r t,h=> .cons h t
 |_,_,_,_,i+1, .cons r t,h=> .cons r (t.set i h)
theorem Reps.eraseIdx:∀{vs:List V} {ds:List D} (i:Nat),Reps K F vs ds->Reps K F (vs.eraseIdx i) (ds.eraseIdx i)
 |_,_,_, .nil=> .nil
 |_,_,0, .cons r t=>t
 |_,_,i+1, .cons r t=> .cons r (t.eraseIdx i)
theorem Reps.drop:∀{vs:List V} {ds:List D} (i:Nat),Reps K F vs ds->Reps K F (vs.drop i) (ds.drop i)
 |_,_,0,h=>h
 |_,_,_+1, .nil=> .nil
 |_,_,i+1, .cons r t=>t.drop i
theorem Reps.take:∀{vs:List V} {ds:List D} (i:Nat),Reps K F vs ds->Reps K F (vs.take i) (ds.take i)
 |_,_,0,h=> .nil
 |_,_,_+1, .nil=> .nil
 |_,_,i+1, .cons r t=> .cons r (t.take i)
theorem Reps.reverse {vs:List V} {ds:List D} (h:Reps K F vs ds):Reps K F vs.reverse ds.reverse:=by
 induction h using Reps.rec (motive_1:=λ_ _ _=>True) (motive_3:=λ_ _ _=>True) (motive_4:=λ_ _ _=>True)with
 |nil=>exact .nil
 |cons r t _ ih=>rw[OA,OA];exact ih.append (.cons r .nil)
 |_=>trivial
end
structure bf (H F H' F':Hp):Prop where
 sub:aO F' H'
 keep:aO H H'
 grow:aO F F'
 new:∀a,F' a≠none->F a≠none\/H a=none
theorem bf.refl {H F:Hp} (h:aO F H):bf H F H F:=⟨h,aO.refl _,aO.refl _,λ_ h=> .inl h⟩
theorem bf.trans {H F H1 F1 H2 F2:Hp} (a:bf H F H1 F1) (b:bf H1 F1 H2 F2):bf H F H2 F2:=
 ⟨b.sub,a.keep.trans b.keep,a.grow.trans b.grow,λx h=>(b.new x h).elim (λq=>a.new x q) λq=> .inr (a.keep.free q)⟩
theorem bM {H:Hp} {p:KZ} {o:HO} (h:H p=none):aO H (a_ H p o):=λb u e=>by
 rw[au (λz=>by rw[z,h]at e;cases e)];exact e
theorem bf.lay {H F:Hp} (s:aO F H) {p:KZ} {o:HO} (h:H p=none):bf H F (a_ H p o) (a_ F p o):=by
 refine⟨λb u e=> ?_,bM h,bM (s.free h),λb e=> ?_⟩
 ·by_cases z:b=p
  ·subst z;rw[aq]at e ⊢;exact e
  ·rw[au z]at e ⊢;exact s b u e
 ·by_cases z:b=p
  ·subst z;exact .inr h
  ·rw[au z]at e;exact .inl e
theorem bf.layOwn {H F:Hp} (s:aO F H) {p:KZ} {o:HO} (h:H p=none):bf H F (a_ H p o) F:=
 ⟨s.trans (bM h),bM h,aO.refl _,λ_ e=> .inl e⟩
inductive Slot where
 |val (d:D)|own (d:D)|bor (d:D)|obj|cel (x:L0) (Tq:List (L0×D)) (f:L0) (hs:List D)
def Slot.data:Slot->D
 | .val d=>d
 | .own d=>d
 | .bor d=>d
 | .obj=> .non
 | .cel .. => .non
def Slot.single:Slot->Bool
 | .obj=>true
 | .cel .. =>true
 |_=>false
abbrev af:=List (Option Slot)
inductive jM (K:KU) (F:Hp):HO->D->Prop
 |lst {vs:List V} {ds:List D}:Reps K F vs ds->jM K F (.lst vs) (.lst ds)
 |dic {kvs:List (aL×V)} {kds:List (aL×D)}:RepK K F kvs kds->(kvs.map (·.1)).Nodup->jM K F (.dK kvs) (.dic kds)
theorem jM.mono {K:KU} {F F':Hp} (e:aO F F') {o:HO} {d:D}:jM K F o d->jM K F' o d
 | .lst r=> .lst (r.mono e)
 | .dic r n=> .dic (r.mono e) n
structure cQ (ly:List cY)where
 H0:Hp
 F0:Hp
 B:Hp
 Er:L0->af->Prop
 oa:Nat->Option KZ:=λ_=>none
 Fm:Hp:=λ_=>none
structure wD (K:KU) (H0 H F:Hp) (a dx b:KZ) (x:L0) (Tq:List (L0×D)) (f:L0) (hs:List D):Prop where
 ex:∃C fs vs us,H a=some (.ins C dx fs)/\Lz K Lp x=some (some (.ref C))/\fs.lookup f=some (.ref b)/\H b=some (.lst us)/\Reps K F us hs/\RepF K F vs Tq/\(∀p∈vs,fs.lookup p.1=some p.2)/\
  (∀g v,fs.lookup g=some v->g=f\/g∈vs.map (·.1))/\(fs.map (·.1)).Nodup/\f∉vs.map (·.1)
 own:H dx=some (.own a)
 fa:F a=none
 fd:F dx=none
 fb:F b=none
 za:H0 a=none
 zd:H0 dx=none
 zb:H0 b=none
theorem bf.out {H F H' F':Hp} (e:bf H F H' F') {a:KZ} {o:HO} (h:H a=some o) (hF:F a=none):F' a=none:=by
 cases q:F' a with
 |none=>rfl
 |some u=>
  rcases e.new a (by rw[q];simp)with z|z
  ·exact absurd hF z
  ·rw[h]at z;cases z
theorem wD.step {K:KU} {H0 H F H' F':Hp} {a dx b:KZ} {x:L0} {Tq:List (L0×D)} {f:L0} {hs:List D} (h:wD K H0 H F a dx b x Tq f hs) (e:bf H F H' F'):wD K H0 H' F' a dx b x Tq f hs:=by
 obtain⟨C,fs,vs,us,h1,h2,h3,h4,h5,h6,h7,h8⟩:=h.ex
 exact⟨⟨C,fs,vs,us,e.keep _ _ h1,h2,h3,e.keep _ _ h4,h5.mono e.grow,h6.mono e.grow,h7,h8⟩,e.keep _ _ h.own,e.out h1 h.fa,e.out h.own h.fd,e.out h4 h.fb,h.za,h.zd,h.zb⟩
structure lT (K:KU) (H0:Hp) (ρ:af) (σ:St) (H F:Hp):Prop where
 ex:∀(i:Nat) x Tq f hs,ρ[i]? =some (some (.cel x Tq f hs))->∃a dx b,σ[i]? =some (some (.ref a))/\wD K H0 H F a dx b x Tq f hs/\∀(j:Nat) d,ρ[j]? =some (some (.own d))->σ[j]? ≠some (some (.ref b))
 one:∀(i j:Nat) x Tq f hs s,ρ[i]? =some (some (.cel x Tq f hs))->ρ[j]? =some (some s)->s.single=true->i=j
theorem lT.no {K:KU} {H0:Hp} {ρ:af} {σ:St} {H F:Hp} (h:∀(i:Nat) x Tq f hs,ρ[i]? ≠some (some (.cel x Tq f hs))):lT K H0 ρ σ H F:=⟨λi x Tq f hs e=>absurd e (h i x Tq f hs),λi j x Tq f hs s e=>absurd e (h i x Tq f hs)⟩
theorem lT.step {K:KU} {H0 H F H' F':Hp} {ρ:af} {σ:St} (h:lT K H0 ρ σ H F) (e:bf H F H' F'):lT K H0 ρ σ H' F':=
 ⟨λi x Tq f hs q=>by obtain⟨a,dx,b,h1,h2,h3⟩:=h.ex i x Tq f hs q;exact⟨a,dx,b,h1,h2.step e,h3⟩,h.one⟩
structure RI (K:KU) (c:cQ ly) (ρ:af) (σ:St) (H F:Hp):Prop where
 ext:bf c.H0 c.F0 H F
 val:∀(i:Nat) d,ρ[i]? =some (some (.val d))->∃v,σ[i]? =some (some v)/\dg K F v d
 own:∀(i:Nat) d,ρ[i]? =some (some (.own d))->∃a o,σ[i]? =some (some (.ref a))/\H a=some o/\F a=none/\c.H0 a=none/\jM K F o d
 bor:∀(i:Nat) d,ρ[i]? =some (some (.bor d))->∃a o,σ[i]? =some (some (.ref a))/\c.B a=some o/\jM K c.F0 o d
 bh:aO c.B c.H0
 dis:∀(i j:Nat) d d' a,ρ[i]? =some (some (.own d))->ρ[j]? =some (some (.own d'))->σ[i]? =some (some (.ref a))->σ[j]? =some (some (.ref a))->i=j
 len:ρ.length=σ.length
 obj:∀L∈ly,ρ[L.x]? =some (some .obj)->∃a dx fs,(∀b,c.oa L.x=some b->a=b)/\σ[L.x]? =some (some (.ref a))/\H a=some (.ins L.C dx fs)/\H dx=some (.own a)/\F a=none/\F dx=none/\c.H0 a=none/\c.H0 dx=none/\
  (∀p∈L.fl,fs.lookup p.1=(σ[p.2]?).join)/\(∀f v,fs.lookup f=some v->f∈L.fl.map (·.1))/\(fs.map (·.1)).Nodup
 odis:∀L∈ly,∀L'∈ly,ρ[L.x]? =some (some .obj)->ρ[L'.x]? =some (some .obj)->∀a,σ[L.x]? =some (some (.ref a))->σ[L'.x]? =some (some (.ref a))->L=L'
 fm:aO c.Fm F
 cel:lT K c.H0 ρ σ H F
 pin:∀L∈ly,∀a,c.oa L.x=some a->σ[L.x]? =some (some (.ref a))
def jN (ly:List cY) (i:Nat):Prop:=∀L∈ly,L.x≠i/\∀p∈L.fl,p.2≠i
theorem cp {i:Nat}:jN [] i:=λL h=>by cases h
section
variable {K:KU} {c:cQ ly} {ρ:af} {σ:St} {H F H' F':Hp}
theorem RI.step (r:RI K c ρ σ H F) (e:bf H F H' F'):RI K c ρ σ H' F' where
 cel:=r.cel.step e
 pin:=r.pin
 obj:=λL hL hρ=>by
  obtain⟨a,dx,fs,h0,h1,h2,h3,h4,h5,h6,h7,h8⟩:=r.obj L hL hρ
  exact⟨a,dx,fs,h0,h1,e.keep _ _ h2,e.keep _ _ h3,e.out h2 h4,e.out h3 h5,h6,h7,h8⟩
 odis:=r.odis
 fm:=r.fm.trans e.grow
 ext:=r.ext.trans e
 val:=λi d h=>by obtain⟨v,h1,h2⟩:=r.val i d h;exact⟨v,h1,h2.mono e.grow⟩
 own:=λi d h=>by
  obtain⟨a,o,h1,h2,h3,h4,h5⟩:=r.own i d h
  refine⟨a,o,h1,e.keep _ _ h2,?_,h4,h5.mono e.grow⟩
  cases q:F' a with
  |none=>rfl
  |some u=>
   rcases e.new a (by rw[q];simp)with z|z
   ·exact absurd h3 z
   ·rw[h2]at z;cases z
 bor:=r.bor
 bh:=r.bh
 dis:=r.dis
 len:=r.len
theorem RI.sub (r:RI K c ρ σ H F):aO F H:=r.ext.sub
theorem aD {α:Type} {l:List α} {i j:Nat} {a b:α} (h:(l.set i a)[j]? =some b):(i=j/\a=b/\i<l.length)\/(i≠j/\l[j]? =some b):=by
 rw[NR]at h
 by_cases e:i=j
 ·rw[if_pos e]at h
  split at h
  ·cases h;exact .inl ⟨e,rfl,by assumption⟩
  ·cases h
 ·rw[if_neg e]at h;exact .inr ⟨e,h⟩
theorem kJ {α:Type} {l:List α} {i:Nat} {a:α} (h:i<l.length):(l.set i a)[i]? =some a:=by
 rw[NR,if_pos rfl,if_pos h]
theorem ar {α:Type} {l:List α} {i j:Nat} {a:α} (h:i≠j):(l.set i a)[j]? =l[j]? :=by
 rw[NR,if_neg h]
theorem lT.set {K:KU} {H0:Hp} {ρ:af} {σ:St} {H F:Hp} (h:lT K H0 ρ σ H F) (i:Nat) {s:Option Slot} {v:Option V} (hn:∀s',s=some s'->s'.single=false)
  (ho:∀d,s=some (.own d)->∀(j:Nat) x Tq f hs a C dx fs b,ρ[j]? =some (some (.cel x Tq f hs))->σ[j]? =some (some (.ref a))->H a=some (.ins C dx fs)->fs.lookup f=some (.ref b)->v≠some (.ref b)):lT K H0 (ρ.set i s) (σ.set i v) H F:=by
 refine⟨λj x Tq f hs q=> ?_,λj k x Tq f hs s' q q2 Ub=> ?_⟩
 ·rcases aD q with ⟨_,z,_⟩|⟨z,q⟩
  ·have:=hn _ z;cases this
  ·obtain⟨a,dx,b,h1,h2,h3⟩:=h.ex j x Tq f hs q
   refine⟨a,dx,b,by rw[ar z];exact h1,h2,λk d w=> ?_⟩
   rcases aD w with ⟨rfl,z',l⟩|⟨z',w⟩
   ·obtain⟨C,fs,vs,us,g1,g2,g3,_⟩:=h2.ex
    intro e
    rw[NR]at e
    split at e
    ·split at e
     ·exact ho d z' j x Tq f hs a C dx fs b q h1 g1 g3 (by simpa using e)
     ·cases e
    ·rename_i ne;exact absurd rfl ne
   ·rw[ar z'];exact h3 k d w
 ·rcases aD q with ⟨_,z,_⟩|⟨z,q⟩
  ·have:=hn _ z;cases this
  ·rcases aD q2 with ⟨_,z',_⟩|⟨z',q2⟩
   ·have:=hn _ z';rw[Ub]at this;cases this
   ·exact h.one j k x Tq f hs s' q q2 Ub
theorem RI.setVal (r:RI K c ρ σ H F) (i:Nat) {v:V} {d:D} (hf:jN ly i) (h:dg K F v d):RI K c (ρ.set i (some (.val d))) (σ.set i (some v)) H F where
 cel:=r.cel.set i (λs' e=>by cases e;rfl) (λd e=>by cases e)
 pin:=λL hL a h=>by rw[ar (hf L hL).1.symm];exact r.pin L hL a h
 obj:=λL hL hρ=>by
  rw[ar (hf L hL).1.symm]at hρ
  obtain⟨a,dx,fs,h0,h1,h2,h3,h4,h5,h6,h7,h8,h9⟩:=r.obj L hL hρ
  refine⟨a,dx,fs,h0,by rw[ar (hf L hL).1.symm];exact h1,h2,h3,h4,h5,h6,h7,λp hp=> ?_,h9⟩
  rw[ar ((hf L hL).2 p hp).symm];exact h8 p hp
 odis:=λL hL L' VZ q1 q2 a k1 k2=>by
  rw[ar (hf L hL).1.symm]at k1 q1
  rw[ar (hf L' VZ).1.symm]at k2 q2
  exact r.odis L hL L' VZ q1 q2 a k1 k2
 fm:=r.fm
 ext:=r.ext
 val:=λj e q=>by
  rcases aD q with ⟨rfl,z,l⟩|⟨z,q⟩
  ·cases z;exact⟨v,kJ (by rw[<-r.len];exact l),h⟩
  ·rw[ar z];exact r.val j e q
 own:=λj e q=>by
  rcases aD q with ⟨rfl,z,l⟩|⟨z,q⟩
  ·cases z
  ·rw[ar z];exact r.own j e q
 bor:=λj e q=>by
  rcases aD q with ⟨rfl,z,l⟩|⟨z,q⟩
  ·cases z
  ·rw[ar z];exact r.bor j e q
 bh:=r.bh
 dis:=λj k e e' a q1 q2 q3 q4=>by
  rcases aD q1 with ⟨rfl,z,l⟩|⟨z,q1⟩
  ·cases z
  ·rcases aD q2 with ⟨rfl,z',l⟩|⟨z',q2⟩
   ·cases z'
   ·rw[ar z]at q3;rw[ar z']at q4
    exact r.dis j k e e' a q1 q2 q3 q4
 len:=by simp[r.len]
theorem RI.setOwn (r:RI K c ρ σ H F) (i:Nat) {a:KZ} {o:HO} {d:D} (hf:jN ly i) (h:H a=some o) (hF:F a=none) (h0:c.H0 a=none) (q:jM K F o d)
  (ne:∀(j:Nat) d',j≠i->ρ[j]? =some (some (.own d'))->σ[j]? ≠some (some (.ref a)))
  (nb:∀(j:Nat) x Tq f hs a' C dx fs,ρ[j]? =some (some (.cel x Tq f hs))->σ[j]? =some (some (.ref a'))->H a'=some (.ins C dx fs)->fs.lookup f≠some (.ref a)):RI K c (ρ.set i (some (.own d))) (σ.set i (some (.ref a))) H F where
 cel:=r.cel.set i (λs' e=>by cases e;rfl) (λd e j x Tq f hs a' C dx fs b q1 q2 q3 q4 z=>by cases z;exact nb j x Tq f hs a' C dx fs q1 q2 q3 q4)
 pin:=λL hL b h=>by rw[ar (hf L hL).1.symm];exact r.pin L hL b h
 obj:=λL hL hρ=>by
  rw[ar (hf L hL).1.symm]at hρ
  obtain⟨b,dx,fs,h0,h1,h2,h3,h4,h5,h6,h7,h8,h9⟩:=r.obj L hL hρ
  refine⟨b,dx,fs,h0,by rw[ar (hf L hL).1.symm];exact h1,h2,h3,h4,h5,h6,h7,λp hp=> ?_,h9⟩
  rw[ar ((hf L hL).2 p hp).symm];exact h8 p hp
 odis:=λL hL L' VZ q1 q2 b k1 k2=>by
  rw[ar (hf L hL).1.symm]at k1 q1
  rw[ar (hf L' VZ).1.symm]at k2 q2
  exact r.odis L hL L' VZ q1 q2 b k1 k2
 fm:=r.fm
 ext:=r.ext
 val:=λj e q=>by
  rcases aD q with ⟨rfl,z,l⟩|⟨z,q⟩
  ·cases z
  ·rw[ar z];exact r.val j e q
 own:=λj e q'=>by
  rcases aD q' with ⟨rfl,z,l⟩|⟨z,q'⟩
  ·cases z;exact⟨a,o,kJ (by rw[<-r.len];exact l),h,hF,h0,q⟩
  ·rw[ar z];exact r.own j e q'
 bor:=λj e q=>by
  rcases aD q with ⟨rfl,z,l⟩|⟨z,q⟩
  ·cases z
  ·rw[ar z];exact r.bor j e q
 bh:=r.bh
 dis:=λj k e e' b q1 q2 q3 q4=>by
  rcases aD q1 with ⟨rfl,z,l⟩|⟨z,q1⟩
  ·rw[kJ (by rw[<-r.len];exact l)]at q3
   cases q3
   rcases aD q2 with ⟨rfl,z',l⟩|⟨z',q2⟩
   ·rfl
   ·rw[ar z']at q4
    exact absurd q4 (ne k e' (MG z') q2)
  ·rw[ar z]at q3
   rcases aD q2 with ⟨rfl,z',l⟩|⟨z',q2⟩
   ·rw[kJ (by rw[<-r.len];exact l)]at q4
    cases q4
    exact absurd q3 (ne j e (MG z) q1)
   ·rw[ar z']at q4
    exact r.dis j k e e' b q1 q2 q3 q4
 len:=by simp[r.len]
theorem RI.celNe (r:RI K c ρ σ H F) {H2:Hp} (k:aO H H2) {p:KZ} (hp:H p=none):∀(j:Nat) x Tq f hs a' C dx fs,ρ[j]? =some (some (.cel x Tq f hs))->σ[j]? =some (some (.ref a'))->H2 a'=some (.ins C dx fs)->fs.lookup f≠some (.ref p):=λj x Tq f hs a' C dx fs q1 q2 q3 q4=>by
 obtain⟨a,a3l,b,h1,h2,_⟩:=r.cel.ex j x Tq f hs q1
 rw[q2]at h1
 cases h1
 obtain⟨C0,a3m,vs,us,g1,g2,g3,g4,_⟩:=h2.ex
 rw[k _ _ g1]at q3
 cases q3
 rw[g3]at q4
 cases q4
 rw[hp]at g4
 cases g4
theorem RI.setNew (r:RI K c ρ σ H F) (i:Nat) {a:KZ} {o:HO} {d:D} (hf:jN ly i) (h:H a=none) (q:jM K F o d):RI K c (ρ.set i (some (.own d))) (σ.set i (some (.ref a))) (a_ H a o) F:=by
 have r':=r.step (bf.layOwn r.sub (o:=o) h)
 refine r'.setOwn i hf aq (r.sub.free h) (r.ext.keep.free h) q (λj d' _ hj e=> ?_) (r.celNe (bM h) h)
 obtain⟨b,o',h1,h2,_⟩:=r.own j d' hj
 rw[e]at h1
 cases h1
 rw[h]at h2
 cases h2
theorem RI.change (r:RI K c ρ σ H F) {i:Nat} {a:KZ} {o o':HO} {d d':D} (hi:ρ[i]? =some (some (.own d))) (hs:σ[i]? =some (some (.ref a))) (q:jM K F o' d'):
  RI K c (ρ.set i (some (.own d'))) σ (a_ H a o') F:=by
 obtain⟨b,u,h1,h2,h3,h4,h5⟩:=r.own i d hi
 rw[hs]at h1
 cases h1
 refine⟨⟨λx y e=> ?_,λx y e=> ?_,r.ext.grow,r.ext.new⟩,λj e w=> ?_,λj e w=> ?_,λj e w=> ?_,r.bh,λj k e e' x q1 q2 q3 q4=> ?_,by simp[r.len],λL hL hρ=> ?_,λL hL L' VZ q1 q2=> ?_,r.fm,⟨λj x Tq f hs w=> ?_,λj k x Tq f hs s w w2 Ub=> ?_⟩,r.pin⟩
 ·rw[au (λz=>by rw[z,h3]at e;cases e)];exact r.sub x y e
 ·rw[au (λz=>by rw[z,h4]at e;cases e)];exact r.ext.keep x y e
 ·rcases aD w with ⟨rfl,z,l⟩|⟨z,w⟩
  ·cases z
  ·exact r.val j e w
 ·rcases aD w with ⟨rfl,z,l⟩|⟨z,w⟩
  ·cases z;exact⟨a,o',hs,aq,h3,h4,q⟩
  ·obtain⟨x,y,k1,k2,k3,k4,k5⟩:=r.own j e w
   refine⟨x,y,k1,?_,k3,k4,k5⟩
   rw[au (λzz=>by subst zz;exact z (r.dis i j d e x hi w hs k1))]
   exact k2
 ·rcases aD w with ⟨rfl,z,l⟩|⟨z,w⟩
  ·cases z
  ·exact r.bor j e w
 ·have own_of:∀{l:Nat} {x:D},(ρ.set i (some (.own d')))[l]? =some (some (.own x))->∃y,ρ[l]? =some (some (.own y)):=λ{l x} w=>by
   rcases aD w with ⟨rfl,z,_⟩|⟨z,w⟩
   ·exact⟨d,hi⟩
   ·exact⟨x,w⟩
  obtain⟨y1,w1⟩:=own_of q1
  obtain⟨y2,w2⟩:=own_of q2
  exact r.dis j k y1 y2 x w1 w2 q3 q4
 ·have ZJ:ρ[L.x]? =some (some .obj):=by
   rcases aD hρ with ⟨_,z,_⟩|⟨_,w⟩
   ·cases z
   ·exact w
  obtain⟨b,dx,fs,k0,k1,k2,k3,k4⟩:=r.obj L hL ZJ
  have n1:b≠a:=λz=>by subst z;rw[k2]at h2;cases h2;cases h5
  have n2:dx≠a:=λz=>by subst z;rw[k3]at h2;cases h2;cases h5
  exact⟨b,dx,fs,k0,k1,by rw[au n1];exact k2,by rw[au n2];exact k3,k4⟩
 ·refine r.odis L hL L' VZ ?_ ?_
  ·rcases aD q1 with ⟨_,z,_⟩|⟨_,w⟩
   ·cases z
   ·exact w
  ·rcases aD q2 with ⟨_,z,_⟩|⟨_,w⟩
   ·cases z
   ·exact w
 ·rcases aD w with ⟨rfl,z,l⟩|⟨z,w⟩
  ·cases z
  ·obtain⟨b,dx,bb,k1,k2,k3⟩:=r.cel.ex j x Tq f hs w
   obtain⟨C,fs,vs,us,g1,g2,g3,g4,g5⟩:=k2.ex
   have n1:b≠a:=λz=>by subst z;rw[g1]at h2;cases h2;cases h5
   have n2:dx≠a:=λz=>by subst z;rw[k2.own]at h2;cases h2;cases h5
   have n3:bb≠a:=λz=>by subst z;exact k3 i d hi hs
   refine⟨b,dx,bb,k1,⟨⟨C,fs,vs,us,by rw[au n1];exact g1,g2,g3,by rw[au n3];exact g4,g5⟩,by rw[au n2];exact k2.own,k2.fa,k2.fd,k2.fb,k2.za,k2.zd,k2.zb⟩,λk e w2=> ?_⟩
   rcases aD w2 with ⟨rfl,z',l⟩|⟨z',w2⟩
   ·exact k3 i d hi
   ·exact k3 k e w2
 ·rcases aD w with ⟨rfl,z,l⟩|⟨z,w⟩
  ·cases z
  ·rcases aD w2 with ⟨rfl,z',l⟩|⟨z',w2⟩
   ·cases z';cases Ub
   ·exact r.cel.one j k x Tq f hs s w w2 Ub
end
def frz1 (i:Nat) (ρ:af):af:=match ρ[i]? with
 |some (some (.own d))=>ρ.set i (some (.val d))
 |_=>ρ
def frz (L:List Nat) (ρ:af):af:=L.foldl (λr i=>frz1 i r) ρ
theorem RI.frz1 {K:KU} {c:cQ ly} {ρ:af} {σ:St} {H F:Hp} (r:RI K c ρ σ H F) (i:Nat):∃F',aO F F'/\RI K c (frz1 i ρ) σ H F':=by
 unfold L2.Pu.frz1
 split
 ·rename_i d hi
  obtain⟨a,o,h1,h2,h3,h4,h5⟩:=r.own i d hi
  have g:aO F (a_ F a o):=bM h3
  refine⟨a_ F a o,g,⟨⟨λb u e=> ?_,r.ext.keep,r.ext.grow.trans g,λb e=> ?_⟩,λj e w=> ?_,λj e w=> ?_,λj e w=> ?_,r.bh,λj k e e' x q1 q2 q3 q4=> ?_,by simp[r.len],λL hL hρ=> ?_,λL hL L' VZ q1 q2=> ?_,r.fm.trans g,⟨λj x Tq f hs w=> ?_,λj k x Tq f hs s w w2 Ub=> ?_⟩,r.pin⟩⟩
  ·by_cases z:b=a
   ·subst z;rw[aq]at e;rw[h2];exact e
   ·rw[au z]at e;exact r.sub b u e
  ·by_cases z:b=a
   ·subst z;exact .inr h4
   ·rw[au z]at e;exact r.ext.new b e
  ·rcases aD w with ⟨rfl,z,l⟩|⟨z,w⟩
   ·cases z
    refine⟨.ref a,h1,?_⟩
    cases h5 with
    |lst q=>exact .lst aq (q.mono g)
    |dic q n=>exact .dic aq (q.mono g) n
   ·obtain⟨v,k1,k2⟩:=r.val j e w;exact⟨v,k1,k2.mono g⟩
  ·rcases aD w with ⟨rfl,z,l⟩|⟨z,w⟩
   ·cases z
   ·obtain⟨x,y,k1,k2,k3,k4,k5⟩:=r.own j e w
    refine⟨x,y,k1,k2,?_,k4,k5.mono g⟩
    rw[au (λzz=>by subst zz;exact z (r.dis i j d e x hi w h1 k1))]
    exact k3
  ·rcases aD w with ⟨rfl,z,l⟩|⟨z,w⟩
   ·cases z
   ·exact r.bor j e w
  ·rcases aD q1 with ⟨rfl,z,l⟩|⟨z,q1⟩
   ·cases z
   ·rcases aD q2 with ⟨rfl,z',l⟩|⟨z',q2⟩
    ·cases z'
    ·exact r.dis j k e e' x q1 q2 q3 q4
  ·have ZJ:ρ[L.x]? =some (some .obj):=by
    rcases aD hρ with ⟨_,z,_⟩|⟨_,w⟩
    ·cases z
    ·exact w
   obtain⟨b,dx,fs,k0,k1,k2,k3,k4,k5,k6⟩:=r.obj L hL ZJ
   have n1:b≠a:=λz=>by subst z;rw[k2]at h2;cases h2;cases h5
   have n2:dx≠a:=λz=>by subst z;rw[k3]at h2;cases h2;cases h5
   exact⟨b,dx,fs,k0,k1,k2,k3,by rw[au n1];exact k4,by rw[au n2];exact k5,k6⟩
  ·refine r.odis L hL L' VZ ?_ ?_
   ·rcases aD q1 with ⟨_,z,_⟩|⟨_,w⟩
    ·cases z
    ·exact w
   ·rcases aD q2 with ⟨_,z,_⟩|⟨_,w⟩
    ·cases z
    ·exact w
  ·rcases aD w with ⟨rfl,z,l⟩|⟨z,w⟩
   ·cases z
   ·obtain⟨b,dx,bb,k1,k2,k3⟩:=r.cel.ex j x Tq f hs w
    obtain⟨C,fs,vs,us,g1,g2,g3,g4,g5,g6,g7⟩:=k2.ex
    have n1:b≠a:=λz=>by subst z;rw[g1]at h2;cases h2;cases h5
    have n2:dx≠a:=λz=>by subst z;rw[k2.own]at h2;cases h2;cases h5
    have n3:bb≠a:=λz=>by subst z;exact k3 i d hi h1
    refine⟨b,dx,bb,k1,⟨⟨C,fs,vs,us,g1,g2,g3,g4,g5.mono g,g6.mono g,g7⟩,k2.own,by rw[au n1];exact k2.fa,by rw[au n2];exact k2.fd,by rw[au n3];exact k2.fb,k2.za,k2.zd,k2.zb⟩,λk e w2=> ?_⟩
    rcases aD w2 with ⟨rfl,z',l⟩|⟨z',w2⟩
    ·cases z'
    ·exact k3 k e w2
  ·rcases aD w with ⟨rfl,z,l⟩|⟨z,w⟩
   ·cases z
   ·rcases aD w2 with ⟨rfl,z',l⟩|⟨z',w2⟩
    ·cases z';cases Ub
    ·exact r.cel.one j k x Tq f hs s w w2 Ub
 ·exact⟨F,aO.refl _,r⟩
theorem RI.frz {K:KU} {c:cQ ly} {σ:St} {H:Hp}:∀(L:List Nat) {ρ:af} {F:Hp},RI K c ρ σ H F->∃F',aO F F'/\RI K c (frz L ρ) σ H F'
 |[],ρ,F,r=>⟨F,aO.refl _,r⟩
 |i::L,ρ,F,r=>by
  obtain⟨F1,g1,r1⟩:=r.frz1 i
  obtain⟨F2,g2,r2⟩:=RI.frz L r1
  exact⟨F2,g1.trans g2,r2⟩
end L2.Pu
namespace L2.Pu
open PySem PySem.Spec PyProof.Rows
variable {ly:List cY}
inductive R (α:Type)where
 |ok (a:α)|err (c:L0) (ρ:af)|bad
def R.bind {α β:Type}:R α->(α->R β)->R β
 | .ok a,f=>f a
 | .err c ρ,_=> .err c ρ
 | .bad,_=> .bad
instance:Monad R where
 pure:=R.ok
 bind:=R.bind
@[simp] theorem aj {α β:Type} (a:α) (f:α->R β):(R.ok a>>=f)=f a:=rfl
@[simp] theorem HY {α β:Type} (c:L0) (ρ:af) (f:α->R β):(R.err c ρ>>=f)=R.err c ρ:=rfl
@[simp] theorem HZ {α β:Type} (f:α->R β):(R.bad>>=f)=R.bad:=rfl
@[simp] theorem Je {α:Type} (a:α):(pure a:R α)=R.ok a:=rfl
def R.of {α:Type}:Option α->R α
 |some a=> .ok a
 |none=> .bad
@[simp] theorem bH {α:Type} (a:α):R.of (some a)= .ok a:=rfl
@[simp] theorem Jf {α:Type}:R.of (none:Option α)= .bad:=rfl
def aB {α:Type} (c:cQ ly) (r:R α) (P:α->Prop):Prop:=match r with
 | .ok a=>P a
 | .err e ρ=>c.Er e ρ
 | .bad=>False
theorem aB.imp {α:Type} {c:cQ ly} {r:R α} {P P':α->Prop} (h:aB c r P) (w:∀a,r= .ok a->P a->P' a):aB c r P':=by
 cases r with
 |ok a=>exact w a rfl h
 |err e ρ=>exact h
 |bad=>exact h
theorem aB.bind {α β:Type} {c:cQ ly} {r:R α} {f:α->R β} {P:β->Prop}:aB c (r>>=f) P<->aB c r λa=>aB c (f a) P:=by
 cases r<;>exact Iff.rfl
theorem aB.of {α:Type} {c:cQ ly} {r:Option α} {P:α->Prop} (h:aB c (R.of r) P):∃a,r=some a/\P a:=by
 cases r with
 |none=>exact h.elim
 |some a=>exact⟨a,rfl,h⟩
def c9 (K:KU) (H F:Hp) (v:V) (d:D):Prop:=dg K F v d\/∃a o,v= .ref a/\H a=some o/\jM K F o d
theorem c9.mono {K:KU} {H F H' F':Hp} {v:V} {d:D} (e:bf H F H' F'):c9 K H F v d->c9 K H' F' v d
 | .inl r=> .inl (r.mono e.grow)
 | .inr ⟨a,o,h1,h2,h3⟩=> .inr ⟨a,o,h1,e.keep _ _ h2,h3.mono e.grow⟩
theorem c9.lst {K:KU} {H F:Hp} {v:V} {ds:List D} (s:aO F H) (h:c9 K H F v (.lst ds)):∃a vs,v= .ref a/\H a=some (.lst vs)/\Reps K F vs ds:=by
 rcases h with h|⟨a,o,h1,h2,q⟩
 ·obtain⟨a,vs,e,h,r⟩:=h.inv
  exact⟨a,vs,e,s _ _ h,r⟩
 ·cases q with
  |lst r=>exact⟨_,_,h1,h2,r⟩
theorem c9.dic {K:KU} {H F:Hp} {v:V} {ds:List (aL×D)} (s:aO F H) (h:c9 K H F v (.dic ds)):∃a vs,v= .ref a/\H a=some (.dK vs)/\RepK K F vs ds/\(vs.map (·.1)).Nodup:=by
 rcases h with h|⟨a,o,h1,h2,q⟩
 ·obtain⟨a,vs,e,h,r⟩:=h.inv
  exact⟨a,vs,e,s _ _ h,r⟩
 ·cases q with
  |dic r n=>exact⟨_,_,h1,h2,r,n⟩
def KE:D->Bool
 | .lst _=>true
 | .dic _=>true
 |_=>false
theorem c9.in {K:KU} {H F:Hp} {v:V} {d:D} (h:c9 K H F v d) (n:KE d=false):A9 K F v d:=by
 rcases h with h|⟨a,o,h1,h2,q⟩
 ·exact h.inv
 ·cases q<;>cases n
theorem c9.tup {K:KU} {H F:Hp} {v:V} {ds:List D} (s:aO F H) (h:c9 K H F v (.tup ds)):∃a vs,v= .ref a/\H a=some (.tup vs)/\Reps K F vs ds:=by
 obtain⟨a,vs,e,h,r⟩:=h.in rfl
 exact⟨a,vs,e,s _ _ h,r⟩
theorem c9.scr {K:KU} {H F:Hp} {v:V} {ns:List Int} (s:aO F H) (h:c9 K H F v (.scr ns)):∃a,v= .ref a/\d6 K H a (ns.map V.int):=by
 obtain⟨a,e,h⟩:=h.in rfl
 exact⟨a,e,s.seq h⟩
theorem c9.int {K:KU} {H F:Hp} {v:V} {i:Int} (h:c9 K H F v (.int i)):v= .int i:=h.in rfl
theorem c9.bl {K:KU} {H F:Hp} {v:V} {i:Bool} (h:c9 K H F v (.bl i)):v= .bl i:=h.in rfl
theorem c9.str {K:KU} {H F:Hp} {v:V} {i:L0} (h:c9 K H F v (.str i)):v= .str i:=h.in rfl
theorem c9.non {K:KU} {H F:Hp} {v:V} (h:c9 K H F v .non):v= .non:=h.in rfl
inductive jO (K:KU) (H F:Hp):List V->List D->Prop
 |nil:jO K H F [] []
 |cons {v:V} {d:D} {vs:List V} {ds:List D}:c9 K H F v d->jO K H F vs ds->jO K H F (v::vs) (d::ds)
def fc (K:KU) (x:L0) (cls:KW):Prop:=∃C,cls= .ref C/\Lz K Lp x=some (some (.ref C))
def G_ (X:Cx) (c:cQ ly) (σ:St):XK:=λcls _ H'=>∃x ρ F',fc X.K x cls/\RI X.K c ρ σ H' F'/\c.Er x ρ
def H9 (X:Cx) (c:cQ ly):Prop:=(fE X/\∀Tc σ ρ H F s a cls x,aw X Tc σ H s->RI X.K c ρ σ H F->Fl X Tc H s.heap a cls->fc X.K x cls->c.Er x ρ->X.xe (.ref a) s)\/(∀x ρ,¬c.Er x ρ)\/(X.stack=X.outer/\jF (og X.prog X.w) X (G_ X c))
abbrev eA (ly:List cY) (X:Cx):Type:={c:cQ ly // H9 X c}
theorem H9.no {X:Cx} {c:cQ ly} (h:∀x ρ,¬c.Er x ρ):H9 X c:= .inr (.inl h)
theorem wF {X:Cx} (c:eA ly X):jF (og X.prog X.w) X (G_ X c.1):=λTc σ H s e s' I h=>by
 rcases c.2 with ⟨hp,X6⟩|no|⟨_,ps⟩
 ·obtain⟨a,cls,H',rfl,I',fl,x,ρ,F',ec,ri,er⟩:=FT I hp h
  exact X6 Tc σ ρ H' F' s' a cls x I' ri fl ec er
 ·obtain⟨a,cls,H',_,_,_,_,_,_,x,ρ,F',ec,ri,er⟩:=h
  exact absurd er (no x ρ)
 ·exact ps Tc σ H s e s' I h
theorem H9.plain {X:Cx} {c:cQ ly} (h:H9 X c) (Tz:X.stack=X.env::X.outer):(fE X/\∀Tc σ ρ H F s a cls x,aw X Tc σ H s->RI X.K c ρ σ H F->Fl X Tc H s.heap a cls->fc X.K x cls->c.Er x ρ->X.xe (.ref a) s)\/∀x ρ,¬c.Er x ρ:=by
 rcases h with h|h|⟨h,_⟩
 ·exact .inl h
 ·exact .inr h
 ·rw[h]at Tz
  have:=congrArg Nt Tz
  simp at this
def tQ (K:KU) (c:cQ ly) (f:af->R D):TE:=λσ H Q=>∃F ρ,RI K c ρ σ H F/\aB c (f ρ) λd=>∀v H' F',bf H F H' F'->dg K F' v d->Q v H'
def tB' (K:KU) (c:cQ ly) (f:af->R D):TE:=λσ H Q=>∃F ρ,RI K c ρ σ H F/\aB c (f ρ) λd=>∀v H' F',bf H F H' F'->c9 K H' F' v d->Q v H'
def tT (K:KU) (c:cQ ly) (f:af->R Bool):TT:=λσ H Q=>∃F ρ,RI K c ρ σ H F/\aB c (f ρ) λb=>∀H' F',bf H F H' F'->Q b H'
def H_ (K:KU) (c:cQ ly) (f:af->R (List D)):TA:=λσ H Q=>∃F ρ,RI K c ρ σ H F/\aB c (f ρ) λds=>∀vs H' F',bf H F H' F'->Reps K F' vs ds->Q vs H'
def FX (K:KU) (c:cQ ly) (f:af->R (List D)):TA:=λσ H Q=>∃F ρ,RI K c ρ σ H F/\aB c (f ρ) λds=>∀vs H' F',bf H F H' F'->jO K H' F' vs ds->Q vs H'
structure PQ (ly:List cY) (X:Cx) (e:La) (f:af->R D):Prop where
 ap:∀c:eA ly X,PE X e (tQ X.K c.1 f)
instance {ly:List cY} {X:Cx} {e:La} {f:af->R D}:CoeFun (PQ ly X e f) λ_=>∀c:eA ly X,PE X e (tQ X.K c.1 f):=⟨PQ.ap⟩
structure PB (ly:List cY) (X:Cx) (e:La) (f:af->R D):Prop where
 ap:∀c:eA ly X,PE X e (tB' X.K c.1 f)
instance {ly:List cY} {X:Cx} {e:La} {f:af->R D}:CoeFun (PB ly X e f) λ_=>∀c:eA ly X,PE X e (tB' X.K c.1 f):=⟨PB.ap⟩
structure lK (ly:List cY) (X:Cx) (e:La) (f:af->R Bool):Prop where
 ap:∀c:eA ly X,PT X e (tT X.K c.1 f)
instance {ly:List cY} {X:Cx} {e:La} {f:af->R Bool}:CoeFun (lK ly X e f) λ_=>∀c:eA ly X,PT X e (tT X.K c.1 f):=⟨lK.ap⟩
def yb (ly:List cY) (X:Cx) (e:La) (f:af->R Bool):Prop:=∀c:eA ly X,PW X e (tT X.K c.1 f)
structure sY (ly:List cY) (X:Cx) (es:List La) (f:af->R (List D)):Prop where
 ap:∀c:eA ly X,PA X es (H_ X.K c.1 f)
instance {ly:List cY} {X:Cx} {es:List La} {f:af->R (List D)}:CoeFun (sY ly X es f) λ_=>∀c:eA ly X,PA X es (H_ X.K c.1 f):=⟨sY.ap⟩
structure BS (ly:List cY) (X:Cx) (es:List La) (f:af->R (List D)):Prop where
 ap:∀c:eA ly X,PA X es (FX X.K c.1 f)
instance {ly:List cY} {X:Cx} {es:List La} {f:af->R (List D)}:CoeFun (BS ly X es f) λ_=>∀c:eA ly X,PA X es (FX X.K c.1 f):=⟨BS.ap⟩
theorem PE.weak {X:Cx} {e:La} {t t':TE} (h:PE X e t) (w:∀σ H Q,t' σ H Q->t σ H Q):PE X e t':=λTc s σ H Q I q=>h Tc s σ H Q I (w σ H Q q)
theorem PT.weak {X:Cx} {e:La} {t t':TT} (h:PT X e t) (w:∀σ H Q,t' σ H Q->t σ H Q):PT X e t':=λTc s σ H Q I q=>h Tc s σ H Q I (w σ H Q q)
theorem PW.weak {X:Cx} {e:La} {t t':TT} (h:PW X e t) (w:∀σ H Q,t' σ H Q->t σ H Q):PW X e t':=λwh Tc s σ H Q I q=>h wh Tc s σ H Q I (w σ H Q q)
theorem PA.weak {X:Cx} {e:List La} {t t':TA} (h:PA X e t) (w:∀σ H Q,t' σ H Q->t σ H Q):PA X e t':=λpos Tc s σ H Q I q=>h pos Tc s σ H Q I (w σ H Q q)
theorem PS.weak {X:Cx} {e:Ly} {t t':TS} (h:PS X e t) (w:∀D σ H,t' D σ H->t D σ H):PS X e t':=λTc s σ H D I q=>h Tc s σ H D I (w D σ H q)
theorem qe.weak {X:Cx} {e:List Ly} {t t':TS} (h:qe X e t) (w:∀D σ H,t' D σ H->t D σ H):qe X e t':=λTc s σ H D I q=>h Tc s σ H D I (w D σ H q)
theorem PG.weak {X:Cx} {e:La} {t t':TG} (h:PG X e t) (w:∀v σ H Q,t' v σ H Q->t v σ H Q):PG X e t':=λTc s σ H v u Q I r q=>h Tc s σ H v u Q I r (w v σ H Q q)
theorem two {K:KU} {c:cQ ly} {fa fb:af->R D} {g:D->D->R D} {σ:St} {H:Hp} {Q:VK} (h:tQ K c (λρ=>fa ρ>>=λx=>fb ρ>>=λy=>g x y) σ H Q)
  {T:V->V->Hp->Prop} (k:∀F H2 F2 v u x y,bf H F H2 F2->c9 K H2 F2 v x->c9 K H2 F2 u y->aB c (g x y) (λd=>∀w H' F',bf H F H' F'->dg K F' w d->Q w H')->T v u H2):
  tB' K c fa σ H λv H1=>tB' K c fb σ H1 λu H2=>T v u H2:=by
 obtain⟨F,ρ,ri,w⟩:=h
 refine⟨F,ρ,ri,(aB.bind.mp w).imp λx hx w1 v H1 F1 e1 r1=>⟨F1,ρ,ri.step e1,(aB.bind.mp w1).imp λy hy w2 u H2 F2 e2 r2=> ?_⟩⟩
 exact k F H2 F2 v u x y (e1.trans e2) (r1.mono e2) r2 w2
def gX (K:KU) (r:R2) (g:D->D->Option D):Prop:=∀v u x y d H F Q,aO F H->c9 K H F v x->c9 K H F u y->g x y=some d->(∀w H' F',bf H F H' F'->dg K F' w d->Q w H')->r v u H Q
def I0 (K:KU) (r:V->Hp->VK->Prop) (g:D->Option D):Prop:=∀v x d H F Q,aO F H->c9 K H F v x->g x=some d->(∀w H' F',bf H F H' F'->dg K F' w d->Q w H')->r v H Q
def kU (K:KU) (r:List V->Hp->VK->Prop) (g:List D->Option D):Prop:=∀vs ds d H F Q,aO F H->jO K H F vs ds->g ds=some d->(∀w H' F',bf H F H' F'->dg K F' w d->Q w H')->r vs H Q
section
variable {X:Cx} {a b e:La} {es:List La} {fa fb f:af->R D} {fs:af->R (List D)} {pos:LF}
theorem PQ.bo (h:PQ ly X e f):PB ly X e f:=⟨λc=>PE.weak (h c) λσ H Q ⟨F,ρ,ri,w⟩=>⟨F,ρ,ri,w.imp λd _ k v H' F' e r=>k v H' F' e (.inl r)⟩⟩
def ag (i:Nat):af->R D:=λρ=>match ρ[i]? with
 |some (some (.val d))=> .ok d
 |_=> .bad
def ac (i:Nat):af->R D:=λρ=>match ρ[i]? with
 |some (some .obj)=> .bad
 |some (some (.cel ..))=> .bad
 |some (some s)=> .ok s.data
 |_=> .bad
theorem JT (h:PE X e (C1 i)):PQ ly X e (ag i):=⟨λc=>PE.weak h λσ H Q ⟨F,ρ,ri,w⟩=>by
 unfold ag at w
 split at w
 ·rename_i d hd
  obtain⟨v,h1,h2⟩:=ri.val i d hd
  exact⟨v,h1,w v H F (bf.refl ri.sub) h2⟩
 ·exact w.elim⟩
theorem JU (h:PE X e (C1 i)):PB ly X e (ac i):=⟨λc=>PE.weak h λσ H Q ⟨F,ρ,ri,w⟩=>by
 unfold ac at w
 split at w
 ·exact w.elim
 ·exact w.elim
 ·rename_i s ZK ZL hs
  cases s with
  |obj=>exact absurd rfl ZK
  |cel x Tq f hs=>exact absurd rfl (ZL _ _ _ _)
  |val d=>obtain⟨v,h1,h2⟩:=ri.val i d hs;exact⟨v,h1,w v H F (bf.refl ri.sub) (.inl h2)⟩
  |own d=>obtain⟨a,o,h1,h2,h3,h4,h5⟩:=ri.own i d hs;exact⟨_,h1,w _ H F (bf.refl ri.sub) (.inr ⟨a,o,rfl,h2,h5⟩)⟩
  |bor d=>obtain⟨a,o,h1,h2,h3⟩:=ri.bor i d hs;exact⟨_,h1,w _ H F (bf.refl ri.sub) (.inr ⟨a,o,rfl,ri.ext.keep _ _ (ri.bh _ _ h2),h3.mono ri.ext.grow⟩)⟩
 ·exact w.elim⟩
theorem Ex (i:Nat) {x:L0} (hN:X.N[i]? =some x:=by rfl) (hv:t4 X.env.scope x:=by first|exact Mn rfl|exact L_ (Mn rfl)|exact L_ (L_ rfl)) (hd:(x==("__debug__":L0))=false:=by decide)
  (Ua:(x==("__classdict__":L0))=false:=by decide):PQ ly X (.Name x pos) (ag i):=JT (pv i hN hv hd Ua)
theorem wG (i:Nat) {x:L0} (hN:X.N[i]? =some x:=by rfl) (hv:t4 X.env.scope x:=by first|exact Mn rfl|exact L_ (Mn rfl)|exact L_ (L_ rfl)) (hd:(x==("__debug__":L0))=false:=by decide)
  (Ua:(x==("__classdict__":L0))=false:=by decide):PB ly X (.Name x pos) (ac i):=JU (pv i hN hv hd Ua)
def fC (d:D):af->R D:=λ_=> .ok d
theorem I9 {i:Int} {j:Nat}:PQ ly X (.Constant (.int i) j pos) (fC (.int i)):=⟨λc=>PE.weak zg λσ H Q ⟨F,ρ,ri,w⟩=>w _ H F (bf.refl ri.sub) (.int i)⟩
theorem JV {i:Bool} {j:Nat}:PQ ly X (.Constant (.bool i) j pos) (fC (.bl i)):=⟨λc=>PE.weak Hf λσ H Q ⟨F,ρ,ri,w⟩=>w _ H F (bf.refl ri.sub) (.bl i)⟩
theorem Ia {j:Nat}:PQ ly X (.Constant .none j pos) (fC .non):=⟨λc=>PE.weak EU λσ H Q ⟨F,ρ,ri,w⟩=>w _ H F (bf.refl ri.sub) .non⟩
theorem Ib {x:L0} {j:Nat}:PQ ly X (.Constant (.str x) j pos) (fC (.str x)):=⟨λc=>PE.weak EV λσ H Q ⟨F,ρ,ri,w⟩=>w _ H F (bf.refl ri.sub) (.str x)⟩
theorem D2 {x:L0} {i:Int} {t:Tok} (hg:Gl X x) (hm:X.mg x=some (.int i t)) (hd:(x==("__debug__":L0))=false:=by decide):PQ ly X (.Name x pos) (fC (.int i)):=
 ⟨λc=>PE.weak (C2 hg hm (v:= .int i) ⟨t,rfl⟩ hd) λσ H Q ⟨F,ρ,ri,w⟩=>w _ H F (bf.refl ri.sub) (.int i)⟩
def f2 (g:D->D->Option D) (fa fb:af->R D):af->R D:=λρ=>fa ρ>>=λx=>fb ρ>>=λy=>R.of (g x y)
theorem qO {op:OJ} {r:R2} {g:D->D->Option D} (ho:jD X (MT op) r) (UC:gX X.K r g) (ha:PB ly X a fa) (hb:PB ly X b fb):PQ ly X (.BinOp a op b pos) (f2 g fa fb):=⟨λc=>
 PE.weak (Eg ho (ha c) (hb c)) λσ H Q h=>two h λF H2 F2 v u x y e rx ry w=>by
  obtain⟨d,hd,k⟩:=w.of
  exact UC v u x y d H2 F2 Q e.sub rx ry hd λw H' F' e' r'=>k w H' F' (e.trans e') r'⟩
def f1 (g:D->Option D) (fa:af->R D):af->R D:=λρ=>fa ρ>>=λx=>R.of (g x)
theorem JW {op:UnaryOp} {r:V->Hp->VK->Prop} {g:D->Option D} (ho:J9 X (unaryOp op) r) (UC:I0 X.K r g) (ha:PB ly X a fa):PQ ly X (.UnaryOp op a pos) (f1 g fa):=⟨λc=>
 PE.weak (Eh ho (ha c)) λσ H Q ⟨F,ρ,ri,w⟩=>⟨F,ρ,ri,(aB.bind.mp w).imp λx hx w1 v H1 F1 e1 r1=>by
  obtain⟨d,hd,k⟩:=w1.of
  exact UC v x d H1 F1 Q e1.sub r1 hd λw H' F' e' r'=>k w H' F' (e1.trans e') r'⟩⟩
theorem Aa {op:R6} {r:R2} {g:D->D->Option D} (ho:jD X (MP op) r) (UC:gX X.K r g) (ha:PB ly X a fa) (hb:PB ly X b fb) (hm:MK op b=false:=by first|exact zu _|with_unfolding_all rfl):
  PQ ly X (.Compare a [op] [b] pos) (f2 g fa fb):=⟨λc=>
 PE.weak (Cc ho (ha c) (hb c) hm) λσ H Q h=>two h λF H2 F2 v u x y e rx ry w=>by
  obtain⟨d,hd,k⟩:=w.of
  exact UC v u x y d H2 F2 Q e.sub rx ry hd λw H' F' e' r'=>k w H' F' (e.trans e') r'⟩
def fT (f:af->R D):af->R Bool:=λρ=>f ρ>>=λd=>match d with
 | .bl b=> .ok b
 |_=> .bad
theorem FY {t:TE} (h:PT X e (Ej t)) (w:∀σ H Q,tQ X.K c f σ H Q->t σ H Q):PT X e (tT X.K c (fT f)):=PT.weak h λσ H Q ⟨F,ρ,ri,k⟩=>by
 refine w σ H _ ⟨F,ρ,ri,(aB.bind.mp k).imp λd _ k1 v H' F' e r=> ?_⟩
 cases d with
 |bl b=>cases r;exact⟨b,rfl,k1 H' F' e⟩
 |_=>exact k1.elim
theorem nP {op:R6} {r:R2} {g:D->D->Option D} (ho:jD X (MP op) r) (UC:gX X.K r g) (ha:PB ly X a fa) (hb:PB ly X b fb) (hm:MK op b=false:=by first|exact zu _|with_unfolding_all rfl):
  lK ly X (.Compare a [op] [b] pos) (fT (f2 g fa fb)):=⟨λc=>FY (Cd ho (ha c) (hb c) hm) λσ H Q h=>two h λF H2 F2 v u x y e rx ry w=>by
  obtain⟨d,hd,k⟩:=w.of
  exact UC v u x y d H2 F2 Q e.sub rx ry hd λw H' F' e' r'=>k w H' F' (e.trans e') r'⟩
def ae:af->R (List D):=λ_=> .ok []
def aa (f:af->R D) (fs:af->R (List D)):af->R (List D):=λρ=>f ρ>>=λx=>fs ρ>>=λxs=> .ok (x::xs)
theorem FZ:sY ly X [] ae:=⟨λc=>PA.weak iI λσ H Q ⟨F,ρ,ri,w⟩=>w [] H F (bf.refl ri.sub) .nil⟩
theorem D3 (h:PQ ly X e f) (hr:sY ly X es fs) (hs:L6 (e::es) X.env=(false,Ls e X.env)::L6 es X.env:=by rfl):sY ly X (e::es) (aa f fs):=⟨λc=>
 PA.weak (eN (h c) (hr c) hs) λσ H Q ⟨F,ρ,ri,w⟩=>⟨F,ρ,ri,(aB.bind.mp w).imp λx hx w1 v H1 F1 e1 r1=>⟨F1,ρ,ri.step e1,(aB.bind.mp w1).imp λy hy w2 u H2 F2 e2 r2=>
  w2 _ H2 F2 (e1.trans e2) (.cons (r1.mono e2.grow) r2)⟩⟩⟩
theorem mU:BS ly X [] ae:=⟨λc=>PA.weak iI λσ H Q ⟨F,ρ,ri,w⟩=>w [] H F (bf.refl ri.sub) .nil⟩
theorem kK (h:PB ly X e f) (hr:BS ly X es fs) (hs:L6 (e::es) X.env=(false,Ls e X.env)::L6 es X.env:=by rfl):BS ly X (e::es) (aa f fs):=⟨λc=>
 PA.weak (eN (h c) (hr c) hs) λσ H Q ⟨F,ρ,ri,w⟩=>⟨F,ρ,ri,(aB.bind.mp w).imp λx hx w1 v H1 F1 e1 r1=>⟨F1,ρ,ri.step e1,(aB.bind.mp w1).imp λy hy w2 u H2 F2 e2 r2=>
  w2 _ H2 F2 (e1.trans e2) (.cons (r1.mono e2) r2)⟩⟩⟩
def lim:Nat:=100000
theorem dO:lim<=sizeLine:=by decide
def b9 (fs:af->R (List D)):af->R D:=λρ=>fs ρ>>=λds=>if ds.length<=lim then .ok (.tup ds)else .bad
def lU (fs:af->R (List D)):af->R D:=λρ=>fs ρ>>=λds=>if ds.length<=lim then .ok (.lst ds)else .bad
theorem Ic {x1:Nat} (h:sY ly X es fs):PQ ly X (.Tuple es x1 pos) (b9 fs):=⟨λc=>PE.weak (Fv (h c)) λσ H Q ⟨F,ρ,ri,w⟩=>⟨F,ρ,ri,(aB.bind.mp w).imp λds hd w1 vs H1 F1 e1 r1=>by
 split at w1
 ·rename_i hl
  refine⟨LL (by rw[r1.length];exact hl) dO,λp hp=> ?_⟩
  have e2:=bf.lay (o:= .tup vs) e1.sub hp
  exact w1 _ _ _ (e1.trans e2) (.tup aq (r1.mono e2.grow))
 ·exact w1.elim⟩⟩
theorem Ie (h:sY ly X es fs):PQ ly X (.List es pos) (lU fs):=⟨λc=>PE.weak (zA (h c)) λσ H Q ⟨F,ρ,ri,w⟩=>⟨F,ρ,ri,(aB.bind.mp w).imp λds hd w1 vs H1 F1 e1 r1=>by
 split at w1
 ·rename_i hl
  refine⟨LL (by rw[r1.length];exact hl) dO,λp hp=> ?_⟩
  have e2:=bf.lay (o:= .lst vs) e1.sub hp
  exact w1 _ _ _ (e1.trans e2) (.lst aq (r1.mono e2.grow))
 ·exact w1.elim⟩⟩
def bG (g:List D->Option D) (fs:af->R (List D)):af->R D:=λρ=>fs ρ>>=λds=>R.of (g ds)
variable {x:L0} {p:LF} {id T:String} {rc:List V->Hp->VK->Prop}
theorem wH {c:cQ ly} {rc:List V->Hp->VK->Prop} {g:List D->Option D} (UC:kU X.K rc g) {σ:St} {H:Hp} {Q:VK} (h:tQ X.K c (bG g fs) σ H Q):JI rc (FX X.K c fs) σ H Q:=by
 obtain⟨F,ρ,ri,w⟩:=h
 refine⟨F,ρ,ri,(aB.bind.mp w).imp λds hd w1 vs H1 F1 e1 r1=> ?_⟩
 obtain⟨d,hd,k⟩:=w1.of
 exact UC vs ds d H1 F1 Q e1.sub r1 hd λw H' F' e' r'=>k w H' F' (e1.trans e') r'
theorem gH {g:List D->Option D} (hc:ck X (.builtin id) rc) (UC:kU X.K rc g) (hm:X.mg x=none) (hv:LK x=some (.builtin id)) (ha:BS ly X (e::es) fs) (hg:Gl X x:=by rfl) (hn:x≠"__name__":=by decide) (Ue:(x==("__debug__":L0))=false:=by decide)
  (he:L6 (e::es) X.env=(false,Ls e X.env)::L6 es X.env:=by rfl) (TC:(LM pos (L6 es X.env)).any (·.1)=false:=by rfl):PQ ly X (.Call (.Name x p) (e::es) [] pos) (bG g fs):=⟨λc=>
 PE.weak (oH hc hg hm hv (ha c) hn Ue he TC) λσ H Q h=>wH UC h⟩
theorem fV {g:List D->Option D} (hc:ck X (.type T) rc) (UC:kU X.K rc g) (hm:X.mg x=none) (hv:LK x=some (.type T)) (ha:BS ly X (e::es) fs) (hg:Gl X x:=by rfl) (hn:x≠"__name__":=by decide) (Ue:(x==("__debug__":L0))=false:=by decide)
  (he:L6 (e::es) X.env=(false,Ls e X.env)::L6 es X.env:=by rfl) (TC:(LM pos (L6 es X.env)).any (·.1)=false:=by rfl):PQ ly X (.Call (.Name x p) (e::es) [] pos) (bG g fs):=⟨λc=>
 PE.weak (kF hc hg hm hv (ha c) hn Ue he TC) λσ H Q h=>wH UC h⟩
def yc (K:KU) (n:Nat) (m:List D->R D):Sp:=λvs H Q E=>vs.length=n/\∃F ds,aO F H/\Reps K F vs ds/\match m ds with
 | .ok d=>∀v H' F',bf H F H' F'->dg K F' v d->Q v H'
 | .err x _=>∀cls a H' F',fc K x cls->bf H F H' F'->E cls a H'
 | .bad=>False
def al (m:List D->R D) (n:Nat) (fs:af->R (List D)):af->R D:=λρ=>fs ρ>>=λds=>if ds.length=n then (match m ds with| .ok d=> .ok d| .err x _=> .err x ρ| .bad=> .bad)else .bad
theorem F_ {c:cQ ly} {m:List D->R D} {n:Nat} {σ:St} {H:Hp} {Q:VK} (h:tQ X.K c (al m n fs) σ H Q):El (yc X.K n m) [] (G_ X c) (H_ X.K c fs) σ H Q:=by
 obtain⟨F,ρ,ri,w⟩:=h
 refine⟨F,ρ,ri,(aB.bind.mp w).imp λds hd w1 vs H1 F1 e1 r1=> ?_⟩
 show yc X.K n m (vs++[]) H1 Q (G_ X c σ)
 rw[Mb]
 split at w1
 ·rename_i hl
  refine⟨by rw[r1.length];exact hl,F1,ds,e1.sub,r1,?_⟩
  split at w1
  ·exact λv H' F' e' r'=>w1 v H' F' (e1.trans e') r'
  ·exact λcls a H' F' ec e'=>⟨_,ρ,F',ec,ri.step (e1.trans e'),w1⟩
  ·exact w1.elim
 ·exact w1.elim
theorem G0 {n k:Nat} {m:List D->R D} {f:KZ} {fd:MD} {ps:List L0} (F:eY X.prog X.w X.K X.mg X.base (og X.prog X.w) k f fd ps (yc X.K n m)) (hr:cw k X.A) (hm:X.mg x=some (.ref f)) (hk:Mg X.K (.ref f)=true) (hb:fD X.K fd ps [])
  (ha:sY ly X (e::es) fs) (hg:Gl X x:=by rfl) (Ue:(x==("__debug__":L0))=false:=by decide) (he:L6 (e::es) X.env=(false,Ls e X.env)::L6 es X.env:=by rfl) (TC:(LM pos (L6 es X.env)).any (·.1)=false:=by rfl):
  PQ ly X (.Call (.Name x p) (e::es) [] pos) (al m n fs):=⟨λc=>PE.weak (Ch F hr hg hm hk hb .nil (wF c) (ha c) Ue he TC) λσ H Q h=>F_ h⟩
variable {ga gb:af->R Bool} {rest:List La}
def tL (ga gb:af->R Bool):af->R Bool:=λρ=>ga ρ>>=λb=>if b=true then gb ρ else .ok false
def kZ (ga gb:af->R Bool):af->R Bool:=λρ=>ga ρ>>=λb=>if b=true then .ok true else gb ρ
def cI (ga:af->R Bool):af->R Bool:=λρ=>ga ρ>>=λb=> .ok (!b)
theorem yb.t (h:yb ly X e ga):lK ly X e ga:=⟨λc=>(h c).pt⟩
theorem G1 (h:lK ly X a ga):yb ly X (.BoolOp .And [a] pos) ga:=λc=>C4 (h c)
theorem Ig (h:lK ly X a ga):yb ly X (.BoolOp .Or [a] pos) ga:=λc=>EX (h c)
theorem Ih (h:lK ly X a ga) (hb:yb ly X (.BoolOp .And (b::rest) pos) gb):yb ly X (.BoolOp .And (a::b::rest) pos) (tL ga gb):=λc=>PW.weak (EY (h c) (hb c)) λσ H Q ⟨F,ρ,ri,w⟩=>
 ⟨F,ρ,ri,(aB.bind.mp w).imp λb hb w1 H1 F1 e1=>by
  cases b with
  |true=>exact⟨F1,ρ,ri.step e1,w1.imp λb' _ k H2 F2 e2=>k H2 F2 (e1.trans e2)⟩
  |false=>exact w1 H1 F1 e1⟩
theorem JX (h:lK ly X a ga) (hb:yb ly X (.BoolOp .Or (b::rest) pos) gb):yb ly X (.BoolOp .Or (a::b::rest) pos) (kZ ga gb):=λc=>PW.weak (Hg (h c) (hb c)) λσ H Q ⟨F,ρ,ri,w⟩=>
 ⟨F,ρ,ri,(aB.bind.mp w).imp λb hb w1 H1 F1 e1=>by
  cases b with
  |false=>exact⟨F1,ρ,ri.step e1,w1.imp λb' _ k H2 F2 e2=>k H2 F2 (e1.trans e2)⟩
  |true=>exact w1 H1 F1 e1⟩
theorem Ii (h:lK ly X a ga):lK ly X (.UnaryOp .Not a pos) (cI ga):=⟨λc=>PT.weak (EZ (h c)) λσ H Q ⟨F,ρ,ri,w⟩=>⟨F,ρ,ri,(aB.bind.mp w).imp λb hb w1 H1 F1 e1=>w1 H1 F1 e1⟩⟩
def p8 (fa fb:af->R D):af->R D:=λρ=>fa ρ>>=λd=>match d with
 | .bl true=>fb ρ
 | .bl false=> .ok (.bl false)
 |_=> .bad
def JY (fa fb:af->R D):af->R D:=λρ=>fa ρ>>=λd=>match d with
 | .bl true=> .ok (.bl true)
 | .bl false=>fb ρ
 |_=> .bad
def qP (fa:af->R D):af->R D:=λρ=>fa ρ>>=λd=>match d with
 | .bl b=> .ok (.bl (!b))
 |_=> .bad
theorem Ij {op:PySem.BoolOp} (h:PQ ly X a fa):PQ ly X (.BoolOp op [a] pos) fa:=⟨λc=>E_ (h c)⟩
theorem Ik (ha:PQ ly X a fa) (hb:PQ ly X (.BoolOp .And (b::rest) pos) fb):PQ ly X (.BoolOp .And (a::b::rest) pos) (p8 fa fb):=⟨λc=>PE.weak (F7 (ha c) (hb c)) λσ H Q ⟨F,ρ,ri,w⟩=>
 ⟨F,ρ,ri,(aB.bind.mp w).imp λd hd w1 v H1 F1 e1 r1=>by
  cases d with
  |bl b=>
   cases r1
   cases b with
   |true=>exact⟨true,rfl,F1,ρ,ri.step e1,w1.imp λb' _ k v H2 F2 e2 r2=>k v H2 F2 (e1.trans e2) r2⟩
   |false=>exact⟨false,rfl,w1 _ H1 F1 e1 (.bl false)⟩
  |_=>exact w1.elim⟩⟩
theorem Il (ha:PQ ly X a fa):PQ ly X (.UnaryOp .Not a pos) (qP fa):=⟨λc=>PE.weak (F8 (ha c)) λσ H Q ⟨F,ρ,ri,w⟩=>⟨F,ρ,ri,(aB.bind.mp w).imp λd hd w1 v H1 F1 e1 r1=>by
  cases d with
  |bl b=>cases r1;exact⟨b,rfl,w1 _ H1 F1 e1 (.bl _)⟩
  |_=>exact w1.elim⟩⟩
def Ha (gc:af->R Bool) (fa fb:af->R D):af->R D:=λρ=>gc ρ>>=λb=>if b=true then fa ρ else fb ρ
theorem D4 {t:La} (ht:lK ly X t ga) (ha:PQ ly X a fa) (hb:PQ ly X b fb):PQ ly X (.IfExp t a b pos) (Ha ga fa fb):=⟨λc=>PE.weak (zi (ht c) (ha c) (hb c)) λσ H Q ⟨F,ρ,ri,w⟩=>
 ⟨F,ρ,ri,(aB.bind.mp w).imp λb hb w1 H1 F1 e1=>by
  cases b with
  |true=>exact⟨F1,ρ,ri.step e1,w1.imp λb' _ k v H2 F2 e2 r2=>k v H2 F2 (e1.trans e2) r2⟩
  |false=>exact⟨F1,ρ,ri.step e1,w1.imp λb' _ k v H2 F2 e2 r2=>k v H2 F2 (e1.trans e2) r2⟩⟩⟩
def fW:D->Option Bool
 | .non=>some false
 | .bl b=>some b
 | .int i=>some (i != 0)
 | .lst ds=>some (!ds.isEmpty)
 | .tup ds=>some (!ds.isEmpty)
 | .dic ds=>some (!ds.isEmpty)
 |_=>none
def bF (f:af->R D):af->R Bool:=λρ=>f ρ>>=λd=>R.of (fW d)
theorem Reps.isEmpty {K:KU} {F:Hp}:∀{vs:List V} {ds:List D},Reps K F vs ds->vs.isEmpty=ds.isEmpty
 |_,_, .nil=>rfl
 |_,_, .cons _ _=>rfl
theorem RepK.isEmpty {K:KU} {F:Hp}:∀{vs:List (aL×V)} {ds:List (aL×D)},RepK K F vs ds->vs.isEmpty=ds.isEmpty
 |_,_, .nil=>rfl
 |_,_, .cons _ _=>rfl
theorem Im (h:PB ly X e f) (he:∀Uo,Sz e X.env Uo=(do let v<-Uo;OM e.pos;N9 [v] (truthy v)):=by intro _;rfl):lK ly X e (bF f):=⟨λc=>PT.weak (zw (h c) he) λσ H Q ⟨F,ρ,ri,w⟩=>
 ⟨F,ρ,ri,(aB.bind.mp w).imp λd hd w1 v H1 F1 e1 r1=>by
  obtain⟨b,hb,k⟩:=w1.of
  refine⟨b,?_,k H1 F1 e1⟩
  cases d with
  |non=>cases r1.non;cases hb;rfl
  |bl=>cases r1.bl;cases hb;rfl
  |int=>cases r1.int;cases hb;rfl
  |lst ds=>obtain⟨a,vs,rfl,h1,h2⟩:=r1.lst e1.sub;cases hb;exact .inl ⟨vs,d6.of h1,by rw[h2.isEmpty]⟩
  |tup ds=>obtain⟨a,vs,rfl,h1,h2⟩:=r1.tup e1.sub;cases hb;exact .inr (.inl ⟨vs,fS.of h1,by rw[h2.isEmpty]⟩)
  |dic ds=>obtain⟨a,vs,rfl,h1,h2,h3⟩:=r1.dic e1.sub;cases hb;exact .inr (.inr ⟨vs,h1,by rw[h2.isEmpty]⟩)
  |_=>cases hb⟩⟩
end
end L2.Pu
namespace L2.Pu
open PySem PySem.Spec PyProof.Rows
variable {ly:List cY}
inductive aW where
 |nx (ρ:af)|ret (d:D)|brk (ρ:af)|cnt (ρ:af)|retc (d:D) (ρ:af)
def gI (K:KU) (c:cQ ly) (F:Hp) (D:mJ):aW->Prop
 | .nx ρ=>∀σ' H' F',aO F F'->RI K c ρ σ' H' F'->D.nx σ' H'
 | .brk ρ=>∀σ' H' F',aO F F'->RI K c ρ σ' H' F'->D.bk σ' H'
 | .cnt ρ=>∀σ' H' F',aO F F'->RI K c ρ σ' H' F'->D.ct σ' H'
 | .ret d=>∀v H' F',aO F F'->bf c.H0 c.F0 H' F'->dg K F' v d->D.rt v H'
 | .retc d ρ=>∀v σ' H' F',aO F F'->RI K c ρ σ' H' F'->dg K F' v d->D.rt v H'
theorem gI.mono {K:KU} {c:cQ ly} {F F1:Hp} {D:mJ} (g:aO F F1):∀{o:aW},gI K c F D o->gI K c F1 D o
 | .nx ρ,h=>λσ' H' F' s r=>h σ' H' F' (g.trans s) r
 | .brk ρ,h=>λσ' H' F' s r=>h σ' H' F' (g.trans s) r
 | .cnt ρ,h=>λσ' H' F' s r=>h σ' H' F' (g.trans s) r
 | .ret d,h=>λv H' F' s e r=>h v H' F' (g.trans s) e r
 | .retc d ρ,h=>λv σ' H' F' s e r=>h v σ' H' F' (g.trans s) e r
def tS (K:KU) (c:cQ ly) (g:af->R aW):TS:=λD σ H=>∃F ρ,RI K c ρ σ H F/\aB c (g ρ) (gI K c F D)
structure d_ (ly:List cY) (X:Cx) (st:Ly) (g:af->R aW):Prop where
 ap:∀c:eA ly X,PS X st (tS X.K c.1 g)
instance {ly:List cY} {X:Cx} {st:Ly} {g:af->R aW}:CoeFun (d_ ly X st g) λ_=>∀c:eA ly X,PS X st (tS X.K c.1 g):=⟨d_.ap⟩
structure jP (ly:List cY) (X:Cx) (st:List Ly) (g:af->R aW):Prop where
 ap:∀c:eA ly X,qe X st (tS X.K c.1 g)
instance {ly:List cY} {X:Cx} {st:List Ly} {g:af->R aW}:CoeFun (jP ly X st g) λ_=>∀c:eA ly X,qe X st (tS X.K c.1 g):=⟨jP.ap⟩
section
variable {X:Cx} {st:Ly} {rest:List Ly} {a b e:La} {es:List La} {fa fb f:af->R D} {fs:af->R (List D)} {ga gb g g':af->R aW} {gt:af->R Bool} {pos:LF}
def az:af->R aW:=λρ=> .ok (.nx ρ)
def ao (g g':af->R aW):af->R aW:=λρ=>g ρ>>=λo=>match o with
 | .nx ρ'=>g' ρ'
 |o=> .ok o
theorem G2:jP ly X [] az:=⟨λc=>qe.weak C5 λD σ H ⟨F,ρ,ri,w⟩=>w σ H F (aO.refl _) ri⟩
theorem ox (h:d_ ly X st g) (hr:jP ly X rest g'):jP ly X (st::rest) (ao g g'):=⟨λc=>qe.weak (zj (h c) (hr c)) λD σ H ⟨F,ρ,ri,w⟩=>by
 refine⟨F,ρ,ri,(aB.bind.mp w).imp λo ho w1=> ?_⟩
 cases o with
 |nx ρ'=>exact λσ' H' F' s r=>⟨F',ρ',r,w1.imp λo' _ k=>k.mono s⟩
 |ret d=>exact w1
 |brk ρ'=>exact w1
 |cnt ρ'=>exact w1
 |retc d ρ'=>exact w1⟩
theorem jQ (h:d_ ly X st g):jP ly X [st] g:=⟨λc=>qe.weak (C6 (h c)) λD σ H w=>w⟩
def mV (L:List Nat) (g:af->R aW):af->R aW:=λρ=>g (frz L ρ)
theorem Io (L:List Nat) (h:d_ ly X st g):d_ ly X st (mV L g):=⟨λc=>PS.weak (h c) λD σ H ⟨F,ρ,ri,w⟩=>by
 obtain⟨F',s,X7⟩:=ri.frz L
 exact⟨F',_,X7,w.imp λo _ k=>k.mono s⟩⟩
def aG (f:af->R D):af->R aW:=λρ=>f ρ>>=λd=> .ok (.ret d)
theorem Ip (h:PQ ly X e f):d_ ly X (.Return (some e) pos) (aG f):=⟨λc=>PS.weak (F9 (h c)) λD σ H ⟨F,ρ,ri,w⟩=>
 ⟨F,ρ,ri,(aB.bind.mp w).imp λd _ w1 v H' F' e r=>w1 v H' F' e.grow (ri.ext.trans e) r⟩⟩
def bT (gc:af->R Bool) (g g':af->R aW):af->R aW:=λρ=>gc ρ>>=λb=>if b=true then g ρ else g' ρ
theorem JZ {ta tb:List Ly} (hc:lK ly X e gt) (ha:jP ly X ta g) (hb:jP ly X tb g'):d_ ly X (.If e ta tb pos) (bT gt g g'):=⟨λc=>PS.weak (Hl (hc c) (ha c) (hb c)) λD σ H ⟨F,ρ,ri,w⟩=>
 ⟨F,ρ,ri,(aB.bind.mp w).imp λb hb w1 H1 F1 e1=>by
  cases b with
  |true=>exact⟨F1,ρ,ri.step e1,w1.imp λo _ k=>k.mono e1.grow⟩
  |false=>exact⟨F1,ρ,ri.step e1,w1.imp λo _ k=>k.mono e1.grow⟩⟩⟩
def tG (K:KU) (c:cQ ly) (gt:D->af->R af):TG:=λv σ H Q=>∃F ρ d,RI K c ρ σ H F/\dg K F v d/\aB c (gt d ρ) λρ'=>∀σ' H' F',aO F F'->RI K c ρ' σ' H' F'->Q σ' H'
def Ab (ly:List cY) (X:Cx) (tg:La) (gt:D->af->R af):Prop:=∀c:eA ly X,PG X tg (tG X.K c.1 gt)
def gN (i:Nat):D->af->R af:=λd ρ=> .ok (ρ.set i (some (.val d)))
theorem G3 (i:Nat) {x:L0} (hN:X.N.Nodup) (hi:X.N[i]? =some x:=by rfl) (hx:uS X.env.scope x:=by first|exact Mn rfl|exact L_ rfl) (hf:X.fn x=true\/X.env.scope.names.lookup x=some .local:=by first|exact .inl rfl|exact .inr rfl|assumption) (TY:jN ly i:=by(repeat (first|assumption|exact L2.Pu.cp|refine L2.Pu.free_cons ⟨by first|decide|simp,by first|decide|simp⟩ ?_))):Ab ly X (.Name x pos) (gN i):=
 λc=>PG.weak (rO hN hi hx hf) λv σ H Q ⟨F,ρ,d,ri,r,w⟩=>w _ H F (aO.refl _) (ri.setVal i TY r)
def Ki (K:KU) (c:cQ ly) (gt:List D->af->R af):zk:=λvs σ H Q=>∃F ρ ds,RI K c ρ σ H F/\Reps K F vs ds/\aB c (gt ds ρ) λρ'=>∀σ' H' F',aO F F'->RI K c ρ' σ' H' F'->Q σ' H'
def yd (ly:List cY) (X:Cx) (tg:List La) (gt:List D->af->R af):Prop:=∀c:eA ly X,zl X tg (Ki X.K c.1 gt)
theorem zl.weak {X:Cx} {e:List La} {t t':zk} (h:zl X e t) (w:∀v σ H Q,t' v σ H Q->t v σ H Q):zl X e t':=λTc s σ H v u Q I r q=>h Tc s σ H v u Q I r (w v σ H Q q)
def cS:List D->af->R af:=λds ρ=>match ds with
 |[]=> .ok ρ
 |_=> .bad
def aH (g:D->af->R af) (gs:List D->af->R af):List D->af->R af:=λds ρ=>match ds with
 |[]=> .bad
 |d::r=>g d ρ>>=λρ'=>gs r ρ'
theorem G4:yd ly X [] cS:=λc=>zl.weak C7 λvs σ H Q ⟨F,ρ,ds,ri,r,w⟩=>by
 cases r with
 |nil=>exact⟨rfl,w σ H F (aO.refl _) ri⟩
 |cons _ _=>exact w.elim
theorem D5 {g:D->af->R af} {gs:List D->af->R af} (h:Ab ly X e g) (hr:yd ly X es gs) (hs:(M9 (e::es) X.env).map (·.2)=Ny e X.env::(M9 es X.env).map (·.2):=by rfl):yd ly X (e::es) (aH g gs):=
 λc=>zl.weak (zm (h c) (hr c) hs) λvs σ H Q ⟨F,ρ,ds,ri,r,w⟩=>by
 cases r with
 |nil=>exact w.elim
 | @cons v d vs ds r t=>
  refine⟨v,vs,rfl,F,ρ,d,ri,r,(aB.bind.mp w).imp λρ' _ w1 σ' H' F' s X7=>⟨F',ρ',ds,X7,t.mono s,w1.imp λρ2 _ k σ2 H2 F2 s2 r2=>k σ2 H2 F2 (s.trans s2) r2⟩⟩
def dc (n:Nat) (gs:List D->af->R af):D->af->R af:=λd ρ=>match d with
 | .tup ds=>if ds.length=n then gs ds ρ else .bad
 | .lst ds=>if ds.length=n then gs ds ρ else .bad
 |_=> .bad
theorem PG.or {X:Cx} {e:La} {t t':TG} (h:PG X e t) (h':PG X e t'):PG X e (λv σ H Q=>t v σ H Q\/t' v σ H Q):=λTc s σ H v u Q I r q=>q.elim (λq=>h Tc s σ H v u Q I r q) λq=>h' Tc s σ H v u Q I r q
theorem Iq {k n:Nat} {gs:List D->af->R af} (hc:X.calm=true) (h:yd ly X es gs) (hn:(M9 es X.env).length=n:=by rfl) (Tz:(M9 es X.env).findIdx? (·.1)=none:=by rfl):Ab ly X (.Tuple es k pos) (dc n gs):=
 λc=>PG.weak (PG.or (zn hc (h c) hn Tz) (zY hc (h c) hn Tz)) λv σ H Q ⟨F,ρ,d,ri,r,w⟩=>by
 cases r with
 | @tup a vs ds h1 h2=>
  change aB c.1 (if ds.length=n then gs ds ρ else .bad) _ at w
  split at w
  ·rename_i hl
   exact .inl ⟨a,vs,rfl,fS.of (ri.sub _ _ h1),by rw[h2.length];exact hl,F,ρ,ds,ri,h2,w⟩
  ·exact w.elim
 | @lst a vs ds h1 h2=>
  change aB c.1 (if ds.length=n then gs ds ρ else .bad) _ at w
  split at w
  ·rename_i hl
   exact .inr ⟨a,vs,rfl,d6.of (ri.sub _ _ h1),by rw[h2.length];exact hl,F,ρ,ds,ri,h2,w⟩
  ·exact w.elim
 |_=>exact w.elim
def aJ (f:af->R D) (g:D->af->R af):af->R aW:=λρ=>f ρ>>=λd=>g d ρ>>=λρ'=> .ok (.nx ρ')
theorem G5 {c:cQ ly} {g:D->af->R af} {K:KU} {D':mJ} {σ:St} {H:Hp} (h:tS K c (aJ f g) D' σ H):Fc (tQ K c f) (tG K c g) D' σ H:=by
 obtain⟨F,ρ,ri,w⟩:=h
 refine⟨F,ρ,ri,(aB.bind.mp w).imp λd _ w1 v H1 F1 e1 r1=>⟨F1,ρ,d,ri.step e1,r1,(aB.bind.mp w1).imp λρ' _ w2 σ' H' F' s r'=>w2 σ' H' F' (e1.grow.trans s) r'⟩⟩
theorem Ir {tg:La} {g:D->af->R af} (he:PQ ly X e f) (hg:Ab ly X tg g) (hs:O0 [tg] e pos.line X.env=pure false:=by rfl) (hw:O1 [tg] e X.env=pure none:=by rfl)
  (h1:(M9 [tg] X.env).map (·.2)=[Ny tg X.env]:=by rfl):d_ ly X (.Assign [tg] e pos) (aJ f g):=⟨λc=>PS.weak (uU (he c) (hg c) hs hw h1) λD σ H h=>G5 h⟩
theorem Iu (i:Nat) {x:L0} {Tj:LF} (hN:X.N.Nodup) (he:PQ ly X e f) (hi:X.N[i]? =some x:=by rfl) (hx:uS X.env.scope x:=by first|exact Mn rfl|exact L_ rfl) (hs:Mi e (some (.Name x Tj)) pos.line X.env=pure false:=by rfl)
  (hf:X.fn x=true\/X.env.scope.names.lookup x=some .local:=by first|exact .inl rfl|exact .inr rfl|assumption) (TY:jN ly i:=by(repeat (first|assumption|exact L2.Pu.cp|refine L2.Pu.free_cons ⟨by first|decide|simp,by first|decide|simp⟩ ?_))):d_ ly X (.Assign [.Name x Tj] e pos) (aJ f (gN i)):=⟨λc=>
 PS.weak (lg hN hi hx (he c) hs hf) λD σ H h=>by
  obtain⟨F,ρ,ri,w⟩:=h
  exact⟨F,ρ,ri,(aB.bind.mp w).imp λd _ w1 v H1 F1 e1 r1=>w1 _ H1 F1 e1.grow ((ri.step e1).setVal i TY r1)⟩⟩
def D6 (i j:Nat) (fs:af->R (List D)):af->R aW:=λρ=>fs ρ>>=λds=>match ds with
 |[x,y]=> .ok (.nx ((ρ.set i (some (.val x))).set j (some (.val y))))
 |_=> .bad
theorem Iv (i j:Nat) {x y:L0} {px py pt:LF} {kt k2:Nat} {WD:LF} (hc:X.calm=true) (hN:X.N.Nodup) (ha:sY ly X [a,b] fs) (hi:X.N[i]? =some x:=by rfl) (hj:X.N[j]? =some y:=by rfl) (V7:i≠j:=by decide)
  (hx:X.env.scope.names.lookup x=some .local:=by rfl) (hy:X.env.scope.names.lookup y=some .local:=by rfl)
  (hw:O1 [.Tuple [.Name x px, .Name y py] kt pt] (.Tuple [a,b] k2 WD) X.env=pure (some [x,y]):=by rfl)
  (hs:O0 [.Tuple [.Name x px, .Name y py] kt pt] (.Tuple [a,b] k2 WD) pos.line X.env=pure false:=by rfl) (TY:jN ly i:=by(repeat (first|assumption|exact L2.Pu.cp|refine L2.Pu.free_cons ⟨by first|decide|simp,by first|decide|simp⟩ ?_))) (ZM:jN ly j:=by(repeat (first|assumption|exact L2.Pu.cp|refine L2.Pu.free_cons ⟨by first|decide|simp,by first|decide|simp⟩ ?_))):
  d_ ly X (.Assign [.Tuple [.Name x px, .Name y py] kt pt] (.Tuple [a,b] k2 WD) pos) (D6 i j fs):=⟨λc=>PS.weak (Fd hc hN hi hj V7 hx hy (ha c) hw hs) λD σ H ⟨F,ρ,ri,w⟩=>
 ⟨F,ρ,ri,(aB.bind.mp w).imp λds _ w1 vs H1 F1 e1 r1=>by
  cases ds with
  |nil=>exact w1.elim
  |cons dx ds=>
   cases ds with
   |nil=>exact w1.elim
   |cons dy ds=>
    cases ds with
    |cons _ _=>exact w1.elim
    |nil=>
     obtain⟨vx,us,rfl,rx,t⟩:=r1.consI
     obtain⟨vy,a1I,rfl,ry,t2⟩:=t.consI
     cases t2.nilI
     exact⟨vx,vy,rfl,w1 _ H1 F1 e1.grow (((ri.step e1).setVal i TY rx).setVal j ZM ry)⟩⟩⟩
def jt (i:Nat) (fs:af->R (List D)):af->R aW:=λρ=>fs ρ>>=λds=>if ds.length<=lim then .ok (.nx (ρ.set i (some (.own (.lst ds)))))else .bad
theorem G6 (i:Nat) {x:L0} {Tj pl:LF} (hN:X.N.Nodup) (h:sY ly X es fs) (hi:X.N[i]? =some x:=by rfl) (hx:uS X.env.scope x:=by first|exact Mn rfl|exact L_ rfl) (hs:Mi (.List es pl) (some (.Name x Tj)) pos.line X.env=pure false:=by rfl)
  (hf:X.fn x=true\/X.env.scope.names.lookup x=some .local:=by first|exact .inl rfl|exact .inr rfl|assumption) (TY:jN ly i:=by(repeat (first|assumption|exact L2.Pu.cp|refine L2.Pu.free_cons ⟨by first|decide|simp,by first|decide|simp⟩ ?_))):d_ ly X (.Assign [.Name x Tj] (.List es pl) pos) (jt i fs):=⟨λc=>
 PS.weak (lg hN hi hx (zA (h c)) hs hf) λD σ H ⟨F,ρ,ri,w⟩=>⟨F,ρ,ri,(aB.bind.mp w).imp λds _ w1 vs H1 F1 e1 r1=>by
  split at w1
  ·rename_i hl
   refine⟨LL (by rw[r1.length];exact hl) dO,λp hp=> ?_⟩
   exact w1 _ _ F1 e1.grow ((ri.step e1).setNew i TY hp (.lst r1))
  ·exact w1.elim⟩⟩
def tM (i:Nat):af->R aW:=λρ=> .ok (.nx (ρ.set i (some (.own (.dic [])))))
theorem G7 (i:Nat) {x:L0} {Tj pl:LF} (hN:X.N.Nodup) (hi:X.N[i]? =some x:=by rfl) (hx:uS X.env.scope x:=by first|exact Mn rfl|exact L_ rfl) (hs:Mi (.Dict [] [] pl) (some (.Name x Tj)) pos.line X.env=pure false:=by rfl)
  (hf:X.fn x=true\/X.env.scope.names.lookup x=some .local:=by first|exact .inl rfl|exact .inr rfl|assumption) (TY:jN ly i:=by(repeat (first|assumption|exact L2.Pu.cp|refine L2.Pu.free_cons ⟨by first|decide|simp,by first|decide|simp⟩ ?_))):d_ ly X (.Assign [.Name x Tj] (.Dict [] [] pl) pos) (tM i):=⟨λc=>
 PS.weak (lg hN hi hx zM hs hf) λD σ H ⟨F,ρ,ri,w⟩=>λp hp=>w _ _ F (aO.refl _) (ri.setNew i TY hp (.dic .nil NU))⟩
structure vm (K:KU) (F:Hp) (J:It) (ds:List D):Prop where
 go:∀i H,aO F H->i<ds.length->J.go i H
 stop:∀H,aO F H->J.stop ds.length H
 yld:∀i H F1 x H',aO F F1->aO F1 H->J.yld i H x H'->i<ds.length->∃F' d,ds[i]? =some d/\bf H F1 H' F'/\dg K F' x d
def tI (K:KU) (c:cQ ly) (fi:af->R (List D)):TI:=λσ H Rk=>∃F ρ,RI K c ρ σ H F/\aB c (fi ρ) λds=>∀J H' F',bf H F H' F'->vm K F' J ds->Rk J H'
def BU (ly:List cY) (X:Cx) (tg iter:La) (fi:af->R (List D)):Prop:=∀c:eA ly X,PI X tg iter (tI X.K c.1 fi)
theorem PI.weak {X:Cx} {tg e:La} {t t':TI} (h:PI X tg e t) (w:∀σ H Rk,t' σ H Rk->t σ H Rk):PI X tg e t':=λTc s σ H Rk I q=>h Tc s σ H Rk I (w σ H Rk q)
def aU (g:D->af->R af) (gb:af->R aW):List D->af->R aW
 |[],ρ=> .ok (.nx ρ)
 |d::r,ρ=>g d ρ>>=λρ1=>gb ρ1>>=λo=>match o with
  | .nx ρ2=>aU g gb r ρ2
  | .cnt ρ2=>aU g gb r ρ2
  | .brk ρ2=> .ok (.nx ρ2)
  | .ret d=> .ok (.ret d)
  | .retc d ρ2=> .ok (.retc d ρ2)
def d7 (fi:af->R (List D)) (g:D->af->R af) (gb:af->R aW):af->R aW:=λρ=>fi ρ>>=λds=>aU g gb ds ρ
theorem vn {g:D->af->R af} {gb:af->R aW} {ds:List D} {i:Nat} {d:D} {ρ:af} (h:ds[i]? =some d):aU g gb (ds.drop i) ρ=(g d ρ>>=λρ1=>gb ρ1>>=λo=>match o with
  | .nx ρ2=>aU g gb (ds.drop (i+1)) ρ2
  | .cnt ρ2=>aU g gb (ds.drop (i+1)) ρ2
  | .brk ρ2=> .ok (.nx ρ2)
  | .ret d=> .ok (.ret d)
  | .retc d ρ2=> .ok (.retc d ρ2)):=by
 obtain⟨hl,e⟩:=Lx.mp h
 rw[MW hl,e]
 rfl
theorem G8 {K:KU} {c:cQ ly} {fi:af->R (List D)} {g:D->af->R af} {D':mJ} {σ:St} {H:Hp} (h:tS K c (d7 fi g gb) D' σ H):Ht (tI K c fi) (tG K c g) (tS K c gb) D' σ H:=by
 obtain⟨F,ρ,ri,w⟩:=h
 refine⟨F,ρ,ri,(aB.bind.mp w).imp λds _ w1 J H1 F1 e1 jo=> ?_⟩
 refine⟨λi m σ H=>∃F2 ρ2,RI K c ρ2 σ H F2/\aO F1 F2/\m=ds.length - i/\i<=ds.length/\aB c (aU g gb (ds.drop i) ρ2) (gI K c F2 D'),⟨_,F1,ρ,ri.step e1,aO.refl _,rfl,M6 _,w1.imp λo _ k=>k.mono e1.grow⟩,?_⟩
 rintro i m σ2 H2 ⟨F2,ρ2,V_,s2,rfl,hi,w2⟩
 by_cases hl:i<ds.length
 ·refine .inr ⟨jo.go i H2 (s2.trans V_.sub) hl,λσ' H'=>∃F3 ρ3,RI K c ρ3 σ' H' F3/\aO F2 F3/\aB c (aU g gb (ds.drop (i+1)) ρ3) (gI K c F3 D'),?_,λx H3 y=> ?_⟩
  ·rintro σ' H' ⟨F3,ρ3,a1J,s3,w3⟩
   exact⟨ds.length - (i+1),by omega,F3,ρ3,a1J,s2.trans s3,rfl,hl,w3⟩
  ·obtain⟨F3,d,hd,e3,r3⟩:=jo.yld i H2 F2 x H3 s2 V_.sub y hl
   rw[vn hd]at w2
   refine⟨F3,ρ2,d,V_.step e3,r3,(aB.bind.mp w2).imp λρ3 _ w3 σ4 H4 F4 s4 r4=>⟨F4,ρ3,r4,(aB.bind.mp w3).imp λo _ w4=> ?_⟩⟩
   have X8:aO F2 F4:=e3.grow.trans s4
   cases o with
   |nx ρ5=>exact λσ' H' F' s' r'=>⟨F',ρ5,r',X8.trans s',w4.imp λo _ k=>k.mono (X8.trans s')⟩
   |cnt ρ5=>exact λσ' H' F' s' r'=>⟨F',ρ5,r',X8.trans s',w4.imp λo _ k=>k.mono (X8.trans s')⟩
   |brk ρ5=>exact λσ' H' F' s' r'=>w4 σ' H' F' (X8.trans s') r'
   |ret d=>exact λv H' F' s' e' r'=>w4 v H' F' (X8.trans s') e' r'
   |retc d ρ5=>exact λv σ' H' F' s' e' r'=>w4 v σ' H' F' (X8.trans s') e' r'
 ·have e:i=ds.length:=by omega
  subst e
  rw[Qj]at w2
  exact .inl ⟨jo.stop H2 (s2.trans V_.sub),w2 σ2 H2 F2 (aO.refl _) V_⟩
theorem Iw {tg iter:La} {body:List Ly} {fi:af->R (List D)} {g:D->af->R af} (hp:RG (Lh X.prog X.w) X.A X.env X.xe) (hc:X.calm=true) (hi:BU ly X tg iter fi) (hg:Ab ly X tg g) (hb:jP ly X body gb)
  (hs:∀x,Mq iter X.env x=pure x:=by intro _;rfl):d_ ly X (.For tg iter body [] pos) (d7 fi g gb):=⟨λc=>PS.weak (Fg hp hc (hi c) (hg c) (hb c) hs) λD σ H h=>G8 h⟩
def bP (gt:af->R Bool) (gb:af->R aW):Nat->af->R aW
 |0,_=> .bad
 |n+1,ρ=>gt ρ>>=λb=>if b=true then (gb ρ>>=λo=>match o with
   | .nx ρ2=>bP gt gb n ρ2
   | .cnt ρ2=>bP gt gb n ρ2
   | .brk ρ2=> .ok (.nx ρ2)
   | .ret d=> .ok (.ret d)
   | .retc d ρ2=> .ok (.retc d ρ2))else .ok (.nx ρ)
theorem Ac {K:KU} {c:cQ ly} {D':mJ} {σ:St} {H:Hp} {n:Nat} (h:tS K c (bP gt gb n) D' σ H):zo (tT K c gt) (tS K c gb) D' σ H:=by
 obtain⟨F,ρ,ri,w⟩:=h
 refine⟨λm σ H=>∃F2 ρ2,RI K c ρ2 σ H F2/\aB c (bP gt gb m ρ2) (gI K c F2 D'),⟨n,F,ρ,ri,w⟩,?_⟩
 rintro m σ2 H2 ⟨F2,ρ2,V_,w2⟩
 cases m with
 |zero=>exact w2.elim
 |succ m=>
  refine⟨F2,ρ2,V_,(aB.bind.mp w2).imp λb _ w3 H3 F3 e3=> ?_⟩
  cases b with
  |false=>exact w3 σ2 H3 F3 e3.grow (V_.step e3)
  |true=>
   refine⟨λσ' H'=>∃F4 ρ4,RI K c ρ4 σ' H' F4/\aB c (bP gt gb m ρ4) (gI K c F4 D'),λσ' H' k=>⟨m,NY _,k⟩,F3,ρ2,V_.step e3,(aB.bind.mp w3).imp λo _ w4=> ?_⟩
   cases o with
   |nx ρ5=>exact λσ' H' F' s' r'=>⟨F',ρ5,r',w4.imp λo _ k=>k.mono (e3.grow.trans s')⟩
   |cnt ρ5=>exact λσ' H' F' s' r'=>⟨F',ρ5,r',w4.imp λo _ k=>k.mono (e3.grow.trans s')⟩
   |brk ρ5=>exact λσ' H' F' s' r'=>w4 σ' H' F' (e3.grow.trans s') r'
   |ret d=>exact λv H' F' s' e' r'=>w4 v H' F' (e3.grow.trans s') e' r'
   |retc d ρ5=>exact λv σ' H' F' s' e' r'=>w4 v σ' H' F' (e3.grow.trans s') e' r'
theorem D7 {body:List Ly} (n:Nat) (hp:RG (Lh X.prog X.w) X.A X.env X.xe) (hc:lK ly X e gt) (hb:jP ly X body gb):d_ ly X (.While e body [] pos) (bP gt gb n):=⟨λc=>PS.weak (zp hp (hc c) (hb c)) λD σ H h=>Ac h⟩
theorem ye {K:KU} {F:Hp} {a:KZ} {vs:List V} {ds:List D} (h:F a=some (.lst vs)) (r:Reps K F vs ds):vm K F (J8 K a) ds where
 go:=λi H s hi=>⟨vs,vs[i]'(by rw[r.length];exact hi),d6.of (s _ _ h),by simp[r.length,hi]⟩
 stop:=λH s=>⟨vs,d6.of (s _ _ h),Q5 r.length⟩
 yld:=λi H F1 x H' s1 s2 y hi=>by
  obtain⟨rfl,y⟩:=y
  have:=y vs (d6.of (s2 _ _ (s1 _ _ h)))
  obtain⟨d,hd,rd⟩:=r.get' this
  exact⟨F1,d,hd,bf.refl s2,rd.mono s1⟩
theorem Ad {K:KU} {F:Hp} {a:KZ} {vs:List V} {ds:List D} (h:F a=some (.tup vs)) (r:Reps K F vs ds):vm K F (JB K a) ds where
 go:=λi H s hi=>⟨vs,vs[i]'(by rw[r.length];exact hi),fS.of (s _ _ h),by simp[r.length,hi]⟩
 stop:=λH s=>⟨vs,fS.of (s _ _ h),Q5 r.length⟩
 yld:=λi H F1 x H' s1 s2 y hi=>by
  obtain⟨rfl,y⟩:=y
  have:=y vs (fS.of (s2 _ _ (s1 _ _ h)))
  obtain⟨d,hd,rd⟩:=r.get' this
  exact⟨F1,d,hd,bf.refl s2,rd.mono s1⟩
def bg (f:af->R D):af->R (List D):=λρ=>f ρ>>=λd=>match d with
 | .lst ds=> .ok ds
 | .tup ds=> .ok ds
 | .scr ns=> .ok (ns.map .int)
 |_=> .bad
theorem Ae {K:KU} {F:Hp} {a:KZ} {ns:List Int} (h:d6 K F a (ns.map V.int)):vm K F (J8 K a) (ns.map .int)where
 go:=λi H s hi=>⟨ns.map V.int,(ns.map V.int)[i]'(by simpa using hi),s.seq h,by simp at hi;simp[hi]⟩
 stop:=λH s=>⟨ns.map V.int,s.seq h,by simp⟩
 yld:=λi H F1 x H' s1 s2 y hi=>by
  obtain⟨rfl,y⟩:=y
  have:=y (ns.map V.int) ((s1.trans s2).seq h)
  rw[LA]at this
  cases e:ns[i]? with
  |none=>rw[e]at this;cases this
  |some n=>rw[e]at this;cases this;exact⟨F1, .int n,by rw[LA,e];rfl,bf.refl s2, .int n⟩
theorem Iy {tg:La} (h:PQ ly X e f):BU ly X tg e (bg f):=by
 intro c Tc s σ H Rk I q
 obtain⟨F,ρ,ri,w⟩:=q
 have w':=aB.bind.mp w
 cases hf:f ρ with
 |bad=>rw[hf]at w';exact w'.elim
 |err er ρe=>
  rw[hf]at w'
  exact rP (h c) Tc s σ H Rk I ⟨F,ρ,ri,by rw[hf];exact w'⟩
 |ok d=>
  rw[hf]at w'
  cases d with
  |lst ds=>exact rP (h c) Tc s σ H Rk I ⟨F,ρ,ri,by
    rw[hf]
    intro v H1 F1 e1 r1
    cases r1 with
    |lst h1 h2=>exact⟨_,rfl,⟨_,d6.of (e1.sub _ _ h1)⟩,w' _ H1 F1 e1 (ye h1 h2)⟩⟩
  |tup ds=>exact Ff (h c) Tc s σ H Rk I ⟨F,ρ,ri,by
    rw[hf]
    intro v H1 F1 e1 r1
    cases r1 with
    |tup h1 h2=>exact⟨_,rfl,⟨_,fS.of (e1.sub _ _ h1)⟩,w' _ H1 F1 e1 (Ad h1 h2)⟩⟩
  |scr ns=>exact rP (h c) Tc s σ H Rk I ⟨F,ρ,ri,by
    rw[hf]
    intro v H1 F1 e1 r1
    cases r1 with
    |scr h1=>exact⟨_,rfl,⟨_,e1.sub.seq h1⟩,w' _ H1 F1 e1 (Ae h1)⟩⟩
  |_=>exact w'.elim
def fX (lo hi:Int):List D:=(LU (hi - lo).toNat).map λk:Nat=>D.int (lo+(k:Int))
theorem p9 {K:KU} {F:Hp} {lo hi:Int}:vm K F (Ho lo (hi - lo).toNat) (fX lo hi)where
 go:=λi H s h=>by
  rw[fX,L4,N3]at h
  exact h
 stop:=λH s=>by show (hi - lo).toNat<=_;rw[fX,L4,N3];exact Li _
 yld:=λi H F1 x H' s1 s2 y h=>by
  obtain⟨rfl,rfl⟩:=y
  have h':i<(hi - lo).toNat:=by rw[fX,L4,N3]at h;exact h
  exact⟨F1, .int (lo+i),by rw[fX,LA,Ry h'];rfl,bf.refl s2, .int _⟩
def du (f:af->R (List D)):af->R (List D):=λρ=>f ρ>>=λds=>match ds with
 |[.int j]=>if j.natAbs<=lim then .ok (fX 0 j)else .bad
 |_=> .bad
def lV (f:af->R (List D)):af->R (List D):=λρ=>f ρ>>=λds=>match ds with
 |[.int i, .int j]=>if i.natAbs<=lim/\j.natAbs<=lim then .ok (fX i j)else .bad
 |_=> .bad
theorem dv {j:Int} (h:j.natAbs<=lim): -(2 ^62)<=j/\j<2 ^62:=by
 unfold lim at h
 omega
theorem Af {tg:La} {p:LF} (hm:X.mg "range"=none) (ha:sY ly X [a] fs) (hg:Gl X "range":=by rfl) (hs:L6 [a] X.env=[(false,Ls a X.env)]:=by rfl):BU ly X tg (.Call (.Name "range" p) [a] [] pos) (du fs):=λc=>
 PI.weak (xB hg hm (ha c) hs) λσ H Rk ⟨F,ρ,ri,w⟩=>⟨F,ρ,ri,(aB.bind.mp w).imp λds _ w1 vs H1 F1 e1 r1=>by
  split at w1
  ·split at w1
   ·rename_i j _ hj
    cases r1.int1
    exact⟨j,rfl,(dv hj).1,(dv hj).2,w1 _ H1 F1 e1 (by simpa using p9 (K:=X.K) (F:=F1) (lo:=0) (hi:=j))⟩
   ·exact w1.elim
  ·exact w1.elim⟩
theorem Ag {tg:La} {p:LF} (hm:X.mg "range"=none) (ha:sY ly X [a,b] fs) (hg:Gl X "range":=by rfl) (hs:L6 [a,b] X.env=[(false,Ls a X.env),(false,Ls b X.env)]:=by rfl) (Wd:L6 [b] X.env=[(false,Ls b X.env)]:=by rfl):BU ly X tg (.Call (.Name "range" p) [a,b] [] pos) (lV fs):=λc=>
 PI.weak (xC hg hm (ha c) hs Wd) λσ H Rk ⟨F,ρ,ri,w⟩=>⟨F,ρ,ri,(aB.bind.mp w).imp λds _ w1 vs H1 F1 e1 r1=>by
  split at w1
  ·split at w1
   ·rename_i i j _ hj
    cases r1.int2
    exact⟨i,j,rfl,⟨(dv hj.1).1,(dv hj.1).2,(dv hj.2).1,(dv hj.2).2⟩,w1 _ H1 F1 e1 p9⟩
   ·exact w1.elim
  ·exact w1.elim⟩
end
def cZ (n:Nat) (ds:List D):af:=ds.map (λd=>some (.val d))++LC (n - ds.length) none
def aC (k n:Nat) (g:af->R aW) (ds:List D):R D:=if ds.length=k then g (cZ n ds)>>=λo=>match o with
 | .ret d=> .ok d
 | .nx _=> .ok .non
 |_=> .bad else .bad
theorem Ah {K:KU} {N:List L0} {H F:Hp} {vs:List V} {ds:List D} {Er:L0->af->Prop} (s:aO F H) (r:Reps K F vs ds):RI K (⟨H,F,λ_=>none,Er,λ_=>none,λ_=>none⟩:cQ []) (cZ N.length ds) (cn N vs) H F:=by
 have hv:∀(i:Nat) sl,(cZ N.length ds)[i]? =some (some sl)->∃d,ds[i]? =some d/\sl= .val d:=λi sl h=>by
  unfold cZ at h
  rw[Rj]at h
  split at h
  ·rw[LA]at h
   cases e:ds[i]? with
   |none=>rw[e]at h;cases h
   |some d=>rw[e]at h;simp at h;exact⟨d,rfl,h.symm⟩
  ·rw[N7]at h
   split at h<;>simp at h
 refine⟨bf.refl s,λi d h=> ?_,λi d h=> ?_,λi d h=> ?_,(λb o e=>by cases e),λi j d d' a h=> ?_,?_,(λL h=>by cases h),(λL h=>by cases h),(λ_ _ e=>by cases e), .no λi x Tq f hs h=>(by obtain⟨d,_,z⟩:=hv i _ h;cases z),λL h=>by cases h⟩
 ·obtain⟨d',e,z⟩:=hv i _ h
  cases z
  obtain⟨v,h1,h2⟩:=r.get e
  refine⟨v,?_,h2⟩
  unfold cn
  have hl:i<vs.length:=(Lx.mp h1).1
  rw[Oa (by simpa using hl),LA,h1]
  rfl
 ·obtain⟨d',_,z⟩:=hv i _ h;cases z
 ·obtain⟨d',_,z⟩:=hv i _ h;cases z
 ·obtain⟨d',_,z⟩:=hv i _ h;cases z
 ·simp[cZ,cn,r.length]
theorem HX {P:Lb} {w:Ll} {K:KU} {mg:L0->Option KW} {base:Lj} {x qual:L0} {st:Ly} {f:KZ} {fd:MD} {N ps:List L0} {k:Nat} {sp:Sp} (F:y_ K x qual st f fd) (S:bd N ps (aA st)) (len:∀vs H Q E,sp vs H Q E->vs.length=ps.length)
  (Tr:∀(Tg:KW) (A:LD) (outer:List MU) (s:KY) (H:Hp) (vs:List V) (Q:VK) (E:XK),cw k (A.deeper (NG qual (aA st) s.heap.objs.size f Tg))->sp vs H Q E->
   ∃t,qe (jG (og P w) P w K mg base N qual (aA st) f Tg A outer s H E) (bi st) t/\t {nx:=λ_ H'=>Q .non H',rt:=Q} (cn N vs) H):eY P w K mg base (og P w) (k+1) f fd ps sp:=by
 obtain⟨oc,od,kV,TF,pm,an,Tg,ct,Uq,rfl,lk,Ua⟩:=F.ex
 exact Em lk Ua S len λA outer s H vs Q E hr W9=>Tr Tg A outer s H vs Q E hr W9
theorem Ai {P:Lb} {w:Ll} {K:KU} {mg:L0->Option KW} {base:Lj} {N:List L0} {qual:L0} {scope:MO} {f:KZ} {cd:KW} {A:LD} {outer:List MU} {s0:KY} {H0:Hp} {E:XK} {c:cQ ly}
  (h:∀x ρ,c.Er x ρ->∀cls a H' F' σ,fc K x cls->RI K c ρ σ H' F'->E cls a H'):H9 (jG (og P w) P w K mg base N qual scope f cd A outer s0 H0 E) c:=
 .inl ⟨tK,λTc σ ρ H F s a cls x I ri fl ec er=>vi I fl (h x ρ er cls (some a) H F σ ec ri)⟩
theorem G9 {P:Lb} {w:Ll} {K:KU} {mg:L0->Option KW} {base:Lj} {x qual:L0} {st:Ly} {f:KZ} {fd:MD} {N ps:List L0} {k n m:Nat} {g:af->R aW} (F:y_ K x qual st f fd) (S:bd N ps (aA st)) (hn:ps.length=n) (hm:N.length=m)
  (Tr:∀(Tg:KW) (A:LD) (outer:List MU) (s:KY) (H:Hp) (E:XK),cw k (A.deeper (NG qual (aA st) s.heap.objs.size f Tg))->
   jP [] (jG (og P w) P w K mg base N qual (aA st) f Tg A outer s H E) (bi st) g):eY P w K mg base (og P w) (k+1) f fd ps (yc K n (aC n m g)):=by
 refine HX F S (λvs H Q E h=>by rw[hn];exact h.1) (λTg A outer s H vs Q E hr h=> ?_)
 obtain⟨hl,Fz,ds,sub,r,w⟩:=h
 refine⟨_,Tr Tg A outer s H E hr ⟨⟨H,Fz,λ_=>none,λx _=>∀cls a H' F',fc K x cls->bf H Fz H' F'->E cls a H',λ_=>none,λ_=>none⟩,Ai λx ρ er cls a H' F' σ ec ri=>er cls a H' F' ec ri.ext⟩,?_⟩
 refine⟨Fz,cZ m ds,by rw[<-hm];exact Ah sub r,?_⟩
 have hd:ds.length=n:=by rw[<-r.length];exact hl
 unfold aC at w
 rw[if_pos hd]at w
 cases e:g (cZ m ds)with
 |bad=>rw[e]at w;exact w.elim
 |err c ρ=>rw[e]at w;exact w
 |ok o=>
  rw[e]at w
  cases o with
  |ret d=>exact λv H' F' _ e' r'=>w v H' F' e' r'
  |nx ρ=>exact λσ' H' F' _ r'=>w .non H' F' r'.ext .non
  |retc d ρ=>exact w.elim
  |brk ρ=>exact w.elim
  |cnt ρ=>exact w.elim
end L2.Pu
namespace L2.Pu
open PySem PySem.Spec PyProof.Rows
variable {ly:List cY}
def Slot.toBor:Slot->Slot
 | .val d=> .val d
 | .own d=> .bor d
 | .bor d=> .bor d
 | .obj=> .obj
 | .cel .. => .obj
def gJ (N:List L0) (names:List (L0×Mf)) (ρ:af):af:=
 names.map λx=>if x.2= .free then ((N.findIdx? (·==x.1)).bind λi=>(ρ[i]?).join.map Slot.toBor)else none
theorem Ey {K:KU} {c:cQ ly} {ρ:af} {σ:St} {H F H1 F1:Hp} {N:List L0} {names:List (L0×Mf)} {p:KZ} {o:HO} (ri:RI K c ρ σ H F) (e:bf H F H1 F1) (hp:H1 p=none):
  RI K (⟨a_ H1 p o,F1,H1,λ_ _=>False,λ_=>none,λ_=>none⟩:cQ []) (gJ N names ρ) (lP N names σ) (a_ H1 p o) F1:=by
 have r1:=ri.step e
 have Td:∀(i:Nat) sl,(gJ N names ρ)[i]? =some (some sl)->∃(j:Nat) (Wq:Slot),ρ[j]? =some (some Wq)/\sl=Wq.toBor/\∀v,σ[j]? =some (some v)->(lP N names σ)[i]? =some (some v):=λi sl h=>by
  unfold gJ at h
  rw[LA]at h
  cases en:names[i]? with
  |none=>rw[en]at h;cases h
  |some y=>
   rw[en]at h
   simp only[NJ,PX]at h
   by_cases hf:y.2= .free
   ·rw[if_pos hf]at h
    cases ei:N.findIdx? (·==y.1)with
    |none=>rw[ei]at h;cases h
    |some j=>
     rw[ei]at h
     cases e2:ρ[j]? with
     |none=>simp[e2]at h
     |some u=>
      cases u with
      |none=>simp[e2]at h
      |some Wq=>
       simp[e2]at h
       refine⟨j,Wq,e2,h.symm,λv hv=> ?_⟩
       unfold lP
       rw[LA,en]
       simp only[NJ,PX]
       rw[if_pos hf,ei]
       show (σ[j]?).join=some v
       rw[hv];rfl
   ·rw[if_neg hf]at h;cases h
 refine⟨bf.refl (r1.sub.trans (bM hp)),λi d h=> ?_,λi d h=> ?_,λi d h=> ?_,bM hp,λi j d d' a h=> ?_,by simp[gJ,lP],(λL h=>by cases h),(λL h=>by cases h),(λ_ _ e=>by cases e), .no λi x Tq f hs h=>(by obtain⟨j,sl,h1,h2,h3⟩:=Td i _ h;cases sl<;>cases h2),λL h=>by cases h⟩
 ·obtain⟨j,sl,h1,h2,h3⟩:=Td i _ h
  cases sl with
  |val d'=>cases h2;obtain⟨v,k1,k2⟩:=r1.val j d h1;exact⟨v,h3 v k1,k2⟩
  |own d'=>cases h2
  |bor d'=>cases h2
  |obj=>cases h2
  |cel=>cases h2
 ·obtain⟨j,sl,h1,h2,h3⟩:=Td i _ h;cases sl<;>cases h2
 ·obtain⟨j,sl,h1,h2,h3⟩:=Td i _ h
  cases sl with
  |val d'=>cases h2
  |own d'=>cases h2;obtain⟨a,o,k1,k2,k3,k4,k5⟩:=r1.own j d h1;exact⟨a,o,h3 _ k1,k2,k5⟩
  |bor d'=>cases h2;obtain⟨a,o,k1,k2,k3⟩:=r1.bor j d h1;exact⟨a,o,h3 _ k1,r1.ext.keep _ _ (r1.bh _ _ k2),k3.mono r1.ext.grow⟩
  |obj=>cases h2
  |cel=>cases h2
 ·obtain⟨k,sl,h1,h2,h3⟩:=Td i _ h;cases sl<;>cases h2
theorem RI.bump {K:KU} {ρ:af} {σ:St} {H F H1 F1:Hp} {p:KZ} {o o':HO} {Er:L0->af->Prop} (r:RI K (⟨a_ H1 p o,F1,H1,Er,λ_=>none,λ_=>none⟩:cQ []) ρ σ H F) (hp:H1 p=none) (hF:F p=none):
  RI K (⟨a_ H1 p o',F1,H1,Er,λ_=>none,λ_=>none⟩:cQ []) ρ σ (a_ H p o') F:=by
 refine⟨⟨λb u e=> ?_,λb u e=> ?_,r.ext.grow,λb e=> ?_⟩,r.val,λi d h=> ?_,r.bor,bM hp,r.dis,r.len,(λL h=>by cases h),(λL h=>by cases h),(λ_ _ e=>by cases e),⟨λi x Tq f hs h=> ?_,r.cel.one⟩,λL h=>by cases h⟩
 ·rw[au (λz=>by rw[z,hF]at e;cases e)];exact r.sub b u e
 ·change a_ H1 p o' b=some u at e
  by_cases z:b=p
  ·subst z;rw[aq]at e ⊢;exact e
  ·rw[au z]at e ⊢;exact r.ext.keep b u (by show a_ H1 p o b=some u;rw[au z];exact e)
 ·by_cases z:b=p
  ·subst z;exact absurd hF e
  ·rcases r.ext.new b e with q|q
   ·exact .inl q
   ·refine .inr ?_
    change a_ H1 p o b=none at q
    show a_ H1 p o' b=none
    rw[au z]at q ⊢;exact q
 ·obtain⟨a,u,h1,h2,h3,h4,h5⟩:=r.own i d h
  change a_ H1 p o a=none at h4
  have z:a≠p:=λz=>by subst z;rw[aq]at h4;cases h4
  refine⟨a,u,h1,by rw[au z];exact h2,h3,?_,h5⟩
  show a_ H1 p o' a=none
  rw[au z]at h4 ⊢;exact h4
 ·obtain⟨a,dx,b,h1,h2,h3⟩:=r.cel.ex i x Tq f hs h
  obtain⟨C,fs,vs,us,g1,g2,g3,g4,g5⟩:=h2.ex
  have Td:∀{z:KZ},a_ H1 p o z=none->z≠p/\a_ H1 p o' z=none:=λ{z} e=>by
   have n:z≠p:=λq=>by subst q;rw[aq]at e;cases e
   exact⟨n,by rw[au n]at e ⊢;exact e⟩
  obtain⟨na,ea⟩:=Td h2.za
  obtain⟨nd,ed⟩:=Td h2.zd
  obtain⟨nb,eb⟩:=Td h2.zb
  exact⟨a,dx,b,h1,⟨⟨C,fs,vs,us,by rw[au na];exact g1,g2,g3,by rw[au nb];exact g4,g5⟩,by rw[au nd];exact h2.own,h2.fa,h2.fd,h2.fb,ea,ed,eb⟩,h3⟩
def de (g:D->af->R af) (gt:af->R Bool) (fe:af->R D):List D->af->R (List D)
 |[],_=> .ok []
 |d::r,τ=>g d τ>>=λτ1=>gt τ1>>=λb=>if b=true then (fe τ1>>=λy=>de g gt fe r τ1>>=λys=> .ok (y::ys))else de g gt fe r τ1
def Jg (K:KU) (g:D->af->R af):TG:=λv σ H Q=>∃c:cQ [],(∀e ρ,¬c.Er e ρ)/\tG K c g v σ H Q
def Jh (K:KU) (g:af->R Bool):TT:=λσ H Q=>∃c:cQ [],(∀e ρ,¬c.Er e ρ)/\tT K c g σ H Q
def Kj (K:KU) (g:af->R D):TE:=λσ H Q=>∃c:cQ [],(∀e ρ,¬c.Er e ρ)/\tQ K c g σ H Q
def tO (ly:List cY) (X:Cx) (TH:List La) (gt:af->R Bool):Prop:=∀c:eA ly X,zR X TH (tT X.K c.1 gt)
def iO:af->R Bool:=λ_=> .ok true
theorem Ga {X:Cx}:tO ly X [] iO:=λc Tc s σ H Q I q=>by
 obtain⟨F,ρ,ri,w⟩:=q
 exact CH Tc s σ H Q I (w H F (bf.refl ri.sub))
theorem Gb {X:Cx} {c:La} {gt:af->R Bool} (h:lK ly X c gt):tO ly X [c] gt:=λc=>CI (h c)
theorem fI {α β:Type} {r:R α} {f:α->R β} {b:β} (h:(r>>=f)= .ok b):∃a,r= .ok a/\f a= .ok b:=by
 cases r with
 |ok a=>exact⟨a,rfl,h⟩
 |err c ρ=>cases h
 |bad=>cases h
theorem lp {K:KU} {c:cQ ly} {ρ:af} {σ:St} {H F H1 F1:Hp} {N:List L0} {names:List (L0×Mf)} {p:KZ} {g:D->af->R af} {gt:af->R Bool} {fe:af->R D} {J:It} {ds es:List D} {Q:Hp->Prop}
  (ri:RI K c ρ σ H F) (e:bf H F H1 F1) (jo:vm K F1 J ds) (hp:H1 p=none) (hl:ds.length<=lim) (he:de g gt fe ds (gJ N names ρ)= .ok es)
  (k:∀H2 F2 vs,bf H1 F1 H2 F2->H2 p=some (.lst vs)->F2 p=none->Reps K F2 vs es->Q H2):
  iM J (Jg K g) (Jh K gt) (Kj K fe) p (lP N names σ) Q (a_ H1 p (.lst [])):=by
 have s1:aO F1 H1:=e.sub
 have f1:F1 p=none:=s1.free hp
 refine⟨λi m ys τ H=>∃F ρ' pre rest,RI K (⟨a_ H1 p (.lst ys),F1,H1,λ_ _=>False,λ_=>none,λ_=>none⟩:cQ []) ρ' τ H F/\Reps K F ys pre/\pre.length<=i/\m=ds.length - i/\i<=ds.length/\de g gt fe (ds.drop i) ρ'= .ok rest/\pre++rest=es,
  ⟨_,F1,_,[],es,Ey ri e hp, .nil,Li _,rfl,M6 _,he,rfl⟩,?_⟩
 rintro i m ys τ H2 ⟨F2,ρ',pre,rest,r2,rp,a1K,rfl,hi,hc,YK⟩
 have ZN:F2 p=none:=by
  cases q:F2 p with
  |none=>rfl
  |some u=>
   rcases r2.ext.new p (by rw[q];simp)with z|z
   ·exact absurd f1 z
   ·change a_ H1 p (.lst ys) p=none at z;rw[aq]at z;cases z
 have hD:∀{ρ' τ H F},RI K (⟨a_ H1 p (.lst ys),F1,H1,λ_ _=>False,λ_=>none,λ_=>none⟩:cQ []) ρ' τ H F->H p=some (.lst ys):=λr=>r.ext.keep p _ aq
 refine⟨hD r2,?_⟩
 by_cases TK:i<ds.length
 ·refine .inr ⟨jo.go i H2 (r2.ext.grow.trans r2.sub) TK,?_,λx H3 y=> ?_⟩
  ·have:=rp.length
   have:=dO
   omega
  ·obtain⟨F3,d,hd,e3,r3⟩:=jo.yld i H2 F2 x H3 r2.ext.grow r2.sub y TK
   obtain⟨Ur,ed⟩:=Lx.mp hd
   rw[MW Ur,ed]at hc
   obtain⟨τ1,h1,hc⟩:=fI (r:=g d ρ') hc
   obtain⟨b,h2,hc⟩:=fI (r:=gt τ1) hc
   refine⟨_,λe ρ h=>h,F3,ρ',d,r2.step e3,r3,?_⟩
   rw[h1]
   intro τ4 H4 F4 s4 r4
   refine⟨_,λe ρ h=>h,F4,τ1,r4,?_⟩
   rw[h2]
   intro H5 F5 e5
   cases b with
   |false=>
    exact⟨ds.length - (i+1),by omega,F5,τ1,pre,rest,r4.step e5,(rp.mono e3.grow).mono (s4.trans e5.grow),by omega,rfl,TK,hc,YK⟩
   |true=>
    rw[if_pos rfl]at hc ⊢
    obtain⟨y',h3,hc⟩:=fI (r:=fe τ1) hc
    obtain⟨a1L,h4,hc⟩:=fI (r:=de g gt fe (ds.drop (i+1)) τ1) hc
    cases hc
    refine⟨_,λe ρ h=>h,F5,τ1,r4.step e5,?_⟩
    rw[h3]
    intro v H6 F6 e6 r6
    have X9:=(r4.step e5).step e6
    refine⟨hD X9,ds.length - (i+1),by omega,F6,τ1,pre++[y'],a1L,X9.bump hp ?_,(((rp.mono e3.grow).mono (s4.trans e5.grow)).mono e6.grow).append (.cons r6 .nil),by simp;omega,rfl,TK,h4,by rw[<-YK];simp⟩
    cases q:F6 p with
    |none=>rfl
    |some u=>
     rcases X9.ext.new p (by rw[q];simp)with z|z
     ·exact absurd f1 z
     ·change a_ H1 p (.lst ys) p=none at z;rw[aq]at z;cases z
 ·have ei:i=ds.length:=by omega
  subst ei
  rw[Qj]at hc
  cases hc
  rw[Mb]at YK
  subst YK
  refine .inl ⟨jo.stop H2 (r2.ext.grow.trans r2.sub),k H2 F2 ys ⟨r2.sub,(bM hp).trans r2.ext.keep,r2.ext.grow,λa ha=> ?_⟩ (hD r2) ZN rp⟩
  rcases r2.ext.new a ha with z|z
  ·exact .inl z
  ·refine .inr ?_
   change a_ H1 p (.lst ys) a=none at z
   rw[au (λq=>by subst q;rw[aq]at z;cases z)]at z
   exact z
section
variable {X:Cx} {TJ tg iter:La} {TH:List La} {scope:MO} {pos:LF} {fi:af->R (List D)} {g:D->af->R af} {gt:af->R Bool} {fe:af->R D}
def dG (N:List L0) (names:List (L0×Mf)) (fi:af->R (List D)) (g:D->af->R af) (gt:af->R Bool) (fe:af->R D):af->R (List D):=λρ=>fi ρ>>=λds=>if ds.length<=lim then (match de g gt fe ds (gJ N names ρ)with
 | .ok es=> .ok es
 |_=> .bad)else .bad
def fL (f:af->R (List D)):af->R D:=λρ=>f ρ>>=λds=> .ok (.lst ds)
theorem Ji {X:Cx} (h:Ab [] X tg g):PG X tg (Jg X.K g):=λTc s σ H v u Q I r ⟨c,hn,q⟩=>h ⟨c, .no hn⟩ Tc s σ H v u Q I r q
theorem Jj {X:Cx} (h:tO [] X TH gt):zR X TH (Jh X.K gt):=λTc s σ H Q I ⟨c,hn,q⟩=>h ⟨c, .no hn⟩ Tc s σ H Q I q
theorem J_ {X:Cx} (h:PQ [] X TJ fe):PE X TJ (Kj X.K fe):=λTc s σ H Q I ⟨c,hn,q⟩=>h ⟨c, .no hn⟩ Tc s σ H Q I q
theorem Gc (S:bA X scope) (hc:X.calm=true) (hi:BU ly X tg iter fi) (hg:∀s H ex,Ab [] (bE X scope s H ex) tg g) (UB:∀s H ex,tO [] (bE X scope s H ex) TH gt) (Ux:∀s H ex,PQ [] (bE X scope s H ex) TJ fe)
  (hs:∀x,Mq iter X.env x=pure x:=by intro _;rfl):PQ ly X (.ListComp TJ [⟨tg,iter,TH,0⟩] scope pos) (fL (dG X.N scope.names fi g gt fe)):=⟨λc=>
 PE.weak (wA S hc (hi c) (λs H ex=>Ji (hg s H ex)) (λs H ex=>Jj (UB s H ex)) (λs H ex=>J_ (Ux s H ex)) hs) λσ H Q ⟨F,ρ,ri,w⟩=>by
  refine⟨F,ρ,ri,(aB.bind.mp (aB.bind.mp w)).imp λds _ w1 J H1 F1 e1 jo p hp=> ?_⟩
  split at w1
  ·rename_i hl
   split at w1
   ·rename_i es he
    refine lp ri e1 jo hp hl he λH2 F2 vs e2 VH Xa rv=> ?_
    have g2:aO F2 (a_ F2 p (.lst vs)):=bM Xa
    refine w1 (.ref p) H2 (a_ F2 p (.lst vs)) ⟨λb u eb=> ?_,e1.keep.trans e2.keep,(e1.grow.trans e2.grow).trans g2,λa ha=> ?_⟩ (.lst aq (rv.mono g2))
    ·by_cases z:b=p
     ·subst z;rw[aq]at eb;rw[VH];exact eb
     ·rw[au z]at eb;exact e2.sub b u eb
    ·by_cases z:a=p
     ·subst z;exact .inr (e1.keep.free hp)
     ·rw[au z]at ha
      exact(e1.trans e2).new a ha
   ·exact w1.elim
  ·exact w1.elim⟩
def jR (i:Nat) (f:af->R (List D)):af->R aW:=λρ=>f ρ>>=λds=> .ok (.nx (ρ.set i (some (.own (.lst ds)))))
theorem Gd (i:Nat) {y:L0} {py U4:LF} (S:bA X scope) (hc:X.calm=true) (hN:X.N.Nodup) (hi:BU ly X tg iter fi) (hg:∀s H ex,Ab [] (bE X scope s H ex) tg g) (UB:∀s H ex,tO [] (bE X scope s H ex) TH gt) (Ux:∀s H ex,PQ [] (bE X scope s H ex) TJ fe)
  (V8:X.N[i]? =some y:=by rfl) (hx:uS X.env.scope y:=by first|exact Mn rfl|exact L_ rfl) (hf:X.fn y=true\/X.env.scope.names.lookup y=some .local:=by first|exact .inl rfl|exact .inr rfl|assumption)
  (UZ:Mi (.ListComp TJ [⟨tg,iter,TH,0⟩] scope pos) (some (.Name y py)) U4.line X.env=pure true:=by rfl) (hs:∀x,Mq iter X.env x=pure x:=by intro _;rfl) (TY:jN ly i:=by(repeat (first|assumption|exact L2.Pu.cp|refine L2.Pu.free_cons ⟨by first|decide|simp,by first|decide|simp⟩ ?_))):
  d_ ly X (.Assign [.Name y py] (.ListComp TJ [⟨tg,iter,TH,0⟩] scope pos) U4) (jR i (dG X.N scope.names fi g gt fe)):=⟨λc=>
 PS.weak (CK S hc (hi c) (λs H ex=>Ji (hg s H ex)) (λs H ex=>Jj (UB s H ex)) (λs H ex=>J_ (Ux s H ex)) (rO hN V8 hx hf) UZ hs) λD σ H ⟨F,ρ,ri,w⟩=>by
  refine⟨F,ρ,ri,(aB.bind.mp (aB.bind.mp w)).imp λds _ w1 J H1 F1 e1 jo p hp=> ?_⟩
  split at w1
  ·rename_i hl
   split at w1
   ·rename_i es he
    refine lp ri e1 jo hp hl he λH2 F2 vs e2 VH Xa rv=> ?_
    refine w1 _ H2 F2 (e1.grow.trans e2.grow) ((ri.step (e1.trans e2)).setOwn i TY VH Xa (ri.ext.keep.free (e1.keep.free hp)) (.lst rv) (λj d' _ hj ej=> ?_) (ri.celNe (e1.trans e2).keep (e1.keep.free hp)))
    obtain⟨a,o,k1,k2,_⟩:=ri.own j d' hj
    rw[ej]at k1
    cases k1
    rw[e1.keep.free hp]at k2
    cases k2
   ·exact w1.elim
  ·exact w1.elim⟩
end
def bN:D->Option aL
 | .int i=>some (.inl i)
 | .str x=>some (.inr x)
 |_=>none
def aZ (kds:List (aL×D)) (k:aL):Option D:=(kds.find? λkv=>decide (kv.1=k)).map (·.2)
def gY (kds:List (aL×D)) (k:aL) (v:D):List (aL×D):=
 if (kds.any λkv=>decide (kv.1=k))=true then kds.map (λkv=>if kv.1=k then (kv.1,v)else kv)else kds++[(k,v)]
theorem dH {K:KU} {H F:Hp} {v:V} {d:D} {k:aL} (h:bN d=some k) (r:c9 K H F v d):v=kV k:=by
 cases d with
 |int i=>cases h;exact r.int
 |str x=>cases h;exact r.str
 |_=>cases h
section
variable {K:KU} {F:Hp}
theorem RepK.any (k:aL):∀{vs:List (aL×V)} {ds:List (aL×D)},RepK K F vs ds->(vs.any λkv=>decide (kv.1=k))=ds.any λkv=>decide (kv.1=k):=by
 intro vs ds
 induction ds generalizing vs with
 |nil=>intro h;rw[h.nilI];rfl
 |cons d ds ih=>
  intro h
  obtain⟨v,us,rfl,_,t⟩:=RepK.consI (k:=d.1) (d:=d.2) h
  rw[MS,MS,ih t]
theorem RepK.get (k:aL):∀{vs:List (aL×V)} {ds:List (aL×D)},RepK K F vs ds->(iK vs k=none/\aZ ds k=none)\/∃v d,iK vs k=some v/\aZ ds k=some d/\dg K F v d:=by
 intro vs ds
 induction ds generalizing vs with
 |nil=>intro h;rw[h.nilI];exact .inl ⟨rfl,rfl⟩
 |cons d ds ih=>
  intro h
  obtain⟨a,d⟩:=d
  obtain⟨v,vs,rfl,r,t⟩:=h.consI
  by_cases e:a=k
  ·exact .inr ⟨v,d,by simp[iK,e],by simp[aZ,e],r⟩
  ·have h1:iK ((a,v)::vs) k=iK vs k:=by simp[iK,e]
   have h2:aZ ((a,d)::ds) k=aZ ds k:=by simp[aZ,e]
   rw[h1,h2]
   exact ih t
theorem RepK.repl (k:aL) {v:V} {d:D} (h:dg K F v d):∀{vs:List (aL×V)} {ds:List (aL×D)},RepK K F vs ds->RepK K F (vs.map λkv=>if kv.1=k then (kv.1,v)else kv) (ds.map λkv=>if kv.1=k then (kv.1,d)else kv):=by
 intro vs ds
 induction ds generalizing vs with
 |nil=>intro h;rw[h.nilI];exact .nil
 |cons x ds ih=>
  intro g
  obtain⟨a,x⟩:=x
  obtain⟨y,vs,rfl,r,t⟩:=g.consI
  rw[L3,L3]
  by_cases e:a=k
  ·simp only[e,if_true];exact .cons h (ih t)
  ·simp only[e,if_false];exact .cons r (ih t)
theorem RepK.append:∀{vs us:List (aL×V)} {ds es:List (aL×D)},RepK K F vs ds->RepK K F us es->RepK K F (vs++us) (ds++es):=by
 intro vs us ds
 induction ds generalizing vs with
 |nil=>intro es h g;rw[h.nilI];exact g
 |cons x ds ih=>
  intro es h g
  obtain⟨a,x⟩:=x
  obtain⟨y,vs,rfl,r,t⟩:=h.consI
  exact .cons r (ih t g)
theorem RepK.put (k:aL) {v:V} {d:D} (h:dg K F v d) {vs:List (aL×V)} {ds:List (aL×D)} (r:RepK K F vs ds):RepK K F (iq vs k v) (gY ds k d):=by
 unfold iq gY
 rw[r.any k]
 split
 ·exact r.repl k h
 ·exact r.append (.cons h .nil)
end
theorem vo {kvs:List (aL×V)} {k:aL} (v:V) (hn:(kvs.map (·.1)).Nodup):((iq kvs k v).map (·.1)).Nodup:=by
 unfold iq
 split
 ·have e:(kvs.map λkv=>if kv.1=k then (kv.1,v)else kv).map (·.1)=kvs.map (·.1):=by
   rw[LY]
   refine Mp λkv _=> ?_
   show (if kv.1=k then (kv.1,v)else kv).1=kv.1
   split<;>rfl
  rw[e];exact hn
 ·rename_i h
  rw[LW]
  refine MA.mpr ⟨hn,by simp,λa ha b hb=> ?_⟩
  have eb:b=k:=by simpa using hb
  subst eb
  intro z
  subst z
  obtain⟨kv,h1,h2⟩:=Lk.mp ha
  exact h (NC.mpr ⟨kv,h1,by simp[h2]⟩)
section
variable {X:Cx} {a b e:La} {es:List La} {fa fb f fk fv:af->R D} {fs:af->R (List D)} {pos:LF}
def kW (i:Nat) (f:af->R D):af->R aW:=λρ=>match ρ[i]? with
 |some (some (.own (.lst ds)))=>f ρ>>=λd=>if ds.length<lim then .ok (.nx (ρ.set i (some (.own (.lst (ds++[d]))))))else .bad
 |_=> .bad
theorem RI.ownL {K:KU} {c:cQ ly} {ρ:af} {σ:St} {H F:Hp} (ri:RI K c ρ σ H F) {i:Nat} {ds:List D} (h:ρ[i]? =some (some (.own (.lst ds)))):∃a vs,σ[i]? =some (some (.ref a))/\H a=some (.lst vs)/\Reps K F vs ds:=by
 obtain⟨a,o,h1,h2,_,_,h5⟩:=ri.own i _ h
 cases h5 with
 |lst r=>exact⟨a,_,h1,h2,r⟩
theorem RI.ownD {K:KU} {c:cQ ly} {ρ:af} {σ:St} {H F:Hp} (ri:RI K c ρ σ H F) {i:Nat} {ds:List (aL×D)} (h:ρ[i]? =some (some (.own (.dic ds)))):∃a vs,σ[i]? =some (some (.ref a))/\H a=some (.dK vs)/\RepK K F vs ds/\(vs.map (·.1)).Nodup:=by
 obtain⟨a,o,h1,h2,_,_,h5⟩:=ri.own i _ h
 cases h5 with
 |dic r n=>exact⟨a,_,h1,h2,r,n⟩
theorem Aj (i:Nat) {x:L0} {px Th Tf:LF} (h:PQ ly X e f) (hN:X.N[i]? =some x:=by rfl) (hv:t4 X.env.scope x:=by first|exact Mn rfl|exact L_ (Mn rfl)|exact L_ (L_ rfl)) (hd:(x==("__debug__":L0))=false:=by decide)
  (Ua:(x==("__classdict__":L0))=false:=by decide) (T_:ML (.Name x px) "append" X.env (Ls (.Name x px) X.env)=Ls (.Name x px) X.env:=by rfl)
  (Vc:((LM Tf (L6 [e] X.env)).all (λx=> !x.1)&&(NN Tf (MX [] X.env)).all (λx=>x.1.isSome)
   &&decide (([e]:List La).length+([]:List O6).length+(if ([]:List O6).isEmpty then 0 else 1)<30))=true:=by rfl)
  (U0:(Th.endLine==Tf.line)=true:=by rfl) (hs:L6 [e] X.env=(false,Ls e X.env)::L6 [] X.env:=by rfl) (U6:(LM Tf (L6 [] X.env)).any (·.1)=false:=by rfl)
  (UZ:Mi (.Call (.Attribute (.Name x px) "append" Th) [e] [] Tf) none pos.line X.env=pure false:=by rfl):d_ ly X (.Expr (.Call (.Attribute (.Name x px) "append" Th) [e] [] Tf) pos) (kW i f):=⟨λc=>
 PS.weak (rN (zJ Qu PySem.F.slot_list_append PySem.F.type_list_append mO (pv i hN hv hd Ua) (eN (h c) iI hs) T_ Vc U0 hs U6) UZ) λD σ H ⟨F,ρ,ri,w⟩=>by
  unfold kW at w
  split at w
  ·rename_i ds hi
   obtain⟨a,vs,h1,h2,h3⟩:=ri.ownL hi
   refine⟨_,h1, .inl ⟨rfl,vs,d6.of h2⟩,F,ρ,ri,(aB.bind.mp w).imp λd _ w1 v H1 F1 e1 r1=> ?_⟩
   split at w1
   ·rename_i hl
    refine⟨a,vs,v,rfl,rfl,e1.keep _ _ h2,LJ (by rw[h3.length];exact hl) dO,?_⟩
    exact w1 σ _ F1 e1.grow ((ri.step e1).change (o:= .lst vs) hi h1 (.lst ((h3.mono e1.grow).append (.cons r1 .nil))))
   ·exact w1.elim
  ·exact w.elim⟩
def kX (i:Nat) (fk fv:af->R D):af->R aW:=λρ=>match ρ[i]? with
 |some (some (.own (.dic kds)))=>fv ρ>>=λv=>fk ρ>>=λk=>match bN k with
  |some Td=>if kds.length<lim then .ok (.nx (ρ.set i (some (.own (.dic (gY kds Td v))))))else .bad
  |none=> .bad
 |some (some (.own (.lst ds)))=>fv ρ>>=λv=>fk ρ>>=λk=>match k with
  | .int j=>(match t9 ds.length j with
   |some n=> .ok (.nx (ρ.set i (some (.own (.lst (ds.set n v))))))
   |none=> .bad)
  |_=> .bad
 |_=> .bad
theorem Iz (i:Nat) {x:L0} {px Tj:LF} (hu:X.A.units+1<Nh) (hk:PQ ly X a fk) (h:PQ ly X e fv) (hN:X.N[i]? =some x:=by rfl) (hv:t4 X.env.scope x:=by first|exact Mn rfl|exact L_ (Mn rfl)|exact L_ (L_ rfl)) (hd:(x==("__debug__":L0))=false:=by decide)
  (Ua:(x==("__classdict__":L0))=false:=by decide) (hs:Mi e (some (.Subscript (.Name x px) a Tj)) pos.line X.env=pure false:=by rfl)
  (ha:∀v,Ny (.Subscript (.Name x px) a Tj) X.env v=(do
   let ov<-N9 [v] (Ls (.Name x px) X.env)
   let iv<-N9 [v,ov] (Ls a X.env)
   OM Tj
   N9 [v,ov,iv] (QP ov iv v)
   SO [v,ov,iv] []):=by intro _;rfl)
  (Wd:O0 [.Subscript (.Name x px) a Tj] e pos.line X.env=pure false:=by rfl) (hw:O1 [.Subscript (.Name x px) a Tj] e X.env=pure none:=by rfl)
  (h1:(M9 [.Subscript (.Name x px) a Tj] X.env).map (·.2)=[Ny (.Subscript (.Name x px) a Tj) X.env]:=by rfl):d_ ly X (.Assign [.Subscript (.Name x px) a Tj] e pos) (kX i fk fv):=by
 refine⟨?_⟩
 intro c Tc s σ H D I q
 obtain⟨F,ρ,ri,w⟩:=q
 unfold kX at w
 split at w
 ·rename_i kds hi
  obtain⟨p,vs,g1,g2,g3,g4⟩:=ri.ownD hi
  refine CB hu (pv i hN hv hd Ua) (hk c) (h c) hs Tc s σ H D I ⟨F,ρ,ri,(aB.bind.mp w).imp λd _ w1 v H1 F1 e1 r1=> ?_⟩
  refine⟨_,g1,F1,ρ,ri.step e1,(aB.bind.mp w1).imp λk _ w2 u H2 F2 e2 r2=> ?_⟩
  cases Us:bN k with
  |none=>rw[Us]at w2;exact w2.elim
  |some Td=>
   rw[Us]at w2
   cases dH (H:=H2) Us (.inl r2)
   dsimp only at w2
   split at w2
   ·rename_i hl
    have Vn:=e1.trans e2
    refine⟨p,_,rfl,rW.k (k:=Td) (Vn.keep _ _ g2) (LJ (by rw[g3.length];exact hl) dO),?_⟩
    exact w2 σ _ F2 Vn.grow ((ri.step Vn).change (o:= .dK vs) hi g1 (.dic ((g3.mono Vn.grow).put Td (r1.mono e2.grow)) (vo _ g4)))
   ·exact w2.elim
 ·rename_i ds hi
  obtain⟨p,vs,g1,g2,g3⟩:=ri.ownL hi
  refine uU (h c) (Fb (pv i hN hv hd Ua) (hk c) zG ha) Wd hw h1 Tc s σ H D I ⟨F,ρ,ri,(aB.bind.mp w).imp λd _ w1 v H1 F1 e1 r1=> ?_⟩
  refine⟨_,g1,F1,ρ,ri.step e1,(aB.bind.mp w1).imp λk _ w2 u H2 F2 e2 r2=> ?_⟩
  cases k with
  |int j=>
   cases r2
   dsimp only at w2
   split at w2
   ·rename_i n hn
    have Vn:=e1.trans e2
    refine⟨p,vs,j,n,rfl,rfl,Vn.keep _ _ g2,by rw[g3.length];exact hn,?_⟩
    exact w2 σ _ F2 Vn.grow ((ri.step Vn).change (o:= .lst vs) hi g1 (.lst ((g3.mono Vn.grow).set n (r1.mono e2.grow))))
   ·exact w2.elim
  |_=>exact w2.elim
 ·exact w.elim
def yf (j i:Nat) (fk:af->R D):af->R aW:=λρ=>match ρ[i]? with
 |some (some (.own (.lst ds)))=>fk ρ>>=λk=>match k with
  | .int n=>if n.natAbs<=lim then (match Pj n ds.length with
   |some m=>(match ds[m]? with
    |some d=> .ok (.nx ((ρ.set i (some (.own (.lst (ds.eraseIdx m))))).set j (some (.val d))))
    |none=> .bad)
   |none=> .bad)else .bad
  |_=> .bad
 |_=> .bad
theorem IA (j i:Nat) {x y:L0} {px Th Tf Tj:LF} (a1M:X.N.Nodup) (h:PQ ly X e f) (hN:X.N[i]? =some x:=by rfl) (hv:t4 X.env.scope x:=by first|exact Mn rfl|exact L_ (Mn rfl)|exact L_ (L_ rfl)) (hd:(x==("__debug__":L0))=false:=by decide)
  (Ua:(x==("__classdict__":L0))=false:=by decide) (T_:ML (.Name x px) "pop" X.env (Ls (.Name x px) X.env)=Ls (.Name x px) X.env:=by rfl)
  (Vc:((LM Tf (L6 [e] X.env)).all (λx=> !x.1)&&(NN Tf (MX [] X.env)).all (λx=>x.1.isSome)
   &&decide (([e]:List La).length+([]:List O6).length+(if ([]:List O6).isEmpty then 0 else 1)<30))=true:=by rfl)
  (U0:(Th.endLine==Tf.line)=true:=by rfl) (hs:L6 [e] X.env=(false,Ls e X.env)::L6 [] X.env:=by rfl) (U6:(LM Tf (L6 [] X.env)).any (·.1)=false:=by rfl)
  (a1N:X.N[j]? =some y:=by rfl) (hx:uS X.env.scope y:=by first|exact Mn rfl|exact L_ rfl) (UZ:Mi (.Call (.Attribute (.Name x px) "pop" Th) [e] [] Tf) (some (.Name y Tj)) pos.line X.env=pure false:=by rfl)
  (hf:X.fn y=true\/X.env.scope.names.lookup y=some .local:=by first|exact .inl rfl|exact .inr rfl|assumption) (TY:jN ly j:=by(repeat (first|assumption|exact L2.Pu.cp|refine L2.Pu.free_cons ⟨by first|decide|simp,by first|decide|simp⟩ ?_))):d_ ly X (.Assign [.Name y Tj] (.Call (.Attribute (.Name x px) "pop" Th) [e] [] Tf) pos) (yf j i f):=⟨λc=>
 PS.weak (lg a1M a1N hx (zJ Qu PySem.F.slot_list_pop PySem.F.type_list_pop zK (pv i hN hv hd Ua) (eN (h c) iI hs) T_ Vc U0 hs U6) UZ hf) λD σ H ⟨F,ρ,ri,w⟩=>by
  unfold yf at w
  split at w
  ·rename_i ds hi
   obtain⟨a,vs,h1,h2,h3⟩:=ri.ownL hi
   refine⟨_,h1, .inl ⟨rfl,vs,d6.of h2⟩,F,ρ,ri,(aB.bind.mp w).imp λk _ w1 v H1 F1 e1 r1=> ?_⟩
   cases k with
   |int n=>
    cases r1
    dsimp only at w1
    split at w1
    ·rename_i hn
     split at w1
     ·rename_i m hm
      split at w1
      ·rename_i d XJ
       obtain⟨v,We,rv⟩:=h3.get XJ
       refine⟨a,vs,n,m,v,rfl,rfl,e1.keep _ _ h2,by have:=dv hn;omega,by have:=dv hn;omega,by rw[h3.length];exact hm,We,?_⟩
       exact w1 _ _ F1 e1.grow (((ri.step e1).change (o:= .lst vs) hi h1 (.lst ((h3.mono e1.grow).eraseIdx m))).setVal j TY (rv.mono e1.grow))
      ·exact w1.elim
     ·exact w1.elim
    ·exact w1.elim
   |_=>exact w1.elim
  ·exact w.elim⟩
end
end L2.Pu
namespace L2.Pu
open PySem PySem.Spec PyProof.Rows
variable {ly:List cY}
section
variable {K:KU}
def ql (i j:Int):Prop:=i.natAbs<18446744073709551616\/j.natAbs<18446744073709551616
def vp (_ j:Int):Prop:=0<j/\j.natAbs<1073741824
def tP (i j:Int):Prop:=0<=j/\j.natAbs<=1000000/\i.natAbs<18446744073709551616
instance (i j:Int):Decidable (ql i j):=by unfold ql;infer_instance
instance (i j:Int):Decidable (vp i j):=by unfold vp;infer_instance
instance (i j:Int):Decidable (tP i j):=by unfold tP;infer_instance
theorem ql.c {i j:Int} (h:ql i j):xF i j:=by
 unfold ql at h
 unfold xF
 omega
theorem vp.c {i j:Int} (h:vp i j):C8 i j:=by
 unfold vp at h
 unfold C8
 omega
theorem tP.c {i j:Int} (h:tP i j):C9 i j:=by
 unfold tP at h
 unfold C9
 omega
def bU:D->D->Option D
 | .int i, .int j=>some (.int (i+j))
 | .lst a, .lst b=>if a.length+b.length<=lim then some (.lst (a++b))else none
 | .tup a, .tup b=>if a.length+b.length<=lim then some (.tup (a++b))else none
 |_,_=>none
def Ez (K:KU):R2:=λx y H Q=>(xE (λi j=> .int (i+j)) x y H Q\/HK x y H Q)\/(Eo K x y H Q\/Eu K x y H Q)
theorem D8 {X:Cx}:jD X (MT .Add) (Ez X.K):=(Fj.or FF).or (Co.or CT)
theorem D9:gX K (Ez K) bU:=by
 intro v u x y d H F Q s rx ry h k
 unfold bU at h
 split at h
 ·cases rx.int;cases ry.int;cases h;exact .inl (.inl ⟨_,_,rfl,rfl,k _ H F (bf.refl s) (.int _)⟩)
 ·rename_i a b
  split at h
  ·rename_i hl
   cases h
   obtain⟨p,vs,rfl,h1,h2⟩:=rx.lst s
   obtain⟨q,us,rfl,h3,h4⟩:=ry.lst s
   refine .inl (.inr ⟨p,q,vs,us,rfl,rfl,h1,h3,LL (by rw[h2.length,h4.length];exact hl) dO,λl Ur=> ?_⟩)
   have e:=bf.lay (o:= .lst (vs++us)) s Ur
   exact k _ _ _ e (.lst aq ((h2.append h4).mono e.grow))
  ·cases h
 ·rename_i a b
  split at h
  ·rename_i hl
   cases h
   obtain⟨p,vs,rfl,h1,h2⟩:=rx.tup s
   obtain⟨q,us,rfl,h3,h4⟩:=ry.tup s
   cases a with
   |nil=>
    cases h2
    refine .inr (.inr ⟨p,q,us,rfl,rfl,fS.of h1,fS.of h3,?_⟩)
    match ry with
    | .inl ry=>exact k _ H F (bf.refl s) ry
   |cons a0 a1=>
    refine .inr (.inl ⟨p,q,vs,us,rfl,rfl,fS.of h1,fS.of h3,(λz=>by subst z;cases h2),LL (by rw[h2.length,h4.length];exact hl) dO,λz=> ?_,λ_ l Ur=> ?_⟩)
    ·subst z
     cases h4
     rw[Mb]at k
     match rx with
     | .inl rx=>exact k _ H F (bf.refl s) rx
    ·have e:=bf.lay (o:= .tup (vs++us)) s Ur
     exact k _ _ _ e (.tup aq ((h2.append h4).mono e.grow))
  ·cases h
 ·cases h
def Ge (g:Int->Int->D):D->D->Option D
 | .int i, .int j=>some (g i j)
 |_,_=>none
def Dc (C:Int->Int->Prop) [∀i j,Decidable (C i j)] (g:Int->Int->D):D->D->Option D
 | .int i, .int j=>if C i j then some (g i j)else none
 |_,_=>none
theorem sm {gv:Int->Int->V} {g:Int->Int->D} (hg:∀F i j,dg K F (gv i j) (g i j)):gX K (xE gv) (Ge g):=by
 intro v u x y d H F Q s rx ry h k
 cases x with
 |int i=>
  cases y with
  |int j=>cases rx.int;cases ry.int;cases h;exact⟨i,j,rfl,rfl,k _ H F (bf.refl s) (hg F i j)⟩
  |_=>cases h
 |_=>cases h
theorem vq {C C':Int->Int->Prop} [∀i j,Decidable (C i j)] {gv:Int->Int->V} {g:Int->Int->D} (hC:∀i j,C i j->C' i j) (hg:∀F i j,dg K F (gv i j) (g i j)):gX K (rI C' gv) (Dc C g):=by
 intro v u x y d H F Q s rx ry h k
 cases x with
 |int i=>
  cases y with
  |int j=>
   cases rx.int;cases ry.int
   replace h:(if C i j then some (g i j)else none)=some d:=h
   split at h
   ·cases h;exact⟨i,j,rfl,rfl,hC i j (by assumption),k _ H F (bf.refl s) (hg F i j)⟩
   ·cases h
  |_=>cases h
 |_=>cases h
def iP:=Ge λi j=> .int (i - j)
def ju:=Dc vp λi j=> .int (i / j)
def fJ:=Dc (λ_ j=>0<j) λi j=> .int (i%j)
def Dd:=Dc tP λi j=> .int (i ^j.toNat)
def Gf:=Ge λi j=> .bl (decide (i<j))
def KG:=Ge λi j=> .bl (decide (i<=j))
def qm:=Ge λi j=> .bl (decide (j<i))
def KH:=Ge λi j=> .bl (decide (j<=i))
theorem De:gX K (xE λi j=> .int (i - j)) iP:=sm λF i j=> .int _
theorem Ak:gX K (rI C8 λi j=> .int (i / j)) ju:=vq (λ_ _ h=>h.c) λF i j=> .int _
theorem Df:gX K (rI (λ_ j=>0<j) λi j=> .int (i%j)) fJ:=vq (λ_ _ h=>h) λF i j=> .int _
theorem Dg:gX K (rI C9 λi j=> .int (i ^j.toNat)) Dd:=vq (λ_ _ h=>h.c) λF i j=> .int _
theorem Gg:gX K (xE λi j=> .bl (decide (i<j))) Gf:=sm λF i j=> .bl _
theorem Gh:gX K (xE λi j=> .bl (decide (j<i))) qm:=sm λF i j=> .bl _
def lW:D->D->Option D
 | .int i, .int j=>if ql i j then some (.int (i*j))else none
 | .lst a, .int k=>if k.natAbs<=lim/\a.length*k.toNat<=lim then some (.lst (LC k.toNat a).flatten)else none
 |_,_=>none
def Al:R2:=λx y H Q=>rI xF (λi j=> .int (i*j)) x y H Q\/HL x y H Q
theorem wI {X:Cx}:jD X (MT .Mult) Al:=Fn.or FG
theorem Reps.rep {F:Hp} {vs:List V} {ds:List D} (h:Reps K F vs ds):∀k:Nat,Reps K F (LC k vs).flatten (LC k ds).flatten
 |0=> .nil
 |k+1=>by
  rw[Mo,Mo,N2,N2]
  exact h.append (h.rep k)
theorem Dh:gX K Al lW:=by
 intro v u x y d H F Q s rx ry h k
 unfold lW at h
 split at h
 ·rename_i i j
  cases rx.int;cases ry.int
  replace h:(if ql i j then some (D.int (i*j))else none)=some d:=h
  split at h
  ·rename_i hb;cases h;exact .inl ⟨i,j,rfl,rfl,ql.c hb,k _ H F (bf.refl s) (.int _)⟩
  ·cases h
 ·rename_i a j
  split at h
  ·rename_i hl
   cases h
   cases ry.int
   obtain⟨p,vs,rfl,h1,h2⟩:=rx.lst s
   refine .inr ⟨p,j,vs,rfl,rfl,h1,by have:=dv hl.1;omega,by have:=dv hl.1;omega,LL (by rw[h2.length];exact hl.2) dO,λl Ur=> ?_⟩
   have e:=bf.lay (o:= .lst (LC j.toNat vs).flatten) s Ur
   exact k _ _ _ e (.lst aq ((h2.rep _).mono e.grow))
  ·cases h
 ·cases h
def jS:D->Option D
 | .int i=>some (.int (-i))
 |_=>none
theorem Di:I0 K (rU λi=> .int (-i)) jS:=by
 intro v x d H F Q s rx h k
 cases x with
 |int i=>cases rx.int;cases h;exact⟨i,rfl,k _ H F (bf.refl s) (.int _)⟩
 |_=>cases h
def vt:D->D->Option Bool
 | .non, .non=>some true
 | .non, .int _=>some false
 | .int _, .non=>some false
 | .non, .bl _=>some false
 | .bl _, .non=>some false
 | .non, .str _=>some false
 | .str _, .non=>some false
 | .int i, .int j=>some (decide (i=j))
 | .bl i, .bl j=>some (decide (i=j))
 | .str i, .str j=>some (decide (i=j))
 | .int _, .str _=>some false
 | .str _, .int _=>some false
 | .bl _, .str _=>some false
 | .str _, .bl _=>some false
 |_,_=>none
def lX (x y:D):Option D:=(vt x y).map .bl
def mW (x y:D):Option D:=(vt x y).map λb=> .bl (!b)
theorem qQ {H F:Hp} {v u:V} {x y:D} {b:Bool} (rx:c9 K H F v x) (ry:c9 K H F u y) (h:vt x y=some b):Fq v u=true/\decide (v=u)=b:=by
 cases x<;>cases y<;>first
  |(exfalso;revert h;simp[vt];done)
  |(first|cases rx.int|cases rx.bl|cases rx.str|cases rx.non)<;>(first|cases ry.int|cases ry.bl|cases ry.str|cases ry.non)<;>(refine⟨rfl,?_⟩;simp[vt]at h ⊢;try exact h)
theorem Am:gX K Kd lX:=by
 intro v u x y d H F Q s rx ry h k
 unfold lX at h
 cases e:vt x y with
 |none=>rw[e]at h;cases h
 |some b=>
  rw[e]at h
  cases h
  obtain⟨h1,h2⟩:=qQ rx ry e
  exact⟨h1,by rw[h2];exact k _ H F (bf.refl s) (.bl b)⟩
theorem Gi:gX K Ke mW:=by
 intro v u x y d H F Q s rx ry h k
 unfold mW at h
 cases e:vt x y with
 |none=>rw[e]at h;cases h
 |some b=>
  rw[e]at h
  cases h
  obtain⟨h1,h2⟩:=qQ rx ry e
  exact⟨h1,by rw[h2];exact k _ H F (bf.refl s) (.bl _)⟩
def tR:D->D->Option D
 | .non, .non=>some (.bl true)
 | .scr _, .non=>none
 |_, .non=>some (.bl false)
 |_,_=>none
def iQ:D->D->Option D
 | .non, .non=>some (.bl false)
 | .scr _, .non=>none
 |_, .non=>some (.bl true)
 |_,_=>none
def An:D->Bool
 | .non=>true
 |_=>false
theorem qR {H F:Hp} {v:V} {x:D} (s:aO F H) (rx:c9 K H F v x):decide (v= .non)=An x:=by
 cases x with
 |non=>cases rx.non;rfl
 |bl b=>cases rx.bl;rfl
 |int i=>cases rx.int;rfl
 |str z=>cases rx.str;rfl
 |tup ds=>obtain⟨a,vs,rfl,_⟩:=rx.tup s;rfl
 |lst ds=>obtain⟨a,vs,rfl,_⟩:=rx.lst s;rfl
 |dic ds=>obtain⟨a,vs,rfl,_⟩:=rx.dic s;rfl
 |scr ns=>obtain⟨a,rfl,_⟩:=rx.scr s;rfl
 |ins C fs=>
  rcases rx with rx|⟨a,o,rfl,_,q⟩
  ·cases rx;rfl
  ·cases q
 |exc C=>
  rcases rx with rx|⟨a,o,rfl,_,q⟩
  ·cases rx;rfl
  ·cases q
theorem Gj {x y d:D} (h:tR x y=some d):y= .non/\d= .bl (An x):=by
 unfold tR at h
 split at h
 ·cases h;exact⟨rfl,rfl⟩
 ·cases h
 ·rename_i n1 _
  cases h
  refine⟨rfl,?_⟩
  unfold An
  split
  ·exact absurd rfl n1
  ·rfl
 ·cases h
theorem Dj:gX K (λx y H Q=>y= .non/\Q (.bl (decide (x= .non))) H) tR:=by
 intro v u x y d H F Q s rx ry h k
 obtain⟨rfl,rfl⟩:=Gj h
 cases ry.non
 refine⟨rfl,?_⟩
 rw[qR s rx]
 exact k _ H F (bf.refl s) (.bl _)
theorem pb:gX K (λx y H Q=>y= .non/\Q (.bl (!decide (x= .non))) H) iQ:=by
 intro v u x y d H F Q s rx ry h k
 cases y with
 |non=>
  cases ry.non
  refine⟨rfl,?_⟩
  rw[qR s rx]
  cases x<;>first|(cases h;exact k _ H F (bf.refl s) (.bl _))|cases h
 |_=>cases x<;>cases h
def jT:D->Bool
 | .non=>true
 | .bl _=>true
 | .int _=>true
 | .str _=>true
 |_=>false
def Hb:D->D->Bool
 | .non, .non=>true
 | .bl a, .bl b=>a==b
 | .bl a, .int b=>(if a then 1 else 0)==b
 | .int a, .bl b=>a==(if b then 1 else 0)
 | .int a, .int b=>a==b
 | .str a, .str b=>a==b
 |_,_=>false
theorem tU {F:Hp} {v:V} {d:D} (r:dg K F v d) (h:jT d=true):js v=true:=by
 cases r<;>first|rfl|cases h
theorem Gk {F:Hp} {v u:V} {x y:D} (r:dg K F v x) (q:dg K F u y) (hx:jT x=true) (hy:jT y=true):Ct v u=Hb x y:=by
 cases r<;>first|(cases hx;done)|(cases q<;>first|rfl|(cases hy;done))
theorem Reps.flat {F:Hp}:∀{vs:List V} {ds:List D},Reps K F vs ds->ds.all jT=true->vs.all js=true:=by
 intro vs ds
 induction ds generalizing vs with
 |nil=>intro h _;rw[h.nilI];rfl
 |cons d ds ih=>
  intro g h
  obtain⟨v,us,rfl,r,t⟩:=g.consI
  rw[N6,Mw]at h
  rw[N6,tU r h.1,ih t h.2];rfl
theorem Reps.inV {F:Hp} {v:V} {x:D} (rx:dg K F v x) (hx:jT x=true) {vs:List V} {ds:List D} (g:Reps K F vs ds):ds.all jT=true->L2.inV v vs=ds.any λy=>Hb y x:=by
 induction ds generalizing vs with
 |nil=>intro _;rw[g.nilI];rfl
 |cons d ds ih=>
  intro h
  obtain⟨w,us,e0,r,t⟩:=g.consI
  rw[N6,Mw]at h
  have:=ih t h.2
  rw[e0]
  unfold L2.inV at this ⊢
  rw[MS,MS,Gk r rx h.1 hx,this]
def Hc (Uj:Bool) (x:D) (ds:List D):Option D:=if jT x=true/\ds.all jT=true then some (.bl (if Uj then !(ds.any λy=>Hb y x)else ds.any λy=>Hb y x))else none
def vv (Uj:Bool):D->D->Option D
 |x, .lst ds=>Hc Uj x ds
 |x, .tup ds=>Hc Uj x ds
 |_,_=>none
theorem tV {H F:Hp} {Uj:Bool} {v:V} {x d:D} {ds:List D} (rx:c9 K H F v x) (h:Hc Uj x ds=some d) {vs:List V} (rv:Reps K F vs ds):
  js v=true/\vs.all js=true/\d= .bl (if Uj then !L2.inV v vs else L2.inV v vs):=by
 unfold Hc at h
 split at h
 ·rename_i hf
  cases h
  have a0B:dg K F v x:=by
   rcases rx with rx|⟨a,o,rfl,_,q⟩
   ·exact rx
   ·cases q<;>cases hf.1
  exact⟨tU a0B hf.1,rv.flat hf.2,by rw[rv.inV a0B hf.1 hf.2]⟩
 ·cases h
theorem mX {Uj:Bool}:gX K (JL K Uj) (vv Uj):=by
 intro v u x y d H F Q s rx ry h k
 cases y with
 |lst ds=>
  obtain⟨a,vs,rfl,h1,h2⟩:=ry.lst s
  obtain⟨g1,g2,rfl⟩:=tV rx h h2
  exact⟨a,vs,rfl, .inl (d6.of h1),g1,g2,k _ H F (bf.refl s) (.bl _)⟩
 |tup ds=>
  obtain⟨a,vs,rfl,h1,h2⟩:=ry.tup s
  obtain⟨g1,g2,rfl⟩:=tV rx h h2
  exact⟨a,vs,rfl, .inr (fS.of h1),g1,g2,k _ H F (bf.refl s) (.bl _)⟩
 |_=>cases h
def so (Uj:Bool):D->D->Option D
 |x, .dic kds=>(bN x).map λk=> .bl (if Uj then !(aZ kds k).isSome else (aZ kds k).isSome)
 |_,_=>none
def bV (Uj:Bool) (x y:D):Option D:=match y with
 | .dic _=>so Uj x y
 |_=>vv Uj x y
theorem RepK.look {F:Hp} {vs:List (aL×V)} {ds:List (aL×D)} (r:RepK K F vs ds) (k:aL):(iK vs k).isSome=(aZ ds k).isSome:=by
 rcases r.get k with ⟨h1,h2⟩|⟨v,d,h1,h2,_⟩<;>rw[h1,h2]<;>rfl
end
section
variable {X:Cx} {a b e:La} {es:List La} {fa fb f fk fv:af->R D} {fs:af->R (List D)} {pos:LF}
theorem EA {g h:af->R D} (hg:PQ ly X e g) (hh:PQ ly X e h) (Yl:∀ρ,f ρ=g ρ\/f ρ=h ρ):PQ ly X e f:=⟨λc Tc s σ H Q I ⟨F,ρ,ri,w⟩=>
 (Yl ρ).elim (λz=>hg.ap c Tc s σ H Q I ⟨F,ρ,ri,z▸w⟩) λz=>hh.ap c Tc s σ H Q I ⟨F,ρ,ri,z▸w⟩⟩
theorem EB {g h f:af->R Bool} (hg:lK ly X e g) (hh:lK ly X e h) (Yl:∀ρ,f ρ=g ρ\/f ρ=h ρ):lK ly X e f:=⟨λc Tc s σ H Q I ⟨F,ρ,ri,w⟩=>
 (Yl ρ).elim (λz=>hg.ap c Tc s σ H Q I ⟨F,ρ,ri,z▸w⟩) λz=>hh.ap c Tc s σ H Q I ⟨F,ρ,ri,z▸w⟩⟩
theorem vw {Uj:Bool} (ρ:af):f2 (bV Uj) fa fb ρ=f2 (vv Uj) fa fb ρ\/f2 (bV Uj) fa fb ρ=f2 (so Uj) fa fb ρ:=by
 unfold f2
 cases fa ρ with
 |ok x=>
  cases fb ρ with
  |ok y=>cases y<;>first|exact .inl rfl|exact .inr rfl
  |_=>exact .inl rfl
 |_=>exact .inl rfl
theorem tW {K:KU} {c:cQ ly} {σ:St} {H:Hp} {Q:VK} (h:tQ K c (f2 (so false) fa fb) σ H Q):FH (tB' K c fa) (tB' K c fb) σ H Q:=two h λF H2 F2 v u x y e rx ry w=>by
 obtain⟨d,hd,k⟩:=w.of
 cases y with
 |dic kds=>
  obtain⟨p,vs,rfl,h1,h2,h3⟩:=ry.dic e.sub
  replace hd:(bN x).map (λk=>D.bl (if false then !(aZ kds k).isSome else (aZ kds k).isSome))=some d:=hd
  cases hk:bN x with
  |none=>rw[hk]at hd;cases hd
  |some Td=>
   rw[hk]at hd
   cases hd
   cases dH hk rx
   exact⟨p,_,rfl,iL.k (k:=Td) h1,k _ H2 F2 e (by rw[h2.look];exact .bl _)⟩
 |_=>cases hd
theorem tX {K:KU} {c:cQ ly} {σ:St} {H:Hp} {Q:VK} (h:tQ K c (f2 (so true) fa fb) σ H Q):rY (tB' K c fa) (tB' K c fb) σ H Q:=two h λF H2 F2 v u x y e rx ry w=>by
 obtain⟨d,hd,k⟩:=w.of
 cases y with
 |dic kds=>
  obtain⟨p,vs,rfl,h1,h2,h3⟩:=ry.dic e.sub
  replace hd:(bN x).map (λk=>D.bl (if true then !(aZ kds k).isSome else (aZ kds k).isSome))=some d:=hd
  cases hk:bN x with
  |none=>rw[hk]at hd;cases hd
  |some Td=>
   rw[hk]at hd
   cases hd
   cases dH hk rx
   exact⟨p,_,rfl,iL.k (k:=Td) h1,k _ H2 F2 e (by rw[h2.look];exact .bl _)⟩
 |_=>cases hd
theorem K0 (hu:X.A.units+1<Nh) (ha:PB ly X a fa) (hb:PB ly X b fb) (hm:MK .In b=false:=by with_unfolding_all rfl):PQ ly X (.Compare a [.In] [b] pos) (f2 (bV false) fa fb):=
 EA (Aa qE mX ha hb hm) ⟨λc=>PE.weak (EW (zL hu (ha c) (hb c)) hm) λσ H Q h=>tW h⟩ vw
theorem Ao {g h:af->R D} (Yl:∀ρ,f ρ=g ρ\/f ρ=h ρ) (ρ:af):fT f ρ=fT g ρ\/fT f ρ=fT h ρ:=by
 unfold fT
 rcases Yl ρ with z|z
 ·exact .inl (by rw[z])
 ·exact .inr (by rw[z])
theorem K1 (hu:X.A.units+1<Nh) (ha:PB ly X a fa) (hb:PB ly X b fb) (hm:MK .In b=false:=by with_unfolding_all rfl):lK ly X (.Compare a [.In] [b] pos) (fT (f2 (bV false) fa fb)):=
 EB (nP qE mX ha hb hm) ⟨λc=>FY (c:=c.1) (t:=FH (tB' X.K c.1 fa) (tB' X.K c.1 fb)) (zh (zL hu (ha c) (hb c)) hm) λσ H Q h=>tW h⟩ (Ao vw)
theorem Dk (hu:X.A.units+1<Nh) (ha:PB ly X a fa) (hb:PB ly X b fb) (hm:MK .NotIn b=false:=by with_unfolding_all rfl):lK ly X (.Compare a [.NotIn] [b] pos) (fT (f2 (bV true) fa fb)):=
 EB (nP rS mX ha hb hm) ⟨λc=>FY (c:=c.1) (t:=rY (tB' X.K c.1 fa) (tB' X.K c.1 fb)) (zh (xO hu (ha c) (hb c)) hm) λσ H Q h=>tX h⟩ (Ao vw)
def sq:D->D->Option D
 | .lst ds, .int i=>atI ds i
 | .tup ds, .int i=>atI ds i
 | .scr ns, .int i=>(atI ns i).map .int
 |_,_=>none
def Ap:D->D->Option D
 | .dic kds,k=>(bN k).bind λTd=>aZ kds Td
 |_,_=>none
def aP (x y:D):Option D:=match x with
 | .dic _=>Ap x y
 |_=>sq x y
theorem Reps.atI {K:KU} {F:Hp} {vs:List V} {ds:List D} {i:Int} {d:D} (r:Reps K F vs ds) (h:atI ds i=some d):∃v,L2.atI vs i=some v/\dg K F v d:=by
 unfold L2.atI at h ⊢
 rw[r.length]
 cases e:t9 ds.length i with
 |none=>rw[e]at h;cases h
 |some j=>rw[e]at h;exact r.get h
theorem yg {K:KU}:gX K (Kf K) sq:=by
 intro v u x y d H F Q s rx ry h k
 unfold sq at h
 split at h
 ·cases ry.int
  obtain⟨a,vs,rfl,h1,h2⟩:=rx.lst s
  obtain⟨w,h3,h4⟩:=h2.atI h
  exact .inl ⟨a,vs,_,w,rfl,rfl,d6.of h1,h3,k _ H F (bf.refl s) h4⟩
 ·cases ry.int
  obtain⟨a,vs,rfl,h1,h2⟩:=rx.tup s
  obtain⟨w,h3,h4⟩:=h2.atI h
  exact .inr (.inl ⟨a,vs,_,w,rfl,rfl,fS.of h1,h3,k _ H F (bf.refl s) h4⟩)
 ·rename_i ns i
  cases ry.int
  obtain⟨a,rfl,h1⟩:=rx.scr s
  cases e:atI ns i with
  |none=>rw[e]at h;cases h
  |some n=>
   rw[e]at h
   cases h
   refine .inl ⟨a,ns.map V.int,i, .int n,rfl,rfl,h1,?_,k _ H F (bf.refl s) (.int n)⟩
   unfold L2.atI at e ⊢
   rw[L4]
   cases e2:t9 ns.length i with
   |none=>rw[e2]at e;cases e
   |some j=>
    rw[e2]at e
    show (ns.map V.int)[j]? =_
    rw[LA,show ns[j]? =some n from e]
    rfl
 ·cases h
theorem Gm (ρ:af):f2 aP fa fb ρ=f2 sq fa fb ρ\/f2 aP fa fb ρ=f2 Ap fa fb ρ:=by
 unfold f2
 cases fa ρ with
 |ok x=>
  cases fb ρ with
  |ok y=>cases x<;>first|exact .inl rfl|exact .inr rfl
  |_=>exact .inl rfl
 |_=>exact .inl rfl
theorem K2 (hu:X.A.units+1<Nh) (ha:PB ly X a fa) (hb:PB ly X b fb) (hs:wz b:=by intro _ _;rfl):PQ ly X (.Subscript a b pos) (f2 aP fa fb):=
 EA ⟨λc=>PE.weak (HF FC (ha c) (hb c) hs) λσ H Q h=>two h λF H2 F2 v u x y e rx ry w=>by
   obtain⟨d,hd,k⟩:=w.of
   exact yg v u x y d H2 F2 Q e.sub rx ry hd λw H' F' e' r'=>k w H' F' (e.trans e') r'⟩
  ⟨λc=>PE.weak (CA hu (ha c) (hb c) hs) λσ H Q h=>two h λF H2 F2 v u x y e rx ry w=>by
   obtain⟨d,hd,k⟩:=w.of
   cases x with
   |dic kds=>
    obtain⟨p,vs,rfl,h1,h2,h3⟩:=rx.dic e.sub
    replace hd:((bN y).bind λTd=>aZ kds Td)=some d:=hd
    cases hk:bN y with
    |none=>rw[hk]at hd;cases hd
    |some Td=>
     rw[hk]at hd
     cases dH hk ry
     rcases h2.get Td with ⟨_,z⟩|⟨v',d',z1,z2,z3⟩
     ·rw[show aZ kds Td=some d from hd]at z;cases z
     ·rw[show aZ kds Td=some d from hd]at z2
      cases z2
      exact⟨p,v',rfl,z1▸iL.k (k:=Td) h1,k _ H2 F2 e z3⟩
   |_=>cases hd⟩ Gm
end
end L2.Pu
namespace L2.Pu
open PySem PySem.Spec PyProof.Rows
variable {ly:List cY}
section
variable {K:KU}
theorem jO.one {H F:Hp} {vs:List V} {d:D}:jO K H F vs [d]->∃v,vs=[v]/\c9 K H F v d:=λh=>by
 cases h with
 |cons r t=>cases t;exact⟨_,rfl,r⟩
theorem jO.two {H F:Hp} {vs:List V} {d e:D}:jO K H F vs [d,e]->∃v u,vs=[v,u]/\c9 K H F v d/\c9 K H F u e:=λh=>by
 cases h with
 |cons r t=>
  obtain⟨u,e,q⟩:=jO.one t
  exact⟨_,u,by rw[e],r,q⟩
def cR:List D->Option D
 |[.lst ds]=>some (.int ds.length)
 |[.tup ds]=>some (.int ds.length)
 |[.scr ns]=>some (.int ns.length)
 |[.dic ds]=>some (.int ds.length)
 |_=>none
def EC (K:KU):List V->Hp->VK->Prop:=λxs H Q=>(∃p ys,xs=[.ref p]/\(d6 K H p ys\/fS K H p ys)/\Q (.int ys.length) H)\/∃p kvs,xs=[.ref p]/\H p=some (.dK kvs)/\Q (.int kvs.length) H
theorem yh {X:Cx}:ck X (.builtin "len") (EC X.K):=by
 intro Tc s σ H xs us Q I rv h
 rcases h with h|⟨p,kvs,rfl,hk,q⟩
 ·exact rT Tc s σ H xs us Q I rv h
 ·obtain⟨u,rfl,ru⟩:=fU rv
  cases ru
  exact HN I (.inl hk) λt s' I'=>⟨.int kvs.length,H,I',⟨t,rfl⟩,q⟩
theorem Dl:kU K (EC K) cR:=by
 intro vs ds d H F Q s rv h k
 match ds,h with
 |[.lst xs],h=>
  obtain⟨v,rfl,r⟩:=rv.one
  obtain⟨a,ws,rfl,h1,h2⟩:=r.lst s
  cases h
  exact .inl ⟨a,ws,rfl, .inl (d6.of h1),by rw[h2.length];exact k _ H F (bf.refl s) (.int _)⟩
 |[.tup xs],h=>
  obtain⟨v,rfl,r⟩:=rv.one
  obtain⟨a,ws,rfl,h1,h2⟩:=r.tup s
  cases h
  exact .inl ⟨a,ws,rfl, .inr (fS.of h1),by rw[h2.length];exact k _ H F (bf.refl s) (.int _)⟩
 |[.scr ns],h=>
  obtain⟨v,rfl,r⟩:=rv.one
  obtain⟨a,rfl,h1⟩:=r.scr s
  cases h
  exact .inl ⟨a,_,rfl, .inl h1,by rw[L4];exact k _ H F (bf.refl s) (.int _)⟩
 |[.dic xs],h=>
  obtain⟨v,rfl,r⟩:=rv.one
  obtain⟨a,ws,rfl,h1,h2,h3⟩:=r.dic s
  cases h
  exact .inr ⟨a,ws,rfl,h1,by rw[h2.length];exact k _ H F (bf.refl s) (.int _)⟩
def bZ:List D->Option D
 |[.lst ds]=>some (.tup ds)
 |[.tup ds]=>some (.tup ds)
 |_=>none
theorem kL:kU K (λxs H Q=>∃p ys,xs=[.ref p]/\((d6 K H p ys/\∀l,H l=none->Q (.ref l) (a_ H l (.tup ys)))\/(fS K H p ys/\Q (.ref p) H))) bZ:=by
 intro vs ds d H F Q s rv h k
 match ds,h with
 |[.lst xs],h=>
  obtain⟨v,rfl,r⟩:=rv.one
  obtain⟨a,ws,rfl,h1,h2⟩:=r.lst s
  cases h
  refine⟨a,ws,rfl, .inl ⟨d6.of h1,λl hl=> ?_⟩⟩
  have e:=bf.lay (o:= .tup ws) s hl
  exact k _ _ _ e (.tup aq (h2.mono e.grow))
 |[.tup xs],h=>
  obtain⟨v,rfl,r⟩:=rv.one
  obtain⟨a,ws,rfl,h1,h2⟩:=r.tup s
  cases h
  refine⟨a,ws,rfl, .inr ⟨fS.of h1,?_⟩⟩
  match r with
  | .inl r=>exact k _ H F (bf.refl s) r
def k_:List D->Option D
 |[.lst ds]=>some (.lst ds)
 |[.tup ds]=>some (.lst ds)
 |[.scr ns]=>some (.lst (ns.map .int))
 |_=>none
theorem ir {F:Hp}:∀ns:List Int,Reps K F (ns.map V.int) (ns.map D.int)
 |[]=> .nil
 |n::r=> .cons (.int n) (ir r)
theorem Aq:kU K (λxs H Q=>∃p ys,xs=[.ref p]/\(d6 K H p ys\/fS K H p ys)/\∀l,H l=none->Q (.ref l) (a_ H l (.lst ys))) k_:=by
 intro vs ds d H F Q s rv h k
 match ds,h with
 |[.lst xs],h=>
  obtain⟨v,rfl,r⟩:=rv.one
  obtain⟨a,ws,rfl,h1,h2⟩:=r.lst s
  cases h
  refine⟨a,ws,rfl, .inl (d6.of h1),λl hl=> ?_⟩
  have e:=bf.lay (o:= .lst ws) s hl
  exact k _ _ _ e (.lst aq (h2.mono e.grow))
 |[.tup xs],h=>
  obtain⟨v,rfl,r⟩:=rv.one
  obtain⟨a,ws,rfl,h1,h2⟩:=r.tup s
  cases h
  refine⟨a,ws,rfl, .inr (fS.of h1),λl hl=> ?_⟩
  have e:=bf.lay (o:= .lst ws) s hl
  exact k _ _ _ e (.lst aq (h2.mono e.grow))
 |[.scr ns],h=>
  obtain⟨v,rfl,r⟩:=rv.one
  obtain⟨a,rfl,h1⟩:=r.scr s
  cases h
  refine⟨a,_,rfl, .inl h1,λl hl=> ?_⟩
  have e:=bf.lay (o:= .lst (ns.map V.int)) s hl
  exact k _ _ _ e (.lst aq (ir ns))
def cA:List D->Option (List Int)
 |[]=>some []
 | .int i::r=>(cA r).map (i::·)
 |_::_=>none
theorem iR {F:Hp}:∀{ds:List D} {ns:List Int} {vs:List V},cA ds=some ns->Reps K F vs ds->vs=ns.map V.int:=by
 intro ds
 induction ds with
 |nil=>intro ns vs h r;cases r.nilI;cases h;rfl
 |cons d r ih=>
  intro ns vs h rv
  obtain⟨v,us,rfl,r1,t⟩:=rv.consI
  cases d with
  |int i=>
   cases r1.intI
   replace h:(cA r).map (i::·)=some ns:=h
   cases e:cA r with
   |none=>rw[e]at h;cases h
   |some ms=>
    rw[e]at h
    cases h
    rw[ih e t];rfl
  |_=>cases h
theorem vz (ns:List Int):cA (ns.map .int)=some ns:=by
 induction ns with
 |nil=>rfl
 |cons n r ih=>show (cA (r.map D.int)).map (n::·)=_;rw[ih];rfl
def Ar:List D->Option D
 |[.lst ds]=>(cA ds).map λns=> .int ns.sum
 |_=>none
theorem Dm:kU K (λxs H Q=>∃p ns,xs=[.ref p]/\d6 K H p (ns.map V.int)/\Q (.int (T6 ns)) H) Ar:=by
 intro vs ds d H F Q s rv h k
 match ds,h with
 |[.lst xs],h=>
  obtain⟨v,rfl,r⟩:=rv.one
  obtain⟨a,ws,rfl,h1,h2⟩:=r.lst s
  replace h:(cA xs).map (λns=>D.int ns.sum)=some d:=h
  cases e:cA xs with
  |none=>rw[e]at h;cases h
  |some ns=>
   rw[e]at h
   cases h
   rw[iR e h2]at h1
   exact⟨a,ns,rfl,d6.of h1,k _ H F (bf.refl s) (.int _)⟩
def sr:List D->Option D
 |[.lst ds]=>(cA ds).bind λns=>if ns.length<64 then some (.lst ((cy ns).map .int))else none
 |_=>none
theorem vA:kU K (λxs H Q=>∃p ns,xs=[.ref p]/\d6 K H p (ns.map V.int)/\ns.length<64/\∀l,H l=none->Q (.ref l) (a_ H l (.lst ((cy ns).map V.int)))) sr:=by
 intro vs ds d H F Q s rv h k
 match ds,h with
 |[.lst xs],h=>
  obtain⟨v,rfl,r⟩:=rv.one
  obtain⟨a,ws,rfl,h1,h2⟩:=r.lst s
  replace h:((cA xs).bind λns=>if ns.length<64 then some (D.lst ((cy ns).map .int))else none)=some d:=h
  cases e:cA xs with
  |none=>rw[e]at h;cases h
  |some ns=>
   rw[e]at h
   replace h:(if ns.length<64 then some (D.lst ((cy ns).map .int))else none)=some d:=h
   split at h
   ·rename_i hl
    cases h
    rw[iR e h2]at h1
    refine⟨a,ns,rfl,d6.of h1,hl,λl Ur=> ?_⟩
    have e:=bf.lay (o:= .lst ((cy ns).map V.int)) s Ur
    exact k _ _ _ e (.lst aq (ir _))
   ·cases h
def vB:List D->Option D
 |[.int i, .int j]=>some (.int (if j<i then j else i))
 |_=>none
def vC:List D->Option D
 |[.int i, .int j]=>some (.int (if j>i then j else i))
 |_=>none
theorem Dn:kU K (λxs H Q=>∃i j,xs=[.int i, .int j]/\Q (.int (if j<i then j else i)) H) vB:=by
 intro vs ds d H F Q s rv h k
 match ds,h with
 |[.int i, .int j],h=>
  obtain⟨v,u,rfl,r,q⟩:=rv.two
  cases r.int;cases q.int;cases h
  exact⟨i,j,rfl,k _ H F (bf.refl s) (.int _)⟩
theorem Dp:kU K (λxs H Q=>∃i j,xs=[.int i, .int j]/\Q (.int (if j>i then j else i)) H) vC:=by
 intro vs ds d H F Q s rv h k
 match ds,h with
 |[.int i, .int j],h=>
  obtain⟨v,u,rfl,r,q⟩:=rv.two
  cases r.int;cases q.int;cases h
  exact⟨i,j,rfl,k _ H F (bf.refl s) (.int _)⟩
def Dq:List D->Option D
 |[.int i]=>some (.int i)
 |[.bl k]=>some (.int (if k then 1 else 0))
 |_=>none
theorem Dr:kU K (λxs H Q=>(∃i,xs=[.int i]/\Q (.int i) H)\/∃k,xs=[.bl k]/\Q (.int (if k then 1 else 0)) H) Dq:=by
 intro vs ds d H F Q s rv h k
 match ds,h with
 |[.int i],h=>obtain⟨v,rfl,r⟩:=rv.one;cases r.int;cases h;exact .inl ⟨i,rfl,k _ H F (bf.refl s) (.int _)⟩
 |[.bl i],h=>obtain⟨v,rfl,r⟩:=rv.one;cases r.bl;cases h;exact .inr ⟨i,rfl,k _ H F (bf.refl s) (.int _)⟩
end
section
variable {X:Cx} {a b e:La} {es:List La} {fa fb f fk fv:af->R D} {fs:af->R (List D)} {pos p p2:LF}
def Jk:D->Option String
 | .non=>some "NoneType"
 | .bl _=>some "bool"
 | .int _=>some "int"
 | .str _=>some "str"
 | .tup _=>some "tuple"
 | .lst _=>some "list"
 | .dic _=>some "dict"
 |_=>none
def qS (t T:String):Option Bool:=if t=T then some true else if t="bool"/\T="int" then some true
 else if ["NoneType","bool","int","str","tuple","list","dict"].contains t/\["bool","int","str","tuple","list","dict"].contains T then some false else none
theorem As (K:KU) {t T:String} {k:Bool} (ht:t="NoneType"\/t="bool"\/t="int"\/t="str"\/t="tuple"\/t="list"\/t="dict") (hT:T="bool"\/T="int"\/T="str"\/T="tuple"\/T="list"\/T="dict") (h:qS t T=some k):
  Pc K (.type t) (.type T)=some k:=by
 rcases ht with rfl|rfl|rfl|rfl|rfl|rfl|rfl<;>rcases hT with rfl|rfl|rfl|rfl|rfl|rfl<;>(revert h;unfold qS;simp+decide;rintro rfl;first|rfl|(unfold Pc Oo;decide+kernel))
def yi (T:String) (d:D):Option D:=(Jk d).bind λt=>(qS t T).map .bl
def fK (T:String) (f:af->R D):af->R D:=λρ=>f ρ>>=λd=>R.of (yi T d)
theorem Gn {K:KU} {H F:Hp} {v:V} {d:D} {t:String} (s:aO F H) (r:c9 K H F v d) (h:Jk d=some t):lL K H v (.type t):=by
 cases d with
 |non=>cases r.non;cases h;exact .non
 |bl=>cases r.bl;cases h;exact .bl _
 |int=>cases r.int;cases h;exact .int _
 |str=>cases r.str;cases h;exact .str _
 |tup=>obtain⟨a,vs,rfl,h1,_⟩:=r.tup s;cases h;exact .tup h1
 |lst=>obtain⟨a,vs,rfl,h1,_⟩:=r.lst s;cases h;exact .lst h1
 |dic=>obtain⟨a,vs,rfl,h1,_⟩:=r.dic s;cases h;exact .dK h1
 |_=>cases h
theorem yj {d:D} {t:String} (h:Jk d=some t):t="NoneType"\/t="bool"\/t="int"\/t="str"\/t="tuple"\/t="list"\/t="dict":=by
 cases d<;>cases h<;>simp
theorem Au {x:L0} {T:String} (hT:T="bool"\/T="int"\/T="str"\/T="tuple"\/T="list"\/T="dict") (Y5:X.mg "isinstance"=none) (hm:X.mg x=none) (hv:LK x=some (.type T)) (ha:PB ly X a fa) (a1O:Gl X "isinstance":=by rfl) (hg:Gl X x:=by rfl)
  (hn:x≠"__name__":=by decide) (Ue:(x==("__debug__":L0))=false:=by decide)
  (he:L6 [a, .Name x p2] X.env=(false,Ls a X.env)::L6 [.Name x p2] X.env:=by rfl) (VT:L6 [.Name x p2] X.env=(false,Ls (.Name x p2) X.env)::L6 [] X.env:=by rfl) (TC:(LM pos (L6 [.Name x p2] X.env)).any (·.1)=false:=by rfl):
  PQ ly X (.Call (.Name "isinstance" p) [a, .Name x p2] [] pos) (fK T fa):=⟨λc=>
 PE.weak (oH zS a1O Y5 zT (eN (ha c) (eN (C3 (v:= .ty T) hg hm hv rfl hn Ue) iI VT) he) (by decide) (by decide) he TC) λσ H Q ⟨F,ρ,ri,w⟩=>
  ⟨F,ρ,ri,(aB.bind.mp w).imp λd _ w1 v H1 F1 e1 r1=>by
   obtain⟨d',hd,k⟩:=w1.of
   unfold yi at hd
   cases ht:Jk d with
   |none=>rw[ht]at hd;cases hd
   |some t=>
    rw[ht]at hd
    cases hs:qS t T with
    |none=>
     replace hd:(qS t T).map D.bl=some d':=hd
     rw[hs]at hd;cases hd
    |some kk=>
     replace hd:(qS t T).map D.bl=some d':=hd
     rw[hs]at hd
     cases hd
     exact⟨v,T,_,kk,rfl,Gn e1.sub r1 ht,As X.K (yj ht) hT hs,k _ H1 F1 e1 (.bl kk)⟩⟩⟩
def Av (f:af->R D):af->R D:=λρ=>f ρ>>=λd=>match d with
 | .lst ds=> .ok (.lst ds.reverse)
 |_=> .bad
theorem IB {j:Nat} {pu pk:LF} (ha:PB ly X a fa):PQ ly X (.Subscript a (.Slice none none (some (.UnaryOp .USub (.Constant (.int 1) j pk) pu)) p2) pos) (Av fa):=⟨λc=>
 PE.weak (FO (ha c) (wx (Eh zr zg))) λσ H Q ⟨F,ρ,ri,w⟩=>⟨F,ρ,ri,(aB.bind.mp w).imp λd _ w1 v H1 F1 e1 r1=>by
  cases d with
  |lst ds=>
   obtain⟨p,vs,rfl,h1,h2⟩:=r1.lst e1.sub
   refine⟨1,rfl,-1,rfl,rfl,p,vs,rfl,d6.of h1,λl hl=> ?_⟩
   have e2:=bf.lay (o:= .lst vs.reverse) e1.sub hl
   exact w1 _ _ _ (e1.trans e2) (.lst aq (h2.reverse.mono e2.grow))
  |_=>exact w1.elim⟩⟩
def su (ds:List D) (lo hi:Option Int):List D:=(ds.drop (HT.cX ds.length 0 lo)).take (HT.cX ds.length ds.length hi - HT.cX ds.length 0 lo)
theorem Reps.cut {K:KU} {F:Hp} {vs:List V} {ds:List D} (r:Reps K F vs ds) (lo hi:Option Int):Reps K F (qg vs lo hi) (su ds lo hi):=by
 unfold qg su
 rw[r.length]
 exact(r.drop _).take _
def KI (K:KU) (c:cQ ly) (f:af->R (Option Int)):TO:=λσ H Q=>∃F ρ,RI K c ρ σ H F/\aB c (f ρ) λo=>∀H' F',bf H F H' F'->Q o H'
def IC (ly:List cY) (X:Cx) (e:Option La) (f:af->R (Option Int)):Prop:=∀c:eA ly X,PO X e (KI X.K c.1 f)
theorem PO.weak {X:Cx} {e:Option La} {t t':TO} (h:PO X e t) (w:∀σ H Q,t' σ H Q->t σ H Q):PO X e t':=λTc s σ H Q I q=>h Tc s σ H Q I (w σ H Q q)
def iu:af->R (Option Int):=λ_=> .ok none
def jv (f:af->R D):af->R (Option Int):=λρ=>f ρ>>=λd=>match d with
 | .int i=> .ok (some i)
 |_=> .bad
theorem Go:IC ly X none iu:=λc=>PO.weak Cn λσ H Q ⟨F,ρ,ri,w⟩=>w H F (bf.refl ri.sub)
theorem Gp (h:PQ ly X e f):IC ly X (some e) (jv f):=λc=>PO.weak (wx (h c)) λσ H Q ⟨F,ρ,ri,w⟩=>⟨F,ρ,ri,(aB.bind.mp w).imp λd _ w1 v H1 F1 e1 r1=>by
 cases d with
 |int i=>cases r1;exact⟨i,rfl,w1 H1 F1 e1⟩
 |_=>exact w1.elim⟩
variable {lo hi:Option La} {fl fh:af->R (Option Int)}
def BV (d:D) (lo hi:Option Int):Option D:=match d with
 | .lst ds=>some (.lst (su ds lo hi))
 | .tup ds=>if HT.cX ds.length 0 lo=0/\HT.cX ds.length ds.length hi=ds.length then some (.tup ds)else some (.tup (su ds lo hi))
 |_=>none
def yk (f:af->R D) (fl fh:af->R (Option Int)):af->R D:=λρ=>f ρ>>=λd=>fl ρ>>=λl=>fh ρ>>=λh=>R.of (BV d l h)
theorem Ds (ha:PB ly X a fa) (hl:IC ly X lo fl) (hh:IC ly X hi fh):PQ ly X (.Subscript a (.Slice lo hi none p2) pos) (yk fa fl fh):=⟨λc=>
 PE.weak (zF ((Cr.or Fx).or CS) (ha c) (hl c) (hh c)) λσ H Q ⟨F,ρ,ri,w⟩=>⟨F,ρ,ri,(aB.bind.mp w).imp λd _ w1 v H1 F1 e1 r1=>⟨F1,ρ,ri.step e1,(aB.bind.mp w1).imp λl _ w2 H2 F2 e2=>
  ⟨F2,ρ,(ri.step e1).step e2,(aB.bind.mp w2).imp λh _ w3 H3 F3 e3=>by
   obtain⟨d',hd,k⟩:=w3.of
   have Wx:=(e1.trans e2).trans e3
   have r3:=(r1.mono e2).mono e3
   cases d with
   |lst ds=>
    cases hd
    obtain⟨p,vs,rfl,h1,h2⟩:=r3.lst Wx.sub
    refine .inl (.inl ⟨p,vs,rfl,d6.of h1,λq hq=> ?_⟩)
    have e4:=bf.lay (o:= .lst (qg vs l h)) Wx.sub hq
    exact k _ _ _ (Wx.trans e4) (.lst aq ((h2.cut l h).mono e4.grow))
   |tup ds=>
    replace hd:(if HT.cX ds.length 0 l=0/\HT.cX ds.length ds.length h=ds.length then some (D.tup ds)else some (D.tup (su ds l h)))=some d':=hd
    split at hd
    ·rename_i hw
     cases hd
     rcases r3 with r3|⟨_,_,_,_,q⟩
     ·cases r3 with
      | @tup p vs _ h1 h2=>exact .inr ⟨p,vs,rfl,fS.of (Wx.sub _ _ h1),by rw[h2.length];exact hw,k _ _ _ Wx (.tup h1 h2)⟩
     ·cases q
    ·rename_i hw
     cases hd
     obtain⟨p,vs,rfl,h1,h2⟩:=r3.tup Wx.sub
     refine .inl <| .inr ⟨p,vs,rfl,fS.of h1,by rw[h2.length];exact hw,λq hq=> ?_⟩
     have e4:=bf.lay (o:= .tup (qg vs l h)) Wx.sub hq
     exact k _ _ _ (Wx.trans e4) (.tup aq ((h2.cut l h).mono e4.grow))
   |_=>cases hd⟩⟩⟩⟩
def lY (fd fk fx:af->R D):af->R D:=λρ=>fd ρ>>=λd=>match d with
 | .dic kds=>fk ρ>>=λk=>fx ρ>>=λx=>(match bN k with
  |some Td=> .ok ((aZ kds Td).getD x)
  |none=> .bad)
 |_=> .bad
theorem Gq {o x:La} {fd fx:af->R D} {Th Tf:LF} (hu:X.A.units+1<Nh) (ho:PB ly X o fd) (hk:PQ ly X a fk) (hx:PQ ly X x fx)
  (m:M2 X o "get" Th a x Tf:=by exact⟨rfl,rfl,rfl,rfl⟩):PQ ly X (.Call (.Attribute o "get" Th) [a,x] [] Tf) (lY fd fk fx):=⟨λc=>
 PE.weak (zO hu (ho c) (hk c) (hx c) m) λσ H Q ⟨F,ρ,ri,w⟩=>⟨F,ρ,ri,(aB.bind.mp w).imp λd _ w1 v H1 F1 e1 r1=>by
  cases d with
  |dic kds=>
   obtain⟨p,vs,rfl,h1,h2,h3⟩:=r1.dic e1.sub
   refine⟨p,rfl, .inl ⟨vs, .inl h1⟩,F1,ρ,ri.step e1,(aB.bind.mp w1).imp λk _ w2 u H2 F2 e2 r2=>⟨F2,ρ,(ri.step e1).step e2,(aB.bind.mp w2).imp λz _ w3 y H3 F3 e3 r3=> ?_⟩⟩
   cases Us:bN k with
   |none=>rw[Us]at w3;exact w3.elim
   |some Td=>
    rw[Us]at w3
    cases dH (H:=H2) Us (.inl r2)
    have ZO:=e2.trans e3
    refine⟨_,iL.k (k:=Td) (ZO.keep _ _ h1),?_⟩
    refine w3 _ H3 F3 (e1.trans ZO) ?_
    rcases(h2.mono ZO.grow).get Td with ⟨z1,z2⟩|⟨v',d',z1,z2,z3⟩
    ·rw[z1,z2];exact r3
    ·rw[z1,z2];exact z3
  |_=>exact w1.elim⟩⟩
def lq:List ((af->R D)×(af->R D))->af->R (List (aL×D))
 |[],_=> .ok []
 |(fk,fv)::r,ρ=>fk ρ>>=λk=>fv ρ>>=λv=>lq r ρ>>=λps=>match bN k with
  |some Td=> .ok ((Td,v)::ps)
  |none=> .bad
def c_ (kvs more:List (aL×D)):List (aL×D):=more.foldl (λacc kv=>gY acc kv.1 kv.2) kvs
theorem RepK.merge {K:KU} {F:Hp}:∀{more:List (aL×V)} {Vo:List (aL×D)} {vs:List (aL×V)} {ds:List (aL×D)},RepK K F more Vo->RepK K F vs ds->(vs.map (·.1)).Nodup->RepK K F (df vs more) (c_ ds Vo)/\((df vs more).map (·.1)).Nodup:=by
 intro more Vo
 induction Vo generalizing more with
 |nil=>intro vs ds r h n;rw[r.nilI];exact⟨h,n⟩
 |cons d s ih=>
  intro vs ds r h n
  obtain⟨k,d⟩:=d
  obtain⟨v,us,rfl,q,t⟩:=r.consI
  exact ih (more:=us) t (h.put k q) (vo v n)
inductive BW (ly:List cY) (X:Cx) (pos:LF):List (Option La)->List La->List ((af->R D)×(af->R D))->Prop
 |nil:BW ly X pos [] [] []
 |cons {k v:La} {ks:List (Option La)} {vs:List La} {fk fv:af->R D} {ps:List ((af->R D)×(af->R D))}:PQ ly X k fk->PQ ly X v fv->BW ly X pos ks vs ps->BW ly X pos (some k::ks) (v::vs) ((fk,fv)::ps)
theorem BW.pps {X:Cx} {pos:LF} (c:eA ly X):∀{ks:List (Option La)} {vs:List La} {ps:List ((af->R D)×(af->R D))},BW ly X pos ks vs ps->HU X pos ks vs (ps.map λp=>(tQ X.K c.1 p.1,tQ X.K c.1 p.2))
 |_,_,_, .nil=>CD
 |_,_,_, .cons h1 h2 r=>zN (h1 c) (h2 c) (r.pps c)
theorem BW.len {X:Cx} {pos:LF}:∀{ks:List (Option La)} {vs:List La} {ps:List ((af->R D)×(af->R D))},BW ly X pos ks vs ps->ks.length=vs.length/\ks.length=ps.length/\ks.all (·.isSome)=true
 |_,_,_, .nil=>⟨rfl,rfl,rfl⟩
 |_,_,_, .cons _ _ r=>by
  obtain⟨a,b,c⟩:=r.len
  exact⟨by simp[a],by simp[b],by simp[N6,c]⟩
theorem pc {K:KU} {c:cQ ly} {σ:St}:∀{ps:List ((af->R D)×(af->R D))} {ρ:af} {H F:Hp} {T:List (V×V)->Hp->Prop},RI K c ρ σ H F->
  aB c (lq ps ρ) (λkds=>∀kvs H' F',bf H F H' F'->RepK K F' kvs kds->T (kvs.map λkv=>(kV kv.1,kv.2)) H')->rZ (ps.map λp=>(tQ K c p.1,tQ K c p.2)) σ H T
 |[],ρ,H,F,T,ri,w=>w [] H F (bf.refl ri.sub) .nil
 |(fk,fv)::r,ρ,H,F,T,ri,w=>by
  refine⟨F,ρ,ri,(aB.bind.mp w).imp λk _ w1 v H1 F1 e1 r1=>⟨F1,ρ,ri.step e1,(aB.bind.mp w1).imp λd _ w2 u H2 F2 e2 r2=> ?_⟩⟩
  refine pc ((ri.step e1).step e2) ((aB.bind.mp w2).imp λkds _ w3 kvs H3 F3 e3 r3=> ?_)
  cases hk:bN k with
  |none=>rw[hk]at w3;exact w3.elim
  |some Td=>
   rw[hk]at w3
   cases dH (H:=H1) hk (.inl r1)
   exact w3 ((Td,u)::kvs) H3 F3 ((e1.trans e2).trans e3) (.cons (r2.mono e3.grow) r3)
theorem yl {K:KU} {c:cQ ly} {σ:St} {ps:List ((af->R D)×(af->R D))} {ρ:af} {H F:Hp} {Q:VK} (ri:RI K c ρ σ H F) (Xs:ps.length<=15)
  (w:aB c (lq ps ρ) λkds=>∀p H' F' kvs,H p=none->bf H F H' F'->H' p=some (.dK kvs)->F' p=none->RepK K F' kvs (c_ [] kds)->(kvs.map (·.1)).Nodup->Q (.ref p) H'):
  Et (ps.map λp=>(tQ K c p.1,tQ K c p.2)) σ H Q:=by
 intro p hp
 have e0:=bf.layOwn (o:= .dK []) ri.sub hp
 have Ti:∀{qs:List ((af->R D)×(af->R D))} {kds:List (aL×D)},lq qs ρ= .ok kds->kds.length=qs.length:=by
  intro qs
  induction qs with
  |nil=>intro kds h;cases h;rfl
  |cons q r ih=>
   intro kds h
   obtain⟨k,_,h⟩:=fI (r:=q.1 ρ) h
   obtain⟨v,_,h⟩:=fI (r:=q.2 ρ) h
   obtain⟨a3n,Zp,h⟩:=fI (r:=lq r ρ) h
   cases hk:bN k with
   |none=>rw[hk]at h;cases h
   |some Td=>rw[hk]at h;cases h;simp[ih Zp]
 refine pc (ri.step e0) (w.imp λkds hk w1 kvs H1 F1 e1 r1=> ?_)
 have a1P:H1 p=some (.dK []):=e1.keep _ _ aq
 refine⟨a1P,kvs,rfl,by rw[r1.length,Ti hk];exact Xs,?_⟩
 have a0C:F1 p=none:=by
  cases q:F1 p with
  |none=>rfl
  |some u=>
   rcases e1.new p (by rw[q];simp)with z|z
   ·exact absurd (ri.sub.free hp) z
   ·rw[aq]at z;cases z
 obtain⟨m1,m2⟩:=RepK.merge r1 .nil NU
 refine w1 p _ F1 _ hp ⟨λb u e=> ?_,λb u e=> ?_,e1.grow,λb e=> ?_⟩ aq a0C m1 m2
 ·rw[au (λz=>by rw[z,a0C]at e;cases e)];exact e1.sub b u e
 ·have hb:b≠p:=λz=>by rw[z,hp]at e;cases e
  rw[au hb];exact e1.keep b u (by rw[au hb];exact e)
 ·rcases e1.new b e with z|z
  ·exact .inl z
  ·refine .inr ?_
   rw[au (λq=>by rw[q,aq]at z;cases z)]at z
   exact z
def sv (i:Nat) (ps:List ((af->R D)×(af->R D))):af->R aW:=λρ=>lq ps ρ>>=λkds=> .ok (.nx (ρ.set i (some (.own (.dic (c_ [] kds))))))
theorem Dt (i:Nat) {x:L0} {Tj pl:LF} {keys:List (Option La)} {TQ:List La} {ps:List ((af->R D)×(af->R D))} (hN:X.N.Nodup) (h:BW ly X pl keys TQ ps) (h0:keys≠[]) (Xs:ps.length<=15) (hi:X.N[i]? =some x:=by rfl) (hx:uS X.env.scope x:=by first|exact Mn rfl|exact L_ rfl)
  (hs:Mi (.Dict keys TQ pl) (some (.Name x Tj)) pos.line X.env=pure false:=by rfl) (hf:X.fn x=true\/X.env.scope.names.lookup x=some .local:=by first|exact .inl rfl|exact .inr rfl|assumption) (TY:jN ly i:=by(repeat (first|assumption|exact L2.Pu.cp|refine L2.Pu.free_cons ⟨by first|decide|simp,by first|decide|simp⟩ ?_))):
  d_ ly X (.Assign [.Name x Tj] (.Dict keys TQ pl) pos) (sv i ps):=⟨λc=>
 PS.weak (lg hN hi hx (CF (h.pps c) h.len.2.2 h.len.1 h0 (by rw[h.len.2.1];exact Xs)) hs hf) λD σ H ⟨F,ρ,ri,w⟩=>
  yl ri Xs ((aB.bind.mp w).imp λkds _ w1 p H' F' kvs hp e hH hF r n=>by
   refine w1 _ H' F' e.grow ((ri.step e).setOwn i TY hH hF (ri.ext.keep.free hp) (.dic r n) (λj d' _ hj ej=> ?_) (ri.celNe e.keep hp))
   obtain⟨a,o,k1,k2,_⟩:=ri.own j d' hj
   rw[ej]at k1
   cases k1
   rw[hp]at k2
   cases k2)⟩
end
end L2.Pu
namespace L2.Pu
open PySem PySem.Spec PyProof.Rows
variable {ly:List cY}
def tY (scope outer:MO):Bool:=
 scope.kind== .function&&scope.names.all (λy=>y.2 != .cell)&&scope.names.all (λy=>y.2 != .local||scope.names.lookup y.1==some .local)&&
 scope.names.all (λy=>y.2 != .free||outer.names.lookup y.1==some .cell||outer.names.lookup y.1==some .free)&&decide ((scope.names.map (·.1)).Nodup)
theorem bA.of {X:Cx} {scope outer:MO} (h:X.env.scope=outer) (k:tY scope outer=true):bA X scope:=by
 unfold tY at k
 simp only[Mw,Qk,decide_eq_true_eq,Bool.or_eq_true,bne_iff_ne,beq_iff_eq]at k
 obtain⟨⟨⟨⟨k1,k2⟩,k3⟩,k4⟩,k5⟩:=k
 refine⟨k1,k2,λy hy hl=> ?_,λy hy hf=> ?_,k5⟩
 ·rcases k3 y hy with z|z
  ·exact absurd hl z
  ·exact z
 ·show X.env.scope.names.lookup y.1=_\/X.env.scope.names.lookup y.1=_
  rw[h]
  rcases k4 y hy with (z|z)|z
  ·exact absurd hf z
  ·exact .inl z
  ·exact .inr z
structure bc (K:KU) (mg:L0->Option KW) (x:L0) (st:Ly) (ps:List L0):Prop where
 ex:∃f fd,y_ K x x st f fd/\mg x=some (.ref f)/\fD K fd ps []
structure b_ (P:Lb) (w:Ll) (K:KU) (mg:L0->Option KW) (base:Lj) (k:Nat) (x:L0) (n:Nat) (m:List D->R D):Prop where
 ex:∃f fd ps,eY P w K mg base (og P w) k f fd ps (yc K n m)/\mg x=some (.ref f)/\Mg K (.ref f)=true/\fD K fd ps []
section
variable {P:Lb} {w:Ll} {K:KU} {mg:L0->Option KW} {base:Lj}
theorem aM {x:L0} {st:Ly} {N ps:List L0} {k n m:Nat} {g:af->R aW} (A:bc K mg x st ps) (S:bd N ps (aA st)) (hn:ps.length=n) (hm:N.length=m)
  (Tr:∀(f:KZ) (Tg:KW) (A:LD) (outer:List MU) (s:KY) (H:Hp) (E:XK),cw k (A.deeper (NG x (aA st) s.heap.objs.size f Tg))->
   jP [] (jG (og P w) P w K mg base N x (aA st) f Tg A outer s H E) (bi st) g):b_ P w K mg base (k+1) x n (aC n m g):=by
 obtain⟨f,fd,F,h1,h2⟩:=A.ex
 exact⟨f,fd,ps,G9 F S hn hm λTg A outer s H E hr=>Tr f Tg A outer s H E hr,h1,F.kp,h2⟩
theorem b_.mono {x:L0} {j k n:Nat} {m:List D->R D} (F:b_ P w K mg base j x n m) (h:j<=k):b_ P w K mg base k x n m:=by
 obtain⟨f,fd,ps,h1,h2⟩:=F.ex
 exact⟨f,fd,ps,h1.mono h,h2⟩
theorem Aw {x:L0} {st:Ly} {ps:List L0} {n:Nat} (A:bc K mg x st ps) (hn:ps.length=n):b_ P w K mg base 0 x n (λ_=> .bad):=by
 obtain⟨f,fd,F,h1,h2⟩:=A.ex
 refine⟨f,fd,ps,⟨λvs H Q E h=>by rw[hn];exact h.1,λA outer s H args us vs Q E hr e0 hb rv h=> ?_⟩,h1,F.kp,h2⟩
 obtain⟨_,F',ds,_,_,z⟩:=h
 exact z.elim
end
section
variable {X:Cx} {e:La} {es:List La} {fs:af->R (List D)} {x:L0} {p pos:LF}
theorem K3 {n k:Nat} {m:List D->R D} (F:b_ X.prog X.w X.K X.mg X.base k x n m) (hr:cw k X.A)
  (ha:sY ly X (e::es) fs) (hg:Gl X x:=by rfl) (Ue:(x==("__debug__":L0))=false:=by decide) (he:L6 (e::es) X.env=(false,Ls e X.env)::L6 es X.env:=by rfl) (TC:(LM pos (L6 es X.env)).any (·.1)=false:=by rfl):
  PQ ly X (.Call (.Name x p) (e::es) [] pos) (al m n fs):=by
 obtain⟨f,fd,ps,h1,h2,h3,h4⟩:=F.ex
 exact G0 h1 hr h2 h3 h4 ha hg Ue he TC
end
structure Bl (mg:L0->Option KW) (xs:List L0):Prop where
 no:∀x∈xs,mg x=none
theorem fY:LK "tuple"=some (.type "tuple"):=by decide+kernel
theorem qT:LK "list"=some (.type "list"):=by decide+kernel
theorem qU:LK "dict"=some (.type "dict"):=by decide+kernel
theorem tZ:LK "int"=some (.type "int"):=by decide+kernel
theorem ym:LK "bool"=some (.type "bool"):=by decide+kernel
theorem gK:LK "sorted"=some (.builtin "sorted"):=by decide+kernel
theorem Ax:LK "min"=some (.builtin "min"):=by decide+kernel
theorem Ay:LK "max"=some (.builtin "max"):=by decide+kernel
theorem yn:LK "sum"=some (.builtin "sum"):=by decide+kernel
theorem Gr {K:KU} {m:List D->R D} {H:Hp} {a:KZ} {ns:List Int} {E:XK} (h:m [.scr ns]= .ok (.bl true)) (hs:d6 K H a (ns.map V.int)):yc K 1 m [.ref a] H (λv _=>v= .bl true) E:=by
 refine⟨rfl,H,[.scr ns],aO.refl _, .cons (.scr hs) .nil,?_⟩
 rw[h]
 intro v H' F' e r
 cases r
 rfl
end L2.Pu
namespace L2.Pu
open PySem PySem.Spec PyProof.Rows
variable {ly:List cY}
section
variable {i j:Int}
theorem bv (h:0<j):fJ (.int i) (.int j)=some (.int (i%j)):=if_pos h
theorem eC (h:0<j/\j<1073741824):ju (.int i) (.int j)=some (.int (i / j)):=if_pos (show vp i j from ⟨h.1,by omega⟩)
theorem vD (h:j.natAbs<18446744073709551616):lW (.int i) (.int j)=some (.int (i*j)):=if_pos (show ql i j from .inr h)
theorem sx (h:i.natAbs<18446744073709551616):lW (.int i) (.int j)=some (.int (i*j)):=if_pos (show ql i j from .inl h)
theorem vE:bU (.int i) (.int j)=some (.int (i+j)):=rfl
theorem Az:iP (.int i) (.int j)=some (.int (i - j)):=rfl
theorem ED:Gf (.int i) (.int j)=some (.bl (decide (i<j))):=rfl
theorem ID:KG (.int i) (.int j)=some (.bl (decide (i<=j))):=rfl
theorem IE:qm (.int i) (.int j)=some (.bl (decide (j<i))):=rfl
theorem IF:KH (.int i) (.int j)=some (.bl (decide (j<=i))):=rfl
theorem wJ:lX (.int i) (.int j)=some (.bl (decide (i=j))):=rfl
theorem wK:mW (.int i) (.int j)=some (.bl (!decide (i=j))):=rfl
theorem AA {a b:Bool}:lX (.bl a) (.bl b)=some (.bl (decide (a=b))):=rfl
theorem vF:jS (.int i)=some (.int (-i)):=rfl
end
theorem Gs {a b:List D} (h:a.length+b.length<=lim):bU (.lst a) (.lst b)=some (.lst (a++b)):=if_pos h
theorem IG {ds:List D} {i:Int}:aP (.lst ds) (.int i)=atI ds i:=rfl
theorem wL {ds:List D} {i:Int}:aP (.tup ds) (.int i)=atI ds i:=rfl
theorem IH {ns:List Int} {i:Int}:aP (.scr ns) (.int i)=(atI ns i).map .int:=rfl
theorem II {kds:List (aL×D)} {k:D}:aP (.dic kds) k=(bN k).bind λTd=>aZ kds Td:=rfl
theorem Gu {ds:List D}:cR [.lst ds]=some (.int ds.length):=rfl
theorem vG {ds:List D}:cR [.tup ds]=some (.int ds.length):=rfl
theorem Gv {ds:List Int}:cR [.scr ds]=some (.int ds.length):=rfl
theorem AB {ds:List D}:bZ [.lst ds]=some (.tup ds):=rfl
theorem AD {ds:List D}:bZ [.tup ds]=some (.tup ds):=rfl
theorem Du {ds:List D}:k_ [.lst ds]=some (.lst ds):=rfl
theorem Dv {ds:List D}:k_ [.tup ds]=some (.lst ds):=rfl
theorem eD {α:Type} {xs:List α} {k:Nat} (h:k<xs.length):L2.atI xs (k:Int)=some xs[k]:=kG (by simp[h])
theorem Dw {α β:Type} (f:α->β) (xs:List α) (i:Int):L2.atI (xs.map f) i=(L2.atI xs i).map f:=by
 unfold L2.atI
 rw[L4]
 cases t9 xs.length i with
 |none=>rfl
 |some j=>simp
theorem Dx (x:Int) (xs:List Int):((xs.map D.int).any λy=>Hb y (.int x))=decide (x∈xs):=by
 induction xs with
 |nil=>rfl
 |cons y r ih=>
  rw[L3,MS,ih]
  show (y==x||decide (x∈r))=decide (x∈y::r)
  by_cases e:x=y
  ·subst e;simp
  ·have:(y==x)=false:=beq_eq_false_iff_ne.mpr (MG e)
   simp[this,e]
theorem Dy (xs:List Int):(xs.map D.int).all jT=true:=by
 induction xs with
 |nil=>rfl
 |cons y r ih=>rw[L3,N6,ih];rfl
theorem oy (Uj:Bool) (x:Int) (xs:List Int):Hc Uj (.int x) (xs.map .int)=some (.bl (if Uj then !decide (x∈xs)else decide (x∈xs))):=by
 unfold Hc
 rw[if_pos ⟨rfl,Dy xs⟩,Dx]
theorem wM {x:Int} {xs:List Int}:bV false (.int x) (.lst (xs.map .int))=some (.bl (decide (x∈xs))):=oy false x xs
theorem IJ {x:Int} {xs:List Int}:bV false (.int x) (.tup (xs.map .int))=some (.bl (decide (x∈xs))):=oy false x xs
theorem t_ {x:Int} {xs:List Int}:bV true (.int x) (.lst (xs.map .int))=some (.bl (!decide (x∈xs))):=oy true x xs
theorem iw {x:Int} {xs:List Int}:bV true (.int x) (.tup (xs.map .int))=some (.bl (!decide (x∈xs))):=oy true x xs
theorem vH (n:Nat):fX 0 (n:Int)=(LU n).map λk:Nat=>D.int (k:Int):=by
 unfold fX
 simp
theorem pf {ds:List D}:yi "tuple" (.tup ds)=some (.bl true):=rfl
theorem Gw {i:Int}:yi "tuple" (.int i)=some (.bl false):=rfl
theorem AE {i:Int}:yi "int" (.int i)=some (.bl true):=rfl
theorem AF {i:Int}:yi "bool" (.int i)=some (.bl false):=rfl
theorem lZ {m:List D->R D} {n:Nat} {fs:af->R (List D)} {ρ:af} {ds:List D} {d:D} (h:fs ρ= .ok ds) (hl:ds.length=n) (hm:m ds= .ok d):al m n fs ρ= .ok d:=by
 unfold al
 rw[h,aj,if_pos hl,hm]
end L2.Pu
namespace L2.Pu
theorem b8 {g:D->af->R af} {gb:af->R aW} {d:D} {r:List D} {ρ ρ1 ρ2:af} (h1:g d ρ= .ok ρ1) (h2:gb ρ1= .ok (.nx ρ2)):aU g gb (d::r) ρ=aU g gb r ρ2:=by
 rw[aU,h1,aj,h2,aj]
theorem AG {g:D->af->R af} {gb:af->R aW} {d:D} {r:List D} {ρ ρ1 ρ2:af} (h1:g d ρ= .ok ρ1) (h2:gb ρ1= .ok (.cnt ρ2)):aU g gb (d::r) ρ=aU g gb r ρ2:=by
 rw[aU,h1,aj,h2,aj]
theorem u0 {g:D->af->R af} {gb:af->R aW} {d e:D} {r:List D} {ρ ρ1:af} (h1:g d ρ= .ok ρ1) (h2:gb ρ1= .ok (.ret e)):aU g gb (d::r) ρ= .ok (.ret e):=by
 rw[aU,h1,aj,h2,aj]
end L2.Pu
namespace L2.Pu
theorem aE {k n:Nat} {g:af->R aW} {ds:List D} {d:D} (h:ds.length=k) (e:g (cZ n ds)= .ok (.ret d)):aC k n g ds= .ok d:=by
 unfold aC
 rw[if_pos h,e,aj]
theorem Gx {k n:Nat} {g:af->R aW} {ds:List D} {ρ:af} (h:ds.length=k) (e:g (cZ n ds)= .ok (.nx ρ)):aC k n g ds= .ok .non:=by
 unfold aC
 rw[if_pos h,e,aj]
theorem ai {g g':af->R aW} {ρ ρ':af} (h:g ρ= .ok (.nx ρ')):ao g g' ρ=g' ρ':=by
 unfold ao
 rw[h,aj]
theorem dP {g g':af->R aW} {ρ:af} {d:D} (h:g ρ= .ok (.ret d)):ao g g' ρ= .ok (.ret d):=by
 unfold ao
 rw[h,aj]
theorem c7 {fi:af->R (List D)} {g:D->af->R af} {gb:af->R aW} {ρ:af} {ds:List D} (h:fi ρ= .ok ds):d7 fi g gb ρ=aU g gb ds ρ:=by
 unfold d7
 rw[h,aj]
end L2.Pu
namespace L2.Pu
theorem ix {fs:af->R (List D)} {ρ:af} {n:Nat} (h:fs ρ= .ok [.int (n:Int)]) (hn:n<=lim):du fs ρ= .ok ((LU n).map λk:Nat=>D.int (k:Int)):=by
 unfold du
 rw[h,aj]
 have hc:(n:Int).natAbs<=lim:=by rw[Int.natAbs_natCast];exact hn
 exact(if_pos hc).trans (congrArg R.ok (vH n))
end L2.Pu
namespace L2.Pu
open PySem PySem.Spec PyProof.Rows
variable {ly:List cY}
section
variable {X:Cx} {TJ tg iter:La} {TH:List La} {scope:MO} {pos:LF} {fi:af->R (List D)} {g:D->af->R af} {gt:af->R Bool} {fe:af->R D}
theorem Dz (i:Nat) {y:L0} {py U4:LF} (S:bA X scope) (hc:X.calm=true) (hN:X.N.Nodup) (hi:BU ly X tg iter fi) (hg:∀s H ex,Ab [] (bE X scope s H ex) tg g) (UB:∀s H ex,tO [] (bE X scope s H ex) TH gt) (Ux:∀s H ex,PQ [] (bE X scope s H ex) TJ fe)
  (V8:X.N[i]? =some y:=by rfl) (hx:uS X.env.scope y:=by first|exact Mn rfl|exact L_ rfl) (hf:X.fn y=true\/X.env.scope.names.lookup y=some .local:=by first|exact .inl rfl|exact .inr rfl|assumption)
  (UZ:Mi (.ListComp TJ [⟨tg,iter,TH,0⟩] scope pos) (some (.Name y py)) U4.line X.env=pure false:=by rfl) (hs:∀x,Mq iter X.env x=pure x:=by intro _;rfl) (TY:jN ly i:=by(repeat (first|assumption|exact L2.Pu.cp|refine L2.Pu.free_cons ⟨by first|decide|simp,by first|decide|simp⟩ ?_))):
  d_ ly X (.Assign [.Name y py] (.ListComp TJ [⟨tg,iter,TH,0⟩] scope pos) U4) (jR i (dG X.N scope.names fi g gt fe)):=⟨λc=>
 PS.weak (lg hN V8 hx (wA S hc (hi c) (λs H ex=>Ji (hg s H ex)) (λs H ex=>Jj (UB s H ex)) (λs H ex=>J_ (Ux s H ex)) hs) UZ hf) λD σ H ⟨F,ρ,ri,w⟩=>by
  refine⟨F,ρ,ri,(aB.bind.mp (aB.bind.mp w)).imp λds _ w1 J H1 F1 e1 jo p hp=> ?_⟩
  split at w1
  ·rename_i hl
   split at w1
   ·rename_i es he
    refine lp ri e1 jo hp hl he λH2 F2 vs e2 VH Xa rv=> ?_
    refine w1 _ H2 F2 (e1.grow.trans e2.grow) ((ri.step (e1.trans e2)).setOwn i TY VH Xa (ri.ext.keep.free (e1.keep.free hp)) (.lst rv) (λj d' _ hj ej=> ?_) (ri.celNe (e1.trans e2).keep (e1.keep.free hp)))
    obtain⟨a,o,k1,k2,_⟩:=ri.own j d' hj
    rw[ej]at k1
    cases k1
    rw[e1.keep.free hp]at k2
    cases k2
   ·exact w1.elim
  ·exact w1.elim⟩
end
end L2.Pu
namespace L2.Pu
open PySem PySem.Spec PyProof.Rows
variable {ly:List cY}
theorem dQ {f:af->R D} {ρ:af} {d:D} (h:f ρ= .ok d):aG f ρ= .ok (.ret d):=by unfold aG;rw[h,aj]
theorem eE {g:List D->Option D} {fs:af->R (List D)} {ρ:af} {ds:List D} {d:D} (h:fs ρ= .ok ds) (h2:g ds=some d):bG g fs ρ= .ok d:=by unfold bG;rw[h,aj,h2,bH]
theorem ah {f:af->R D} {fs:af->R (List D)} {ρ:af} {ds:List D} {d:D} (h:f ρ= .ok d) (h2:fs ρ= .ok ds):aa f fs ρ= .ok (d::ds):=by unfold aa;rw[h,aj,h2,aj]
theorem vI {f:af->R (List D)} {ρ:af} {ds:List D} (h:f ρ= .ok ds):fL f ρ= .ok (.lst ds):=by unfold fL;rw[h,aj]
theorem dw {N:List L0} {names:List (L0×Mf)} {fi:af->R (List D)} {g:D->af->R af} {gt:af->R Bool} {fe:af->R D} {ρ τ:af} {ds es:List D} (h:fi ρ= .ok ds) (hl:ds.length<=lim) (hr:gJ N names ρ=τ) (hc:de g gt fe ds τ= .ok es):
  dG N names fi g gt fe ρ= .ok es:=by
 unfold dG
 rw[h,aj,if_pos hl,hr,hc]
theorem own_of {i:Nat} {f:af->R (List D)} {ρ:af} {ds:List D} (h:f ρ= .ok ds):jR i f ρ= .ok (.nx (ρ.set i (some (.own (.lst ds))))):=by unfold jR;rw[h,aj]
theorem dA {f:af->R D} {g:D->af->R af} {ρ ρ':af} {d:D} (h:f ρ= .ok d) (h2:g d ρ= .ok ρ'):aJ f g ρ= .ok (.nx ρ'):=by unfold aJ;rw[h,aj,h2,aj]
theorem aQ {m:List D->R D} {n:Nat} {fs:af->R (List D)} {ρ:af} {ds:List D} {d:D} (h:fs ρ= .ok ds) (hl:ds.length=n) (hm:m ds= .ok d):al m n fs ρ= .ok d:=lZ h hl hm
theorem dj {g:D->D->Option D} {fa fb:af->R D} {ρ:af} {a b d:D} (h:fa ρ= .ok a) (h2:fb ρ= .ok b) (h3:g a b=some d):f2 g fa fb ρ= .ok d:=by unfold f2;rw[h,aj,h2,aj,h3,bH]
end L2.Pu
namespace L2.Pu
theorem l_ (d:D):(Slot.val d).data=d:=rfl
theorem ph (d:D):(Slot.own d).data=d:=rfl
theorem AH (d:D):(Slot.bor d).data=d:=rfl
end L2.Pu
namespace L2.Pu
open PySem PySem.Spec PyProof.Rows
variable {ly:List cY}
def eR:List (aL×D)->Option (List Int)
 |[]=>some []
 |(.inl i,_)::r=>(eR r).map (i::·)
 |(.inr _,_)::_=>none
def e_:List D->Option D
 |[.lst ds]=>(cA ds).bind λns=>if ns.length<64 then some (.lst ((cy ns).map .int))else none
 |[.dic kds]=>(eR kds).bind λns=>if ns.length<64 then some (.lst ((cy ns).map .int))else none
 |_=>none
theorem ua {K:KU} {F:Hp}:∀{ds:List (aL×D)} {ns:List Int} {vs:List (aL×V)},eR ds=some ns->RepK K F vs ds->vs.map (·.1)=ns.map Lf:=by
 intro ds
 induction ds with
 |nil=>intro ns vs h r;rw[r.nilI];cases h;rfl
 |cons d r ih=>
  intro ns vs h rr
  obtain⟨k,d⟩:=d
  obtain⟨v,us,rfl,_,t⟩:=rr.consI
  cases k with
  |inr i=>cases h
  |inl i=>
   replace h:(eR r).map (i::·)=some ns:=h
   cases e:eR r with
   |none=>rw[e]at h;cases h
   |some ms=>
    rw[e]at h
    cases h
    rw[L3,L3,ih e t]
def m6 (K:KU):List V->Hp->VK->Prop:=λxs H Q=>
 (∃p ns,xs=[.ref p]/\d6 K H p (ns.map V.int)/\ns.length<64/\∀l,H l=none->Q (.ref l) (a_ H l (.lst ((cy ns).map V.int))))\/
 ∃p kvs ns,xs=[.ref p]/\H p=some (.dK kvs)/\kvs.map (·.1)=ns.map Lf/\ns.length<64/\∀l,H l=none->Q (.ref l) (a_ H l (.lst ((cy ns).map V.int)))
theorem sy {X:Cx} (hc:X.calm=true):ck X (.builtin "sorted") (m6 X.K):=se.or (sh hc)
theorem ub {K:KU}:kU K (m6 K) e_:=by
 intro vs ds d H F Q s rv h k
 match ds,h with
 |[.lst xs],h=>exact .inl (vA vs _ d H F Q s rv h k)
 |[.dic xs],h=>
  obtain⟨v,rfl,r⟩:=rv.one
  obtain⟨a,ws,rfl,h1,h2,_⟩:=r.dic s
  replace h:((eR xs).bind λns=>if ns.length<64 then some (D.lst ((cy ns).map .int))else none)=some d:=h
  cases e:eR xs with
  |none=>rw[e]at h;cases h
  |some ns=>
   rw[e]at h
   replace h:(if ns.length<64 then some (D.lst ((cy ns).map .int))else none)=some d:=h
   split at h
   ·rename_i hl
    cases h
    refine .inr ⟨a,ws,ns,rfl,h1,ua e h2,hl,λl Ur=> ?_⟩
    have e:=bf.lay (o:= .lst ((cy ns).map V.int)) s Ur
    exact k _ _ _ e (.lst aq (ir _))
   ·cases h
section
variable {X:Cx} {a b:La} {fs:af->R (List D)} {pos p1 p2 Tv:LF}
def fZ (fs:af->R (List D)):af->R D:=λρ=>fs ρ>>=λds=>match ds with
 |[.int i, .int j]=>if i.natAbs<=lim/\j.natAbs<=lim then .ok (.lst ((ez i j).map .int))else .bad
 |_=> .bad
theorem qV {j:Int} (h:j.natAbs<=lim): -(2 ^20)<=j/\j<=2 ^20:=by
 unfold lim at h
 omega
theorem uc (hc:X.calm=true) (Yc:X.mg "list"=none) (Y3:X.mg "range"=none) (ha:sY ly X [a,b] fs) (Yd:Gl X "list":=by rfl) (Y4:Gl X "range":=by rfl)
  (he:L6 [a,b] X.env=(false,Ls a X.env)::L6 [b] X.env:=by rfl) (TC:(LM Tv (L6 [b] X.env)).any (·.1)=false:=by rfl)
  (VI:L6 [.Call (.Name "range" p2) [a,b] [] Tv] X.env=(false,Ls (.Call (.Name "range" p2) [a,b] [] Tv) X.env)::L6 [] X.env:=by rfl) (UP:(LM pos (L6 [] X.env)).any (·.1)=false:=by rfl):
  PQ ly X (.Call (.Name "list" p1) [.Call (.Name "range" p2) [a,b] [] Tv] [] pos) (fZ fs):=⟨λc=>
 PE.weak (kF (sg hc) Yd Yc L2.Pu.qT (eN (kF sf Y4 Y3 QM (ha c) (by decide) (by decide) he TC) iI VI) (by decide) (by decide) VI UP) λσ H Q ⟨F,ρ,ri,w⟩=>
  ⟨F,ρ,ri,(aB.bind.mp w).imp λds _ w1 vs H1 F1 e1 r1=>by
   split at w1
   ·rename_i i j _
    cases r1.int2
    ·split at w1
     ·rename_i hl
      refine⟨i,j,rfl,λp hp=> ?_⟩
      have e2:=bf.layOwn (o:= .rng i j) e1.sub hp
      have hi:=qV hl.1
      have hj:=qV hl.2
      refine⟨p,i,j,rfl,aq,hi,hj,λl Ur=> ?_⟩
      have e3:=bf.lay (o:= .lst ((ez i j).map V.int)) e2.sub Ur
      exact w1 _ _ _ ((e1.trans e2).trans e3) (.lst aq (ir _))
     ·exact w1.elim
   ·exact w1.elim⟩⟩
end
end L2.Pu
namespace L2.Pu
open PySem PySem.Spec PyProof.Rows
variable {ly:List cY}
theorem pi {gt:af->R Bool} {gb:af->R aW} {n:Nat} {ρ ρ':af} (h1:gt ρ= .ok true) (h2:gb ρ= .ok (.nx ρ')):bP gt gb (n+1) ρ=bP gt gb n ρ':=by
 rw[bP,h1,aj,if_pos rfl,h2,aj]
theorem qW {gt:af->R Bool} {gb:af->R aW} {n:Nat} {ρ:af} (h1:gt ρ= .ok false):bP gt gb (n+1) ρ= .ok (.nx ρ):=by
 rw[bP,h1,aj,if_neg (by simp)]
theorem iS {gt:af->R Bool} {gb:af->R aW}:∀{n:Nat} {ρ:af} {o:aW} (k:Nat),bP gt gb n ρ= .ok o->bP gt gb (n+k) ρ= .ok o
 |0,ρ,o,k,h=>by cases h
 |n+1,ρ,o,k,h=>by
  rw[R_]
  rw[bP]at h ⊢
  obtain⟨b,h1,h⟩:=fI h
  rw[h1,aj]
  cases b with
  |false=>exact h
  |true=>
   rw[if_pos rfl]at h ⊢
   obtain⟨o',h2,h⟩:=fI h
   rw[h2,aj]
   cases o' with
   |nx ρ'=>exact iS k h
   |cnt ρ'=>exact iS k h
   |brk ρ'=>exact h
   |ret d=>exact h
   |retc d ρ'=>exact h
end L2.Pu
namespace L2.Pu
open PySem PySem.Spec PyProof.Rows
variable {ly:List cY}
section
variable {X:Cx} {a:La} {fa:af->R D} {pos p1 p2 Tv:LF}
def oz (f:af->R D):af->R D:=λρ=>f ρ>>=λd=>match d with
 | .lst ds=> .ok (.tup ds.reverse)
 |_=> .bad
theorem AI (hc:X.calm=true) (Zh:X.mg "tuple"=none) (Y3:X.mg "reversed"=none) (ha:PB ly X a fa) (Zi:Gl X "tuple":=by rfl) (Y4:Gl X "reversed":=by rfl)
  (VI:L6 [a] X.env=(false,Ls a X.env)::L6 [] X.env:=by rfl) (UP:(LM Tv (L6 [] X.env)).any (·.1)=false:=by rfl)
  (VT:L6 [.Call (.Name "reversed" p2) [a] [] Tv] X.env=(false,Ls (.Call (.Name "reversed" p2) [a] [] Tv) X.env)::L6 [] X.env:=by rfl) (Ve:(LM pos (L6 [] X.env)).any (·.1)=false:=by rfl):
  PQ ly X (.Call (.Name "tuple" p1) [.Call (.Name "reversed" p2) [a] [] Tv] [] pos) (oz fa):=⟨λc=>
 PE.weak (xT hc (ha c) Zh Y3 Zi Y4 VI UP VT Ve) λσ H Q ⟨F,ρ,ri,w⟩=>⟨F,ρ,ri,(aB.bind.mp w).imp λd _ w1 v H1 F1 e1 r1=>by
  cases d with
  |lst ds=>
   obtain⟨p,vs,rfl,h1,h2⟩:=r1.lst e1.sub
   refine⟨p,vs,rfl,d6.of h1,λl hl=> ?_⟩
   have e2:=bf.lay (o:= .tup vs.reverse) e1.sub hl
   exact w1 _ _ _ (e1.trans e2) (.tup aq (h2.reverse.mono e2.grow))
  |_=>exact w1.elim⟩⟩
end
section
variable {K:KU}
def f_:List D->Option (List (aL×D))
 |[]=>some []
 | .tup [k,v]::r=>(bN k).bind λTd=>(f_ r).map λps=>(Td,v)::ps
 |_::_=>none
def dk:List D->Option D
 |[.lst ds]=>(f_ ds).map λps=> .dic (c_ [] ps)
 |[.tup ds]=>(f_ ds).map λps=> .dic (c_ [] ps)
 |_=>none
theorem qX {H F:Hp} (s:aO F H):∀{ds:List D} {vs:List V} {ps:List (aL×D)},f_ ds=some ps->Reps K F vs ds->∃kvs,eQ H vs kvs/\RepK K F kvs ps:=by
 intro ds
 induction ds with
 |nil=>intro vs ps h r;cases r.nilI;cases h;exact⟨[], .nil, .nil⟩
 |cons d r ih=>
  intro vs ps h rr
  obtain⟨k,v,rfl⟩:∃k v,d= .tup [k,v]:=by
   cases d with
   |tup xs=>
    cases xs with
    |nil=>cases h
    |cons k xs=>
     cases xs with
     |nil=>cases h
     |cons v xs=>
      cases xs with
      |nil=>exact⟨k,v,rfl⟩
      |cons _ _=>cases h
   |_=>cases h
  obtain⟨v0,us,rfl,r1,t⟩:=rr.consI
  obtain⟨a0,xs,rfl,ha,r2⟩:=r1.tupI
  obtain⟨k1,a1Q,rfl,rk,t1⟩:=r2.consI
  obtain⟨v1,a1I,rfl,rv,t2⟩:=t1.consI
  cases t2.nilI
  replace h:(bN k).bind (λTd=>(f_ r).map λps=>(Td,v)::ps)=some ps:=h
  cases hk:bN k with
  |none=>rw[hk]at h;cases h
  |some Td=>
   rw[hk]at h
   replace h:(f_ r).map (λps=>(Td,v)::ps)=some ps:=h
   cases hr:f_ r with
   |none=>rw[hr]at h;cases h
   |some qs=>
    rw[hr]at h
    cases h
    obtain⟨kvs,h1,h2⟩:=ih hr t
    cases dH (H:=H) hk (.inl rk)
    exact⟨_, .cons (s _ _ ha) h1, .cons rv h2⟩
theorem AJ:kU K (λxs H Q=>∃p ys ps,xs=[.ref p]/\(H p=some (.lst ys)\/H p=some (.tup ys))/\eQ H ys ps/\∀l,H l=none->Q (.ref l) (a_ H l (.dK (df [] ps)))) dk:=by
 intro vs ds d H F Q s rv h k
 have U5:∀{xs:List D} {ws:List V} {a:KZ},Reps K F ws xs->(f_ xs).map (λps=>D.dic (c_ [] ps))=some d->(H a=some (.lst ws)\/H a=some (.tup ws))->
   ∃p ys ps,[V.ref a]=[V.ref p]/\(H p=some (.lst ys)\/H p=some (.tup ys))/\eQ H ys ps/\∀l,H l=none->Q (.ref l) (a_ H l (.dK (df [] ps))):=by
  intro xs ws a h2 h h1
  cases e:f_ xs with
  |none=>rw[e]at h;cases h
  |some ps=>
   rw[e]at h
   cases h
   obtain⟨kvs,g1,g2⟩:=qX s e h2
   refine⟨a,ws,kvs,rfl,h1,g1,λl hl=> ?_⟩
   have e:=bf.lay (o:= .dK (df [] kvs)) s hl
   obtain⟨m1,m2⟩:=RepK.merge (g2.mono e.grow) .nil NU
   exact k _ _ _ e (.dic aq m1 m2)
 match ds,h with
 |[.lst xs],h=>
  obtain⟨v,rfl,r⟩:=rv.one
  obtain⟨a,ws,rfl,h1,h2⟩:=r.lst s
  exact U5 h2 h (.inl h1)
 |[.tup xs],h=>
  obtain⟨v,rfl,r⟩:=rv.one
  obtain⟨a,ws,rfl,h1,h2⟩:=r.tup s
  exact U5 h2 h (.inr h1)
end
end L2.Pu
namespace L2.Pu
open PySem PySem.Spec PyProof.Rows
variable {ly:List cY}
def Gy:af->R aW:=λ_=> .bad
theorem IK {X:Cx} {st:Ly}:d_ ly X st Gy:=⟨λc Tc s σ H D I q=>by
 obtain⟨F,ρ,ri,w⟩:=q
 exact w.elim⟩
structure m7 (K:KU) (x:L0) (C:KZ):Prop where
 ns:Lz K Lp x=some (some (.ref C))
 cl:wv K C
theorem RepF.nilI {K:KU} {F:Hp} {vs:List (L0×V)} (h:RepF K F vs []):vs=[]:=by cases h;rfl
theorem RepF.consI {K:KU} {F:Hp} {vs:List (L0×V)} {k:L0} {d:D} {ds:List (L0×D)} (h:RepF K F vs ((k,d)::ds)):∃v us,vs=(k,v)::us/\dg K F v d/\RepF K F us ds:=by
 cases h with
 |cons r t=>exact⟨_,_,rfl,r,t⟩
theorem RepF.get {K:KU} {F:Hp} {f:L0} {d:D} {vs:List (L0×V)} {ds:List (L0×D)} (g:RepF K F vs ds):ds.lookup f=some d->∃v,(f,v)∈vs/\dg K F v d:=by
 induction ds generalizing vs with
 |nil=>intro h;cases h
 |cons p ds ih=>
  intro h
  obtain⟨v,us,e0,r,t⟩:=RepF.consI (k:=p.1) (d:=p.2) g
  subst e0
  rw[Mm]at h
  cases e:f==p.1 with
  |true=>rw[e]at h;cases h;cases eq_of_beq e;exact⟨v,L8,r⟩
  |false=>
   rw[e]at h
   obtain⟨v',h1,h2⟩:=ih t h
   exact⟨v',L7 _ h1,h2⟩
theorem RepF.names {K:KU} {F:Hp} {vs:List (L0×V)} {ds:List (L0×D)} (g:RepF K F vs ds):vs.map (·.1)=ds.map (·.1):=by
 induction ds generalizing vs with
 |nil=>rw[g.nilI];rfl
 |cons p ds ih=>
  obtain⟨v,us,e0,_,t⟩:=RepF.consI (k:=p.1) (d:=p.2) g
  rw[e0,L3,L3,ih t]
theorem jU {α:Type} {f:L0}:∀{ds:List (L0×α)},ds.lookup f=none->f∉ds.map (·.1)
 |[],_=>by simp
 |(k,v)::ds,h=>by
  rw[Mm]at h
  cases e:f==k with
  |true=>rw[e]at h;cases h
  |false=>
   rw[e]at h
   rw[L3]
   intro z
   rcases Le.mp z with z|z
   ·rw[z]at e;simp at e
   ·exact jU h z
theorem c9.ins {K:KU} {H F:Hp} {v:V} {x:L0} {Ud:List (L0×D)} (s:aO F H):c9 K H F v (.ins x Ud)->∃a C dx fs vs,v= .ref a/\H a=some (.ins C dx fs)/\Lz K Lp x=some (some (.ref C))/\(∀p∈vs,fs.lookup p.1=some p.2)/\(∀f v,fs.lookup f=some v->f∈vs.map (·.1))/\RepF K F vs Ud:=λh=>by
 obtain⟨a,C,dx,fs,vs,e,h,r⟩:=h.in rfl
 exact⟨a,C,dx,fs,vs,e,s _ _ h,r⟩
section
variable {X:Cx} {a o e:La} {es:List La} {fa fo:af->R D} {fs:af->R (List D)} {pos Th p:LF} {cls f m x:L0} {C:KZ}
def bw (cls f:L0) (fa:af->R D):af->R D:=λρ=>fa ρ>>=λd=>match d with
 | .ins y Ud=>if y=cls then R.of (Ud.lookup f)else .bad
 |_=> .bad
theorem IL (T:m7 X.K cls C) (n:eh X.K C f) (ha:PB ly X a fa) (hb:ML a f X.env (Ls a X.env)=Ls a X.env:=by rfl):PQ ly X (.Attribute a f pos) (bw cls f fa):=⟨λc=>
 PE.weak (Ft (ha c) hb) λσ H Q ⟨F,ρ,ri,w⟩=>⟨F,ρ,ri,(aB.bind.mp w).imp λd _ w1 v H1 F1 e1 r1=>by
  cases d with
  |ins y Ud=>
   dsimp only at w1
   split at w1
   ·rename_i hy
    subst hy
    obtain⟨d',hd,k⟩:=w1.of
    obtain⟨a,C',dx,fs,vs,rfl,h1,h2,h3,h4,h5⟩:=r1.ins e1.sub
    have ec:C'=C:=by rw[T.ns]at h2;cases h2;rfl
    subst ec
    obtain⟨u,hu,ru⟩:=h5.get hd
    exact⟨a,C',dx,fs,u,rfl,h1,T.cl,n,h3 _ hu,k u H1 F1 e1 ru⟩
   ·exact w1.elim
  |_=>exact w1.elim⟩⟩
structure jV (P:Lb) (w:Ll) (K:KU) (mg:L0->Option KW) (base:Lj) (k:Nat) (cls m:L0) (n:Nat) (r:List D->R D):Prop where
 ex:∃C f fd ps,eY P w K mg base (og P w) k f fd ps (yc K n r)/\m7 K cls C/\xL K C m f/\fD K fd ps []
def bW (cls m:L0) (n:Nat) (r:List D->R D) (fo:af->R D) (fs:af->R (List D)):af->R D:=λρ=>fo ρ>>=λd=>match d with
 | .ins y Ud=>if y=cls/\Ud.lookup m=none then (fs ρ>>=λds=>if ds.length+1=n then (match r (d::ds)with| .ok z=> .ok z| .err x _=> .err x ρ| .bad=> .bad)else .bad)else .bad
 |_=> .bad
theorem wN {c:cQ ly} {r:List D->R D} {n:Nat} {σ:St} {H:Hp} {Q:VK} (T:m7 X.K cls C) (h:tQ X.K c (bW cls m n r fo fs) σ H Q):zB C m (yc X.K n r) [] (G_ X c) (tQ X.K c fo) (H_ X.K c fs) σ H Q:=by
 obtain⟨F,ρ,ri,w⟩:=h
 refine⟨F,ρ,ri,(aB.bind.mp w).imp λd hd w1 v H1 F1 e1 r1=> ?_⟩
 cases d with
 |ins y Ud=>
  dsimp only at w1
  split at w1
  ·rename_i hy
   obtain⟨rfl,hm⟩:=hy
   obtain⟨a,C',dx,Wo,vs,rfl,h1,h2,h3,h4,h5⟩:=c9.ins e1.sub (H:=H1) (.inl r1)
   have ec:C'=C:=by rw[T.ns]at h2;cases h2;rfl
   subst ec
   have VG:Wo.lookup m=none:=by
    cases e:Wo.lookup m with
    |none=>rfl
    |some v=>
     have:=h4 m v e
     rw[h5.names]at this
     exact absurd this (jU hm)
   refine⟨a,dx,Wo,rfl,h1,VG,F1,ρ,ri.step e1,(aB.bind.mp w1).imp λds _ w2 us H2 F2 e2 r2=> ?_⟩
   show yc X.K n r (V.ref a::(us++[])) H2 Q (G_ X c σ)
   rw[Mb]
   split at w2
   ·rename_i hl
    refine⟨by rw[Lm,r2.length];exact hl,F2,_,e2.sub, .cons (r1.mono e2.grow) r2,?_⟩
    split at w2
    ·rename_i z hz
     try rw[hz]
     exact λv H' F' e' r'=>w2 v H' F' ((e1.trans e2).trans e') r'
    ·rename_i z _ hz
     try rw[hz]
     exact λcls a H' F' ec e'=>⟨_,ρ,F',ec,ri.step ((e1.trans e2).trans e'),w2⟩
    ·exact w2.elim
   ·exact w2.elim
  ·exact w1.elim
 |_=>exact w1.elim
theorem Gz {k n:Nat} {r:List D->R D} {pl:NV Bool} (G:jV X.prog X.w X.K X.mg X.base k cls m n r) (hr:cw k X.A) (ho:PQ ly X o fo) (ha:sY ly X (e::es) fs)
  (Tz:L6 (e::es) X.env=(false,Ls e X.env)::L6 es X.env:=by rfl) (TC:(LM pos (L6 es X.env)).any (·.1)=false:=by rfl)
  (ht:Ls (.Call (.Attribute o m Th) (e::es) [] pos) X.env=(do
   let ov<-Ls o X.env
   OM Th.atName
   let (f,first)<-N9 [ov] (ON ov m pl)
   Q6 pos f first (LM pos (L6 (e::es) X.env)) (NN pos (MX [] X.env))):=by rfl):
  PQ ly X (.Call (.Attribute o m Th) (e::es) [] pos) (bW cls m n r fo fs):=by
 obtain⟨C,f,fd,ps,h1,h2,h3,h4⟩:=G.ex
 exact⟨λc=>PE.weak (Ci (pl:=pl) (ho c) h2.cl h3 h1 hr h4 .nil (wF c) (ha c) Tz TC ht) λσ H Q h=>wN h2 h⟩
theorem DA {k n:Nat} {r:List D->R D} {pl:NV Bool} (G:jV X.prog X.w X.K X.mg X.base k cls m n r) (hr:cw k X.A) (ho:PQ ly X o fo)
  (ht:Ls (.Call (.Attribute o m Th) [] [] pos) X.env=(do
   let ov<-Ls o X.env
   OM Th.atName
   let (f,first)<-N9 [ov] (ON ov m pl)
   Q6 pos f first (LM pos (L6 [] X.env)) (NN pos (MX [] X.env))):=by rfl):
  PQ ly X (.Call (.Attribute o m Th) [] [] pos) (bW cls m n r fo ae):=by
 obtain⟨C,f,fd,ps,h1,h2,h3,h4⟩:=G.ex
 refine⟨λc=>PE.weak (zC (pl:=pl) (ho c) h2.cl h3 h1 hr h4 .nil (wF c) ht) λσ H Q h=> ?_⟩
 obtain⟨F,ρ,ri,w⟩:=wN h2 h
 refine⟨F,ρ,ri,w.imp λd _ k v H1 F1 e1 r1=> ?_⟩
 obtain⟨a,dx,Wo,g1,g2,g3,F2,ρ2,V_,w2⟩:=k v H1 F1 e1 r1
 exact⟨a,dx,Wo,g1,g2,g3,w2 [] H1 F2 (bf.refl V_.sub) .nil⟩
theorem aw.ghost {Tc:List (KZ×LG)} {σ:St} {H:Hp} {s:KY} (I:aw X Tc σ H s) {i:Nat} {g:L0} {v:Option V} (hi:X.N[i]? =some g) (hv:¬t4 X.env.scope g):aw X Tc (σ.set i v) H s:=by
 refine {I with loc:= ?_,len:=by rw[OZ];exact I.len}
 obtain⟨mm,h1,h2⟩:=I.loc
 refine⟨mm,h1,λj x u e1 e2 e3=> ?_⟩
 by_cases z:i=j
 ·subst z
  rw[hi]at e1
  cases e1
  exact absurd e3 hv
 ·rw[ar z]at e2
  exact h2 j x u e1 e2 e3
def IM (K:KU) (i:Nat) (ta tv:TE) (f:L0):TS:=λD σ H=>tv σ H λy H1=>ta σ H1 λx H2=>∃a C dx fs,x= .ref a/\H2 a=some (.ins C dx fs)/\wv K C/\eh K C f/\fs.length<1000/\
 D.nx (σ.set i (some y)) (a_ H2 a (.ins C dx (gU f y fs)))
theorem DB {value:La} {Tj:LF} {ta tv:TE} {g:L0} (i:Nat) (hi:X.N[i]? =some g) (hvis:¬t4 X.env.scope g) (ha:PE X o ta) (hv:PE X value tv) (hs:Mi value (some (.Attribute o f Tj)) pos.line X.env=pure false):
  PS X (.Assign [.Attribute o f Tj] value pos) (IM X.K i ta tv f):=by
 intro Tc s σ H D I h
 refine plainObj_wpAny_Assign_Attribute (bq (hv Tc s σ H _ I h) λu s1 z=> ?_) hs
 obtain⟨y,H1,I1,ry,q⟩:=z
 refine bq (ha Tc s1 σ H1 _ I1 q) λov s2 z=> ?_
 obtain⟨x,H2,I2,rx,a,C,dx,fs,ex,ea,c,n,l,q2⟩:=z
 subst ex
 obtain rfl:ov=Lr a:=rx
 exact u_ I2 ea c n l ry λs3 I3=>⟨_,_,L2.Pu.aw.ghost I3 hi hvis,q2⟩
theorem qY (f:L0) (v:V):∀fs:List (L0×V),(gU f v fs).map (·.1)=if f∈fs.map (·.1)then fs.map (·.1)else fs.map (·.1)++[f]
 |[]=>rfl
 |(g,x)::r=>by
  show (if g=f then (g,v)::r else (g,x)::gU f v r).map (·.1)=_
  by_cases e:g=f
  ·subst e;simp
  ·rw[if_neg e,L3,qY f v r]
   by_cases h:f∈r.map (·.1)
   ·rw[if_pos h,if_pos (by rw[L3];exact L7 _ h)];rfl
   ·rw[if_neg h,if_neg (by rw[L3];intro z;exact(Le.mp z).elim (λq=>e q.symm) h)];rfl
theorem DC (f:L0) (v:V) {fs:List (L0×V)} (h:(fs.map (·.1)).Nodup):((gU f v fs).map (·.1)).Nodup:=by
 rw[qY]
 split
 ·exact h
 ·rename_i hf
  refine MA.mpr ⟨h,by simp,λa ha b hb=> ?_⟩
  rw[Lo.mp hb]
  intro z;subst z;exact hf ha
theorem l5 {α:Type} [DecidableEq α]:∀{l m:List α},l.Nodup->(∀x∈l,x∈m)->l.length<=m.length
 |[],_,_,_=>M6 _
 |a::l,m,h,s=>by
  obtain⟨h1,h2⟩:=LN.mp h
  have ha:=s a L8
  have:=l5 (m:=m.erase a) h2 λx hx=>(List.mem_erase_of_ne (λz=>h1 (by rw[<-z];exact hx))).mpr (s x (L7 _ hx))
  rw[List.length_erase_of_mem ha]at this
  have hp:0<m.length:=List.length_pos_of_mem ha
  rw[Lm]
  omega
theorem pj {α:Type} {f:L0}:∀{fs:List (L0×α)},f∈fs.map (·.1)->∃v,fs.lookup f=some v
 |(g,x)::r,h=>by
  rw[Mm]
  cases e:f==g with
  |true=>exact⟨x,rfl⟩
  |false=>
   rw[L3]at h
   rcases Le.mp h with z|z
   ·rw[z]at e;simp at e
   ·exact pj z
theorem RI.fld {K:KU} {c:cQ ly} {ρ:af} {σ:St} {H F:Hp} (r:RI K c ρ σ H F) {L:cY} (hL:L∈ly) (hρ:ρ[L.x]? =some (some .obj)) {a dx:KZ} {fs:List (L0×V)} {i:Nat} (hx:σ[L.x]? =some (some (.ref a))) (ha:H a=some (.ins L.C dx fs)) (hf:(f,i)∈L.fl)
  (hn:∀p∈L.fl,p.1=f<->p.2=i) (ZP:L.x≠i) (Xb:∀M∈ly,M≠L->M.x≠i/\∀p∈M.fl,p.2≠i) {v:V} {d:D} (hd:dg K F v d) (YL:i<σ.length):
  RI K c (ρ.set i (some (.val d))) (σ.set i (some v)) (a_ H a (.ins L.C dx (gU f v fs))) F:=by
 obtain⟨b,a3o,Wo,k0,k1,k2,k3,k4,k5,k6,k7,k8,k9,a1R⟩:=r.obj L hL hρ
 rw[hx]at k1
 cases k1
 rw[ha]at k2
 cases k2
 have TM:∀{b:KZ} {o:HO},H b=some o->jM K F o d->b≠a:=λ{b o} e q z=>by subst z;rw[ha]at e;cases e;cases q
 refine⟨⟨λx y e=> ?_,λx y e=> ?_,r.ext.grow,r.ext.new⟩,λj e q=> ?_,λj e q=> ?_,λj e q=> ?_,r.bh,λj k e e' x q1 q2 q3 q4=> ?_,by simp[r.len],λM hM hq=> ?_,λM hM M' a0D a0E a0F x q1 q2=> ?_,r.fm, .no λj x Tq g hs w=> ?_,λM hM a h=> ?_⟩
 ·rw[au (λz=>by rw[z,k4]at e;cases e)];exact r.sub x y e
 ·rw[au (λz=>by rw[z,k6]at e;cases e)];exact r.ext.keep x y e
 ·rcases aD q with ⟨rfl,z,l⟩|⟨z,q⟩
  ·cases z;exact⟨v,kJ YL,hd⟩
  ·rw[ar z];exact r.val j e q
 ·rcases aD q with ⟨rfl,z,l⟩|⟨z,q⟩
  ·cases z
  ·obtain⟨x,o,g1,g2,g3,g4,g5⟩:=r.own j e q
   have nx:x≠a:=λz=>by subst z;rw[ha]at g2;cases g2;cases g5
   exact⟨x,o,by rw[ar z];exact g1,by rw[au nx];exact g2,g3,g4,g5⟩
 ·rcases aD q with ⟨rfl,z,l⟩|⟨z,q⟩
  ·cases z
  ·rw[ar z];exact r.bor j e q
 ·rcases aD q1 with ⟨rfl,z,l⟩|⟨z,q1⟩
  ·cases z
  ·rcases aD q2 with ⟨rfl,z',l⟩|⟨z',q2⟩
   ·cases z'
   ·rw[ar z]at q3;rw[ar z']at q4
    exact r.dis j k e e' x q1 q2 q3 q4
 ·by_cases Wm:M=L
  ·subst Wm
   refine⟨a,dx,gU f v fs,k0,by rw[ar ZP.symm];exact hx,aq,?_,k4,k5,k6,k7,λp hp=> ?_,λg u hu=> ?_,DC _ _ a1R⟩
   ·rw[au (λz=>by rw[z,ha]at k3;cases k3)];exact k3
   ·rw[gG]
    by_cases e:p.1=f
    ·rw[if_pos e,(hn p hp).mp e,kJ YL];rfl
    ·rw[if_neg e,ar (λz=>e ((hn p hp).mpr z.symm))];exact k8 p hp
   ·rw[gG]at hu
    by_cases e:g=f
    ·subst e;exact Lk.mpr ⟨_,hf,rfl⟩
    ·rw[if_neg e]at hu;exact k9 g u hu
  ·have ho:=Xb M hM Wm
   rw[ar ho.1.symm]at hq
   obtain⟨b,dy,gs,g0,g1,g2,g3,g4,g5,g6,g7,g8,g9⟩:=r.obj M hM hq
   have nb:b≠a:=λz=>Wm (r.odis M hM L hL hq hρ a (by rw[<-z];exact g1) hx)
   have nd:dy≠a:=λz=>by subst z;rw[ha]at g3;cases g3
   refine⟨b,dy,gs,g0,by rw[ar ho.1.symm];exact g1,by rw[au nb];exact g2,by rw[au nd];exact g3,g4,g5,g6,g7,λp hp=> ?_,g9⟩
   rw[ar (ho.2 p hp).symm];exact g8 p hp
 ·have WQ:∀M∈ly,M.x≠i:=λM hM=>by
   by_cases Wm:M=L
   ·subst Wm;exact ZP
   ·exact(Xb M hM Wm).1
  rw[ar (WQ M hM).symm]at q1 a0E
  rw[ar (WQ M' a0D).symm]at q2 a0F
  exact r.odis M hM M' a0D a0E a0F x q1 q2
 ·rcases aD w with ⟨rfl,z,l⟩|⟨z,w⟩
  ·cases z
  ·have:=r.cel.one j L.x x Tq g hs .obj w hρ rfl
   subst this
   rw[hρ]at w
   cases w
 ·have WQ:M.x≠i:=by
   by_cases Wm:M=L
   ·subst Wm;exact ZP
   ·exact(Xb M hM Wm).1
  rw[ar WQ.symm];exact r.pin M hM a h
def ud (x:Nat) (g:af->R aW):af->R aW:=λρ=>match ρ[x]? with
 |some (some .obj)=>g ρ
 |_=> .bad
theorem DD {c:cQ ly} {x:Nat} {g:af->R aW} {ρ:af} {P:aW->Prop} (w:aB c (ud x g ρ) P):ρ[x]? =some (some .obj)/\aB c (g ρ) P:=by
 unfold ud at w
 split at w
 ·rename_i h;exact⟨h,w⟩
 ·exact w.elim
structure EG (ly:List cY) (L:cY) (f:L0) (i:Nat):Prop where
 mem:L∈ly
 fl:(f,i)∈L.fl
 un:∀p∈L.fl,p.1=f<->p.2=i
 x:L.x≠i
 oth:∀M∈ly,M≠L->M.x≠i/\∀p∈M.fl,p.2≠i
 few:L.fl.length<1000
theorem sA {value:La} {Tj px:LF} {fv:af->R D} {y g:L0} {L:cY} (i:Nat) (hC:wv X.K L.C) (n:eh X.K L.C f) (A:EG ly L f i) (hv:PQ ly X value fv) (hN:X.N[L.x]? =some y:=by rfl) (a1S:t4 X.env.scope y:=by first|exact Mn rfl|exact L_ (Mn rfl)|exact L_ (L_ rfl)) (hd:(y==("__debug__":L0))=false:=by decide)
  (Ua:(y==("__classdict__":L0))=false:=by decide) (hi:X.N[i]? =some g:=by rfl) (hvis:¬t4 X.env.scope g:=by decide+kernel) (hs:Mi value (some (.Attribute (.Name y px) f Tj)) pos.line X.env=pure false:=by rfl):
  d_ ly X (.Assign [.Attribute (.Name y px) f Tj] value pos) (ud L.x (aJ fv (gN i))):=⟨λc Tc s σ H D I q=>by
 refine DB i hi hvis (pv L.x hN a1S hd Ua) (hv c) hs Tc s σ H D I ?_
 obtain⟨F,ρ,ri,w⟩:=q
 obtain⟨hρ,w⟩:=DD w
 refine⟨F,ρ,ri,(aB.bind.mp w).imp λd _ w1 v H1 F1 e1 r1=> ?_⟩
 have a0G:=ri.step e1
 obtain⟨a,dx,fs,h0,h1,h2,h3,h4,h5,h6,h7,h8,h9,ZQ⟩:=a0G.obj L A.mem hρ
 have YL:i<σ.length:=by rw[I.len];exact(Lx.mp hi).1
 have Ti:fs.length<1000:=by
  have:=l5 (m:=L.fl.map (·.1)) ZQ λx hx=>by
   obtain⟨v,e⟩:=pj hx
   exact h9 x v e
  rw[L4,L4]at this
  exact RS this A.few
 refine⟨.ref a,h1,a,L.C,dx,fs,rfl,h2,hC,n,Ti,?_⟩
 exact w1 _ _ F1 e1.grow (a0G.fld A.mem hρ h1 h2 A.fl A.un A.x A.oth r1 YL)⟩
end
end L2.Pu
namespace L2.Pu
open PySem PySem.Spec PyProof.Rows
variable {ly:List cY}
section
variable {X:Cx} {pos px:LF} {f y:L0}
def Kk (x:Nat) (g:af->R D):af->R D:=λρ=>match ρ[x]? with
 |some (some .obj)=>g ρ
 |_=> .bad
end
def dR:List (L0×Nat)->af->Option (List (L0×D))
 |[],_=>some []
 |p::r,ρ=>match ρ[p.2]? with
  |some (some (.val d))=>(dR r ρ).map λt=>(p.1,d)::t
  |_=>none
def lr (n:Nat) (ds:List D):af:=some Slot.obj::cZ n ds
def yo (fl:List (L0×Nat)) (ρ:af):R (List (L0×D)):=match ρ[0]? with
 |some (some Slot.obj)=>R.of (dR fl ρ)
 |_=> .bad
def m8 (k n:Nat) (fl:List (L0×Nat)) (g:af->R aW) (ds:List D):R (List (L0×D)):=if ds.length=k then g (lr n ds)>>=λo=>match o with
 | .nx ρ=>yo fl ρ
 |_=> .bad else .bad
def AK (K:KU) (C:KZ) (cls:L0) (k:Nat) (mi:List D->R (List (L0×D))):Sp:=λvs H Q E=>∃F x dx us ds Hz,vs= .ref x::us/\us.length=k/\aO F Hz/\Hz x=none/\Hz dx=none/\dx≠x/\H=a_ (a_ Hz dx (.own x)) x (.ins C dx [])/\Reps K F us ds/\match mi ds with
 | .ok Ud=>∀H' F',bf Hz F H' F'->dg K F' (.ref x) (.ins cls Ud)->Q .non H'
 | .err z _=>∀ec a H' F',fc K z ec->bf Hz F H' F'->E ec a H'
 | .bad=>False
theorem pq {K:KU} {c:cQ ly} {ρ:af} {σ:St} {H F:Hp} (ri:RI K c ρ σ H F) {fs:List (L0×V)}:∀{fl:List (L0×Nat)} {Ud:List (L0×D)},dR fl ρ=some Ud->(∀p∈fl,fs.lookup p.1=(σ[p.2]?).join)->
  ∃vs:List (L0×V),RepF K F vs Ud/\vs.map (·.1)=fl.map (·.1)/\∀p∈vs,fs.lookup p.1=some p.2
 |[],Ud,h,_=>by cases h;exact⟨[], .nil,rfl,λp hp=>by cases hp⟩
 |p::fl,Ud,h,hl=>by
  unfold dR at h
  split at h
  ·rename_i d hd
   cases e:dR fl ρ with
   |none=>rw[e]at h;cases h
   |some t=>
    rw[e]at h
    cases h
    obtain⟨vs,h1,h2,h3⟩:=pq ri e λq hq=>hl q (L7 _ hq)
    obtain⟨v,g1,g2⟩:=ri.val _ d hd
    refine⟨(p.1,v)::vs, .cons g2 h1,by rw[L3,L3,h2],λq hq=> ?_⟩
    rcases Le.mp hq with rfl|hq
    ·have:=hl p L8
     rw[this,g1];rfl
    ·exact h3 q hq
  ·cases h
theorem yp {K:KU} {N:List L0} {C x dx:KZ} {fl:List (L0×Nat)} {Hz F:Hp} {us:List V} {ds:List D} {Er:L0->af->Prop} {n:Nat} (hn:N.length=n+1) (s:aO F Hz) (hx:Hz x=none) (Ym:Hz dx=none) (TM:dx≠x) (r:Reps K F us ds) (a3p:us.length<=n) (hg:∀p∈fl,us.length<p.2):
  RI K (⟨Hz,F,λ_=>none,Er,λ_=>some x,λ_=>none⟩:cQ [⟨0,C,fl⟩]) (lr n ds) (cn N (.ref x::us)) (a_ (a_ Hz dx (.own x)) x (.ins C dx [])) F:=by
 have keep:aO Hz (a_ (a_ Hz dx (.own x)) x (.ins C dx [])):=(bM Ym).trans (bM (by rw[au (MG TM)];exact hx))
 have hv:∀(i:Nat) sl,(lr n ds)[i]? =some (some sl)->(i=0/\sl= .obj)\/∃j d,i=j+1/\ds[j]? =some d/\sl= .val d:=λi sl h=>by
  cases i with
  |zero=>exact .inl ⟨rfl,by cases h;rfl⟩
  |succ j=>
   have h':(cZ n ds)[j]? =some (some sl):=h
   refine .inr ?_
   unfold cZ at h'
   rw[Rj]at h'
   split at h'
   ·rw[LA]at h'
    cases e:ds[j]? with
    |none=>rw[e]at h';cases h'
    |some d=>rw[e]at h';simp at h';exact⟨j,d,rfl,e,h'.symm⟩
   ·rw[N7]at h'
    split at h'<;>simp at h'
 have a0H:(cn N (V.ref x::us))[0]? =some (some (V.ref x)):=rfl
 refine⟨⟨s.trans keep,keep,aO.refl _,λ_ h=> .inl h⟩,λi d h=> ?_,λi d h=> ?_,λi d h=> ?_,(λb o e=>by cases e),λi j d d' a h=> ?_,?_,λL hL _=> ?_,λL hL L' VZ _ _ a _ _=> ?_,(λ_ _ e=>by cases e), .no λi x Tq f hs h=>(by obtain⟨_,z⟩|⟨j,d',_,_,z⟩:=hv i _ h<;>cases z),λL hL a h=>by rw[Lo.mp hL];cases h;exact a0H⟩
 ·obtain⟨rfl,z⟩|⟨j,d',rfl,e,z⟩:=hv i _ h
  ·cases z
  cases z
  obtain⟨v,h1,h2⟩:=r.get e
  refine⟨v,?_,h2⟩
  unfold cn
  have hl:j<us.length:=(Lx.mp h1).1
  rw[Oa (by simpa using hl),LA]
  show (us[j]?).map some=_
  rw[h1]
  rfl
 ·obtain⟨_,z⟩|⟨j,d',_,_,z⟩:=hv i _ h<;>cases z
 ·obtain⟨_,z⟩|⟨j,d',_,_,z⟩:=hv i _ h<;>cases z
 ·obtain⟨_,z⟩|⟨j,d',_,_,z⟩:=hv i _ h<;>cases z
 ·simp only[lr,cZ,cn,Lm,LX,L4,QS,hn]
  have:=r.length
  omega
 ·rw[Lo.mp hL]
  refine⟨x,dx,[],(λb hb=>by cases hb;rfl),a0H,aq,?_,s.free hx,s.free Ym,hx,Ym,λp hp=> ?_,(λf v h=>by cases h),NU⟩
  ·rw[au TM];exact aq
  ·have VH:=hg p hp
   show none=_
   unfold cn
   rw[Pw (by simp;omega),N7]
   split<;>rfl
 ·rw[Lo.mp hL,Lo.mp VZ]
theorem DE {K:KU} {C:KZ} {cls:L0} {fl:List (L0×Nat)} {c:cQ [⟨0,C,fl⟩]} {ρ:af} {σ:St} {H F:Hp} {Ud:List (L0×D)} {x:KZ} (ri:RI K c ρ σ H F) (hρ:ρ[0]? =some (some .obj)) (a1T:c.oa 0=some x) (Wu:Lz K Lp cls=some (some (.ref C))) (h:dR fl ρ=some Ud):
  ∃F',bf c.H0 c.F0 H F'/\dg K F' (.ref x) (.ins cls Ud):=by
 obtain⟨a,dx,fs,h0,h1,h2,h3,h4,h5,h6,h7,h8,h9,ZQ⟩:=ri.obj _ (Lo.mpr rfl) hρ
 cases h0 x a1T
 obtain⟨vs,g1,g2,g3⟩:=pq ri h h8
 have TM:dx≠x:=λz=>by rw[z,h2]at h3;cases h3
 have s1:aO F (a_ F dx (.own x)):=bM h5
 have s2:aO (a_ F dx (.own x)) (a_ (a_ F dx (.own x)) x (.ins C dx fs)):=bM (by rw[au (MG TM)];exact h4)
 have sF:=s1.trans s2
 refine⟨a_ (a_ F dx (.own x)) x (.ins C dx fs),⟨λb u e=> ?_,ri.ext.keep,ri.ext.grow.trans sF,λb e=> ?_⟩, .ins aq (by rw[au TM];exact aq) Wu g3 (λf v e=>by rw[g2];exact h9 f v e) (g1.mono sF)⟩
 ·by_cases z:b=x
  ·subst z;rw[aq]at e;rw[<-e];exact h2
  ·rw[au z]at e
   by_cases z2:b=dx
   ·subst z2;rw[aq]at e;rw[<-e];exact h3
   ·rw[au z2]at e;exact ri.sub b u e
 ·by_cases z:b=x
  ·subst z;exact .inr h6
  ·rw[au z]at e
   by_cases z2:b=dx
   ·subst z2;exact .inr h7
   ·rw[au z2]at e;exact ri.ext.new b e
theorem DF {P:Lb} {w:Ll} {K:KU} {mg:L0->Option KW} {base:Lj} {x qual cls:L0} {st:Ly} {f C:KZ} {fd:MD} {N ps:List L0} {k n m:Nat} {fl:List (L0×Nat)} {g:af->R aW} (F:y_ K x qual st f fd) (S:bd N ps (aA st))
  (Wu:Lz K Lp cls=some (some (.ref C))) (hn:ps.length=n+1) (hm:N.length=m+1) (hg:∀p∈fl,n<p.2) (a0I:n<=m)
  (Tr:∀(Tg:KW) (A:LD) (outer:List MU) (s:KY) (H:Hp) (E:XK),cw k (A.deeper (NG qual (aA st) s.heap.objs.size f Tg))->
   jP [⟨0,C,fl⟩] (jG (og P w) P w K mg base N qual (aA st) f Tg A outer s H E) (bi st) g):eY P w K mg base (og P w) (k+1) f fd ps (AK K C cls n (m8 n m fl g)):=by
 refine HX F S (λvs H Q E h=> ?_) (λTg A outer s H vs Q E hr h=> ?_)
 ·obtain⟨Fz,y,dy,us,ds,Hz,rfl,hl,_⟩:=h
  rw[Lm,hl,hn]
 ·obtain⟨Fz,y,dy,us,ds,Hz,rfl,hl,sub,hy,a1U,TM,rfl,r,w⟩:=h
  refine⟨_,Tr Tg A outer s _ E hr ⟨⟨Hz,Fz,λ_=>none,λz _=>∀ec a H' F',fc K z ec->bf Hz Fz H' F'->E ec a H',λ_=>some y,λ_=>none⟩,Ai λz ρ er ec a H' F' σ hc ri=>er ec a H' F' hc ri.ext⟩,?_⟩
  refine⟨Fz,lr m ds,yp hm sub hy a1U TM r (by omega) (λp hp=>by rw[hl];exact hg p hp),?_⟩
  have hd:ds.length=n:=by rw[<-r.length];exact hl
  unfold m8 at w
  rw[if_pos hd]at w
  cases e:g (lr m ds)with
  |bad=>rw[e]at w;exact w.elim
  |err c ρ=>rw[e]at w;exact w
  |ok o=>
   rw[e]at w
   cases o with
   |nx ρ=>
    intro σ' H' F' _ X7
    rw[aj]at w
    split at w
    ·rename_i Ud hf
     replace hf:yo fl ρ= .ok Ud:=hf
     unfold yo at hf
     split at hf
     ·rename_i hρ
      cases e2:dR fl ρ with
      |none=>rw[e2]at hf;cases hf
      |some a3q=>
       rw[e2]at hf
       cases hf
       obtain⟨F2,x1,x2⟩:=DE X7 hρ rfl Wu e2
       exact w H' F2 x1 x2
     ·cases hf
    ·rename_i z ρe hf
     replace hf:yo fl ρ= .err z ρe:=hf
     unfold yo at hf
     split at hf
     ·cases e2:dR fl ρ<;>rw[e2]at hf<;>cases hf
     ·cases hf
    ·exact w.elim
   |_=>exact w.elim
structure sB (P:Lb) (w:Ll) (K:KU) (mg:L0->Option KW) (base:Lj) (k:Nat) (cls:L0) (n:Nat) (mi:List D->R (List (L0×D))):Prop where
 ex:∃C f fd ps,eY P w K mg base (og P w) k f fd ps (AK K C cls n mi)/\mg cls=some (.ref C)/\Mk K C f/\fD K fd ps []
section
variable {X:Cx} {e:La} {es:List La} {fs:af->R (List D)} {cls:L0} {p pos:LF}
def m9 (cls:L0) (n:Nat) (mi:List D->R (List (L0×D))) (fs:af->R (List D)):af->R D:=λρ=>fs ρ>>=λds=>if ds.length=n then (match mi ds with| .ok Ud=> .ok (.ins cls Ud)| .err x _=> .err x ρ| .bad=> .bad)else .bad
theorem GA {k n:Nat} {mi:List D->R (List (L0×D))} (G:sB X.prog X.w X.K X.mg X.base k cls n mi) (hr:cw (k+1) X.A) (ha:sY ly X (e::es) fs) (hg:Gl X cls:=by rfl) (Ue:(cls==("__debug__":L0))=false:=by decide)
  (he:L6 (e::es) X.env=(false,Ls e X.env)::L6 es X.env:=by rfl) (TC:(LM pos (L6 es X.env)).any (·.1)=false:=by rfl):PQ ly X (.Call (.Name cls p) (e::es) [] pos) (m9 cls n mi fs):=by
 obtain⟨C,f,fd,ps,h1,h2,h3,h4⟩:=G.ex
 refine⟨λc=>PE.weak (Cj h3 h1 hr hg h2 h4 .nil (wF c) (ha c) Ue he TC) λσ H Q ⟨F,ρ,ri,w⟩=>⟨F,ρ,ri,(aB.bind.mp w).imp λds _ w1 vs H1 F1 e1 r1 x dx hx Ym TM=> ?_⟩⟩
 rw[Mb]
 split at w1
 ·rename_i hl
  refine⟨F1,x,dx,vs,ds,H1,rfl,by rw[r1.length];exact hl,e1.sub,hx,Ym,TM,rfl,r1,?_⟩
  split at w1
  ·rename_i Ud hm
   exact λH' F' e' r'=>⟨rfl,w1 _ H' F' (e1.trans e') r'⟩
  ·exact λec a H' F' hc e'=>⟨_,ρ,F',hc,ri.step (e1.trans e'),w1⟩
  ·exact w1.elim
 ·exact w1.elim
end
end L2.Pu
namespace L2.Pu
open PySem PySem.Spec PyProof.Rows
variable {ly:List cY}
section
variable {X:Cx} {e:La} {es:List La} {fs:af->R (List D)} {x:L0} {np Tf pos:LF}
structure l6 (K:KU) (mg:L0->Option KW) (x:L0):Prop where
 ex:∃C,Lz K Lp x=some (some (.ref C))/\mg x=some (.ref C)/\C_ K C
def gZ (x:L0) (fs:af->R (List D)):af->R aW:=λρ=>fs ρ>>=λds=>if ds.length<=lim then .err x ρ else .bad
theorem AL {c:eA ly X} {C:KZ} {σ:St} {H:Hp} {D:mJ} {ρ:af} {F:Hp} (Wu:Lz X.K Lp x=some (some (.ref C)))
  (X6:∀Tc σ ρ H F s a cls x,aw X Tc σ H s->RI X.K c.1 ρ σ H F->Fl X Tc H s.heap a cls->fc X.K x cls->c.1.Er x ρ->X.xe (.ref a) s)
  (ri:RI X.K c.1 ρ σ H F) (w:aB c.1 (gZ x fs ρ) (gI X.K c.1 F D)):A5 X C (H_ X.K c.1 fs) D σ H:=by
 refine⟨F,ρ,ri,(aB.bind.mp w).imp λds _ w1 vs H1 F1 e1 r1=> ?_⟩
 split at w1
 ·rename_i hl
  exact⟨LL (by rw[r1.length];exact hl) dO,λTc s a I fl=>X6 Tc σ ρ H1 F1 s a _ x I (ri.step e1) fl ⟨C,rfl,Wu⟩ w1⟩
 ·exact w1.elim
theorem AM {c:cQ ly} {ρ:af} {F:Hp} {D:mJ} (no:∀x ρ,¬c.Er x ρ) (w:aB c (gZ x fs ρ) (gI X.K c F D)):False:=by
 unfold gZ at w
 cases h:fs ρ with
 |bad=>rw[h]at w;exact w
 |err y ρ'=>rw[h]at w;exact no _ _ w
 |ok ds=>
  rw[h,aj]at w
  split at w
  ·exact no _ _ w
  ·exact w
theorem DG (k:l6 X.K X.mg x) (hc:X.calm=true) (ha:sY ly X (e::es) fs) (hg:Gl X x:=by rfl) (Ue:(x==("__debug__":L0))=false:=by decide)
  (he:L6 (e::es) X.env=(false,Ls e X.env)::L6 es X.env:=by rfl) (TC:(LM Tf (L6 es X.env)).any (·.1)=false:=by rfl) (Tz:X.stack=X.env::X.outer:=by rfl):d_ ly X (.Raise (some (.Call (.Name x np) (e::es) [] Tf)) none pos) (gZ x fs):=by
 obtain⟨C,h1,h2,h3⟩:=k.ex
 refine⟨?_⟩
 intro c Tc s σ H D I q
 obtain⟨F,ρ,ri,w⟩:=q
 rcases c.2.plain Tz with ⟨hp,X6⟩|no
 ·exact A6 h3 h2 hp hc (ha c) hg Ue he TC Tc s σ H D I (AL h1 X6 ri w)
 ·exact(AM (X:=X) no w).elim
end
section
variable {X:Cx} {Tc:List (KZ×LG)} {σ:St} {H:Hp} {s:KY}
end
section
variable {K:KU} {c:cQ ly} {ρ:af} {σ:St} {H F:Hp}
def cQ.er (c:cQ ly) (F:Hp) (Er:L0->af->Prop):cQ ly:=⟨c.H0,c.F0,c.B,Er,c.oa,F⟩
theorem RI.er {Er:L0->af->Prop} (r:RI K c ρ σ H F):RI K (c.er F Er) ρ σ H F:=⟨r.ext,r.val,r.own,r.bor,r.bh,r.dis,r.len,r.obj,r.odis,aO.refl _,r.cel,r.pin⟩
theorem RI.unEr {F1:Hp} {Er:L0->af->Prop} (r:RI K (c.er F1 Er) ρ σ H F) (m:aO c.Fm F1):RI K c ρ σ H F:=⟨r.ext,r.val,r.own,r.bor,r.bh,r.dis,r.len,r.obj,r.odis,m.trans r.fm,r.cel,r.pin⟩
theorem gI.er {D:mJ} {o:aW} {F1:Hp} {Er:L0->af->Prop} (m:aO c.Fm F1) (h:gI K c F D o):gI K (c.er F1 Er) F D o:=by
 cases o with
 |nx ρ=>exact λσ' H' F' s r=>h σ' H' F' s (r.unEr m)
 |brk ρ=>exact λσ' H' F' s r=>h σ' H' F' s (r.unEr m)
 |cnt ρ=>exact λσ' H' F' s r=>h σ' H' F' s (r.unEr m)
 |ret d=>exact λv H' F' s e r=>h v H' F' s e r
 |retc d ρ=>exact λv σ' H' F' s e r=>h v σ' H' F' s (e.unEr m) r
end
section
variable {X:Cx} {body a0J:List Ly} {b₀:Ly} {g gh:af->R aW} {cx n:L0} {np a1V pos:LF} {sub:L0->Bool}
end
section
variable {X:Cx} {a:La} {fa:af->R D} {x:L0} {p p2 pos:LF} {tb:L0->Option Bool}
end
end L2.Pu
namespace L2.Pu
open PySem PySem.Spec PyProof.Rows
variable {ly:List cY}
def qo:D->Option Int
 | .tup (.int k::_)=>some k
 |_=>none
def dB (d:D):Int:=(qo d).getD 0
def d8:List D->Option (List Int)
 |[]=>some []
 |d::r=>(qo d).bind λk=>(d8 r).map (k::·)
def vJ (d:D):List D->List D
 |[]=>[d]
 |e::r=>if dB d<=dB e then d::e::r else e::vJ d r
def jw:List D->List D
 |[]=>[]
 |d::r=>vJ d (jw r)
theorem mY (d:D):∀l:List D,(vJ d l).Perm (d::l)
 |[]=> .refl _
 |e::r=>by
  unfold vJ
  split
  ·exact .refl _
  ·exact((mY d r).cons e).trans (.swap d e r)
theorem pw:∀l:List D,(jw l).Perm l
 |[]=> .refl _
 |d::r=>(mY d _).trans ((pw r).cons d)
theorem nQ (d:D):∀{l:List D},l.Pairwise (λa b=>dB a<=dB b)->(vJ d l).Pairwise (λa b=>dB a<=dB b)
 |[],_=>by simp[vJ]
 |e::r,h=>by
  obtain⟨h1,h2⟩:=Ma.mp h
  unfold vJ
  split
  ·rename_i hd
   refine Ma.mpr ⟨λx hx=> ?_,h⟩
   rcases Le.mp hx with rfl|hx
   ·exact hd
   ·exact N0 hd (h1 x hx)
  ·rename_i hd
   refine Ma.mpr ⟨λx hx=> ?_,nQ d h2⟩
   rcases Le.mp ((mY d r).mem_iff.mp hx)with rfl|hx
   ·omega
   ·exact h1 x hx
theorem ma:∀l:List D,(jw l).Pairwise (λa b=>dB a<=dB b)
 |[]=> .nil
 |d::r=>nQ d (ma r)
theorem nR:∀{l m:List D},l.Perm m->l.Pairwise (λa b=>dB a<dB b)->m.Pairwise (λa b=>dB a<dB b)->l=m
 |[],m,p,_,_=>(Sr p)
 |a::l,[],p,_,_=>absurd p.length_eq (by simp)
 |a::l,b::m,p,h1,h2=>by
  obtain⟨g1,g2⟩:=Ma.mp h1
  obtain⟨k1,k2⟩:=Ma.mp h2
  have e:a=b:=by
   have ha:a∈b::m:=p.mem_iff.mp L8
   have hb:b∈a::l:=p.mem_iff.mpr L8
   rcases Le.mp ha with z|ha
   ·exact z
   ·rcases Le.mp hb with z|hb
    ·exact z.symm
    ·have:=g1 b hb
     have:=k1 a ha
     omega
  subst e
  rw[nR (p.cons_inv) g2 k2]
theorem yq {l:List D} (h:l.Pairwise (λa b=>dB a<=dB b)) (nd:(l.map dB).Nodup):l.Pairwise (λa b=>dB a<dB b):=by
 have:=Me.mp nd
 exact(h.and this).imp λ{x y} ⟨a,b⟩=>by omega
theorem pz {l m:List D} (p:l.Perm m) (h:m.Pairwise (λa b=>dB a<dB b)):jw l=m:=by
 have q:=(pw l).trans p
 refine nR q (yq (ma l) ?_) h
 refine(q.map dB).nodup_iff.mpr (Me.mpr (h.imp λz=>S0 z))
theorem nS:∀{ds:List D} {ks:List Int},d8 ds=some ks->ks=ds.map dB
 |[],ks,h=>by cases h;rfl
 |d::r,ks,h=>by
  replace h:((qo d).bind λk=>(d8 r).map (k::·))=some ks:=h
  cases e:qo d with
  |none=>rw[e]at h;cases h
  |some k=>
   rw[e]at h
   cases e2:d8 r with
   |none=>rw[e2]at h;cases h
   |some q=>
    rw[e2]at h
    cases h
    rw[L3,<-nS e2]
    simp[dB,e]
theorem sC {K:KU} {H F:Hp} (s:aO F H):∀{ds:List D} {ks:List Int} {vs:List V},d8 ds=some ks->Reps K F vs ds->iN H vs ks:=by
 intro ds
 induction ds with
 |nil=>intro ks vs h r;cases r.nilI;cases h;exact .nil
 |cons d r ih=>
  intro ks vs h rr
  replace h:((qo d).bind λk=>(d8 r).map (k::·))=some ks:=h
  obtain⟨v0,us,rfl,rv,t⟩:=rr.consI
  obtain⟨k,ds,rfl⟩:∃k ds,d= .tup (.int k::ds):=by
   cases d with
   |tup xs=>
    cases xs with
    |nil=>cases h
    |cons x xs=>
     cases x with
     |int k=>exact⟨k,xs,rfl⟩
     |_=>cases h
   |_=>cases h
  obtain⟨a0,xs,rfl,h1,r2⟩:=rv.tupI
  obtain⟨k1,a1Q,rfl,rk,t1⟩:=r2.consI
  cases rk.intI
  ·cases e2:d8 r with
   |none=>rw[e2]at h;cases h
   |some q=>
    rw[e2]at h
    cases h
    exact .cons (s _ _ h1) (ih e2 t)
theorem mZ {K:KU} {F:Hp} {vs:List V} {ds:List D} (h:Reps K F vs ds):∀q:List Nat,(∀i∈q,i<ds.length)->Reps K F (q.map λi=>vs.getD i .non) (q.map λi=>ds.getD i .non)
 |[],_=> .nil
 |i::q,hq=>by
  have hi:=hq i L8
  obtain⟨v,h1,h2⟩:=h.get (i:=i) (d:=ds[i]) (M_ hi)
  refine .cons ?_ (mZ h q λj hj=>hq j (L7 _ hj))
  show dg K F (vs.getD i .non) (ds.getD i .non)
  rw[Mh,Mh,h1,M_ hi]
  exact h2
theorem nT {ds:List D} {q:List Nat} (p:jK (ds.map dB) q):(q.map λi=>ds.getD i .non)=jw ds:=by
 obtain⟨p1,p2⟩:=p
 rw[L4]at p1
 have hm:∀i∈q,i<ds.length:=λi hi=>M0.mp (p1.mem_iff.mp hi)
 have perm:(q.map λi=>ds.getD i .non).Perm ds:=by
  refine(p1.map λi=>ds.getD i .non).trans ?_
  have e:(LU ds.length).map (λi=>ds.getD i .non)=ds:=by
   refine List.ext_getElem (by simp) λi h1 h2=> ?_
   simp[h2]
  rw[e]
 symm
 refine pz perm.symm ?_
 rw[Me]at p2 ⊢
 refine p2.imp_of_mem λ{a b} ha hb z=> ?_
 have ea:(ds.map dB).getD a 0=dB (ds.getD a .non):=by simp[hm a ha]
 have eb:(ds.map dB).getD b 0=dB (ds.getD b .non):=by simp[hm b hb]
 rw[ea,eb]at z
 exact z
def md:List D->Option D
 |[.lst ds]=>(d8 ds).bind λks=>if ks.Nodup/\ks.length<64 then some (.lst (jw ds))else none
 |[.tup ds]=>(d8 ds).bind λks=>if ks.Nodup/\ks.length<64 then some (.lst (jw ds))else none
 |_=>none
def me:List V->Hp->VK->Prop:=λxs H Q=>∃p ys ks,xs=[.ref p]/\(H p=some (.lst ys)\/H p=some (.tup ys))/\iN H ys ks/\ks.Nodup/\ks.length<64/\∀l q,H l=none->jK ks q->Q (.ref l) (a_ H l (.lst (q.map λi=>ys.getD i .non)))
theorem pA {K:KU} {H F:Hp} {p:KZ} {ys:List V} {ds:List D} {d:D} {Q:VK} (s:aO F H) (hp:H p=some (.lst ys)\/H p=some (.tup ys)) (r:Reps K F ys ds) (h:((d8 ds).bind λks=>if ks.Nodup/\ks.length<64 then some (D.lst (jw ds))else none)=some d)
  (k:∀w H' F',bf H F H' F'->dg K F' w d->Q w H'):me [.ref p] H Q:=by
 cases e:d8 ds with
 |none=>rw[e]at h;cases h
 |some ks=>
  rw[e]at h
  replace h:(if ks.Nodup/\ks.length<64 then some (D.lst (jw ds))else none)=some d:=h
  split at h
  ·rename_i hk
   cases h
   refine⟨p,ys,ks,rfl,hp,sC s e r,hk.1,hk.2,λl q hl pl=> ?_⟩
   have ek:=nS e
   subst ek
   have e2:=bf.lay (o:= .lst (q.map λi=>ys.getD i .non)) s hl
   refine k _ _ _ e2 (.lst aq ?_)
   rw[<-nT pl]
   refine(mZ r q λi hi=> ?_).mono e2.grow
   have:=M0.mp (pl.1.mem_iff.mp hi)
   simpa using this
  ·cases h
theorem ue {K:KU}:kU K me md:=by
 intro vs ds d H F Q s rv h k
 match ds,h with
 |[.lst xs],h=>
  obtain⟨v,rfl,r⟩:=rv.one
  obtain⟨a,ws,rfl,h1,h2⟩:=r.lst s
  exact pA s (.inl h1) h2 h k
 |[.tup xs],h=>
  obtain⟨v,rfl,r⟩:=rv.one
  obtain⟨a,ws,rfl,h1,h2⟩:=r.tup s
  exact pA s (.inr h1) h2 h k
def cJ (ds:List D):Option D:=match e_ ds with
 |some d=>some d
 |none=>md ds
theorem iT {X:Cx} (hc:X.calm=true):ck X (.builtin "sorted") (λxs H Q=>m6 X.K xs H Q\/me xs H Q):=(sy hc).or sk
theorem jW {K:KU}:kU K (λxs H Q=>m6 K xs H Q\/me xs H Q) cJ:=by
 intro vs ds d H F Q s rv h k
 unfold cJ at h
 cases e:e_ ds with
 |some d'=>rw[e]at h;cases h;exact .inl (ub vs ds d H F Q s rv e k)
 |none=>rw[e]at h;exact .inr (ue vs ds d H F Q s rv h k)
def tN (K:KU) (c:cQ ly) (f:af->R D):TE:=λσ H Q=>∃F ρ,RI K c ρ σ H F/\aB c (f ρ) λd=>∀a o H' F',bf H F H' F'->H a=none->H' a=some o->F' a=none->jM K F' o d->Q (.ref a) H'
def PN (ly:List cY) (X:Cx) (e:La) (f:af->R D):Prop:=∀c:eA ly X,PE X e (tN X.K c.1 f)
def EH (K:KU) (r:R2) (g:D->D->Option D):Prop:=∀v u x y d H F Q,aO F H->c9 K H F v x->c9 K H F u y->g x y=some d->(∀a o,H a=none->jM K F o d->Q (.ref a) (a_ H a o))->r v u H Q
def AN (K:KU) (r:List V->Hp->VK->Prop) (g:List D->Option D):Prop:=∀vs ds d H F Q,aO F H->jO K H F vs ds->g ds=some d->(∀a o,H a=none->jM K F o d->Q (.ref a) (a_ H a o))->r vs H Q
section
variable {X:Cx} {a b e:La} {es:List La} {fa fb f:af->R D} {fs:af->R (List D)} {pos p:LF} {x:L0} {id T:String} {rc:List V->Hp->VK->Prop}
theorem sD {K:KU} {H F H1 F1:Hp} {d:D} {Q:VK} (e1:bf H F H1 F1) (k:∀a o H' F',bf H F H' F'->H a=none->H' a=some o->F' a=none->jM K F' o d->Q (.ref a) H'):∀a o,H1 a=none->jM K F1 o d->Q (.ref a) (a_ H1 a o):=
 λa o ha r=>k a o (a_ H1 a o) F1 (e1.trans (bf.layOwn e1.sub ha)) (e1.keep.free ha) aq (e1.sub.free ha) r
theorem IN {op:OJ} {r:R2} {g:D->D->Option D} (ho:jD X (MT op) r) (UC:EH X.K r g) (ha:PB ly X a fa) (hb:PB ly X b fb):PN ly X (.BinOp a op b pos) (f2 g fa fb):=λc=>
 PE.weak (Eg ho (ha c) (hb c)) λσ H Q ⟨F,ρ,ri,w⟩=>⟨F,ρ,ri,(aB.bind.mp w).imp λx hx w1 v H1 F1 e1 r1=>⟨F1,ρ,ri.step e1,(aB.bind.mp w1).imp λy hy w2 u H2 F2 e2 r2=>by
  obtain⟨d,hd,k⟩:=w2.of
  exact UC v u x y d H2 F2 Q (e1.trans e2).sub (r1.mono e2) r2 hd (sD (e1.trans e2) k)⟩⟩
theorem Jl {g:List D->Option D} (hc:ck X (.builtin id) rc) (UC:AN X.K rc g) (hm:X.mg x=none) (hv:LK x=some (.builtin id)) (ha:BS ly X (e::es) fs) (hg:Gl X x:=by rfl) (hn:x≠"__name__":=by decide) (Ue:(x==("__debug__":L0))=false:=by decide)
  (he:L6 (e::es) X.env=(false,Ls e X.env)::L6 es X.env:=by rfl) (TC:(LM pos (L6 es X.env)).any (·.1)=false:=by rfl):PN ly X (.Call (.Name x p) (e::es) [] pos) (bG g fs):=λc=>
 PE.weak (oH hc hg hm hv (ha c) hn Ue he TC) λσ H Q ⟨F,ρ,ri,w⟩=>⟨F,ρ,ri,(aB.bind.mp w).imp λds hd w1 vs H1 F1 e1 r1=>by
  obtain⟨d,hd,k⟩:=w1.of
  exact UC vs ds d H1 F1 Q e1.sub r1 hd (sD e1 k)⟩
theorem AO {g:List D->Option D} (hc:ck X (.type T) rc) (UC:AN X.K rc g) (hm:X.mg x=none) (hv:LK x=some (.type T)) (ha:BS ly X (e::es) fs) (hg:Gl X x:=by rfl) (hn:x≠"__name__":=by decide) (Ue:(x==("__debug__":L0))=false:=by decide)
  (he:L6 (e::es) X.env=(false,Ls e X.env)::L6 es X.env:=by rfl) (TC:(LM pos (L6 es X.env)).any (·.1)=false:=by rfl):PN ly X (.Call (.Name x p) (e::es) [] pos) (bG g fs):=λc=>
 PE.weak (kF hc hg hm hv (ha c) hn Ue he TC) λσ H Q ⟨F,ρ,ri,w⟩=>⟨F,ρ,ri,(aB.bind.mp w).imp λds hd w1 vs H1 F1 e1 r1=>by
  obtain⟨d,hd,k⟩:=w1.of
  exact UC vs ds d H1 F1 Q e1.sub r1 hd (sD e1 k)⟩
def mf (i:Nat) (f:af->R D):af->R aW:=λρ=>f ρ>>=λd=> .ok (.nx (ρ.set i (some (.own d))))
theorem GB (i:Nat) {x:L0} {Tj:LF} (hN:X.N.Nodup) (h:PN ly X e f) (hi:X.N[i]? =some x:=by rfl) (hx:uS X.env.scope x:=by first|exact Mn rfl|exact L_ rfl) (hs:Mi e (some (.Name x Tj)) pos.line X.env=pure false:=by rfl)
  (hf:X.fn x=true\/X.env.scope.names.lookup x=some .local:=by first|exact .inl rfl|exact .inr rfl|assumption) (TY:jN ly i:=by(repeat (first|assumption|exact L2.Pu.cp|refine L2.Pu.free_cons ⟨by first|decide|simp,by first|decide|simp⟩ ?_))):d_ ly X (.Assign [.Name x Tj] e pos) (mf i f):=⟨λc=>
 PS.weak (lg hN hi hx (h c) hs hf) λD σ H ⟨F,ρ,ri,w⟩=>⟨F,ρ,ri,(aB.bind.mp w).imp λd _ w1 a o H1 F1 e1 n1 h1 f1 r1=>by
  refine w1 _ H1 F1 e1.grow ((ri.step e1).setOwn i TY h1 f1 (ri.ext.keep.free n1) r1 (λj d' _ hj ej=> ?_) (ri.celNe e1.keep n1))
  obtain⟨b,o',k1,k2,_⟩:=ri.own j d' hj
  rw[ej]at k1
  cases k1
  rw[n1]at k2
  cases k2⟩⟩
end
section
variable {K:KU}
def qZ:D->D->Option D
 | .lst a, .int k=>if k.natAbs<=lim/\a.length*k.toNat<=lim then some (.lst (LC k.toNat a).flatten)else none
 |_,_=>none
theorem AQ:EH K Al qZ:=by
 intro v u x y d H F Q s rx ry h k
 unfold qZ at h
 split at h
 ·rename_i a j
  split at h
  ·rename_i hl
   cases h
   cases ry.int
   obtain⟨p,vs,rfl,h1,h2⟩:=rx.lst s
   refine .inr ⟨p,j,vs,rfl,rfl,h1,by have:=dv hl.1;omega,by have:=dv hl.1;omega,LL (by rw[h2.length];exact hl.2) dO,λl Ur=> ?_⟩
   exact k _ _ Ur (.lst (h2.rep _))
  ·cases h
 ·cases h
theorem yr:AN K (λxs H Q=>∃p ys ps,xs=[.ref p]/\(H p=some (.lst ys)\/H p=some (.tup ys))/\eQ H ys ps/\∀l,H l=none->Q (.ref l) (a_ H l (.dK (df [] ps)))) dk:=by
 intro vs ds d H F Q s rv h k
 have U5:∀{xs:List D} {ws:List V} {a:KZ},Reps K F ws xs->(f_ xs).map (λps=>D.dic (c_ [] ps))=some d->(H a=some (.lst ws)\/H a=some (.tup ws))->
   ∃p ys ps,[V.ref a]=[V.ref p]/\(H p=some (.lst ys)\/H p=some (.tup ys))/\eQ H ys ps/\∀l,H l=none->Q (.ref l) (a_ H l (.dK (df [] ps))):=by
  intro xs ws a h2 h h1
  cases e:f_ xs with
  |none=>rw[e]at h;cases h
  |some ps=>
   rw[e]at h
   cases h
   obtain⟨kvs,g1,g2⟩:=qX s e h2
   refine⟨a,ws,kvs,rfl,h1,g1,λl hl=> ?_⟩
   obtain⟨m1,m2⟩:=RepK.merge g2 .nil NU
   exact k _ _ hl (.dic m1 m2)
 match ds,h with
 |[.lst xs],h=>
  obtain⟨v,rfl,r⟩:=rv.one
  obtain⟨a,ws,rfl,h1,h2⟩:=r.lst s
  exact U5 h2 h (.inl h1)
 |[.tup xs],h=>
  obtain⟨v,rfl,r⟩:=rv.one
  obtain⟨a,ws,rfl,h1,h2⟩:=r.tup s
  exact U5 h2 h (.inr h1)
end
end L2.Pu
namespace L2.Pu
open PySem PySem.Spec PyProof.Rows
variable {ly:List cY}
structure ls (K:KU) (cls m qual:L0) (st:Ly) (ps:List L0):Prop where
 ex:∃C f fd,y_ K m qual st f fd/\m7 K cls C/\xL K C m f/\fD K fd ps []
structure vK (K:KU) (mg:L0->Option KW) (cls qual:L0) (st:Ly) (ps:List L0) (fs:List L0):Prop where
 ex:∃C f fd,y_ K "__init__" qual st f fd/\m7 K cls C/\mg cls=some (.ref C)/\Mk K C f/\fD K fd ps []/\∀x∈fs,eh K C x
structure AR (K:KU) (cls:L0) (fs:List L0):Prop where
 ex:∃C,m7 K cls C/\∀x∈fs,eh K C x
section
variable {P:Lb} {w:Ll} {K:KU} {mg:L0->Option KW} {base:Lj}
theorem iy {cls mm qual:L0} {st:Ly} {N ps:List L0} {k n m:Nat} {g:af->R aW} (A:ls K cls mm qual st ps) (S:bd N ps (aA st)) (hn:ps.length=n) (hm:N.length=m)
  (Tr:∀(f:KZ) (Tg:KW) (A:LD) (outer:List MU) (s:KY) (H:Hp) (E:XK),cw k (A.deeper (NG qual (aA st) s.heap.objs.size f Tg))->
   jP [] (jG (og P w) P w K mg base N qual (aA st) f Tg A outer s H E) (bi st) g):jV P w K mg base (k+1) cls mm n (aC n m g):=by
 obtain⟨C,f,fd,F,h1,h2,h3⟩:=A.ex
 exact⟨C,f,fd,ps,G9 F S hn hm λTg A outer s H E hr=>Tr f Tg A outer s H E hr,h1,h2,h3⟩
theorem yt {cls qual:L0} {st:Ly} {N ps fs:List L0} {k n m:Nat} {fl:List (L0×Nat)} {g:af->R aW} (A:vK K mg cls qual st ps fs) (S:bd N ps (aA st)) (hn:ps.length=n+1) (hm:N.length=m+1) (hg:∀p∈fl,n<p.2) (a0I:n<=m)
  (Tr:∀(C f:KZ) (Tg:KW) (A:LD) (outer:List MU) (s:KY) (H:Hp) (E:XK),wv K C->(∀x∈fs,eh K C x)->cw k (A.deeper (NG qual (aA st) s.heap.objs.size f Tg))->
   jP [⟨0,C,fl⟩] (jG (og P w) P w K mg base N qual (aA st) f Tg A outer s H E) (bi st) g):sB P w K mg base (k+1) cls n (m8 n m fl g):=by
 obtain⟨C,f,fd,F,h1,h2,h3,h4,h5⟩:=A.ex
 exact⟨C,f,fd,ps,DF F S h1.ns hn hm hg a0I λTg A outer s H E hr=>Tr C f Tg A outer s H E h1.cl h5 hr,h2,h3,h4⟩
theorem sE {C:KZ} {fl:List (L0×Nat)} {f:L0} {i:Nat} (h1:(f,i)∈fl) (h2:∀p∈fl,p.1=f<->p.2=i) (h3:0≠i) (h4:fl.length<1000):EG [⟨0,C,fl⟩] ⟨0,C,fl⟩ f i:=
 ⟨L8,h1,h2,h3,λM hM TM=>absurd (Lo.mp hM) TM,h4⟩
theorem DH {C:KZ} (e1:Nl K C CZ "ValueError.__new__"=true) (e2:LB K (.ref C) "__getattribute__"=some (some (.builtin "BaseException.__getattribute__"))) (e3:LB K (.ref C) "__getattr__"=some none)
  (e4:LB K (.ref C) "__class__"=some (some (.builtin "object.__class__"))) (e5:N5 K C (.type "object")=some true) (e6:N5 K C (.type "BaseException")=some true) (e7:Oo K (.ref C) (.ref C)=some true)
  (e8:Oz K (.builtin "object.__class__") "__get__"=some (some (.builtin "getset_descriptor.__get__"))) (e9:OW K (.builtin "object.__class__")=some true):C_ K C:=
 ⟨⟨_,_,_,_,e1,F.excBase_ValueError,by decide⟩,e2,e3,e4,e8,e9,e5,e6,e7⟩
theorem vL {D:KZ} {Xx:List KW} {ZR:String} (e:Nl K D Xx ZR=true):((T1 K D).isSome&&QQ K (.ref D)==some (.type "type"))=true:=by
 unfold Nl at e
 split at e
 ·rename_i lk
  unfold T1 QQ
  simp only[lk]
  rfl
 ·cases e
theorem yu {C D:KZ} {b:Bool} {Xx:List KW} {ZR:String} (e:Nl K D Xx ZR=true) (m:N5 K C (.ref D)=some b):Oo K (.ref C) (.ref D)=some b:=by
 unfold Oo
 dsimp only
 rw[if_pos (vL e)]
 exact m
end
section
variable {X:Cx} {a e o:La} {es:List La} {fa f fo:af->R D} {fs:af->R (List D)} {cls fld x m:L0} {p p2 pos Th:LF} {xs:List L0} {tb:L0->Option Bool}
theorem GC (T:AR X.K cls xs) (hf:fld∈xs) (ha:PB ly X a fa) (hb:ML a fld X.env (Ls a X.env)=Ls a X.env:=by rfl):PQ ly X (.Attribute a fld pos) (bw cls fld fa):=by
 obtain⟨C,h1,h2⟩:=T.ex
 exact IL h1 (h2 fld hf) ha hb
def nU (f:af->R D):af->R aW:=λρ=>f ρ>>=λ_=> .ok (.nx ρ)
theorem GD (h:PQ ly X e f) (UZ:Mi e none pos.line X.env=pure false:=by rfl):d_ ly X (.Expr e pos) (nU f):=⟨λc=>
 PS.weak (rN (h c) UZ) λD σ H ⟨F,ρ,ri,w⟩=>⟨F,ρ,ri,(aB.bind.mp w).imp λd _ w1 v H1 F1 e1 r1=>w1 σ H1 F1 e1.grow (ri.step e1)⟩⟩
end
theorem GF {P:Lb} {w:Ll} {outer:List MU} {H:Hp} {s s':KY} {e:KW} (h:og P w outer H s (λ_ _ _=>False) e s'):False:=by
 obtain⟨_,_,_,_,_,_,_,_,_,z⟩:=h
 exact z
end L2.Pu
namespace L2.Pu
open PySem PySem.Spec PyProof.Rows
variable {ly:List cY}
theorem RI.up {K:KU} {c:cQ ly} {ρ:af} {σ:St} {H F H':Hp} (r:RI K c ρ σ H F) (e:aO H H'):RI K c ρ σ H' F:=r.step ⟨r.sub.trans e,e,aO.refl _,λ_ h=> .inl h⟩
def m_:D->Bool
 | .non=>true
 | .bl _=>true
 | .int _=>true
 | .str _=>true
 |_=>false
theorem AS {K:KU} {F F':Hp} {v:V} {d:D} (h:m_ d=true) (r:dg K F v d):dg K F' v d:=by
 cases r with
 |non=>exact .non
 |bl b=>exact .bl b
 |int i=>exact .int i
 |str x=>exact .str x
 |_=>cases h
theorem yv {K:KU} {F F':Hp} {vs:List V} {ds:List D} (h:ds.all m_=true) (g:Reps K F vs ds):Reps K F' vs ds:=by
 induction ds generalizing vs with
 |nil=>rw[g.nilI];exact .nil
 |cons d ds ih=>
  obtain⟨w,us,e0,r,t⟩:=g.consI
  rw[N6,Mw]at h
  rw[e0]
  exact .cons (AS h.1 r) (ih h.2 t)
section
variable {X:Cx} {e:La} {es:List La} {f:af->R D} {g:af->R Bool} {pos:LF}
def wO (L:List Nat) (f:af->R D) (n:Nat) (gs:List D->af->R af):af->R aW:=λρ=>f (frz L ρ)>>=λd=>match d with
 | .lst ds=>if ds.length=n/\ds.all m_=true then (gs ds ρ>>=λρ'=> .ok (.nx ρ'))else .bad
 | .tup ds=>if ds.length=n/\ds.all m_=true then (gs ds ρ>>=λρ'=> .ok (.nx ρ'))else .bad
 |_=> .bad
theorem GG (L:List Nat) {k n:Nat} {pt:LF} {gs:List D->af->R af} (hc:X.calm=true) (he:PQ ly X e f) (h:yd ly X es gs) (hn:(M9 es X.env).length=n:=by rfl) (Tz:(M9 es X.env).findIdx? (·.1)=none:=by rfl)
  (hs:O0 [.Tuple es k pt] e pos.line X.env=pure false:=by rfl) (hw:O1 [.Tuple es k pt] e X.env=pure none:=by rfl)
  (h1:(M9 [.Tuple es k pt] X.env).map (·.2)=[Ny (.Tuple es k pt) X.env]:=by rfl):d_ ly X (.Assign [.Tuple es k pt] e pos) (wO L f n gs):=⟨λc=>
 PS.weak (uU (he c) (PG.or (zn hc (h c) hn Tz) (zY hc (h c) hn Tz)) hs hw h1) λD σ H ⟨F,ρ,ri,w⟩=>by
  obtain⟨F',s,X7⟩:=ri.frz L
  refine⟨F',_,X7,(aB.bind.mp w).imp λd _ w1 v H1 F1 e1 r1=> ?_⟩
  have Td:∀{ds:List L2.Pu.D} {vs:List V},Reps X.K F1 vs ds->aB c.1 (if ds.length=n/\ds.all m_=true then (gs ds ρ>>=λρ'=>R.ok (aW.nx ρ'))else .bad) (gI X.K c.1 F D)->
    vs.length=n/\Ki X.K c.1 gs vs σ H1 (λσ' H'=>D.nx σ' H'):=by
   intro ds vs r2 w2
   split at w2
   ·rename_i hl
    refine⟨by rw[r2.length];exact hl.1,F,ρ,ds,ri.up e1.keep,yv hl.2 r2,(aB.bind.mp w2).imp λρ' _ w3 σ' H' F2 s2 r'=>w3 σ' H' F2 s2 r'⟩
   ·exact w2.elim
  cases r1 with
  | @tup a vs ds g1 g2=>
   obtain⟨k1,k2⟩:=Td g2 w1
   exact .inl ⟨a,vs,rfl,fS.of (e1.sub _ _ g1),k1,k2⟩
  | @lst a vs ds g1 g2=>
   obtain⟨k1,k2⟩:=Td g2 w1
   exact .inr ⟨a,vs,rfl,d6.of (e1.sub _ _ g1),k1,k2⟩
  |_=>exact w1.elim⟩
end
section
variable {X:Cx} {e:La} {f:af->R D} {pos:LF}
def DI (i:Nat) (g:D->D->Option D) (f:af->R D):af->R aW:=λρ=>ag i ρ>>=λx=>f ρ>>=λy=>R.of (g x y)>>=λz=> .ok (.nx (ρ.set i (some (.val z))))
theorem IP (i:Nat) {x:L0} {Tj:LF} {op:OJ} {r:R2} {g:D->D->Option D} (hN:X.N.Nodup) (ho:jD X (Qy op) r) (UC:gX X.K r g) (he:PQ ly X e f) (hi:X.N[i]? =some x:=by rfl) (hx:uS X.env.scope x:=by first|exact Mn rfl|exact L_ rfl)
  (hf:X.fn x=true\/X.env.scope.names.lookup x=some .local:=by first|exact .inl rfl|exact .inr rfl|assumption) (TY:jN ly i:=by(repeat (first|assumption|exact L2.Pu.cp|refine L2.Pu.free_cons ⟨by first|decide|simp,by first|decide|simp⟩ ?_))):
  d_ ly X (.AugAssign (.Name x Tj) op e pos) (DI i g f):=⟨λc=>
 PS.weak (Fe hN hi hx (he c) (λTc s σ H x y v u Q I rx ry q=>ho Tc s σ H x y v u Q I rx ry q) hf) λD σ H ⟨F,ρ,ri,w⟩=>by
  unfold DI at w
  have w0:=aB.bind.mp w
  unfold ag at w0
  split at w0
  ·rename_i d hd
   obtain⟨v,h1,h2⟩:=ri.val i d hd
   refine⟨v,h1,F,ρ,ri,(aB.bind.mp w0).imp λy _ w1 u H1 F1 e1 r1=> ?_⟩
   obtain⟨z,hz,w2⟩:=(aB.bind.mp w1).of
   exact UC v u d y z H1 F1 _ e1.sub (.inl (h2.mono e1.grow)) (.inl r1) hz λw' H2 F2 e2 r2=>w2 _ H2 F2 (e1.trans e2).grow ((ri.step (e1.trans e2)).setVal i TY r2)
  ·exact w0.elim⟩
def AT:D->D->Option D:=Ge λi j=> .int (i+j)
theorem AU {K:KU}:gX K (xE λi j=> .int (i+j)) AT:=sm λF i j=> .int _
end
end L2.Pu
namespace L2
open PySem PySem.Spec PyProof.Rows
section
variable {X:Cx} {tg:La}
end
end L2
namespace L2.Pu
open PySem PySem.Spec PyProof.Rows
variable {ly:List cY}
section
variable {X:Cx} {a b d:La} {fs:af->R (List D)} {pos:LF}
end
end L2.Pu
namespace L2
open PySem PySem.Spec PyProof.Rows
end L2
namespace L2.Pu
open PySem PySem.Spec PyProof.Rows
variable {ly:List cY}
end L2.Pu
namespace L2.Pu
section
variable {α:Type} {P:List α->Prop}
theorem Kl (h:P []):∀us:List α,us.length=0->P us:=λus e=>by
 rw[Ov.mp e];exact h
theorem IQ {n:Nat} (h:∀a us,us.length=n->P (a::us)):∀us:List α,us.length=n+1->P us:=λus e=>by
 cases us with
 |nil=>cases e
 |cons a us=>exact h a us (Nat.succ.inj e)
theorem Km (h:∀a,P [a]):∀us:List α,us.length=1->P us:=IQ λa=>Kl (P:=λus=>P (a::us)) (h a)
theorem Kn (h:∀a b,P [a,b]):∀us:List α,us.length=2->P us:=IQ λa=>Km (P:=λus=>P (a::us)) (h a)
theorem Ko (h:∀a b c,P [a,b,c]):∀us:List α,us.length=3->P us:=IQ λa=>Kn (P:=λus=>P (a::us)) (h a)
theorem Kq (h:∀a b c d,P [a,b,c,d]):∀us:List α,us.length=4->P us:=IQ λa=>Ko (P:=λus=>P (a::us)) (h a)
theorem KJ (h:∀a b c d e,P [a,b,c,d,e]):∀us:List α,us.length=5->P us:=IQ λa=>Kq (P:=λus=>P (a::us)) (h a)
end
end L2.Pu
namespace L2
open PySem PySem.Spec PyProof.Rows
end L2
namespace L2.Pu
open PySem PySem.Spec PyProof.Rows
variable {ly:List cY}
end L2.Pu
namespace L2.Pu
open PySem PySem.Spec PyProof.Rows
variable {ly:List cY}
def Slot.kind:Slot->Nat
 | .own _=>1
 | .cel .. =>2
 |_=>0
inductive At (ρ:af) (σ:St):List Nat->List Slot->List KZ->Prop
 |nil:At ρ σ [] [] []
 |cons {i:Nat} {s:Slot} {a:KZ} {is:List Nat} {ss:List Slot} {as:List KZ}:ρ[i]? =some (some s)->s.kind≠0->σ[i]? =some (some (.ref a))->At ρ σ is ss as->At ρ σ (i::is) (s::ss) (a::as)
theorem At.idx {ρ:af} {σ:St} {is:List Nat} {ss:List Slot} {as:List KZ} (h:At ρ σ is ss as):∀{k i:Nat},is[k]? =some i->∃s a,ss[k]? =some s/\as[k]? =some a/\ρ[i]? =some (some s)/\s.kind≠0/\σ[i]? =some (some (.ref a)):=by
 induction h with
 |nil=>intro k i e;simp at e
 |cons h1 h2 h3 _ ih=>
  intro k i e
  cases k with
  |zero=>cases e;exact⟨_,_,rfl,rfl,h1,h2,h3⟩
  |succ k=>exact ih e
theorem At.lens {ρ:af} {σ:St} {is:List Nat} {ss:List Slot} {as:List KZ} (h:At ρ σ is ss as):ss.length=is.length/\as.length=is.length:=by
 induction h with
 |nil=>exact⟨rfl,rfl⟩
 |cons _ _ _ _ ih=>exact⟨by simp[ih.1],by simp[ih.2]⟩
theorem At.get {ρ:af} {σ:St} {is:List Nat} {ss:List Slot} {as:List KZ} (h:At ρ σ is ss as) {k:Nat} {s:Slot} (e:ss[k]? =some s):∃i a,is[k]? =some i/\as[k]? =some a/\ρ[i]? =some (some s)/\s.kind≠0/\σ[i]? =some (some (.ref a)):=by
 have hk:k<is.length:=by rw[<-h.lens.1];exact(Lx.mp e).1
 obtain⟨s',a,h1,h2,h3⟩:=h.idx (k:=k) (i:=is[k]) (by simp[hk])
 rw[e]at h1
 cases h1
 exact⟨is[k],a,by simp[hk],h2,h3⟩
def IS (H:Hp) (ρ:af) (σ:St) (i:Nat) (z:KZ):Prop:=
 (∃d,ρ[i]? =some (some (.own d))/\σ[i]? =some (some (.ref z)))\/∃x Tq f hs a C dx fs,ρ[i]? =some (some (.cel x Tq f hs))/\σ[i]? =some (some (.ref a))/\H a=some (.ins C dx fs)/\(z=a\/z=dx\/fs.lookup f=some (.ref z))
open Classical in
noncomputable def AV (H:Hp) (ρ:af) (σ:St) (is:List Nat):Hp:=λz=>if ∃i∈is,IS H ρ σ i z then none else H z
theorem uf {H:Hp} {ρ:af} {σ:St} {is:List Nat} {z:KZ} {i:Nat} (hi:i∈is) (h:IS H ρ σ i z):AV H ρ σ is z=none:=if_pos ⟨i,hi,h⟩
theorem yw {H:Hp} {ρ:af} {σ:St} {is:List Nat} {z:KZ} {u:HO} (h:AV H ρ σ is z=some u):H z=some u:=by
 unfold AV at h
 split at h
 ·cases h
 ·exact h
section
variable {K:KU} {c:cQ ly} {ρ:af} {σ:St} {H F:Hp} {i j:Nat} {z:KZ}
end
abbrev MC (Hz F:Hp):cQ []:=⟨Hz,F,λ_=>none,λ_ _=>False,λ_=>none,λ_=>none⟩
def KL (K:KU) (Hz F:Hp) (ss:List Slot) (as:List KZ) (H' F':Hp):Prop:=RI K (MC Hz F) (ss.map some) (as.map λa=>some (.ref a)) H' F'
theorem map_some {α β:Type} {l:List α} {g:α->β} {k:Nat} {b:β} (h:(l.map g)[k]? =some b):∃a,l[k]? =some a/\g a=b:=by
 rw[LA]at h
 cases e:l[k]? with
 |none=>rw[e]at h;cases h
 |some a=>rw[e]at h;exact⟨a,rfl,by simpa using h⟩
theorem DJ {α β:Type} {l:List α} {g:α->β} {k:Nat} {a:α} (h:l[k]? =some a):(l.map g)[k]? =some (g a):=by rw[LA,h];rfl
theorem AW {is:List Nat} (nd:is.Nodup) {k k' i:Nat} (h:is[k]? =some i) (h':is[k']? =some i):k=k':=by
 obtain⟨l,e⟩:=Lx.mp h
 obtain⟨l',e'⟩:=Lx.mp h'
 exact(OI nd).mp (e.trans e'.symm)
section
variable {K:KU} {c:cQ ly} {ρ:af} {σ:St} {H F H' F':Hp} {is:List Nat} {ss a3r:List Slot} {as:List KZ}
theorem RI.split (r:RI K c ρ σ H F) (A:At ρ σ is ss as) (nd:is.Nodup):KL K (AV H ρ σ is) F ss as H F:=by
 have got:∀{k:Nat} {s:Slot},(ss.map some)[k]? =some (some s)->∃i a,is[k]? =some i/\as[k]? =some a/\ρ[i]? =some (some s)/\s.kind≠0/\σ[i]? =some (some (.ref a)):=λ{k s} h=>by
  obtain⟨s',h1,h2⟩:=map_some h
  cases h2
  exact A.get h1
 have Xc:∀{k:Nat} {a:KZ},as[k]? =some a->(as.map λa=>some (V.ref a))[k]? =some (some (.ref a)):=λh=>DJ h
 have ZS:∀{k:Nat} {a a':KZ},as[k]? =some a->(as.map λa=>some (V.ref a))[k]? =some (some (.ref a'))->a=a':=λ{k a a'} h h'=>by
  rw[Xc h]at h';cases h';rfl
 refine⟨⟨r.sub,λz u e=>yw e,aO.refl _,λ_ h=> .inl h⟩,λk d h=> ?_,λk d h=> ?_,λk d h=> ?_,(λ_ _ e=>by cases e),λk k' d d' a h h' e e'=> ?_,?_,(λL h=>by cases h),(λL h=>by cases h),(λ_ _ e=>by cases e),⟨λk x Tq f hs h=> ?_,λk k' x Tq f hs s h h' Ub=> ?_⟩,(λL h=>by cases h)⟩
 ·obtain⟨i,a,_,_,_,z,_⟩:=got h;exact absurd rfl z
 ·obtain⟨i,a,h1,h2,h3,h4,h5⟩:=got h
  obtain⟨p,u,k1,k2,k3,k4,k5⟩:=r.own i d h3
  rw[h5]at k1
  cases k1
  exact⟨a,u,Xc h2,k2,k3,uf (Mj h1) (.inl ⟨d,h3,h5⟩),k5⟩
 ·obtain⟨i,a,_,_,_,z,_⟩:=got h;exact absurd rfl z
 ·obtain⟨i1,a1,h1,h2,h3,h4,h5⟩:=got h
  obtain⟨i2,a2,g1,g2,g3,g4,g5⟩:=got h'
  cases ZS h2 e
  cases ZS g2 e'
  cases r.dis i1 i2 d d' _ h3 g3 h5 g5
  exact AW nd h1 g1
 ·simp only[L4];rw[A.lens.1,A.lens.2]
 ·obtain⟨i,a,h1,h2,h3,h4,h5⟩:=got h
  obtain⟨a',dx,b,k1,k2,k3⟩:=r.cel.ex i x Tq f hs h3
  rw[h5]at k1
  cases k1
  have a3s:=k2
  obtain⟨C,fs,vs,us,g1,g2,g3,g4⟩:=k2.ex
  have o:∀z,(z=a\/z=dx\/fs.lookup f=some (.ref z))->AV H ρ σ is z=none:=λz hz=>uf (Mj h1) (.inr ⟨x,Tq,f,hs,a,C,dx,fs,h3,h5,g1,hz⟩)
  refine⟨a,dx,b,Xc h2,⟨k2.ex,k2.own,k2.fa,k2.fd,k2.fb,o a (.inl rfl),o dx (.inr (.inl rfl)),o b (.inr (.inr g3))⟩,λk' d h' e=> ?_⟩
  obtain⟨i2,a2,m1,m2,m3,m4,m5⟩:=got h'
  cases ZS m2 e
  exact k3 i2 d m3 m5
 ·obtain⟨i1,a1,h1,h2,h3,h4,h5⟩:=got h
  obtain⟨i2,a2,g1,g2,g3,g4,g5⟩:=got h'
  cases r.cel.one i1 i2 x Tq f hs s h3 g3 Ub
  exact AW nd h1 g1
end
end L2.Pu
namespace L2.Pu
open PySem PySem.Spec PyProof.Rows
variable {ly:List cY}
section
variable {P:Lb} {w:Ll} {K:KU} {mg:L0->Option KW} {base:Lj}
end
section
variable {X:Cx} {e:La} {es:List La} {fs:af->R (List D)} {is:List Nat} {p pos Th:LF} {x m:L0}
end
end L2.Pu
namespace L2.Pu
open PySem PySem.Spec PyProof.Rows
variable {ly:List cY}
def IT (g:L0) (d:D) (Tq:List (L0×D)):List (L0×D):=Tq.map λp=>if p.1=g then (p.1,d)else p
section
variable {K:KU} {c:cQ ly} {ρ:af} {σ:St} {H F:Hp} {i:Nat} {z:KZ}
theorem RepF.put {vs:List (L0×V)} {Tq:List (L0×D)} {g:L0} {v:V} {d:D} (h:RepF K F vs Tq) (r:dg K F v d):RepF K F (vs.map λp=>if p.1=g then (p.1,v)else p) (IT g d Tq):=by
 induction Tq generalizing vs with
 |nil=>rw[h.nilI];exact .nil
 |cons p Tq ih=>
  obtain⟨k,x⟩:=p
  obtain⟨u,us,rfl,h1,h2⟩:=h.consI
  have:=ih h2
  unfold IT at this ⊢
  rw[L3,L3]
  dsimp only
  by_cases e:k=g
  ·rw[if_pos e,if_pos e];exact .cons r this
  ·rw[if_neg e,if_neg e];exact .cons h1 this
end
section
variable {X:Cx} {a b e value:La} {es:List La} {fa fb f fv:af->R D} {fs:af->R (List D)} {pos px Th a1W Tf Tj:LF} {y g cls:L0} {xs:List L0}
variable {fx:af->R (D×af)}
def K4 (K:KU) (c:cQ ly) (gx:af->R (Bool×af)):TT:=λσ H Q=>∃F ρ,RI K c ρ σ H F/\aB c (gx ρ) λr=>∀H' F',aO F F'->RI K c r.2 σ H' F'->Q r.1 H'
structure K5 (ly:List cY) (X:Cx) (e:La) (gx:af->R (Bool×af)):Prop where
 ap:∀c:eA ly X,PT X e (K4 X.K c.1 gx)
instance {ly:List cY} {X:Cx} {e:La} {gx:af->R (Bool×af)}:CoeFun (K5 ly X e gx) λ_=>∀c:eA ly X,PT X e (K4 X.K c.1 gx):=⟨K5.ap⟩
end
end L2.Pu
namespace L2.Pu
open PySem PySem.Spec PyProof.Rows
variable {ly:List cY}
section
variable {K:KU} {c:cQ ly} {ρ:af} {σ:St} {H F H' F':Hp} {L:List Nat}
theorem RepF.snoc {vs:List (L0×V)} {Tq:List (L0×D)} {f:L0} {v:V} {d:D} (h:RepF K F vs Tq) (r:dg K F v d):RepF K F (vs++[(f,v)]) (Tq++[(f,d)]):=by
 induction Tq generalizing vs with
 |nil=>rw[h.nilI];exact .cons r .nil
 |cons p Tq ih=>
  obtain⟨k,x⟩:=p
  obtain⟨u,us,rfl,h1,h2⟩:=h.consI
  exact .cons h1 (ih h2)
end
section
variable {X:Cx} {e:La} {es:List La} {f:af->R D} {g:af->R Bool} {pos:LF}
end
end L2.Pu
namespace L2.Pu
open PySem PySem.Spec PyProof.Rows
variable {ly:List cY}
section
variable {X:Cx} {pos Tj px pl:LF} {f y g:L0}
end
section
variable {X:Cx} {e:La} {es:List La} {fs:af->R (List D)} {cls:L0} {p pos U4 Tj:LF}
end
end L2.Pu
namespace L2.Pu
open PySem PySem.Spec PyProof.Rows
variable {ly:List cY}
section
variable {K:KU} {F:Hp}
def pB:List D->Option (List Bool)
 |[]=>some []
 | .bl b::r=>(pB r).map (b::·)
 |_=>none
theorem yx:∀{ds:List D} {bs:List Bool} {vs:List V},pB ds=some bs->Reps K F vs ds->vs=bs.map V.bl:=by
 intro ds
 induction ds with
 |nil=>intro bs vs h r;cases h;rw[r.nilI];rfl
 |cons d r ih=>
  intro bs vs h g
  obtain⟨v,us,rfl,r1,t⟩:=g.consI
  cases d with
  |bl b=>
   cases r1
   replace h:(pB r).map (b::·)=some bs:=h
   cases e:pB r with
   |none=>rw[e]at h;cases h
   |some ms=>rw[e]at h;cases h;rw[ih e t];rfl
  |_=>cases h
end
section
variable {X:Cx} {a o e:La} {fa fo fk:af->R D} {Th Tf pos Tv p1 p2:LF}
def sG (f:af->R D):af->R D:=λρ=>f ρ>>=λd=>match d with
 | .lst ds=>(match cA ds with|some ns=>if ns.length<4000 then .ok (.int (lR ns))else .bad|none=> .bad)
 | .tup ds=>(match cA ds with|some ns=>if ns.length<4000 then .ok (.int (lR ns))else .bad|none=> .bad)
 |_=> .bad
theorem AX (hc:X.calm=true) (Yc:X.mg "len"=none) (WY:X.mg "set"=none) (ha:PB ly X a fa) (Yd:Gl X "len":=by rfl) (WZ:Gl X "set":=by rfl)
  (VI:L6 [a] X.env=(false,Ls a X.env)::L6 [] X.env:=by rfl) (UP:(LM Tv (L6 [] X.env)).any (·.1)=false:=by rfl)
  (VT:L6 [.Call (.Name "set" p2) [a] [] Tv] X.env=(false,Ls (.Call (.Name "set" p2) [a] [] Tv) X.env)::L6 [] X.env:=by rfl) (Ve:(LM pos (L6 [] X.env)).any (·.1)=false:=by rfl):
  PQ ly X (.Call (.Name "len" p1) [.Call (.Name "set" p2) [a] [] Tv] [] pos) (sG fa):=⟨λc=>
 PE.weak (x_ hc (ha c) Yc WY Yd WZ VI UP VT Ve) λσ H Q ⟨F,ρ,ri,w⟩=>⟨F,ρ,ri,(aB.bind.mp w).imp λd _ w1 v H1 F1 e1 r1=>by
  cases d with
  |lst ds=>
   obtain⟨p,vs,rfl,h1,h2⟩:=r1.lst e1.sub
   cases q:cA ds with
   |none=>simp only[q]at w1;exact w1.elim
   |some ns=>
    simp only[q]at w1
    split at w1
    ·rename_i hl
     rw[iR q h2]at h1
     exact⟨p,ns,rfl, .inl (d6.of h1),hl,w1 _ H1 F1 e1 (.int _)⟩
    ·exact w1.elim
  |tup ds=>
   obtain⟨p,vs,rfl,h1,h2⟩:=r1.tup e1.sub
   cases q:cA ds with
   |none=>simp only[q]at w1;exact w1.elim
   |some ns=>
    simp only[q]at w1
    split at w1
    ·rename_i hl
     rw[iR q h2]at h1
     exact⟨p,ns,rfl, .inr (fS.of h1),hl,w1 _ H1 F1 e1 (.int _)⟩
    ·exact w1.elim
  |_=>exact w1.elim⟩⟩
end
end L2.Pu
namespace L2
open PySem PySem.Spec PyProof.Rows
section
variable {X:Cx}
theorem vM (bs:List Bool):((LU bs.length).all λi=>bs.getD i false)=bs.all id:=by
 rw[O9,Qk,Qk]
 constructor
 ·intro h b hb
  obtain⟨i,hi,e⟩:=Rz hb
  have:=h i (M0.mpr hi)
  simp[hi,e]at this
  exact this
 ·intro h i hi
  have hi:=M0.mp hi
  have:=h bs[i] (Ql hi)
  simpa[hi]using this
theorem yy (hc:X.calm=true):ck X (.builtin "all") (λxs H Q=>∃(p:KZ) (bs:List Bool),xs=[.ref p]/\d6 X.K H p (bs.map V.bl)/\Q (.bl (bs.all id)) H):=by
 intro Tc s σ H xs us Q I rv h
 obtain⟨p,bs,rfl,hx,q⟩:=h
 obtain⟨u,rfl,ru⟩:=fU rv
 cases ru
 obtain⟨its,r,ht,hz⟩:=I.list hx
 have hl:=ht.isList
 have TK:p<s.heap.objs.size:=by obtain⟨_,e,_⟩:=hl;exact Lg e
 refine call_all_walk (Ox hl ?_)
 refine⟨s.heap.objs.size,[s.heap.objs.size,p],[s.heap.objs.size],its.toArray.size,_,_,λi=>bs.getD i false,rfl,SJ (A:=X.A.in1) (I.ok.hd hc) _ p (Lu TK) its.toArray,⟨⟨_,Lq _ rfl,rfl,rfl⟩,hl.push _⟩,λi v s' Q' E' hP hQ=> ?_,λh' tk hk=> ?_⟩
 ·obtain⟨b,e,rfl⟩:=zZ r (i:=i) (v:=v) (by simpa using hP)
  have:bs.getD i false=b:=by simp[Mh,e]
  dsimp only at hQ
  rw[this]at hQ
  exact Nn hQ
 ·have e:((LU its.toArray.size).all λi=>bs.getD i false)=bs.all id:=by
   have hl:=r.length
   rw[L4]at hl
   rw[Ld,<-hl];exact vM bs
  rw[e]
  exact⟨.bl _,H,I.kept (xX hk),rfl,q⟩
end
end L2
namespace L2.Pu
open PySem PySem.Spec PyProof.Rows
variable {ly:List cY}
section
variable {K:KU} {F:Hp}
def GH:List D->Option D
 |[.lst ds]=>(pB ds).map λbs=> .bl (bs.all id)
 |_=>none
theorem DK:kU K (λxs H Q=>∃(p:KZ) (bs:List Bool),xs=[.ref p]/\d6 K H p (bs.map V.bl)/\Q (.bl (bs.all id)) H) GH:=by
 intro vs ds d H F Q s rv h k
 match ds,h with
 |[.lst xs],h=>
  obtain⟨v,rfl,r⟩:=rv.one
  obtain⟨a,ws,rfl,h1,h2⟩:=r.lst s
  replace h:(pB xs).map (λbs=>D.bl (bs.all id))=some d:=h
  cases e:pB xs with
  |none=>rw[e]at h;cases h
  |some bs=>
   rw[e]at h
   cases h
   rw[yx e h2]at h1
   exact⟨a,bs,rfl,d6.of h1,k _ H F (bf.refl s) (.bl _)⟩
theorem AY:LK "all"=some (.builtin "all"):=by decide+kernel
end
section
variable {X:Cx} {a b o e:La} {fa fb fo fk:af->R D} {Th Tf pos:LF}
end
end L2.Pu
namespace L2.Pu
open PySem PySem.Spec PyProof.Rows
variable {ly:List cY}
def iU (g:D->af->R af) (gt:af->R Bool) (fe:af->R D):List D->af->R (List D)
 |[],_=> .ok []
 |d::r,τ=>match g d τ with
  | .ok τ1=>(match gt τ1 with
   | .ok b=>if b=true then (fe τ1>>=λy=>iU g gt fe r τ1>>=λys=> .ok (y::ys))else iU g gt fe r τ1
   |_=> .bad)
  |_=> .bad
def vN (N:List L0) (names:List (L0×Mf)) (fi:af->R (List D)) (g:D->af->R af) (gt:af->R Bool) (fe:af->R D):af->R (List D):=λρ=>fi ρ>>=λds=>if ds.length<=lim then (match iU g gt fe ds (gJ N names ρ)with
 | .ok es=> .ok es
 | .err x _=> .err x ρ
 | .bad=> .bad)else .bad
def K6 (K:KU) (fe:af->R D) (EO:KW->Hp->Prop):TE:=λσ H Q=>∃c:cQ [],(∀x ρ σ' H' F' cls,fc K x cls->RI K c ρ σ' H' F'->c.Er x ρ->EO cls H')/\tQ K c fe σ H Q
theorem KN {X:Cx} {scope:MO} {TJ:La} {fe:af->R D} (pl:fE X) (h:∀s H ex E,PQ [] (bL X scope s H ex E) TJ fe):∀Tc σ s3 H3 fp EO,aw X Tc σ H3 s3->(∀b∈fp,fG X Tc H3 b/\b<s3.heap.objs.size)->PE (bL X scope s3 H3 fp (FV X Tc scope fp EO s3 H3)) TJ (K6 X.K fe EO):=by
 intro Tc σ s3 H3 fp EO I3 f3 TZ s τ H Q I hq
 obtain⟨c,hb,q⟩:=hq
 refine h s3 H3 fp _ ⟨c, .inr (.inr ⟨rfl,?_⟩)⟩ TZ s τ H Q I q
 intro Yn σ2 H2 s2 e s' I2 hx
 obtain⟨a,cls,H',rfl,os,bare,un,hok,⟨n1,n2,oe,vs,T,oT,ts,g1,g2,g3,g4,g5,g6,g7,g8,g9,ZI⟩,x,ρ',F',ec,ri,er⟩:=hx
 have a0K:aw (bE X scope s3 H3 fp) Yn σ2 H2 s2:=FU I2
 exact⟨a,cls,H',σ2,rfl,(FU (I2.call' os un hok bare (λb hb=>by cases hb))).pins_of (λp hp=>by cases hp),⟨wC I3 pl f3 a0K n1 n2,oe,vs,g1,g2,g3,T,g4,wC I3 pl f3 a0K g5 g6,g7,oT,ts,g8,g9,ZI⟩,hb x ρ' σ2 H' F' cls ec ri er⟩
theorem RI.reEr {K:KU} {A B C:Hp} {Er a1X:L0->af->Prop} {ρ:af} {σ:St} {H F:Hp} (r:RI K (⟨A,B,C,Er,λ_=>none,λ_=>none⟩:cQ []) ρ σ H F):RI K (⟨A,B,C,a1X,λ_=>none,λ_=>none⟩:cQ []) ρ σ H F:=
 ⟨r.1,r.2,r.3,r.4,r.5,r.6,r.7,r.8,r.9,r.10,r.11,r.12⟩
def wQ (K:KU) (p:KZ) (H1 F1:Hp) (Q:Hp->Prop) (er:L0->Prop):R (List D)->Prop
 | .ok es=>∀H2 F2 vs,bf H1 F1 H2 F2->H2 p=some (.lst vs)->F2 p=none->Reps K F2 vs es->Q H2
 | .err x _=>er x
 | .bad=>False
def K7 (pre:List D):R (List D)->R (List D)
 | .ok es=> .ok (pre++es)
 |r=>r
theorem ug {K:KU} {c:cQ ly} {ρ:af} {σ:St} {H F H1 F1:Hp} {N:List L0} {names:List (L0×Mf)} {p:KZ} {g:D->af->R af} {gt:af->R Bool} {fe:af->R D} {J:It} {ds:List D} {Q:Hp->Prop}
  (ri:RI K c ρ σ H F) (e:bf H F H1 F1) (jo:vm K F1 J ds) (hp:H1 p=none) (hl:ds.length<=lim) (he:wQ K p H1 F1 Q (λx=>c.Er x ρ) (iU g gt fe ds (gJ N names ρ))):
  iM J (Jg K g) (Jh K gt) (K6 K fe λcls H'=>∃x F',fc K x cls/\RI K c ρ σ H' F'/\c.Er x ρ) p (lP N names σ) Q (a_ H1 p (.lst [])):=by
 have s1:aO F1 H1:=e.sub
 have f1:F1 p=none:=s1.free hp
 refine⟨λi m ys τ H=>∃F ρ' pre,RI K (⟨a_ H1 p (.lst ys),F1,H1,λ_ _=>False,λ_=>none,λ_=>none⟩:cQ []) ρ' τ H F/\Reps K F ys pre/\pre.length<=i/\m=ds.length - i/\i<=ds.length/\wQ K p H1 F1 Q (λx=>c.Er x ρ) (K7 pre (iU g gt fe (ds.drop i) ρ')),
  ⟨_,F1,_,[],Ey ri e hp, .nil,Li _,rfl,M6 _,?_⟩,?_⟩
 ·rw[Pd]
  cases q:iU g gt fe ds (gJ N names ρ)<;>rw[q]at he<;>exact he
 rintro i m ys τ H2 ⟨F2,ρ',pre,r2,rp,a1K,rfl,hi,hc⟩
 have Yo:∀{Er ρ' τ H F},RI K (⟨a_ H1 p (.lst ys),F1,H1,Er,λ_=>none,λ_=>none⟩:cQ []) ρ' τ H F->bf H1 F1 H F:=λ{Er ρ' τ H F} r=>⟨r.sub,(bM hp).trans r.ext.keep,r.ext.grow,λa ha=>by
  rcases r.ext.new a ha with z|z
  ·exact .inl z
  ·refine .inr ?_
   change a_ H1 p (.lst ys) a=none at z
   rw[au (λq=>by subst q;rw[aq]at z;cases z)]at z
   exact z⟩
 have ZN:F2 p=none:=by
  cases q:F2 p with
  |none=>rfl
  |some u=>
   rcases r2.ext.new p (by rw[q];simp)with z|z
   ·exact absurd f1 z
   ·change a_ H1 p (.lst ys) p=none at z;rw[aq]at z;cases z
 have hD:∀{ρ' τ H F},RI K (⟨a_ H1 p (.lst ys),F1,H1,λ_ _=>False,λ_=>none,λ_=>none⟩:cQ []) ρ' τ H F->H p=some (.lst ys):=λr=>r.ext.keep p _ aq
 refine⟨hD r2,?_⟩
 by_cases TK:i<ds.length
 ·refine .inr ⟨jo.go i H2 (r2.ext.grow.trans r2.sub) TK,?_,λx H3 y=> ?_⟩
  ·have:=rp.length
   have:=dO
   omega
  ·obtain⟨F3,d,hd,e3,r3⟩:=jo.yld i H2 F2 x H3 r2.ext.grow r2.sub y TK
   obtain⟨Ur,ed⟩:=Lx.mp hd
   rw[MW Ur,ed,iU]at hc
   cases h1:g d ρ' with
   |err x ρ''=>rw[h1]at hc;exact hc.elim
   |bad=>rw[h1]at hc;exact hc.elim
   |ok τ1=>
   rw[h1]at hc
   dsimp only at hc
   cases h2:gt τ1 with
   |err x ρ''=>rw[h2]at hc;exact hc.elim
   |bad=>rw[h2]at hc;exact hc.elim
   |ok b=>
   rw[h2]at hc
   dsimp only at hc
   refine⟨_,λe ρ h=>h,F3,ρ',d,r2.step e3,r3,?_⟩
   rw[h1]
   intro τ4 H4 F4 s4 r4
   refine⟨_,λe ρ h=>h,F4,τ1,r4,?_⟩
   rw[h2]
   intro H5 F5 e5
   cases b with
   |false=>
    rw[if_neg (by decide)]at hc
    exact⟨ds.length - (i+1),by omega,F5,τ1,pre,r4.step e5,(rp.mono e3.grow).mono (s4.trans e5.grow),by omega,rfl,TK,hc⟩
   |true=>
    rw[if_pos rfl]at hc ⊢
    refine⟨⟨a_ H1 p (.lst ys),F1,H1,λx _=>c.Er x ρ,λ_=>none,λ_=>none⟩,λx ρ' σ' H' F' cls ec r er=>⟨x,F',ec,ri.step (e.trans (Yo r)),er⟩,F5,τ1,(r4.step e5).reEr,?_⟩
    cases h3:fe τ1 with
    |err x ρ''=>rw[h3]at hc;exact hc
    |bad=>rw[h3]at hc;exact hc.elim
    |ok y'=>
    rw[h3,aj]at hc
    intro v H6 F6 e6 r6
    have X9:=(r4.step e5).step e6
    refine⟨hD X9,ds.length - (i+1),by omega,F6,τ1,pre++[y'],X9.bump hp ?_,(((rp.mono e3.grow).mono (s4.trans e5.grow)).mono e6.grow).append (.cons r6 .nil),by simp;omega,rfl,TK,?_⟩
    ·cases q:F6 p with
     |none=>rfl
     |some u=>
      rcases X9.ext.new p (by rw[q];simp)with z|z
      ·exact absurd f1 z
      ·change a_ H1 p (.lst ys) p=none at z;rw[aq]at z;cases z
    ·cases h4:iU g gt fe (ds.drop (i+1)) τ1 with
     |err x ρ''=>rw[h4]at hc;exact hc
     |bad=>rw[h4]at hc;exact hc
     |ok rest=>
      rw[h4,aj]at hc
      show wQ K p H1 F1 Q (λx=>c.Er x ρ) (.ok (pre++[y']++rest))
      rw[Mr]
      exact hc
 ·have ei:i=ds.length:=by omega
  subst ei
  rw[Qj]at hc
  replace hc:wQ K p H1 F1 Q (λx=>c.Er x ρ) (.ok (pre++[])):=hc
  rw[Mb]at hc
  exact .inl ⟨jo.stop H2 (r2.ext.grow.trans r2.sub),hc H2 F2 ys (Yo r2) (hD r2) ZN rp⟩
section
variable {X:Cx} {TJ tg iter:La} {TH:List La} {scope:MO} {pos:LF} {fi:af->R (List D)} {g:D->af->R af} {gt:af->R Bool} {fe:af->R D}
theorem DL (i:Nat) {y:L0} {py U4:LF} (S:bA X scope) (hc:X.calm=true) (hN:X.N.Nodup) (hi:BU ly X tg iter fi) (hg:∀s H ex E,Ab [] (bL X scope s H ex E) tg g) (UB:∀s H ex E,tO [] (bL X scope s H ex E) TH gt) (Ux:∀s H ex E,PQ [] (bL X scope s H ex E) TJ fe)
  (pl:fE X:=by exact⟨rfl,rfl,rfl⟩)
  (V8:X.N[i]? =some y:=by rfl) (hx:uS X.env.scope y:=by first|exact Mn rfl|exact L_ rfl) (hf:X.fn y=true\/X.env.scope.names.lookup y=some .local:=by first|exact .inl rfl|exact .inr rfl|assumption)
  (UZ:Mi (.ListComp TJ [⟨tg,iter,TH,0⟩] scope pos) (some (.Name y py)) U4.line X.env=pure true:=by rfl) (hs:∀x,Mq iter X.env x=pure x:=by intro _;rfl) (TY:jN ly i:=by(repeat (first|assumption|exact L2.Pu.cp|refine L2.Pu.free_cons ⟨by first|decide|simp,by first|decide|simp⟩ ?_))):
  d_ ly X (.Assign [.Name y py] (.ListComp TJ [⟨tg,iter,TH,0⟩] scope pos) U4) (jR i (vN X.N scope.names fi g gt fe)):=⟨λc=>
 PS.weak (A8 (g:=Jg X.K g) (tt:=Jh X.K gt) (te:=K6 X.K fe) pl S hc (hi c) (λs H ex E=>Ji (hg s H ex E)) (λs H ex E=>Jj (UB s H ex E)) (KN pl Ux) (rO hN V8 hx hf) UZ hs) λD σ H ⟨F,ρ,ri,w⟩=>by
  refine⟨λcls H'=>∃x F',fc X.K x cls/\RI X.K c.1 ρ σ H' F'/\c.1.Er x ρ,λcls H' Tc s a ⟨x,F',ec,r,er⟩ I fl=> ?_,F,ρ,ri,(aB.bind.mp (aB.bind.mp w)).imp λds _ w1 J H1 F1 e1 jo p hp=> ?_⟩
  ·rcases c.2.plain pl.st with ⟨_,X6⟩|no
   ·exact X6 Tc σ ρ H' F' s a cls x I r fl ec er
   ·exact absurd er (no x ρ)
  split at w1
  ·rename_i hl
   refine ug ri e1 jo hp hl ?_
   cases q:iU g gt fe ds (gJ X.N scope.names ρ)with
   |err x ρ'=>rw[q]at w1;exact w1
   |bad=>rw[q]at w1;exact w1
   |ok es=>
    rw[q]at w1
    intro H2 F2 vs e2 VH Xa rv
    refine w1 _ H2 F2 (e1.grow.trans e2.grow) ((ri.step (e1.trans e2)).setOwn i TY VH Xa (ri.ext.keep.free (e1.keep.free hp)) (.lst rv) (λj d' _ hj ej=> ?_) (ri.celNe (e1.trans e2).keep (e1.keep.free hp)))
    obtain⟨a,o,k1,k2,_⟩:=ri.own j d' hj
    rw[ej]at k1
    cases k1
    rw[e1.keep.free hp]at k2
    cases k2
  ·exact w1.elim⟩
end
end L2.Pu
namespace L2
open PySem PySem.Spec PyProof.Rows
section
variable {X:Cx} {Tc:List (KZ×LG)} {σ:St} {H:Hp} {s:KY}
def DM:V->List V->Hp->VK->Prop:=λx vs H Q=>∃d o kvs more,x= .ref d/\vs=[.ref o]/\H d=some (.dK kvs)/\H o=some (.dK more)/\d≠o/\kvs.length+more.length<=sizeLine/\Q .non (a_ H d (.dK (df kvs more)))
theorem yz:Jc X "dict.update" DM:=by
 intro Tc s σ H x vs v us Q I rx rv h
 obtain⟨d,o,kvs,more,rfl,rfl,h1,h2,ne,hz,q⟩:=h
 cases rx
 obtain⟨u,rfl,ru⟩:=rv.one
 cases ru
 obtain⟨z,hd,ws,TB,dd⟩:=oN I.hok h1
 obtain⟨z2,WI,a1Y,Yp,Wt⟩:=oN I.hok h2
 refine Qb Qm dd.typeIs PySem.F.entry_dict_update (PySem.F.args_dict_update_2 _ _) (meets_dict_update (aR X.prog X.w) d o ne WI) ⟨ws,a1Y,dd,Wt,by rw[<-TB.length,<-Yp.length];exact hz,λh' Wa _ hs=> ?_⟩
 have he:∃q,h'.get? d=some q:=let ⟨q,_,_,hq,_⟩:=Wa;⟨q,hq⟩
 exact⟨.non,_,oq (t':=s.toks) I (by rw[h1];exact MM) hs he (rX (LL (gW more kvs) hz) hd (KV.merge Yp TB) Wa),rfl,q⟩
end
end L2
namespace L2.Pu
open PySem PySem.Spec PyProof.Rows
variable {ly:List cY}
def KO:List D->Option D
 |[.int i]=>some (.int (if i<0 then -i else i))
 |_=>none
section
variable {X:Cx} {a b e:La} {f fk fv:af->R D} {pos:LF}
def yA (i:Nat) (f:af->R D):af->R aW:=λρ=>match ρ[i]? with
 |some (some (.own (.dic kds)))=>f ρ>>=λd=>match d with
  | .dic more=>if kds.length+more.length<lim then .ok (.nx (ρ.set i (some (.own (.dic (c_ kds more))))))else .bad
  |_=> .bad
 |_=> .bad
theorem AZ (i:Nat) {x:L0} {px Th Tf:LF} (h:PQ ly X e f) (hN:X.N[i]? =some x:=by rfl) (hv:t4 X.env.scope x:=by first|exact Mn rfl|exact L_ (Mn rfl)|exact L_ (L_ rfl)) (hd:(x==("__debug__":L0))=false:=by decide)
  (Ua:(x==("__classdict__":L0))=false:=by decide) (T_:ML (.Name x px) "update" X.env (Ls (.Name x px) X.env)=Ls (.Name x px) X.env:=by rfl)
  (Vc:((LM Tf (L6 [e] X.env)).all (λx=> !x.1)&&(NN Tf (MX [] X.env)).all (λx=>x.1.isSome)
   &&decide (([e]:List La).length+([]:List O6).length+(if ([]:List O6).isEmpty then 0 else 1)<30))=true:=by rfl)
  (U0:(Th.endLine==Tf.line)=true:=by rfl) (hs:L6 [e] X.env=(false,Ls e X.env)::L6 [] X.env:=by rfl) (U6:(LM Tf (L6 [] X.env)).any (·.1)=false:=by rfl)
  (UZ:Mi (.Call (.Attribute (.Name x px) "update" Th) [e] [] Tf) none pos.line X.env=pure false:=by rfl):d_ ly X (.Expr (.Call (.Attribute (.Name x px) "update" Th) [e] [] Tf) pos) (yA i f):=⟨λc=>
 PS.weak (rN (zJ Ou Qm PySem.F.type_dict_update yz (pv i hN hv hd Ua) (eN (h c) iI hs) T_ Vc U0 hs U6) UZ) λD σ H ⟨F,ρ,ri,w⟩=>by
  unfold yA at w
  split at w
  ·rename_i kds hi
   obtain⟨p,vs,h1,h2,h3,h4⟩:=ri.ownD hi
   refine⟨_,h1, .inr (.inr (.inl ⟨rfl, .inl ⟨vs,h2⟩⟩)),F,ρ,ri,(aB.bind.mp w).imp λd _ w1 v H1 F1 e1 r1=> ?_⟩
   cases d with
   |dic more=>
    obtain⟨q,us,rfl,g1,g2,g3⟩:=c9.dic e1.sub (.inl r1)
    dsimp only at w1
    split at w1
    ·rename_i hl
     have fq:F1 q≠none:=by
      obtain⟨q',a3t,e',a1Z,_⟩:=r1.inv
      cases e'
      rw[a1Z];simp
     have ne:p≠q:=λz=>by
      obtain⟨p',o',k1,k2,k3,k4,k5⟩:=(ri.step e1).own i _ hi
      rw[h1]at k1
      cases k1
      exact fq (z▸k3)
     refine⟨p,q,vs,us,rfl,rfl,e1.keep _ _ h2,g1,ne,LL (Nw (by rw[h3.length,g2.length];exact hl)) dO,?_⟩
     obtain⟨m1,m2⟩:=RepK.merge g2 (h3.mono e1.grow) h4
     exact w1 σ _ F1 e1.grow ((ri.step e1).change (o:= .dK vs) hi h1 (.dic m1 m2))
    ·exact w1.elim
   |_=>exact w1.elim
  ·exact w.elim⟩
def uh (i:Nat) (fk fv:af->R D):af->R aW:=λρ=>match ρ[i]? with
 |some (some (.own (.dic kds)))=>fk ρ>>=λk=>match bN k with
  |some Td=>(match aZ kds Td with
   |some (.int a)=>fv ρ>>=λv=>match v with
    | .int b=>if kds.length<lim then .ok (.nx (ρ.set i (some (.own (.dic (gY kds Td (.int (a+b))))))))else .bad
    |_=> .bad
   |_=> .bad)
  |none=> .bad
 |_=> .bad
theorem GI (i:Nat) {x:L0} {px Wg:LF} (hu:X.A.units+1<Nh) (hk:PQ ly X a fk) (h:PQ ly X e fv) (hN:X.N[i]? =some x:=by rfl) (hv:t4 X.env.scope x:=by first|exact Mn rfl|exact L_ (Mn rfl)|exact L_ (L_ rfl)) (hd:(x==("__debug__":L0))=false:=by decide)
  (Ua:(x==("__classdict__":L0))=false:=by decide)
  (ha:∀ov iv new,augStore a ov iv new=(do N9 [new,ov,iv] (QP ov iv new);SO [new,ov,iv] [];pure .next):=by intros;rfl):d_ ly X (.AugAssign (.Subscript (.Name x px) a Wg) .Add e pos) (uh i fk fv):=by
 refine⟨?_⟩
 intro c Tc s σ H D I q
 obtain⟨F,ρ,ri,w⟩:=q
 unfold uh at w
 split at w
 ·rename_i kds hi
  obtain⟨p,vs,g1,g2,g3,g4⟩:=ri.ownD hi
  refine CC hu (pv i hN hv hd Ua) (hk c) (h c) Fu ha Tc s σ H D I ⟨_,g1,F,ρ,ri,(aB.bind.mp w).imp λk _ w1 u H1 F1 e1 r1=> ?_⟩
  cases Us:bN k with
  |none=>rw[Us]at w1;exact w1.elim
  |some Td=>
   rw[Us]at w1
   cases dH (H:=H1) Us (.inl r1)
   dsimp only at w1
   rcases g3.get Td with ⟨z1,z2⟩|⟨v',d',z1,z2,z3⟩
   ·rw[z2]at w1;exact w1.elim
   ·rw[z2]at w1
    cases d' with
    |int n=>
     cases z3
     dsimp only at w1
     refine⟨p, .int n,rfl,by rw[<-z1];exact iL.k (k:=Td) (e1.keep _ _ g2),F1,ρ,ri.step e1,(aB.bind.mp w1).imp λd _ w2 v H2 F2 e2 r2=> ?_⟩
     cases d with
     |int m=>
      cases r2
      dsimp only at w2
      split at w2
      ·rename_i hl
       have Vn:=e1.trans e2
       refine⟨n,m,rfl,rfl,_,rW.k (k:=Td) (Vn.keep _ _ g2) (LJ (by rw[g3.length];exact hl) dO),?_⟩
       exact w2 σ _ F2 Vn.grow ((ri.step Vn).change (o:= .dK vs) hi g1 (.dic ((g3.mono Vn.grow).put Td (.int _)) (vo _ g4)))
      ·exact w2.elim
     |_=>exact w2.elim
    |_=>exact w1.elim
 ·exact w.elim
end
end L2.Pu
namespace L2
open PySem PySem.Spec PyProof.Rows
section
variable {X:Cx} {Tc:List (KZ×LG)} {σ:St} {H:Hp} {s:KY} {h':Lj}
theorem aw.laidAll {H':Hp} {t':Nat} (I:aw X Tc σ H s) (k:∀b u,s.heap.get? b=some u->h'.get? b=some u) (hS:∀b u,H b=some u->H' b=some u) (hN:∀b u,s.heap.get? b=some u->H' b=H b)
  (new:∀b u,H' b=some u->H b=none->bu X.prog X.w H' h' b u):aw X Tc σ H' {s with heap:=h',toks:=t'}:=by
 refine I.un ⟨λb u q _ _ _=>k b u q,λb u q _ _ _=>⟨u.slots,k b u q⟩,λb u q n _=>by rw[hN b u q];exact n,λb u q _=>⟨u,k b u q⟩,λb xs q=>hS b _ q,λb u xs q=>hS b _ q,λb ps q=>⟨#[],by rw[hS b _ q];simp⟩⟩ λb u e=> ?_
 cases hb:H b with
 |none=>exact new b u e hb
 |some v=>
  have:=hS b v hb
  rw[e]at this
  cases this
  exact(I.hok b u hb).stay (λc v _ q=>k c v q) (λc q=>hS c _ q) λc xs q=>hS c _ q
structure EI (H1 H2:Hp) (kvs:List (aL×V)) (as:List KZ) (l:KZ) (q:List Nat):Prop where
 len:as.length=kvs.length
 sub:∀b u,H1 b=some u->H2 b=some u
 new:∀b,H2 b≠none->H1 b≠none\/b=l\/b∈as
 tup:∀(j:Nat) (a:KZ),as[j]? =some a->H1 a=none/\∃k v,kvs[j]? =some (Lf k,v)/\H2 a=some (.tup [.int k,v])
 no:H1 l=none
 lst:H2 l=some (.lst (q.map λi=>(as.map V.ref).getD i .non))
def DN (te:TE):TE:=λσ H Q=>te σ H λx H1=>∃d kvs ks,x= .ref d/\H1 d=some (.dK kvs)/\kvs.map (·.1)=ks.map Lf/\ks.Nodup/\ks.length<64/\
 ∀as l q H2,jK ks q->EI H1 H2 kvs as l q->Q (.ref l) H2
theorem vO {kvs:List (aL×V)} {vs:List (aL×KW)} {ks:List Int} (TB:KV kvs vs) (hk:kvs.map (·.1)=ks.map Lf) {j:Nat} {k:aL} {x:KW} (e:vs[j]? =some (k,x)):∃v,kvs[j]? =some (k,v)/\aT v x/\k=Lf (ks.getD j 0):=by
 have hj:j<vs.length:=(Lx.mp e).1
 have hl:=TB.length
 have YM:kvs.length=ks.length:=by have:=congrArg Nt hk;simpa using this
 have Td:∀{kvs:List (aL×V)} {vs:List (aL×KW)},Paired (λ(p:aL×V) (q:aL×KW)=>p.1=q.1/\aT p.2 q.2) kvs vs->∀(j:Nat) (k:aL) (x:KW),vs[j]? =some (k,x)->∃v,kvs[j]? =some (k,v)/\aT v x:=by
  intro kvs vs r
  induction r with
  |nil=>intro j k x e;simp at e
  | @cons p r _ _ h t ih=>
   intro j k x e
   cases j with
   |zero=>
    have e':r=(k,x):=by simpa using e
    subst e'
    obtain⟨k1,v1⟩:=p
    obtain⟨h1,h2⟩:=h
    simp only at h1 h2
    subst h1
    exact⟨v1,rfl,h2⟩
   |succ j=>exact ih j k x (by simpa using e)
 obtain⟨v,e1,e2⟩:=Td TB j k x e
 refine⟨v,e1,e2,?_⟩
 have:(kvs.map (·.1))[j]? =some k:=by rw[LA,e1];rfl
 rw[hk,LA]at this
 have a0L:j<ks.length:=by omega
 rw[M_ a0L]at this
 simp at this
 rw[<-this]
 simp[a0L]
theorem yB {as:List KZ} {os:List HO} (nd:as.Nodup) (hl:as.length=os.length) {j:Nat} {a:KZ} {o:HO} (ha:as[j]? =some a) (ho:os[j]? =some o):(as.zip os).lookup a=some o:=by
 induction as generalizing os j with
 |nil=>simp at ha
 |cons b as ih=>
  cases os with
  |nil=>simp at hl
  |cons p os=>
   rw[NM,Mm]
   cases j with
   |zero=>simp at ha ho;subst ha ho;simp
   |succ j=>
    have a0M:as[j]? =some a:=by simpa using ha
    have VF:os[j]? =some o:=by simpa using ho
    have TM:(a==b)=false:=by
     rw[beq_eq_false_iff_ne]
     intro z
     subst z
     exact(LN.mp nd).1 (Mj a0M)
    rw[TM]
    exact ih (LN.mp nd).2 (by simpa using hl) a0M VF
theorem qp {as:List KZ} {os:List HO} {a:KZ} {o:HO} (h:(as.zip os).lookup a=some o):∃j:Nat,as[j]? =some a/\os[j]? =some o:=by
 induction as generalizing os with
 |nil=>simp at h
 |cons b as ih=>
  cases os with
  |nil=>simp at h
  |cons p os=>
   rw[NM,Mm]at h
   cases e:a==b with
   |true=>
    rw[e]at h
    have:=eq_of_beq e
    subst this
    cases h
    exact⟨0,by simp,by simp⟩
   |false=>
    rw[e]at h
    obtain⟨j,h1,h2⟩:=ih h
    exact⟨j+1,by simpa using h1,by simpa using h2⟩
set_option maxHeartbeats 8000000 in
theorem ui {d D:KZ} {kvs:List (aL×V)} {ks:List Int} {Q:VK} (hc:X.calm=true) (I:aw X Tc σ H s) (hd:H d=some (.dK kvs)) (hk:kvs.map (·.1)=ks.map Lf) (nd:ks.Nodup) (Y7:ks.length<64) (hv:s.heap.IsItemsView D d)
  (q:∀as l q H2,jK ks q->EI H H2 kvs as l q->Q (.ref l) H2):wpAny (Lh X.prog X.w) X.A (call (.builtin "sorted") [.ref D]) (EP X Tc σ Q) X.xe s:=by
 obtain⟨z,a0N,vs,TB,dd⟩:=oN I.hok hd
 obtain⟨ep,a1_⟩:=dd.dictAt
 have YM:kvs.length=ks.length:=by have:=congrArg Nt hk;simpa using this
 have a3u:=TB.length
 refine Od Si RT RU (RV _) ?_
 unfold OR.«sorted»
 refine K_ (m:=SI "sorted" 1 1 _) (Lc ?_)
 refine K_ (PySem.W.kdx_collect (A:=X.A.in1) (knd:=aR X.prog X.w) (kvs:=vs) (ep:=ep) (by simp[I.ok.hd hc]) hv a1_ (by rw[Md];omega) λh' tk as Us Ur hG=> ?_)
 refine K_ (O2 ?_ (by rw[L4,Md];omega))
 have Vr:(h'.push (seqObj "list" (as.map Lr).toArray 0)).get? h'.objs.size=some (seqObj "list" (as.map Lr).toArray 0):=Lq _ rfl
 have a20:∀(i:Nat) v,(as.map Lr)[i]? =some v->lm (h'.push (seqObj "list" (as.map Lr).toArray 0)) v (ks.getD i 0):=λi v e=>by
  rw[LA]at e
  cases ea:as[i]? with
  |none=>rw[ea]at e;cases e
  |some a=>
   rw[ea]at e
   cases e
   obtain⟨Td,k,x,e1,e2,e3⟩:=hG.pairs i a ea
   obtain⟨_,_,_,rfl⟩:=vO TB hk e1
   rcases bn (k:=Lf (ks.getD i 0)) (v:=Td) e2 with ⟨n,t,e4,rfl⟩|⟨n,t,e4,_⟩
   ·cases e4
    exact⟨a,_,t,[x],0,rfl,L5 _ e3,rfl,rfl⟩
   ·cases e4
 refine K_ (LO (NZ QX ⟨_,Vr,rfl⟩ QE (jL Vr (by rw[L4];omega) a20 nd (by rw[L4];omega) λp hp=>⟨_,rfl,?_⟩) (QY _)))
 refine Lc ⟨_,rfl,?_⟩
 obtain⟨e,he⟩:=Rq (out:=Nd (p.map λi=>(as.map Lr).getD i M5)) Vr
 have Xv:∀b o,h'.get? b=some o->(Rf (h'.push (seqObj "list" (as.map Lr).toArray 0)) h'.objs.size (as.map Lr) (Nd (p.map λi=>(as.map Lr).getD i M5))).get? b=some o:=λb o eb=>by
  have TK:b<h'.objs.size:=Lg eb
  rw[QZ (Lu TK) (by rw[Rg];exact MN TK)]
  exact L5 _ eb
 have a21:as.Nodup:=hG.rise.imp λh=>Lu h
 have fresh:∀b,s.heap.objs.size<=b->s.heap.get? b=none:=λb hb=>NW hb
 have a0O:∀a∈as,s.heap.get? a=none:=λa ha=>fresh a (Nw (hG.above a ha))
 have a0P:s.heap.get? h'.objs.size=none:=by
  cases e:s.heap.get? h'.objs.size with
  |none=>rfl
  |some o=>exact absurd (Lg (Us _ _ e)) (LI _)
 have a22:h'.objs.size∉as:=λz=>LI _ (hG.there z)
 let os:List HO:=kvs.map λkv=>HO.tup [kV kv.1,kv.2]
 have Wh:as.length=os.length:=by show _=(kvs.map _).length;rw[L4];omega
 let H2:Hp:=λb=>if b=h'.objs.size then some (.lst (p.map λi=>(as.map V.ref).getD i .non))else match (as.zip os).lookup b with
  |some o=>some o
  |none=>H b
 have a0Q:H2 h'.objs.size=some (.lst (p.map λi=>(as.map V.ref).getD i .non)):=if_pos rfl
 have a0R:∀(j:Nat) (a:KZ),as[j]? =some a->∃k v,kvs[j]? =some (Lf k,v)/\H2 a=some (.tup [.int k,v]):=λj a ea=>by
  obtain⟨Td,k,x,e1,e2,e3⟩:=hG.pairs j a ea
  obtain⟨v,e4,e5,rfl⟩:=vO TB hk e1
  refine⟨_,v,e4,?_⟩
  have ho:os[j]? =some (HO.tup [.int (ks.getD j 0),v]):=by
   show (kvs.map _)[j]? =_
   rw[LA,e4];rfl
  show (if a=h'.objs.size then _ else _)=_
  have na:a≠h'.objs.size:=λz=>by
   have hm:=Mj ea
   rw[z]at hm
   exact a22 hm
  rw[if_neg na,yB a21 Wh ea ho]
 have ZT:∀b,b≠h'.objs.size->b∉as->H2 b=H b:=λb n1 n2=>by
  show (if b=h'.objs.size then _ else _)=_
  rw[if_neg n1]
  cases e:(as.zip os).lookup b with
  |none=>rfl
  |some o=>
   obtain⟨j,h1,_⟩:=qp e
   exact absurd (Mj h1) n2
 have Uc:∀b u,s.heap.get? b=some u->H2 b=H b:=λb u eb=>ZT b (λz=>by rw[z,a0P]at eb;cases eb) (λz=>by rw[a0O b z]at eb;cases eb)
 have hS:∀b u,H b=some u->H2 b=some u:=λb u eb=>by
  obtain⟨ob,e⟩:=(I.hok b u eb).there
  rw[Uc b ob e];exact eb
 have TC:∀i∈p,i<as.length:=λi hi=>by
  have:=M0.mp (hp.1.mem_iff.mp hi)
  omega
 have a0S:p.length=ks.length:=by have:=hp.1.length_eq;rw[N3]at this;exact this
 have ZU:∀as:List KZ,aK (as.map V.ref) (as.map Lr):=λas=>by
  induction as with
  |nil=>exact .nil
  |cons a as ih=>exact .cons rfl ih
 refine⟨.ref h'.objs.size,H2,I.laidAll (λb u eb=>Xv b u (Us b u eb)) hS Uc (λb u eb nb=> ?_),rfl,q as h'.objs.size p H2 hp ⟨by omega,hS,λb hb=> ?_,λj a ea=>⟨I.hok.none_of (a0O a (Mj ea)),a0R j a ea⟩,I.hok.none_of a0P,a0Q⟩⟩
 ·by_cases z:b=h'.objs.size
  ·subst z
   rw[a0Q]at eb
   cases eb
   refine⟨?_,p.map λi=>(as.map Lr).getD i M5,e,mR (ZU as) p λi hi=>by rw[L4];exact TC i hi,by simpa[seqObj]using he⟩
   rw[L4,Md];omega
  ·by_cases m:b∈as
   ·obtain⟨j,hj⟩:=R1.mp m
    obtain⟨k,v,e1,e2⟩:=a0R j b hj
    rw[e2]at eb
    cases eb
    obtain⟨Td,k',x,f1,f2,f3⟩:=hG.pairs j b hj
    obtain⟨v',g1,g2,g3⟩:=vO TB hk f1
    rw[e1]at g1
    cases g1
    rcases bn (k:=Lf k) (v:=Td) f2 with ⟨n,t,e4,rfl⟩|⟨n,t,e4,_⟩
    ·cases e4
     exact⟨(by decide:2<=sizeLine),[N4 k t,x], .cons ⟨t,rfl⟩ (.cons g2 .nil),_,Xv b _ f3,rfl,0,rfl,rfl⟩
    ·cases e4
   ·rw[ZT b z m]at eb
    rw[eb]at nb
    cases nb
 ·by_cases z:b=h'.objs.size
  ·exact .inr (.inl z)
  ·by_cases m:b∈as
   ·exact .inr (.inr m)
   ·rw[ZT b z m]at hb
    exact .inl hb
variable {o:La} {to:TE} {p1 Th Tf pos:LF}
theorem yC (hc:X.calm=true) (ho:PE X o to) (WY:X.mg "sorted"=none) (WZ:Gl X "sorted") (T_:ML o "items" X.env (Ls o X.env)=Ls o X.env) (U0:(Th.endLine==Tf.line)=true)
  (he:L6 [.Call (.Attribute o "items" Th) [] [] Tf] X.env=(false,Ls (.Call (.Attribute o "items" Th) [] [] Tf) X.env)::L6 [] X.env) (TC:(LM pos (L6 [] X.env)).any (·.1)=false) (hb:LK "sorted"=some (.builtin "sorted")):
  PE X (.Call (.Name "sorted" p1) [.Call (.Attribute o "items" Th) [] [] Tf] [] pos) (DN to):=by
 intro Tc s σ H Q I h
 refine Mv (gT I WZ WY hb ?_ (by decide) (by decide))
 refine NH ?_ he TC
 rw[he]
 show wpAny _ _ (QN ((false,Ls (.Call (.Attribute o "items" Th) [] [] Tf) X.env)::LM pos (L6 [] X.env))) _ _ s
 refine Nc ?_
 refine wpAny_Call_method0_late T_ U0 (bq (ho Tc s σ H _ I h) λv s1 z_=> ?_)
 obtain⟨x,H1,I1,r1,d,kvs,ks,rfl,hd,hk,nd,Y7,q⟩:=z_
 have ty:JM X.K "dict" (.ref d) H1:= .inr (.inr (.inl ⟨rfl, .inl ⟨kvs,hd⟩⟩))
 obtain⟨t1,t2⟩:=zI I1 r1 ty
 refine⟨"dict","dict.items",Ou,Qv,PySem.F.type_dict_items,t1,t2,OF rfl (PySem.evalArgs_none ?_)⟩
 cases r1
 obtain⟨z,a0N,vs,TB,dd⟩:=oN I1.hok hd
 refine Qb Qv dd.typeIs PySem.F.entry_dict_items (PySem.F.args_dict_items_1 _) (meets_dict_items (aR X.prog X.w) d a0N) ⟨⟨vs,dd⟩,?_⟩
 refine NQ ?_
 exact ui hc (I1.kept λb o e=>L5 _ e) hd hk nd Y7 ⟨_,Lq _ rfl,rfl,rfl⟩ q
end
end L2
namespace L2.Pu
open PySem PySem.Spec PyProof.Rows
variable {ly:List cY}
def eF:List (aL×D)->Option (List Int×List D)
 |[]=>some ([],[])
 |(.inl k,d)::r=>(eF r).map λp=>(k::p.1, .tup [.int k,d]::p.2)
 |_=>none
theorem jX {kd:aL×D} {r:List (aL×D)} {pr:List Int×List D} (h:eF (kd::r)=some pr):∃k d p,kd=(Lf k,d)/\eF r=some p/\pr=(k::p.1, .tup [.int k,d]::p.2):=by
 obtain⟨k,d⟩:=kd
 cases k with
 |inr x=>cases h
 |inl k=>
  cases e:eF r with
  |none=>rw[eF,e]at h;cases h
  |some p=>
   rw[eF,e]at h
   cases h
   exact⟨k,d,p,rfl,rfl,rfl⟩
section
variable {K:KU} {F:Hp}
theorem vP:∀{kds:List (aL×D)} {pr:List Int×List D},eF kds=some pr->pr.2.map dB=pr.1:=by
 intro kds
 induction kds with
 |nil=>intro pr h;cases h;rfl
 |cons kd r ih=>
  intro pr h
  obtain⟨k,d,p,rfl,e,rfl⟩:=jX h
  show dB (.tup [.int k,d])::p.2.map dB=k::p.1
  rw[ih e]
  rfl
theorem vQ:∀{kds:List (aL×D)} {pr:List Int×List D} {vs:List (aL×V)},eF kds=some pr->RepK K F vs kds->vs.map (·.1)=pr.1.map Lf:=by
 intro kds
 induction kds with
 |nil=>intro pr vs h r;cases h;rw[r.nilI];rfl
 |cons kd r ih=>
  intro pr vs h rk
  obtain⟨k,d,p,rfl,e,rfl⟩:=jX h
  obtain⟨v,us,rfl,_,t⟩:=rk.consI
  rw[L3,L3,ih e t]
theorem vR {F2:Hp} (g:aO F F2):∀{kds:List (aL×D)} {pr:List Int×List D} {vs:List (aL×V)} {as:List KZ},eF kds=some pr->RepK K F vs kds->as.length=vs.length->
  (∀(j:Nat) (a:KZ),as[j]? =some a->∃k v,vs[j]? =some (Lf k,v)/\F2 a=some (.tup [.int k,v]))->Reps K F2 (as.map V.ref) pr.2:=by
 intro kds
 induction kds with
 |nil=>
  intro pr vs as h r hl _
  cases h
  rw[r.nilI]at hl
  rw[Ov.mp hl]
  exact .nil
 |cons kd r ih=>
  intro pr vs as h rk hl ha
  obtain⟨k,d,p,rfl,e,rfl⟩:=jX h
  obtain⟨v,us,rfl,rd,t⟩:=rk.consI
  cases as with
  |nil=>cases hl
  |cons a as=>
   obtain⟨k',v',e1,e2⟩:=ha 0 a rfl
   simp at e1
   obtain⟨rfl,rfl⟩:=e1
   exact .cons (.tup e2 (.cons (.int _) (.cons (rd.mono g) .nil))) (ih e t (by simpa using hl) λj b hb=>by
    obtain⟨k2,v2,z1,z2⟩:=ha (j+1) b (by simpa using hb)
    exact⟨k2,v2,by simpa using z1,z2⟩)
end
section
variable {X:Cx} {o:La} {fo:af->R D} {p1 Th Tf pos:LF}
def oA (f:af->R D):af->R D:=λρ=>f ρ>>=λd=>match d with
 | .dic kds=>(match eF kds with
  |some p=>if p.1.Nodup/\p.1.length<64 then .ok (.lst (jw p.2))else .bad
  |none=> .bad)
 |_=> .bad
theorem A_ (hc:X.calm=true) (WY:X.mg "sorted"=none) (ho:PB ly X o fo) (WZ:Gl X "sorted":=by rfl) (T_:ML o "items" X.env (Ls o X.env)=Ls o X.env:=by rfl) (U0:(Th.endLine==Tf.line)=true:=by rfl)
  (he:L6 [.Call (.Attribute o "items" Th) [] [] Tf] X.env=(false,Ls (.Call (.Attribute o "items" Th) [] [] Tf) X.env)::L6 [] X.env:=by rfl) (TC:(LM pos (L6 [] X.env)).any (·.1)=false:=by rfl):
  PQ ly X (.Call (.Name "sorted" p1) [.Call (.Attribute o "items" Th) [] [] Tf] [] pos) (oA fo):=⟨λc=>
 PE.weak (yC hc (ho c) WY WZ T_ U0 he TC L2.Pu.gK) λσ H Q ⟨F,ρ,ri,w⟩=>⟨F,ρ,ri,(aB.bind.mp w).imp λd _ w1 v H1 F1 e1 r1=>by
  cases d with
  |dic kds=>
   obtain⟨p,vs,rfl,h1,h2,h3⟩:=c9.dic e1.sub r1
   cases q:eF kds with
   |none=>simp only[q]at w1;exact w1.elim
   |some pr=>
    simp only[q]at w1
    split at w1
    ·rename_i hk
     refine⟨p,vs,pr.1,rfl,h1,vQ q h2,hk.1,hk.2,λas l z H2 pl it=> ?_⟩
     have nA:∀a∈as,H1 a=none:=λa ha=>by
      obtain⟨j,hj⟩:=R1.mp ha
      exact(it.tup j a hj).1
     have a0T:∀b,b=l\/b∈as->H1 b=none:=λb hb=>hb.elim (λy=>by rw[y];exact it.no) (nA b)
     have Xv:∀b u,F1 b=some u->¬(b=l\/b∈as):=λb u eb y=>by
      have:=e1.sub b u eb
      rw[a0T b y]at this
      cases this
     have gr:aO F1 (λb=>if b=l\/b∈as then H2 b else F1 b):=λb u eb=>by
      show (if b=l\/b∈as then H2 b else F1 b)=some u
      rw[if_neg (Xv b u eb)];exact eb
     have e2:bf H1 F1 H2 (λb=>if b=l\/b∈as then H2 b else F1 b):=⟨λb u eb=>by
       by_cases y:b=l\/b∈as
       ·simp only[if_pos y]at eb;exact eb
       ·simp only[if_neg y]at eb;exact it.sub b u (e1.sub b u eb),it.sub,gr,λb hb=>by
       by_cases y:b=l\/b∈as
       ·exact .inr (a0T b y)
       ·simp only[if_neg y]at hb;exact .inl hb⟩
     have rp:Reps X.K (λb=>if b=l\/b∈as then H2 b else F1 b) (as.map V.ref) pr.2:=vR gr q h2 it.len λj a ha=>by
      obtain⟨_,k,v,z1,z2⟩:=it.tup j a ha
      exact⟨k,v,z1,by show (if a=l\/a∈as then H2 a else F1 a)=_;rw[if_pos (.inr (Mj ha))];exact z2⟩
     have Wb:jK (pr.2.map dB) z:=by rw[vP q];exact pl
     refine w1 _ H2 _ (e1.trans e2) (.lst (vs:=z.map λi=>(as.map V.ref).getD i .non) (by show (if l=l\/l∈as then H2 l else F1 l)=_;rw[if_pos (.inl rfl)];exact it.lst) ?_)
     rw[<-nT Wb]
     refine mZ rp z λi hi=> ?_
     have:=M0.mp (Wb.1.mem_iff.mp hi)
     simpa using this
    ·exact w1.elim
  |_=>exact w1.elim⟩⟩
end
end L2.Pu
namespace L2.Pu
open PySem PySem.Spec PyProof.Rows
variable {ly:List cY}
section
variable {X:Cx} {e:La} {f:af->R D} {pos:LF}
end
end L2.Pu
namespace L2.Pu
open PySem PySem.Spec PyProof.Rows
variable {ly:List cY}
section
variable {X:Cx} {a b e:La} {rest:List La} {f:af->R D} {fx fy:af->R (D×af)} {gx gy:af->R (Bool×af)} {g:af->R Bool} {pos:LF}
def Kr (ly:List cY) (X:Cx) (e:La) (gx:af->R (Bool×af)):Prop:=∀c:eA ly X,PW X e (K4 X.K c.1 gx)
theorem Kr.t (h:Kr ly X e gx):K5 ly X e gx:=⟨λc=>(h c).pt⟩
end
end L2.Pu
namespace L2.Pu
open PySem PySem.Spec PyProof.Rows
section
variable {K:KU} {mg:L0->Option KW} {h:Lj}
def UF (K:KU) (x:L0) (st:Ly):Prop:=∃(f:KZ) (oc:KW) (od:Option KZ) (kV TF pm:KW) (an:Option KZ) (Tg ct:KW) (Uq:Array (Option KW)),Lz K Lp x=some (some (.ref f))/\K.lookup f=some ⟨oc,od, .func (M3 x x (cm st) (bi st) (aA st) .none kV TF pm an Tg ct),Uq⟩/\Nv K Tg x=true/\Mg K (.ref f)=true
def yD (K:KU) (C:KZ) (m qual:L0) (st:Ly):Prop:=∃(f:KZ) (oc:KW) (od:Option KZ) (kV TF pm:KW) (an:Option KZ) (Tg ct:KW) (Uq:Array (Option KW)),LB K (.ref C) m=some (some (.ref f))/\K.lookup f=some ⟨oc,od, .func (M3 m qual (cm st) (bi st) (aA st) .none kV TF pm an Tg ct),Uq⟩/\Nv K Tg qual=true/\Mg K (.ref f)=true/\OU K (.ref f)=true
def BA (x qual:L0) (st:Ly) (ps:List L0):Prop:=∀(kV TF pm:KW) (an:Option KZ) (Tg ct:KW) (us:List KW),us.length=ps.length->Na (M3 x qual (cm st) (bi st) (aA st) .none kV TF pm an Tg ct) ⟨us,[]⟩=pure (ps.zip us)
theorem UF.at {x:L0} {st:Ly} {ps:List L0} (u:UF K x st) (X:K.In h) (G:h.Ns Lp mg) (hb:BA x x st ps):bc K mg x st ps:=by
 obtain⟨f,oc,od,kV,TF,pm,an,Tg,ct,Uq,h1,h2,h3,h4⟩:=u
 exact⟨_,_,lj (st:=st) h2 h3 h4,OH X G h1,(lj (st:=st) h2 h3 h4).binds hb⟩
theorem yD.at {C:KZ} {cls m qual:L0} {st:Ly} {ps:List L0} (u:yD K C m qual st) (c:m7 K cls C) (hb:BA m qual st ps):ls K cls m qual st ps:=by
 obtain⟨f,oc,od,kV,TF,pm,an,Tg,ct,Uq,h1,h2,h3,h4,h5⟩:=u
 exact⟨_,_,_,lj (st:=st) h2 h3 h4,c,⟨h1,h5,h4⟩,(lj (st:=st) h2 h3 h4).binds hb⟩
theorem yD.mk {C:KZ} {cls qual:L0} {st:Ly} {ps fs:List L0} (u:yD K C "__init__" qual st) (c:m7 K cls C) (hm:mg cls=some (.ref C)) (p5:OV K C=true) (p6:Mg K (.ref C)=true) (no:∀x∈fs,eh K C x) (hb:BA "__init__" qual st ps):vK K mg cls qual st ps fs:=by
 obtain⟨f,oc,od,kV,TF,pm,an,Tg,ct,Uq,h1,h2,h3,h4,h5⟩:=u
 exact⟨_,_,_,lj (st:=st) h2 h3 h4,c,hm,⟨p5,h1,h5,p6⟩,(lj (st:=st) h2 h3 h4).binds hb,no⟩
def GJ (K:KU) (C:KZ):Prop:=Nl K C CZ "ValueError.__new__"=true/\LB K (.ref C) "__getattribute__"=some (some (.builtin "BaseException.__getattribute__"))/\LB K (.ref C) "__getattr__"=some none/\LB K (.ref C) "__class__"=some (some (.builtin "object.__class__"))/\
 N5 K C (.type "object")=some true/\N5 K C (.type "BaseException")=some true/\N5 K C (.ref C)=some true
def GK (K:KU):List KZ->Prop
 |[]=>True
 |C::r=>GJ K C/\GK K r
def GL (K:KU):List L0->List KZ->Prop
 |[],[]=>True
 |x::xs,C::Cs=>Lz K Lp x=some (some (.ref C))/\GL K xs Cs
 |_,_=>False
def K8 (K:KU):Prop:=Oz K (.builtin "object.__class__") "__get__"=some (some (.builtin "getset_descriptor.__get__"))/\OW K (.builtin "object.__class__")=some true
theorem GJ.ok {C:KZ} (e:GJ K C) (s:K8 K):C_ K C:=by
 obtain⟨e1,e2,e3,e4,e5,e6,e7⟩:=e
 exact DH e1 e2 e3 e4 e5 e6 (yu e1 e7) s.1 s.2
theorem mh (s:K8 K) (X:K.In h) (G:h.Ns Lp mg):∀{xs:List L0} {Cs:List KZ},GL K xs Cs->GK K Cs->∀x∈xs,l6 K mg x
 |[],[],n,e,x,hx=>by cases hx
 |[],_::_,n,e,x,hx=>n.elim
 |_::_,[],n,e,x,hx=>n.elim
 |y::xs,C::Cs,n,e,x,hx=>by
  rcases Le.mp hx with rfl|hx
  ·exact⟨C,n.1,OH X G n.1,e.1.ok s⟩
  ·exact mh s X G n.2 e.2 x hx
end
section
variable {x qual:L0} {st:Ly}
theorem b0 (h:∀kV TF pm an Tg ct,Na (M3 x qual (cm st) (bi st) (aA st) .none kV TF pm an Tg ct) ⟨[],[]⟩=pure []:=by intros;rfl):BA x qual st []:=λ_ _ _ _ _ _=>Kl (h _ _ _ _ _ _)
theorem b1 {p:L0} (h:∀kV TF pm an Tg ct a,Na (M3 x qual (cm st) (bi st) (aA st) .none kV TF pm an Tg ct) ⟨[a],[]⟩=pure [(p,a)]:=by intros;rfl):BA x qual st [p]:=λ_ _ _ _ _ _=>Km (P:=λus=>Na _ ⟨us,[]⟩=pure (Rl _ us)) (h _ _ _ _ _ _)
theorem b2 {p q:L0} (h:∀kV TF pm an Tg ct a b,Na (M3 x qual (cm st) (bi st) (aA st) .none kV TF pm an Tg ct) ⟨[a,b],[]⟩=pure [(p,a),(q,b)]:=by intros;rfl):BA x qual st [p,q]:=λ_ _ _ _ _ _=>Kn (P:=λus=>Na _ ⟨us,[]⟩=pure (Rl _ us)) (h _ _ _ _ _ _)
theorem b3 {p q r:L0} (h:∀kV TF pm an Tg ct a b c,Na (M3 x qual (cm st) (bi st) (aA st) .none kV TF pm an Tg ct) ⟨[a,b,c],[]⟩=pure [(p,a),(q,b),(r,c)]:=by intros;rfl):BA x qual st [p,q,r]:=λ_ _ _ _ _ _=>Ko (P:=λus=>Na _ ⟨us,[]⟩=pure (Rl _ us)) (h _ _ _ _ _ _)
theorem b4 {p q r t:L0} (h:∀kV TF pm an Tg ct a b c d,Na (M3 x qual (cm st) (bi st) (aA st) .none kV TF pm an Tg ct) ⟨[a,b,c,d],[]⟩=pure [(p,a),(q,b),(r,c),(t,d)]:=by intros;rfl):BA x qual st [p,q,r,t]:=λ_ _ _ _ _ _=>Kq (P:=λus=>Na _ ⟨us,[]⟩=pure (Rl _ us)) (h _ _ _ _ _ _)
theorem b5 {p q r t u:L0} (h:∀kV TF pm an Tg ct a b c d e,Na (M3 x qual (cm st) (bi st) (aA st) .none kV TF pm an Tg ct) ⟨[a,b,c,d,e],[]⟩=pure [(p,a),(q,b),(r,c),(t,d),(u,e)]:=by intros;rfl):BA x qual st [p,q,r,t,u]:=λ_ _ _ _ _ _=>KJ (P:=λus=>Na _ ⟨us,[]⟩=pure (Rl _ us)) (h _ _ _ _ _ _)
end
end L2.Pu
namespace L2.Pu
open PySem PySem.Spec PyProof.Rows
variable {ly:List cY}
section
variable {X:Cx} {a b e:La} {es:List La} {st:Ly} {rest:List Ly} {f:af->R D} {fs:af->R (List D)} {g:af->R aW} {gn:af->R D} {pos p:LF} {x:L0}
end
section
variable {P:Lb} {w:Ll} {K:KU} {mg:L0->Option KW} {base:Lj}
end
end L2.Pu
namespace L2
open PySem PySem.Spec PyProof.Rows
section
variable {X:Cx}
end
end L2
namespace L2.Pu
open PySem PySem.Spec PyProof.Rows
end L2.Pu
namespace L2
open PySem PySem.Spec PyProof.Rows L2.Pu
section
variable {X:Cx} {o e:La} {es:List La} {to:TE} {t:TA} {Th Tf:LF}
end
end L2
namespace L2.Pu
open PySem PySem.Spec PyProof.Rows
variable {ly:List cY} {X:Cx} {a o:La} {fo fk:af->R D} {Th Tf:LF}
end L2.Pu
namespace L2.Pu
open PySem PySem.Spec PyProof.Rows
section
variable {K:KU} {f:KZ} {oc:KW} {od:Option KZ} {kV TF pm:KW} {an:Option KZ} {Tg ct:KW} {Uq:Array (Option KW)} {x qual:L0} {st:Ly} {C:KZ}
theorem UF.of (h1:Lz K Lp x=some (some (.ref f))) (h2:K.lookup f=some ⟨oc,od, .func (M3 x x (cm st) (bi st) (aA st) .none kV TF pm an Tg ct),Uq⟩) (h3:Nv K Tg x=true) (h4:Mg K (.ref f)=true):UF K x st:=
 ⟨f,oc,od,kV,TF,pm,an,Tg,ct,Uq,h1,h2,h3,h4⟩
theorem yD.of (h1:LB K (.ref C) x=some (some (.ref f))) (h2:K.lookup f=some ⟨oc,od, .func (M3 x qual (cm st) (bi st) (aA st) .none kV TF pm an Tg ct),Uq⟩) (h3:Nv K Tg qual=true) (h4:Mg K (.ref f)=true) (h5:OU K (.ref f)=true):yD K C x qual st:=
 ⟨f,oc,od,kV,TF,pm,an,Tg,ct,Uq,h1,h2,h3,h4,h5⟩
end
end L2.Pu
namespace L2
open PySem PySem.Spec PyProof.Rows
section
variable {X:Cx}
end
end L2
namespace L2.Pu
open PySem PySem.Spec PyProof.Rows
section
variable {K:KU}
end
end L2.Pu
namespace L2
open PySem PySem.Spec PyProof.Rows
section
variable {X:Cx}
end
end L2
namespace L2.Pu
open PySem PySem.Spec PyProof.Rows
variable {ly:List cY}
section
variable {X:Cx} {a b e:La} {rest es:List La} {f:af->R D} {fx fy:af->R (D×af)} {pos p U4:LF} {x:L0}
end
end L2.Pu
namespace L2.Pu
open PySem PySem.Spec PyProof.Rows
abbrev g_ (N:List L0) (n:Nat) (st:Ly):Prop:=bd N (N.take n) (aA st)
theorem ce {p q:Prop} (hp:p) (h:p->q):q:=h hp
theorem yE {P:Lb} {w:Ll} {K:KU} {mg:L0->Option KW} {base:Lj} {x:L0} {st:Ly} {N ps:List L0} {n:Nat} (_:bd N ps (aA st)) (A:bc K mg x st ps) (hn:ps.length=n):b_ P w K mg base 0 x n (λ_=> .bad):=Aw A hn
section
variable {ly:List cY} {X:Cx} {a b:La} {fx:af->R (D×af)} {fb:af->R D} {pos:LF}
end
end L2.Pu
namespace L2
open PySem PySem.Spec PyProof.Rows
section
variable {X:Cx} {Tc:List (KZ×LG)} {σ:St} {H:Hp} {s:KY}
end
end L2
namespace L2.Pu
open PySem PySem.Spec PyProof.Rows
variable {ly:List cY}
def Jm (x y:D):Option Bool:=if jT x=true/\jT y=true then some (Hb x y)else none
section
variable {K:KU} {F H:Hp}
end
end L2.Pu
namespace My
open PySem PySem.Spec PyProof.Rows L2 L2.Pu
def gL (i:Nat):Ly:=PySem.Challenge.pw_tankbalance_k14_known_is_true.main.body.getD i (.Pass ⟨0,0,0,0⟩)
abbrev RL:List L0:=["UnknownStream","Twice","NotMetered","Clashing"]
abbrev pC:List L0:=["tanks","streams","rises","readings"]
abbrev lw:Ly:=gL 2
def gf:af->R aW:=
 ao (aJ (f2 (bV false) (f2 aP (ac 0) (fC (.int 1))) (ac 1)) (gN 2))
  (ao (aJ (f2 (bV false) (f2 aP (ac 0) (fC (.int 2))) (ac 1)) (gN 3))
  (ao (bT (fT (f2 lX (ac 2) (ac 3)))
  (aG (fC (.int 0)))
  (az))
  (aG (Ha (bF (ac 3)) (fC (.int 1)) (f1 jS (fC (.int 1)))))))
def cf:List D->R D:=aC 2 4 gf
abbrev iV:Ly:=gL 3
def iW:af->R aW:=
 ao (aJ (bG dk (aa (ac 1) (ae))) (gN 3))
  (aG (bG Ar (aa (fL (dG ["streams","amounts","group","amount_by_number"] [(".0", .local),("stream", .local),("way_over", .globalImplicit),("amount_by_number", .free),("group", .free)] (bg (ag 0)) (gN 1) (iO) (f2 lW (al cf 2 (aa (ag 1) (aa (ag 4) (ae)))) (lY (ac 3) (f2 aP (ac 1) (fC (.int 0))) (fC (.int 0)))))) (ae))))
def cB:List D->R D:=aC 3 4 iW
abbrev n4:Ly:=gL 4
def q_:af->R aW:=
 aG (bG Ar (aa (fL (dG ["rises","group"] [(".0", .local),("tank", .local),("rises", .free)] (bg (ag 1)) (gN 1) (iO) (f2 aP (ac 2) (f2 iP (ac 1) (fC (.int 1)))))) (ae)))
def d9:List D->R D:=aC 2 2 q_
abbrev iX:Ly:=gL 6
def cL:af->R aW:=
 bT (fT (f2 lX (ac 4) (ac 1)))
  (kW 2 (b9 (aa (ag 3) (aa (fC (.int 1)) (aa (ag 5) (ae))))))
  (bT (fT (f2 lX (ac 5) (ac 1)))
  (kW 2 (b9 (aa (ag 3) (aa (f1 jS (fC (.int 1))) (aa (ag 4) (ae))))))
  (az))
def iY:af->R aW:=
 ao (jt 2 (ae))
  (ao (d7 (bg (ag 0)) (dc 3 (aH (gN 3) (aH (gN 4) (aH (gN 5) (cS))))) (cL))
  (mV [2] (aG (ag 2))))
def fM:List D->R D:=aC 2 6 iY
abbrev fj:Ly:=gL 7
def cq:af->R aW:=
 bT (fT (f2 (bV true) (ac 7) (ac 2)))
  (ao (kX 2 (ag 7) (b9 (aa (ag 4) (aa (b9 (aa (ag 5) (aa (ag 6) (ae)))) (ae)))))
  (kW 3 (ag 7)))
  (az)
def cr:af->R aW:=
 ao (yf 4 3 (fC (.int 0)))
  (d7 (bg (al fM 2 (aa (ag 0) (aa (ag 4) (ae))))) (dc 3 (aH (gN 5) (aH (gN 6) (aH (gN 7) (cS))))) (cq))
def ft:af->R aW:=
 ao (sv 2 [(ag 1,fC .non)])
  (ao (jt 3 (aa (ag 1) (ae)))
  (ao (bP (fT (f2 qm (bG cR (aa (ac 3) (ae))) (fC (.int 0)))) (cr) 100)
  (mV [2] (aG (ag 2)))))
def c8:List D->R D:=aC 2 8 ft
abbrev iZ:Ly:=gL 8
def dm:af->R aW:=
 kX 3 (ag 6) (fC (.bl true))
def dn:af->R aW:=
 bT (fT (f2 (bV true) (ac 4) (ac 3)))
  (ao (aJ (bG cJ (aa (al c8 2 (aa (ag 1) (aa (ag 4) (ae)))) (ae))) (gN 5))
  (ao (kW 2 (bG bZ (aa (ac 5) (ae))))
  (d7 (bg (ag 5)) (gN 6) (dm))))
  (az)
def i_:af->R aW:=
 ao (jt 2 (ae))
  (ao (tM 3)
  (ao (d7 (bg (f2 bU (lU (aa (fC (.int 0)) (ae))) (fZ (aa (fC (.int 1)) (aa (f2 bU (ac 0) (fC (.int 1))) (ae)))))) (gN 4) (dn))
  (aG (bG bZ (aa (ac 2) (ae))))))
def bB:List D->R D:=aC 2 7 i_
abbrev n5:Ly:=gL 9
def gg:af->R aW:=
 ao (aJ (f2 aP (ac 3) (ac 5)) (gN 6))
  (ao (kW 4 (f2 aP (ac 6) (fC (.int 1))))
  (aJ (f2 aP (ac 6) (fC (.int 0))) (gN 5)))
def iz:af->R aW:=
 ao (aJ (al c8 2 (aa (ag 0) (aa (ag 1) (ae)))) (gN 3))
  (ao (bT (fT (f2 (bV true) (ac 2) (ac 3)))
  (aG (fC .non))
  (az))
  (ao (jt 4 (ae))
  (ao (aJ (ag 2) (gN 5))
  (ao (bP (fT (f2 mW (ac 5) (ac 1))) (gg) 100)
  (aG (oz (ac 4)))))))
def dI:List D->R D:=aC 3 7 iz
abbrev j0:Ly:=kI (gL 29) 1
def cM:af->R aW:=
 bT (fT (f2 lX (f2 aP (ac 2) (fC (.int 0))) (ac 1)))
  (aG (ag 2))
  (az)
def mj:af->R aW:=
 ao (d7 (bg (bw "Day" "streams" (ac 0))) (gN 2) (cM))
  (gZ "UnknownStream" (aa (fC (.str "no stream of this day has that number")) (ae)))
def bQ:List D->R D:=aC 2 3 mj
abbrev hJ:Ly:=kI (gL 29) 2
def hU:af->R aW:=
 ao (aJ (bW "Day" "stream" 2 bQ (ag 0) (aa (ag 1) (ae))) (gN 2))
  (aG (f2 (bV false) (f2 aP (ac 2) (fC (.int 0))) (bG dk (aa (bw "Day" "readings" (ac 0)) (ae)))))
def aS:List D->R D:=aC 2 3 hU
abbrev dh:Ly:=kI (gL 29) 4
def kY:af->R aW:=
 aG (bG bZ (aa (fL (dG ["self"] [(".0", .local),("stream", .local),("self", .free)] (bg (bw "Day" "streams" (ac 0))) (gN 1) (cI (bF (bW "Day" "metered" 2 aS (ag 2) (aa (f2 aP (ac 1) (fC (.int 0))) (ae))))) (ag 1))) (ae)))
def aN:List D->R D:=aC 1 1 kY
abbrev cC:Ly:=gL 11
def j3:af->R aW:=
 aG (bG bZ (aa (fL (dG ["day","number"] [(".0", .local),("stream", .local),("number", .free)] (bg (bW "Day" "without_meter" 1 aN (ag 0) ae)) (gN 1) (fT (f2 mW (f2 aP (ac 1) (fC (.int 0))) (ac 2))) (ag 1))) (ae)))
def b6:List D->R D:=aC 2 2 j3
abbrev n6:Ly:=gL 12
def yF:af->R aW:=
 ao (bT (bF (bW "Day" "metered" 2 aS (ag 0) (aa (ag 1) (ae))))
  (aG (b9 (ae)))
  (az))
  (ao (aJ (bW "Day" "stream" 2 bQ (ag 0) (aa (ag 1) (ae))) (gN 2))
  (ao (aJ (al dI 3 (aa (al b6 2 (aa (ag 0) (aa (ag 1) (ae)))) (aa (f2 aP (ac 2) (fC (.int 2))) (aa (f2 aP (ac 2) (fC (.int 1))) (ae))))) (gN 3))
  (ao (bT (fT (f2 tR (ac 3) (fC .non)))
  (aG (b9 (ae)))
  (az))
  (aG (f2 bU (b9 (aa (b9 (aa (ag 1) (aa (fC (.int 1)) (ae)))) (ae))) (ac 3))))))
def fQ:List D->R D:=aC 2 4 yF
abbrev j4:Ly:=gL 20
def cN:af->R aW:=
 bT (fT (f2 (bV true) (fC (.int 0)) (ac 2)))
  (ao (aJ (al d9 2 (aa (bw "Day" "rises" (ac 0)) (aa (ag 2) (ae)))) (gN 3))
  (ao (aJ (al cB 3 (aa (bw "Day" "streams" (ac 0)) (aa (bw "Day" "readings" (ac 0)) (aa (ag 2) (ae))))) (gN 4))
  (bT (fT (f2 mW (ac 3) (ac 4)))
  (kW 1 (b9 (aa (ag 2) (aa (ag 3) (aa (ag 4) (ae))))))
  (az))))
  (az)
def j5:af->R aW:=
 ao (jt 1 (ae))
  (ao (d7 (bg (al bB 2 (aa (bw "Day" "tanks" (ac 0)) (aa (bW "Day" "without_meter" 1 aN (ag 0) ae) (ae))))) (gN 2) (cN))
  (aG (bG bZ (aa (ac 1) (ae)))))
def ca:List D->R D:=aC 1 5 j5
abbrev eG:Ly:=gL 21
def cu:af->R aW:=
 bT (fT (f2 qm (bG cR (aa (al ca 1 (aa (ag 0) (ae))) (ae))) (fC (.int 0))))
  (gZ "Clashing" (aa (fC (.str "the readings of this day clash")) (ae)))
  (az)
def bx:List D->R D:=aC 1 1 cu
abbrev n8:Ly:=gL 22
def r8:af->R aW:=
 aG (f2 iP (al d9 2 (aa (bw "Day" "rises" (ac 0)) (aa (b9 (aa (ag 1) (ae))) (ae)))) (al cB 3 (aa (bw "Day" "streams" (ac 0)) (aa (bw "Day" "readings" (ac 0)) (aa (b9 (aa (ag 1) (ae))) (ae))))))
def n9:List D->R D:=aC 2 2 r8
abbrev j6:Ly:=gL 23
def eS:af->R aW:=
 uh 1 (ag 6) (f2 lW (ac 7) (ac 5))
def eU:af->R aW:=
 ao (aJ (al n9 2 (aa (ag 0) (aa (ag 4) (ae)))) (gN 5))
  (d7 (bg (al dI 3 (aa (ag 2) (aa (f2 aP (ac 3) (fC (.int 0))) (aa (ag 4) (ae)))))) (dc 2 (aH (gN 6) (aH (gN 7) (cS)))) (eS))
def hV:af->R aW:=
 d7 (bg (yk (ac 3) (jv (fC (.int 1))) (iu))) (gN 4) (eU)
def j7:af->R aW:=
 ao (nU (al bx 1 (aa (ag 0) (ae))))
  (ao (mf 1 (bG dk (aa (fL (dG ["day","amounts","unmetered","bunch","tank","lack","number","direction"] [(".0", .local),("stream", .local)] (bg (bw "Day" "streams" (ac 0))) (gN 1) (iO) (b9 (aa (f2 aP (ac 1) (fC (.int 0))) (aa (fC (.int 0)) (ae)))))) (ae))))
  (ao (yA 1 (bG dk (aa (bw "Day" "readings" (ac 0)) (ae))))
  (ao (aJ (bW "Day" "without_meter" 1 aN (ag 0) ae) (gN 2))
  (ao (d7 (bg (al bB 2 (aa (bw "Day" "tanks" (ac 0)) (aa (ag 2) (ae))))) (gN 3) (hV))
  (aG (bG bZ (aa (oA (ac 1)) (ae))))))))
def j8:List D->R D:=aC 1 8 j7
abbrev lx:Ly:=gL 25
def cz:af->R aW:=
 bT (tL (fT (f2 (bV true) (fC (.int 0)) (ac 3))) (fT (f2 mW (al cf 2 (aa (ag 2) (aa (ag 3) (ae)))) (fC (.int 0)))))
  (aG (ag 3))
  (az)
def gj:af->R aW:=
 ao (bT (bF (bW "Day" "metered" 2 aS (ag 0) (aa (ag 1) (ae))))
  (aG (b9 (ae)))
  (az))
  (ao (aJ (bW "Day" "stream" 2 bQ (ag 0) (aa (ag 1) (ae))) (gN 2))
  (ao (d7 (bg (al bB 2 (aa (bw "Day" "tanks" (ac 0)) (aa (al b6 2 (aa (ag 0) (aa (ag 1) (ae)))) (ae))))) (gN 3) (cz))
  (aG (b9 (ae)))))
def dC:List D->R D:=aC 2 4 gj
abbrev hW:Ly:=gL 26
def hX:af->R aW:=
 ao (aJ (f2 iP (al d9 2 (aa (bw "Day" "rises" (ac 0)) (aa (ag 2) (ae)))) (al cB 3 (aa (bw "Day" "streams" (ac 0)) (aa (bw "Day" "readings" (ac 0)) (aa (ag 2) (ae)))))) (gN 3))
  (aG (f2 lW (al cf 2 (aa (bW "Day" "stream" 2 bQ (ag 0) (aa (ag 1) (ae))) (aa (ag 2) (ae)))) (ac 3)))
def eV:List D->R D:=aC 3 4 hX
abbrev hZ:Ly:=kI (gL 29) 3
def h_:af->R aW:=
 ao (bT (cI (bF (bW "Day" "metered" 2 aS (ag 0) (aa (ag 1) (ae)))))
  (gZ "NotMetered" (aa (fC (.str "the stream has no meter on this day")) (ae)))
  (az))
  (aG (f2 aP (bG dk (aa (bw "Day" "readings" (ac 0)) (ae))) (ac 1)))
def cO:List D->R D:=aC 2 2 h_
abbrev ng:Ly:=gL 27
def nj:af->R aW:=
 ao (aJ (bW "Day" "metered" 2 aS (ag 0) (aa (ag 1) (ae))) (gN 2))
  (ao (nU (al bx 1 (aa (ag 0) (ae))))
  (ao (bT (bF (ac 2))
  (aG (b9 (aa (fC (.str "metered")) (aa (bW "Day" "reading" 2 cO (ag 0) (aa (ag 1) (ae))) (aa (b9 (ae)) (aa (b9 (ae)) (ae)))))))
  (az))
  (ao (aJ (al dC 2 (aa (ag 0) (aa (ag 1) (ae)))) (gN 3))
  (ao (bT (fT (f2 qm (bG cR (aa (ac 3) (ae))) (fC (.int 0))))
  (aG (b9 (aa (fC (.str "known")) (aa (al eV 3 (aa (ag 0) (aa (ag 1) (aa (ag 3) (ae))))) (aa (ag 3) (aa (b9 (ae)) (ae)))))))
  (az))
  (aG (b9 (aa (fC (.str "open")) (aa (fC .non) (aa (b9 (ae)) (aa (al fQ 2 (aa (ag 0) (aa (ag 1) (ae)))) (ae)))))))))))
def dJ:List D->R D:=aC 2 4 nj
abbrev j9:Ly:=kI (gL 29) 0
def pD:af->R aW:=
 ao (ud 0 (aJ (ag 1) (gN 5)))
  (ao (ud 0 (aJ (bG bZ (aa (bG cJ (aa (ac 2) (ae))) (ae))) (gN 6)))
  (ao (ud 0 (aJ (bG bZ (aa (ac 3) (ae))) (gN 7)))
  (ud 0 (aJ (bG bZ (aa (bG cJ (aa (ac 4) (ae))) (ae))) (gN 8)))))
def nV:List (L0×Nat):=[("tanks",5),("streams",6),("rises",7),("readings",8)]
def bX:List D->R (List (L0×D)):=m8 4 8 nV pD
abbrev gk:Ly:=kI (gL 29) 5
def pE:af->R aW:=
 ao (jR 2 (vN ["self","numbers","meters_there","kept"] [(".0", .local),("number", .local),("self", .free)] (bg (ag 1)) (gN 1) (iO) (bW "Day" "metered" 2 aS (ag 2) (aa (ag 1) (ae)))))
  (ao (bT (fT (f2 Gf (sG (ac 1)) (bG cR (aa (ac 1) (ae)))))
  (gZ "Twice" (aa (fC (.str "a stream is named twice")) (ae)))
  (az))
  (ao (bT (cI (bF (bG GH (aa (ac 2) (ae)))))
  (gZ "NotMetered" (aa (fC (.str "a stream that is named has no meter on this day")) (ae)))
  (az))
  (ao (jR 3 (dG ["self","numbers","meters_there","kept"] [(".0", .local),("pair", .local),("numbers", .free)] (bg (bw "Day" "readings" (ac 0))) (gN 1) (fT (f2 (bV true) (f2 aP (ac 1) (fC (.int 0))) (ac 2))) (ag 1)))
  (mV [3] (aG (m9 "Day" 4 bX (aa (bw "Day" "tanks" (ac 0)) (aa (bw "Day" "streams" (ac 0)) (aa (bw "Day" "rises" (ac 0)) (aa (ag 3) (ae)))))))))))
def pF:List D->R D:=aC 2 4 pE
abbrev cD:Ly:=gL 31
def bI:af->R aW:=
 bT (tL (fT (f2 (bV true) (fC (.int 0)) (ac 1))) (fT (f2 mW (al d9 2 (aa (bw "Day" "rises" (ac 0)) (aa (ag 1) (ae)))) (fC (.int 0)))))
  (aG (ag 1))
  (az)
def cE:af->R aW:=
 ao (d7 (bg (al bB 2 (aa (bw "Day" "tanks" (ac 0)) (aa (bw "Day" "streams" (ac 0)) (ae))))) (gN 1) (bI))
  (aG (b9 (ae)))
def cF:List D->R D:=aC 1 2 cE
abbrev jY:Ly:=gL 32
def uj:af->R aW:=
 ao (aJ (bW "Day" "stream" 2 bQ (ag 0) (aa (ag 1) (ae))) (gN 2))
  (aG (f2 iQ (al dI 3 (aa (bW "Day" "without_meter" 1 aN (ag 0) ae) (aa (f2 aP (ac 2) (fC (.int 1))) (aa (f2 aP (ac 2) (fC (.int 2))) (ae))))) (fC .non)))
def uk:List D->R D:=aC 2 3 uj
abbrev gl:Ly:=gL 33
def gm:af->R aW:=
 ao (bT (fT (f2 qm (bG cR (aa (al ca 1 (aa (ag 0) (ae))) (ae))) (f2 lW (fC (.int 2)) (ac 2))))
  (aG (fC .non))
  (az))
  (ao (bT (fT (f2 lX (ac 2) (fC (.int 0))))
  (aG (b9 (ae)))
  (az))
  (ao (Gy)
  (aG (fC .non))))
def dS:List D->R D:=aC 3 6 gm
abbrev jZ:Ly:=gL 34
def sH:af->R aW:=
 ao (DI 3 AT (fC (.int 1)))
  (mV [2] (aJ (al dS 3 (aa (ag 0) (aa (ag 2) (aa (ag 3) (ae))))) (gN 4)))
def j_:af->R aW:=
 ao (aJ (al cF 1 (aa (ag 0) (ae))) (gN 1))
  (ao (bT (fT (f2 qm (bG cR (aa (ac 1) (ae))) (fC (.int 0))))
  (aG (b9 (aa (b9 (ae)) (aa (ag 1) (ae)))))
  (az))
  (ao (jR 2 (dG ["day","shut","meters","size","doubts"] [(".0", .local),("pair", .local)] (bg (bw "Day" "readings" (ac 0))) (gN 1) (iO) (f2 aP (ac 1) (fC (.int 0)))))
  (ao (aJ (fC (.int 0)) (gN 3))
  (ao (mV [2] (aJ (al dS 3 (aa (ag 0) (aa (ag 2) (aa (ag 3) (ae))))) (gN 4)))
  (ao (bP (fT (f2 tR (ac 4) (fC .non))) (sH) 100)
  (aG (b9 (aa (ag 4) (aa (b9 (ae)) (ae))))))))))
def ka:List D->R D:=aC 1 5 j_
abbrev pG:Ly:=gL 36
def ul:af->R aW:=
 ao (bT (fT (f2 Gf (ac 1) (bG cR (aa (ac 0) (ae)))))
  (aG (f2 aP (ac 0) (ac 1)))
  (az))
  (aG (fC (.int 0)))
def f6:List D->R D:=aC 2 2 ul
abbrev lz:Ly:=gL 37
def lA:af->R aW:=
 ao (bT (fT (f2 lX (f2 fJ (al f6 2 (aa (ag 0) (aa (fC (.int 0)) (ae)))) (fC (.int 2))) (fC (.int 0))))
  (aG (al f6 2 (aa (ag 0) (aa (ag 1) (ae)))))
  (az))
  (ao (aJ (f2 fJ (f2 lW (f2 bU (f2 bU (f2 bU (al f6 2 (aa (ag 0) (aa (ag 1) (ae)))) (f2 ju (al f6 2 (aa (ag 0) (aa (fC (.int 0)) (ae)))) (fC (.int 2)))) (f2 lW (fC (.int 7919)) (ac 1))) (fC (.int 1))) (fC (.int 48271))) (fC (.int 2147483647))) (gN 2))
  (aG (f2 fJ (f2 lW (f2 bU (ac 2) (ac 1)) (fC (.int 69621))) (fC (.int 2147483647)))))
def aF:List D->R D:=aC 2 3 lA
abbrev lB:Ly:=gL 38
def gM (UQ:List D->R D):af->R aW:=
 bT (cI (bF (al UQ 2 (aa (f2 aP (ac 0) (ac 2)) (aa (f2 aP (ac 1) (ac 2)) (ae))))))
  (aG (fC (.bl false)))
  (az)
def gq (UQ:List D->R D):af->R aW:=
 ao (bT (bF (fK "tuple" (ac 1)))
  (ao (bT (kZ (cI (bF (fK "tuple" (ac 0)))) (fT (f2 mW (bG cR (aa (ac 0) (ae))) (bG cR (aa (ac 1) (ae))))))
  (aG (fC (.bl false)))
  (az))
  (ao (d7 (du (aa (bG cR (aa (ac 1) (ae))) (ae))) (gN 2) (gM UQ))
  (aG (fC (.bl true)))))
  (az))
  (aG (p8 (fK "int" (ac 0)) (p8 (qP (fK "bool" (ac 0))) (f2 lX (ac 0) (ac 1)))))
def d0:Nat->List D->R D
 |0=>λ_=> .bad
 |n+1=>aC 2 3 (gq (d0 n))
def bY:List D->R D:=d0 8
abbrev kb:Ly:=gL 39
def ke:af->R aW:=
 aG (p8 (fK "int" (ac 0)) (qP (fK "bool" (ac 0))))
def d4:List D->R D:=aC 1 1 ke
abbrev i4:Ly:=gL 40
def dU:af->R aW:=
 ao (aJ (f2 bU (f2 iP (f2 iP (fC (.int 61)) (ac 4)) (ac 2)) (ac 5)) (gN 6))
  (ao (aJ (al aF 2 (aa (ag 0) (aa (f2 bU (fC (.int 5)) (ac 5)) (ae)))) (gN 7))
  (ao (aJ (f2 fJ (ac 7) (ac 6)) (gN 8))
  (ao (bT (fT (f2 lX (f2 fJ (f2 ju (al aF 2 (aa (ag 0) (aa (fC (.int 4)) (ae)))) (fC (.int 8))) (fC (.int 2))) (fC (.int 1))))
  (aJ (f2 fJ (ac 8) (fC (.int 4))) (gN 8))
  (az))
  (ao (aJ (f2 bU (f2 bU (ac 4) (fC (.int 1))) (ac 8)) (gN 4))
  (ao (aJ (f2 fJ (f2 ju (ac 7) (ac 6)) (f2 bU (ac 1) (fC (.int 1)))) (gN 9))
  (ao (aJ (f2 fJ (f2 bU (f2 bU (ac 9) (fC (.int 1))) (f2 fJ (f2 ju (f2 ju (ac 7) (ac 6)) (f2 bU (ac 1) (fC (.int 1)))) (ac 1))) (f2 bU (ac 1) (fC (.int 1)))) (gN 10))
  (kW 3 (b9 (aa (ag 4) (aa (ag 9) (aa (ag 10) (ae))))))))))))
def i5:af->R aW:=
 ao (jt 3 (ae))
  (ao (aJ (fC (.int 0)) (gN 4))
  (ao (d7 (du (aa (ag 2) (ae))) (gN 5) (dU))
  (mV [3] (aG (ag 3)))))
def i6:List D->R D:=aC 3 11 i5
abbrev i7:Ly:=gL 41
def cv:af->R aW:=
 bT (tL (fT (f2 Gf (f2 fJ (al aF 2 (aa (ag 0) (aa (f2 bU (fC (.int 17)) (ac 4)) (ae)))) (fC (.int 4))) (ac 2))) (fT (f2 Gf (bG cR (aa (ac 3) (ae))) (fC (.int 10)))))
  (kW 3 (f2 aP (f2 aP (ac 1) (ac 4)) (fC (.int 0))))
  (az)
def i8:af->R aW:=
 ao (jt 3 (ae))
  (ao (d7 (du (aa (bG cR (aa (ac 1) (ae))) (ae))) (gN 4) (cv))
  (mV [3] (aG (ag 3))))
def i9:List D->R D:=aC 3 5 i8
abbrev lC:Ly:=gL 42
def lD:af->R aW:=
 ao (aJ (f1 jS (ac 3)) (gN 4))
  (ao (aJ (ag 3) (gN 5))
  (ao (bT (fT (f2 qm (ac 1) (fC (.int 0))))
  (ao (aJ (bG vC (aa (ac 4) (aa (f2 iP (f2 aP (ac 0) (ac 1)) (fC (.int 1000))) (ae)))) (gN 4))
  (aJ (bG vB (aa (ac 5) (aa (f2 bU (f2 aP (ac 0) (ac 1)) (fC (.int 1000))) (ae)))) (gN 5)))
  (az))
  (ao (bT (fT (f2 qm (ac 2) (fC (.int 0))))
  (ao (aJ (bG vC (aa (ac 4) (aa (f2 iP (f1 jS (fC (.int 1000))) (f2 aP (ac 0) (ac 2))) (ae)))) (gN 4))
  (aJ (bG vB (aa (ac 5) (aa (f2 iP (fC (.int 1000)) (f2 aP (ac 0) (ac 2))) (ae)))) (gN 5)))
  (az))
  (aG (lU (aa (ag 4) (aa (ag 5) (ae))))))))
def lE:List D->R D:=aC 4 6 lD
abbrev kf:Ly:=gL 43
def fN:af->R aW:=
 ao (aJ (f2 aP (ac 2) (ac 7)) (dc 3 (aH (gN 8) (aH (gN 9) (aH (gN 10) (cS))))))
  (ao (wO [5] (al lE 4 (aa (ag 5) (aa (ag 9) (aa (ag 10) (aa (f2 aP (ac 4) (bG Dq (aa (f2 (bV false) (ac 8) (ac 3)) (ae)))) (ae)))))) 2 (aH (gN 11) (aH (gN 12) (cS))))
  (ao (aJ (f2 bU (ac 11) (f2 fJ (f2 aP (ac 0) (ac 7)) (f2 bU (f2 iP (ac 12) (ac 11)) (fC (.int 1))))) (gN 13))
  (ao (kX 5 (ag 9) (f2 iP (f2 aP (ac 5) (ac 9)) (ac 13)))
  (ao (kX 5 (ag 10) (f2 bU (f2 aP (ac 5) (ac 10)) (ac 13)))
  (kW 6 (b9 (aa (ag 8) (aa (ag 13) (ae)))))))))
def kg:af->R aW:=
 ao (mf 5 (f2 qZ (lU (aa (fC (.int 0)) (ae))) (f2 bU (ac 1) (fC (.int 1)))))
  (ao (jt 6 (ae))
  (ao (d7 (du (aa (bG cR (aa (ac 2) (ae))) (ae))) (gN 7) (fN))
  (aG (lU (aa (bG bZ (aa (ac 6) (ae))) (aa (bG bZ (aa (yk (ac 5) (jv (fC (.int 1))) (iu)) (ae))) (ae)))))))
def kh:List D->R D:=aC 5 14 kg
abbrev ki:Ly:=gL 44
def kj:af->R aW:=
 ao (jR 5 (dG ["_law_script","_law_n","_law_streams_here","_law_metered_here","_law_small","_law_figures"] [(".0", .local),("_law_k", .local),("_law_cell", .globalImplicit),("_law_script", .free)] (du (aa (bG cR (aa (ac 2) (ae))) (ae))) (gN 1) (iO) (f2 ju (al aF 2 (aa (ag 3) (aa (f2 bU (fC (.int 17)) (ac 1)) (ae)))) (fC (.int 4)))))
  (mV [5] (aG (al kh 5 (aa (ag 5) (aa (ag 1) (aa (ag 2) (aa (ag 3) (aa (f2 aP (lU (aa (lU (aa (fC (.int 5000)) (aa (fC (.int 1000)) (ae)))) (aa (lU (aa (fC (.int 2)) (aa (fC (.int 2)) (ae)))) (ae)))) (ac 4)) (ae)))))))))
def kl:List D->R D:=aC 5 6 kj
abbrev fu:Ly:=gL 45
def fw:af->R aW:=
 ao (aJ (f2 fJ (al aF 2 (aa (ag 0) (aa (fC (.int 1)) (ae)))) (fC (.int 8))) (gN 1))
  (ao (aJ (fC (.int 0)) (gN 2))
  (ao (bT (fT (f2 qm (ac 1) (fC (.int 0))))
  (aJ (f2 fJ (al aF 2 (aa (ag 0) (aa (fC (.int 2)) (ae)))) (fC (.int 13))) (gN 2))
  (az))
  (ao (aJ (f2 fJ (al aF 2 (aa (ag 0) (aa (fC (.int 4)) (ae)))) (fC (.int 2))) (gN 3))
  (ao (aJ (al i6 3 (aa (ag 0) (aa (ag 1) (aa (ag 2) (ae))))) (gN 4))
  (ao (aJ (al i9 3 (aa (ag 0) (aa (ag 4) (aa (f2 fJ (al aF 2 (aa (ag 0) (aa (fC (.int 3)) (ae)))) (fC (.int 5))) (ae))))) (gN 5))
  (ao (aJ (al kl 5 (aa (ag 0) (aa (ag 1) (aa (ag 4) (aa (ag 5) (aa (ag 3) (ae))))))) (gN 6))
  (ao (jR 7 (dG ["_law_script","_law_n","_law_many","_law_small","_law_streams_here","_law_metered_here","_law_truth_here","_law_readings"] [(".0", .local),("_law_row", .local),("_law_metered_here", .free)] (bg (f2 aP (ac 6) (fC (.int 0)))) (gN 1) (fT (f2 (bV false) (f2 aP (ac 1) (fC (.int 0))) (ac 2))) (ag 1)))
  (aG (lU (aa (b9 (aa (ag 1) (aa (bG bZ (aa (ac 4) (ae))) (aa (bG bZ (aa (f2 aP (ac 6) (fC (.int 1))) (ae))) (aa (bG bZ (aa (ac 7) (ae))) (ae)))))) (aa (bG bZ (aa (f2 aP (ac 6) (fC (.int 0))) (ae))) (ae))))))))))))
def fz:List D->R D:=aC 1 8 fw
abbrev nk:Ly:=gL 46
def nl:af->R aW:=
 ao (aJ (f2 fJ (al aF 2 (aa (ag 0) (aa (fC (.int 48)) (ae)))) (fC (.int 4))) (gN 2))
  (ao (bT (fT (f2 lX (ac 2) (fC (.int 0))))
  (aG (m9 "Day" 4 bX (aa (f2 aP (ac 1) (fC (.int 0))) (aa (bG k_ (aa (f2 aP (ac 1) (fC (.int 1))) (ae))) (aa (bG k_ (aa (f2 aP (ac 1) (fC (.int 2))) (ae))) (aa (bG k_ (aa (f2 aP (ac 1) (fC (.int 3))) (ae))) (ae)))))))
  (az))
  (ao (bT (fT (f2 lX (ac 2) (fC (.int 1))))
  (aG (m9 "Day" 4 bX (aa (f2 aP (ac 1) (fC (.int 0))) (aa (Av (bG k_ (aa (f2 aP (ac 1) (fC (.int 1))) (ae)))) (aa (bG k_ (aa (f2 aP (ac 1) (fC (.int 2))) (ae))) (aa (Av (bG k_ (aa (f2 aP (ac 1) (fC (.int 3))) (ae)))) (ae)))))))
  (az))
  (ao (bT (fT (f2 lX (ac 2) (fC (.int 2))))
  (aG (m9 "Day" 4 bX (aa (f2 aP (ac 1) (fC (.int 0))) (aa (f2 aP (ac 1) (fC (.int 1))) (aa (f2 aP (ac 1) (fC (.int 2))) (aa (f2 aP (ac 1) (fC (.int 3))) (ae)))))))
  (az))
  (ao (aJ (f2 ju (bG cR (aa (f2 aP (ac 1) (fC (.int 1))) (ae))) (fC (.int 2))) (gN 3))
  (ao (aJ (f2 ju (bG cR (aa (f2 aP (ac 1) (fC (.int 3))) (ae))) (fC (.int 2))) (gN 4))
  (aG (m9 "Day" 4 bX (aa (f2 aP (ac 1) (fC (.int 0))) (aa (f2 bU (yk (f2 aP (ac 1) (fC (.int 1))) (jv (ag 3)) (iu)) (yk (f2 aP (ac 1) (fC (.int 1))) (iu) (jv (ag 3)))) (aa (f2 aP (ac 1) (fC (.int 2))) (aa (f2 bU (yk (f2 aP (ac 1) (fC (.int 3))) (jv (ag 4)) (iu)) (yk (f2 aP (ac 1) (fC (.int 3))) (iu) (jv (ag 4)))) (ae))))))))))))
def nn:List D->R D:=aC 2 5 nl
abbrev km:Ly:=gL 47
def kn:af->R aW:=
 ao (jR 1 (dG ["_law_case","_law_read"] [(".0", .local),("_law_row", .local)] (bg (f2 aP (ac 0) (fC (.int 3)))) (gN 1) (iO) (f2 aP (ac 1) (fC (.int 0)))))
  (aG (fL (dG ["_law_case","_law_read"] [(".0", .local),("_law_stream", .local),("_law_read", .free)] (bg (f2 aP (ac 0) (fC (.int 1)))) (gN 1) (fT (f2 (bV true) (f2 aP (ac 1) (fC (.int 0))) (ac 2))) (ag 1))))
def gO:List D->R D:=aC 1 2 kn
abbrev nq:Ly:=gL 48
def ja:af->R aW:=
 ao (bT (fT (f2 lX (ac 8) (ac 5)))
  (aJ (f2 bU (ac 3) (lY (ac 4) (ag 6) (fC (.int 0)))) (gN 3))
  (az))
  (bT (fT (f2 lX (ac 7) (ac 5)))
  (aJ (f2 iP (ac 3) (lY (ac 4) (ag 6) (fC (.int 0)))) (gN 3))
  (az))
def jb:af->R aW:=
 d7 (bg (ag 0)) (dc 3 (aH (gN 6) (aH (gN 7) (aH (gN 8) (cS))))) (ja)
def nr:af->R aW:=
 ao (aJ (fC (.int 0)) (gN 3))
  (ao (aJ (bG dk (aa (ac 1) (ae))) (gN 4))
  (ao (d7 (bg (ag 2)) (gN 5) (jb))
  (aG (ag 3))))
def kM:List D->R D:=aC 3 9 nr
abbrev eI:Ly:=gL 49
def cT:af->R aW:=
 ao (aJ (f2 aP (ac 1) (ac 3)) (gN 4))
  (ao (bT (kZ (cI (bF (fK "tuple" (ac 4)))) (fT (f2 mW (bG cR (aa (ac 4) (ae))) (fC (.int 2)))))
  (aG (fC (.bl false)))
  (az))
  (ao (bT (kZ (cI (bF (al bY 2 (aa (f2 aP (ac 4) (fC (.int 0))) (aa (f2 aP (f2 aP (f2 aP (ac 0) (fC (.int 1))) (ac 3)) (fC (.int 0))) (ae)))))) (cI (bF (al d4 1 (aa (f2 aP (ac 4) (fC (.int 1))) (ae))))))
  (aG (fC (.bl false)))
  (az))
  (kX 2 (f2 aP (ac 4) (fC (.int 0))) (f2 aP (ac 4) (fC (.int 1))))))
def cU:af->R aW:=
 bT (fT (f2 mW (f2 aP (ac 2) (ac 5)) (ac 6)))
  (aG (fC (.bl false)))
  (az)
def cV:af->R aW:=
 bT (fT (f2 mW (al kM 3 (aa (f2 aP (ac 0) (fC (.int 1))) (aa (ag 1) (aa (lU (aa (ag 7) (ae))) (ae))))) (f2 aP (f2 aP (ac 0) (fC (.int 2))) (f2 iP (ac 7) (fC (.int 1))))))
  (aG (fC (.bl false)))
  (az)
def eJ:af->R aW:=
 ao (bT (kZ (cI (bF (fK "tuple" (ac 1)))) (fT (f2 mW (bG cR (aa (ac 1) (ae))) (bG cR (aa (f2 aP (ac 0) (fC (.int 1))) (ae))))))
  (aG (fC (.bl false)))
  (az))
  (ao (tM 2)
  (ao (d7 (du (aa (bG cR (aa (ac 1) (ae))) (ae))) (gN 3) (cT))
  (ao (d7 (bg (f2 aP (ac 0) (fC (.int 3)))) (dc 2 (aH (gN 5) (aH (gN 6) (cS)))) (cU))
  (ao (d7 (lV (aa (fC (.int 1)) (aa (f2 bU (f2 aP (ac 0) (fC (.int 0))) (fC (.int 1))) (ae)))) (gN 7) (cV))
  (aG (fC (.bl true)))))))
def bz:List D->R D:=aC 2 8 eJ
abbrev jc:Ly:=gL 50
def eW:af->R aW:=
 kX 4 (ag 5) (b9 (aa (ag 6) (aa (ag 7) (ae))))
def eX:af->R aW:=
 ao (bT (kZ (cI (bF (fK "tuple" (ac 9)))) (kZ (fT (f2 mW (bG cR (aa (ac 9) (ae))) (fC (.int 2)))) (kZ (cI (bF (al d4 1 (aa (f2 aP (ac 9) (fC (.int 0))) (ae))))) (cI (bF (al d4 1 (aa (f2 aP (ac 9) (fC (.int 1))) (ae))))))))
  (aG (fC (.bl false)))
  (az))
  (ao (bT (kZ (fT (f2 (bV true) (f2 aP (ac 9) (fC (.int 0))) (ac 4))) (fT (f2 (bV true) (f2 aP (ac 9) (fC (.int 1))) (b9 (aa (fC (.int 1)) (aa (f1 jS (fC (.int 1))) (ae)))))))
  (aG (fC (.bl false)))
  (az))
  (ao (aJ (f2 aP (ac 4) (f2 aP (ac 9) (fC (.int 0)))) (dc 2 (aH (gN 6) (aH (gN 7) (cS)))))
  (ao (bT (fT (f2 lX (f2 aP (ac 9) (fC (.int 1))) (f1 jS (fC (.int 1)))))
  (D6 6 7 (aa (ag 7) (aa (ag 6) (ae))))
  (az))
  (ao (bT (kZ (fT (f2 mW (ac 6) (f2 aP (ac 8) (f1 jS (fC (.int 1)))))) (fT (f2 (bV false) (ac 7) (ac 8))))
  (aG (fC (.bl false)))
  (az))
  (kW 8 (ag 7))))))
def jd:af->R aW:=
 ao (bT (cI (bF (fK "tuple" (ac 1))))
  (aG (fC (.bl false)))
  (az))
  (ao (tM 4)
  (ao (d7 (bg (ag 0)) (dc 3 (aH (gN 5) (aH (gN 6) (aH (gN 7) (cS))))) (eW))
  (ao (jt 8 (aa (ag 2) (ae)))
  (ao (d7 (bg (ag 1)) (gN 9) (eX))
  (aG (f2 lX (f2 aP (ac 8) (f1 jS (fC (.int 1)))) (ac 3)))))))
def je:List D->R D:=aC 4 10 jd
abbrev ia:Ly:=gL 51
def ib:af->R aW:=
 ao (bT (kZ (cI (bF (fK "tuple" (ac 2)))) (kZ (fT (f2 lX (bG cR (aa (ac 2) (ae))) (fC (.int 0)))) (cI (bF (al bY 2 (aa (f2 aP (ac 2) (fC (.int 0))) (aa (b9 (aa (f2 aP (ac 1) (fC (.int 0))) (aa (fC (.int 1)) (ae)))) (ae))))))))
  (aG (fC (.bl false)))
  (az))
  (ao (jR 3 (dG ["_law_case","_law_stream","_law_ring","_law_others"] [(".0", .local),("_law_one", .local),("_law_stream", .free)] (bg (al gO 1 (aa (ag 0) (ae)))) (gN 1) (fT (f2 mW (f2 aP (ac 1) (fC (.int 0))) (f2 aP (ac 2) (fC (.int 0))))) (ag 1)))
  (mV [3] (aG (al je 4 (aa (ag 3) (aa (yk (ac 2) (jv (fC (.int 1))) (iu)) (aa (f2 aP (ac 1) (fC (.int 2))) (aa (f2 aP (ac 1) (fC (.int 1))) (ae)))))))))
def dq:List D->R D:=aC 3 4 ib
abbrev ko:Ly:=gL 52
def fO:af->R aW:=
 kX 3 (ag 4) (f2 bU (f2 aP (ac 3) (ac 4)) (f2 lW (ac 2) (ac 5)))
def kq:af->R aW:=
 ao (mf 3 (bG dk (aa (ac 0) (ae))))
  (ao (d7 (bg (ag 1)) (dc 2 (aH (gN 4) (aH (gN 5) (cS)))) (fO))
  (aG (bG bZ (aa (fL (dG ["_law_truth_here","_law_ring","_law_more","_law_moved_here","_law_number","_law_way"] [(".0", .local),("_law_number", .local),("_law_amount", .local),("_law_moved_here", .free)] (bg (ag 0)) (dc 2 (aH (gN 1) (aH (gN 2) (cS)))) (iO) (b9 (aa (ag 1) (aa (f2 aP (ac 3) (ac 1)) (ae)))))) (ae)))))
def f7:List D->R D:=aC 3 6 kq
abbrev pH:Ly:=gL 53
def nu:af->R aW:=
 ao (aJ (al dJ 2 (aa (ag 4) (aa (f2 aP (ac 6) (fC (.int 0))) (ae)))) (gN 7))
  (ao (bT (kZ (cI (bF (fK "tuple" (ac 7)))) (fT (f2 mW (bG cR (aa (ac 7) (ae))) (fC (.int 4)))))
  (aG (fC (.bl false)))
  (az))
  (bT (fT (f2 lX (f2 aP (ac 7) (fC (.int 0))) (fC (.str "open"))))
  (ao (bT (kZ (cI (bF (al dq 3 (aa (ag 2) (aa (ag 6) (aa (f2 aP (ac 7) (fC (.int 3))) (ae))))))) (fT (f2 iQ (f2 aP (ac 7) (fC (.int 1))) (fC .non))))
  (aG (fC (.bl false)))
  (az))
  (ao (aJ (al f7 3 (aa (f2 aP (ac 1) (fC (.int 1))) (aa (f2 aP (ac 7) (fC (.int 3))) (aa (ag 5) (ae))))) (gN 8))
  (bT (kZ (cI (bF (al bz 2 (aa (ag 2) (aa (ag 8) (ae)))))) (fT (f2 mW (f2 aP (bG dk (aa (ac 8) (ae))) (f2 aP (ac 6) (fC (.int 0)))) (f2 bU (f2 aP (ac 3) (f2 aP (ac 6) (fC (.int 0)))) (ac 5)))))
  (aG (fC (.bl false)))
  (az))))
  (bT (kZ (fT (f2 (bV true) (f2 aP (ac 7) (fC (.int 0))) (b9 (aa (fC (.str "known")) (aa (fC (.str "metered")) (ae)))))) (cI (bF (al bY 2 (aa (f2 aP (ac 7) (fC (.int 1))) (aa (f2 aP (ac 3) (f2 aP (ac 6) (fC (.int 0)))) (ae)))))))
  (aG (fC (.bl false)))
  (az))))
def B0:af->R aW:=
 ao (aJ (al fz 1 (aa (ag 0) (ae))) (gN 1))
  (ao (aJ (f2 aP (ac 1) (fC (.int 0))) (gN 2))
  (ao (aJ (bG dk (aa (f2 aP (ac 1) (fC (.int 1))) (ae))) (gN 3))
  (ao (aJ (al nn 2 (aa (ag 0) (aa (ag 2) (ae)))) (gN 4))
  (ao (aJ (f2 bU (f2 fJ (al aF 2 (aa (ag 0) (aa (fC (.int 49)) (ae)))) (f2 Dd (fC (.int 10)) (fC (.int 40)))) (fC (.int 1))) (gN 5))
  (ao (bT (fT (f2 lX (f2 fJ (al aF 2 (aa (ag 0) (aa (fC (.int 50)) (ae)))) (fC (.int 2))) (fC (.int 1))))
  (aJ (f1 jS (ac 5)) (gN 5))
  (az))
  (ao (bT (kZ (cI (bF (al bY 2 (aa (al ca 1 (aa (ag 4) (ae))) (aa (b9 (ae)) (ae)))))) (cI (bF (al bY 2 (aa (al ka 1 (aa (ag 4) (ae))) (aa (b9 (aa (b9 (ae)) (aa (b9 (ae)) (ae)))) (ae)))))))
  (aG (fC (.bl false)))
  (az))
  (ao (d7 (bg (f2 aP (ac 2) (fC (.int 1)))) (gN 6) (nu))
  (aG (al bz 2 (aa (ag 2) (aa (al j8 1 (aa (ag 4) (ae))) (ae))))))))))))
def r9:List D->R D:=aC 1 9 B0
end My
namespace My
open PySem PySem.Spec PyProof.Rows L2 L2.Pu
section
local macro_rules|`(tactic|sleep 30)=>`(tactic|exact⟨rfl,rfl,rfl,by decide+kernel,rfl,by decide+kernel,by decide+kernel⟩)
local macro_rules|`(tactic|sleep 1)=>`(tactic|first|(guard_target =~ PQ _ _ _ (ag _);exact Ex _)|(guard_target =~ PQ _ _ (.Constant _ _ _) _;first|exact I9|exact Ib|exact JV|exact Ia)|(guard_target =~ PQ _ _ (.BoolOp _ [_] _) _;refine Ij ?_;sleep 1)|(guard_target =~ PQ _ _ _ (fC _);exact D2 rfl (by assumption))|(guard_target =~ PQ _ _ _ (f2 bU _ _);refine qO D8 D9 ?_ ?_<;>sleep 2)|(guard_target =~ PQ _ _ _ (f2 iP _ _);refine qO Fk De ?_ ?_<;>sleep 2)|(guard_target =~ PQ _ _ _ (f2 lW _ _);refine qO wI Dh ?_ ?_<;>sleep 2)|(guard_target =~ PQ _ _ _ (f2 ju _ _);refine qO Ca Ak ?_ ?_<;>sleep 2)|(guard_target =~ PQ _ _ _ (f2 fJ _ _);refine qO Fo Df ?_ ?_<;>sleep 2)|(guard_target =~ PQ _ _ _ (f2 Dd _ _);refine qO Fp Dg ?_ ?_<;>sleep 2)|(guard_target =~ PQ _ _ _ (f2 aP _ _);refine K2 (nM (by assumption)) ?_ ?_<;>sleep 2)|(guard_target =~ PQ _ _ _ (f2 lX _ _);refine Aa Ei Am ?_ ?_<;>sleep 2)|(guard_target =~ PQ _ _ _ (f2 iQ _ _);refine Aa wt pb ?_ ?_<;>sleep 2)|(guard_target =~ PQ _ _ _ (f2 (bV false) _ _);refine K0 (nM (by assumption)) ?_ ?_<;>sleep 2)|(guard_target =~ PQ _ _ _ (bw _ _ _);refine GC (by assumption) (by decide) ?_;sleep 2)|(guard_target =~ PQ _ _ _ (bG cR _);refine gH yh Dl (Bl.no (by assumption) "len" (by decide)) PySem.boot_len ?_;sleep 4)|(guard_target =~ PQ _ _ _ (bG Ar _);refine gH (xR rfl) Dm (Bl.no (by assumption) "sum" (by decide)) L2.Pu.yn ?_;sleep 4)|(guard_target =~ PQ _ _ _ (bG cJ _);refine gH (iT rfl) jW (Bl.no (by assumption) "sorted" (by decide)) L2.Pu.gK ?_;sleep 4)|(guard_target =~ PQ _ _ _ (bG vB _);refine gH (xH rfl) Dn (Bl.no (by assumption) "min" (by decide)) L2.Pu.Ax ?_;sleep 4)|(guard_target =~ PQ _ _ _ (bG vC _);refine gH (xG rfl) Dp (Bl.no (by assumption) "max" (by decide)) L2.Pu.Ay ?_;sleep 4)|(guard_target =~ PQ _ _ _ (bG GH _);refine gH (yy rfl) DK (Bl.no (by assumption) "all" (by decide)) L2.Pu.AY ?_;sleep 4)|(guard_target =~ PQ _ _ _ (bG bZ _);refine fV eO kL (Bl.no (by assumption) "tuple" (by decide)) L2.Pu.fY ?_;sleep 4)|(guard_target =~ PQ _ _ _ (bG k_ _);refine fV rV Aq (Bl.no (by assumption) "list" (by decide)) L2.Pu.qT ?_;sleep 4)|(guard_target =~ PQ _ _ _ (bG Dq _);refine fV xI Dr (Bl.no (by assumption) "int" (by decide)) L2.Pu.tZ ?_;sleep 4)|(guard_target =~ PQ _ _ _ (bG dk _);refine fV (nO rfl) AJ (Bl.no (by assumption) "dict" (by decide)) L2.Pu.qU ?_;sleep 4)|(guard_target =~ PQ _ _ _ (al _ _ _);refine K3 (by assumption) (cw.mono (by assumption) (by first|decide|omega)) ?_;sleep 3)|(guard_target =~ PQ _ _ _ (b9 _);refine Ic ?_;sleep 3)|(guard_target =~ PQ _ _ _ (lU _);refine Ie ?_;sleep 3)|(guard_target =~ PQ _ _ _ (fL _);refine Gc (bA.of rfl (by first|decide+kernel|rfl)) rfl ?_ (λ_ _ _=> ?_) (λ_ _ _=> ?_) (λ_ _ _=> ?_);(·sleep 7);(·sleep 8);(·sleep 13);sleep 1)|(guard_target =~ PQ _ _ _ (bW _ _ _ _ _ ae);refine DA (by assumption) (cw.mono (by assumption) (by first|decide|omega)) ?_;sleep 1)|(guard_target =~ PQ _ _ _ (bW _ _ _ _ _ _);refine Gz (by assumption) (cw.mono (by assumption) (by first|decide|omega)) ?_ ?_;(·sleep 1);sleep 3)|(guard_target =~ PQ _ _ _ (m9 _ _ _ _);refine GA (by assumption) (cw.mono (by assumption) (by first|decide|omega)) ?_;sleep 3)|(guard_target =~ PQ _ _ _ (p8 _ _);refine Ik ?_ ?_<;>sleep 1)|(guard_target =~ PQ _ _ _ (qP _);refine Il ?_;sleep 1)|(guard_target =~ PQ _ _ _ (f1 jS _);refine JW zr Di ?_;sleep 2)|(guard_target =~ PQ _ _ _ (Ha _ _ _);refine D4 ?_ ?_ ?_;(·sleep 5);(·sleep 1);sleep 1)|(guard_target =~ PQ _ _ _ (Av _);refine IB ?_;sleep 2)|(guard_target =~ PQ _ _ _ (yk _ _ _);refine Ds ?_ ?_ ?_;(·sleep 2);(·sleep 12);sleep 12)|(guard_target =~ PQ _ _ _ (fK "bool" _);refine Au (.inl rfl) (Bl.no (by assumption) "isinstance" (by decide)) (Bl.no (by assumption) "bool" (by decide)) L2.Pu.ym ?_;sleep 2)|(guard_target =~ PQ _ _ _ (fK "int" _);refine Au (.inr (.inl rfl)) (Bl.no (by assumption) "isinstance" (by decide)) (Bl.no (by assumption) "int" (by decide)) L2.Pu.tZ ?_;sleep 2)|(guard_target =~ PQ _ _ _ (fK "tuple" _);refine Au (.inr (.inr (.inr (.inl rfl)))) (Bl.no (by assumption) "isinstance" (by decide)) (Bl.no (by assumption) "tuple" (by decide)) L2.Pu.fY ?_;sleep 2)|(guard_target =~ PQ _ _ _ (lY _ _ _);refine Gq (nM (by assumption)) ?_ ?_ ?_;(·sleep 2);(·sleep 1);sleep 1)|(guard_target =~ PQ _ _ _ (sG _);refine AX rfl (Bl.no (by assumption) "len" (by decide)) (Bl.no (by assumption) "set" (by decide)) ?_;sleep 2)|(guard_target =~ PQ _ _ _ (oA _);refine A_ rfl (Bl.no (by assumption) "sorted" (by decide)) ?_;sleep 2)|(guard_target =~ PQ _ _ _ (fZ _);refine uc rfl (Bl.no (by assumption) "list" (by decide)) (Bl.no (by assumption) "range" (by decide)) ?_;sleep 3)|(guard_target =~ PQ _ _ _ (oz _);refine AI rfl (Bl.no (by assumption) "tuple" (by decide)) (Bl.no (by assumption) "reversed" (by decide)) ?_;sleep 2))
local macro_rules|`(tactic|sleep 2)=>`(tactic|first|(guard_target =~ PB _ _ _ (ac _);exact wG _)|(refine PQ.bo ?_;sleep 1))
local macro_rules|`(tactic|sleep 3)=>`(tactic|first|(guard_target =~ sY _ _ _ ae;exact FZ)|(refine D3 ?_ ?_;(·sleep 1);sleep 3))
local macro_rules|`(tactic|sleep 4)=>`(tactic|first|(guard_target =~ BS _ _ _ ae;exact mU)|(refine kK ?_ ?_;(·sleep 2);sleep 4))
local macro_rules|`(tactic|sleep 5)=>`(tactic|first|(guard_target =~ lK _ _ _ (fT (f2 lX _ _));refine nP Ei Am ?_ ?_<;>sleep 2)|(guard_target =~ lK _ _ _ (fT (f2 mW _ _));refine nP Hv Gi ?_ ?_<;>sleep 2)|(guard_target =~ lK _ _ _ (fT (f2 Gf _ _));refine nP Hw Gg ?_ ?_<;>sleep 2)|(guard_target =~ lK _ _ _ (fT (f2 qm _ _));refine nP Hx Gh ?_ ?_<;>sleep 2)|(guard_target =~ lK _ _ _ (fT (f2 tR _ _));refine nP Fs Dj ?_ ?_<;>sleep 2)|(guard_target =~ lK _ _ _ (fT (f2 iQ _ _));refine nP wt pb ?_ ?_<;>sleep 2)|(guard_target =~ lK _ _ _ (fT (f2 (bV false) _ _));refine K1 (nM (by assumption)) ?_ ?_<;>sleep 2)|(guard_target =~ lK _ _ _ (fT (f2 (bV true) _ _));refine Dk (nM (by assumption)) ?_ ?_<;>sleep 2)|(guard_target =~ lK _ _ _ (bF _);refine Im ?_;sleep 2)|(guard_target =~ lK _ _ _ (cI _);refine Ii ?_;sleep 5)|(refine yb.t ?_;sleep 6))
local macro_rules|`(tactic|sleep 6)=>`(tactic|first|(guard_target =~ yb _ _ (.BoolOp .And [_] _) _;refine G1 ?_;sleep 5)|(guard_target =~ yb _ _ (.BoolOp .Or [_] _) _;refine Ig ?_;sleep 5)|(guard_target =~ yb _ _ _ (tL _ _);refine Ih ?_ ?_;(·sleep 5);sleep 6)|(guard_target =~ yb _ _ _ (kZ _ _);refine JX ?_ ?_;(·sleep 5);sleep 6))
local macro_rules|`(tactic|sleep 7)=>`(tactic|first|(guard_target =~ BU _ _ _ _ (du _);refine Af (Bl.no (by assumption) "range" (by decide)) ?_;sleep 3)|(guard_target =~ BU _ _ _ _ (lV _);refine Ag (Bl.no (by assumption) "range" (by decide)) ?_;sleep 3)|(refine Iy ?_;sleep 1))
local macro_rules|`(tactic|sleep 8)=>`(tactic|first|(guard_target =~ Ab _ _ _ (gN _);exact G3 _ (by first|exact bd.nd (by assumption)|exact of_decide_eq_true (by kernel_rfl)))|(refine Iq rfl ?_;sleep 11))
local macro_rules|`(tactic|sleep 9)=>`(tactic|first|(guard_target =~ jP _ _ [] _;exact G2)|(guard_target =~ jP _ _ [_] _;refine jQ ?_;sleep 10)|(refine ox ?_ ?_;(·sleep 10);sleep 9))
local macro_rules|`(tactic|sleep 10)=>`(tactic|first|(guard_target =~ d_ _ _ _ (mV _ _);refine Io _ ?_;sleep 10)|(guard_target =~ d_ _ _ _ (aJ _ (gN _));refine Iu _ (by first|exact bd.nd (by assumption)|exact of_decide_eq_true (by kernel_rfl)) ?_;sleep 1)|(guard_target =~ d_ _ _ _ (bT _ _ _);refine JZ ?_ ?_ ?_;(·sleep 5);(·sleep 9);sleep 9)|(guard_target =~ d_ _ _ _ (aG _);refine Ip ?_;sleep 1)|(guard_target =~ d_ _ _ _ (d7 _ _ _);refine Iw S9 rfl ?_ ?_ ?_;(·sleep 7);(·sleep 8);sleep 9)|(guard_target =~ d_ _ _ _ (aJ _ _);refine Ir ?_ ?_;(·sleep 1);sleep 8)|(guard_target =~ d_ _ _ _ (kW _ _);refine Aj _ ?_;sleep 1)|(guard_target =~ d_ _ _ _ (jt _ _);refine G6 _ (by first|exact bd.nd (by assumption)|exact of_decide_eq_true (by kernel_rfl)) ?_;sleep 3)|(guard_target =~ d_ _ _ _ (gZ _ _);refine DG (by assumption) rfl ?_;sleep 3)|(guard_target =~ d_ _ _ _ (nU _);refine GD ?_;sleep 1)|(guard_target =~ d_ _ _ _ (kX _ _ _);refine Iz _ (nM (by assumption)) ?_ ?_<;>sleep 1)|(guard_target =~ d_ _ _ _ (jR _ (vN _ _ _ _ _ _));refine DL _ (bA.of rfl (by first|decide+kernel|rfl)) rfl (by first|exact bd.nd (by assumption)|exact of_decide_eq_true (by kernel_rfl)) ?_ (λ_ _ _ _=> ?_) (λ_ _ _ _=> ?_) (λ_ _ _ _=> ?_);(·sleep 7);(·sleep 8);(·sleep 13);sleep 1)|(guard_target =~ d_ _ _ _ (jR _ _);refine Gd _ (bA.of rfl (by first|decide+kernel|rfl)) rfl (by first|exact bd.nd (by assumption)|exact of_decide_eq_true (by kernel_rfl)) ?_ (λ_ _ _=> ?_) (λ_ _ _=> ?_) (λ_ _ _=> ?_);(·sleep 7);(·sleep 8);(·sleep 13);sleep 1)|(guard_target =~ d_ _ _ _ (jR _ _);refine Dz _ (bA.of rfl (by first|decide+kernel|rfl)) rfl (by first|exact bd.nd (by assumption)|exact of_decide_eq_true (by kernel_rfl)) ?_ (λ_ _ _=> ?_) (λ_ _ _=> ?_) (λ_ _ _=> ?_);(·sleep 7);(·sleep 8);(·sleep 13);sleep 1)|(guard_target =~ d_ _ _ _ (mf _ _);refine GB _ (by first|exact bd.nd (by assumption)|exact of_decide_eq_true (by kernel_rfl)) ?_;sleep 19)|(guard_target =~ d_ _ _ _ (tM _);exact G7 _ (by first|exact bd.nd (by assumption)|exact of_decide_eq_true (by kernel_rfl)))|(guard_target =~ d_ _ _ _ (sv _ _);refine Dt _ (by first|exact bd.nd (by assumption)|exact of_decide_eq_true (by kernel_rfl)) ?_ (by simp) (by decide);sleep 21)|(guard_target =~ d_ _ _ _ (yf _ _ _);refine IA _ _ (by first|exact bd.nd (by assumption)|exact of_decide_eq_true (by kernel_rfl)) ?_;sleep 1)|(guard_target =~ d_ _ _ _ (D6 _ _ _);refine Iv _ _ rfl (by first|exact bd.nd (by assumption)|exact of_decide_eq_true (by kernel_rfl)) ?_;sleep 3)|(guard_target =~ d_ _ _ _ (wO _ _ _ _);refine GG _ rfl ?_ ?_;(·sleep 1);sleep 11)|(guard_target =~ d_ _ _ _ (yA _ _);refine AZ _ ?_;sleep 1)|(guard_target =~ d_ _ _ _ (bP _ _ _);refine D7 _ S9 ?_ ?_;(·sleep 5);sleep 9)|(guard_target =~ d_ _ _ _ (uh _ _ _);refine GI _ (nM (by assumption)) ?_ ?_<;>sleep 1)|(guard_target =~ d_ _ _ _ (DI _ AT _);refine IP _ (by first|exact bd.nd (by assumption)|exact of_decide_eq_true (by kernel_rfl)) Cb AU ?_;sleep 1)|(guard_target =~ d_ _ _ _ (Gy);exact IK))
local macro_rules|`(tactic|sleep 11)=>`(tactic|first|(guard_target =~ yd _ _ _ cS;exact G4)|(refine D5 ?_ ?_;(·sleep 8);sleep 11))
local macro_rules|`(tactic|sleep 12)=>`(tactic|first|(guard_target =~ IC _ _ _ iu;exact Go)|(refine Gp ?_;sleep 1))
local macro_rules|`(tactic|sleep 13)=>`(tactic|first|(guard_target =~ tO _ _ _ iO;exact Ga)|(refine Gb ?_;sleep 5))
local macro_rules|`(tactic|sleep 19)=>`(tactic|first|(guard_target =~ PN _ _ _ (bG dk _);refine AO (nO rfl) yr (Bl.no (by assumption) "dict" (by decide)) L2.Pu.qU ?_;sleep 4)|(guard_target =~ PN _ _ _ (f2 qZ _ _);refine IN wI AQ ?_ ?_<;>sleep 2))
local macro_rules|`(tactic|sleep 21)=>`(tactic|first|(exact BW.nil)|(refine BW.cons ?_ ?_ ?_;(·sleep 1);(·sleep 1);sleep 21))
variable {P:Lb} {w:Ll} {K:KU} {mg:L0->Option KW} {base:Lj}
abbrev BN:List L0:=["all","bool","dict","int","isinstance","len","list","max","min","range","reversed","set","sorted","sum","tuple"]
abbrev Ev (K:KU) (mg:L0->Option KW):Prop:=Bl mg BN/\(∃t,mg "OUTSIDE"=some (.int 0 t))/\l6 K mg "Clashing"/\l6 K mg "NotMetered"/\l6 K mg "Twice"/\l6 K mg "UnknownStream"/\AR K "Day" pC
local macro_rules|`(tactic|sleep 31)=>`(tactic|obtain⟨_,⟨_,_⟩,_,_,_,_,_⟩:=‹Ev _ _›)
abbrev gu (P:Lb) (w:Ll) (K:KU) (mg:L0->Option KW) (base:Lj):Prop:=b_ P w K mg base 1 "way_over" 2 cf
abbrev pI:List L0:=["stream","group","source_within","target_within"]
theorem um (A:bc K mg "way_over" lw (pI.take 2)) (_:Ev K mg):gu P w K mg base:=ce (show g_ pI 2 lw by sleep 30) λS=>
 aM A S rfl rfl λf Tg A outer s H E hr=>by sleep 31;sleep 9
abbrev dW (P:Lb) (w:Ll) (K:KU) (mg:L0->Option KW) (base:Lj):Prop:=b_ P w K mg base 2 "brought_by" 3 cB
abbrev ml:List L0:=["streams","amounts","group","amount_by_number"]
theorem qq (A:bc K mg "brought_by" iV (ml.take 3)) (_:Ev K mg) (_:gu P w K mg base):dW P w K mg base:=ce (show g_ ml 3 iV by sleep 30) λS=>
 aM A S rfl rfl λf Tg A outer s H E hr=>by sleep 31;sleep 9
abbrev fR (P:Lb) (w:Ll) (K:KU) (mg:L0->Option KW) (base:Lj):Prop:=b_ P w K mg base 1 "rise_of" 2 d9
abbrev rb:List L0:=["rises","group"]
theorem vS (A:bc K mg "rise_of" n4 (rb.take 2)) (_:Ev K mg):fR P w K mg base:=ce (show g_ rb 2 n4 by sleep 30) λS=>
 aM A S rfl rfl λf Tg A outer s H E hr=>by sleep 31;refine jQ ?_;sleep 10
abbrev jf (P:Lb) (w:Ll) (K:KU) (mg:L0->Option KW) (base:Lj):Prop:=b_ P w K mg base 1 "steps_from" 2 fM
abbrev mn:List L0:=["streams","place","steps","number","source","target"]
theorem qr (A:bc K mg "steps_from" iX (mn.take 2)) (_:Ev K mg):jf P w K mg base:=ce (show g_ mn 2 iX by sleep 30) λS=>
 aM A S rfl rfl λf Tg A outer s H E hr=>by sleep 31;sleep 9
abbrev dz (P:Lb) (w:Ll) (K:KU) (mg:L0->Option KW) (base:Lj):Prop:=b_ P w K mg base 2 "arrivals_from" 2 c8
abbrev jx:List L0:=["streams","start","arrivals","waiting","place","number","direction","end"]
theorem nv (A:bc K mg "arrivals_from" fj (jx.take 2)) (_:Ev K mg) (_:jf P w K mg base):dz P w K mg base:=ce (show g_ jx 2 fj by sleep 30) λS=>
 aM A S rfl rfl λf Tg A outer s H E hr=>by sleep 31;sleep 9
abbrev da (P:Lb) (w:Ll) (K:KU) (mg:L0->Option KW) (base:Lj):Prop:=b_ P w K mg base 3 "bunches_of" 2 bB
abbrev mq:List L0:=["tanks","streams","bunches","placed","place","bunch","member"]
theorem qt (A:bc K mg "bunches_of" iZ (mq.take 2)) (_:Ev K mg) (_:dz P w K mg base):da P w K mg base:=ce (show g_ mq 2 iZ by sleep 30) λS=>
 aM A S rfl rfl λf Tg A outer s H E hr=>by sleep 31;sleep 9
abbrev iA (P:Lb) (w:Ll) (K:KU) (mg:L0->Option KW) (base:Lj):Prop:=b_ P w K mg base 3 "path_of" 3 dI
abbrev re:List L0:=["streams","start","goal","arrivals","steps","place","arrival"]
theorem vT (A:bc K mg "path_of" n5 (re.take 3)) (_:Ev K mg) (_:dz P w K mg base):iA P w K mg base:=ce (show g_ re 3 n5 by sleep 30) λS=>
 aM A S rfl rfl λf Tg A outer s H E hr=>by sleep 31;sleep 9
abbrev cG (P:Lb) (w:Ll) (K:KU) (mg:L0->Option KW) (base:Lj):Prop:=jV P w K mg base 1 "Day" "stream" 2 bQ
abbrev mr:List L0:=["self","number","stream"]
theorem qu (A:ls K "Day" "stream" "Day.stream" j0 (mr.take 2)) (_:Ev K mg):cG P w K mg base:=ce (show g_ mr 2 j0 by sleep 30) λS=>
 iy A S rfl rfl λf Tg A outer s H E hr=>by sleep 31;sleep 9
abbrev bS (P:Lb) (w:Ll) (K:KU) (mg:L0->Option KW) (base:Lj):Prop:=jV P w K mg base 2 "Day" "metered" 2 aS
abbrev l7:List L0:=["self","number","stream"]
theorem pJ (A:ls K "Day" "metered" "Day.metered" hJ (l7.take 2)) (_:Ev K mg) (_:cG P w K mg base):bS P w K mg base:=ce (show g_ l7 2 hJ by sleep 30) λS=>
 iy A S rfl rfl λf Tg A outer s H E hr=>by sleep 31;sleep 9
abbrev bj (P:Lb) (w:Ll) (K:KU) (mg:L0->Option KW) (base:Lj):Prop:=jV P w K mg base 3 "Day" "without_meter" 1 aN
abbrev fF:List L0:=["self"]
theorem kr (A:ls K "Day" "without_meter" "Day.without_meter" dh (fF.take 1)) (_:Ev K mg) (_:bS P w K mg base):bj P w K mg base:=ce (show g_ fF 1 dh by sleep 30) λS=>
 iy A S rfl rfl λf Tg A outer s H E hr=>by sleep 31;refine jQ ?_;sleep 10
abbrev bR (P:Lb) (w:Ll) (K:KU) (mg:L0->Option KW) (base:Lj):Prop:=b_ P w K mg base 4 "others_without_meter" 2 b6
abbrev dX:List L0:=["day","number"]
theorem iB (A:bc K mg "others_without_meter" cC (dX.take 2)) (_:Ev K mg) (_:bj P w K mg base):bR P w K mg base:=ce (show g_ dX 2 cC by sleep 30) λS=>
 aM A S rfl rfl λf Tg A outer s H E hr=>by sleep 31;refine jQ ?_;sleep 10
abbrev nw (P:Lb) (w:Ll) (K:KU) (mg:L0->Option KW) (base:Lj):Prop:=b_ P w K mg base 5 "ring_of" 2 fQ
abbrev rf:List L0:=["day","number","stream","way_back"]
theorem vU (A:bc K mg "ring_of" n6 (rf.take 2)) (_:Ev K mg) (_:bS P w K mg base) (_:cG P w K mg base) (_:iA P w K mg base) (_:bR P w K mg base):nw P w K mg base:=ce (show g_ rf 2 n6 by sleep 30) λS=>
 aM A S rfl rfl λf Tg A outer s H E hr=>by sleep 31;sleep 9
abbrev dY (P:Lb) (w:Ll) (K:KU) (mg:L0->Option KW) (base:Lj):Prop:=b_ P w K mg base 4 "clashes_of" 1 ca
abbrev mw:List L0:=["day","clashes","bunch","rise","brought"]
theorem qv (A:bc K mg "clashes_of" j4 (mw.take 1)) (_:Ev K mg) (_:da P w K mg base) (_:bj P w K mg base) (_:fR P w K mg base) (_:dW P w K mg base):dY P w K mg base:=ce (show g_ mw 1 j4 by sleep 30) λS=>
 aM A S rfl rfl λf Tg A outer s H E hr=>by sleep 31;sleep 9
abbrev db (P:Lb) (w:Ll) (K:KU) (mg:L0->Option KW) (base:Lj):Prop:=b_ P w K mg base 5 "refuse_clashes" 1 bx
abbrev iC:List L0:=["day"]
theorem mx (A:bc K mg "refuse_clashes" eG (iC.take 1)) (_:Ev K mg) (_:dY P w K mg base):db P w K mg base:=ce (show g_ iC 1 eG by sleep 30) λS=>
 aM A S rfl rfl λf Tg A outer s H E hr=>by sleep 31;refine jQ ?_;sleep 10
abbrev ny (P:Lb) (w:Ll) (K:KU) (mg:L0->Option KW) (base:Lj):Prop:=b_ P w K mg base 3 "lack_of" 2 n9
abbrev rg:List L0:=["day","tank"]
theorem vV (A:bc K mg "lack_of" n8 (rg.take 2)) (_:Ev K mg) (_:fR P w K mg base) (_:dW P w K mg base):ny P w K mg base:=ce (show g_ rg 2 n8 by sleep 30) λS=>
 aM A S rfl rfl λf Tg A outer s H E hr=>by sleep 31;refine jQ ?_;sleep 10
abbrev jg (P:Lb) (w:Ll) (K:KU) (mg:L0->Option KW) (base:Lj):Prop:=b_ P w K mg base 6 "setting_of" 1 j8
abbrev my:List L0:=["day","amounts","unmetered","bunch","tank","lack","number","direction"]
theorem qw (A:bc K mg "setting_of" j6 (my.take 1)) (_:Ev K mg) (_:db P w K mg base) (_:bj P w K mg base) (_:da P w K mg base) (_:ny P w K mg base) (_:iA P w K mg base):jg P w K mg base:=ce (show g_ my 1 j6 by sleep 30) λS=>
 aM A S rfl rfl λf Tg A outer s H E hr=>by sleep 31;sleep 9
abbrev lF (P:Lb) (w:Ll) (K:KU) (mg:L0->Option KW) (base:Lj):Prop:=b_ P w K mg base 5 "group_of" 2 dC
abbrev pK:List L0:=["day","number","stream","bunch"]
theorem uo (A:bc K mg "group_of" lx (pK.take 2)) (_:Ev K mg) (_:bS P w K mg base) (_:cG P w K mg base) (_:da P w K mg base) (_:bR P w K mg base) (_:gu P w K mg base):lF P w K mg base:=ce (show g_ pK 2 lx by sleep 30) λS=>
 aM A S rfl rfl λf Tg A outer s H E hr=>by sleep 31;sleep 9
abbrev ic (P:Lb) (w:Ll) (K:KU) (mg:L0->Option KW) (base:Lj):Prop:=b_ P w K mg base 3 "amount_left" 3 eV
abbrev l8:List L0:=["day","number","group","left"]
theorem pL (A:bc K mg "amount_left" hW (l8.take 3)) (_:Ev K mg) (_:fR P w K mg base) (_:dW P w K mg base) (_:gu P w K mg base) (_:cG P w K mg base):ic P w K mg base:=ce (show g_ l8 3 hW by sleep 30) λS=>
 aM A S rfl rfl λf Tg A outer s H E hr=>by sleep 31;sleep 9
abbrev ie (P:Lb) (w:Ll) (K:KU) (mg:L0->Option KW) (base:Lj):Prop:=jV P w K mg base 3 "Day" "reading" 2 cO
abbrev l9:List L0:=["self","number"]
theorem pM (A:ls K "Day" "reading" "Day.reading" hZ (l9.take 2)) (_:Ev K mg) (_:bS P w K mg base):ie P w K mg base:=ce (show g_ l9 2 hZ by sleep 30) λS=>
 iy A S rfl rfl λf Tg A outer s H E hr=>by sleep 31;sleep 9
abbrev nz (P:Lb) (w:Ll) (K:KU) (mg:L0->Option KW) (base:Lj):Prop:=b_ P w K mg base 6 "told_of" 2 dJ
abbrev rh:List L0:=["day","number","has_meter","group"]
theorem vW (A:bc K mg "told_of" ng (rh.take 2)) (_:Ev K mg) (_:bS P w K mg base) (_:db P w K mg base) (_:ie P w K mg base) (_:lF P w K mg base) (_:ic P w K mg base) (_:nw P w K mg base):nz P w K mg base:=ce (show g_ rh 2 ng by sleep 30) λS=>
 aM A S rfl rfl λf Tg A outer s H E hr=>by sleep 31;sleep 9
abbrev lG (P:Lb) (w:Ll) (K:KU) (mg:L0->Option KW) (base:Lj):Prop:=sB P w K mg base 1 "Day" 4 bX
theorem nW:bd ["self","tanks","streams","rises","readings","self.tanks","self.streams","self.rises","self.readings"] ["self","tanks","streams","rises","readings"] (aA j9):=⟨rfl,rfl,rfl,by decide+kernel,rfl,by decide+kernel,by decide+kernel⟩
theorem gP:∀g∈(["self.tanks","self.streams","self.rises","self.readings"]:List L0),¬t4 (aA j9) g:=by unfold t4;decide+kernel
theorem uq (A:vK K mg "Day" "Day.__init__" j9 ["self","tanks","streams","rises","readings"] pC) (B:Bl mg BN):sB P w K mg base 1 "Day" 4 bX:=by
 refine yt A nW rfl rfl (by decide) (by decide) λC f Tg A outer s H E hC VG hr=> ?_
 have hu:=nM hr
 have S:=nW
 exact ox (sA 5 hC (VG "tanks" (by decide)) (sE (by decide) (by decide) (by decide) (by decide)) (Ex 1) (hvis:=gP "self.tanks" (by decide))) (ox (sA 6 hC (VG "streams" (by decide)) (sE (by decide) (by decide) (by decide) (by decide)) (fV eO kL (B.no "tuple" (by decide)) L2.Pu.fY (kK (PQ.bo (gH (iT rfl) jW (B.no "sorted" (by decide)) L2.Pu.gK (kK (wG 2) (mU)))) (mU))) (hvis:=gP "self.streams" (by decide))) (ox (sA 7 hC (VG "rises" (by decide)) (sE (by decide) (by decide) (by decide) (by decide)) (fV eO kL (B.no "tuple" (by decide)) L2.Pu.fY (kK (wG 3) (mU))) (hvis:=gP "self.rises" (by decide))) (jQ (sA 8 hC (VG "readings" (by decide)) (sE (by decide) (by decide) (by decide) (by decide)) (fV eO kL (B.no "tuple" (by decide)) L2.Pu.fY (kK (PQ.bo (gH (iT rfl) jW (B.no "sorted" (by decide)) L2.Pu.gK (kK (wG 4) (mU)))) (mU))) (hvis:=gP "self.readings" (by decide))))))
abbrev ku (P:Lb) (w:Ll) (K:KU) (mg:L0->Option KW) (base:Lj):Prop:=jV P w K mg base 3 "Day" "doubting" 2 pF
abbrev kx:List L0:=["self","numbers","meters_there","kept"]
theorem oh (A:ls K "Day" "doubting" "Day.doubting" gk (kx.take 2)) (_:Ev K mg) (_:bS P w K mg base) (_:lG P w K mg base):ku P w K mg base:=ce (show g_ kx 2 gk by sleep 30) λS=>
 iy A S rfl rfl λf Tg A outer s H E hr=>by sleep 31;sleep 9
abbrev cH (P:Lb) (w:Ll) (K:KU) (mg:L0->Option KW) (base:Lj):Prop:=b_ P w K mg base 4 "shut_group_with_rise" 1 cF
abbrev dZ:List L0:=["day","bunch"]
theorem iD (A:bc K mg "shut_group_with_rise" cD (dZ.take 1)) (_:Ev K mg) (_:da P w K mg base) (_:fR P w K mg base):cH P w K mg base:=ce (show g_ dZ 1 cD by sleep 30) λS=>
 aM A S rfl rfl λf Tg A outer s H E hr=>by sleep 31;sleep 9
abbrev nX (P:Lb) (w:Ll) (K:KU) (mg:L0->Option KW) (base:Lj):Prop:=b_ P w K mg base 4 "ends_tied" 2 uk
abbrev nY:List L0:=["day","number","stream"]
theorem sI (A:bc K mg "ends_tied" jY (nY.take 2)) (_:Ev K mg) (_:cG P w K mg base) (_:iA P w K mg base) (_:bj P w K mg base):nX P w K mg base:=ce (show g_ nY 2 jY by sleep 30) λS=>
 aM A S rfl rfl λf Tg A outer s H E hr=>by sleep 31;sleep 9
abbrev gw (P:Lb) (w:Ll) (K:KU) (mg:L0->Option KW) (base:Lj):Prop:=b_ P w K mg base 5 "first_doubts" 3 dS
abbrev ky:List L0:=["day","meters","size","at","number","further"]
theorem oi (A:bc K mg "first_doubts" gl (ky.take 3)) (_:Ev K mg) (_:dY P w K mg base):gw P w K mg base:=ce (show g_ ky 3 gl by sleep 30) λS=>
 aM A S rfl rfl λf Tg A outer s H E hr=>by sleep 31;sleep 9
abbrev kz (P:Lb) (w:Ll) (K:KU) (mg:L0->Option KW) (base:Lj):Prop:=b_ P w K mg base 6 "doubts_of" 1 ka
abbrev nZ:List L0:=["day","shut","meters","size","doubts"]
theorem sJ (A:bc K mg "doubts_of" jZ (nZ.take 1)) (_:Ev K mg) (_:cH P w K mg base) (_:gw P w K mg base):kz P w K mg base:=ce (show g_ nZ 1 jZ by sleep 30) λS=>
 aM A S rfl rfl λf Tg A outer s H E hr=>by sleep 31;sleep 9
abbrev pN (P:Lb) (w:Ll) (K:KU) (mg:L0->Option KW) (base:Lj):Prop:=b_ P w K mg base 1 "_law_at" 2 f6
abbrev ur:List L0:=["_law_script","_law_k"]
theorem yG (A:bc K mg "_law_at" pG (ur.take 2)) (_:Ev K mg):pN P w K mg base:=ce (show g_ ur 2 pG by sleep 30) λS=>
 aM A S rfl rfl λf Tg A outer s H E hr=>by sleep 31;sleep 9
abbrev d5 (P:Lb) (w:Ll) (K:KU) (mg:L0->Option KW) (base:Lj):Prop:=b_ P w K mg base 2 "_law_cell" 2 aF
abbrev pO:List L0:=["_law_script","_law_k","_law_mixed"]
theorem ut (A:bc K mg "_law_cell" lz (pO.take 2)) (_:Ev K mg) (_:pN P w K mg base):d5 P w K mg base:=ce (show g_ pO 2 lz by sleep 30) λS=>
 aM A S rfl rfl λf Tg A outer s H E hr=>by sleep 31;sleep 9
abbrev gz (P:Lb) (w:Ll) (K:KU) (mg:L0->Option KW) (base:Lj):Prop:=b_ P w K mg base 8 "_law_same" 2 bY
abbrev pP:List L0:=["_law_found","_law_due","_law_k"]
theorem uu (A:bc K mg "_law_same" lB (pP.take 2)) (_:Ev K mg):gz P w K mg base:=ce (show g_ pP 2 lB by sleep 30) λS=>by
 have R:∀n,b_ P w K mg base n "_law_same" 2 (d0 n):=by
  intro n
  induction n with
  |zero=>exact yE S A rfl
  |succ n a23=>exact aM A S rfl rfl λf Tg A outer s H E hr=>by sleep 31;sleep 9
 exact(R 8).mono (by decide)
abbrev gQ (P:Lb) (w:Ll) (K:KU) (mg:L0->Option KW) (base:Lj):Prop:=b_ P w K mg base 1 "_law_whole" 1 d4
abbrev n_:List L0:=["_law_found"]
theorem sK (A:bc K mg "_law_whole" kb (n_.take 1)) (_:Ev K mg):gQ P w K mg base:=ce (show g_ n_ 1 kb by sleep 30) λS=>
 aM A S rfl rfl λf Tg A outer s H E hr=>by sleep 31;refine jQ ?_;sleep 10
abbrev ig (P:Lb) (w:Ll) (K:KU) (mg:L0->Option KW) (base:Lj):Prop:=b_ P w K mg base 3 "_law_streams" 3 i6
abbrev la:List L0:=["_law_script","_law_n","_law_many","_law_rows","_law_number","_law_k","_law_room","_law_cell_here","_law_gap","_law_source","_law_target"]
theorem pQ (A:bc K mg "_law_streams" i4 (la.take 3)) (_:Ev K mg) (_:d5 P w K mg base):ig P w K mg base:=ce (show g_ la 3 i4 by sleep 30) λS=>
 aM A S rfl rfl λf Tg A outer s H E hr=>by sleep 31;sleep 9
abbrev ii (P:Lb) (w:Ll) (K:KU) (mg:L0->Option KW) (base:Lj):Prop:=b_ P w K mg base 3 "_law_metered" 3 i9
abbrev lb:List L0:=["_law_script","_law_streams_here","_law_share","_law_found","_law_k"]
theorem pR (A:bc K mg "_law_metered" i7 (lb.take 3)) (_:Ev K mg) (_:d5 P w K mg base):ii P w K mg base:=ce (show g_ lb 3 i7 by sleep 30) λS=>
 aM A S rfl rfl λf Tg A outer s H E hr=>by sleep 31;sleep 9
abbrev lH (P:Lb) (w:Ll) (K:KU) (mg:L0->Option KW) (base:Lj):Prop:=b_ P w K mg base 1 "_law_span" 4 lE
abbrev pS:List L0:=["_law_levels","_law_source","_law_target","_law_most","_law_low","_law_high"]
theorem uv (A:bc K mg "_law_span" lC (pS.take 4)) (_:Ev K mg):lH P w K mg base:=ce (show g_ pS 4 lC by sleep 30) λS=>
 aM A S rfl rfl λf Tg A outer s H E hr=>by sleep 31;sleep 9
abbrev kA (P:Lb) (w:Ll) (K:KU) (mg:L0->Option KW) (base:Lj):Prop:=b_ P w K mg base 2 "_law_flows" 5 kh
abbrev o0:List L0:=["_law_figures","_law_n","_law_streams_here","_law_meters","_law_bounds","_law_levels","_law_rows","_law_k","_law_number","_law_source","_law_target","_law_low","_law_high","_law_amount"]
theorem sL (A:bc K mg "_law_flows" kf (o0.take 5)) (_:Ev K mg) (_:lH P w K mg base):kA P w K mg base:=ce (show g_ o0 5 kf by sleep 30) λS=>
 aM A S rfl rfl λf Tg A outer s H E hr=>by sleep 31;sleep 9
abbrev kB (P:Lb) (w:Ll) (K:KU) (mg:L0->Option KW) (base:Lj):Prop:=b_ P w K mg base 3 "_law_truth" 5 kl
abbrev o1:List L0:=["_law_script","_law_n","_law_streams_here","_law_metered_here","_law_small","_law_figures"]
theorem sM (A:bc K mg "_law_truth" ki (o1.take 5)) (_:Ev K mg) (_:d5 P w K mg base) (_:kA P w K mg base):kB P w K mg base:=ce (show g_ o1 5 ki by sleep 30) λS=>
 aM A S rfl rfl λf Tg A outer s H E hr=>by sleep 31;sleep 9
abbrev fA (P:Lb) (w:Ll) (K:KU) (mg:L0->Option KW) (base:Lj):Prop:=b_ P w K mg base 4 "_law_true_case" 1 fz
abbrev jy:List L0:=["_law_script","_law_n","_law_many","_law_small","_law_streams_here","_law_metered_here","_law_truth_here","_law_readings"]
theorem nB (A:bc K mg "_law_true_case" fu (jy.take 1)) (_:Ev K mg) (_:d5 P w K mg base) (_:ig P w K mg base) (_:ii P w K mg base) (_:kB P w K mg base):fA P w K mg base:=ce (show g_ jy 1 fu by sleep 30) λS=>
 aM A S rfl rfl λf Tg A outer s H E hr=>by sleep 31;sleep 9
abbrev nD (P:Lb) (w:Ll) (K:KU) (mg:L0->Option KW) (base:Lj):Prop:=b_ P w K mg base 3 "_law_day" 2 nn
abbrev rj:List L0:=["_law_script","_law_case","_law_turned","_law_half","_law_mid"]
theorem vX (A:bc K mg "_law_day" nk (rj.take 2)) (_:Ev K mg) (_:d5 P w K mg base) (_:lG P w K mg base):nD P w K mg base:=ce (show g_ rj 2 nk by sleep 30) λS=>
 aM A S rfl rfl λf Tg A outer s H E hr=>by sleep 31;sleep 9
abbrev kC (P:Lb) (w:Ll) (K:KU) (mg:L0->Option KW) (base:Lj):Prop:=b_ P w K mg base 1 "_law_loose" 1 gO
abbrev o3:List L0:=["_law_case","_law_read"]
theorem sN (A:bc K mg "_law_loose" km (o3.take 1)) (_:Ev K mg):kC P w K mg base:=ce (show g_ o3 1 km by sleep 30) λS=>
 aM A S rfl rfl λf Tg A outer s H E hr=>by sleep 31;sleep 9
abbrev nE (P:Lb) (w:Ll) (K:KU) (mg:L0->Option KW) (base:Lj):Prop:=b_ P w K mg base 1 "_law_net" 3 kM
abbrev rm:List L0:=["_law_streams_here","_law_amounts","_law_group","_law_total","_law_carried","_law_tank","_law_number","_law_source","_law_target"]
theorem vY (A:bc K mg "_law_net" nq (rm.take 3)) (_:Ev K mg):nE P w K mg base:=ce (show g_ rm 3 nq by sleep 30) λS=>
 aM A S rfl rfl λf Tg A outer s H E hr=>by sleep 31;sleep 9
abbrev eK (P:Lb) (w:Ll) (K:KU) (mg:L0->Option KW) (base:Lj):Prop:=b_ P w K mg base 9 "_law_is_setting" 2 bz
abbrev iE:List L0:=["_law_case","_law_found","_law_carried","_law_k","_law_row","_law_number","_law_reading","_law_tank"]
theorem mz (A:bc K mg "_law_is_setting" eI (iE.take 2)) (_:Ev K mg) (_:gz P w K mg base) (_:gQ P w K mg base) (_:nE P w K mg base):eK P w K mg base:=ce (show g_ iE 2 eI by sleep 30) λS=>
 aM A S rfl rfl λf Tg A outer s H E hr=>by sleep 31;sleep 9
abbrev jh (P:Lb) (w:Ll) (K:KU) (mg:L0->Option KW) (base:Lj):Prop:=b_ P w K mg base 2 "_law_is_way" 4 je
abbrev mB:List L0:=["_law_streams_here","_law_steps","_law_place","_law_goal","_law_ends","_law_number","_law_source","_law_target","_law_passed","_law_step"]
theorem qx (A:bc K mg "_law_is_way" jc (mB.take 4)) (_:Ev K mg) (_:gQ P w K mg base):jh P w K mg base:=ce (show g_ mB 4 jc by sleep 30) λS=>
 aM A S rfl rfl λf Tg A outer s H E hr=>by sleep 31;sleep 9
abbrev ij (P:Lb) (w:Ll) (K:KU) (mg:L0->Option KW) (base:Lj):Prop:=b_ P w K mg base 9 "_law_is_ring" 3 dq
abbrev lc:List L0:=["_law_case","_law_stream","_law_ring","_law_others"]
theorem pT (A:bc K mg "_law_is_ring" ia (lc.take 3)) (_:Ev K mg) (_:gz P w K mg base) (_:kC P w K mg base) (_:jh P w K mg base):ij P w K mg base:=ce (show g_ lc 3 ia by sleep 30) λS=>
 aM A S rfl rfl λf Tg A outer s H E hr=>by sleep 31;sleep 9
abbrev kD (P:Lb) (w:Ll) (K:KU) (mg:L0->Option KW) (base:Lj):Prop:=b_ P w K mg base 1 "_law_moved" 3 f7
abbrev o4:List L0:=["_law_truth_here","_law_ring","_law_more","_law_moved_here","_law_number","_law_way"]
theorem sO (A:bc K mg "_law_moved" ko (o4.take 3)) (_:Ev K mg):kD P w K mg base:=ce (show g_ o4 3 ko by sleep 30) λS=>
 aM A S rfl rfl λf Tg A outer s H E hr=>by sleep 31;sleep 9
abbrev IU:List L0:=["_law_script","_law_built","_law_case","_law_truth_here","_law_day_here","_law_more","_law_stream","_law_found","_law_moved_here"]
theorem GN {f:KZ} {fd:MD} (F:y_ K "law" "law" pH f fd) (_:Ev K mg) (_:fA P w K mg base) (_:nD P w K mg base) (_:d5 P w K mg base) (_:gz P w K mg base) (_:dY P w K mg base) (_:kz P w K mg base) (_:nz P w K mg base) (_:ij P w K mg base) (_:kD P w K mg base) (_:eK P w K mg base) (_:jg P w K mg base):eY P w K mg base (og P w) 10 f fd ["_law_script"] (yc K 1 r9):=ce (show g_ IU 1 pH by sleep 30) λS=>
 G9 F S rfl rfl λTg A outer s H E hr=>by sleep 31;sleep 9
theorem GO {l:QD} {h:Lj} {fa Ts X0 X1 X2 X3:KZ} (X:K.In h) (G:h.Ns Lp mg) (a24:mg "law"=some (.ref fa))
  (Wz:Lz K Lp "Day"=some (some (.ref Ts)))
  (N:GL K RL [X0,X1,X2,X3])
  (Xd:NX K Ts Str.empty=true)
  (Xe:Oy K Ts=true)
  (Xf:PM K Ts=true)
  (Xg:LB K (.ref Ts) "__setattr__"=some (some (.builtin "object.__setattr__")))
  (V0:LB K (.ref Ts) "tanks"=some none)
  (UD:LB K (.ref Ts) "streams"=some none)
  (V1:LB K (.ref Ts) "rises"=some none)
  (Uu:LB K (.ref Ts) "readings"=some none)
  (Xh:OV K Ts=true)
  (Xi:Mg K (.ref Ts)=true)
  (u1:UF K "way_over" lw)
  (u2:UF K "brought_by" iV)
  (u3:UF K "rise_of" n4)
  (u4:UF K "steps_from" iX)
  (u5:UF K "arrivals_from" fj)
  (u6:UF K "bunches_of" iZ)
  (u7:UF K "path_of" n5)
  (u8:yD K Ts "stream" "Day.stream" j0)
  (u9:yD K Ts "metered" "Day.metered" hJ)
  (a25:yD K Ts "without_meter" "Day.without_meter" dh)
  (a26:UF K "others_without_meter" cC)
  (a27:UF K "ring_of" n6)
  (a28:UF K "clashes_of" j4)
  (a29:UF K "refuse_clashes" eG)
  (a2a:UF K "lack_of" n8)
  (a2b:UF K "setting_of" j6)
  (a2c:UF K "group_of" lx)
  (a2d:UF K "amount_left" hW)
  (a2e:yD K Ts "reading" "Day.reading" hZ)
  (a2f:UF K "told_of" ng)
  (a2g:yD K Ts "__init__" "Day.__init__" j9)
  (a2h:yD K Ts "doubting" "Day.doubting" gk)
  (a2i:UF K "shut_group_with_rise" cD)
  (a2j:UF K "ends_tied" jY)
  (a2k:UF K "first_doubts" gl)
  (a2l:UF K "doubts_of" jZ)
  (a2m:UF K "_law_at" pG)
  (a2n:UF K "_law_cell" lz)
  (a2o:UF K "_law_same" lB)
  (a2p:UF K "_law_whole" kb)
  (a2q:UF K "_law_streams" i4)
  (a2r:UF K "_law_metered" i7)
  (a2s:UF K "_law_span" lC)
  (a2t:UF K "_law_flows" kf)
  (a2u:UF K "_law_truth" ki)
  (a2v:UF K "_law_true_case" fu)
  (a2w:UF K "_law_day" nk)
  (a2x:UF K "_law_loose" km)
  (a2y:UF K "_law_net" nq)
  (a2z:UF K "_law_is_setting" eI)
  (a2A:UF K "_law_is_way" jc)
  (a2B:UF K "_law_is_ring" ia)
  (a2C:UF K "_law_moved" ko)
  (a2D:UF K "law" pH)
  (Z:K8 K)
  (E:GK K [X0,X1,X2,X3])
  {Vw:Tok}
  (Vx:Lz K Lp "OUTSIDE"=some (some (.int 0 Vw)))
  (z0:Lz K Lp "all"=some none)
  (z1:Lz K Lp "bool"=some none)
  (z2:Lz K Lp "dict"=some none)
  (z3:Lz K Lp "int"=some none)
  (z4:Lz K Lp "isinstance"=some none)
  (z5:Lz K Lp "len"=some none)
  (z6:Lz K Lp "list"=some none)
  (z7:Lz K Lp "max"=some none)
  (z8:Lz K Lp "min"=some none)
  (z9:Lz K Lp "range"=some none)
  (YN:Lz K Lp "reversed"=some none)
  (ZV:Lz K Lp "set"=some none)
  (ZW:Lz K Lp "sorted"=some none)
  (ZX:Lz K Lp "sum"=some none)
  (a2E:Lz K Lp "tuple"=some none)
  :∃fd:MD,(∀(s:KY) (v:KW),QR s fd ⟨[v],[]⟩ [("_law_script",v)])/\∀base:Lj,K.In base->base.Ns Lp mg->eY l.prog w K mg base (og l.prog w) 10 fa fd ["_law_script"] (yc K 1 r9):=by
 obtain⟨f0,a3v,a3w,a2F,a2G,a2H,a2I,a2J,a2K,a3x,a0,l0,c0,k0⟩:=a2D
 have e:=a24.symm.trans (OH X G a0)
 cases e
 have B:Bl mg BN:=⟨λx hx=>by
  simp only[BN,Le,Ss,or_false]at hx
  rcases hx with rfl|rfl|rfl|rfl|rfl|rfl|rfl|rfl|rfl|rfl|rfl|rfl|rfl|rfl|rfl
  ·exact LV X G z0
  ·exact LV X G z1
  ·exact LV X G z2
  ·exact LV X G z3
  ·exact LV X G z4
  ·exact LV X G z5
  ·exact LV X G z6
  ·exact LV X G z7
  ·exact LV X G z8
  ·exact LV X G z9
  ·exact LV X G YN
  ·exact LV X G ZV
  ·exact LV X G ZW
  ·exact LV X G ZX
  ·exact LV X G a2E⟩
 have U7:m7 K "Day" Ts:=⟨Wz,Xd,Xe,Xf,Xg⟩
 have W0:∀x∈pC,eh K Ts x:=λx hx=>by
  simp only[pC,Le,Ss,or_false]at hx
  rcases hx with rfl|rfl|rfl|rfl
  ·exact V0
  ·exact UD
  ·exact V1
  ·exact Uu
 have Yq:AR K "Day" pC:=⟨_,U7,W0⟩
 have Vf:=OH X G Vx
 have Vg:l6 K mg "Clashing":=mh Z X G N E _ (by decide+kernel)
 have UR:l6 K mg "NotMetered":=mh Z X G N E _ (by decide+kernel)
 have Wn:l6 K mg "Twice":=mh Z X G N E _ (by decide+kernel)
 have Uk:l6 K mg "UnknownStream":=mh Z X G N E _ (by decide+kernel)
 have ev:Ev K mg:=⟨B,⟨_,Vf⟩,Vg,UR,Wn,Uk,Yq⟩
 refine⟨M3 "law" "law" (cm pH) (bi pH) (aA pH) .none a2F a2G a2H a2I a2J a2K,λs v=> .of_eq rfl,λbase _ _=> ?_⟩
 have U8:gu l.prog w K mg base:=um (u1.at X G b2) ev
 have TR:dW l.prog w K mg base:=qq (u2.at X G b3) ev U8
 have U3:fR l.prog w K mg base:=vS (u3.at X G b2) ev
 have US:jf l.prog w K mg base:=qr (u4.at X G b2) ev
 have TX:dz l.prog w K mg base:=nv (u5.at X G b2) ev US
 have Tx:da l.prog w K mg base:=qt (u6.at X G b2) ev TX
 have Ug:iA l.prog w K mg base:=vT (u7.at X G b3) ev TX
 have Tt:cG l.prog w K mg base:=qu (u8.at U7 b2) ev
 have Tp:bS l.prog w K mg base:=pJ (u9.at U7 b2) ev Tt
 have Tn:bj l.prog w K mg base:=kr (a25.at U7 b1) ev Tp
 have Tu:bR l.prog w K mg base:=iB (a26.at X G b2) ev Tn
 have Vy:nw l.prog w K mg base:=vU (a27.at X G b2) ev Tp Tt Ug Tu
 have TU:dY l.prog w K mg base:=qv (a28.at X G b1) ev Tx Tn U3 TR
 have TN:db l.prog w K mg base:=mx (a29.at X G b1) ev TU
 have Vz:ny l.prog w K mg base:=vV (a2a.at X G b2) ev U3 TR
 have UT:jg l.prog w K mg base:=qw (a2b.at X G b1) ev TN Tn Tx Vz Ug
 have Vh:lF l.prog w K mg base:=uo (a2c.at X G b2) ev Tp Tt Tx Tu U8
 have UE:ic l.prog w K mg base:=pL (a2d.at X G b3) ev U3 TR U8 Tt
 have UG:ie l.prog w K mg base:=pM (a2e.at U7 b2) ev Tp
 have VA:nz l.prog w K mg base:=vW (a2f.at X G b2) ev Tp TN UG Vh UE Vy
 have Uv:lG l.prog w K mg base:=uq (a2g.mk U7 (OH X G Wz) Xh Xi W0 b5) B
 have W2:ku l.prog w K mg base:=oh (a2h.at U7 b2) ev Tp Uv
 have TV:cH l.prog w K mg base:=iD (a2i.at X G b1) ev Tx U3
 have WA:nX l.prog w K mg base:=sI (a2j.at X G b2) ev Tt Ug Tn
 have Uw:gw l.prog w K mg base:=oi (a2k.at X G b3) ev TU
 have V2:kz l.prog w K mg base:=sJ (a2l.at X G b1) ev TV Uw
 have W3:pN l.prog w K mg base:=yG (a2m.at X G b2) ev
 have Tw:d5 l.prog w K mg base:=ut (a2n.at X G b2) ev W3
 have U9:gz l.prog w K mg base:=uu (a2o.at X G b2) ev
 have Ui:gQ l.prog w K mg base:=sK (a2p.at X G b1) ev
 have UH:ig l.prog w K mg base:=pQ (a2q.at X G b3) ev Tw
 have UI:ii l.prog w K mg base:=pR (a2r.at X G b3) ev Tw
 have Vi:lH l.prog w K mg base:=uv (a2s.at X G b4) ev
 have V3:kA l.prog w K mg base:=sL (a2t.at X G b5) ev Vi
 have V4:kB l.prog w K mg base:=sM (a2u.at X G b5) ev Tw V3
 have Ul:fA l.prog w K mg base:=nB (a2v.at X G b1) ev Tw UH UI V4
 have VB:nD l.prog w K mg base:=vX (a2w.at X G b2) ev Tw Uv
 have V5:kC l.prog w K mg base:=sN (a2x.at X G b1) ev
 have VC:nE l.prog w K mg base:=vY (a2y.at X G b3) ev
 have Uh:eK l.prog w K mg base:=mz (a2z.at X G b2) ev U9 Ui VC
 have UU:jh l.prog w K mg base:=qx (a2A.at X G b4) ev Ui
 have UJ:ij l.prog w K mg base:=pT (a2B.at X G b3) ev U9 V5 UU
 have V6:kD l.prog w K mg base:=sO (a2C.at X G b3) ev
 exact GN (lj (st:=pH) l0 c0 k0) ev Ul VB Tw U9 TU V2 VA UJ V6 Uh UT
end
theorem walk {l:QD} {q:Lb} {loose:List L0} {XP:(L0->Option KW)->Lj->Prop} {YP:Ll->Lj->Prop} {d:DefRec} {K:Params->KU} (hn:l.most=some 63) (XT:d.params.defaults=[])
  (hY:∀(w:Ll) (h:Lj),YP w h->(K w.params).In h) (main:∀ns:List Int,ns.length<=63->r9 [.scr ns]= .ok (.bl true))
  (F:∀(w:Ll) (mg:L0->Option KW) (fa:KZ) (h:Lj),(K w.params).In h->h.Ns Lp mg->mg d.name=some (.ref fa)->
   ∃fd:MD,(∀(s:KY) (u:KW),QR s fd ⟨[u],[]⟩ [("_law_script",u)])/\∀base:Lj,(K w.params).In base->base.Ns Lp mg->eY l.prog w (K w.params) mg base (og l.prog w) 10 fa fd ["_law_script"] (yc (K w.params) 1 r9)):
  SX q loose XP YP l.row.toRowW d [] (λf vs=>SG f vs):=
 L2.CG (n:=63) (k:=10) (x:="_law_script") (CX:=λw=>og l.prog w) (sp:=λw=>yc (K w.params) 1 r9) hn (by decide) XT ⟨rfl,by decide,by decide⟩ hY F (λ_ _ a ns hl _ hS=>Gr (main ns hl) hS) λ_ _ _ _ _ z=>L2.Pu.GF z
end My
namespace My
open PySem PySem.Spec PyProof.Rows L2 L2.Pu
local macro_rules|`(tactic|simp! [$xs,*])=>`(tactic|simp only[ao,aJ,gN,bT,aG,az,mV,d7,jt,jR,kW,frz,frz1,Ra,bg,f2,f1,bG,lU,b9,fL,al,p8,JY,qP,Ha,fT,bF,tL,kZ,cI,aa,ae,ag,ac,fC,Av,aj,bH,LP,LQ,MI,MJ,l_,ph,AH,Lm,Ml,RX,Nat.reduceAdd,if_true,if_false,LH,O4,SV,fW,decide_true,decide_false,vE,Az,wJ,wK,ED,ID,IE,IF,vF,AA,Gu,vG,Du,Dv,AB,AD,IG,wL,Oc,NJ,M6,$xs,*])
def cel (ns:List Int) (k:Nat):Int:=ns.getD k 0
theorem wR (ns:List Int) (k:Nat):f6 [.scr ns, .int (k:Int)]= .ok (.int (cel ns k)):=by
 unfold f6 aC
 simp only[cZ,ul,ao,bT,aG,az,f2,bG,ac,fC,fT,aa,ae,Gv,ED,IH,Lm,Ml,if_true,L3,M4,LC,Nat.sub_self,Mb,LP,LQ,Slot.data,aj,bH]
 by_cases h:k<ns.length
 ·have h':(k:Int)<(ns.length:Int):=by omega
  simp only[h',decide_true,if_true,eD h,NJ,bH,aj]
  simp[cel,h]
 ·have h':¬(k:Int)<(ns.length:Int):=by omega
  simp only[h',decide_false,if_false,LH,aj]
  simp[cel,Qc h]
theorem KP (ns:List Int):f6 [.scr ns, .int 0]= .ok (.int (cel ns 0)):=wR ns 0
def cl (ns:List Int) (k:Nat):Int:=if cel ns 0%2=0 then cel ns k else ((cel ns k+cel ns 0 / 2+7919*(k:Int)+1)*48271%2147483647+(k:Int))*69621%2147483647
theorem cP (ns:List Int) (k:Nat):aF [.scr ns, .int (k:Int)]= .ok (.int (cl ns k)):=by
 refine aE rfl ?_
 show lA [some (.val (.scr ns)),some (.val (.int (k:Int))),none]=_
 by_cases h:cel ns 0%2=0<;>simp! [lA,KP,wR,h,bv (show (0:Int)<2 by decide),eC (show (0:Int)<2/\(2:Int)<1073741824 by decide),vD (show Rm 48271<18446744073709551616 by decide),vD (show Rm 69621<18446744073709551616 by decide),sx (show Rm 7919<18446744073709551616 by decide),bv (show (0:Int)<2147483647 by decide),cl]
theorem uw {g:D->af->R af} {gb:af->R aW} {n:Nat} {P:Nat->af->Prop} (h:∀k,k<n->∀ρ,P k ρ->∃ρ1 ρ2,g (.int (k:Int)) ρ= .ok ρ1/\(gb ρ1= .ok (.nx ρ2)\/gb ρ1= .ok (.cnt ρ2))/\P (k+1) ρ2):∀(j k:Nat) (ρ:af),k+j=n->P k ρ->∃ρ',aU g gb ((NP k j).map λk:Nat=>D.int (k:Int)) ρ= .ok (.nx ρ')/\P n ρ'
 |0,k,ρ,e,hp=>⟨ρ,rfl,by rw[Nat.add_zero]at e;exact e▸hp⟩
 |j+1,k,ρ,e,hp=>by
  obtain⟨ρ1,ρ2,e1,e2,h2⟩:=h k (by omega) ρ hp
  obtain⟨ρ',e3,h3⟩:=uw h j (k+1) ρ2 (by omega) h2
  refine⟨ρ',?_,h3⟩
  rw[N_,L3]
  rcases e2 with e2|e2
  ·rw[b8 e1 e2,e3]
  ·rw[AG e1 e2,e3]
theorem wU {g:D->af->R af} {gb:af->R aW} {n:Nat} {P:Nat->af->Prop} {fs:af->R (List D)} {ρ:af} (hf:fs ρ= .ok [.int (n:Int)]) (hn:n<=1000) (h0:P 0 ρ) (h:∀k,k<n->∀ρ,P k ρ->∃ρ1 ρ2,g (.int (k:Int)) ρ= .ok ρ1/\(gb ρ1= .ok (.nx ρ2)\/gb ρ1= .ok (.cnt ρ2))/\P (k+1) ρ2):∃ρ',d7 (du fs) g gb ρ= .ok (.nx ρ')/\P n ρ':=by
 obtain⟨ρ',e,hp⟩:=uw h n 0 ρ (by omega) h0
 rw[<-Nr]at e
 exact⟨ρ',(c7 (ix hf (by unfold lim;omega))).trans e,hp⟩
theorem B1 {α β:Type} (f:α->β) {l:List α} {k:Nat} (h:k<l.length):(l.take (k+1)).map f=(l.take k).map f++[f l[k]]:=by
 rw[<-List.take_append_getElem h,LW];rfl
abbrev aI:=Int×Int×Int
def ak (r:aI):D:= .tup [.int r.1, .int r.2.1, .int r.2.2]
structure Good (n:Nat) (ss:List aI):Prop where
 inc:ss.Pairwise λa b=>a.1<b.1
 num:∀r∈ss,1<=r.1/\r.1<=60
 src:∀r∈ss,0<=r.2.1/\r.2.1<=n
 tgt:∀r∈ss,0<=r.2.2/\r.2.2<=n
 ne:∀r∈ss,r.2.1≠r.2.2
def mC (ns:List Int) (c To:Int):Int:=if cl ns 4 / 8%2=1 then c%To%4 else c%To
def ux (ns:List Int) (n num To c:Int):aI:=(num+1+mC ns c To,c / To%(n+1),(c / To%(n+1)+1+c / To / (n+1)%n)%(n+1))
theorem IV (ns:List Int):aF [.scr ns, .int 4]= .ok (.int (cl ns 4)):=cP ns 4
theorem B2 {ns:List Int} {n many k:Nat} {num:Int} {acc:List D} {x6 x7 x8 x9 x10:Option Slot} (hn:0<n) (Xy:n<=7) (hr:0<61 - num - (many:Int)+(k:Int)) (a3y:61 - num - (many:Int)+(k:Int)<=100) (UM:acc.length<lim):
  ∃y6 y7 y8 y9 VD,dU [some (.val (.scr ns)),some (.val (.int (n:Int))),some (.val (.int (many:Int))),some (.own (.lst acc)),some (.val (.int num)),some (.val (.int (k:Int))),x6,x7,x8,x9,x10]
   = .ok (.nx [some (.val (.scr ns)),some (.val (.int (n:Int))),some (.val (.int (many:Int))),some (.own (.lst (acc++[ak (ux ns n num (61 - num - (many:Int)+(k:Int)) (cl ns (5+k)))]))),some (.val (.int (num+1+mC ns (cl ns (5+k)) (61 - num - (many:Int)+(k:Int))))),some (.val (.int (k:Int))),y6,y7,y8,y9,VD]):=by
 have hc:aF [.scr ns, .int (5+(k:Int))]= .ok (.int (cl ns (5+k))):=by
  have:=cP ns (5+k)
  rwa [show ((5+k:Nat):Int)=5+(k:Int) by omega]at this
 have a0U:(0:Int)<(n:Int)+1:=by omega
 have Xj:(0:Int)<(n:Int):=by omega
 have a2L:(3:Nat)<=lim:=by decide
 generalize he:(61 - num - (many:Int)+(k:Int))=To at*
 refine⟨some (.val (.int To)),some (.val (.int (cl ns (5+k)))),some (.val (.int (mC ns (cl ns (5+k)) To))),some (.val (.int (cl ns (5+k) / To%((n:Int)+1)))),some (.val (.int ((cl ns (5+k) / To%((n:Int)+1)+1+cl ns (5+k) / To / ((n:Int)+1)%(n:Int))%((n:Int)+1)))),?_⟩
 by_cases h:cl ns 4 / 8%2=1<;>simp! [dU,he,hc,IV,h,eC (show (0:Int)<8/\(8:Int)<1073741824 by decide),bv (show (0:Int)<2 by decide),bv (show (0:Int)<4 by decide),bv hr,eC (show 0<To/\To<1073741824 from ⟨hr,by omega⟩),bv a0U,bv Xj,eC (show 0<(n:Int)+1/\(n:Int)+1<1073741824 from ⟨a0U,by omega⟩),UM,a2L,mC,ux,ak]
theorem GP (ns:List Int) (c To:Int) (h:0<To):0<=mC ns c To/\mC ns c To<To:=by
 unfold mC
 have h1:=Nj c (show To≠0 by omega)
 have h2:=MV c h
 split<;>omega
theorem B3 (ns:List Int) (n:Nat) (num To c:Int) (hn:0<n):let r:=ux ns n num To c;(0<=r.2.1/\r.2.1<=n)/\(0<=r.2.2/\r.2.2<=n)/\r.2.1≠r.2.2:=by
 have hp:(0:Int)<(n:Int)+1:=by omega
 have h0:(0:Int)<(n:Int):=by omega
 have a1:=Nj (c / To) (show (n:Int)+1≠0 by omega)
 have a2:=MV (c / To) hp
 have b1:=Nj (c / To / ((n:Int)+1)) (show (n:Int)≠0 by omega)
 have b2:=MV (c / To / ((n:Int)+1)) h0
 have c1:=Nj (c / To%((n:Int)+1)+1+c / To / ((n:Int)+1)%(n:Int)) (show (n:Int)+1≠0 by omega)
 have c2:=MV (c / To%((n:Int)+1)+1+c / To / ((n:Int)+1)%(n:Int)) hp
 refine⟨⟨a1,by show c / To%((n:Int)+1)<=(n:Int);omega⟩,⟨c1,by show (c / To%((n:Int)+1)+1+c / To / ((n:Int)+1)%(n:Int))%((n:Int)+1)<=(n:Int);omega⟩,?_⟩
 show c / To%((n:Int)+1)≠(c / To%((n:Int)+1)+1+c / To / ((n:Int)+1)%(n:Int))%((n:Int)+1)
 generalize c / To%((n:Int)+1)=s at*
 generalize c / To / ((n:Int)+1)%(n:Int)=e at*
 by_cases TK:s+1+e<(n:Int)+1
 ·rw[Sa (by omega) TK];omega
 ·have:(s+1+e)%((n:Int)+1)=s+1+e - ((n:Int)+1):=by
   rw[<-Int.sub_emod_right,Sa (by omega) (by omega)]
  rw[this];omega
theorem Good.snoc {n:Nat} {ss:List aI} {r:aI} (g:Good n ss) (h1:∀q∈ss,q.1<r.1) (h2:1<=r.1/\r.1<=60) (h3:(0<=r.2.1/\r.2.1<=n)/\(0<=r.2.2/\r.2.2<=n)/\r.2.1≠r.2.2):Good n (ss++[r]):=by
 have Td:∀{Q:aI->Prop},(∀q∈ss,Q q)->Q r->∀q∈ss++[r],Q q:=λa b q hq=>(LR.mp hq).elim (a q) λz=>Lo.mp z▸b
 exact⟨List.pairwise_append.mpr ⟨g.inc,Qt _ _,λa ha b hb=>Lo.mp hb▸h1 a ha⟩,Td g.num h2,Td g.src h3.1,Td g.tgt h3.2.1,Td g.ne h3.2.2⟩
theorem sP (ns:List Int) (n many:Nat) (Xy:n<=7) (hm:many<=12) (h0:0<n\/many=0):∃ss:List aI,i6 [.scr ns, .int (n:Int), .int (many:Int)]= .ok (.lst (ss.map ak))/\ss.length=many/\Good n ss:=by
 obtain⟨ρ',e,ss,num,y5,y6,y7,y8,y9,VD,rfl,h1,h2,_⟩:=wU (g:=gN 5) (gb:=dU) (n:=many) (fs:=aa (ag 2) (ae)) (ρ:=[some (.val (.scr ns)),some (.val (.int (n:Int))),some (.val (.int (many:Int))),some (.own (.lst (([]:List aI).map ak))),some (.val (.int 0)),none,none,none,none,none,none])
  (P:=λk ρ=>∃(ss:List aI) (num:Int) (y5 y6 y7 y8 y9 VD:Option Slot),ρ=[some (.val (.scr ns)),some (.val (.int (n:Int))),some (.val (.int (many:Int))),some (.own (.lst (ss.map ak))),some (.val (.int num)),y5,y6,y7,y8,y9,VD]/\ss.length=k/\Good n ss/\(∀r∈ss,r.1<=num)/\0<=num/\num+(many:Int) - (k:Int)<=60)
  rfl (by omega) ⟨[],0,_,_,_,_,_,_,rfl,rfl,⟨.nil,by simp,by simp,by simp,by simp⟩,by simp,QL _,by omega⟩ (λk hk ρ hρ=>by
   obtain⟨ss,num,y5,y6,y7,y8,y9,VD,rfl,l1,g,hb,hz,hn⟩:=hρ
   have hr:0<61 - num - (many:Int)+(k:Int):=by omega
   obtain⟨z6,z7,z8,z9,YN,es⟩:=B2 (ns:=ns) (n:=n) (many:=many) (k:=k) (num:=num) (acc:=ss.map ak) (x6:=y6) (x7:=y7) (x8:=y8) (x9:=y9) (x10:=VD) (by omega) Xy hr (by omega) (by rw[L4];unfold lim;omega)
   have hg:=GP ns (cl ns (5+k)) _ hr
   have VE:=B3 ns n num (61 - num - (many:Int)+(k:Int)) (cl ns (5+k)) (by omega)
   have Xk:(ux ns n num (61 - num - (many:Int)+(k:Int)) (cl ns (5+k))).1=num+1+mC ns (cl ns (5+k)) (61 - num - (many:Int)+(k:Int)):=rfl
   generalize ux ns n num (61 - num - (many:Int)+(k:Int)) (cl ns (5+k))=row at*
   generalize mC ns (cl ns (5+k)) (61 - num - (many:Int)+(k:Int))=gp at*
   refine⟨_,_,rfl, .inl es,ss++[row],_,_,_,_,_,_,_,by rw[LW];rfl,by simp[l1],g.snoc (λq hq=> ?_) (by omega) VE,λq hq=> ?_,by omega,by omega⟩
   ·have:=hb q hq
    omega
   ·rcases LR.mp hq with hq|hq
    ·have:=hb q hq
     omega
    ·rw[Lo.mp hq,Xk]
     exact QL _)
 refine⟨ss,aE rfl ?_,h1,h2⟩
 show i5 [some (.val (.scr ns)),some (.val (.int (n:Int))),some (.val (.int (many:Int))),none,none,none,none,none,none,none,none]=_
 unfold i5
 rw[ai (ρ':=[some (.val (.scr ns)),some (.val (.int (n:Int))),some (.val (.int (many:Int))),some (.own (.lst (([]:List aI).map ak))),none,none,none,none,none,none,none]) rfl,
  ai (ρ':=[some (.val (.scr ns)),some (.val (.int (n:Int))),some (.val (.int (many:Int))),some (.own (.lst (([]:List aI).map ak))),some (.val (.int 0)),none,none,none,none,none,none]) rfl,ai e]
 rfl
inductive Wf:Nat->D->Prop
 |int (n:Nat) (i:Int):Wf n (.int i)
 |tup {n:Nat} {ds:List D}:ds.length<=1000->(∀d∈ds,Wf n d)->Wf (n+1) (.tup ds)
theorem Wf.up {n:Nat} {d:D} (h:Wf n d):∀k,Wf (n+k) d:=by
 induction h with
 |int n i=>exact λk=> .int _ i
 | @tup n ds h1 h2 ih=>exact λk=>by rw[R_];exact .tup h1 λd hd=>ih d hd k
theorem yH {UQ:List D->R D} {ds:List D} (h:∀d∈ds,UQ [d,d]= .ok (.bl true)) {k:Nat} (hk:k<ds.length):
  gM UQ [some (.val (.tup ds)),some (.val (.tup ds)),some (.val (.int (k:Int)))]= .ok (.nx [some (.val (.tup ds)),some (.val (.tup ds)),some (.val (.int (k:Int)))]):=by
 have hr:=h ds[k] (Ql hk)
 simp only[gM,bT,cI,bF,al,aa,ae,f2,ac,aG,az,fC,aj,bH,LP,LQ,Slot.data,wL,eD hk,Lm,Ml,if_true,hr,fW,O4,LH,if_false]
theorem rn {UQ:List D->R D} {ds:List D} (h:∀d∈ds,UQ [d,d]= .ok (.bl true)):∀(ks:List Nat) (x:Option Slot),(∀k∈ks,k<ds.length)->
  ∃y,aU (gN 2) (gM UQ) (ks.map λk:Nat=>D.int (k:Int)) [some (.val (.tup ds)),some (.val (.tup ds)),x]= .ok (.nx [some (.val (.tup ds)),some (.val (.tup ds)),y])
 |[],x,_=>⟨x,rfl⟩
 |k::ks,x,hk=>by
  obtain⟨y,e⟩:=rn h ks (some (.val (.int (k:Int)))) λj hj=>hk j (L7 _ hj)
  exact⟨y,by rw[L3,b8 rfl (yH h (hk k L8)),e]⟩
theorem B4 (n:Nat) (i:Int):d0 (n+1) [.int i, .int i]= .ok (.bl true):=by
 refine aE rfl ?_
 show gq (d0 n) [some (.val (.int i)),some (.val (.int i)),none]=_
 simp only[gq,ao,bT,aG,az,bF,fK,ac,p8,qP,f2,aj,bH,LP,LQ,Slot.data,Gw,AE,AF,fW,LH,if_false,SV,wJ,decide_true]
theorem yI {n:Nat} {d:D} (h:Wf n d):d0 (n+1) [d,d]= .ok (.bl true):=by
 induction h with
 |int n i=>exact B4 n i
 | @tup n ds h1 h2 ih=>
  obtain⟨y,e⟩:=rn ih (LU ds.length) none λk hk=>M0.mp hk
  refine aE rfl ?_
  show gq (d0 (n+1)) [some (.val (.tup ds)),some (.val (.tup ds)),none]=_
  simp only[gq,ao,bT,aG,az,kZ,cI,fT,bF,fK,ac,fC,f2,bG,aa,ae,aj,bH,LP,LQ,Slot.data,pf,fW,if_true,O4,LH,if_false,vG,wK,decide_true,d7]
  rw[ix (n:=ds.length) (by simp only[aa,ae,bG,ac,aj,bH,LP,LQ,Slot.data,vG]) (by unfold lim;omega),aj,e]
  simp only[aj]
theorem mD {n:Nat} (hn:n<=7) {d:D} (h:Wf n d):bY [d,d]= .ok (.bl true):=by
 have:=yI (h.up (7 - n))
 rw[show n+(7 - n)+1=8 by omega]at this
 exact this
theorem rq (i:Int):bY [.int i, .int i]= .ok (.bl true):=mD (M6 _) (.int 0 i)
theorem DO (ns:List Int) (h:ns.length<=1000):Wf 1 (.tup (ns.map .int)):= .tup (by simpa using h) λd hd=>by obtain⟨i,_,rfl⟩:=Lk.mp hd;exact .int 0 i
theorem yJ (ns:List Int) (h:ns.length<=1000):bY [.tup (ns.map .int), .tup (ns.map .int)]= .ok (.bl true):=mD (by omega) (DO ns h)
theorem vZ {ss:List aI} {k:Nat} (h:k<ss.length):L2.atI (ss.map ak) (k:Int)=some (ak ss[k]):=by
 rw[eD (by simpa using h)]
 simp
theorem ee {α:Type} {x:α} {xs:List α}:L2.atI (x::xs) 0=some x:=by
 have:=eD (xs:=x::xs) (k:=0) (by simp)
 simpa using this
theorem pU {α:Type} {x y:α} {xs:List α}:L2.atI (x::y::xs) 1=some y:=by
 have:=eD (xs:=x::y::xs) (k:=1) (by simp)
 simpa using this
theorem wV (ns:List Int) (c k:Nat) {ci:Int} (h:ci=(c:Int)):aF [.scr ns, .int (ci+(k:Int))]= .ok (.int (cl ns (c+k))):=by
 have:=cP ns (c+k)
 rwa [show ((c+k:Nat):Int)=ci+(k:Int) by omega]at this
theorem B5 {ns:List Int} {ss:List aI} {share:Int} {acc:List Int} {k:Nat} (hk:k<ss.length) (hl:acc.length<=10):∃Vv:List Int,cv [some (.val (.scr ns)),some (.val (.lst (ss.map ak))),some (.val (.int share)),some (.own (.lst (acc.map .int))),some (.val (.int (k:Int)))]
   = .ok (.nx [some (.val (.scr ns)),some (.val (.lst (ss.map ak))),some (.val (.int share)),some (.own (.lst (Vv.map .int))),some (.val (.int (k:Int)))])/\(Vv=acc\/Vv=acc++[ss[k].1])/\Vv.length<=10:=by
 have hc:aF [.scr ns, .int (17+(k:Int))]=_:=wV ns 17 k rfl
 have UM:acc.length<lim:=by unfold lim;omega
 have ap:acc.map D.int++[D.int ss[k].1]=(acc++[ss[k].1]).map D.int:=by simp
 by_cases h1:cl ns (17+k)%4<share
 ·by_cases h2:acc.length<10
  ·refine⟨acc++[ss[k].1],?_, .inr rfl,by simp;omega⟩
   have ZY:(acc.length:Int)<10:=by omega
   simp! [cv,hc,bv (show (0:Int)<4 by decide),h1,ZY,vZ hk,ak,ee,UM,L4,ap]
  ·refine⟨acc,?_, .inl rfl,hl⟩
   have ZY:¬(acc.length:Int)<10:=by omega
   simp! [cv,hc,bv (show (0:Int)<4 by decide),h1,ZY,L4]
 ·refine⟨acc,?_, .inl rfl,hl⟩
  simp! [cv,hc,bv (show (0:Int)<4 by decide),h1,L4]
theorem sQ (ns:List Int) (ss:List aI) (hs:ss.length<=1000) (share:Int):∃mm:List Int,i9 [.scr ns, .lst (ss.map ak), .int share]= .ok (.lst (mm.map .int))/\mm.Sublist (ss.map (·.1))/\mm.length<=10:=by
 obtain⟨ρ',e,mm,y4,rfl,h1,h2⟩:=wU (g:=gN 4) (gb:=cv) (n:=ss.length) (fs:=aa (bG cR (aa (ac 1) (ae))) (ae)) (ρ:=[some (.val (.scr ns)),some (.val (.lst (ss.map ak))),some (.val (.int share)),some (.own (.lst (([]:List Int).map .int))),none])
  (P:=λk ρ=>∃(acc:List Int) (y4:Option Slot),ρ=[some (.val (.scr ns)),some (.val (.lst (ss.map ak))),some (.val (.int share)),some (.own (.lst (acc.map .int))),y4]/\acc.Sublist ((ss.take k).map (·.1))/\acc.length<=10)
  (by simp! [L4]) hs ⟨_,_,rfl, .slnil,by simp⟩ (λk hk ρ hρ=>by
   obtain⟨acc,y4,rfl,hs,hl⟩:=hρ
   obtain⟨ZZ,e1,h1,h2⟩:=B5 (ns:=ns) (share:=share) hk hl
   refine⟨_,_,rfl, .inl e1,ZZ,_,rfl,?_,h2⟩
   rw[B1 _ hk]
   rcases h1 with rfl|rfl
   ·exact hs.trans (List.sublist_append_left _ _)
   ·exact hs.append (List.Sublist.refl _))
 rw[OL]at h1
 refine⟨mm,aE rfl ?_,h1,h2⟩
 show i8 [some (.val (.scr ns)),some (.val (.lst (ss.map ak))),some (.val (.int share)),none,none]=_
 unfold i8
 rw[ai (ρ':=[some (.val (.scr ns)),some (.val (.lst (ss.map ak))),some (.val (.int share)),some (.own (.lst (([]:List Int).map .int))),none]) rfl,ai e]
 rfl
def lv (L:List Int) (i:Int):Int:=L.getD i.toNat 0
theorem wW {L:List Int} {i:Int} (h0:0<=i) (h1:i<L.length):L2.atI (L.map D.int) i=some (.int (lv L i)):=by
 obtain⟨k,rfl⟩:=Ow h0
 have hk:k<L.length:=by omega
 rw[eD (by simpa using hk)]
 simp[lv,hk]
theorem B6 {i j:Int}:vC [.int i, .int j]=some (.int (if j>i then j else i)):=rfl
theorem B7 {i j:Int}:vB [.int i, .int j]=some (.int (if j<i then j else i)):=rfl
theorem EJ {a b c:Int} (h1:a<=c) (h2:b<=c):(if b>a then b else a)<=c:=by split<;>assumption
theorem B8 {a b c:Int} (h:c<=a):c<=(if b>a then b else a):=by
 split
 ·exact N0 h (Int.le_of_lt (by assumption))
 ·exact h
theorem B9 {a b c:Int} (h:c<=b):c<=(if b>a then b else a):=by
 split
 ·exact h
 ·exact N0 h (Int.not_lt.mp (by assumption))
theorem EK {a b c:Int} (h1:c<=a) (h2:c<=b):c<=(if b<a then b else a):=by split<;>assumption
theorem Ba {a b c:Int} (h:a<=c):(if b<a then b else a)<=c:=by
 split
 ·exact N0 (Int.le_of_lt (by assumption)) h
 ·exact h
theorem Bb {a b c:Int} (h:b<=c):(if b<a then b else a)<=c:=by
 split
 ·exact h
 ·exact N0 (Int.not_lt.mp (by assumption)) h
theorem yK {L:List Int} {n:Nat} {s t most:Int} (hL:L.length=n+1) (hs:0<=s/\s<=n) (ht:0<=t/\t<=n) (hm:0<=most) (hb:∀i:Int,1<=i->i<=n-> -1000<=lv L i/\lv L i<=1000):
  ∃lo hi:Int,lE [.lst (L.map .int), .int s, .int t, .int most]= .ok (.lst [.int lo, .int hi])/\lo<=0/\0<=hi/\ -most<=lo/\hi<=most/\(0<s->lv L s - 1000<=lo/\hi<=lv L s+1000)/\(0<t-> -1000 - lv L t<=lo/\hi<=1000 - lv L t):=by
 have W4:L2.atI (L.map D.int) s=some (.int (lv L s)):=wW hs.1 (by omega)
 have Z_:L2.atI (L.map D.int) t=some (.int (lv L t)):=wW ht.1 (by omega)
 have UY:(2:Nat)<=lim:=by decide
 have a0V: -most<=0:=Int.neg_nonpos_of_nonneg hm
 have r:= @QL
 have Td:∀i:Int,0<i->i<=n->(lv L i - 1000<=0/\0<=lv L i+1000)/\ -1000 - lv L i<=0/\0<=1000 - lv L i:=λi h1 h2=>by
  have:=hb i h1 h2
  omega
 obtain⟨lo1,Wc,e1,p1,p2,p3,p4,p5⟩:∃lo1 Wc:Int,bT (fT (f2 qm (ac 1) (fC (.int 0)))) (ao (aJ (bG vC (aa (ac 4) (aa (f2 iP (f2 aP (ac 0) (ac 1)) (fC (.int 1000))) (ae)))) (gN 4)) (aJ (bG vB (aa (ac 5) (aa (f2 bU (f2 aP (ac 0) (ac 1)) (fC (.int 1000))) (ae)))) (gN 5))) (az) [some (.val (.lst (L.map .int))),some (.val (.int s)),some (.val (.int t)),some (.val (.int most)),some (.val (.int (-most))),some (.val (.int most))]
   = .ok (.nx [some (.val (.lst (L.map .int))),some (.val (.int s)),some (.val (.int t)),some (.val (.int most)),some (.val (.int lo1)),some (.val (.int Wc))])/\lo1<=0/\0<=Wc/\ -most<=lo1/\Wc<=most/\(0<s->lv L s - 1000<=lo1/\Wc<=lv L s+1000):=by
  by_cases h1:0<s
  ·have k:=(Td s h1 hs.2).1
   exact⟨_,_,by simp! [h1,W4,B6,B7],EJ a0V k.1,EK hm k.2,B8 (r _),Ba (r _),λ_=>⟨B9 (r _),Bb (r _)⟩⟩
  ·exact⟨-most,most,by simp! [h1],a0V,hm,r _,r _,λz=>absurd z h1⟩
 obtain⟨Xz,XA,e2,q1,q2,q3,q4,q5⟩:∃Xz XA:Int,bT (fT (f2 qm (ac 2) (fC (.int 0)))) (ao (aJ (bG vC (aa (ac 4) (aa (f2 iP (f1 jS (fC (.int 1000))) (f2 aP (ac 0) (ac 2))) (ae)))) (gN 4)) (aJ (bG vB (aa (ac 5) (aa (f2 iP (fC (.int 1000)) (f2 aP (ac 0) (ac 2))) (ae)))) (gN 5))) (az) [some (.val (.lst (L.map .int))),some (.val (.int s)),some (.val (.int t)),some (.val (.int most)),some (.val (.int lo1)),some (.val (.int Wc))]
   = .ok (.nx [some (.val (.lst (L.map .int))),some (.val (.int s)),some (.val (.int t)),some (.val (.int most)),some (.val (.int Xz)),some (.val (.int XA))])/\Xz<=0/\0<=XA/\lo1<=Xz/\XA<=Wc/\(0<t-> -1000 - lv L t<=Xz/\XA<=1000 - lv L t):=by
  by_cases h1:0<t
  ·have k:=(Td t h1 ht.2).2
   exact⟨_,_,by simp! [h1,Z_,B6,B7],EJ p1 k.1,EK p2 k.2,B8 (r _),Ba (r _),λ_=>⟨B9 (r _),Bb (r _)⟩⟩
  ·exact⟨lo1,Wc,by simp! [h1],p1,p2,r _,r _,λz=>absurd z h1⟩
 refine⟨Xz,XA,aE rfl ?_,q1,q2,N0 p3 q3,N0 q4 p4,λz=>⟨N0 (p5 z).1 q3,N0 q4 (p5 z).2⟩,q5⟩
 show lD [some (.val (.lst (L.map .int))),some (.val (.int s)),some (.val (.int t)),some (.val (.int most)),none,none]=_
 unfold lD
 rw[ai (ρ':=[some (.val (.lst (L.map .int))),some (.val (.int s)),some (.val (.int t)),some (.val (.int most)),some (.val (.int (-most))),none]) rfl,
  ai (ρ':=[some (.val (.lst (L.map .int))),some (.val (.int s)),some (.val (.int t)),some (.val (.int most)),some (.val (.int (-most))),some (.val (.int most))]) rfl,ai e1,ai e2]
 simp! [UY]
def ax (p:Int×Int):D:= .tup [.int p.1, .int p.2]
def yL:List aI->List Int->Int->Int
 |r::ss,a::am,i=>(if r.2.2=i then a else 0) - (if r.2.1=i then a else 0)+yL ss am i
 |_,_,_=>0
theorem GQ {b:Bool}:Dq [.bl b]=some (.int (if b=true then 1 else 0)):=rfl
theorem pV {L:List Int} {i j v:Int} (hi:0<=i) (hl:i<L.length) (hj:0<=j):lv (L.set i.toNat v) j=if j=i then v else lv L j:=by
 unfold lv
 rw[Mh,NR]
 by_cases h:j=i
 ·subst h
  rw[if_pos rfl,if_pos (by omega),if_pos rfl];rfl
 ·rw[if_neg (by omega),if_neg h,Mh]
theorem Bc {n:Nat} {i:Int} (h0:0<=i) (h1:i<n):L2.t9 n i=some i.toNat:=by unfold L2.t9;rw[if_pos h0,if_pos h1]
theorem uy (L:List Int) (i:Nat) (v:Int):(L.map D.int).set i (.int v)=(L.set i v).map D.int:=by rw[List.map_set]
theorem KQ {i:Nat} {gs:List D->af->R af} {d:D} {ds:List D} {ρ:af}:aH (gN i) gs (d::ds) ρ=gs ds (ρ.set i (some (.val d))):=rfl
theorem KR {ρ:af}:cS [] ρ= .ok ρ:=rfl
theorem yM {n:Nat} {figs:List Int} {ss:List aI} {mm:List Int} {b0 b1:Int} {L:List Int} {rows:List (Int×Int)} {k:Nat} {x8 x9 x10 x11 x12 x13:Option Slot} (hk:k<ss.length) (hf:k<figs.length) (g:Good n ss) (hn:n<=7) (hL:L.length=n+1) (h0:0<=b0) (h1:0<=b1)
  (hb:∀i:Int,1<=i->i<=n-> -1000<=lv L i/\lv L i<=1000) (hr:rows.length<=1000):
  ∃(a:Int) (L':List Int) (y8 y9 VD XB XC XD:Option Slot),fN [some (.val (.lst (figs.map .int))),some (.val (.int (n:Int))),some (.val (.lst (ss.map ak))),some (.val (.lst (mm.map .int))),some (.val (.lst [.int b0, .int b1])),some (.own (.lst (L.map .int))),some (.own (.lst (rows.map ax))),some (.val (.int (k:Int))),x8,x9,x10,x11,x12,x13]
   = .ok (.nx [some (.val (.lst (figs.map .int))),some (.val (.int (n:Int))),some (.val (.lst (ss.map ak))),some (.val (.lst (mm.map .int))),some (.val (.lst [.int b0, .int b1])),some (.own (.lst (L'.map .int))),some (.own (.lst ((rows++[(ss[k].1,a)]).map ax))),some (.val (.int (k:Int))),y8,y9,VD,XB,XC,XD])/\
   L'.length=n+1/\(∀i:Int,0<=i->i<=n->lv L' i=lv L i+((if ss[k].2.2=i then a else 0) - (if ss[k].2.1=i then a else 0)))/\(∀i:Int,1<=i->i<=n-> -1000<=lv L' i/\lv L' i<=1000)/\ -(if ss[k].1∈mm then b1 else b0)<=a/\a<=(if ss[k].1∈mm then b1 else b0):=by
 have UN:=Ql hk
 have VE:=vZ hk
 have hs:=g.src _ UN
 have ht:=g.tgt _ UN
 have TM:=g.ne _ UN
 generalize ss[k]=row at*
 obtain⟨num,s,t⟩:=row
 replace hs:0<=s/\s<=n:=hs
 replace ht:0<=t/\t<=n:=ht
 replace TM:s≠t:=TM
 have hm:0<=(if num∈mm then b1 else b0):=by split<;>omega
 obtain⟨lo,hi,e,c1,c2,c3,c4,c5,c6⟩:=yK hL hs ht hm hb
 have Yr:L2.atI (figs.map D.int) (k:Int)=some (.int figs[k]):=by
  rw[eD (by simpa using hf)];simp
 have hd:(0:Int)<hi - lo+1:=by omega
 generalize figs[k]=fg at Yr
 have a1:=Nj fg (show hi - lo+1≠0 by omega)
 have a2:=MV fg hd
 have W4:L2.atI (L.map D.int) s=some (.int (lv L s)):=wW hs.1 (by omega)
 have a2M:L2.atI [D.int b0,D.int b1] (if decide (num∈mm)=true then 1 else 0)=some (.int (if num∈mm then b1 else b0)):=by
  by_cases h:num∈mm
  ·simp only[h,decide_true,if_true,pU]
  ·simp only[h,decide_false,LH,if_false,ee]
 have a00:L2.t9 (L.map D.int).length s=some s.toNat:=Bc hs.1 (by rw[L4];omega)
 have Ys:(L.set s.toNat (lv L s - (lo+fg%(hi - lo+1)))).length=n+1:=by rw[OZ];exact hL
 have Z_:L2.atI ((L.set s.toNat (lv L s - (lo+fg%(hi - lo+1)))).map D.int) t=some (.int (lv L t)):=by
  rw[wW ht.1 (by omega),pV hs.1 (by omega) ht.1,if_neg (MG TM)]
 have a01:L2.t9 ((L.set s.toNat (lv L s - (lo+fg%(hi - lo+1)))).map D.int).length t=some t.toNat:=Bc ht.1 (by rw[L4];omega)
 have YO:(rows.map ax).length<lim:=by rw[L4];unfold lim;omega
 have UY:(2:Nat)<=lim:=by decide
 have ap:rows.map ax++[D.tup [.int num, .int (lo+fg%(hi - lo+1))]]=(rows++[(num,lo+fg%(hi - lo+1))]).map ax:=by simp[ax]
 generalize ha:lo+fg%(hi - lo+1)=a at*
 refine⟨a,(L.set s.toNat (lv L s - a)).set t.toNat (lv L t+a),some (.val (.int num)),some (.val (.int s)),some (.val (.int t)),some (.val (.int lo)),some (.val (.int hi)),some (.val (.int a)),?_,by rw[OZ];exact Ys,?_,?_,by show -(if num∈mm then b1 else b0)<=a;omega,by show a<=(if num∈mm then b1 else b0);omega⟩
 ·simp! [fN,wO,dc,KQ,KR,kX,VE,ak,e,wM,GQ,a2M,m_,N6,List.all_nil,Bool.and_true,and_self,Yr,bv hd,ha,W4,a00,uy,Z_,a01,YO,UY,ap]
 ·intro i Yt Uc
  rw[pV ht.1 (by omega) Yt,pV hs.1 (by omega) Yt]
  by_cases h1:i=t
  ·subst h1
   rw[if_pos rfl,if_pos rfl,if_neg TM];omega
  ·rw[if_neg h1,if_neg (MG h1)]
   by_cases h2:i=s
   ·subst h2
    rw[if_pos rfl,if_pos rfl];omega
   ·rw[if_neg h2,if_neg (MG h2)];omega
 ·intro i Wc Uc
  rw[pV ht.1 (by omega) (by omega),pV hs.1 (by omega) (by omega)]
  by_cases h1:i=t
  ·subst h1
   rw[if_pos rfl]
   have:=c6 (by omega);omega
  ·rw[if_neg h1]
   by_cases h2:i=s
   ·subst h2
    rw[if_pos rfl]
    have:=c5 (by omega);omega
   ·rw[if_neg h2];exact hb i Wc Uc
def Within (mm:List Int) (b0 b1:Int) (p:Int×Int):Prop:= -(if p.1∈mm then b1 else b0)<=p.2/\p.2<=(if p.1∈mm then b1 else b0)
theorem rA {n:Nat} {figs:List Int} {ss:List aI} {mm:List Int} {b0 b1:Int} (hf:ss.length<=figs.length) (g:Good n ss) (hn:n<=7) (h0:0<=b0) (h1:0<=b1):∀(j k:Nat) (L:List Int) (rows:List (Int×Int)) (x7 x8 x9 x10 x11 x12 x13:Option Slot),k+j=ss.length->L.length=n+1->
  (∀i:Int,1<=i->i<=n-> -1000<=lv L i/\lv L i<=1000)->rows.length+j<=1000->
  ∃(am:List Int) (L':List Int) (y7 y8 y9 VD XB XC XD:Option Slot),aU (gN 7) fN ((NP k j).map λk:Nat=>D.int (k:Int)) [some (.val (.lst (figs.map .int))),some (.val (.int (n:Int))),some (.val (.lst (ss.map ak))),some (.val (.lst (mm.map .int))),some (.val (.lst [.int b0, .int b1])),some (.own (.lst (L.map .int))),some (.own (.lst (rows.map ax))),x7,x8,x9,x10,x11,x12,x13]
   = .ok (.nx [some (.val (.lst (figs.map .int))),some (.val (.int (n:Int))),some (.val (.lst (ss.map ak))),some (.val (.lst (mm.map .int))),some (.val (.lst [.int b0, .int b1])),some (.own (.lst (L'.map .int))),some (.own (.lst ((rows++((ss.drop k).map (·.1)).zip am).map ax))),y7,y8,y9,VD,XB,XC,XD])/\
   am.length=j/\L'.length=n+1/\(∀i:Int,0<=i->i<=n->lv L' i=lv L i+yL (ss.drop k) am i)/\(∀i:Int,1<=i->i<=n-> -1000<=lv L' i/\lv L' i<=1000)/\∀p∈((ss.drop k).map (·.1)).zip am,Within mm b0 b1 p
 |0,k,L,rows,x7,x8,x9,x10,x11,x12,x13,hk,hL,hb,hr=>by
  have e:ss.drop k=[]:=List.drop_eq_nil_of_le (by omega)
  exact⟨[],L,x7,x8,x9,x10,x11,x12,x13,by simp[aU],rfl,hL,λi _ _=>by rw[e];simp[yL],hb,by rw[e];simp⟩
 |j+1,k,L,rows,x7,x8,x9,x10,x11,x12,x13,hk,hL,hb,hr=>by
  have YM:k<ss.length:=by omega
  obtain⟨a,L1,z8,z9,YN,ZV,ZW,ZX,e1,l1,n1,a2N,w1,w2⟩:=yM (figs:=figs) (mm:=mm) (b0:=b0) (b1:=b1) (L:=L) (rows:=rows) (k:=k) (x8:=x8) (x9:=x9) (x10:=x10) (x11:=x11) (x12:=x12) (x13:=x13) YM (by omega) g hn hL h0 h1 hb (by omega)
  obtain⟨am,L',y7,y8,y9,VD,XB,XC,XD,e2,h2,h3,h4,h5,h6⟩:=rA hf g hn h0 h1 j (k+1) L1 (rows++[(ss[k].1,a)]) (some (.val (.int (k:Int)))) z8 z9 YN ZV ZW ZX (by omega) l1 a2N (by simp;omega)
  have ed:ss.drop k=ss[k]::ss.drop (k+1):=MW YM
  refine⟨a::am,L',y7,y8,y9,VD,XB,XC,XD,?_,by simp[h2],h3,λi Yt Uc=> ?_,h5,?_⟩
  ·rw[N_,L3,b8 rfl e1,e2,ed,L3,NM,Mr]
   rfl
  ·rw[h4 i Yt Uc,n1 i Yt Uc,ed]
   show _=lv L i+((if ss[k].2.2=i then a else 0) - (if ss[k].2.1=i then a else 0)+yL (ss.drop (k+1)) am i)
   omega
  ·rw[ed,L3,NM]
   intro p hp
   rcases Le.mp hp with rfl|hp
   ·exact⟨w1,w2⟩
   ·exact h6 p hp
theorem DP {k:Int} (h0:0<=k) (h:k<=1000):qZ (.lst [.int 0]) (.int k)=some (.lst ((LC k.toNat (0:Int)).map .int)):=by
 show (if k.natAbs<=lim/\[D.int 0].length*k.toNat<=lim then some (D.lst (LC k.toNat [D.int 0]).flatten)else none)=_
 rw[if_pos ⟨by unfold lim;omega,by unfold lim;simp;omega⟩]
 congr 2
 induction k.toNat with
 |zero=>rfl
 |succ m ih=>rw[Mo,Mo,N2,ih];rfl
theorem K9 {x:D} {ds:List D}:BV (.lst (x::ds)) (some 1) none=some (.lst ds):=by
 show some (D.lst (L2.Pu.su (x::ds) (some 1) none))=_
 unfold L2.Pu.su HT.cX
 simp
theorem wX {m:Nat} (i:Int):lv (LC m 0) i=0:=by
 unfold lv
 rw[Mh,N7]
 split<;>rfl
structure EL (n:Nat) (ss:List aI) (mm:List Int) (b0 b1:Int) (am Um:List Int):Prop where
 len:am.length=ss.length
 levs:Um.length=n
 net:∀i:Nat,i<n->Um.getD i 0=yL ss am ((i:Int)+1)
 bound:∀i:Nat,i<n-> -1000<=Um.getD i 0/\Um.getD i 0<=1000
 within:∀p∈(ss.map (·.1)).zip am,Within mm b0 b1 p
theorem v_ {n:Nat} {figs:List Int} {ss:List aI} {mm:List Int} {b0 b1:Int} (hf:ss.length<=figs.length) (g:Good n ss) (hn:n<=7) (h0:0<=b0) (h1:0<=b1) (hs:ss.length<=1000):
  ∃am Um:List Int,kh [.lst (figs.map .int), .int (n:Int), .lst (ss.map ak), .lst (mm.map .int), .lst [.int b0, .int b1]]= .ok (.lst [.tup (((ss.map (·.1)).zip am).map ax), .tup (Um.map .int)])/\EL n ss mm b0 b1 am Um:=by
 obtain⟨am,L',y7,y8,y9,VD,XB,XC,XD,e,e1,e2,e3,e4,e5⟩:=rA (figs:=figs) (mm:=mm) hf g hn h0 h1 ss.length 0 (LC (n+1) 0) [] none none none none none none none (by omega) (by simp) (λi _ _=>by rw[wX];omega) (by simpa using hs)
 obtain⟨z,Um,rfl⟩:∃z Um,L'=z::Um:=by
  cases L' with
  |nil=>simp at e2
  |cons z Um=>exact⟨z,Um,rfl⟩
 have a0W:∀i:Nat,lv (z::Um) ((i:Int)+1)=Um.getD i 0:=λi=>by
  unfold lv
  rw[show ((i:Int)+1).toNat=i+1 by omega]
  simp
 refine⟨am,Um,?_,e1,by simpa using e2,λi hi=> ?_,λi hi=> ?_,by simpa using e5⟩
 ·rw[<-Nr,Pd,Oc]at e
  refine aE rfl ?_
  show kg [some (.val (.lst (figs.map .int))),some (.val (.int (n:Int))),some (.val (.lst (ss.map ak))),some (.val (.lst (mm.map .int))),some (.val (.lst [.int b0, .int b1])),none,none,none,none,none,none,none,none,none]=_
  have hd:qZ (.lst [.int 0]) (.int ((n:Int)+1))=some (.lst ((LC (n+1) (0:Int)).map .int)):=by
   have:=DP (k:=(n:Int)+1) (by omega) (by omega)
   rwa [show ((n:Int)+1).toNat=n+1 by omega]at this
  have Xl:(1:Nat)<=lim:=by decide
  have UY:(2:Nat)<=lim:=by decide
  simp! [kg,mf,hd,Xl]
  rw[ix (n:=ss.length) (by simp! [L4]) (by unfold lim;omega)]
  simp only[M4]at e
  simp! [aj,e,yk,jv,iu,L3,K9,UY]
 ·rw[<-a0W,e3 _ (by omega) (by omega),wX,Pd];omega
 ·rw[<-a0W];exact e4 _ (by omega) (by omega)
theorem wY {ns:List Int} {a0 a2:Option Slot}:∀(ks:List Nat) (x:Option Slot),de (gN 1) iO (f2 ju (al aF 2 (aa (ag 3) (aa (f2 bU (fC (.int 17)) (ac 1)) (ae)))) (fC (.int 4))) (ks.map λk:Nat=>D.int (k:Int)) [a0,x,a2,some (.val (.scr ns))]
  = .ok ((ks.map λk=>cl ns (17+k) / 4).map .int)
 |[],x=>rfl
 |k::ks,x=>by
  have hc:aF [.scr ns, .int (17+(k:Int))]=_:=wV ns 17 k rfl
  have ih:=wY (ns:=ns) (a0:=a0) (a2:=a2) ks (some (.val (.int (k:Int))))
  rw[L3,de]
  simp only[gN,iO,aj,MJ,MI,if_true,ih]
  simp! [hc,eC (show (0:Int)<4/\(4:Int)<1073741824 by decide),L3]
def Bd (small:Int):Int:=if small=0 then 5000 else 2
def Be (small:Int):Int:=if small=0 then 1000 else 2
theorem w5 {ns:List Int} {n:Nat} {ss:List aI} {mm:List Int} {small:Int} (g:Good n ss) (hn:n<=7) (hs:ss.length<=1000) (a02:small=0\/small=1):
  ∃am Um:List Int,kl [.scr ns, .int (n:Int), .lst (ss.map ak), .lst (mm.map .int), .int small]= .ok (.lst [.tup (((ss.map (·.1)).zip am).map ax), .tup (Um.map .int)])/\EL n ss mm (Bd small) (Be small) am Um:=by
 obtain⟨am,Um,e,h⟩:=v_ (n:=n) (figs:=(LU ss.length).map λk=>cl ns (17+k) / 4) (ss:=ss) (mm:=mm) (b0:=Bd small) (b1:=Be small) (by simp) g hn (by unfold Bd;split<;>omega) (by unfold Be;split<;>omega) hs
 refine⟨am,Um,?_,h⟩
 refine aE rfl ?_
 show kj [some (.val (.scr ns)),some (.val (.int (n:Int))),some (.val (.lst (ss.map ak))),some (.val (.lst (mm.map .int))),some (.val (.int small)),none]=_
 unfold kj
 rw[ai (ρ':=[some (.val (.scr ns)),some (.val (.int (n:Int))),some (.val (.lst (ss.map ak))),some (.val (.lst (mm.map .int))),some (.val (.int small)),some (.own (.lst (((LU ss.length).map λk=>cl ns (17+k) / 4).map .int)))])
  (own_of (dw (ix (n:=ss.length) (by simp! [L4]) (by unfold lim;omega)) (by simp;unfold lim;omega) rfl (wY _ _)))]
 have UY:(2:Nat)<=lim:=by decide
 rcases a02 with rfl|rfl
 ·simp! [ee,UY]
  simp only[show Bd 0=5000 from rfl,show Be 0=1000 from rfl]at e
  simp only[e,aj]
 ·simp! [pU,UY]
  simp only[show Bd 1=2 from rfl,show Be 1=2 from rfl]at e
  simp only[e,aj]
theorem DQ {ps:List (Int×Int)} {k:Nat} (h:k<ps.length):L2.atI (ps.map ax) (k:Int)=some (ax ps[k]):=by
 rw[eD (by simpa using h)]
 simp
theorem lI:∀{l m:List Int},l.Nodup->m.Sublist l->l.filter (λx=>decide (x∈m))=m
 |[],m,_,s=>by rw[List.sublist_nil.mp s];rfl
 |a::l,m,nd,s=>by
  obtain⟨n1,n2⟩:=LN.mp nd
  cases s with
  |cons _ s=>
   rw[List.filter_cons_of_neg (by simpa using λh=>n1 (s.subset h)),lI n2 s]
  | @cons_cons m' _ _ s=>
   rw[Qw (by simp)]
   have:l.filter (λx=>decide (x∈a::m'))=l.filter (λx=>decide (x∈m')):=List.filter_congr λx hx=>by
    have:x≠a:=λz=>n1 (z▸hx)
    simp[this]
   rw[this,lI n2 s]
theorem Good.nd {n:Nat} {ss:List aI} (g:Good n ss):(ss.map (·.1)).Nodup:=Me.mpr (g.inc.imp λh=>S0 h)
structure bJ (n:Nat) (ss:List aI) (rs:List Int) (rd:List (Int×Int)):Prop where
 n7:n<=7
 good:Good n ss
 len:ss.length<=12
 rsl:rs.length=n
 sub:(rd.map (·.1)).Sublist (ss.map (·.1))
 ten:rd.length<=10
def aX (n:Nat) (ss:List aI) (rs:List Int) (rd:List (Int×Int)):D:= .tup [.int (n:Int), .tup (ss.map ak), .tup (rs.map .int), .tup (rd.map ax)]
theorem IW (ns:List Int):aF [.scr ns, .int 1]= .ok (.int (cl ns 1)):=cP ns 1
theorem IX (ns:List Int):aF [.scr ns, .int 2]= .ok (.int (cl ns 2)):=cP ns 2
theorem IY (ns:List Int):aF [.scr ns, .int 3]= .ok (.int (cl ns 3)):=cP ns 3
theorem ji {α:Type} {f e:α->D} {p:α->Bool} {gt:af->R Bool} {fe:af->R D} {a0:Option Slot} {ρ:af}:∀(l:List α),(∀a∈l,gt (a0::some (.val (f a))::ρ)= .ok (p a))->(∀a∈l,p a=true->fe (a0::some (.val (f a))::ρ)= .ok (e a))->∀x:Option Slot,de (gN 1) gt fe (l.map f) (a0::x::ρ)= .ok ((l.filter p).map e)
 |[],_,_,_=>rfl
 |a::l,h1,h2,x=>by
  have ih:=ji l (λb hb=>h1 b (L7 _ hb)) (λb hb=>h2 b (L7 _ hb)) (some (.val (f a)))
  have g1:=h1 a L8
  rw[L3,de]
  simp only[gN,aj,MJ,MI,g1]
  by_cases hp:p a=true
  ·simp only[hp,if_true,h2 a L8 hp,aj,ih,Mc,L3]
  ·simp only[hp,if_false,ih,Mc,LH]
theorem uz {g:D->af->R af} {gb:af->R aW} {P:af->Prop}:∀(ds:List D),(∀d∈ds,∀ρ,P ρ->∃ρ1 ρ2,g d ρ= .ok ρ1/\gb ρ1= .ok (.nx ρ2)/\P ρ2)->∀ρ,P ρ->∃ρ',aU g gb ds ρ= .ok (.nx ρ')/\P ρ'
 |[],_,ρ,h=>⟨ρ,rfl,h⟩
 |d::ds,hs,ρ,h=>by
  obtain⟨ρ1,ρ2,e1,e2,h2⟩:=hs d L8 ρ h
  obtain⟨ρ',e,h'⟩:=uz ds (λd hd=>hs d (L7 _ hd)) ρ2 h2
  exact⟨ρ',by rw[b8 e1 e2,e],h'⟩
theorem pW {α:Type} {f:α->D} {k:α->Int} (hk:∀a,qo (f a)=some (k a)):∀l:List α,d8 (l.map f)=some (l.map k)
 |[]=>rfl
 |a::l=>by
  rw[L3,d8,hk,pW hk l];rfl
theorem yN {α:Type} {f:α->D} {k:α->Int} (hk:∀a,qo (f a)=some (k a)) {l:List α} (h:l≠[]):cA (l.map f)=none:=by
 cases l with
 |nil=>exact absurd rfl h
 |cons a l=>
  have:=hk a
  rw[L3]
  cases e:f a<;>rw[e]at this<;>first|rfl|cases this
theorem wZ {α:Type} {f:α->D} {k:α->Int} (hk:∀a,qo (f a)=some (k a)) {l m:List α} (p:l.Perm m) (inc:m.Pairwise λa b=>k a<k b) (hl:m.length<64) {d:D} (hd:d= .lst (l.map f)\/d= .tup (l.map f)):cJ [d]=some (.lst (m.map f)):=by
 by_cases h0:l=[]
 ·subst h0
  have:m=[]:=(Sr p).symm
  subst this
  rcases hd with rfl|rfl<;>rfl
 ·have hn:(l.map k).Nodup:=(p.map k).nodup_iff.mpr (Me.mpr (inc.imp λh=>S0 h))
  have hs:jw (l.map f)=m.map f:=pz (p.map f) (by
   rw[Me]
   refine inc.imp λ{a b} h=> ?_
   show (qo (f a)).getD 0<(qo (f b)).getD 0
   rw[hk,hk];exact h)
  have Ur:(l.map k).length<64:=by rw[L4,p.length_eq];exact hl
  have hr:=pW hk l
  have ha:=yN hk h0
  rcases hd with rfl|rfl
  ·have:e_ [.lst (l.map f)]=none:=by simp[e_,sr,ha]
   simp only[cJ,this,md,hr,Qd,hn,Ur,and_self,if_true,hs]
  ·have:e_ [.tup (l.map f)]=none:=by simp[e_,sr,ha]
   simp only[cJ,this,md,hr,Qd,hn,Ur,and_self,if_true,hs]
def oj (n:Nat) (ss:List aI) (rs:List Int) (rd:List (Int×Int)):List (L0×D):=[("tanks", .int (n:Int)),("streams", .tup (ss.map ak)),("rises", .tup (rs.map .int)),("readings", .tup (rd.map ax))]
def av (n:Nat) (ss:List aI) (rs:List Int) (rd:List (Int×Int)):D:= .ins "Day" (oj n ss rs rd)
theorem bJ.inc {n:Nat} {ss:List aI} {rs:List Int} {rd:List (Int×Int)} (c:bJ n ss rs rd):rd.Pairwise λa b=>a.1<b.1:=Me.mp ((Me.mpr c.good.inc).sublist c.sub)
theorem kN {n:Nat} {ss sl:List aI} {rs:List Int} {rd rl:List (Int×Int)} (c:bJ n ss rs rd) (p1:sl.Perm ss) (p2:rl.Perm rd) {d1 d2 d3:D} (h1:d1= .lst (sl.map ak)\/d1= .tup (sl.map ak)) (h2:d2= .lst (rs.map .int)\/d2= .tup (rs.map .int)) (h3:d3= .lst (rl.map ax)\/d3= .tup (rl.map ax)):
  bX [.int (n:Int),d1,d2,d3]= .ok (oj n ss rs rd):=by
 have e1:=wZ (f:=ak) (k:=(·.1)) (λa=>rfl) p1 c.good.inc (by have:=c.len;omega) h1
 have e3:=wZ (f:=ax) (k:=(·.1)) (λa=>rfl) p2 c.inc (by have:=c.ten;omega) h3
 have e2:bZ [d2]=some (.tup (rs.map .int)):=by rcases h2 with rfl|rfl<;>rfl
 simp! [bX,m8,lr,cZ,pD,ud,e1,e2,e3,L3,M4,LC,Su,Nat.reduceSub,yo,nV,L2.Pu.dR,NJ,oj]
theorem oB {n:Nat} {ss:List aI} {rs:List Int} {rd:List (Int×Int)} {fs:af->R (List D)} {ρ:af} {ds:List D} (h:fs ρ= .ok ds) (h4:ds.length=4) (e:bX ds= .ok (oj n ss rs rd)):m9 "Day" 4 bX fs ρ= .ok (av n ss rs rd):=by
 unfold m9
 simp only[h,aj,h4,if_true,e,av]
theorem GR (ns:List Int):aF [.scr ns, .int 48]= .ok (.int (cl ns 48)):=cP ns 48
theorem sR {ds:List D} {k:Nat} (h:k<=ds.length):BV (.tup ds) (some (k:Int)) none=some (.tup (ds.drop k)):=by
 have e:HT.cX ds.length 0 (some (k:Int))=k:=by simp only[HT.cX];rw[if_neg (by omega)];omega
 have e2:HT.cX ds.length ds.length (none:Option Int)=ds.length:=rfl
 unfold BV
 simp only[e,e2,L2.Pu.su]
 split
 ·rename_i z;rw[z.1];rfl
 ·rw[NO (by simp)]
theorem IZ {ds:List D} {k:Nat} (h:k<=ds.length):BV (.tup ds) none (some (k:Int))=some (.tup (ds.take k)):=by
 have e:HT.cX ds.length ds.length (some (k:Int))=k:=by simp only[HT.cX];rw[if_neg (by omega)];omega
 have e2:HT.cX ds.length 0 (none:Option Int)=0:=rfl
 unfold BV
 simp only[e,e2,L2.Pu.su]
 split
 ·rename_i z;rw[z.2,NO (by omega)]
 ·simp
theorem Bf {a b:List D} (h:a.length+b.length<=lim):bU (.tup a) (.tup b)=some (.tup (a++b)):=by
 unfold bU;simp only[h,if_true]
theorem rB {α:Type} (l:List α) (k:Nat):(l.drop k++l.take k).Perm l:=by
 have:=List.perm_append_comm (l₁:=l.drop k) (l₂:=l.take k)
 rwa [List.take_append_drop]at this
theorem DR {c:af->R Bool} {g g':af->R aW} {ρ:af} (h:c ρ= .ok true):bT c g g' ρ=g ρ:=by
 unfold bT
 rw[h];rfl
theorem sZ {c:af->R Bool} {g g':af->R aW} {ρ:af} (h:c ρ= .ok false):bT c g g' ρ=g' ρ:=by
 unfold bT
 rw[h];rfl
theorem Jm {i:Nat} {x y:Int} {ρ:af} (h:ac i ρ= .ok (.int x)) (n:x≠y):fT (f2 lX (ac i) (fC (.int y))) ρ= .ok false:=by
 unfold fT f2
 rw[h]
 simp only[fC,aj,wJ,bH,decide_eq_false n]
theorem Bg (ns:List Int) {n:Nat} {ss:List aI} {rs:List Int} {rd:List (Int×Int)} (c:bJ n ss rs rd):nn [.scr ns,aX n ss rs rd]= .ok (av n ss rs rd):=by
 have l1:=c.len
 have l2:=c.ten
 refine aE rfl ?_
 show nl [some (.val (.scr ns)),some (.val (aX n ss rs rd)),none,none,none]=_
 unfold nl
 rw[ai (ρ':=[some (.val (.scr ns)),some (.val (aX n ss rs rd)),some (.val (.int (cl ns 48%4))),none,none]) (by simp! [GR,bv (show (0:Int)<4 by decide)])]
 generalize cl ns 48%4=tn
 have i0:aP (aX n ss rs rd) (.int 0)=some (.int (n:Int)):=rfl
 have i1:aP (aX n ss rs rd) (.int 1)=some (.tup (ss.map ak)):=rfl
 have i2:aP (aX n ss rs rd) (.int 2)=some (.tup (rs.map .int)):=rfl
 have i3:aP (aX n ss rs rd) (.int 3)=some (.tup (rd.map ax)):=rfl
 generalize aX n ss rs rd=cd at*
 by_cases h0:tn=0
 ·subst h0
  refine dP ((DR rfl).trans (dQ (oB (ds:=[.int (n:Int), .lst (ss.map ak), .lst (rs.map .int), .lst (rd.map ax)]) ?_ rfl (kN c (.refl _) (.refl _) (.inl rfl) (.inl rfl) (.inl rfl)))))
  simp! [i0,i1,i2,i3]
 refine Nm (ai (sZ (Jm rfl h0))) ?_
 by_cases h1:tn=1
 ·subst h1
  refine dP ((DR rfl).trans (dQ (oB (ds:=[.int (n:Int), .lst (ss.reverse.map ak), .lst (rs.map .int), .lst (rd.reverse.map ax)]) ?_ rfl (kN c (Sb _) (Sb _) (.inl rfl) (.inl rfl) (.inl rfl)))))
  simp! [i0,i1,i2,i3,Sv]
 refine Nm (ai (sZ (Jm rfl h1))) ?_
 by_cases h2:tn=2
 ·subst h2
  refine dP ((DR rfl).trans (dQ (oB (ds:=[.int (n:Int), .tup (ss.map ak), .tup (rs.map .int), .tup (rd.map ax)]) ?_ rfl (kN c (.refl _) (.refl _) (.inr rfl) (.inr rfl) (.inr rfl)))))
  simp! [i0,i1,i2,i3]
 refine Nm (ai (sZ (Jm rfl h2))) ?_
 have sp:∀{α:Type} (f:α->D) (l:List α),l.length<=1000->BV (.tup (l.map f)) (some ((l.length / 2:Nat):Int)) none=some (.tup ((l.drop (l.length / 2)).map f))/\BV (.tup (l.map f)) none (some ((l.length / 2:Nat):Int))=some (.tup ((l.take (l.length / 2)).map f))/\bU (.tup ((l.drop (l.length / 2)).map f)) (.tup ((l.take (l.length / 2)).map f))=some (.tup ((l.drop (l.length / 2)++l.take (l.length / 2)).map f)):=λf l hl=>by
  have hk:l.length / 2<=(l.map f).length:=by rw[L4];omega
  rw[sR hk,IZ hk,T2,Ru,LW,T2,Ru]
  refine⟨rfl,rfl,Bf ?_⟩
  rw[Q8,Nz,L4]
  unfold lim
  omega
 obtain⟨a1,a2,a5⟩:=sp ak ss (by omega)
 obtain⟨a3,a4,a6⟩:=sp ax rd (by omega)
 have q1:((ss.length:Int)) / 2=((ss.length / 2:Nat):Int):=rfl
 have q2:((rd.length:Int)) / 2=((rd.length / 2:Nat):Int):=rfl
 rw[ai (ρ':=[some (.val (.scr ns)),some (.val cd),some (.val (.int tn)),some (.val (.int ((ss.length / 2:Nat):Int))),none]) (by simp! [i1,L4,eC (show (0:Int)<2/\(2:Int)<1073741824 by decide),q1]),
  ai (ρ':=[some (.val (.scr ns)),some (.val cd),some (.val (.int tn)),some (.val (.int ((ss.length / 2:Nat):Int))),some (.val (.int ((rd.length / 2:Nat):Int)))]) (by simp! [i3,L4,eC (show (0:Int)<2/\(2:Int)<1073741824 by decide),q2])]
 refine dQ (oB (ds:=[.int (n:Int), .tup ((ss.drop (ss.length / 2)++ss.take (ss.length / 2)).map ak), .tup (rs.map .int), .tup ((rd.drop (rd.length / 2)++rd.take (rd.length / 2)).map ax)]) ?_ rfl (kN c (rB _ _) (rB _ _) (.inr rfl) (.inr rfl) (.inr rfl)))
 simp! [i0,i1,i2,i3,yk,jv,iu,a1,a2,a3,a4,a5,a6]
theorem ik {n:Nat} {ss:List aI} {rs:List Int} {rd:List (Int×Int)} {f:L0} {fa:af->R D} {ρ:af} {d:D} (h:fa ρ= .ok (av n ss rs rd)) (e:(oj n ss rs rd).lookup f=some d):bw "Day" f fa ρ= .ok d:=by
 unfold bw
 simp only[h,aj,av,if_true,e,bH]
theorem DS {n:Nat} {ss:List aI} {rs:List Int} {rd:List (Int×Int)}:(oj n ss rs rd).lookup ("tanks":L0)=some (D.int (n:Int)):=rfl
theorem w6 {n:Nat} {ss:List aI} {rs:List Int} {rd:List (Int×Int)}:(oj n ss rs rd).lookup ("streams":L0)=some (D.tup (ss.map ak)):=rfl
theorem DT {n:Nat} {ss:List aI} {rs:List Int} {rd:List (Int×Int)}:(oj n ss rs rd).lookup ("rises":L0)=some (D.tup (rs.map .int)):=rfl
theorem w8 {n:Nat} {ss:List aI} {rs:List Int} {rd:List (Int×Int)}:(oj n ss rs rd).lookup ("readings":L0)=some (D.tup (rd.map ax)):=rfl
theorem w_ {a0:Option Slot} {k:Int}:∀(ss:List aI) (x:Option Slot),(∃r∈ss,r.1=k/\aU (gN 2) cM (ss.map ak) [a0,some (.val (.int k)),x]= .ok (.ret (ak r)))\/((∀r∈ss,r.1≠k)/\∃y,aU (gN 2) cM (ss.map ak) [a0,some (.val (.int k)),x]= .ok (.nx [a0,some (.val (.int k)),y]))
 |[],x=> .inr ⟨by simp,x,rfl⟩
 |r::ss,x=>by
  by_cases h:r.1=k
  ·refine .inl ⟨r,L8,h,?_⟩
   rw[L3]
   exact u0 rfl (by simp! [cM,ak,ee,h])
  ·have e:cM [a0,some (.val (.int k)),some (.val (ak r))]= .ok (.nx [a0,some (.val (.int k)),some (.val (ak r))]):=by simp! [cM,ak,ee,h]
   rcases w_ (a0:=a0) (k:=k) ss (some (.val (ak r)))with ⟨q,h1,h2,h3⟩|⟨h1,y,h2⟩
   ·exact .inl ⟨q,L7 _ h1,h2,by rw[L3,b8 rfl e,h3]⟩
   ·exact .inr ⟨λq hq=>(Le.mp hq).elim (λz=>z▸h) (h1 q),y,by rw[L3,b8 rfl e,h2]⟩
theorem I_ {ss:List aI} (h:(ss.map (·.1)).Nodup) {r q:aI} (hr:r∈ss) (hq:q∈ss) (e:r.1=q.1):r=q:=by
 induction ss with
 |nil=>cases hr
 |cons a ss ih=>
  rw[L3]at h
  obtain⟨h1,h2⟩:=LN.mp h
  rcases Le.mp hr with WB|WB<;>rcases Le.mp hq with Yu|Yu
  ·rw[WB,Yu]
  ·exact(h1 (Lk.mpr ⟨q,Yu,by rw[<-e,WB]⟩)).elim
  ·exact(h1 (Lk.mpr ⟨r,WB,by rw[e,Yu]⟩)).elim
  ·exact ih h2 WB Yu
theorem DU {k n:Nat} {g:af->R aW} {ds:List D} {x:L0} {ρ:af} (h:ds.length=k) (e:g (cZ n ds)= .err x ρ):aC k n g ds= .err x ρ:=by
 unfold aC
 rw[if_pos h,e];rfl
section
variable {n:Nat} {ss:List aI} {rs:List Int} {rd:List (Int×Int)}
theorem kO (c:bJ n ss rs rd) {r:aI} (hr:r∈ss):bQ [av n ss rs rd, .int r.1]= .ok (ak r):=by
 refine aE rfl ?_
 show mj [some (.val (av n ss rs rd)),some (.val (.int r.1)),none]=_
 have e0:bg (bw "Day" "streams" (ac 0)) [some (.val (av n ss rs rd)),some (.val (.int r.1)),none]= .ok (ss.map ak):=by simp! [bw,av,w6]
 rcases w_ (a0:=some (.val (av n ss rs rd))) (k:=r.1) ss none with ⟨q,h1,h2,h3⟩|⟨h1,_⟩
 ·rw[I_ c.good.nd h1 hr h2]at h3
  exact dP ((c7 e0).trans h3)
 ·exact absurd rfl (h1 r hr)
theorem Ka {m:L0} (h:m≠"tanks"/\m≠"streams"/\m≠"rises"/\m≠"readings":=by decide):(oj n ss rs rd).lookup m=none:=by
 obtain⟨h1,h2,h3,h4⟩:=h
 simp[oj,Mm,beq_eq_false_iff_ne.mpr h1,beq_eq_false_iff_ne.mpr h2,beq_eq_false_iff_ne.mpr h3,beq_eq_false_iff_ne.mpr h4]
theorem oE {m:L0} {k:Nat} {r:List D->R D} {fo:af->R D} {fs:af->R (List D)} {ρ:af} {ds:List D} {z:D} (h1:fo ρ= .ok (av n ss rs rd)) (h2:fs ρ= .ok ds) (hl:ds.length+1=k) (e:r (av n ss rs rd::ds)= .ok z) (hm:m≠"tanks"/\m≠"streams"/\m≠"rises"/\m≠"readings":=by decide):bW "Day" m k r fo fs ρ= .ok z:=by
 unfold bW
 simp only[h1,aj]
 unfold av at e ⊢
 simp only[Ka hm,and_self,if_true,h2,aj,hl,e]
theorem mE {m:L0} {r:List D->R D} {fo f:af->R D} {ρ:af} {d z:D} (h1:fo ρ= .ok (av n ss rs rd)) (h2:f ρ= .ok d) (e:r [av n ss rs rd,d]= .ok z) (hm:m≠"tanks"/\m≠"streams"/\m≠"rises"/\m≠"readings":=by decide):bW "Day" m 2 r fo (aa f ae) ρ= .ok z:=oE (ds:=[d]) h1 (ah h2 rfl) rfl e hm
theorem EM {m:L0} {r:List D->R D} {fo:af->R D} {ρ:af} {z:D} (h1:fo ρ= .ok (av n ss rs rd)) (e:r [av n ss rs rd]= .ok z) (hm:m≠"tanks"/\m≠"streams"/\m≠"rises"/\m≠"readings":=by decide):bW "Day" m 1 r fo ae ρ= .ok z:=oE (ds:=[]) h1 rfl rfl e hm
theorem yO {f:af->R D} {ρ:af} {d:D} {i:Nat} (h:f ρ= .ok d):aJ f (gN i) ρ= .ok (.nx (ρ.set i (some (.val d)))):=by
 unfold aJ gN
 rw[h];rfl
end
def uA (x:Int×Int):D:= .tup [.int x.1, .int x.2]
def cg (ps:List (Int×Int)):List (aL×D):=ps.map λx=>(Lf x.1, .int x.2)
theorem uB (ps:List (Int×Int)):f_ (ps.map uA)=some (cg ps):=by
 induction ps with
 |nil=>rfl
 |cons x r ih=>
  show (bN (.int x.1)).bind (λTd=>(f_ (r.map uA)).map λps=>(Td,D.int x.2)::ps)=_
  rw[ih]
  rfl
def mI (ps:List (Int×Int)):List (aL×D):=c_ [] (cg ps)
theorem gA {pd:D} {ps:List (Int×Int)} (h:pd= .lst (ps.map uA)\/pd= .tup (ps.map uA)):dk [pd]=some (.dic (mI ps)):=by
 rcases h with rfl|rfl
 ·show (f_ (ps.map uA)).map (λqs=>D.dic (c_ [] qs))=_
  rw[uB];rfl
 ·show (f_ (ps.map uA)).map (λqs=>D.dic (c_ [] qs))=_
  rw[uB];rfl
def yP (kds:List (aL×D)):Prop:=∀kv∈kds,∃i,kv.2=D.int i
theorem yP.put {kds:List (aL×D)} (h:yP kds) (k:aL) (i:Int):yP (gY kds k (.int i)):=by
 unfold gY
 split
 ·intro kv VJ
  obtain⟨x,hx,rfl⟩:=Lk.mp VJ
  split
  ·exact⟨i,rfl⟩
  ·exact h x hx
 ·intro kv VJ
  rcases LR.mp VJ with VJ|VJ
  ·exact h kv VJ
  ·rw[Lo.mp VJ];exact⟨i,rfl⟩
theorem pX:∀(ps:List (Int×Int)) {kds:List (aL×D)},yP kds->yP (c_ kds (cg ps))
 |[],_,h=>h
 |x::r,_,h=>pX r (h.put (Lf x.1) x.2)
def gF (ps:List (Int×Int)) (n:Int):Int:=match aZ (mI ps) (Lf n)with
 |some (.int i)=>i
 |_=>0
theorem x0 (ps:List (Int×Int)) (n:Int):(aZ (mI ps) (Lf n)).getD (.int 0)= .int (gF ps n):=by
 unfold gF
 cases h:aZ (mI ps) (Lf n)with
 |none=>rfl
 |some d=>
  have hv:yP (mI ps):=pX ps (kds:=[]) λkv VJ=>by cases VJ
  unfold aZ at h
  cases hf:(mI ps).find? λkv=>decide (kv.1=Lf n)with
  |none=>rw[hf]at h;cases h
  |some kv=>
   rw[hf]at h
   cases h
   obtain⟨i,hi⟩:=hv kv (List.mem_of_find?_eq_some hf)
   show (some kv.2).getD (D.int 0)=D.int (match (some kv.2:Option D)with|some (.int i)=>i|_=>0)
   rw[hi]
   rfl
theorem DV {kds:List (aL×D)} {k:aL} {v:D} (h:k∉kds.map (·.1)):gY kds k v=kds++[(k,v)]:=by
 unfold gY
 rw[if_neg]
 intro z
 obtain⟨kv,h1,h2⟩:=NC.mp z
 exact h (Lk.mpr ⟨kv,h1,by simpa using h2⟩)
theorem Bh (ps:List (Int×Int)) (n:Int):(Lf n:aL)∈(cg ps).map (·.1)<->n∈ps.map (·.1):=by
 unfold cg
 rw[LY]
 constructor
 ·intro h
  obtain⟨p,hp,e⟩:=Lk.mp h
  cases e
  exact LZ hp
 ·intro h
  obtain⟨p,hp,rfl⟩:=Lk.mp h
  exact Lk.mpr ⟨p,hp,rfl⟩
theorem xa {ps:List (Int×Int)} {p:Int×Int} (h:p.1∉ps.map (·.1)):gY (cg ps) (Lf p.1) (.int p.2)=cg (ps++[p]):=by
 rw[DV (λz=>h ((Bh ps p.1).mp z))]
 simp[cg]
theorem gR {ps:List (Int×Int)} (nd:(ps.map (·.1)).Nodup):mI ps=cg ps:=by
 have Td:∀(b a:List (Int×Int)),((a++b).map (·.1)).Nodup->c_ (cg a) (cg b)=cg (a++b):=by
  intro b
  induction b with
  |nil=>intro a _;simp[c_,cg]
  |cons p b ih=>
   intro a nd
   show c_ (gY (cg a) (Lf p.1) (.int p.2)) (cg b)=_
   have hp:p.1∉a.map (·.1):=by
    rw[LW,L3]at nd
    have:=(MA.mp nd).2.2
    intro z
    exact this _ z p.1 L8 rfl
   rw[xa hp,ih (a++[p]) (by rw[Mr];exact nd),Mr]
   rfl
 exact Td ps [] nd
theorem sS {ps:List (Int×Int)} (nd:(ps.map (·.1)).Nodup) {p:Int×Int} (h:p∈ps):aZ (cg ps) (Lf p.1)=some (.int p.2):=by
 induction ps with
 |nil=>cases h
 |cons q ps ih=>
  obtain⟨n1,n2⟩:=LN.mp nd
  unfold aZ cg
  rw[L3,MQ]
  rcases Le.mp h with rfl|h
  ·simp
  ·have TM:q.1≠p.1:=λz=>n1 (by show q.1∈ps.map (·.1);rw[z];exact LZ h)
   have:decide ((Lf q.1:aL)=Lf p.1)=false:=by simpa using TM
   simp only[this]
   exact ih n2 h
theorem jj {ps:List (Int×Int)} (nd:(ps.map (·.1)).Nodup) {p:Int×Int} (h:p∈ps):gF ps p.1=p.2:=by
 unfold gF
 rw[gR nd,sS nd h]
def ay (ss:List aI) (rd:List (Int×Int)):List aI:=ss.filter λr=>decide (r.1∉rd.map (·.1))
theorem xb {a0:Option Slot}:∀(rd:List (Int×Int)) (x:Option Slot),de (gN 1) iO (f2 aP (ac 1) (fC (.int 0))) (rd.map ax) [a0,x]= .ok ((rd.map (·.1)).map .int)
 |[],x=>rfl
 |p::rd,x=>by
  have ih:=xb (a0:=a0) rd (some (.val (ax p)))
  rw[L3,de]
  simp only[gN,iO,aj,MJ,MI,if_true,ih]
  simp! [ax,ee,L3]
theorem xc {a0:Option Slot} {rr:List Int}:∀(ss:List aI) (x:Option Slot),de (gN 1) (fT (f2 (bV true) (f2 aP (ac 1) (fC (.int 0))) (ac 2))) (ag 1) (ss.map ak) [a0,x,some (.bor (.lst (rr.map .int)))]= .ok ((ss.filter λr=>decide (r.1∉rr)).map ak)
 |[],x=>rfl
 |r::ss,x=>by
  have ih:=xc (a0:=a0) (rr:=rr) ss (some (.val (ak r)))
  rw[L3,de]
  simp only[gN,aj,MJ,MI,ih]
  by_cases h:r.1∈rr
  ·simp! [ak,ee,t_,h,not_true,Mc,decide_false]
  ·simp! [ak,ee,t_,h,not_false_eq_true,Mc,decide_true,L3]
theorem w9 {n:Nat} {ss:List aI} {rs:List Int} {rd:List (Int×Int)} (h1:ss.length<=1000) (h2:rd.length<=1000):gO [aX n ss rs rd]= .ok (.lst ((ay ss rd).map ak)):=by
 refine aE rfl ?_
 show kn [some (.val (aX n ss rs rd)),none]=_
 have e3:L2.atI [D.int (n:Int), .tup (ss.map ak), .tup (rs.map .int), .tup (rd.map ax)] 3=some (.tup (rd.map ax)):=by
  have:=eD (xs:=[D.int (n:Int), .tup (ss.map ak), .tup (rs.map .int), .tup (rd.map ax)]) (k:=3) (by simp)
  simpa using this
 unfold kn
 rw[ai (ρ':=[some (.val (aX n ss rs rd)),some (.own (.lst ((rd.map (·.1)).map .int)))]) (own_of (dw (ds:=rd.map ax) (τ:=[none,none]) (by simp! [aX,e3]) (by simp;unfold lim;omega) rfl (xb _ _)))]
 refine dQ (vI (dw (ds:=ss.map ak) (τ:=[none,none,some (.bor (.lst ((rd.map (·.1)).map .int)))]) (by simp! [aX,pU]) (by simp;unfold lim;omega) rfl (xc _ _)))
theorem bJ.rnd {n:Nat} {ss:List aI} {rs:List Int} {rd:List (Int×Int)} (c:bJ n ss rs rd):(rd.map (·.1)).Nodup:=Po c.sub c.good.nd
theorem pY (ps:List (Int×Int)) (k:Int):(aZ (cg ps) (Lf k)).isSome=decide (k∈ps.map (·.1)):=by
 induction ps with
 |nil=>rfl
 |cons x r ih=>
  unfold aZ cg at ih ⊢
  rw[L3,MQ,L3]
  by_cases h:x.1=k
  ·simp[h]
  ·have e:decide ((Lf x.1:aL)=Lf k)=false:=by simpa using h
   simp only[e]
   rw[ih]
   have:¬k=x.1:=λz=>h z.symm
   simp[this]
theorem GS {ps:List (Int×Int)} (nd:(ps.map (·.1)).Nodup) (k:Int):bV false (.int k) (.dic (mI ps))=some (.bl (decide (k∈ps.map (·.1)))):=by
 show some (D.bl (aZ (mI ps) (Lf k)).isSome)=_
 rw[gR nd,pY]
section
variable {n:Nat} {ss:List aI} {rs:List Int} {rd:List (Int×Int)}
theorem gB (c:bJ n ss rs rd) {r:aI} (hr:r∈ss):aS [av n ss rs rd, .int r.1]= .ok (.bl (decide (r.1∈rd.map (·.1)))):=by
 refine aE rfl ?_
 show hU [some (.val (av n ss rs rd)),some (.val (.int r.1)),none]=_
 unfold hU
 refine Nm (ai (yO (mE rfl rfl (kO c hr)))) ?_
 have e:=gA (pd:= .tup (rd.map ax)) (ps:=rd) (.inr rfl)
 have e2:=GS c.rnd r.1
 simp! [bw,av,w8,ak,ee,e,e2]
theorem jk (c:bJ n ss rs rd):aN [av n ss rs rd]= .ok (.tup ((ay ss rd).map ak)):=by
 refine aE rfl (dQ (eE (ah (vI (dw (ds:=ss.map ak) (τ:=[none,none,some (.val (av n ss rs rd))]) ?_ ?_ rfl (ji (e:=ak) (p:=λr:aI=>decide (r.1∉rd.map (·.1))) ss ?_ ?_ _))) rfl) rfl))
 ·show bg (bw "Day" "streams" (ac 0)) [some (.val (av n ss rs rd))]=_
  simp! [bw,av,w6]
 ·have:=c.len
  simp[lim];omega
 ·intro r hr
  have e:=oE (m:="metered") (k:=2) (r:=aS) (fo:=ag 2) (fs:=aa (f2 aP (ac 1) (fC (.int 0))) (ae)) (ρ:=[none,some (.val (ak r)),some (.val (av n ss rs rd))]) (ds:=[.int r.1]) rfl (by simp! [ak,ee]) rfl (gB c hr)
  simp only[cI,bF,e,aj,fW,bH,decide_not]
 ·intro r hr _
  rfl
end
def BX (ss:List aI) (a b:Int):Prop:=∃r∈ss,(r.2.1=a/\r.2.2=b)\/(r.2.2=a/\r.2.1=b)
inductive il (ss:List aI) (a:Int):Int->Prop
 |refl:il ss a a
 |step {b c:Int}:il ss a b->BX ss b c->il ss a c
theorem BX.symm {ss:List aI} {a b:Int} (h:BX ss a b):BX ss b a:=by
 obtain⟨r,hr,h|h⟩:=h
 ·exact⟨r,hr, .inr ⟨h.2,h.1⟩⟩
 ·exact⟨r,hr, .inl ⟨h.2,h.1⟩⟩
theorem il.trans {ss:List aI} {a b c:Int} (h:il ss a b) (g:il ss b c):il ss a c:=by
 induction g with
 |refl=>exact h
 |step _ e ih=>exact .step ih e
theorem il.symm {ss:List aI} {a b:Int} (h:il ss a b):il ss b a:=by
 induction h with
 |refl=>exact .refl
 |step _ e ih=>exact(il.step .refl e.symm).trans ih
structure yQ (n:Nat) (ss:List aI):Prop where
 src:∀r∈ss,0<=r.2.1/\r.2.1<=n
 tgt:∀r∈ss,0<=r.2.2/\r.2.2<=n
theorem il.range {n:Nat} {ss:List aI} (g:yQ n ss) {a b:Int} (ha:0<=a/\a<=n) (h:il ss a b):0<=b/\b<=n:=by
 induction h with
 |refl=>exact ha
 |step _ e _=>
  obtain⟨r,hr,h|h⟩:=e
  ·rw[<-h.2];exact g.tgt r hr
  ·rw[<-h.2];exact g.src r hr
theorem wa {ss:List aI} {a:Int} {S:Int->Prop} (ha:S a) (hc:∀b c,S b->BX ss b c->S c) {b:Int} (h:il ss a b):S b:=by
 induction h with
 |refl=>exact ha
 |step _ e ih=>exact hc _ _ ih e
theorem lf (a:Int):∀{l:List Int},l.Nodup->l.length<=(l.filter λx=>decide (x≠a)).length+1
 |[],_=>by simp
 |x::r,h=>by
  obtain⟨h1,h2⟩:=LN.mp h
  by_cases e:x=a
  ·subst e
   have:r.filter (λy=>decide (y≠x))=r:=Pa.mpr λy hy=>by simp;intro z;subst z;exact h1 hy
   rw[Mc,if_neg (by simp),this]
   simp
  ·have ih:=lf a h2
   rw[Mc,if_pos (by simpa using e)]
   simp only[Lm]
   omega
theorem iF:∀(n:Nat) {l:List Int},l.Nodup->(∀x∈l,0<=x/\x<n)->l.length<=n
 |0,l,_,h=>by
  cases l with
  |nil=>simp
  |cons x r=>have:=h x L8;omega
 |n+1,l,hn,h=>by
  have h1:=lf (n:Int) hn
  have h2:=iF n (l:=l.filter λx=>decide (x≠(n:Int))) (Po O8 hn) λx hx=>by
   obtain⟨a,b⟩:=Lv.mp hx
   have:=h x a
   simp at b
   omega
  omega
theorem xf {n:Nat} {ss:List aI} (h:Good n ss):yQ n ss:=⟨h.src,h.tgt⟩
def J0 (seen:List Int) (a b:Int):List Int:=if a∈seen/\b∉seen then seen++[b]else seen
structure GU (ss:List aI) (p:Int) (seen:List Int):Prop where
 nd:seen.Nodup
 tied:∀q∈seen,il ss p q
 here:p∈seen
theorem GU.add {ss:List aI} {p:Int} {seen:List Int} (s:GU ss p seen) {a b:Int} (h:BX ss a b):GU ss p (J0 seen a b):=by
 unfold J0
 split
 ·rename_i hc
  refine⟨MA.mpr ⟨s.nd,by simp,λx hx y hy=> ?_⟩,λq hq=> ?_,LS _ s.here⟩
  ·have:y=b:=by simpa using hy
   subst this
   intro z;subst z;exact hc.2 hx
  ·rcases LR.mp hq with hq|hq
   ·exact s.tied q hq
   ·have:q=b:=by simpa using hq
    subst this
    exact .step (s.tied a hc.1) h
 ·exact s
structure o5 (ss:List aI) (p:Int) (l:List Int):Prop where
 mem:∀q,q∈l<->il ss p q
 nd:l.Nodup
 srt:l.Pairwise (·<=·)
theorem uC {ss:List aI} {p:Int} {l:List Int} (hm:∀q,q∈l<->il ss p q) (hn:l.Nodup):o5 ss p (cy l):=
 ⟨λq=>by rw[(eu l).mem_iff];exact hm q,(eu l).nodup_iff.mpr hn,fH l⟩
theorem o5.uniq {ss:List aI} {p:Int} {a b:List Int} (ha:o5 ss p a) (hb:o5 ss p b):a=b:=
 eP ((List.perm_ext_iff_of_nodup ha.nd hb.nd).mpr λq=>by rw[ha.mem,hb.mem]) ha.srt hb.srt
theorem o5.len {n:Nat} {ss:List aI} {p:Int} {a:List Int} (h:o5 ss p a) (g:yQ n ss) (hn:n<=7) (hp:0<=p/\p<=n):a.length<=8:=
 LL (iF (n+1) h.nd λx hx=>by have:=((h.mem x).mp hx).range g hp;omega) (by omega)
theorem o5.head {ss:List aI} {p:Int} {a:List Int} (h:o5 ss p a):∃x r,a=x::r/\il ss p x/\∀q,il ss p q->x<=q:=by
 cases a with
 |nil=>exact absurd ((h.mem p).mpr .refl) (by simp)
 |cons x r=>
  refine⟨x,r,rfl,(h.mem x).mp L8,λq hq=> ?_⟩
  rcases Le.mp ((h.mem q).mpr hq)with rfl|hq
  ·exact QL _
  ·exact(Ma.mp h.srt).1 q hq
def b7 (B:Int->List Int) (ps:List Int):List (List Int):=(ps.filter λp=>decide ((B p).head? =some p)).map B
def bD (l:List Int):D:= .tup (l.map .int)
theorem qy (B:Int->List Int) (a b:List Int):b7 B (a++b)=b7 B a++b7 B b:=by simp[b7]
theorem rC (xs:List Int):Ar [.lst (xs.map .int)]=some (.int xs.sum):=by
 show (cA (xs.map D.int)).map (λns=>D.int ns.sum)=_
 rw[vz]
 rfl
def rs (rises gi:List Int):Int:=(gi.map λt=>rises.getD (t - 1).toNat 0).sum
theorem xg {rises:List Int} {t:Int} (h:1<=t/\t<=rises.length):L2.atI (rises.map D.int) (t - 1)=some (.int (rises.getD (t - 1).toNat 0)):=by
 have hk:(t - 1).toNat<rises.length:=by omega
 rw[Dw,show t - 1=(((t - 1).toNat:Nat):Int) by omega,eD hk]
 show some (D.int rises[(t - 1).toNat])=_
 rw[show ((((t - 1).toNat:Nat):Int)).toNat=(t - 1).toNat by omega,Mh,M_ hk]
 rfl
def cW (am:Int->Int) (ss:List aI) (t:Int):Int:=(ss.map λr=>(if r.2.2=t then am r.1 else 0) - (if r.2.1=t then am r.1 else 0)).sum
theorem DW {a0 a1 a2:Option Slot} {ps:List (Int×Int)} {UW tank:Int} {r:aI}:ja [a0,a1,a2,some (.val (.int UW)),some (.val (.dic (mI ps))),some (.val (.int tank)),some (.val (.int r.1)),some (.val (.int r.2.1)),some (.val (.int r.2.2))]
  = .ok (.nx [a0,a1,a2,some (.val (.int (UW+((if r.2.2=tank then gF ps r.1 else 0) - (if r.2.1=tank then gF ps r.1 else 0))))),some (.val (.dic (mI ps))),some (.val (.int tank)),some (.val (.int r.1)),some (.val (.int r.2.1)),some (.val (.int r.2.2))]):=by
 by_cases h1:r.2.2=tank<;>by_cases h2:r.2.1=tank<;>simp! [ja,lY,bN,h1,h2,x0]
 all_goals (refine congrArg (λz:Int=>R.ok (aW.nx [a0,a1,a2,some (.val (.int z)),some (.val (.dic (mI ps))),some (.val (.int _)),some (.val (.int r.1)),some (.val (.int _)),some (.val (.int _))])) ?_;omega)
theorem Bi {a0 a1 a2:Option Slot} {ps:List (Int×Int)} {tank:Int}:∀(ss:List aI) (UW:Int) (x6 x7 x8:Option Slot),∃y6 y7 y8,aU (dc 3 (aH (gN 6) (aH (gN 7) (aH (gN 8) (cS))))) ja (ss.map ak) [a0,a1,a2,some (.val (.int UW)),some (.val (.dic (mI ps))),some (.val (.int tank)),x6,x7,x8]
  = .ok (.nx [a0,a1,a2,some (.val (.int (UW+cW (gF ps) ss tank))),some (.val (.dic (mI ps))),some (.val (.int tank)),y6,y7,y8])
 |[],UW,x6,x7,x8=>⟨x6,x7,x8,by simp[aU,cW]⟩
 |r::ss,UW,x6,x7,x8=>by
  obtain⟨y6,y7,y8,e⟩:=Bi (a0:=a0) (a1:=a1) (a2:=a2) (ps:=ps) (tank:=tank) ss (UW+((if r.2.2=tank then gF ps r.1 else 0) - (if r.2.1=tank then gF ps r.1 else 0))) (some (.val (.int r.1))) (some (.val (.int r.2.1))) (some (.val (.int r.2.2)))
  refine⟨y6,y7,y8,?_⟩
  rw[L3,b8 rfl DW,e]
  have:cW (gF ps) (r::ss) tank=(if r.2.2=tank then gF ps r.1 else 0) - (if r.2.1=tank then gF ps r.1 else 0)+cW (gF ps) ss tank:=rfl
  rw[this,T3]
theorem xh {sd:D} {ss:List aI} {a1 a2:Option Slot} {ps:List (Int×Int)} (hs:sd= .lst (ss.map ak)\/sd= .tup (ss.map ak)):∀(gi:List Int) (UW:Int) (x5 x6 x7 x8:Option Slot),∃y5 y6 y7 y8,aU (gN 5) jb (gi.map .int) [some (.val sd),a1,a2,some (.val (.int UW)),some (.val (.dic (mI ps))),x5,x6,x7,x8]
  = .ok (.nx [some (.val sd),a1,a2,some (.val (.int (UW+(gi.map (cW (gF ps) ss)).sum))),some (.val (.dic (mI ps))),y5,y6,y7,y8])
 |[],UW,x5,x6,x7,x8=>⟨x5,x6,x7,x8,by simp[aU]⟩
 |t::gi,UW,x5,x6,x7,x8=>by
  obtain⟨z6,z7,z8,e1⟩:=Bi (a0:=some (.val sd)) (a1:=a1) (a2:=a2) (ps:=ps) (tank:=t) ss UW x6 x7 x8
  obtain⟨y5,y6,y7,y8,e2⟩:=xh (a1:=a1) (a2:=a2) (ps:=ps) hs gi (UW+cW (gF ps) ss t) (some (.val (.int t))) z6 z7 z8
  refine⟨y5,y6,y7,y8,?_⟩
  have hq:bg (ag 0) [some (.val sd),a1,a2,some (.val (.int UW)),some (.val (.dic (mI ps))),some (.val (.int t)),x6,x7,x8]= .ok (ss.map ak):=by rcases hs with rfl|rfl<;>rfl
  have hb:jb [some (.val sd),a1,a2,some (.val (.int UW)),some (.val (.dic (mI ps))),some (.val (.int t)),x6,x7,x8]= .ok (.nx [some (.val sd),a1,a2,some (.val (.int (UW+cW (gF ps) ss t))),some (.val (.dic (mI ps))),some (.val (.int t)),z6,z7,z8]):=by
   unfold jb
   rw[c7 hq,e1]
  rw[L3,b8 rfl hb,e2,L3,M1,T3]
theorem Bj {sd pd gd:D} {ss:List aI} {ps:List (Int×Int)} {gi:List Int} (hs:sd= .lst (ss.map ak)\/sd= .tup (ss.map ak)) (hp:pd= .lst (ps.map uA)\/pd= .tup (ps.map uA)) (hg:gd= .lst (gi.map .int)\/gd= .tup (gi.map .int)):
  kM [sd,pd,gd]= .ok (.int ((gi.map (cW (gF ps) ss)).sum)):=by
 obtain⟨y5,y6,y7,y8,e⟩:=xh (a1:=some (.val pd)) (a2:=some (.val gd)) (ps:=ps) hs gi 0 none none none none
 refine aE rfl ?_
 show nr [some (.val sd),some (.val pd),some (.val gd),none,none,none,none,none,none]=_
 have hq:bg (ag 2) [some (.val sd),some (.val pd),some (.val gd),some (.val (.int 0)),some (.val (.dic (mI ps))),none,none,none,none]= .ok (gi.map .int):=by rcases hg with rfl|rfl<;>rfl
 unfold nr
 rw[ai (ρ':=[some (.val sd),some (.val pd),some (.val gd),some (.val (.int 0)),none,none,none,none,none]) rfl,
  ai (ρ':=[some (.val sd),some (.val pd),some (.val gd),some (.val (.int 0)),some (.val (.dic (mI ps))),none,none,none,none]) (dA (eE (ah rfl rfl) (gA hp)) rfl)]
 rw[ai (by rw[c7 hq];exact e)]
 simp! [Int.zero_add]
def iG (ss:List aI) (rd:List (Int×Int)) (g:List Int):Int:=(g.map (cW (gF rd) ss)).sum
def eL (B:Int->List Int) (rises:List Int) (ss:List aI) (rd:List (Int×Int)) (ts:List Int):List (List Int×Int×Int):=((b7 B ts).map λg=>(g,rs rises g,iG ss rd g)).filter λx=>decide (x.2.1≠x.2.2)
def Bm (x:List Int×Int×Int):D:= .tup [bD x.1, .int x.2.1, .int x.2.2]
theorem KS {a b c d:D}:L2.atI [a,b,c,d] 2=some c:=by
 have:=eD (xs:=[a,b,c,d]) (k:=2) (by simp)
 simpa using this
theorem Ks {a b c d:D}:L2.atI [a,b,c,d] 3=some d:=by
 have:=eD (xs:=[a,b,c,d]) (k:=3) (by simp)
 simpa using this
theorem rD:ax=uA:=rfl
def aV (n:Nat):List Int:=(LU n).map λk:Nat=>1+(k:Int)
theorem cj {n:Nat} {t:Int}:t∈aV n<->1<=t/\t<=n:=by
 unfold aV
 rw[Lk]
 constructor
 ·rintro⟨k,hk,rfl⟩
  have:=M0.mp hk
  omega
 ·intro h
  exact⟨(t - 1).toNat,M0.mpr (by omega),by omega⟩
theorem sT (n:Nat):fX 1 ((n:Int)+1)=(aV n).map .int:=by
 unfold fX aV
 rw[show ((n:Int)+1 - 1).toNat=n by omega,LY]
 rfl
theorem bJ.loose {n:Nat} {ss:List aI} {rises:List Int} {rd:List (Int×Int)} (c:bJ n ss rises rd):Good n (ay ss rd):=
 ⟨c.good.inc.sublist O8,λr hr=>c.good.num r ((Lv.mp hr).1),λr hr=>c.good.src r ((Lv.mp hr).1),λr hr=>c.good.tgt r ((Lv.mp hr).1),λr hr=>c.good.ne r ((Lv.mp hr).1)⟩
section
variable {n:Nat} {ss:List aI} {rs:List Int} {rd:List (Int×Int)}
theorem o6 (c:bJ n ss rs rd) (k:Int):b6 [av n ss rs rd, .int k]= .ok (.tup (((ay ss rd).filter λr=>decide (r.1≠k)).map ak)):=by
 refine aE rfl (dQ (eE (ah (vI (dw (ds:=(ay ss rd).map ak) (τ:=[none,none,some (.val (.int k))]) ?_ ?_ rfl (ji (e:=ak) (p:=λr:aI=>decide (r.1≠k)) (ay ss rd) ?_ ?_ _))) rfl) rfl))
 ·have e:=oE (m:="without_meter") (k:=1) (r:=aN) (fo:=ag 0) (fs:=ae) (ρ:=[some (.val (av n ss rs rd)),some (.val (.int k))]) (ds:=[]) rfl rfl rfl (jk c)
  show bg _ [some (.val (av n ss rs rd)),some (.val (.int k))]=_
  unfold bg
  simp only[e,aj]
 ·have:=c.len
  have h2:(ay ss rd).length<=ss.length:=Nk _ _
  simp[lim];omega
 ·intro r hr
  simp! [ak,ee,ne_eq,decide_not]
 ·intro r hr _
  rfl
end
def aY (ss:List aI) (rd:List (Int×Int)) (k:Int):List aI:=(ay ss rd).filter λr=>decide (r.1≠k)
section
variable {n:Nat} {ss:List aI} {rs:List Int} {rd:List (Int×Int)}
theorem jl (k:Int):(aY ss rd k).Sublist ss:=List.Sublist.trans O8 O8
theorem bJ.others (c:bJ n ss rs rd) (k:Int):yQ n (aY ss rd k):=⟨λr hr=>c.good.src r ((jl k).subset hr),λr hr=>c.good.tgt r ((jl k).subset hr)⟩
theorem bJ.olen (c:bJ n ss rs rd) (k:Int):(aY ss rd k).length<=12:=LL (jl k).length_le c.len
theorem bJ.ond (c:bJ n ss rs rd) (k:Int):((aY ss rd k).map (·.1)).Nodup:=Po ((jl k).map _) c.good.nd
theorem J5 {r:aI}:L2.atI [D.int r.1, .int r.2.1, .int r.2.2] 2=some (.int r.2.2):=by
 have:=eD (xs:=[D.int r.1, .int r.2.1, .int r.2.2]) (k:=2) (by simp)
 simpa using this
end
abbrev kP:=Int×Option (Int×Int×Int)
def qz:Option (Int×Int×Int)->D
 |none=> .non
 |some (u,n,d)=> .tup [.int u, .tup [.int n, .int d]]
def bK (es:List kP):List (aL×D):=es.map λe=>((Lf e.1:aL),qz e.2)
def f8 (es:List kP):List Int:=es.map (·.1)
theorem uD (es:List kP) (x:Int):(aZ (bK es) (Lf x)).isSome=decide (x∈f8 es):=by
 induction es with
 |nil=>rfl
 |cons e r ih=>
  show (aZ ((Lf e.1,qz e.2)::bK r) (Lf x)).isSome=_
  by_cases h:e.1=x
  ·have:aZ ((Lf e.1,qz e.2)::bK r) (Lf x)=some (qz e.2):=by simp[aZ,h]
   rw[this]
   simp[f8,h]
  ·have h1:aZ ((Lf e.1,qz e.2)::bK r) (Lf x)=aZ (bK r) (Lf x):=by simp[aZ,h]
   rw[h1,ih]
   show decide (x∈f8 r)=decide (x∈e.1::f8 r)
   rw[decide_eq_decide]
   exact⟨L7 _,λz=>(Le.mp z).resolve_left (MG h)⟩
theorem Bo (es:List kP) (x:Int) (o:Option (Int×Int×Int)) (h:x∉f8 es):gY (bK es) (Lf x) (qz o)=bK (es++[(x,o)]):=by
 unfold gY
 rw[if_neg]
 ·simp[bK]
 ·intro z
  obtain⟨kv,h1,h2⟩:=NC.mp z
  obtain⟨e,he,rfl⟩:=Lk.mp h1
  have:e.1=x:=by simpa using h2
  exact h (Lk.mpr ⟨e,he,this⟩)
theorem yR (es:List kP):eR (bK es)=some (f8 es):=by
 induction es with
 |nil=>rfl
 |cons e r ih=>show (eR (bK r)).map (e.1::·)=_;rw[ih];rfl
def gC (p:Int) (r:aI):Option aI:=if r.2.1=p then some (r.1,1,r.2.2)else if r.2.2=p then some (r.1,-1,r.2.1)else none
def cb (ss:List aI) (p:Int):List aI:=ss.filterMap (gC p)
theorem DX {a0:Option Slot} {p:Int} {acc:List aI} {r:aI} (hl:acc.length<=1000):
  cL [a0,some (.val (.int p)),some (.own (.lst (acc.map ak))),some (.val (.int r.1)),some (.val (.int r.2.1)),some (.val (.int r.2.2))]
   = .ok (.nx [a0,some (.val (.int p)),some (.own (.lst ((acc++(gC p r).toList).map ak))),some (.val (.int r.1)),some (.val (.int r.2.1)),some (.val (.int r.2.2))]):=by
 have l1:(acc.map ak).length<lim:=by rw[L4];unfold lim;omega
 have l3:(3:Nat)<=lim:=by decide
 unfold gC
 by_cases h1:r.2.1=p
 ·simp! [cL,h1,l1,l3,Rv,LW,L3,M4,ak]
 ·by_cases h2:r.2.2=p
  ·simp! [cL,h1,h2,l1,l3,Rv,LW,L3,M4,ak]
  ·simp! [cL,h1,h2,Rv,Mb]
theorem xi {a0:Option Slot} {p:Int}:∀(ss:List aI) (acc:List aI) (x3 x4 x5:Option Slot),acc.length+ss.length<=1000->
  ∃y3 y4 y5,aU (dc 3 (aH (gN 3) (aH (gN 4) (aH (gN 5) (cS))))) cL (ss.map ak) [a0,some (.val (.int p)),some (.own (.lst (acc.map ak))),x3,x4,x5]
   = .ok (.nx [a0,some (.val (.int p)),some (.own (.lst ((acc++cb ss p).map ak))),y3,y4,y5])
 |[],acc,x3,x4,x5,_=>⟨x3,x4,x5,by simp[aU,cb]⟩
 |r::ss,acc,x3,x4,x5,hl=>by
  simp only[Lm]at hl
  have h1:(gC p r).toList.length<=1:=by cases gC p r<;>simp
  obtain⟨y3,y4,y5,e⟩:=xi (a0:=a0) (p:=p) ss (acc++(gC p r).toList) (some (.val (.int r.1))) (some (.val (.int r.2.1))) (some (.val (.int r.2.2))) (by rw[LX];omega)
  refine⟨y3,y4,y5,?_⟩
  rw[L3,b8 rfl (DX (by omega)),e]
  have:cb (r::ss) p=(gC p r).toList++cb ss p:=by
   unfold cb
   rw[N8]
   cases gC p r<;>rfl
  rw[this,Mr]
theorem wb {ss:List aI} {p:Int} {sd:D} (Vp:sd= .lst (ss.map ak)\/sd= .tup (ss.map ak)) (hl:ss.length<=1000):fM [sd, .int p]= .ok (.lst ((cb ss p).map ak)):=by
 obtain⟨y3,y4,y5,e⟩:=xi (a0:=some (.val sd)) (p:=p) ss [] none none none (by simpa using hl)
 have hq:bg (ag 0) [some (.val sd),some (.val (.int p)),some (.own (.lst [])),none,none,none]= .ok (ss.map ak):=by rcases Vp with rfl|rfl<;>rfl
 refine aE rfl ?_
 show iY [some (.val sd),some (.val (.int p)),none,none,none,none]=_
 unfold iY
 rw[ai (ρ':=[some (.val sd),some (.val (.int p)),some (.own (.lst [])),none,none,none]) (by simp! []),ai ((c7 hq).trans e)]
 simp! []
theorem yS (ss:List aI) (p:Int):(cb ss p).length<=ss.length:=List.length_filterMap_le _ _
def BY (ss:List aI) (u n d q:Int):Prop:=∃r∈ss,r.1=n/\((d=1/\r.2.1=u/\r.2.2=q)\/(d= -1/\r.2.2=u/\r.2.1=q))
theorem GV {ss:List aI} {p:Int} {st:aI} (h:st∈cb ss p):BY ss p st.1 st.2.1 st.2.2:=by
 obtain⟨r,hr,e⟩:=Nb.mp h
 unfold gC at e
 split at e
 ·rename_i h1
  cases e
  exact⟨r,hr,rfl, .inl ⟨rfl,h1,rfl⟩⟩
 ·split at e
  ·rename_i h1 h2
   cases e
   exact⟨r,hr,rfl, .inr ⟨rfl,h2,rfl⟩⟩
  ·cases e
theorem BY.adj {ss:List aI} {u n d q:Int} (h:BY ss u n d q):BX ss u q:=by
 obtain⟨r,hr,_,h|h⟩:=h
 ·exact⟨r,hr, .inl ⟨h.2.1,h.2.2⟩⟩
 ·exact⟨r,hr, .inr ⟨h.2.1,h.2.2⟩⟩
theorem yT {ss:List aI} {p c:Int} (h:BX ss p c):c=p\/∃st∈cb ss p,st.2.2=c:=by
 obtain⟨r,hr,h|h⟩:=h
 ·exact .inr ⟨(r.1,1,r.2.2),Nb.mpr ⟨r,hr,by unfold gC;rw[if_pos h.1]⟩,h.2⟩
 ·by_cases e:r.2.1=p
  ·exact .inl (by rw[<-h.2];exact e)
  ·exact .inr ⟨(r.1,-1,r.2.1),Nb.mpr ⟨r,hr,by unfold gC;rw[if_neg e,if_pos h.1]⟩,h.2⟩
inductive gD (ss:List aI) (p:Int):List kP->Prop
 |one:gD ss p [(p,none)]
 |snoc {es:List kP} {q u n d:Int}:gD ss p es->u∈f8 es->q∉f8 es->BY ss u n d q->gD ss p (es++[(q,some (u,n,d))])
theorem dr (es:List kP) (e:kP):f8 (es++[e])=f8 es++[e.1]:=by simp[f8]
theorem gD.nd {ss:List aI} {p:Int} {es:List kP} (h:gD ss p es):(f8 es).Nodup:=by
 induction h with
 |one=>simp[f8]
 |snoc _ _ hq _ ih=>
  rw[dr]
  refine MA.mpr ⟨ih,by simp,λa ha b hb=> ?_⟩
  have:b=_:=Lo.mp hb
  subst this
  intro z;subst z;exact hq ha
theorem gD.tied {ss:List aI} {p:Int} {es:List kP} (h:gD ss p es):∀q∈f8 es,il ss p q:=by
 induction h with
 |one=>
  intro q hq
  have:q=p:=by simpa[f8]using hq
  rw[this];exact .refl
 |snoc _ hu _ hs ih=>
  intro x hx
  rw[dr]at hx
  rcases LR.mp hx with hx|hx
  ·exact ih x hx
  ·have:x=_:=Lo.mp hx
   rw[this]
   exact .step (ih _ hu) hs.adj
theorem gD.here {ss:List aI} {p:Int} {es:List kP} (h:gD ss p es):p∈f8 es:=by
 induction h with
 |one=>simp[f8]
 |snoc _ _ _ _ ih=>rw[dr];exact LS _ ih
def jm (u:Int) (s:List kP×List Int) (st:aI):List kP×List Int:=if st.2.2∈f8 s.1 then s else (s.1++[(st.2.2,some (u,st.1,st.2.1))],s.2++[st.2.2])
def dD (u:Int) (sts:List aI) (s:List kP×List Int):List kP×List Int:=sts.foldl (jm u) s
theorem DY {a0 a1:Option Slot} {u:Int} {es:List kP} {w:List Int} {st:aI} (h1:es.length<=1000) (h2:w.length<=1000):
  cq [a0,a1,some (.own (.dic (bK es))),some (.own (.lst (w.map .int))),some (.val (.int u)),some (.val (.int st.1)),some (.val (.int st.2.1)),some (.val (.int st.2.2))]
   = .ok (.nx [a0,a1,some (.own (.dic (bK (jm u (es,w) st).1))),some (.own (.lst ((jm u (es,w) st).2.map .int))),some (.val (.int u)),some (.val (.int st.1)),some (.val (.int st.2.1)),some (.val (.int st.2.2))]):=by
 have Uc:bV true (.int st.2.2) (.dic (bK es))=some (.bl (!decide (st.2.2∈f8 es))):=by
  show some (D.bl (if true then !(aZ (bK es) (Lf st.2.2)).isSome else (aZ (bK es) (Lf st.2.2)).isSome))=_
  rw[uD];rfl
 have l1:(w.map D.int).length<lim:=by rw[L4];unfold lim;omega
 have l2:(bK es).length<lim:=by unfold bK;rw[L4];unfold lim;omega
 have l3:(2:Nat)<=lim:=by decide
 unfold jm
 by_cases h:st.2.2∈f8 es
 ·simp! [cq,Uc,h]
 ·have hp:=Bo es st.2.2 (some (u,st.1,st.2.1)) h
  simp only[qz]at hp
  simp! [cq,Uc,h,kX,bN,l1,l2,l3,hp,LW,L3,M4]
theorem uE (u:Int) (s:List kP×List Int) (st:aI):(jm u s st).1.length<=s.1.length+1/\(jm u s st).2.length<=s.2.length+1/\(jm u s st).1.length+s.2.length=s.1.length+(jm u s st).2.length/\s.1.length<=(jm u s st).1.length:=by
 unfold jm
 split
 ·exact⟨by omega,by omega,by omega,by omega⟩
 ·simp;omega
theorem xj {a0 a1:Option Slot} {u:Int}:∀(sts:List aI) (s:List kP×List Int) (x5 x6 x7:Option Slot),s.1.length+sts.length<=500->s.2.length+sts.length<=500->
  ∃y5 y6 y7,aU (dc 3 (aH (gN 5) (aH (gN 6) (aH (gN 7) (cS))))) cq (sts.map ak) [a0,a1,some (.own (.dic (bK s.1))),some (.own (.lst (s.2.map .int))),some (.val (.int u)),x5,x6,x7]
   = .ok (.nx [a0,a1,some (.own (.dic (bK (dD u sts s).1))),some (.own (.lst ((dD u sts s).2.map .int))),some (.val (.int u)),y5,y6,y7])
 |[],s,x5,x6,x7,_,_=>⟨x5,x6,x7,rfl⟩
 |st::sts,s,x5,x6,x7,h1,h2=>by
  simp only[Lm]at h1 h2
  obtain⟨q1,q2,_,_⟩:=uE u s st
  obtain⟨y5,y6,y7,e⟩:=xj (a0:=a0) (a1:=a1) (u:=u) sts (jm u s st) (some (.val (.int st.1))) (some (.val (.int st.2.1))) (some (.val (.int st.2.2))) (by omega) (by omega)
  exact⟨y5,y6,y7,by rw[L3,b8 rfl (DY (by omega) (by omega)),e];rfl⟩
structure zc (ss:List aI) (p:Int) (s:List kP×List Int) (skip:Int->Prop):Prop where
 ok:gD ss p s.1
 sub:∀x∈s.2,x∈f8 s.1
 cl:∀b∈f8 s.1,b∉s.2->¬skip b->∀c,BX ss b c->c∈f8 s.1
theorem zc.add {ss:List aI} {p:Int} {s:List kP×List Int} {skip:Int->Prop} (b:zc ss p s skip) {u:Int} (hu:u∈f8 s.1) {st:aI} (hs:BY ss u st.1 st.2.1 st.2.2):
  zc ss p (jm u s st) skip/\st.2.2∈f8 (jm u s st).1/\∀x∈f8 s.1,x∈f8 (jm u s st).1:=by
 unfold jm
 split
 ·rename_i h
  exact⟨b,h,λx hx=>hx⟩
 ·rename_i h
  refine⟨⟨.snoc b.ok hu h hs,λx hx=> ?_,λx hx hw hk c hc=> ?_⟩,by rw[dr];exact Ln _ (by simp),λx hx=>by rw[dr];exact LS _ hx⟩
  ·rw[dr]
   rcases LR.mp hx with hx|hx
   ·exact LS _ (b.sub x hx)
   ·exact Ln _ hx
  ·rw[dr]at hx ⊢
   rcases LR.mp hx with hx|hx
   ·exact LS _ (b.cl x hx (λz=>hw (LS _ z)) hk c hc)
   ·exact absurd (Ln _ hx) hw
theorem zc.all {ss:List aI} {p u:Int} {skip:Int->Prop}:∀{sts:List aI} {s:List kP×List Int},(∀st∈sts,BY ss u st.1 st.2.1 st.2.2)->u∈f8 s.1->zc ss p s skip->
  zc ss p (dD u sts s) skip/\(∀st∈sts,st.2.2∈f8 (dD u sts s).1)/\∀x∈f8 s.1,x∈f8 (dD u sts s).1
 |[],s,_,_,b=>⟨b,λst h=>by(cases h),λx hx=>hx⟩
 |st::sts,s,h,hu,b=>by
  obtain⟨b1,b2,b3⟩:=b.add hu (h st L8)
  obtain⟨c1,c2,c3⟩:=zc.all (sts:=sts) (λx hx=>h x (L7 _ hx)) (b3 u hu) b1
  refine⟨c1,λx hx=> ?_,λx hx=>c3 x (b3 x hx)⟩
  rcases Le.mp hx with rfl|hx
  ·exact c3 _ b2
  ·exact c2 x hx
theorem pZ (u:Int):∀(sts:List aI) (s:List kP×List Int),(dD u sts s).1.length+s.2.length=s.1.length+(dD u sts s).2.length/\s.1.length<=(dD u sts s).1.length
 |[],s=>⟨rfl,Li _⟩
 |st::sts,s=>by
  obtain⟨_,_,h3,h4⟩:=uE u s st
  obtain⟨g1,g2⟩:=pZ u sts (jm u s st)
  show (dD u sts (jm u s st)).1.length+s.2.length=s.1.length+(dD u sts (jm u s st)).2.length/\s.1.length<=(dD u sts (jm u s st)).1.length
  omega
theorem Bp {n:Nat} {ss:List aI} {p:Int} {sd:D} (Vp:sd= .lst (ss.map ak)\/sd= .tup (ss.map ak)) (hl:ss.length<=100) (g:yQ n ss) (hn:n<=7) (hp:0<=p/\p<=n) (a1:Option Slot):
  ∀(m:Nat) (s:List kP×List Int) (x4 x5 x6 x7:Option Slot),zc ss p s (λ_=>False)->9+s.2.length<=m+s.1.length->s.2.length<=s.1.length->
  ∃es y4 y5 y6 y7,bP (fT (f2 qm (bG cR (aa (ac 3) (ae))) (fC (.int 0)))) cr (m+1) [some (.val sd),a1,some (.own (.dic (bK s.1))),some (.own (.lst (s.2.map .int))),x4,x5,x6,x7]
   = .ok (.nx [some (.val sd),a1,some (.own (.dic (bK es))),some (.own (.lst [])),y4,y5,y6,y7])/\gD ss p es/\∀b∈f8 es,∀c,BX ss b c->c∈f8 es:=by
 have bound:∀es,gD ss p es->es.length<=8:=λes h=>by
  have:=iF (n+1) h.nd λx hx=>by have:=(h.tied x hx).range g hp;omega
  unfold f8 at this
  rw[L4]at this
  omega
 intro m
 induction m with
 |zero=>intro s x4 x5 x6 x7 b h _;have:=bound _ b.ok;omega
 |succ m ih=>
  intro s x4 x5 x6 x7 b h a2O
  obtain⟨es,w⟩:=s
  cases w with
  |nil=>
   refine⟨es,x4,x5,x6,x7,qW rfl,b.ok,λq hq c hc=>b.cl q hq (by simp) (λz=>z) c hc⟩
  |cons u w=>
   have hu:u∈f8 es:=b.sub u L8
   have b1:zc ss p (es,w) (λq=>q=u):=⟨b.ok,λx hx=>b.sub x (L7 _ hx),λq hq hw hk c hc=>b.cl q hq (λz=>(Le.mp z).elim hk hw) (λz=>z) c hc⟩
   obtain⟨c1,c2,c3⟩:=zc.all (sts:=cb ss u) (λst Tz=>GV Tz) hu b1
   have Ti:=pZ u (cb ss u) (es,w)
   have a3z:es.length<=8:=bound _ b.ok
   have a2P:=bound _ c1.ok
   have W4:=yS ss u
   simp only[Lm]at h a2O
   have a3A:w.length<=200:=by omega
   obtain⟨y5,y6,y7,e⟩:=xj (a0:=some (.val sd)) (a1:=a1) (u:=u) (cb ss u) (es,w) x5 x6 x7 (by show es.length+_<=500;omega) (by show w.length+_<=500;omega)
   have a03:yf 4 3 (fC (.int 0)) [some (.val sd),a1,some (.own (.dic (bK es))),some (.own (.lst ((u::w).map .int))),x4,x5,x6,x7]= .ok (.nx [some (.val sd),a1,some (.own (.dic (bK es))),some (.own (.lst (w.map .int))),some (.val (.int u)),x5,x6,x7]):=by
    have hi:Pj 0 ((w.map D.int).length+1)=some 0:=by
     unfold Pj
     simp
    have hz:Rm 0<=lim:=M6 _
    simp! [yf,hi,hz,L3,List.eraseIdx_cons_zero]
   have Yv:bg (al fM 2 (aa (ag 0) (aa (ag 4) (ae)))) [some (.val sd),a1,some (.own (.dic (bK es))),some (.own (.lst (w.map .int))),some (.val (.int u)),x5,x6,x7]= .ok ((cb ss u).map ak):=by
    simp! [wb Vp (show ss.length<=1000 by omega)]
   have Tr:cr [some (.val sd),a1,some (.own (.dic (bK es))),some (.own (.lst ((u::w).map .int))),x4,x5,x6,x7]= .ok (.nx [some (.val sd),a1,some (.own (.dic (bK (dD u (cb ss u) (es,w)).1))),some (.own (.lst ((dD u (cb ss u) (es,w)).2.map .int))),some (.val (.int u)),y5,y6,y7]):=by
    unfold cr
    rw[ai a03,c7 Yv,e]
   have Yw:fT (f2 qm (bG cR (aa (ac 3) (ae))) (fC (.int 0))) [some (.val sd),a1,some (.own (.dic (bK es))),some (.own (.lst ((u::w).map .int))),x4,x5,x6,x7]= .ok true:=by
    simp! [L3]
    simp
   have b2:zc ss p (dD u (cb ss u) (es,w)) (λ_=>False):=⟨c1.ok,c1.sub,λq hq hw _ c hc=>by
    by_cases a0X:q=u
    ·subst a0X
     rcases yT hc with rfl|⟨st,Tz,rfl⟩
     ·exact hq
     ·exact c2 st Tz
    ·exact c1.cl q hq hw a0X c hc⟩
   obtain⟨XN,z4,z5,z6,z7,e',r1,r2⟩:=ih (dD u (cb ss u) (es,w)) (some (.val (.int u))) y5 y6 y7 b2 (by
    have:=Ti.1
    simp only at this
    omega) (by
    have:=Ti.1
    simp only at this
    omega)
   exact⟨XN,z4,z5,z6,z7,by rw[pi Yw Tr];exact e',r1,r2⟩
theorem mF {n:Nat} {ss:List aI} {p:Int} {sd:D} (Vp:sd= .lst (ss.map ak)\/sd= .tup (ss.map ak)) (hl:ss.length<=100) (g:yQ n ss) (hn:n<=7) (hp:0<=p/\p<=n):
  ∃es:List kP,c8 [sd, .int p]= .ok (.dic (bK es))/\gD ss p es/\∀q,q∈f8 es<->il ss p q:=by
 have b0:zc ss p ([(p,none)],[p]) (λ_=>False):=⟨.one,λx hx=>by simpa[f8]using hx,λb hb hw=>absurd (by simpa[f8]using hb) hw⟩
 obtain⟨es,y4,y5,y6,y7,e,h1,h2⟩:=Bp Vp hl g hn hp (some (.val (.int p))) 9 ([(p,none)],[p]) none none none none b0 (by simp) (by simp)
 refine⟨es,?_,h1,λq=>⟨h1.tied q,λh=>wa (S:=λq=>q∈f8 es) h1.here (λb c hb=>h2 b hb c) h⟩⟩
 refine aE rfl ?_
 show ft [some (.val sd),some (.val (.int p)),none,none,none,none,none,none]=_
 have e':bP (fT (f2 qm (bG cR (aa (ac 3) (ae))) (fC (.int 0)))) cr 100 [some (.val sd),some (.val (.int p)),some (.own (.dic [(Lf p, .non)])),some (.own (.lst [.int p])),none,none,none,none]=_:=iS 90 e
 have Xl:(1:Nat)<=lim:=by decide
 unfold ft
 rw[ai (ρ':=[some (.val sd),some (.val (.int p)),some (.own (.dic [(Lf p, .non)])),none,none,none,none,none]) (by simp! [sv,lq,bN];rfl),
  ai (ρ':=[some (.val sd),some (.val (.int p)),some (.own (.dic [(Lf p, .non)])),some (.own (.lst [.int p])),none,none,none,none]) (by simp! [Xl]),ai e']
 simp! []
theorem p_ (B:Int->List Int) (a:List Int):(b7 B a).length<=a.length:=by
 unfold b7
 rw[L4]
 exact Nk _ _
def tbl (ps:List Int):List (aL×D):=ps.map λp=>((Lf p:aL),D.bl true)
theorem DZ (ps:List Int) (x:Int):(aZ (tbl ps) (Lf x)).isSome=decide (x∈ps):=by
 induction ps with
 |nil=>rfl
 |cons e r ih=>
  show (aZ ((Lf e,D.bl true)::tbl r) (Lf x)).isSome=_
  by_cases h:e=x
  ·have:aZ ((Lf e,D.bl true)::tbl r) (Lf x)=some (D.bl true):=by simp[aZ,h]
   rw[this]
   simp[h]
  ·have h1:aZ ((Lf e,D.bl true)::tbl r) (Lf x)=aZ (tbl r) (Lf x):=by simp[aZ,h]
   rw[h1,ih,decide_eq_decide]
   exact⟨L7 _,λz=>(Le.mp z).resolve_left (MG h)⟩
theorem D_ (ps:List Int) (x:Int) (h:x∉ps):gY (tbl ps) (Lf x) (D.bl true)=tbl (ps++[x]):=by
 unfold gY
 rw[if_neg]
 ·simp[tbl]
 ·intro z
  obtain⟨kv,h1,h2⟩:=NC.mp z
  obtain⟨e,he,rfl⟩:=Lk.mp h1
  have:e=x:=by simpa using h2
  exact h (this▸he)
theorem rE {a0 a1 a2 a4 a5:Option Slot}:∀(xs pl:List Int) (x6:Option Slot),(pl++xs).Nodup->(pl++xs).length<=1000->
  ∃y6,aU (gN 6) dm (xs.map .int) [a0,a1,a2,some (.own (.dic (tbl pl))),a4,a5,x6]= .ok (.nx [a0,a1,a2,some (.own (.dic (tbl (pl++xs)))),a4,a5,y6])
 |[],pl,x6,_,_=>⟨x6,by simp[aU]⟩
 |x::xs,pl,x6,hn,hl=>by
  have hx:x∉pl:=λz=>by
   obtain⟨_,_,h⟩:=MA.mp hn
   exact h x z x L8 rfl
  obtain⟨y6,e⟩:=rE (a0:=a0) (a1:=a1) (a2:=a2) (a4:=a4) (a5:=a5) xs (pl++[x]) (some (.val (.int x))) (by simpa using hn) (by simpa using hl)
  have l1:(tbl pl).length<lim:=by
   unfold tbl
   rw[L4]
   rw[LX,Lm]at hl
   unfold lim
   omega
  have es:dm [a0,a1,a2,some (.own (.dic (tbl pl))),a4,a5,some (.val (.int x))]= .ok (.nx [a0,a1,a2,some (.own (.dic (tbl (pl++[x])))),a4,a5,some (.val (.int x))]):=by
   simp! [dm,kX,bN,l1,D_ pl x hx]
  refine⟨y6,?_⟩
  rw[L3,b8 rfl es,e]
  simp
structure Pl (ss:List aI) (ps pl:List Int):Prop where
 nd:pl.Nodup
 mem:∀x,x∈pl<->∃p∈ps,il ss p x
theorem Bq {n:Nat} {ss:List aI} {sd:D} (Vp:sd= .lst (ss.map ak)\/sd= .tup (ss.map ak)) (hs:ss.length<=100) (g:yQ n ss) (hn:n<=7) {B:Int->List Int} (hB:∀p:Int,0<=p/\p<=n->o5 ss p (B p))
  {a0 x5 x6:Option Slot} {acc:List (List Int)} {ps pl:List Int} {p:Int} (hp:0<=p/\p<=n) (Xm:∀q,q∈ps<->0<=q/\q<p) (P:Pl ss ps pl) (hl:acc.length<=100):
  ∃Wb y5 y6,dn [a0,some (.val sd),some (.own (.lst (acc.map bD))),some (.own (.dic (tbl pl))),some (.val (.int p)),x5,x6]
   = .ok (.nx [a0,some (.val sd),some (.own (.lst ((acc++b7 B [p]).map bD))),some (.own (.dic (tbl Wb))),some (.val (.int p)),y5,y6])/\Pl ss (ps++[p]) Wb:=by
 have Uc:bV true (.int p) (.dic (tbl pl))=some (.bl (!decide (p∈pl))):=by
  show some (D.bl (if true then !(aZ (tbl pl) (Lf p)).isSome else (aZ (tbl pl) (Lf p)).isSome))=_
  rw[DZ];rfl
 obtain⟨x,r,hx,a0Y,W5⟩:=(hB p hp).head
 have a3B:=(hB p hp).len g hn hp
 have Yx:=a0Y.range g hp
 by_cases W6:p∈pl
 ·
  obtain⟨q,hq,XE⟩:=(P.mem p).mp W6
  have a3C:=(Xm q).mp hq
  have TM:x≠p:=λz=>by have:=W5 q XE.symm;omega
  have h0:b7 B [p]=[]:=by simp[b7,Mc,hx,TM]
  refine⟨pl,x5,x6,?_,P.nd,λy=> ?_⟩
  ·rw[h0,Mb]
   simp only[dn,bT,az,fT,f2,ac,aj,bH,LP,LQ,l_,ph,Uc,W6,decide_true,O4,LH,if_false]
  ·rw[P.mem y]
   constructor
   ·rintro⟨z,hz,ht⟩;exact⟨z,LS _ hz,ht⟩
   ·rintro⟨z,hz,ht⟩
    rcases LR.mp hz with hz|hz
    ·exact⟨z,hz,ht⟩
    ·rw[Lo.mp hz]at ht
     exact⟨q,hq,XE.trans ht⟩
 ·have a2Q:x=p:=by
   have h1:=W5 p .refl
   by_cases TK:x<p
   ·exact absurd ((P.mem p).mpr ⟨x,(Xm x).mpr ⟨Yx.1,TK⟩,a0Y.symm⟩) W6
   ·omega
  have h0:b7 B [p]=[B p]:=by simp[b7,Mc,hx,a2Q]
  obtain⟨es,he,hok,hm⟩:=mF (p:=p) Vp hs g hn hp
  have hb:cy (f8 es)=B p:=(uC hm hok.nd).uniq (hB p hp)
  have W4:(f8 es).length<64:=by have:=(eu (f8 es)).length_eq;rw[hb]at this;omega
  have a04:e_ [.dic (bK es)]=some (.lst ((B p).map .int)):=by
   show ((eR (bK es)).bind λns=>if ns.length<64 then some (D.lst ((cy ns).map .int))else none)=_
   rw[yR]
   show (if (f8 es).length<64 then some (D.lst ((cy (f8 es)).map .int))else none)=_
   rw[if_pos W4,hb]
  replace a04:cJ [.dic (bK es)]=some (.lst ((B p).map .int)):=by unfold cJ;rw[a04]
  have YF:(pl++B p).Nodup:=MA.mpr ⟨P.nd,(hB p hp).nd,λa ha b a2R z=>by
   subst z
   obtain⟨q,hq,XE⟩:=(P.mem a).mp ha
   exact W6 ((P.mem p).mpr ⟨q,hq,XE.trans (((hB p hp).mem a).mp a2R).symm⟩)⟩
  have a2S:pl.length<=8:=LL (iF (n+1) P.nd λy hy=>by
   obtain⟨q,hq,XE⟩:=(P.mem y).mp hy
   have Xq:=(Xm q).mp hq
   have:=XE.range g (by omega)
   omega) (by omega)
  obtain⟨y6,em⟩:=rE (a0:=a0) (a1:=some (.val sd)) (a2:=some (.own (.lst ((acc++[B p]).map bD)))) (a4:=some (.val (.int p))) (a5:=some (.val (.lst ((B p).map .int)))) (B p) pl x6 YF (by rw[LX];omega)
  have l1:(acc.map bD).length<lim:=by rw[L4];unfold lim;omega
  refine⟨pl++B p,some (.val (.lst ((B p).map .int))),y6,?_,YF,λy=> ?_⟩
  ·rw[h0]
   have s1:aJ (bG cJ (aa (al c8 2 (aa (ag 1) (aa (ag 4) (ae)))) (ae))) (gN 5) [a0,some (.val sd),some (.own (.lst (acc.map bD))),some (.own (.dic (tbl pl))),some (.val (.int p)),x5,x6]
     = .ok (.nx [a0,some (.val sd),some (.own (.lst (acc.map bD))),some (.own (.dic (tbl pl))),some (.val (.int p)),some (.val (.lst ((B p).map .int))),x6]):=by simp! [he,a04]
   have s2:kW 2 (bG bZ (aa (ac 5) (ae))) [a0,some (.val sd),some (.own (.lst (acc.map bD))),some (.own (.dic (tbl pl))),some (.val (.int p)),some (.val (.lst ((B p).map .int))),x6]
     = .ok (.nx [a0,some (.val sd),some (.own (.lst ((acc++[B p]).map bD))),some (.own (.dic (tbl pl))),some (.val (.int p)),some (.val (.lst ((B p).map .int))),x6]):=by
    simp! [l1,LW,L3,M4,bD]
   have s3:d7 (bg (ag 5)) (gN 6) dm [a0,some (.val sd),some (.own (.lst ((acc++[B p]).map bD))),some (.own (.dic (tbl pl))),some (.val (.int p)),some (.val (.lst ((B p).map .int))),x6]
     = .ok (.nx [a0,some (.val sd),some (.own (.lst ((acc++[B p]).map bD))),some (.own (.dic (tbl (pl++B p)))),some (.val (.int p)),some (.val (.lst ((B p).map .int))),y6]):=(c7 rfl).trans em
   have Xt:fT (f2 (bV true) (ac 4) (ac 3)) [a0,some (.val sd),some (.own (.lst (acc.map bD))),some (.own (.dic (tbl pl))),some (.val (.int p)),x5,x6]= .ok true:=by
    simp! [Uc,W6]
   unfold dn bT
   rw[Xt,aj,if_pos rfl,ai s1,ai s2,s3]
  ·rw[LR,P.mem y,(hB p hp).mem y]
   constructor
   ·rintro(⟨z,hz,ht⟩|ht)
    ·exact⟨z,LS _ hz,ht⟩
    ·exact⟨p,Ln _ (by simp),ht⟩
   ·rintro⟨z,hz,ht⟩
    rcases LR.mp hz with hz|hz
    ·exact .inl ⟨z,hz,ht⟩
    ·rw[Lo.mp hz]at ht
     exact .inr ht
theorem uF {n:Nat} {ss:List aI} {sd:D} (Vp:sd= .lst (ss.map ak)\/sd= .tup (ss.map ak)) (hs:ss.length<=100) (g:yQ n ss) (hn:n<=7) {B:Int->List Int} (hB:∀p:Int,0<=p/\p<=n->o5 ss p (B p)) {a0:Option Slot}:
  ∀(j k:Nat) (acc:List (List Int)) (pl:List Int) (x4 x5 x6:Option Slot),k+j=n+1->Pl ss ((LU k).map λi:Nat=>(i:Int)) pl->acc.length<=k->
  ∃Wb y4 y5 y6,aU (gN 4) dn (((NP k j).map λi:Nat=>(i:Int)).map .int) [a0,some (.val sd),some (.own (.lst (acc.map bD))),some (.own (.dic (tbl pl))),x4,x5,x6]
   = .ok (.nx [a0,some (.val sd),some (.own (.lst ((acc++b7 B ((NP k j).map λi:Nat=>(i:Int))).map bD))),some (.own (.dic (tbl Wb))),y4,y5,y6])
 |0,k,acc,pl,x4,x5,x6,_,_,_=>⟨pl,x4,x5,x6,by simp[aU,b7]⟩
 |j+1,k,acc,pl,x4,x5,x6,hk,P,ha=>by
  obtain⟨a2T,z5,z6,es,P1⟩:=Bq Vp hs g hn hB (a0:=a0) (x5:=x5) (x6:=x6) (acc:=acc) (ps:=(LU k).map λi:Nat=>(i:Int)) (p:=(k:Int)) (by omega) (λq=>by
   constructor
   ·intro hq
    obtain⟨i,hi,rfl⟩:=Lk.mp hq
    have:=M0.mp hi
    omega
   ·rintro⟨h1,h2⟩
    exact Lk.mpr ⟨q.toNat,M0.mpr (by omega),by omega⟩) P (by omega)
  have h1:=p_ B [(k:Int)]
  simp only[Lm,Ml]at h1
  obtain⟨Wb,y4,y5,y6,e⟩:=uF Vp hs g hn hB (a0:=a0) j (k+1) (acc++b7 B [(k:Int)]) a2T (some (.val (.int (k:Int)))) z5 z6 (by omega) (by rw[List.range_succ,LW];exact P1) (by rw[LX];omega)
  refine⟨Wb,y4,y5,y6,?_⟩
  rw[N_,L3,L3,b8 rfl es,e,Mr,<-qy]
  rfl
theorem sC (n:Nat):[(0:Int)]++ez 1 ((n:Int)+1)=(NP 0 (n+1)).map λi:Nat=>(i:Int):=by
 unfold ez
 rw[show ((n:Int)+1 - 1).toNat=n by omega,N_,L3,Nr]
 rw[Qn,Qn,LY,LY]
 refine congrArg (List.cons (0:Int)) (Mp λk _=> ?_)
 show (1:Int)+((0+k:Nat):Int)=((0+1+k:Nat):Int)
 omega
theorem fP {n:Nat} {ss:List aI} {sd:D} (Vp:sd= .lst (ss.map ak)\/sd= .tup (ss.map ak)) (hs:ss.length<=100) (g:yQ n ss) (hn:n<=7) {B:Int->List Int} (hB:∀p:Int,0<=p/\p<=n->o5 ss p (B p)):
  bB [.int (n:Int),sd]= .ok (.tup ((b7 B ((LU (n+1)).map λi:Nat=>(i:Int))).map bD)):=by
 obtain⟨Wb,y4,y5,y6,e⟩:=uF Vp hs g hn hB (a0:=some (.val (.int (n:Int)))) (n+1) 0 [] [] none none none (by omega) ⟨NU,λx=>by simp⟩ (by simp)
 have h1:(1:Int).natAbs<=lim:=by decide
 have h2:((n:Int)+1).natAbs<=lim:=by unfold lim;omega
 have Xl:(1:Nat)<=lim:=by decide
 have YO:(ez 1 ((n:Int)+1)).length<=8:=by
  unfold ez
  rw[L4,N3]
  omega
 have hq:bg (f2 bU (lU (aa (fC (.int 0)) (ae))) (fZ (aa (fC (.int 1)) (aa (f2 bU (ac 0) (fC (.int 1))) (ae))))) [some (.val (.int (n:Int))),some (.val sd),some (.own (.lst [])),some (.own (.dic [])),none,none,none]
   = .ok (((NP 0 (n+1)).map λi:Nat=>(i:Int)).map .int):=by
  have a05:bU (.lst [.int 0]) (.lst ((ez 1 ((n:Int)+1)).map .int))=some (.lst (((NP 0 (n+1)).map λi:Nat=>(i:Int)).map .int)):=by
   rw[Gs (by rw[L4];simp only[Lm,Ml];unfold lim;omega),<-sC]
   rfl
  simp! [fZ,h1,h2,Xl,and_self,a05]
 refine aE rfl ?_
 show i_ [some (.val (.int (n:Int))),some (.val sd),none,none,none,none,none]=_
 unfold i_
 rw[ai (ρ':=[some (.val (.int (n:Int))),some (.val sd),some (.own (.lst [])),none,none,none,none]) (by simp! []),
  ai (ρ':=[some (.val (.int (n:Int))),some (.val sd),some (.own (.lst [])),some (.own (.dic [])),none,none,none]) rfl,ai ((c7 hq).trans e)]
 simp! [Nr]
def cK (s t:Int) (g:List Int):Int:=if decide (s∈g)=decide (t∈g)then 0 else if t∈g then 1 else -1
theorem Br (n s t:Int) (g:List Int):cf [.tup [.int n, .int s, .int t], .lst (g.map .int)]= .ok (.int (cK s t g)):=by
 have i1:L2.atI [D.int n, .int s, .int t] 1=some (.int s):=rfl
 have i2:L2.atI [D.int n, .int s, .int t] 2=some (.int t):=rfl
 refine aE rfl ?_
 show gf [some (.val (.tup [.int n, .int s, .int t])),some (.val (.lst (g.map .int))),none,none]=_
 by_cases a:s∈g<;>by_cases b:t∈g<;>simp only[gf,ao,aJ,gN,bT,aG,az,fT,Ha,bF,f2,f1,ac,fC,aj,bH,LP,LQ,MI,MJ,Slot.data,wL,i1,i2,wM,AA,vF,a,b,decide_true,decide_false,fW,if_true,if_false,LH,cK,reduceCtorEq,S1]
theorem xk (n s t:Int) (g:List Int):cf [.tup [.int n, .int s, .int t], .tup (g.map .int)]= .ok (.int (cK s t g)):=by
 have i1:L2.atI [D.int n, .int s, .int t] 1=some (.int s):=rfl
 have i2:L2.atI [D.int n, .int s, .int t] 2=some (.int t):=rfl
 refine aE rfl ?_
 show gf [some (.val (.tup [.int n, .int s, .int t])),some (.val (.tup (g.map .int))),none,none]=_
 by_cases a:s∈g<;>by_cases b:t∈g<;>simp only[gf,ao,aJ,gN,bT,aG,az,fT,Ha,bF,f2,f1,ac,fC,aj,bH,LP,LQ,MI,MJ,Slot.data,wL,i1,i2,IJ,AA,vF,a,b,decide_true,decide_false,fW,if_true,if_false,LH,cK,reduceCtorEq,S1]
theorem nF {g:D->af->R af} {gt:af->R Bool} {fe:af->R D} {d y:D} {r:List D} {τ τ1:af} (h1:g d τ= .ok τ1) (h2:gt τ1= .ok true) (h3:fe τ1= .ok y):de g gt fe (d::r) τ=(de g gt fe r τ1>>=λys=> .ok (y::ys)):=by
 rw[de,h1,aj,h2,aj,if_pos rfl,h3,aj]
def br (am:Int->Int) (g:List Int) (ss:List aI):Int:=(ss.map λr=>cK r.2.1 r.2.2 g*am r.1).sum
theorem uG (s t:Int) (g:List Int):(cK s t g).natAbs<18446744073709551616:=by
 unfold cK
 split
 ·decide
 ·split<;>decide
theorem xl {gd:D} {gi:List Int} {ps:List (Int×Int)} (hg:gd= .lst (gi.map .int)\/gd= .tup (gi.map .int)) {z0 z2:Option Slot}:∀(ss:List aI) (x:Option Slot),
  de (gN 1) iO (f2 lW (al cf 2 (aa (ag 1) (aa (ag 4) (ae)))) (lY (ac 3) (f2 aP (ac 1) (fC (.int 0))) (fC (.int 0)))) (ss.map ak) [z0,x,z2,some (.val (.dic (mI ps))),some (.val gd)]
   = .ok ((ss.map λr=>cK r.2.1 r.2.2 gi*gF ps r.1).map .int)
 |[],x=>rfl
 |r::ss,x=>by
  have hw:cf [ak r,gd]= .ok (.int (cK r.2.1 r.2.2 gi)):=by
   rcases hg with rfl|rfl
   ·exact Br r.1 r.2.1 r.2.2 gi
   ·exact xk r.1 r.2.1 r.2.2 gi
  have h0:L2.atI [D.int r.1,D.int r.2.1,D.int r.2.2] 0=some (.int r.1):=kG (j:=0) rfl
  have ih:=xl hg (ps:=ps) (z0:=z0) (z2:=z2) ss (some (.val (ak r)))
  have e1:al cf 2 (aa (ag 1) (aa (ag 4) (ae))) [z0,some (.val (ak r)),z2,some (.val (.dic (mI ps))),some (.val gd)]= .ok (.int (cK r.2.1 r.2.2 gi)):=aQ rfl rfl hw
  have e2:lY (ac 3) (f2 aP (ac 1) (fC (.int 0))) (fC (.int 0)) [z0,some (.val (ak r)),z2,some (.val (.dic (mI ps))),some (.val gd)]= .ok (.int (gF ps r.1)):=by
   simp! [lY,ak,h0,bN,x0]
  rw[L3,nF (τ1:=[z0,some (.val (ak r)),z2,some (.val (.dic (mI ps))),some (.val gd)]) (y:= .int (cK r.2.1 r.2.2 gi*gF ps r.1)) rfl rfl (dj e1 e2 (sx (uG _ _ _))),ih]
  rfl
theorem Bs (a0 a1 a2 a3:Option Slot):gJ ["streams","amounts","group","amount_by_number"] [(".0", .local),("stream", .local),("way_over", .globalImplicit),("amount_by_number", .free),("group", .free)] [a0,a1,a2,a3]=[none,none,none,a3.map Slot.toBor,a2.map Slot.toBor]:=by
 cases a2<;>cases a3<;>rfl
theorem jn {sd pd gd:D} {ss:List aI} {ps:List (Int×Int)} {gi:List Int} (hs:sd= .lst (ss.map ak)\/sd= .tup (ss.map ak)) (hp:pd= .lst (ps.map uA)\/pd= .tup (ps.map uA)) (hg:gd= .lst (gi.map .int)\/gd= .tup (gi.map .int)) (hl:ss.length<=1000):
  cB [sd,pd,gd]= .ok (.int (br (gF ps) gi ss)):=by
 have hc:=xl hg (ps:=ps) (z0:=none) (z2:=none) ss none
 have UM:(ss.map ak).length<=lim:=by rw[L4];unfold lim;omega
 have hq:bg (ag 0) [some (.val sd),some (.val pd),some (.val gd),some (.val (.dic (mI ps)))]= .ok (ss.map ak):=by
  rcases hs with rfl|rfl<;>rfl
 refine aE rfl ?_
 show iW [some (.val sd),some (.val pd),some (.val gd),none]=_
 unfold iW
 rw[ai (ρ':=[some (.val sd),some (.val pd),some (.val gd),some (.val (.dic (mI ps)))]) (by simp! [gA hp])]
 exact dQ (eE (ah (vI (dw hq UM (Bs _ _ _ _) hc)) rfl) (rC _))
theorem rF {rd:D} {rises:List Int} (hr:rd= .lst (rises.map .int)\/rd= .tup (rises.map .int)) {z0:Option Slot}:∀(gi:List Int) (x:Option Slot),(∀t∈gi,1<=t/\t<=rises.length)->
  de (gN 1) iO (f2 aP (ac 2) (f2 iP (ac 1) (fC (.int 1)))) (gi.map .int) [z0,x,some (.val rd)]= .ok ((gi.map λt=>rises.getD (t - 1).toNat 0).map .int)
 |[],x,_=>rfl
 |t::gi,x,h=>by
  have ih:=rF hr (z0:=z0) gi (some (.val (.int t))) λy hy=>h y (L7 _ hy)
  have ha:=xg (h t L8)
  have Yy:aP rd (.int (t - 1))=some (.int (rises.getD (t - 1).toNat 0)):=by
   rcases hr with rfl|rfl<;>exact ha
  rw[L3,nF (τ1:=[z0,some (.val (.int t)),some (.val rd)]) (y:= .int (rises.getD (t - 1).toNat 0)) rfl rfl (by simp! [Yy]),ih]
  rfl
theorem E0 (a0 a1:Option Slot):gJ ["rises","group"] [(".0", .local),("tank", .local),("rises", .free)] [a0,a1]=[none,none,a0.map Slot.toBor]:=by
 cases a0<;>rfl
theorem kQ {rd gd:D} {rises gi:List Int} (hr:rd= .lst (rises.map .int)\/rd= .tup (rises.map .int)) (hg:gd= .lst (gi.map .int)\/gd= .tup (gi.map .int)) (h:∀t∈gi,1<=t/\t<=rises.length) (hl:gi.length<=1000):
  d9 [rd,gd]= .ok (.int (rs rises gi)):=by
 have hc:=rF hr (z0:=none) gi none h
 have UM:(gi.map D.int).length<=lim:=by rw[L4];unfold lim;omega
 have hq:bg (ag 1) [some (.val rd),some (.val gd)]= .ok (gi.map .int):=by
  rcases hg with rfl|rfl<;>rfl
 refine aE rfl ?_
 show q_ [some (.val rd),some (.val gd)]=_
 exact dQ (eE (ah (vI (dw hq UM (E0 _ _) hc)) rfl) (rC _))
def d1 (am:Int->Int) (x:Int) (r:aI):Int:=(if r.2.2=x then am r.1 else 0) - (if r.2.1=x then am r.1 else 0)
theorem Bt {s t x:Int} {g:List Int} (hx:x∉g) (a:Int):cK s t (x::g)*a=((if t=x then a else 0) - (if s=x then a else 0))+cK s t g*a:=by
 have ex:∀{y:Int},y=x->y∉g:=λh=>by rw[h];exact hx
 unfold cK
 by_cases h1:s=x<;>by_cases h2:t=x
 ·subst h1;subst h2;simp
 ·by_cases h3:t∈g<;>simp[h1,h2,h3,hx,ex h1,Int.add_left_neg]
 ·by_cases h3:s∈g<;>simp[h1,h2,h3,hx,ex h2,Int.add_right_neg]
 ·by_cases h3:s∈g<;>by_cases h4:t∈g<;>simp[h1,h2,h3,h4]
theorem sU (am:Int->Int) {x:Int} {g:List Int} (hx:x∉g):∀ss:List aI,br am (x::g) ss=(ss.map (d1 am x)).sum+br am g ss
 |[]=>rfl
 |r::ss=>by
  have ih:=sU am hx ss
  unfold br at ih ⊢
  rw[L3,M1,ih,Bt hx,L3,M1,L3,M1]
  unfold d1
  omega
theorem wc (am:Int->Int):∀ss:List aI,br am [] ss=0
 |[]=>rfl
 |r::ss=>by
  have ih:=wc am ss
  unfold br at ih ⊢
  rw[L3,M1,ih]
  simp[cK]
theorem nG {n:Nat} {lo:List aI} (g:yQ n lo) (hn:n<=7) (hl:lo.length<=100):∃B:Int->List Int,∀p:Int,0<=p/\p<=n->o5 lo p (B p):=by
 classical
 refine⟨λp=>if h:0<=p/\p<=n then cy (f8 (mF (ss:=lo) (sd:= .lst (lo.map ak)) (.inl rfl) hl g hn h).choose)else [],λp h=> ?_⟩
 have:=(mF (ss:=lo) (sd:= .lst (lo.map ak)) (.inl rfl) hl g hn h).choose_spec
 simp only[dif_pos h]
 exact uC this.2.2 this.2.1.nd
inductive Wy (ss:List aI):Int->List Int->List (Int×Int)->Int->List Int->Prop
 |nil {u:Int} {ps:List Int}:Wy ss u ps [] u ps
 |cons {u n d q v:Int} {ps qs:List Int} {st:List (Int×Int)}:BY ss u n d q->q∉ps->Wy ss q (ps++[q]) st v qs->Wy ss u ps ((n,d)::st) v qs
theorem Wy.snoc {ss:List aI} {u v n d q:Int} {ps qs:List Int} {st:List (Int×Int)} (h:Wy ss u ps st v qs) (hs:BY ss v n d q) (hq:q∉qs):Wy ss u ps (st++[(n,d)]) q (qs++[q]):=by
 induction h with
 |nil=>exact .cons hs hq .nil
 |cons a b _ ih=>exact .cons a b (ih hs hq)
theorem Wy.len {ss:List aI} {u v:Int} {ps qs:List Int} {st:List (Int×Int)} (h:Wy ss u ps st v qs):qs.length=ps.length+st.length:=by
 induction h with
 |nil=>simp
 |cons _ _ _ ih=>rw[ih];simp;omega
theorem Wy.nd {ss:List aI} {u v:Int} {ps qs:List Int} {st:List (Int×Int)} (h:Wy ss u ps st v qs) (hn:ps.Nodup):qs.Nodup:=by
 induction h with
 |nil=>exact hn
 |cons _ hq _ ih=>exact ih (MA.mpr ⟨hn,by simp,λa ha b hb=>by
   have:b=_:=Lo.mp hb
   subst this
   intro z;subst z;exact hq ha⟩)
def ze (es:List kP) (q:Int):Option (Option (Int×Int×Int)):=(es.find? λe=>decide (e.1=q)).map (·.2)
theorem E1 (es:List kP) (q:Int):aZ (bK es) (Lf q)=(ze es q).map qz:=by
 induction es with
 |nil=>rfl
 |cons e r ih=>
  show aZ ((Lf e.1,qz e.2)::bK r) (Lf q)=_
  by_cases h:e.1=q
  ·simp[aZ,ze,h]
  ·have h1:aZ ((Lf e.1,qz e.2)::bK r) (Lf q)=aZ (bK r) (Lf q):=by simp[aZ,h]
   have h2:ze (e::r) q=ze r q:=by simp[ze,h]
   rw[h1,h2,ih]
theorem E2 {es fs:List kP} {q:Int} {x:Option (Int×Int×Int)} (h:ze es q=some x):ze (es++fs) q=some x:=by
 unfold ze at h ⊢
 rw[Sd]
 cases e:es.find? λe=>decide (e.1=q)with
 |none=>rw[e]at h;cases h
 |some y=>rw[e]at h;simpa using h
theorem E3 {es:List kP} {q:Int} {x:Option (Int×Int×Int)} (h:q∉f8 es):ze (es++[(q,x)]) q=some x:=by
 unfold ze
 rw[Sd]
 have:es.find? (λe=>decide (e.1=q))=none:=List.find?_eq_none.mpr λe he=>by
  simp only[decide_eq_true_eq]
  intro z
  exact h (Lk.mpr ⟨e,he,z⟩)
 rw[this]
 simp
inductive Bk (es:List kP) (p:Int):Int->List (Int×Int)->Prop
 |nil:Bk es p p []
 |step {q u n d:Int} {st:List (Int×Int)}:q≠p->ze es q=some (some (u,n,d))->Bk es p u st->Bk es p q (st++[(n,d)])
theorem Bk.app {es fs:List kP} {p q:Int} {st:List (Int×Int)} (h:Bk es p q st):Bk (es++fs) p q st:=by
 induction h with
 |nil=>exact .nil
 |step a b _ ih=>exact .step a (E2 b) ih
theorem gD.way {ss:List aI} {p:Int} {es:List kP} (h:gD ss p es):∀q∈f8 es,∃st qs,Bk es p q st/\Wy ss p [p] st q qs/\∀x∈qs,x∈f8 es:=by
 induction h with
 |one=>
  intro q hq
  have:q=p:=by simpa[f8]using hq
  subst this
  exact⟨[],[q], .nil, .nil,λx hx=>by simpa[f8]using hx⟩
 | @snoc es q u n d h hu hq hs ih=>
  intro x hx
  rw[dr]at hx
  rcases LR.mp hx with hx|hx
  ·obtain⟨st,qs,h1,h2,h3⟩:=ih x hx
   exact⟨st,qs,h1.app,h2,λy hy=>by rw[dr];exact LS _ (h3 y hy)⟩
  ·have:x=q:=Lo.mp hx
   subst this
   obtain⟨st,qs,h1,h2,h3⟩:=ih u hu
   refine⟨st++[(n,d)],qs++[x], .step (λz=>hq (by rw[z];exact h.here)) (E3 hq) h1.app,h2.snoc hs λz=>hq (h3 x z),λy hy=> ?_⟩
   rw[dr]
   rcases LR.mp hy with hy|hy
   ·exact LS _ (h3 y hy)
   ·exact Ln _ hy
def dE (x:Int×Int):D:= .tup [.int x.1, .int x.2]
theorem E4 {a0 a2 x6:Option Slot} {es:List kP} {p q u n d:Int} {acc:List (Int×Int)} (hl:ze es q=some (some (u,n,d))) (ha:acc.length<=100):
  gg [a0,some (.val (.int p)),a2,some (.val (.dic (bK es))),some (.own (.lst (acc.map dE))),some (.val (.int q)),x6]
   = .ok (.nx [a0,some (.val (.int p)),a2,some (.val (.dic (bK es))),some (.own (.lst ((acc++[(n,d)]).map dE))),some (.val (.int u)),some (.val (.tup [.int u,dE (n,d)]))]):=by
 have Yy:aP (.dic (bK es)) (.int q)=some (.tup [.int u,dE (n,d)]):=by
  show (bN (.int q)).bind (λTd=>aZ (bK es) Td)=_
  show aZ (bK es) (Lf q)=_
  rw[E1,hl]
  rfl
 have h0:L2.atI [D.int u,dE (n,d)] 0=some (.int u):=kG (j:=0) rfl
 have h1:L2.atI [D.int u,dE (n,d)] 1=some (dE (n,d)):=kG (j:=1) rfl
 have l1:(acc.map dE).length<lim:=by rw[L4];unfold lim;omega
 simp! [gg,Yy,h0,h1,l1,LW,L3,M4]
theorem Bu {a0 a2:Option Slot} {es:List kP} {p q:Int} {st:List (Int×Int)} (h:Bk es p q st):∀(acc:List (Int×Int)) (x6:Option Slot),acc.length+st.length<=100->
  ∃y5 y6,bP (fT (f2 mW (ac 5) (ac 1))) gg (st.length+1) [a0,some (.val (.int p)),a2,some (.val (.dic (bK es))),some (.own (.lst (acc.map dE))),some (.val (.int q)),x6]
   = .ok (.nx [a0,some (.val (.int p)),a2,some (.val (.dic (bK es))),some (.own (.lst ((acc++st.reverse).map dE))),y5,y6]):=by
 induction h with
 |nil=>intro acc x6 _;exact⟨some (.val (.int p)),x6,by
   rw[List.reverse_nil,Mb]
   exact qW (by simp! [])⟩
 | @step q u n d st hq hl _ ih=>
  intro acc x6 ha
  rw[LX]at ha
  simp only[Lm,Ml]at ha
  obtain⟨y5,y6,e⟩:=ih (acc++[(n,d)]) (some (.val (.tup [.int u,dE (n,d)]))) (by simp;omega)
  refine⟨y5,y6,?_⟩
  rw[show (st++[(n,d)]).length+1=st.length+1+1 by simp,pi (by simp! [hq]) (E4 hl (by omega)),e]
  simp
theorem rG {n:Nat} {ss:List aI} {p q:Int} {sd:D} (Vp:sd= .lst (ss.map ak)\/sd= .tup (ss.map ak)) (hl:ss.length<=100) (g:yQ n ss) (hn:n<=7) (hp:0<=p/\p<=n):
  (¬il ss p q/\dI [sd, .int p, .int q]= .ok .non)\/(il ss p q/\∃st qs,dI [sd, .int p, .int q]= .ok (.tup (st.map dE))/\Wy ss p [p] st q qs/\st.length<=7):=by
 obtain⟨es,he,hok,hm⟩:=mF Vp hl g hn hp
 have Uc:bV true (.int q) (.dic (bK es))=some (.bl (!decide (q∈f8 es))):=by
  show some (D.bl (if true then !(aZ (bK es) (Lf q)).isSome else (aZ (bK es) (Lf q)).isSome))=_
  rw[uD];rfl
 have s1:aJ (al c8 2 (aa (ag 0) (aa (ag 1) (ae)))) (gN 3) [some (.val sd),some (.val (.int p)),some (.val (.int q)),none,none,none,none]= .ok (.nx [some (.val sd),some (.val (.int p)),some (.val (.int q)),some (.val (.dic (bK es))),none,none,none]):=by simp! [he]
 by_cases hq:q∈f8 es
 ·obtain⟨st,qs,h1,h2,h3⟩:=hok.way q hq
  have Ti:=h2.len
  have hb:qs.length<=n+1:=iF (n+1) (h2.nd (by simp)) λx hx=>by
   have:=(hok.tied x (h3 x hx)).range g hp
   omega
  simp only[Lm,Ml]at Ti
  refine .inr ⟨(hm q).mp hq,st,qs,?_,h2,by omega⟩
  obtain⟨y5,y6,e⟩:=Bu (a0:=some (.val sd)) (a2:=some (.val (.int q))) h1 [] none (by simp;omega)
  rw[Oc]at e
  have e':bP (fT (f2 mW (ac 5) (ac 1))) gg 100 [some (.val sd),some (.val (.int p)),some (.val (.int q)),some (.val (.dic (bK es))),some (.own (.lst [])),some (.val (.int q)),none]
    = .ok (.nx [some (.val sd),some (.val (.int p)),some (.val (.int q)),some (.val (.dic (bK es))),some (.own (.lst (st.reverse.map dE))),y5,y6]):=by
   have:=iS (99 - st.length) e
   rwa [show st.length+1+(99 - st.length)=100 by omega]at this
  refine aE rfl ?_
  show iz [some (.val sd),some (.val (.int p)),some (.val (.int q)),none,none,none,none]=_
  unfold iz
  rw[ai s1,ai (ρ':=[some (.val sd),some (.val (.int p)),some (.val (.int q)),some (.val (.dic (bK es))),none,none,none]) (by simp! [Uc,hq]),
   ai (ρ':=[some (.val sd),some (.val (.int p)),some (.val (.int q)),some (.val (.dic (bK es))),some (.own (.lst [])),none,none]) (by simp! []),
   ai (ρ':=[some (.val sd),some (.val (.int p)),some (.val (.int q)),some (.val (.dic (bK es))),some (.own (.lst [])),some (.val (.int q)),none]) (by simp! []),ai e']
  simp! [oz]
  rw[<-Sv,List.reverse_reverse]
 ·refine .inl ⟨λz=>hq ((hm q).mpr z),?_⟩
  refine aE rfl ?_
  show iz [some (.val sd),some (.val (.int p)),some (.val (.int q)),none,none,none,none]=_
  unfold iz
  rw[ai s1,dP (d:= .non) (by simp! [Uc,hq])]
theorem yU (i:Int):d4 [.int i]= .ok (.bl true):=by
 refine aE rfl ?_
 show ke [some (.val (.int i))]=_
 simp! [ke,fK,AE,AF]
theorem Bv {kds:List (aL×D)} {k:aL} {v:D} (h:k∉kds.map (·.1)):gY kds k v=kds++[(k,v)]:=by
 unfold gY
 rw[if_neg]
 intro z
 obtain⟨kv,h1,h2⟩:=NC.mp z
 exact h (Lk.mpr ⟨kv,h1,by simpa using h2⟩)
theorem Bw {kds:List (aL×D)} {k:aL} {v:D} (hn:(kds.map (·.1)).Nodup) (h:(k,v)∈kds):aZ kds k=some v:=by
 induction kds with
 |nil=>cases h
 |cons x r ih=>
  rw[L3]at hn
  obtain⟨h1,h2⟩:=LN.mp hn
  rcases Le.mp h with h|h
  ·subst h;simp[aZ]
  ·have:x.1≠k:=λz=>h1 (by rw[z];exact Lk.mpr ⟨_,h,rfl⟩)
   have e:aZ (x::r) k=aZ r k:=by simp[aZ,this]
   rw[e]
   exact ih h2 h
def dF (r:aI):aL×D:=(Lf r.1, .tup [.int r.2.1, .int r.2.2])
theorem uH (ss:List aI):(ss.map dF).map (·.1)=ss.map λr=>(Lf r.1:aL):=by rw[LY];rfl
theorem GW {ss:List aI} (h:(ss.map (·.1)).Nodup):((ss.map dF).map (·.1)).Nodup:=by
 rw[uH]
 have:(ss.map λr=>(Lf r.1:aL))=(ss.map (·.1)).map Lf:=by rw[LY];rfl
 rw[this]
 unfold List.Nodup at h ⊢
 rw[Me]
 exact h.imp λ{a b} a2U=>by simpa using a2U
theorem xm {a0 a1 a2 a3 a8 a9:Option Slot}:∀(ss acc:List aI) (x5 x6 x7:Option Slot),((acc++ss).map (·.1)).Nodup->acc.length+ss.length<=100->
  ∃y5 y6 y7,aU (dc 3 (aH (gN 5) (aH (gN 6) (aH (gN 7) (cS))))) eW (ss.map ak) [a0,a1,a2,a3,some (.own (.dic (acc.map dF))),x5,x6,x7,a8,a9]
   = .ok (.nx [a0,a1,a2,a3,some (.own (.dic ((acc++ss).map dF))),y5,y6,y7,a8,a9])
 |[],acc,x5,x6,x7,_,_=>⟨x5,x6,x7,by rw[Mb];rfl⟩
 |r::ss,acc,x5,x6,x7,hn,hl=>by
  simp only[Lm]at hl
  obtain⟨y5,y6,y7,e⟩:=xm (a0:=a0) (a1:=a1) (a2:=a2) (a3:=a3) (a8:=a8) (a9:=a9) ss (acc++[r]) (some (.val (.int r.1))) (some (.val (.int r.2.1))) (some (.val (.int r.2.2))) (by rw[Mr];exact hn) (by simp;omega)
  refine⟨y5,y6,y7,?_⟩
  have hk:(Lf r.1:aL)∉(acc.map dF).map (·.1):=by
   rw[uH]
   intro z
   obtain⟨x,hx,a2V⟩:=Lk.mp z
   have a06:x.1=r.1:=by simpa using a2V
   rw[LW,L3]at hn
   exact(MA.mp hn).2.2 x.1 (Lk.mpr ⟨x,hx,rfl⟩) r.1 L8 a06
  have l1:(acc.map dF).length<lim:=by rw[L4];unfold lim;omega
  have l2:(2:Nat)<=lim:=by decide
  have hb:eW [a0,a1,a2,a3,some (.own (.dic (acc.map dF))),some (.val (.int r.1)),some (.val (.int r.2.1)),some (.val (.int r.2.2)),a8,a9]
    = .ok (.nx [a0,a1,a2,a3,some (.own (.dic ((acc++[r]).map dF))),some (.val (.int r.1)),some (.val (.int r.2.1)),some (.val (.int r.2.2)),a8,a9]):=by
   have hp:=Bv (v:= .tup [.int r.2.1, .int r.2.2]) hk
   simp! [eW,kX,bN,l1,l2,hp,LW,L3,M4,dF]
  rw[L3,b8 rfl hb,e,Mr]
  rfl
theorem J6 {d:Int} (h:d=1\/d= -1):bV true (.int d) (.tup [.int 1, .int (-1)])=some (.bl false):=by
 have:=iw (x:=d) (xs:=[1,-1])
 rw[show ([1,-1]:List Int).map D.int=[.int 1, .int (-1)]from rfl]at this
 rw[this]
 rcases h with rfl|rfl<;>rfl
theorem E5 {a0 a1 a2 a3 x5 x6 x7:Option Slot} {ss:List aI} {ps:List Int} {u n d q:Int} (hn:(ss.map (·.1)).Nodup) (hs:BY ss u n d q) (hq:q∉ps) (hu:∃r,ps=r++[u]) (hl:ps.length<=100):
  ∃y6 y7,eX [a0,a1,a2,a3,some (.own (.dic (ss.map dF))),x5,x6,x7,some (.own (.lst (ps.map .int))),some (.val (dE (n,d)))]
   = .ok (.nx [a0,a1,a2,a3,some (.own (.dic (ss.map dF))),x5,y6,y7,some (.own (.lst ((ps++[q]).map .int))),some (.val (dE (n,d)))]):=by
 obtain⟨r,hr,a2W,hd⟩:=hs
 have hg:aZ (ss.map dF) (Lf n)=some (.tup [.int r.2.1, .int r.2.2]):=Bw (GW hn) (Lk.mpr ⟨r,hr,by rw[<-a2W];rfl⟩)
 have Uc:bV true (.int n) (.dic (ss.map dF))=some (.bl false):=by
  show some (D.bl (if true then !(aZ (ss.map dF) (Lf n)).isSome else (aZ (ss.map dF) (Lf n)).isSome))=_
  rw[hg];rfl
 have Yy:aP (.dic (ss.map dF)) (.int n)=some (.tup [.int r.2.1, .int r.2.2]):=by
  show aZ (ss.map dF) (Lf n)=_
  exact hg
 have a2X:d=1\/d= -1:=by rcases hd with h|h<;>simp[h.1]
 have h0:L2.atI [D.int n,D.int d] 0=some (.int n):=kG (j:=0) rfl
 have h1:L2.atI [D.int n,D.int d] 1=some (.int d):=kG (j:=1) rfl
 have l2:(2:Nat)<=lim:=by decide
 have W7:L2.atI (ps.map D.int) (-1)=some (.int u):=by
  obtain⟨r,rfl⟩:=hu
  rw[LW]
  exact tf _ _
 have l1:(ps.map D.int).length<lim:=by rw[L4];unfold lim;omega
 have e1:bT (kZ (cI (bF (fK "tuple" (ac 9)))) (kZ (fT (f2 mW (bG cR (aa (ac 9) (ae))) (fC (.int 2)))) (kZ (cI (bF (al d4 1 (aa (f2 aP (ac 9) (fC (.int 0))) (ae))))) (cI (bF (al d4 1 (aa (f2 aP (ac 9) (fC (.int 1))) (ae))))))))
   (aG (fC (.bl false))) (az) [a0,a1,a2,a3,some (.own (.dic (ss.map dF))),x5,x6,x7,some (.own (.lst (ps.map .int))),some (.val (dE (n,d)))]
   = .ok (.nx [a0,a1,a2,a3,some (.own (.dic (ss.map dF))),x5,x6,x7,some (.own (.lst (ps.map .int))),some (.val (dE (n,d)))]):=rfl
 have e2:bT (kZ (fT (f2 (bV true) (f2 aP (ac 9) (fC (.int 0))) (ac 4))) (fT (f2 (bV true) (f2 aP (ac 9) (fC (.int 1))) (b9 (aa (fC (.int 1)) (aa (f1 jS (fC (.int 1))) (ae)))))))
   (aG (fC (.bl false))) (az) [a0,a1,a2,a3,some (.own (.dic (ss.map dF))),x5,x6,x7,some (.own (.lst (ps.map .int))),some (.val (dE (n,d)))]
   = .ok (.nx [a0,a1,a2,a3,some (.own (.dic (ss.map dF))),x5,x6,x7,some (.own (.lst (ps.map .int))),some (.val (dE (n,d)))]):=by
  simp! [dE,h0,h1,Uc,l2,J6 a2X]
 have e3:aJ (f2 aP (ac 4) (f2 aP (ac 9) (fC (.int 0)))) (dc 2 (aH (gN 6) (aH (gN 7) (cS)))) [a0,a1,a2,a3,some (.own (.dic (ss.map dF))),x5,x6,x7,some (.own (.lst (ps.map .int))),some (.val (dE (n,d)))]
   = .ok (.nx [a0,a1,a2,a3,some (.own (.dic (ss.map dF))),x5,some (.val (.int r.2.1)),some (.val (.int r.2.2)),some (.own (.lst (ps.map .int))),some (.val (dE (n,d)))]):=by
  simp! [dE,h0,Yy,dc,aH,cS]
 have e4:∀s t:Int,(d=1/\s=r.2.1/\t=r.2.2)\/(d= -1/\s=r.2.2/\t=r.2.1)->bT (fT (f2 lX (f2 aP (ac 9) (fC (.int 1))) (f1 jS (fC (.int 1))))) (D6 6 7 (aa (ag 7) (aa (ag 6) (ae)))) (az) [a0,a1,a2,a3,some (.own (.dic (ss.map dF))),x5,some (.val (.int r.2.1)),some (.val (.int r.2.2)),some (.own (.lst (ps.map .int))),some (.val (dE (n,d)))]
   = .ok (.nx [a0,a1,a2,a3,some (.own (.dic (ss.map dF))),x5,some (.val (.int s)),some (.val (.int t)),some (.own (.lst (ps.map .int))),some (.val (dE (n,d)))]):=by
  rintro s t (⟨rfl,rfl,rfl⟩|⟨rfl,rfl,rfl⟩)
  ·rfl
  ·rfl
 have a2Y:decide (q∈ps)=false:=by simp[hq]
 have e5:ao (bT (kZ (fT (f2 mW (ac 6) (f2 aP (ac 8) (f1 jS (fC (.int 1)))))) (fT (f2 (bV false) (ac 7) (ac 8)))) (aG (fC (.bl false))) (az)) (kW 8 (ag 7)) [a0,a1,a2,a3,some (.own (.dic (ss.map dF))),x5,some (.val (.int u)),some (.val (.int q)),some (.own (.lst (ps.map .int))),some (.val (dE (n,d)))]
   = .ok (.nx [a0,a1,a2,a3,some (.own (.dic (ss.map dF))),x5,some (.val (.int u)),some (.val (.int q)),some (.own (.lst ((ps++[q]).map .int))),some (.val (dE (n,d)))]):=by
  simp! [W7,wM,a2Y,l1,LW,L3,M4]
 refine⟨some (.val (.int u)),some (.val (.int q)),?_⟩
 have a2Z:=e4 u q (hd.imp (λh=>⟨h.1,h.2.1.symm,h.2.2.symm⟩) λh=>⟨h.1,h.2.1.symm,h.2.2.symm⟩)
 unfold eX
 rw[ai e1,ai e2,ai e3,ai a2Z,e5]
theorem E6 {a0 a1 a2 a3 x5:Option Slot} {ss:List aI} (hn:(ss.map (·.1)).Nodup) {u v:Int} {ps qs:List Int} {st:List (Int×Int)} (h:Wy ss u ps st v qs):∀(x6 x7 x9:Option Slot),(∃r,ps=r++[u])->ps.length+st.length<=100->
  ∃y6 y7 y9,aU (gN 9) eX (st.map dE) [a0,a1,a2,a3,some (.own (.dic (ss.map dF))),x5,x6,x7,some (.own (.lst (ps.map .int))),x9]
   = .ok (.nx [a0,a1,a2,a3,some (.own (.dic (ss.map dF))),x5,y6,y7,some (.own (.lst (qs.map .int))),y9])/\∃r,qs=r++[v]:=by
 induction h with
 |nil=>exact λx6 x7 x9 hu _=>⟨x6,x7,x9,rfl,hu⟩
 | @cons u n d q v ps qs st hs hq _ ih=>
  intro x6 x7 x9 hu hl
  simp only[Lm]at hl
  obtain⟨z6,z7,es⟩:=E5 (a0:=a0) (a1:=a1) (a2:=a2) (a3:=a3) (x5:=x5) (x6:=x6) (x7:=x7) hn hs hq hu (by omega)
  obtain⟨y6,y7,y9,e,h⟩:=ih z6 z7 (some (.val (dE (n,d)))) ⟨ps,rfl⟩ (by simp;omega)
  exact⟨y6,y7,y9,by rw[L3,b8 rfl es,e],h⟩
theorem Bx {ss:List aI} (hn:(ss.map (·.1)).Nodup) (hl:ss.length<=50) {u v:Int} {qs:List Int} {st:List (Int×Int)} (h:Wy ss u [u] st v qs) (Tz:st.length<=50):
  je [.lst (ss.map ak), .tup (st.map dE), .int u, .int v]= .ok (.bl true):=by
 obtain⟨y5,y6,y7,e⟩:=xm (a0:=some (.val (.lst (ss.map ak)))) (a1:=some (.val (.tup (st.map dE)))) (a2:=some (.val (.int u))) (a3:=some (.val (.int v))) (a8:=none) (a9:=none) ss [] none none none (by simpa using hn) (by simp;omega)
 obtain⟨z6,z7,z9,e2,r,hr⟩:=E6 (a0:=some (.val (.lst (ss.map ak)))) (a1:=some (.val (.tup (st.map dE)))) (a2:=some (.val (.int u))) (a3:=some (.val (.int v))) (x5:=y5) hn h y6 y7 none ⟨[],rfl⟩ (by simp;omega)
 rw[Oc]at e
 have W7:L2.atI (qs.map D.int) (-1)=some (.int v):=by
  rw[hr,LW]
  exact tf _ _
 have l1:(1:Nat)<=lim:=by decide
 refine aE rfl ?_
 show jd [some (.val (.lst (ss.map ak))),some (.val (.tup (st.map dE))),some (.val (.int u)),some (.val (.int v)),none,none,none,none,none,none]=_
 unfold jd
 rw[ai (ρ':=[some (.val (.lst (ss.map ak))),some (.val (.tup (st.map dE))),some (.val (.int u)),some (.val (.int v)),none,none,none,none,none,none]) (by simp! [fK,pf]),
  ai (ρ':=[some (.val (.lst (ss.map ak))),some (.val (.tup (st.map dE))),some (.val (.int u)),some (.val (.int v)),some (.own (.dic (([]:List aI).map dF))),none,none,none,none,none]) rfl,
  ai ((c7 (ds:=ss.map ak) rfl).trans e),
  ai (ρ':=[some (.val (.lst (ss.map ak))),some (.val (.tup (st.map dE))),some (.val (.int u)),some (.val (.int v)),some (.own (.dic (ss.map dF))),y5,y6,y7,some (.own (.lst ([u].map .int))),none]) (by simp! [l1,L3,M4]),
  ai ((c7 (ds:=st.map dE) rfl).trans e2)]
 simp! [W7]
theorem kR {ss:List aI} {rd:List (Int×Int)}:∀{g:List Int},g.Nodup->iG ss rd g=br (gF rd) g ss
 |[],_=>by rw[wc];rfl
 |x::g,h=>by
  obtain⟨h1,h2⟩:=LN.mp h
  have ih:=kR (ss:=ss) (rd:=rd) h2
  rw[sU _ h1,<-ih]
  rfl
theorem kE (n:Nat):((LU (n+1)).map λi:Nat=>(i:Int))=0::aV n:=by
 unfold aV
 rw[List.range_succ_eq_map,L3,LY]
 have:(LU n).map ((λi:Nat=>(i:Int))∘Nat.succ)=(LU n).map λk:Nat=>1+(k:Int):=Mp λk _=>by
  show ((k+1:Nat):Int)=1+(k:Int)
  omega
 rw[this];rfl
section
variable {n:Nat} {ss:List aI} {Te:List Int} {rd:List (Int×Int)}
theorem bJ.lol (c:bJ n ss Te rd):(ay ss rd).length<=12:=LL (Nk _ _) c.len
theorem rH {B:Int->List Int} (hB:∀p:Int,0<=p/\p<=n->o5 (ay ss rd) p (B p)) {g:List Int} (hg:g∈b7 B (aV n)):g.Nodup/\0∉g/\∃p,1<=p/\p<=(n:Int)/\g=B p/\p∈g:=by
 obtain⟨p,hp,rfl⟩:=Lk.mp hg
 obtain⟨a2_,VH⟩:=Lv.mp hp
 have hr:=cj.mp a2_
 have b:=hB p (by omega)
 obtain⟨x,r,e,h1,h2⟩:=b.head
 have hx:x=p:=by
  have:=of_decide_eq_true VH
  rw[e]at this
  simpa using this
 subst hx
 refine⟨b.nd,λz=> ?_,x,hr.1,hr.2,rfl,(b.mem x).mpr .refl⟩
 have:=h2 0 ((b.mem 0).mp z)
 omega
theorem bJ.inRl (c:bJ n ss Te rd):yQ n (ay ss rd):=xf c.loose
theorem E7 (c:bJ n ss Te rd) {B:Int->List Int} (hB:∀p:Int,0<=p/\p<=n->o5 (ay ss rd) p (B p)) {g:List Int} (hg:g∈b7 B (aV n)) {acc:List (List Int×Int×Int)} (hl:acc.length<=100) {x3 x4:Option Slot}:
  ∃y3 y4,cN [some (.val (av n ss Te rd)),some (.own (.lst (acc.map Bm))),some (.val (bD g)),x3,x4]
   = .ok (.nx [some (.val (av n ss Te rd)),some (.own (.lst ((acc++([(g,rs Te g,iG ss rd g)].filter λx=>decide (x.2.1≠x.2.2))).map Bm))),some (.val (bD g)),y3,y4]):=by
 obtain⟨nd,h0,p,p1,p2,rfl,a3D⟩:=rH hB hg
 have b:=hB p (by omega)
 have Ti:=b.len c.inRl c.n7 (by omega)
 have W8:=kQ (rd:= .tup (Te.map .int)) (gd:= .tup ((B p).map .int)) (.inr rfl) (.inr rfl) (λt ht=>by
  have:=il.range c.inRl (by omega) ((b.mem t).mp ht)
  have TM:t≠0:=λz=>h0 (z▸ht)
  rw[c.rsl];omega) (by omega)
 have XF:=jn (sd:= .tup (ss.map ak)) (pd:= .tup (rd.map uA)) (gd:= .tup ((B p).map .int)) (.inr rfl) (.inr rfl) (.inr rfl) (by have:=c.len;omega)
 rw[<-kR nd]at XF
 have Xj:bV true (.int 0) (bD (B p))=some (.bl true):=by
  unfold bD
  rw[iw];simp[h0]
 have l3:(3:Nat)<=lim:=by decide
 have l1:(acc.map Bm).length<lim:=by rw[L4];unfold lim;omega
 refine⟨some (.val (.int (rs Te (B p)))),some (.val (.int (iG ss rd (B p)))),?_⟩
 have e0:bT (fT (f2 (bV true) (fC (.int 0)) (ac 2)))=λ(g g':af->R aW) ρ=>(fT (f2 (bV true) (fC (.int 0)) (ac 2)) ρ)>>=λb=>if b=true then g ρ else g' ρ:=rfl
 unfold cN
 rw[e0]
 simp only[fT,f2,fC,ac,aj,bH,LP,LQ,l_,Xj,if_true]
 have ea:aJ (al d9 2 (aa (bw "Day" "rises" (ac 0)) (aa (ag 2) (ae)))) (gN 3) [some (.val (av n ss Te rd)),some (.own (.lst (acc.map Bm))),some (.val (bD (B p))),x3,x4]= .ok (.nx [some (.val (av n ss Te rd)),some (.own (.lst (acc.map Bm))),some (.val (bD (B p))),some (.val (.int (rs Te (B p)))),x4]):=by
  unfold bD
  simp! [bw,av,DT,W8]
 have eb:aJ (al cB 3 (aa (bw "Day" "streams" (ac 0)) (aa (bw "Day" "readings" (ac 0)) (aa (ag 2) (ae))))) (gN 4) [some (.val (av n ss Te rd)),some (.own (.lst (acc.map Bm))),some (.val (bD (B p))),some (.val (.int (rs Te (B p)))),x4]= .ok (.nx [some (.val (av n ss Te rd)),some (.own (.lst (acc.map Bm))),some (.val (bD (B p))),some (.val (.int (rs Te (B p)))),some (.val (.int (iG ss rd (B p))))]):=by
  unfold bD
  rw[<-rD]at XF
  simp! [bw,av,w6,w8,XF]
 refine Nm (ai ea) (Nm (ai eb) ?_)
 by_cases hc:rs Te (B p)=iG ss rd (B p)
 ·simp! [hc,Mc,ne_eq,not_true,SM,Mb]
 ·simp! [hc,Mc,ne_eq,not_false_eq_true,SM,LW,L3,M4,l1,l3,Bm]
theorem xn (c:bJ n ss Te rd) {B:Int->List Int} (hB:∀p:Int,0<=p/\p<=n->o5 (ay ss rd) p (B p)):∀(gs:List (List Int)) (acc:List (List Int×Int×Int)) (x2 x3 x4:Option Slot),(∀g∈gs,g∈b7 B (aV n))->acc.length+gs.length<=100->
  ∃y2 y3 y4,aU (gN 2) cN (gs.map bD) [some (.val (av n ss Te rd)),some (.own (.lst (acc.map Bm))),x2,x3,x4]
   = .ok (.nx [some (.val (av n ss Te rd)),some (.own (.lst ((acc++((gs.map λg=>(g,rs Te g,iG ss rd g)).filter λx=>decide (x.2.1≠x.2.2))).map Bm))),y2,y3,y4])
 |[],acc,x2,x3,x4,_,_=>⟨x2,x3,x4,by simp[aU]⟩
 |g::gs,acc,x2,x3,x4,hg,hl=>by
  simp only[Lm]at hl
  obtain⟨z3,z4,e1⟩:=E7 c hB (hg g L8) (acc:=acc) (x3:=x3) (x4:=x4) (by omega)
  obtain⟨y2,y3,y4,e2⟩:=xn c hB gs (acc++([(g,rs Te g,iG ss rd g)].filter λx=>decide (x.2.1≠x.2.2))) (some (.val (bD g))) z3 z4 (λq hq=>hg q (L7 _ hq)) (by
   have:=Nk (λx:List Int×Int×Int=>decide (x.2.1≠x.2.2)) [(g,rs Te g,iG ss rd g)]
   simp only[LX,Lm,Ml]at this ⊢
   omega)
  refine⟨y2,y3,y4,?_⟩
  rw[L3,b8 rfl e1,e2,Mr,<-List.filter_append]
  rfl
theorem jp (c:bJ n ss Te rd) {B:Int->List Int} (hB:∀p:Int,0<=p/\p<=n->o5 (ay ss rd) p (B p)):ca [av n ss Te rd]= .ok (.tup ((eL B Te ss rd (aV n)).map Bm)):=by
 have hb:=fP (sd:= .tup ((ay ss rd).map ak)) (.inr rfl) (by have:=c.lol;omega) c.inRl c.n7 hB
 rw[kE]at hb
 have b0:=hB 0 (by omega)
 obtain⟨x,r,e,h1,h2⟩:=b0.head
 have hx:x=0:=by
  have q1:=h2 0 .refl
  have q2:=il.range c.inRl (by omega) h1
  omega
 subst hx
 have Xn:b7 B (0::aV n)=B 0::b7 B (aV n):=by
  unfold b7
  rw[Qw (by simp[e]),L3]
 rw[Xn,L3]at hb
 have hw:=jk c
 have hm:=EM (m:="without_meter") (r:=aN) (fo:=ag 0) (ρ:=[some (.val (av n ss Te rd)),some (.own (.lst [])),none,none,none]) rfl hw
 have hf:bg (al bB 2 (aa (bw "Day" "tanks" (ac 0)) (aa (bW "Day" "without_meter" 1 aN (ag 0) ae) (ae)))) [some (.val (av n ss Te rd)),some (.own (.lst [])),none,none,none]= .ok (bD (B 0)::(b7 B (aV n)).map bD):=by
  unfold bg al
  rw[ah (ik rfl DS) (ah hm rfl)]
  simp only[aj,Lm,Ml,if_true,hb]
 have e1:cN [some (.val (av n ss Te rd)),some (.own (.lst [])),some (.val (bD (B 0))),none,none]= .ok (.nx [some (.val (av n ss Te rd)),some (.own (.lst [])),some (.val (bD (B 0))),none,none]):=by
  have:(0:Int)∈B 0:=(b0.mem 0).mpr .refl
  unfold cN bD
  simp only[bT,fT,f2,fC,ac,aj,bH,LP,LQ,l_,iw,this,decide_true,O4,LH,if_false,az]
 have YQ:(b7 B (aV n)).length<=7:=by
  have:=p_ B (aV n)
  have h3:(aV n).length=n:=by simp[aV]
  have:=c.n7
  omega
 obtain⟨y2,y3,y4,el⟩:=xn c hB (b7 B (aV n)) [] (some (.val (bD (B 0)))) none none (λg hg=>hg) (by simp;omega)
 refine aE rfl ?_
 show j5 [some (.val (av n ss Te rd)),none,none,none,none]=_
 unfold j5
 rw[ai (ρ':=[some (.val (av n ss Te rd)),some (.own (.lst [])),none,none,none]) rfl]
 refine Nm (ai ((c7 hf).trans ((b8 rfl e1).trans el))) ?_
 simp! [eL]
end
section
variable {n:Nat} {ss:List aI} {rs:List Int} {rd:List (Int×Int)}
theorem wd (c:bJ n ss rs rd) {p:Int×Int} (hp:p∈rd):cO [av n ss rs rd, .int p.1]= .ok (.int p.2):=by
 have Uc:p.1∈rd.map (·.1):=LZ hp
 obtain⟨r,hr,a30⟩:=Lk.mp (c.sub.subset Uc)
 have hm:=gB c hr
 rw[a30]at hm
 have e:=mE (m:="metered") (r:=aS) (fo:=ag 0) (f:=ag 1) (ρ:=[some (.val (av n ss rs rd)),some (.val (.int p.1))]) rfl rfl hm
 refine aE rfl ?_
 show h_ [some (.val (av n ss rs rd)),some (.val (.int p.1))]=_
 unfold h_
 rw[ai (ρ':=[some (.val (av n ss rs rd)),some (.val (.int p.1))]) (by simp only[bT,cI,bF,e,aj,fW,bH,Uc,decide_true,O4,LH,if_false,az])]
 have e1:=gA (pd:= .tup (rd.map ax)) (ps:=rd) (.inr rfl)
 have e2:aP (.dic (mI rd)) (.int p.1)=some (.int p.2):=by
  rw[II,gR c.rnd]
  exact sS c.rnd hp
 simp! [bw,av,w8,e1,e2]
end
section
variable {n:Nat} {ss:List aI} {rs:List Int} {rd:List (Int×Int)}
structure xo (n:Nat) (ss:List aI) (rd:List (Int×Int)) (r:aI) (g:List Int):Prop where
 nd:g.Nodup
 srt:g.Pairwise (·<=·)
 ne:g≠[]
 len:g.length<=8
 rng:∀t∈g,1<=t/\t<=(n:Int)
 here:cK r.2.1 r.2.2 g≠0
 only:∀q∈ay ss rd,q.1≠r.1->cK q.2.1 q.2.2 g=0
theorem sV {s t:Int} {g:List Int}:cK s t g=0<->(s∈g<->t∈g):=by
 unfold cK
 by_cases h1:s∈g<;>by_cases h2:t∈g<;>simp[h1,h2]
theorem xp (r:aI) (g:List Int):cf [ak r,bD g]= .ok (.int (cK r.2.1 r.2.2 g)):=xk r.1 r.2.1 r.2.2 g
theorem xq {a0 a1:Option Slot} {r:aI}:∀(gs:List (List Int)) (x3:Option Slot),
  (∃g∈gs,0∉g/\cK r.2.1 r.2.2 g≠0/\aU (gN 3) cz (gs.map bD) [a0,a1,some (.val (ak r)),x3]= .ok (.ret (bD g)))\/
  ((∀g∈gs,0∈g\/cK r.2.1 r.2.2 g=0)/\∃y3,aU (gN 3) cz (gs.map bD) [a0,a1,some (.val (ak r)),x3]= .ok (.nx [a0,a1,some (.val (ak r)),y3]))
 |[],x3=> .inr ⟨by simp,x3,rfl⟩
 |g::gs,x3=>by
  have hw:=xp r g
  have Xj:bV true (.int 0) (bD g)=some (.bl (!decide (0∈g))):=iw
  by_cases h:0∉g/\cK r.2.1 r.2.2 g≠0
  ·refine .inl ⟨g,L8,h.1,h.2,?_⟩
   rw[L3]
   refine u0 rfl ?_
   simp! [cz,Xj,hw,h.1,h.2]
  ·have e:cz [a0,a1,some (.val (ak r)),some (.val (bD g))]= .ok (.nx [a0,a1,some (.val (ak r)),some (.val (bD g))]):=by
    by_cases h0:0∈g
    ·simp! [cz,Xj,hw,h0]
    ·have h1:cK r.2.1 r.2.2 g=0:=by
      rcases Classical.em (cK r.2.1 r.2.2 g=0)with z|z
      ·exact z
      ·exact absurd ⟨h0,z⟩ h
     simp! [cz,Xj,hw,h0,h1]
   rcases xq (a0:=a0) (a1:=a1) (r:=r) gs (some (.val (bD g)))with ⟨q,h1,h2,h3,h4⟩|⟨h1,y,h2⟩
   ·exact .inl ⟨q,L7 _ h1,h2,h3,by rw[L3,b8 rfl e,h4]⟩
   ·refine .inr ⟨λq hq=> ?_,y,by rw[L3,b8 rfl e,h2]⟩
    rcases Le.mp hq with rfl|hq
    ·rcases Classical.em ((0:Int)∈q)with z|z
     ·exact .inl z
     ·rcases Classical.em (cK r.2.1 r.2.2 q=0)with y|y
      ·exact .inr y
      ·exact absurd ⟨z,y⟩ h
    ·exact h1 q hq
theorem lJ {lo:List aI} {p:Int} {g:List Int} (b:o5 lo p g) {q:aI} (hq:q∈lo):cK q.2.1 q.2.2 g=0:=
 sV.mpr ⟨λh=>(b.mem _).mpr (((b.mem _).mp h).step ⟨q,hq, .inl ⟨rfl,rfl⟩⟩),λh=>(b.mem _).mpr (((b.mem _).mp h).step ⟨q,hq, .inr ⟨rfl,rfl⟩⟩)⟩
theorem By (c:bJ n ss rs rd) {r:aI} (hr:r∈ss):
  ((r.1∈rd.map (·.1)\/il (aY ss rd r.1) r.2.1 r.2.2)/\dC [av n ss rs rd, .int r.1]= .ok (.tup []))\/
  (r.1∉rd.map (·.1)/\¬il (aY ss rd r.1) r.2.1 r.2.2/\∃g,dC [av n ss rs rd, .int r.1]= .ok (bD g)/\xo n ss rd r g):=by
 have hm:=gB c hr
 have l0:(0:Nat)<=lim:=by decide
 have e:=mE (m:="metered") (r:=aS) (fo:=ag 0) (f:=ag 1) (ρ:=[some (.val (av n ss rs rd)),some (.val (.int r.1)),none,none]) rfl rfl hm
 by_cases h:r.1∈rd.map (·.1)
 ·refine .inl ⟨.inl h,aE rfl ?_⟩
  show gj [some (.val (av n ss rs rd)),some (.val (.int r.1)),none,none]=_
  unfold gj
  refine dP ?_
  simp only[bT,bF,e,aj,fW,bH,h,decide_true,if_true,aG,b9,ae,Ml,l0]
 have e2:bT (bF (bW "Day" "metered" 2 aS (ag 0) (aa (ag 1) (ae)))) (aG (b9 (ae))) (az) [some (.val (av n ss rs rd)),some (.val (.int r.1)),none,none]= .ok (.nx [some (.val (av n ss rs rd)),some (.val (.int r.1)),none,none]):=by
  simp only[bT,bF,e,aj,fW,bH,h,decide_false,if_false,az,LH]
 have e3:=yO (i:=2) (mE (m:="stream") (r:=bQ) (fo:=ag 0) (f:=ag 1) (ρ:=[some (.val (av n ss rs rd)),some (.val (.int r.1)),none,none]) rfl rfl (kO c hr))
 have ho:=o6 c r.1
 obtain⟨B,hB⟩:=nG (c.others r.1) c.n7 (by have:=c.olen r.1;omega)
 have hb:=fP (sd:= .tup ((aY ss rd r.1).map ak)) (.inr rfl) (by have:=c.olen r.1;omega) (c.others r.1) c.n7 hB
 have hf:bg (al bB 2 (aa (bw "Day" "tanks" (ac 0)) (aa (al b6 2 (aa (ag 0) (aa (ag 1) (ae)))) (ae)))) [some (.val (av n ss rs rd)),some (.val (.int r.1)),some (.val (ak r)),none]= .ok ((b7 B ((LU (n+1)).map λi:Nat=>(i:Int))).map bD):=by
  unfold aY at hb
  simp! [bw,av,DS]
  rw[show D.ins "Day" (oj n ss rs rd)=av n ss rs rd from rfl,ho]
  simp! [hb]
 have Yz:∀g∈b7 B ((LU (n+1)).map λi:Nat=>(i:Int)),∃p:Int,(0<=p/\p<=n)/\g=B p:=λg hg=>by
  obtain⟨p,hp,rfl⟩:=Lk.mp hg
  obtain⟨k,hk,rfl⟩:=Lk.mp (Lv.mp hp).1
  have:=M0.mp hk
  exact⟨_,by omega,rfl⟩
 have Vs:∀p:Int,0<=p/\p<=n->B p∈b7 B ((LU (n+1)).map λi:Nat=>(i:Int)):=λp hp=>by
  obtain⟨x,t,hx,h1,h2⟩:=(hB p hp).head
  have Yx:=il.range (c.others r.1) hp h1
  have a0Z:B p=B x:=(hB p hp).uniq ⟨λq=>((hB x Yx).mem q).trans ⟨λz=>h1.trans z,λz=>h1.symm.trans z⟩,(hB x Yx).nd,(hB x Yx).srt⟩
  refine Lk.mpr ⟨x,Lv.mpr ⟨Lk.mpr ⟨x.toNat,M0.mpr (by omega),by omega⟩,?_⟩,a0Z.symm⟩
  rw[<-a0Z,hx];simp
 have cn:∀z,ao (d7 (bg (al bB 2 (aa (bw "Day" "tanks" (ac 0)) (aa (al b6 2 (aa (ag 0) (aa (ag 1) (ae)))) (ae))))) (gN 3) (cz)) (aG (b9 (ae))) [some (.val (av n ss rs rd)),some (.val (.int r.1)),some (.val (ak r)),none]= .ok (.ret z)->dC [av n ss rs rd, .int r.1]= .ok z:=λz hz=>by
  refine aE rfl ?_
  show gj [some (.val (av n ss rs rd)),some (.val (.int r.1)),none,none]=_
  unfold gj
  rw[ai e2,ai e3]
  exact hz
 rcases xq (a0:=some (.val (av n ss rs rd))) (a1:=some (.val (.int r.1))) (r:=r) (b7 B ((LU (n+1)).map λi:Nat=>(i:Int))) none with ⟨g,h1,h2,h3,h4⟩|⟨h1,y,h2⟩
 ·obtain⟨p,hp,rfl⟩:=Yz g h1
  have b:=hB p hp
  refine .inr ⟨h,λz=> ?_,B p,cn _ (dP ((c7 hf).trans h4)),⟨b.nd,b.srt,?_,b.len (c.others r.1) c.n7 hp,λt ht=> ?_,h3,λq hq TM=> ?_⟩⟩
  ·refine h3 (sV.mpr ⟨λw=>(b.mem _).mpr (((b.mem _).mp w).trans z),λw=>(b.mem _).mpr (((b.mem _).mp w).trans z.symm)⟩)
  ·intro z
   have:=(b.mem p).mpr .refl
   rw[z]at this;cases this
  ·have q1:=il.range (c.others r.1) hp ((b.mem t).mp ht)
   have q2:t≠0:=λz=>h2 (z▸ht)
   omega
  ·exact lJ b (Lv.mpr ⟨hq,by simpa using TM⟩)
 ·refine .inl ⟨.inr ?_,cn _ (Nm (ai ((c7 hf).trans h2)) rfl)⟩
  have s1:=c.good.src r hr
  have s2:=c.good.tgt r hr
  rcases h1 _ (Vs r.2.1 s1)with z|z
  ·rcases h1 _ (Vs r.2.2 s2)with w|w
   ·exact(((hB _ s1).mem 0).mp z).trans (((hB _ s2).mem 0).mp w).symm
   ·have:=(sV.mp w).mpr (((hB _ s2).mem _).mpr .refl)
    exact(((hB _ s2).mem _).mp this).symm
  ·have:=(sV.mp z).mp (((hB _ s1).mem _).mpr .refl)
   exact((hB _ s1).mem _).mp this
end
section
variable {n:Nat} {ss:List aI} {rs:List Int} {rd:List (Int×Int)}
theorem E8 (c:bJ n ss rs rd) {r:aI} (hr:r∈ss):
  ((r.1∈rd.map (·.1)\/¬il (aY ss rd r.1) r.2.1 r.2.2)/\fQ [av n ss rs rd, .int r.1]= .ok (.tup []))\/
  (r.1∉rd.map (·.1)/\il (aY ss rd r.1) r.2.1 r.2.2/\∃st qs,fQ [av n ss rs rd, .int r.1]= .ok (.tup (((r.1,1)::st).map dE))/\Wy (aY ss rd r.1) r.2.2 [r.2.2] st r.2.1 qs/\st.length<=7):=by
 have hm:=gB c hr
 have l0:(0:Nat)<=lim:=by decide
 have l1:(1:Nat)<=lim:=by decide
 have l2:(2:Nat)<=lim:=by decide
 have a0_:∀{b:Bool},aS [av n ss rs rd, .int r.1]= .ok (.bl b)->bF (bW "Day" "metered" 2 aS (ag 0) (aa (ag 1) (ae))) [some (.val (av n ss rs rd)),some (.val (.int r.1)),none,none]= .ok b:=λh=>by
  unfold bF
  rw[mE (m:="metered") rfl rfl h];rfl
 by_cases h:r.1∈rd.map (·.1)
 ·rw[decide_eq_true h]at hm
  exact .inl ⟨.inl h,aE rfl (dP ((DR (a0_ hm)).trans rfl))⟩
 ·rw[decide_eq_false h]at hm
  have ho:=o6 c r.1
  have hp:=rG (sd:= .tup ((aY ss rd r.1).map ak)) (p:=r.2.2) (q:=r.2.1) (.inr rfl) (by have:=c.olen r.1;omega) (c.others r.1) c.n7 (c.good.tgt r hr)
  have cn:∀z d:D,dI [.tup ((aY ss rd r.1).map ak), .int r.2.2, .int r.2.1]= .ok z->(ao (bT (fT (f2 tR (ac 3) (fC .non))) (aG (b9 (ae))) (az)) (aG (f2 bU (b9 (aa (b9 (aa (ag 1) (aa (fC (.int 1)) (ae)))) (ae))) (ac 3)))) [some (.val (av n ss rs rd)),some (.val (.int r.1)),some (.val (ak r)),some (.val z)]= .ok (.ret d)->fQ [av n ss rs rd, .int r.1]= .ok d:=λz d hz hd=>by
   unfold aY at hz
   refine aE rfl (Nm (ai (sZ (a0_ hm))) (Nm (ai (yO (mE (m:="stream") rfl rfl (kO c hr)))) (Nm (ai (yO (lZ (ah (lZ rfl rfl ho) (ah (dj rfl rfl J5) (ah (dj (d:= .int r.2.1) rfl rfl rfl) rfl))) rfl hz))) hd)))
  rcases hp with ⟨ht,hp⟩|⟨ht,st,qs,hp,hw,Tz⟩
  ·exact .inl ⟨.inr λz=>ht z.symm,cn _ _ hp rfl⟩
  ·refine .inr ⟨h,ht.symm,st,qs,cn _ _ hp ?_,hw,Tz⟩
   have ha:=Bf (a:=[.tup [.int r.1, .int 1]]) (b:=st.map dE) (by simp[lim];omega)
   simp! [tR,l1,l2,ha,L3,dE,Su]
end
theorem E9 {ps:List (Int×Int)} (nd:(ps.map (·.1)).Nodup) {k:Int} (h:k∉ps.map (·.1)):gF ps k=0:=by
 unfold gF
 rw[gR nd]
 have:=pY ps k
 rw[decide_eq_false h]at this
 cases e:aZ (cg ps) (Lf k)with
 |none=>rfl
 |some v=>rw[e]at this;cases this
theorem Bz {am am':Int->Int} {g:List Int} {r:aI}:∀{ss:List aI},(ss.map (·.1)).Nodup->r∈ss->(∀x,x≠r.1->am' x=am x)->br am' g ss=br am g ss+cK r.2.1 r.2.2 g*(am' r.1 - am r.1)
 |q::ss,nd,hr,h=>by
  rw[L3]at nd
  obtain⟨n1,n2⟩:=LN.mp nd
  have same:∀{l:List aI},r.1∉l.map (·.1)->br am' g l=br am g l:=λ{l} hl=>by
   unfold br
   rw[Mp λp hp=>by rw[h p.1 λz=>hl (Lk.mpr ⟨p,hp,z⟩)]]
  have e:∀a:Int->Int,br a g (q::ss)=cK q.2.1 q.2.2 g*a q.1+br a g ss:=λa=>rfl
  rw[e,e]
  by_cases hq:q=r
  ·rw[hq]at n1 ⊢
   rw[same n1,Int.mul_sub]
   omega
  ·have WB:r∈ss:=(Le.mp hr).resolve_left λz=>hq z.symm
   have TM:q.1≠r.1:=λz=>n1 (Lk.mpr ⟨r,WB,z.symm⟩)
   rw[Bz n2 WB h,h q.1 TM]
   omega
section
variable {n:Nat} {ss:List aI} {Te:List Int} {rd:List (Int×Int)}
theorem yV (c:bJ n ss Te rd) {B:Int->List Int} (hB:∀p:Int,0<=p/\p<=n->o5 (ay ss rd) p (B p)) (hC:eL B Te ss rd (aV n)=[]):bx [av n ss Te rd]= .ok .non:=by
 have h:=jp c hB
 rw[hC]at h
 refine Gx (ρ:=[some (.val (av n ss Te rd))]) rfl ?_
 show cu [some (.val (av n ss Te rd))]=_
 have e:decide ((0:Int)<((0:Nat):Int))=false:=rfl
 simp! [cu,h,M4,e]
theorem Ea {f:af->R D} {ρ:af} {d:D} (h:f ρ= .ok d):nU f ρ= .ok (.nx ρ):=by
 unfold nU
 rw[h];rfl
theorem uI (c:bJ n ss Te rd) {r:aI} (hr:r∈ss) {g:List Int} (G:xo n ss rd r g):eV [av n ss Te rd, .int r.1,bD g]= .ok (.int (cK r.2.1 r.2.2 g*(rs Te g - iG ss rd g))):=by
 have Ti:=G.len
 have W8:=kQ (rd:= .tup (Te.map .int)) (gd:= .tup (g.map .int)) (.inr rfl) (.inr rfl) (λt ht=>by
  have:=G.rng t ht
  rw[c.rsl];omega) (by omega)
 have XF:=jn (sd:= .tup (ss.map ak)) (pd:= .tup (rd.map uA)) (gd:= .tup (g.map .int)) (.inr rfl) (.inr rfl) (.inr rfl) (by have:=c.len;omega)
 rw[<-kR G.nd,<-rD]at XF
 refine aE rfl ?_
 show hX [some (.val (av n ss Te rd)),some (.val (.int r.1)),some (.val (bD g)),none]=_
 unfold hX
 rw[ai (ρ':=[some (.val (av n ss Te rd)),some (.val (.int r.1)),some (.val (bD g)),some (.val (.int (rs Te g - iG ss rd g)))]) (by
  unfold bD
  simp! [bw,av,DT,w6,w8,W8,XF])]
 have e:=mE (m:="stream") (r:=bQ) (fo:=ag 0) (f:=ag 1) (ρ:=[some (.val (av n ss Te rd)),some (.val (.int r.1)),some (.val (bD g)),some (.val (.int (rs Te g - iG ss rd g)))]) rfl rfl (kO c hr)
 have hw:=xp r g
 have hm:=sx (i:=cK r.2.1 r.2.2 g) (j:=rs Te g - iG ss rd g) (uG _ _ _)
 simp! [e,hw,hm]
theorem Eb (c:bJ n ss Te rd) {B:Int->List Int} (hB:∀p:Int,0<=p/\p<=n->o5 (ay ss rd) p (B p)) (hC:eL B Te ss rd (aV n)=[]) {r:aI} (hr:r∈ss):
  (∃p∈rd,p.1=r.1/\dJ [av n ss Te rd, .int r.1]= .ok (.tup [.str "metered", .int p.2, .tup [], .tup []]))\/
  (r.1∉rd.map (·.1)/\¬il (aY ss rd r.1) r.2.1 r.2.2/\∃g,xo n ss rd r g/\dJ [av n ss Te rd, .int r.1]= .ok (.tup [.str "known", .int (cK r.2.1 r.2.2 g*(rs Te g - iG ss rd g)),bD g, .tup []]))\/
  (r.1∉rd.map (·.1)/\il (aY ss rd r.1) r.2.1 r.2.2/\∃st qs,Wy (aY ss rd r.1) r.2.2 [r.2.2] st r.2.1 qs/\st.length<=7/\dJ [av n ss Te rd, .int r.1]= .ok (.tup [.str "open", .non, .tup [], .tup (((r.1,1)::st).map dE)])):=by
 have e0:=yV c hB hC
 have hm:=gB c hr
 have l0:(0:Nat)<=lim:=by decide
 have l4:(4:Nat)<=lim:=by decide
 have cn:∀z,(ao (bT (bF (ac 2))
  (aG (b9 (aa (fC (.str "metered")) (aa (bW "Day" "reading" 2 cO (ag 0) (aa (ag 1) (ae))) (aa (b9 (ae)) (aa (b9 (ae)) (ae)))))))
  (az))
  (ao (aJ (al dC 2 (aa (ag 0) (aa (ag 1) (ae)))) (gN 3))
  (ao (bT (fT (f2 qm (bG cR (aa (ac 3) (ae))) (fC (.int 0))))
  (aG (b9 (aa (fC (.str "known")) (aa (al eV 3 (aa (ag 0) (aa (ag 1) (aa (ag 3) (ae))))) (aa (ag 3) (aa (b9 (ae)) (ae)))))))
  (az))
  (aG (b9 (aa (fC (.str "open")) (aa (fC .non) (aa (b9 (ae)) (aa (al fQ 2 (aa (ag 0) (aa (ag 1) (ae)))) (ae))))))))) [some (.val (av n ss Te rd)),some (.val (.int r.1)),some (.val (.bl (decide (r.1∈rd.map (·.1))))),none])= .ok (.ret z)->dJ [av n ss Te rd, .int r.1]= .ok z:=λz hz=>by
  refine aE rfl ?_
  show nj [some (.val (av n ss Te rd)),some (.val (.int r.1)),none,none]=_
  unfold nj
  exact Nm (ai (yO (mE (m:="metered") rfl rfl hm))) (Nm (ai (Ea (lZ (ah rfl rfl) rfl e0))) hz)
 by_cases h:r.1∈rd.map (·.1)
 ·obtain⟨p,hp,YR⟩:=Lk.mp h
  refine .inl ⟨p,hp,YR,cn _ (dP ?_)⟩
  have WK:=wd c hp
  rw[YR]at WK
  have e:=mE (m:="reading") (r:=cO) (fo:=ag 0) (f:=ag 1) (ρ:=[some (.val (av n ss Te rd)),some (.val (.int r.1)),some (.val (.bl true)),none]) rfl rfl WK
  rw[decide_eq_true h]
  simp! [e,l0,l4]
 ·have s1:bT (bF (ac 2)) (aG (b9 (aa (fC (.str "metered")) (aa (bW "Day" "reading" 2 cO (ag 0) (aa (ag 1) (ae))) (aa (b9 (ae)) (aa (b9 (ae)) (ae))))))) (az) [some (.val (av n ss Te rd)),some (.val (.int r.1)),some (.val (.bl (decide (r.1∈rd.map (·.1))))),none]= .ok (.nx [some (.val (av n ss Te rd)),some (.val (.int r.1)),some (.val (.bl (decide (r.1∈rd.map (·.1))))),none]):=by
   rw[decide_eq_false h];rfl
  rcases By c hr with ⟨h1,eg⟩|⟨h1,h2,g,eg,G⟩
  ·have ht:il (aY ss rd r.1) r.2.1 r.2.2:=h1.resolve_left h
   rcases E8 c hr with ⟨h2,_⟩|⟨_,_,st,qs,er,hw,Tz⟩
   ·exact absurd ht (h2.resolve_left h)
   ·refine .inr (.inr ⟨h,ht,st,qs,hw,Tz,cn _ ?_⟩)
    rw[ai s1]
    have e:decide ((0:Int)<((0:Nat):Int))=false:=rfl
    simp! [eg,e,er,l0,l4]
  ·refine .inr (.inl ⟨h,h2,g,G,cn _ ?_⟩)
   rw[ai s1]
   have ea:=uI c hr G
   have hl:0<g.length:=RA.mpr G.ne
   have e:decide ((0:Int)<((g.map D.int).length:Int))=true:=by rw[L4];exact decide_eq_true (by omega)
   have a31:aJ (al dC 2 (aa (ag 0) (aa (ag 1) (ae)))) (gN 3) [some (.val (av n ss Te rd)),some (.val (.int r.1)),some (.val (.bl (decide (r.1∈rd.map (·.1))))),none]= .ok (.nx [some (.val (av n ss Te rd)),some (.val (.int r.1)),some (.val (.bl (decide (r.1∈rd.map (·.1))))),some (.val (bD g))]):=by simp! [eg]
   rw[ai a31]
   refine dP ?_
   have et:fT (f2 qm (bG cR (aa (ac 3) (ae))) (fC (.int 0))) [some (.val (av n ss Te rd)),some (.val (.int r.1)),some (.val (.bl (decide (r.1∈rd.map (·.1))))),some (.val (bD g))]= .ok true:=by
    unfold bD
    simp! [e]
   unfold bT
   rw[et]
   simp! [ea,l0,l4]
end
section
variable {n:Nat} {ss:List aI} {Te:List Int} {rd:List (Int×Int)}
theorem Ec {ρ:af} {i:Nat} {N:List L0} {r:aI} (c:bJ n ss Te rd) {f:af->R D} (hf:f ρ= .ok (.lst ((ay ss rd).map ak))) (Uc:gJ N [(".0", .local),("_law_one", .local),("_law_stream", .free)] ρ=[none,none,some (.val (ak r))]):
  jR i (dG N [(".0", .local),("_law_one", .local),("_law_stream", .free)] (bg f) (gN 1) (fT (f2 mW (f2 aP (ac 1) (fC (.int 0))) (f2 aP (ac 2) (fC (.int 0))))) (ag 1)) ρ= .ok (.nx (ρ.set i (some (.own (.lst ((aY ss rd r.1).map ak)))))):=by
 have Z3:(ay ss rd).length<=12:=LL (Nk _ _) c.len
 exact own_of (dw (ds:=(ay ss rd).map ak) (by unfold bg;rw[hf];rfl) (by simp[lim];omega) Uc (ji (e:=ak) (p:=λq:aI=>decide (q.1≠r.1)) (ay ss rd) (λq _=>by simp! [ak,ee,ne_eq,decide_not]) (λq _ _=>rfl) _))
end
section
variable {n:Nat} {ss:List aI} {rs:List Int} {rd:List (Int×Int)}
theorem uJ (c:bJ n ss rs rd) {r:aI} (hr:r∈ss) {st:List (Int×Int)} {qs:List Int} (hw:Wy (aY ss rd r.1) r.2.2 [r.2.2] st r.2.1 qs) (Tz:st.length<=7):
  dq [aX n ss rs rd,ak r, .tup (((r.1,1)::st).map dE)]= .ok (.bl true):=by
 have l1:=c.len
 have l2:=c.ten
 have l3:(2:Nat)<=lim:=by decide
 have hs:bY [dE (r.1,1), .tup [.int r.1, .int 1]]= .ok (.bl true):=yJ [r.1,1] (by simp)
 have Z3:=w9 (n:=n) (ss:=ss) (rs:=rs) (rd:=rd) (by omega) (by omega)
 refine aE rfl ?_
 show ib [some (.val (aX n ss rs rd)),some (.val (ak r)),some (.val (.tup (((r.1,1)::st).map dE))),none]=_
 unfold ib
 have e1:decide ((((st.map dE).length+1:Nat):Int)=0)=false:=by simp;omega
 rw[ai (ρ':=[some (.val (aX n ss rs rd)),some (.val (ak r)),some (.val (.tup (((r.1,1)::st).map dE))),none]) (by simp! [fK,pf,L3,ee,ak,l3,hs,e1])]
 rw[ai (Ec (i:=3) (r:=r) c (f:=al gO 1 (aa (ag 0) (ae))) (ρ:=[some (.val (aX n ss rs rd)),some (.val (ak r)),some (.val (.tup (((r.1,1)::st).map dE))),none]) (by simp! [Z3]) rfl)]
 have W4:BV (.tup (((r.1,1)::st).map dE)) (some 1) none=some (.tup (st.map dE)):=sR (ds:=((r.1,1)::st).map dE) (k:=1) (by simp)
 have a32:=Bx (c.ond r.1) (by have:=c.olen r.1;omega) hw (by omega)
 simp! [yk,jv,iu,W4,ak,pU,J5,a32]
end
def bC (ss:List aI) (a:Int->Int):List (aL×D):=ss.map λr=>((Lf r.1:aL),D.int (a r.1))
theorem iH {a:Int->Int} {k:Int}:∀{ss:List aI},k∈ss.map (·.1)->aZ (bC ss a) (Lf k)=some (.int (a k))
 |[],h=>by cases h
 |r::ss,h=>by
  unfold aZ bC
  rw[L3,MQ]
  by_cases e:r.1=k
  ·simp[e]
  ·have:decide ((Lf r.1:aL)=Lf k)=false:=by simpa using e
   simp only[this]
   refine iH (ss:=ss) ?_
   rcases Le.mp h with z|z
   ·exact absurd z.symm e
   ·exact z
theorem q0 {ss:List aI} {a:Int->Int} {k v:Int} (h:k∈ss.map (·.1)):gY (bC ss a) (Lf k) (.int v)=bC ss (λx=>if x=k then v else a x):=by
 unfold gY
 rw[if_pos (by
  obtain⟨r,hr,rfl⟩:=Lk.mp h
  exact NC.mpr ⟨(Lf r.1, .int (a r.1)),Lk.mpr ⟨r,hr,rfl⟩,by simp⟩)]
 unfold bC
 rw[LY]
 refine Mp λr _=> ?_
 show (if (Lf r.1:aL)=Lf k then ((Lf r.1:aL),D.int v)else (Lf r.1, .int (a r.1)))=(Lf r.1, .int (if r.1=k then v else a r.1))
 by_cases e:r.1=k
 ·simp[e]
 ·have:¬(Lf r.1:aL)=Lf k:=λz=>e (by simpa using z)
  rw[if_neg this,if_neg e]
def im (a:Int->Int) (k v:Int):Int->Int:=λx=>if x=k then a x+v else a x
theorem eM {a:Int->Int} {r:aI} {ss:List aI} {t:Int}:cW a (r::ss) t=((if r.2.2=t then a r.1 else 0) - (if r.2.1=t then a r.1 else 0))+cW a ss t:=by
 unfold cW
 rw[L3,M1]
theorem xr {a:Int->Int} {k v t:Int}:∀{ss:List aI},k∉ss.map (·.1)->cW (im a k v) ss t=cW a ss t
 |[],_=>rfl
 |r::ss,h=>by
  have h1:r.1≠k:=λz=>h (by rw[L3,z];exact L8)
  have h2:k∉ss.map (·.1):=λz=>h (L7 _ z)
  rw[eM,eM,xr h2]
  simp only[im,if_neg h1]
theorem q8 {a:Int->Int} {v t:Int}:∀{ss:List aI},(ss.map (·.1)).Nodup->∀{r:aI},r∈ss->cW (im a r.1 v) ss t=cW a ss t+(if r.2.2=t then v else 0) - (if r.2.1=t then v else 0)
 |[],_,r,h=>by cases h
 |q::ss,nd,r,h=>by
  obtain⟨n1,n2⟩:=LN.mp (show (q.1::ss.map (·.1)).Nodup from nd)
  rw[eM,eM]
  rcases Le.mp h with rfl|h
  ·rw[xr n1]
   simp only[im,if_true]
   split<;>split<;>omega
  ·have TM:q.1≠r.1:=λz=>n1 (by rw[z];exact LZ h)
   rw[q8 n2 h]
   simp only[im,if_neg TM]
   omega
def di (a:Int->Int) (st:List (Int×Int)) (l:Int):Int->Int:=st.foldl (λa x=>im a x.1 (x.2*l)) a
theorem BB {a:Int->Int} {lo ss:List aI} (sub:∀r∈lo,r∈ss) (nd:(ss.map (·.1)).Nodup) {u k d q l t:Int} (h:BY lo u k d q):cW (im a k (d*l)) ss t=cW a ss t+(if q=t then l else 0) - (if u=t then l else 0):=by
 obtain⟨r,hr,rfl,h⟩:=h
 rw[q8 nd (sub r hr)]
 rcases h with ⟨rfl,rfl,rfl⟩|⟨rfl,rfl,rfl⟩
 ·rw[Int.one_mul]
 ·rw[show (-1:Int)*l= -l by omega]
  split<;>split<;>omega
theorem uK {lo ss:List aI} (sub:∀r∈lo,r∈ss) (nd:(ss.map (·.1)).Nodup) {u v l t:Int} {ps qs:List Int} {st:List (Int×Int)} (h:Wy lo u ps st v qs):∀a:Int->Int,cW (di a st l) ss t=cW a ss t+(if v=t then l else 0) - (if u=t then l else 0):=by
 induction h with
 |nil=>intro a;show cW a ss t=_;omega
 | @cons u k d q v ps qs st hs _ _ ih=>
  intro a
  show cW (di (im a k (d*l)) st l) ss t=_
  rw[ih (im a k (d*l)),BB sub nd hs]
  omega
theorem mG {lo:List aI} {u v:Int} {ps qs:List Int} {st:List (Int×Int)} (h:Wy lo u ps st v qs):∀x∈st,x.1∈lo.map (·.1):=by
 induction h with
 |nil=>intro x hx;cases hx
 |cons hs _ _ ih=>
  intro x hx
  rcases Le.mp hx with rfl|hx
  ·obtain⟨r,hr,e,_⟩:=hs
   exact Lk.mpr ⟨r,hr,e⟩
  ·exact ih x hx
theorem jq {a:Int->Int} {l k:Int}:∀{st:List (Int×Int)},(∀x∈st,x.1≠k)->di a st l k=a k:=by
 intro st
 induction st generalizing a with
 |nil=>intro _;rfl
 |cons x st ih=>
  intro h
  show di (im a x.1 (x.2*l)) st l k=a k
  rw[ih λy hy=>h y (L7 _ hy)]
  have:k≠x.1:=λz=>h x L8 z.symm
  simp[im,this]
section
variable {n:Nat} {ss:List aI} {rises:List Int} {rd:List (Int×Int)}
def gE (rises:List Int) (ss:List aI) (rd:List (Int×Int)) (t:Int):Int:=rs rises [t] - br (gF rd) [t] ss
theorem yW (c:bJ n ss rises rd) {t:Int} (h1:1<=t) (h2:t<=n):n9 [av n ss rises rd, .int t]= .ok (.int (gE rises ss rd t)):=by
 have len:=c.len
 have rsl:=c.rsl
 have e1:=kQ (rd:= .tup (rises.map .int)) (gd:= .tup ([t].map .int)) (rises:=rises) (gi:=[t]) (.inr rfl) (.inr rfl) (λx hx=>by rw[Lo.mp hx];omega) (by simp)
 have e2:=jn (sd:= .tup (ss.map ak)) (pd:= .tup (rd.map uA)) (gd:= .tup ([t].map .int)) (ss:=ss) (ps:=rd) (gi:=[t]) (.inr rfl) (.inr rfl) (.inr rfl) (by omega)
 have q1:al d9 2 (aa (bw "Day" "rises" (ac 0)) (aa (b9 (aa (ag 1) (ae))) (ae))) [some (.val (av n ss rises rd)),some (.val (.int t))]= .ok (.int (rs rises [t])):=
  aQ (ds:=[.tup (rises.map .int), .tup [.int t]]) (ah (ik rfl DT) (ah (fs:=ae) (d:= .tup [.int t]) rfl rfl)) rfl e1
 have q2:al cB 3 (aa (bw "Day" "streams" (ac 0)) (aa (bw "Day" "readings" (ac 0)) (aa (b9 (aa (ag 1) (ae))) (ae)))) [some (.val (av n ss rises rd)),some (.val (.int t))]= .ok (.int (br (gF rd) [t] ss)):=
  aQ (ds:=[.tup (ss.map ak), .tup (rd.map ax), .tup [.int t]]) (ah (ik rfl w6) (ah (ik rfl w8) (ah (fs:=ae) (d:= .tup [.int t]) rfl rfl))) rfl e2
 refine aE rfl ?_
 show r8 [some (.val (av n ss rises rd)),some (.val (.int t))]=_
 exact dQ (dj q1 q2 Az)
theorem uL {a0 a2 a3 a4:Option Slot} {l:Int} (hs:ss.length<=100):∀(st:List (Int×Int)) (a:Int->Int) (x6 x7:Option Slot),(∀x∈st,x.1∈ss.map (·.1)/\x.2.natAbs<18446744073709551616)->
  ∃y6 y7,aU (dc 2 (aH (gN 6) (aH (gN 7) (cS)))) eS (st.map dE) [a0,some (.own (.dic (bC ss a))),a2,a3,a4,some (.val (.int l)),x6,x7]
   = .ok (.nx [a0,some (.own (.dic (bC ss (di a st l)))),a2,a3,a4,some (.val (.int l)),y6,y7])
 |[],a,x6,x7,_=>⟨x6,x7,rfl⟩
 |x::st,a,x6,x7,h=>by
  obtain⟨h1,h2⟩:=h x L8
  have hg:=iH (a:=a) h1
  have hp:=q0 (a:=a) (v:=a x.1+x.2*l) h1
  have hl:(bC ss a).length<lim:=by unfold bC;rw[L4];unfold lim;omega
  have hf:(λy=>if y=x.1 then a x.1+x.2*l else a y)=im a x.1 (x.2*l):=by
   funext y
   unfold im
   by_cases e:y=x.1
   ·rw[if_pos e,if_pos e,e]
   ·rw[if_neg e,if_neg e]
  rw[hf]at hp
  obtain⟨y6,y7,e⟩:=uL (a0:=a0) (a2:=a2) (a3:=a3) (a4:=a4) (l:=l) hs st (im a x.1 (x.2*l)) (some (.val (.int x.1))) (some (.val (.int x.2))) λy hy=>h y (L7 _ hy)
  refine⟨y6,y7,?_⟩
  have hb:eS [a0,some (.own (.dic (bC ss a))),a2,a3,a4,some (.val (.int l)),some (.val (.int x.1)),some (.val (.int x.2))]= .ok (.nx [a0,some (.own (.dic (bC ss (im a x.1 (x.2*l))))),a2,a3,a4,some (.val (.int l)),some (.val (.int x.1)),some (.val (.int x.2))]):=by
   simp! [eS,uh,bN,hg,sx h2,hl,hp]
  rw[L3,b8 rfl hb,e]
  rfl
theorem BC {lo:List aI} {u v:Int} {ps qs:List Int} {st:List (Int×Int)} (h:Wy lo u ps st v qs):∀x∈st,x.2.natAbs<18446744073709551616:=by
 induction h with
 |nil=>intro x hx;cases hx
 |cons hs _ _ ih=>
  intro x hx
  rcases Le.mp hx with rfl|hx
  ·obtain⟨r,_,_,h⟩:=hs
   rcases h with ⟨rfl,_⟩|⟨rfl,_⟩
   ·exact(by decide:(1:Int).natAbs<18446744073709551616)
   ·exact(by decide:(-1:Int).natAbs<18446744073709551616)
  ·exact ih x hx
theorem rJ (c:bJ n ss rises rd) {f:Int} {rest:List Int} (hf:0<=f/\f<=n):∀(ts:List Int) (a:Int->Int) (x4 x5 x6 x7:Option Slot),(∀t∈ts,1<=t/\t<=(n:Int)/\il (ay ss rd) f t)->
  ∃a' y4 y5 y6 y7,aU (gN 4) eU (ts.map .int) [some (.val (av n ss rises rd)),some (.own (.dic (bC ss a))),some (.val (.tup ((ay ss rd).map ak))),some (.val (bD (f::rest))),x4,x5,x6,x7]
   = .ok (.nx [some (.val (av n ss rises rd)),some (.own (.dic (bC ss a'))),some (.val (.tup ((ay ss rd).map ak))),some (.val (bD (f::rest))),y4,y5,y6,y7])/\
   (∀t,cW a' ss t=cW a ss t+(ts.map λq=>if q=t then gE rises ss rd q else 0).sum - (if f=t then (ts.map (gE rises ss rd)).sum else 0))/\∀k∈rd.map (·.1),a' k=a k
 |[],a,x4,x5,x6,x7,_=>⟨a,x4,x5,x6,x7,rfl,λt=>by simp,λ_ _=>rfl⟩
 |t::ts,a,x4,x5,x6,x7,h=>by
  obtain⟨h1,h2,h3⟩:=h t L8
  have len:=c.len
  have lol:=c.lol
  have hl:=yW c h1 h2
  have sub:∀r∈ay ss rd,r∈ss:=λr hr=>(Lv.mp hr).1
  obtain⟨st,qs,e1,w,_⟩:∃st qs,dI [.tup ((ay ss rd).map ak), .int f, .int t]= .ok (.tup (st.map dE))/\Wy (ay ss rd) f [f] st t qs/\st.length<=7:=by
   rcases rG (p:=f) (q:=t) (sd:= .tup ((ay ss rd).map ak)) (.inr rfl) (by omega) c.inRl c.n7 hf with ⟨z,_⟩|⟨_,z⟩
   ·exact absurd h3 z
   ·exact z
  have Uc:∀x∈st,x.1∈ss.map (·.1)/\x.2.natAbs<18446744073709551616:=λx hx=>by
   obtain⟨r,hr,e⟩:=Lk.mp (mG w x hx)
   exact⟨Lk.mpr ⟨r,sub r hr,e⟩,BC w x hx⟩
  obtain⟨y6,y7,e2⟩:=uL (a0:=some (.val (av n ss rises rd))) (a2:=some (.val (.tup ((ay ss rd).map ak)))) (a3:=some (.val (bD (f::rest)))) (a4:=some (.val (.int t))) (l:=gE rises ss rd t) (ss:=ss) (by omega) st a x6 x7 Uc
  obtain⟨a',z4,z5,z6,z7,e3,e4,e5⟩:=rJ c (rest:=rest) hf ts (di a st (gE rises ss rd t)) (some (.val (.int t))) (some (.val (.int (gE rises ss rd t)))) y6 y7 λq hq=>h q (L7 _ hq)
  have hi:f2 aP (ac 3) (fC (.int 0)) [some (.val (av n ss rises rd)),some (.own (.dic (bC ss a))),some (.val (.tup ((ay ss rd).map ak))),some (.val (bD (f::rest))),some (.val (.int t)),some (.val (.int (gE rises ss rd t))),x6,x7]= .ok (.int f):=by simp! [bD,L3,ee]
  have hb:eU [some (.val (av n ss rises rd)),some (.own (.dic (bC ss a))),some (.val (.tup ((ay ss rd).map ak))),some (.val (bD (f::rest))),some (.val (.int t)),x5,x6,x7]
    = .ok (.nx [some (.val (av n ss rises rd)),some (.own (.dic (bC ss (di a st (gE rises ss rd t))))),some (.val (.tup ((ay ss rd).map ak))),some (.val (bD (f::rest))),some (.val (.int t)),some (.val (.int (gE rises ss rd t))),y6,y7]):=by
   unfold eU
   rw[ai (ρ':=[some (.val (av n ss rises rd)),some (.own (.dic (bC ss a))),some (.val (.tup ((ay ss rd).map ak))),some (.val (bD (f::rest))),some (.val (.int t)),some (.val (.int (gE rises ss rd t))),x6,x7]) (by simp! [hl])]
   refine(c7 (ds:=st.map dE) ?_).trans e2
   unfold bg
   rw[aQ (n:=3) (ds:=[.tup ((ay ss rd).map ak), .int f, .int t]) (ah (f:=ag 2) rfl (ah hi (ah (f:=ag 4) (fs:=ae) (d:= .int t) rfl rfl))) rfl e1]
   rfl
  refine⟨a',z4,z5,z6,z7,by rw[L3,b8 rfl hb,e3],λx=> ?_,λk hk=> ?_⟩
  ·rw[e4 x,uK sub c.good.nd w,L3,L3,M1,M1]
   by_cases q1:f=x<;>by_cases q2:t=x<;>simp only[q1,q2,if_true,if_false]<;>omega
  ·rw[e5 k hk]
   refine jq λx hx z=> ?_
   obtain⟨r,hr,e⟩:=Lk.mp (mG w x hx)
   have:=(Lv.mp hr).2
   rw[decide_eq_true_eq]at this
   exact this (by rw[e,z];exact hk)
end
section
variable {n:Nat} {ss:List aI} {rises:List Int} {rd:List (Int×Int)}
theorem sW {α:Type} [DecidableEq α] {f:α->Int} {h:α}:∀{l:List α},l.Nodup->h∈l->(∀p∈l,p≠h->f p=0)->(l.map f).sum=f h
 |[],_,hm,_=>by cases hm
 |p::l,nd,hm,hz=>by
  obtain⟨n1,n2⟩:=LN.mp nd
  rw[L3,M1]
  rcases Le.mp hm with rfl|hm
  ·have:∀(l:List α),(∀p∈l,f p=0)->(l.map f).sum=0:=λl=>by
    induction l with
    |nil=>intro _;rfl
    |cons a l ih=>intro hz;rw[L3,M1,hz a L8,ih λp hp=>hz p (L7 _ hp)];rfl
   rw[this l λp hp=>hz p (L7 _ hp) λz=>n1 (z▸hp)]
   omega
  ·rw[hz p L8 λz=>n1 (z▸hm),sW n2 hm λq hq=>hz q (L7 _ hq)]
   omega
theorem q9 {α:Type} {f:α->Int} {l:List α} (h:∀p∈l,f p=0):(l.map f).sum=0:=by
 induction l with
 |nil=>rfl
 |cons a l ih=>rw[L3,M1,h a L8,ih λp hp=>h p (L7 _ hp)];rfl
theorem qa (c:bJ n ss rises rd):∀(gs:List (Int×List Int)) (a:Int->Int) (x3 x4 x5 x6 x7:Option Slot),(∀g∈gs,(0<=g.1/\g.1<=(n:Int))/\∀t∈g.2,1<=t/\t<=(n:Int)/\il (ay ss rd) g.1 t)->
  ∃a' y3 y4 y5 y6 y7,aU (gN 3) hV (gs.map λg=>bD (g.1::g.2)) [some (.val (av n ss rises rd)),some (.own (.dic (bC ss a))),some (.val (.tup ((ay ss rd).map ak))),x3,x4,x5,x6,x7]
   = .ok (.nx [some (.val (av n ss rises rd)),some (.own (.dic (bC ss a'))),some (.val (.tup ((ay ss rd).map ak))),y3,y4,y5,y6,y7])/\
   (∀t,cW a' ss t=cW a ss t+(gs.map λg=>(g.2.map λq=>if q=t then gE rises ss rd q else 0).sum - (if g.1=t then (g.2.map (gE rises ss rd)).sum else 0)).sum)/\∀k∈rd.map (·.1),a' k=a k
 |[],a,x3,x4,x5,x6,x7,_=>⟨a,x3,x4,x5,x6,x7,rfl,λt=>by simp,λ_ _=>rfl⟩
 |g::gs,a,x3,x4,x5,x6,x7,h=>by
  obtain⟨h1,h2⟩:=h g L8
  obtain⟨a1,y4,y5,y6,y7,e1,e2,e3⟩:=rJ c (rest:=g.2) h1 g.2 a x4 x5 x6 x7 h2
  obtain⟨a',z3,z4,z5,z6,z7,e4,e5,e6⟩:=qa c gs a1 (some (.val (bD (g.1::g.2)))) y4 y5 y6 y7 λq hq=>h q (L7 _ hq)
  have hb:hV [some (.val (av n ss rises rd)),some (.own (.dic (bC ss a))),some (.val (.tup ((ay ss rd).map ak))),some (.val (bD (g.1::g.2))),x4,x5,x6,x7]
    = .ok (.nx [some (.val (av n ss rises rd)),some (.own (.dic (bC ss a1))),some (.val (.tup ((ay ss rd).map ak))),some (.val (bD (g.1::g.2))),y4,y5,y6,y7]):=by
   refine(c7 (ds:=g.2.map .int) ?_).trans e1
   have q:BV (.tup ((g.1::g.2).map D.int)) (some 1) none=some (.tup (g.2.map .int)):=sR (k:=1) (by simp)
   simp! [yk,jv,iu,bD,q]
  refine⟨a',z3,z4,z5,z6,z7,by rw[L3,b8 rfl hb,e4],λt=> ?_,λk hk=>by rw[e6 k hk,e3 k hk]⟩
  rw[e5 t,e2 t,L3,M1]
  omega
theorem BD {t:Int}:gE rises ss rd t=rises.getD (t - 1).toNat 0 - cW (gF rd) ss t:=by
 have h:=kR (ss:=ss) (rd:=rd) (g:=[t]) (by simp)
 unfold gE
 rw[<-h]
 unfold iG rs
 simp
theorem BE:∀(g:List Int),(g.map (gE rises ss rd)).sum=rs rises g - iG ss rd g
 |[]=>rfl
 |t::g=>by
  have ih:=BE g
  unfold rs iG at ih ⊢
  rw[L3,M1,ih,BD,L3,M1,L3,M1]
  omega
def we (n:Nat) (B:Int->List Int):List (Int×List Int):=((0::aV n).filter λp=>decide ((B p).head? =some p)).map λp=>(p,(B p).tail)
theorem BF {B:Int->List Int}:(b7 B (0::aV n))=(we n B).map λg=>g.1::g.2:=by
 unfold we b7
 rw[LY]
 refine Mp λp hp=> ?_
 have:=of_decide_eq_true (Lv.mp hp).2
 show B p=p::(B p).tail
 cases e:B p with
 |nil=>rw[e]at this;cases this
 |cons x r=>rw[e]at this;simp at this;rw[this];rfl
theorem BG:(0::aV n).Nodup:=by
 refine LN.mpr ⟨λz=>by have:=(cj.mp z).1;omega,?_⟩
 unfold aV
 rw[List.nodup_iff_pairwise_ne,Me]
 exact Sq.imp λh z=>h (by omega)
theorem BH (c:bJ n ss rises rd) {B:Int->List Int} (hB:∀p:Int,0<=p/\p<=n->o5 (ay ss rd) p (B p)) (nc:eL B rises ss rd (aV n)=[]) {t:Int} (h1:1<=t) (h2:t<=n):
  ((we n B).map λg=>(g.2.map λq=>if q=t then gE rises ss rd q else 0).sum - (if g.1=t then (g.2.map (gE rises ss rd)).sum else 0)).sum=gE rises ss rd t:=by
 have bt:=hB t (by omega)
 obtain⟨h,r,eB,th,hl⟩:=bt.head
 have hr:=il.range c.inRl (by omega:(0:Int)<=t/\t<=n) th
 have bh:=hB h hr
 have a10:B h=B t:=(o5.uniq (ss:=ay ss rd) (p:=t) ⟨λq=>(bh.mem q).trans ⟨λz=>th.trans z,λz=>th.symm.trans z⟩,bh.nd,bh.srt⟩ bt)
 unfold we
 rw[LY]
 have hm:h∈(0::aV n).filter λp=>decide ((B p).head? =some p):=by
  refine Lv.mpr ⟨?_,decide_eq_true (by rw[a10,eB];rfl)⟩
  by_cases z:h=0
  ·rw[z];exact L8
  ·exact L7 _ (cj.mpr ⟨by omega,hr.2⟩)
 rw[sW (h:=h) (BG.filter _) hm (λp hp TM=> ?_)]
 ·show ((B h).tail.map λq=>if q=t then gE rises ss rd q else 0).sum - (if h=t then ((B h).tail.map (gE rises ss rd)).sum else 0)=_
  rw[a10,eB,List.tail_cons]
  have nd:(h::r).Nodup:=eB▸bt.nd
  obtain⟨n1,n2⟩:=LN.mp nd
  by_cases z:h=t
  ·subst z
   rw[if_pos rfl,q9 (λq hq=>if_neg λ(y:q=h)=>n1 (y▸hq))]
   have hg:B h∈b7 B (aV n):=Lk.mpr ⟨h,Lv.mpr ⟨cj.mpr ⟨h1,h2⟩,decide_eq_true (by rw[eB];rfl)⟩,rfl⟩
   have VG:rs rises (B h)=iG ss rd (B h):=Classical.byContradiction λy=>by
    have:(B h,rs rises (B h),iG ss rd (B h))∈eL B rises ss rd (aV n):=Lv.mpr ⟨Lk.mpr ⟨B h,hg,rfl⟩,decide_eq_true y⟩
    rw[nc]at this
    cases this
   have hs:=BE (rises:=rises) (ss:=ss) (rd:=rd) (B h)
   rw[VG,eB,L3,M1]at hs
   omega
  ·rw[if_neg z]
   have ht:t∈r:=by
    have:t∈B t:=(bt.mem t).mpr .refl
    rw[eB]at this
    rcases Le.mp this with y|y
    ·exact absurd y.symm z
    ·exact y
   rw[sW (f:=λq=>if q=t then gE rises ss rd q else 0) n2 ht (λq _ hq=>if_neg hq),if_pos rfl]
   omega
 ·have Xo:0<=p/\p<=(n:Int):=by
   rcases Le.mp (Lv.mp hp).1 with y|y
   ·omega
   ·have:=cj.mp y;omega
  have bp:=hB p Xo
  have XG:=of_decide_eq_true (Lv.mp hp).2
  have nt:t∉B p:=λz=>by
   have XH:il (ay ss rd) t p:=((bp.mem t).mp z).symm
   have:B p=B t:=o5.uniq (ss:=ay ss rd) (p:=t) ⟨λq=>(bp.mem q).trans ⟨λy=>XH.trans y,λy=>XH.symm.trans y⟩,bp.nd,bp.srt⟩ bt
   rw[this,eB]at XG
   simp at XG
   exact TM XG.symm
  show ((B p).tail.map λq=>if q=t then gE rises ss rd q else 0).sum - (if p=t then ((B p).tail.map (gE rises ss rd)).sum else 0)=0
  rw[q9 (λq hq=>if_neg λ(y:q=t)=>nt (Rn (y▸hq))),if_neg (λy=>nt (by rw[<-y];exact(bp.mem p).mpr .refl))]
  rfl
end
section
variable {n:Nat} {ss:List aI} {rises:List Int} {rd:List (Int×Int)}
def BI (a:Int->Int) (ps:List (Int×Int)):Int->Int:=ps.foldl (λa p=>λx=>if x=p.1 then p.2 else a x) a
theorem xt:∀(ps:List (Int×Int)) (a:Int->Int),(∀p∈ps,p.1∈ss.map (·.1))->c_ (bC ss a) (cg ps)=bC ss (BI a ps)
 |[],a,_=>rfl
 |p::ps,a,h=>by
  show c_ (gY (bC ss a) (Lf p.1) (.int p.2)) (cg ps)=_
  rw[q0 (h p L8),xt ps _ λq hq=>h q (L7 _ hq)]
  rfl
theorem BJ {a:Int->Int} {k:Int}:∀{ps:List (Int×Int)},k∉ps.map (·.1)->BI a ps k=a k:=by
 intro ps
 induction ps generalizing a with
 |nil=>intro _;rfl
 |cons p ps ih=>
  intro h
  show BI (λx=>if x=p.1 then p.2 else a x) ps k=a k
  rw[ih λz=>h (L7 _ z)]
  exact if_neg λz=>h (by rw[z];exact L8)
theorem BK {a:Int->Int} {p:Int×Int}:∀{ps:List (Int×Int)},(ps.map (·.1)).Nodup->p∈ps->BI a ps p.1=p.2:=by
 intro ps
 induction ps generalizing a with
 |nil=>intro _ h;cases h
 |cons q ps ih=>
  intro nd h
  obtain⟨n1,n2⟩:=LN.mp (show (q.1::ps.map (·.1)).Nodup from nd)
  show BI (λx=>if x=q.1 then q.2 else a x) ps p.1=p.2
  rcases Le.mp h with rfl|h
  ·rw[BJ n1]
   exact if_pos rfl
  ·exact ih n2 h
theorem Ed (nd:(rd.map (·.1)).Nodup) (k:Int):BI (λ_=>0) rd k=gF rd k:=by
 by_cases h:k∈rd.map (·.1)
 ·obtain⟨p,hp,rfl⟩:=Lk.mp h
  rw[BK nd hp,jj nd hp]
 ·rw[BJ h]
  unfold gF
  have:=pY rd k
  rw[decide_eq_false h]at this
  rw[gR nd,Option.isSome_eq_false_iff.mp this|>Option.isNone_iff_eq_none.mp]
theorem jr {a b:Int->Int} {t:Int}:∀{ss:List aI},(∀r∈ss,a r.1=b r.1)->cW a ss t=cW b ss t
 |[],_=>rfl
 |r::ss,h=>by rw[eM,eM,h r L8,jr λq hq=>h q (L7 _ hq)]
def io (ss:List aI) (a:Int->Int):List (Int×Int):=ss.map λr=>(r.1,a r.1)
theorem xu {a:Int->Int}:∀ss:List aI,eF (bC ss a)=some (ss.map (·.1),(io ss a).map ax)
 |[]=>rfl
 |r::ss=>by
  show (eF (bC ss a)).map _=_
  rw[xu ss]
  rfl
theorem uM (c:bJ n ss rises rd) {B:Int->List Int} (hB:∀p:Int,0<=p/\p<=n->o5 (ay ss rd) p (B p)):
  (eL B rises ss rd (aV n)=[]->bx [av n ss rises rd]= .ok .non)/\(eL B rises ss rd (aV n)≠[]->∃ρ,bx [av n ss rises rd]= .err "Clashing" ρ):=by
 have hc:=jp c hB
 have t:fT (f2 qm (bG cR (aa (al ca 1 (aa (ag 0) (ae))) (ae))) (fC (.int 0))) [some (.val (av n ss rises rd))]= .ok (decide (((eL B rises ss rd (aV n)).length:Int)>0)):=by
  simp! [hc,L4]
 refine⟨λh=> ?_,λh=>⟨[some (.val (av n ss rises rd))],DU rfl ?_⟩⟩
 ·rw[h]at t
  show aC 1 1 cu [av n ss rises rd]=_
  have e:cu [some (.val (av n ss rises rd))]= .ok (.nx [some (.val (av n ss rises rd))]):=(sZ t).trans rfl
  unfold aC
  rw[if_pos (show [av n ss rises rd].length=1 from rfl),show cZ 1 [av n ss rises rd]=[some (.val (av n ss rises rd))]from rfl,e]
  rfl
 ·have:0<(eL B rises ss rd (aV n)).length:=RA.mpr h
  rw[decide_eq_true (by omega)]at t
  exact(DR t).trans rfl
theorem wg (c:bJ n ss rises rd) {B:Int->List Int} (hB:∀p:Int,0<=p/\p<=n->o5 (ay ss rd) p (B p)) (nc:eL B rises ss rd (aV n)=[]):
  ∃ps:List (Int×Int),j8 [av n ss rises rd]= .ok (.tup (ps.map ax))/\ps.map (·.1)=ss.map (·.1)/\(∀p∈rd,p∈ps)/\∀t:Int,1<=t->t<=n->cW (gF ps) ss t=rises.getD (t - 1).toNat 0:=by
 have len:=c.len
 have ten:=c.ten
 have lol:=c.lol
 have hr:=(uM c hB).1 nc
 have hw:=jk c
 have hb:=fP (sd:= .tup ((ay ss rd).map ak)) (.inr rfl) (by omega) c.inRl c.n7 hB
 rw[kE,BF,LY]at hb
 have good:∀g∈we n B,(0<=g.1/\g.1<=(n:Int))/\∀t∈g.2,1<=t/\t<=(n:Int)/\il (ay ss rd) g.1 t:=λg hg=>by
  obtain⟨p,hp,rfl⟩:=Lk.mp hg
  have Xo:0<=p/\p<=(n:Int):=by
   rcases Le.mp (Lv.mp hp).1 with y|y
   ·omega
   ·have:=cj.mp y;omega
  have bp:=hB p Xo
  have XG:=of_decide_eq_true (Lv.mp hp).2
  refine⟨Xo,λt ht=> ?_⟩
  have XH:=(bp.mem t).mp (Rn ht)
  have a33:=il.range c.inRl Xo XH
  refine⟨?_,a33.2,XH⟩
  obtain⟨x,r,e,_,hl⟩:=bp.head
  rw[e]at XG ht
  have ex:x=p:=by simpa using XG
  subst ex
  have a34:t∈r:=ht
  have nd:(x::r).Nodup:=e▸bp.nd
  have h3:=hl t XH
  have h4:t≠x:=λz=>(LN.mp nd).1 (z▸a34)
  omega
 obtain⟨a',y3,y4,y5,y6,y7,el,e1,e2⟩:=qa c (we n B) (BI (λ_=>0) rd) none none none none none good
 have YA:∀r∈ss,gF (io ss a') r.1=a' r.1:=λr hr=>by
  have nd:((io ss a').map (·.1)).Nodup:=by
   unfold io
   rw[LY]
   exact c.good.nd
  exact jj (p:=(r.1,a' r.1)) nd (Lk.mpr ⟨r,hr,rfl⟩)
 refine⟨io ss a',aE rfl ?_,by unfold io;rw[LY];rfl,λp hp=> ?_,λt h1 h2=> ?_⟩
 ·show j7 [some (.val (av n ss rises rd)),none,none,none,none,none,none,none]=_
  unfold j7
  have s1:nU (al bx 1 (aa (ag 0) (ae))) [some (.val (av n ss rises rd)),none,none,none,none,none,none,none]= .ok (.nx [some (.val (av n ss rises rd)),none,none,none,none,none,none,none]):=by
   unfold nU
   rw[aQ (n:=1) (ds:=[av n ss rises rd]) (ah (f:=ag 0) (fs:=ae) rfl rfl) rfl hr]
   rfl
  have p0:(io ss λ_=>0).map uA=ss.map λr=>D.tup [.int r.1, .int 0]:=by unfold io;rw[LY];rfl
  have d1:=gA (pd:= .lst ((io ss λ_=>0).map uA)) (ps:=io ss λ_=>0) (.inl rfl)
  rw[gR (by unfold io;rw[LY];exact c.good.nd)]at d1
  have pe:cg (io ss λ_=>0)=bC ss λ_=>0:=by unfold cg io bC;rw[LY];rfl
  rw[pe,p0]at d1
  have s2:mf 1 (bG dk (aa (fL (dG ["day","amounts","unmetered","bunch","tank","lack","number","direction"] [(".0", .local),("stream", .local)] (bg (bw "Day" "streams" (ac 0))) (gN 1) (iO) (b9 (aa (f2 aP (ac 1) (fC (.int 0))) (aa (fC (.int 0)) (ae)))))) (ae))) [some (.val (av n ss rises rd)),none,none,none,none,none,none,none]
    = .ok (.nx [some (.val (av n ss rises rd)),some (.own (.dic (bC ss λ_=>0))),none,none,none,none,none,none]):=by
   have a35:(2:Nat)<=lim:=by decide
   have e:=eE (g:=dk) (ah (vI (dw (N:=["day","amounts","unmetered","bunch","tank","lack","number","direction"]) (names:=[(".0", .local),("stream", .local)]) (fi:=bg (bw "Day" "streams" (ac 0))) (g:=gN 1) (ρ:=[some (.val (av n ss rises rd)),none,none,none,none,none,none,none]) (ds:=ss.map ak) (τ:=[none,none]) (by simp! [bw,av,w6]) (by simp[lim];omega) rfl
    (ji (gt:=iO) (fe:=b9 (aa (f2 aP (ac 1) (fC (.int 0))) (aa (fC (.int 0)) (ae)))) (e:=λr:aI=>D.tup [.int r.1, .int 0]) (p:=λ_=>true) ss (λ_ _=>rfl) (λr _ _=>by simp! [ak,ee,a35]) none))) (fs:=ae) rfl) (by rw[Pa.mpr (λ_ _=>rfl)];exact d1)
   unfold mf
   rw[e]
   rfl
  have d2:=gA (pd:= .tup (rd.map ax)) (ps:=rd) (.inr rfl)
  rw[gR c.rnd]at d2
  have YQ:(bC ss λ_=>0).length+(cg rd).length<lim:=by unfold bC cg;rw[L4,L4];unfold lim;omega
  have XU:=xt (ss:=ss) rd (λ_=>0) λp hp=>c.sub.subset (LZ hp)
  have s3:yA 1 (bG dk (aa (bw "Day" "readings" (ac 0)) (ae))) [some (.val (av n ss rises rd)),some (.own (.dic (bC ss λ_=>0))),none,none,none,none,none,none]
    = .ok (.nx [some (.val (av n ss rises rd)),some (.own (.dic (bC ss (BI (λ_=>0) rd)))),none,none,none,none,none,none]):=by
   have e:=eE (g:=dk) (ρ:=[some (.val (av n ss rises rd)),some (.own (.dic (bC ss λ_=>0))),none,none,none,none,none,none]) (ah (fs:=ae) (ik (fa:=ac 0) rfl w8) rfl) d2
   simp only[yA,LQ,LP,e,aj,YQ,if_true,XU,MJ,MI]
  have s4:aJ (bW "Day" "without_meter" 1 aN (ag 0) ae) (gN 2) [some (.val (av n ss rises rd)),some (.own (.dic (bC ss (BI (λ_=>0) rd)))),none,none,none,none,none,none]
    = .ok (.nx [some (.val (av n ss rises rd)),some (.own (.dic (bC ss (BI (λ_=>0) rd)))),some (.val (.tup ((ay ss rd).map ak))),none,none,none,none,none]):=yO (EM rfl hw)
  have hf:bg (al bB 2 (aa (bw "Day" "tanks" (ac 0)) (aa (ag 2) (ae)))) [some (.val (av n ss rises rd)),some (.own (.dic (bC ss (BI (λ_=>0) rd)))),some (.val (.tup ((ay ss rd).map ak))),none,none,none,none,none]= .ok ((we n B).map λg=>bD (g.1::g.2)):=by
   unfold bg
   rw[aQ (n:=2) (ds:=[.int (n:Int), .tup ((ay ss rd).map ak)]) (ah (ik rfl DS) (ah (f:=ag 2) (fs:=ae) rfl rfl)) rfl hb]
   rfl
  rw[ai s1,ai s2,ai s3,ai s4,ai ((c7 hf).trans el)]
  refine dQ (eE (ah (fs:=ae) (d:= .lst ((io ss a').map ax)) ?_ rfl) rfl)
  have hs:jw ((io ss a').map ax)=(io ss a').map ax:=pz (.refl _) (by
   unfold io
   rw[LY,Me]
   exact c.good.inc)
  unfold oA
  simp only[ac,LQ,LP,ph,aj,xu]
  rw[if_pos ⟨c.good.nd,by rw[L4];omega⟩,hs]
 ·have hk:p.1∈rd.map (·.1):=LZ hp
  obtain⟨r,X5,e⟩:=Lk.mp (c.sub.subset hk)
  refine Lk.mpr ⟨r,X5,?_⟩
  rw[e,e2 _ hk,BK c.rnd hp]
 ·rw[jr YA,e1 t,BH c hB nc h1 h2,BD,jr λr _=>Ed c.rnd r.1]
  omega
end
theorem mH {kds:List (aL×D)} {i:Int}:aP (.dic kds) (.int i)=aZ kds (Lf i):=rfl
theorem BL {n:Nat} {ss:List aI} {rises:List Int} {rd ps:List (Int×Int)} {k:Nat} {x4 x5 x6 x7:Option Slot} (h1:ps.map (·.1)=ss.map (·.1)) (nd:(ps.map (·.1)).Nodup) (hk:k<ps.length) (hl:ps.length<=1000):
  ∃y4,cT [some (.val (aX n ss rises rd)),some (.val (.tup (ps.map ax))),some (.own (.dic (cg (ps.take k)))),some (.val (.int (k:Int))),x4,x5,x6,x7]
   = .ok (.nx [some (.val (aX n ss rises rd)),some (.val (.tup (ps.map ax))),some (.own (.dic (cg (ps.take (k+1))))),some (.val (.int (k:Int))),y4,x5,x6,x7]):=by
 have Ti:ss.length=ps.length:=by have:=congrArg Nt h1;simpa using this.symm
 have a11:k<ss.length:=by omega
 have Xk:ss[k].1=ps[k].1:=by
  have:=congrArg (λl=>l[k]?) h1
  simp[hk,a11]at this
  exact this.symm
 have hp:=DQ hk
 have VE:=vZ a11
 have a07:gY (cg (ps.take k)) (Lf ps[k].1) (.int ps[k].2)=cg (ps.take (k+1)):=by
  rw[xa,OK hk]
  intro z
  rw[Ru]at z
  obtain⟨i,hi,e⟩:=Rz z
  rw[Nz,L4]at hi
  rw[List.getElem_take]at e
  have:=(OI nd (i:=i) (j:=k) (h₀:=by simp;omega) (h₁:=by simpa using hk)).mp (by rw[e];simp)
  omega
 have YQ:(cg (ps.take k)).length<lim:=by unfold cg;rw[L4,Nz];unfold lim;omega
 have hs:=rq ps[k].1
 have hw:=yU ps[k].2
 rw[show ak ss[k]= .tup [.int ps[k].1, .int ss[k].2.1, .int ss[k].2.2] by rw[ak,Xk]]at VE
 generalize ps[k]=p at*
 obtain⟨num,am⟩:=p
 refine⟨some (.val (ax (num,am))),?_⟩
 simp! [cT,kX,fK,aX,hp,ax,pf,wK,not_true,ee,pU,VE,hs,hw,bN,YQ,a07,show ((2:Nat):Int)=2 from rfl,ne_eq]
theorem uN {n:Nat} {ss:List aI} {rises:List Int} {rd ps:List (Int×Int)} {x5 x6 x7:Option Slot} (h1:ps.map (·.1)=ss.map (·.1)) (nd:(ps.map (·.1)).Nodup) (hl:ps.length<=1000):∀(j k:Nat) (x3 x4:Option Slot),k+j=ps.length->
  ∃y3 y4,aU (gN 3) cT ((NP k j).map λk:Nat=>D.int (k:Int)) [some (.val (aX n ss rises rd)),some (.val (.tup (ps.map ax))),some (.own (.dic (cg (ps.take k)))),x3,x4,x5,x6,x7]
   = .ok (.nx [some (.val (aX n ss rises rd)),some (.val (.tup (ps.map ax))),some (.own (.dic (cg ps))),y3,y4,x5,x6,x7])
 |0,k,x3,x4,hk=>⟨x3,x4,by rw[show k=ps.length by omega,OL];simp[aU]⟩
 |j+1,k,x3,x4,hk=>by
  obtain⟨z4,e1⟩:=BL (n:=n) (rises:=rises) (rd:=rd) (x4:=x4) (x5:=x5) (x6:=x6) (x7:=x7) h1 nd (show k<ps.length by omega) hl
  obtain⟨y3,y4,e2⟩:=uN (n:=n) (rises:=rises) (rd:=rd) (x5:=x5) (x6:=x6) (x7:=x7) h1 nd hl j (k+1) (some (.val (.int (k:Int)))) z4 (by omega)
  exact⟨y3,y4,by rw[N_,L3,b8 rfl e1,e2]⟩
theorem uO {ps:List (Int×Int)} (nd:(ps.map (·.1)).Nodup) {a0 a1 a3 a4 a7:Option Slot}:∀(rd:List (Int×Int)) (x5 x6:Option Slot),(∀p∈rd,p∈ps)->
  ∃y5 y6,aU (dc 2 (aH (gN 5) (aH (gN 6) (cS)))) cU (rd.map ax) [a0,a1,some (.own (.dic (cg ps))),a3,a4,x5,x6,a7]
   = .ok (.nx [a0,a1,some (.own (.dic (cg ps))),a3,a4,y5,y6,a7])
 |[],x5,x6,_=>⟨x5,x6,rfl⟩
 |p::rd,x5,x6,h=>by
  obtain⟨y5,y6,e⟩:=uO nd (a0:=a0) (a1:=a1) (a3:=a3) (a4:=a4) (a7:=a7) rd (some (.val (.int p.1))) (some (.val (.int p.2))) λq hq=>h q (L7 _ hq)
  refine⟨y5,y6,?_⟩
  have hg:=sS nd (h p L8)
  have hb:cU [a0,a1,some (.own (.dic (cg ps))),a3,a4,some (.val (.int p.1)),some (.val (.int p.2)),a7]= .ok (.nx [a0,a1,some (.own (.dic (cg ps))),a3,a4,some (.val (.int p.1)),some (.val (.int p.2)),a7]):=by
   simp! [cU,mH,hg]
  rw[L3,b8 rfl hb,e]
theorem uP {n:Nat} {ss:List aI} {rises:List Int} {rd ps:List (Int×Int)} (hr:rises.length=n) {a2 a3 a4 a5 a6:Option Slot}:∀(ts:List Int) (x7:Option Slot),(∀t∈ts,1<=t/\t<=n)->(∀t∈ts,cW (gF ps) ss t=rises.getD (t - 1).toNat 0)->
  ∃y7,aU (gN 7) cV (ts.map .int) [some (.val (aX n ss rises rd)),some (.val (.tup (ps.map ax))),a2,a3,a4,a5,a6,x7]= .ok (.nx [some (.val (aX n ss rises rd)),some (.val (.tup (ps.map ax))),a2,a3,a4,a5,a6,y7])
 |[],x7,_,_=>⟨x7,rfl⟩
 |t::ts,x7,h,hs=>by
  obtain⟨y7,e⟩:=uP (rd:=rd) hr (a2:=a2) (a3:=a3) (a4:=a4) (a5:=a5) (a6:=a6) ts (some (.val (.int t))) (λq hq=>h q (L7 _ hq)) λq hq=>hs q (L7 _ hq)
  refine⟨y7,?_⟩
  have a08:kM [.tup (ss.map ak), .tup (ps.map ax), .lst [.int t]]= .ok (.int (rises.getD (t - 1).toNat 0)):=by
   have:=Bj (sd:= .tup (ss.map ak)) (pd:= .tup (ps.map ax)) (gd:= .lst ([t].map .int)) (ss:=ss) (ps:=ps) (gi:=[t]) (.inr rfl) (.inr rfl) (.inl rfl)
   rw[show ([t].map (cW (gF ps) ss)).sum=rises.getD (t - 1).toNat 0 by rw[L3,M4,M1,List.sum_nil,Int.add_zero,hs t L8]]at this
   exact this
  have Xl:(1:Nat)<=lim:=by decide
  have hb:cV [some (.val (aX n ss rises rd)),some (.val (.tup (ps.map ax))),a2,a3,a4,a5,a6,some (.val (.int t))]= .ok (.nx [some (.val (aX n ss rises rd)),some (.val (.tup (ps.map ax))),a2,a3,a4,a5,a6,some (.val (.int t))]):=by
   simp! [cV,aX,pU,KS,Xl,a08,xg (rises:=rises) (t:=t) (by have:=h t L8;omega)]
  rw[L3,b8 rfl hb,e]
theorem jz {n:Nat} {ss:List aI} {rises:List Int} {rd ps:List (Int×Int)} (c:bJ n ss rises rd) (h1:ps.map (·.1)=ss.map (·.1)) (h2:∀p∈rd,p∈ps) (h3:∀t:Int,1<=t->t<=n->cW (gF ps) ss t=rises.getD (t - 1).toNat 0):
  bz [aX n ss rises rd, .tup (ps.map ax)]= .ok (.bl true):=by
 have nd:(ps.map (·.1)).Nodup:=by rw[h1];exact c.good.nd
 have Ti:ps.length=ss.length:=by have:=congrArg Nt h1;simpa using this
 have a12:=c.len
 have hn:=c.n7
 obtain⟨z3,z4,e1⟩:=uN (n:=n) (rises:=rises) (rd:=rd) (x5:=none) (x6:=none) (x7:=none) h1 nd (by omega) ps.length 0 none none (by omega)
 rw[<-Nr,SS]at e1
 obtain⟨z5,z6,e2⟩:=uO nd (a0:=some (.val (aX n ss rises rd))) (a1:=some (.val (.tup (ps.map ax)))) (a3:=z3) (a4:=z4) (a7:=none) rd none none h2
 obtain⟨z7,e3⟩:=uP (ss:=ss) (ps:=ps) (rd:=rd) c.rsl (a2:=some (.own (.dic (cg ps)))) (a3:=z3) (a4:=z4) (a5:=z5) (a6:=z6) (aV n) none (λt ht=>cj.mp ht) λt ht=>h3 t (cj.mp ht).1 (cj.mp ht).2
 refine aE rfl ?_
 show eJ [some (.val (aX n ss rises rd)),some (.val (.tup (ps.map ax))),none,none,none,none,none,none]=_
 unfold eJ
 rw[ai (ρ':=[some (.val (aX n ss rises rd)),some (.val (.tup (ps.map ax))),none,none,none,none,none,none]) (by simp! [aX,fK,pf,pU,L4,Ti]),
  ai (ρ':=[some (.val (aX n ss rises rd)),some (.val (.tup (ps.map ax))),some (.own (.dic [])),none,none,none,none,none]) rfl]
 have q1:du (aa (bG cR (aa (ac 1) (ae))) (ae)) [some (.val (aX n ss rises rd)),some (.val (.tup (ps.map ax))),some (.own (.dic [])),none,none,none,none,none]=_:=ix (n:=ps.length) (by simp! [L4]) (by unfold lim;omega)
 rw[ai (by rw[c7 q1];exact e1)]
 have q2:bg (f2 aP (ac 0) (fC (.int 3))) [some (.val (aX n ss rises rd)),some (.val (.tup (ps.map ax))),some (.own (.dic (cg ps))),z3,z4,none,none,none]= .ok (rd.map ax):=by simp! [aX,Ks]
 rw[ai (by rw[c7 q2];exact e2)]
 have q3:lV (aa (fC (.int 1)) (aa (f2 bU (f2 aP (ac 0) (fC (.int 0))) (fC (.int 1))) (ae))) [some (.val (aX n ss rises rd)),some (.val (.tup (ps.map ax))),some (.own (.dic (cg ps))),z3,z4,z5,z6,none]= .ok ((aV n).map .int):=by
  have hb:(1:Int).natAbs<=lim/\((n:Int)+1).natAbs<=lim:=⟨by decide,by unfold lim;omega⟩
  rw[<-sT]
  simp! [lV,aX,ee,hb,and_self]
 rw[ai (by rw[c7 q3];exact e3)]
 simp! []
section
variable {n:Nat} {ss:List aI} {Te:List Int} {rd:List (Int×Int)}
def jC (n:Nat) (ss:List aI) (Te:List Int) (rd:List (Int×Int)) (a:Int->Int):Prop:=(∀p∈rd,a p.1=p.2)/\∀t:Int,1<=t->t<=n->cW a ss t=Te.getD (t - 1).toNat 0
theorem BM {a:Int->Int}:∀{g:List Int},g.Nodup->(g.map (cW a ss)).sum=br a g ss
 |[],_=>by rw[wc];rfl
 |x::g,h=>by
  obtain⟨h1,h2⟩:=LN.mp h
  have ih:=BM (a:=a) h2
  rw[sU _ h1,<-ih]
  rfl
theorem jC.sum {a:Int->Int} (f:jC n ss Te rd a) {g:List Int} (hn:g.Nodup) (hr:∀t∈g,1<=t/\t<=(n:Int)):br a g ss=rs Te g:=by
 rw[<-BM hn]
 unfold rs
 exact congrArg T6 (Mp λt ht=>f.2 t (hr t ht).1 (hr t ht).2)
theorem xv {a b:Int->Int} {g:List Int} {l:List aI} (h:∀q∈l,cK q.2.1 q.2.2 g*a q.1=cK q.2.1 q.2.2 g*b q.1):br a g l=br b g l:=by
 unfold br;rw[Mp h]
theorem jC.read (c:bJ n ss Te rd) {a:Int->Int} (f:jC n ss Te rd a) {k:Int} (h:k∈rd.map (·.1)):a k=gF rd k:=by
 obtain⟨p,hp,rfl⟩:=Lk.mp h
 rw[f.1 p hp,jj c.rnd hp]
theorem yX (c:bJ n ss Te rd) {r:aI} (hr:r∈ss) (h:r.1∉rd.map (·.1)) {g:List Int} (G:xo n ss rd r g) {a:Int->Int} (f:jC n ss Te rd a):cK r.2.1 r.2.2 g*(rs Te g - iG ss rd g)=a r.1:=by
 have hs:=f.sum G.nd G.rng
 let b:Int->Int:=λx=>if x=r.1 then a x else gF rd x
 have hb:br a g ss=br b g ss:=xv λq hq=>by
  show _=_*(if q.1=r.1 then a q.1 else gF rd q.1)
  by_cases e:q.1=r.1
  ·rw[if_pos e]
  ·rw[if_neg e]
   by_cases m:q.1∈rd.map (·.1)
   ·rw[f.read c m]
   ·rw[G.only q (Lv.mpr ⟨hq,decide_eq_true m⟩) e,P6,P6]
 have ha:=Bz (am:=gF rd) (am':=b) (g:=g) c.good.nd hr (λx hx=>if_neg hx)
 rw[show b r.1=a r.1 from if_pos rfl,E9 c.rnd h]at ha
 have hc:=kR (ss:=ss) (rd:=rd) G.nd
 have hw:cK r.2.1 r.2.2 g=1\/cK r.2.1 r.2.2 g= -1:=by
  have:=G.here
  unfold cK at this ⊢
  split at this
  ·exact absurd rfl this
  ·split
   ·simp_all
   ·split<;>simp
 rw[hc,<-hs,hb,ha]
 rcases hw with w|w<;>rw[w]<;>omega
theorem wj {k:Int} {r:aI} (h:r∈aY ss rd k):r∈ss/\r.1∉rd.map (·.1)/\r.1≠k:=by
 obtain⟨h1,h2⟩:=Lv.mp h
 obtain⟨h3,h4⟩:=Lv.mp h1
 exact⟨h3,of_decide_eq_true h4,of_decide_eq_true h2⟩
theorem jC.move (c:bJ n ss Te rd) {r:aI} (hr:r∈ss) (h:r.1∉rd.map (·.1)) {st:List (Int×Int)} {qs:List Int} (hw:Wy (aY ss rd r.1) r.2.2 [r.2.2] st r.2.1 qs) {a:Int->Int} (f:jC n ss Te rd a) (l:Int):
  jC n ss Te rd (di a ((r.1,1)::st) l)/\di a ((r.1,1)::st) l r.1=a r.1+l:=by
 have hn:∀x∈st,x.1∉rd.map (·.1)/\x.1≠r.1:=λx hx=>by
  obtain⟨q,hq,e⟩:=Lk.mp (mG hw x hx)
  have:=(wj hq).2
  rw[<-e];exact this
 have e0:di a ((r.1,1)::st) l=di (im a r.1 (1*l)) st l:=rfl
 rw[e0,Int.one_mul]
 refine⟨⟨λp hp=> ?_,λt h1 h2=> ?_⟩,?_⟩
 ·have hk:p.1∈rd.map (·.1):=LZ hp
  rw[jq λx hx (e:x.1=p.1)=>(hn x hx).1 (by rw[e];exact hk)]
  show (if p.1=r.1 then _ else _)=_
  rw[if_neg λ(e:p.1=r.1)=>h (by rw[<-e];exact hk)]
  exact f.1 p hp
 ·have q1:=uK (t:=t) (l:=l) (λx hx=>(wj hx).1) c.good.nd hw (im a r.1 l)
  have q2:=q8 (a:=a) (v:=l) (t:=t) c.good.nd hr
  have q3:=f.2 t h1 h2
  rw[q1,q2,q3]
  omega
 ·rw[jq λx hx=>(hn x hx).2]
  exact if_pos rfl
theorem jC.clear (c:bJ n ss Te rd) {B:Int->List Int} (hB:∀p:Int,0<=p/\p<=n->o5 (ay ss rd) p (B p)) {a:Int->Int} (f:jC n ss Te rd a):eL B Te ss rd (aV n)=[]:=by
 unfold eL
 rw[List.filter_eq_nil_iff]
 intro x hx
 obtain⟨g,hg,rfl⟩:=Lk.mp hx
 obtain⟨nd,n0,p,p1,p2,rfl,_⟩:=rH hB hg
 have bp:=hB p ⟨by omega,p2⟩
 have hr:∀t∈B p,1<=t/\t<=(n:Int):=λt ht=>by
  have:=il.range c.inRl ⟨by omega,p2⟩ ((bp.mem t).mp ht)
  have h0:t≠0:=λe=>n0 (e▸ht)
  omega
 have hs:=f.sum nd hr
 have:br a (B p) ss=br (gF rd) (B p) ss:=xv λq hq=>by
  by_cases m:q.1∈rd.map (·.1)
  ·rw[f.read c m]
  ·rw[lJ bp (Lv.mpr ⟨hq,decide_eq_true m⟩),P6,P6]
 have hc:=kR (ss:=ss) (rd:=rd) nd
 simp only[ne_eq,decide_not,Bool.not_eq_true',decide_eq_false_iff_not,Decidable.not_not]
 rw[hc,<-this,hs]
end
theorem rK {a:Int->Int} {t:Int}:∀{ss:List aI} {am:List Int},am.length=ss.length->(∀p∈(ss.map (·.1)).zip am,a p.1=p.2)->cW a ss t=yL ss am t
 |[],[],_,_=>rfl
 |r::ss,x::am,hl,h=>by
  have h0:a r.1=x:=h (r.1,x) (by simp)
  have ih:=rK (a:=a) (t:=t) (ss:=ss) (am:=am) (by simpa using hl) (λp hp=>h p (by rw[L3,NM];exact L7 _ hp))
  rw[eM,ih,h0]
  rfl
 |[],_::_,hl,_=>by simp at hl
 |_::_,[],hl,_=>by simp at hl
theorem yY (ns:List Int):∃(n:Nat) (ss:List aI) (rs:List Int) (rd ps:List (Int×Int)),fz [.scr ns]= .ok (.lst [aX n ss rs rd, .tup (ps.map ax)])/\bJ n ss rs rd/\ps.map (·.1)=ss.map (·.1)/\jC n ss rs rd (gF ps):=by
 obtain⟨n,hn⟩:=Ow (Nj (cl ns 1) (show (8:Int)≠0 by decide))
 have a3E:=MV (cl ns 1) (show (0:Int)<8 by decide)
 obtain⟨m0,a36⟩:=Ow (Nj (cl ns 2) (show (13:Int)≠0 by decide))
 have a37:=MV (cl ns 2) (show (0:Int)<13 by decide)
 have Xy:n<=7:=by omega
 obtain⟨many,Vq,a09,h0⟩:∃many:Nat,many=(if (n:Int)>0 then m0 else 0)/\many<=12/\(0<n\/many=0):=⟨_,rfl,by split<;>omega,by split<;>omega⟩
 obtain⟨ss,e1,l1,g⟩:=sP ns n many Xy a09 h0
 have W4:ss.length<=1000:=by omega
 obtain⟨mm,e2,s2,t2⟩:=sQ ns ss W4 (cl ns 3%5)
 have a02:cl ns 4%2=0\/cl ns 4%2=1:=by omega
 obtain⟨am,Um,e3,fl⟩:=w5 (ns:=ns) (mm:=mm) g Xy W4 a02
 obtain⟨ps,Xm⟩:∃ps,ps=(ss.map (·.1)).zip am:=⟨_,rfl⟩
 have hp:ps.map (·.1)=ss.map (·.1):=by rw[Xm,List.map_fst_zip (by simp[fl.len])]
 have nd:(ps.map (·.1)).Nodup:=by rw[hp];exact g.nd
 have TC:ps.length<=12:=by have:=congrArg Nt hp;simp only[L4]at this;omega
 obtain⟨rd,WK⟩:∃rd,rd=ps.filter λp=>decide (p.1∈mm):=⟨_,rfl⟩
 have f4:rd.map (·.1)=mm:=by
  rw[WK,show (ps.filter λp=>decide (p.1∈mm)).map (·.1)=(ps.map (·.1)).filter (λx=>decide (x∈mm))from by rw[List.filter_map];rfl,hp,lI g.nd s2]
 have YO:rd.length<=10:=by have:=congrArg Nt f4;simp only[L4]at this;omega
 rw[<-Xm]at e3
 refine⟨n,ss,Um,rd,ps,?_,⟨Xy,g,by omega,fl.levs,by rw[f4];exact s2,YO⟩,hp,λp WW=>jj nd (Lv.mp (WK▸WW)).1,λt h1 h2=> ?_⟩
 ·let A:Option Slot:=some (.val (.scr ns))
  let N:Option Slot:=some (.val (.int (n:Int)))
  let K:Option Slot:=some (.val (.int (many:Int)))
  let S:Option Slot:=some (.val (.int (cl ns 4%2)))
  let T:Option Slot:=some (.val (.lst (ss.map ak)))
  let M:Option Slot:=some (.val (.lst (mm.map .int)))
  let Y:Option Slot:=some (.val (.lst [.tup (ps.map ax), .tup (Um.map .int)]))
  refine aE rfl ?_
  show fw [A,none,none,none,none,none,none,none]=_
  unfold fw
  rw[ai (ρ':=[A,N,none,none,none,none,none,none]) (dA (dj (a:= .int (cl ns 1)) (b:= .int 8) (aQ (n:=2) (ah rfl (ah rfl rfl)) rfl (IW ns)) rfl (by rw[bv (by decide),hn])) rfl),
   ai (ρ':=[A,N,some (.val (.int 0)),none,none,none,none,none]) rfl]
  have e0:bT (fT (f2 qm (ac 1) (fC (.int 0)))) (aJ (f2 fJ (al aF 2 (aa (ag 0) (aa (fC (.int 2)) (ae)))) (fC (.int 13))) (gN 2)) (az) [A,N,some (.val (.int 0)),none,none,none,none,none]= .ok (.nx [A,N,K,none,none,none,none,none]):=by
   have tt:fT (f2 qm (ac 1) (fC (.int 0))) [A,N,some (.val (.int 0)),none,none,none,none,none]= .ok (decide ((0:Int)<(n:Int))):=rfl
   by_cases hp:(n:Int)>0
   ·rw[if_pos hp]at Vq
    subst Vq
    rw[DR (by rw[tt,decide_eq_true hp])]
    exact dA (dj (a:= .int (cl ns 2)) (b:= .int 13) (aQ (n:=2) (ah rfl (ah rfl rfl)) rfl (IX ns)) rfl (by rw[bv (by decide),a36])) rfl
   ·rw[if_neg hp]at Vq
    subst Vq
    rw[sZ (by rw[tt,decide_eq_false hp])]
    rfl
  rw[ai e0,
   ai (ρ':=[A,N,K,S,none,none,none,none]) (dA (dj (a:= .int (cl ns 4)) (b:= .int 2) (aQ (n:=2) (ah rfl (ah rfl rfl)) rfl (cP ns 4)) rfl (bv (by decide))) rfl),
   ai (ρ':=[A,N,K,S,T,none,none,none]) (dA (aQ (n:=3) (ah rfl (ah rfl (ah rfl rfl))) rfl e1) rfl),
   ai (ρ':=[A,N,K,S,T,M,none,none]) (dA (aQ (n:=3) (ah rfl (ah rfl (ah (dj (a:= .int (cl ns 3)) (b:= .int 5) (aQ (n:=2) (ah rfl (ah rfl rfl)) rfl (IY ns)) rfl (bv (by decide))) rfl))) rfl e2) rfl),
   ai (ρ':=[A,N,K,S,T,M,Y,none]) (dA (aQ (n:=5) (ah rfl (ah rfl (ah rfl (ah rfl (ah rfl rfl))))) rfl e3) rfl),
   ai (own_of (i:=7) (dw (ds:=ps.map ax) rfl (by simp only[L4];unfold lim;omega) (τ:=[none,none,some (.val (.lst (mm.map .int)))]) rfl (ji (e:=ax) (p:=λq:Int×Int=>decide (q.1∈mm)) ps (λq _=>by simp! [ax,ee,wM]) (λq _ _=>rfl) none)))]
  rw[<-WK]
  have h4:(4:Nat)<=lim:=by decide
  have h2:(2:Nat)<=lim:=by decide
  exact dQ (by
   unfold lU
   rw[ah (d:=aX n ss Um rd) (by
    unfold b9
    rw[ah (d:= .int (n:Int)) rfl (ah (d:= .tup (ss.map ak)) rfl (ah (d:= .tup (Um.map .int)) rfl (ah (d:= .tup (rd.map ax)) rfl rfl))),aj]
    exact if_pos h4) (ah (d:= .tup (ps.map ax)) rfl rfl),aj]
   exact if_pos h2)
 ·rw[fl.net (t - 1).toNat (by omega),show (((t - 1).toNat:Nat):Int)+1=t by omega]
  exact rK fl.len λp hp=>jj nd (by rw[Xm];exact hp)
theorem Kb {gt:af->R Bool} {gb:af->R aW} {k:Nat} {ρ:af} (h:gt ρ= .ok false):bP gt gb (k+1) ρ= .ok (.nx ρ):=by
 unfold bP
 rw[h];rfl
theorem BO (n:Nat):Wf (n+1) (.tup []):= .tup (by simp) λd hd=>by cases hd
section
variable {n:Nat} {ss:List aI} {Te:List Int} {rd:List (Int×Int)} {a:Int->Int}
theorem GX {ps:List (Int×Int)} (h:ps.map (·.1)=ss.map (·.1)) (nd:(ss.map (·.1)).Nodup):ps=io ss (gF ps):=by
 have a38:(ps.map (·.1)).Nodup:=by rw[h];exact nd
 have e:∀(l:List (Int×Int)),(∀p∈l,p∈ps)->l=(l.map (·.1)).map λk=>(k,gF ps k):=λl=>by
  induction l with
  |nil=>exact λ_=>rfl
  |cons p l ih=>
   intro hl
   rw[L3,L3,<-ih λq hq=>hl q (L7 _ hq),jj a38 (hl p L8)]
 have:=e ps λp hp=>hp
 rw[h,LY]at this
 exact this
theorem sX:(io ss a).map (·.1)=ss.map (·.1):=by unfold io;rw[LY];rfl
theorem Ee (nd:(ss.map (·.1)).Nodup) {r:aI} (hr:r∈ss):gF (io ss a) r.1=a r.1:=jj (p:=(r.1,a r.1)) (by rw[sX];exact nd) (Lk.mpr ⟨r,hr,rfl⟩)
theorem qb (nd:(ss.map (·.1)).Nodup):dk [.tup ((io ss a).map ax)]=some (.dic (bC ss a)):=by
 have d:=gA (pd:= .tup ((io ss a).map uA)) (ps:=io ss a) (.inr rfl)
 rw[gR (by rw[sX];exact nd),show cg (io ss a)=bC ss a by unfold cg io bC;rw[LY];rfl]at d
 exact d
theorem jC.good (c:bJ n ss Te rd) (f:jC n ss Te rd a):bz [aX n ss Te rd, .tup ((io ss a).map ax)]= .ok (.bl true):=by
 refine jz c sX (λp hp=> ?_) λt h1 h2=> ?_
 ·obtain⟨r,hr,e⟩:=Lk.mp (c.sub.subset (LZ hp))
  exact Lk.mpr ⟨r,hr,by rw[e,f.1 p hp]⟩
 ·rw[jr λr hr=>Ee c.good.nd hr]
  exact f.2 t h1 h2
theorem yZ (c:bJ n ss Te rd) (f:jC n ss Te rd a):cF [av n ss Te rd]= .ok (.tup []):=by
 have gi:yQ n ss:=xf c.good
 have a12:=c.len
 obtain⟨B,hB⟩:=nG gi c.n7 (by omega)
 have hb:=fP (sd:= .tup (ss.map ak)) (.inr rfl) (by omega) gi c.n7 hB
 rw[kE]at hb
 have Vd:∀(gs:List (List Int)) (x:Option Slot),(∀g∈gs,∃p:Int,(0<=p/\p<=n)/\g=B p)->∃y,aU (gN 1) bI (gs.map bD) [some (.val (av n ss Te rd)),x]= .ok (.nx [some (.val (av n ss Te rd)),y]):=λgs=>by
  induction gs with
  |nil=>exact λx _=>⟨x,rfl⟩
  |cons g gs ih=>
   intro x hg
   obtain⟨y,e⟩:=ih (some (.val (bD g))) λq hq=>hg q (L7 _ hq)
   obtain⟨p,hp,rfl⟩:=hg g L8
   refine⟨y,?_⟩
   have bp:=hB p hp
   have Tr:bI [some (.val (av n ss Te rd)),some (.val (bD (B p)))]= .ok (.nx [some (.val (av n ss Te rd)),some (.val (bD (B p)))]):=by
    unfold bI
    by_cases h0:(0:Int)∈B p
    ·refine(sZ ?_).trans rfl
     unfold tL
     rw[show fT (f2 (bV true) (fC (.int 0)) (ac 1)) [some (.val (av n ss Te rd)),some (.val (bD (B p)))]= .ok (!decide ((0:Int)∈B p)) by unfold bD;simp! [iw],decide_eq_true h0]
     rfl
    ·have hr:∀t∈B p,1<=t/\t<=(n:Int):=λt ht=>by
      have:=il.range gi hp ((bp.mem t).mp ht)
      have h1:t≠0:=λe=>h0 (e▸ht)
      omega
     have hz:rs Te (B p)=0:=by
      rw[<-f.sum bp.nd hr]
      unfold br
      rw[Mp λq hq=>by rw[lJ bp hq,P6]]
      exact q9 (f:=λ_:aI=>(0:Int)) λ_ _=>rfl
     have hm:=kQ (rd:= .tup (Te.map .int)) (gd:= .tup ((B p).map .int)) (.inr rfl) (.inr rfl) (λt ht=>⟨(hr t ht).1,by rw[c.rsl];exact(hr t ht).2⟩) (by have:=bp.len gi c.n7 hp;omega)
     rw[hz]at hm
     refine(sZ ?_).trans rfl
     unfold tL
     rw[show fT (f2 (bV true) (fC (.int 0)) (ac 1)) [some (.val (av n ss Te rd)),some (.val (bD (B p)))]= .ok (!decide ((0:Int)∈B p)) by unfold bD;simp! [iw],decide_eq_false h0]
     have e2:fT (f2 mW (al d9 2 (aa (bw "Day" "rises" (ac 0)) (aa (ag 1) (ae)))) (fC (.int 0))) [some (.val (av n ss Te rd)),some (.val (bD (B p)))]= .ok false:=by
      unfold fT
      rw[dj (a:= .int 0) (b:= .int 0) (aQ (n:=2) (ah (ik rfl DT) (ah rfl rfl)) rfl hm) rfl rfl]
      rfl
     exact e2
   rw[L3,b8 rfl Tr,e]
 obtain⟨y,el⟩:=Vd (b7 B (0::aV n)) none λg hg=>by
  obtain⟨p,hp,rfl⟩:=Lk.mp hg
  have Xo:0<=p/\p<=(n:Int):=by
   rcases Le.mp (Lv.mp hp).1 with y|y
   ·omega
   ·have:=cj.mp y;omega
  exact⟨p,Xo,rfl⟩
 refine aE rfl ?_
 show cE [some (.val (av n ss Te rd)),none]=_
 unfold cE
 rw[ai ((c7 (by
  unfold bg
  rw[aQ (n:=2) (ah (ik rfl DS) (ah (ik rfl w6) rfl)) rfl hb]
  rfl)).trans el)]
 rfl
theorem uQ (c:bJ n ss Te rd) (f:jC n ss Te rd a) (hc:ca [av n ss Te rd]= .ok (.tup [])):ka [av n ss Te rd]= .ok (.tup [.tup [], .tup []]):=by
 have ZQ:=c.ten
 let Y:Option Slot:=some (.val (av n ss Te rd))
 let M:D:= .lst (rd.map λp=> .int p.1)
 have hf:dS [av n ss Te rd,M, .int 0]= .ok (.tup []):=by
  refine aE rfl ?_
  show gm [Y,some (.val M),some (.val (.int 0)),none,none,none]=_
  unfold gm
  rw[ai (ρ':=[Y,some (.val M),some (.val (.int 0)),none,none,none]) ((sZ (by
   unfold fT
   rw[dj (a:= .int 0) (b:= .int 0) (eE (ah (aQ (n:=1) (ah rfl rfl) rfl hc) rfl) rfl) rfl rfl]
   rfl)).trans rfl)]
  exact dP ((DR rfl).trans rfl)
 refine aE rfl ?_
 show j_ [Y,none,none,none,none]=_
 unfold j_
 rw[ai (ρ':=[Y,some (.val (.tup [])),none,none,none]) (dA (aQ (n:=1) (ah rfl rfl) rfl (yZ c f)) rfl),
  ai (ρ':=[Y,some (.val (.tup [])),none,none,none]) rfl,
  ai (own_of (i:=2) (dw (ds:=rd.map ax) (τ:=[none,none]) (by
   unfold bg
   rw[ik (fa:=ac 0) rfl w8]
   rfl) (by simp only[L4];unfold lim;omega) rfl (ji (e:=λp:Int×Int=>D.int p.1) (p:=λ_=>true) rd (λ_ _=>rfl) (λ_ _ _=>rfl) none)))]
 rw[Pa.mpr λ_ _=>rfl]
 rw[ai (ρ':=[Y,some (.val (.tup [])),some (.own M),some (.val (.int 0)),none]) rfl,
  ai (ρ':=[Y,some (.val (.tup [])),some (.val M),some (.val (.int 0)),some (.val (.tup []))]) (by
   unfold mV
   exact dA (aQ (n:=3) (ah rfl (ah rfl (ah rfl rfl))) rfl hf) rfl),
  ai (Kb rfl)]
 rfl
end
section
variable {n:Nat} {ss:List aI} {Te:List Int} {rd:List (Int×Int)} {a:Int->Int}
theorem qc {a0 a1:Option Slot} {l:Int} (hs:ss.length<=100):∀(st:List (Int×Int)) (a:Int->Int) (x4 x5:Option Slot),(∀x∈st,x.1∈ss.map (·.1)/\x.2.natAbs<18446744073709551616)->
  ∃y4 y5,aU (dc 2 (aH (gN 4) (aH (gN 5) (cS)))) fO (st.map dE) [a0,a1,some (.val (.int l)),some (.own (.dic (bC ss a))),x4,x5]
   = .ok (.nx [a0,a1,some (.val (.int l)),some (.own (.dic (bC ss (di a st l)))),y4,y5])
 |[],a,x4,x5,_=>⟨x4,x5,rfl⟩
 |x::st,a,x4,x5,h=>by
  obtain⟨h1,h2⟩:=h x L8
  have hg:=iH (a:=a) h1
  have hp:=q0 (a:=a) (v:=a x.1+l*x.2) h1
  have hl:(bC ss a).length<lim:=by unfold bC;rw[L4];unfold lim;omega
  have hf:(λy=>if y=x.1 then a x.1+l*x.2 else a y)=im a x.1 (x.2*l):=by
   funext y
   unfold im
   by_cases e:y=x.1
   ·rw[if_pos e,if_pos e,e,Int.mul_comm]
   ·rw[if_neg e,if_neg e]
  rw[hf]at hp
  obtain⟨y4,y5,e⟩:=qc (a0:=a0) (a1:=a1) (l:=l) hs st (im a x.1 (x.2*l)) (some (.val (.int x.1))) (some (.val (.int x.2))) λy hy=>h y (L7 _ hy)
  refine⟨y4,y5,?_⟩
  have hb:fO [a0,a1,some (.val (.int l)),some (.own (.dic (bC ss a))),some (.val (.int x.1)),some (.val (.int x.2))]= .ok (.nx [a0,a1,some (.val (.int l)),some (.own (.dic (bC ss (im a x.1 (x.2*l))))),some (.val (.int x.1)),some (.val (.int x.2))]):=by
   simp! [fO,kX,bN,mH,hg,vD h2,hl,hp]
  rw[L3,b8 rfl hb,e]
  rfl
theorem qd {a0:Option Slot} (b:Int->Int):∀(l:List aI) (x y:Option Slot),(∀r∈l,r∈ss)->de (dc 2 (aH (gN 1) (aH (gN 2) (cS)))) iO (b9 (aa (ag 1) (aa (f2 aP (ac 3) (ac 1)) (ae)))) ((io l a).map ax) [a0,x,y,some (.bor (.dic (bC ss b)))]= .ok ((io l b).map ax)
 |[],_,_,_=>rfl
 |r::l,x,y,h=>by
  have ih:=qd (a0:=a0) b l (some (.val (.int r.1))) (some (.val (.int (a r.1)))) λq hq=>h q (L7 _ hq)
  have hg:=iH (ss:=ss) (a:=b) (LZ (f:=(·.1)) (h r L8))
  have l2:(2:Nat)<=lim:=by decide
  show de _ _ _ (ax (r.1,a r.1)::(io l a).map ax) _= .ok (ax (r.1,b r.1)::(io l b).map ax)
  rw[nF (y:=ax (r.1,b r.1)) (τ1:=[a0,some (.val (.int r.1)),some (.val (.int (a r.1))),some (.bor (.dic (bC ss b)))]) rfl rfl (by simp! [mH,hg,l2,ax]),ih]
  rfl
theorem wk (c:bJ n ss Te rd) {sts:List (Int×Int)} {l:Int} (h:∀x∈sts,x.1∈ss.map (·.1)/\x.2.natAbs<18446744073709551616):f7 [.tup ((io ss a).map ax), .tup (sts.map dE), .int l]= .ok (.tup ((io ss (di a sts l)).map ax)):=by
 have a12:=c.len
 let P:Option Slot:=some (.val (.tup ((io ss a).map ax)))
 let S:Option Slot:=some (.val (.tup (sts.map dE)))
 obtain⟨y4,y5,e⟩:=qc (a0:=P) (a1:=S) (l:=l) (ss:=ss) (by omega) sts a none none h
 refine aE rfl ?_
 show kq [P,S,some (.val (.int l)),none,none,none]=_
 unfold kq
 rw[ai (ρ':=[P,S,some (.val (.int l)),some (.own (.dic (bC ss a))),none,none]) (by
  unfold mf
  rw[eE (ah (fs:=ae) (f:=ac 0) rfl rfl) (qb c.good.nd),aj]
  rfl),ai ((c7 (ds:=sts.map dE) rfl).trans e)]
 exact dQ (eE (ah (vI (dw (ds:=(io ss a).map ax) rfl (by unfold io;simp only[L4];unfold lim;omega) (τ:=[none,none,none,some (.bor (.dic (bC ss (di a sts l))))]) rfl (qd _ ss none none λ_ hr=>hr))) rfl) rfl)
end
theorem lh {f:af->R D} {ρ:af} {b:Bool} (h:f ρ= .ok (.bl b)):bF f ρ= .ok b:=by unfold bF;rw[h];rfl
theorem o7 {g:af->R Bool} {ρ:af} (h:g ρ= .ok true):cI g ρ= .ok false:=by unfold cI;rw[h];rfl
theorem wl {g g':af->R Bool} {ρ:af} (h:g ρ= .ok false) (h2:g' ρ= .ok false):kZ g g' ρ= .ok false:=by unfold kZ;rw[h,aj];exact h2
section
variable {n:Nat} {ss:List aI} {Te:List Int} {rd:List (Int×Int)} {a:Int->Int} {A:Option Slot} {l:Int}
abbrev nH (n:Nat) (ss:List aI) (Te:List Int) (rd:List (Int×Int)) (a:Int->Int) (A:Option Slot) (l:Int) (x6 x7 x8:Option Slot):af:=[A,some (.val (.lst [aX n ss Te rd, .tup ((io ss a).map ax)])),some (.val (aX n ss Te rd)),some (.val (.dic (bC ss a))),some (.val (av n ss Te rd)),some (.val (.int l)),x6,x7,x8]
theorem uR {r:aI} (hr:r∈ss) {x7 x8:Option Slot}:f2 aP (ac 3) (f2 aP (ac 6) (fC (.int 0))) (nH n ss Te rd a A l (some (.val (ak r))) x7 x8)= .ok (.int (a r.1)):=
 dj (a:= .dic (bC ss a)) (b:= .int r.1) rfl rfl (by rw[mH];exact iH (LZ (f:=(·.1)) hr))
theorem rL {r:aI} (hr:r∈ss) {w:L0} (hw:w="metered"\/w="known") {g:D} {x8:Option Slot}:
  bT (fT (f2 lX (f2 aP (ac 7) (fC (.int 0))) (fC (.str "open"))))
  (ao (bT (kZ (cI (bF (al dq 3 (aa (ag 2) (aa (ag 6) (aa (f2 aP (ac 7) (fC (.int 3))) (ae))))))) (fT (f2 iQ (f2 aP (ac 7) (fC (.int 1))) (fC .non))))
  (aG (fC (.bl false)))
  (az))
  (ao (aJ (al f7 3 (aa (f2 aP (ac 1) (fC (.int 1))) (aa (f2 aP (ac 7) (fC (.int 3))) (aa (ag 5) (ae))))) (gN 8))
  (bT (kZ (cI (bF (al bz 2 (aa (ag 2) (aa (ag 8) (ae)))))) (fT (f2 mW (f2 aP (bG dk (aa (ac 8) (ae))) (f2 aP (ac 6) (fC (.int 0)))) (f2 bU (f2 aP (ac 3) (f2 aP (ac 6) (fC (.int 0)))) (ac 5)))))
  (aG (fC (.bl false)))
  (az))))
  (bT (kZ (fT (f2 (bV true) (f2 aP (ac 7) (fC (.int 0))) (b9 (aa (fC (.str "known")) (aa (fC (.str "metered")) (ae)))))) (cI (bF (al bY 2 (aa (f2 aP (ac 7) (fC (.int 1))) (aa (f2 aP (ac 3) (f2 aP (ac 6) (fC (.int 0)))) (ae)))))))
  (aG (fC (.bl false)))
  (az)) (nH n ss Te rd a A l (some (.val (ak r))) (some (.val (.tup [.str w, .int (a r.1),g, .tup []]))) x8)= .ok (.nx (nH n ss Te rd a A l (some (.val (ak r))) (some (.val (.tup [.str w, .int (a r.1),g, .tup []]))) x8)):=by
 refine(sZ (by rcases hw with rfl|rfl<;>rfl)).trans ?_
 refine(sZ (wl (by rcases hw with rfl|rfl<;>rfl) (o7 (lh (aQ (n:=2) (ah (d:= .int (a r.1)) rfl (ah (uR hr) rfl)) rfl (rq _)))))).trans rfl
theorem BP (c:bJ n ss Te rd) (f:jC n ss Te rd a) {r:aI} (hr:r∈ss) (h:r.1∉rd.map (·.1)) {st:List (Int×Int)} {qs:List Int} (hw:Wy (aY ss rd r.1) r.2.2 [r.2.2] st r.2.1 qs) (Tz:st.length<=7) {x8:Option Slot}:
  ∃y8,ao (bT (kZ (cI (bF (al dq 3 (aa (ag 2) (aa (ag 6) (aa (f2 aP (ac 7) (fC (.int 3))) (ae))))))) (fT (f2 iQ (f2 aP (ac 7) (fC (.int 1))) (fC .non))))
  (aG (fC (.bl false)))
  (az))
  (ao (aJ (al f7 3 (aa (f2 aP (ac 1) (fC (.int 1))) (aa (f2 aP (ac 7) (fC (.int 3))) (aa (ag 5) (ae))))) (gN 8))
  (bT (kZ (cI (bF (al bz 2 (aa (ag 2) (aa (ag 8) (ae)))))) (fT (f2 mW (f2 aP (bG dk (aa (ac 8) (ae))) (f2 aP (ac 6) (fC (.int 0)))) (f2 bU (f2 aP (ac 3) (f2 aP (ac 6) (fC (.int 0)))) (ac 5)))))
  (aG (fC (.bl false)))
  (az))) (nH n ss Te rd a A l (some (.val (ak r))) (some (.val (.tup [.str "open", .non, .tup [], .tup (((r.1,1)::st).map dE)]))) x8)= .ok (.nx (nH n ss Te rd a A l (some (.val (ak r))) (some (.val (.tup [.str "open", .non, .tup [], .tup (((r.1,1)::st).map dE)]))) y8)):=by
 obtain⟨f1,a39⟩:=f.move c hr h hw l
 let F:Option Slot:=some (.val (.tup [.str "open", .non, .tup [], .tup (((r.1,1)::st).map dE)]))
 let Y:Option Slot:=some (.val (.tup ((io ss (di a ((r.1,1)::st) l)).map ax)))
 have e3:∀x8,f2 aP (ac 7) (fC (.int 3)) (nH n ss Te rd a A l (some (.val (ak r))) F x8)= .ok (.tup (((r.1,1)::st).map dE)):=λx8=>dj (a:= .tup [.str "open", .non, .tup [], .tup (((r.1,1)::st).map dE)]) (b:= .int 3) rfl rfl Ks
 have hm:=wk (a:=a) c (sts:=(r.1,1)::st) (l:=l) λx hx=>by
  rcases Le.mp hx with rfl|hx
  ·exact⟨LZ (f:=(·.1)) hr,by show (1:Int).natAbs<_;decide⟩
  ·obtain⟨q,hq,e⟩:=Lk.mp (mG hw x hx)
   exact⟨by rw[<-e];exact LZ (f:=(·.1)) (wj hq).1,BC hw x hx⟩
 refine⟨Y,?_⟩
 rw[ai ((sZ (wl (o7 (lh (aQ (n:=3) (ah rfl (ah rfl (ah (e3 _) rfl))) rfl (uJ c hr hw Tz)))) rfl)).trans rfl),
  ai (ρ':=nH n ss Te rd a A l (some (.val (ak r))) F Y) (dA (aQ (n:=3) (ah (d:= .tup ((io ss a).map ax)) rfl (ah (e3 _) (ah rfl rfl))) rfl hm) rfl)]
 refine(sZ (wl (o7 (lh (aQ (n:=2) (ah rfl (ah rfl rfl)) rfl (f1.good c)))) ?_)).trans rfl
 unfold fT
 rw[dj (a:= .int (a r.1+l)) (b:= .int (a r.1+l)) (dj (a:= .dic (bC ss (di a ((r.1,1)::st) l))) (b:= .int r.1) (eE (ah rfl rfl) (qb c.good.nd)) rfl (by rw[mH,iH (LZ (f:=(·.1)) hr),a39])) (dj (uR hr) (b:= .int l) rfl vE) wK,aj,decide_eq_true rfl]
 rfl
theorem BQ (c:bJ n ss Te rd) (f:jC n ss Te rd a) {B:Int->List Int} (hB:∀p:Int,0<=p/\p<=n->o5 (ay ss rd) p (B p)) {r:aI} (hr:r∈ss) {x7 x8:Option Slot}:
  ∃y7 y8,nu (nH n ss Te rd a A l (some (.val (ak r))) x7 x8)= .ok (.nx (nH n ss Te rd a A l (some (.val (ak r))) y7 y8)):=by
 have ec:∀z,dJ [av n ss Te rd, .int r.1]= .ok z->aJ (al dJ 2 (aa (ag 4) (aa (f2 aP (ac 6) (fC (.int 0))) (ae)))) (gN 7) (nH n ss Te rd a A l (some (.val (ak r))) x7 x8)= .ok (.nx (nH n ss Te rd a A l (some (.val (ak r))) (some (.val z)) x8)):=λz hz=>dA (aQ (n:=2) (ah rfl (ah (d:= .int r.1) rfl rfl)) rfl hz) rfl
 rcases Eb c hB (f.clear c hB) hr with ⟨p,hp,YR,e⟩|⟨h1,h2,g,G,e⟩|⟨h1,h2,st,qs,hw,Tz,e⟩
 ·rw[<-f.1 p hp,YR]at e
  refine⟨some (.val (.tup [.str "metered", .int (a r.1), .tup [], .tup []])),x8,?_⟩
  unfold nu
  rw[ai (ec _ e),ai ((sZ (wl (o7 rfl) rfl)).trans rfl)]
  exact rL hr (.inl rfl)
 ·rw[yX c hr h1 G f]at e
  refine⟨some (.val (.tup [.str "known", .int (a r.1),bD g, .tup []])),x8,?_⟩
  unfold nu
  rw[ai (ec _ e),ai ((sZ (wl (o7 rfl) rfl)).trans rfl)]
  exact rL hr (.inr rfl)
 ·obtain⟨y8,eo⟩:=BP (A:=A) (l:=l) c f hr h1 hw Tz (x8:=x8)
  refine⟨some (.val (.tup [.str "open", .non, .tup [], .tup (((r.1,1)::st).map dE)])),y8,?_⟩
  unfold nu
  rw[ai (ec _ e),ai ((sZ (wl (o7 rfl) rfl)).trans rfl)]
  exact(DR rfl).trans eo
end
theorem GY:Dd (.int 10) (.int 40)=some (.int (10 ^(40:Int).toNat)):=by
 show (if tP 10 40 then some (D.int (10 ^(40:Int).toNat))else none)=_
 exact if_pos (by unfold tP;decide)
theorem main (ns:List Int) (_:ns.length<=63):r9 [.scr ns]= .ok (.bl true):=by
 obtain⟨n,ss,Te,rd,ps,ec,c,hp,f0⟩:=yY ns
 obtain⟨a,pe,f⟩:∃a,ps=io ss a/\jC n ss Te rd a:=⟨gF ps,GX hp c.good.nd,f0⟩
 clear f0
 subst pe
 obtain⟨B,hB⟩:=nG c.inRl c.n7 (by have:=c.lol;omega)
 have nc:=f.clear c hB
 have W_:=jp c hB
 rw[nc]at W_
 have W_:ca [av n ss Te rd]= .ok (.tup []):=W_
 have hd:=Bg ns c
 obtain⟨qs,es,h1,h2,h3⟩:=wg c hB nc
 have hs:=jz c h1 h2 h3
 let A:Option Slot:=some (.val (.scr ns))
 let T:Option Slot:=some (.val (.lst [aX n ss Te rd, .tup ((io ss a).map ax)]))
 let C:Option Slot:=some (.val (aX n ss Te rd))
 let E:Option Slot:=some (.val (.dic (bC ss a)))
 let Y:Option Slot:=some (.val (av n ss Te rd))
 refine aE rfl ?_
 show B0 [A,none,none,none,none,none,none,none,none]=_
 unfold B0
 rw[ai (ρ':=[A,T,none,none,none,none,none,none,none]) (dA (aQ (n:=1) (ah rfl rfl) rfl ec) rfl),
  ai (ρ':=[A,T,C,none,none,none,none,none,none]) rfl,
  ai (ρ':=[A,T,C,E,none,none,none,none,none]) (dA (eE (ah (d:= .tup ((io ss a).map ax)) rfl rfl) (qb c.good.nd)) rfl),
  ai (ρ':=[A,T,C,E,Y,none,none,none,none]) (dA (aQ (n:=2) (ah rfl (ah rfl rfl)) rfl hd) rfl)]
 rw[ai (ρ':=[A,T,C,E,Y,some (.val (.int (cl ns 49%10 ^(40:Int).toNat+1))),none,none,none]) (dA (dj (a:= .int (cl ns 49%10 ^(40:Int).toNat)) (b:= .int 1) (dj (a:= .int (cl ns 49)) (b:= .int (10 ^(40:Int).toNat)) (aQ (n:=2) (ah rfl (ah rfl rfl)) rfl (cP ns 49)) (dj (a:= .int 10) (b:= .int 40) rfl rfl GY) (bv (Int.pow_pos (by decide)))) rfl vE) rfl)]
 obtain⟨l,e6⟩:∃l:Int,bT (fT (f2 lX (f2 fJ (al aF 2 (aa (ag 0) (aa (fC (.int 50)) (ae)))) (fC (.int 2))) (fC (.int 1)))) (aJ (f1 jS (ac 5)) (gN 5)) (az) [A,T,C,E,Y,some (.val (.int (cl ns 49%10 ^(40:Int).toNat+1))),none,none,none]= .ok (.nx [A,T,C,E,Y,some (.val (.int l)),none,none,none]):=by
  have tt:fT (f2 lX (f2 fJ (al aF 2 (aa (ag 0) (aa (fC (.int 50)) (ae)))) (fC (.int 2))) (fC (.int 1))) [A,T,C,E,Y,some (.val (.int (cl ns 49%10 ^(40:Int).toNat+1))),none,none,none]= .ok (decide (cl ns 50%2=1)):=by
   unfold fT
   rw[dj (a:= .int (cl ns 50%2)) (b:= .int 1) (dj (a:= .int (cl ns 50)) (b:= .int 2) (aQ (n:=2) (ah rfl (ah rfl rfl)) rfl (cP ns 50)) rfl (bv (by decide))) rfl wJ,aj]
  by_cases z:cl ns 50%2=1
  ·exact⟨-(cl ns 49%10 ^(40:Int).toNat+1),(DR (by rw[tt,decide_eq_true z])).trans rfl⟩
  ·exact⟨_,(sZ (by rw[tt,decide_eq_false z])).trans rfl⟩
 rw[ai e6]
 rw[ai (ρ':=nH n ss Te rd a A l none none none) ((sZ (wl (o7 (lh (aQ (n:=2) (ah (aQ (n:=1) (ah rfl rfl) rfl W_) (ah (d:= .tup []) rfl rfl)) rfl (mD (n:=1) (by omega) (BO 0))))) (o7 (lh (aQ (n:=2) (ah (aQ (n:=1) (ah rfl rfl) rfl (uQ c f W_)) (ah (d:= .tup [.tup [], .tup []]) rfl rfl)) rfl (mD (n:=2) (by omega) (.tup (by simp) λd hd=>by
  have:d= .tup []:=by simpa using hd
  rw[this];exact BO 0))))))).trans rfl)]
 obtain⟨ρ',el,y6,y7,y8,rfl⟩:=uz (g:=gN 6) (gb:=nu) (P:=λρ=>∃y6 y7 y8,ρ=nH n ss Te rd a A l y6 y7 y8) (ss.map ak) (λd hd ρ hρ=>by
  obtain⟨r,hr,rfl⟩:=Lk.mp hd
  obtain⟨y6,y7,y8,rfl⟩:=hρ
  obtain⟨z7,z8,e⟩:=BQ (A:=A) (l:=l) c f hB hr (x7:=y7) (x8:=y8)
  exact⟨_,_,rfl,e,_,_,_,rfl⟩) _ ⟨none,none,none,rfl⟩
 rw[ai ((c7 (ds:=ss.map ak) (by
  unfold bg
  rw[dj (a:=aX n ss Te rd) (b:= .int 1) (d:= .tup (ss.map ak)) rfl rfl (by unfold aX;exact rfl),aj])).trans el)]
 exact dQ (aQ (n:=2) (ah rfl (ah (aQ (n:=1) (ah rfl rfl) rfl es) rfl)) rfl hs)
end My
end
inductive PySem.W.Fast
|tw10076893308931593203|tw10132450516450837422|tw10423675834424877097|tw10471040400368781356|tw10678708566940120304|tw10724838148494348576|tw10909139297661601939|tw10964710426931461364|tw11035700173712230008|tw11148796612553928618|tw1132832359346759184|tw1134723063424235033|tw11377476682477366041|tw11965465497588297888|tw12090907948224860041|tw12163168979944381791|tw12208392207245913149|tw12225080313826043508|tw12261529291572803856|tw12845045223551231995|tw12859596527067700871|tw13016789362439224785|tw13075391488162213125|tw13482706349571627007|tw13565358912472889067|tw13578936664550660943|tw13805182013122735990|tw13951647680574067187|tw14022885641688495657|tw141699521707411502|tw14594268578272212078|tw14694811934181885315|tw1474764038954120256|tw14809405559372688748|tw14824756033647404488|tw1494911751199278044|tw14975770549424227057|tw1503186675727842880|tw15096577737663801568|tw15150857641683580718|tw15866798043109777297|tw15875626471894159509|tw16033888560429011425|tw16158651055659765556|tw16241213884128719086|tw16854823971654886260|tw16879946518760434772|tw17147777714514809518|tw17194272462432714624|tw17320782607715138720|tw18013885699568839179|tw18107705255983593362|tw18135575843659234153|tw18274090037315224271|tw18351670391567358507|tw1914618481604015847|tw2200752162260320494|tw2458518343342455080|tw3132546986782893315|tw3158856499587852980|tw3204357688423392852|tw342082627511813790|tw3617472987263720401|tw3831583613784529708|tw4023310806296489717|tw4212818786736204078|tw4276049854247118936|tw4414948034200072928|tw4893463444576500653|tw4977437650440863212|tw4993918123377722077|tw5408036925982150035|tw5835525957922062997|tw6226490036312281253|tw6286190582864506408|tw6417820560391798110|tw658982904002079426|tw6659697516144694256|tw6677905467715072893|tw6896575941274166183|tw6979736031148133199|tw7122134372167931490|tw7293255737460572226|tw7523656939167773366|tw7812536121281396312|tw7838173643385305972|tw788505214876020952|tw7903511933880437681|tw85234746728226924|tw8871429409012198630|tw8950695255566572254|tw9008912191454713042|tw9014927167183900512|tw9037199020496633364|tw9403322089713167879|tw9830138972774351905
open PySem PySem.W PyProof.Rows
set_option maxRecDepth 100000 in
set_option maxHeartbeats 0 in
theorem PySem.Challenge.cw_tankbalance_k14_known_is_true_holds : PySem.Challenge.rw_tankbalance_k14_known_is_true.Holds := by
  w_on; o_law; k_head; (case hw => w_witness2)
  k_fill
  refine My.walk (l := PySem.Challenge.rw_tankbalance_k14_known_is_true) rfl rfl (fun w h Y => PySem.W.kIn_of Y) My.main ?F
  case F =>
    intro w mg fa h KX G hmg
    refine' My.GO KX G hmg ?_ ?_ ?_ ?_ ?_ ?_ ?_ ?_ ?_ ?_ ?_ ?_ ?_ ?_ ?_ ?_ ?_ ?_ ?_ ?_ ?_ ?_ ?_ ?_ ?_ ?_ ?_ ?_ ?_ ?_ ?_ ?_ ?_ ?_ ?_ ?_ ?_ ?_ ?_ ?_ ?_ ?_ ?_ ?_ ?_ ?_ ?_ ?_ ?_ ?_ ?_ ?_ ?_ ?_ ?_ ?_ ?_ ?_ ?_ ?_ ?_ ?_ ?_ ?_ ?_ ?_ ?_ ?_ ?_ ?_ ?_ ?_ ?_ ?_
    all_goals try first | k_is | k_exc | (refine' L2.Pu.UF.of ?_ ?_ ?_ ?_ <;> try k_is) | (refine' L2.Pu.yD.of ?_ ?_ ?_ ?_ ?_ <;> try k_is)
    all_goals try (repeat' (first | exact True.intro | refine And.intro ?_ ?_ | (refine @Eq.trans _ _ (some true) _ ?_ rfl; k_is) | (refine @Eq.trans _ _ (some false) _ ?_ rfl; k_is) | k_is | k_exc))
